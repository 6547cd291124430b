/- What the proof of this claim stands on, part 3: an evaluator of the model, proved right, and what it answers for functions of the program. -/
import Derived.Test.YtfehdndlbfmblaaGreatDoorPk01
import Derived.Lib.Bytealg
import Derived.ChangeReads
import Derived.ChangeOld
import Derived.ChangeArms
import Derived.RowKit3
import Derived.WalkKit
import Derived.ProofKit
import Derived.OpenShut
import Derived.KernelRfl
import Derived.Lib.Overlaps
import Derived.Test.YtfehdndlbfmblaaGreatDoorProg
/- Loops, functions, iterators. -/
namespace Go.Ev
section
variable {C : Cfg} {me : FuncId} {rd : Option Nat}

/-! ### loops -/
def goP (o : Out) (K : Post) : Prop := match o with | .go e a H => AtK K e a H | _ => False
def Lp (C : Cfg) (me : FuncId) (rd : Option Nat) (ks : List Tmp) (c : Code) (a : AAct) (H : Heap) (K : Post) : Prop := bindO (lim C (.loop me rd ks c a H)) fun o => goP o K
@[congr] theorem Lp_congr {ks ks' : List Tmp} {c : Code} {a a' : AAct} {H H' : Heap} {K : Post} (hk : ks = ks') (ha : a = a') (hH : H = H') : Lp C me rd ks c a H K = Lp C me rd ks' c a' H' K := by rw [hk, ha, hH]
@[go_sem ↓] theorem wp_loopE (c : Code) (a : AAct) (H : Heap) (K : Post) : Wp C me rd (.loop c) a H K = Lp C me rd (a.tmps.map (·.1)) c a H K := by
  show bindO (match lim C (.loop me rd (a.tmps.map (·.1)) c a H) with | some (.go e a' H') => some (e, a', H') | _ => none) _ = bindO _ _
  cases lim C (.loop me rd (a.tmps.map (·.1)) c a H) with
  | none => rfl
  | some o => cases o <;> rfl
def trimK (n : Nat) (K : AAct → Heap → Prop) (a : AAct) (H : Heap) : Prop := K a (H.trim n (a.tmps.map (·.2)) a.marks)
def loopK (C : Cfg) (me : FuncId) (rd : Option Nat) (ks : List Tmp) (c : Code) (n : Nat) (K : Post) : Post := fun e a H =>
  match e with
  | .normal => Lp C me rd ks c (a.only ks) (H.trim n ((a.only ks).tmps.map (·.2)) (a.only ks).marks) K
  | .exit i => AtK K (.exit i) (a.only ks) (H.trim n ((a.only ks).tmps.map (·.2)) (a.only ks).marks)
  | .ret => AtK K .ret a H
@[go_sem ↓] theorem loopK_normal (ks : List Tmp) (c : Code) (n : Nat) (K : Post) (a : AAct) (H : Heap) : AtK (loopK C me rd ks c n K) .normal a H = Lp C me rd ks c (a.only ks) (H.trim n ((a.only ks).tmps.map (·.2)) (a.only ks).marks) K := rfl
@[go_sem ↓] theorem loopK_exit (ks : List Tmp) (c : Code) (n i : Nat) (K : Post) (a : AAct) (H : Heap) : AtK (loopK C me rd ks c n K) (.exit i) a H = AtK K (.exit i) (a.only ks) (H.trim n ((a.only ks).tmps.map (·.2)) (a.only ks).marks) := rfl
@[go_sem ↓] theorem loopK_ret (ks : List Tmp) (c : Code) (n : Nat) (K : Post) (a : AAct) (H : Heap) : AtK (loopK C me rd ks c n K) .ret a H = AtK K .ret a H := rfl

theorem lim_eq (t : Task) : lim C t = taskA C (lim C) t := by
  cases h : taskA C (lim C) t with
  | some x => exact lim_step.2 h
  | none =>
    cases h' : lim C t with
    | none => rfl
    | some x => rw [lim_step.1 h'] at h; cases h

theorem Lp_step (ks : List Tmp) (c : Code) (a : AAct) (H : Heap) (K : Post) : Lp C me rd ks c a H K = Wp C me rd c a H (loopK C me rd ks c H.size K) := by
  unfold Lp
  rw [lim_eq]
  unfold Wp
  simp only [taskA]
  rcases codeA C (lim C) me rd c a H with _ | ⟨e, a', H'⟩
  · rfl
  · cases e <;> rfl

@[go_sem] theorem only_mk (s : Nat) (l : List (Tmp × AV)) (m : List Nat) (ks : List Tmp) : (AAct.mk s l m).only ks = ⟨s, ks.filterMap fun k => (assoc k l).map fun v => (k, v), m⟩ := rfl

/-! ### memory that is as it was -/
theorem trim_size (H : Heap) (vs : List AV) (ms : List Nat) : H.trim H.size vs ms = H := by
  unfold Heap.trim
  have : H.objs.take H.size = H.objs := List.take_length
  split
  · rw [this]
  · rfl
theorem settle_size (H : Heap) : settleH H.size H = H := by
  unfold settleH
  have h : H.objs.take H.size = H.objs := List.take_length
  split
  · rw [h]
  · rfl
@[go_sem] theorem trim_same (H : Heap) (vs : List AV) (ms : List Nat) : H.trim H.size vs ms = H := trim_size H vs ms
@[go_sem] theorem settle_same (H : Heap) : settleH H.size H = H := settle_size H

/-! ### functions -/
def Fn' (C : Cfg) (f : FuncId) (args : List AV) (H : Heap) (K : PostO) : Prop := bindO (lim C (.call f args H)) fun o => retP o K
def finK (C : Cfg) (rs : List ResultVar) (K : PostO) : Post := fun e a H =>
  match e with
  | .exit _ => False
  | _ => bindO (killAll a.marks H) fun H2 => bindO (resultsA C a H2 rs) fun vs => AtO K (oneOf vs) H2
@[go_sem ↓] theorem finK_exit (rs : List ResultVar) (K : PostO) (i : Nat) (a : AAct) (H : Heap) : AtK (finK C rs K) (.exit i) a H = False := rfl
@[go_sem ↓] theorem finK_ret (rs : List ResultVar) (K : PostO) (a : AAct) (H : Heap) : AtK (finK C rs K) .ret a H = bindO (killAll a.marks H) fun H2 => bindO (resultsA C a H2 rs) fun vs => AtO K (oneOf vs) H2 := rfl
@[go_sem ↓] theorem finK_normal (rs : List ResultVar) (K : PostO) (a : AAct) (H : Heap) : AtK (finK C rs K) .normal a H = bindO (killAll a.marks H) fun H2 => bindO (resultsA C a H2 rs) fun vs => AtO K (oneOf vs) H2 := rfl
theorem fn_step {f : FuncId} {args : List AV} {H : Heap} {K : PostO} {fn : Func} (hf : C.P.funcs[f]? = some fn) {c : Code} (hc : fn.body = some c) (hlay : C.lay f = none := by rfl) :
    Fn' C f args H K = Wp C f none c ⟨args.length + (fn.ntmps - args.length), number 0 args, []⟩ H (finK C fn.results.toList K) := by
  unfold Fn'
  rw [lim_eq]
  unfold Wp
  simp only [taskA, hlay, hf, hc]
  rcases codeA C (lim C) f none c ⟨args.length + (fn.ntmps - args.length), number 0 args, []⟩ H with _ | ⟨e, a', H'⟩
  · rfl
  · cases e with
    | exit i => rfl
    | normal =>
      simp only [bindO_some, finK]
      rcases killAll a'.marks H' with _ | H2
      · rfl
      · simp only [bindO_some]; cases resultsA C a' H2 fn.results.toList <;> rfl
    | ret =>
      simp only [bindO_some, finK]
      rcases killAll a'.marks H' with _ | H2
      · rfl
      · simp only [bindO_some]; cases resultsA C a' H2 fn.results.toList <;> rfl
@[go_sem] theorem kill_nil (H : Heap) : killAll [] H = some H := rfl
@[go_sem] theorem results_nil (a : AAct) (H : Heap) : resultsA C a H [] = some [] := rfl
@[go_sem] theorem results_tmp (s : Nat) (l : List (Tmp × AV)) (m : List Nat) (H : Heap) (t : Tmp) (r : List ResultVar) : resultsA C ⟨s, l, m⟩ H (.tmp t :: r) = consO (assoc t l) (resultsA C ⟨s, l, m⟩ H r) := rfl
@[go_sem] theorem results_cell (s : Nat) (l : List (Tmp × AV)) (m : List Nat) (H : Heap) (t : Tmp) (ty : TypeId) (r : List ResultVar) : resultsA C ⟨s, l, m⟩ H (.cell t ty :: r) = consO ((assoc t l).bind (loadA C.P H ty)) (resultsA C ⟨s, l, m⟩ H r) := rfl
@[go_sem] theorem oneOf_one (v : AV) : oneOf [v] = v := rfl
@[go_sem] theorem oneOf_two (v w : AV) (r : List AV) : oneOf (v :: w :: r) = .tup (v :: w :: r) := rfl
@[go_sem] theorem oneOf_nil : oneOf [] = .tup [] := rfl
@[go_sem] theorem number_nil (n : Nat) : number n [] = [] := rfl
@[go_sem] theorem number_cons (n : Nat) (x : AV) (r : List AV) : number n (x :: r) = (n, x) :: number (n + 1) r := rfl

/-- what a function answers on arguments that lead to no object, in memory of its own -/
def ansK (v : AV) : PostO := fun x H => freezeV { H with lock := 0 } 1000000 x = some v
@[go_sem] theorem ansK_at (v x : AV) (l : List (Option AObj)) (k : Nat) : AtO (ansK v) x ⟨l, k⟩ = (freezeV ⟨l, 0⟩ 1000000 x = some v) := rfl
def Ans (C : Cfg) (f : FuncId) (args : List AV) (v : AV) : Prop :=
  Fn' C f args { objs := [], lock := 0 } (ansK v)
theorem Ans.iff {f : FuncId} {args : List AV} {v : AV} : Ans C f args v ↔ ∃ x H, lim C (.call f args { objs := [], lock := 0 }) = some (.ret x H) ∧ freezeV { H with lock := 0 } 1000000 x = some v := by
  unfold Ans Fn' ansK
  rw [bindO_iff]
  constructor
  · rintro ⟨o, h1, h2⟩
    cases o with
    | ret x H => exact ⟨x, H, h1, h2⟩
    | go => exact h2.elim
  · rintro ⟨x, H, h1, h2⟩; exact ⟨_, h1, h2⟩
theorem Ans.call {f : FuncId} {args : List AV} {v : AV} (h : Ans C f args v) {d : Option Tmp} (hx : C.ext f = none) (hp : C.pure me f d = true) (hb : boundL args = 0) (H : Heap) (hh : C.exh f = none := by rfl) : callA C (lim C) me f d args H = some (v, H) := by
  obtain ⟨x, H', h1, h2⟩ := Ans.iff.1 h
  have hk : callKind C me f d args = 1 := by unfold callKind; rw [hp, hb]; rfl
  unfold callA standA standH; rw [hx]; simp only; rw [hh]; simp only
  unfold callB; rw [hk]; simp only [h1, h2, Option.map_some]

/-! ### slices that nothing turns -/
def SlOf (sz : Nat) (xs : List AV) (x : AV) : Prop := (x = .v (.slice none 0 0) ∧ xs = []) ∨ ∃ cap, x = .vs sz xs cap
def slLen (x : AV) : Option AV := match x with | .v (.slice none 0 0) => some (.v (.int .i64 0)) | .vs _ xs _ => some (.v (.int .i64 xs.length)) | .sl _ _ _ len _ => some (.v (.int .i64 len)) | _ => none
theorem len_sl {P : Program} {t e : TypeId} (h : P.underlying t = some (.slice e)) (H : Heap) (x : AV) : lenA P H [t] [x] = slLen x := len_slice h H x []
def slIdx (s : Nat) (x ix : AV) : Option AV :=
  match ix with
  | .v (.int _ i) =>
    match x with
    | .sl b v off len _ => if 0 ≤ i ∧ i < (len : Int) then some (.ptr b v (off + i.toNat * s)) else none
    | .vs sz xs _ => if 0 ≤ i ∧ i < (xs.length : Int) ∧ sz = s then (xs[i.toNat]?).map fun y => .ro y 0 else none
    | _ => none
  | _ => none
theorem idx_sl {P : Program} {t e : TypeId} {s : Nat} (h : P.underlying t = some (.slice e)) (hs : sizeT P e = some s) (x ix : AV) : indexAddrA P t x ix = slIdx s x ix := by
  unfold indexAddrA slIdx; rw [h]
  rcases ix with v | _ | _ | _ | _ | _ | _ | _ | _ | _ | _ <;> try rfl
  cases v <;> try rfl
  simp only; rw [hs]
  cases x <;> rfl
theorem SlOf.len {sz : Nat} {xs : List AV} {x : AV} (h : SlOf sz xs x) : slLen x = some (.v (.int .i64 (xs.length : Nat))) := by
  rcases h with ⟨rfl, rfl⟩ | ⟨cap, rfl⟩ <;> rfl
theorem SlOf.idx {sz : Nat} {xs : List AV} {x y : AV} (h : SlOf sz xs x) {j : Nat} (hy : xs[j]? = some y) (k : IntKind) : slIdx sz x (.v (.int k (j : Nat))) = some (.ro y 0) := by
  rcases h with ⟨rfl, rfl⟩ | ⟨cap, rfl⟩
  · simp at hy
  · have := (List.getElem?_eq_some_iff.1 hy).1
    unfold slIdx; simp only [Int.toNat_natCast, hy, Option.map_some]
    rw [if_pos ⟨by omega, by omega, trivial⟩]
theorem SlOf.bound {sz : Nat} {xs : List AV} {x : AV} (h : SlOf sz xs x) : bound x = 0 := by
  rcases h with ⟨rfl, rfl⟩ | ⟨cap, rfl⟩ <;> rfl
theorem SlOf.flat {sz : Nat} {xs : List AV} {x : AV} (h : SlOf sz xs x) : x.flat = true := by
  rcases h with ⟨rfl, rfl⟩ | ⟨cap, rfl⟩ <;> rfl
theorem SlOf.cells {sz : Nat} {xs : List AV} {x : AV} (h : SlOf sz xs x) : x.cells = [x] := by
  rcases h with ⟨rfl, rfl⟩ | ⟨cap, rfl⟩ <;> rfl
/-- building a slice of a literal -/
def bsFin (mt : Bool) (e n : Nat) (H : Heap) (slot len : Nat) (cs : List AV) : Option (AV × Heap) :=
  if cs.all AV.flat = true then (if mt = true ∨ boundL cs ≠ 0 then some (.sl slot 0 0 len (some len), H.put slot (.cells 0 (boundL cs) e n false cs)) else some (.vs n (chunk n len cs) (some len), H)) else none
theorem buildSl_eq {P : Program} {t e n : Nat} {z : AV} (hu : P.underlying t = some (.slice e)) (hs : sizeT P e = some n) (hz : zeroT P e = some z) (hn : 0 < n) (hl : z.cells.length = n) (mt : Bool) (H : Heap) (slot len : Nat) (parts : List (Nat × AV)) :
    buildSliceA P mt H slot t len parts = if len * n ≤ 65536 then (fillA (fun i => some (i * n, n)) (repeatCells z.cells len) parts).bind (bsFin mt e n H slot len) else none := by
  unfold buildSliceA
  rw [hu]; simp only; rw [hs, hz]; simp only [hn, hl, and_true]
  split
  · cases fillA (fun i => some (i * n, n)) (repeatCells z.cells len) parts with
    | none => rfl
    | some cs =>
      simp only [Option.bind_some, bsFin]
      cases hf : cs.all AV.flat
      · rfl
      · simp only [Bool.true_eq_false, if_false, if_true]
        have : Nat.beq (boundL cs) 0 = decide (boundL cs = 0) := by
          cases boundL cs <;> rfl
        rw [this]
        cases mt <;> by_cases hb : boundL cs = 0 <;> simp [hb]
  · rfl
@[go_sem] theorem fillA_nil (place : Nat → Option (Nat × Nat)) (cells : List AV) : fillA place cells [] = some cells := rfl
def fill1 (place : Nat → Option (Nat × Nat)) (cells : List AV) (v : AV) (rest : List (Nat × AV)) (p : Option (Nat × Nat)) : Option (List AV) :=
  match p with
  | none => none
  | some (off, size) => if v.cells.length = size ∧ off + size ≤ cells.length then fillA place (splice off v.cells cells) rest else none
@[go_sem] theorem fillA_cons (place : Nat → Option (Nat × Nat)) (cells : List AV) (i : Nat) (v : AV) (rest : List (Nat × AV)) : fillA place cells ((i, v) :: rest) = fill1 place cells v rest (place i) := by
  unfold fill1; simp only [fillA]
  cases place i <;> rfl
@[go_sem] theorem fill1_some (place : Nat → Option (Nat × Nat)) (cells : List AV) (v : AV) (rest : List (Nat × AV)) (off size : Nat) : fill1 place cells v rest (some (off, size)) = if v.cells.length = size ∧ off + size ≤ cells.length then fillA place (splice off v.cells cells) rest else none := rfl
theorem wrap_succ (j : Nat) (h : j + 1 < 2 ^ 63) : IntKind.i64.wrap ((j : Int) + 1) = ((j + 1 : Nat) : Int) := by
  rw [wrap_in _ (by omega) (by omega)]; omega
end
end Go.Ev
/- Functions that stand for themselves: what is known of them. -/
namespace Go.Ev

theorem cmp_bytes : ∀ (a b : List UInt8), Lib.compareBytes a b = if bytesLt a b then -1 else if bytesLt b a then 1 else 0
  | [], [] => by simp [Lib.compareBytes, bytesLt]
  | [], _ :: _ => by simp [Lib.compareBytes, bytesLt]
  | _ :: _, [] => by simp [Lib.compareBytes, bytesLt]
  | x :: a, y :: b => by
    have ih := cmp_bytes a b
    unfold Lib.compareBytes bytesLt
    simp only [UInt8.lt_iff_toNat_lt]
    by_cases h1 : x.toNat < y.toNat
    · have e1 : Nat.blt x.toNat y.toNat = true := Nat.ble_eq_true_of_le h1
      simp [h1, e1]
    · have e1 : Nat.blt x.toNat y.toNat = false := by
        cases hb : Nat.blt x.toNat y.toNat
        · rfl
        · exact absurd (Nat.le_of_ble_eq_true hb) h1
      by_cases h2 : y.toNat < x.toNat
      · have e2 : Nat.blt y.toNat x.toNat = true := Nat.ble_eq_true_of_le h2
        have e3 : (x.toNat == y.toNat) = false := by simp; omega
        simp [h1, h2, e1, e2, e3]
      · have e2 : Nat.blt y.toNat x.toNat = false := by
          cases hb : Nat.blt y.toNat x.toNat
          · rfl
          · exact absurd (Nat.le_of_ble_eq_true hb) h2
        have e3 : x.toNat = y.toNat := by omega
        simp [e3, ih]

theorem ext_cmp {P : Program} {f : FuncId} {fn : Func} (hf : P.funcs[f]? = some fn) (hb : fn.body = none) (hn : (fn.name == "runtime.NumGoroutine") = false) (h1 : (Extern.findNext fn).isNone = true) (h2 : Extern.find fn = some Extern.BytealgCompare.compare)
    {args : List AV} {v : AV} (h : cmpStr args = some v) (Z : Fzn) (ρ : Pls) (H : Heap) (w : World) (vals : List Value) (hs : Sim Z ρ H w) (hl : RepL Z ρ args vals) : FnMeets P f vals w (After Z ρ H w v H) := by
  unfold cmpStr at h
  split at h
  · rename_i a b
    obtain ⟨v1, ws, rfl, hv1, hl⟩ := hl.uncons
    obtain ⟨v2, ws, rfl, hv2, hl⟩ := hl.uncons
    have : ws = [] := by have := hl.1; exact List.length_eq_zero_iff.1 this.symm
    subst this
    obtain ⟨rfl, -⟩ := hv1.v_inv
    obtain ⟨rfl, -⟩ := hv2.v_inv
    simp only [Option.some.injEq] at h
    subst h
    refine Or.inl ⟨.int .i64 (Lib.compareBytes a.data.toList b.data.toList), w, ?_, Z, ρ, ?_, hs, Ext.refl _ _ _ _⟩
    · have hfn : Extern.findNext fn = none := Option.isNone_iff_eq_none.1 h1
      have := Lib.run_compareString (P := P) a b w
      have hn' : ¬ fn.name = "runtime.NumGoroutine" := by
        intro e; rw [e] at hn; simp at hn
      simp [callFunc, hf, hn', hb, hfn, h2, this]
    · rw [cmp_bytes]; exact .v rfl
  · cases h

/-- what a function with code answers on closed arguments, it may stand for -/
theorem ext_of_ans {C : Cfg} (hgo : NoGo C.P) (hm : C.P.follows .mixedOrders = true) (hext : ExtOK C) {f : FuncId} {args : List AV} {v : AV} (h : Ans C f args v) (hb : boundL args = 0)
    (Z : Fzn) (ρ : Pls) (H : Heap) (w : World) (vals : List Value) (hs : Sim Z ρ H w) (hl : RepL Z ρ args vals) : FnMeets C.P f vals w (After Z ρ H w v H) := by
  obtain ⟨x, H', h1, h2⟩ := Ans.iff.1 h
  obtain ⟨n, hn⟩ := lim_iff.1 h1
  have hrec : RecOK C.P (evT C n) := (ev_sound hgo hext (draw_ok hm hext) n).1
  let D : Cfg := { C with pure := fun _ _ _ => true }
  have hk : callKind D f f none args = 1 := by unfold callKind; rw [hb]; rfl
  have hB : callB D (evT C n) f f none args H = some (v, H) := by
    unfold callB; rw [hk]; simp only [hn, h2, Option.map_some]
  obtain ⟨hbody, hc⟩ := callB_sound (C := D) hrec hs hl hB
  exact Or.inr ⟨hbody.run _ _, hc⟩

/-- more functions that stand for themselves -/
def moreExt (e : FuncId → Option (List AV → Option AV)) (f : FuncId) (g : List AV → Option AV) : FuncId → Option (List AV → Option AV) := fun f' => if Nat.beq f' f then some g else e f'
theorem extOK_more {C C' : Cfg} (hP : C'.P = C.P) {f : FuncId} {g : List AV → Option AV} (hg : ∀ args v, g args = some v → ∀ (Z : Fzn) (ρ : Pls) (H : Heap) (w : World) (vals : List Value), Sim Z ρ H w → RepL Z ρ args vals → FnMeets C.P f vals w (After Z ρ H w v H))
    (hext : ExtOK C) (he : C'.ext = moreExt C.ext f g) (hlay : C'.lay = C.lay := by rfl) (hexh : C'.exh = C.exh := by rfl) : ExtOK C' := by
  refine ⟨fun f' g' hf' args v hv Z ρ H w vals hs hl => ?_, fun f' g' hf' => by rw [hP]; rw [hlay] at hf'; exact hext.lay f' g' hf', fun f' g' hf' => by rw [hP]; rw [hexh] at hf'; exact hext.exh f' g' hf'⟩
  rw [hP]
  rw [he] at hf'
  unfold moreExt at hf'
  split at hf'
  · rename_i hb
    have := Nat.eq_of_beq_eq_true hb
    subst this
    simp only [Option.some.injEq] at hf'
    subst hf'
    exact hg args v hv Z ρ H w vals hs hl
  · exact hext.ext f' g' hf' args v hv Z ρ H w vals hs hl

/-! ### answers that are told by heart -/
def eqV : Value → Value → Bool
  | .int k n, .int k' n' => decide (k = k') && decide (n = n')
  | .bool a, .bool b => a == b
  | .string a, .string b => bytesEq a.data.toList b.data.toList
  | .slice none 0 0, .slice none 0 0 => true
  | _, _ => false
theorem eqV_eq {x y : Value} (h : eqV x y = true) : x = y := by
  unfold eqV at h
  split at h
  · simp at h; rw [h.1, h.2]
  · simp at h; rw [h]
  · rw [bytesEq_iff, decide_eq_true_eq, ← str_ext] at h; rw [h]
  · rfl
  · cases h
def listEq (f : AV → AV → Bool) : List AV → List AV → Bool
  | [], [] => true
  | x :: r, y :: s => f x y && listEq f r s
  | _, _ => false
theorem listEq_eq {f : AV → AV → Bool} (hf : ∀ x y, f x y = true → x = y) : ∀ {l m : List AV}, listEq f l m = true → l = m
  | [], [], _ => rfl
  | [], _ :: _, h => by simp [listEq] at h
  | _ :: _, [], h => by simp [listEq] at h
  | x :: r, y :: s, h => by
    simp only [listEq, Bool.and_eq_true] at h
    rw [hf _ _ h.1, listEq_eq hf h.2]
def capEq : Option Nat → Option Nat → Bool
  | none, none => true
  | some k, some k' => Nat.beq k k'
  | _, _ => false
theorem capEq_eq {c c' : Option Nat} (h : capEq c c' = true) : c = c' := by
  unfold capEq at h
  split at h
  · rfl
  · rw [Nat.eq_of_beq_eq_true h]
  · cases h
def eqStep (rec : AV → AV → Bool) (x y : AV) : Bool :=
  match x, y with
  | .v x, .v y => eqV x y
  | .agg a, .agg b => listEq rec a b
  | .vs s a c, .vs s' a' c' => Nat.beq s s' && listEq rec a a' && capEq c c'
  | _, _ => false
def eqA (n : Nat) : AV → AV → Bool := Nat.rec (fun _ _ => false) (fun _ rec => eqStep rec) n
theorem eqA_eq : ∀ (n : Nat) (x y : AV), eqA n x y = true → x = y
  | 0, _, _, h => by cases h
  | n + 1, x, y, h => by
    have h' : eqStep (eqA n) x y = true := h
    unfold eqStep at h'
    split at h'
    · rw [eqV_eq h']
    · rw [listEq_eq (eqA_eq n) h']
    · simp only [Bool.and_eq_true] at h'
      obtain ⟨⟨h1, h2⟩, h3⟩ := h'
      rw [Nat.eq_of_beq_eq_true h1, listEq_eq (eqA_eq n) h2, capEq_eq h3]
    · cases h'
/-- the answer at these arguments -/
def atArgs (K : List AV) (R : AV) : List AV → Option AV := fun args => if listEq (eqA 30) args K then some R else none
theorem atArgs_some {K : List AV} {R : AV} {args : List AV} {v : AV} (h : atArgs K R args = some v) : args = K ∧ v = R := by
  unfold atArgs at h
  split at h
  · rename_i hq
    exact ⟨listEq_eq (eqA_eq 30) hq, by simpa using h.symm⟩
  · cases h
end Go.Ev
/- From what a statement says of its arguments to values of the evaluator, and back. -/
namespace Go.Ev

/-- the fields lie one behind the other, from k on up to the end -/
def tiled (P : Program) : Nat → List Field → Nat → Bool
  | k, [], e => k == e
  | k, f :: r, e => f.offset == k && tiled P (k + P.cellsOf f.type) r e

/-- types of plain data, by depth -/
def plainT (P : Program) : Nat → TypeId → Bool
  | 0, _ => false
  | n + 1, t =>
    match P.underlying t with
    | some .bool => true
    | some (.int _) => true
    | some .string => true
    | some (.slice e) => decide (0 < P.cellsOf e) && plainT P n e
    | some (.struct fs) => tiled P 0 fs.toList (P.cellsOf t) && fs.toList.all fun f => plainT P n f.type
    | _ => false

/-- an element of a slice, of its cells -/
def elemOf (cs : List AV) : AV := match cs with | [c] => c | cs => .agg cs

/-- what plain data is -/
def Plain (P : Program) : Nat → TypeId → List AV → Prop
  | 0, _, _ => False
  | n + 1, t, cs =>
    match P.underlying t with
    | some .bool => ∃ b, cs = [.v (.bool b)]
    | some (.int k) => ∃ m, cs = [.v (.int k m)] ∧ (Lit.int k m).wf = true
    | some .string => ∃ s, cs = [.v (.string s)] ∧ s.size ≤ maxLen
    | some (.slice e) => ∃ x xs, cs = [x] ∧ SlOf (P.cellsOf e) xs x ∧ xs.length ≤ maxLen ∧ ∀ y ∈ xs, ∃ c, y = elemOf c ∧ c.length = P.cellsOf e ∧ Plain P n e c
    | some (.struct fs) => cs.length = P.cellsOf t ∧ ∀ f ∈ fs.toList, Plain P n f.type ((cs.drop f.offset).take (P.cellsOf f.type))
    | _ => False

theorem elem_cells {cs : List AV} (h : ∀ c ∈ cs, c.flat = true) : (elemOf cs).cells = cs := by
  unfold elemOf
  split
  · rename_i c
    have := h c (by simp)
    cases c <;> simp_all [AV.cells, AV.flat]
  · rfl

theorem exists_list {α : Type} {Q : Nat → α → Prop} : ∀ (n : Nat), (∀ i, i < n → ∃ y, Q i y) → ∃ l : List α, l.length = n ∧ ∀ i y, l[i]? = some y → Q i y
  | 0, _ => ⟨[], rfl, fun i y h => by simp at h⟩
  | n + 1, h => by
    obtain ⟨l, hl, hq⟩ := exists_list n fun i hi => h i (by omega)
    obtain ⟨y, hy⟩ := h n (by omega)
    refine ⟨l ++ [y], by simp [hl], fun i z hz => ?_⟩
    by_cases hi : i < l.length
    · rw [List.getElem?_append_left hi] at hz; exact hq i z hz
    · have hlt := (List.getElem?_eq_some_iff.1 hz).1
      simp at hlt
      have : i = l.length := by omega
      subst this
      simp at hz; subst hz; rw [hl]; exact hy

theorem tile_rep {Z : Fzn} {ρ : Pls} {P : Program} {Q : Field → List AV → Prop} : ∀ (fs : List Field) (k e : Nat) (cs : List Value), tiled P k fs e = true → cs.length = e →
    (∀ f ∈ fs, ∃ a, RepL Z ρ a ((cs.drop f.offset).take (P.cellsOf f.type)) ∧ Q f a ∧ ∀ c ∈ a, c.flat = true) →
    k ≤ e → ∃ A, RepL Z ρ A (cs.drop k) ∧ (∀ c ∈ A, c.flat = true) ∧ ∀ f ∈ fs, k ≤ f.offset ∧ f.offset + P.cellsOf f.type ≤ e ∧ Q f ((A.drop (f.offset - k)).take (P.cellsOf f.type))
  | [], k, e, cs, ht, hl, _, _ => by
    have : k = e := by simpa [tiled] using ht
    subst this
    refine ⟨[], ?_, by simp, by simp⟩
    rw [List.drop_of_length_le (by omega)]; exact RepL.nil
  | f :: r, k, e, cs, ht, hl, hf, hk => by
    simp only [tiled, Bool.and_eq_true, beq_iff_eq] at ht
    obtain ⟨ho, ht⟩ := ht
    have hle : ∀ (fs : List Field) (k : Nat), tiled P k fs e = true → k ≤ e := by
      intro fs
      induction fs with
      | nil => intro k h; have : k = e := by simpa [tiled] using h
               omega
      | cons g s ih => intro k h; simp only [tiled, Bool.and_eq_true] at h; have := ih _ h.2; omega
    have hle' := hle _ _ ht
    obtain ⟨A, hA, hAf, hAq⟩ := tile_rep r (k + P.cellsOf f.type) e cs ht hl (fun g hg => hf g (List.mem_cons_of_mem _ hg)) hle'
    obtain ⟨a, ha, hq, haf⟩ := hf f List.mem_cons_self
    have hal : a.length = P.cellsOf f.type := by rw [ha.1]; simp; omega
    refine ⟨a ++ A, ?_, ?_, ?_⟩
    · have : cs.drop k = (cs.drop f.offset).take (P.cellsOf f.type) ++ cs.drop (k + P.cellsOf f.type) := by
        rw [ho, ← List.drop_drop]; exact (List.take_append_drop _ _).symm
      rw [this]; exact ha.append hA
    · intro c hc
      rcases List.mem_append.1 hc with h | h
      · exact haf c h
      · exact hAf c h
    · intro g hg
      rcases List.mem_cons.1 hg with rfl | hg
      · refine ⟨by omega, by omega, ?_⟩
        rw [ho, Nat.sub_self, List.drop_zero, List.take_append_of_le_length (by omega), List.take_of_length_le (by omega)]
        exact hq
      · obtain ⟨h1, h2, h3⟩ := hAq g hg
        refine ⟨by omega, h2, ?_⟩
        have : (a ++ A).drop (g.offset - k) = A.drop (g.offset - (k + P.cellsOf f.type)) := by
          rw [List.drop_append, List.drop_of_length_le (by omega), List.nil_append, hal]; congr 1; omega
        rw [this]; exact h3

section
variable {HH : Type} {enc : TypeId × Value → HH} {P : Program} {w : World}

theorem cells_at {a : Addr} {n : Nat} {cs : List Value} (h : w.cells? 0 a n = some cs) (hn : 0 < n) : a.spot = none ∧ ∃ arr e fr, w.heap[a.block]? = some (.cells arr e fr) ∧ cs.length = n ∧ ∀ j, j < n → arr[a.off + j]? = cs[j]? := by
  obtain ⟨_, hl, hc⟩ := World.cells?_some h
  have h0 := hc 0 hn
  obtain ⟨c0, hc0⟩ : ∃ c0, cs[0]? = some c0 := ⟨cs[0]'(by omega), List.getElem?_eq_getElem _⟩
  have hsp : a.spot = none := by
    have := World.cell?_spot (h0.trans hc0)
    simpa [Addr.add] using this
  have hcell := h0.trans hc0
  have hb : ∀ j, (a.add j).block = a.block := by intro j; unfold Addr.add; split <;> rfl
  have hs : ∀ j, (a.add j).spot = none := by
    intro j; unfold Addr.add; split
    · exact hsp
    · rfl
  have ho : ∀ j, (a.add j).off = a.off + j := by
    intro j; unfold Addr.add; split
    · rename_i hj; subst hj; rfl
    · rfl
  refine ⟨hsp, ?_⟩
  unfold World.cell? at hcell
  rw [hb] at hcell
  split at hcell
  · rename_i arr e fr hh
    refine ⟨arr, e, fr, hh, hl, fun j hj => ?_⟩
    have := hc j hj
    unfold World.cell? at this
    rw [hb, hh] at this
    simp only [hs, ho, Option.isSome_none, Bool.false_eq_true, if_false] at this
    exact this
  · cases hcell

theorem plain_rep : ∀ (N t fuel : Nat) (cs : List Value) (x : DataW HH × List MemPlace), plainT P N t = true → DataW.trod enc P w 0 (fun _ => true) true fuel t cs = some x →
    ∃ A, RepL (allZ w) noPls A cs ∧ Plain P N t A ∧ ∀ c ∈ A, c.flat = true
  | 0, _, _, _, _, hp, _ => by simp [plainT] at hp
  | N + 1, t, fuel, cs, x, hp, h => by
    unfold plainT at hp
    cases hu : P.underlying t with
    | none => rw [hu] at hp; simp at hp
    | some u =>
      rw [hu] at hp
      cases u <;> simp only [Bool.false_eq_true] at hp
      case bool =>
        obtain ⟨b, rfl, -⟩ := DataW.trod_bool hu h
        exact ⟨[.v (.bool b)], RepL.cons (.v rfl) RepL.nil, by unfold Plain; rw [hu]; exact ⟨b, rfl⟩, by simp [AV.flat]⟩
      case int k =>
        obtain ⟨n, rfl, -, hw⟩ := DataW.trod_int hu h
        exact ⟨[.v (.int k n)], RepL.cons (.v rfl) RepL.nil, by unfold Plain; rw [hu]; exact ⟨n, rfl, hw⟩, by simp [AV.flat]⟩
      case string =>
        obtain ⟨n, rfl, -, hw⟩ := DataW.trod_string hu h
        exact ⟨[.v (.string n)], RepL.cons (.v rfl) RepL.nil, by unfold Plain; rw [hu]; exact ⟨n, rfl, hw⟩, by simp [AV.flat]⟩
      case struct fs =>
        rw [Bool.and_eq_true, List.all_eq_true] at hp
        obtain ⟨xs, n, -, -, hl, hlen, hf⟩ := DataW.trod_struct hu h
        have hall : ∀ f ∈ fs.toList, ∃ a, RepL (allZ w) noPls a ((cs.drop f.offset).take (P.cellsOf f.type)) ∧ Plain P N f.type a ∧ ∀ c ∈ a, c.flat = true := by
          intro f hfm
          obtain ⟨i, hi⟩ := List.getElem?_of_mem hfm
          have hi' : fs[i]? = some f := by simpa using hi
          have hxi := hf i f hi'
          have hlt : i < xs.length := by
            rw [hlen]
            have := (List.getElem?_eq_some_iff.1 hi).1
            simpa using this
          rw [List.getElem?_eq_getElem hlt] at hxi
          exact plain_rep N f.type n _ _ (hp.2 f hfm) hxi
        obtain ⟨A, hA, hAf, hAq⟩ := tile_rep fs.toList 0 (P.cellsOf t) cs hp.1 hl hall (Nat.zero_le _)
        rw [List.drop_zero] at hA
        refine ⟨A, hA, ?_, hAf⟩
        unfold Plain; rw [hu]
        refine ⟨by rw [hA.1]; exact hl, fun f hf => ?_⟩
        have := (hAq f hf).2.2
        rwa [Nat.sub_zero] at this
      case slice e =>
        simp only [Bool.and_eq_true, decide_eq_true_eq] at hp
        rcases DataW.trod_slice hu h with ⟨rfl, -⟩ | ⟨a, len, cap, elems, rest, n, -, rfl, -, -, hlc, hcm, hel, hget, -, -⟩
        · refine ⟨[.v (.slice none 0 0)], RepL.cons (.v rfl) RepL.nil, ?_, by simp [AV.flat]⟩
          unfold Plain; rw [hu]
          exact ⟨_, [], rfl, Or.inl ⟨rfl, rfl⟩, Nat.zero_le _, by simp⟩
        · have hone : ∀ i, i < len → ∃ y : AV, ∃ A ci, w.cells? 0 (a.add (i * P.cellsOf e)) (P.cellsOf e) = some ci ∧ RepL (allZ w) noPls A ci ∧ Plain P N e A ∧ (∀ c ∈ A, c.flat = true) ∧ y = elemOf A := by
            intro i hi
            have := hget i hi
            rw [List.getElem?_eq_getElem (by omega), Option.bind_eq_some_iff] at this
            obtain ⟨ci, hc1, hc2⟩ := this
            obtain ⟨A, h1, h2, h3⟩ := plain_rep N e n ci _ hp.2 hc2
            exact ⟨_, A, ci, hc1, h1, h2, h3, rfl⟩
          obtain ⟨xs, hxl, hxq⟩ := exists_list len hone
          have hsz : ∀ y ∈ xs, y.cells.length = P.cellsOf e := by
            intro y hy
            obtain ⟨i, hi⟩ := List.getElem?_of_mem hy
            obtain ⟨A, ci, h1, h2, h3, h4, rfl⟩ := hxq i y hi
            rw [elem_cells h4, h2.1]
            exact (World.cells?_some h1).2.1
          have hplain : Plain P (N + 1) t [.vs (P.cellsOf e) xs (some cap)] := by
            unfold Plain; rw [hu]
            refine ⟨_, xs, rfl, Or.inr ⟨_, rfl⟩, by omega, fun y hy => ?_⟩
            obtain ⟨i, hi⟩ := List.getElem?_of_mem hy
            obtain ⟨A, ci, h1, h2, h3, h4, rfl⟩ := hxq i y hi
            exact ⟨A, rfl, by rw [h2.1]; exact (World.cells?_some h1).2.1, h3⟩
          by_cases h0 : len = 0
          · subst h0
            have : xs = [] := List.length_eq_zero_iff.1 hxl
            subst this
            exact ⟨_, RepL.cons (.vs0 (by simp)) RepL.nil, hplain, by simp [AV.flat]⟩
          · -- the block
            have hpos := hp.1
            obtain ⟨y0, hy0⟩ : ∃ y, xs[0]? = some y := ⟨xs[0]'(by omega), List.getElem?_eq_getElem _⟩
            obtain ⟨A0, c0, hc0, -⟩ := hxq 0 y0 hy0
            obtain ⟨hsp0, arr, et, fr, hh, -, -⟩ := cells_at hc0 hpos
            have hb : ∀ j, (a.add j).block = a.block := by intro j; unfold Addr.add; split <;> rfl
            have ho : ∀ j, (a.add j).off = a.off + j := by
              intro j; unfold Addr.add; split
              · rename_i hj; subst hj; rfl
              · rfl
            rw [hb] at hh
            have hsp : a.spot = none := by simpa [Addr.add] using hsp0
            have hall : ∀ i j, i < len → j < P.cellsOf e → ∃ A ci, xs[i]? = some (elemOf A) ∧ (∀ c ∈ A, c.flat = true) ∧ RepL (allZ w) noPls A ci ∧ ci.length = P.cellsOf e ∧ arr[a.off + i * P.cellsOf e + j]? = ci[j]? := by
              intro i j hi hj
              obtain ⟨y, hy⟩ : ∃ y, xs[i]? = some y := ⟨xs[i]'(by omega), List.getElem?_eq_getElem _⟩
              obtain ⟨A, ci, h1, h2, h3, h4, rfl⟩ := hxq i y hy
              obtain ⟨-, arr', et', fr', hh', hl', hg⟩ := cells_at h1 hpos
              rw [hb, hh] at hh'
              obtain ⟨rfl, rfl, rfl⟩ : arr = arr' ∧ et = et' ∧ fr = fr' := by simpa using hh'
              have := hg j hj
              rw [ho] at this
              exact ⟨A, ci, hy, h4, h2, hl', this⟩
            have hfl : (xs.flatMap AV.cells).length = len * P.cellsOf e := by rw [flat_len hsz, hxl]
            have hfit : a.off + len * P.cellsOf e ≤ arr.size := by
              obtain ⟨A, ci, -, -, -, hl', hg⟩ := hall (len - 1) (P.cellsOf e - 1) (by omega) (by omega)
              rw [List.getElem?_eq_getElem (by omega)] at hg
              have := (Array.getElem?_eq_some_iff.1 hg).1
              have e1 : (len - 1) * P.cellsOf e + P.cellsOf e = len * P.cellsOf e := by
                have : len = (len - 1) + 1 := by omega
                conv => rhs; rw [this, Nat.succ_mul]
              omega
            refine ⟨[.vs (P.cellsOf e) xs (some cap)], RepL.cons ?_ RepL.nil, hplain, by simp [AV.flat]⟩
            have hval : (Value.slice (some a) len cap) = .slice (some ⟨a.block, (arr.toList.take a.off).length, none⟩) xs.length cap := by
              have : (arr.toList.take a.off).length = a.off := by simp; omega
              rw [this, hxl]; cases a; simp_all
            rw [hval]
            refine .vs (vs := (arr.toList.drop a.off).take (len * P.cellsOf e)) (post := (arr.toList.drop a.off).drop (len * P.cellsOf e)) (pre := arr.toList.take a.off) (e := et) (fz := fr) (arr := arr) hh ?_ hsz ?_ ?_ (by simp) (by omega)
            · rw [List.append_assoc, List.take_append_drop, List.take_append_drop]
            · rw [hfl]; simp; omega
            · intro i c v hc hv
              have hi := (List.getElem?_eq_some_iff.1 hc).1
              rw [hfl] at hi
              have hq : i / P.cellsOf e < len := Nat.div_lt_of_lt_mul (by rw [Nat.mul_comm]; exact hi)
              have hr : i % P.cellsOf e < P.cellsOf e := Nat.mod_lt _ hpos
              have hdm : i / P.cellsOf e * P.cellsOf e + i % P.cellsOf e = i := by rw [Nat.mul_comm]; exact Nat.div_add_mod _ _
              obtain ⟨A, ci, hx, hA, hR, hl', hg⟩ := hall _ _ hq hr
              have hfa := (flat_at hsz hx).1
              rw [elem_cells hA] at hfa
              have hcA : A[i % P.cellsOf e]? = some c := by
                rw [← hfa, List.getElem?_take, if_pos hr, List.getElem?_drop, hdm]; exact hc
              have hvA : ci[i % P.cellsOf e]? = some v := by
                rw [← hg]
                rw [List.getElem?_take, if_pos hi, List.getElem?_drop] at hv
                rw [show a.off + i / P.cellsOf e * P.cellsOf e + i % P.cellsOf e = a.off + i by omega]
                simpa using hv
              exact hR.2 _ _ _ hcA hvA

/-- what is not looked at of spare places -/
theorem plain_spare {base : Nat} {sp : Nat → Bool} : ∀ (N t fuel : Nat) (cs : List Value) (x : DataW HH × List MemPlace), plainT P N t = true → DataW.trod enc P w base (fun _ => true) true fuel t cs = some x →
    (∀ p ∈ x.2, sp p.block = true) → DataW.trod enc P w base sp true fuel t cs = some x
  | 0, _, _, _, _, hp, _, _ => by simp [plainT] at hp
  | N + 1, t, fuel, cs, x, hp, h, hs => by
    unfold plainT at hp
    cases fuel with
    | zero => simp [DataW.trod] at h
    | succ n =>
      cases hu : P.underlying t with
      | none => rw [hu] at hp; simp at hp
      | some u =>
        rw [hu] at hp
        cases u <;> simp only [Bool.false_eq_true] at hp
        case bool => obtain ⟨b, rfl, rfl⟩ := DataW.trod_bool hu h; rw [DataW.trod_step]; unfold DataW.trodStep; rw [hu]
        case int k => obtain ⟨m, rfl, rfl, hw⟩ := DataW.trod_int hu h; rw [DataW.trod_step]; unfold DataW.trodStep; rw [hu]; simp [hw]
        case string => obtain ⟨m, rfl, rfl, hw⟩ := DataW.trod_string hu h; rw [DataW.trod_step]; unfold DataW.trodStep; rw [hu]; simp [hw]
        case struct fs =>
          rw [Bool.and_eq_true, List.all_eq_true] at hp
          rw [DataW.trod_step] at h ⊢
          unfold DataW.trodStep at h ⊢
          rw [hu] at h ⊢
          simp only at h ⊢
          split at h
          · rename_i hl
            rw [if_pos hl]
            simp only [Option.map_eq_some_iff] at h ⊢
            obtain ⟨xs, hxs, rfl⟩ := h
            refine ⟨xs, mapM_carry hxs fun f y hf hy hfy => plain_spare N f.type n _ y (hp.2 f hf) hfy fun p hpm => hs p ?_, rfl⟩
            exact List.mem_flatMap.2 ⟨y, hy, hpm⟩
          · cases h
        case slice e =>
          simp only [Bool.and_eq_true, decide_eq_true_eq] at hp
          have h0 := h
          rw [DataW.trod_step] at h ⊢
          unfold DataW.trodStep at h ⊢
          rw [hu] at h ⊢
          rcases DataW.trod_slice hu h0 with ⟨rfl, rfl⟩ | ⟨a, len, cap, elems, rest, n', hn', rfl, rfl, -, hlc, hcm, hel, hget, hrest, -⟩
          · rfl
          · simp only at h ⊢
            split at h
            · rename_i hc
              rw [if_pos hc]
              simp only [if_true, Option.bind_eq_some_iff, Option.map_eq_some_iff] at h ⊢
              obtain ⟨es, hes, rs, hrs, heq⟩ := h
              have hin : ∀ y, y ∈ es ++ rs → ∀ p ∈ y.2, sp p.block = true := by
                intro y hy p hpm
                refine hs p ?_
                have := congrArg Prod.snd heq
                simp only at this
                rw [← this]
                exact List.mem_append_right _ (List.mem_flatMap.2 ⟨y, hy, hpm⟩)
              refine ⟨es, mapM_carry hes fun i y _ hy hfy => ?_, rs, ?_, heq⟩
              · obtain ⟨ci, h1, h2⟩ := Option.bind_eq_some_iff.1 hfy
                rw [h1]
                exact plain_spare N e n ci y hp.2 h2 (hin y (List.mem_append_left _ hy))
              · have hrl : rs.length = cap - len := by
                  have := mapM_some_length hrs
                  simpa using this
                by_cases hz : cap - len = 0
                · have : rs = [] := List.length_eq_zero_iff.1 (by omega)
                  subst this
                  split
                  · rw [hz] at hrs ⊢; exact hrs
                  · rfl
                · have hsp : sp a.block = true := by
                    have hel' : es.length = len := by
                      have := mapM_some_length hes
                      simpa using this
                    have := congrArg Prod.snd heq
                    simp only at this
                    have hm : MemPlace.cell a.block (a.off + 0) ∈ MemPlace.row a ((elems.length + rest.length) * P.cellsOf e) ++ (elems ++ rest).flatMap (·.2) := by
                      rw [← this]
                      refine List.mem_append_left _ (MemPlace.mem_row.2 ⟨0, ?_, rfl⟩)
                      exact Nat.mul_pos (by omega) hp.1
                    exact hs _ hm
                  rw [if_pos hsp]
                  refine mapM_carry hrs fun i y _ hy hfy => ?_
                  obtain ⟨ci, h1, h2⟩ := Option.bind_eq_some_iff.1 hfy
                  rw [h1]
                  exact plain_spare N e n ci y hp.2 h2 (hin y (List.mem_append_right _ hy))
            · cases h
end
end Go.Ev
/- A law: what the evaluator answers on all plain data is what the statement says. -/
namespace Go.Ev
open Go.ChangeShapes Go.WideShapes Go.ChangeAt Go.RowKit

/-- an argument of a type of plain data -/
def Arg (P : Program) (N : Nat) (t : TypeId) (x : AV) : Prop :=
  match P.underlying t with
  | some (.struct _) => ∃ A, x = .agg A ∧ Plain P N t A
  | _ => Plain P N t [x]

inductive ArgsOf (P : Program) (N : Nat) : List TypeId → List AV → Prop
  | nil : ArgsOf P N [] []
  | cons {t : TypeId} {ts : List TypeId} {x : AV} {xs : List AV} (h : Arg P N t x) (hs : ArgsOf P N ts xs) : ArgsOf P N (t :: ts) (x :: xs)

section
variable {HH : Type} {enc : TypeId × Value → HH} {P : Program} {w : World}

theorem arg_rep {N base : Nat} {t : TypeId} {v : Value} {d : DataW HH} {ps : List MemPlace} (hp : plainT P N t = true) (hok : Value.okWide P w .any base t v) (h : DataW.Trod enc P w 0 (fun _ => true) true t v d ps) :
    ∃ x, Rep (allZ w) noPls x v ∧ Arg P N t x := by
  obtain ⟨fuel, h⟩ := h
  obtain ⟨A, hA, hpl, hfl⟩ := plain_rep N t fuel _ _ hp h
  cases N with
  | zero => simp [plainT] at hp
  | succ N =>
    have one : ∀ (hv : v.cells.toList = [v]), (∃ c, A = [c]) → (∀ fs, P.underlying t ≠ some (.struct fs)) → ∃ x, Rep (allZ w) noPls x v ∧ Arg P (N + 1) t x := by
      rintro hv ⟨c, rfl⟩ hns
      rw [hv] at hA
      obtain ⟨v', ws, e, hr, -⟩ := hA.uncons
      cases e
      refine ⟨c, hr, ?_⟩
      unfold Arg
      split
      · rename_i fs hu; exact absurd hu (hns fs)
      · exact hpl
    unfold plainT at hp
    unfold Value.okWide at hok
    have hpl' := hpl
    unfold Plain at hpl'
    cases hu : P.underlying t with
    | none => rw [hu] at hp; simp at hp
    | some u =>
      rw [hu] at hp hok hpl'
      cases u <;> simp only [Bool.false_eq_true] at hp hok hpl'
      case bool =>
        obtain ⟨b, rfl⟩ := hpl'
        refine one ?_ ⟨_, rfl⟩ (by simp [hu])
        unfold Cell.okWide Cell.ok at hok; rw [hu] at hok
        cases v <;> first | rfl | simp at hok
      case int k =>
        obtain ⟨m, rfl, -⟩ := hpl'
        refine one ?_ ⟨_, rfl⟩ (by simp [hu])
        unfold Cell.okWide Cell.ok at hok; rw [hu] at hok
        cases v <;> first | rfl | simp at hok
      case string =>
        obtain ⟨m, rfl, -⟩ := hpl'
        refine one ?_ ⟨_, rfl⟩ (by simp [hu])
        unfold Cell.okWide Cell.ok at hok; rw [hu] at hok
        cases v <;> first | rfl | simp at hok
      case slice e =>
        obtain ⟨x, xs, rfl, -⟩ := hpl'
        refine one ?_ ⟨_, rfl⟩ (by simp [hu])
        unfold Cell.okWide Cell.ok at hok; rw [hu] at hok
        cases v <;> first | rfl | simp at hok
      case struct fs =>
        obtain ⟨cs, rfl, -, -⟩ := hok
        refine ⟨.agg A, ?_, ?_⟩
        · have := hA.agg
          simpa [Value.cells] using this
        · unfold Arg; rw [hu]; exact ⟨A, rfl, hpl⟩

theorem args_rep {N base : Nat} : ∀ {ts : List TypeId} {vs : List Value} {ds : List (DataW HH)} {ps : List MemPlace}, ts.all (plainT P N) = true → (∀ (j : Nat) t v, ts[j]? = some t → vs[j]? = some v → Value.okWide P w .any base t v) →
    DataW.TrodAll enc P w 0 (fun _ => true) true ts vs ds ps → ∃ xs, RepL (allZ w) noPls xs vs ∧ ArgsOf P N ts xs
  | [], vs, ds, ps, _, _, h => by
    cases vs <;> cases ds <;> simp [DataW.TrodAll] at h
    exact ⟨[], RepL.nil, .nil⟩
  | t :: ts, vs, ds, ps, hp, hok, h => by
    obtain ⟨v, vs', d, ds', p, q, rfl, rfl, rfl, h1, h2⟩ := trodAll_cons h
    simp only [List.all_cons, Bool.and_eq_true] at hp
    obtain ⟨x, hx, hax⟩ := arg_rep hp.1 (hok 0 t v rfl rfl) h1
    obtain ⟨xs, hxs, haxs⟩ := args_rep hp.2 (fun j t' v' ht hv => hok (j + 1) t' v' (by simpa using ht) (by simpa using hv)) h2
    exact ⟨x :: xs, RepL.cons hx hxs, .cons hax haxs⟩

theorem trod_after {w' : World} (hh : ∀ k, k < w.heap.size → w'.heap[k]? = w.heap[k]?) {N : Nat} {sp : Nat → Bool} : ∀ {ts : List TypeId} {vs : List Value} {ds : List (DataW HH)} {ps : List MemPlace}, ts.all (plainT P N) = true →
    DataW.TrodAll enc P w 0 (fun _ => true) true ts vs ds ps → (∀ p ∈ ps, sp p.block = true) → DataW.TrodAll enc P w' 0 sp true ts vs ds ps
  | [], vs, ds, ps, _, h, _ => by
    cases vs <;> cases ds <;> simp [DataW.TrodAll] at h ⊢
    exact h
  | t :: ts, vs, ds, ps, hp, h, hs => by
    obtain ⟨v, vs', d, ds', p, q, rfl, rfl, rfl, ⟨fuel, h1⟩, h2⟩ := trodAll_cons h
    simp only [List.all_cons, Bool.and_eq_true] at hp
    refine ⟨p, q, ⟨fuel, ?_⟩, trod_after hh hp.2 h2 fun p hp => hs p (List.mem_append_right _ hp), rfl⟩
    have hlt := DataW.trod_lt _ _ _ _ h1
    refine plain_spare N t fuel _ _ hp.1 (DataW.trod_carry _ _ _ _ h1 fun p hp => ?_) fun p hp => hs p (List.mem_append_left _ hp)
    have := hlt p hp
    cases p with
    | cell b off =>
      have hb : b < w.heap.size := this
      simp only [World.sameAt, World.cell?, hh b hb]
    | map b =>
      have hb : b < w.heap.size := this
      simp only [World.sameAt, hh b hb]

theorem trodAll_len {b : Nat} {sp : Nat → Bool} {hd : Bool} : ∀ {ts : List TypeId} {vs : List Value} {ds : List (DataW HH)} {ps : List MemPlace}, DataW.TrodAll enc P w b sp hd ts vs ds ps → ds.length = ts.length
  | [], vs, ds, ps, h => by cases vs <;> cases ds <;> simp [DataW.TrodAll] at h ⊢
  | t :: ts, vs, ds, ps, h => by
    obtain ⟨v, vs', d, ds', p, q, rfl, rfl, rfl, h1, h2⟩ := trodAll_cons h
    simp [trodAll_len h2]

theorem kept_of {w' : World} (hos : w'.os = w.os) (hout : w'.output = w.output) (hh : ∀ k, k < w.heap.size → w'.heap[k]? = w.heap[k]?) : w.keptBut w' (fun _ => False) := by
  refine ⟨hos, hout, fun i hi => ?_⟩
  rw [hh i hi]
  cases h : w.heap[i]? with
  | none => simp
  | some o => cases o <;> simp

/-- what the call leaves as it was: only what was there need not be frozen anew -/
theorem post_of_old {f : Func} {s : ChangeSpec} {apart fresh handsOn again : Bool} {W W' : World} {args : Array Value} {v : Value} {ds gs : List (DataW HH)} {before pa pv : List MemPlace}
    (hW : DataW.Whole enc P f.params.toList s.vars apart W args.toList ds gs before)
    (hres : ∀ (b : Nat) (sp : Nat → Bool) (hd : Bool), DataW.TrodAll enc P W' b sp hd f.resultTypes.toList (v.resultList f.resultTypes.size) (s.fn HH (ds ++ gs)).results [])
    (hargs : ∀ sp : Nat → Bool, (∀ p ∈ before, sp p.block = true) → DataW.TrodAll enc P W' 0 sp true f.params.toList args.toList (s.fn HH (ds ++ gs)).args pa)
    (hvars : ∀ sp : Nat → Bool, (∀ p ∈ before, sp p.block = true) → DataW.TrodVars enc P W' sp s.vars (s.fn HH (ds ++ gs)).vars pv)
    (hps : before = pa ++ pv) (hk : W.keptBut W' (· ∈ before)) (hfz : ∀ a : Addr, a.block < W.heap.size → W'.frozen? a = W.frozen? a)
    (hok : ∀ (j : Nat) (t : TypeId) (r : Value), f.resultTypes[j]? = some t → (v.resultList f.resultTypes.size)[j]? = some r → Value.okWide P W' .any 0 t r) :
    s.post enc P f apart fresh handsOn again W args v W' := by
  have hold : ∀ p ∈ before, (fun b => decide (b < W.heap.size)) p.block = true := fun p hp => by simpa using hW.lt p hp
  have hlt := hW.lt
  refine ⟨ds, gs, before, [], pa, pv, hW, hres _ _ _, hargs _ hold, hvars _ hold, World.keptBut_mono (fun p hp => ⟨hp, ?_⟩) hk, fun _ => ?_⟩
  · rw [hps, List.mem_append] at hp
    exact Or.inr hp
  · obtain ⟨_, _, _, _, _, hz, hn⟩ := hW
    refine ⟨hok, _, _, ([] ++ pa) ++ pv, ⟨[] ++ pa, pv, trodAll_append (hargs _ (fun _ _ => rfl)) (hres _ _ _), hvars _ (fun _ _ => rfl), rfl, ?_, ?_⟩, ?_⟩
    · intro b off hp
      have hp' : MemPlace.cell b off ∈ before := by rw [hps]; simpa using hp
      rw [hfz ⟨b, off, none⟩ (hlt _ hp')]
      exact hz b off hp'
    · intro ha
      have := hn ha
      rw [hps] at this
      simpa using this
    · intro p hp _
      rw [hps]
      simpa using hp

/-- a law of plain data -/
theorem law_contract {C : Cfg} (hP : C.P = P) (hgo : NoGo P) (hm : P.follows .mixedOrders = true) (hext : ExtOK C) {f : FuncId} {fn : Func} {s : ChangeSpec} {N : Nat} {apart fresh handsOn again : Bool} {tb : TypeId}
    (hpl : fn.params.toList.all (plainT P N) = true) (hvars : s.vars = []) (hspec : ∀ ds : List (DataW HH), ds.length = fn.params.size → s.fn HH ds = { results := [.lit (.bool true)], args := ds })
    (hrt : fn.resultTypes = #[tb]) (htb : P.underlying tb = some .bool)
    (hlaw : ∀ xs, ArgsOf P N fn.params.toList xs → ∃ H', lim C (.call f xs { objs := [], lock := 0 }) = some (.ret (.v (.bool true)) H'))
    {W : World} {base : Nat} {args : Array Value} {ds gs : List (DataW HH)} {before : List MemPlace}
    (hval : ∀ (j : Nat) t v, fn.params[j]? = some t → args[j]? = some v → Value.okWide P W .any base t v)
    (hW : DataW.Whole enc P fn.params.toList s.vars apart W args.toList ds gs before) (hg : laidOk (allZ W) := by intro p hp; cases hp) :
    Calls P f args W fun e W' => ∃ v, e = .returned v ∧ s.post enc P fn apart fresh handsOn again W args v W' := by
  subst hP
  have hW' := hW
  obtain ⟨p, q, hA, hV, rfl, hfz, hnd⟩ := hW
  have hV' := hV
  rw [hvars] at hV'
  obtain ⟨rfl, rfl⟩ := trodVars_none hV'
  obtain ⟨xs, hxs, hax⟩ := args_rep hpl (fun j t v ht hv => hval j t v (by simpa using ht) (by simpa using hv)) hA
  obtain ⟨H', hl⟩ := hlaw xs hax
  have hc := top_calls hg hgo hm hext hl hxs
  have hlen : ds.length = fn.params.size := by have := trodAll_len hA; simpa using this
  have hsf : s.fn HH (ds ++ []) = { results := [.lit (.bool true)], args := ds } := by rw [List.append_nil]; exact hspec ds hlen
  refine Calls.mono' hc ?_
  rintro e W' ⟨rfl, hh, hsz, hos, hout, -, hfr⟩
  refine ⟨_, rfl, post_of_old (pa := p) (pv := []) hW' ?_ ?_ ?_ rfl (World.keptBut_mono (fun _ h => h.elim) (kept_of hos hout hh)) hfr ?_⟩
  · intro b sp hd
    rw [hsf, hrt]
    exact trodAll_mk1 (shut_bool htb true)
  · intro sp hsp
    rw [hsf]
    exact trod_after hh hpl hA fun x hx => hsp x (List.mem_append_left _ hx)
  · intro sp hsp
    rw [hsf, hvars]
    rfl
  · exact ok_one hrt rfl (okWide_bool_mk htb true)
end
end Go.Ev
/- Closed evaluations, in pieces that are told once. -/
namespace Go.Ev

/-- a call on closed arguments, and what it answers -/
structure Tell where
  f : Nat
  K : List AV
  R : AV

def tabHas : List Tell → Nat → Bool
  | [], _ => false
  | t :: r, f => Nat.beq t.f f || tabHas r f
def tabFn : List Tell → Nat → List AV → Option AV
  | [], _, _ => none
  | t :: r, f, args => if Nat.beq t.f f && listEq (eqA 30) args t.K then some t.R else tabFn r f args
def tabExt (e : FuncId → Option (List AV → Option AV)) (T : List Tell) : FuncId → Option (List AV → Option AV) := fun f => if tabHas T f then some (tabFn T f) else e f
def Cfg.more (C : Cfg) (e : FuncId → Option (List AV → Option AV)) : Cfg := { C with ext := e }

/-- a call that looks at memory, and what it answers -/
structure TellH where
  f : Nat
  K : List AV
  G : List (Option AObj)
  R : AV

def eqEnt : List (AV × AV × Nat) → List (AV × AV × Nat) → Bool
  | [], [] => true
  | (a, b, n) :: r, (a', b', n') :: s => eqQ 30 a a' && eqQ 30 b b' && Nat.beq n n' && eqEnt r s
  | _, _ => false
def sameX : Option AObj → Option AObj → Bool
  | none, none => true
  | some .dead, some .dead => true
  | some .dfr, some .dfr => true
  | some (.cells v m e sz g cs), some (.cells v' m' e' sz' g' cs') => Nat.beq v v' && Nat.beq m m' && Nat.beq e e' && Nat.beq sz sz' && (g == g') && eqLQ (eqQ 30) cs cs'
  | some (.map m es c), some (.map m' es' c') => Nat.beq m m' && eqEnt es es' && Nat.beq c c'
  | _, _ => false
def sameL : List (Option AObj) → List (Option AObj) → Bool
  | [], [] => true
  | x :: r, y :: s => sameX x y && sameL r s
  | _, _ => false
theorem eqEnt_eq : ∀ {l m : List (AV × AV × Nat)}, eqEnt l m = true → l = m
  | [], [], _ => rfl
  | [], _ :: _, h => by cases h
  | _ :: _, [], h => by cases h
  | (a, b, n) :: r, (a', b', n') :: s, h => by
    simp only [eqEnt, Bool.and_eq_true] at h
    obtain ⟨⟨⟨h1, h2⟩, h3⟩, h4⟩ := h
    rw [eqQ_eq 30 _ _ h1, eqQ_eq 30 _ _ h2, Nat.eq_of_beq_eq_true h3, eqEnt_eq h4]
theorem sameX_eq {x y : Option AObj} (h : sameX x y = true) : x = y := by
  unfold sameX at h
  split at h
  · rfl
  · rfl
  · rfl
  · simp only [Bool.and_eq_true, beq_iff_eq] at h
    obtain ⟨⟨⟨⟨⟨h1, h2⟩, h3⟩, h4⟩, h5⟩, h6⟩ := h
    rw [Nat.eq_of_beq_eq_true h1, Nat.eq_of_beq_eq_true h2, Nat.eq_of_beq_eq_true h3, Nat.eq_of_beq_eq_true h4, h5, eqLQ_eq (eqQ_eq 30) h6]
  · simp only [Bool.and_eq_true] at h
    obtain ⟨⟨h1, h2⟩, h3⟩ := h
    rw [Nat.eq_of_beq_eq_true h1, eqEnt_eq h2, Nat.eq_of_beq_eq_true h3]
  · cases h
theorem sameL_eq : ∀ {l m : List (Option AObj)}, sameL l m = true → l = m
  | [], [], _ => rfl
  | [], _ :: _, h => by cases h
  | _ :: _, [], h => by cases h
  | x :: r, y :: s, h => by
    simp only [sameL, Bool.and_eq_true] at h
    rw [sameX_eq h.1, sameL_eq h.2]
def tabHHas : List TellH → Nat → Bool
  | [], _ => false
  | t :: r, f => Nat.beq t.f f || tabHHas r f
def tabH : List TellH → Nat → List AV → Heap → Option AV
  | [], _, _, _ => none
  | t :: r, f, args, H => if Nat.beq t.f f && (eqLQ (eqQ 30) args t.K && sameL H.objs t.G) then some t.R else tabH r f args H
def atom1 : AV → Bool
  | .v _ => true
  | _ => false
/-- a value that leads to no memory -/
def atomR : AV → Bool
  | .v _ => true
  | .tup cs => cs.all atom1
  | .agg cs => cs.all atom1
  | _ => false
/-- a call on arguments that lie in memory: what it answers if nothing of that memory is turned -/
def borH (T : List Tell) (f : Nat) (args : List AV) (H : Heap) : Option AV :=
  match freezeL { H with lock := 0 } 100000 args with
  | some l => match tabFn T f l with | some R => if atomR R then some R else none | none => none
  | none => none
def tabX (T : List Tell) (TH : List TellH) (f : Nat) (args : List AV) (H : Heap) : Option AV := match tabH TH f args H with | some v => some v | none => borH T f args H
def tabExh (e : FuncId → Option (List AV → Heap → Option AV)) (T : List Tell) (TH : List TellH) : FuncId → Option (List AV → Heap → Option AV) := fun f => if tabHHas TH f || tabHas T f then some (tabX T TH f) else e f
def Cfg.more2 (C : Cfg) (e : FuncId → Option (List AV → Option AV)) (x : FuncId → Option (List AV → Heap → Option AV)) : Cfg := { C with ext := e, exh := x }
def ansH (n : Nat) (o : Option Out) : Option AV := match o with | some (.ret v H) => freezeV { H with lock := n } 1000000 v | _ => none

/-- what is told of a call is so -/
def GoodC (C : Cfg) (t : Tell) : Prop := (∃ e x, ExtOK (C.more2 e x) ∧ Ans (C.more2 e x) t.f t.K t.R) ∧ boundL t.K = 0
def GoodH (C : Cfg) (t : TellH) : Prop := (∃ e x, ExtOK (C.more2 e x) ∧ ∃ n, ansH t.G.length (evT (C.more2 e x) n (.call t.f t.K { objs := t.G, lock := t.G.length })) = some t.R) ∧ (Nat.beq (boundL t.K) 0 || t.K.any isYld) = false
def AllG (C : Cfg) : List Tell → Prop
  | [] => True
  | t :: r => GoodC C t ∧ AllG C r
def AllH (C : Cfg) : List TellH → Prop
  | [] => True
  | t :: r => GoodH C t ∧ AllH C r

theorem tabFn_some {C : Cfg} : ∀ {T : List Tell} {f : Nat} {args : List AV} {v : AV}, AllG C T → tabFn T f args = some v → ∃ t, GoodC C t ∧ t.f = f ∧ args = t.K ∧ v = t.R
  | [], _, _, _, _, h => by cases h
  | t :: r, f, args, v, hT, h => by
    unfold tabFn at h
    split at h
    · rename_i hq
      simp only [Bool.and_eq_true] at hq
      exact ⟨t, hT.1, Nat.eq_of_beq_eq_true hq.1, listEq_eq (eqA_eq 30) hq.2, by simpa using h.symm⟩
    · exact tabFn_some hT.2 h
theorem tabH_some {C : Cfg} : ∀ {T : List TellH} {f : Nat} {args : List AV} {H : Heap} {v : AV}, AllH C T → tabH T f args H = some v → ∃ t, GoodH C t ∧ t.f = f ∧ args = t.K ∧ H.objs = t.G ∧ v = t.R
  | [], _, _, _, _, _, h => by cases h
  | t :: r, f, args, H, v, hT, h => by
    unfold tabH at h
    split at h
    · rename_i hq
      simp only [Bool.and_eq_true] at hq
      exact ⟨t, hT.1, Nat.eq_of_beq_eq_true hq.1, eqLQ_eq (eqQ_eq 30) hq.2.1, sameL_eq hq.2.2, by simpa using h.symm⟩
    · exact tabH_some hT.2 h

theorem atom1_rep {Z Z' : Fzn} {ρ ρ' : Pls} {x : AV} {v : Value} (h : Rep Z ρ x v) (ha : atom1 x = true) : Rep Z' ρ' x v := by
  cases h with
  | v h => exact .v h
  | _ => cases ha
theorem atomR_rep {Z Z' : Fzn} {ρ ρ' : Pls} {x : AV} {v : Value} (h : Rep Z ρ x v) (ha : atomR x = true) : Rep Z' ρ' x v := by
  cases h with
  | v h => exact .v h
  | agg hl h => exact .agg hl fun i c v hc hv => atom1_rep (h i c v hc hv) (List.all_eq_true.1 (show List.all _ atom1 = true from ha) c (List.mem_of_getElem? hc))
  | tup hl h => exact .tup hl fun i c v hc hv => atom1_rep (h i c v hc hv) (List.all_eq_true.1 (show List.all _ atom1 = true from ha) c (List.mem_of_getElem? hc))
  | _ => cases ha

/-- what a run from memory that is all frozen leaves, of a world that stands for more -/
theorem back_frozen {Z : Fzn} {ρ : Pls} {H : Heap} {w : World} (hs : Sim Z ρ H w) {R : AV} (hR : atomR R = true) {x : Value} {w' : World} (h : After (allZ w) noPls { objs := [], lock := 0 } w R { objs := [], lock := 0 } x w') : After Z ρ H w R H x w' := by
  obtain ⟨Z', ρ', h1, h2, h3⟩ := h
  have hsame : ∀ k, k < w.heap.size → w'.heap[k]? = w.heap[k]? := fun k hk => h3.frame k hk (start_own w k)
  refine ⟨Z, ρ, atomR_rep h1 hR, ⟨fun b o hb hl => ?_, hs.inj, fun k o hk => ?_, hs.fresh, hs.lk, hs.lg⟩, ⟨.refl _, .refl _, fun k hk _ => hsame k hk, fun _ _ h => h, h3.size, h3.os, h3.output, h3.tape, h3.drawn, h3.fz, rfl, fun _ _ => rfl, Nat.le_refl _, fun _ _ _ => rfl, fun _ _ _ => rfl, fun _ _ h _ => ⟨h, fun _ => rfl⟩⟩⟩
  · obtain ⟨pl, obj, q1, q2, q3, q4⟩ := hs.objs b o hb hl
    exact ⟨pl, obj, q1, (hsame _ (Array.getElem?_eq_some_iff.1 q2).1).trans q2, q3, q4⟩
  · have := hs.zok k o hk
    exact (hsame _ (Array.getElem?_eq_some_iff.1 this).1).trans this

theorem extOK_tab {C : Cfg} (hgo : NoGo C.P) (hm : C.P.follows .mixedOrders = true) (h0 : ExtOK C) {T : List Tell} (hT : AllG C T) {TH : List TellH} (hH : AllH C TH) : ExtOK (C.more2 (tabExt C.ext T) (tabExh C.exh T TH)) := by
  refine ⟨fun f g hf args v hv Z ρ H w vals hs hl => ?_, h0.lay, fun f g hf args v H hv Z ρ w vals hs hl => ?_⟩
  · have hf' : (if tabHas T f then some (tabFn T f) else C.ext f) = some g := hf
    split at hf'
    · simp only [Option.some.injEq] at hf'
      subst hf'
      obtain ⟨t, ⟨⟨e, x, he, ha⟩, hb⟩, rfl, rfl, rfl⟩ := tabFn_some hT hv
      exact ext_of_ans (C := C.more2 e x) hgo hm he ha hb Z ρ H w vals hs hl
    · exact h0.ext f g hf' args v hv Z ρ H w vals hs hl
  · have hf' : (if tabHHas TH f || tabHas T f then some (tabX T TH f) else C.exh f) = some g := hf
    split at hf'
    · simp only [Option.some.injEq] at hf'
      subst hf'
      unfold tabX at hv
      split at hv
      case h_2 =>
        unfold borH at hv
        split at hv
        · rename_i l hfz
          split at hv
          · rename_i R hR
            split at hv
            · rename_i hat
              simp only [Option.some.injEq] at hv
              subst hv
              have hlz : RepL (allZ w) noPls l vals := (freeze_rep (ρ := noPls) (Z1 := Z) (Z2 := allZ w) (ρ1 := ρ) (H1 := { H with lock := 0 }) (w1 := w) ⟨hs.objs, hs.inj, hs.zok, hs.fresh, Nat.zero_le _, hs.lg⟩ (fun k o hk => hs.zok k o hk) (fun b o pl _ _ _ _ => rfl) (fun b v p hb _ => absurd hb (Nat.not_lt_zero _)) 100000).2 _ _ _ hfz hl
              obtain ⟨t, ⟨⟨e, x, he, ha⟩, hb⟩, rfl, rfl, rfl⟩ := tabFn_some hT hR
              have hm1 := ext_of_ans (C := C.more2 e x) hgo hm he ha hb (allZ w) noPls { objs := [], lock := 0 } w vals (start_sim w (hs.lg.mono fun k o hk => hs.zok k o hk)) hlz
              rcases hm1 with ⟨y, w', h1, h2⟩ | ⟨h1, h2⟩
              · exact Or.inl ⟨y, w', h1, back_frozen hs hat h2⟩
              · exact Or.inr ⟨h1, Calls.mono' h2 fun en w' he => by
                  obtain ⟨y, rfl, h3⟩ := he
                  exact ⟨y, rfl, back_frozen hs hat h3⟩⟩
            · cases hv
          · cases hv
        · cases hv
      rename_i v2 hv2
      simp only [Option.some.injEq] at hv
      subst hv
      obtain ⟨t, ⟨⟨e, x, he, n, ha⟩, hb⟩, rfl, rfl, hG, rfl⟩ := tabH_some hH hv2
      have hrec : RecOK C.P (evT (C.more2 e x) n) := (ev_sound (C := C.more2 e x) hgo he (draw_ok hm he) n).1
      let D : Cfg := { C.more2 e x with pure := fun _ _ _ => true }
      have hk : callKind D t.f t.f none t.K = 2 := by
        simp only [Bool.or_eq_false_iff] at hb
        unfold callKind
        simp only [hb.1, hb.2, Bool.false_eq_true, if_false, if_true, D]
      have hB : callB D (evT (C.more2 e x) n) t.f t.f none t.K H = some (t.R, H) := by
        unfold callB; rw [hk]
        have h1 : ({ H with lock := H.size } : Heap) = { objs := t.G, lock := t.G.length } := by
          obtain ⟨objs, lock⟩ := H
          simp only at hG
          subst hG
          rfl
        have h2 : H.size = t.G.length := by unfold Heap.size; rw [hG]
        simp only
        rw [h1, h2]
        unfold ansH at ha
        split at ha
        · rename_i v1 H1 h3
          rw [h3]
          simp only [ha, Option.map_some]
        · cases ha
      obtain ⟨hbody, hc⟩ := callB_sound (C := D) hrec hs hl hB
      exact Or.inr ⟨hbody.run _ _, hc⟩
    · exact h0.exh f g hf' args v H hv Z ρ w vals hs hl

def ansC (o : Option Out) : Option AV := match o with | some (.ret v H) => freezeV { H with lock := 0 } 1000000 v | _ => none
theorem ans_of_evC {C : Cfg} {n : Nat} {f : FuncId} {args : List AV} {v : AV} (h : ansC (evT C n (.call f args { objs := [], lock := 0 })) = some v) : Ans C f args v := by
  refine Ans.iff.2 ?_
  cases ho : evT C n (.call f args { objs := [], lock := 0 }) with
  | none => rw [ho] at h; cases h
  | some o =>
    rw [ho] at h
    cases o with
    | go => cases h
    | ret x H => exact ⟨x, H, lim_iff.2 ⟨n, ho⟩, h⟩

theorem goodC {C : Cfg} (hgo : NoGo C.P) (hm : C.P.follows .mixedOrders = true) (h0 : ExtOK C) {t : Tell} (T : List Tell) (hT : AllG C T) (TH : List TellH) (hH : AllH C TH) (n : Nat)
    (h : ansC (evT (C.more2 (tabExt C.ext T) (tabExh C.exh T TH)) n (.call t.f t.K { objs := [], lock := 0 })) = some t.R) (hb : boundL t.K = 0) : GoodC C t :=
  ⟨⟨_, _, extOK_tab hgo hm h0 hT hH, ans_of_evC h⟩, hb⟩
theorem goodH {C : Cfg} (hgo : NoGo C.P) (hm : C.P.follows .mixedOrders = true) (h0 : ExtOK C) {t : TellH} (T : List Tell) (hT : AllG C T) (TH : List TellH) (hH : AllH C TH) (n : Nat)
    (h : ansH t.G.length (evT (C.more2 (tabExt C.ext T) (tabExh C.exh T TH)) n (.call t.f t.K { objs := t.G, lock := t.G.length })) = some t.R) (hb : (Nat.beq (boundL t.K) 0 || t.K.any isYld) = false) : GoodH C t :=
  ⟨⟨_, _, extOK_tab hgo hm h0 hT hH, n, h⟩, hb⟩
theorem freeze_toV {H : Heap} {K : Nat} {x : AV} {y : Value} (h : freezeV H K x = some (.v y)) : x = .v y := by
  cases K with
  | zero => cases h
  | succ K =>
    unfold freezeV at h
    cases x with
    | v z => simpa using h
    | ro z k => simp at h
    | vs s l c => simp at h
    | agg l => simp only [Option.map_eq_some_iff] at h; obtain ⟨_, _, h⟩ := h; cases h
    | tup l => simp only [Option.map_eq_some_iff] at h; obtain ⟨_, _, h⟩ := h; cases h
    | ifc t z => simp only [Option.map_eq_some_iff] at h; obtain ⟨_, _, h⟩ := h; cases h
    | mp b => simp only at h; split at h <;> simp at h
    | yld b => simp only at h; split at h <;> simp at h
    | fn f a b => simp only at h; split at h <;> simp at h
    | ptr b v k =>
      simp only at h
      split at h
      · simp at h
      · split at h
        · split at h
          · split at h <;> simp at h
          · simp at h
        · simp at h
    | sl b v off len c =>
      simp only at h
      split at h
      · simp at h
      · split at h
        · split at h
          · split at h
            · simp at h
            · split at h
              · split at h <;> simp at h
              · simp at h
          · simp at h
        · simp at h
theorem Ans.limT {C : Cfg} {f : FuncId} {args : List AV} (h : Ans C f args (.v (.bool true))) : ∃ H', Go.Ev.lim C (.call f args { objs := [], lock := 0 }) = some (.ret (.v (.bool true)) H') := by
  obtain ⟨x, H, h1, h2⟩ := Ans.iff.1 h
  rw [freeze_toV h2] at h1
  exact ⟨H, h1⟩

/-- a law without arguments -/
theorem closed_law {C : Cfg} {f : FuncId} (h : GoodC C ⟨f, [], .v (.bool true)⟩) : ∃ e x, ExtOK (C.more2 e x) ∧ ∀ P N xs, ArgsOf P N [] xs → ∃ H', Go.Ev.lim (C.more2 e x) (.call f xs { objs := [], lock := 0 }) = some (.ret (.v (.bool true)) H') := by
  obtain ⟨⟨e, x, he, ha⟩, -⟩ := h
  refine ⟨e, x, he, fun P N xs hx => ?_⟩
  cases hx
  exact ha.limT
end Go.Ev
/- Do two slices lie in one memory: what stands for it. -/
namespace Go.Ev

def lapsA (args : List AV) (H : Heap) : Option AV :=
  match args with
  | [x, .sl b ver _ _ _] =>
    match H.get b with
    | some (.cells v _ _ _ _ _) =>
      if v = ver then
        match x with
        | .vs sz _ _ => if sz = 0 then none else some (.v (.bool false))
        | .sl b' ver' _ _ _ =>
          match H.get b' with
          | some (.cells v' _ _ _ _ _) => if v' = ver' then (if b' = b then none else some (.v (.bool false))) else none
          | _ => none
        | _ => none
      else none
    | _ => none
  | _ => none

theorem run_laps {P : Program} (w : World) (tS tR e : TypeId) (ht : P.underlying tS = some (.slice e)) (size : Nat) (hz : ∀ w, (Go.sizeOf e).run P w = .ok size w)
    (a b : Addr) (la ca lb cb : Nat) (hne : a.block ≠ b.block) {arrA arrB : Array Value} {eA eB : TypeId} {fzA : Nat × Nat}
    (hA : w.heap[a.block]? = some (.cells arrA eA fzA)) (hB : w.heap[b.block]? = some (.cells arrB eB (0, 0))) (hn : la = 0 ∨ arrA.size ≠ 0 ∨ fzA = (0, 0)) :
    (Extern.SlicesOverlaps.overlaps #[tS, tS] #[tR] #[.slice (some a) la ca, .slice (some b) lb cb]).run P w = .ok (.bool false) w := by
  have hnb : (a.block != b.block) = true := by simpa using hne
  have hnb' : (a.block == b.block) = false := by simpa using hne
  change Sem.run P (α := Value) (do
    let some t := (#[tS, tS] : Array TypeId)[0]? | stuck "slices.overlaps: no parameter types"
    let .slice elem ← underlying t | stuck "slices.overlaps: slice type expected"
    let size ← sizeOf elem
    match (some a : Option Addr), (some b : Option Addr) with
    | some a, some b =>
      if la = 0 ∨ lb = 0 ∨ size = 0 then pure (Value.bool false)
      else if a.block != b.block && (← frozen a) && (← frozen b) then unsupported .addressObserved
      else do
        if a.block != b.block then do
          noView a; noView b
          if ← mayBeOne a b then return Value.bool ((← choose (.extern "sameAddr.stringBytes" 2)) == 1)
        pure (Value.bool (a.block == b.block && a.off < b.off + lb * size && b.off < a.off + la * size))
    | _, _ => pure (Value.bool false)) w = _
  have hsa : w.shape? a.block = some (eA, arrA.size) := by simp [World.shape?, hA]
  have hsb : w.shape? b.block = some (eB, arrB.size) := by simp [World.shape?, hB]
  have hfb : ∀ o, w.frozen? { block := b.block, off := o } = false := fun o => by simp [World.frozen?, hB]
  have hfb' : w.frozen? b = false := by simp [World.frozen?, hB]
  by_cases h0 : la = 0 ∨ lb = 0 ∨ size = 0
  · simp [run_underlying ht, hz, h0]
  · have hn' : arrA.size ≠ 0 ∨ fzA = (0, 0) := by
      rcases hn with h | h
      · exact absurd (Or.inl h) h0
      · exact h
    rcases hn' with hk | hk
    · cases hka : arrA.size with
      | zero => exact absurd hka hk
      | succ n =>
        rw [hka] at hsa
        generalize hfa : w.frozen? a = fa
        generalize hfe : w.frozen? { block := a.block, off := n + 1 } = fe
        cases fa <;> cases fe <;> simp [run_underlying ht, hz, h0, hnb, hnb', frozen, noView, viewAt, mayBeOne, stringish, shape, Sem.run, hsa, hsb, hfa, hfe, hfb, hfb']
    · subst hk
      have hfa : ∀ o, w.frozen? { block := a.block, off := o } = false := fun o => by simp [World.frozen?, hA]
      have hfa' : w.frozen? a = false := by simp [World.frozen?, hA]
      simp [run_underlying ht, hz, h0, hnb, hnb', frozen, noView, viewAt, mayBeOne, stringish, shape, Sem.run, hsa, hsb, hfa, hfa', hfb, hfb']

theorem run_laps0 {P : Program} (w : World) (tS tR e : TypeId) (ht : P.underlying tS = some (.slice e)) (size : Nat) (hz : ∀ w, (Go.sizeOf e).run P w = .ok size w) (a b : Addr) (ca lb cb : Nat) :
    (Extern.SlicesOverlaps.overlaps #[tS, tS] #[tR] #[.slice (some a) 0 ca, .slice (some b) lb cb]).run P w = .ok (.bool false) w := by
  change Sem.run P (α := Value) (do
    let some t := (#[tS, tS] : Array TypeId)[0]? | stuck "slices.overlaps: no parameter types"
    let .slice elem ← underlying t | stuck "slices.overlaps: slice type expected"
    let size ← sizeOf elem
    match (some a : Option Addr), (some b : Option Addr) with
    | some a, some b =>
      if (0 : Nat) = 0 ∨ lb = 0 ∨ size = 0 then pure (Value.bool false)
      else if a.block != b.block && (← frozen a) && (← frozen b) then unsupported .addressObserved
      else do
        if a.block != b.block then do
          noView a; noView b
          if ← mayBeOne a b then return Value.bool ((← choose (.extern "sameAddr.stringBytes" 2)) == 1)
        pure (Value.bool (a.block == b.block && a.off < b.off + lb * size && b.off < a.off + 0 * size))
    | _, _ => pure (Value.bool false)) w = _
  simp [run_underlying ht, hz]

theorem exh_laps {P : Program} {f : FuncId} {fn : Func} (hf : P.funcs[f]? = some fn) (hb : fn.body = none) (hn : (fn.name == "runtime.NumGoroutine") = false) (h1 : (Extern.findNext fn).isNone = true)
    {tS tR e : TypeId} (h2 : Extern.find fn = some (Extern.SlicesOverlaps.overlaps #[tS, tS] #[tR])) (ht : P.underlying tS = some (.slice e)) {size : Nat} (hz : ∀ w, (Go.sizeOf e).run P w = .ok size w)
    {args : List AV} {v : AV} {H : Heap} (h : lapsA args H = some v) (Z : Fzn) (ρ : Pls) (w : World) (vals : List Value) (hs : Sim Z ρ H w) (hl : RepL Z ρ args vals) : FnMeets P f vals w (After Z ρ H w v H) := by
  have hrow : ∀ {b : Nat} {v m : Nat} {t : TypeId} {sz : Nat} {g : Bool} {cs : List AV} {pl : Pl}, H.get b = some (.cells v m t sz g cs) → ρ b v = some pl → ∃ arr e, w.heap[pl.blk]? = some (.cells arr e (0, 0)) ∧ Z pl.blk = none := by
    intro b v m t sz g cs pl hg hp
    obtain ⟨pl', obj, q1, q2, q3, q4⟩ := hs.objs b _ hg rfl
    simp only [AObj.ver] at q1
    rw [hp] at q1; cases q1
    cases obj <;> simp only [RepO] at q3
    obtain ⟨rfl, -⟩ := q3
    exact ⟨_, _, q2, q4⟩
  have key : ∀ (a b : Addr) (la ca lb cb : Nat), vals = [.slice (some a) la ca, .slice (some b) lb cb] → a.block ≠ b.block → (∃ arrA eA fzA, w.heap[a.block]? = some (.cells arrA eA fzA) ∧ (la = 0 ∨ arrA.size ≠ 0 ∨ fzA = (0, 0))) →
      (∃ arrB eB, w.heap[b.block]? = some (.cells arrB eB (0, 0))) → FnMeets P f vals w (After Z ρ H w (.v (.bool false)) H) := by
    rintro a b la ca lb cb rfl hne ⟨arrA, eA, fzA, hA, hna⟩ ⟨arrB, eB, hB⟩
    refine Or.inl ⟨.bool false, w, ?_, Z, ρ, .v rfl, hs, Ext.refl _ _ _ _⟩
    have hfn : Extern.findNext fn = none := Option.isNone_iff_eq_none.1 h1
    have := run_laps (P := P) w tS tR e ht size hz a b la ca lb cb hne hA hB hna
    have hn' : ¬ fn.name = "runtime.NumGoroutine" := by
      intro e; rw [e] at hn; simp at hn
    simp [callFunc, hf, hn', hb, hfn, h2, this]
  unfold lapsA at h
  split at h
  · rename_i x b ver off len cap
    obtain ⟨v1, ws, rfl, hv1, hl⟩ := hl.uncons
    obtain ⟨v2, ws, rfl, hv2, hl⟩ := hl.uncons
    have : ws = [] := by have := hl.1; exact List.length_eq_zero_iff.1 this.symm
    subst this
    split at h
    · rename_i vr m t sz g cs hg
      split at h
      · rename_i hver
        subst hver
        cases hv2 with
        | sl hp hc hcn hle =>
        obtain ⟨arrB, eB, hB, hZ⟩ := hrow hg hp
        split at h
        · rename_i sz xs cap1
          split at h
          · cases h
          · rename_i hsz
            simp only [Option.some.injEq] at h; subst h
            cases hv1 with
            | vs hz' ha hs' hl' h' hc' hle' =>
              refine key _ _ _ _ _ _ rfl ?_ ?_ ⟨_, _, hB⟩
              · intro hE
                simp only at hE
                rw [hE, hZ] at hz'; cases hz'
              · refine ⟨_, _, _, hs.zok _ _ hz', ?_⟩
                by_cases hx : xs.length = 0
                · exact .inl hx
                · right; left
                  intro h0
                  have hlen := congrArg List.length ha
                  simp only [Array.length_toList, h0, List.length_append] at hlen
                  cases xs with
                  | nil => exact hx rfl
                  | cons y ys =>
                    have hy := hs' y (by simp)
                    simp only [List.flatMap_cons, List.length_append] at hl'
                    omega
            | vs0 hc' =>
              rename_i a
              refine Or.inl ⟨.bool false, w, ?_, Z, ρ, .v rfl, hs, Ext.refl _ _ _ _⟩
              have hfn : Extern.findNext fn = none := Option.isNone_iff_eq_none.1 h1
              have : ∀ b ca cb lb, (Extern.SlicesOverlaps.overlaps #[tS, tS] #[tR] #[.slice (some a) 0 ca, .slice (some b) lb cb]).run P w = .ok (.bool false) w := fun b ca cb lb => run_laps0 w tS tR e ht size hz a b ca lb cb
              have hn' : ¬ fn.name = "runtime.NumGoroutine" := by
                intro e; rw [e] at hn; simp at hn
              simp [callFunc, hf, hn', hb, hfn, h2, this]
        · rename_i b' ver' off' len' cap'
          split at h
          · rename_i vr' m' t' sz' g' cs' hg'
            split at h
            · rename_i hver'
              subst hver'
              split at h
              · cases h
              · rename_i hbb
                simp only [Option.some.injEq] at h; subst h
                cases hv1 with
                | sl hp' hc' hcn' hle' =>
                obtain ⟨arrA, eA, hA, hZ'⟩ := hrow hg' hp'
                refine key _ _ _ _ _ _ rfl ?_ ⟨_, _, _, hA, .inr (.inr rfl)⟩ ⟨_, _, hB⟩
                intro hE
                exact hbb (hs.inj b' b _ _ _ _ hg' rfl hg rfl (by simpa [AObj.ver] using hp') (by simpa [AObj.ver] using hp) hE)
            · cases h
          · cases h
        · cases h
      · cases h
    · cases h
  · cases h

theorem extOK_laps {C C' : Cfg} (hP : C'.P = C.P) {f : FuncId} (hg : ∀ args v H, lapsA args H = some v → ∀ (Z : Fzn) (ρ : Pls) (w : World) (vals : List Value), Sim Z ρ H w → RepL Z ρ args vals → FnMeets C.P f vals w (After Z ρ H w v H))
    (hext : ExtOK C) (he : C'.ext = C.ext := by rfl) (hlay : C'.lay = C.lay := by rfl) (hexh : C'.exh = fun f' => if Nat.beq f' f then some lapsA else C.exh f') : ExtOK C' := by
  refine ⟨fun f' g' hf' => by rw [hP]; rw [he] at hf'; exact hext.ext f' g' hf', fun f' g' hf' => by rw [hP]; rw [hlay] at hf'; exact hext.lay f' g' hf', fun f' g' hf' args v H hv Z ρ w vals hs hl => ?_⟩
  rw [hP]
  rw [hexh] at hf'
  simp only at hf'
  split at hf'
  · rename_i hb
    have := Nat.eq_of_beq_eq_true hb
    subst this
    simp only [Option.some.injEq] at hf'
    subst hf'
    exact hg args v H hv Z ρ w vals hs hl
  · exact hext.exh f' g' hf' args v H hv Z ρ w vals hs hl
end Go.Ev
/- A function of Go's library that stands for itself: internal/bytealg.IndexByteString. -/
namespace Go.Ev

/-! ### the first byte of a kind -/
def idxB (c : Nat) : Int → List UInt8 → Int
  | _, [] => -1
  | i, b :: r => if Nat.beq b.toNat c then i else idxB c (i + 1) r
theorem idxB_eq (c : UInt8) : ∀ (l : List UInt8) (i : Int), idxB c.toNat i l = if Lib.indexByte l c = -1 then -1 else Lib.indexByte l c + i
  | [], i => by simp [idxB, Lib.indexByte]
  | b :: l, i => by
    unfold idxB Lib.indexByte
    by_cases h : b = c
    · subst h
      have h1 : Nat.beq b.toNat b.toNat = true := Nat.beq_refl _
      simp
    · have h1 : Nat.beq b.toNat c.toNat = false := by
        cases hb : Nat.beq b.toNat c.toNat
        · rfl
        · exact absurd (UInt8.toNat_inj.1 (Nat.eq_of_beq_eq_true hb)) h
      have hge := Lib.indexByte_ge l c
      rw [h1, idxB_eq c l (i + 1)]
      simp only [Bool.false_eq_true, if_false, beq_iff_eq, h]
      by_cases h2 : Lib.indexByte l c = -1
      · simp [h2]
      · simp only [h2, if_false]
        rw [if_neg (by omega)]; omega
def idxStr : List AV → Option AV
  | [.v (.string s), .v (.int .u8 c)] => if 0 ≤ c ∧ c < 256 then some (.v (.int .i64 (idxB c.toNat 0 s.data.toList))) else none
  | _ => none
theorem ext_idx {P : Program} {f : FuncId} {fn : Func} (hf : P.funcs[f]? = some fn) (hb : fn.body = none) (hn : (fn.name == "runtime.NumGoroutine") = false) (h1 : (Extern.findNext fn).isNone = true) (h2 : Extern.find fn = some Extern.BytealgIndexByte.indexByte)
    {args : List AV} {v : AV} (h : idxStr args = some v) (Z : Fzn) (ρ : Pls) (H : Heap) (w : World) (vals : List Value) (hs : Sim Z ρ H w) (hl : RepL Z ρ args vals) : FnMeets P f vals w (After Z ρ H w v H) := by
  unfold idxStr at h
  split at h
  · rename_i s c
    split at h
    · rename_i hc
      obtain ⟨v1, ws, rfl, hv1, hl⟩ := hl.uncons
      obtain ⟨v2, ws, rfl, hv2, hl⟩ := hl.uncons
      have : ws = [] := List.length_eq_zero_iff.1 hl.1.symm
      subst this
      obtain ⟨rfl, -⟩ := hv1.v_inv
      obtain ⟨rfl, -⟩ := hv2.v_inv
      simp only [Option.some.injEq] at h
      subst h
      refine Or.inl ⟨.int .i64 (Lib.indexByte s.data.toList c.toNat.toUInt8), w, ?_, Z, ρ, ?_, hs, Ext.refl _ _ _ _⟩
      · have hfn : Extern.findNext fn = none := Option.isNone_iff_eq_none.1 h1
        have := Lib.run_indexByteString (P := P) s c w
        have hn' : ¬ fn.name = "runtime.NumGoroutine" := by
          intro e; rw [e] at hn; simp at hn
        simp [callFunc, hf, hn', hb, hfn, h2, this]
      · have hcn : c.toNat.toUInt8.toNat = c.toNat := by
          have : c.toNat < 256 := by omega
          simp [Nat.toUInt8, Nat.mod_eq_of_lt this]
        have := idxB_eq c.toNat.toUInt8 s.data.toList 0
        rw [hcn] at this
        have e : idxB c.toNat 0 s.data.toList = Lib.indexByte s.data.toList c.toNat.toUInt8 := by
          rw [this]; split
          · rename_i h; exact h.symm
          · omega
        rw [e]; exact .v rfl
    · cases h
  · cases h
end Go.Ev
/- The configuration over this seat's program, for closed evaluations. Made by program. -/
namespace Go.Ev
open Go.Proofs
set_option maxRecDepth 1000000
def impF : List Nat := [178, 179, 208, 211, 225, 229, 232, 235, 243, 247, 263, 264, 265, 267, 268, 282, 285, 286, 287, 288, 289, 290, 291, 292, 293, 294, 295, 296, 298, 299, 312, 313, 314, 315, 316, 317, 318, 319, 320, 321, 322, 328, 329, 330, 331, 335]
def impC : List (Nat × Nat × Nat) := [(177, 230, 7), (164, 106, 19), (167, 168, 8), (71, 123, 33), (87, 138, 4), (96, 157, 55), (6, 48, 141), (6, 48, 142), (6, 48, 143)]
def altF : List Nat := [48]
def altC : List (Nat × Nat) := []
def nearF : List Nat := []
def nearC : List (Nat × Nat) := []
def keepF : Nat → List Nat
  | 2 => []
  | 3 => [0, 2, 19, 5, 6, 8, 7, 9, 10, 12, 11, 13, 67, 1, 14, 15, 16, 17, 4]
  | 4 => [0, 3, 21, 7, 1, 2, 8, 10, 9, 11, 12, 14, 13, 15, 66, 16, 17, 18, 19, 6]
  | 5 => [0, 1, 16, 3, 4, 6, 5, 7, 8, 10, 9, 11, 60, 59, 61, 13, 72, 71, 73, 14, 12, 2]
  | 6 => [28, 2, 1, 4, 3, 6, 5, 8, 7, 10, 9, 12, 11, 14, 13, 15, 140, 16, 17, 18, 20, 22, 21, 24, 0]
  | 7 => [0, 2, 5, 35, 6, 42, 41, 43, 40, 7, 1, 8, 9, 61, 60, 62, 10, 71, 70, 72, 69, 12, 14, 84, 95, 11, 103, 13, 143, 16, 15, 18, 17, 170, 173, 172, 174, 171, 19, 22, 21, 20, 217, 222, 221, 223, 220, 23, 24, 26, 27, 25, 257, 4]
  | 8 => [0, 1, 3, 27, 6, 5, 4, 53, 55, 8, 10, 9, 7, 86, 90, 89, 91, 88, 11, 14, 102, 12, 106, 105, 107, 111, 110, 112, 109, 17, 19, 16, 13, 129, 130, 15, 171, 2]
  | 9 => [0, 1, 2, 3, 5, 35, 6, 47, 8, 10, 9, 7, 69, 81, 14, 12, 11, 13, 107, 110, 109, 111, 15, 17, 19, 148, 18, 151, 150, 152, 149, 16, 21, 158, 4]
  | 10 => [0, 3, 7, 35, 8, 46, 10, 53, 9, 56, 55, 57, 54, 12, 11, 82, 1, 14, 13, 104, 16, 15, 18, 17, 130, 134, 133, 135, 2, 20, 141, 19, 150, 154, 153, 155, 152, 21, 163, 162, 164, 161, 169, 168, 170, 167, 25, 22, 27, 24, 186, 6]
  | 11 => [0, 2, 5, 19, 6, 30, 8, 7, 62, 1, 9, 10, 11, 4]
  | 12 => [0, 2, 5, 30, 37, 36, 38, 35, 6, 7, 1, 8, 9, 10, 83, 12, 14, 11, 13, 16, 18, 15, 17, 126, 20, 133, 142, 141, 143, 140, 21, 19, 22, 162, 4]
  | 13 => [0, 2, 5, 39, 1, 6, 52, 51, 53, 8, 7, 9, 11, 10, 12, 13, 15, 14, 16, 109, 17, 18, 19, 20, 149, 153, 152, 154, 21, 22, 24, 23, 25, 181, 4]
  | 14 => [0, 2, 5, 28, 1, 6, 9, 46, 8, 54, 53, 55, 52, 13, 14, 7, 75, 10, 11, 4]
  | 15 => [0, 2, 5, 28, 1, 6, 8, 7, 61, 64, 63, 65, 62, 72, 71, 73, 70, 14, 11, 82, 12, 10, 9, 113, 116, 4]
  | 16 => [0, 2, 5, 34, 7, 47, 9, 8, 6, 90, 98, 97, 99, 96, 12, 14, 16, 11, 13, 15, 168, 171, 10, 18, 17, 186, 1, 19, 20, 22, 24, 230, 234, 233, 235, 232, 26, 25, 249, 21, 23, 4]
  | 17 => [0, 1, 3, 31, 5, 7, 48, 6, 4, 70, 74, 73, 75, 72, 8, 83, 9, 91, 10, 109, 108, 110, 107, 12, 14, 11, 126, 16, 18, 20, 15, 17, 19, 181, 21, 23, 22, 2]
  | 18 => [0, 1, 3, 25, 5, 7, 9, 51, 53, 6, 64, 8, 67, 66, 68, 65, 74, 73, 75, 72, 15, 17, 88, 13, 14, 16, 12, 104, 10, 4, 116, 2]
  | 19 => [0, 1, 25, 3, 30, 40, 4, 49, 63, 5, 68, 78, 2]
  | 20 => [0, 1, 4, 18, 3, 5, 45, 6, 2]
  | 21 => [0, 1, 5, 12, 4, 2, 3]
  | 22 => [0, 1, 4, 8, 2, 3]
  | 23 => [0, 1, 5, 12, 4, 2, 3]
  | 24 => [0, 1, 5, 12, 4, 2, 3]
  | 25 => [0, 1, 4, 2]
  | 26 => [0, 1, 3, 10, 14, 2]
  | 27 => [0, 1, 10, 5, 14, 25, 4]
  | 28 => [0, 2, 1, 7, 18, 6, 23, 4, 5]
  | 29 => [0, 2, 1, 7, 24, 9, 34, 11, 6, 40, 10, 55, 8, 4, 5]
  | 30 => [0, 1, 5, 14, 6, 22, 21, 23, 7, 4, 2, 3]
  | 31 => [0, 1, 5, 12, 4, 2, 3]
  | 32 => [0, 1, 2, 3, 38, 5, 43, 74, 6, 79, 125, 4]
  | 33 => [0, 2, 1, 7, 18, 4, 6, 24, 5]
  | 34 => [0, 2, 1, 7, 23, 4, 6, 8, 10, 41, 9, 5]
  | 35 => [0, 2, 1, 7, 18, 6, 4, 5]
  | 36 => [0, 2, 6, 13, 1, 21, 8, 34, 9, 47, 7, 4, 5]
  | 37 => [0, 1, 5, 12, 4, 2, 3]
  | 38 => [0, 1, 5, 16, 8, 23, 7, 9, 6, 4, 42, 2, 3]
  | 39 => [0, 1, 5, 12, 4, 17, 2, 3]
  | 40 => [0, 1, 5, 14, 4, 18, 7, 23, 6, 32, 2, 3]
  | 41 => [0, 1, 5, 12, 2, 4, 3]
  | 42 => [0, 1, 5, 20, 2, 4, 8, 6, 32, 44, 7, 9, 10, 63, 13, 68, 12, 100, 3]
  | 43 => [0, 1, 5, 12, 4, 2, 3]
  | 44 => [0, 1, 5, 19, 4, 10, 7, 35, 12, 6, 41, 11, 68, 9, 2, 3]
  | 45 => [0, 1, 2, 3, 22, 5, 27, 40, 6, 45, 58, 4]
  | 46 => [0, 1, 10, 5, 14, 25, 4]
  | 47 => [2, 1, 4, 3, 6, 5, 8, 7, 10, 9, 12, 11, 14, 13, 16, 15, 18, 17, 20, 19, 0]
  | 48 => [0]
  | 49 => [0, 1, 2, 6]
  | 50 => [0, 1, 2]
  | 51 => [0, 7, 1, 4]
  | 52 => [0, 10, 9, 11, 8, 6, 1, 7, 30, 5, 4]
  | 53 => [0, 1, 2, 12, 5, 16, 32, 6, 37, 53, 4]
  | 54 => [0, 9, 8, 10, 7, 6, 1, 15, 4]
  | 55 => [0, 1, 17, 16, 18, 15, 3, 23, 22, 24, 21, 5, 30, 29, 31, 6, 8, 9, 48, 47, 49, 46, 12, 54, 10, 2]
  | 56 => [0, 3, 16, 15, 17, 14, 7, 9, 34, 33, 35, 2, 10, 39, 1, 11, 6]
  | 57 => [0, 1, 10, 5, 19, 30, 4]
  | 58 => [0, 3, 2, 19, 18, 20, 1, 24, 23, 25, 22, 11, 8, 33, 9, 7, 6]
  | 59 => [0, 1, 3, 17, 5, 22, 31, 6, 36, 2, 46, 7, 49, 64, 4]
  | 60 => [0, 1, 15, 3, 20, 40, 4, 45, 5, 63, 2]
  | 61 => [0, 1, 2, 3, 4, 5, 10, 20, 6, 8, 9, 7]
  | 62 => [0, 1, 5, 13, 4, 16, 17, 18, 6, 2, 3]
  | 63 => [0, 1, 2, 7, 16, 4, 5, 6, 20, 21, 22, 8, 3, 25, 9]
  | 64 => [0, 1, 2, 3, 4, 5, 10, 20, 8, 9, 6, 7]
  | 65 => [0, 1, 2, 3, 4, 5, 10, 20, 8, 9, 6, 7]
  | 66 => [0, 1, 2, 3, 7, 17, 6, 8, 9, 4, 5]
  | 67 => [0, 1, 2, 7, 14, 6, 3, 19, 4, 5]
  | 68 => [0, 1, 9, 3, 14, 24, 4, 33, 46, 5, 58, 74, 2]
  | 69 => [0, 4, 1, 11, 6, 29, 5, 3, 2]
  | 70 => [0, 1, 2]
  | 71 => [0, 1, 4, 12, 2, 28, 5, 3]
  | 72 => [0, 1, 4, 12, 3, 5, 38, 45, 2]
  | 73 => [0, 1, 5, 4, 18, 2, 3]
  | 74 => [0, 2, 6, 11, 1, 14, 7, 19, 4, 5]
  | 75 => [0, 1, 2, 5, 9, 3, 14, 4]
  | 76 => [0, 1, 19, 3, 24, 4, 61, 5, 66, 94, 6, 99, 7, 125, 8, 128, 139, 9, 144, 161, 2]
  | 77 => [0, 3, 9, 1, 2, 22, 8, 6, 7]
  | 78 => [0, 1, 2, 3, 4]
  | 79 => [0, 1, 2, 6]
  | 80 => [0, 2, 1, 5, 11, 4]
  | 81 => [0, 1, 6, 16, 7, 5, 22, 38, 4]
  | 82 => [0, 1, 2, 3, 15, 5, 20, 6, 7, 46, 8, 51, 65, 4]
  | 83 => [0, 1, 10, 5, 14, 25, 4]
  | 84 => [0, 2, 17, 16, 18, 15, 1, 7, 5, 8, 4]
  | 85 => [0, 6, 1, 10, 2, 30, 5, 4]
  | 86 => [0, 1, 2, 3, 5, 18, 17, 19, 6, 4]
  | 87 => [0, 1, 2]
  | 88 => [6, 1, 9, 0, 16, 5, 4]
  | 89 => [5, 0, 10, 6, 15, 1, 27, 4]
  | 90 => [0, 1, 2]
  | 91 => [0, 1, 2]
  | 92 => [6, 10, 8, 0, 16, 1, 27, 7, 5, 4]
  | 93 => [0, 1, 24, 23, 25, 5, 6, 31, 4, 8, 56, 2, 7, 3]
  | 94 => [0, 1, 2, 3, 4, 8, 15, 6, 5, 21, 9, 7]
  | 95 => [0, 1, 2, 3, 4, 8, 17, 6, 23, 9, 5, 36, 10, 42, 11, 63, 12, 7]
  | 96 => [0, 1, 5, 22, 30, 4, 35, 34, 36, 33, 7, 9, 43, 45, 6, 10, 51, 2, 3]
  | 97 => [0, 1, 2, 3, 6, 17, 10, 9, 27, 11, 32, 8, 12, 59, 7, 4, 5]
  | 98 => [0, 1, 2, 3, 4]
  | 99 => [1, 0]
  | 100 => [0, 1, 2, 3, 8]
  | 101 => [0, 1, 2]
  | 102 => [0, 1, 3, 11, 2, 19, 20, 5, 41, 7, 59, 77, 6, 4]
  | 103 => [0, 1, 2, 3, 4, 10, 19, 6, 5, 29, 9, 11, 7, 8]
  | 104 => [0, 2, 1, 5, 12, 4, 6]
  | 105 => [0, 1, 6, 2, 3]
  | 106 => [0, 1, 2]
  | 107 => [0, 1, 2, 3, 4, 10, 19, 6, 5, 24, 9, 11, 31, 7, 8]
  | 108 => [0, 10, 9, 11, 8, 1, 6, 17, 5, 7, 4]
  | 109 => [0, 2, 1, 9, 10, 6, 5, 14, 4]
  | 110 => [0, 1, 2, 6, 17, 4, 3, 25, 24, 26, 23, 9, 33, 32, 34, 31, 11, 40, 39, 41, 38, 7, 8, 10, 12, 13, 73, 5]
  | 111 => [0, 1, 8, 7, 9, 3, 4, 2]
  | 112 => [0, 10, 9, 11, 8, 1, 6, 17, 5, 7, 4]
  | 113 => [1, 0, 2, 4]
  | 114 => [0, 8, 7, 9, 1, 5, 16, 4]
  | 115 => [0, 1, 4]
  | 116 => [0, 1, 4]
  | 117 => [0, 1, 3, 2, 4]
  | 118 => [0, 1, 3, 2, 13, 5, 27, 4]
  | 119 => [0, 1, 2, 3, 6, 4]
  | 120 => [0, 1, 12, 15, 14, 16, 13, 2, 7, 9, 8, 5, 38, 4]
  | 121 => [0, 10, 14, 13, 15, 12, 5, 7, 1, 27, 4]
  | 122 => [0, 2]
  | 123 => [0, 1, 2]
  | 124 => [0, 1, 5, 2]
  | 125 => [0, 1, 2, 3, 6, 5, 4]
  | 126 => [0, 1, 2, 3, 9, 19, 4]
  | 127 => [0, 1, 2]
  | 128 => [0, 1, 2, 3, 4]
  | 129 => [1, 0, 4]
  | 130 => [0, 8, 7, 9, 1, 6, 13, 5, 4]
  | 131 => [1, 2, 0, 4]
  | 132 => [0, 1, 2, 3, 4, 5, 6]
  | 133 => [0, 1, 2, 5, 3, 4, 6]
  | 134 => [0, 8, 7, 9, 1, 6, 13, 5, 4]
  | 135 => [1, 0, 2, 3, 5]
  | 136 => [0, 2, 5, 1, 3, 4, 10]
  | 137 => [1, 0, 8, 9, 6, 3, 7, 5, 17, 4]
  | 138 => [0, 1, 2]
  | 139 => [0, 1, 4]
  | 140 => [0, 8, 7, 9, 6, 5, 3, 14, 2]
  | 141 => [0, 1, 5, 11, 6, 12, 13, 16, 19, 4]
  | 142 => [0, 11, 10, 12, 9, 5, 1, 19, 6, 7, 8, 28, 35, 4]
  | 143 => [7, 2, 11, 0, 1, 28, 6]
  | 144 => [1, 0, 3]
  | 145 => [1, 0, 8, 9, 6, 3, 7, 5, 17, 4]
  | 146 => [0, 1, 2]
  | 147 => [2, 0, 1, 5]
  | 148 => [0, 2, 1, 12, 11, 13, 10, 5, 7, 4]
  | 149 => [0, 4, 2]
  | 150 => [0, 4, 2]
  | 151 => [0, 1, 2, 3, 4, 5, 6, 11, 10, 7, 27, 8, 9]
  | 152 => [0, 1, 3, 4, 7, 5, 10, 11, 13, 2, 31, 12, 53, 8, 9]
  | 153 => [0, 4, 8, 5, 1, 15, 6, 31, 3, 2]
  | 154 => [0, 1, 12, 11, 13, 10, 6, 8, 31, 4, 7, 2, 3]
  | 155 => [0, 1, 4]
  | 156 => [0, 3, 2]
  | 157 => [0, 1, 2]
  | 158 => [0, 4, 1, 11, 5, 22, 6, 36, 3, 2]
  | 159 => [0, 1, 2, 3, 8, 6, 18, 7, 5, 9, 4]
  | 160 => [5, 0, 1, 17, 31, 4]
  | 161 => [5, 0, 9, 21, 1, 4]
  | 162 => [0, 1, 2, 6]
  | 163 => [3, 0, 7, 19, 2]
  | 164 => [0, 1, 2, 7, 16, 4, 5, 6, 19, 20, 21, 9, 3, 24, 8]
  | 165 => [0, 1, 2, 5, 10, 11, 6, 14, 4]
  | 166 => [0, 1, 11, 15, 14, 16, 13, 4, 3, 38, 2]
  | 167 => [0, 1, 8, 9, 10, 4, 13, 12, 14, 11, 5, 3, 2, 6, 24]
  | 168 => [0, 1, 2]
  | 169 => [0, 1, 2]
  | 170 => [1, 0, 3, 4]
  | 171 => [1, 0, 2, 4]
  | 172 => [0, 1, 2, 3, 4]
  | 173 => [0, 1, 2, 3, 4]
  | 174 => [0, 1, 4, 2]
  | 175 => [0, 2]
  | 176 => [0, 1, 10, 14, 13, 15, 12, 5, 7, 2, 27, 4]
  | 177 => [0, 1, 2, 5, 4]
  | 178 => [0, 8, 3, 13, 25, 5, 4, 32, 44, 2]
  | 179 => [0, 5, 1, 4]
  | 180 => [0, 1, 2]
  | 181 => [0, 1, 4]
  | 182 => [1, 0, 4]
  | 183 => [0, 1, 3, 14, 18, 17, 19, 16, 6, 7, 35, 5, 2, 4]
  | 184 => [0, 2, 1, 28, 31, 30, 32, 29, 6, 5, 48, 4]
  | 185 => [0, 1, 6, 7, 2, 5, 4]
  | 186 => [1, 8, 7, 9, 3, 18, 17, 19, 5, 4, 32, 0, 37]
  | 187 => [0, 2, 1, 14, 13, 15, 12, 5, 7, 4]
  | 188 => [0, 2, 5, 14, 13, 15, 6, 1, 4]
  | 189 => [0, 1, 12, 3, 17, 4, 35, 5, 38, 49, 6, 54, 64, 7, 72, 84, 2]
  | 190 => [0, 1, 3, 2, 28, 4, 5]
  | 191 => [0, 1, 2, 6]
  | 192 => [0, 1, 9, 8, 10, 7, 6, 2, 22, 4]
  | 193 => [1, 0, 2, 3, 5]
  | 194 => [1, 2, 0, 3, 5]
  | 195 => [0]
  | 196 => [1, 10, 9, 11, 3, 4, 0, 27]
  | 197 => [1, 0, 3]
  | 198 => [0, 2, 15, 14, 16, 13, 1, 21, 20, 22, 19, 10, 7, 8, 5, 34, 4]
  | 199 => [0, 2]
  | 200 => [1, 7, 6, 8, 5, 0, 4, 14]
  | 201 => [0, 1, 2, 3, 4, 5, 10, 20, 6, 9, 7]
  | 202 => [1, 2, 0, 4, 5, 6]
  | 203 => [0, 1, 9, 8, 10, 7, 3, 5, 2]
  | 204 => [0, 1, 6, 14, 2, 8, 22, 5, 10, 40, 9, 7, 43, 4]
  | 205 => [0, 1, 3, 8, 9, 2, 15, 4, 28, 6]
  | 206 => [0, 1, 2, 3, 9, 4]
  | 207 => [0, 1, 5, 2, 11, 6, 3, 33, 4]
  | 208 => [0, 2]
  | 209 => [0, 2]
  | 210 => [1, 5, 7, 0, 3, 13]
  | 211 => [0, 1, 4, 16, 3, 2]
  | 212 => [0, 2, 14, 13, 15, 12, 1, 7, 9, 8, 42, 4, 5]
  | 213 => [0, 1, 9, 8, 10, 7, 6, 2, 22, 4]
  | 214 => [0, 2]
  | 215 => [1, 0, 3, 4]
  | 216 => [0, 12, 15, 14, 16, 4, 25, 31, 30, 32, 29, 6, 37, 3, 2]
  | 217 => [1, 10, 9, 11, 8, 4, 18, 17, 19, 0, 3, 5, 31]
  | 218 => [0, 2]
  | 219 => [0, 1, 9, 8, 10, 7, 6, 2, 22, 4]
  | 220 => [1, 0, 8, 7, 9, 3, 5, 16, 4]
  | 221 => [1, 11, 10, 12, 9, 6, 4, 2, 0, 37]
  | 222 => [0]
  | 223 => [0, 1, 5, 11, 6, 12, 13, 16, 19, 4]
  | 224 => [0, 1, 2, 3, 4]
  | 225 => [0, 1, 4]
  | 226 => [0, 1, 2]
  | 227 => [0, 1, 2]
  | 228 => [0, 1, 3, 2, 4]
  | 229 => [0, 5, 1, 4]
  | 230 => [0, 1, 2]
  | 231 => [0, 1, 2, 3, 4]
  | 232 => [0, 11, 10, 12, 9, 3, 5, 20, 21, 22, 7, 31, 2]
  | 233 => [0, 10, 9, 11, 8, 1, 6, 17, 5, 7, 4]
  | 234 => [1, 2, 0, 4]
  | 235 => [0, 4, 1]
  | 236 => [1, 7, 6, 8, 5, 0, 4, 14]
  | 238 => [0, 1, 2, 3, 4]
  | 239 => [0, 1, 4]
  | 240 => [0, 1, 4]
  | 241 => [0, 1, 2, 3, 4, 6, 8, 17, 7, 25, 5, 9, 38]
  | 242 => [0, 1, 2, 6, 32, 4, 5]
  | 243 => [0, 1, 6, 7, 2, 5, 4]
  | 244 => [2, 1, 10, 23, 0, 3, 29, 8, 35, 12, 50, 11, 9, 68, 72, 87, 13, 15, 14, 16, 17, 113, 18]
  | 245 => [0, 2]
  | 246 => [0, 1, 4, 5]
  | 247 => [0, 1, 4]
  | 248 => [0, 2, 1, 3]
  | 249 => [0, 2]
  | 250 => [0, 9, 12, 11, 13, 3, 24, 2]
  | 251 => [0]
  | 252 => [0, 2]
  | 253 => [0, 1, 3, 4]
  | 254 => [0, 2, 3, 1, 6]
  | 255 => [0, 1, 3, 2, 4]
  | 256 => [0, 1, 2, 3, 4]
  | 257 => [0, 2, 3, 1, 5, 6]
  | 258 => [0, 1, 2, 3, 4]
  | 259 => [0, 2, 3, 5, 6]
  | 260 => [0, 1, 3, 4]
  | 261 => [0, 2, 6]
  | 262 => [0, 2]
  | 263 => [0, 8, 7, 9, 1, 5, 16, 4]
  | 264 => [0, 2]
  | 265 => [0, 4, 1]
  | 266 => [1, 7, 6, 8, 5, 0, 4, 14]
  | 267 => [0, 1, 2]
  | 268 => [2, 1, 12, 25, 0, 4, 3, 32, 10, 39, 14, 56, 13, 11, 75, 80, 97, 15, 17, 16, 18, 19, 125, 20]
  | 269 => [0, 11, 10, 12, 9, 3, 5, 20, 27, 26, 28, 25, 6, 8, 2]
  | 270 => [1, 6, 2, 12, 7, 0, 30]
  | 271 => [1, 2, 8, 9, 19, 0, 6, 10, 30, 7]
  | 272 => [2, 1, 6, 15, 9, 33, 7, 8, 10, 43, 0]
  | 273 => [2, 1, 8, 32, 34, 0, 10, 9, 11, 12, 49, 51, 54, 6, 7]
  | 274 => [1, 2, 6, 7, 13, 0]
  | 275 => [1, 8, 14, 7, 2, 0, 32, 37, 41, 61, 9, 65, 78, 98, 10, 103, 116, 6]
  | 276 => [0, 1, 4]
  | 277 => [0, 1, 3, 2, 9, 10, 43, 59, 64, 8]
  | 278 => [0, 1, 3, 2, 10, 11, 43, 60, 65, 112, 129, 134, 8, 9]
  | 279 => [0, 4, 8, 2]
  | 280 => [0, 4, 8, 2, 14]
  | 281 => [0, 1, 9, 4, 5]
  | 282 => [0, 8, 7, 9, 1, 5, 16, 4]
  | 283 => [0, 1, 12, 21, 6, 34, 5, 4]
  | 284 => [1, 0, 3, 4]
  | 285 => [0, 1, 6, 7, 2, 5, 4]
  | 286 => [2, 1, 12, 25, 0, 4, 3, 32, 10, 39, 14, 56, 13, 11, 75, 80, 97, 15, 17, 16, 18, 19, 125, 20]
  | 287 => [1, 3, 8, 0, 18]
  | 288 => [1, 8, 2, 14, 9, 3, 0, 34]
  | 289 => [1, 2, 10, 11, 21, 0, 8, 3, 12, 33, 9]
  | 290 => [2, 1, 8, 17, 11, 35, 9, 10, 12, 45, 0]
  | 291 => [2, 1, 10, 34, 36, 0, 12, 3, 11, 13, 14, 55, 57, 60, 8, 9]
  | 292 => [1, 2, 8, 9, 15, 0]
  | 293 => [1, 10, 16, 9, 2, 3, 0, 36, 41, 45, 65, 11, 69, 84, 104, 12, 109, 124, 8]
  | 294 => [0, 1, 3, 2, 11, 12, 4, 47, 65, 70, 10]
  | 295 => [0, 1, 3, 2, 12, 13, 4, 47, 66, 71, 120, 139, 144, 10, 11]
  | 296 => [1, 6, 0, 16, 4]
  | 297 => [1, 8, 9, 2, 16, 0, 3, 36, 52]
  | 298 => [0, 2]
  | 299 => [0, 2]
  | 300 => [0, 1, 2, 6]
  | 301 => [0, 1, 2, 4, 3, 10]
  | 302 => [0, 2]
  | 303 => [0, 1, 4]
  | 304 => [0, 1, 13, 4]
  | 305 => [0, 1, 16, 4]
  | 306 => [4, 0, 9, 5, 16, 2, 3]
  | 307 => [0, 7, 1, 12, 4]
  | 308 => [0, 7, 1, 15, 4]
  | 309 => [0, 9, 1, 5, 18, 6, 4]
  | 310 => [0, 9, 5, 17, 1, 26, 6, 4]
  | 311 => [1, 0, 8, 7, 9, 3, 5, 16, 4]
  | 312 => [1, 8, 2, 14, 9, 3, 0, 34]
  | 313 => [1, 2, 10, 11, 21, 0, 8, 3, 12, 33, 9]
  | 314 => [2, 1, 8, 17, 11, 35, 9, 10, 12, 45, 0]
  | 315 => [2, 1, 10, 34, 36, 0, 12, 3, 11, 13, 14, 55, 57, 60, 8, 9]
  | 316 => [1, 2, 8, 9, 15, 0]
  | 317 => [1, 10, 16, 9, 2, 3, 0, 36, 41, 45, 65, 11, 69, 84, 104, 12, 109, 124, 8]
  | 318 => [0, 1, 3, 2, 11, 12, 4, 47, 65, 70, 10]
  | 319 => [0, 1, 3, 2, 12, 13, 4, 47, 66, 71, 120, 139, 144, 10, 11]
  | 320 => [1, 10, 11, 2, 18, 4, 0, 3, 40, 58]
  | 321 => [0, 1, 2, 3, 8]
  | 322 => [0, 1, 2, 4, 5, 3, 12]
  | 323 => [0, 2, 1, 18, 3, 8, 9]
  | 324 => [0, 1, 4]
  | 325 => [0, 10, 2, 3]
  | 326 => [0, 1, 4]
  | 327 => [0, 4, 10, 5, 2, 18, 6, 27, 33, 35, 3, 48]
  | 328 => [1, 10, 11, 2, 18, 4, 0, 3, 40, 58]
  | 329 => [0, 1, 2, 3, 8]
  | 330 => [0, 1, 2, 4, 5, 3, 12]
  | 331 => [4, 0, 2, 1, 22, 3, 10, 11]
  | 332 => [0, 4, 16, 5, 6, 23, 7, 8, 45, 10, 9, 57, 59, 11, 75, 77, 12, 98, 2, 3]
  | 333 => [1, 160, 0, 171, 175, 177, 176, 6, 181, 5, 183, 7, 8, 9, 26, 33, 11, 43, 12, 51, 64, 10, 98, 13, 108, 124, 14, 15, 139, 16, 143, 156, 4]
  | 334 => [0, 2]
  | 335 => [4, 0, 2, 1, 22, 3, 10, 11]
  | 336 => [0, 1, 4]
  | 337 => [0, 3, 10, 2]
  | 338 => [0, 2]
  | 340 => [0, 1, 4]
  | 363 => []
  | _ => []
def isImp (me f : Nat) (d : Option Nat) : Bool := impF.any (Nat.beq f) || impC.any fun t => Nat.beq t.1 me && Nat.beq t.2.1 f && (match d with | some d => Nat.beq t.2.2 d | none => false)
noncomputable def CC : Cfg := { P := Tryz.prog, pure := fun me f d => !(isImp me f d), alter := fun me d => altF.any (Nat.beq me) || (match d with | some d => altC.any fun t => Nat.beq t.1 me && Nat.beq t.2 d | none => false), keep := keepF, ext := fun f' => if Nat.beq f' 341 then some idxStr else if Nat.beq f' 237 then some cmpStr else none }
theorem mixedC : CC.P.follows .mixedOrders = true := by show Tryz.prog.follows .mixedOrders = true; kernel_rfl
theorem nogo_allC : (Tryz.prog.funcs.toList.all fun fn => !(fn.body.isSome && (fn.name == "runtime.NumGoroutine"))) = true := by kernel_rfl
theorem nogoC : NoGo CC.P := by
  intro f fn hf hb
  have h := List.all_eq_true.1 nogo_allC fn (by
    have : Tryz.prog.funcs[f]? = some fn := hf
    exact List.mem_of_getElem? (by simpa using this))
  rw [hb] at h
  simpa using h
theorem extOKZ : ExtOK { CC with ext := fun _ => none, exh := fun _ => none } := by
  exact ⟨fun _ _ h => (nomatch h), fun _ _ h => (nomatch h), fun _ _ h => (nomatch h)⟩
theorem extOKN : ExtOK (CC.more fun _ => none) := extOKZ
theorem extOKE0 : ExtOK (CC.more (fun f' => if Nat.beq f' 237 then some cmpStr else none)) := by
  refine extOK_more (C := CC.more (fun _ => none)) (f := 237) (g := cmpStr) rfl ?_ extOKN rfl
  intro args v h Z ρ H w vals hs hl
  exact ext_cmp (fn := Tryz.f237) Tryz.func237 (by kernel_rfl) (by kernel_rfl) (by kernel_rfl) (by kernel_rfl) h Z ρ H w vals hs hl
theorem extOKE1 : ExtOK (CC.more (fun f' => if Nat.beq f' 341 then some idxStr else if Nat.beq f' 237 then some cmpStr else none)) := by
  refine extOK_more (C := CC.more (fun f' => if Nat.beq f' 237 then some cmpStr else none)) (f := 341) (g := idxStr) rfl ?_ extOKE0 rfl
  intro args v h Z ρ H w vals hs hl
  exact ext_idx (fn := Tryz.f341) Tryz.func341 (by kernel_rfl) (by kernel_rfl) (by kernel_rfl) (by kernel_rfl) h Z ρ H w vals hs hl
theorem extOKC : ExtOK CC := extOKE1
abbrev Good (t : Tell) : Prop := GoodC CC t
abbrev GoodM (t : TellH) : Prop := GoodH CC t
theorem good {t : Tell} (T : List Tell) (hT : AllG CC T) (TH : List TellH) (hH : AllH CC TH) (h : ansC (evT (CC.more2 (tabExt CC.ext T) (tabExh CC.exh T TH)) 1000 (.call t.f t.K { objs := [], lock := 0 })) = some t.R) (hb : boundL t.K = 0) : Good t :=
  goodC nogoC mixedC extOKC T hT TH hH 1000 h hb
theorem goodm {t : TellH} (T : List Tell) (hT : AllG CC T) (TH : List TellH) (hH : AllH CC TH) (h : ansH t.G.length (evT (CC.more2 (tabExt CC.ext T) (tabExh CC.exh T TH)) 1000 (.call t.f t.K { objs := t.G, lock := t.G.length })) = some t.R) (hb : (Nat.beq (boundL t.K) 0 || t.K.any isYld) = false) : GoodM t :=
  goodH nogoC mixedC extOKC T hT TH hH 1000 h hb
end Go.Ev
/- Values that are met. Made by program. -/
namespace Go.Ev
set_option maxRecDepth 1000000
def q0 : AV := .v (.int .i64 7)
def q1 : AV := .v (.string ⟨⟨[116,104,101]⟩⟩)
def q2 : AV := .v (.string ⟨⟨[115,101,97]⟩⟩)
def q3 : AV := .v (.string ⟨⟨[105,115]⟩⟩)
def q4 : AV := .v (.string ⟨⟨[111,108,100]⟩⟩)
def q5 : AV := .vs 1 [q1, q2, q3, q4] none
def q6 : AV := .vs 1 [q5, .vs 1 [q4, q1, q2] none] none
def q7 : AV := .v (.int .i64 3)
def q8 : AV := .v (.string ⟨⟨[97,110,100]⟩⟩)
def q9 : AV := .vs 1 [q2, q8, q2] none
def q10 : AV := .vs 1 [q9] none
def q11 : AV := .vs 2 [.agg [q0, q6], .agg [q7, q10]] none
def q12 : AV := .v (.slice none 0 0)
def q13 : AV := .v (.int .i64 1)
def q14 : AV := .v (.int .u8 3)
def q15 : AV := .v (.string ⟨⟨[]⟩⟩)
def q16 : AV := .v (.int .i64 0)
def q17 : AV := .v (.int .i64 2)
def q18 : AV := .v (.string ⟨⟨[115,101,101]⟩⟩)
def q19 : AV := .v (.int .u8 2)
def q20 : AV := .agg [q13, q14, q15, q13, q16, q17, q18, q19, q16]
def q21 : AV := .vs 9 [q20] none
def q22 : AV := .v (.int .u8 1)
def q23 : AV := .agg [q2, q22]
def q24 : AV := .agg [q18, q19]
def q25 : AV := .vs 2 [q23, q24] (some 2)
def q26 : AV := .agg [q16, q16, q13, q25]
def q27 : AV := .v (.string ⟨⟨[97,103,101]⟩⟩)
def q28 : AV := .agg [q27, q14]
def q29 : AV := .v (.int .u8 0)
def q30 : AV := .agg [q4, q29]
def q31 : AV := .vs 2 [q28, q30] (some 2)
def q32 : AV := .agg [q16, q16, q7, q31]
def q33 : AV := .agg [q13, q16, q16, q25]
def q34 : AV := .vs 4 [q26, q32, q33] none
def q35 : AV := .vs 1 [q16, q16, q16] none
def q36 : AV := .agg [q17, q13, q35]
def q37 : AV := .v (.int .i64 8)
def q38 : AV := .v (.int .i64 (-1))
def q39 : AV := .agg [q37, q13, .vs 1 [q16, q38, q13] none]
def q40 : AV := .vs 3 [q36, q39] none
def q41 : AV := .agg [q11, q12, q21, q34, q40]
def q42 : AV := .agg [q11]
def q43 : AV := .v (.string ⟨⟨[97,98,99,100,101,102,103,104,105,106,107,108,109,110,111,112,113,114,115,116,117,118,119,120,121,122]⟩⟩)
def q44 : AV := .agg [q12, q21]
def q45 : AV := .agg [q16, q16, q16]
def q46 : AV := .agg [q16, q16, q13]
def q47 : AV := .agg [q16, q16, q7]
def q48 : AV := .agg [q13, q16, q16]
def q49 : AV := .agg [q13, q16, q17]
def q50 : AV := .vs 3 [q45, q46, .agg [q16, q16, q17], q47, .agg [q16, q13, q16], .agg [q16, q13, q13], .agg [q16, q13, q17], q48, .agg [q13, q16, q13], q49] none
def q51 : AV := .vs 1 [q1, q2, q3, q4, q4, q1, q2, q2, q8, q2] none
def q52 : AV := .agg [q12, q21, q21, q50, q51]
def q53 : AV := .tup [q13, q16]
def q54 : AV := .agg [q12, .sl 13 1 0 2 none]
def q55 : AV := .vs 9 [.agg [q13, q14, q15, q16, q16, q13, q2, q22, q16], .agg [q17, q14, q15, q16, q16, q13, q18, q19, q16]] none
def o56 : Option AObj := some (.cells 0 0 24 1 false [q11])
def o57 : Option AObj := some (.cells 0 0 86 1 false [q16, q16, q13, q25])
def o58 : Option AObj := some (.cells 0 14 28 1 false [q12, .sl 13 1 0 2 none])
def o59 : Option AObj := some (.cells 0 0 75 1 false [q2, q22])
def o60 : Option AObj := some (.cells 1 0 77 9 true [q13, q14, q15, q16, q16, q13, q2, q22, q16, q17, q14, q15, q16, q16, q13, q18, q19, q16])
def q61 : AV := .tup [q7, q16]
def q62 : AV := .vs 9 [.agg [q13, q14, q15, q16, q16, q7, q27, q14, q16], .agg [q17, q14, q15, q16, q16, q7, q4, q29, q16]] none
def o63 : Option AObj := some (.cells 0 0 86 1 false [q16, q16, q7, q31])
def o64 : Option AObj := some (.cells 0 0 75 1 false [q27, q14])
def o65 : Option AObj := some (.cells 1 0 77 9 true [q13, q14, q15, q16, q16, q7, q27, q14, q16, q17, q14, q15, q16, q16, q7, q4, q29, q16])
def q66 : AV := .vs 9 [.agg [q13, q14, q15, q13, q16, q16, q2, q22, q16], .agg [q17, q14, q15, q13, q16, q16, q18, q19, q16]] none
def o67 : Option AObj := some (.cells 0 0 86 1 false [q13, q16, q16, q25])
def o68 : Option AObj := some (.cells 1 0 77 9 true [q13, q14, q15, q13, q16, q16, q2, q22, q16, q17, q14, q15, q13, q16, q16, q18, q19, q16])
def q69 : AV := .agg [q11, q12, q21, q34, q40, q12]
def q70 : AV := .vs 1 [q16, q16, q13] none
def q71 : AV := .vs 1 [q16, q13, q16] none
def q72 : AV := .vs 1 [q16, q13, q13] none
def q73 : AV := .v (.int .i64 4)
def q74 : AV := .vs 1 [q13, q16, q16] none
def q75 : AV := .v (.int .i64 5)
def q76 : AV := .vs 1 [q13, q16, q13] none
def q77 : AV := .v (.int .i64 6)
def q78 : AV := .vs 1 [q13, q13, q16] none
def q79 : AV := .vs 1 [q13, q13, q13] none
def q80 : AV := .agg [q11, q12, q21, q34, q40, .vs 1 [q35, q70, q71] none]
def q81 : AV := .tup [q80, q16]
def q82 : AV := .vs 1 [q38, q13, q38] none
def q83 : AV := .agg [q75, q16, q82]
def q84 : AV := .vs 3 [q83, q36, q39] none
def q85 : AV := .agg [q11, q12, q21, q34, q84, q12]
def q86 : AV := .agg [q11, q12, q21, q34, q84]
def q87 : AV := .agg [q11, q12, q21, q34, q84, .vs 1 [q71] none]
def q88 : AV := .tup [q87, q16]
def q89 : AV := .tup [q71, q16]
def q90 : AV := .vs 1 [q16, q13] none
def q91 : AV := .vs 1 [q16] none
def q92 : AV := .vs 1 [q16, q38, q38] none
def q93 : AV := .agg [q13, q13]
def q94 : AV := .tup [q93, q16]
def q95 : AV := .vs 1 [q17, q16] none
def q96 : AV := .vs 1 [q13] none
def q97 : AV := .vs 1 [q17] none
def q98 : AV := .vs 1 [q16, q17] none
def q99 : AV := .vs 1 [q13, q17] none
def q100 : AV := .vs 1 [q16, q13, q17] none
def q101 : AV := .agg [q16, q29, q15, q16, q16, q16, q15, q29, q16]
def q102 : AV := .vs 1 [q2] (some 1)
def q103 : AV := .agg [q2, q29]
def q104 : AV := .tup [q103, q16]
def q105 : AV := .agg [q17, q14, q15, q16, q16, q13, q2, q22, q16]
def q106 : AV := .vs 9 [q20, q105] none
def q107 : AV := .v (.int .i64 9)
def q108 : AV := .agg [q12, q106, q106, q50, q51]
def q109 : AV := .agg [q12, q106]
def q110 : AV := .tup [q109, q16]
def q111 : AV := .vs 1 [q4] (some 1)
def q112 : AV := .agg [q7, q14, q15, q13, q16, q16, q2, q22, q16]
def q113 : AV := .vs 9 [q20, q105, q112] none
def q114 : AV := .agg [q12, q113, q113, q50, q51]
def q115 : AV := .agg [q12, q113]
def q116 : AV := .tup [q115, q16]
def q117 : AV := .agg [q1, q29]
def q118 : AV := .agg [q3, q29]
def q119 : AV := .agg [q8, q29]
def q120 : AV := .tup [.vs 1 [q2] none, q16]
def q121 : AV := .vs 1 [q13, q13] none
def q122 : AV := .tup [q12, q17]
def q123 : AV := .agg [q17, q16, q35]
def q124 : AV := .vs 3 [q83, q123, q39] none
def q125 : AV := .agg [q11, q12, q21, q34, q124, q12]
def q126 : AV := .agg [q11, q12, q21, q34, q124]
def q127 : AV := .tup [q125, q16]
def q128 : AV := .tup [q125, q17]
def q129 : AV := .agg [q16, q16]
def q130 : AV := .tup [q12, q37]
def q131 : AV := .agg [q17, q16, q82]
def q132 : AV := .vs 3 [q131, q36, q39] none
def q133 : AV := .agg [q11, q12, q21, q34, q132]
def q134 : AV := .agg [q12, q12, q12, q12, q12, q12]
def q135 : AV := .v (.int .i64 70)
def q136 : AV := .tup [q134, q135]
def q137 : AV := .vs 9 [.agg [q16, q14, q15, q13, q16, q17, q18, q19, q16]] none
def q138 : AV := .agg [q12, q137]
def q139 : AV := .v (.int .i64 40)
def q140 : AV := .agg [q11, q12, q137, q34, q84]
def q141 : AV := .tup [q134, q139]
def t0 : Tell := ⟨99, [], q41⟩
def t1 : Tell := ⟨250, [q1], (.v (.bool true))⟩
def t2 : Tell := ⟨250, [q2], (.v (.bool true))⟩
def t3 : Tell := ⟨250, [q3], (.v (.bool true))⟩
def t4 : Tell := ⟨250, [q4], (.v (.bool true))⟩
def t5 : Tell := ⟨216, [q6], (.v (.bool true))⟩
def t6 : Tell := ⟨250, [q8], (.v (.bool true))⟩
def t7 : Tell := ⟨216, [q10], (.v (.bool true))⟩
def t8 : Tell := ⟨166, [q42], (.v (.bool true))⟩
def t9 : Tell := ⟨105, [q42], (.tup [q42, q16])⟩
def t10 : Tell := ⟨174, [q42], q16⟩
def t11 : Tell := ⟨306, [q43], (.tup [.agg [.v (.bool false), .v (.bool false), .v (.bool false), .v (.bool false), .v (.bool false), .v (.bool false), .v (.bool false), .v (.bool false), .v (.bool false), .v (.bool false), .v (.bool false), .v (.bool false), .v (.bool false), .v (.bool false), .v (.bool false), .v (.bool false), .v (.bool false), .v (.bool false), .v (.bool false), .v (.bool false), .v (.bool false), .v (.bool false), .v (.bool false), .v (.bool false), .v (.bool false), .v (.bool false), .v (.bool false), .v (.bool false), .v (.bool false), .v (.bool false), .v (.bool false), .v (.bool false), .v (.bool false), .v (.bool false), .v (.bool false), .v (.bool false), .v (.bool false), .v (.bool false), .v (.bool false), .v (.bool false), .v (.bool false), .v (.bool false), .v (.bool false), .v (.bool false), .v (.bool false), .v (.bool false), .v (.bool false), .v (.bool false), .v (.bool false), .v (.bool false), .v (.bool false), .v (.bool false), .v (.bool false), .v (.bool false), .v (.bool false), .v (.bool false), .v (.bool false), .v (.bool false), .v (.bool false), .v (.bool false), .v (.bool false), .v (.bool false), .v (.bool false), .v (.bool false), .v (.bool false), .v (.bool false), .v (.bool false), .v (.bool false), .v (.bool false), .v (.bool false), .v (.bool false), .v (.bool false), .v (.bool false), .v (.bool false), .v (.bool false), .v (.bool false), .v (.bool false), .v (.bool false), .v (.bool false), .v (.bool false), .v (.bool false), .v (.bool false), .v (.bool false), .v (.bool false), .v (.bool false), .v (.bool false), .v (.bool false), .v (.bool false), .v (.bool false), .v (.bool false), .v (.bool false), .v (.bool false), .v (.bool false), .v (.bool false), .v (.bool false), .v (.bool false), .v (.bool false), .v (.bool true), .v (.bool true), .v (.bool true), .v (.bool true), .v (.bool true), .v (.bool true), .v (.bool true), .v (.bool true), .v (.bool true), .v (.bool true), .v (.bool true), .v (.bool true), .v (.bool true), .v (.bool true), .v (.bool true), .v (.bool true), .v (.bool true), .v (.bool true), .v (.bool true), .v (.bool true), .v (.bool true), .v (.bool true), .v (.bool true), .v (.bool true), .v (.bool true), .v (.bool true), .v (.bool false), .v (.bool false), .v (.bool false), .v (.bool false), .v (.bool false), .v (.bool false), .v (.bool false), .v (.bool false), .v (.bool false), .v (.bool false), .v (.bool false), .v (.bool false), .v (.bool false), .v (.bool false), .v (.bool false), .v (.bool false), .v (.bool false), .v (.bool false), .v (.bool false), .v (.bool false), .v (.bool false), .v (.bool false), .v (.bool false), .v (.bool false), .v (.bool false), .v (.bool false), .v (.bool false), .v (.bool false), .v (.bool false), .v (.bool false), .v (.bool false), .v (.bool false), .v (.bool false), .v (.bool false), .v (.bool false), .v (.bool false), .v (.bool false), .v (.bool false), .v (.bool false), .v (.bool false), .v (.bool false), .v (.bool false), .v (.bool false), .v (.bool false), .v (.bool false), .v (.bool false), .v (.bool false), .v (.bool false), .v (.bool false), .v (.bool false), .v (.bool false), .v (.bool false), .v (.bool false), .v (.bool false), .v (.bool false), .v (.bool false), .v (.bool false), .v (.bool false), .v (.bool false), .v (.bool false), .v (.bool false), .v (.bool false), .v (.bool false), .v (.bool false), .v (.bool false), .v (.bool false), .v (.bool false), .v (.bool false), .v (.bool false), .v (.bool false), .v (.bool false), .v (.bool false), .v (.bool false), .v (.bool false), .v (.bool false), .v (.bool false), .v (.bool false), .v (.bool false), .v (.bool false), .v (.bool false), .v (.bool false), .v (.bool false), .v (.bool false), .v (.bool false), .v (.bool false), .v (.bool false), .v (.bool false), .v (.bool false), .v (.bool false), .v (.bool false), .v (.bool false), .v (.bool false), .v (.bool false), .v (.bool false), .v (.bool false), .v (.bool false), .v (.bool false), .v (.bool false), .v (.bool false), .v (.bool false), .v (.bool false), .v (.bool false), .v (.bool false), .v (.bool false), .v (.bool false), .v (.bool false), .v (.bool false), .v (.bool false), .v (.bool false), .v (.bool false), .v (.bool false), .v (.bool false), .v (.bool false), .v (.bool false), .v (.bool false), .v (.bool false), .v (.bool false), .v (.bool false), .v (.bool false), .v (.bool false), .v (.bool false), .v (.bool false), .v (.bool false), .v (.bool false), .v (.bool false), .v (.bool false), .v (.bool false), .v (.bool false), .v (.bool false), .v (.bool false), .v (.bool false), .v (.bool false), .v (.bool false)], .v (.bool true)])⟩
def t12 : Tell := ⟨283, [q18, q43], q15⟩
def t13 : Tell := ⟨252, [q18], (.v (.bool true))⟩
def t14 : Tell := ⟨218, [q18], (.v (.bool true))⟩
def t15 : Tell := ⟨169, [q24], (.v (.bool true))⟩
def t16 : Tell := ⟨110, [q42, q44], (.tup [q52, q16])⟩
def t17 : Tell := ⟨119, [q42, q44], q16⟩
def t18 : Tell := ⟨164, [q42, q46], q53⟩
def t19 : Tell := ⟨238, [q23, q24], q38⟩
def t20 : Tell := ⟨283, [q2, q43], q15⟩
def t21 : Tell := ⟨252, [q2], (.v (.bool true))⟩
def t22 : Tell := ⟨218, [q2], (.v (.bool true))⟩
def t23 : Tell := ⟨169, [q23], (.v (.bool true))⟩
def u24 : TellH := ⟨110, [q42, q54], [o56, o57, o58, o59, none, none, none, none, none, none, none, none, none, o60, none, none, o56, o58], (.tup [.agg [q12, q55, q55, q50, q51], q16])⟩
def t25 : Tell := ⟨183, [q42, q26], (.v (.bool true))⟩
def t26 : Tell := ⟨164, [q42, q47], q61⟩
def t27 : Tell := ⟨238, [q28, q30], q38⟩
def t28 : Tell := ⟨283, [q27, q43], q15⟩
def t29 : Tell := ⟨252, [q27], (.v (.bool true))⟩
def t30 : Tell := ⟨218, [q27], (.v (.bool true))⟩
def t31 : Tell := ⟨169, [q28], (.v (.bool true))⟩
def t32 : Tell := ⟨283, [q4, q43], q15⟩
def t33 : Tell := ⟨252, [q4], (.v (.bool true))⟩
def t34 : Tell := ⟨218, [q4], (.v (.bool true))⟩
def t35 : Tell := ⟨169, [q30], (.v (.bool true))⟩
def u36 : TellH := ⟨110, [q42, q54], [o56, o63, o58, o64, none, none, none, none, none, none, none, none, none, o65, none, none, o56, o58], (.tup [.agg [q12, q62, q62, q50, q51], q16])⟩
def t37 : Tell := ⟨183, [q42, q32], (.v (.bool true))⟩
def t38 : Tell := ⟨164, [q42, q48], (.tup [q0, q16])⟩
def u39 : TellH := ⟨110, [q42, q54], [o56, o67, o58, o59, none, none, none, none, none, none, none, none, none, o68, none, none, o56, o58], (.tup [.agg [q12, q66, q66, q50, q51], q16])⟩
def t40 : Tell := ⟨183, [q42, q33], (.v (.bool true))⟩
def t41 : Tell := ⟨120, [q42, q34], (.v (.bool true))⟩
def t42 : Tell := ⟨184, [q36, q34], (.v (.bool true))⟩
def t43 : Tell := ⟨184, [q39, q34], (.v (.bool true))⟩
def t44 : Tell := ⟨121, [q40, q34], (.v (.bool true))⟩
def t45 : Tell := ⟨188, [q69, q16], q35⟩
def t46 : Tell := ⟨136, [q69, q16, q13, q16, q16], (.v (.bool false))⟩
def t47 : Tell := ⟨136, [q69, q16, q13, q13, q16], (.v (.bool false))⟩
def t48 : Tell := ⟨136, [q69, q16, q13, q17, q16], (.v (.bool false))⟩
def t49 : Tell := ⟨133, [q69, q16, q35], q16⟩
def t50 : Tell := ⟨136, [q69, q13, q13, q16, q16], (.v (.bool false))⟩
def t51 : Tell := ⟨136, [q69, q13, q13, q13, q16], (.v (.bool false))⟩
def t52 : Tell := ⟨136, [q69, q13, q13, q17, q16], (.v (.bool true))⟩
def t53 : Tell := ⟨133, [q69, q13, q35], q13⟩
def t54 : Tell := ⟨188, [q69, q13], q70⟩
def t55 : Tell := ⟨136, [q69, q16, q13, q17, q13], (.v (.bool true))⟩
def t56 : Tell := ⟨133, [q69, q16, q70], q13⟩
def t57 : Tell := ⟨136, [q69, q13, q13, q17, q13], (.v (.bool false))⟩
def t58 : Tell := ⟨133, [q69, q13, q70], q16⟩
def t59 : Tell := ⟨188, [q69, q17], q71⟩
def t60 : Tell := ⟨136, [q69, q16, q13, q13, q13], (.v (.bool true))⟩
def t61 : Tell := ⟨133, [q69, q16, q71], q13⟩
def t62 : Tell := ⟨136, [q69, q13, q13, q13, q13], (.v (.bool false))⟩
def t63 : Tell := ⟨133, [q69, q13, q71], q13⟩
def t64 : Tell := ⟨188, [q69, q7], q72⟩
def t65 : Tell := ⟨133, [q69, q16, q72], q17⟩
def t66 : Tell := ⟨188, [q69, q73], q74⟩
def t67 : Tell := ⟨136, [q69, q16, q13, q16, q13], (.v (.bool true))⟩
def t68 : Tell := ⟨133, [q69, q16, q74], q13⟩
def t69 : Tell := ⟨136, [q69, q13, q13, q16, q13], (.v (.bool true))⟩
def t70 : Tell := ⟨133, [q69, q13, q74], q17⟩
def t71 : Tell := ⟨188, [q69, q75], q76⟩
def t72 : Tell := ⟨133, [q69, q16, q76], q17⟩
def t73 : Tell := ⟨188, [q69, q77], q78⟩
def t74 : Tell := ⟨133, [q69, q16, q78], q17⟩
def t75 : Tell := ⟨188, [q69, q0], q79⟩
def t76 : Tell := ⟨133, [q69, q16, q79], q7⟩
def t77 : Tell := ⟨71, [q41], q81⟩
def t78 : Tell := ⟨21, [q41], q61⟩
def t79 : Tell := ⟨184, [q83, q34], (.v (.bool true))⟩
def t80 : Tell := ⟨121, [q84, q34], (.v (.bool true))⟩
def t81 : Tell := ⟨188, [q85, q16], q35⟩
def t82 : Tell := ⟨136, [q85, q16, q13, q16, q16], (.v (.bool false))⟩
def t83 : Tell := ⟨136, [q85, q16, q13, q13, q16], (.v (.bool true))⟩
def t84 : Tell := ⟨136, [q85, q16, q13, q17, q16], (.v (.bool false))⟩
def t85 : Tell := ⟨133, [q85, q16, q35], q13⟩
def t86 : Tell := ⟨188, [q85, q13], q70⟩
def t87 : Tell := ⟨136, [q85, q16, q13, q17, q13], (.v (.bool false))⟩
def t88 : Tell := ⟨133, [q85, q16, q70], q13⟩
def t89 : Tell := ⟨188, [q85, q17], q71⟩
def t90 : Tell := ⟨136, [q85, q16, q13, q13, q13], (.v (.bool false))⟩
def t91 : Tell := ⟨133, [q85, q16, q71], q16⟩
def t92 : Tell := ⟨136, [q85, q13, q13, q16, q16], (.v (.bool false))⟩
def t93 : Tell := ⟨136, [q85, q13, q13, q13, q13], (.v (.bool true))⟩
def t94 : Tell := ⟨136, [q85, q13, q13, q17, q16], (.v (.bool false))⟩
def t95 : Tell := ⟨133, [q85, q13, q71], q13⟩
def t96 : Tell := ⟨136, [q85, q17, q13, q16, q16], (.v (.bool false))⟩
def t97 : Tell := ⟨136, [q85, q17, q13, q13, q13], (.v (.bool false))⟩
def t98 : Tell := ⟨136, [q85, q17, q13, q17, q16], (.v (.bool true))⟩
def t99 : Tell := ⟨133, [q85, q17, q71], q13⟩
def t100 : Tell := ⟨188, [q85, q7], q72⟩
def t101 : Tell := ⟨133, [q85, q16, q72], q16⟩
def t102 : Tell := ⟨136, [q85, q13, q13, q17, q13], (.v (.bool true))⟩
def t103 : Tell := ⟨133, [q85, q13, q72], q17⟩
def t104 : Tell := ⟨188, [q85, q73], q74⟩
def t105 : Tell := ⟨136, [q85, q16, q13, q16, q13], (.v (.bool false))⟩
def t106 : Tell := ⟨133, [q85, q16, q74], q13⟩
def t107 : Tell := ⟨188, [q85, q75], q76⟩
def t108 : Tell := ⟨133, [q85, q16, q76], q13⟩
def t109 : Tell := ⟨188, [q85, q77], q78⟩
def t110 : Tell := ⟨133, [q85, q16, q78], q16⟩
def t111 : Tell := ⟨136, [q85, q13, q13, q16, q13], (.v (.bool true))⟩
def t112 : Tell := ⟨133, [q85, q13, q78], q17⟩
def t113 : Tell := ⟨188, [q85, q0], q79⟩
def t114 : Tell := ⟨133, [q85, q16, q79], q16⟩
def t115 : Tell := ⟨133, [q85, q13, q79], q7⟩
def t116 : Tell := ⟨71, [q86], q88⟩
def t117 : Tell := ⟨73, [q86], q88⟩
def t118 : Tell := ⟨23, [q86], q89⟩
def t119 : Tell := ⟨77, [q41, q13, q7], q81⟩
def t120 : Tell := ⟨132, [q80, q13, q16], q17⟩
def t121 : Tell := ⟨132, [q80, q13, q13], q13⟩
def t122 : Tell := ⟨78, [q80, q13], q90⟩
def t123 : Tell := ⟨28, [q41, q13], (.tup [q90, q16])⟩
def t124 : Tell := ⟨73, [q41], q81⟩
def t125 : Tell := ⟨132, [q80, q16, q16], q7⟩
def t126 : Tell := ⟨132, [q80, q16, q13], q16⟩
def t127 : Tell := ⟨78, [q80, q16], q91⟩
def t128 : Tell := ⟨80, [q80, q16], q16⟩
def t129 : Tell := ⟨80, [q80, q13], q38⟩
def t130 : Tell := ⟨132, [q80, q17, q16], q17⟩
def t131 : Tell := ⟨132, [q80, q17, q13], q13⟩
def t132 : Tell := ⟨78, [q80, q17], q90⟩
def t133 : Tell := ⟨80, [q80, q17], q38⟩
def t134 : Tell := ⟨30, [q41], (.tup [q92, q16])⟩
def t135 : Tell := ⟨77, [q86, q13, q7], q88⟩
def t136 : Tell := ⟨136, [q87, q13, q13, q16, q16], (.v (.bool false))⟩
def t137 : Tell := ⟨136, [q87, q13, q13, q13, q13], (.v (.bool true))⟩
def t138 : Tell := ⟨136, [q87, q13, q13, q17, q16], (.v (.bool false))⟩
def t139 : Tell := ⟨133, [q87, q13, q71], q13⟩
def t140 : Tell := ⟨84, [q87, q13], q93⟩
def t141 : Tell := ⟨33, [q86, q13], q94⟩
def t142 : Tell := ⟨77, [q86, q16, q7], q88⟩
def t143 : Tell := ⟨136, [q87, q16, q16, q16, q16], (.v (.bool false))⟩
def t144 : Tell := ⟨136, [q87, q13, q16, q16, q16], (.v (.bool true))⟩
def t145 : Tell := ⟨136, [q87, q17, q16, q16, q16], (.v (.bool true))⟩
def t146 : Tell := ⟨136, [q87, q16, q16, q16, q13], (.v (.bool false))⟩
def t147 : Tell := ⟨136, [q87, q13, q16, q16, q13], (.v (.bool false))⟩
def t148 : Tell := ⟨136, [q87, q17, q16, q16, q13], (.v (.bool false))⟩
def t149 : Tell := ⟨86, [q87, q16], q95⟩
def t150 : Tell := ⟨35, [q86, q16], (.tup [q95, q16])⟩
def t151 : Tell := ⟨198, [q80, q12], (.v (.bool false))⟩
def t152 : Tell := ⟨198, [q80, q91], (.v (.bool false))⟩
def t153 : Tell := ⟨198, [q80, q96], (.v (.bool false))⟩
def t154 : Tell := ⟨198, [q80, q90], (.v (.bool false))⟩
def t155 : Tell := ⟨198, [q80, q97], (.v (.bool false))⟩
def t156 : Tell := ⟨198, [q80, q98], (.v (.bool false))⟩
def t157 : Tell := ⟨198, [q80, q99], (.v (.bool true))⟩
def t158 : Tell := ⟨198, [q80, q100], (.v (.bool true))⟩
def t159 : Tell := ⟨139, [q100, q99], (.v (.bool false))⟩
def t160 : Tell := ⟨87, [q80], q99⟩
def t161 : Tell := ⟨37, [q41], (.tup [q99, q16])⟩
def t162 : Tell := ⟨90, [q80], q99⟩
def t163 : Tell := ⟨148, [q80, q17], q17⟩
def t164 : Tell := ⟨148, [q80, q13], q17⟩
def t165 : Tell := ⟨91, [q80], q13⟩
def t166 : Tell := ⟨39, [q41], q53⟩
def t167 : Tell := ⟨132, [q87, q16, q16], q13⟩
def t168 : Tell := ⟨132, [q87, q16, q13], q16⟩
def t169 : Tell := ⟨78, [q87, q16], q91⟩
def t170 : Tell := ⟨80, [q87, q16], q16⟩
def t171 : Tell := ⟨103, [q42, q44, q46], (.tup [q52, q13, q16])⟩
def t172 : Tell := ⟨109, [q52, q13], q101⟩
def t173 : Tell := ⟨165, [q52, q2], q102⟩
def t174 : Tell := ⟨104, [q52, q13], q103⟩
def t175 : Tell := ⟨61, [q42, q44, q46], q104⟩
def t176 : Tell := ⟨269, [.vs 1 [q21, .vs 9 [q105] (some 1)] (some 2)], q106⟩
def t177 : Tell := ⟨311, [q50, q49], q107⟩
def t178 : Tell := ⟨284, [q50, q49], (.v (.bool true))⟩
def t179 : Tell := ⟨256, [q52, q49], (.v (.bool true))⟩
def t180 : Tell := ⟨258, [q52, q20], (.v (.bool true))⟩
def t181 : Tell := ⟨228, [q52, q20], (.v (.bool true))⟩
def t182 : Tell := ⟨311, [q50, q46], q13⟩
def t183 : Tell := ⟨284, [q50, q46], (.v (.bool true))⟩
def t184 : Tell := ⟨256, [q52, q46], (.v (.bool true))⟩
def t185 : Tell := ⟨258, [q52, q105], (.v (.bool true))⟩
def t186 : Tell := ⟨228, [q52, q105], (.v (.bool true))⟩
def t187 : Tell := ⟨176, [q52, q106], (.v (.bool true))⟩
def t188 : Tell := ⟨177, [q52, q106], q108⟩
def t189 : Tell := ⟨241, [q42, q44, q105], (.tup [q52, q108, q16])⟩
def t190 : Tell := ⟨201, [q42, q44, q105], q110⟩
def t191 : Tell := ⟨151, [q87, q44, q46, q23], q110⟩
def t192 : Tell := ⟨132, [q87, q13, q16], q16⟩
def t193 : Tell := ⟨132, [q87, q13, q13], q13⟩
def t194 : Tell := ⟨78, [q87, q13], q96⟩
def t195 : Tell := ⟨80, [q87, q13], q13⟩
def t196 : Tell := ⟨110, [q42, q109], (.tup [q108, q16])⟩
def t197 : Tell := ⟨103, [q42, q109, q47], (.tup [q108, q7, q16])⟩
def t198 : Tell := ⟨109, [q108, q7], q101⟩
def t199 : Tell := ⟨165, [q108, q4], q111⟩
def t200 : Tell := ⟨104, [q108, q7], q30⟩
def t201 : Tell := ⟨61, [q42, q109, q47], (.tup [q30, q16])⟩
def t202 : Tell := ⟨151, [q87, q109, q47, q30], q110⟩
def t203 : Tell := ⟨132, [q87, q17, q16], q13⟩
def t204 : Tell := ⟨132, [q87, q17, q13], q16⟩
def t205 : Tell := ⟨78, [q87, q17], q91⟩
def t206 : Tell := ⟨80, [q87, q17], q16⟩
def t207 : Tell := ⟨103, [q42, q109, q48], (.tup [q108, q0, q16])⟩
def t208 : Tell := ⟨109, [q108, q0], q101⟩
def t209 : Tell := ⟨165, [q108, q2], q102⟩
def t210 : Tell := ⟨104, [q108, q0], q103⟩
def t211 : Tell := ⟨61, [q42, q109, q48], q104⟩
def t212 : Tell := ⟨269, [.vs 1 [q106, .vs 9 [q112] (some 1)] (some 2)], q113⟩
def t213 : Tell := ⟨256, [q108, q49], (.v (.bool true))⟩
def t214 : Tell := ⟨258, [q108, q20], (.v (.bool true))⟩
def t215 : Tell := ⟨228, [q108, q20], (.v (.bool true))⟩
def t216 : Tell := ⟨256, [q108, q46], (.v (.bool true))⟩
def t217 : Tell := ⟨258, [q108, q105], (.v (.bool true))⟩
def t218 : Tell := ⟨228, [q108, q105], (.v (.bool true))⟩
def t219 : Tell := ⟨311, [q50, q48], q0⟩
def t220 : Tell := ⟨284, [q50, q48], (.v (.bool true))⟩
def t221 : Tell := ⟨256, [q108, q48], (.v (.bool true))⟩
def t222 : Tell := ⟨258, [q108, q112], (.v (.bool true))⟩
def t223 : Tell := ⟨228, [q108, q112], (.v (.bool true))⟩
def t224 : Tell := ⟨176, [q108, q113], (.v (.bool true))⟩
def t225 : Tell := ⟨177, [q108, q113], q114⟩
def t226 : Tell := ⟨241, [q42, q109, q112], (.tup [q108, q114, q16])⟩
def t227 : Tell := ⟨201, [q42, q109, q112], q116⟩
def t228 : Tell := ⟨151, [q87, q109, q48, q23], q116⟩
def t229 : Tell := ⟨93, [q87], q116⟩
def t230 : Tell := ⟨41, [q86], q116⟩
def t231 : Tell := ⟨109, [q52, q16], q101⟩
def t232 : Tell := ⟨165, [q52, q1], (.vs 1 [q1] (some 1))⟩
def t233 : Tell := ⟨104, [q52, q16], q117⟩
def t234 : Tell := ⟨109, [q52, q17], q101⟩
def t235 : Tell := ⟨165, [q52, q3], (.vs 1 [q3] (some 1))⟩
def t236 : Tell := ⟨104, [q52, q17], q118⟩
def t237 : Tell := ⟨109, [q52, q7], q101⟩
def t238 : Tell := ⟨165, [q52, q4], q111⟩
def t239 : Tell := ⟨104, [q52, q7], q30⟩
def t240 : Tell := ⟨109, [q52, q73], q101⟩
def t241 : Tell := ⟨104, [q52, q73], q30⟩
def t242 : Tell := ⟨109, [q52, q75], q101⟩
def t243 : Tell := ⟨104, [q52, q75], q117⟩
def t244 : Tell := ⟨109, [q52, q77], q101⟩
def t245 : Tell := ⟨104, [q52, q77], q103⟩
def t246 : Tell := ⟨109, [q52, q0], q101⟩
def t247 : Tell := ⟨104, [q52, q0], q103⟩
def t248 : Tell := ⟨109, [q52, q37], q101⟩
def t249 : Tell := ⟨165, [q52, q8], (.vs 1 [q8] (some 1))⟩
def t250 : Tell := ⟨104, [q52, q37], q119⟩
def t251 : Tell := ⟨224, [q49, q45], q13⟩
def t252 : Tell := ⟨173, [q20, q101], q13⟩
def t253 : Tell := ⟨109, [q52, q107], q20⟩
def t254 : Tell := ⟨104, [q52, q107], q24⟩
def t255 : Tell := ⟨111, [q52], (.vs 2 [q117, q103, q118, q30, q30, q117, q103, q103, q119, q24] none)⟩
def t256 : Tell := ⟨66, [q42, q44], q120⟩
def t257 : Tell := ⟨118, [q42, q47], q5⟩
def t258 : Tell := ⟨117, [q42, q47], (.v (.bool true))⟩
def t259 : Tell := ⟨67, [q42, q47], (.tup [q4, q16])⟩
def t260 : Tell := ⟨118, [q42, q48], q9⟩
def t261 : Tell := ⟨117, [q42, q48], (.v (.bool true))⟩
def t262 : Tell := ⟨67, [q42, q48], (.tup [q2, q16])⟩
def t263 : Tell := ⟨154, [q80], (.tup [.vs 1 [q4, q2] none, q16])⟩
def t264 : Tell := ⟨96, [q80], q120⟩
def t265 : Tell := ⟨43, [q41], q120⟩
def t266 : Tell := ⟨27, [q71, .vs 1 [q16, q13, q16] (some 3)], (.v (.bool true))⟩
def t267 : Tell := ⟨27, [q90, .vs 1 [q16, q13] (some 2)], (.v (.bool true))⟩
def t268 : Tell := ⟨27, [q92, .vs 1 [q16, q38, q38] (some 3)], (.v (.bool true))⟩
def t269 : Tell := ⟨27, [q95, .vs 1 [q17, q16] (some 2)], (.v (.bool true))⟩
def t270 : Tell := ⟨27, [q99, .vs 1 [q13, q17] (some 2)], (.v (.bool true))⟩
def t271 : Tell := ⟨47, [], (.v (.bool true))⟩
def t272 : Tell := ⟨21, [q86], q53⟩
def t273 : Tell := ⟨77, [q86, q17, q7], q88⟩
def t274 : Tell := ⟨28, [q86, q17], (.tup [q91, q16])⟩
def t275 : Tell := ⟨30, [q86], q89⟩
def t276 : Tell := ⟨136, [q87, q17, q13, q16, q16], (.v (.bool false))⟩
def t277 : Tell := ⟨136, [q87, q17, q13, q13, q13], (.v (.bool false))⟩
def t278 : Tell := ⟨136, [q87, q17, q13, q17, q16], (.v (.bool true))⟩
def t279 : Tell := ⟨133, [q87, q17, q71], q13⟩
def t280 : Tell := ⟨84, [q87, q17], q93⟩
def t281 : Tell := ⟨33, [q86, q17], q94⟩
def t282 : Tell := ⟨136, [q87, q16, q16, q17, q16], (.v (.bool false))⟩
def t283 : Tell := ⟨136, [q87, q13, q16, q17, q16], (.v (.bool true))⟩
def t284 : Tell := ⟨136, [q87, q17, q16, q17, q16], (.v (.bool false))⟩
def t285 : Tell := ⟨136, [q87, q16, q16, q17, q13], (.v (.bool false))⟩
def t286 : Tell := ⟨136, [q87, q13, q16, q17, q13], (.v (.bool false))⟩
def t287 : Tell := ⟨136, [q87, q17, q16, q17, q13], (.v (.bool true))⟩
def t288 : Tell := ⟨86, [q87, q17], q121⟩
def t289 : Tell := ⟨35, [q86, q17], (.tup [q121, q16])⟩
def t290 : Tell := ⟨198, [q87, q12], (.v (.bool true))⟩
def t291 : Tell := ⟨198, [q87, q91], (.v (.bool true))⟩
def t292 : Tell := ⟨139, [q91, q12], (.v (.bool false))⟩
def t293 : Tell := ⟨198, [q87, q96], (.v (.bool true))⟩
def t294 : Tell := ⟨139, [q96, q12], (.v (.bool false))⟩
def t295 : Tell := ⟨198, [q87, q90], (.v (.bool true))⟩
def t296 : Tell := ⟨139, [q90, q12], (.v (.bool false))⟩
def t297 : Tell := ⟨198, [q87, q97], (.v (.bool true))⟩
def t298 : Tell := ⟨139, [q97, q12], (.v (.bool false))⟩
def t299 : Tell := ⟨198, [q87, q98], (.v (.bool true))⟩
def t300 : Tell := ⟨139, [q98, q12], (.v (.bool false))⟩
def t301 : Tell := ⟨198, [q87, q99], (.v (.bool true))⟩
def t302 : Tell := ⟨139, [q99, q12], (.v (.bool false))⟩
def t303 : Tell := ⟨198, [q87, q100], (.v (.bool true))⟩
def t304 : Tell := ⟨139, [q100, q12], (.v (.bool false))⟩
def t305 : Tell := ⟨87, [q87], q12⟩
def t306 : Tell := ⟨37, [q86], (.tup [q12, q16])⟩
def t307 : Tell := ⟨27, [q91, .vs 1 [q16] (some 1)], (.v (.bool true))⟩
def t308 : Tell := ⟨27, [q121, .vs 1 [q13, q13] (some 2)], (.v (.bool true))⟩
def t309 : Tell := ⟨45, [q115, .agg [q12, .vs 9 [q20, q105, q112] (some 3)]], (.v (.bool true))⟩
def t310 : Tell := ⟨90, [q87], q12⟩
def t311 : Tell := ⟨39, [q86], (.tup [q16, q77])⟩
def t312 : Tell := ⟨77, [q86, q7, q7], (.tup [q87, q17])⟩
def t313 : Tell := ⟨28, [q86, q7], q122⟩
def t314 : Tell := ⟨184, [q123, q34], (.v (.bool true))⟩
def t315 : Tell := ⟨121, [q124, q34], (.v (.bool true))⟩
def t316 : Tell := ⟨188, [q125, q16], q35⟩
def t317 : Tell := ⟨136, [q125, q16, q13, q16, q16], (.v (.bool false))⟩
def t318 : Tell := ⟨136, [q125, q16, q13, q13, q16], (.v (.bool true))⟩
def t319 : Tell := ⟨136, [q125, q16, q13, q17, q16], (.v (.bool false))⟩
def t320 : Tell := ⟨133, [q125, q16, q35], q13⟩
def t321 : Tell := ⟨188, [q125, q13], q70⟩
def t322 : Tell := ⟨136, [q125, q16, q13, q17, q13], (.v (.bool false))⟩
def t323 : Tell := ⟨133, [q125, q16, q70], q13⟩
def t324 : Tell := ⟨188, [q125, q17], q71⟩
def t325 : Tell := ⟨136, [q125, q16, q13, q13, q13], (.v (.bool false))⟩
def t326 : Tell := ⟨133, [q125, q16, q71], q16⟩
def t327 : Tell := ⟨136, [q125, q13, q13, q16, q16], (.v (.bool false))⟩
def t328 : Tell := ⟨136, [q125, q13, q13, q13, q13], (.v (.bool true))⟩
def t329 : Tell := ⟨136, [q125, q13, q13, q17, q16], (.v (.bool false))⟩
def t330 : Tell := ⟨133, [q125, q13, q71], q13⟩
def t331 : Tell := ⟨188, [q125, q7], q72⟩
def t332 : Tell := ⟨133, [q125, q16, q72], q16⟩
def t333 : Tell := ⟨136, [q125, q13, q13, q17, q13], (.v (.bool true))⟩
def t334 : Tell := ⟨133, [q125, q13, q72], q17⟩
def t335 : Tell := ⟨188, [q125, q73], q74⟩
def t336 : Tell := ⟨136, [q125, q16, q13, q16, q13], (.v (.bool false))⟩
def t337 : Tell := ⟨133, [q125, q16, q74], q13⟩
def t338 : Tell := ⟨188, [q125, q75], q76⟩
def t339 : Tell := ⟨133, [q125, q16, q76], q13⟩
def t340 : Tell := ⟨188, [q125, q77], q78⟩
def t341 : Tell := ⟨133, [q125, q16, q78], q16⟩
def t342 : Tell := ⟨136, [q125, q13, q13, q16, q13], (.v (.bool true))⟩
def t343 : Tell := ⟨133, [q125, q13, q78], q17⟩
def t344 : Tell := ⟨188, [q125, q0], q79⟩
def t345 : Tell := ⟨133, [q125, q16, q79], q16⟩
def t346 : Tell := ⟨133, [q125, q13, q79], q7⟩
def t347 : Tell := ⟨71, [q126], q127⟩
def t348 : Tell := ⟨77, [q126, q7, q7], q128⟩
def t349 : Tell := ⟨33, [q126, q7], (.tup [q129, q17])⟩
def t350 : Tell := ⟨77, [q126, q16, q7], q127⟩
def t351 : Tell := ⟨33, [q126, q16], (.tup [q129, q37])⟩
def t352 : Tell := ⟨77, [q126, q38, q7], q128⟩
def t353 : Tell := ⟨35, [q126, q38], q122⟩
def t354 : Tell := ⟨73, [q126], (.tup [q125, q37])⟩
def t355 : Tell := ⟨37, [q126], q130⟩
def t356 : Tell := ⟨184, [q131, q34], (.v (.bool true))⟩
def t357 : Tell := ⟨121, [q132, q34], (.v (.bool false))⟩
def t358 : Tell := ⟨71, [q133], q136⟩
def t359 : Tell := ⟨73, [q133], q136⟩
def t360 : Tell := ⟨41, [q133], (.tup [.agg [q12, q12], q135])⟩
def t361 : Tell := ⟨110, [q42, q138], (.tup [.agg [q12, q12, q12, q12, q12], q139])⟩
def t362 : Tell := ⟨119, [q42, q138], q139⟩
def t363 : Tell := ⟨71, [q140], q141⟩
def t364 : Tell := ⟨73, [q140], q141⟩
def t365 : Tell := ⟨43, [q140], (.tup [q12, q139])⟩
def t366 : Tell := ⟨21, [q126], (.tup [q16, q16])⟩
def t367 : Tell := ⟨23, [q126], q130⟩
def t368 : Tell := ⟨25, [q133], q135⟩
def t369 : Tell := ⟨25, [q126], q16⟩
end Go.Ev
/- What calls answer that are met. Made by program. -/
namespace Go.Ev
set_option maxRecDepth 1000000
/- postil/postillaw07.two -/
theorem g0 : Good t0 := good [] trivial [] trivial (by kernel_rfl) (by kernel_rfl)
/- postil/leaf.isWord -/
theorem g1 : Good t1 := good [] trivial [] trivial (by kernel_rfl) (by kernel_rfl)
/- postil/leaf.isWord -/
theorem g2 : Good t2 := good [] trivial [] trivial (by kernel_rfl) (by kernel_rfl)
/- postil/leaf.isWord -/
theorem g3 : Good t3 := good [] trivial [] trivial (by kernel_rfl) (by kernel_rfl)
/- postil/leaf.isWord -/
theorem g4 : Good t4 := good [] trivial [] trivial (by kernel_rfl) (by kernel_rfl)
/- postil/leaf.isLines -/
theorem g5 : Good t5 := good [t1, t2, t3, t4] ⟨g1, g2, g3, g4, trivial⟩ [] trivial (by kernel_rfl) (by kernel_rfl)
/- postil/leaf.isWord -/
theorem g6 : Good t6 := good [] trivial [] trivial (by kernel_rfl) (by kernel_rfl)
/- postil/leaf.isLines -/
theorem g7 : Good t7 := good [t2, t6] ⟨g2, g6, trivial⟩ [] trivial (by kernel_rfl) (by kernel_rfl)
/- postil/leaf.isText -/
theorem g8 : Good t8 := good [t5, t7] ⟨g5, g7, trivial⟩ [] trivial (by kernel_rfl) (by kernel_rfl)
/- postil/leaf.begin -/
theorem g9 : Good t9 := good [t8] ⟨g8, trivial⟩ [] trivial (by kernel_rfl) (by kernel_rfl)
/- postil/leaf.Check -/
theorem g10 : Good t10 := good [t9] ⟨g9, trivial⟩ [] trivial (by kernel_rfl) (by kernel_rfl)
/- strings.makeASCIISet -/
theorem g11 : Good t11 := good [] trivial [] trivial (by kernel_rfl) (by kernel_rfl)
/- strings.Trim -/
theorem g12 : Good t12 := good [t11] ⟨g11, trivial⟩ [] trivial (by kernel_rfl) (by kernel_rfl)
/- postil/stem.areLetters -/
theorem g13 : Good t13 := good [t12] ⟨g12, trivial⟩ [] trivial (by kernel_rfl) (by kernel_rfl)
/- postil/stem.isWord -/
theorem g14 : Good t14 := good [t13] ⟨g13, trivial⟩ [] trivial (by kernel_rfl) (by kernel_rfl)
/- postil/stem.isHead -/
theorem g15 : Good t15 := good [t14] ⟨g14, trivial⟩ [] trivial (by kernel_rfl) (by kernel_rfl)
/- postil/stem.begin -/
theorem g16 : Good t16 := good [t10, t15] ⟨g10, g15, trivial⟩ [] trivial (by kernel_rfl) (by kernel_rfl)
/- postil/stem.Check -/
theorem g17 : Good t17 := good [t16] ⟨g16, trivial⟩ [] trivial (by kernel_rfl) (by kernel_rfl)
/- postil/leaf.Number -/
theorem g18 : Good t18 := good [t9] ⟨g9, trivial⟩ [] trivial (by kernel_rfl) (by kernel_rfl)
/- postil/vote.compareHeads -/
theorem g19 : Good t19 := good [] trivial [] trivial (by kernel_rfl) (by kernel_rfl)
/- strings.Trim -/
theorem g20 : Good t20 := good [t11] ⟨g11, trivial⟩ [] trivial (by kernel_rfl) (by kernel_rfl)
/- postil/stem.areLetters -/
theorem g21 : Good t21 := good [t20] ⟨g20, trivial⟩ [] trivial (by kernel_rfl) (by kernel_rfl)
/- postil/stem.isWord -/
theorem g22 : Good t22 := good [t21] ⟨g21, trivial⟩ [] trivial (by kernel_rfl) (by kernel_rfl)
/- postil/stem.isHead -/
theorem g23 : Good t23 := good [t22] ⟨g22, trivial⟩ [] trivial (by kernel_rfl) (by kernel_rfl)
/- postil/stem.begin -/
theorem k24 : GoodM u24 := goodm [t10, t15, t23] ⟨g10, g15, g23, trivial⟩ [] trivial (by kernel_rfl) (by kernel_rfl)
/- postil/vote.areHeads -/
theorem g25 : Good t25 := good [t19] ⟨g19, trivial⟩ [u24] ⟨k24, trivial⟩ (by kernel_rfl) (by kernel_rfl)
/- postil/leaf.Number -/
theorem g26 : Good t26 := good [t9] ⟨g9, trivial⟩ [] trivial (by kernel_rfl) (by kernel_rfl)
/- postil/vote.compareHeads -/
theorem g27 : Good t27 := good [] trivial [] trivial (by kernel_rfl) (by kernel_rfl)
/- strings.Trim -/
theorem g28 : Good t28 := good [t11] ⟨g11, trivial⟩ [] trivial (by kernel_rfl) (by kernel_rfl)
/- postil/stem.areLetters -/
theorem g29 : Good t29 := good [t28] ⟨g28, trivial⟩ [] trivial (by kernel_rfl) (by kernel_rfl)
/- postil/stem.isWord -/
theorem g30 : Good t30 := good [t29] ⟨g29, trivial⟩ [] trivial (by kernel_rfl) (by kernel_rfl)
/- postil/stem.isHead -/
theorem g31 : Good t31 := good [t30] ⟨g30, trivial⟩ [] trivial (by kernel_rfl) (by kernel_rfl)
/- strings.Trim -/
theorem g32 : Good t32 := good [t11] ⟨g11, trivial⟩ [] trivial (by kernel_rfl) (by kernel_rfl)
/- postil/stem.areLetters -/
theorem g33 : Good t33 := good [t32] ⟨g32, trivial⟩ [] trivial (by kernel_rfl) (by kernel_rfl)
/- postil/stem.isWord -/
theorem g34 : Good t34 := good [t33] ⟨g33, trivial⟩ [] trivial (by kernel_rfl) (by kernel_rfl)
/- postil/stem.isHead -/
theorem g35 : Good t35 := good [t34] ⟨g34, trivial⟩ [] trivial (by kernel_rfl) (by kernel_rfl)
/- postil/stem.begin -/
theorem k36 : GoodM u36 := goodm [t10, t31, t35] ⟨g10, g31, g35, trivial⟩ [] trivial (by kernel_rfl) (by kernel_rfl)
/- postil/vote.areHeads -/
theorem g37 : Good t37 := good [t27] ⟨g27, trivial⟩ [u36] ⟨k36, trivial⟩ (by kernel_rfl) (by kernel_rfl)
/- postil/leaf.Number -/
theorem g38 : Good t38 := good [t9] ⟨g9, trivial⟩ [] trivial (by kernel_rfl) (by kernel_rfl)
/- postil/stem.begin -/
theorem k39 : GoodM u39 := goodm [t10, t15, t23] ⟨g10, g15, g23, trivial⟩ [] trivial (by kernel_rfl) (by kernel_rfl)
/- postil/vote.areHeads -/
theorem g40 : Good t40 := good [t19] ⟨g19, trivial⟩ [u39] ⟨k39, trivial⟩ (by kernel_rfl) (by kernel_rfl)
/- postil/vote.areQuestions -/
theorem g41 : Good t41 := good [t18, t25, t26, t37, t38, t40] ⟨g18, g25, g26, g37, g38, g40, trivial⟩ [] trivial (by kernel_rfl) (by kernel_rfl)
/- postil/vote.isVoter -/
theorem g42 : Good t42 := good [] trivial [] trivial (by kernel_rfl) (by kernel_rfl)
/- postil/vote.isVoter -/
theorem g43 : Good t43 := good [] trivial [] trivial (by kernel_rfl) (by kernel_rfl)
/- postil/vote.areVoters -/
theorem g44 : Good t44 := good [t42, t43] ⟨g42, g43, trivial⟩ [] trivial (by kernel_rfl) (by kernel_rfl)
/- (postil/vote.poll).list -/
theorem g45 : Good t45 := good [] trivial [] trivial (by kernel_rfl) (by kernel_rfl)
/- (postil/vote.poll).says -/
theorem g46 : Good t46 := good [] trivial [] trivial (by kernel_rfl) (by kernel_rfl)
/- (postil/vote.poll).says -/
theorem g47 : Good t47 := good [] trivial [] trivial (by kernel_rfl) (by kernel_rfl)
/- (postil/vote.poll).says -/
theorem g48 : Good t48 := good [] trivial [] trivial (by kernel_rfl) (by kernel_rfl)
/- (postil/vote.poll).wrong -/
theorem g49 : Good t49 := good [t46, t47, t48] ⟨g46, g47, g48, trivial⟩ [] trivial (by kernel_rfl) (by kernel_rfl)
/- (postil/vote.poll).says -/
theorem g50 : Good t50 := good [] trivial [] trivial (by kernel_rfl) (by kernel_rfl)
/- (postil/vote.poll).says -/
theorem g51 : Good t51 := good [] trivial [] trivial (by kernel_rfl) (by kernel_rfl)
/- (postil/vote.poll).says -/
theorem g52 : Good t52 := good [] trivial [] trivial (by kernel_rfl) (by kernel_rfl)
/- (postil/vote.poll).wrong -/
theorem g53 : Good t53 := good [t50, t51, t52] ⟨g50, g51, g52, trivial⟩ [] trivial (by kernel_rfl) (by kernel_rfl)
/- (postil/vote.poll).list -/
theorem g54 : Good t54 := good [] trivial [] trivial (by kernel_rfl) (by kernel_rfl)
/- (postil/vote.poll).says -/
theorem g55 : Good t55 := good [] trivial [] trivial (by kernel_rfl) (by kernel_rfl)
/- (postil/vote.poll).wrong -/
theorem g56 : Good t56 := good [t46, t47, t55] ⟨g46, g47, g55, trivial⟩ [] trivial (by kernel_rfl) (by kernel_rfl)
/- (postil/vote.poll).says -/
theorem g57 : Good t57 := good [] trivial [] trivial (by kernel_rfl) (by kernel_rfl)
/- (postil/vote.poll).wrong -/
theorem g58 : Good t58 := good [t50, t51, t57] ⟨g50, g51, g57, trivial⟩ [] trivial (by kernel_rfl) (by kernel_rfl)
/- (postil/vote.poll).list -/
theorem g59 : Good t59 := good [] trivial [] trivial (by kernel_rfl) (by kernel_rfl)
/- (postil/vote.poll).says -/
theorem g60 : Good t60 := good [] trivial [] trivial (by kernel_rfl) (by kernel_rfl)
/- (postil/vote.poll).wrong -/
theorem g61 : Good t61 := good [t46, t48, t60] ⟨g46, g48, g60, trivial⟩ [] trivial (by kernel_rfl) (by kernel_rfl)
/- (postil/vote.poll).says -/
theorem g62 : Good t62 := good [] trivial [] trivial (by kernel_rfl) (by kernel_rfl)
/- (postil/vote.poll).wrong -/
theorem g63 : Good t63 := good [t50, t52, t62] ⟨g50, g52, g62, trivial⟩ [] trivial (by kernel_rfl) (by kernel_rfl)
/- (postil/vote.poll).list -/
theorem g64 : Good t64 := good [] trivial [] trivial (by kernel_rfl) (by kernel_rfl)
/- (postil/vote.poll).wrong -/
theorem g65 : Good t65 := good [t46, t55, t60] ⟨g46, g55, g60, trivial⟩ [] trivial (by kernel_rfl) (by kernel_rfl)
/- (postil/vote.poll).list -/
theorem g66 : Good t66 := good [] trivial [] trivial (by kernel_rfl) (by kernel_rfl)
/- (postil/vote.poll).says -/
theorem g67 : Good t67 := good [] trivial [] trivial (by kernel_rfl) (by kernel_rfl)
/- (postil/vote.poll).wrong -/
theorem g68 : Good t68 := good [t47, t48, t67] ⟨g47, g48, g67, trivial⟩ [] trivial (by kernel_rfl) (by kernel_rfl)
/- (postil/vote.poll).says -/
theorem g69 : Good t69 := good [] trivial [] trivial (by kernel_rfl) (by kernel_rfl)
/- (postil/vote.poll).wrong -/
theorem g70 : Good t70 := good [t51, t52, t69] ⟨g51, g52, g69, trivial⟩ [] trivial (by kernel_rfl) (by kernel_rfl)
/- (postil/vote.poll).list -/
theorem g71 : Good t71 := good [] trivial [] trivial (by kernel_rfl) (by kernel_rfl)
/- (postil/vote.poll).wrong -/
theorem g72 : Good t72 := good [t47, t55, t67] ⟨g47, g55, g67, trivial⟩ [] trivial (by kernel_rfl) (by kernel_rfl)
/- (postil/vote.poll).list -/
theorem g73 : Good t73 := good [] trivial [] trivial (by kernel_rfl) (by kernel_rfl)
/- (postil/vote.poll).wrong -/
theorem g74 : Good t74 := good [t48, t60, t67] ⟨g48, g60, g67, trivial⟩ [] trivial (by kernel_rfl) (by kernel_rfl)
/- (postil/vote.poll).list -/
theorem g75 : Good t75 := good [] trivial [] trivial (by kernel_rfl) (by kernel_rfl)
/- (postil/vote.poll).wrong -/
theorem g76 : Good t76 := good [t55, t60, t67] ⟨g55, g60, g67, trivial⟩ [] trivial (by kernel_rfl) (by kernel_rfl)
/- postil/vote.begin -/
theorem g77 : Good t77 := good [t17, t41, t44, t45, t49, t53, t54, t56, t58, t59, t61, t63, t64, t65, t66, t68, t70, t71, t72, t73, t74, t75, t76] ⟨g17, g41, g44, g45, g49, g53, g54, g56, g58, g59, g61, g63, g64, g65, g66, g68, g70, g71, g72, g73, g74, g75, g76, trivial⟩ [] trivial (by kernel_rfl) (by kernel_rfl)
/- postil/vote.Count -/
theorem g78 : Good t78 := good [t77] ⟨g77, trivial⟩ [] trivial (by kernel_rfl) (by kernel_rfl)
/- postil/vote.isVoter -/
theorem g79 : Good t79 := good [] trivial [] trivial (by kernel_rfl) (by kernel_rfl)
/- postil/vote.areVoters -/
theorem g80 : Good t80 := good [t42, t43, t79] ⟨g42, g43, g79, trivial⟩ [] trivial (by kernel_rfl) (by kernel_rfl)
/- (postil/vote.poll).list -/
theorem g81 : Good t81 := good [] trivial [] trivial (by kernel_rfl) (by kernel_rfl)
/- (postil/vote.poll).says -/
theorem g82 : Good t82 := good [] trivial [] trivial (by kernel_rfl) (by kernel_rfl)
/- (postil/vote.poll).says -/
theorem g83 : Good t83 := good [] trivial [] trivial (by kernel_rfl) (by kernel_rfl)
/- (postil/vote.poll).says -/
theorem g84 : Good t84 := good [] trivial [] trivial (by kernel_rfl) (by kernel_rfl)
/- (postil/vote.poll).wrong -/
theorem g85 : Good t85 := good [t82, t83, t84] ⟨g82, g83, g84, trivial⟩ [] trivial (by kernel_rfl) (by kernel_rfl)
/- (postil/vote.poll).list -/
theorem g86 : Good t86 := good [] trivial [] trivial (by kernel_rfl) (by kernel_rfl)
/- (postil/vote.poll).says -/
theorem g87 : Good t87 := good [] trivial [] trivial (by kernel_rfl) (by kernel_rfl)
/- (postil/vote.poll).wrong -/
theorem g88 : Good t88 := good [t82, t83, t87] ⟨g82, g83, g87, trivial⟩ [] trivial (by kernel_rfl) (by kernel_rfl)
/- (postil/vote.poll).list -/
theorem g89 : Good t89 := good [] trivial [] trivial (by kernel_rfl) (by kernel_rfl)
/- (postil/vote.poll).says -/
theorem g90 : Good t90 := good [] trivial [] trivial (by kernel_rfl) (by kernel_rfl)
/- (postil/vote.poll).wrong -/
theorem g91 : Good t91 := good [t82, t84, t90] ⟨g82, g84, g90, trivial⟩ [] trivial (by kernel_rfl) (by kernel_rfl)
/- (postil/vote.poll).says -/
theorem g92 : Good t92 := good [] trivial [] trivial (by kernel_rfl) (by kernel_rfl)
/- (postil/vote.poll).says -/
theorem g93 : Good t93 := good [] trivial [] trivial (by kernel_rfl) (by kernel_rfl)
/- (postil/vote.poll).says -/
theorem g94 : Good t94 := good [] trivial [] trivial (by kernel_rfl) (by kernel_rfl)
/- (postil/vote.poll).wrong -/
theorem g95 : Good t95 := good [t92, t93, t94] ⟨g92, g93, g94, trivial⟩ [] trivial (by kernel_rfl) (by kernel_rfl)
/- (postil/vote.poll).says -/
theorem g96 : Good t96 := good [] trivial [] trivial (by kernel_rfl) (by kernel_rfl)
/- (postil/vote.poll).says -/
theorem g97 : Good t97 := good [] trivial [] trivial (by kernel_rfl) (by kernel_rfl)
/- (postil/vote.poll).says -/
theorem g98 : Good t98 := good [] trivial [] trivial (by kernel_rfl) (by kernel_rfl)
/- (postil/vote.poll).wrong -/
theorem g99 : Good t99 := good [t96, t97, t98] ⟨g96, g97, g98, trivial⟩ [] trivial (by kernel_rfl) (by kernel_rfl)
/- (postil/vote.poll).list -/
theorem g100 : Good t100 := good [] trivial [] trivial (by kernel_rfl) (by kernel_rfl)
/- (postil/vote.poll).wrong -/
theorem g101 : Good t101 := good [t82, t87, t90] ⟨g82, g87, g90, trivial⟩ [] trivial (by kernel_rfl) (by kernel_rfl)
/- (postil/vote.poll).says -/
theorem g102 : Good t102 := good [] trivial [] trivial (by kernel_rfl) (by kernel_rfl)
/- (postil/vote.poll).wrong -/
theorem g103 : Good t103 := good [t92, t93, t102] ⟨g92, g93, g102, trivial⟩ [] trivial (by kernel_rfl) (by kernel_rfl)
/- (postil/vote.poll).list -/
theorem g104 : Good t104 := good [] trivial [] trivial (by kernel_rfl) (by kernel_rfl)
/- (postil/vote.poll).says -/
theorem g105 : Good t105 := good [] trivial [] trivial (by kernel_rfl) (by kernel_rfl)
/- (postil/vote.poll).wrong -/
theorem g106 : Good t106 := good [t83, t84, t105] ⟨g83, g84, g105, trivial⟩ [] trivial (by kernel_rfl) (by kernel_rfl)
/- (postil/vote.poll).list -/
theorem g107 : Good t107 := good [] trivial [] trivial (by kernel_rfl) (by kernel_rfl)
/- (postil/vote.poll).wrong -/
theorem g108 : Good t108 := good [t83, t87, t105] ⟨g83, g87, g105, trivial⟩ [] trivial (by kernel_rfl) (by kernel_rfl)
/- (postil/vote.poll).list -/
theorem g109 : Good t109 := good [] trivial [] trivial (by kernel_rfl) (by kernel_rfl)
/- (postil/vote.poll).wrong -/
theorem g110 : Good t110 := good [t84, t90, t105] ⟨g84, g90, g105, trivial⟩ [] trivial (by kernel_rfl) (by kernel_rfl)
/- (postil/vote.poll).says -/
theorem g111 : Good t111 := good [] trivial [] trivial (by kernel_rfl) (by kernel_rfl)
/- (postil/vote.poll).wrong -/
theorem g112 : Good t112 := good [t93, t94, t111] ⟨g93, g94, g111, trivial⟩ [] trivial (by kernel_rfl) (by kernel_rfl)
/- (postil/vote.poll).list -/
theorem g113 : Good t113 := good [] trivial [] trivial (by kernel_rfl) (by kernel_rfl)
/- (postil/vote.poll).wrong -/
theorem g114 : Good t114 := good [t87, t90, t105] ⟨g87, g90, g105, trivial⟩ [] trivial (by kernel_rfl) (by kernel_rfl)
/- (postil/vote.poll).wrong -/
theorem g115 : Good t115 := good [t93, t102, t111] ⟨g93, g102, g111, trivial⟩ [] trivial (by kernel_rfl) (by kernel_rfl)
/- postil/vote.begin -/
theorem g116 : Good t116 := good [t17, t41, t80, t81, t85, t86, t88, t89, t91, t95, t99, t100, t101, t103, t104, t106, t107, t108, t109, t110, t112, t113, t114, t115] ⟨g17, g41, g80, g81, g85, g86, g88, g89, g91, g95, g99, g100, g101, g103, g104, g106, g107, g108, g109, g110, g112, g113, g114, g115, trivial⟩ [] trivial (by kernel_rfl) (by kernel_rfl)
/- postil/vote.beginTrue -/
theorem g117 : Good t117 := good [t116] ⟨g116, trivial⟩ [] trivial (by kernel_rfl) (by kernel_rfl)
/- postil/vote.Truth -/
theorem g118 : Good t118 := good [t117] ⟨g117, trivial⟩ [] trivial (by kernel_rfl) (by kernel_rfl)
/- postil/vote.beginAt -/
theorem g119 : Good t119 := good [t77] ⟨g77, trivial⟩ [] trivial (by kernel_rfl) (by kernel_rfl)
/- (postil/vote.poll).left -/
theorem g120 : Good t120 := good [] trivial [] trivial (by kernel_rfl) (by kernel_rfl)
/- (postil/vote.poll).left -/
theorem g121 : Good t121 := good [] trivial [] trivial (by kernel_rfl) (by kernel_rfl)
/- (postil/vote.poll).open -/
theorem g122 : Good t122 := good [t120, t121] ⟨g120, g121, trivial⟩ [] trivial (by kernel_rfl) (by kernel_rfl)
/- postil/vote.Open -/
theorem g123 : Good t123 := good [t119, t122] ⟨g119, g122, trivial⟩ [] trivial (by kernel_rfl) (by kernel_rfl)
/- postil/vote.beginTrue -/
theorem g124 : Good t124 := good [t77] ⟨g77, trivial⟩ [] trivial (by kernel_rfl) (by kernel_rfl)
/- (postil/vote.poll).left -/
theorem g125 : Good t125 := good [] trivial [] trivial (by kernel_rfl) (by kernel_rfl)
/- (postil/vote.poll).left -/
theorem g126 : Good t126 := good [] trivial [] trivial (by kernel_rfl) (by kernel_rfl)
/- (postil/vote.poll).open -/
theorem g127 : Good t127 := good [t125, t126] ⟨g125, g126, trivial⟩ [] trivial (by kernel_rfl) (by kernel_rfl)
/- (postil/vote.poll).settled -/
theorem g128 : Good t128 := good [t127] ⟨g127, trivial⟩ [] trivial (by kernel_rfl) (by kernel_rfl)
/- (postil/vote.poll).settled -/
theorem g129 : Good t129 := good [t122] ⟨g122, trivial⟩ [] trivial (by kernel_rfl) (by kernel_rfl)
/- (postil/vote.poll).left -/
theorem g130 : Good t130 := good [] trivial [] trivial (by kernel_rfl) (by kernel_rfl)
/- (postil/vote.poll).left -/
theorem g131 : Good t131 := good [] trivial [] trivial (by kernel_rfl) (by kernel_rfl)
/- (postil/vote.poll).open -/
theorem g132 : Good t132 := good [t130, t131] ⟨g130, g131, trivial⟩ [] trivial (by kernel_rfl) (by kernel_rfl)
/- (postil/vote.poll).settled -/
theorem g133 : Good t133 := good [t132] ⟨g132, trivial⟩ [] trivial (by kernel_rfl) (by kernel_rfl)
/- postil/vote.Settled -/
theorem g134 : Good t134 := good [t124, t128, t129, t133] ⟨g124, g128, g129, g133, trivial⟩ [] trivial (by kernel_rfl) (by kernel_rfl)
/- postil/vote.beginAt -/
theorem g135 : Good t135 := good [t116] ⟨g116, trivial⟩ [] trivial (by kernel_rfl) (by kernel_rfl)
/- (postil/vote.poll).says -/
theorem g136 : Good t136 := good [] trivial [] trivial (by kernel_rfl) (by kernel_rfl)
/- (postil/vote.poll).says -/
theorem g137 : Good t137 := good [] trivial [] trivial (by kernel_rfl) (by kernel_rfl)
/- (postil/vote.poll).says -/
theorem g138 : Good t138 := good [] trivial [] trivial (by kernel_rfl) (by kernel_rfl)
/- (postil/vote.poll).wrong -/
theorem g139 : Good t139 := good [t136, t137, t138] ⟨g136, g137, g138, trivial⟩ [] trivial (by kernel_rfl) (by kernel_rfl)
/- (postil/vote.poll).wrongs -/
theorem g140 : Good t140 := good [t139] ⟨g139, trivial⟩ [] trivial (by kernel_rfl) (by kernel_rfl)
/- postil/vote.Wrongs -/
theorem g141 : Good t141 := good [t135, t140] ⟨g135, g140, trivial⟩ [] trivial (by kernel_rfl) (by kernel_rfl)
/- postil/vote.beginAt -/
theorem g142 : Good t142 := good [t116] ⟨g116, trivial⟩ [] trivial (by kernel_rfl) (by kernel_rfl)
/- (postil/vote.poll).says -/
theorem g143 : Good t143 := good [] trivial [] trivial (by kernel_rfl) (by kernel_rfl)
/- (postil/vote.poll).says -/
theorem g144 : Good t144 := good [] trivial [] trivial (by kernel_rfl) (by kernel_rfl)
/- (postil/vote.poll).says -/
theorem g145 : Good t145 := good [] trivial [] trivial (by kernel_rfl) (by kernel_rfl)
/- (postil/vote.poll).says -/
theorem g146 : Good t146 := good [] trivial [] trivial (by kernel_rfl) (by kernel_rfl)
/- (postil/vote.poll).says -/
theorem g147 : Good t147 := good [] trivial [] trivial (by kernel_rfl) (by kernel_rfl)
/- (postil/vote.poll).says -/
theorem g148 : Good t148 := good [] trivial [] trivial (by kernel_rfl) (by kernel_rfl)
/- (postil/vote.poll).tally -/
theorem g149 : Good t149 := good [t143, t144, t145, t146, t147, t148] ⟨g143, g144, g145, g146, g147, g148, trivial⟩ [] trivial (by kernel_rfl) (by kernel_rfl)
/- postil/vote.Tally -/
theorem g150 : Good t150 := good [t142, t149] ⟨g142, g149, trivial⟩ [] trivial (by kernel_rfl) (by kernel_rfl)
/- (postil/vote.poll).tellApart -/
theorem g151 : Good t151 := good [] trivial [] trivial (by kernel_rfl) (by kernel_rfl)
/- (postil/vote.poll).tellApart -/
theorem g152 : Good t152 := good [] trivial [] trivial (by kernel_rfl) (by kernel_rfl)
/- (postil/vote.poll).tellApart -/
theorem g153 : Good t153 := good [] trivial [] trivial (by kernel_rfl) (by kernel_rfl)
/- (postil/vote.poll).tellApart -/
theorem g154 : Good t154 := good [] trivial [] trivial (by kernel_rfl) (by kernel_rfl)
/- (postil/vote.poll).tellApart -/
theorem g155 : Good t155 := good [] trivial [] trivial (by kernel_rfl) (by kernel_rfl)
/- (postil/vote.poll).tellApart -/
theorem g156 : Good t156 := good [] trivial [] trivial (by kernel_rfl) (by kernel_rfl)
/- (postil/vote.poll).tellApart -/
theorem g157 : Good t157 := good [] trivial [] trivial (by kernel_rfl) (by kernel_rfl)
/- (postil/vote.poll).tellApart -/
theorem g158 : Good t158 := good [] trivial [] trivial (by kernel_rfl) (by kernel_rfl)
/- (postil/vote.poll).ask$1 -/
theorem g159 : Good t159 := good [] trivial [] trivial (by kernel_rfl) (by kernel_rfl)
/- (postil/vote.poll).ask -/
theorem g160 : Good t160 := good [t151, t152, t153, t154, t155, t156, t157, t158, t159] ⟨g151, g152, g153, g154, g155, g156, g157, g158, g159, trivial⟩ [] trivial (by kernel_rfl) (by kernel_rfl)
/- postil/vote.Ask -/
theorem g161 : Good t161 := good [t124, t160] ⟨g124, g160, trivial⟩ [] trivial (by kernel_rfl) (by kernel_rfl)
/- (postil/vote.poll).unsettled -/
theorem g162 : Good t162 := good [t128, t129, t133] ⟨g128, g129, g133, trivial⟩ [] trivial (by kernel_rfl) (by kernel_rfl)
/- (postil/vote.poll).worst -/
theorem g163 : Good t163 := good [t130, t131, t132] ⟨g130, g131, g132, trivial⟩ [] trivial (by kernel_rfl) (by kernel_rfl)
/- (postil/vote.poll).worst -/
theorem g164 : Good t164 := good [t120, t121, t122] ⟨g120, g121, g122, trivial⟩ [] trivial (by kernel_rfl) (by kernel_rfl)
/- (postil/vote.poll).next -/
theorem g165 : Good t165 := good [t162, t163, t164] ⟨g162, g163, g164, trivial⟩ [] trivial (by kernel_rfl) (by kernel_rfl)
/- postil/vote.Next -/
theorem g166 : Good t166 := good [t124, t162, t165] ⟨g124, g162, g165, trivial⟩ [] trivial (by kernel_rfl) (by kernel_rfl)
/- (postil/vote.poll).left -/
theorem g167 : Good t167 := good [] trivial [] trivial (by kernel_rfl) (by kernel_rfl)
/- (postil/vote.poll).left -/
theorem g168 : Good t168 := good [] trivial [] trivial (by kernel_rfl) (by kernel_rfl)
/- (postil/vote.poll).open -/
theorem g169 : Good t169 := good [t167, t168] ⟨g167, g168, trivial⟩ [] trivial (by kernel_rfl) (by kernel_rfl)
/- (postil/vote.poll).settled -/
theorem g170 : Good t170 := good [t169] ⟨g169, trivial⟩ [] trivial (by kernel_rfl) (by kernel_rfl)
/- postil/stem.beginAt -/
theorem g171 : Good t171 := good [t16, t18] ⟨g16, g18, trivial⟩ [] trivial (by kernel_rfl) (by kernel_rfl)
/- (postil/stem.lexicon).decision -/
theorem g172 : Good t172 := good [] trivial [] trivial (by kernel_rfl) (by kernel_rfl)
/- (postil/stem.lexicon).steps -/
theorem g173 : Good t173 := good [] trivial [] trivial (by kernel_rfl) (by kernel_rfl)
/- (postil/stem.lexicon).head -/
theorem g174 : Good t174 := good [t172, t173] ⟨g172, g173, trivial⟩ [] trivial (by kernel_rfl) (by kernel_rfl)
/- postil/stem.HeadOf -/
theorem g175 : Good t175 := good [t171, t174] ⟨g171, g174, trivial⟩ [] trivial (by kernel_rfl) (by kernel_rfl)
/- slices.Concat[[]postil/api.Decision,postil/api.Decision] -/
theorem g176 : Good t176 := good [] trivial [] trivial (by kernel_rfl) (by kernel_rfl)
/- slices.Index[[]postil/api.Place,postil/api.Place] -/
theorem g177 : Good t177 := good [] trivial [] trivial (by kernel_rfl) (by kernel_rfl)
/- slices.Contains[[]postil/api.Place,postil/api.Place] -/
theorem g178 : Good t178 := good [t177] ⟨g177, trivial⟩ [] trivial (by kernel_rfl) (by kernel_rfl)
/- (postil/stem.lexicon).hasPlace -/
theorem g179 : Good t179 := good [t178] ⟨g178, trivial⟩ [] trivial (by kernel_rfl) (by kernel_rfl)
/- postil/stem.kinds$5 -/
theorem g180 : Good t180 := good [t15, t179] ⟨g15, g179, trivial⟩ [] trivial (by kernel_rfl) (by kernel_rfl)
/- (postil/stem.lexicon).isDecision -/
theorem g181 : Good t181 := good [t180] ⟨g180, trivial⟩ [] trivial (by kernel_rfl) (by kernel_rfl)
/- slices.Index[[]postil/api.Place,postil/api.Place] -/
theorem g182 : Good t182 := good [] trivial [] trivial (by kernel_rfl) (by kernel_rfl)
/- slices.Contains[[]postil/api.Place,postil/api.Place] -/
theorem g183 : Good t183 := good [t182] ⟨g182, trivial⟩ [] trivial (by kernel_rfl) (by kernel_rfl)
/- (postil/stem.lexicon).hasPlace -/
theorem g184 : Good t184 := good [t183] ⟨g183, trivial⟩ [] trivial (by kernel_rfl) (by kernel_rfl)
/- postil/stem.kinds$5 -/
theorem g185 : Good t185 := good [t23, t184] ⟨g23, g184, trivial⟩ [] trivial (by kernel_rfl) (by kernel_rfl)
/- (postil/stem.lexicon).isDecision -/
theorem g186 : Good t186 := good [t185] ⟨g185, trivial⟩ [] trivial (by kernel_rfl) (by kernel_rfl)
/- (postil/stem.lexicon).areDecisions -/
theorem g187 : Good t187 := good [t181, t186] ⟨g181, g186, trivial⟩ [] trivial (by kernel_rfl) (by kernel_rfl)
/- (postil/stem.lexicon).deciding -/
theorem g188 : Good t188 := good [] trivial [] trivial (by kernel_rfl) (by kernel_rfl)
/- postil/stem.beginMore -/
theorem g189 : Good t189 := good [t16, t176, t187, t188] ⟨g16, g176, g187, g188, trivial⟩ [] trivial (by kernel_rfl) (by kernel_rfl)
/- postil/stem.Add -/
theorem g190 : Good t190 := good [t189] ⟨g189, trivial⟩ [] trivial (by kernel_rfl) (by kernel_rfl)
/- (postil/vote.poll).deciding -/
theorem g191 : Good t191 := good [t175, t190] ⟨g175, g190, trivial⟩ [] trivial (by kernel_rfl) (by kernel_rfl)
/- (postil/vote.poll).left -/
theorem g192 : Good t192 := good [] trivial [] trivial (by kernel_rfl) (by kernel_rfl)
/- (postil/vote.poll).left -/
theorem g193 : Good t193 := good [] trivial [] trivial (by kernel_rfl) (by kernel_rfl)
/- (postil/vote.poll).open -/
theorem g194 : Good t194 := good [t192, t193] ⟨g192, g193, trivial⟩ [] trivial (by kernel_rfl) (by kernel_rfl)
/- (postil/vote.poll).settled -/
theorem g195 : Good t195 := good [t194] ⟨g194, trivial⟩ [] trivial (by kernel_rfl) (by kernel_rfl)
/- postil/stem.begin -/
theorem g196 : Good t196 := good [t10, t15, t23] ⟨g10, g15, g23, trivial⟩ [] trivial (by kernel_rfl) (by kernel_rfl)
/- postil/stem.beginAt -/
theorem g197 : Good t197 := good [t26, t196] ⟨g26, g196, trivial⟩ [] trivial (by kernel_rfl) (by kernel_rfl)
/- (postil/stem.lexicon).decision -/
theorem g198 : Good t198 := good [] trivial [] trivial (by kernel_rfl) (by kernel_rfl)
/- (postil/stem.lexicon).steps -/
theorem g199 : Good t199 := good [] trivial [] trivial (by kernel_rfl) (by kernel_rfl)
/- (postil/stem.lexicon).head -/
theorem g200 : Good t200 := good [t198, t199] ⟨g198, g199, trivial⟩ [] trivial (by kernel_rfl) (by kernel_rfl)
/- postil/stem.HeadOf -/
theorem g201 : Good t201 := good [t197, t200] ⟨g197, g200, trivial⟩ [] trivial (by kernel_rfl) (by kernel_rfl)
/- (postil/vote.poll).deciding -/
theorem g202 : Good t202 := good [t201] ⟨g201, trivial⟩ [] trivial (by kernel_rfl) (by kernel_rfl)
/- (postil/vote.poll).left -/
theorem g203 : Good t203 := good [] trivial [] trivial (by kernel_rfl) (by kernel_rfl)
/- (postil/vote.poll).left -/
theorem g204 : Good t204 := good [] trivial [] trivial (by kernel_rfl) (by kernel_rfl)
/- (postil/vote.poll).open -/
theorem g205 : Good t205 := good [t203, t204] ⟨g203, g204, trivial⟩ [] trivial (by kernel_rfl) (by kernel_rfl)
/- (postil/vote.poll).settled -/
theorem g206 : Good t206 := good [t205] ⟨g205, trivial⟩ [] trivial (by kernel_rfl) (by kernel_rfl)
/- postil/stem.beginAt -/
theorem g207 : Good t207 := good [t38, t196] ⟨g38, g196, trivial⟩ [] trivial (by kernel_rfl) (by kernel_rfl)
/- (postil/stem.lexicon).decision -/
theorem g208 : Good t208 := good [] trivial [] trivial (by kernel_rfl) (by kernel_rfl)
/- (postil/stem.lexicon).steps -/
theorem g209 : Good t209 := good [] trivial [] trivial (by kernel_rfl) (by kernel_rfl)
/- (postil/stem.lexicon).head -/
theorem g210 : Good t210 := good [t208, t209] ⟨g208, g209, trivial⟩ [] trivial (by kernel_rfl) (by kernel_rfl)
/- postil/stem.HeadOf -/
theorem g211 : Good t211 := good [t207, t210] ⟨g207, g210, trivial⟩ [] trivial (by kernel_rfl) (by kernel_rfl)
/- slices.Concat[[]postil/api.Decision,postil/api.Decision] -/
theorem g212 : Good t212 := good [] trivial [] trivial (by kernel_rfl) (by kernel_rfl)
/- (postil/stem.lexicon).hasPlace -/
theorem g213 : Good t213 := good [t178] ⟨g178, trivial⟩ [] trivial (by kernel_rfl) (by kernel_rfl)
/- postil/stem.kinds$5 -/
theorem g214 : Good t214 := good [t15, t213] ⟨g15, g213, trivial⟩ [] trivial (by kernel_rfl) (by kernel_rfl)
/- (postil/stem.lexicon).isDecision -/
theorem g215 : Good t215 := good [t214] ⟨g214, trivial⟩ [] trivial (by kernel_rfl) (by kernel_rfl)
/- (postil/stem.lexicon).hasPlace -/
theorem g216 : Good t216 := good [t183] ⟨g183, trivial⟩ [] trivial (by kernel_rfl) (by kernel_rfl)
/- postil/stem.kinds$5 -/
theorem g217 : Good t217 := good [t23, t216] ⟨g23, g216, trivial⟩ [] trivial (by kernel_rfl) (by kernel_rfl)
/- (postil/stem.lexicon).isDecision -/
theorem g218 : Good t218 := good [t217] ⟨g217, trivial⟩ [] trivial (by kernel_rfl) (by kernel_rfl)
/- slices.Index[[]postil/api.Place,postil/api.Place] -/
theorem g219 : Good t219 := good [] trivial [] trivial (by kernel_rfl) (by kernel_rfl)
/- slices.Contains[[]postil/api.Place,postil/api.Place] -/
theorem g220 : Good t220 := good [t219] ⟨g219, trivial⟩ [] trivial (by kernel_rfl) (by kernel_rfl)
/- (postil/stem.lexicon).hasPlace -/
theorem g221 : Good t221 := good [t220] ⟨g220, trivial⟩ [] trivial (by kernel_rfl) (by kernel_rfl)
/- postil/stem.kinds$5 -/
theorem g222 : Good t222 := good [t23, t221] ⟨g23, g221, trivial⟩ [] trivial (by kernel_rfl) (by kernel_rfl)
/- (postil/stem.lexicon).isDecision -/
theorem g223 : Good t223 := good [t222] ⟨g222, trivial⟩ [] trivial (by kernel_rfl) (by kernel_rfl)
/- (postil/stem.lexicon).areDecisions -/
theorem g224 : Good t224 := good [t215, t218, t223] ⟨g215, g218, g223, trivial⟩ [] trivial (by kernel_rfl) (by kernel_rfl)
/- (postil/stem.lexicon).deciding -/
theorem g225 : Good t225 := good [] trivial [] trivial (by kernel_rfl) (by kernel_rfl)
/- postil/stem.beginMore -/
theorem g226 : Good t226 := good [t196, t212, t224, t225] ⟨g196, g212, g224, g225, trivial⟩ [] trivial (by kernel_rfl) (by kernel_rfl)
/- postil/stem.Add -/
theorem g227 : Good t227 := good [t226] ⟨g226, trivial⟩ [] trivial (by kernel_rfl) (by kernel_rfl)
/- (postil/vote.poll).deciding -/
theorem g228 : Good t228 := good [t211, t227] ⟨g211, g227, trivial⟩ [] trivial (by kernel_rfl) (by kernel_rfl)
/- (postil/vote.poll).decide -/
theorem g229 : Good t229 := good [t170, t191, t195, t202, t206, t228] ⟨g170, g191, g195, g202, g206, g228, trivial⟩ [] trivial (by kernel_rfl) (by kernel_rfl)
/- postil/vote.Decide -/
theorem g230 : Good t230 := good [t117, t229] ⟨g117, g229, trivial⟩ [] trivial (by kernel_rfl) (by kernel_rfl)
/- (postil/stem.lexicon).decision -/
theorem g231 : Good t231 := good [] trivial [] trivial (by kernel_rfl) (by kernel_rfl)
/- (postil/stem.lexicon).steps -/
theorem g232 : Good t232 := good [] trivial [] trivial (by kernel_rfl) (by kernel_rfl)
/- (postil/stem.lexicon).head -/
theorem g233 : Good t233 := good [t231, t232] ⟨g231, g232, trivial⟩ [] trivial (by kernel_rfl) (by kernel_rfl)
/- (postil/stem.lexicon).decision -/
theorem g234 : Good t234 := good [] trivial [] trivial (by kernel_rfl) (by kernel_rfl)
/- (postil/stem.lexicon).steps -/
theorem g235 : Good t235 := good [] trivial [] trivial (by kernel_rfl) (by kernel_rfl)
/- (postil/stem.lexicon).head -/
theorem g236 : Good t236 := good [t234, t235] ⟨g234, g235, trivial⟩ [] trivial (by kernel_rfl) (by kernel_rfl)
/- (postil/stem.lexicon).decision -/
theorem g237 : Good t237 := good [] trivial [] trivial (by kernel_rfl) (by kernel_rfl)
/- (postil/stem.lexicon).steps -/
theorem g238 : Good t238 := good [] trivial [] trivial (by kernel_rfl) (by kernel_rfl)
/- (postil/stem.lexicon).head -/
theorem g239 : Good t239 := good [t237, t238] ⟨g237, g238, trivial⟩ [] trivial (by kernel_rfl) (by kernel_rfl)
/- (postil/stem.lexicon).decision -/
theorem g240 : Good t240 := good [] trivial [] trivial (by kernel_rfl) (by kernel_rfl)
/- (postil/stem.lexicon).head -/
theorem g241 : Good t241 := good [t238, t240] ⟨g238, g240, trivial⟩ [] trivial (by kernel_rfl) (by kernel_rfl)
/- (postil/stem.lexicon).decision -/
theorem g242 : Good t242 := good [] trivial [] trivial (by kernel_rfl) (by kernel_rfl)
/- (postil/stem.lexicon).head -/
theorem g243 : Good t243 := good [t232, t242] ⟨g232, g242, trivial⟩ [] trivial (by kernel_rfl) (by kernel_rfl)
/- (postil/stem.lexicon).decision -/
theorem g244 : Good t244 := good [] trivial [] trivial (by kernel_rfl) (by kernel_rfl)
/- (postil/stem.lexicon).head -/
theorem g245 : Good t245 := good [t173, t244] ⟨g173, g244, trivial⟩ [] trivial (by kernel_rfl) (by kernel_rfl)
/- (postil/stem.lexicon).decision -/
theorem g246 : Good t246 := good [] trivial [] trivial (by kernel_rfl) (by kernel_rfl)
/- (postil/stem.lexicon).head -/
theorem g247 : Good t247 := good [t173, t246] ⟨g173, g246, trivial⟩ [] trivial (by kernel_rfl) (by kernel_rfl)
/- (postil/stem.lexicon).decision -/
theorem g248 : Good t248 := good [] trivial [] trivial (by kernel_rfl) (by kernel_rfl)
/- (postil/stem.lexicon).steps -/
theorem g249 : Good t249 := good [] trivial [] trivial (by kernel_rfl) (by kernel_rfl)
/- (postil/stem.lexicon).head -/
theorem g250 : Good t250 := good [t248, t249] ⟨g248, g249, trivial⟩ [] trivial (by kernel_rfl) (by kernel_rfl)
/- postil/stem.comparePlaces -/
theorem g251 : Good t251 := good [] trivial [] trivial (by kernel_rfl) (by kernel_rfl)
/- postil/stem.compareDecisions -/
theorem g252 : Good t252 := good [t251] ⟨g251, trivial⟩ [] trivial (by kernel_rfl) (by kernel_rfl)
/- (postil/stem.lexicon).decision -/
theorem g253 : Good t253 := good [t252] ⟨g252, trivial⟩ [] trivial (by kernel_rfl) (by kernel_rfl)
/- (postil/stem.lexicon).head -/
theorem g254 : Good t254 := good [t253] ⟨g253, trivial⟩ [] trivial (by kernel_rfl) (by kernel_rfl)
/- (postil/stem.lexicon).heads -/
theorem g255 : Good t255 := good [t174, t233, t236, t239, t241, t243, t245, t247, t250, t254] ⟨g174, g233, g236, g239, g241, g243, g245, g247, g250, g254, trivial⟩ [] trivial (by kernel_rfl) (by kernel_rfl)
/- postil/stem.Homographs -/
theorem g256 : Good t256 := good [t16, t255] ⟨g16, g255, trivial⟩ [] trivial (by kernel_rfl) (by kernel_rfl)
/- (postil/leaf.text).lineOf -/
theorem g257 : Good t257 := good [] trivial [] trivial (by kernel_rfl) (by kernel_rfl)
/- (postil/leaf.text).hasPlace -/
theorem g258 : Good t258 := good [t257] ⟨g257, trivial⟩ [] trivial (by kernel_rfl) (by kernel_rfl)
/- postil/leaf.At -/
theorem g259 : Good t259 := good [t9, t257, t258] ⟨g9, g257, g258, trivial⟩ [] trivial (by kernel_rfl) (by kernel_rfl)
/- (postil/leaf.text).lineOf -/
theorem g260 : Good t260 := good [] trivial [] trivial (by kernel_rfl) (by kernel_rfl)
/- (postil/leaf.text).hasPlace -/
theorem g261 : Good t261 := good [t260] ⟨g260, trivial⟩ [] trivial (by kernel_rfl) (by kernel_rfl)
/- postil/leaf.At -/
theorem g262 : Good t262 := good [t9, t260, t261] ⟨g9, g260, g261, trivial⟩ [] trivial (by kernel_rfl) (by kernel_rfl)
/- (postil/vote.poll).standing -/
theorem g263 : Good t263 := good [t162, t259, t262] ⟨g162, g259, g262, trivial⟩ [] trivial (by kernel_rfl) (by kernel_rfl)
/- (postil/vote.poll).moot -/
theorem g264 : Good t264 := good [t256, t263] ⟨g256, g263, trivial⟩ [] trivial (by kernel_rfl) (by kernel_rfl)
/- postil/vote.Moot -/
theorem g265 : Good t265 := good [t124, t264] ⟨g124, g264, trivial⟩ [] trivial (by kernel_rfl) (by kernel_rfl)
/- postil/postilref07.SameInts -/
theorem g266 : Good t266 := good [] trivial [] trivial (by kernel_rfl) (by kernel_rfl)
/- postil/postilref07.SameInts -/
theorem g267 : Good t267 := good [] trivial [] trivial (by kernel_rfl) (by kernel_rfl)
/- postil/postilref07.SameInts -/
theorem g268 : Good t268 := good [] trivial [] trivial (by kernel_rfl) (by kernel_rfl)
/- postil/postilref07.SameInts -/
theorem g269 : Good t269 := good [] trivial [] trivial (by kernel_rfl) (by kernel_rfl)
/- postil/postilref07.SameInts -/
theorem g270 : Good t270 := good [] trivial [] trivial (by kernel_rfl) (by kernel_rfl)
/- postil/postillaw07.alive -/
theorem g271 : Good t271 := good [t0, t78, t118, t123, t134, t141, t150, t161, t166, t230, t265, t266, t267, t268, t269, t270] ⟨g0, g78, g118, g123, g134, g141, g150, g161, g166, g230, g265, g266, g267, g268, g269, g270, trivial⟩ [] trivial (by kernel_rfl) (by kernel_rfl)
/- postil/vote.Count -/
theorem g272 : Good t272 := good [t116] ⟨g116, trivial⟩ [] trivial (by kernel_rfl) (by kernel_rfl)
/- postil/vote.beginAt -/
theorem g273 : Good t273 := good [t116] ⟨g116, trivial⟩ [] trivial (by kernel_rfl) (by kernel_rfl)
/- postil/vote.Open -/
theorem g274 : Good t274 := good [t205, t273] ⟨g205, g273, trivial⟩ [] trivial (by kernel_rfl) (by kernel_rfl)
/- postil/vote.Settled -/
theorem g275 : Good t275 := good [t117, t170, t195, t206] ⟨g117, g170, g195, g206, trivial⟩ [] trivial (by kernel_rfl) (by kernel_rfl)
/- (postil/vote.poll).says -/
theorem g276 : Good t276 := good [] trivial [] trivial (by kernel_rfl) (by kernel_rfl)
/- (postil/vote.poll).says -/
theorem g277 : Good t277 := good [] trivial [] trivial (by kernel_rfl) (by kernel_rfl)
/- (postil/vote.poll).says -/
theorem g278 : Good t278 := good [] trivial [] trivial (by kernel_rfl) (by kernel_rfl)
/- (postil/vote.poll).wrong -/
theorem g279 : Good t279 := good [t276, t277, t278] ⟨g276, g277, g278, trivial⟩ [] trivial (by kernel_rfl) (by kernel_rfl)
/- (postil/vote.poll).wrongs -/
theorem g280 : Good t280 := good [t279] ⟨g279, trivial⟩ [] trivial (by kernel_rfl) (by kernel_rfl)
/- postil/vote.Wrongs -/
theorem g281 : Good t281 := good [t273, t280] ⟨g273, g280, trivial⟩ [] trivial (by kernel_rfl) (by kernel_rfl)
/- (postil/vote.poll).says -/
theorem g282 : Good t282 := good [] trivial [] trivial (by kernel_rfl) (by kernel_rfl)
/- (postil/vote.poll).says -/
theorem g283 : Good t283 := good [] trivial [] trivial (by kernel_rfl) (by kernel_rfl)
/- (postil/vote.poll).says -/
theorem g284 : Good t284 := good [] trivial [] trivial (by kernel_rfl) (by kernel_rfl)
/- (postil/vote.poll).says -/
theorem g285 : Good t285 := good [] trivial [] trivial (by kernel_rfl) (by kernel_rfl)
/- (postil/vote.poll).says -/
theorem g286 : Good t286 := good [] trivial [] trivial (by kernel_rfl) (by kernel_rfl)
/- (postil/vote.poll).says -/
theorem g287 : Good t287 := good [] trivial [] trivial (by kernel_rfl) (by kernel_rfl)
/- (postil/vote.poll).tally -/
theorem g288 : Good t288 := good [t282, t283, t284, t285, t286, t287] ⟨g282, g283, g284, g285, g286, g287, trivial⟩ [] trivial (by kernel_rfl) (by kernel_rfl)
/- postil/vote.Tally -/
theorem g289 : Good t289 := good [t273, t288] ⟨g273, g288, trivial⟩ [] trivial (by kernel_rfl) (by kernel_rfl)
/- (postil/vote.poll).tellApart -/
theorem g290 : Good t290 := good [] trivial [] trivial (by kernel_rfl) (by kernel_rfl)
/- (postil/vote.poll).tellApart -/
theorem g291 : Good t291 := good [] trivial [] trivial (by kernel_rfl) (by kernel_rfl)
/- (postil/vote.poll).ask$1 -/
theorem g292 : Good t292 := good [] trivial [] trivial (by kernel_rfl) (by kernel_rfl)
/- (postil/vote.poll).tellApart -/
theorem g293 : Good t293 := good [] trivial [] trivial (by kernel_rfl) (by kernel_rfl)
/- (postil/vote.poll).ask$1 -/
theorem g294 : Good t294 := good [] trivial [] trivial (by kernel_rfl) (by kernel_rfl)
/- (postil/vote.poll).tellApart -/
theorem g295 : Good t295 := good [] trivial [] trivial (by kernel_rfl) (by kernel_rfl)
/- (postil/vote.poll).ask$1 -/
theorem g296 : Good t296 := good [] trivial [] trivial (by kernel_rfl) (by kernel_rfl)
/- (postil/vote.poll).tellApart -/
theorem g297 : Good t297 := good [] trivial [] trivial (by kernel_rfl) (by kernel_rfl)
/- (postil/vote.poll).ask$1 -/
theorem g298 : Good t298 := good [] trivial [] trivial (by kernel_rfl) (by kernel_rfl)
/- (postil/vote.poll).tellApart -/
theorem g299 : Good t299 := good [] trivial [] trivial (by kernel_rfl) (by kernel_rfl)
/- (postil/vote.poll).ask$1 -/
theorem g300 : Good t300 := good [] trivial [] trivial (by kernel_rfl) (by kernel_rfl)
/- (postil/vote.poll).tellApart -/
theorem g301 : Good t301 := good [] trivial [] trivial (by kernel_rfl) (by kernel_rfl)
/- (postil/vote.poll).ask$1 -/
theorem g302 : Good t302 := good [] trivial [] trivial (by kernel_rfl) (by kernel_rfl)
/- (postil/vote.poll).tellApart -/
theorem g303 : Good t303 := good [] trivial [] trivial (by kernel_rfl) (by kernel_rfl)
/- (postil/vote.poll).ask$1 -/
theorem g304 : Good t304 := good [] trivial [] trivial (by kernel_rfl) (by kernel_rfl)
/- (postil/vote.poll).ask -/
theorem g305 : Good t305 := good [t290, t291, t292, t293, t294, t295, t296, t297, t298, t299, t300, t301, t302, t303, t304] ⟨g290, g291, g292, g293, g294, g295, g296, g297, g298, g299, g300, g301, g302, g303, g304, trivial⟩ [] trivial (by kernel_rfl) (by kernel_rfl)
/- postil/vote.Ask -/
theorem g306 : Good t306 := good [t117, t305] ⟨g117, g305, trivial⟩ [] trivial (by kernel_rfl) (by kernel_rfl)
/- postil/postilref07.SameInts -/
theorem g307 : Good t307 := good [] trivial [] trivial (by kernel_rfl) (by kernel_rfl)
/- postil/postilref07.SameInts -/
theorem g308 : Good t308 := good [] trivial [] trivial (by kernel_rfl) (by kernel_rfl)
/- postil/postilref04.Same -/
theorem g309 : Good t309 := good [] trivial [] trivial (by kernel_rfl) (by kernel_rfl)
/- (postil/vote.poll).unsettled -/
theorem g310 : Good t310 := good [t170, t195, t206] ⟨g170, g195, g206, trivial⟩ [] trivial (by kernel_rfl) (by kernel_rfl)
/- postil/vote.Next -/
theorem g311 : Good t311 := good [t117, t310] ⟨g117, g310, trivial⟩ [] trivial (by kernel_rfl) (by kernel_rfl)
/- postil/vote.beginAt -/
theorem g312 : Good t312 := good [t116] ⟨g116, trivial⟩ [] trivial (by kernel_rfl) (by kernel_rfl)
/- postil/vote.Open -/
theorem g313 : Good t313 := good [t312] ⟨g312, trivial⟩ [] trivial (by kernel_rfl) (by kernel_rfl)
/- postil/vote.isVoter -/
theorem g314 : Good t314 := good [] trivial [] trivial (by kernel_rfl) (by kernel_rfl)
/- postil/vote.areVoters -/
theorem g315 : Good t315 := good [t43, t79, t314] ⟨g43, g79, g314, trivial⟩ [] trivial (by kernel_rfl) (by kernel_rfl)
/- (postil/vote.poll).list -/
theorem g316 : Good t316 := good [] trivial [] trivial (by kernel_rfl) (by kernel_rfl)
/- (postil/vote.poll).says -/
theorem g317 : Good t317 := good [] trivial [] trivial (by kernel_rfl) (by kernel_rfl)
/- (postil/vote.poll).says -/
theorem g318 : Good t318 := good [] trivial [] trivial (by kernel_rfl) (by kernel_rfl)
/- (postil/vote.poll).says -/
theorem g319 : Good t319 := good [] trivial [] trivial (by kernel_rfl) (by kernel_rfl)
/- (postil/vote.poll).wrong -/
theorem g320 : Good t320 := good [t317, t318, t319] ⟨g317, g318, g319, trivial⟩ [] trivial (by kernel_rfl) (by kernel_rfl)
/- (postil/vote.poll).list -/
theorem g321 : Good t321 := good [] trivial [] trivial (by kernel_rfl) (by kernel_rfl)
/- (postil/vote.poll).says -/
theorem g322 : Good t322 := good [] trivial [] trivial (by kernel_rfl) (by kernel_rfl)
/- (postil/vote.poll).wrong -/
theorem g323 : Good t323 := good [t317, t318, t322] ⟨g317, g318, g322, trivial⟩ [] trivial (by kernel_rfl) (by kernel_rfl)
/- (postil/vote.poll).list -/
theorem g324 : Good t324 := good [] trivial [] trivial (by kernel_rfl) (by kernel_rfl)
/- (postil/vote.poll).says -/
theorem g325 : Good t325 := good [] trivial [] trivial (by kernel_rfl) (by kernel_rfl)
/- (postil/vote.poll).wrong -/
theorem g326 : Good t326 := good [t317, t319, t325] ⟨g317, g319, g325, trivial⟩ [] trivial (by kernel_rfl) (by kernel_rfl)
/- (postil/vote.poll).says -/
theorem g327 : Good t327 := good [] trivial [] trivial (by kernel_rfl) (by kernel_rfl)
/- (postil/vote.poll).says -/
theorem g328 : Good t328 := good [] trivial [] trivial (by kernel_rfl) (by kernel_rfl)
/- (postil/vote.poll).says -/
theorem g329 : Good t329 := good [] trivial [] trivial (by kernel_rfl) (by kernel_rfl)
/- (postil/vote.poll).wrong -/
theorem g330 : Good t330 := good [t327, t328, t329] ⟨g327, g328, g329, trivial⟩ [] trivial (by kernel_rfl) (by kernel_rfl)
/- (postil/vote.poll).list -/
theorem g331 : Good t331 := good [] trivial [] trivial (by kernel_rfl) (by kernel_rfl)
/- (postil/vote.poll).wrong -/
theorem g332 : Good t332 := good [t317, t322, t325] ⟨g317, g322, g325, trivial⟩ [] trivial (by kernel_rfl) (by kernel_rfl)
/- (postil/vote.poll).says -/
theorem g333 : Good t333 := good [] trivial [] trivial (by kernel_rfl) (by kernel_rfl)
/- (postil/vote.poll).wrong -/
theorem g334 : Good t334 := good [t327, t328, t333] ⟨g327, g328, g333, trivial⟩ [] trivial (by kernel_rfl) (by kernel_rfl)
/- (postil/vote.poll).list -/
theorem g335 : Good t335 := good [] trivial [] trivial (by kernel_rfl) (by kernel_rfl)
/- (postil/vote.poll).says -/
theorem g336 : Good t336 := good [] trivial [] trivial (by kernel_rfl) (by kernel_rfl)
/- (postil/vote.poll).wrong -/
theorem g337 : Good t337 := good [t318, t319, t336] ⟨g318, g319, g336, trivial⟩ [] trivial (by kernel_rfl) (by kernel_rfl)
/- (postil/vote.poll).list -/
theorem g338 : Good t338 := good [] trivial [] trivial (by kernel_rfl) (by kernel_rfl)
/- (postil/vote.poll).wrong -/
theorem g339 : Good t339 := good [t318, t322, t336] ⟨g318, g322, g336, trivial⟩ [] trivial (by kernel_rfl) (by kernel_rfl)
/- (postil/vote.poll).list -/
theorem g340 : Good t340 := good [] trivial [] trivial (by kernel_rfl) (by kernel_rfl)
/- (postil/vote.poll).wrong -/
theorem g341 : Good t341 := good [t319, t325, t336] ⟨g319, g325, g336, trivial⟩ [] trivial (by kernel_rfl) (by kernel_rfl)
/- (postil/vote.poll).says -/
theorem g342 : Good t342 := good [] trivial [] trivial (by kernel_rfl) (by kernel_rfl)
/- (postil/vote.poll).wrong -/
theorem g343 : Good t343 := good [t328, t329, t342] ⟨g328, g329, g342, trivial⟩ [] trivial (by kernel_rfl) (by kernel_rfl)
/- (postil/vote.poll).list -/
theorem g344 : Good t344 := good [] trivial [] trivial (by kernel_rfl) (by kernel_rfl)
/- (postil/vote.poll).wrong -/
theorem g345 : Good t345 := good [t322, t325, t336] ⟨g322, g325, g336, trivial⟩ [] trivial (by kernel_rfl) (by kernel_rfl)
/- (postil/vote.poll).wrong -/
theorem g346 : Good t346 := good [t328, t333, t342] ⟨g328, g333, g342, trivial⟩ [] trivial (by kernel_rfl) (by kernel_rfl)
/- postil/vote.begin -/
theorem g347 : Good t347 := good [t17, t41, t315, t316, t320, t321, t323, t324, t326, t330, t331, t332, t334, t335, t337, t338, t339, t340, t341, t343, t344, t345, t346] ⟨g17, g41, g315, g316, g320, g321, g323, g324, g326, g330, g331, g332, g334, g335, g337, g338, g339, g340, g341, g343, g344, g345, g346, trivial⟩ [] trivial (by kernel_rfl) (by kernel_rfl)
/- postil/vote.beginAt -/
theorem g348 : Good t348 := good [t347] ⟨g347, trivial⟩ [] trivial (by kernel_rfl) (by kernel_rfl)
/- postil/vote.Wrongs -/
theorem g349 : Good t349 := good [t348] ⟨g348, trivial⟩ [] trivial (by kernel_rfl) (by kernel_rfl)
/- postil/vote.beginAt -/
theorem g350 : Good t350 := good [t347] ⟨g347, trivial⟩ [] trivial (by kernel_rfl) (by kernel_rfl)
/- postil/vote.Wrongs -/
theorem g351 : Good t351 := good [t350] ⟨g350, trivial⟩ [] trivial (by kernel_rfl) (by kernel_rfl)
/- postil/vote.beginAt -/
theorem g352 : Good t352 := good [t347] ⟨g347, trivial⟩ [] trivial (by kernel_rfl) (by kernel_rfl)
/- postil/vote.Tally -/
theorem g353 : Good t353 := good [t352] ⟨g352, trivial⟩ [] trivial (by kernel_rfl) (by kernel_rfl)
/- postil/vote.beginTrue -/
theorem g354 : Good t354 := good [t347] ⟨g347, trivial⟩ [] trivial (by kernel_rfl) (by kernel_rfl)
/- postil/vote.Ask -/
theorem g355 : Good t355 := good [t354] ⟨g354, trivial⟩ [] trivial (by kernel_rfl) (by kernel_rfl)
/- postil/vote.isVoter -/
theorem g356 : Good t356 := good [] trivial [] trivial (by kernel_rfl) (by kernel_rfl)
/- postil/vote.areVoters -/
theorem g357 : Good t357 := good [t356] ⟨g356, trivial⟩ [] trivial (by kernel_rfl) (by kernel_rfl)
/- postil/vote.begin -/
theorem g358 : Good t358 := good [t17, t41, t357] ⟨g17, g41, g357, trivial⟩ [] trivial (by kernel_rfl) (by kernel_rfl)
/- postil/vote.beginTrue -/
theorem g359 : Good t359 := good [t358] ⟨g358, trivial⟩ [] trivial (by kernel_rfl) (by kernel_rfl)
/- postil/vote.Decide -/
theorem g360 : Good t360 := good [t359] ⟨g359, trivial⟩ [] trivial (by kernel_rfl) (by kernel_rfl)
/- postil/stem.begin -/
theorem g361 : Good t361 := good [t10] ⟨g10, trivial⟩ [] trivial (by kernel_rfl) (by kernel_rfl)
/- postil/stem.Check -/
theorem g362 : Good t362 := good [t361] ⟨g361, trivial⟩ [] trivial (by kernel_rfl) (by kernel_rfl)
/- postil/vote.begin -/
theorem g363 : Good t363 := good [t362] ⟨g362, trivial⟩ [] trivial (by kernel_rfl) (by kernel_rfl)
/- postil/vote.beginTrue -/
theorem g364 : Good t364 := good [t363] ⟨g363, trivial⟩ [] trivial (by kernel_rfl) (by kernel_rfl)
/- postil/vote.Moot -/
theorem g365 : Good t365 := good [t364] ⟨g364, trivial⟩ [] trivial (by kernel_rfl) (by kernel_rfl)
/- postil/vote.Count -/
theorem g366 : Good t366 := good [t347] ⟨g347, trivial⟩ [] trivial (by kernel_rfl) (by kernel_rfl)
/- postil/vote.Truth -/
theorem g367 : Good t367 := good [t354] ⟨g354, trivial⟩ [] trivial (by kernel_rfl) (by kernel_rfl)
/- postil/vote.Check -/
theorem g368 : Good t368 := good [t358] ⟨g358, trivial⟩ [] trivial (by kernel_rfl) (by kernel_rfl)
/- postil/vote.Check -/
theorem g369 : Good t369 := good [t347] ⟨g347, trivial⟩ [] trivial (by kernel_rfl) (by kernel_rfl)
end Go.Ev
/- Closed evaluations: answers of a function without live arguments, told where memory has another size than at the calls that keep memory. -/
namespace Go.Ev
/-- has a list so many elements, at least -/
def longer {α : Type} : Nat → List α → Bool
  | 0, _ => true
  | _ + 1, [] => false
  | n + 1, _ :: r => longer n r
structure TellE where
  t : Tell
  lo : Nat
  hi : Nat
def tabE : List TellE → Nat → List AV → Heap → Option AV
  | [], _, _, _ => none
  | x :: r, f, args, H => if Nat.beq x.t.f f && (listEq (eqA 30) args x.t.K && (!(longer x.lo H.objs) || longer (x.hi + 1) H.objs)) then some x.t.R else tabE r f args H
def tabEHas : List TellE → Nat → Bool
  | [], _ => false
  | x :: r, f => Nat.beq x.t.f f || tabEHas r f
def tabExhE (e : FuncId → Option (List AV → Heap → Option AV)) (T : List TellE) : FuncId → Option (List AV → Heap → Option AV) := fun f => if tabEHas T f then some (tabE T f) else e f
def AllE (C : Cfg) : List TellE → Prop
  | [] => True
  | x :: r => GoodC C x.t ∧ AllE C r
theorem tabE_some {C : Cfg} : ∀ {T : List TellE} {f : Nat} {args : List AV} {H : Heap} {v : AV}, AllE C T → tabE T f args H = some v → ∃ t, GoodC C t ∧ t.f = f ∧ args = t.K ∧ v = t.R
  | [], _, _, _, _, _, h => by cases h
  | x :: r, f, args, H, v, hT, h => by
    unfold tabE at h
    split at h
    · rename_i hq
      simp only [Bool.and_eq_true] at hq
      exact ⟨x.t, hT.1, Nat.eq_of_beq_eq_true hq.1, listEq_eq (eqA_eq 30) hq.2.1, by simpa using h.symm⟩
    · exact tabE_some hT.2 h
/-! ### calls on live memory, whose answers lead to no memory, parts of parts -/
def atom2 : AV → Bool
  | .v _ => true
  | .agg cs => cs.all atom1
  | _ => false
def atomT : AV → Bool
  | .v _ => true
  | .tup cs => cs.all atom2
  | .agg cs => cs.all atom2
  | _ => false
theorem atom2_rep {Z Z' : Fzn} {ρ ρ' : Pls} {x : AV} {v : Value} (h : Rep Z ρ x v) (ha : atom2 x = true) : Rep Z' ρ' x v := by
  cases h with
  | v h => exact .v h
  | agg hl h => exact .agg hl fun i c v hc hv => atom1_rep (h i c v hc hv) (List.all_eq_true.1 (show List.all _ atom1 = true from ha) c (List.mem_of_getElem? hc))
  | _ => cases ha
theorem atomT_rep {Z Z' : Fzn} {ρ ρ' : Pls} {x : AV} {v : Value} (h : Rep Z ρ x v) (ha : atomT x = true) : Rep Z' ρ' x v := by
  cases h with
  | v h => exact .v h
  | agg hl h => exact .agg hl fun i c v hc hv => atom2_rep (h i c v hc hv) (List.all_eq_true.1 (show List.all _ atom2 = true from ha) c (List.mem_of_getElem? hc))
  | tup hl h => exact .tup hl fun i c v hc hv => atom2_rep (h i c v hc hv) (List.all_eq_true.1 (show List.all _ atom2 = true from ha) c (List.mem_of_getElem? hc))
  | _ => cases ha
theorem back_frozenT {Z : Fzn} {ρ : Pls} {H : Heap} {w : World} (hs : Sim Z ρ H w) {R : AV} (hR : atomT R = true) {x : Value} {w' : World} (h : After (allZ w) noPls { objs := [], lock := 0 } w R { objs := [], lock := 0 } x w') : After Z ρ H w R H x w' := by
  obtain ⟨Z', ρ', h1, h2, h3⟩ := h
  have hsame : ∀ k, k < w.heap.size → w'.heap[k]? = w.heap[k]? := fun k hk => h3.frame k hk (start_own w k)
  refine ⟨Z, ρ, atomT_rep h1 hR, ⟨fun b o hb hl => ?_, hs.inj, fun k o hk => ?_, hs.fresh, hs.lk, hs.lg⟩, ⟨.refl _, .refl _, fun k hk _ => hsame k hk, fun _ _ h => h, h3.size, h3.os, h3.output, h3.tape, h3.drawn, h3.fz, rfl, fun _ _ => rfl, Nat.le_refl _, fun _ _ _ => rfl, fun _ _ _ => rfl, fun _ _ h _ => ⟨h, fun _ => rfl⟩⟩⟩
  · obtain ⟨pl, obj, q1, q2, q3, q4⟩ := hs.objs b o hb hl
    exact ⟨pl, obj, q1, (hsame _ (Array.getElem?_eq_some_iff.1 q2).1).trans q2, q3, q4⟩
  · have := hs.zok k o hk
    exact (hsame _ (Array.getElem?_eq_some_iff.1 this).1).trans this
def borT (T : List Tell) (f : Nat) (args : List AV) (H : Heap) : Option AV :=
  match freezeL { H with lock := 0 } 100000 args with
  | some l => match tabFn T f l with | some R => if atomT R then some R else none | none => none
  | none => none
def tabExhB (e : FuncId → Option (List AV → Heap → Option AV)) (T : List Tell) : FuncId → Option (List AV → Heap → Option AV) := fun f => if tabHas T f then some (borT T f) else e f
theorem extOK_tabB {C : Cfg} (hgo : NoGo C.P) (hm : C.P.follows .mixedOrders = true) (h0 : ExtOK C) {T : List Tell} (hT : AllG C T) : ExtOK (C.more2 (tabExt C.ext T) (tabExhB C.exh T)) := by
  refine ⟨(extOK_tab hgo hm h0 hT (TH := []) trivial).ext, h0.lay, fun f g hf args v H hv Z ρ w vals hs hl => ?_⟩
  have hf' : (if tabHas T f then some (borT T f) else C.exh f) = some g := hf
  split at hf'
  · simp only [Option.some.injEq] at hf'
    subst hf'
    unfold borT at hv
    split at hv
    · rename_i l hfz
      split at hv
      · rename_i R hR
        split at hv
        · rename_i hat
          simp only [Option.some.injEq] at hv
          subst hv
          have hlz : RepL (allZ w) noPls l vals := (freeze_rep (ρ := noPls) (Z1 := Z) (Z2 := allZ w) (ρ1 := ρ) (H1 := { H with lock := 0 }) (w1 := w) ⟨hs.objs, hs.inj, hs.zok, hs.fresh, Nat.zero_le _, hs.lg⟩ (fun k o hk => hs.zok k o hk) (fun b o pl _ _ _ _ => rfl) (fun b v p hb _ => absurd hb (Nat.not_lt_zero _)) 100000).2 _ _ _ hfz hl
          obtain ⟨t, ⟨⟨e, x, he, ha⟩, hb⟩, rfl, rfl, rfl⟩ := tabFn_some hT hR
          have hm1 := ext_of_ans (C := C.more2 e x) hgo hm he ha hb (allZ w) noPls { objs := [], lock := 0 } w vals (start_sim w (hs.lg.mono fun k o hk => hs.zok k o hk)) hlz
          rcases hm1 with ⟨y, w', h1, h2⟩ | ⟨h1, h2⟩
          · exact Or.inl ⟨y, w', h1, back_frozenT hs hat h2⟩
          · exact Or.inr ⟨h1, Calls.mono' h2 fun en w' he => by
              obtain ⟨y, rfl, h3⟩ := he
              exact ⟨y, rfl, back_frozenT hs hat h3⟩⟩
        · cases hv
      · cases hv
    · cases hv
  · exact h0.exh f g hf' args v H hv Z ρ w vals hs hl
theorem extOK_tabE {C : Cfg} (hgo : NoGo C.P) (hm : C.P.follows .mixedOrders = true) {e : FuncId → Option (List AV → Option AV)} {x : FuncId → Option (List AV → Heap → Option AV)} (h0 : ExtOK (C.more2 e x)) {T : List TellE} (hT : AllE C T) : ExtOK (C.more2 e (tabExhE x T)) := by
  refine ⟨fun f g hf args v hv Z ρ H w vals hs hl => h0.ext f g hf args v hv Z ρ H w vals hs hl, h0.lay, fun f g hf args v H hv Z ρ w vals hs hl => ?_⟩
  have hf' : (if tabEHas T f then some (tabE T f) else x f) = some g := hf
  split at hf'
  · simp only [Option.some.injEq] at hf'
    subst hf'
    obtain ⟨t, ⟨⟨e1, x1, he, ha⟩, hb⟩, rfl, rfl, rfl⟩ := tabE_some hT hv
    exact ext_of_ans (C := C.more2 e1 x1) hgo hm he ha hb Z ρ H w vals hs hl
  · exact h0.exh f g hf' args v H hv Z ρ w vals hs hl
theorem goodE {C : Cfg} (hgo : NoGo C.P) (hm : C.P.follows .mixedOrders = true) (h0 : ExtOK C) {t : Tell} (T : List Tell) (hT : AllG C T) (TH : List TellH) (hH : AllH C TH) (TE : List TellE) (hE : AllE C TE) (n : Nat)
    (h : ansC (evT (C.more2 (tabExt C.ext T) (tabExhE (tabExh C.exh T TH) TE)) n (.call t.f t.K { objs := [], lock := 0 })) = some t.R) (hb : boundL t.K = 0) : GoodC C t :=
  ⟨⟨_, _, extOK_tabE hgo hm (extOK_tab hgo hm h0 hT hH) hE, ans_of_evC h⟩, hb⟩
/-! ### a function gone through in parts: what its tmps and memory are after some of its regions -/
def takeSeq : Nat → Code → Code
  | 0, _ => .skip
  | n + 1, .seq a b => .seq a (takeSeq n b)
  | _, c => c
def restSeq : Nat → Code → Code
  | 0, c => c
  | n + 1, .seq _ b => restSeq n b
  | _, _ => .skip
theorem codeA_cut {C : Cfg} {rec : Task → Option Out} {me : FuncId} {rd : Option Nat} : ∀ (n : Nat) (c : Code) {a : AAct} {H : Heap} {a' : AAct} {H' : Heap}, codeA C rec me rd (takeSeq n c) a H = some (.normal, a', H') → codeA C rec me rd c a H = codeA C rec me rd (restSeq n c) a' H'
  | 0, c, a, H, a', H', h => by
    have h2 : some (AExit.normal, a, H) = some (AExit.normal, a', H') := h
    simp only [Option.some.injEq, Prod.mk.injEq, true_and] at h2
    rw [h2.1, h2.2]; rfl
  | n + 1, c, a, H, a', H', h => by
    cases c with
    | seq x y =>
      have h1 : (match codeA C rec me rd x a H with | some (.normal, a1, H1) => codeA C rec me rd (takeSeq n y) a1 H1 | r => r) = some (.normal, a', H') := h
      show (match codeA C rec me rd x a H with | some (.normal, a1, H1) => codeA C rec me rd y a1 H1 | r => r) = codeA C rec me rd (restSeq n y) a' H'
      split at h1
      · rename_i a1 H1 hx
        exact codeA_cut n y h1
      · rename_i hx
        exact absurd h1 (hx _ _)
    | _ => exact h
/-- what a function answers, by what its body came to -/
def finC (C : Cfg) (fn : Func) (r : Option (AExit × AAct × Heap)) : Option AV :=
  ansC (match r with
    | some (.exit _, _, _) => none
    | some (_, a, H') =>
      (match killAll a.marks H' with
      | some H2 =>
        (match resultsA C a H2 fn.results.toList with
        | some vs => some (.ret (oneOf vs) H2)
        | none => none)
      | none => none)
    | none => none)
theorem good_cut {C : Cfg} {e : FuncId → Option (List AV → Option AV)} {x : FuncId → Option (List AV → Heap → Option AV)} (h0 : ExtOK (C.more2 e x)) {f : FuncId} {fn : Func} {b : Code} {R : AV} (hlay : C.lay f = none) (hfn : C.P.funcs[f]? = some fn) (hb : fn.body = some b) (n k1 k2 : Nat) (a1 a2 : AAct) (H1 H2 : Heap)
    (p1 : codeA (C.more2 e x) (evT (C.more2 e x) n) f none (takeSeq k1 b) ⟨fn.ntmps, [], []⟩ ⟨[], 0⟩ = some (.normal, a1, H1))
    (p2 : codeA (C.more2 e x) (evT (C.more2 e x) n) f none (takeSeq k2 (restSeq k1 b)) a1 H1 = some (.normal, a2, H2))
    (p3 : finC (C.more2 e x) fn (codeA (C.more2 e x) (evT (C.more2 e x) n) f none (restSeq k2 (restSeq k1 b)) a2 H2) = some R) : GoodC C ⟨f, [], R⟩ := by
  refine ⟨⟨e, x, h0, ans_of_evC (n := n + 1) ?_⟩, rfl⟩
  have hc := (codeA_cut k1 b p1).trans (codeA_cut k2 _ p2)
  show ansC (taskA (C.more2 e x) (evT (C.more2 e x) n) (.call f [] { objs := [], lock := 0 })) = some R
  have hlay' : (C.more2 e x).lay f = none := hlay
  have hfn' : (C.more2 e x).P.funcs[f]? = some fn := hfn
  unfold taskA
  simp only [hlay', hfn', hb]
  rw [show ({ size := ([] : List AV).length + (fn.ntmps - ([] : List AV).length), tmps := number 0 ([] : List AV), marks := [] } : AAct) = ⟨fn.ntmps, [], []⟩ by simp [number]]
  rw [hc]
  exact p3
end Go.Ev
/- The whole, of its parts. Made by program. -/
namespace Go.Ev
set_option maxRecDepth 1000000
def tP : Tell := ⟨48, [], q86⟩
theorem gP : Good tP := good [] trivial [] trivial (by kernel_rfl) (by kernel_rfl)
noncomputable def eT : FuncId → Option (List AV → Option AV) := tabExt CC.ext [t230, t266, t271, t272, t274, t275, t281, t289, t306, t307, t308, t309, t311, t313, t349, t351, t353, t355, t360, t365, t366, t367, t368, t369]
noncomputable def xT : FuncId → Option (List AV → Heap → Option AV) := tabExhE (tabExhB CC.exh [t230, t266, t271, t272, t274, t275, t281, t289, t306, t307, t308, t309, t311, t313, t349, t351, t353, t355, t360, t365, t366, t367, t368, t369]) [⟨tP, 17, 43⟩]
theorem okT : ExtOK (CC.more2 eT xT) := extOK_tabE nogoC mixedC (extOK_tabB nogoC mixedC extOKC (T := [t230, t266, t271, t272, t274, t275, t281, t289, t306, t307, t308, t309, t311, t313, t349, t351, t353, t355, t360, t365, t366, t367, t368, t369]) ⟨g230, g266, g271, g272, g274, g275, g281, g289, g306, g307, g308, g309, g311, g313, g349, g351, g353, g355, g360, g365, g366, g367, g368, g369, trivial⟩) (T := [⟨tP, 17, 43⟩]) ⟨gP, trivial⟩
def ts1 : List (Tmp × AV) := [(0, .v (.bool false)), (28, .v (.bool false)), (1, .v (.int .i64 (1))), (2, .v (.int .i64 (0))), (3, .vs 1 [.v (.int .i64 (0))] none), (4, .v (.int .i64 (0))), (5, .vs 1 [.v (.int .i64 (0)), .v (.int .i64 (1)), .v (.int .i64 (0))] none), (6, .v (.int .i64 (0))), (7, .ptr 0 0 0), (8, .v (.int .i64 (0))), (9, .vs 1 [.v (.int .i64 (1)), .v (.int .i64 (1))] none), (10, .v (.int .i64 (0))), (11, .v (.slice none 0 0)), (12, .v (.int .i64 (0))), (13, .ptr 1 0 0), (14, .v (.int .i64 (0))), (15, .ptr 15 0 0), (140, .v (.bool false)), (16, .ptr 56 0 0), (17, .ptr 57 0 0), (18, .ptr 58 0 0)]
def hs1 : List (Option AObj) := [some (.cells 0 0 53 1 false [.v (.int .i64 (1)), .v (.int .i64 (1))]), some (.cells 0 0 28 1 false [.v (.slice none 0 0), .vs 9 [.agg [.v (.int .i64 (1)), .v (.int .u8 (3)), .v (.string ⟨⟨[]⟩⟩), .v (.int .i64 (1)), .v (.int .i64 (0)), .v (.int .i64 (2)), .v (.string ⟨⟨[115,101,101]⟩⟩), .v (.int .u8 (2)), .v (.int .i64 (0))], .agg [.v (.int .i64 (2)), .v (.int .u8 (3)), .v (.string ⟨⟨[]⟩⟩), .v (.int .i64 (0)), .v (.int .i64 (0)), .v (.int .i64 (1)), .v (.string ⟨⟨[115,101,97]⟩⟩), .v (.int .u8 (1)), .v (.int .i64 (0))], .agg [.v (.int .i64 (3)), .v (.int .u8 (3)), .v (.string ⟨⟨[]⟩⟩), .v (.int .i64 (1)), .v (.int .i64 (0)), .v (.int .i64 (0)), .v (.string ⟨⟨[115,101,97]⟩⟩), .v (.int .u8 (1)), .v (.int .i64 (0))]] none]), none, none, none, none, none, none, none, none, none, none, none, none, none, some (.cells 0 0 28 1 false [.v (.slice none 0 0), .vs 9 [.agg [.v (.int .i64 (1)), .v (.int .u8 (3)), .v (.string ⟨⟨[]⟩⟩), .v (.int .i64 (1)), .v (.int .i64 (0)), .v (.int .i64 (2)), .v (.string ⟨⟨[115,101,101]⟩⟩), .v (.int .u8 (2)), .v (.int .i64 (0))], .agg [.v (.int .i64 (2)), .v (.int .u8 (3)), .v (.string ⟨⟨[]⟩⟩), .v (.int .i64 (0)), .v (.int .i64 (0)), .v (.int .i64 (1)), .v (.string ⟨⟨[115,101,97]⟩⟩), .v (.int .u8 (1)), .v (.int .i64 (0))], .agg [.v (.int .i64 (3)), .v (.int .u8 (3)), .v (.string ⟨⟨[]⟩⟩), .v (.int .i64 (1)), .v (.int .i64 (0)), .v (.int .i64 (0)), .v (.string ⟨⟨[115,101,97]⟩⟩), .v (.int .u8 (1)), .v (.int .i64 (0))]] (some 3)]), none, some (.cells 0 30 32 1 false [.sl 23 0 0 2 (some 2), .v (.slice none 0 0), .sl 24 0 0 1 (some 1), .sl 25 0 0 3 (some 3), .sl 29 0 0 3 (some 3)]), some (.cells 0 0 9 1 false [.v (.string ⟨⟨[116,104,101]⟩⟩), .v (.string ⟨⟨[115,101,97]⟩⟩), .v (.string ⟨⟨[105,115]⟩⟩), .v (.string ⟨⟨[111,108,100]⟩⟩)]), some (.cells 0 0 9 1 false [.v (.string ⟨⟨[111,108,100]⟩⟩), .v (.string ⟨⟨[116,104,101]⟩⟩), .v (.string ⟨⟨[115,101,97]⟩⟩)]), some (.cells 0 20 63 1 false [.sl 18 0 0 4 (some 4), .sl 19 0 0 3 (some 3)]), some (.cells 0 0 9 1 false [.v (.string ⟨⟨[115,101,97]⟩⟩), .v (.string ⟨⟨[97,110,100]⟩⟩), .v (.string ⟨⟨[115,101,97]⟩⟩)]), some (.cells 0 22 63 1 false [.sl 21 0 0 3 (some 3)]), some (.cells 0 23 149 2 false [.v (.int .i64 (7)), .sl 20 0 0 2 (some 2), .v (.int .i64 (3)), .sl 22 0 0 1 (some 1)]), some (.cells 0 0 77 9 false [.v (.int .i64 (1)), .v (.int .u8 (3)), .v (.string ⟨⟨[]⟩⟩), .v (.int .i64 (1)), .v (.int .i64 (0)), .v (.int .i64 (2)), .v (.string ⟨⟨[115,101,101]⟩⟩), .v (.int .u8 (2)), .v (.int .i64 (0))]), some (.cells 0 0 86 4 false [.v (.int .i64 (0)), .v (.int .i64 (0)), .v (.int .i64 (1)), .vs 2 [.agg [.v (.string ⟨⟨[115,101,97]⟩⟩), .v (.int .u8 (1))], .agg [.v (.string ⟨⟨[115,101,101]⟩⟩), .v (.int .u8 (2))]] (some 2), .v (.int .i64 (0)), .v (.int .i64 (0)), .v (.int .i64 (3)), .vs 2 [.agg [.v (.string ⟨⟨[97,103,101]⟩⟩), .v (.int .u8 (3))], .agg [.v (.string ⟨⟨[111,108,100]⟩⟩), .v (.int .u8 (0))]] (some 2), .v (.int .i64 (1)), .v (.int .i64 (0)), .v (.int .i64 (0)), .vs 2 [.agg [.v (.string ⟨⟨[115,101,97]⟩⟩), .v (.int .u8 (1))], .agg [.v (.string ⟨⟨[115,101,101]⟩⟩), .v (.int .u8 (2))]] (some 2)]), some (.cells 0 0 3 1 false [.v (.int .i64 (-1)), .v (.int .i64 (1)), .v (.int .i64 (-1))]), some (.cells 0 0 3 1 false [.v (.int .i64 (0)), .v (.int .i64 (0)), .v (.int .i64 (0))]), some (.cells 0 0 3 1 false [.v (.int .i64 (0)), .v (.int .i64 (-1)), .v (.int .i64 (1))]), some (.cells 0 29 82 3 false [.v (.int .i64 (2)), .v (.int .i64 (0)), .sl 26 0 0 3 (some 3), .v (.int .i64 (2)), .v (.int .i64 (1)), .sl 27 0 0 3 (some 3), .v (.int .i64 (8)), .v (.int .i64 (1)), .sl 28 0 0 3 (some 3)]), some (.cells 0 43 32 1 false [.sl 36 0 0 2 (some 2), .v (.slice none 0 0), .sl 37 0 0 1 (some 1), .sl 38 0 0 3 (some 3), .sl 42 0 0 3 (some 3)]), some (.cells 0 0 9 1 false [.v (.string ⟨⟨[116,104,101]⟩⟩), .v (.string ⟨⟨[115,101,97]⟩⟩), .v (.string ⟨⟨[105,115]⟩⟩), .v (.string ⟨⟨[111,108,100]⟩⟩)]), some (.cells 0 0 9 1 false [.v (.string ⟨⟨[111,108,100]⟩⟩), .v (.string ⟨⟨[116,104,101]⟩⟩), .v (.string ⟨⟨[115,101,97]⟩⟩)]), some (.cells 0 33 63 1 false [.sl 31 0 0 4 (some 4), .sl 32 0 0 3 (some 3)]), some (.cells 0 0 9 1 false [.v (.string ⟨⟨[115,101,97]⟩⟩), .v (.string ⟨⟨[97,110,100]⟩⟩), .v (.string ⟨⟨[115,101,97]⟩⟩)]), some (.cells 0 35 63 1 false [.sl 34 0 0 3 (some 3)]), some (.cells 0 36 149 2 false [.v (.int .i64 (7)), .sl 33 0 0 2 (some 2), .v (.int .i64 (3)), .sl 35 0 0 1 (some 1)]), some (.cells 0 0 77 9 false [.v (.int .i64 (1)), .v (.int .u8 (3)), .v (.string ⟨⟨[]⟩⟩), .v (.int .i64 (1)), .v (.int .i64 (0)), .v (.int .i64 (2)), .v (.string ⟨⟨[115,101,101]⟩⟩), .v (.int .u8 (2)), .v (.int .i64 (0))]), some (.cells 0 0 86 4 false [.v (.int .i64 (0)), .v (.int .i64 (0)), .v (.int .i64 (1)), .vs 2 [.agg [.v (.string ⟨⟨[115,101,97]⟩⟩), .v (.int .u8 (1))], .agg [.v (.string ⟨⟨[115,101,101]⟩⟩), .v (.int .u8 (2))]] (some 2), .v (.int .i64 (0)), .v (.int .i64 (0)), .v (.int .i64 (3)), .vs 2 [.agg [.v (.string ⟨⟨[97,103,101]⟩⟩), .v (.int .u8 (3))], .agg [.v (.string ⟨⟨[111,108,100]⟩⟩), .v (.int .u8 (0))]] (some 2), .v (.int .i64 (1)), .v (.int .i64 (0)), .v (.int .i64 (0)), .vs 2 [.agg [.v (.string ⟨⟨[115,101,97]⟩⟩), .v (.int .u8 (1))], .agg [.v (.string ⟨⟨[115,101,101]⟩⟩), .v (.int .u8 (2))]] (some 2)]), some (.cells 0 0 3 1 false [.v (.int .i64 (-1)), .v (.int .i64 (1)), .v (.int .i64 (-1))]), some (.cells 0 0 3 1 false [.v (.int .i64 (0)), .v (.int .i64 (0)), .v (.int .i64 (0))]), some (.cells 0 0 3 1 false [.v (.int .i64 (0)), .v (.int .i64 (-1)), .v (.int .i64 (1))]), some (.cells 0 42 82 3 false [.v (.int .i64 (5)), .v (.int .i64 (0)), .sl 39 0 0 3 (some 3), .v (.int .i64 (2)), .v (.int .i64 (1)), .sl 40 0 0 3 (some 3), .v (.int .i64 (8)), .v (.int .i64 (1)), .sl 41 0 0 3 (some 3)]), some (.cells 0 56 32 1 false [.sl 49 0 0 2 (some 2), .v (.slice none 0 0), .sl 50 0 0 1 (some 1), .sl 51 0 0 3 (some 3), .sl 55 0 0 3 (some 3)]), some (.cells 0 0 9 1 false [.v (.string ⟨⟨[116,104,101]⟩⟩), .v (.string ⟨⟨[115,101,97]⟩⟩), .v (.string ⟨⟨[105,115]⟩⟩), .v (.string ⟨⟨[111,108,100]⟩⟩)]), some (.cells 0 0 9 1 false [.v (.string ⟨⟨[111,108,100]⟩⟩), .v (.string ⟨⟨[116,104,101]⟩⟩), .v (.string ⟨⟨[115,101,97]⟩⟩)]), some (.cells 0 46 63 1 false [.sl 44 0 0 4 (some 4), .sl 45 0 0 3 (some 3)]), some (.cells 0 0 9 1 false [.v (.string ⟨⟨[115,101,97]⟩⟩), .v (.string ⟨⟨[97,110,100]⟩⟩), .v (.string ⟨⟨[115,101,97]⟩⟩)]), some (.cells 0 48 63 1 false [.sl 47 0 0 3 (some 3)]), some (.cells 0 49 149 2 false [.v (.int .i64 (7)), .sl 46 0 0 2 (some 2), .v (.int .i64 (3)), .sl 48 0 0 1 (some 1)]), some (.cells 0 0 77 9 false [.v (.int .i64 (1)), .v (.int .u8 (3)), .v (.string ⟨⟨[]⟩⟩), .v (.int .i64 (1)), .v (.int .i64 (0)), .v (.int .i64 (2)), .v (.string ⟨⟨[115,101,101]⟩⟩), .v (.int .u8 (2)), .v (.int .i64 (0))]), some (.cells 0 0 86 4 false [.v (.int .i64 (0)), .v (.int .i64 (0)), .v (.int .i64 (1)), .vs 2 [.agg [.v (.string ⟨⟨[115,101,97]⟩⟩), .v (.int .u8 (1))], .agg [.v (.string ⟨⟨[115,101,101]⟩⟩), .v (.int .u8 (2))]] (some 2), .v (.int .i64 (0)), .v (.int .i64 (0)), .v (.int .i64 (3)), .vs 2 [.agg [.v (.string ⟨⟨[97,103,101]⟩⟩), .v (.int .u8 (3))], .agg [.v (.string ⟨⟨[111,108,100]⟩⟩), .v (.int .u8 (0))]] (some 2), .v (.int .i64 (1)), .v (.int .i64 (0)), .v (.int .i64 (0)), .vs 2 [.agg [.v (.string ⟨⟨[115,101,97]⟩⟩), .v (.int .u8 (1))], .agg [.v (.string ⟨⟨[115,101,101]⟩⟩), .v (.int .u8 (2))]] (some 2)]), some (.cells 0 0 3 1 false [.v (.int .i64 (-1)), .v (.int .i64 (1)), .v (.int .i64 (-1))]), some (.cells 0 0 3 1 false [.v (.int .i64 (0)), .v (.int .i64 (0)), .v (.int .i64 (0))]), some (.cells 0 0 3 1 false [.v (.int .i64 (0)), .v (.int .i64 (-1)), .v (.int .i64 (1))]), some (.cells 0 55 82 3 false [.v (.int .i64 (5)), .v (.int .i64 (0)), .sl 52 0 0 3 (some 3), .v (.int .i64 (2)), .v (.int .i64 (1)), .sl 53 0 0 3 (some 3), .v (.int .i64 (8)), .v (.int .i64 (1)), .sl 54 0 0 3 (some 3)]), some (.cells 0 30 32 1 false [.sl 23 0 0 2 (some 2), .v (.slice none 0 0), .sl 24 0 0 1 (some 1), .sl 25 0 0 3 (some 3), .sl 29 0 0 3 (some 3)]), some (.cells 0 43 32 1 false [.sl 36 0 0 2 (some 2), .v (.slice none 0 0), .sl 37 0 0 1 (some 1), .sl 38 0 0 3 (some 3), .sl 42 0 0 3 (some 3)]), some (.cells 0 56 32 1 false [.sl 49 0 0 2 (some 2), .v (.slice none 0 0), .sl 50 0 0 1 (some 1), .sl 51 0 0 3 (some 3), .sl 55 0 0 3 (some 3)])]
def ts2 : List (Tmp × AV) := [(0, .v (.bool false)), (28, .v (.bool false)), (1, .v (.int .i64 (1))), (2, .v (.int .i64 (6))), (3, .vs 1 [.v (.int .i64 (0))] none), (4, .v (.int .i64 (2))), (5, .vs 1 [.v (.int .i64 (0)), .v (.int .i64 (1)), .v (.int .i64 (0))] none), (6, .v (.int .i64 (0))), (7, .ptr 0 0 0), (8, .v (.int .i64 (0))), (9, .vs 1 [.v (.int .i64 (1)), .v (.int .i64 (1))] none), (10, .v (.int .i64 (0))), (11, .v (.slice none 0 0)), (12, .v (.int .i64 (0))), (13, .ptr 1 0 0), (14, .v (.int .i64 (0))), (15, .ptr 15 0 0), (140, .v (.bool false)), (16, .ptr 56 0 0), (17, .ptr 57 0 0), (18, .ptr 58 0 0)]
def hs2 : List (Option AObj) := [some (.cells 0 0 53 1 false [.v (.int .i64 (1)), .v (.int .i64 (1))]), some (.cells 0 0 28 1 false [.v (.slice none 0 0), .vs 9 [.agg [.v (.int .i64 (1)), .v (.int .u8 (3)), .v (.string ⟨⟨[]⟩⟩), .v (.int .i64 (1)), .v (.int .i64 (0)), .v (.int .i64 (2)), .v (.string ⟨⟨[115,101,101]⟩⟩), .v (.int .u8 (2)), .v (.int .i64 (0))], .agg [.v (.int .i64 (2)), .v (.int .u8 (3)), .v (.string ⟨⟨[]⟩⟩), .v (.int .i64 (0)), .v (.int .i64 (0)), .v (.int .i64 (1)), .v (.string ⟨⟨[115,101,97]⟩⟩), .v (.int .u8 (1)), .v (.int .i64 (0))], .agg [.v (.int .i64 (3)), .v (.int .u8 (3)), .v (.string ⟨⟨[]⟩⟩), .v (.int .i64 (1)), .v (.int .i64 (0)), .v (.int .i64 (0)), .v (.string ⟨⟨[115,101,97]⟩⟩), .v (.int .u8 (1)), .v (.int .i64 (0))]] none]), none, none, none, none, none, none, none, none, none, none, none, none, none, some (.cells 0 0 28 1 false [.v (.slice none 0 0), .vs 9 [.agg [.v (.int .i64 (1)), .v (.int .u8 (3)), .v (.string ⟨⟨[]⟩⟩), .v (.int .i64 (1)), .v (.int .i64 (0)), .v (.int .i64 (2)), .v (.string ⟨⟨[115,101,101]⟩⟩), .v (.int .u8 (2)), .v (.int .i64 (0))], .agg [.v (.int .i64 (2)), .v (.int .u8 (3)), .v (.string ⟨⟨[]⟩⟩), .v (.int .i64 (0)), .v (.int .i64 (0)), .v (.int .i64 (1)), .v (.string ⟨⟨[115,101,97]⟩⟩), .v (.int .u8 (1)), .v (.int .i64 (0))], .agg [.v (.int .i64 (3)), .v (.int .u8 (3)), .v (.string ⟨⟨[]⟩⟩), .v (.int .i64 (1)), .v (.int .i64 (0)), .v (.int .i64 (0)), .v (.string ⟨⟨[115,101,97]⟩⟩), .v (.int .u8 (1)), .v (.int .i64 (0))]] (some 3)]), none, some (.cells 0 30 32 1 false [.sl 23 0 0 2 (some 2), .v (.slice none 0 0), .sl 24 0 0 1 (some 1), .sl 25 0 0 3 (some 3), .sl 29 0 0 3 (some 3)]), some (.cells 0 0 9 1 false [.v (.string ⟨⟨[116,104,101]⟩⟩), .v (.string ⟨⟨[115,101,97]⟩⟩), .v (.string ⟨⟨[105,115]⟩⟩), .v (.string ⟨⟨[111,108,100]⟩⟩)]), some (.cells 0 0 9 1 false [.v (.string ⟨⟨[111,108,100]⟩⟩), .v (.string ⟨⟨[116,104,101]⟩⟩), .v (.string ⟨⟨[115,101,97]⟩⟩)]), some (.cells 0 20 63 1 false [.sl 18 0 0 4 (some 4), .sl 19 0 0 3 (some 3)]), some (.cells 0 0 9 1 false [.v (.string ⟨⟨[115,101,97]⟩⟩), .v (.string ⟨⟨[97,110,100]⟩⟩), .v (.string ⟨⟨[115,101,97]⟩⟩)]), some (.cells 0 22 63 1 false [.sl 21 0 0 3 (some 3)]), some (.cells 0 23 149 2 false [.v (.int .i64 (7)), .sl 20 0 0 2 (some 2), .v (.int .i64 (3)), .sl 22 0 0 1 (some 1)]), some (.cells 0 0 77 9 false [.v (.int .i64 (1)), .v (.int .u8 (3)), .v (.string ⟨⟨[]⟩⟩), .v (.int .i64 (1)), .v (.int .i64 (0)), .v (.int .i64 (2)), .v (.string ⟨⟨[115,101,101]⟩⟩), .v (.int .u8 (2)), .v (.int .i64 (0))]), some (.cells 0 0 86 4 false [.v (.int .i64 (0)), .v (.int .i64 (0)), .v (.int .i64 (1)), .vs 2 [.agg [.v (.string ⟨⟨[115,101,97]⟩⟩), .v (.int .u8 (1))], .agg [.v (.string ⟨⟨[115,101,101]⟩⟩), .v (.int .u8 (2))]] (some 2), .v (.int .i64 (0)), .v (.int .i64 (0)), .v (.int .i64 (3)), .vs 2 [.agg [.v (.string ⟨⟨[97,103,101]⟩⟩), .v (.int .u8 (3))], .agg [.v (.string ⟨⟨[111,108,100]⟩⟩), .v (.int .u8 (0))]] (some 2), .v (.int .i64 (1)), .v (.int .i64 (0)), .v (.int .i64 (0)), .vs 2 [.agg [.v (.string ⟨⟨[115,101,97]⟩⟩), .v (.int .u8 (1))], .agg [.v (.string ⟨⟨[115,101,101]⟩⟩), .v (.int .u8 (2))]] (some 2)]), some (.cells 0 0 3 1 false [.v (.int .i64 (-1)), .v (.int .i64 (1)), .v (.int .i64 (-1))]), some (.cells 0 0 3 1 false [.v (.int .i64 (0)), .v (.int .i64 (0)), .v (.int .i64 (0))]), some (.cells 0 0 3 1 false [.v (.int .i64 (0)), .v (.int .i64 (-1)), .v (.int .i64 (1))]), some (.cells 0 29 82 3 false [.v (.int .i64 (2)), .v (.int .i64 (0)), .sl 26 0 0 3 (some 3), .v (.int .i64 (2)), .v (.int .i64 (1)), .sl 27 0 0 3 (some 3), .v (.int .i64 (8)), .v (.int .i64 (1)), .sl 28 0 0 3 (some 3)]), some (.cells 0 43 32 1 false [.sl 36 0 0 2 (some 2), .v (.slice none 0 0), .sl 37 0 0 1 (some 1), .sl 38 0 0 3 (some 3), .sl 42 0 0 3 (some 3)]), some (.cells 0 0 9 1 false [.v (.string ⟨⟨[116,104,101]⟩⟩), .v (.string ⟨⟨[115,101,97]⟩⟩), .v (.string ⟨⟨[105,115]⟩⟩), .v (.string ⟨⟨[111,108,100]⟩⟩)]), some (.cells 0 0 9 1 false [.v (.string ⟨⟨[111,108,100]⟩⟩), .v (.string ⟨⟨[116,104,101]⟩⟩), .v (.string ⟨⟨[115,101,97]⟩⟩)]), some (.cells 0 33 63 1 false [.sl 31 0 0 4 (some 4), .sl 32 0 0 3 (some 3)]), some (.cells 0 0 9 1 false [.v (.string ⟨⟨[115,101,97]⟩⟩), .v (.string ⟨⟨[97,110,100]⟩⟩), .v (.string ⟨⟨[115,101,97]⟩⟩)]), some (.cells 0 35 63 1 false [.sl 34 0 0 3 (some 3)]), some (.cells 0 36 149 2 false [.v (.int .i64 (7)), .sl 33 0 0 2 (some 2), .v (.int .i64 (3)), .sl 35 0 0 1 (some 1)]), some (.cells 0 0 77 9 false [.v (.int .i64 (0)), .v (.int .u8 (3)), .v (.string ⟨⟨[]⟩⟩), .v (.int .i64 (1)), .v (.int .i64 (0)), .v (.int .i64 (2)), .v (.string ⟨⟨[115,101,101]⟩⟩), .v (.int .u8 (2)), .v (.int .i64 (0))]), some (.cells 0 0 86 4 false [.v (.int .i64 (0)), .v (.int .i64 (0)), .v (.int .i64 (1)), .vs 2 [.agg [.v (.string ⟨⟨[115,101,97]⟩⟩), .v (.int .u8 (1))], .agg [.v (.string ⟨⟨[115,101,101]⟩⟩), .v (.int .u8 (2))]] (some 2), .v (.int .i64 (0)), .v (.int .i64 (0)), .v (.int .i64 (3)), .vs 2 [.agg [.v (.string ⟨⟨[97,103,101]⟩⟩), .v (.int .u8 (3))], .agg [.v (.string ⟨⟨[111,108,100]⟩⟩), .v (.int .u8 (0))]] (some 2), .v (.int .i64 (1)), .v (.int .i64 (0)), .v (.int .i64 (0)), .vs 2 [.agg [.v (.string ⟨⟨[115,101,97]⟩⟩), .v (.int .u8 (1))], .agg [.v (.string ⟨⟨[115,101,101]⟩⟩), .v (.int .u8 (2))]] (some 2)]), some (.cells 0 0 3 1 false [.v (.int .i64 (-1)), .v (.int .i64 (1)), .v (.int .i64 (-1))]), some (.cells 0 0 3 1 false [.v (.int .i64 (0)), .v (.int .i64 (0)), .v (.int .i64 (0))]), some (.cells 0 0 3 1 false [.v (.int .i64 (0)), .v (.int .i64 (-1)), .v (.int .i64 (1))]), some (.cells 0 42 82 3 false [.v (.int .i64 (5)), .v (.int .i64 (0)), .sl 39 0 0 3 (some 3), .v (.int .i64 (2)), .v (.int .i64 (1)), .sl 40 0 0 3 (some 3), .v (.int .i64 (8)), .v (.int .i64 (1)), .sl 41 0 0 3 (some 3)]), some (.cells 0 56 32 1 false [.sl 49 0 0 2 (some 2), .v (.slice none 0 0), .sl 50 0 0 1 (some 1), .sl 51 0 0 3 (some 3), .sl 55 0 0 3 (some 3)]), some (.cells 0 0 9 1 false [.v (.string ⟨⟨[116,104,101]⟩⟩), .v (.string ⟨⟨[115,101,97]⟩⟩), .v (.string ⟨⟨[105,115]⟩⟩), .v (.string ⟨⟨[111,108,100]⟩⟩)]), some (.cells 0 0 9 1 false [.v (.string ⟨⟨[111,108,100]⟩⟩), .v (.string ⟨⟨[116,104,101]⟩⟩), .v (.string ⟨⟨[115,101,97]⟩⟩)]), some (.cells 0 46 63 1 false [.sl 44 0 0 4 (some 4), .sl 45 0 0 3 (some 3)]), some (.cells 0 0 9 1 false [.v (.string ⟨⟨[115,101,97]⟩⟩), .v (.string ⟨⟨[97,110,100]⟩⟩), .v (.string ⟨⟨[115,101,97]⟩⟩)]), some (.cells 0 48 63 1 false [.sl 47 0 0 3 (some 3)]), some (.cells 0 49 149 2 false [.v (.int .i64 (7)), .sl 46 0 0 2 (some 2), .v (.int .i64 (3)), .sl 48 0 0 1 (some 1)]), some (.cells 0 0 77 9 false [.v (.int .i64 (1)), .v (.int .u8 (3)), .v (.string ⟨⟨[]⟩⟩), .v (.int .i64 (1)), .v (.int .i64 (0)), .v (.int .i64 (2)), .v (.string ⟨⟨[115,101,101]⟩⟩), .v (.int .u8 (2)), .v (.int .i64 (0))]), some (.cells 0 0 86 4 false [.v (.int .i64 (0)), .v (.int .i64 (0)), .v (.int .i64 (1)), .vs 2 [.agg [.v (.string ⟨⟨[115,101,97]⟩⟩), .v (.int .u8 (1))], .agg [.v (.string ⟨⟨[115,101,101]⟩⟩), .v (.int .u8 (2))]] (some 2), .v (.int .i64 (0)), .v (.int .i64 (0)), .v (.int .i64 (3)), .vs 2 [.agg [.v (.string ⟨⟨[97,103,101]⟩⟩), .v (.int .u8 (3))], .agg [.v (.string ⟨⟨[111,108,100]⟩⟩), .v (.int .u8 (0))]] (some 2), .v (.int .i64 (1)), .v (.int .i64 (0)), .v (.int .i64 (0)), .vs 2 [.agg [.v (.string ⟨⟨[115,101,97]⟩⟩), .v (.int .u8 (1))], .agg [.v (.string ⟨⟨[115,101,101]⟩⟩), .v (.int .u8 (2))]] (some 2)]), some (.cells 0 0 3 1 false [.v (.int .i64 (-1)), .v (.int .i64 (1)), .v (.int .i64 (-1))]), some (.cells 0 0 3 1 false [.v (.int .i64 (0)), .v (.int .i64 (0)), .v (.int .i64 (0))]), some (.cells 0 0 3 1 false [.v (.int .i64 (0)), .v (.int .i64 (-1)), .v (.int .i64 (1))]), some (.cells 0 55 82 3 false [.v (.int .i64 (5)), .v (.int .i64 (0)), .sl 52 0 0 3 (some 3), .v (.int .i64 (2)), .v (.int .i64 (0)), .sl 53 0 0 3 (some 3), .v (.int .i64 (8)), .v (.int .i64 (1)), .sl 54 0 0 3 (some 3)]), some (.cells 0 30 32 1 false [.sl 23 0 0 2 (some 2), .v (.slice none 0 0), .sl 24 0 0 1 (some 1), .sl 25 0 0 3 (some 3), .sl 29 0 0 3 (some 3)]), some (.cells 0 43 32 1 false [.sl 36 0 0 2 (some 2), .v (.slice none 0 0), .sl 37 0 0 1 (some 1), .sl 38 0 0 3 (some 3), .sl 42 0 0 3 (some 3)]), some (.cells 0 56 32 1 false [.sl 49 0 0 2 (some 2), .v (.slice none 0 0), .sl 50 0 0 1 (some 1), .sl 51 0 0 3 (some 3), .sl 55 0 0 3 (some 3)])]
noncomputable def bT : Code := (Go.Proofs.Tryz.f6.body).getD .skip
theorem pT1 : codeA (CC.more2 eT xT) (evT (CC.more2 eT xT) 999) 6 none (takeSeq 13 bT) ⟨Go.Proofs.Tryz.f6.ntmps, [], []⟩ ⟨[], 0⟩ = some (.normal, ⟨259, ts1, []⟩, ⟨hs1, 0⟩) := by kernel_rfl
theorem pT2 : codeA (CC.more2 eT xT) (evT (CC.more2 eT xT) 999) 6 none (takeSeq 4 (restSeq 13 bT)) ⟨259, ts1, []⟩ ⟨hs1, 0⟩ = some (.normal, ⟨259, ts2, []⟩, ⟨hs2, 0⟩) := by kernel_rfl
theorem pT3 : finC (CC.more2 eT xT) Go.Proofs.Tryz.f6 (codeA (CC.more2 eT xT) (evT (CC.more2 eT xT) 999) 6 none (restSeq 4 (restSeq 13 bT)) ⟨259, ts2, []⟩ ⟨hs2, 0⟩) = some (.v (.bool true)) := by kernel_rfl
theorem gAll : Good ⟨6, [], .v (.bool true)⟩ := good_cut okT (by kernel_rfl) Go.Proofs.Tryz.func6 (show Go.Proofs.Tryz.f6.body = some bT by kernel_rfl) 999 13 4 ⟨259, ts1, []⟩ ⟨259, ts2, []⟩ ⟨hs1, 0⟩ ⟨hs2, 0⟩ pT1 pT2 pT3
end Go.Ev
