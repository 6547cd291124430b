/- What the proof of this claim stands on, part 5: an evaluator of the model, proved right, and what it answers for functions of the program. -/
import Derived.Test.YtpfbekhkakfoiaaGreatDoorPk03
import Derived.KernelRfl
import Derived.Lib.Overlaps
import Derived.Shelf.Strings.Fields
import Derived.Shelf.Strings.OnBuilder
import Derived.Test.YtpfbekhkakfoiaaGreatDoorProg
import Derived.Lib.LaidTab
set_option maxHeartbeats 8000000
set_option maxRecDepth 1000000
set_option linter.unusedSimpArgs false
namespace Go.Ev
open Go.Proofs
attribute [local irreducible] Wp WpS
theorem slice_mid {P : Program} {t et sz : Nat} (hu : P.underlying t = some (.slice et)) (hs : sizeT P et = some sz) (xs : List AV) (cap : Option Nat) (i j : Nat) (hij : i ≤ j) (hj : j ≤ xs.length) : ∃ cap',sliceI P t (.vs sz xs cap) (some (.v (.int .i64 i))) (some (.v (.int .i64 j))) none = some (.vs sz ((xs.take j).drop i) cap') := by
 have h1 : (0 : Int) ≤ (j : Int) ∧ (j : Int) ≤ (xs.length : Int) := by omega
 have h2 : (0 : Int) ≤ (i : Int) ∧ (i : Int) ≤ (j : Int) := by omega
 refine ⟨capOf none xs.length i cap, ?_⟩
 unfold sliceI sliceA
 simp [hu,hs,boundA,h1,h2]
theorem strs_mid (l : Line) (i j : Nat) : ((strs l).take j).drop i = strs ((l.take j).drop i) := by unfold strs;rw [List.map_take.symm,List.map_drop.symm]
def befB (ws : Line) (at_ : Nat) (c : Ctx) : ByteArray := joinB ((ws.take at_).drop (at_ - c.1))
def aftB (ws : Line) (at_ : Nat) (c : Ctx) : ByteArray := joinB ((ws.take (at_ + 1 + c.2.1)).drop (at_ + 1))
def slipV (ws : Line) (x : Plc × ByteArray) (at_ : Nat) (c : Ctx) : AV := .agg [intA x.1.1,intA x.1.2.1,intA x.1.2.2,.v (.string x.2),.v (.string (befB ws at_ c)),.v (.string (aftB ws at_ c))]
theorem callI127 {e : Exts} (hj : e.x 127 = some joinStr) (l : Line) (cap : Option Nat) (hl : l.length ≤ 200) (hs : ∀ s ∈ l,s.size ≤ 12) (me : FuncId) (d : Option Tmp) : callI (Cx e) me 127 d [.vs 1 (strs l) cap,.v (.string spc)] = some (.v (.string (joinB l))) := by
 refine ext_callI (show (Cx e).ext 127 = some joinStr from hj) ?_
 show (match strsOf (strs l) with | some l => _ | none => none) = _
 rw [strsOf_strs l]
 have h1 := join_len [32] (l.map (·.data.toList)) (fun x hx => by
  obtain ⟨s,h1,rfl⟩ := List.mem_map.1 hx
  have := hs s h1
  simpa using this) rfl
 rw [List.length_map] at h1
 exact if_pos ⟨by omega,by show (Lib.join (l.map (·.data.toList)) [32]).length ≤ _;omega⟩
theorem ansS101 {e : Exts} (he : Quiet e) (hj : e.x 127 = some joinStr) (Z : List (Plc × ByteArray)) (hn : Z.length ≤ 200) (hws : ∀ x ∈ Z,x.2.size ≤ 12) (w : Nat) (hw : w < 1000) (sd : Nat) (h1 : 1 ≤ sd) (h2 : sd ≤ 3) (at_ : Nat) (x : Plc × ByteArray) (hx : Z[at_]? = some x) (c : Ctx) (hb : bestC sd (ctxs (Z.map (·.2)) w at_) = some c) (hc1 : c.1 ≤ at_) (hc2 : c.2.1 < Z.length - at_) :
  Ans (Cx e) 101 [.agg [intA w,.v (.int .u8 sd),.vs 1 (wds Z) none,.vs 3 (pls Z) none],intA at_] (slipV (Z.map (·.2)) x at_ c) := by
 have hil := (List.getElem?_eq_some_iff.1 hx).1
 have hwl : (Z.map (·.2)).length = Z.length := List.length_map ..
 have hwx : (Z.map (·.2))[at_]? = some x.2 := by rw [List.getElem?_map,hx];rfl
 have hws2 : ∀ s ∈ Z.map (·.2),s.size ≤ 12 := fun s hs => by obtain ⟨y,h3,rfl⟩ := List.mem_map.1 hs;exact hws y h3
 have c126 := fun me d H => (ansS126 he (Z.map (·.2)) (fun s hs => by have := hws2 s hs;omega) (by omega) w hw sd h1 h2 (pls Z) at_ (by omega)).call (me := me) (d := d) (ext_126 he) (pure_126 _ _ _) rfl H
 rw [hb] at c126
 have hix := (show SlOf 1 (strs (Z.map (·.2))) (.vs 1 (strs (Z.map (·.2))) none) from Or.inr ⟨none,rfl⟩).idx (strs_get hwx)
 have hip := (pls_sl Z).idx (pls_get hx)
 have hu87 : Tryz.prog.underlying 87 = some (.slice 9) := by kernel_rfl
 have hs9 : sizeT Tryz.prog 9 = some 1 := by kernel_rfl
 obtain ⟨k1,hm1⟩ := slice_mid hu87 hs9 (strs (Z.map (·.2))) none (at_ - c.1) at_ (by omega) (by rw [strs_len];omega)
 obtain ⟨k2,hm2⟩ := slice_mid hu87 hs9 (strs (Z.map (·.2))) none (at_ + 1) (at_ + 1 + c.2.1) (by omega) (by rw [strs_len];omega)
 rw [strs_mid] at hm1 hm2
 have hsub : ∀ i j,∀ s ∈ ((Z.map (·.2)).take j).drop i,s.size ≤ 12 := fun i j s hs => hws2 s (List.mem_of_mem_take (List.mem_of_mem_drop hs))
 have hj1 := callI127 hj (((Z.map (·.2)).take at_).drop (at_ - c.1)) k1 (by simp;omega) (hsub _ _)
 have hj2 := callI127 hj (((Z.map (·.2)).take (at_ + 1 + c.2.1)).drop (at_ + 1)) k2 (by simp;omega) (hsub _ _)
 have hq1 : IntKind.i64.wrap ((at_ : Int) - (c.1 : Int)) = ((at_ - c.1 : Nat) : Int) := by rw [← Int.ofNat_sub hc1];exact wrap_nat _ (by omega)
 have hq2 := wrap_succ at_ (by omega)
 have hq3 : IntKind.i64.wrap (((at_ + 1 : Nat) : Int) + (c.2.1 : Int)) = ((at_ + 1 + c.2.1 : Nat) : Int) := by rw [← Int.natCast_add];exact wrap_nat _ (by omega)
 unfold slipV befB aftB
 unfold spc at hj1 hj2
 unfold wds
 generalize Z.map (·.2) = ws at *
 unfold plN at hip
 simp only [bsC,intA] at c126
 unfold Ans
 rw [fn_step (fn_101 e) (show Tryz.f101.body = some _ from rfl)]
 simp -implicitDefEqProofs only [Tryz.f101,go_sem,↓reduceIte,Int.reduceEq,Int.reduceLT,Int.reduceLE,List.reduceReplicate,intA,setT_nil,setT_cons,c126,↓boolP_bool,↓iteB_true,↓iteB_false]
 refine wp_drawX [([],[],false),([],[],false),([],[],false),([],[],false),([],[],false),([],[],false),([1,4],[],false),([],[],false),([],[],false),([1,4],[],false),([],[],false),([1,4,6,9],[],false),([],[],false),([],[],false),([1,4,6,9,11],[],false),([],[],false),([],[],false),([1,4,6,9],[],false),([1,4,6,9],[],false),([],[],false),([1,4,6,9,11,14,17,18],[],false),([],[],false),([],[],false),([],[],false),([],[],false),([],[],false),([1,4,6,9,11,14,17,18,20],[],false),([],[],false),([1,4,6,9,11,14,17,18],[],false),([1,4,6,9],[],false),([],[],false),([],[],false)] (by kernel_rfl) (by kernel_rfl) ?_
 simp -implicitDefEqProofs only [go_sem,↓reduceIte,Int.reduceEq,Int.reduceLT,Int.reduceLE,List.reduceReplicate,intA,setT_nil,setT_cons,hix,hip,hm1,hm2,hq1,hq2,hq3,hj1,hj2,↓boolP_bool,↓iteB_true,↓iteB_false]
 rfl
end Go.Ev
namespace Go.Ev
open Go.Proofs
attribute [local irreducible] Wp WpS
theorem ansS114 {e : Exts} (lo hi n : Int) (h1 : lo ≤ n) (h2 : n ≤ hi) (cap : Option Nat) : Ans (Cx e) 114 [.agg [intA lo,intA hi],.vs 1 [intA n] cap] (.v (.bool true)) := by
 unfold Ans
 rw [fn_step (fn_114 e) (show Tryz.f114.body = some _ from rfl)]
 have hsl : SlOf 1 [intA n] (.vs 1 [intA n] cap) := Or.inr ⟨cap,rfl⟩
 have hlen := hsl.len
 simp -implicitDefEqProofs only [Tryz.f114,go_sem,↓reduceIte,Int.reduceEq,Int.reduceLT,Int.reduceLE,List.reduceReplicate,intA,setT_nil,setT_cons,hlen,↓boolP_bool,↓iteB_true,↓iteB_false]
 refine Lp_ruleQ (P := fun μ a H => ∃ j,j + μ = 1 ∧ a = ⟨24,[(0,.agg [intA lo,intA hi]),(1,.vs 1 [intA n] cap),(2,.ptr 0 0 0),(4,.v (.bool false)),(7,.vs 1 [intA n] cap),(8,intA 1),(9,intA (j : Nat))],[]⟩ ∧ H = ⟨[some (.cells 0 0 170 1 false [intA lo,intA hi])],0⟩) ?_ 1 _ _ ⟨0,by omega,rfl,rfl⟩
 rintro Q KK hQ hKK μ _ _ ⟨j,hj,rfl,rfl⟩
 cases μ with
 | zero =>
  obtain rfl : j = 1 := by omega
  have hlt : ¬ ((1 : Nat) : Int) < 1 := by omega
  simp -implicitDefEqProofs only [go_sem,↓reduceIte,Int.reduceEq,Int.reduceLT,Int.reduceLE,List.reduceReplicate,intA,setT_nil,setT_cons,hlt,↓boolP_bool,↓iteB_true,↓iteB_false]
  refine hKK _ _ _ ?_
  simp -implicitDefEqProofs only [go_sem,↓reduceIte,Int.reduceEq,Int.reduceLT,Int.reduceLE,List.reduceReplicate,intA,setT_nil,setT_cons,↓boolP_bool,↓iteB_true,↓iteB_false]
 | succ μ =>
  obtain rfl : j = 0 := by omega
  have hlt : ((0 : Nat) : Int) < 1 := by omega
  have hix := hsl.idx (show ([intA n] : List AV)[0]? = some (intA n) from rfl)
  have hw := wrap_succ 0 (by omega)
  have hn1 : ¬ n < lo := by omega
  have hn2 : ¬ n > hi := by omega
  simp only [intA] at hix
  simp -implicitDefEqProofs only [go_sem,↓reduceIte,Int.reduceEq,Int.reduceLT,Int.reduceLE,List.reduceReplicate,intA,setT_nil,setT_cons,hlt,hix,hw,hn1,hn2,decide_false,↓boolP_bool,↓iteB_true,↓iteB_false]
  exact Again.mk' μ (by omega) (hQ _ _ _ ⟨0 + 1,by omega,rfl,rfl⟩)
theorem ansS68 {e : Exts} (he : Quiet e) (t : Txt) (ht : Fits t) (ch : AV) (xs : List AV) (hch : SlOf 2 xs ch) (hall : All2 ChapA t xs) (hT : textB t = true) : Ans (Cx e) 68 [.agg [ch]] (intA 0) := by
 have h40 := call40 he t ht ch ⟨xs,hch,hall⟩
 rw [hT] at h40
 unfold Ans
 rw [fn_step (fn_68 e) (show Tryz.f68.body = some _ from rfl)]
 simp -implicitDefEqProofs only [Tryz.f68,go_sem,↓reduceIte,Int.reduceEq,Int.reduceLT,Int.reduceLE,List.reduceReplicate,intA,setT_nil,setT_cons,hch.cells,hch.flat,hch.bound,h40,if_true,↓boolP_bool,↓iteB_true,↓iteB_false]
theorem ansS83 {e : Exts} (he : Quiet e) (w : Int) (sd : Int) (h1 : 12 ≤ w) (h2 : w ≤ 80) (h3 : 1 ≤ sd) (h4 : sd ≤ 3) : Ans (Cx e) 83 [.agg [intA w,.v (.int .u8 sd)]] (.v (.bool true)) := by
 have cw := fun cap me d H => (ansS114 (e := e) 12 80 w h1 h2 cap).call (me := me) (d := d) (ext_114 he) (pure_114 _ _ _) rfl H
 have cs := fun cap me d H => (ansS114 (e := e) 1 3 sd h3 h4 cap).call (me := me) (d := d) (ext_114 he) (pure_114 _ _ _) rfl H
 unfold intA at cw cs
 unfold Ans
 rw [fn_step (fn_83 e) (show Tryz.f83.body = some _ from rfl)]
 have hcv := conv_u8 sd (by omega) (by omega)
 simp -implicitDefEqProofs only [Tryz.f83,go_sem,↓reduceIte,Int.reduceEq,Int.reduceLT,Int.reduceLE,List.reduceReplicate,intA,setT_nil,setT_cons,cw,cs,hcv,↓boolP_bool,↓iteB_true,↓iteB_false]
theorem ansS41 {e : Exts} (he : Quiet e) (w : Int) (sd : Int) (h1 : 12 ≤ w) (h2 : w ≤ 80) (h3 : 1 ≤ sd) (h4 : sd ≤ 3) : Ans (Cx e) 41 [.agg [intA w,.v (.int .u8 sd)]] (intA 0) := by
 have c83 := fun me d H => (ansS83 he w sd h1 h2 h3 h4).call (me := me) (d := d) (ext_83 he) (pure_83 _ _ _) rfl H
 unfold intA at c83
 unfold Ans
 rw [fn_step (fn_41 e) (show Tryz.f41.body = some _ from rfl)]
 simp -implicitDefEqProofs only [Tryz.f41,go_sem,↓reduceIte,Int.reduceEq,Int.reduceLT,Int.reduceLE,List.reduceReplicate,intA,setT_nil,setT_cons,c83,Bool.not_true,↓boolP_bool,↓iteB_true,↓iteB_false]
theorem ansS63 {e : Exts} (he : Quiet e) (t : Txt) (ht : Fits t) (ch : AV) (xs : List AV) (hch : SlOf 2 xs ch) (hall : All2 ChapA t xs) (hT : textB t = true) (w : Int) (sd : Int) (h1 : 12 ≤ w) (h2 : w ≤ 80) (h3 : 1 ≤ sd) (h4 : sd ≤ 3) : Ans (Cx e) 63 [.agg [ch],.agg [intA w,.v (.int .u8 sd)]] (intA 0) := by
 have c68 := fun me d H => (ansS68 he t ht ch xs hch hall hT).call (me := me) (d := d) (ext_68 he) (pure_68 _ _ _) (by simp only [boundL_cons,bound_agg,hch.bound,boundL_nil];rfl) H
 have c41 := fun me d H => (ansS41 he w sd h1 h2 h3 h4).call (me := me) (d := d) (ext_41 he) (pure_41 _ _ _) rfl H
 unfold intA at c68 c41
 unfold Ans
 rw [fn_step (fn_63 e) (show Tryz.f63.body = some _ from rfl)]
 simp -implicitDefEqProofs only [Tryz.f63,go_sem,↓reduceIte,Int.reduceEq,Int.reduceLT,Int.reduceLE,List.reduceReplicate,intA,setT_nil,setT_cons,hch.cells,hch.flat,hch.bound,c68,c41,↓boolP_bool,↓iteB_true,↓iteB_false]
end Go.Ev
namespace Go.Ev
open Go.Proofs
attribute [local irreducible] Wp WpS
end Go.Ev
namespace Go.Ev
open Go.Proofs
attribute [local irreducible] Wp WpS
end Go.Ev
namespace Go.Ev
open Go.Proofs
theorem okFrom_iff (t : Txt) : ∀ (l : Txt) (j : Nat),okFrom t j l = true ↔ ∀ (i : Nat) (c : Chap),l[i]? = some c → condC t (j + i) c = true
 | [],j => by simp [okFrom]
 | x :: l,j => by
  unfold okFrom
  rw [Bool.and_eq_true,okFrom_iff t l (j + 1)]
  constructor
  ·rintro ⟨h1,h2⟩ i c hc
   cases i with
   | zero => simp at hc;subst hc;exact h1
   | succ i => rw [show j + (i + 1) = j + 1 + i by omega];exact h2 i c (by simpa using hc)
  ·intro h
   exact ⟨h 0 x rfl,fun i c hc => by rw [show j + 1 + i = j + (i + 1) by omega];exact h (i + 1) c (by simpa using hc)⟩
theorem idB_map (t : Txt) (id : Int) (n : Nat) : idB t id 0 n = ((t.map (·.1)).take n).any fun x => decide (x = id) := by
 unfold idB
 rw [List.drop_zero,← List.map_take,List.any_map];rfl
theorem readT_ids (t : Txt) (rs : List Rd) : (readT t rs).map (·.1) = t.map (·.1) := by
 apply List.ext_getElem?
 intro i
 unfold readT
 rw [List.getElem?_map,List.getElem?_map,List.getElem?_mapIdx]
 cases t[i]? <;> simp
theorem Right.text {t : Txt} {id : Int} {rs : List Rd} (h : Right t id rs) (ht : textB t = true) : textB (readT t rs) = true := by
 have hs := small_of ht
 have hs2 := h.small hs
 unfold textB at ht ⊢
 rw [Bool.and_eq_true] at ht ⊢
 have hl : (readT t rs).length = t.length := by unfold readT;rw [List.length_mapIdx]
 refine ⟨by rw [hl];exact ht.1,(okFrom_iff _ _ _).2 fun i c hc => ?_⟩
 have hil : i < t.length := by rw [← hl];exact (List.getElem?_eq_some_iff.1 hc).1
 obtain ⟨c0,hc0⟩ := at_lt t i hil
 have h0 := (okFrom_iff t t 0).1 ht.2 i c0 hc0
 have hcm := List.mem_of_getElem? hc
 rw [readT_get hc0] at hc
 have hid : c.1 = c0.1 := by cases hc;rfl
 have hlen : c.2.length = c0.2.length := by cases hc;simp
 unfold condC at h0 ⊢
 simp only [Bool.and_eq_true] at h0 ⊢
 obtain ⟨⟨⟨e1,e2⟩,e3⟩,e4⟩ := h0
 rw [Nat.zero_add] at e3 ⊢
 refine ⟨⟨⟨by rw [hid];exact e1,by rw [hlen];exact e2⟩,by rw [hid,idB_map,readT_ids,← idB_map];exact e3⟩,List.all_eq_true.2 fun l hl => ?_⟩
 unfold lineB
 have hw := hs2.words c hcm l hl
 rw [Bool.and_eq_true]
 refine ⟨?_,List.all_eq_true.2 fun s hm => hs2.word c hcm l hl s hm⟩
 unfold withinB
 simp only [List.all_cons,List.all_nil,Bool.and_true,Bool.and_eq_true,decide_eq_true_eq];omega
end Go.Ev
namespace Go.Ev
theorem wordsL_in (i j : Nat) : ∀ (l : Line) (k c : Nat) (s : ByteArray),l[c]? = some s → ((i,j,k + c),s) ∈ wordsL i j k l
 | [],_,c,s,h => by simp at h
 | a :: r,k,0,s,h => by simp at h;subst h;simp [wordsL]
 | a :: r,k,c + 1,s,h => by
  have := wordsL_in i j r (k + 1) c s (by simpa using h)
  rw [show k + 1 + c = k + (c + 1) by omega] at this
  exact List.mem_cons_of_mem _ this
theorem wordsC_in (i : Nat) : ∀ (ls : List Line) (j b c : Nat) (l : Line) (s : ByteArray),ls[b]? = some l → l[c]? = some s → ((i,j + b,c),s) ∈ wordsC i j ls
 | [],_,b,c,l,s,h,_ => by simp at h
 | a :: r,j,0,c,l,s,h,h2 => by
  simp at h;subst h
  have := wordsL_in i j a 0 c s h2
  rw [Nat.zero_add] at this
  exact List.mem_append_left _ this
 | a :: r,j,b + 1,c,l,s,h,h2 => by
  have := wordsC_in i r (j + 1) b c l s (by simpa using h) h2
  rw [show j + 1 + b = j + (b + 1) by omega] at this
  exact List.mem_append_right _ this
theorem wordsL_sub (i j : Nat) : ∀ (l : Line) (k : Nat) (x : Plc × ByteArray),x ∈ wordsL i j k l → x.1.1 = i ∧ x.1.2.1 = j ∧ k ≤ x.1.2.2 ∧ l[x.1.2.2 - k]? = some x.2
 | [],_,x,h => by simp [wordsL] at h
 | a :: r,k,x,h => by
  rcases List.mem_cons.1 h with rfl | h
  ·exact ⟨rfl,rfl,Nat.le_refl _,by simp⟩
  ·obtain ⟨h1,h2,h3,h4⟩ := wordsL_sub i j r (k + 1) x h
   refine ⟨h1,h2,by omega, ?_⟩
   rw [show x.1.2.2 - k = (x.1.2.2 - (k + 1)) + 1 by omega]
   simpa using h4
theorem wordsC_sub (i : Nat) : ∀ (ls : List Line) (j : Nat) (x : Plc × ByteArray),x ∈ wordsC i j ls → x.1.1 = i ∧ j ≤ x.1.2.1 ∧ ∃ l,ls[x.1.2.1 - j]? = some l ∧ l[x.1.2.2]? = some x.2
 | [],_,x,h => by simp [wordsC] at h
 | a :: r,j,x,h => by
  rcases List.mem_append.1 h with h | h
  ·obtain ⟨h1,h2,h3,h4⟩ := wordsL_sub i j a 0 x h
   exact ⟨h1,by omega,a,by rw [h2,Nat.sub_self];rfl,by simpa using h4⟩
  ·obtain ⟨h1,h2,l,h3,h4⟩ := wordsC_sub i r (j + 1) x h
   refine ⟨h1,by omega,l, ?_,h4⟩
   rw [show x.1.2.1 - j = (x.1.2.1 - (j + 1)) + 1 by omega]
   simpa using h3
def atIx (Z : List (Plc × ByteArray)) (p : Plc) : Nat := Z.findIdx fun y => decide (y.1 = p)
theorem atIx_spec {a : Nat} {ls : List Line} {b c : Nat} {l : Line} {s : ByteArray} (h1 : ls[b]? = some l) (h2 : l[c]? = some s) :
  (wordsC a 0 ls)[atIx (wordsC a 0 ls) (a,b,c)]? = some ((a,b,c),s) ∧ ∀ j y,j < atIx (wordsC a 0 ls) (a,b,c) → (wordsC a 0 ls)[j]? = some y → y.1 ≠ (a,b,c) := by
 have hm := wordsC_in a ls 0 b c l s h1 h2
 rw [Nat.zero_add] at hm
 have hlt : atIx (wordsC a 0 ls) (a,b,c) < (wordsC a 0 ls).length := List.findIdx_lt_length_of_exists ⟨_,hm,by simp⟩
 refine ⟨?_,fun j y hj hy => ?_⟩
 ·rw [List.getElem?_eq_getElem hlt]
  have h3 : ((wordsC a 0 ls)[atIx (wordsC a 0 ls) (a,b,c)]).1 = (a,b,c) := by
   have := List.findIdx_getElem (xs := wordsC a 0 ls) (p := fun y : Plc × ByteArray => decide (y.1 = (a,b,c))) (w := hlt)
   exact of_decide_eq_true this
  obtain ⟨-, -,l',h4,h5⟩ := wordsC_sub a ls 0 _ (List.getElem_mem hlt)
  rw [h3] at h4 h5
  simp only [Nat.sub_zero] at h4 h5
  rw [h1] at h4;cases h4
  rw [h2] at h5
  congr 1
  exact Prod.ext h3 (by cases h5;rfl)
 ·have hj2 := (List.getElem?_eq_some_iff.1 hy).1
  have := List.not_of_lt_findIdx hj
  rw [List.getElem?_eq_getElem hj2] at hy
  cases hy
  simpa using this
end Go.Ev
namespace Go.Ev
open Go.Proofs
attribute [local irreducible] Wp WpS
def ctxOf (Z : List (Plc × ByteArray)) (p : Plc) (w sd : Nat) : Ctx := (bestC sd (ctxs (Z.map (·.2)) w (atIx Z p))).getD (0,0,0)
def mkV (a : Nat) (ls : List Line) (b c : Nat) (s : ByteArray) (w sd : Nat) : AV := slipV ((wordsC a 0 ls).map (·.2)) ((a,b,c),s) (atIx (wordsC a 0 ls) (a,b,c)) (ctxOf (wordsC a 0 ls) (a,b,c) w sd)
theorem wordsC_small (a : Nat) : ∀ (ls : List Line) (j : Nat),(∀ l ∈ ls,l.length ≤ 10) → (wordsC a j ls).length ≤ ls.length * 10
 | [],_,_ => Nat.le_refl _
 | l :: r,j,h => by
  have h1 := h l (List.mem_cons_self ..)
  have ih := wordsC_small a r (j + 1) fun x hx => h x (List.mem_cons_of_mem _ hx)
  show (wordsL a j 0 l ++ wordsC a (j + 1) r).length ≤ _
  rw [List.length_append,wordsL_len,List.length_cons]
  omega
theorem word_size {s : ByteArray} (h : wordB s = true) : 1 ≤ s.size ∧ s.size ≤ 12 := by
 unfold wordB at h
 rw [Bool.and_eq_true,range1] at h
 have := h.1
 simp at this
 omega
theorem ansS65 {e : Exts} (he : Quiet e) (hj : e.x 127 = some joinStr) (t : Txt) (ht : Fits t) (hT : textB t = true) (ch : AV) (xs : List AV) (hch : SlOf 2 xs ch) (hall : All2 ChapA t xs) (w sd : Nat) (h1 : 12 ≤ w) (h2 : w ≤ 80) (h3 : 1 ≤ sd) (h4 : sd ≤ 3) (a b c : Nat) (cp : Chap) (hc : t[a]? = some cp) (ln : Line) (hl : cp.2[b]? = some ln) (s : ByteArray) (hs : ln[c]? = some s) :
  Ans (Cx e) 65 [.agg [ch],.agg [intA w,.v (.int .u8 sd)],.agg [intA a,intA b,intA c]] (mkV a cp.2 b c s w sd) := by
 have hsm := small_of hT
 have hcm := List.mem_of_getElem? hc
 have hlm := List.mem_of_getElem? hl
 obtain ⟨hx,hlo⟩ := atIx_spec (a := a) hl hs
 have hil := (List.getElem?_eq_some_iff.1 hx).1
 have hcl := (hsm.lines cp hcm).2
 have hZl := wordsC_small a cp.2 0 fun l hl => (hsm.words cp hcm l hl).2
 have hZw : ∀ x ∈ wordsC a 0 cp.2,x.2.size ≤ 12 := fun x hx => by
  obtain ⟨-, -,l,q1,q2⟩ := wordsC_sub a cp.2 0 x hx
  exact (word_size (hsm.word cp hcm l (List.mem_of_getElem? q1) x.2 (List.mem_of_getElem? q2))).2
 have hss := hZw _ (List.mem_of_getElem? hx)
 have hne : ctxs ((wordsC a 0 cp.2).map (·.2)) w (atIx (wordsC a 0 cp.2) (a,b,c)) ≠ [] := ctxs_ne (by rw [List.length_map];exact hil) (s := s) (by rw [List.getElem?_map,hx];rfl) (by simp only at hss;omega)
 obtain ⟨cc,hcc,hcmem⟩ := best_some sd hne
 obtain ⟨m1,m2,m3⟩ := ctxs_mem hcmem
 rw [List.length_map] at m2
 have hcx : ctxOf (wordsC a 0 cp.2) (a,b,c) w sd = cc := by unfold ctxOf;rw [hcc];rfl
 have a100 := ansS100 he t ht ch xs hch hall w sd a cp hc (by omega) (fun l hl => by have := (hsm.words cp hcm l hl).2;omega) (fun h => by rw [h] at hil;simp at hil) (by omega)
 have a102 := ansS102 he (wordsC a 0 cp.2) (by omega) _ _ hx hlo
 have a101 := ansS101 he hj (wordsC a 0 cp.2) (by omega) hZw w (by omega) sd h3 h4 _ _ hx cc hcc m1 m2
 have bw : boundL (wds (wordsC a 0 cp.2)) = 0 := strs_bd _
 have c100 := fun me d H => a100.call (me := me) (d := d) (ext_100 he) (pure_100 _ _ _) (by simp only [boundL_cons,bound_agg,hch.bound,boundL_nil];rfl) H
 have c102 := fun me d => a102.callI (me := me) (d := d) (ext_102 he) (pure_102 _ _ _) rfl
 have c101 := fun me d => a101.callI (me := me) (d := d) (ext_101 he) (pure_101 _ _ _) rfl
 unfold mkV
 rw [hcx]
 generalize atIx (wordsC a 0 cp.2) (a,b,c) = i at *
 generalize wordsC a 0 cp.2 = Z at *
 unfold intA at c100 c101 c102
 unfold plN intA at c102
 unfold slipV at c101 ⊢
 unfold Ans
 rw [fn_step (fn_65 e) (show Tryz.f65.body = some _ from rfl)]
 simp -implicitDefEqProofs only [Tryz.f65,go_sem,↓reduceIte,Int.reduceEq,Int.reduceLT,Int.reduceLE,List.reduceReplicate,intA,setT_nil,setT_cons,hch.cells,hch.flat,hch.bound,c100,↓boolP_bool,↓iteB_true,↓iteB_false]
 refine wp_drawX [([],[],false),([],[],false),([0],[],false),([0,2],[],false),([0],[],false),([],[],false),([],[],false)] (by kernel_rfl) (by kernel_rfl) ?_
 simp only [intA] at c101
 simp -implicitDefEqProofs only [go_sem,↓reduceIte,Int.reduceEq,Int.reduceLT,Int.reduceLE,List.reduceReplicate,intA,setT_nil,setT_cons,c101,c102,↓boolP_bool,↓iteB_true,↓iteB_false]
 rfl
def mkB (a : Nat) (ls : List Line) (b c : Nat) (w sd : Nat) : ByteArray := befB ((wordsC a 0 ls).map (·.2)) (atIx (wordsC a 0 ls) (a,b,c)) (ctxOf (wordsC a 0 ls) (a,b,c) w sd)
def mkA (a : Nat) (ls : List Line) (b c : Nat) (w sd : Nat) : ByteArray := aftB ((wordsC a 0 ls).map (·.2)) (atIx (wordsC a 0 ls) (a,b,c)) (ctxOf (wordsC a 0 ls) (a,b,c) w sd)
theorem mkV_eq (a : Nat) (ls : List Line) (b c : Nat) (s : ByteArray) (w sd : Nat) : mkV a ls b c s w sd = .agg [intA a,intA b,intA c,.v (.string s),.v (.string (mkB a ls b c w sd)),.v (.string (mkA a ls b c w sd))] := rfl
theorem ansS37 {e : Exts} (he : Quiet e) (hj : e.x 127 = some joinStr) (t : Txt) (ht : Fits t) (hT : textB t = true) (ch : AV) (xs : List AV) (hch : SlOf 2 xs ch) (hall : All2 ChapA t xs) (w sd : Nat) (h1 : 12 ≤ w) (h2 : w ≤ 80) (h3 : 1 ≤ sd) (h4 : sd ≤ 3) (a b c : Nat) (cp : Chap) (hc : t[a]? = some cp) (ln : Line) (hl : cp.2[b]? = some ln) (s : ByteArray) (hs : ln[c]? = some s) :
  Ans (Cx e) 37 [.agg [ch],.agg [intA w,.v (.int .u8 sd)],.agg [intA a,intA b,intA c]] (.tup [mkV a cp.2 b c s w sd,intA 0]) := by
 have a65 := ansS65 he hj t ht hT ch xs hch hall w sd h1 h2 h3 h4 a b c cp hc ln hl s hs
 rw [mkV_eq] at a65 ⊢
 have a63 := ansS63 he t ht ch xs hch hall hT w sd (by omega) (by omega) (by omega) (by omega)
 have a46 := ansS46 he t ht ch xs hch hall hT a b c ln (lineAt_nat hc hl) s hs
 have b1 : boundL [AV.agg [ch],.agg [intA w,.v (.int .u8 sd)]] = 0 := by simp only [boundL_cons,bound_agg,hch.bound,boundL_nil];rfl
 have b2 : boundL [AV.agg [ch],.agg [intA a,intA b,intA c]] = 0 := by simp only [boundL_cons,bound_agg,hch.bound,boundL_nil];rfl
 have b3 : boundL [AV.agg [ch],.agg [intA w,.v (.int .u8 sd)],.agg [intA a,intA b,intA c]] = 0 := by simp only [boundL_cons,bound_agg,hch.bound,boundL_nil];rfl
 have c63 := fun me d H => a63.call (me := me) (d := d) (ext_63 he) (pure_63 _ _ _) b1 H
 have c46 := fun me d H => a46.call (me := me) (d := d) (ext_46 he) (pure_46 _ _ _) b2 H
 have c65 := fun me d H => a65.call (me := me) (d := d) (ext_65 he) (pure_65 _ _ _) b3 H
 generalize mkB a cp.2 b c w sd = B at *
 generalize mkA a cp.2 b c w sd = A at *
 unfold intA at c63 c46 c65
 unfold Ans
 rw [fn_step (fn_37 e) (show Tryz.f37.body = some _ from rfl)]
 simp -implicitDefEqProofs only [Tryz.f37,go_sem,↓reduceIte,Int.reduceEq,Int.reduceLT,Int.reduceLE,List.reduceReplicate,intA,setT_nil,setT_cons,hch.cells,hch.flat,hch.bound,c63,c46,c65,↓boolP_bool,↓iteB_true,↓iteB_false]
 rfl
end Go.Ev
namespace Go.Ev
open Go.Proofs
def sumS : Line → Nat
 | [] => 0
 | s :: r => s.size + sumS r
theorem sumS_app : ∀ l m : Line,sumS (l ++ m) = sumS l + sumS m
 | [],m => by simp [sumS]
 | s :: r,m => by
  show s.size + sumS (r ++ m) = _
  rw [sumS_app r m];simp only [sumS];omega
def segW (ws : Line) (i b a : Nat) : Line := (ws.take (i + a + 1)).drop (i - b)
def segL (ws : Line) (i b a : Nat) : Nat := sumS (segW ws i b a) + (b + a)
theorem getD_of {ws : Line} {i : Nat} {s : ByteArray} (h : ws[i]? = some s) : ws.getD i emp = s := by rw [List.getD_eq_getElem?_getD,h];rfl
theorem seg_after {ws : Line} {i b a : Nat} (h : i + a + 1 < ws.length) : segL ws i b (a + 1) = segL ws i b a + 1 + (ws.getD (i + (a + 1)) emp).size := by
 unfold segL segW
 obtain ⟨s,hs⟩ : ∃ s,ws[i + a + 1]? = some s := ⟨_,List.getElem?_eq_getElem h⟩
 rw [show i + (a + 1) + 1 = i + a + 1 + 1 by omega,show i + (a + 1) = i + a + 1 by omega,getD_of hs,List.take_add_one,hs]
 show sumS (((ws.take (i + a + 1)) ++ [s]).drop (i - b)) + _ = _
 rw [List.drop_append_of_le_length (by rw [List.length_take];omega),sumS_app]
 simp only [sumS];omega
theorem seg_before {ws : Line} {i b a : Nat} (hb : b + 1 ≤ i) (hi : i < ws.length) : segL ws i (b + 1) a = segL ws i b a + 1 + (ws.getD (i - (b + 1)) emp).size := by
 unfold segL segW
 obtain ⟨s,hs⟩ : ∃ s,ws[i - (b + 1)]? = some s := ⟨_,List.getElem?_eq_getElem (by omega)⟩
 have h1 : (ws.take (i + a + 1))[i - (b + 1)]? = some s := by rw [List.getElem?_take,if_pos (by omega)];exact hs
 obtain ⟨hlt,hg⟩ := List.getElem?_eq_some_iff.1 h1
 rw [getD_of hs,List.drop_eq_getElem_cons hlt,hg,show i - (b + 1) + 1 = i - b by omega]
 simp only [sumS];omega
theorem seg_one {ws : Line} {i : Nat} {s : ByteArray} (hs : ws[i]? = some s) : segL ws i 0 0 = s.size := by
 have hlt := (List.getElem?_eq_some_iff.1 hs).1
 unfold segL segW
 rw [show i + 0 + 1 = i + 1 by omega,List.take_add_one,hs]
 show sumS (((ws.take i) ++ [s]).drop (i - 0)) + _ = _
 rw [List.drop_append_of_le_length (by rw [List.length_take];omega),Nat.sub_zero,List.drop_of_length_le (by rw [List.length_take];omega)]
 simp [sumS]
theorem longN_pos {n : Nat} {s : ByteArray} (h : 0 < n) : longN n s = n + 1 + s.size := by unfold longN;rw [if_pos h]
theorem longN_zero {s : ByteArray} : longN 0 s = s.size := by unfold longN;simp
theorem segL_mono_a {ws : Line} {i b : Nat} : ∀ (n a : Nat),i + (a + n) < ws.length → segL ws i b a + n ≤ segL ws i b (a + n)
 | 0,a,_ => Nat.le_refl _
 | n + 1,a,h => by
  have ih := segL_mono_a (ws := ws) (i := i) (b := b) n a (by omega)
  have := seg_after (ws := ws) (i := i) (b := b) (a := a + n) (by omega)
  rw [show a + (n + 1) = a + n + 1 by omega,this]
  omega
theorem segL_mono_b {ws : Line} {i a : Nat} (hi : i < ws.length) : ∀ (n b : Nat),b + n ≤ i → segL ws i b a + n ≤ segL ws i (b + n) a
 | 0,b,_ => Nat.le_refl _
 | n + 1,b,h => by
  have ih := segL_mono_b (ws := ws) (i := i) (a := a) hi n b (by omega)
  have := seg_before (ws := ws) (i := i) (b := b + n) (a := a) (by omega) hi
  rw [show b + (n + 1) = b + n + 1 by omega,this]
  omega
theorem segL_pos {ws : Line} (hp : ∀ s ∈ ws,1 ≤ s.size) {i b a : Nat} (hb : b ≤ i) (hi : i + a < ws.length) : 0 < segL ws i b a := by
 obtain ⟨s,hs⟩ : ∃ s,ws[i]? = some s := ⟨_,List.getElem?_eq_getElem (by omega)⟩
 have h0 := seg_one hs
 have h1 := hp s (List.mem_of_getElem? hs)
 have h2 := segL_mono_a (ws := ws) (i := i) (b := 0) a 0 (by omega)
 have h3 := segL_mono_b (ws := ws) (i := i) (a := a) (by omega) b 0 (by omega)
 simp only [Nat.zero_add] at h2 h3
 omega
theorem innC_iff {ws : Line} (hp : ∀ s ∈ ws,1 ≤ s.size) {w i b : Nat} (hb : b ≤ i) : ∀ (n a L : Nat) (c : Ctx),i + a + n ≤ ws.length → (0 < n → (if a = 0 then L else longN L (ws.getD (i + a) emp)) = segL ws i b a) → (c ∈ innC ws w i b n a L ↔ c.1 = b ∧ a ≤ c.2.1 ∧ c.2.1 < a + n ∧ c.2.2 = segL ws i b c.2.1 ∧ c.2.2 ≤ w)
 | 0,a,L,c,_,_ => by
  simp only [innC,List.not_mem_nil,false_iff]
  rintro ⟨-,h1,h2, -⟩;omega
 | n + 1,a,L,c,hl,hL => by
  have hL := hL (by omega)
  rw [innC]
  simp only [hL]
  obtain ⟨c1,c2,c3⟩ := c
  by_cases hw : w < segL ws i b a
  ·rw [if_pos hw]
   simp only [List.not_mem_nil,false_iff]
   rintro ⟨-,h1,h2,h3,h4⟩
   have := segL_mono_a (ws := ws) (i := i) (b := b) (c2 - a) a (by omega)
   rw [show a + (c2 - a) = c2 by omega] at this
   omega
  ·rw [if_neg hw,List.mem_cons,innC_iff hp hb n (a + 1) (segL ws i b a) (c1,c2,c3) (by omega) (fun hn => by
    rw [if_neg (by omega),longN_pos (segL_pos hp hb (by omega)),seg_after (by omega)])]
   simp only [Prod.mk.injEq]
   constructor
   ·rintro (⟨rfl,rfl,rfl⟩ | ⟨h1,h2,h3,h4,h5⟩)
    ·exact ⟨rfl,Nat.le_refl _,by omega,rfl,by omega⟩
    ·exact ⟨h1,by omega,by omega,h4,h5⟩
   ·rintro ⟨h1,h2,h3,h4,h5⟩
    by_cases he : c2 = a
    ·subst he;exact Or.inl ⟨h1,rfl,h4⟩
    ·exact Or.inr ⟨h1,by omega,by omega,h4,h5⟩
theorem outC_iff {ws : Line} (hp : ∀ s ∈ ws,1 ≤ s.size) {w i : Nat} (hi : i < ws.length) : ∀ (n b g : Nat) (c : Ctx),b + n ≤ i + 1 → (0 < n → longN g (ws.getD (i - b) emp) = segL ws i b 0) → (c ∈ outC ws w i n b g ↔ b ≤ c.1 ∧ c.1 < b + n ∧ c.2.1 < ws.length - i ∧ c.2.2 = segL ws i c.1 c.2.1 ∧ c.2.2 ≤ w)
 | 0,b,g,c,_,_ => by
  simp only [outC,List.not_mem_nil,false_iff]
  rintro ⟨h1,h2, -⟩;omega
 | n + 1,b,g,c,hl,hL => by
  have hL := hL (by omega)
  rw [outC,List.mem_append,hL,innC_iff hp (by omega) (ws.length - i) 0 _ c (by omega) (fun _ => by rw [if_pos rfl]),outC_iff hp hi n (b + 1) _ c (by omega) (fun hn => by
   rw [longN_pos (segL_pos hp (by omega) (by omega)),seg_before (by omega) hi])]
  obtain ⟨c1,c2,c3⟩ := c
  simp only
  constructor
  ·rintro (⟨rfl,h2,h3,h4,h5⟩ | ⟨h1,h2,h3,h4,h5⟩)
   ·exact ⟨Nat.le_refl _,by omega,by omega,h4,h5⟩
   ·exact ⟨by omega,by omega,h3,h4,h5⟩
  ·rintro ⟨h1,h2,h3,h4,h5⟩
   by_cases he : c1 = b
   ·subst he;exact Or.inl ⟨rfl,by omega,by omega,h4,h5⟩
   ·exact Or.inr ⟨by omega,by omega,h3,h4,h5⟩
theorem ctxs_iff {ws : Line} (hp : ∀ s ∈ ws,1 ≤ s.size) {w i : Nat} (hi : i < ws.length) (c : Ctx) : c ∈ ctxs ws w i ↔ c.1 ≤ i ∧ i + c.2.1 < ws.length ∧ c.2.2 = segL ws i c.1 c.2.1 ∧ c.2.2 ≤ w := by
 unfold ctxs
 rw [outC_iff hp hi (i + 1) 0 0 c (by omega) (fun _ => by
  obtain ⟨s,hs⟩ : ∃ s,ws[i]? = some s := ⟨_,List.getElem?_eq_getElem hi⟩
  rw [longN_zero,Nat.sub_zero,getD_of hs,seg_one hs])]
 constructor
 ·rintro ⟨-,h2,h3,h4,h5⟩;exact ⟨by omega,by omega,h4,h5⟩
 ·rintro ⟨h2,h3,h4,h5⟩;exact ⟨by omega,by omega,by omega,h4,h5⟩
theorem aheadC_irr (sd : Nat) (x : Ctx) : aheadC sd x x = false := by
 unfold aheadC aheadF aheadE
 simp
theorem aheadF_tr {sd : Nat} {x y z : Ctx} (h1 : aheadF sd x y = true) (h2 : aheadF sd y z = true) : aheadF sd x z = true := by
 unfold aheadF aheadE at *
 by_cases s1 : sd = 1
 ·simp only [s1,if_true,decide_eq_true_eq] at *;omega
 ·by_cases s2 : sd = 2
  ·subst s2
   simp only [Nat.reduceEqDiff,if_true,if_false,decide_eq_true_eq] at *;omega
  ·simp only [s1,s2,if_false] at *
   by_cases u1 : unev x = unev y
   ·rw [if_pos u1] at h1
    by_cases u2 : unev y = unev z
    ·rw [if_pos u2] at h2;rw [if_pos (u1.trans u2)];simp at *;omega
    ·rw [if_neg u2] at h2;rw [if_neg (by omega)];simp at *;omega
   ·rw [if_neg u1] at h1
    by_cases u2 : unev y = unev z
    ·rw [if_pos u2] at h2;rw [if_neg (by omega)];simp at *;omega
    ·rw [if_neg u2] at h2;simp at h1 h2;rw [if_neg (by omega)];simp;omega
theorem aheadC_tr {sd : Nat} {x y z : Ctx} (h1 : aheadC sd x y = true) (h2 : aheadC sd y z = true) : aheadC sd x z = true := by
 unfold aheadC at *
 by_cases e1 : x.2.2 = y.2.2
 ·rw [if_pos e1] at h1
  by_cases e2 : y.2.2 = z.2.2
  ·rw [if_pos e2] at h2;rw [if_pos (e1.trans e2)];exact aheadF_tr h1 h2
  ·rw [if_neg e2] at h2;rw [if_neg (by omega)];simp at *;omega
 ·rw [if_neg e1] at h1
  by_cases e2 : y.2.2 = z.2.2
  ·rw [if_pos e2] at h2;rw [if_neg (by omega)];simp at *;omega
  ·rw [if_neg e2] at h2;simp at h1 h2;rw [if_neg (by omega)];simp;omega
theorem fold_best (sd : Nat) : ∀ (l seen : List Ctx) (y c : Ctx),(∀ d ∈ seen,aheadC sd d y = false) → y ∈ seen → l.foldl (nxC sd) (some y) = some c → ∀ d,d ∈ seen ∨ d ∈ l → aheadC sd d c = false
 | [],seen,y,c,hs,_,h,d,hd => by
  obtain rfl : y = c := by simpa using h
  rcases hd with hd | hd
  ·exact hs d hd
  ·cases hd
 | x :: r,seen,y,c,hs,hy,h,d,hd => by
  have h : r.foldl (nxC sd) (nxC sd (some y) x) = some c := h
  unfold nxC at h
  simp only at h
  have hd' : d ∈ x :: seen ∨ d ∈ r := by
   rcases hd with hd | hd
   ·exact Or.inl (List.mem_cons_of_mem _ hd)
   ·rcases List.mem_cons.1 hd with rfl | hd
    ·exact Or.inl (List.mem_cons_self ..)
    ·exact Or.inr hd
  split at h
  ·rename_i hxy
   refine fold_best sd r (x :: seen) x c (fun d hd => ?_) (List.mem_cons_self ..) h d hd'
   rcases List.mem_cons.1 hd with rfl | hd
   ·exact aheadC_irr sd _
   ·cases hq : aheadC sd d x with
    | false => rfl
    | true => have := hs d hd;rw [aheadC_tr hq hxy] at this;cases this
  ·rename_i hxy
   refine fold_best sd r (x :: seen) y c (fun d hd => ?_) (List.mem_cons_of_mem _ hy) h d hd'
   rcases List.mem_cons.1 hd with rfl | hd
   ·exact Bool.eq_false_iff.2 hxy
   ·exact hs d hd
theorem bestC_all {sd : Nat} {l : List Ctx} {c : Ctx} (h : bestC sd l = some c) : ∀ d ∈ l,aheadC sd d c = false := by
 cases l with
 | nil => cases h
 | cons x r => exact fun d hd => fold_best sd r [x] x c (fun d hd => by rw [List.mem_singleton.1 hd];exact aheadC_irr sd x) (List.mem_singleton.2 rfl) h d (by rcases List.mem_cons.1 hd with rfl | hd;exact Or.inl (List.mem_singleton.2 rfl);exact Or.inr hd)
theorem best_len {sd : Nat} {x c : Ctx} (h : aheadC sd x c = false) : x.2.2 ≤ c.2.2 := by
 unfold aheadC at h
 split at h
 ·omega
 ·simp at h;omega
end Go.Ev
namespace Go.Ev
open Go.Proofs
attribute [local irreducible] Wp WpS
def partN (s : ByteArray) : Nat := if s = emp then 0 else s.size + 1
def widthN (s B A : ByteArray) : Nat := s.size + partN B + partN A
theorem ansS49 {e : Exts} (a b c : Int) (s B A : ByteArray) (h1 : s.size < 2 ^ 40) (h2 : B.size < 2 ^ 40) (h3 : A.size < 2 ^ 40) : Ans (Cx e) 49 [.agg [intA a,intA b,intA c,.v (.string s),.v (.string B),.v (.string A)]] (intA (widthN s B A)) := by
 unfold Ans
 rw [fn_step (fn_49 e) (show Tryz.f49.body = some _ from rfl)]
 have w2 := wrap_succ B.size (by omega)
 have w3 := wrap_succ A.size (by omega)
 have k1 : IntKind.i64.wrap ((0 : Int) + 1) = 1 := by decide
 have k2 : IntKind.i64.wrap ((1 : Int) + 1) = 2 := by decide
 have wB : IntKind.i64.wrap ((s.size : Int) + ((B.size + 1 : Nat) : Int)) = ((s.size + (B.size + 1) : Nat) : Int) := by rw [← Int.natCast_add];exact wrap_nat _ (by omega)
 have wA : IntKind.i64.wrap ((s.size : Int) + ((A.size + 1 : Nat) : Int)) = ((s.size + (A.size + 1) : Nat) : Int) := by rw [← Int.natCast_add];exact wrap_nat _ (by omega)
 have wAB : IntKind.i64.wrap (((s.size + (B.size + 1) : Nat) : Int) + ((A.size + 1 : Nat) : Int)) = ((s.size + (B.size + 1) + (A.size + 1) : Nat) : Int) := by rw [← Int.natCast_add];exact wrap_nat _ (by omega)
 have hsl : SlOf 1 [AV.v (.string B),.v (.string A)] (.vs 1 [AV.v (.string B),.v (.string A)] (some 2)) := Or.inr ⟨some 2,rfl⟩
 have hln : slLen (AV.vs 1 [AV.v (.string B),.v (.string A)] (some 2)) = some (.v (.int .i64 2)) := hsl.len
 have hi0 : slIdx 1 (AV.vs 1 [AV.v (.string B),.v (.string A)] (some 2)) (.v (.int .i64 0)) = _ := hsl.idx (j := 0) rfl .i64
 have hi1 : slIdx 1 (AV.vs 1 [AV.v (.string B),.v (.string A)] (some 2)) (.v (.int .i64 1)) = _ := hsl.idx (j := 1) rfl .i64
 unfold widthN partN
 simp -implicitDefEqProofs only [Tryz.f49,go_sem,↓reduceIte,Int.reduceEq,Int.reduceLT,Int.reduceLE,List.reduceReplicate,intA,setT_nil,setT_cons,hln,↓boolP_bool,↓iteB_true,↓iteB_false]
 rw [Lp_step]
 by_cases hB : B = emp <;> by_cases hA : A = emp
 ·have d1 : decide (B = (⟨#[]⟩ : ByteArray)) = true := decide_eq_true hB
  have d2 : decide (A = (⟨#[]⟩ : ByteArray)) = true := decide_eq_true hA
  rw [if_pos hB,if_pos hA]
  simp -implicitDefEqProofs only [go_sem,↓reduceIte,Int.reduceEq,Int.reduceLT,Int.reduceLE,List.reduceReplicate,intA,setT_nil,setT_cons,hi0,d1,k1,Bool.not_true,↓boolP_bool,↓iteB_true,↓iteB_false]
  rw [Lp_step]
  simp -implicitDefEqProofs only [go_sem,↓reduceIte,Int.reduceEq,Int.reduceLT,Int.reduceLE,List.reduceReplicate,intA,setT_nil,setT_cons,hi1,d2,k2,Bool.not_true,↓boolP_bool,↓iteB_true,↓iteB_false]
  rw [Lp_step]
  simp -implicitDefEqProofs only [go_sem,↓reduceIte,Int.reduceEq,Int.reduceLT,Int.reduceLE,List.reduceReplicate,intA,setT_nil,setT_cons,↓boolP_bool,↓iteB_true,↓iteB_false]
 ·have d1 : decide (B = (⟨#[]⟩ : ByteArray)) = true := decide_eq_true hB
  have d2 : decide (A = (⟨#[]⟩ : ByteArray)) = false := decide_eq_false hA
  rw [if_pos hB,if_neg hA]
  simp -implicitDefEqProofs only [go_sem,↓reduceIte,Int.reduceEq,Int.reduceLT,Int.reduceLE,List.reduceReplicate,intA,setT_nil,setT_cons,hi0,d1,k1,Bool.not_true,↓boolP_bool,↓iteB_true,↓iteB_false]
  rw [Lp_step]
  simp -implicitDefEqProofs only [go_sem,↓reduceIte,Int.reduceEq,Int.reduceLT,Int.reduceLE,List.reduceReplicate,intA,setT_nil,setT_cons,hi1,d2,k2,w3,wA,Bool.not_false,↓boolP_bool,↓iteB_true,↓iteB_false]
  rw [Lp_step]
  simp -implicitDefEqProofs only [go_sem,↓reduceIte,Int.reduceEq,Int.reduceLT,Int.reduceLE,List.reduceReplicate,intA,setT_nil,setT_cons,↓boolP_bool,↓iteB_true,↓iteB_false]
 ·have d1 : decide (B = (⟨#[]⟩ : ByteArray)) = false := decide_eq_false hB
  have d2 : decide (A = (⟨#[]⟩ : ByteArray)) = true := decide_eq_true hA
  rw [if_neg hB,if_pos hA]
  simp -implicitDefEqProofs only [go_sem,↓reduceIte,Int.reduceEq,Int.reduceLT,Int.reduceLE,List.reduceReplicate,intA,setT_nil,setT_cons,hi0,d1,k1,w2,wB,Bool.not_false,↓boolP_bool,↓iteB_true,↓iteB_false]
  rw [Lp_step]
  simp -implicitDefEqProofs only [go_sem,↓reduceIte,Int.reduceEq,Int.reduceLT,Int.reduceLE,List.reduceReplicate,intA,setT_nil,setT_cons,hi1,d2,k2,Bool.not_true,↓boolP_bool,↓iteB_true,↓iteB_false]
  rw [Lp_step]
  simp -implicitDefEqProofs only [go_sem,↓reduceIte,Int.reduceEq,Int.reduceLT,Int.reduceLE,List.reduceReplicate,intA,setT_nil,setT_cons,↓boolP_bool,↓iteB_true,↓iteB_false]
 ·have d1 : decide (B = (⟨#[]⟩ : ByteArray)) = false := decide_eq_false hB
  have d2 : decide (A = (⟨#[]⟩ : ByteArray)) = false := decide_eq_false hA
  rw [if_neg hB,if_neg hA]
  simp -implicitDefEqProofs only [go_sem,↓reduceIte,Int.reduceEq,Int.reduceLT,Int.reduceLE,List.reduceReplicate,intA,setT_nil,setT_cons,hi0,d1,k1,w2,wB,Bool.not_false,↓boolP_bool,↓iteB_true,↓iteB_false]
  rw [Lp_step]
  simp -implicitDefEqProofs only [go_sem,↓reduceIte,Int.reduceEq,Int.reduceLT,Int.reduceLE,List.reduceReplicate,intA,setT_nil,setT_cons,hi1,d2,k2,w3,wAB,Bool.not_false,↓boolP_bool,↓iteB_true,↓iteB_false]
  rw [Lp_step]
  simp -implicitDefEqProofs only [go_sem,↓reduceIte,Int.reduceEq,Int.reduceLT,Int.reduceLE,List.reduceReplicate,intA,setT_nil,setT_cons,↓boolP_bool,↓iteB_true,↓iteB_false]
end Go.Ev
namespace Go.Ev
open Go.Proofs
def plainW (s : ByteArray) : Prop := 1 ≤ s.size ∧ ∀ b ∈ s.data.toList,b.toNat < 128 ∧ b.toNat ≠ 32
theorem plainW_of {s : ByteArray} (h : wordB s = true) : plainW s := by
 refine ⟨(word_size h).1,fun b hb => ?_⟩
 unfold wordB lettersB at h
 rw [Bool.and_eq_true,List.drop_zero] at h
 have h := List.all_eq_true.1 h.2 b hb
 unfold letter at h
 simp only [Bool.and_eq_true,decide_eq_true_eq] at h
 omega
theorem join_cons2 (x y : List UInt8) (r : List (List UInt8)) : Lib.join (x :: y :: r) [32] = x ++ 32 :: Lib.join (y :: r) [32] := by
 unfold Lib.join
 simp [List.intercalate,List.intersperse]
theorem join_one (x : List UInt8) : Lib.join [x] [32] = x := by simp [Lib.join,List.intercalate]
theorem join_size : ∀ l : Line,l ≠ [] → (Lib.join (l.map (·.data.toList)) [32]).length + 1 = sumS l + l.length
 | [],h => absurd rfl h
 | [x],_ => by
  simp only [List.map_cons,List.map_nil,join_one,sumS,List.length_cons,List.length_nil]
  simp
 | x :: y :: r,_ => by
  have ih := join_size (y :: r) (by simp)
  simp only [List.map_cons] at ih ⊢
  rw [join_cons2,List.length_append,List.length_cons]
  have : x.data.toList.length = x.size := by simp
  simp only [sumS,List.length_cons] at ih ⊢
  omega
theorem joinB_data (l : Line) : (joinB l).data.toList = Lib.join (l.map (·.data.toList)) [32] := by unfold joinB;simp
theorem joinB_size {l : Line} (h : l ≠ []) : (joinB l).size + 1 = sumS l + l.length := by
 have := join_size l h
 have h2 : (joinB l).size = (joinB l).data.toList.length := by simp
 rw [h2,joinB_data];exact this
theorem joinB_nil : joinB [] = emp := rfl
theorem sumS_pos {l : Line} (hp : ∀ s ∈ l,1 ≤ s.size) : l.length ≤ sumS l := by
 induction l with
 | nil => exact Nat.le_refl _
 | cons a r ih =>
  have h1 := hp a (List.mem_cons_self ..)
  have h2 := ih fun s hs => hp s (List.mem_cons_of_mem _ hs)
  simp only [sumS,List.length_cons];omega
theorem joinB_part {l : Line} (hp : ∀ s ∈ l,1 ≤ s.size) : partN (joinB l) = sumS l + l.length := by
 unfold partN
 by_cases h : l = []
 ·subst h;rw [joinB_nil,if_pos rfl];rfl
 ·have h1 := joinB_size h
  have h2 := sumS_pos hp
  have h3 : 0 < l.length := List.length_pos_iff.2 h
  have h4 : emp.size = 0 := rfl
  rw [if_neg (fun he => by rw [he,h4] at h1;omega),h1]
theorem seg_split {ws : Line} {i b a : Nat} {s : ByteArray} (hs : ws[i]? = some s) (hb : b ≤ i) (_ha : i + a < ws.length) : segW ws i b a = (ws.take i).drop (i - b) ++ s :: (ws.take (i + 1 + a)).drop (i + 1) := by
 have hi := (List.getElem?_eq_some_iff.1 hs).1
 unfold segW
 have h1 : ws.take (i + a + 1) = ws.take i ++ (ws.take (i + a + 1)).drop i := by
  have := (List.take_append_drop i (ws.take (i + a + 1))).symm
  rwa [List.take_take,Nat.min_eq_left (by omega)] at this
 have h2 : (ws.take (i + a + 1))[i]? = some s := by rw [List.getElem?_take,if_pos (by omega)];exact hs
 obtain ⟨hlt,hg⟩ := List.getElem?_eq_some_iff.1 h2
 rw [h1,List.drop_append_of_le_length (by rw [List.length_take];omega),List.drop_eq_getElem_cons hlt,hg,show i + 1 + a = i + a + 1 by omega]
theorem bef_len {ws : Line} {i b : Nat} (hi : i < ws.length) (hb : b ≤ i) : ((ws.take i).drop (i - b)).length = b := by rw [List.length_drop,List.length_take];omega
theorem aft_len {ws : Line} {i a : Nat} (ha : i + a < ws.length) : ((ws.take (i + 1 + a)).drop (i + 1)).length = a := by rw [List.length_drop,List.length_take];omega
theorem sub_mem {ws : Line} {i j : Nat} {s : ByteArray} (h : s ∈ (ws.take i).drop j) : s ∈ ws := List.mem_of_mem_take (List.mem_of_mem_drop h)
theorem ctx_width {ws : Line} (hp : ∀ s ∈ ws,plainW s) {w i : Nat} {s : ByteArray} (hs : ws[i]? = some s) {c : Ctx} (hc : c ∈ ctxs ws w i) : widthN s (befB ws i c) (aftB ws i c) = c.2.2 := by
 have hi := (List.getElem?_eq_some_iff.1 hs).1
 obtain ⟨h1,h2,h3, -⟩ := (ctxs_iff (fun s hs => (hp s hs).1) hi c).1 hc
 unfold widthN befB aftB
 rw [joinB_part fun x hx => (hp x (sub_mem hx)).1,joinB_part fun x hx => (hp x (sub_mem hx)).1,bef_len hi h1,aft_len h2,h3]
 unfold segL
 rw [seg_split hs h1 h2,sumS_app]
 simp only [sumS];omega
end Go.Ev
namespace Go.Ev
open Go.Proofs
def extWord : List AV → Option AV
 | [.v (.string s)] => if s.size < 1000 then some (.v (.bool (wordB s))) else none
 | _ => none
def eN : Exts := { x := fun _ => none }
def e0 : Exts := eN.more 131 cmpStr
def e1 : Exts := e0.more 90 extWord
theorem quiet0 : Quiet e0 := by
 intro f h1 h2 _
 unfold e0 Exts.more
 show (if Nat.beq f 131 then some cmpStr else none) = none
 rw [if_neg]
 intro h;exact h2 (Nat.eq_of_beq_eq_true h)
theorem mixed (e : Exts) : (Cx e).P.follows .mixedOrders = true := by show Tryz.prog.follows .mixedOrders = true;kernel_rfl
theorem nogo_all : (Tryz.prog.funcs.toList.all fun fn => !(fn.body.isSome && (fn.name == "runtime.NumGoroutine"))) = true := by kernel_rfl
theorem nogo (e : Exts) : NoGo (Cx e).P := by
 intro f fn hf hb
 have h := List.all_eq_true.1 nogo_all fn (by
  have : Tryz.prog.funcs[f]? = some fn := hf
  exact List.mem_of_getElem? (by simpa using this))
 rw [hb] at h
 simpa using h
theorem extOK_none : ExtOK (Cx eN) := ⟨fun _ _ h => (nomatch h),fun _ _ h => (nomatch h),fun _ _ h => (nomatch h)⟩
theorem extOK0 : ExtOK (Cx e0) := by
 refine extOK_more (C := Cx eN) (f := 131) (g := cmpStr) rfl ?_ extOK_none rfl
 intro args v h Z ρ H w vals hs hl
 exact ext_cmp (fn := Tryz.f131) Tryz.func131 (by kernel_rfl) (by kernel_rfl) (by kernel_rfl) (by kernel_rfl) h Z ρ H w vals hs hl
end Go.Ev
namespace Go.Ev
structure Tell where
 f : Nat
 K : List AV
 R : AV
def tabHas : List Tell → Nat → Bool
 | [],_ => false
 | t :: r,f => Nat.beq t.f f || tabHas r f
def tabFn : List Tell → Nat → List AV → Option AV
 | [],_,_ => none
 | t :: r,f,args => if Nat.beq t.f f && listEq (eqA 30) args t.K then some t.R else tabFn r f args
def tabExt (e : FuncId → Option (List AV → Option AV)) (T : List Tell) : FuncId → Option (List AV → Option AV) := fun f => if tabHas T f then some (tabFn T f) else e f
def Cfg.more (C : Cfg) (e : FuncId → Option (List AV → Option AV)) : Cfg := { C with ext := e }
structure TellH where
 f : Nat
 K : List AV
 G : List (Option AObj)
 R : AV
def eqEnt : List (AV × AV × Nat) → List (AV × AV × Nat) → Bool
 | [],[] => true
 | (a,b,n) :: r,(a',b',n') :: s => eqQ 30 a a' && eqQ 30 b b' && Nat.beq n n' && eqEnt r s
 | _,_ => false
def sameX : Option AObj → Option AObj → Bool
 | none,none => true
 | some .dead,some .dead => true
 | some .dfr,some .dfr => true
 | some (.cells v m e sz g cs),some (.cells v' m' e' sz' g' cs') => Nat.beq v v' && Nat.beq m m' && Nat.beq e e' && Nat.beq sz sz' && (g == g') && eqLQ (eqQ 30) cs cs'
 | some (.map m es c),some (.map m' es' c') => Nat.beq m m' && eqEnt es es' && Nat.beq c c'
 | _,_ => false
def sameL : List (Option AObj) → List (Option AObj) → Bool
 | [],[] => true
 | x :: r,y :: s => sameX x y && sameL r s
 | _,_ => false
theorem eqEnt_eq : ∀ {l m : List (AV × AV × Nat)},eqEnt l m = true → l = m
 | [],[],_ => rfl
 | [],_ :: _,h => by cases h
 | _ :: _,[],h => by cases h
 | (a,b,n) :: r,(a',b',n') :: s,h => by
  simp only [eqEnt,Bool.and_eq_true] at h
  obtain ⟨⟨⟨h1,h2⟩,h3⟩,h4⟩ := h
  rw [eqQ_eq 30 _ _ h1,eqQ_eq 30 _ _ h2,Nat.eq_of_beq_eq_true h3,eqEnt_eq h4]
theorem sameX_eq {x y : Option AObj} (h : sameX x y = true) : x = y := by
 unfold sameX at h
 split at h
 ·rfl
 ·rfl
 ·rfl
 ·simp only [Bool.and_eq_true,beq_iff_eq] at h
  obtain ⟨⟨⟨⟨⟨h1,h2⟩,h3⟩,h4⟩,h5⟩,h6⟩ := h
  rw [Nat.eq_of_beq_eq_true h1,Nat.eq_of_beq_eq_true h2,Nat.eq_of_beq_eq_true h3,Nat.eq_of_beq_eq_true h4,h5,eqLQ_eq (eqQ_eq 30) h6]
 ·simp only [Bool.and_eq_true] at h
  obtain ⟨⟨h1,h2⟩,h3⟩ := h
  rw [Nat.eq_of_beq_eq_true h1,eqEnt_eq h2,Nat.eq_of_beq_eq_true h3]
 ·cases h
theorem sameL_eq : ∀ {l m : List (Option AObj)},sameL l m = true → l = m
 | [],[],_ => rfl
 | [],_ :: _,h => by cases h
 | _ :: _,[],h => by cases h
 | x :: r,y :: s,h => by
  simp only [sameL,Bool.and_eq_true] at h
  rw [sameX_eq h.1,sameL_eq h.2]
def tabHHas : List TellH → Nat → Bool
 | [],_ => false
 | t :: r,f => Nat.beq t.f f || tabHHas r f
def tabH : List TellH → Nat → List AV → Heap → Option AV
 | [],_,_,_ => none
 | t :: r,f,args,H => if Nat.beq t.f f && (eqLQ (eqQ 30) args t.K && sameL H.objs t.G) then some t.R else tabH r f args H
def atom1 : AV → Bool
 | .v _ => true
 | _ => false
def atom1b : AV → Bool
 | .v _ => true
 | .agg cs => cs.all atom1
 | _ => false
def atomR : AV → Bool
 | .v _ => true
 | .tup cs => cs.all atom1b
 | .agg cs => cs.all atom1b
 | _ => false
def borH (T : List Tell) (f : Nat) (args : List AV) (H : Heap) : Option AV :=
 match freezeL { H with lock := 0 } 100000 args with
 | some l => match tabFn T f l with | some R => if atomR R then some R else none | none => none
 | none => none
def tabX (T : List Tell) (TH : List TellH) (f : Nat) (args : List AV) (H : Heap) : Option AV := match tabH TH f args H with | some v => some v | none => borH T f args H
def tabExh (e : FuncId → Option (List AV → Heap → Option AV)) (T : List Tell) (TH : List TellH) : FuncId → Option (List AV → Heap → Option AV) := fun f => if tabHHas TH f || tabHas T f then some (tabX T TH f) else e f
def Cfg.more2 (C : Cfg) (e : FuncId → Option (List AV → Option AV)) (x : FuncId → Option (List AV → Heap → Option AV)) : Cfg := { C with ext := e,exh := x }
def ansH (n : Nat) (o : Option Out) : Option AV := match o with | some (.ret v H) => freezeV { H with lock := n } 1000000 v | _ => none
def GoodC (C : Cfg) (t : Tell) : Prop := (∃ e x,ExtOK (C.more2 e x) ∧ Ans (C.more2 e x) t.f t.K t.R) ∧ boundL t.K = 0
def GoodH (C : Cfg) (t : TellH) : Prop := (∃ e x,ExtOK (C.more2 e x) ∧ ∃ n,ansH t.G.length (evT (C.more2 e x) n (.call t.f t.K { objs := t.G,lock := t.G.length })) = some t.R) ∧ (Nat.beq (boundL t.K) 0 || t.K.any isYld) = false
def AllG (C : Cfg) : List Tell → Prop
 | [] => True
 | t :: r => GoodC C t ∧ AllG C r
def AllH (C : Cfg) : List TellH → Prop
 | [] => True
 | t :: r => GoodH C t ∧ AllH C r
theorem tabFn_some {C : Cfg} : ∀ {T : List Tell} {f : Nat} {args : List AV} {v : AV},AllG C T → tabFn T f args = some v → ∃ t,GoodC C t ∧ t.f = f ∧ args = t.K ∧ v = t.R
 | [],_,_,_,_,h => by cases h
 | t :: r,f,args,v,hT,h => by
  unfold tabFn at h
  split at h
  ·rename_i hq
   simp only [Bool.and_eq_true] at hq
   exact ⟨t,hT.1,Nat.eq_of_beq_eq_true hq.1,listEq_eq (eqA_eq 30) hq.2,by simpa using h.symm⟩
  ·exact tabFn_some hT.2 h
theorem tabH_some {C : Cfg} : ∀ {T : List TellH} {f : Nat} {args : List AV} {H : Heap} {v : AV},AllH C T → tabH T f args H = some v → ∃ t,GoodH C t ∧ t.f = f ∧ args = t.K ∧ H.objs = t.G ∧ v = t.R
 | [],_,_,_,_,_,h => by cases h
 | t :: r,f,args,H,v,hT,h => by
  unfold tabH at h
  split at h
  ·rename_i hq
   simp only [Bool.and_eq_true] at hq
   exact ⟨t,hT.1,Nat.eq_of_beq_eq_true hq.1,eqLQ_eq (eqQ_eq 30) hq.2.1,sameL_eq hq.2.2,by simpa using h.symm⟩
  ·exact tabH_some hT.2 h
theorem atom1_rep {Z Z' : Fzn} {ρ ρ' : Pls} {x : AV} {v : Value} (h : Rep Z ρ x v) (ha : atom1 x = true) : Rep Z' ρ' x v := by
 cases h with
 | v h => exact .v h
 | _ => cases ha
theorem atom1b_rep {Z Z' : Fzn} {ρ ρ' : Pls} {x : AV} {v : Value} (h : Rep Z ρ x v) (ha : atom1b x = true) : Rep Z' ρ' x v := by
 cases h with
 | v h => exact .v h
 | agg hl h => exact .agg hl fun i c v hc hv => atom1_rep (h i c v hc hv) (List.all_eq_true.1 (show List.all _ atom1 = true from ha) c (List.mem_of_getElem? hc))
 | _ => cases ha
theorem atomR_rep {Z Z' : Fzn} {ρ ρ' : Pls} {x : AV} {v : Value} (h : Rep Z ρ x v) (ha : atomR x = true) : Rep Z' ρ' x v := by
 cases h with
 | v h => exact .v h
 | agg hl h => exact .agg hl fun i c v hc hv => atom1b_rep (h i c v hc hv) (List.all_eq_true.1 (show List.all _ atom1b = true from ha) c (List.mem_of_getElem? hc))
 | tup hl h => exact .tup hl fun i c v hc hv => atom1b_rep (h i c v hc hv) (List.all_eq_true.1 (show List.all _ atom1b = true from ha) c (List.mem_of_getElem? hc))
 | _ => cases ha
theorem back_frozen {Z : Fzn} {ρ : Pls} {H : Heap} {w : World} (hs : Sim Z ρ H w) {R : AV} (hR : atomR R = true) {x : Value} {w' : World} (h : After (allZ w) noPls { objs := [],lock := 0 } w R { objs := [],lock := 0 } x w') : After Z ρ H w R H x w' := by
 obtain ⟨Z',ρ',h1,h2,h3⟩ := h
 have hsame : ∀ k,k < w.heap.size → w'.heap[k]? = w.heap[k]? := fun k hk => h3.frame k hk (start_own w k)
 refine ⟨Z,ρ,atomR_rep h1 hR,⟨fun b o hb hl => ?_,hs.inj,fun k o hk => ?_,hs.fresh,hs.lk,hs.lg⟩,⟨.refl _,.refl _,fun k hk _ => hsame k hk,fun _ _ h => h,h3.size,h3.os,h3.output,h3.tape,h3.drawn,h3.fz,rfl,fun _ _ => rfl,Nat.le_refl _,fun _ _ _ => rfl,fun _ _ _ => rfl,fun _ _ h _ => ⟨h,fun _ => rfl⟩⟩⟩
 ·obtain ⟨pl,obj,q1,q2,q3,q4⟩ := hs.objs b o hb hl
  exact ⟨pl,obj,q1,(hsame _ (Array.getElem?_eq_some_iff.1 q2).1).trans q2,q3,q4⟩
 ·have := hs.zok k o hk
  exact (hsame _ (Array.getElem?_eq_some_iff.1 this).1).trans this
theorem extOK_tab {C : Cfg} (hgo : NoGo C.P) (hm : C.P.follows .mixedOrders = true) (h0 : ExtOK C) {T : List Tell} (hT : AllG C T) {TH : List TellH} (hH : AllH C TH) : ExtOK (C.more2 (tabExt C.ext T) (tabExh C.exh T TH)) := by
 refine ⟨fun f g hf args v hv Z ρ H w vals hs hl => ?_,h0.lay,fun f g hf args v H hv Z ρ w vals hs hl => ?_⟩
 ·have hf' : (if tabHas T f then some (tabFn T f) else C.ext f) = some g := hf
  split at hf'
  ·simp only [Option.some.injEq] at hf'
   subst hf'
   obtain ⟨t,⟨⟨e,x,he,ha⟩,hb⟩,rfl,rfl,rfl⟩ := tabFn_some hT hv
   exact ext_of_ans (C := C.more2 e x) hgo hm he ha hb Z ρ H w vals hs hl
  ·exact h0.ext f g hf' args v hv Z ρ H w vals hs hl
 ·have hf' : (if tabHHas TH f || tabHas T f then some (tabX T TH f) else C.exh f) = some g := hf
  split at hf'
  ·simp only [Option.some.injEq] at hf'
   subst hf'
   unfold tabX at hv
   split at hv
   case h_2 =>
    unfold borH at hv
    split at hv
    ·rename_i l hfz
     split at hv
     ·rename_i R hR
      split at hv
      ·rename_i hat
       simp only [Option.some.injEq] at hv
       subst hv
       have hlz : RepL (allZ w) noPls l vals := (freeze_rep (ρ := noPls) (Z1 := Z) (Z2 := allZ w) (ρ1 := ρ) (H1 := { H with lock := 0 }) (w1 := w) ⟨hs.objs,hs.inj,hs.zok,hs.fresh,Nat.zero_le _,hs.lg⟩ (fun k o hk => hs.zok k o hk) (fun b o pl _ _ _ _ => rfl) (fun b v p hb _ => absurd hb (Nat.not_lt_zero _)) 100000).2 _ _ _ hfz hl
       obtain ⟨t,⟨⟨e,x,he,ha⟩,hb⟩,rfl,rfl,rfl⟩ := tabFn_some hT hR
       have hm1 := ext_of_ans (C := C.more2 e x) hgo hm he ha hb (allZ w) noPls { objs := [],lock := 0 } w vals (start_sim w (hs.lg.mono fun k o hk => hs.zok k o hk)) hlz
       rcases hm1 with ⟨y,w',h1,h2⟩ | ⟨h1,h2⟩
       ·exact Or.inl ⟨y,w',h1,back_frozen hs hat h2⟩
       ·exact Or.inr ⟨h1,Calls.mono' h2 fun en w' he => by
         obtain ⟨y,rfl,h3⟩ := he
         exact ⟨y,rfl,back_frozen hs hat h3⟩⟩
      ·cases hv
     ·cases hv
    ·cases hv
   rename_i v2 hv2
   simp only [Option.some.injEq] at hv
   subst hv
   obtain ⟨t,⟨⟨e,x,he,n,ha⟩,hb⟩,rfl,rfl,hG,rfl⟩ := tabH_some hH hv2
   have hrec : RecOK C.P (evT (C.more2 e x) n) := (ev_sound (C := C.more2 e x) hgo he (draw_ok hm he) n).1
   let D : Cfg := { C.more2 e x with pure := fun _ _ _ => true }
   have hk : callKind D t.f t.f none t.K = 2 := by
    simp only [Bool.or_eq_false_iff] at hb
    unfold callKind
    simp only [hb.1,hb.2,Bool.false_eq_true,if_false,if_true,D]
   have hB : callB D (evT (C.more2 e x) n) t.f t.f none t.K H = some (t.R,H) := by
    unfold callB;rw [hk]
    have h1 : ({ H with lock := H.size } : Heap) = { objs := t.G,lock := t.G.length } := by
     obtain ⟨objs,lock⟩ := H
     simp only at hG
     subst hG
     rfl
    have h2 : H.size = t.G.length := by unfold Heap.size;rw [hG]
    simp only
    rw [h1,h2]
    unfold ansH at ha
    split at ha
    ·rename_i v1 H1 h3
     rw [h3]
     simp only [ha,Option.map_some]
    ·cases ha
   obtain ⟨hbody,hc⟩ := callB_sound (C := D) hrec hs hl hB
   exact Or.inr ⟨hbody.run _ _,hc⟩
  ·exact h0.exh f g hf' args v H hv Z ρ w vals hs hl
def ansC (o : Option Out) : Option AV := match o with | some (.ret v H) => freezeV { H with lock := 0 } 1000000 v | _ => none
theorem ans_of_evC {C : Cfg} {n : Nat} {f : FuncId} {args : List AV} {v : AV} (h : ansC (evT C n (.call f args { objs := [],lock := 0 })) = some v) : Ans C f args v := by
 refine Ans.iff.2 ?_
 cases ho : evT C n (.call f args { objs := [],lock := 0 }) with
 | none => rw [ho] at h;cases h
 | some o =>
  rw [ho] at h
  cases o with
  | go => cases h
  | ret x H => exact ⟨x,H,lim_iff.2 ⟨n,ho⟩,h⟩
theorem goodC {C : Cfg} (hgo : NoGo C.P) (hm : C.P.follows .mixedOrders = true) (h0 : ExtOK C) {t : Tell} (T : List Tell) (hT : AllG C T) (TH : List TellH) (hH : AllH C TH) (n : Nat)
  (h : ansC (evT (C.more2 (tabExt C.ext T) (tabExh C.exh T TH)) n (.call t.f t.K { objs := [],lock := 0 })) = some t.R) (hb : boundL t.K = 0) : GoodC C t :=
 ⟨⟨_,_,extOK_tab hgo hm h0 hT hH,ans_of_evC h⟩,hb⟩
end Go.Ev
namespace Go.Ev
end Go.Ev
namespace Go.Ev
open Go.Proofs Go.Shelf Go.RowKit
def asciiB : List UInt8 → Bool
 | [] => true
 | b :: r => Nat.blt b.toNat 128 && asciiB r
theorem asciiB_at : ∀ {l : List UInt8},asciiB l = true → ∀ (j : Nat) b,l[j]? = some b → b.toNat < 128
 | [],_,j,b,h => by simp at h
 | x :: r,ha,0,b,h => by
  simp only [asciiB,Bool.and_eq_true] at ha
  simp only [List.getElem?_cons_zero,Option.some.injEq] at h
  subst h
  rw [← Nat.blt_eq];exact ha.1
 | x :: r,ha,j + 1,b,h => by
  simp only [asciiB,Bool.and_eq_true] at ha
  exact asciiB_at ha.2 j b (by simpa using h)
def strAV (l : List UInt8) : AV := .v (.string ⟨l.toArray⟩)
def fieldsA : List AV → Option AV
 | [.v (.string s)] => if Nat.blt s.data.size 100000 && asciiB s.data.toList then some (.vs 1 ((Lib.fields s.data.toList).map strAV) (some (Lib.fields s.data.toList).length)) else none
 | _ => none
theorem strAV_cells : ∀ l : List (List UInt8),(l.map strAV).flatMap AV.cells = l.map strAV
 | [] => rfl
 | x :: r => by simp only [List.map_cons,List.flatMap_cons,strAV_cells r];rfl
theorem ext_fields {P : Program} {ρn : Ren} (L : Lays.n157 P ρn) (hi9 : (P.info? (ρn.t 9)).map (fun i => (i.zero,i.size,i.bytes)) = some (some (.string ByteArray.empty),1,16)) (hg : P.globalNamed "strings.asciiSpace" = some (ρn.g 0))
  (hl0 : (ρn.g 0,(Lib.asciiSpaceTab.map fun z => Value.int .u8 z).toArray) ∈ laidL) {f : FuncId} (hf : ρn.f 157 = f) (hbody : HasBody P f)
  {args : List AV} {v : AV} (h : fieldsA args = some v) (Z : Fzn) (ρ : Pls) (H : Heap) (w : World) (vals : List Value) (hs : Sim Z ρ H w) (hl : RepL Z ρ args vals) : FnMeets P f vals w (After Z ρ H w v H) := by
 subst hf
 unfold fieldsA at h
 split at h
 ·rename_i s
  obtain ⟨v1,ws,rfl,hv1,hl⟩ := hl.uncons
  have : ws = [] := List.length_eq_zero_iff.1 hl.1.symm
  subst this
  obtain ⟨rfl, -⟩ := hv1.v_inv
  split at h
  ·rename_i hc
   simp only [Bool.and_eq_true] at hc
   simp only [Option.some.injEq] at h
   subst h
   have hsz : s.size < 100000 := by
    have := hc.1
    rw [Nat.blt_eq] at this
    exact this
   have htab : Lib.TabIs P w "strings.asciiSpace" .u8 Lib.asciiSpaceTab := by
    obtain ⟨e,fz,hz⟩ := hs.lg _ hl0
    have := hs.zok _ _ hz
    unfold Lib.TabIs World.var?
    rw [hg]
    simp only [Option.bind_some]
    simp only at this
    rw [this]
   refine Or.inr ⟨hbody.run _ _,Calls.mono' (Any.strings_Fields L hi9 hg s w (by omega) (asciiB_at hc.2) htab) ?_⟩
   rintro e w' ⟨rfl,rfl⟩
   obtain ⟨q1,q2⟩ := hs.frozen (.cells ((Lib.fields s.data.toList).map fun l => Value.string ⟨l.toArray⟩).toArray (ρn.t 9) (0,0)) (fun c e fz he => by cases he;rfl)
   refine ⟨_,rfl,_,ρ, ?_,q1,q2⟩
   have hz : freezeZ Z w.heap.size (.cells ((Lib.fields s.data.toList).map fun l => Value.string ⟨l.toArray⟩).toArray (ρn.t 9) (0,0)) w.heap.size = some (.cells ((Lib.fields s.data.toList).map fun l => Value.string ⟨l.toArray⟩).toArray (ρn.t 9) (0,0)) := by
    unfold freezeZ;rw [if_pos rfl]
   have hlen : ((Lib.fields s.data.toList).map strAV).length = (Lib.fields s.data.toList).length := List.length_map _
   have hrep : Rep (freezeZ Z w.heap.size (.cells ((Lib.fields s.data.toList).map fun l => Value.string ⟨l.toArray⟩).toArray (ρn.t 9) (0,0))) ρ (.vs 1 ((Lib.fields s.data.toList).map strAV) (some (Lib.fields s.data.toList).length))
     (.slice (some ⟨w.heap.size,([] : List Value).length,none⟩) ((Lib.fields s.data.toList).map strAV).length (Lib.fields s.data.toList).length) := by
    refine Rep.vs (vs := (Lib.fields s.data.toList).map fun l => Value.string ⟨l.toArray⟩) (post := []) hz (by simp) (fun x hx => ?_) ?_ (fun i c v hc hv => ?_) (fun k hk => by cases hk;rfl) (by rw [hlen];exact Nat.le_refl _)
    ·obtain ⟨l, -,rfl⟩ := List.mem_map.1 hx
     rfl
    ·rw [strAV_cells,List.length_map,List.length_map]
    ·rw [strAV_cells] at hc
     rw [List.getElem?_map] at hc hv
     cases hq : (Lib.fields s.data.toList)[i]? with
     | none => rw [hq] at hc;cases hc
     | some l =>
      rw [hq] at hc hv
      simp only [Option.map_some,Option.some.injEq] at hc hv
      subst hc;subst hv
      exact .v rfl
   rw [hlen] at hrep
   exact hrep
  ·cases h
 ·cases h
end Go.Ev
namespace Go.Proofs
open Go.Shelf
def Tryz.lays156_ren : Go.Shelf.Ren := ⟨fun | 156 => 127 | 165 => 155 | 166 => 156 | 169 => 157 | 240 => 180 | 241 => 181 | 276 => 189 | 277 => 190 | n => n,fun | 31 => 87 | 9 => 9 | 3 => 3 | 4 => 4 | 0 => 0 | 20 => 20 | 72 => 227 | 76 => 231 | 70 => 224 | 37 => 225 | 75 => 230 | 127 => 249 | 164 => 262 | 5 => 5 | 80 => 233 | n => n,fun | n => n⟩
theorem Tryz.lays156 : Go.Proofs.Lays.n156 Tryz.prog Tryz.lays156_ren := {
 mixed := by kernel_rfl
 f156 := Tryz.func127.trans (congrArg some (by kernel_rfl))
 f165 := Tryz.func155.trans (congrArg some (by kernel_rfl))
 f166 := Tryz.func156.trans (congrArg some (by kernel_rfl))
 f169 := Tryz.func157.trans (congrArg some (by kernel_rfl))
 f240 := Tryz.func180.trans (congrArg some (by kernel_rfl))
 f241 := Tryz.func181.trans (congrArg some (by kernel_rfl))
 f276 := Tryz.func189.trans (congrArg some (by kernel_rfl))
 f277 := Tryz.func190.trans (congrArg some (by kernel_rfl))
 t0 := Tryz.underlying0
 a0 := Tryz.isAgg0
 z0 := Tryz.sizeOf0
 v0 := Tryz.zeroValue0
 t3 := Tryz.underlying3
 a3 := Tryz.isAgg3
 z3 := Tryz.sizeOf3
 v3 := Tryz.zeroValue3
 t4 := Tryz.underlying4
 a4 := Tryz.isAgg4
 z4 := Tryz.sizeOf4
 v4 := Tryz.zeroValue4
 t9 := Tryz.underlying9
 a9 := Tryz.isAgg9
 z9 := Tryz.sizeOf9
 v9 := Tryz.zeroValue9
 t20 := Tryz.underlying20
 a20 := Tryz.isAgg20
 z20 := Tryz.sizeOf20
 v20 := Tryz.zeroValue20
 t31 := Tryz.underlying87
 a31 := Tryz.isAgg87
 z31 := Tryz.sizeOf87
 v31 := Tryz.zeroValue87
 t37 := Tryz.underlying225
 a37 := Tryz.isAgg225
 z37 := Tryz.sizeOf225
 v37 := Tryz.zeroValue225
 t70 := Tryz.underlying224
 a70 := Tryz.isAgg224
 z70 := Tryz.sizeOf224
 v70 := Tryz.zeroValue224
 t72 := Tryz.underlying227
 a72 := Tryz.isAgg227
 z72 := Tryz.sizeOf227
 v72 := Tryz.zeroValue227
 t75 := Tryz.underlying230
 a75 := Tryz.isAgg230
 z75 := Tryz.sizeOf230
 v75 := Tryz.zeroValue230
 t76 := Tryz.underlying231
 a76 := Tryz.isAgg231
 z76 := Tryz.sizeOf231
 v76 := Tryz.zeroValue231
 t127 := Tryz.underlying249
 a127 := Tryz.isAgg249
 z127 := Tryz.sizeOf249
 v127 := Tryz.zeroValue249
 t164 := Tryz.underlying262
 a164 := Tryz.isAgg262
 z164 := Tryz.sizeOf262
 v164 := Tryz.zeroValue262 }
theorem Tryz.Builder_Extra_156 : Builder.Extra Tryz.prog Tryz.lays156_ren := {
 sizeBuilder := by kernel_rfl
 liesBuilder := by kernel_rfl
 t5 := Tryz.underlying5
 a5 := Tryz.isAgg5
 z5 := Tryz.sizeOf5
 v5 := Tryz.zeroValue5
 infoByte := by kernel_rfl
 cellsByte := by kernel_rfl
 sizeByte := by kernel_rfl
 neB5 := by decide }
open Go.RowKit in
theorem Tryz.strings_Join_none (a : Option Addr) (c : Nat) (sep : ByteArray) (w : World) :
  Calls Tryz.prog 127 #[.slice a 0 c,.string sep] w fun e w' => e = .returned (.string ⟨#[]⟩) ∧ w' = w := Any.strings_Join_none Tryz.lays156 Tryz.Builder_Extra_156 a c sep w
open Go.RowKit in
theorem Tryz.strings_Join (bk o c : Nat) (xs : List ByteArray) (sep : ByteArray) (w : World) (hcells : ∀ (j : Nat) x,xs[j]? = some x → w.cell? ⟨bk,o + j,none⟩ = some (.string x)) (hbk : bk < w.heap.size) (hN : xs.length ≤ 140737488355328) (hcap : xs.length ≤ c) (hlen : (Lib.join (xs.map (·.data.toList)) sep.data.toList).length ≤ 140737488355328) :
  Calls Tryz.prog 127 #[.slice (some ⟨bk,o,none⟩) xs.length c,.string sep] w fun e w' => e = .returned (.string ⟨(Lib.join (xs.map (·.data.toList)) sep.data.toList).toArray⟩) ∧ Below w.heap.size w w' := Any.strings_Join Tryz.lays156 Tryz.Builder_Extra_156 bk o c xs sep w hcells hbk hN hcap hlen
def Tryz.lays157_ren : Go.Shelf.Ren := ⟨fun | 157 => 107 | 229 => 128 | 199 => 129 | 261 => 158 | 311 => 182 | 312 => 183 | n => n,fun | 9 => 9 | 31 => 87 | 3 => 3 | 5 => 5 | 4 => 4 | 119 => 187 | 0 => 0 | 40 => 189 | 152 => 234 | 21 => 21 | 154 => 236 | 51 => 237 | 141 => 239 | 196 => 253 | 193 => 250 | 198 => 255 | 49 => 76 | 194 => 251 | 201 => 258 | 226 => 265 | 46 => 266 | 227 => 267 | n => n,fun | 0 => 0 | 6 => 2 | n => n⟩
theorem Tryz.lays157 : Go.Proofs.Lays.n157 Tryz.prog Tryz.lays157_ren := {
 mixed := by kernel_rfl
 f157 := Tryz.func107.trans (congrArg some (by kernel_rfl))
 f199 := Tryz.func129.trans (congrArg some (by kernel_rfl))
 f229 := Tryz.func128.trans (congrArg some (by kernel_rfl))
 f261 := Tryz.func158.trans (congrArg some (by kernel_rfl))
 f311 := Tryz.func182.trans (congrArg some (by kernel_rfl))
 f312 := Tryz.func183.trans (congrArg some (by kernel_rfl))
 t0 := Tryz.underlying0
 a0 := Tryz.isAgg0
 z0 := Tryz.sizeOf0
 v0 := Tryz.zeroValue0
 t3 := Tryz.underlying3
 a3 := Tryz.isAgg3
 z3 := Tryz.sizeOf3
 v3 := Tryz.zeroValue3
 t4 := Tryz.underlying4
 a4 := Tryz.isAgg4
 z4 := Tryz.sizeOf4
 v4 := Tryz.zeroValue4
 t5 := Tryz.underlying5
 a5 := Tryz.isAgg5
 z5 := Tryz.sizeOf5
 v5 := Tryz.zeroValue5
 t9 := Tryz.underlying9
 a9 := Tryz.isAgg9
 z9 := Tryz.sizeOf9
 v9 := Tryz.zeroValue9
 t21 := Tryz.underlying21
 a21 := Tryz.isAgg21
 z21 := Tryz.sizeOf21
 v21 := Tryz.zeroValue21
 t31 := Tryz.underlying87
 a31 := Tryz.isAgg87
 z31 := Tryz.sizeOf87
 v31 := Tryz.zeroValue87
 t40 := Tryz.underlying189
 a40 := Tryz.isAgg189
 z40 := Tryz.sizeOf189
 v40 := Tryz.zeroValue189
 t46 := Tryz.underlying266
 a46 := Tryz.isAgg266
 z46 := Tryz.sizeOf266
 v46 := Tryz.zeroValue266
 t49 := Tryz.underlying76
 a49 := Tryz.isAgg76
 z49 := Tryz.sizeOf76
 v49 := Tryz.zeroValue76
 t51 := Tryz.underlying237
 a51 := Tryz.isAgg237
 z51 := Tryz.sizeOf237
 v51 := Tryz.zeroValue237
 t119 := Tryz.underlying187
 a119 := Tryz.isAgg187
 z119 := Tryz.sizeOf187
 t141 := Tryz.underlying239
 a141 := Tryz.isAgg239
 z141 := Tryz.sizeOf239
 v141 := Tryz.zeroValue239
 t152 := Tryz.underlying234
 a152 := Tryz.isAgg234
 z152 := Tryz.sizeOf234
 v152 := Tryz.zeroValue234
 t154 := Tryz.underlying236
 a154 := Tryz.isAgg236
 z154 := Tryz.sizeOf236
 v154 := Tryz.zeroValue236
 t193 := Tryz.underlying250
 a193 := Tryz.isAgg250
 z193 := Tryz.sizeOf250
 v193 := Tryz.zeroValue250
 t194 := Tryz.underlying251
 a194 := Tryz.isAgg251
 z194 := Tryz.sizeOf251
 v194 := Tryz.zeroValue251
 t196 := Tryz.underlying253
 a196 := Tryz.isAgg253
 z196 := Tryz.sizeOf253
 v196 := Tryz.zeroValue253
 t198 := Tryz.underlying255
 a198 := Tryz.isAgg255
 z198 := Tryz.sizeOf255
 v198 := Tryz.zeroValue255
 t201 := Tryz.underlying258
 a201 := Tryz.isAgg258
 z201 := Tryz.sizeOf258
 v201 := Tryz.zeroValue258
 t226 := Tryz.underlying265
 a226 := Tryz.isAgg265
 z226 := Tryz.sizeOf265
 v226 := Tryz.zeroValue265
 t227 := Tryz.underlying267
 a227 := Tryz.isAgg267
 z227 := Tryz.sizeOf267
 v227 := Tryz.zeroValue267
 g0 := by kernel_rfl
 g6 := by kernel_rfl }
open Go.RowKit Go.Lib in
theorem Tryz.strings_Fields (s : ByteArray) (w : World) (hs : s.size < 4294967281) (hascii : ∀ (j : Nat) b,s.data.toList[j]? = some b → b.toNat < 128) (htab : Lib.TabIs Tryz.prog w "strings.asciiSpace" .u8 Lib.asciiSpaceTab) :
  Calls Tryz.prog 107 #[.string s] w fun e w' =>
   e = .returned (.slice (some ⟨w.heap.size,0,none⟩) (Lib.fields s.data.toList).length (Lib.fields s.data.toList).length) ∧ w' = w.alloc (.cells ((Lib.fields s.data.toList).map fun l => Value.string ⟨l.toArray⟩).toArray 9) := Any.strings_Fields Tryz.lays157 (by kernel_rfl) (by kernel_rfl) s w hs hascii htab
end Go.Proofs
namespace Go.Ev.Cl
open Go.Proofs
def impF : List Nat := [91,125,130,141,142,150,159,163,165,167,180,184]
def impC : List (Nat × Nat × Nat) := [(79,86,19),(117,118,8)]
def altF : List Nat := []
def altC : List (Nat × Nat) := []
def keepF : Nat → List Nat
 | 2 => []
 | 3 => [0,1,2,4,6,3,36,9,5,10,11,13,12,14,15,17,16,18,19,21,20,22,23,25,24,26,8]
 | 4 => [42,1,3,5,7,9,11,13,15,17,19,21,23,22,0]
 | 5 => [0,1,3,4,7,35,9,11,8,10,63,66,65,67,64,12,14,15,17,13,16,100,19,21,18,20,129,2,22,24,23,26,25,6]
 | 6 => [0,1,3,4,7,31,2,8,9,11,10,63,13,14,76,16,81,12,89,88,90,87,17,19,100,21,110,116,124,20,22,151,15,6]
 | 7 => [0,1,4,5,9,31,2,3,12,10,11,14,16,13,15,90,18,19,103,20,21,22,17,125,8]
 | 8 => [0,1,3,4,7,26,2,9,35,36,37,11,8,13,12,58,10,14,65,66,64,17,15,103,6]
 | 9 => [0,1,4,5,9,40,2,3,10,12,14,11,13,15,17,19,21,23,25,22,24,135,18,138,137,139,136,26,20,28,146,150,149,151,148,30,158,16,31,8]
 | 10 => [0,1,5,6,11,44,13,12,56,2,3,4,16,17,18,19,20,21,22,26,24,15,23,25,27,29,31,14,28,166,169,32,33,35,191,30,34,10]
 | 11 => [0,1,4,5,9,45,2,3,11,13,15,74,10,12,17,97,16,99,19,14,18,23,22,21,20,8]
 | 12 => [0,1,2,4,6,5,9,42,3,10,11,13,15,72,19,88,17,14,12,18,21,20,126,130,129,131,128,23,139,16,8]
 | 13 => [0,1,2,3,4,5,24,23,25,22,9,34,7,11,13,15,17,10,12,96,14,16,6]
 | 14 => [0,1,2,3,4,5,7,34,9,13,11,71,73,8,12,85,84,86,83,14,16,97,98,10,109,123,140,6]
 | 15 => [0,1,9,3,14,24,4,33,46,5,58,74,2]
 | 16 => [0,1,2]
 | 17 => [0,6,3,10,17,2]
 | 18 => [0,4,1,11,6,29,5,3,2]
 | 19 => [0,1,2,3,4,8,17,5,9,23,11,33,12,39,45,51,6,7]
 | 20 => [0,1,2,3,4,8,14,5,18,23,9,29,35,41,6,7]
 | 21 => [0,1,2,6,14,3,7,20,26,25,27,24,8,10,4,5]
 | 22 => [0,1,2,6,20,3,24,11,7,9,13,52,16,14,67,78,12,15,4,5]
 | 23 => [0,1,3,4,8,23,2,9,28,10,36,35,37,34,11,13,45,44,46,43,15,54,53,55,52,18,60,16,6,7]
 | 24 => [0,1,3,4,9,22,2,10,27,12,8,32,14,38,13,54,11,6,7]
 | 25 => [0,4,10,14,13,15,6,24,5,2,3]
 | 26 => [0,4,12,6,17,8,22,7,37,5,2,3]
 | 27 => [0,1,10,5,14,25,4]
 | 28 => [0,1,10,5,14,25,4]
 | 29 => [0,1,2,3,15,5,20,6,7,46,8,51,65,4]
 | 30 => [0,1,10,5,14,25,4]
 | 31 => [3,2,1,4,6,5,8,7,10,9,12,11,14,13,16,15,0]
 | 32 => [0,1,5,12,11,2,3,4,10]
 | 33 => [0,1,2,6]
 | 34 => [0]
 | 35 => [0,1,2,3,4,5,9,21,6,8,25,31,30,32,29,12,56,58,59,10,65,7]
 | 36 => [0]
 | 37 => [0,1,2,3,4,8,15,6,5,10,25,7]
 | 38 => [0,2]
 | 39 => [0,1,2,3,4,5,10,18,6,12,27,7,36,13,11,40,8,9]
 | 40 => [0,1,2,3,6,12,4,5]
 | 41 => [0,1,5,2]
 | 42 => [0,1,2,3,4]
 | 43 => [0,1,2,3,6,11,4,5]
 | 44 => [0,1,5,13,4,16,17,18,6,2,3]
 | 45 => [0,1,2,7,16,4,5,6,20,21,22,8,3,25,9]
 | 46 => [0,1,2,7,14,6,3,19,4,5]
 | 47 => [0,2,7,6,20,4,1,8,9,5]
 | 48 => [0,1,4,6,2]
 | 49 => [0,1,15,14,16,13,5,20,3,2]
 | 50 => [0,2,1,9,8,20,10,29,6,7,4,5]
 | 51 => [0,7,9,11,10,5,14,3,2]
 | 52 => [0,7,9,8,5,4,17,3,2]
 | 53 => [0,1,2,4,3]
 | 54 => [0,2,7,14,1,18,6,4,5]
 | 55 => [1,0,9,8,10,7,6,3,15,4]
 | 56 => [0,1,12,3,17,4,35,5,38,49,6,54,64,7,72,84,2]
 | 57 => [0,1,7,3,12,22,2]
 | 58 => [0,1,3,18,5,23,2,6,34,70,7,75,8,86,96,4]
 | 59 => [0,1,2,3,7,15,4,6,5]
 | 60 => [0,1,2,3,4,9,19,8,5,24,28,27,29,26,11,40,6,7]
 | 61 => [0,1,2,3,9,19,4]
 | 62 => [0,1,2,3,6,5,4]
 | 63 => [0,1,2,5,9,3,4]
 | 64 => [0,7,6,8,5,4,26,2]
 | 65 => [0,1,2,3,4,5,7,6]
 | 66 => [0,1,2,5,9,3,4]
 | 67 => [0,1,2,3,5,8,9,7,13,38,14,45,15,4,12,62,10,11,18,105,107,114,17,16,121,6]
 | 68 => [0,1,4,2]
 | 69 => [0,1,2,10,9,11,5,3,6,4]
 | 70 => [0,1,3,5,2,6,28,27,29,8,40,7,4]
 | 71 => [0,1,5,2]
 | 72 => [0,8,11,5,16,22,4,6,42,50,2,3]
 | 73 => [0,1,10,5,14,25,4]
 | 74 => [0,5,2]
 | 75 => [0,1,2,3,13,12,14,11,7,20,19,21,5,8,4]
 | 76 => [0,1,2,3,6,14,9,8,21,7,4,5]
 | 77 => [0,6,3,10,18,2]
 | 78 => [1,0,3,4]
 | 79 => [0,1,2,7,16,4,5,6,19,20,21,9,3,24,8]
 | 80 => [0,8,7,9,6,5,3,14,2]
 | 81 => [0,1,4]
 | 82 => [0,1,2,3,4]
 | 83 => [0,1,2]
 | 84 => [0,1,2]
 | 85 => [0,1,6,2,3]
 | 86 => [0,1,2]
 | 87 => [0,1,3,2,4]
 | 88 => [0,1,3,2,13,5,27,4]
 | 89 => [3,0,7,19,2]
 | 90 => [0,9,12,11,13,3,24,2]
 | 91 => [0,1,8,9,10,3,5,4,2]
 | 92 => [0,1,2,6]
 | 93 => [0,1,2,3,6,15,17,18,5,32,45,4]
 | 94 => [0,1,4,2,3,11,10,27,33,13,5,42,14,68,71,9,12,80,8]
 | 95 => [0,1,2,7,14,4,6,3,20,5]
 | 96 => [0,1,2,15,14,16,13,5,7,29,30,31,8,10,9,3,4]
 | 97 => [0,1,3,2,28,4,5]
 | 98 => [0,2]
 | 99 => [0,5,2,8,10,11,3,14]
 | 100 => [0,1,4,3,2,21,20,22,19,9,28,27,29,26,7,11,8,10,6]
 | 101 => [0,2,1,5,4]
 | 102 => [1,0,8,7,9,3,5,16,4]
 | 103 => [0,1,5,2]
 | 104 => [1,0,5,3,11,4]
 | 105 => [0,4,11,3,2]
 | 106 => [4,0,8,12,3,2]
 | 107 => [6,0,16,5,7,3,4,8,37,12,53,60,66,9,10,11,91,98,2]
 | 108 => [0,11,10,12,9,3,5,20,27,26,28,25,6,8,2]
 | 109 => [0,1,10,13,12,14,5,24,4]
 | 110 => [0,4,1,11,5,22,6,36,3,2]
 | 111 => [1,0,8,7,9,3,5,16,4]
 | 112 => [0,1,4]
 | 113 => [0,1,5,11,6,12,13,16,19,4]
 | 114 => [0,1,9,8,10,7,6,2,22,4]
 | 115 => [0,1,2,6]
 | 116 => [0,1,11,15,14,16,13,4,3,38,2]
 | 117 => [0,1,8,9,10,4,13,12,14,11,5,3,2,6,24]
 | 118 => [0,1,2]
 | 119 => [1,0,4]
 | 120 => [0,1,9,8,10,7,6,2,22,4]
 | 121 => [0,1,3,2,30,35,36,37,5,7,4]
 | 122 => [0,1,15,14,16,13,6,8,9,5,4]
 | 123 => [1,0,11,10,12,9,7,8,3,24,5,4]
 | 124 => [0,1,12,21,6,34,5,4]
 | 125 => [0,1,4]
 | 126 => [0,2,1,5,4]
 | 127 => [0,12,13,15,1,22,29,5,41,40,42,39,7,49,8,65,64,66,63,10,4]
 | 128 => [0,14,16,15,1,8,21,6,23,5,7,33,36,49,48,50,47,9,10,11,4]
 | 129 => [0,5,6,7,2]
 | 130 => [1,6,0,16,4]
 | 132 => [0,2]
 | 133 => [0,2]
 | 134 => [1,0,3,4]
 | 135 => [0,12,15,14,16,4,25,31,30,32,29,6,37,3,2]
 | 136 => [1,10,9,11,8,4,18,17,19,0,3,5,31]
 | 137 => [0,1,12,11,13,10,2,7,8,5,42,4]
 | 138 => [3,0,9,4,5,38,2]
 | 139 => [0,2]
 | 140 => [0]
 | 141 => [0,2,1,4]
 | 142 => [0,2,1,4]
 | 143 => [0,1,13,4]
 | 144 => [0,1,16,4]
 | 145 => [4,0,9,5,16,2,3]
 | 146 => [0,7,1,12,4]
 | 147 => [0,7,1,15,4]
 | 148 => [0,9,1,5,18,6,4]
 | 149 => [0,9,5,17,1,26,6,4]
 | 150 => [0,1,2,4,3,5,6]
 | 151 => [0]
 | 152 => [1,0,8,9,6,3,7,5,17,4]
 | 153 => [0,1,3,2,4]
 | 154 => [0,1,3,4,10,2,5]
 | 155 => [0,1,7,21]
 | 156 => [0,1,4,5]
 | 157 => [0,2]
 | 158 => [0,5,6,1,32,7,54,4]
 | 159 => [0,1,4]
 | 160 => [0,2,1,3]
 | 161 => [0,1,2,3,4]
 | 162 => [1,3,0,4]
 | 163 => [0,2,4]
 | 164 => [1,0,3,4]
 | 165 => [0,2,1,4]
 | 166 => [1,3,0,4]
 | 167 => [0,2,1,4]
 | 168 => [0,1,4]
 | 169 => [0,10,2,3]
 | 170 => [0,1,4]
 | 171 => [0,4,10,5,2,18,6,27,33,35,3,48]
 | 172 => [1,11,2,14,0,6,25,7,33,3,8,42]
 | 173 => [0,1,4]
 | 174 => [0,1,2,3,4]
 | 175 => [0,1,2,3,4]
 | 176 => [0,1,2,3,9,4]
 | 177 => [0,1,2]
 | 178 => [1,10,9,11,4,2,5,28,27,29,7,32,6,46,0,53]
 | 179 => [0,6,1,4]
 | 180 => [0,6,19]
 | 181 => [0,1,4]
 | 182 => [0,1,17,20,19,21,5,6,31,37,7,8,62,9,10,85,110,4]
 | 183 => [0,13,16,15,17,5,1,6,27,33,7,8,58,9,10,78,95,4]
 | 184 => [0,8,7,9,1,5,16,4]
 | 185 => [0,4,16,5,6,23,7,8,45,10,9,57,59,11,75,77,12,98,2,3]
 | 186 => [1,160,0,171,175,177,176,6,181,5,183,7,8,9,26,33,11,43,12,51,64,10,98,13,108,124,14,15,139,16,143,156,4]
 | 187 => [0,2]
 | 188 => [1,5,0,16,24,31,36,8,9,59,6,64,11,73,7,93,10,107,12,114,132,13,139,4]
 | 191 => [0,1,4]
 | 192 => [0,3,10,2]
 | 193 => [0,2]
 | 195 => [0,1,4]
 | 196 => [1,9,7,20,8,0,5,39,10,44,6,77,4]
 | 198 => [5,0,12,4,8,25,30,6,7,2,3]
 | 226 => []
 | _ => []
def isImp (me f : Nat) (d : Option Nat) : Bool := impF.any (Nat.beq f) || impC.any fun t => Nat.beq t.1 me && Nat.beq t.2.1 f && (match d with | some d => Nat.beq t.2.2 d | none => false)
noncomputable def CC : Cfg := { P := Tryz.prog,pure := fun me f d => !(isImp me f d),alter := fun me d => altF.any (Nat.beq me) || (match d with | some d => altC.any fun t => Nat.beq t.1 me && Nat.beq t.2 d | none => false),keep := keepF,ext := fun f' => if Nat.beq f' 107 then some fieldsA else if Nat.beq f' 127 then some joinStr else if Nat.beq f' 197 then some idxStr else if Nat.beq f' 131 then some cmpStr else none }
theorem mixedC : CC.P.follows .mixedOrders = true := by show Tryz.prog.follows .mixedOrders = true;kernel_rfl
theorem nogo_allC : (Tryz.prog.funcs.toList.all fun fn => !(fn.body.isSome && (fn.name == "runtime.NumGoroutine"))) = true := by kernel_rfl
theorem nogoC : NoGo CC.P := by
 intro f fn hf hb
 have h := List.all_eq_true.1 nogo_allC fn (by
  have : Tryz.prog.funcs[f]? = some fn := hf
  exact List.mem_of_getElem? (by simpa using this))
 rw [hb] at h
 simpa using h
theorem extOKZ : ExtOK { CC with ext := fun _ => none,exh := fun _ => none } := by
 exact ⟨fun _ _ h => (nomatch h),fun _ _ h => (nomatch h),fun _ _ h => (nomatch h)⟩
theorem extOKN : ExtOK (CC.more fun _ => none) := extOKZ
theorem extOKE0 : ExtOK (CC.more (fun f' => if Nat.beq f' 131 then some cmpStr else none)) := by
 refine extOK_more (C := CC.more (fun _ => none)) (f := 131) (g := cmpStr) rfl ?_ extOKN rfl
 intro args v h Z ρ H w vals hs hl
 exact ext_cmp (fn := Tryz.f131) Tryz.func131 (by kernel_rfl) (by kernel_rfl) (by kernel_rfl) (by kernel_rfl) h Z ρ H w vals hs hl
theorem extOKE1 : ExtOK (CC.more (fun f' => if Nat.beq f' 197 then some idxStr else if Nat.beq f' 131 then some cmpStr else none)) := by
 refine extOK_more (C := CC.more (fun f' => if Nat.beq f' 131 then some cmpStr else none)) (f := 197) (g := idxStr) rfl ?_ extOKE0 rfl
 intro args v h Z ρ H w vals hs hl
 exact ext_idx (fn := Tryz.f197) Tryz.func197 (by kernel_rfl) (by kernel_rfl) (by kernel_rfl) (by kernel_rfl) h Z ρ H w vals hs hl
theorem extOKE2 : ExtOK (CC.more (fun f' => if Nat.beq f' 127 then some joinStr else if Nat.beq f' 197 then some idxStr else if Nat.beq f' 131 then some cmpStr else none)) := by
 refine extOK_more (C := CC.more (fun f' => if Nat.beq f' 197 then some idxStr else if Nat.beq f' 131 then some cmpStr else none)) (f := 127) (g := joinStr) rfl ?_ extOKE1 rfl
 intro args v h Z ρ H w vals hs hl
 exact ext_join Go.Proofs.Tryz.lays156 Go.Proofs.Tryz.Builder_Extra_156 (f := 127) rfl ⟨_,Tryz.func127,by kernel_rfl,by kernel_rfl⟩ h Z ρ H w vals hs hl
theorem extOKE3 : ExtOK (CC.more (fun f' => if Nat.beq f' 107 then some fieldsA else if Nat.beq f' 127 then some joinStr else if Nat.beq f' 197 then some idxStr else if Nat.beq f' 131 then some cmpStr else none)) := by
 refine extOK_more (C := CC.more (fun f' => if Nat.beq f' 127 then some joinStr else if Nat.beq f' 197 then some idxStr else if Nat.beq f' 131 then some cmpStr else none)) (f := 107) (g := fieldsA) rfl ?_ extOKE2 rfl
 intro args v h Z ρ H w vals hs hl
 exact ext_fields Go.Proofs.Tryz.lays157 (by kernel_rfl) (by kernel_rfl) (List.mem_singleton.2 rfl) (f := 107) rfl ⟨_,Tryz.func107,by kernel_rfl,by kernel_rfl⟩ h Z ρ H w vals hs hl
theorem extOKC : ExtOK CC := extOKE3
abbrev Good (t : Tell) : Prop := GoodC CC t
theorem good {t : Tell} (T : List Tell) (hT : AllG CC T) (TH : List TellH) (hH : AllH CC TH) (h : ansC (evT (CC.more2 (tabExt CC.ext T) (tabExh CC.exh T TH)) 1000 (.call t.f t.K { objs := [],lock := 0 })) = some t.R) (hb : boundL t.K = 0) : Good t :=
 goodC nogoC mixedC extOKC T hT TH hH 1000 h hb
end Go.Ev.Cl
namespace Go.Ev.Cl
def q0 : AV := .v (.string ⟨⟨[116,104,101]⟩⟩)
def q1 : AV := .v (.string ⟨⟨[115,101,97]⟩⟩)
def q2 : AV := .v (.string ⟨⟨[105,115]⟩⟩)
def q3 : AV := .v (.string ⟨⟨[111,108,100]⟩⟩)
def q4 : AV := .vs 1 [q0,q1,q2,q3] (some 4)
def q5 : AV := .vs 1 [q3,q0,q1] (some 3)
def q6 : AV := .vs 1 [q4,q5] (some 2)
def q7 : AV := .v (.string ⟨⟨[97,110,100]⟩⟩)
def q8 : AV := .vs 1 [q1,q7,q1] (some 3)
def q9 : AV := .vs 1 [q8] (some 1)
def q10 : AV := .v (.int .i64 7)
def q11 : AV := .v (.int .i64 3)
def q12 : AV := .agg [.vs 2 [.agg [q10,q6],.agg [q11,q9]] (some 2)]
def q13 : AV := .v (.int .i64 0)
def q14 : AV := .tup [q12,q13]
def q15 : AV := .v (.int .i64 14)
def q16 : AV := .v (.int .u8 3)
def q17 : AV := .agg [q15,q16]
def q18 : AV := .vs 1 [q0,q1,q2,q3,q3,q0,q1] none
def q19 : AV := .agg [q13,q13,q13]
def q20 : AV := .v (.int .i64 1)
def q21 : AV := .agg [q13,q13,q20]
def q22 : AV := .v (.int .i64 2)
def q23 : AV := .agg [q13,q13,q22]
def q24 : AV := .agg [q13,q13,q11]
def q25 : AV := .agg [q13,q20,q13]
def q26 : AV := .agg [q13,q20,q20]
def q27 : AV := .agg [q13,q20,q22]
def q28 : AV := .vs 3 [q19,q21,q23,q24,q25,q26,q27] none
def q29 : AV := .agg [q15,q16,q18,q28]
def q30 : AV := .vs 1 [q1,q7,q1] none
def q31 : AV := .agg [q20,q13,q13]
def q32 : AV := .agg [q20,q13,q20]
def q33 : AV := .agg [q20,q13,q22]
def q34 : AV := .vs 3 [q31,q32,q33] none
def q35 : AV := .agg [q15,q16,q30,q34]
def q36 : AV := .agg [q13,q11,q15]
def q37 : AV := .v (.string ⟨⟨[]⟩⟩)
def q38 : AV := .v (.string ⟨⟨[115,101,97,32,105,115,32,111,108,100]⟩⟩)
def q39 : AV := .agg [q13,q13,q13,q0,q37,q38]
def q40 : AV := .agg [q20,q22,q15]
def q41 : AV := .v (.string ⟨⟨[105,115,32,111,108,100]⟩⟩)
def q42 : AV := .agg [q13,q13,q20,q1,q0,q41]
def q43 : AV := .agg [q22,q20,q15]
def q44 : AV := .v (.string ⟨⟨[111,108,100,32,111,108,100]⟩⟩)
def q45 : AV := .agg [q13,q13,q22,q2,q1,q44]
def q46 : AV := .agg [q11,q13,q15]
def q47 : AV := .v (.string ⟨⟨[111,108,100,32,116,104,101]⟩⟩)
def q48 : AV := .agg [q13,q13,q11,q3,q2,q47]
def q49 : AV := .v (.int .i64 11)
def q50 : AV := .agg [q20,q20,q49]
def q51 : AV := .agg [q13,q22,q49]
def q52 : AV := .v (.int .i64 4)
def q53 : AV := .agg [q13,q20,q13,q3,q41,q0]
def q54 : AV := .agg [q22,q13,q49]
def q55 : AV := .v (.int .i64 5)
def q56 : AV := .v (.string ⟨⟨[105,115,32,111,108,100,32,111,108,100]⟩⟩)
def q57 : AV := .agg [q13,q20,q20,q0,q56,q37]
def q58 : AV := .v (.int .i64 6)
def q59 : AV := .agg [q13,q20,q22,q1,q47,q37]
def q60 : AV := .v (.string ⟨⟨[97,110,100,32,115,101,97]⟩⟩)
def q61 : AV := .agg [q20,q13,q13,q1,q37,q60]
def q62 : AV := .agg [q20,q13,q20,q7,q1,q1]
def q63 : AV := .v (.string ⟨⟨[115,101,97,32,97,110,100]⟩⟩)
def q64 : AV := .agg [q20,q13,q22,q1,q63,q37]
def q65 : AV := .vs 6 [q39,q42,q45,q48,q53,q57,q59,q61,q62,q64] none
def q66 : AV := .vs 6 [q59,q61] none
def q67 : AV := .v (.string ⟨⟨[97,98,99,100,101,102,103,104,105,106,107,108,109,110,111,112,113,114,115,116,117,118,119,120,121,122]⟩⟩)
def q68 : AV := .agg [q13,q13,q13,q1,q0,q37]
def q69 : AV := .v (.int .u8 0)
def q70 : AV := .agg [q13,q69]
def q71 : AV := .agg [q13,q69,q18,q28]
def q72 : AV := .agg [q13,q69,q30,q34]
def q73 : AV := .vs 3 [q21,q27] none
def q74 : AV := .v (.string ⟨⟨[99,111,108,100]⟩⟩)
def q75 : AV := .agg [q13,q13,q11,q16,q74]
def q76 : AV := .v (.int .u8 1)
def q77 : AV := .agg [q13,q20,q20,q76,q37]
def q78 : AV := .agg [q20,q13,q11]
def q79 : AV := .v (.string ⟨⟨[115,97,108,116]⟩⟩)
def q80 : AV := .agg [q20,q13,q11,.v (.int .u8 2),q79]
def q81 : AV := .vs 5 [q75,q77,q80] (some 3)
def q82 : AV := .v (.int .i64 (-1))
def q83 : AV := .vs 5 [q75] none
def q84 : AV := .vs 1 [q0,q1,q2,q74] none
def q85 : AV := .vs 5 [q77] none
def q86 : AV := .vs 1 [q3,q1] none
def q87 : AV := .vs 5 [q80] none
def q88 : AV := .vs 1 [q1,q7,q1,q79] none
def q89 : AV := .agg [q52,q81]
def q90 : AV := .v (.string ⟨⟨[97]⟩⟩)
def q91 : AV := .v (.string ⟨⟨[98]⟩⟩)
def q92 : AV := .agg [q13,q13,q13,q90,q37,q37]
def q93 : AV := .agg [q13,q13,q13,q91,q37,q37]
def q94 : AV := .agg [q13,q13,q22,q2,q1,q3]
def q95 : AV := .vs 6 [q92,q92] (some 2)
def q96 : AV := .agg [q15,q76]
def q97 : AV := .agg [q15,q76,q18,q28]
def q98 : AV := .agg [q13,q20,q13,q3,q38,q37]
def t0 : Tell := ⟨90,[q0],(.v (.bool true))⟩
def t1 : Tell := ⟨90,[q1],(.v (.bool true))⟩
def t2 : Tell := ⟨90,[q2],(.v (.bool true))⟩
def t3 : Tell := ⟨90,[q3],(.v (.bool true))⟩
def t4 : Tell := ⟨135,[q6],(.v (.bool true))⟩
def t5 : Tell := ⟨90,[q7],(.v (.bool true))⟩
def t6 : Tell := ⟨135,[q9],(.v (.bool true))⟩
def t7 : Tell := ⟨116,[q12],(.v (.bool true))⟩
def t8 : Tell := ⟨85,[q12],q14⟩
def t9 : Tell := ⟨68,[q12],q13⟩
def t10 : Tell := ⟨83,[q17],(.v (.bool true))⟩
def t11 : Tell := ⟨41,[q17],q13⟩
def t12 : Tell := ⟨63,[q12,q17],q13⟩
def t13 : Tell := ⟨100,[q12,q17,q13],q29⟩
def t14 : Tell := ⟨100,[q12,q17,q20],q35⟩
def t15 : Tell := ⟨69,[q12,q17],(.vs 4 [q29,q35] none)⟩
def t16 : Tell := ⟨126,[q29,q13],q36⟩
def t17 : Tell := ⟨101,[q29,q13],q39⟩
def t18 : Tell := ⟨176,[q40,q36],(.v (.bool true))⟩
def t19 : Tell := ⟨126,[q29,q20],q40⟩
def t20 : Tell := ⟨101,[q29,q20],q42⟩
def t21 : Tell := ⟨176,[q43,q40],(.v (.bool false))⟩
def t22 : Tell := ⟨126,[q29,q22],q40⟩
def t23 : Tell := ⟨101,[q29,q22],q45⟩
def t24 : Tell := ⟨176,[q46,q40],(.v (.bool false))⟩
def t25 : Tell := ⟨126,[q29,q11],q40⟩
def t26 : Tell := ⟨101,[q29,q11],q48⟩
def t27 : Tell := ⟨176,[q50,q51],(.v (.bool true))⟩
def t28 : Tell := ⟨176,[q46,q43],(.v (.bool false))⟩
def t29 : Tell := ⟨126,[q29,q52],q43⟩
def t30 : Tell := ⟨101,[q29,q52],q53⟩
def t31 : Tell := ⟨176,[.agg [q20,q13,q10],.agg [q13,q20,q10]],(.v (.bool false))⟩
def t32 : Tell := ⟨176,[q54,q50],(.v (.bool false))⟩
def t33 : Tell := ⟨126,[q29,q55],q46⟩
def t34 : Tell := ⟨101,[q29,q55],q57⟩
def t35 : Tell := ⟨126,[q29,q58],q54⟩
def t36 : Tell := ⟨101,[q29,q58],q59⟩
def t37 : Tell := ⟨126,[q35,q13],q51⟩
def t38 : Tell := ⟨101,[q35,q13],q61⟩
def t39 : Tell := ⟨126,[q35,q20],q50⟩
def t40 : Tell := ⟨101,[q35,q20],q62⟩
def t41 : Tell := ⟨126,[q35,q22],q54⟩
def t42 : Tell := ⟨101,[q35,q22],q64⟩
def t43 : Tell := ⟨75,[q12,q17],q65⟩
def t44 : Tell := ⟨43,[q12,q17],(.tup [q65,q13])⟩
def t45 : Tell := ⟨79,[q12,q27],(.tup [q58,q13])⟩
def t46 : Tell := ⟨79,[q12,q31],(.tup [q10,q13])⟩
def t47 : Tell := ⟨39,[q12,q17,q27,q31],(.tup [q66,q13])⟩
def t48 : Tell := ⟨145,[q67],(.tup [.agg [.v (.bool false),.v (.bool false),.v (.bool false),.v (.bool false),.v (.bool false),.v (.bool false),.v (.bool false),.v (.bool false),.v (.bool false),.v (.bool false),.v (.bool false),.v (.bool false),.v (.bool false),.v (.bool false),.v (.bool false),.v (.bool false),.v (.bool false),.v (.bool false),.v (.bool false),.v (.bool false),.v (.bool false),.v (.bool false),.v (.bool false),.v (.bool false),.v (.bool false),.v (.bool false),.v (.bool false),.v (.bool false),.v (.bool false),.v (.bool false),.v (.bool false),.v (.bool false),.v (.bool false),.v (.bool false),.v (.bool false),.v (.bool false),.v (.bool false),.v (.bool false),.v (.bool false),.v (.bool false),.v (.bool false),.v (.bool false),.v (.bool false),.v (.bool false),.v (.bool false),.v (.bool false),.v (.bool false),.v (.bool false),.v (.bool false),.v (.bool false),.v (.bool false),.v (.bool false),.v (.bool false),.v (.bool false),.v (.bool false),.v (.bool false),.v (.bool false),.v (.bool false),.v (.bool false),.v (.bool false),.v (.bool false),.v (.bool false),.v (.bool false),.v (.bool false),.v (.bool false),.v (.bool false),.v (.bool false),.v (.bool false),.v (.bool false),.v (.bool false),.v (.bool false),.v (.bool false),.v (.bool false),.v (.bool false),.v (.bool false),.v (.bool false),.v (.bool false),.v (.bool false),.v (.bool false),.v (.bool false),.v (.bool false),.v (.bool false),.v (.bool false),.v (.bool false),.v (.bool false),.v (.bool false),.v (.bool false),.v (.bool false),.v (.bool false),.v (.bool false),.v (.bool false),.v (.bool false),.v (.bool false),.v (.bool false),.v (.bool false),.v (.bool false),.v (.bool false),.v (.bool true),.v (.bool true),.v (.bool true),.v (.bool true),.v (.bool true),.v (.bool true),.v (.bool true),.v (.bool true),.v (.bool true),.v (.bool true),.v (.bool true),.v (.bool true),.v (.bool true),.v (.bool true),.v (.bool true),.v (.bool true),.v (.bool true),.v (.bool true),.v (.bool true),.v (.bool true),.v (.bool true),.v (.bool true),.v (.bool true),.v (.bool true),.v (.bool true),.v (.bool true),.v (.bool false),.v (.bool false),.v (.bool false),.v (.bool false),.v (.bool false),.v (.bool false),.v (.bool false),.v (.bool false),.v (.bool false),.v (.bool false),.v (.bool false),.v (.bool false),.v (.bool false),.v (.bool false),.v (.bool false),.v (.bool false),.v (.bool false),.v (.bool false),.v (.bool false),.v (.bool false),.v (.bool false),.v (.bool false),.v (.bool false),.v (.bool false),.v (.bool false),.v (.bool false),.v (.bool false),.v (.bool false),.v (.bool false),.v (.bool false),.v (.bool false),.v (.bool false),.v (.bool false),.v (.bool false),.v (.bool false),.v (.bool false),.v (.bool false),.v (.bool false),.v (.bool false),.v (.bool false),.v (.bool false),.v (.bool false),.v (.bool false),.v (.bool false),.v (.bool false),.v (.bool false),.v (.bool false),.v (.bool false),.v (.bool false),.v (.bool false),.v (.bool false),.v (.bool false),.v (.bool false),.v (.bool false),.v (.bool false),.v (.bool false),.v (.bool false),.v (.bool false),.v (.bool false),.v (.bool false),.v (.bool false),.v (.bool false),.v (.bool false),.v (.bool false),.v (.bool false),.v (.bool false),.v (.bool false),.v (.bool false),.v (.bool false),.v (.bool false),.v (.bool false),.v (.bool false),.v (.bool false),.v (.bool false),.v (.bool false),.v (.bool false),.v (.bool false),.v (.bool false),.v (.bool false),.v (.bool false),.v (.bool false),.v (.bool false),.v (.bool false),.v (.bool false),.v (.bool false),.v (.bool false),.v (.bool false),.v (.bool false),.v (.bool false),.v (.bool false),.v (.bool false),.v (.bool false),.v (.bool false),.v (.bool false),.v (.bool false),.v (.bool false),.v (.bool false),.v (.bool false),.v (.bool false),.v (.bool false),.v (.bool false),.v (.bool false),.v (.bool false),.v (.bool false),.v (.bool false),.v (.bool false),.v (.bool false),.v (.bool false),.v (.bool false),.v (.bool false),.v (.bool false),.v (.bool false),.v (.bool false),.v (.bool false),.v (.bool false),.v (.bool false),.v (.bool false),.v (.bool false),.v (.bool false),.v (.bool false),.v (.bool false),.v (.bool false),.v (.bool false),.v (.bool false),.v (.bool false),.v (.bool false),.v (.bool false),.v (.bool false),.v (.bool false),.v (.bool false),.v (.bool false),.v (.bool false),.v (.bool false)],.v (.bool true)])⟩
def t49 : Tell := ⟨124,[q1,q67],q37⟩
def t50 : Tell := ⟨98,[q1],(.v (.bool true))⟩
def t51 : Tell := ⟨124,[q0,q67],q37⟩
def t52 : Tell := ⟨98,[q0],(.v (.bool true))⟩
def t53 : Tell := ⟨99,[q0],(.v (.bool true))⟩
def t54 : Tell := ⟨99,[q37],(.v (.bool true))⟩
def t55 : Tell := ⟨64,[.vs 6 [q68] (some 1)],q13⟩
def t56 : Tell := ⟨100,[q12,q70,q13],q71⟩
def t57 : Tell := ⟨100,[q12,q70,q20],q72⟩
def t58 : Tell := ⟨69,[q12,q70],(.vs 4 [q71,q72] none)⟩
def t59 : Tell := ⟨108,[.vs 1 [.vs 1 [q0] (some 1),.vs 1 [q1] (some 1),.vs 1 [] (some 0)] (some 3)],(.vs 1 [q0,q1] none)⟩
def t60 : Tell := ⟨70,[q71,q68],q73⟩
def t61 : Tell := ⟨70,[q72,q68],(.v (.slice none 0 0))⟩
def t62 : Tell := ⟨21,[q12,q68],(.tup [q73,q13])⟩
def t63 : Tell := ⟨88,[q12,q24],q4⟩
def t64 : Tell := ⟨90,[q74],(.v (.bool true))⟩
def t65 : Tell := ⟨166,[q4,q75],(.v (.bool true))⟩
def t66 : Tell := ⟨88,[q12,q26],q5⟩
def t67 : Tell := ⟨162,[q5,q77],(.v (.bool true))⟩
def t68 : Tell := ⟨88,[q12,q78],q8⟩
def t69 : Tell := ⟨90,[q79],(.v (.bool true))⟩
def t70 : Tell := ⟨164,[q8,q80],(.v (.bool true))⟩
def t71 : Tell := ⟨137,[q12,q81],(.v (.bool true))⟩
def t72 : Tell := ⟨161,[q24,q26],q82⟩
def t73 : Tell := ⟨161,[q26,q78],q82⟩
def t74 : Tell := ⟨138,[q81],(.v (.bool true))⟩
def t75 : Tell := ⟨123,[q81,q19],q83⟩
def t76 : Tell := ⟨122,[q4,q83],q84⟩
def t77 : Tell := ⟨123,[q81,q25],q85⟩
def t78 : Tell := ⟨122,[q5,q85],q86⟩
def t79 : Tell := ⟨123,[q81,q31],q87⟩
def t80 : Tell := ⟨122,[q8,q87],q88⟩
def t81 : Tell := ⟨96,[q12,q89],(.agg [.vs 2 [.agg [q10,.vs 1 [q84,q86] none],.agg [q11,.vs 1 [q88] none]] none])⟩
def t82 : Tell := ⟨121,[q12,q89],(.v (.bool true))⟩
def t83 : Tell := ⟨95,[q12,q89],q14⟩
def t84 : Tell := ⟨88,[q12,q27],q5⟩
def t85 : Tell := ⟨87,[q12,q27],(.v (.bool true))⟩
def t86 : Tell := ⟨60,[q12,q89,q27],(.tup [q1,q13])⟩
def t87 : Tell := ⟨35,[q12,q89,q27],(.tup [q26,q13])⟩
def t88 : Tell := ⟨124,[q3,q67],q37⟩
def t89 : Tell := ⟨98,[q3],(.v (.bool true))⟩
def t90 : Tell := ⟨99,[q47],(.v (.bool true))⟩
def t91 : Tell := ⟨124,[q7,q67],q37⟩
def t92 : Tell := ⟨98,[q7],(.v (.bool true))⟩
def t93 : Tell := ⟨99,[q60],(.v (.bool true))⟩
def t94 : Tell := ⟨64,[q66],q13⟩
def t95 : Tell := ⟨74,[q66],q13⟩
def t96 : Tell := ⟨23,[q12,q17,q66],(.tup [.vs 3 [q19,q21,q23,q24,q25,q26,q32,q33] none,q13])⟩
def t97 : Tell := ⟨124,[q90,q67],q37⟩
def t98 : Tell := ⟨98,[q90],(.v (.bool true))⟩
def t99 : Tell := ⟨124,[q91,q67],q37⟩
def t100 : Tell := ⟨98,[q91],(.v (.bool true))⟩
def t101 : Tell := ⟨64,[.vs 6 [q92,q93] (some 2)],q13⟩
def t102 : Tell := ⟨82,[q19,q19],q13⟩
def t103 : Tell := ⟨40,[q92,q93],(.tup [q82,q13])⟩
def t104 : Tell := ⟨124,[q2,q67],q37⟩
def t105 : Tell := ⟨98,[q2],(.v (.bool true))⟩
def t106 : Tell := ⟨99,[q1],(.v (.bool true))⟩
def t107 : Tell := ⟨99,[q3],(.v (.bool true))⟩
def t108 : Tell := ⟨64,[.vs 6 [q94] (some 1)],q13⟩
def t109 : Tell := ⟨88,[q12,q23],q4⟩
def t110 : Tell := ⟨87,[q12,q23],(.v (.bool true))⟩
def t111 : Tell := ⟨46,[q12,q23],(.tup [q2,q13])⟩
def t112 : Tell := ⟨102,[q28,q23],q22⟩
def t113 : Tell := ⟨65,[q12,q17,q23],q45⟩
def t114 : Tell := ⟨19,[q12,q17,q94],(.tup [.v (.int .u8 4),q13])⟩
def t115 : Tell := ⟨64,[q95],q13⟩
def t116 : Tell := ⟨74,[q95],q13⟩
def t117 : Tell := ⟨25,[q95],(.tup [.vs 1 [q20] none,q13])⟩
def t118 : Tell := ⟨37,[q12,q17,q23],(.tup [q45,q13])⟩
def t119 : Tell := ⟨32,[q23,q16,q2,q1,q44],(.v (.bool true))⟩
def t120 : Tell := ⟨83,[q96],(.v (.bool true))⟩
def t121 : Tell := ⟨41,[q96],q13⟩
def t122 : Tell := ⟨63,[q12,q96],q13⟩
def t123 : Tell := ⟨88,[q12,q25],q5⟩
def t124 : Tell := ⟨87,[q12,q25],(.v (.bool true))⟩
def t125 : Tell := ⟨46,[q12,q25],(.tup [q3,q13])⟩
def t126 : Tell := ⟨100,[q12,q96,q13],q97⟩
def t127 : Tell := ⟨102,[q28,q25],q52⟩
def t128 : Tell := ⟨126,[q97,q52],q46⟩
def t129 : Tell := ⟨101,[q97,q52],q98⟩
def t130 : Tell := ⟨65,[q12,q96,q25],q98⟩
def t131 : Tell := ⟨37,[q12,q96,q25],(.tup [q98,q13])⟩
def t132 : Tell := ⟨32,[q25,q76,q3,q38,q37],(.v (.bool true))⟩
def t133 : Tell := ⟨27,[q73,.vs 3 [q21,q27] (some 2)],(.v (.bool true))⟩
end Go.Ev.Cl
namespace Go.Ev.Cl
theorem g0 : Good t0 := good [] trivial [] trivial (by kernel_rfl) (by kernel_rfl)
theorem g1 : Good t1 := good [] trivial [] trivial (by kernel_rfl) (by kernel_rfl)
theorem g2 : Good t2 := good [] trivial [] trivial (by kernel_rfl) (by kernel_rfl)
theorem g3 : Good t3 := good [] trivial [] trivial (by kernel_rfl) (by kernel_rfl)
theorem g4 : Good t4 := good [t0,t1,t2,t3] ⟨g0,g1,g2,g3,trivial⟩ [] trivial (by kernel_rfl) (by kernel_rfl)
theorem g5 : Good t5 := good [] trivial [] trivial (by kernel_rfl) (by kernel_rfl)
theorem g6 : Good t6 := good [t1,t5] ⟨g1,g5,trivial⟩ [] trivial (by kernel_rfl) (by kernel_rfl)
theorem g7 : Good t7 := good [t4,t6] ⟨g4,g6,trivial⟩ [] trivial (by kernel_rfl) (by kernel_rfl)
theorem g8 : Good t8 := good [t7] ⟨g7,trivial⟩ [] trivial (by kernel_rfl) (by kernel_rfl)
theorem g9 : Good t9 := good [t8] ⟨g8,trivial⟩ [] trivial (by kernel_rfl) (by kernel_rfl)
theorem g10 : Good t10 := good [] trivial [] trivial (by kernel_rfl) (by kernel_rfl)
theorem g11 : Good t11 := good [t10] ⟨g10,trivial⟩ [] trivial (by kernel_rfl) (by kernel_rfl)
theorem g12 : Good t12 := good [t9,t11] ⟨g9,g11,trivial⟩ [] trivial (by kernel_rfl) (by kernel_rfl)
theorem g13 : Good t13 := good [] trivial [] trivial (by kernel_rfl) (by kernel_rfl)
theorem g14 : Good t14 := good [] trivial [] trivial (by kernel_rfl) (by kernel_rfl)
theorem g15 : Good t15 := good [t13,t14] ⟨g13,g14,trivial⟩ [] trivial (by kernel_rfl) (by kernel_rfl)
theorem g16 : Good t16 := good [] trivial [] trivial (by kernel_rfl) (by kernel_rfl)
theorem g17 : Good t17 := good [t16] ⟨g16,trivial⟩ [] trivial (by kernel_rfl) (by kernel_rfl)
theorem g18 : Good t18 := good [] trivial [] trivial (by kernel_rfl) (by kernel_rfl)
theorem g19 : Good t19 := good [t18] ⟨g18,trivial⟩ [] trivial (by kernel_rfl) (by kernel_rfl)
theorem g20 : Good t20 := good [t19] ⟨g19,trivial⟩ [] trivial (by kernel_rfl) (by kernel_rfl)
theorem g21 : Good t21 := good [] trivial [] trivial (by kernel_rfl) (by kernel_rfl)
theorem g22 : Good t22 := good [t18,t21] ⟨g18,g21,trivial⟩ [] trivial (by kernel_rfl) (by kernel_rfl)
theorem g23 : Good t23 := good [t22] ⟨g22,trivial⟩ [] trivial (by kernel_rfl) (by kernel_rfl)
theorem g24 : Good t24 := good [] trivial [] trivial (by kernel_rfl) (by kernel_rfl)
theorem g25 : Good t25 := good [t21,t24] ⟨g21,g24,trivial⟩ [] trivial (by kernel_rfl) (by kernel_rfl)
theorem g26 : Good t26 := good [t25] ⟨g25,trivial⟩ [] trivial (by kernel_rfl) (by kernel_rfl)
theorem g27 : Good t27 := good [] trivial [] trivial (by kernel_rfl) (by kernel_rfl)
theorem g28 : Good t28 := good [] trivial [] trivial (by kernel_rfl) (by kernel_rfl)
theorem g29 : Good t29 := good [t27,t28] ⟨g27,g28,trivial⟩ [] trivial (by kernel_rfl) (by kernel_rfl)
theorem g30 : Good t30 := good [t29] ⟨g29,trivial⟩ [] trivial (by kernel_rfl) (by kernel_rfl)
theorem g31 : Good t31 := good [] trivial [] trivial (by kernel_rfl) (by kernel_rfl)
theorem g32 : Good t32 := good [] trivial [] trivial (by kernel_rfl) (by kernel_rfl)
theorem g33 : Good t33 := good [t31,t32] ⟨g31,g32,trivial⟩ [] trivial (by kernel_rfl) (by kernel_rfl)
theorem g34 : Good t34 := good [t33] ⟨g33,trivial⟩ [] trivial (by kernel_rfl) (by kernel_rfl)
theorem g35 : Good t35 := good [] trivial [] trivial (by kernel_rfl) (by kernel_rfl)
theorem g36 : Good t36 := good [t35] ⟨g35,trivial⟩ [] trivial (by kernel_rfl) (by kernel_rfl)
theorem g37 : Good t37 := good [] trivial [] trivial (by kernel_rfl) (by kernel_rfl)
theorem g38 : Good t38 := good [t37] ⟨g37,trivial⟩ [] trivial (by kernel_rfl) (by kernel_rfl)
theorem g39 : Good t39 := good [t31] ⟨g31,trivial⟩ [] trivial (by kernel_rfl) (by kernel_rfl)
theorem g40 : Good t40 := good [t39] ⟨g39,trivial⟩ [] trivial (by kernel_rfl) (by kernel_rfl)
theorem g41 : Good t41 := good [] trivial [] trivial (by kernel_rfl) (by kernel_rfl)
theorem g42 : Good t42 := good [t41] ⟨g41,trivial⟩ [] trivial (by kernel_rfl) (by kernel_rfl)
theorem g43 : Good t43 := good [t15,t17,t20,t23,t26,t30,t34,t36,t38,t40,t42] ⟨g15,g17,g20,g23,g26,g30,g34,g36,g38,g40,g42,trivial⟩ [] trivial (by kernel_rfl) (by kernel_rfl)
theorem g44 : Good t44 := good [t12,t43] ⟨g12,g43,trivial⟩ [] trivial (by kernel_rfl) (by kernel_rfl)
theorem g45 : Good t45 := good [t8] ⟨g8,trivial⟩ [] trivial (by kernel_rfl) (by kernel_rfl)
theorem g46 : Good t46 := good [t8] ⟨g8,trivial⟩ [] trivial (by kernel_rfl) (by kernel_rfl)
theorem g47 : Good t47 := good [t12,t43,t45,t46] ⟨g12,g43,g45,g46,trivial⟩ [] trivial (by kernel_rfl) (by kernel_rfl)
theorem g48 : Good t48 := good [] trivial [] trivial (by kernel_rfl) (by kernel_rfl)
theorem g49 : Good t49 := good [t48] ⟨g48,trivial⟩ [] trivial (by kernel_rfl) (by kernel_rfl)
theorem g50 : Good t50 := good [t49] ⟨g49,trivial⟩ [] trivial (by kernel_rfl) (by kernel_rfl)
theorem g51 : Good t51 := good [t48] ⟨g48,trivial⟩ [] trivial (by kernel_rfl) (by kernel_rfl)
theorem g52 : Good t52 := good [t51] ⟨g51,trivial⟩ [] trivial (by kernel_rfl) (by kernel_rfl)
theorem g53 : Good t53 := good [t52] ⟨g52,trivial⟩ [] trivial (by kernel_rfl) (by kernel_rfl)
theorem g54 : Good t54 := good [] trivial [] trivial (by kernel_rfl) (by kernel_rfl)
theorem g55 : Good t55 := good [t50,t53,t54] ⟨g50,g53,g54,trivial⟩ [] trivial (by kernel_rfl) (by kernel_rfl)
theorem g56 : Good t56 := good [] trivial [] trivial (by kernel_rfl) (by kernel_rfl)
theorem g57 : Good t57 := good [] trivial [] trivial (by kernel_rfl) (by kernel_rfl)
theorem g58 : Good t58 := good [t56,t57] ⟨g56,g57,trivial⟩ [] trivial (by kernel_rfl) (by kernel_rfl)
theorem g59 : Good t59 := good [] trivial [] trivial (by kernel_rfl) (by kernel_rfl)
theorem g60 : Good t60 := good [t59] ⟨g59,trivial⟩ [] trivial (by kernel_rfl) (by kernel_rfl)
theorem g61 : Good t61 := good [t59] ⟨g59,trivial⟩ [] trivial (by kernel_rfl) (by kernel_rfl)
theorem g62 : Good t62 := good [t9,t55,t58,t60,t61] ⟨g9,g55,g58,g60,g61,trivial⟩ [] trivial (by kernel_rfl) (by kernel_rfl)
theorem g63 : Good t63 := good [] trivial [] trivial (by kernel_rfl) (by kernel_rfl)
theorem g64 : Good t64 := good [] trivial [] trivial (by kernel_rfl) (by kernel_rfl)
theorem g65 : Good t65 := good [t64] ⟨g64,trivial⟩ [] trivial (by kernel_rfl) (by kernel_rfl)
theorem g66 : Good t66 := good [] trivial [] trivial (by kernel_rfl) (by kernel_rfl)
theorem g67 : Good t67 := good [] trivial [] trivial (by kernel_rfl) (by kernel_rfl)
theorem g68 : Good t68 := good [] trivial [] trivial (by kernel_rfl) (by kernel_rfl)
theorem g69 : Good t69 := good [] trivial [] trivial (by kernel_rfl) (by kernel_rfl)
theorem g70 : Good t70 := good [t69] ⟨g69,trivial⟩ [] trivial (by kernel_rfl) (by kernel_rfl)
theorem g71 : Good t71 := good [t63,t65,t66,t67,t68,t70] ⟨g63,g65,g66,g67,g68,g70,trivial⟩ [] trivial (by kernel_rfl) (by kernel_rfl)
theorem g72 : Good t72 := good [] trivial [] trivial (by kernel_rfl) (by kernel_rfl)
theorem g73 : Good t73 := good [] trivial [] trivial (by kernel_rfl) (by kernel_rfl)
theorem g74 : Good t74 := good [t72,t73] ⟨g72,g73,trivial⟩ [] trivial (by kernel_rfl) (by kernel_rfl)
theorem g75 : Good t75 := good [] trivial [] trivial (by kernel_rfl) (by kernel_rfl)
theorem g76 : Good t76 := good [] trivial [] trivial (by kernel_rfl) (by kernel_rfl)
theorem g77 : Good t77 := good [] trivial [] trivial (by kernel_rfl) (by kernel_rfl)
theorem g78 : Good t78 := good [] trivial [] trivial (by kernel_rfl) (by kernel_rfl)
theorem g79 : Good t79 := good [] trivial [] trivial (by kernel_rfl) (by kernel_rfl)
theorem g80 : Good t80 := good [] trivial [] trivial (by kernel_rfl) (by kernel_rfl)
theorem g81 : Good t81 := good [t75,t76,t77,t78,t79,t80] ⟨g75,g76,g77,g78,g79,g80,trivial⟩ [] trivial (by kernel_rfl) (by kernel_rfl)
theorem g82 : Good t82 := good [t71,t74,t81] ⟨g71,g74,g81,trivial⟩ [] trivial (by kernel_rfl) (by kernel_rfl)
theorem g83 : Good t83 := good [t8,t82] ⟨g8,g82,trivial⟩ [] trivial (by kernel_rfl) (by kernel_rfl)
theorem g84 : Good t84 := good [] trivial [] trivial (by kernel_rfl) (by kernel_rfl)
theorem g85 : Good t85 := good [t84] ⟨g84,trivial⟩ [] trivial (by kernel_rfl) (by kernel_rfl)
theorem g86 : Good t86 := good [t83,t84,t85] ⟨g83,g84,g85,trivial⟩ [] trivial (by kernel_rfl) (by kernel_rfl)
theorem g87 : Good t87 := good [t86] ⟨g86,trivial⟩ [] trivial (by kernel_rfl) (by kernel_rfl)
theorem g88 : Good t88 := good [t48] ⟨g48,trivial⟩ [] trivial (by kernel_rfl) (by kernel_rfl)
theorem g89 : Good t89 := good [t88] ⟨g88,trivial⟩ [] trivial (by kernel_rfl) (by kernel_rfl)
theorem g90 : Good t90 := good [t52,t89] ⟨g52,g89,trivial⟩ [] trivial (by kernel_rfl) (by kernel_rfl)
theorem g91 : Good t91 := good [t48] ⟨g48,trivial⟩ [] trivial (by kernel_rfl) (by kernel_rfl)
theorem g92 : Good t92 := good [t91] ⟨g91,trivial⟩ [] trivial (by kernel_rfl) (by kernel_rfl)
theorem g93 : Good t93 := good [t50,t92] ⟨g50,g92,trivial⟩ [] trivial (by kernel_rfl) (by kernel_rfl)
theorem g94 : Good t94 := good [t50,t54,t90,t93] ⟨g50,g54,g90,g93,trivial⟩ [] trivial (by kernel_rfl) (by kernel_rfl)
theorem g95 : Good t95 := good [t94] ⟨g94,trivial⟩ [] trivial (by kernel_rfl) (by kernel_rfl)
theorem g96 : Good t96 := good [t12,t43,t95] ⟨g12,g43,g95,trivial⟩ [] trivial (by kernel_rfl) (by kernel_rfl)
theorem g97 : Good t97 := good [t48] ⟨g48,trivial⟩ [] trivial (by kernel_rfl) (by kernel_rfl)
theorem g98 : Good t98 := good [t97] ⟨g97,trivial⟩ [] trivial (by kernel_rfl) (by kernel_rfl)
theorem g99 : Good t99 := good [t48] ⟨g48,trivial⟩ [] trivial (by kernel_rfl) (by kernel_rfl)
theorem g100 : Good t100 := good [t99] ⟨g99,trivial⟩ [] trivial (by kernel_rfl) (by kernel_rfl)
theorem g101 : Good t101 := good [t54,t98,t100] ⟨g54,g98,g100,trivial⟩ [] trivial (by kernel_rfl) (by kernel_rfl)
theorem g102 : Good t102 := good [] trivial [] trivial (by kernel_rfl) (by kernel_rfl)
theorem g103 : Good t103 := good [t101,t102] ⟨g101,g102,trivial⟩ [] trivial (by kernel_rfl) (by kernel_rfl)
theorem g104 : Good t104 := good [t48] ⟨g48,trivial⟩ [] trivial (by kernel_rfl) (by kernel_rfl)
theorem g105 : Good t105 := good [t104] ⟨g104,trivial⟩ [] trivial (by kernel_rfl) (by kernel_rfl)
theorem g106 : Good t106 := good [t50] ⟨g50,trivial⟩ [] trivial (by kernel_rfl) (by kernel_rfl)
theorem g107 : Good t107 := good [t89] ⟨g89,trivial⟩ [] trivial (by kernel_rfl) (by kernel_rfl)
theorem g108 : Good t108 := good [t105,t106,t107] ⟨g105,g106,g107,trivial⟩ [] trivial (by kernel_rfl) (by kernel_rfl)
theorem g109 : Good t109 := good [] trivial [] trivial (by kernel_rfl) (by kernel_rfl)
theorem g110 : Good t110 := good [t109] ⟨g109,trivial⟩ [] trivial (by kernel_rfl) (by kernel_rfl)
theorem g111 : Good t111 := good [t8,t109,t110] ⟨g8,g109,g110,trivial⟩ [] trivial (by kernel_rfl) (by kernel_rfl)
theorem g112 : Good t112 := good [] trivial [] trivial (by kernel_rfl) (by kernel_rfl)
theorem g113 : Good t113 := good [t13,t23,t112] ⟨g13,g23,g112,trivial⟩ [] trivial (by kernel_rfl) (by kernel_rfl)
theorem g114 : Good t114 := good [t12,t108,t111,t113] ⟨g12,g108,g111,g113,trivial⟩ [] trivial (by kernel_rfl) (by kernel_rfl)
theorem g115 : Good t115 := good [t54,t98] ⟨g54,g98,trivial⟩ [] trivial (by kernel_rfl) (by kernel_rfl)
theorem g116 : Good t116 := good [t115] ⟨g115,trivial⟩ [] trivial (by kernel_rfl) (by kernel_rfl)
theorem g117 : Good t117 := good [t116] ⟨g116,trivial⟩ [] trivial (by kernel_rfl) (by kernel_rfl)
theorem g118 : Good t118 := good [t12,t111,t113] ⟨g12,g111,g113,trivial⟩ [] trivial (by kernel_rfl) (by kernel_rfl)
theorem g119 : Good t119 := good [t118] ⟨g118,trivial⟩ [] trivial (by kernel_rfl) (by kernel_rfl)
theorem g120 : Good t120 := good [] trivial [] trivial (by kernel_rfl) (by kernel_rfl)
theorem g121 : Good t121 := good [t120] ⟨g120,trivial⟩ [] trivial (by kernel_rfl) (by kernel_rfl)
theorem g122 : Good t122 := good [t9,t121] ⟨g9,g121,trivial⟩ [] trivial (by kernel_rfl) (by kernel_rfl)
theorem g123 : Good t123 := good [] trivial [] trivial (by kernel_rfl) (by kernel_rfl)
theorem g124 : Good t124 := good [t123] ⟨g123,trivial⟩ [] trivial (by kernel_rfl) (by kernel_rfl)
theorem g125 : Good t125 := good [t8,t123,t124] ⟨g8,g123,g124,trivial⟩ [] trivial (by kernel_rfl) (by kernel_rfl)
theorem g126 : Good t126 := good [] trivial [] trivial (by kernel_rfl) (by kernel_rfl)
theorem g127 : Good t127 := good [] trivial [] trivial (by kernel_rfl) (by kernel_rfl)
theorem g128 : Good t128 := good [] trivial [] trivial (by kernel_rfl) (by kernel_rfl)
theorem g129 : Good t129 := good [t128] ⟨g128,trivial⟩ [] trivial (by kernel_rfl) (by kernel_rfl)
theorem g130 : Good t130 := good [t126,t127,t129] ⟨g126,g127,g129,trivial⟩ [] trivial (by kernel_rfl) (by kernel_rfl)
theorem g131 : Good t131 := good [t122,t125,t130] ⟨g122,g125,g130,trivial⟩ [] trivial (by kernel_rfl) (by kernel_rfl)
theorem g132 : Good t132 := good [t131] ⟨g131,trivial⟩ [] trivial (by kernel_rfl) (by kernel_rfl)
theorem g133 : Good t133 := good [] trivial [] trivial (by kernel_rfl) (by kernel_rfl)
end Go.Ev.Cl
namespace Go.Ev.Cl
theorem gAll : Good ⟨31,[],.v (.bool true)⟩ := good [t44,t47,t62,t87,t96,t103,t114,t117,t119,t132,t133] ⟨g44,g47,g62,g87,g96,g103,g114,g117,g119,g132,g133,trivial⟩ [] trivial (by kernel_rfl) (by kernel_rfl)
end Go.Ev.Cl
namespace Go.Ev
open Go.Proofs
noncomputable def eA0 : Exts := e0.more 31 (atArgs [] (.v (.bool true)))
theorem extOKA0 : ExtOK (Cx eA0) := by
 refine extOK_more (C := Cx e0) (f := 31) (g := atArgs [] (.v (.bool true))) rfl ?_ extOK0 rfl
 intro args v h Z ρ H w vals hs hl
 obtain ⟨⟨e,x,he,ha⟩, -⟩ := Cl.gAll
 obtain ⟨rfl,rfl⟩ := atArgs_some h
 exact ext_of_ans (C := Cl.CC.more2 e x) Cl.nogoC Cl.mixedC he ha rfl Z ρ H w vals hs hl
noncomputable def eA : Exts := eA0.more 127 joinStr
theorem extOKA : ExtOK (Cx eA) := by
 refine extOK_more (C := Cx eA0) (f := 127) (g := joinStr) rfl ?_ extOKA0 rfl
 intro args v h Z ρ H w vals hs hl
 exact ext_join Go.Proofs.Tryz.lays156 Go.Proofs.Tryz.Builder_Extra_156 (f := 127) rfl ⟨_,Tryz.func127,by kernel_rfl,by kernel_rfl⟩ h Z ρ H w vals hs hl
theorem quietA : Quiet eA := by
 intro f h1 h2 h3
 show (if Nat.beq f 127 then _ else if Nat.beq f 31 then _ else e0.x f) = none
 rw [if_neg (fun h => h3 (Nat.eq_of_beq_eq_true h))]
 rw [if_neg (fun h => h1 (Nat.eq_of_beq_eq_true h))]
 exact quiet0 f h1 h2 h3
theorem eA31 : eA.x 31 = some (atArgs [] (.v (.bool true))) := rfl
end Go.Ev
namespace Go.Ev
open Go.Proofs
attribute [local irreducible] Wp WpS
theorem words_line {t : Txt} {n : Nat} {x : Plc × ByteArray} (hx : (wordsT 0 t)[n]? = some x) : ∃ c ln,t[x.1.1]? = some c ∧ c.2[x.1.2.1]? = some ln ∧ ln[x.1.2.2]? = some x.2 := by
 obtain ⟨m,k,w,c,l,h1,h2,h3,h4⟩ := (wordsT_mem t 0 x).1 (List.mem_of_getElem? hx)
 rw [Nat.zero_add] at h1
 rw [h1]
 exact ⟨c,l,h2,h3,h4⟩
theorem call31 (me : FuncId) (d : Option Tmp) (H : Heap) : callA (Cx eA) (lim (Cx eA)) me 31 d [] H = some (.v (.bool true),H) := by
 have h : (Cx eA).ext 31 = some (atArgs [] (.v (.bool true))) := eA31
 unfold callA standA
 rw [h];rfl
end Go.Ev
namespace Go.Ev
open Go.Proofs
attribute [local irreducible] Wp WpS
def inB (n lo hi : Int) : Bool := decide (lo ≤ n) && decide (n ≤ hi)
theorem ansS115 {e : Exts} (n lo hi : Int) : Ans (Cx e) 115 [intA n,intA lo,intA hi] (.v (.bool (inB n lo hi))) := by
 unfold Ans inB
 rw [fn_step (fn_115 e) (show Tryz.f115.body = some _ from rfl)]
 cases h1 : decide (lo ≤ n) <;> cases h2 : decide (n ≤ hi)
 all_goals simp only [decide_eq_true_eq,decide_eq_false_iff_not] at h1 h2
 all_goals simp -implicitDefEqProofs only [Tryz.f115,go_sem,↓reduceIte,Int.reduceEq,Int.reduceLT,Int.reduceLE,List.reduceReplicate,intA,setT_nil,setT_cons,ge_iff_le,h1,h2,decide_true,decide_false,↓boolP_bool,↓iteB_true,↓iteB_false]
def cutB (w sd : Int) : Bool := inB w 12 80 && inB sd 1 3
theorem ansS84 {e : Exts} (he : Quiet e) (w sd : Int) (h1 : 0 ≤ sd) (h2 : sd < 256) : Ans (Cx e) 84 [.agg [intA w,.v (.int .u8 sd)]] (.v (.bool (cutB w sd))) := by
 have c1 := fun me d H => (ansS115 (e := e) w 12 80).call (me := me) (d := d) (ext_115 he) (pure_115 _ _ _) rfl H
 have c2 := fun me d H => (ansS115 (e := e) sd 1 3).call (me := me) (d := d) (ext_115 he) (pure_115 _ _ _) rfl H
 have hcv := conv_u8 sd h1 h2
 unfold intA at c1 c2
 unfold Ans cutB
 rw [fn_step (fn_84 e) (show Tryz.f84.body = some _ from rfl)]
 cases h3 : inB w 12 80
 all_goals rw [h3] at c1
 all_goals simp -implicitDefEqProofs only [Tryz.f84,go_sem,↓reduceIte,Int.reduceEq,Int.reduceLT,Int.reduceLE,List.reduceReplicate,intA,setT_nil,setT_cons,c1,c2,hcv,Bool.true_and,Bool.false_and,↓boolP_bool,↓iteB_true,↓iteB_false]
theorem ansS42 {e : Exts} (he : Quiet e) (t : Txt) (ht : Fits t) (ch : AV) (xs : List AV) (hch : SlOf 2 xs ch) (hall : All2 ChapA t xs) (w sd : Int) (h1 : 0 ≤ sd) (h2 : sd < 256) : Ans (Cx e) 42 [.agg [ch],.agg [intA w,.v (.int .u8 sd)]] (.v (.bool (!greatT t && textB t && cutB w sd))) := by
 have h15 := fun me d H => call38 he t ht _ ⟨ch,rfl,xs,hch,hall⟩ me d H
 have h56 := fun me d H => call39 he t ht _ ⟨ch,rfl,xs,hch,hall⟩ me d H
 have c84 := fun me d H => (ansS84 he w sd h1 h2).call (me := me) (d := d) (ext_84 he) (pure_84 _ _ _) rfl H
 unfold intA at c84
 unfold Ans
 rw [fn_step (fn_42 e) (show Tryz.f42.body = some _ from rfl)]
 cases hg : greatT t <;> cases hT : textB t
 all_goals rw [hg] at h15
 all_goals rw [hT] at h56
 all_goals simp -implicitDefEqProofs only [Tryz.f42,go_sem,↓reduceIte,Int.reduceEq,Int.reduceLT,Int.reduceLE,List.reduceReplicate,intA,setT_nil,setT_cons,hch.cells,hch.flat,hch.bound,h15,h56,c84,Bool.not_true,Bool.not_false,Bool.true_and,Bool.false_and,Bool.and_false,↓boolP_bool,↓iteB_true,↓iteB_false]
end Go.Ev
namespace Go.Ev
open Go.Proofs
theorem u8_wf {m : Int} (h : (Lit.int .u8 m).wf = true) : 0 ≤ m ∧ m < 256 := by
 have h2 : (decide (IntKind.u8.min ≤ m) && decide (m ≤ IntKind.u8.max)) = true := h
 have e1 : IntKind.u8.min = 0 := by decide
 have e2 : IntKind.u8.max = 255 := by decide
 rw [e1,e2] at h2
 simp at h2;omega
end Go.Ev
namespace Go.Ev
open Go.Proofs
attribute [local irreducible] Wp WpS
theorem ne28 (x y : Operand) (a b c a' b' c' : Int) : binA Tryz.prog .neq 28 x y (.agg [.v (.int .i64 a),.v (.int .i64 b),.v (.int .i64 c)]) (.agg [.v (.int .i64 a'),.v (.int .i64 b'),.v (.int .i64 c')]) = some (.v (.bool (!eqP a b c a' b' c'))) := by
 have := (bin_struct (P := Tryz.prog) (t := 28) (us := [.int .i64 a,.int .i64 b,.int .i64 c]) (ws := [.int .i64 a',.int .i64 b',.int .i64 c']) (n := 3) (by kernel_rfl) (by decide) (by kernel_rfl) (by kernel_rfl) x y).2
 rw [eqP_cells] at this
 exact this
theorem eqP_self (a b c : Int) : eqP a b c a b c = true := by unfold eqP;simp
theorem eAj : eA.x 127 = some joinStr := rfl
def t12 (ch x : AV) (id : Int) (w sd n : Nat) (S0 : ByteArray) (m j : Nat) : List (Tmp × AV) := [(0,.agg [ch]),(1,.agg [intA id,x]),(2,.agg [intA w,.v (.int .u8 sd)]),(3,.v (.int .u16 n)),(4,.ptr 0 0 0),(5,.ptr 1 0 0),(6,.ptr 2 0 0),(8,.v (.bool false)),(9,.v (.bool true)),(42,.v (.bool false)),(10,.ptr 3 0 0),(11,.v (.bool true)),(12,.ptr 4 0 0),(13,intA 0),(14,.v (.string S0)),(15,intA 0),(72,.v (.bool false)),(16,.ptr 5 0 0),(17,intA 0),(18,.ptr 6 0 0),(19,intA 0),(88,.v (.bool false)),(20,.ptr 7 0 0),(21,intA 0),(126,.v (.bool false)),(128,x),(129,intA m),(130,intA j)]
def h12 (ch x o : AV) (id : Int) (w sd a b c : Nat) (mv : Int) (s1 B1 A1 s2 B2 A2 : ByteArray) : List (Option AObj) := [some (.cells 0 0 24 1 false [ch]),some (.cells 0 0 66 1 false [intA id,x]),some (.cells 0 0 26 1 false [intA w,.v (.int .u8 sd)]),some (.cells 0 0 28 1 false [intA a,intA b,intA c]),some (.cells 0 0 24 1 false [o]),some (.cells 0 0 30 1 false [intA a,intA b,intA c,.v (.string s1),.v (.string B1),.v (.string A1)]),some (.cells 0 0 28 1 false [intA a,intA b,intA mv]),some (.cells 0 0 30 1 false [intA a,intA b,intA mv,.v (.string s2),.v (.string B2),.v (.string A2)])]
theorem cut_of {N : Nat} {x : AV} (h : Arg Tryz.prog (N + 3) 26 x) : ∃ w sd : Int,0 ≤ sd ∧ sd < 256 ∧ x = .agg [intA w,.v (.int .u8 sd)] := by
 obtain ⟨A,rfl,hp⟩ := arg_struct (by kernel_rfl) h
 obtain ⟨hl,hf⟩ := plain_struct (l := [(0,3),(1,5)]) (by kernel_rfl) (by kernel_rfl) hp
 obtain ⟨a,b,rfl⟩ := two_cells (hl.trans (by kernel_rfl))
 have h0 := hf (0,3) (by simp)
 have h1 := hf (1,5) (by simp)
 have e0 : Tryz.prog.cellsOf 3 = 1 := by kernel_rfl
 have e1 : Tryz.prog.cellsOf 5 = 1 := by kernel_rfl
 simp only [e0,e1,List.drop_zero,List.drop_succ_cons,List.take_succ_cons,List.take_zero] at h0 h1
 obtain ⟨m,hm, -⟩ := plain_int (by kernel_rfl : Tryz.prog.underlying 3 = some (.int .i64)) h0
 obtain ⟨k,hk,hw⟩ := plain_int (by kernel_rfl : Tryz.prog.underlying 5 = some (.int .u8)) h1
 simp only [List.cons.injEq,and_true] at hm hk
 have := u8_wf hw
 exact ⟨m,k,this.1,this.2,by rw [hm,hk];rfl⟩
end Go.Ev
namespace Go.Ev
open Go.Proofs
attribute [local irreducible] Wp WpS
theorem partN_size (s : ByteArray) : s.size ≤ partN s := by
 unfold partN
 split
 ·rename_i h;rw [h];exact Nat.le_refl _
 ·omega
theorem place_ctx {t : Txt} (hT : textB t = true) {a b c : Nat} {cp : Chap} (hc : t[a]? = some cp) {ln : Line} (hl : cp.2[b]? = some ln) {s : ByteArray} (hs : ln[c]? = some s) :
  (∀ x ∈ (wordsC a 0 cp.2).map (·.2),plainW x) ∧ ((wordsC a 0 cp.2).map (·.2))[atIx (wordsC a 0 cp.2) (a,b,c)]? = some s ∧ plainW s ∧ s.size ≤ 12 := by
 have hsm := small_of hT
 have hcm := List.mem_of_getElem? hc
 obtain ⟨hx, -⟩ := atIx_spec (a := a) hl hs
 have hw : wordB s = true := hsm.word cp hcm ln (List.mem_of_getElem? hl) s (List.mem_of_getElem? hs)
 refine ⟨fun x hx => ?_,by rw [List.getElem?_map,hx];rfl,plainW_of hw,(word_size hw).2⟩
 obtain ⟨y,hy,rfl⟩ := List.mem_map.1 hx
 obtain ⟨-, -,l,q1,q2⟩ := wordsC_sub a cp.2 0 y hy
 exact plainW_of (hsm.word cp hcm l (List.mem_of_getElem? q1) y.2 (List.mem_of_getElem? q2))
theorem ctxOf_best {t : Txt} (hT : textB t = true) {a b c : Nat} {cp : Chap} (hc : t[a]? = some cp) {ln : Line} (hl : cp.2[b]? = some ln) {s : ByteArray} (hs : ln[c]? = some s) (w sd : Nat) (hw : 12 ≤ w) :
  ctxOf (wordsC a 0 cp.2) (a,b,c) w sd ∈ ctxs ((wordsC a 0 cp.2).map (·.2)) w (atIx (wordsC a 0 cp.2) (a,b,c)) ∧ ∀ d ∈ ctxs ((wordsC a 0 cp.2).map (·.2)) w (atIx (wordsC a 0 cp.2) (a,b,c)),aheadC sd d (ctxOf (wordsC a 0 cp.2) (a,b,c) w sd) = false := by
 obtain ⟨hp,hi,hps,h12⟩ := place_ctx hT hc hl hs
 have hlt := (List.getElem?_eq_some_iff.1 hi).1
 obtain ⟨cc,h1,h2⟩ := best_some sd (ctxs_ne (w := w) hlt hi (by omega))
 unfold ctxOf
 rw [h1]
 exact ⟨h2,bestC_all h1⟩
end Go.Ev
namespace Go.Ev
open Go.Proofs
attribute [local irreducible] Wp WpS
end Go.Ev
namespace Go.Ev
open Go.Proofs
attribute [local irreducible] Wp WpS
def s50a : List (Plc × ByteArray) → AV
 | [] => .v (.slice none 0 0)
 | _ :: Z => .sl 1 Z.length 0 (Z.length + 1) none
def s50b : List (Plc × ByteArray) → AV
 | [] => .v (.slice none 0 0)
 | _ :: Z => .sl 2 Z.length 0 (Z.length + 1) none
def h50 (ch : AV) : List (Plc × ByteArray) → Heap
 | [] => ⟨[some (.cells 0 0 24 1 false [ch])],0⟩
 | z :: Z => ⟨[some (.cells 0 0 24 1 false [ch]),some (.cells Z.length 0 9 1 true (wds (z :: Z))),some (.cells Z.length 0 28 3 true (pcs (z :: Z)))],0⟩
def t50 (ch : AV) (c : Nat) (l : AV) (Z : List (Plc × ByteArray)) (j : Nat) : List (Tmp × AV) := [(0,.agg [ch]),(1,intA c),(2,.ptr 0 0 0),(4,.v (.slice none 0 0)),(5,.v (.slice none 0 0)),(6,s50a Z),(7,s50b Z),(8,l),(9,intA j)]
def Out50 (ch : AV) (c : Nat) (l : AV) (ls : List Line) : Inv := fun μ a H => ∃ j Z,j + μ = ls.length ∧ Z ++ wordsC c j (ls.drop j) = wordsC c 0 ls ∧ a = ⟨51,t50 ch c l Z j,[]⟩ ∧ H = h50 ch Z
def In50 (ch : AV) (c : Nat) (l : AV) (j : Nat) (ln : Line) (Z0 : List (Plc × ByteArray)) : Inv := fun μ a H => ∃ k Z,k + μ = ln.length ∧ Z ++ wordsL c j k (ln.drop k) = Z0 ++ wordsL c j 0 ln ∧ a = ⟨51,t50 ch c l Z j ++ [(20,.v (.bool true)),(10,intA k)],[]⟩ ∧ H = h50 ch Z
theorem app1' (B0 B2 : Option AObj) (n : Nat) (cs : List AV) (hl : cs.length = n + 1) (hf : fitsA 16 (n + 1 + 1) = true) (x : Value) (slot : Nat) : appTo 9 1 16 ⟨[B0,some (.cells n 0 9 1 true cs),B2],0⟩ slot 1 [.v x] (.sl 1 n 0 (n + 1) none) = some (.sl 1 (n + 1) 0 (n + 1 + 1) none,⟨[B0,some (.cells (n + 1) 0 9 1 true (cs ++ [.v x])),B2],0⟩) :=
 appTo_own (m := 0) (e' := 9) (cs := cs) (by unfold Heap.row Heap.get;simp) (by omega) (Nat.zero_le _) hf (by omega) (by omega)
theorem app2' (B0 B1 : Option AObj) (n : Nat) (cs : List AV) (hl : cs.length = (n + 1) * 3) (hf : fitsA 24 (n + 1 + 1) = true) (x y z : Value) (slot : Nat) : appTo 28 3 24 ⟨[B0,B1,some (.cells n 0 28 3 true cs)],0⟩ slot 1 [.v x,.v y,.v z] (.sl 2 n 0 (n + 1) none) = some (.sl 2 (n + 1) 0 (n + 1 + 1) none,⟨[B0,B1,some (.cells (n + 1) 0 28 3 true (cs ++ [.v x,.v y,.v z]))],0⟩) :=
 appTo_own (m := 0) (e' := 28) (cs := cs) (by unfold Heap.row Heap.get;simp) (by omega) (Nat.zero_le _) hf (by omega) (by omega)
theorem cells_g (l : List AV) : AV.cells (.agg l) = l := rfl
theorem trim_big {H : Heap} {n : Nat} {vs : List AV} {ms : List Nat} (h : ¬ boundL vs ≤ n) : H.trim n vs ms = H := by
 unfold Heap.trim
 rw [if_neg]
 simp [Nat.ble_eq,h]
theorem h50t (ch : AV) (Z Z2 W : List (Plc × ByteArray)) (h : Z2 = Z ++ W) (vs : List AV) (hv : s50b Z2 ∈ vs) : (h50 ch Z2).trim (h50 ch Z).size vs [] = h50 ch Z2 := by
 subst h
 cases Z with
 | nil =>
  cases W with
  | nil => exact trim_self rfl _ _
  | cons z W =>
   refine trim_big fun h => ?_
   have := boundL_le.1 h _ hv
   exact absurd this (by show ¬ 2 + 1 ≤ 1;omega)
 | cons z Z => exact trim_self rfl _ _
theorem frz50 (B0 : Option AObj) (n : Nat) (z : Plc × ByteArray) (Z : List (Plc × ByteArray)) (hn : Z.length = n := by rfl) : freezeV ⟨[B0,some (.cells n 0 9 1 true (wds (z :: Z))),some (.cells n 0 28 3 true (pcs (z :: Z)))],0⟩ 1000000 (.tup [.sl 1 n 0 (n + 1) none,.sl 2 n 0 (n + 1) none]) = some (.tup [.vs 1 (wds (z :: Z)) none,.vs 3 (pls (z :: Z)) none]) := by
 subst hn
 have h1 := wds_len (z :: Z)
 have h2 := pcs_len (z :: Z)
 have h3 := chunk_pcs (z :: Z)
 have h4 := chunk_one (wds (z :: Z))
 rw [h1] at h4
 have e1 : ∀ k,freezeV ⟨[B0,some (.cells Z.length 0 9 1 true (wds (z :: Z))),some (.cells Z.length 0 28 3 true (pcs (z :: Z)))],0⟩ (k + 1) (.sl 1 Z.length 0 (Z.length + 1) none) = some (.vs 1 (wds (z :: Z)) none) := fun k => by
   unfold freezeV
   have hr : Heap.row ⟨[B0,some (.cells Z.length 0 9 1 true (wds (z :: Z))),some (.cells Z.length 0 28 3 true (pcs (z :: Z)))],0⟩ 1 Z.length = some (0,9,1,true,wds (z :: Z)) := by unfold Heap.row Heap.get;simp
   simp only [hr]
   rw [if_neg (by omega),if_pos ⟨by rw [h1,List.length_cons];omega,by omega⟩,if_pos trivial,List.drop_zero,List.take_of_length_le (by rw [h1,List.length_cons];omega)]
   show some (AV.vs 1 (chunk 1 (z :: Z).length (wds (z :: Z))) none) = _
   rw [List.length_cons,← List.length_cons (a := z),h4]
 have e2 : ∀ k,freezeV ⟨[B0,some (.cells Z.length 0 9 1 true (wds (z :: Z))),some (.cells Z.length 0 28 3 true (pcs (z :: Z)))],0⟩ (k + 1) (.sl 2 Z.length 0 (Z.length + 1) none) = some (.vs 3 (pls (z :: Z)) none) := fun k => by
   unfold freezeV
   have hr : Heap.row ⟨[B0,some (.cells Z.length 0 9 1 true (wds (z :: Z))),some (.cells Z.length 0 28 3 true (pcs (z :: Z)))],0⟩ 2 Z.length = some (0,28,3,true,pcs (z :: Z)) := by unfold Heap.row Heap.get;simp
   simp only [hr]
   rw [if_neg (by omega),if_pos ⟨by rw [h2,List.length_cons];omega,by omega⟩,if_pos trivial,List.drop_zero,List.take_of_length_le (by rw [h2,List.length_cons];omega),← h3]
   rfl
 have e3 : ∀ k,freezeL ⟨[B0,some (.cells Z.length 0 9 1 true (wds (z :: Z))),some (.cells Z.length 0 28 3 true (pcs (z :: Z)))],0⟩ (k + 4) [.sl 1 Z.length 0 (Z.length + 1) none,.sl 2 Z.length 0 (Z.length + 1) none] = some [.vs 1 (wds (z :: Z)) none,.vs 3 (pls (z :: Z)) none] := fun k => by
  simp only [freezeL,e1,e2]
 show (freezeL _ (999995 + 4) _).map AV.tup = _
 rw [e3];rfl
theorem ansS50 {e : Exts} (_he : Quiet e) (t : Txt) (_ht : Fits t) (ch : AV) (xs : List AV) (hch : SlOf 2 xs ch) (hall : All2 ChapA t xs) (c : Nat) (cp : Chap) (hc : t[c]? = some cp) (hls1000 : cp.2.length < 1000) (hln : ∀ ln ∈ cp.2,ln.length < 1000) (hne : wordsC c 0 cp.2 ≠ []) (hN : (wordsC c 0 cp.2).length < 100000) : Ans (Cx e) 50 [.agg [ch],intA c] (.tup [.vs 1 (wds (wordsC c 0 cp.2)) none,.vs 3 (pls (wordsC c 0 cp.2)) none]) := by
 obtain ⟨y,hy,l,rfl,lxs,hl,hls⟩ := hall.get hc
 have hix := hch.idx hy
 unfold Ans
 rw [fn_step (fn_50 e) (show Tryz.f50.body = some _ from rfl)]
 simp -implicitDefEqProofs only [Tryz.f50,go_sem,↓reduceIte,Int.reduceEq,Int.reduceLT,Int.reduceLE,List.reduceReplicate,intA,setT_nil,setT_cons,hch.cells,hch.flat,hch.bound,hix,hl.cells,hl.len,hl.flat,hl.bound,↓boolP_bool,↓iteB_true,↓iteB_false]
 refine Lp_ruleQ (P := Out50 ch c l cp.2) ?_ cp.2.length _ _ ?_
 ·rintro Q KK hQ hKK μ _ _ ⟨j,Z,hj,hZ,rfl,rfl⟩
  have hlsl := hls.1
  have hln2 := hl.len
  cases μ with
  | zero =>
   obtain rfl : j = cp.2.length := by omega
   rw [List.drop_length] at hZ
   have hZe : wordsC c 0 cp.2 = Z := by rw [← hZ];simp [wordsC]
   have hnj : ¬ (lxs.length : Int) < (lxs.length : Int) := by omega
   rcases Z with _ | ⟨z,Z⟩
   ·exact absurd hZe hne
   ·simp -implicitDefEqProofs only [h50,t50,s50a,s50b,go_sem,↓reduceIte,Int.reduceEq,Int.reduceLT,Int.reduceLE,List.reduceReplicate,intA,setT_nil,setT_cons,hln2,hlsl,hnj,↓boolP_bool,↓iteB_true,↓iteB_false]
    refine hKK _ _ _ ?_
    simp -implicitDefEqProofs only [go_sem,↓reduceIte,Int.reduceEq,Int.reduceLT,Int.reduceLE,List.reduceReplicate,intA,setT_nil,setT_cons,hlsl,hnj,bound_sl,↓boolP_bool,↓iteB_true,↓iteB_false]
    rw [hZe]
    exact frz50 _ _ z Z
  | succ μ =>
   obtain ⟨ln,hw⟩ := at_lt cp.2 j (by omega)
   obtain ⟨lx,hlx,hsl⟩ := hls.get hw
   have hltj : (j : Int) < ((lxs.length : Nat) : Int) := by omega
   have hjx := hl.idx hlx
   have hsl : SlOf 1 (strs ln) lx := hsl
   have hlen := strs_len ln
   obtain ⟨objs,hH⟩ : ∃ o,h50 ch Z = ⟨o,0⟩ := by cases Z <;> exact ⟨_,rfl⟩
   obtain ⟨va,hva⟩ : ∃ va,s50a Z = va := ⟨_,rfl⟩
   obtain ⟨vb,hvb⟩ : ∃ vb,s50b Z = vb := ⟨_,rfl⟩
   rw [hH]
   simp -implicitDefEqProofs only [t50,hva,hvb,go_sem,↓reduceIte,Int.reduceEq,Int.reduceLT,Int.reduceLE,List.reduceReplicate,intA,setT_nil,setT_cons,hln2,hlsl,hltj,hjx,hsl.cells,hsl.len,hsl.flat,hlen,↓boolP_bool,↓iteB_true,↓iteB_false]
   rw [← hH,← hva,← hvb]
   refine Lp_ruleQ (P := In50 ch c l j ln Z) ?_ ln.length _ _ ⟨0,Z,by omega,rfl,rfl,rfl⟩
   rintro Q2 K2 hQ2 hK2 μ2 _ _ ⟨k,Z2,hk,hZ2,rfl,rfl⟩
   cases μ2 with
   | zero =>
    obtain rfl : k = ln.length := by omega
    have hnk : ¬ (ln.length : Int) < (ln.length : Int) := by omega
    have hwj := wrap_succ j (by have := hls.1;omega)
    have hst := wordsC_drop c cp.2 j ln 0 hw
    rw [Nat.zero_add,Nat.zero_add] at hst
    rw [List.drop_length] at hZ2
    have hZ3 : Z2 = Z ++ wordsL c j 0 ln := by rw [← hZ2];simp [wordsL]
    simp -implicitDefEqProofs only [t50,go_sem,↓reduceIte,Int.reduceEq,Int.reduceLT,Int.reduceLE,List.reduceReplicate,intA,setT_nil,setT_cons,hjx,hsl.cells,hsl.flat,hsl.len,hlen,hnk,↓boolP_bool,↓iteB_true,↓iteB_false]
    refine hK2 _ _ _ ?_
    simp -implicitDefEqProofs only [go_sem,↓reduceIte,Int.reduceEq,Int.reduceLT,Int.reduceLE,List.reduceReplicate,intA,setT_nil,setT_cons,hwj,↓boolP_bool,↓iteB_true,↓iteB_false]
    rw [show objs.length = (h50 ch Z).size by rw [hH];rfl,h50t ch Z Z2 _ hZ3 _ (by simp)]
    exact Again.mk' μ (by omega) (hQ _ _ _ ⟨j + 1,Z2,by omega,by rw [hZ3,List.append_assoc,← hst];exact hZ,rfl,rfl⟩)
   | succ μ2 =>
    have hltk : (k : Int) < ((ln.length : Nat) : Int) := by omega
    obtain ⟨s,hs⟩ := at_lt ln k (by omega)
    have hkx := hsl.idx (strs_get hs)
    have hstep := wordsL_drop c j ln k s 0 hs
    rw [Nat.zero_add,Nat.zero_add] at hstep
    have hlZ : Z2.length < 100000 := by
     have h1 := congrArg List.length hZ2
     have h2 := congrArg List.length hZ
     have h3 := wordsC_drop c cp.2 j ln 0 hw
     rw [Nat.zero_add] at h3
     rw [h3] at h2
     simp only [List.length_append] at h1 h2
     omega
    have hf1 : fitsA 16 1 = true := by decide
    have hf2 : fitsA 24 1 = true := by decide
    have hwk := wrap_succ k (by have := hln ln (List.mem_of_getElem? hw);omega)
    rcases Z2 with _ | ⟨z,Z2⟩
    ·simp -implicitDefEqProofs only [h50,t50,s50a,s50b,go_sem,↓reduceIte,Int.reduceEq,Int.reduceLT,Int.reduceLE,List.reduceReplicate,intA,setT_nil,setT_cons,hltk,hjx,hkx,hsl.cells,hsl.len,hsl.flat,hlen,hf1,hf2,hwk,bound_sl,List.flatMap_cons,List.flatMap_nil,List.append_nil,cells_v,cells_g,flat_v,List.all_cons,List.all_nil,↓boolP_bool,↓iteB_true,↓iteB_false]
     rw [trim_big (fun h => absurd (boundL_le.1 h (.sl 2 0 0 1 none) (by simp)) (by show ¬ 2 + 1 ≤ 1;omega))]
     exact Again.mk' μ2 (by omega) (hQ2 _ _ _ ⟨k + 1,[((c,j,k),s)],by omega,by rw [← hZ2,hstep];rfl,rfl,rfl⟩)
    ·have hlZ : Z2.length + 1 < 100000 := hlZ
     have hf3 : fitsA 16 (Z2.length + 1 + 1) = true := by unfold fitsA;exact decide_eq_true (by omega)
     have hf4 : fitsA 24 (Z2.length + 1 + 1) = true := by unfold fitsA;exact decide_eq_true (by omega)
     have ha1 := fun B0 B2 x slot => app1' B0 B2 Z2.length (wds (z :: Z2)) (by rw [wds_len];rfl) hf3 x slot
     have ha2 := fun B0 B1 x y z' slot => app2' B0 B1 Z2.length (pcs (z :: Z2)) (by rw [pcs_len];rfl) hf4 x y z' slot
     simp -implicitDefEqProofs only [h50,t50,s50a,s50b,go_sem,↓reduceIte,Int.reduceEq,Int.reduceLT,Int.reduceLE,List.reduceReplicate,intA,setT_nil,setT_cons,hltk,hjx,hkx,hsl.cells,hsl.len,hsl.flat,hlen,ha1,ha2,hwk,bound_sl,List.flatMap_cons,List.flatMap_nil,List.append_nil,cells_v,cells_g,flat_v,List.all_cons,List.all_nil,↓boolP_bool,↓iteB_true,↓iteB_false]
     refine Again.mk' μ2 (by omega) (hQ2 _ _ _ ⟨k + 1,z :: (Z2 ++ [((c,j,k),s)]),by omega,by rw [← hZ2,hstep];simp, ?_, ?_⟩)
     ·simp only [t50,s50a,s50b,List.length_append,List.length_cons,List.length_nil];rfl
     ·simp only [h50,List.length_append,List.length_cons,List.length_nil]
      rw [show z :: (Z2 ++ [((c,j,k),s)]) = (z :: Z2) ++ [((c,j,k),s)] from rfl,wds_snoc,pcs_snoc]
      rfl
 ·exact ⟨0,[],by omega,rfl,rfl,rfl⟩
end Go.Ev
namespace Go.Ev
open Go.Proofs
attribute [local irreducible] Wp WpS
end Go.Ev
namespace Go.Ev
open Go.Proofs
attribute [local irreducible] Wp WpS
theorem width_parts {s B A : ByteArray} {n : Nat} (h : widthN s B A ≤ n) : s.size ≤ n ∧ B.size ≤ n ∧ A.size ≤ n := by
 unfold widthN at h
 have h1 := partN_size B
 have h2 := partN_size A
 omega
end Go.Ev
namespace Go.Ev
open Go.Proofs
attribute [local irreducible] Wp WpS
def t7 (ch : AV) (w sd n m : Nat) (Z : List (Plc × ByteArray)) (j : Nat) : List (Tmp × AV) := [(0,.agg [ch]),(1,.agg [intA w,.v (.int .u8 sd)]),(2,.v (.int .u16 n)),(3,.v (.int .u8 m)),(4,.ptr 0 0 0),(5,.ptr 1 0 0),(8,.v (.bool false)),(9,.v (.bool true)),(31,.v (.bool false)),(10,.ptr 2 0 0),(11,.v (.bool true)),(12,.ptr 3 0 0),(13,.ptr 4 0 0),(14,intA 0),(15,.ptr 5 0 0),(16,intA 0),(90,.v (.bool false)),(17,.vs 1 (wds Z) none),(18,.vs 3 (pls Z) none),(19,intA j)]
def h7 (ch : AV) (w sd w' a b c : Nat) (s B A B' A' : ByteArray) : List (Option AObj) := [some (.cells 0 0 24 1 false [ch]),some (.cells 0 0 26 1 false [intA w,.v (.int .u8 sd)]),some (.cells 0 0 28 1 false [intA a,intA b,intA c]),some (.cells 0 0 26 1 false [intA w',.v (.int .u8 sd)]),some (.cells 0 0 30 1 false [intA a,intA b,intA c,.v (.string s),.v (.string B),.v (.string A)]),some (.cells 0 0 30 1 false [intA a,intA b,intA c,.v (.string s),.v (.string B'),.v (.string A')])]
end Go.Ev
namespace Go.Ev
open Go.Proofs
end Go.Ev
namespace Go.Ev
open Go.Proofs
attribute [local irreducible] Wp WpS
def sG (b : Nat) : List AV → AV
 | [] => .v (.slice none 0 0)
 | _ :: L => .sl b L.length 0 (L.length + 1) none
end Go.Ev
namespace Go.Ev
open Go.Proofs
attribute [local irreducible] Wp WpS
def t75 (ch : AV) (w sd : Nat) (R : List AV) (n : Nat) (L : List AV) (j : Nat) : List (Tmp × AV) := [(0,.agg [ch]),(1,.agg [intA w,.v (.int .u8 sd)]),(2,.ptr 0 0 0),(3,.ptr 1 0 0),(4,.v (.slice none 0 0)),(5,sG 3 L),(11,.vs 4 R none),(12,intA n),(13,intA j)]
end Go.Ev
namespace Go.Ev
open Go.Proofs
attribute [local irreducible] Wp WpS
theorem slice_midA {P : Program} {t et sz : Nat} (hu : P.underlying t = some (.slice et)) (hs : sizeT P et = some sz) (xs : List AV) (cap : Option Nat) (i j : Nat) (hij : i ≤ j) (hj : j ≤ xs.length) : ∃ cap',∀ H : Heap,sliceA P H t (.vs sz xs cap) (some (.v (.int .i64 i))) (some (.v (.int .i64 j))) none = some (.vs sz ((xs.take j).drop i) cap') := by
 have h1 : (0 : Int) ≤ (j : Int) ∧ (j : Int) ≤ (xs.length : Int) := by omega
 have h2 : (0 : Int) ≤ (i : Int) ∧ (i : Int) ≤ (j : Int) := by omega
 refine ⟨capOf none xs.length i cap, ?_⟩
 intro H
 unfold sliceA
 simp [hu,hs,boundA,h1,h2]
end Go.Ev
namespace Go.Ev
open Go.Proofs
attribute [local irreducible] Wp WpS
end Go.Ev
namespace Go.Ev
open Go.Proofs
attribute [local irreducible] Wp WpS
def addB (s : ByteArray) (b : UInt8) : ByteArray := ⟨(s.data.toList ++ [b]).toArray⟩
theorem add_one {s x : ByteArray} {j : Nat} {b : UInt8} (h : x.data.toList[j]? = some b) : s ++ x.extract j (j + 1) = addB s b := by
 have hlt := (List.getElem?_eq_some_iff.1 h).1
 apply ByteArray.ext
 apply Array.toList_inj.1
 unfold addB
 simp only [ByteArray.data_append,Array.toList_append,ByteArray.data_extract,Array.toList_extract]
 have : List.extract x.data.toList j (j + 1) = [b] := by
  rw [List.extract_eq_take_drop]
  rw [show j + 1 - j = 1 by omega,List.drop_eq_getElem_cons hlt,List.take_succ_cons,List.take_zero,(List.getElem?_eq_some_iff.1 h).2]
 rw [this]
def splR : List UInt8 → Line → ByteArray → Line
 | [],L,s => L ++ [s]
 | b :: r,L,s => if b.toNat = 32 then splR r (L ++ [s]) emp else splR r L (addB s b)
def splB (s : ByteArray) : Line := splR s.data.toList [] emp
theorem strs_snoc (L : Line) (s : ByteArray) : strs (L ++ [s]) = strs L ++ [.v (.string s)] := by unfold strs;simp
theorem addB_size (s : ByteArray) (b : UInt8) : (addB s b).size = s.size + 1 := by
 unfold addB
 show ((s.data.toList ++ [b]).toArray).size = s.data.size + 1
 simp
theorem frz1 {H : Heap} (hk : H.lock = 0) {b n e len : Nat} {g : Bool} {L : Line} (hL : L.length = len) (hr : H.row b n = some (0,e,1,g,strs L)) (cap : Option Nat) (k : Nat) : freezeV H (k + 1) (.sl b n 0 len cap) = some (.vs 1 (strs L) none) := by
 have h1 := strs_len L
 have h4 := chunk_one (strs L)
 unfold freezeV
 simp only [hr]
 rw [if_neg (by omega),if_pos ⟨by omega,by omega⟩,if_pos trivial,List.drop_zero,List.take_of_length_le (by omega),← hL,← h1,h4]
def o72 : Line → AV
 | [] => .sl 0 0 0 1 (some 1)
 | _ :: L => .sl 2 L.length 0 (L.length + 2) none
def h72 (c0 s : ByteArray) : Line → Heap
 | [] => ⟨[some (.cells 0 0 9 1 false [.v (.string s)])],0⟩
 | x :: L => ⟨[some (.cells 0 0 9 1 false [.v (.string c0)]),some (.cells 0 0 9 1 false [.v (.string emp)]),some (.cells L.length 0 9 1 true (strs (x :: L) ++ [.v (.string s)]))],0⟩
theorem lenI_sl (b v o n : Nat) (c : Option Nat) : lenI Tryz.prog [87] [.sl b v o n c] = some (.v (.int .i64 n)) := by
 unfold lenI lenA
 simp [und_87]
theorem slIdx_sl (b v n : Nat) (c : Option Nat) (i : Nat) (h : i < n) : slIdx 1 (.sl b v 0 n c) (.v (.int .i64 (i : Int))) = some (.ptr b v i) := by
 unfold slIdx
 simp;omega
theorem appTo_full {e sz b' : Nat} {H : Heap} {slot b v len n : Nat} {new : List AV} {m e' : Nat} {g : Bool} {cs : List AV} (hr : H.row b v = some (m,e',sz,g,cs)) (hl : len * sz = cs.length) (hf : fitsA b' (len + n) = true) (hc : cs.all AV.flat = true) (hb : boundL cs = 0) (hb2 : boundL new = 0) (hn : 0 < n) :
  appTo e sz b' H slot n new (.sl b v 0 len (some len)) = some (.sl slot 0 0 (len + n) none,H.put slot (.cells 0 0 e sz true (cs ++ new))) := by
 unfold appTo
 simp only [hr]
 rw [if_neg (by omega),if_neg (by omega),if_pos (by omega),List.drop_zero,List.take_of_length_le (by omega),hf,hc,hb,hb2]
 rfl
theorem trim3 {a0 a1 a2 : AObj} {q : Option AObj} {vs : List AV} (h0 : a0.bound ≤ 3) (h1 : a1.bound ≤ 3) (h2 : a2.bound ≤ 3) (hv : boundL vs ≤ 3) : (Heap.mk [some a0,some a1,some a2,q] 0).trim 3 vs [] = ⟨[some a0,some a1,some a2],0⟩ := by
 unfold Heap.trim
 rw [if_pos]
 ·rfl
 ·simp [boundsOk,Nat.ble_eq,hv,h0,h1,h2]
theorem ansS72 {e : Exts} (he : Quiet e) (s : ByteArray) (h0 : s ≠ emp) (h80 : s.size ≤ 80) (hW : ∀ x ∈ splB s,wordB x = true) : Ans (Cx e) 72 [.v (.string s)] (.tup [.vs 1 (strs (splB s)) none,.v (.bool true)]) := by
 have hsz : s.data.toList.length = s.size := by simp
 have d1 : decide (s = (⟨#[]⟩ : ByteArray)) = false := decide_eq_false h0
 have d2 : ¬ (80 : Int) < (s.size : Int) := by omega
 unfold Ans
 rw [fn_step (fn_72 e) (show Tryz.f72.body = some _ from rfl)]
 simp -implicitDefEqProofs only [Tryz.f72,go_sem,↓reduceIte,Int.reduceEq,Int.reduceLT,Int.reduceLE,List.reduceReplicate,intA,setT_nil,setT_cons,bin_seq,d1,d2,↓boolP_bool,↓iteB_true,↓iteB_false]
 refine Lp_ruleQ (P := fun μ a H => ∃ j L c c0,j + μ = s.size ∧ L.length ≤ j ∧ c.size ≤ j ∧ splR (s.data.toList.drop j) L c = splB s ∧ a = ⟨52,[(0,.v (.string s)),(2,.v (.slice none 0 0)),(3,.v (.bool false)),(8,.v (.bool false)),(11,.v (.bool false)),(4,o72 L),(5,intA j)],[]⟩ ∧ H = h72 c0 c L) ?_ s.size _ _ ⟨0,[],emp,emp,by omega,by simp,by decide,rfl,rfl,rfl⟩
 ·rintro Q KK hQ hKK μ _ _ ⟨j,L,c,c0,hj,hLj,hcj,hspl,rfl,rfl⟩
  cases μ with
  | zero =>
   obtain rfl : j = s.size := by omega
   rw [List.drop_of_length_le (by omega),splR] at hspl
   have hnj : ¬ ((s.size : Nat) : Int) < ((s.size : Nat) : Int) := by omega
   obtain ⟨bb,vv,cap,g,ho,hrow⟩ : ∃ bb vv cap g,o72 L = .sl bb vv 0 (L ++ [c]).length cap ∧ (h72 c0 c L).row bb vv = some (0,9,1,g,strs (L ++ [c])) := by
    rcases L with _ | ⟨x,L⟩
    ·exact ⟨0,0,some 1,false,rfl,rfl⟩
    ·refine ⟨2,L.length,none,true, ?_, ?_⟩
     ·simp only [o72,List.length_append,List.length_cons,List.length_nil]
     ·rw [strs_snoc];unfold h72 Heap.row Heap.get;simp
   have hlk : (h72 c0 c L).lock = 0 := by cases L <;> rfl
   rw [ho]
   generalize h72 c0 c L = X at *
   rw [hspl] at hrow ⊢
   generalize splB s = W at *
   obtain ⟨N,hN⟩ : ∃ N,X.size = N := ⟨_,rfl⟩
   have hWl : W.length < 1000 := by rw [← hspl,List.length_append,List.length_cons,List.length_nil];omega
   have hln : slLen (.sl bb vv 0 W.length cap) = some (.v (.int .i64 W.length)) := rfl
   simp -implicitDefEqProofs only [go_sem,↓reduceIte,Int.reduceEq,Int.reduceLT,Int.reduceLE,List.reduceReplicate,intA,setT_nil,setT_cons,hnj,↓boolP_bool,↓iteB_true,↓iteB_false]
   refine hKK _ _ _ ?_
   simp -implicitDefEqProofs only [go_sem,↓reduceIte,Int.reduceEq,Int.reduceLT,Int.reduceLE,List.reduceReplicate,intA,setT_nil,setT_cons,↓boolP_bool,↓iteB_true,↓iteB_false]
   have hkc : X.lock ≤ N := by omega
   refine Lp_ruleQ (P := fun μ a H => ∃ i,i + μ = W.length ∧ a = ⟨52,[(0,.v (.string s)),(2,.v (.slice none 0 0)),(3,.v (.bool false)),(8,.v (.bool false)),(11,.v (.bool false)),(4,.sl bb vv 0 W.length cap),(5,intA s.size),(6,intA i)],[]⟩ ∧ X = H) ?_ W.length _ _ ⟨0,by omega,rfl,rfl⟩
   rintro Q2 K2 hQ2 hK2 μ2 _ _ ⟨i,hi,rfl,rfl⟩
   cases μ2 with
   | zero =>
    obtain rfl : i = W.length := by omega
    have hni : ¬ ((W.length : Nat) : Int) < ((W.length : Nat) : Int) := by omega
    simp -implicitDefEqProofs only [go_sem,↓reduceIte,Int.reduceEq,Int.reduceLT,Int.reduceLE,List.reduceReplicate,intA,setT_nil,setT_cons,hln,hni,↓boolP_bool,↓iteB_true,↓iteB_false]
    refine hK2 _ _ _ ?_
    simp -implicitDefEqProofs only [go_sem,↓reduceIte,Int.reduceEq,Int.reduceLT,Int.reduceLE,List.reduceReplicate,intA,setT_nil,setT_cons,↓boolP_bool,↓iteB_true,↓iteB_false]
    have e1 : ∀ k,freezeV X (k + 1) (.sl bb vv 0 W.length cap) = some (.vs 1 (strs W) none) := fun k => frz1 hlk rfl hrow cap k
    have e2 : ∀ k,freezeV X (k + 1) (.v (.bool true)) = some (.v (.bool true)) := fun k => rfl
    have e3 : ∀ k,freezeL X (k + 4) [.sl bb vv 0 W.length cap,.v (.bool true)] = some [.vs 1 (strs W) none,.v (.bool true)] := fun k => by simp only [freezeL,e1,e2]
    have hX0 : ({ X with lock := 0 } : Heap) = X := by rw [← hlk]
    show freezeV { X with lock := 0 } 1000000 _ = _
    rw [hX0]
    show (freezeL X (999995 + 4) _).map AV.tup = _
    rw [e3];rfl
   | succ μ2 =>
    obtain ⟨z,hz⟩ := at_lt W i (by omega)
    have hlti : (i : Int) < ((W.length : Nat) : Int) := by omega
    have hwi := wrap_succ i (by omega)
    have hix := slIdx_sl bb vv W.length cap i (by omega)
    have hcell := strs_get hz
    have c89 := fun me d H => (ans61 he z (by have := hW z (List.mem_of_getElem? hz);unfold wordB at this;rw [Bool.and_eq_true,range1] at this;have := this.1;simp at this;omega)).call (me := me) (d := d) (ext_89 he) (pure_89 _ _ _) rfl H
    rw [hW z (List.mem_of_getElem? hz)] at c89
    simp -implicitDefEqProofs only [go_sem,↓reduceIte,Int.reduceEq,Int.reduceLT,Int.reduceLE,List.reduceReplicate,intA,setT_nil,setT_cons,hln,hlti,hix,hrow,hcell,c89,hwi,↓boolP_bool,↓iteB_true,↓iteB_false]
    exact Again.mk' μ2 (by omega) (hQ2 _ _ _ ⟨i + 1,by omega,rfl,rfl⟩)
  | succ μ =>
   obtain ⟨b,hb⟩ : ∃ b,s.data.toList[j]? = some b := ⟨s.data.toList[j]'(by omega),List.getElem?_eq_getElem _⟩
   obtain ⟨hlt,hbg⟩ := List.getElem?_eq_some_iff.1 hb
   have hltj : (j : Int) < ((s.size : Nat) : Int) := by omega
   have hw := wrap_succ j (by omega)
   have hj0 : (0 : Int) ≤ (j : Int) := by omega
   have hst : strAt s j = some b := by unfold strAt;exact hb
   rw [List.drop_eq_getElem_cons hlt,hbg,splR] at hspl
   by_cases h32 : b.toNat = 32
   ·have h32i : (b.toNat : Int) = 32 := by omega
    rw [if_pos h32] at hspl
    rcases L with _ | ⟨x,L⟩
    ·simp -implicitDefEqProofs only [h72,o72,go_sem,↓reduceIte,Int.reduceEq,Int.reduceLT,Int.reduceLE,List.reduceReplicate,intA,setT_nil,setT_cons,hltj,hj0,Int.toNat_natCast,hst,h32i,hw,decide_true,↓boolP_bool,↓iteB_true,↓iteB_false]
     rw [appTo_full (m := 0) (e' := 9) (g := false) (cs := [.v (.string c)]) rfl rfl (by decide) rfl rfl rfl (by omega)]
     simp -implicitDefEqProofs only [go_sem,↓reduceIte,Int.reduceEq,Int.reduceLT,Int.reduceLE,List.reduceReplicate,intA,setT_nil,setT_cons,↓boolP_bool,↓iteB_true,↓iteB_false]
     rw [trim_big (fun h => absurd (boundL_le.1 h (.sl 2 0 0 2 none) (by simp)) (by show ¬ 2 + 1 ≤ 1;omega))]
     exact Again.mk' μ (by omega) (hQ _ _ _ ⟨j + 1,[c],emp,c,by omega,by simp,by show 0 ≤ _;omega,hspl,rfl,rfl⟩)
    ·simp -implicitDefEqProofs only [h72,o72,go_sem,↓reduceIte,Int.reduceEq,Int.reduceLT,Int.reduceLE,List.reduceReplicate,intA,setT_nil,setT_cons,hltj,hj0,Int.toNat_natCast,hst,h32i,hw,decide_true,↓boolP_bool,↓iteB_true,↓iteB_false]
     have hcl : (strs (x :: L) ++ [AV.v (.string c)]).length = L.length + 2 := by rw [List.length_append,strs_len];rfl
     rw [appTo_own (m := 0) (e' := 9) (cs := strs (x :: L) ++ [.v (.string c)]) (by unfold Heap.row Heap.get;simp) (by rw [hcl];omega) (Nat.zero_le _) (by unfold fitsA;exact decide_eq_true (by simp only [List.length_cons] at hLj;omega)) (by omega) (by omega)]
     simp -implicitDefEqProofs only [go_sem,↓reduceIte,Int.reduceEq,Int.reduceLT,Int.reduceLE,List.reduceReplicate,intA,setT_nil,setT_cons,↓boolP_bool,↓iteB_true,↓iteB_false]
     rw [trim3]
     rotate_left
     iterate 3 exact Nat.zero_le _
     ·simp only [boundL_cons,boundL_nil,bound_v,bound_sl];decide
     refine Again.mk' μ (by omega) (hQ _ _ _ ⟨j + 1,x :: (L ++ [c]),emp,c0,by omega,by simp only [List.length_cons,List.length_append,List.length_nil] at hLj ⊢;omega,by show 0 ≤ _;omega,hspl, ?_, ?_⟩)
     ·simp only [o72,List.length_append,List.length_cons,List.length_nil]
      rw [show L.length + 2 + 1 = L.length + (0 + 1) + 2 by omega];rfl
     ·simp only [h72,List.length_append,List.length_cons,List.length_nil]
      rw [show x :: (L ++ [c]) = (x :: L) ++ [c] from rfl,strs_snoc]
      rfl
   ·have h32i : ¬ (b.toNat : Int) = 32 := by omega
    rw [if_neg h32] at hspl
    have hsl : sliceI Tryz.prog 9 (.v (.string s)) (some (.v (.int .i64 j))) (some (.v (.int .i64 (j + 1 : Nat)))) none = some (.v (.string (s.extract j (j + 1)))) := by
     have h1 : (0 : Int) ≤ ((j + 1 : Nat) : Int) ∧ ((j + 1 : Nat) : Int) ≤ (s.size : Int) := by omega
     have h2 : (0 : Int) ≤ (j : Int) ∧ (j : Int) ≤ ((j + 1 : Nat) : Int) := by omega
     unfold sliceI sliceA
     rw [und_9]
     have h3 : (0 : Int) ≤ (j : Int) + 1 ∧ (j : Int) + 1 ≤ (s.size : Int) := by omega
     have h4 : (j : Int) ≤ (j : Int) + 1 := by omega
     simp [boundA,h1,h2,h3,h4]
    have hadd : strOp .add c (s.extract j (j + 1)) = some (.string (addB c b)) := by
     unfold strOp
     rw [add_one hb]
     simp only
     rw [if_pos]
     have : (s.extract j (j + 1)).size ≤ s.size := by simp [ByteArray.size_extract];omega
     omega
    rcases L with _ | ⟨x,L⟩
    ·have hw1 : IntKind.i64.wrap (((1 : Nat) : Int) - 1) = ((0 : Nat) : Int) := by decide
     have hi0 := slIdx_sl 0 0 1 (some 1) 0 (by omega)
     simp -implicitDefEqProofs only [h72,o72,go_sem,↓reduceIte,Int.reduceEq,Int.reduceLT,Int.reduceLE,List.reduceReplicate,intA,setT_nil,setT_cons,hltj,hj0,Int.toNat_natCast,hst,h32i,decide_false,↓boolP_bool,↓iteB_true,↓iteB_false]
     refine wp_drawX [([],[],false),([],[],false),([],[],false),([],[],false),([],[],false),([],[],false),([],[],false),([],[],false),([],[],false),([],[],false),([2,5],[],false),([],[],false),([],[],false),([],[],false)] (by kernel_rfl) (by kernel_rfl) ?_
     simp -implicitDefEqProofs only [go_sem,↓reduceIte,Int.reduceEq,Int.reduceLT,Int.reduceLE,List.reduceReplicate,intA,setT_nil,setT_cons,lenI_sl,hw,hw1,hi0,hsl,hadd,atomA_str,↓boolP_bool,↓iteB_true,↓iteB_false]
     exact Again.mk' μ (by omega) (hQ _ _ _ ⟨j + 1,[],addB c b,c0,by omega,by simp,by rw [addB_size];omega,hspl,rfl,rfl⟩)
    ·have hw1 : IntKind.i64.wrap (((L.length + 2 : Nat) : Int) - 1) = ((L.length + 1 : Nat) : Int) := by rw [show ((L.length + 2 : Nat) : Int) - 1 = ((L.length + 1 : Nat) : Int) by omega];exact wrap_nat _ (by simp only [List.length_cons] at hLj;omega)
     have hi0 := slIdx_sl 2 L.length (L.length + 2) none (L.length + 1) (by omega)
     have hcl : (strs (x :: L) ++ [AV.v (.string c)]).length = L.length + 2 := by rw [List.length_append,strs_len];rfl
     have hgt : (strs (x :: L) ++ [AV.v (.string c)])[L.length + 1]? = some (.v (.string c)) := by
      have := strs_len (x :: L)
      rw [List.getElem?_append_right (by rw [this];simp),this];simp
     have hsp : List.take (L.length + 1) (strs (x :: L) ++ [AV.v (.string c)]) ++ [AV.v (.string (addB c b))] ++ List.drop (L.length + 1 + 1) (strs (x :: L) ++ [AV.v (.string c)]) = strs (x :: L) ++ [AV.v (.string (addB c b))] := by
      have := strs_len (x :: L)
      rw [List.take_left' (by rw [this];rfl),List.drop_of_length_le (by rw [List.length_append,this];simp),List.append_nil]
     generalize hcs : strs (x :: L) ++ [AV.v (.string c)] = cs at hcl hgt hsp
     simp -implicitDefEqProofs only [h72,o72,hcs,go_sem,↓reduceIte,Int.reduceEq,Int.reduceLT,Int.reduceLE,List.reduceReplicate,intA,setT_nil,setT_cons,hltj,hj0,Int.toNat_natCast,hst,h32i,decide_false,↓boolP_bool,↓iteB_true,↓iteB_false]
     refine wp_drawX [([],[],false),([],[],false),([],[],false),([],[],false),([],[],false),([],[],false),([],[],false),([],[],false),([],[],false),([],[],false),([2,5],[],false),([],[],false),([],[],false),([],[],false)] (by kernel_rfl) (by kernel_rfl) ?_
     simp -implicitDefEqProofs only [go_sem,↓reduceIte,Int.reduceEq,Int.reduceLT,Int.reduceLE,List.reduceReplicate,intA,setT_nil,setT_cons,lenI_sl,hw,hw1,hi0,hcl,hgt,hsp,hsl,hadd,atomA_str,↓boolP_bool,↓iteB_true,↓iteB_false]
     exact Again.mk' μ (by omega) (hQ _ _ _ ⟨j + 1,x :: L,addB c b,c0,by omega,by omega,by rw [addB_size];omega,hspl,rfl,by simp only [h72]⟩)
theorem splR_word : ∀ (x r : List UInt8) (L : Line) (c : ByteArray),(∀ b ∈ x,b.toNat ≠ 32) → splR (x ++ r) L c = splR r L ⟨(c.data.toList ++ x).toArray⟩
 | [],r,L,c,_ => by simp
 | b :: x,r,L,c,h => by
  rw [List.cons_append,splR,if_neg (h b (List.mem_cons_self ..)),splR_word x r L _ fun d hd => h d (List.mem_cons_of_mem _ hd)]
  unfold addB
  simp
theorem splR_join : ∀ (l : Line) (x : ByteArray) (L : Line),(∀ s ∈ x :: l,∀ b ∈ s.data.toList,b.toNat ≠ 32) → splR (Lib.join ((x :: l).map (·.data.toList)) [32]) L emp = L ++ x :: l
 | [],x,L,h => by
  simp only [List.map_cons,List.map_nil,join_one]
  have := splR_word x.data.toList [] L emp (h x (by simp))
  rw [List.append_nil] at this
  rw [this,splR]
  simp [emp]
 | y :: l,x,L,h => by
  have ih := splR_join l y (L ++ [x]) fun s hs => h s (List.mem_cons_of_mem _ hs)
  simp only [List.map_cons] at ih ⊢
  rw [join_cons2,splR_word _ _ _ _ (h x (by simp)),splR,if_pos (show UInt8.toNat 32 = 32 from rfl)]
  rw [show (⟨(emp.data.toList ++ x.data.toList).toArray⟩ : ByteArray) = x by simp [emp],ih]
  simp
theorem splB_join {l : Line} (hl : l ≠ []) (hp : ∀ s ∈ l,plainW s) : splB (joinB l) = l := by
 unfold splB
 rw [joinB_data]
 cases l with
 | nil => exact absurd rfl hl
 | cons x r => exact splR_join r x [] fun s hs b hb => ((hp s hs).2 b hb).2
end Go.Ev
namespace Go.Ev
open Go.Proofs
attribute [local irreducible] Wp WpS
theorem eq30_gen (x y : Operand) (a b c : Int) (s u v u' v' : ByteArray) : binA Tryz.prog .eql 30 x y (.agg [.v (.int .i64 a),.v (.int .i64 b),.v (.int .i64 c),.v (.string s),.v (.string u),.v (.string v)]) (.agg [.v (.int .i64 a),.v (.int .i64 b),.v (.int .i64 c),.v (.string s),.v (.string u'),.v (.string v')]) = some (.v (.bool (eqCells [.string u,.string v] [.string u',.string v']))) := by
 have := (bin_struct (P := Tryz.prog) (t := 30) (us := [.int .i64 a,.int .i64 b,.int .i64 c,.string s,.string u,.string v]) (ws := [.int .i64 a,.int .i64 b,.int .i64 c,.string s,.string u',.string v']) (n := 6) (by kernel_rfl) (by decide) (by kernel_rfl) (by kernel_rfl) x y).1
 rw [show eqCells [.int .i64 a,.int .i64 b,.int .i64 c,.string s,.string u,.string v] [.int .i64 a,.int .i64 b,.int .i64 c,.string s,.string u',.string v'] = eqCells [.string u,.string v] [.string u',.string v'] by simp [eqCells,eqCell]] at this
 exact this
theorem eqS_self (u v : ByteArray) : eqCells [.string u,.string v] [.string u,.string v] = true := by simp [eqCells,eqCell]
theorem ansS72e {e : Exts} : Ans (Cx e) 72 [.v (.string emp)] (.tup [.v (.slice none 0 0),.v (.bool true)]) := by
 have d1 : decide (emp = (⟨#[]⟩ : ByteArray)) = true := decide_eq_true rfl
 unfold Ans
 rw [fn_step (fn_72 e) (show Tryz.f72.body = some _ from rfl)]
 simp -implicitDefEqProofs only [Tryz.f72,go_sem,↓reduceIte,Int.reduceEq,Int.reduceLT,Int.reduceLE,List.reduceReplicate,intA,setT_nil,setT_cons,bin_seq,d1,↓boolP_bool,↓iteB_true,↓iteB_false]
 rfl
theorem parts_ok {e : Exts} (he : Quiet e) (l : Line) (hw : ∀ s ∈ l,wordB s = true) (h80 : (joinB l).size ≤ 80) : ∃ v,bound v = 0 ∧ Ans (Cx e) 72 [.v (.string (joinB l))] (.tup [v,.v (.bool true)]) := by
 have hp : ∀ s ∈ l,plainW s := fun s hs => plainW_of (hw s hs)
 by_cases h : l = []
 ·subst h
  exact ⟨_,rfl,ansS72e⟩
 ·have hne : joinB l ≠ emp := by
   have h1 := joinB_size h
   have h2 := sumS_pos fun s hs => (hp s hs).1
   have h3 : 0 < l.length := List.length_pos_iff.2 h
   have h4 : emp.size = 0 := rfl
   intro he;rw [he,h4] at h1;omega
  refine ⟨_,rfl,ansS72 he (joinB l) hne h80 ?_⟩
  rw [splB_join h hp];exact hw
theorem ansS48 {e : Exts} (he : Quiet e) (a b c : Int) (s : ByteArray) (hs : wordB s = true) (B A : Line) (hB : ∀ s ∈ B,wordB s = true) (hA : ∀ s ∈ A,wordB s = true) (h1 : (joinB B).size ≤ 80) (h2 : (joinB A).size ≤ 80) : Ans (Cx e) 48 [.agg [intA a,intA b,intA c,.v (.string s),.v (.string (joinB B)),.v (.string (joinB A))]] (.v (.bool true)) := by
 obtain ⟨v,hv,aB⟩ := parts_ok he B hB h1
 obtain ⟨u,hu,aA⟩ := parts_ok he A hA h2
 have cB := fun me d H => aB.call (me := me) (d := d) (ext_72 he) (pure_72 _ _ _) rfl H
 have cA := fun me d H => aA.call (me := me) (d := d) (ext_72 he) (pure_72 _ _ _) rfl H
 have c89 := fun me d H => (ans61 he s (by have := (word_size hs).2;omega)).call (me := me) (d := d) (ext_89 he) (pure_89 _ _ _) rfl H
 rw [hs] at c89
 unfold Ans
 rw [fn_step (fn_48 e) (show Tryz.f48.body = some _ from rfl)]
 simp -implicitDefEqProofs only [Tryz.f48,go_sem,↓reduceIte,Int.reduceEq,Int.reduceLT,Int.reduceLE,List.reduceReplicate,intA,setT_nil,setT_cons,cB,cA,c89,↓boolP_bool,↓iteB_true,↓iteB_false]
def preB (l : Line) : ByteArray := ⟨(l.flatMap fun s => s.data.toList ++ [32]).toArray⟩
theorem preB_snoc (l : Line) (s : ByteArray) : preB l ++ (s ++ spc) = preB (l ++ [s]) := by
 apply ByteArray.ext
 apply Array.toList_inj.1
 unfold preB spc
 simp
theorem pre_join : ∀ l : Line,l ≠ [] → (l.flatMap fun s => s.data.toList ++ [32]) = Lib.join (l.map (·.data.toList)) [32] ++ [32]
 | [],h => absurd rfl h
 | [x],_ => by simp [join_one]
 | x :: y :: r,_ => by
  have ih := pre_join (y :: r) (by simp)
  rw [List.flatMap_cons,ih]
  simp only [List.map_cons,join_cons2]
  simp
theorem preB_cut {l : Line} (h : l ≠ []) : (preB l).extract 0 ((preB l).size - 1) = joinB l := by
 have h1 := pre_join l h
 have h2 : (preB l).size = (Lib.join (l.map (·.data.toList)) [32]).length + 1 := by
  show ((l.flatMap fun s => s.data.toList ++ [32]).toArray).size = _
  rw [h1];simp
 apply ByteArray.ext
 apply Array.toList_inj.1
 rw [h2]
 unfold preB joinB
 rw [h1]
 simp only [ByteArray.data_extract,Array.toList_extract]
 rw [List.extract_eq_take_drop]
 simp
theorem joinB_snoc {l : Line} (h : l ≠ []) (s : ByteArray) : joinB l ++ (spc ++ s) = joinB (l ++ [s]) := by
 apply ByteArray.ext
 apply Array.toList_inj.1
 unfold joinB spc
 have : ∀ l : Line,l ≠ [] → Lib.join ((l ++ [s]).map (·.data.toList)) [32] = Lib.join (l.map (·.data.toList)) [32] ++ (32 :: s.data.toList) := by
  intro l
  induction l with
  | nil => intro h;exact absurd rfl h
  | cons x r ih =>
   intro _
   cases r with
   | nil => simp only [List.cons_append,List.nil_append,List.map_cons,List.map_nil,join_cons2,join_one]
   | cons y r =>
    have := ih (by simp)
    simp only [List.cons_append,List.map_cons,join_cons2] at this ⊢
    rw [this];simp
 rw [this l h]
 simp
theorem joinB_one (s : ByteArray) : joinB [s] = s := by
 apply ByteArray.ext
 apply Array.toList_inj.1
 unfold joinB
 simp [join_one]
end Go.Ev
namespace Go.Ev
open Go.Proofs
attribute [local irreducible] Wp WpS
end Go.Ev
namespace Go.Ev
open Go.Proofs
attribute [local irreducible] Wp WpS
def befA (ws : Line) (i a : Nat) : ByteArray := joinB ((ws.take i).drop a)
def aftA (ws : Line) (i b : Nat) : ByteArray := joinB ((ws.take (b + 1)).drop (i + 1))
structure Longest (e : Exts) (ch : AV) (ws : Line) (i w sd a b c : Nat) (s B A : ByteArray) (a0 b0 : Nat) : Prop where
 ans : Ans (Cx e) 37 [.agg [ch],.agg [intA w,.v (.int .u8 sd)],.agg [intA a,intA b,intA c]] (.tup [.agg [intA a,intA b,intA c,.v (.string s),.v (.string B),.v (.string A)],intA 0])
 valid : Ans (Cx e) 48 [.agg [intA a,intA b,intA c,.v (.string s),.v (.string B),.v (.string A)]] (.v (.bool true))
 wid : widthN s B A ≤ w
 best : ∀ x y,x ≤ i → i ≤ y → y < ws.length → widthN s (befA ws i x) (aftA ws i y) ≤ w → widthN s (befA ws i x) (aftA ws i y) ≤ widthN s B A
 a0i : a0 ≤ i
 ib0 : i ≤ b0
 b0l : b0 < ws.length
 eB : B = befA ws i a0
 eA : A = aftA ws i b0
theorem longest {e : Exts} (he : Quiet e) (hj : e.x 127 = some joinStr) (t : Txt) (ht : Fits t) (hT : textB t = true) (ch : AV) (xs : List AV) (hch : SlOf 2 xs ch) (hall : All2 ChapA t xs) (w sd : Nat) (h1 : 12 ≤ w) (h2 : w ≤ 80) (h3 : 1 ≤ sd) (h4 : sd ≤ 3) (a b c : Nat) (cp : Chap) (hc : t[a]? = some cp) (ln : Line) (hl : cp.2[b]? = some ln) (s : ByteArray) (hs : ln[c]? = some s) :
  ∃ B A a0 b0,Longest e ch ((wordsC a 0 cp.2).map (·.2)) (atIx (wordsC a 0 cp.2) (a,b,c)) w sd a b c s B A a0 b0 := by
 obtain ⟨hp,hi,hps,h12⟩ := place_ctx hT hc hl hs
 have hsm := small_of hT
 have hcm := List.mem_of_getElem? hc
 have hwv : ∀ x ∈ (wordsC a 0 cp.2).map (·.2),wordB x = true := fun x hx => by
  obtain ⟨z,hz,rfl⟩ := List.mem_map.1 hx
  obtain ⟨-, -,l,u1,u2⟩ := wordsC_sub a cp.2 0 z hz
  exact hsm.word cp hcm l (List.mem_of_getElem? u1) z.2 (List.mem_of_getElem? u2)
 have hsv : wordB s = true := hwv s (List.mem_of_getElem? hi)
 have hlt := (List.getElem?_eq_some_iff.1 hi).1
 obtain ⟨b1,b2⟩ := ctxOf_best hT hc hl hs w sd h1
 have hw := ctx_width hp hi b1
 obtain ⟨c1,c2,c3,c4⟩ := (ctxs_iff (fun s hs => (hp s hs).1) hlt _).1 b1
 have e1 : widthN s (mkB a cp.2 b c w sd) (mkA a cp.2 b c w sd) = _ := hw
 obtain ⟨z1,z2,z3⟩ := width_parts (show widthN s (mkB a cp.2 b c w sd) (mkA a cp.2 b c w sd) ≤ 80 by rw [e1];omega)
 refine ⟨mkB a cp.2 b c w sd,mkA a cp.2 b c w sd,atIx (wordsC a 0 cp.2) (a,b,c) - (ctxOf (wordsC a 0 cp.2) (a,b,c) w sd).1,atIx (wordsC a 0 cp.2) (a,b,c) + (ctxOf (wordsC a 0 cp.2) (a,b,c) w sd).2.1, ?_⟩
 constructor
 ·have := ansS37 he hj t ht hT ch xs hch hall w sd h1 h2 h3 h4 a b c cp hc ln hl s hs
  rwa [mkV_eq] at this
 ·exact ansS48 he a b c s hsv _ _ (fun x hx => hwv x (sub_mem hx)) (fun x hx => hwv x (sub_mem hx)) z2 z3
 ·rw [e1];exact c4
 ·intro x y hx hy hyl hle
  have hi2 : atIx (wordsC a 0 cp.2) (a,b,c) - (atIx (wordsC a 0 cp.2) (a,b,c) - x) = x := by omega
  have k := ctx_width (w := widthN s (befA ((wordsC a 0 cp.2).map (·.2)) (atIx (wordsC a 0 cp.2) (a,b,c)) x) (aftA ((wordsC a 0 cp.2).map (·.2)) (atIx (wordsC a 0 cp.2) (a,b,c)) y) + segL ((wordsC a 0 cp.2).map (·.2)) (atIx (wordsC a 0 cp.2) (a,b,c)) (atIx (wordsC a 0 cp.2) (a,b,c) - x) (y - atIx (wordsC a 0 cp.2) (a,b,c))) hp hi (c := (atIx (wordsC a 0 cp.2) (a,b,c) - x,y - atIx (wordsC a 0 cp.2) (a,b,c),segL ((wordsC a 0 cp.2).map (·.2)) (atIx (wordsC a 0 cp.2) (a,b,c)) (atIx (wordsC a 0 cp.2) (a,b,c) - x) (y - atIx (wordsC a 0 cp.2) (a,b,c)))) ((ctxs_iff (fun s hs => (hp s hs).1) hlt _).2 ⟨by show atIx _ _ - x ≤ _;omega,by show atIx _ _ + (y - _) < _;omega,rfl,by show segL _ _ _ _ ≤ _;omega⟩)
  have k2 : widthN s (befA ((wordsC a 0 cp.2).map (·.2)) (atIx (wordsC a 0 cp.2) (a,b,c)) x) (aftA ((wordsC a 0 cp.2).map (·.2)) (atIx (wordsC a 0 cp.2) (a,b,c)) y) = segL ((wordsC a 0 cp.2).map (·.2)) (atIx (wordsC a 0 cp.2) (a,b,c)) (atIx (wordsC a 0 cp.2) (a,b,c) - x) (y - atIx (wordsC a 0 cp.2) (a,b,c)) := by
   refine Eq.trans ?_ k
   unfold befA aftA befB aftB
   simp only [hi2]
   rw [show atIx (wordsC a 0 cp.2) (a,b,c) + 1 + (y - atIx (wordsC a 0 cp.2) (a,b,c)) = y + 1 by omega]
  rw [k2] at hle ⊢
  rw [e1]
  have := best_len (b2 (atIx (wordsC a 0 cp.2) (a,b,c) - x,y - atIx (wordsC a 0 cp.2) (a,b,c),segL ((wordsC a 0 cp.2).map (·.2)) (atIx (wordsC a 0 cp.2) (a,b,c)) (atIx (wordsC a 0 cp.2) (a,b,c) - x) (y - atIx (wordsC a 0 cp.2) (a,b,c))) ((ctxs_iff (fun s hs => (hp s hs).1) hlt _).2 ⟨by show atIx _ _ - x ≤ _;omega,by show atIx _ _ + (y - _) < _;omega,rfl,hle⟩))
  exact this
 ·omega
 ·omega
 ·exact c2
 ·rfl
 ·unfold mkA aftB aftA
  rw [show atIx (wordsC a 0 cp.2) (a,b,c) + 1 + (ctxOf (wordsC a 0 cp.2) (a,b,c) w sd).2.1 = atIx (wordsC a 0 cp.2) (a,b,c) + (ctxOf (wordsC a 0 cp.2) (a,b,c) w sd).2.1 + 1 by omega]
theorem join_bd {l : Line} (hp : ∀ s ∈ l,s.size ≤ 12) : (joinB l).size ≤ l.length * 13 := by
 have h : ∀ l : Line,(∀ s ∈ l,s.size ≤ 12) → sumS l ≤ l.length * 12 := by
  intro l
  induction l with
  | nil => intro _;exact Nat.le_refl _
  | cons x r ih =>
   intro h
   have h1 := h x (List.mem_cons_self ..)
   have h2 := ih fun s hs => h s (List.mem_cons_of_mem _ hs)
   simp only [sumS,List.length_cons];omega
 have h2 := h l hp
 by_cases hl : l = []
 ·subst hl;decide
 ·have := joinB_size hl
  omega
theorem preB_bd {l : Line} (hp : ∀ s ∈ l,s.size ≤ 12) : (preB l).size ≤ l.length * 13 := by
 induction l with
 | nil => decide
 | cons x r ih =>
  have h1 := hp x (List.mem_cons_self ..)
  have h2 := ih fun s hs => hp s (List.mem_cons_of_mem _ hs)
  have : (preB (x :: r)).size = x.size + 1 + (preB r).size := by
   unfold preB
   show ((_ : List UInt8).toArray).size = _ + 1 + ((_ : List UInt8).toArray).size
   simp
   omega
  rw [this,List.length_cons];omega
theorem sadd {u v : ByteArray} (h : u.size + v.size ≤ 2 ^ 40) : strOp .add u v = some (.string (u ++ v)) := by
 unfold strOp
 simp only
 rw [if_pos h]
end Go.Ev
namespace Go.Ev
open Go.Proofs
attribute [local irreducible] Wp WpS
theorem trim4r {a0 a1 a2 a3 : AObj} {l : List (Option AObj)} {vs : List AV} (h0 : a0.bound ≤ 4) (h1 : a1.bound ≤ 4) (h2 : a2.bound ≤ 4) (h3 : a3.bound ≤ 4) (hv : boundL vs ≤ 4) : (Heap.mk (some a0 :: some a1 :: some a2 :: some a3 :: l) 0).trim 4 vs [] = ⟨[some a0,some a1,some a2,some a3],0⟩ := by
 unfold Heap.trim
 rw [if_pos]
 ·rfl
 ·simp [boundsOk,Nat.ble_eq,hv,h0,h1,h2,h3]
def t6 (ch : AV) (w sd n : Nat) (Z : List (Plc × ByteArray)) (j : Nat) : List (Tmp × AV) := [(0,.agg [ch]),(1,.agg [intA w,.v (.int .u8 sd)]),(2,.v (.int .u16 n)),(3,.ptr 0 0 0),(4,.ptr 1 0 0),(6,.v (.bool false)),(7,.v (.bool true)),(31,.v (.bool false)),(8,.ptr 2 0 0),(9,.v (.bool true)),(10,.ptr 3 0 0),(11,intA 0),(63,.v (.bool false)),(12,.vs 1 (wds Z) none),(13,.vs 3 (pls Z) none),(14,intA j)]
def h6 (ch : AV) (w sd a b c : Nat) (s B A : ByteArray) : List (Option AObj) := [some (.cells 0 0 24 1 false [ch]),some (.cells 0 0 26 1 false [intA w,.v (.int .u8 sd)]),some (.cells 0 0 28 1 false [intA a,intA b,intA c]),some (.cells 0 0 30 1 false [intA a,intA b,intA c,.v (.string s),.v (.string B),.v (.string A)])]
theorem ansS6 (t : Txt) (ht : Fits t) (ch : AV) (xs : List AV) (hch : SlOf 2 xs ch) (hall : All2 ChapA t xs) (w sd : Int) (hsd : 0 ≤ sd) (hsd2 : sd < 256) (n : Nat) (hn : n < 65536) : Ans (Cx eA) 6 [.agg [ch],.agg [intA w,.v (.int .u8 sd)],.v (.int .u16 n)] (.v (.bool true)) := by
 have he := quietA
 have b0 : boundL [AV.agg [ch],.agg [intA w,.v (.int .u8 sd)]] = 0 := by simp only [boundL_cons,bound_agg,hch.bound,boundL_nil];rfl
 have h42 := fun me d H => (ansS42 he t ht ch xs hch hall w sd hsd hsd2).call (me := me) (d := d) (ext_42 he) (pure_42 _ _ _) b0 H
 unfold intA at h42
 unfold Ans
 rw [fn_step (fn_6 eA) (show Tryz.f6.body = some _ from rfl)]
 cases hr : (!greatT t && textB t && cutB w sd)
 ·rw [hr] at h42
  simp -implicitDefEqProofs only [Tryz.f6,go_sem,↓reduceIte,Int.reduceEq,Int.reduceLT,Int.reduceLE,List.reduceReplicate,intA,setT_nil,setT_cons,hch.cells,hch.flat,hch.bound,call31,h42,Bool.not_false,↓boolP_bool,↓iteB_true,↓iteB_false]
 ·rw [hr] at h42
  simp only [Bool.and_eq_true,Bool.not_eq_true'] at hr
  obtain ⟨⟨hg,hT⟩,hcut⟩ := hr
  obtain ⟨w,rfl⟩ : ∃ w' : Nat,w = w' := ⟨w.toNat,by unfold cutB inB at hcut;simp at hcut;omega⟩
  obtain ⟨sd,rfl⟩ : ∃ s' : Nat,sd = s' := ⟨sd.toNat,by omega⟩
  have hcw : 12 ≤ w ∧ w ≤ 80 ∧ 1 ≤ sd ∧ sd ≤ 3 := by unfold cutB inB at hcut;simp at hcut;omega
  obtain ⟨w1,w2,w3,w4⟩ := hcw
  have hs := small_of hT
  have hN := wordsT_small hs
  have hNp : 0 < (wordsT 0 t).length := hN.1
  obtain ⟨p,hp⟩ := at_lt (wordsT 0 t) (n % (wordsT 0 t).length) (Nat.mod_lt _ hNp)
  obtain ⟨cp,lp,hcp,hlp,hwp⟩ := words_line hp
  have b1 : ∀ k : Nat,boundL [AV.agg [ch],.v (.int .u16 k)] = 0 := fun k => by simp only [boundL_cons,bound_agg,hch.bound,boundL_nil];rfl
  have b4 : ∀ a b c w k : Int,boundL [AV.agg [ch],.agg [intA w,.v (.int .u8 k)],.agg [intA a,intA b,intA c]] = 0 := fun a b c w k => by simp only [boundL_cons,bound_agg,hch.bound,boundL_nil];rfl
  have b5 : ∀ a : Int,boundL [AV.agg [ch],intA a] = 0 := fun a => by simp only [boundL_cons,bound_agg,hch.bound,boundL_nil];rfl
  have c47p := fun me d H => (ansS47 he t ht ch xs hch hall hT n hn p hp).call (ext_47 he) (pure_47 eA me d) (b1 n) H
  obtain ⟨B,A,a0,b0',hW⟩ := longest he eAj t ht hT ch xs hch hall w sd w1 w2 w3 w4 p.1.1 p.1.2.1 p.1.2.2 cp hcp lp hlp p.2 hwp
  have c37a := fun me d H => hW.ans.call (ext_37 he) (pure_37 eA me d) (b4 _ _ _ _ _) H
  have c48 := fun me d => hW.valid.callI (ext_48 he) (pure_48 eA me d) rfl
  have hcm := List.mem_of_getElem? hcp
  have hcl := (hs.lines cp hcm).2
  obtain ⟨hxi,hlo⟩ := atIx_spec (a := p.1.1) hlp hwp
  have hil := (List.getElem?_eq_some_iff.1 hxi).1
  have hZl := wordsC_small p.1.1 cp.2 0 fun l hl => (hs.words cp hcm l hl).2
  have c50 := fun me d H => (ansS50 he t ht ch xs hch hall p.1.1 cp hcp (by omega) (fun l hl => by have := (hs.words cp hcm l hl).2;omega) (fun h => by rw [h] at hil;simp at hil) (by omega)).call (ext_50 he) (pure_50 eA me d) (b5 _) H
  obtain ⟨z1,z2,z3⟩ := width_parts (Nat.le_trans hW.wid w2)
  have c49a := fun me d => (ansS49 p.1.1 p.1.2.1 p.1.2.2 p.2 B A (by omega) (by omega) (by omega)).callI (me := me) (d := d) (ext_49 he) (pure_49 eA me d) rfl
  have hgt : ¬ (w : Int) < (widthN p.2 B A : Int) := by have := hW.wid;omega
  unfold intA at c47p c37a c48 c50 c49a
  simp -implicitDefEqProofs only [Tryz.f6,go_sem,↓reduceIte,Int.reduceEq,Int.reduceLT,Int.reduceLE,List.reduceReplicate,intA,setT_nil,setT_cons,hch.cells,hch.flat,hch.bound,call31,h42,c47p,c37a,Bool.not_true,Bool.not_false,↓boolP_bool,↓iteB_true,↓iteB_false]
  refine wp_drawX [([],[],false),([],[],false),([],[],false),([],[],false),([],[],false),([],[],false),([],[],false),([],[],false),([],[],false),([],[],false),([],[],false),([],[],false),([],[],false),([],[],false),([],[],false),([12,13],[],false),([],[],false),([],[],false)] (by kernel_rfl) (by kernel_rfl) ?_
  simp -implicitDefEqProofs only [go_sem,↓reduceIte,Int.reduceEq,Int.reduceLT,Int.reduceLE,List.reduceReplicate,intA,setT_nil,setT_cons,c48,c49a,hgt,c50,decide_false,hch.cells,hch.flat,hch.bound,Bool.not_true,Bool.not_false,↓boolP_bool,↓iteB_true,↓iteB_false]
  refine Lp_ruleQ (P := fun μ A0 H => ∃ j,j + μ = atIx (wordsC p.1.1 0 cp.2) p.1 ∧ A0 = ⟨162,t6 ch w sd n (wordsC p.1.1 0 cp.2) j,[]⟩ ∧ H = ⟨h6 ch w sd p.1.1 p.1.2.1 p.1.2.2 p.2 B A,0⟩) ?_ (atIx (wordsC p.1.1 0 cp.2) p.1) _ _ ⟨0,by omega,rfl,rfl⟩
  rintro Q KK hQ hKK μ _ _ ⟨j,hj,rfl,rfl⟩
  have hjl : j < (wordsC p.1.1 0 cp.2).length := by have : atIx (wordsC p.1.1 0 cp.2) p.1 < (wordsC p.1.1 0 cp.2).length := hil;omega
  obtain ⟨y,hy⟩ : ∃ y,(wordsC p.1.1 0 cp.2)[j]? = some y := ⟨_,List.getElem?_eq_getElem hjl⟩
  have hix := (pls_sl (wordsC p.1.1 0 cp.2)).idx (pls_get hy)
  unfold plN at hix
  cases μ with
  | succ μ =>
   have hne : eqP y.1.1 y.1.2.1 y.1.2.2 p.1.1 p.1.2.1 p.1.2.2 = false := by
    cases he : eqP y.1.1 y.1.2.1 y.1.2.2 p.1.1 p.1.2.1 p.1.2.2 with
    | false => rfl
    | true =>
     refine absurd ?_ (hlo j y (by show j < atIx (wordsC p.1.1 0 cp.2) p.1;omega) hy)
     unfold eqP at he
     simp only [Bool.and_eq_true,decide_eq_true_eq] at he
     show y.1 = p.1
     refine Prod.ext ?_ (Prod.ext ?_ ?_) <;> omega
   have hwj := wrap_succ j (by omega)
   simp -implicitDefEqProofs only [t6,h6,go_sem,↓reduceIte,Int.reduceEq,Int.reduceLT,Int.reduceLE,List.reduceReplicate,intA,setT_nil,setT_cons,↓boolP_bool,↓iteB_true,↓iteB_false]
   refine wp_drawX [([],[],false),([],[],false),([],[],false),([],[],false),([3],[],false),([],[],false)] (by kernel_rfl) (by kernel_rfl) ?_
   simp -implicitDefEqProofs only [go_sem,↓reduceIte,Int.reduceEq,Int.reduceLT,Int.reduceLE,List.reduceReplicate,intA,setT_nil,setT_cons,hix,ne28,hne,hwj,Bool.not_false,↓boolP_bool,↓iteB_true,↓iteB_false]
   exact Again.mk' μ (by omega) (hQ _ _ _ ⟨j + 1,by omega,rfl,rfl⟩)
  | zero =>
   have hye : y.1 = p.1 := by
    obtain rfl : j = atIx (wordsC p.1.1 0 cp.2) p.1 := by omega
    have h9 : (wordsC p.1.1 0 cp.2)[atIx (wordsC p.1.1 0 cp.2) p.1]? = some (p.1,p.2) := hxi
    rw [h9] at hy
    cases hy;rfl
   rw [hye] at hix
   simp -implicitDefEqProofs only [t6,h6,go_sem,↓reduceIte,Int.reduceEq,Int.reduceLT,Int.reduceLE,List.reduceReplicate,intA,setT_nil,setT_cons,↓boolP_bool,↓iteB_true,↓iteB_false]
   refine wp_drawX [([],[],false),([],[],false),([],[],false),([],[],false),([3],[],false),([],[],false)] (by kernel_rfl) (by kernel_rfl) ?_
   simp -implicitDefEqProofs only [go_sem,↓reduceIte,Int.reduceEq,Int.reduceLT,Int.reduceLE,List.reduceReplicate,intA,setT_nil,setT_cons,hix,ne28,eqP_self,Bool.not_true,↓boolP_bool,↓iteB_true,↓iteB_false]
   refine hKK _ _ _ ?_
   have hji : j = atIx (wordsC p.1.1 0 cp.2) (p.1.1,p.1.2.1,p.1.2.2) := by show j = atIx (wordsC p.1.1 0 cp.2) p.1;omega
   rw [← hji] at hW
   have hwl := wds_len (wordsC p.1.1 0 cp.2)
   have hsw : SlOf 1 (wds (wordsC p.1.1 0 cp.2)) (.vs 1 (wds (wordsC p.1.1 0 cp.2)) none) := Or.inr ⟨none,rfl⟩
   have hln := hsw.len
   rw [hwl] at hln
   have hZ600 : (wordsC p.1.1 0 cp.2).length ≤ 100 := by omega
   have hws12 : ∀ x ∈ (wordsC p.1.1 0 cp.2).map (·.2),x.size ≤ 12 := fun x hx => by
    obtain ⟨z,hz,rfl⟩ := List.mem_map.1 hx
    obtain ⟨-, -,l,u1,u2⟩ := wordsC_sub p.1.1 cp.2 0 z hz
    exact (word_size (hs.word cp hcm l (List.mem_of_getElem? u1) z.2 (List.mem_of_getElem? u2))).2
   have hsj : ((wordsC p.1.1 0 cp.2).map (·.2))[j]? = some p.2 := by
    rw [hji,List.getElem?_map,show (wordsC p.1.1 0 cp.2)[atIx (wordsC p.1.1 0 cp.2) (p.1.1,p.1.2.1,p.1.2.2)]? = some (p.1,p.2) from hxi];rfl
   have hwds : wds (wordsC p.1.1 0 cp.2) = strs ((wordsC p.1.1 0 cp.2).map (·.2)) := rfl
   have hwlen : ((wordsC p.1.1 0 cp.2).map (·.2)).length = (wordsC p.1.1 0 cp.2).length := List.length_map ..
   simp -implicitDefEqProofs only [go_sem,↓reduceIte,Int.reduceEq,Int.reduceLT,Int.reduceLE,List.reduceReplicate,intA,setT_nil,setT_cons,↓boolP_bool,↓iteB_true,↓iteB_false]
   refine Lp_ruleQ (P := fun μ A0 H => ∃ x th,x + μ = j + 1 ∧ (a0 < x → th = true) ∧ A0 = ⟨162,t6 ch w sd n (wordsC p.1.1 0 cp.2) j ++ [(15,.v (.bool th)),(16,intA x)],[]⟩ ∧ H = ⟨h6 ch w sd p.1.1 p.1.2.1 p.1.2.2 p.2 B A,0⟩) ?_ (j + 1) _ _ ⟨0,false,by omega,fun h => by omega,rfl,rfl⟩
   rintro Q1 K1 hQ1 hK1 μ1 _ _ ⟨x,th,hx,hth,rfl,rfl⟩
   cases μ1 with
   | zero =>
    have hlt : ¬ (x : Int) ≤ (j : Int) := by omega
    obtain rfl : th = true := hth (by have := hW.a0i;omega)
    simp -implicitDefEqProofs only [t6,h6,go_sem,↓reduceIte,Int.reduceEq,Int.reduceLT,Int.reduceLE,List.reduceReplicate,intA,setT_nil,setT_cons,hlt,decide_false,↓boolP_bool,↓iteB_true,↓iteB_false]
    refine hK1 _ _ _ ?_
    simp -implicitDefEqProofs only [go_sem,↓reduceIte,Int.reduceEq,Int.reduceLT,Int.reduceLE,List.reduceReplicate,intA,setT_nil,setT_cons,↓boolP_bool,↓iteB_true,↓iteB_false]
   | succ μ1 =>
    have hle : (x : Int) ≤ (j : Int) := by omega
    obtain ⟨q1,hsc⟩ := slice_midA (P := Tryz.prog) (t := 87) (et := 9) (sz := 1) (by kernel_rfl) (by kernel_rfl) (wds (wordsC p.1.1 0 cp.2)) none x j (by omega) (by omega)
    rw [hwds,strs_mid,← hwds] at hsc
    have hsq : SlOf 1 (strs ((((wordsC p.1.1 0 cp.2).map (·.2)).take j).drop x)) (.vs 1 (strs ((((wordsC p.1.1 0 cp.2).map (·.2)).take j).drop x)) q1) := Or.inr ⟨q1,rfl⟩
    have hsql := hsq.len
    have hlq : ((((wordsC p.1.1 0 cp.2).map (·.2)).take j).drop x).length = j - x := by rw [List.length_drop,List.length_take];omega
    rw [strs_len,hlq] at hsql
    simp -implicitDefEqProofs only [t6,h6,go_sem,↓reduceIte,Int.reduceEq,Int.reduceLT,Int.reduceLE,List.reduceReplicate,intA,setT_nil,setT_cons,hle,hsc,hsql,decide_true,↓boolP_bool,↓iteB_true,↓iteB_false]
    have hS12 : ∀ z ∈ (((wordsC p.1.1 0 cp.2).map (·.2)).take j).drop x,z.size ≤ 12 := fun z hz => hws12 z (sub_mem hz)
    have hbef : befA ((wordsC p.1.1 0 cp.2).map (·.2)) j x = joinB ((((wordsC p.1.1 0 cp.2).map (·.2)).take j).drop x) := rfl
    generalize hSS : (((wordsC p.1.1 0 cp.2).map (·.2)).take j).drop x = S at *
    refine Lp_ruleQ (P := fun μ A0 H => ∃ q,q + μ = j - x ∧ A0 = ⟨162,t6 ch w sd n (wordsC p.1.1 0 cp.2) j ++ [(15,.v (.bool th)),(16,intA x),(81,.v (.bool true)),(17,.v (.string (preB (S.take q)))),(87,.vs 1 (strs S) q1),(88,intA (j - x : Nat)),(89,intA q)],[]⟩ ∧ H = ⟨h6 ch w sd p.1.1 p.1.2.1 p.1.2.2 p.2 B A,0⟩) ?_ (j - x) _ _ ⟨0,by omega,rfl,rfl⟩
    rintro Q2 K2 hQ2 hK2 μ2 _ _ ⟨q,hq,rfl,rfl⟩
    cases μ2 with
    | succ μ2 =>
     obtain ⟨z,hz⟩ := at_lt S q (by omega)
     have hltq : (q : Int) < ((j - x : Nat) : Int) := by omega
     have hwq := wrap_succ q (by omega)
     have hiq := hsq.idx (strs_get hz)
     have hz12 := hS12 z (List.mem_of_getElem? hz)
     have htq : S.take (q + 1) = S.take q ++ [z] := by rw [List.take_add_one,hz];rfl
     have hpb := preB_bd (l := S.take q) fun y hy => hS12 y (List.mem_of_mem_take hy)
     have hpl : (S.take q).length ≤ 100 := by rw [List.length_take];omega
     have hsp1 : (⟨#[32]⟩ : ByteArray).size = 1 := rfl
     have ha1 := sadd (u := z) (v := ⟨#[32]⟩) (by omega)
     have ha2 := sadd (u := preB (S.take q)) (v := z ++ ⟨#[32]⟩) (by rw [ByteArray.size_append];omega)
     have hsn := preB_snoc (S.take q) z
     unfold spc at hsn
     rw [hsn,← htq] at ha2
     simp -implicitDefEqProofs only [t6,h6,go_sem,↓reduceIte,Int.reduceEq,Int.reduceLT,Int.reduceLE,List.reduceReplicate,intA,setT_nil,setT_cons,hltq,hiq,ha1,ha2,atomA_str,hwq,↓boolP_bool,↓iteB_true,↓iteB_false]
     exact Again.mk' μ2 (by omega) (hQ2 _ _ _ ⟨q + 1,by omega,rfl,rfl⟩)
    | zero =>
     obtain rfl : q = j - x := by omega
     have hnq : ¬ ((j - x : Nat) : Int) < ((j - x : Nat) : Int) := by omega
     rw [List.take_of_length_le (by omega)]
     have hpb := preB_bd (l := S) hS12
     have hxi : x ≤ j := by omega
     by_cases hxj : x < j
     have hltx : (x : Int) < (j : Int) := by omega
     have hSne : S ≠ [] := fun h => by rw [h,List.length_nil] at hlq;omega
     have hps : 1 ≤ (preB S).size := by
      have h1 := pre_join S hSne
      show 1 ≤ ((S.flatMap fun s => s.data.toList ++ [32]).toArray).size
      rw [h1];simp
     have hwm : IntKind.i64.wrap (((preB S).size : Int) - 1) = (((preB S).size - 1 : Nat) : Int) := by rw [show ((preB S).size : Int) - 1 = (((preB S).size - 1 : Nat) : Int) by omega];exact wrap_nat _ (by omega)
     have hcut : ∀ H : Heap,sliceA Tryz.prog H 9 (.v (.string (preB S))) none (some (.v (.int .i64 ((preB S).size - 1 : Nat)))) none = some (.v (.string (joinB S))) := fun H => by
      unfold sliceA
      rw [und_9]
      have h1 : (((preB S).size - 1 : Nat) : Int) ≤ ((preB S).size : Int) := by omega
      have h2 := preB_cut hSne
      simp only [boundA]
      simp [h1,h2]
     simp -implicitDefEqProofs only [t6,h6,go_sem,↓reduceIte,Int.reduceEq,Int.reduceLT,Int.reduceLE,List.reduceReplicate,intA,setT_nil,setT_cons,hnq,↓boolP_bool,↓iteB_true,↓iteB_false]
     refine hK2 _ _ _ ?_
     simp -implicitDefEqProofs only [go_sem,↓reduceIte,Int.reduceEq,Int.reduceLT,Int.reduceLE,List.reduceReplicate,intA,setT_nil,setT_cons,hltx,hwm,hcut,↓boolP_bool,↓iteB_true,↓iteB_false]
     rotate_left
     have hltx : ¬ (x : Int) < (j : Int) := by omega
     have hS0 : S = [] := List.length_eq_zero_iff.1 (by omega)
     have hpj : preB S = joinB S := by rw [hS0];rfl
     rw [hpj]
     simp -implicitDefEqProofs only [t6,h6,go_sem,↓reduceIte,Int.reduceEq,Int.reduceLT,Int.reduceLE,List.reduceReplicate,intA,setT_nil,setT_cons,hnq,↓boolP_bool,↓iteB_true,↓iteB_false]
     refine hK2 _ _ _ ?_
     simp -implicitDefEqProofs only [go_sem,↓reduceIte,Int.reduceEq,Int.reduceLT,Int.reduceLE,List.reduceReplicate,intA,setT_nil,setT_cons,hltx,↓boolP_bool,↓iteB_true,↓iteB_false]
     all_goals
      refine Lp_ruleQ (P := fun μ A0 H => ∃ y th2 bx,y + μ = (wordsC p.1.1 0 cp.2).length ∧ j ≤ y ∧ (a0 < x ∨ (a0 = x ∧ b0' < y) → th2 = true) ∧ A0 = ⟨162,t6 ch w sd n (wordsC p.1.1 0 cp.2) j ++ [(15,.v (.bool th2)),(16,intA x),(81,.v (.bool true)),(17,.v (.string (joinB S))),(87,.vs 1 (strs S) q1),(88,intA (j - x : Nat)),(89,intA (j - x : Nat)),(100,.v (.bool bx)),(20,.v (.string (joinB ((((wordsC p.1.1 0 cp.2).map (·.2)).take y).drop (j + 1))))),(21,intA y)],[]⟩ ∧ H = ⟨h6 ch w sd p.1.1 p.1.2.1 p.1.2.2 p.2 B A,0⟩) ?_ ((wordsC p.1.1 0 cp.2).length - j) _ _ ⟨j,th,_,by omega,by omega,fun h => by have := hW.ib0;rcases h with h | h;exact hth h;omega,by rw [List.drop_of_length_le (by rw [List.length_take];omega)];rfl,rfl⟩
      rintro Q3 K3 hQ3 hK3 μ3 _ _ ⟨y,th2,bx,hy3,hjy,hth2,rfl,rfl⟩
      cases μ3 with
      | zero =>
       obtain rfl : y = (wordsC p.1.1 0 cp.2).length := by omega
       have hny : ¬ ((wordsC p.1.1 0 cp.2).length : Int) < ((wordsC p.1.1 0 cp.2).length : Int) := by omega
       have hwx := wrap_succ x (by omega)
       simp -implicitDefEqProofs only [t6,h6,go_sem,↓reduceIte,Int.reduceEq,Int.reduceLT,Int.reduceLE,List.reduceReplicate,intA,setT_nil,setT_cons,hln,hny,↓boolP_bool,↓iteB_true,↓iteB_false]
       refine hK3 _ _ _ ?_
       simp -implicitDefEqProofs only [go_sem,↓reduceIte,Int.reduceEq,Int.reduceLT,Int.reduceLE,List.reduceReplicate,intA,setT_nil,setT_cons,hwx,↓boolP_bool,↓iteB_true,↓iteB_false]
       exact Again.mk' μ1 (by omega) (hQ1 _ _ _ ⟨x + 1,th2,by omega,fun h => hth2 (by have := hW.b0l;rw [hwlen] at this;omega),rfl,rfl⟩)
      | succ μ3 =>
       have hyl : y < (wordsC p.1.1 0 cp.2).length := by omega
       have hlty : (y : Int) < ((wordsC p.1.1 0 cp.2).length : Int) := by omega
       have hwj := wrap_succ j (by omega)
       have hwy := wrap_succ y (by omega)
       obtain ⟨v,hv⟩ : ∃ v,((wordsC p.1.1 0 cp.2).map (·.2))[y]? = some v := ⟨_,List.getElem?_eq_getElem (by rw [hwlen];exact hyl)⟩
       have hv12 := hws12 v (List.mem_of_getElem? hv)
       have hiy := hsw.idx (strs_get hv)
       have hij := hsw.idx (strs_get hsj)
       have htk : (((wordsC p.1.1 0 cp.2).map (·.2)).take (y + 1)).drop (j + 1) = if y ≤ j then [] else (((wordsC p.1.1 0 cp.2).map (·.2)).take y).drop (j + 1) ++ [v] := by
        split
        ·rw [List.drop_of_length_le (by rw [List.length_take];omega)]
        ·rw [List.take_add_one,hv]
         show ((((wordsC p.1.1 0 cp.2).map (·.2)).take y) ++ [v]).drop (j + 1) = _
         rw [List.drop_append_of_le_length (by rw [List.length_take];omega)]
       have hTl : ((((wordsC p.1.1 0 cp.2).map (·.2)).take y).drop (j + 1)).length = y - (j + 1) := by rw [List.length_drop,List.length_take];omega
       have hT12 : ∀ z ∈ (((wordsC p.1.1 0 cp.2).map (·.2)).take y).drop (j + 1),z.size ≤ 12 := fun z hz => hws12 z (sub_mem hz)
       have hT12' : ∀ z ∈ (((wordsC p.1.1 0 cp.2).map (·.2)).take (y + 1)).drop (j + 1),z.size ≤ 12 := fun z hz => hws12 z (sub_mem hz)
       have hjb := join_bd hT12
       have hjb' := join_bd hT12'
       have hTl' : ((((wordsC p.1.1 0 cp.2).map (·.2)).take (y + 1)).drop (j + 1)).length ≤ 100 := by rw [List.length_drop,List.length_take];omega
       have haft : aftA ((wordsC p.1.1 0 cp.2).map (·.2)) j y = joinB ((((wordsC p.1.1 0 cp.2).map (·.2)).take (y + 1)).drop (j + 1)) := rfl
       have hsbd := join_bd hS12
       have hSl100 : S.length ≤ 100 := by omega
       have hbest := hW.best x y (by omega) hjy (by rw [hwlen];exact hyl)
       have heB := hW.eB
       have heA := hW.eA
       rw [haft,hbef] at hbest
       have hfin : ∀ th3 : Bool,(th2 = true → th3 = true) → (a0 = x → b0' = y → th3 = true) → (a0 < x ∨ (a0 = x ∧ b0' < y + 1) → th3 = true) := fun th3 h1 h2 h => by
        rcases h with h | ⟨h,h3⟩
        ·exact h1 (hth2 (Or.inl h))
        ·rcases Nat.lt_or_ge b0' y with h4 | h4
         ·exact h1 (hth2 (Or.inr ⟨h,h4⟩))
         ·exact h2 h (by omega)
       have hself : a0 = x → b0' = y → eqCells [.string (joinB S),.string (joinB ((((wordsC p.1.1 0 cp.2).map (·.2)).take (y + 1)).drop (j + 1)))] [.string B,.string A] = true := fun h1 h2 => by
        rw [heB,heA,h1,h2,hbef,haft];exact eqS_self _ _
       generalize hT1 : (((wordsC p.1.1 0 cp.2).map (·.2)).take (y + 1)).drop (j + 1) = T1 at *
       generalize (((wordsC p.1.1 0 cp.2).map (·.2)).take y).drop (j + 1) = T0 at *
       have c49x := fun me d => (ansS49 p.1.1 p.1.2.1 p.1.2.2 p.2 (joinB S) (joinB T1) (by omega) (by omega) (by omega)).callI (me := me) (d := d) (ext_49 he) (pure_49 eA me d) rfl
       unfold intA at c49x
       rcases Nat.lt_trichotomy y (j + 1) with hc1 | hc1 | hc1
       ·have e1 : ¬ (y : Int) = ((j + 1 : Nat) : Int) := by omega
        have e2 : ¬ ((j + 1 : Nat) : Int) < (y : Int) := by omega
        rw [if_pos (show y ≤ j by omega)] at htk
        obtain rfl : T1 = T0 := by rw [htk];exact (List.length_eq_zero_iff.1 (by omega)).symm
        simp -implicitDefEqProofs only [t6,h6,go_sem,↓reduceIte,Int.reduceEq,Int.reduceLT,Int.reduceLE,List.reduceReplicate,intA,setT_nil,setT_cons,hln,hlty,hwj,e1,e2,decide_true,decide_false,↓boolP_bool,↓iteB_true,↓iteB_false]
        refine wp_drawX [([],[],false),([],[],false),([],[],false),([],[],false),([0],[],false),([],[],false),([],[],false),([],[],false),([0,4],[],false),([],[8],false)] (by kernel_rfl) (by kernel_rfl) ?_
        simp -implicitDefEqProofs only [go_sem,↓reduceIte,Int.reduceEq,Int.reduceLT,Int.reduceLE,List.reduceReplicate,intA,setT_nil,setT_cons,hij,↓boolP_bool,↓iteB_true,↓iteB_false]
        refine wp_drawX [([],[],false),([],[],false),([],[],false),([0,1],[],false),([],[],false),([],[],false),([],[],false),([],[],false),([6,7],[],false),([],[],false),([],[],false),([],[],false)] (by kernel_rfl) (by kernel_rfl) ?_
        by_cases hwl2 : widthN p.2 (joinB S) (joinB T1) ≤ w
        ·have k1 : (widthN p.2 (joinB S) (joinB T1) : Int) ≤ (w : Int) := by omega
         have k2 : ¬ (widthN p.2 B A : Int) < (widthN p.2 (joinB S) (joinB T1) : Int) := by have := hbest hwl2;omega
         cases th2
         ·simp -implicitDefEqProofs only [go_sem,↓reduceIte,Int.reduceEq,Int.reduceLT,Int.reduceLE,List.reduceReplicate,intA,setT_nil,setT_cons,c49x,c49a,k1,k2,eq30_gen,hwy,decide_true,decide_false,↓boolP_bool,↓iteB_true,↓iteB_false]
          rw [trim4r]
          rotate_left
          iterate 4 exact Nat.zero_le _
          ·simp only [boundL_cons,boundL_nil,bound_agg,bound_ptr,bound_v,bound_vs,hch.bound];decide
          exact Again.mk' μ3 (by omega) (hQ3 _ _ _ ⟨y + 1,_,bx,by omega,by omega,hfin _ (fun h => nomatch h) (fun h1 h2 => hself h1 h2),by rw [hT1];rfl,rfl⟩)
         ·simp -implicitDefEqProofs only [go_sem,↓reduceIte,Int.reduceEq,Int.reduceLT,Int.reduceLE,List.reduceReplicate,intA,setT_nil,setT_cons,c49x,c49a,k1,k2,eq30_gen,hwy,decide_true,decide_false,↓boolP_bool,↓iteB_true,↓iteB_false]
          rw [trim4r]
          rotate_left
          iterate 4 exact Nat.zero_le _
          ·simp only [boundL_cons,boundL_nil,bound_agg,bound_ptr,bound_v,bound_vs,hch.bound];decide
          exact Again.mk' μ3 (by omega) (hQ3 _ _ _ ⟨y + 1,_,bx,by omega,by omega,hfin _ (fun h => rfl) (fun h1 h2 => rfl),by rw [hT1];rfl,rfl⟩)
        ·have k1 : ¬ (widthN p.2 (joinB S) (joinB T1) : Int) ≤ (w : Int) := by omega
         cases th2
         ·simp -implicitDefEqProofs only [go_sem,↓reduceIte,Int.reduceEq,Int.reduceLT,Int.reduceLE,List.reduceReplicate,intA,setT_nil,setT_cons,c49x,c49a,k1,eq30_gen,hwy,decide_true,decide_false,↓boolP_bool,↓iteB_true,↓iteB_false]
          rw [trim4r]
          rotate_left
          iterate 4 exact Nat.zero_le _
          ·simp only [boundL_cons,boundL_nil,bound_agg,bound_ptr,bound_v,bound_vs,hch.bound];decide
          exact Again.mk' μ3 (by omega) (hQ3 _ _ _ ⟨y + 1,_,bx,by omega,by omega,hfin _ (fun h => nomatch h) (fun h1 h2 => hself h1 h2),by rw [hT1];rfl,rfl⟩)
         ·simp -implicitDefEqProofs only [go_sem,↓reduceIte,Int.reduceEq,Int.reduceLT,Int.reduceLE,List.reduceReplicate,intA,setT_nil,setT_cons,c49x,c49a,k1,eq30_gen,hwy,decide_true,decide_false,↓boolP_bool,↓iteB_true,↓iteB_false]
          rw [trim4r]
          rotate_left
          iterate 4 exact Nat.zero_le _
          ·simp only [boundL_cons,boundL_nil,bound_agg,bound_ptr,bound_v,bound_vs,hch.bound];decide
          exact Again.mk' μ3 (by omega) (hQ3 _ _ _ ⟨y + 1,_,bx,by omega,by omega,hfin _ (fun h => rfl) (fun h1 h2 => rfl),by rw [hT1];rfl,rfl⟩)
       ·have e1 : ((y : Int) = ((j + 1 : Nat) : Int)) = True := eq_true (by omega)
        have e2 : ¬ ((j + 1 : Nat) : Int) < (y : Int) := by omega
        rw [if_neg (show ¬ y ≤ j by omega)] at htk
        have hT0 : T0 = [] := List.length_eq_zero_iff.1 (by omega)
        have hjv : joinB T1 = v := by rw [htk,hT0];exact joinB_one v
        rw [← hjv] at hiy
        simp -implicitDefEqProofs only [t6,h6,go_sem,↓reduceIte,Int.reduceEq,Int.reduceLT,Int.reduceLE,List.reduceReplicate,intA,setT_nil,setT_cons,hln,hlty,hwj,e1,hiy,e2,decide_true,decide_false,↓boolP_bool,↓iteB_true,↓iteB_false]
        refine wp_drawX [([],[],false),([],[],false),([],[],false),([],[],false),([0],[],false),([],[],false),([],[],false),([],[],false),([0,4],[],false),([],[8],false)] (by kernel_rfl) (by kernel_rfl) ?_
        simp -implicitDefEqProofs only [go_sem,↓reduceIte,Int.reduceEq,Int.reduceLT,Int.reduceLE,List.reduceReplicate,intA,setT_nil,setT_cons,hij,↓boolP_bool,↓iteB_true,↓iteB_false]
        refine wp_drawX [([],[],false),([],[],false),([],[],false),([0,1],[],false),([],[],false),([],[],false),([],[],false),([],[],false),([6,7],[],false),([],[],false),([],[],false),([],[],false)] (by kernel_rfl) (by kernel_rfl) ?_
        by_cases hwl2 : widthN p.2 (joinB S) (joinB T1) ≤ w
        ·have k1 : (widthN p.2 (joinB S) (joinB T1) : Int) ≤ (w : Int) := by omega
         have k2 : ¬ (widthN p.2 B A : Int) < (widthN p.2 (joinB S) (joinB T1) : Int) := by have := hbest hwl2;omega
         cases th2
         ·simp -implicitDefEqProofs only [go_sem,↓reduceIte,Int.reduceEq,Int.reduceLT,Int.reduceLE,List.reduceReplicate,intA,setT_nil,setT_cons,c49x,c49a,k1,k2,eq30_gen,hwy,decide_true,decide_false,↓boolP_bool,↓iteB_true,↓iteB_false]
          rw [trim4r]
          rotate_left
          iterate 4 exact Nat.zero_le _
          ·simp only [boundL_cons,boundL_nil,bound_agg,bound_ptr,bound_v,bound_vs,hch.bound];decide
          exact Again.mk' μ3 (by omega) (hQ3 _ _ _ ⟨y + 1,_,bx,by omega,by omega,hfin _ (fun h => nomatch h) (fun h1 h2 => hself h1 h2),by rw [hT1];rfl,rfl⟩)
         ·simp -implicitDefEqProofs only [go_sem,↓reduceIte,Int.reduceEq,Int.reduceLT,Int.reduceLE,List.reduceReplicate,intA,setT_nil,setT_cons,c49x,c49a,k1,k2,eq30_gen,hwy,decide_true,decide_false,↓boolP_bool,↓iteB_true,↓iteB_false]
          rw [trim4r]
          rotate_left
          iterate 4 exact Nat.zero_le _
          ·simp only [boundL_cons,boundL_nil,bound_agg,bound_ptr,bound_v,bound_vs,hch.bound];decide
          exact Again.mk' μ3 (by omega) (hQ3 _ _ _ ⟨y + 1,_,bx,by omega,by omega,hfin _ (fun h => rfl) (fun h1 h2 => rfl),by rw [hT1];rfl,rfl⟩)
        ·have k1 : ¬ (widthN p.2 (joinB S) (joinB T1) : Int) ≤ (w : Int) := by omega
         cases th2
         ·simp -implicitDefEqProofs only [go_sem,↓reduceIte,Int.reduceEq,Int.reduceLT,Int.reduceLE,List.reduceReplicate,intA,setT_nil,setT_cons,c49x,c49a,k1,eq30_gen,hwy,decide_true,decide_false,↓boolP_bool,↓iteB_true,↓iteB_false]
          rw [trim4r]
          rotate_left
          iterate 4 exact Nat.zero_le _
          ·simp only [boundL_cons,boundL_nil,bound_agg,bound_ptr,bound_v,bound_vs,hch.bound];decide
          exact Again.mk' μ3 (by omega) (hQ3 _ _ _ ⟨y + 1,_,bx,by omega,by omega,hfin _ (fun h => nomatch h) (fun h1 h2 => hself h1 h2),by rw [hT1];rfl,rfl⟩)
         ·simp -implicitDefEqProofs only [go_sem,↓reduceIte,Int.reduceEq,Int.reduceLT,Int.reduceLE,List.reduceReplicate,intA,setT_nil,setT_cons,c49x,c49a,k1,eq30_gen,hwy,decide_true,decide_false,↓boolP_bool,↓iteB_true,↓iteB_false]
          rw [trim4r]
          rotate_left
          iterate 4 exact Nat.zero_le _
          ·simp only [boundL_cons,boundL_nil,bound_agg,bound_ptr,bound_v,bound_vs,hch.bound];decide
          exact Again.mk' μ3 (by omega) (hQ3 _ _ _ ⟨y + 1,_,bx,by omega,by omega,hfin _ (fun h => rfl) (fun h1 h2 => rfl),by rw [hT1];rfl,rfl⟩)
       ·have e1 : ¬ (y : Int) = ((j + 1 : Nat) : Int) := by omega
        have e2 : ((j + 1 : Nat) : Int) < (y : Int) := by omega
        rw [if_neg (show ¬ y ≤ j by omega)] at htk
        have hT0 : T0 ≠ [] := fun h => by rw [h,List.length_nil] at hTl;omega
        have hsp1 : (⟨#[32]⟩ : ByteArray).size = 1 := rfl
        have hT0l : T0.length ≤ 100 := by omega
        have ha1 := sadd (u := ⟨#[32]⟩) (v := v) (by omega)
        have ha2 := sadd (u := joinB T0) (v := ⟨#[32]⟩ ++ v) (by rw [ByteArray.size_append];omega)
        have hsn := joinB_snoc hT0 v
        unfold spc at hsn
        rw [hsn,← htk] at ha2
        simp -implicitDefEqProofs only [t6,h6,go_sem,↓reduceIte,Int.reduceEq,Int.reduceLT,Int.reduceLE,List.reduceReplicate,intA,setT_nil,setT_cons,hln,hlty,hwj,e1,e2,hiy,ha1,ha2,atomA_str,decide_true,decide_false,↓boolP_bool,↓iteB_true,↓iteB_false]
        refine wp_drawX [([],[],false),([],[],false),([],[],false),([],[],false),([0],[],false),([],[],false),([],[],false),([],[],false),([0,4],[],false),([],[8],false)] (by kernel_rfl) (by kernel_rfl) ?_
        simp -implicitDefEqProofs only [go_sem,↓reduceIte,Int.reduceEq,Int.reduceLT,Int.reduceLE,List.reduceReplicate,intA,setT_nil,setT_cons,hij,↓boolP_bool,↓iteB_true,↓iteB_false]
        refine wp_drawX [([],[],false),([],[],false),([],[],false),([0,1],[],false),([],[],false),([],[],false),([],[],false),([],[],false),([6,7],[],false),([],[],false),([],[],false),([],[],false)] (by kernel_rfl) (by kernel_rfl) ?_
        by_cases hwl2 : widthN p.2 (joinB S) (joinB T1) ≤ w
        ·have k1 : (widthN p.2 (joinB S) (joinB T1) : Int) ≤ (w : Int) := by omega
         have k2 : ¬ (widthN p.2 B A : Int) < (widthN p.2 (joinB S) (joinB T1) : Int) := by have := hbest hwl2;omega
         cases th2
         ·simp -implicitDefEqProofs only [go_sem,↓reduceIte,Int.reduceEq,Int.reduceLT,Int.reduceLE,List.reduceReplicate,intA,setT_nil,setT_cons,c49x,c49a,k1,k2,eq30_gen,hwy,decide_true,decide_false,↓boolP_bool,↓iteB_true,↓iteB_false]
          rw [trim4r]
          rotate_left
          iterate 4 exact Nat.zero_le _
          ·simp only [boundL_cons,boundL_nil,bound_agg,bound_ptr,bound_v,bound_vs,hch.bound];decide
          exact Again.mk' μ3 (by omega) (hQ3 _ _ _ ⟨y + 1,_,bx,by omega,by omega,hfin _ (fun h => nomatch h) (fun h1 h2 => hself h1 h2),by rw [hT1];rfl,rfl⟩)
         ·simp -implicitDefEqProofs only [go_sem,↓reduceIte,Int.reduceEq,Int.reduceLT,Int.reduceLE,List.reduceReplicate,intA,setT_nil,setT_cons,c49x,c49a,k1,k2,eq30_gen,hwy,decide_true,decide_false,↓boolP_bool,↓iteB_true,↓iteB_false]
          rw [trim4r]
          rotate_left
          iterate 4 exact Nat.zero_le _
          ·simp only [boundL_cons,boundL_nil,bound_agg,bound_ptr,bound_v,bound_vs,hch.bound];decide
          exact Again.mk' μ3 (by omega) (hQ3 _ _ _ ⟨y + 1,_,bx,by omega,by omega,hfin _ (fun h => rfl) (fun h1 h2 => rfl),by rw [hT1];rfl,rfl⟩)
        ·have k1 : ¬ (widthN p.2 (joinB S) (joinB T1) : Int) ≤ (w : Int) := by omega
         cases th2
         ·simp -implicitDefEqProofs only [go_sem,↓reduceIte,Int.reduceEq,Int.reduceLT,Int.reduceLE,List.reduceReplicate,intA,setT_nil,setT_cons,c49x,c49a,k1,eq30_gen,hwy,decide_true,decide_false,↓boolP_bool,↓iteB_true,↓iteB_false]
          rw [trim4r]
          rotate_left
          iterate 4 exact Nat.zero_le _
          ·simp only [boundL_cons,boundL_nil,bound_agg,bound_ptr,bound_v,bound_vs,hch.bound];decide
          exact Again.mk' μ3 (by omega) (hQ3 _ _ _ ⟨y + 1,_,bx,by omega,by omega,hfin _ (fun h => nomatch h) (fun h1 h2 => hself h1 h2),by rw [hT1];rfl,rfl⟩)
         ·simp -implicitDefEqProofs only [go_sem,↓reduceIte,Int.reduceEq,Int.reduceLT,Int.reduceLE,List.reduceReplicate,intA,setT_nil,setT_cons,c49x,c49a,k1,eq30_gen,hwy,decide_true,decide_false,↓boolP_bool,↓iteB_true,↓iteB_false]
          rw [trim4r]
          rotate_left
          iterate 4 exact Nat.zero_le _
          ·simp only [boundL_cons,boundL_nil,bound_agg,bound_ptr,bound_v,bound_vs,hch.bound];decide
          exact Again.mk' μ3 (by omega) (hQ3 _ _ _ ⟨y + 1,_,bx,by omega,by omega,hfin _ (fun h => rfl) (fun h1 h2 => rfl),by rw [hT1];rfl,rfl⟩)
end Go.Ev
namespace Go.Ev
open Go.Lib
theorem tabIs_of_vars {P : Program} {W : World} {name : String} {k : IntKind} {zs : List Int} {g : Nat} {t e : TypeId} {n : Nat}
  (hg : P.globalNamed name = some g) (hty : (P.globals[g]?).map (·.type) = some t) (ht : P.underlying t = some (.array n e)) (he : P.underlying e = some (.int k)) (hce : P.cellsOf e = 1) (hct : P.cellsOf t = n) :
  ∀ {l : List (String × DataW Unit)} {ps : List MemPlace},(name,tabData k zs) ∈ l → DataW.LaidVars P W l ps → TabIs P W name k zs
 | [],_,hm,_ => by cases hm
 | (nm,d) :: rest,ps,hm,h => by
  obtain ⟨g',t',cs,fuel,p,q,hg',ht',hvar,hd,hr,_⟩ := h
  rcases List.mem_cons.1 hm with hm | hm
  ·cases hm
   obtain rfl := Option.some.inj (hg.symm.trans hg')
   obtain rfl := Option.some.inj (hty.symm.trans ht')
   unfold TabIs
   rw [hvar,← cells_of_tab ht he hce hct hd]
  ·exact tabIs_of_vars hg hty ht he hce hct hm hr
theorem heap_of_tab {P : Program} {W : World} {name : String} {k : IntKind} {zs : List Int} {g : Nat} (hg : P.globalNamed name = some g) (h : TabIs P W name k zs) :
  ∃ e fz,allZ W g = some (.cells (zs.map fun z => Value.int k z).toArray e fz) := by
 unfold TabIs World.var? at h
 rw [hg] at h
 simp only [Option.bind_some] at h
 unfold allZ
 cases ho : W.heap[g]? with
 | none => rw [ho] at h;cases h
 | some o =>
  rw [ho] at h
  cases o <;> simp at h
  subst h
  exact ⟨_,_,rfl⟩
end Go.Ev
