/- What the proof of this claim stands on, part 4: an evaluator of the model, proved right, and what it answers for functions of the program. -/
import Derived.Test.YtphfgbmonepliaaPk02
import Derived.WalkKit
import Derived.ProofKit
import Derived.OpenShut
import Derived.Shelf.GgSortFunc.RowK
import Derived.Sort.Statements
import Derived.Shelf.SlSortCmp.NoneTotal
import Derived.Shelf.SlLaysF0
import Derived.Test.YtphfgbmonepliaaProg
import Derived.Shelf.SlLaysF
set_option linter.unusedSimpArgs false
/- A law: what the evaluator answers on all plain data is what the statement says. -/
namespace Go.Ev
open Go.ChangeShapes Go.WideShapes Go.ChangeAt Go.RowKit
/-- an argument of a type of plain data -/
def Arg (P : Program) (N : Nat) (t : TypeId) (x : AV) : Prop :=
  match P.underlying t with
  | some (.struct _) => ∃ A, x = .agg A ∧ Plain P N t A
  | _ => Plain P N t [x]
inductive ArgsOf (P : Program) (N : Nat) : List TypeId → List AV → Prop
  | nil : ArgsOf P N [] []
  | cons {t : TypeId} {ts : List TypeId} {x : AV} {xs : List AV} (h : Arg P N t x) (hs : ArgsOf P N ts xs) : ArgsOf P N (t :: ts) (x :: xs)
section
variable {HH : Type} {enc : TypeId × Value → HH} {P : Program} {w : World}
theorem arg_rep {N base : Nat} {t : TypeId} {v : Value} {d : DataW HH} {ps : List MemPlace} (hp : plainT P N t = true) (hok : Value.okWide P w .any base t v) (h : DataW.Trod enc P w 0 (fun _ => true) true t v d ps) :
    ∃ x, Rep (allZ w) noPls x v ∧ Arg P N t x := by
  obtain ⟨fuel, h⟩ := h
  obtain ⟨A, hA, hpl, hfl⟩ := plain_rep N t fuel _ _ hp h
  cases N with
  | zero => simp [plainT] at hp
  | succ N =>
    have one : ∀ (hv : v.cells.toList = [v]), (∃ c, A = [c]) → (∀ fs, P.underlying t ≠ some (.struct fs)) → ∃ x, Rep (allZ w) noPls x v ∧ Arg P (N + 1) t x := by
      rintro hv ⟨c, rfl⟩ hns
      rw [hv] at hA
      obtain ⟨v', ws, e, hr, -⟩ := hA.uncons
      cases e
      refine ⟨c, hr, ?_⟩
      unfold Arg
      split
      · rename_i fs hu; exact absurd hu (hns fs)
      · exact hpl
    unfold plainT at hp
    unfold Value.okWide at hok
    have hpl' := hpl
    unfold Plain at hpl'
    cases hu : P.underlying t with
    | none => rw [hu] at hp; simp at hp
    | some u =>
      rw [hu] at hp hok hpl'
      cases u <;> simp only [Bool.false_eq_true] at hp hok hpl'
      case bool =>
        obtain ⟨b, rfl⟩ := hpl'
        refine one ?_ ⟨_, rfl⟩ (by simp [hu])
        unfold Cell.okWide Cell.ok at hok; rw [hu] at hok
        cases v <;> first | rfl | simp at hok
      case int k =>
        obtain ⟨m, rfl, -⟩ := hpl'
        refine one ?_ ⟨_, rfl⟩ (by simp [hu])
        unfold Cell.okWide Cell.ok at hok; rw [hu] at hok
        cases v <;> first | rfl | simp at hok
      case string =>
        obtain ⟨m, rfl, -⟩ := hpl'
        refine one ?_ ⟨_, rfl⟩ (by simp [hu])
        unfold Cell.okWide Cell.ok at hok; rw [hu] at hok
        cases v <;> first | rfl | simp at hok
      case slice e =>
        obtain ⟨x, xs, rfl, -⟩ := hpl'
        refine one ?_ ⟨_, rfl⟩ (by simp [hu])
        unfold Cell.okWide Cell.ok at hok; rw [hu] at hok
        cases v <;> first | rfl | simp at hok
      case struct fs =>
        obtain ⟨cs, rfl, -, -⟩ := hok
        refine ⟨.agg A, ?_, ?_⟩
        · have := hA.agg
          simpa [Value.cells] using this
        · unfold Arg; rw [hu]; exact ⟨A, rfl, hpl⟩
theorem args_rep {N base : Nat} : ∀ {ts : List TypeId} {vs : List Value} {ds : List (DataW HH)} {ps : List MemPlace}, ts.all (plainT P N) = true → (∀ (j : Nat) t v, ts[j]? = some t → vs[j]? = some v → Value.okWide P w .any base t v) →
    DataW.TrodAll enc P w 0 (fun _ => true) true ts vs ds ps → ∃ xs, RepL (allZ w) noPls xs vs ∧ ArgsOf P N ts xs
  | [], vs, ds, ps, _, _, h => by
    cases vs <;> cases ds <;> simp [DataW.TrodAll] at h
    exact ⟨[], RepL.nil, .nil⟩
  | t :: ts, vs, ds, ps, hp, hok, h => by
    obtain ⟨v, vs', d, ds', p, q, rfl, rfl, rfl, h1, h2⟩ := trodAll_cons h
    simp only [List.all_cons, Bool.and_eq_true] at hp
    obtain ⟨x, hx, hax⟩ := arg_rep hp.1 (hok 0 t v rfl rfl) h1
    obtain ⟨xs, hxs, haxs⟩ := args_rep hp.2 (fun j t' v' ht hv => hok (j + 1) t' v' (by simpa using ht) (by simpa using hv)) h2
    exact ⟨x :: xs, RepL.cons hx hxs, .cons hax haxs⟩
theorem trod_after {w' : World} (hh : ∀ k, k < w.heap.size → w'.heap[k]? = w.heap[k]?) {N : Nat} {sp : Nat → Bool} : ∀ {ts : List TypeId} {vs : List Value} {ds : List (DataW HH)} {ps : List MemPlace}, ts.all (plainT P N) = true →
    DataW.TrodAll enc P w 0 (fun _ => true) true ts vs ds ps → (∀ p ∈ ps, sp p.block = true) → DataW.TrodAll enc P w' 0 sp true ts vs ds ps
  | [], vs, ds, ps, _, h, _ => by
    cases vs <;> cases ds <;> simp [DataW.TrodAll] at h ⊢
    exact h
  | t :: ts, vs, ds, ps, hp, h, hs => by
    obtain ⟨v, vs', d, ds', p, q, rfl, rfl, rfl, ⟨fuel, h1⟩, h2⟩ := trodAll_cons h
    simp only [List.all_cons, Bool.and_eq_true] at hp
    refine ⟨p, q, ⟨fuel, ?_⟩, trod_after hh hp.2 h2 fun p hp => hs p (List.mem_append_right _ hp), rfl⟩
    have hlt := DataW.trod_lt _ _ _ _ h1
    refine plain_spare N t fuel _ _ hp.1 (DataW.trod_carry _ _ _ _ h1 fun p hp => ?_) fun p hp => hs p (List.mem_append_left _ hp)
    have := hlt p hp
    cases p with
    | cell b off =>
      have hb : b < w.heap.size := this
      simp only [World.sameAt, World.cell?, hh b hb]
    | map b =>
      have hb : b < w.heap.size := this
      simp only [World.sameAt, hh b hb]
theorem trodAll_len {b : Nat} {sp : Nat → Bool} {hd : Bool} : ∀ {ts : List TypeId} {vs : List Value} {ds : List (DataW HH)} {ps : List MemPlace}, DataW.TrodAll enc P w b sp hd ts vs ds ps → ds.length = ts.length
  | [], vs, ds, ps, h => by cases vs <;> cases ds <;> simp [DataW.TrodAll] at h ⊢
  | t :: ts, vs, ds, ps, h => by
    obtain ⟨v, vs', d, ds', p, q, rfl, rfl, rfl, h1, h2⟩ := trodAll_cons h
    simp [trodAll_len h2]
theorem kept_of {w' : World} (hos : w'.os = w.os) (hout : w'.output = w.output) (hh : ∀ k, k < w.heap.size → w'.heap[k]? = w.heap[k]?) : w.keptBut w' (fun _ => False) := by
  refine ⟨hos, hout, fun i hi => ?_⟩
  rw [hh i hi]
  cases h : w.heap[i]? with
  | none => simp
  | some o => cases o <;> simp
/-- what the call leaves as it was: only what was there need not be frozen anew -/
theorem post_of_old {f : Func} {s : ChangeSpec} {apart fresh handsOn again : Bool} {W W' : World} {args : Array Value} {v : Value} {ds gs : List (DataW HH)} {before pa pv : List MemPlace}
    (hW : DataW.Whole enc P f.params.toList s.vars apart W args.toList ds gs before)
    (hres : ∀ (b : Nat) (sp : Nat → Bool) (hd : Bool), DataW.TrodAll enc P W' b sp hd f.resultTypes.toList (v.resultList f.resultTypes.size) (s.fn HH (ds ++ gs)).results [])
    (hargs : ∀ sp : Nat → Bool, (∀ p ∈ before, sp p.block = true) → DataW.TrodAll enc P W' 0 sp true f.params.toList args.toList (s.fn HH (ds ++ gs)).args pa)
    (hvars : ∀ sp : Nat → Bool, (∀ p ∈ before, sp p.block = true) → DataW.TrodVars enc P W' sp s.vars (s.fn HH (ds ++ gs)).vars pv)
    (hps : before = pa ++ pv) (hk : W.keptBut W' (· ∈ before)) (hfz : ∀ a : Addr, a.block < W.heap.size → W'.frozen? a = W.frozen? a)
    (hok : ∀ (j : Nat) (t : TypeId) (r : Value), f.resultTypes[j]? = some t → (v.resultList f.resultTypes.size)[j]? = some r → Value.okWide P W' .any 0 t r) :
    s.post enc P f apart fresh handsOn again W args v W' := by
  have hold : ∀ p ∈ before, (fun b => decide (b < W.heap.size)) p.block = true := fun p hp => by simpa using hW.lt p hp
  have hlt := hW.lt
  refine ⟨ds, gs, before, [], pa, pv, hW, hres _ _ _, hargs _ hold, hvars _ hold, World.keptBut_mono (fun p hp => ⟨hp, ?_⟩) hk, fun _ => ?_⟩
  · rw [hps, List.mem_append] at hp
    exact Or.inr hp
  · obtain ⟨_, _, _, _, _, hz, hn⟩ := hW
    refine ⟨hok, _, _, ([] ++ pa) ++ pv, ⟨[] ++ pa, pv, trodAll_append (hargs _ (fun _ _ => rfl)) (hres _ _ _), hvars _ (fun _ _ => rfl), rfl, ?_, ?_⟩, ?_⟩
    · intro b off hp
      have hp' : MemPlace.cell b off ∈ before := by rw [hps]; simpa using hp
      rw [hfz ⟨b, off, none⟩ (hlt _ hp')]
      exact hz b off hp'
    · intro ha
      have := hn ha
      rw [hps] at this
      simpa using this
    · intro p hp _
      rw [hps]
      simpa using hp
/-- a law of plain data -/
theorem law_contract {C : Cfg} (hP : C.P = P) (hgo : NoGo P) (hm : P.follows .mixedOrders = true) (hext : ExtOK C) {f : FuncId} {fn : Func} {s : ChangeSpec} {N : Nat} {apart fresh handsOn again : Bool} {tb : TypeId}
    (hpl : fn.params.toList.all (plainT P N) = true) (hvars : s.vars = []) (hspec : ∀ ds : List (DataW HH), ds.length = fn.params.size → s.fn HH ds = { results := [.lit (.bool true)], args := ds })
    (hrt : fn.resultTypes = #[tb]) (htb : P.underlying tb = some .bool)
    (hlaw : ∀ xs, ArgsOf P N fn.params.toList xs → ∃ H', lim C (.call f xs { objs := [], lock := 0 }) = some (.ret (.v (.bool true)) H'))
    {W : World} {base : Nat} {args : Array Value} {ds gs : List (DataW HH)} {before : List MemPlace}
    (hval : ∀ (j : Nat) t v, fn.params[j]? = some t → args[j]? = some v → Value.okWide P W .any base t v)
    (hW : DataW.Whole enc P fn.params.toList s.vars apart W args.toList ds gs before) :
    Calls P f args W fun e W' => ∃ v, e = .returned v ∧ s.post enc P fn apart fresh handsOn again W args v W' := by
  subst hP
  have hW' := hW
  obtain ⟨p, q, hA, hV, rfl, hfz, hnd⟩ := hW
  have hV' := hV
  rw [hvars] at hV'
  obtain ⟨rfl, rfl⟩ := trodVars_none hV'
  obtain ⟨xs, hxs, hax⟩ := args_rep hpl (fun j t v ht hv => hval j t v (by simpa using ht) (by simpa using hv)) hA
  obtain ⟨H', hl⟩ := hlaw xs hax
  have hc := top_calls hgo hm hext hl hxs
  have hlen : ds.length = fn.params.size := by have := trodAll_len hA; simpa using this
  have hsf : s.fn HH (ds ++ []) = { results := [.lit (.bool true)], args := ds } := by rw [List.append_nil]; exact hspec ds hlen
  refine Calls.mono' hc ?_
  rintro e W' ⟨rfl, hh, hsz, hos, hout, -, hfr⟩
  refine ⟨_, rfl, post_of_old (pa := p) (pv := []) hW' ?_ ?_ ?_ rfl (World.keptBut_mono (fun _ h => h.elim) (kept_of hos hout hh)) hfr ?_⟩
  · intro b sp hd
    rw [hsf, hrt]
    exact trodAll_mk1 (shut_bool htb true)
  · intro sp hsp
    rw [hsf]
    exact trod_after hh hpl hA fun x hx => hsp x (List.mem_append_left _ hx)
  · intro sp hsp
    rw [hsf, hvars]
    rfl
  · exact ok_one hrt rfl (okWide_bool_mk htb true)
end
end Go.Ev
namespace Go.Ev
open Go.Proofs
set_option maxRecDepth 100000
set_option linter.unusedSimpArgs false
/-! ### from arguments of plain data to texts -/
theorem all2_of {α β : Type} {R : α → β → Prop} : ∀ (xs : List β), (∀ y ∈ xs, ∃ a, R a y) → ∃ l, All2 R l xs
  | [], _ => ⟨[], rfl, fun i a b h => by simp at h⟩
  | y :: r, h => by
    obtain ⟨a, ha⟩ := h y List.mem_cons_self
    obtain ⟨l, hl⟩ := all2_of r fun z hz => h z (List.mem_cons_of_mem _ hz)
    refine ⟨a :: l, by simp [hl.1], fun i x z hx hz => ?_⟩
    cases i with
    | zero => simp at hx hz; subst hx; subst hz; exact ha
    | succ i => exact hl.2 i x z (by simpa using hx) (by simpa using hz)
theorem All2.mem_left {α β : Type} {R : α → β → Prop} {l : List α} {m : List β} (h : All2 R l m) {a : α} (ha : a ∈ l) : ∃ b ∈ m, R a b := by
  obtain ⟨i, hi⟩ := List.getElem?_of_mem ha
  obtain ⟨b, hb, hr⟩ := h.get hi
  exact ⟨b, List.mem_of_getElem? hb, hr⟩
def fieldsAt (P : Program) (t : TypeId) : List (Nat × Nat) := match P.underlying t with | some (.struct fs) => fs.toList.map fun f => (f.offset, f.type) | _ => []
def isStruct (P : Program) (t : TypeId) : Bool := match P.underlying t with | some (.struct _) => true | _ => false
theorem plain_struct {P : Program} {N t : Nat} {cs : List AV} {l : List (Nat × Nat)} (hs : isStruct P t = true) (hl : fieldsAt P t = l) (h : Plain P (N + 1) t cs) : cs.length = P.cellsOf t ∧ ∀ x ∈ l, Plain P N x.2 ((cs.drop x.1).take (P.cellsOf x.2)) := by
  unfold Plain at h
  unfold isStruct at hs
  unfold fieldsAt at hl
  split at hs
  · rename_i fs hu
    rw [hu] at h hl
    simp only at h hl
    refine ⟨h.1, fun x hx => ?_⟩
    rw [← hl] at hx
    obtain ⟨f, hf, rfl⟩ := List.mem_map.1 hx
    exact h.2 f hf
  · cases hs
theorem arg_struct {P : Program} {N t : Nat} {x : AV} (hs : isStruct P t = true) (h : Arg P N t x) : ∃ A, x = .agg A ∧ Plain P N t A := by
  unfold Arg at h
  unfold isStruct at hs
  split at hs
  · rename_i fs hu; rw [hu] at h; exact h
  · cases hs
theorem plain_slice {P : Program} {N t e c : Nat} {cs : List AV} (hu : P.underlying t = some (.slice e)) (hc : P.cellsOf e = c) (h : Plain P (N + 1) t cs) : ∃ x xs, cs = [x] ∧ SlOf c xs x ∧ xs.length ≤ maxLen ∧ ∀ y ∈ xs, ∃ d, y = elemOf d ∧ d.length = c ∧ Plain P N e d := by
  unfold Plain at h; rw [hu] at h; subst hc; exact h
theorem plain_int {P : Program} {N t : Nat} {k : IntKind} {cs : List AV} (hu : P.underlying t = some (.int k)) (h : Plain P (N + 1) t cs) : ∃ m, cs = [.v (.int k m)] ∧ (Lit.int k m).wf = true := by
  unfold Plain at h; rw [hu] at h; exact h
theorem plain_string {P : Program} {N t : Nat} {cs : List AV} (hu : P.underlying t = some .string) (h : Plain P (N + 1) t cs) : ∃ s, cs = [.v (.string s)] ∧ s.size ≤ maxLen := by
  unfold Plain at h; rw [hu] at h; exact h
theorem two_cells {l : List AV} (h : l.length = 2) : ∃ a b, l = [a, b] := by
  match l, h with
  | [a, b], _ => exact ⟨a, b, rfl⟩
theorem maxLen_lt : maxLen < 2 ^ 63 := by decide
def LineF (ws : Line) (x : AV) : Prop := LineA ws x ∧ ws.length < 2 ^ 63 ∧ ∀ s ∈ ws, s.size < 2 ^ 63
def ChapF (c : Chap) (y : AV) : Prop := ChapA c y ∧ c.2.length < 2 ^ 63 ∧ ∀ l ∈ c.2, l.length < 2 ^ 63 ∧ ∀ s ∈ l, s.size < 2 ^ 63
theorem line_of {N : Nat} {cs : List AV} (h : Plain Try.prog (N + 2) 51 cs) : ∃ ws x, cs = [x] ∧ LineF ws x := by
  obtain ⟨x, xs, rfl, hx, hlen, hxs⟩ := plain_slice (c := 1) (by kernel_rfl : Try.prog.underlying 51 = some (.slice 9)) (by kernel_rfl) h
  have key : ∀ y ∈ xs, ∃ s : ByteArray, y = .v (.string s) ∧ s.size ≤ maxLen := by
    intro y hy
    obtain ⟨d, rfl, -, hd⟩ := hxs y hy
    obtain ⟨s, rfl, hs⟩ := plain_string (by kernel_rfl : Try.prog.underlying 9 = some .string) hd
    exact ⟨s, rfl, hs⟩
  obtain ⟨ws, hws⟩ := all2_of (R := fun (s : ByteArray) y => y = AV.v (.string s) ∧ s.size ≤ maxLen) xs key
  have he : xs = strs ws := by
    unfold strs
    apply List.ext_getElem?
    intro i
    rw [List.getElem?_map]
    cases hi : ws[i]? with
    | none =>
      rw [List.getElem?_eq_none_iff] at hi
      rw [Option.map_none, List.getElem?_eq_none_iff]
      rw [← hws.1]; exact hi
    | some s =>
      obtain ⟨b, hb, rfl, -⟩ := hws.get hi
      rw [hb]; rfl
  have := maxLen_lt
  subst he
  refine ⟨ws, x, rfl, hx, by rw [strs_len] at hlen; omega, fun s hs => ?_⟩
  obtain ⟨b, -, -, h2⟩ := hws.mem_left hs
  omega
theorem chap_of {N : Nat} {cs : List AV} (h : Plain Try.prog (N + 4) 78 cs) : ∃ c, ChapF c (.agg cs) := by
  obtain ⟨hl, hf⟩ := plain_struct (l := [(0, 3), (1, 76)]) (by kernel_rfl) (by kernel_rfl) h
  obtain ⟨a, b, rfl⟩ := two_cells (hl.trans (by kernel_rfl))
  have h0 := hf (0, 3) (by simp)
  have h1 := hf (1, 76) (by simp)
  have e0 : Try.prog.cellsOf 3 = 1 := by kernel_rfl
  have e1 : Try.prog.cellsOf 76 = 1 := by kernel_rfl
  simp only [e0, e1, List.drop_zero, List.drop_succ_cons, List.take_succ_cons, List.take_zero] at h0 h1
  obtain ⟨m, hm, -⟩ := plain_int (by kernel_rfl : Try.prog.underlying 3 = some (.int .i64)) h0
  obtain ⟨x, xs, hx, hsl, hlen, hxs⟩ := plain_slice (c := 1) (by kernel_rfl : Try.prog.underlying 76 = some (.slice 51)) (by kernel_rfl) h1
  simp only [List.cons.injEq, and_true] at hm hx
  subst hm; subst hx
  have key : ∀ y ∈ xs, ∃ ws, LineF ws y := by
    intro y hy
    obtain ⟨d, rfl, -, hd⟩ := hxs y hy
    obtain ⟨ws, z, rfl, hz⟩ := line_of hd
    exact ⟨ws, hz⟩
  obtain ⟨ls, hls⟩ := all2_of xs key
  have := maxLen_lt
  refine ⟨(m, ls), ⟨_, rfl, xs, hsl, hls.1, fun i a b ha hb => (hls.2 i a b ha hb).1⟩, by have := hls.1; show ls.length < _; omega, fun l hl => ?_⟩
  obtain ⟨b, -, hb⟩ := hls.mem_left hl
  exact ⟨hb.2.1, hb.2.2⟩
theorem text_of {N : Nat} {x : AV} (h : Arg Try.prog (N + 6) 24 x) : ∃ t, TextA t x ∧ Fits t := by
  obtain ⟨A, rfl, hp⟩ := arg_struct (by kernel_rfl) h
  obtain ⟨hl, hf⟩ := plain_struct (l := [(0, 22)]) (by kernel_rfl) (by kernel_rfl) hp
  have h0 := hf (0, 22) (by simp)
  have hl1 : A.length = 1 := hl.trans (by kernel_rfl)
  obtain ⟨ch, rfl⟩ : ∃ c, A = [c] := by
    match A, hl1 with
    | [a], _ => exact ⟨a, rfl⟩
  have e0 : Try.prog.cellsOf 22 = 1 := by kernel_rfl
  simp only [e0, List.drop_zero, List.take_succ_cons, List.take_zero] at h0
  obtain ⟨y, xs, hy, hsl, hlen, hxs⟩ := plain_slice (c := 2) (by kernel_rfl : Try.prog.underlying 22 = some (.slice 78)) (by kernel_rfl) h0
  simp only [List.cons.injEq, and_true] at hy
  subst hy
  have key : ∀ y ∈ xs, ∃ c, ChapF c y := by
    intro y hy
    obtain ⟨d, rfl, hd2, hd⟩ := hxs y hy
    obtain ⟨a, b, rfl⟩ := two_cells hd2
    exact chap_of hd
  obtain ⟨t, ht⟩ := all2_of xs key
  have := maxLen_lt
  have hmem : ∀ c ∈ t, c.2.length < 2 ^ 63 ∧ ∀ l ∈ c.2, l.length < 2 ^ 63 ∧ ∀ s ∈ l, s.size < 2 ^ 63 := fun c hc => by
    obtain ⟨b, -, hb⟩ := ht.mem_left hc
    exact hb.2
  exact ⟨t, ⟨ch, rfl, xs, hsl, ht.1, fun i a b ha hb => (ht.2 i a b ha hb).1⟩, by have := ht.1; omega, fun c hc => (hmem c hc).1, fun c hc l hl => ((hmem c hc).2 l hl).1, fun c hc l hl s hs => ((hmem c hc).2 l hl).2 s hs⟩
theorem freeze_to_v {H : Heap} {K : Nat} {x : AV} {y : Value} (h : freezeV H K x = some (.v y)) : x = .v y := by
  cases K with
  | zero => cases h
  | succ K =>
    unfold freezeV at h
    cases x with
    | v z => simpa using h
    | ro z k => simp at h
    | vs s l c => simp at h
    | agg l => simp only [Option.map_eq_some_iff] at h; obtain ⟨_, _, h⟩ := h; cases h
    | tup l => simp only [Option.map_eq_some_iff] at h; obtain ⟨_, _, h⟩ := h; cases h
    | ifc t z => simp only [Option.map_eq_some_iff] at h; obtain ⟨_, _, h⟩ := h; cases h
    | mp b => simp only at h; split at h <;> simp at h
    | yld b => simp only at h; split at h <;> simp at h
    | fn f a b => simp only at h; split at h <;> simp at h
    | ptr b v k =>
      simp only at h
      split at h
      · simp at h
      · split at h
        · split at h
          · split at h <;> simp at h
          · simp at h
        · simp at h
    | sl b v off len c =>
      simp only at h
      split at h
      · simp at h
      · split at h
        · split at h
          · split at h
            · simp at h
            · split at h
              · split at h <;> simp at h
              · simp at h
          · simp at h
        · simp at h
theorem Ans.lim {C : Cfg} {f : FuncId} {args : List AV} (h : Ans C f args (.v (.bool true))) : ∃ H', Go.Ev.lim C (.call f args { objs := [], lock := 0 }) = some (.ret (.v (.bool true)) H') := by
  obtain ⟨x, H, h1, h2⟩ := Ans.iff.1 h
  rw [freeze_to_v h2] at h1
  exact ⟨H, h1⟩
end Go.Ev
namespace Go.Ev
open Go.Proofs
set_option maxRecDepth 100000
set_option linter.unusedSimpArgs false
theorem put_endN {H : Heap} {n : Nat} (hn : H.size = n) (o : AObj) : H.put n o = H.plus [some o] := by subst hn; exact put_push o
theorem row_endN {H : Heap} {n : Nat} (hn : H.size = n) (v w m e sz g) (cs : List AV) : (H.plus [some (.cells w m e sz g cs)]).row n v = if w = v then some (m, e, sz, g, cs) else none := plus_row_at hn [] [] v w m e sz g cs
theorem store_endN {H : Heap} {n : Nat} (hn : H.size = n) (hl : H.lock ≤ n) (v m e sz g) (cs : List AV) (off : Nat) (xs : List AV) : storeCells (H.plus [some (.cells v m e sz g cs)]) n v off xs = if off + xs.length ≤ cs.length ∧ xs.all AV.flat = true then some (H.plus [some (.cells v (Nat.max m (boundL xs)) e sz g (splice off xs cs))]) else none := plus_store_end hn hl [] v m e sz g cs off xs
theorem settle_endN {H : Heap} {n : Nat} (hn : H.size = n) (o : AObj) : settleH n (H.plus [some o]) = H.plus [some o] := settle_end hn [] o
theorem settle_eqN {H : Heap} {n : Nat} (hn : H.size = n) : settleH n H = H := by subst hn; exact settle_size H
theorem trim_eqN {H : Heap} {n : Nat} (hn : H.size = n) (vs : List AV) (ms : List Nat) : H.trim n vs ms = H := by subst hn; exact trim_size H vs ms
theorem size_endN {H : Heap} {n : Nat} (hn : H.size = n) (E : List (Option AObj)) : (H.plus E).size = n + E.length := by rw [plus_size, hn]
theorem row_of {H : Heap} {b v w m e sz g} {cs : List AV} (h : H.get b = some (.cells w m e sz g cs)) : H.row b v = if w = v then some (m, e, sz, g, cs) else none := by
  unfold Heap.row; rw [h]
theorem not_key {m : Fm} {H : Heap} (h : Has m H) {b : Nat} (hb : H.size ≤ b) : ¬ keyIn b m := by
  rintro ⟨p, hp, rfl⟩
  have := get_ltS (h p hp); omega
set_option maxHeartbeats 4000000 in
theorem yields2_88 {e : Exts} (ch : AV) (xs : List AV) (hch : SlOf 2 xs ch) (hall : ∀ y ∈ xs, OkCh y) (hlen : xs.length < 2 ^ 63) : Yields2 (Cx e) 97 [.ro (.agg [ch]) 0] (chapIts 0 xs) := by
  intro l S R stp ok live n0 k hsrc s m H hok hlv hR hH hlk hsz
  have key : Fn' (Cx e) 97 [.yld l, .ro (.agg [ch]) 0] H fun v H' => v = .tup [] ∧ ∃ m', R (runIt stp (chapIts 0 xs) s).2 m' ∧ Has m' H' ∧ Moves m H m' H' := by
    rw [fn_step (fn_97 e) (show Try.f97.body = some _ from rfl)]
    generalize hN : H.size = N at *
    simp -implicitDefEqProofs only [Try.f97, go_sem, ↓reduceIte, Int.reduceEq, Int.reduceLT, Int.reduceLE, List.zip_cons_cons, List.zip_nil_right, List.zip_nil_left, setT_nil, setT_cons, intA, hch.cells, hch.flat, hch.bound, hch.len, hN, settle_eqN hN]
    refine Lp_rule (P := fun μ a H1 => ∃ i s1 m1, i + μ = xs.length ∧ a = ⟨34, [(0, .yld l), (1, .ro (.agg [ch]) 0), (8, ch), (9, intA xs.length), (10, intA i)], []⟩ ∧ live s1 ∧ R s1 m1 ∧ Has m1 H1 ∧ Moves m H m1 H1 ∧ runIt stp (chapIts 0 xs) s = runIt stp (chapIts i (xs.drop i)) s1 ∧ okRun stp ok (chapIts i (xs.drop i)) s1) ?_ xs.length _ _ ⟨0, s, m, by omega, rfl, hlv, hR, hH, Moves.refl _ _, rfl, hok⟩
    rintro μ _ H1 ⟨i, s1, m1, hi, rfl, hlv1, hR1, hH1, hmv1, hrun1, hok1⟩
    have hlk1 : H1.lock = k := hmv1.lock.trans hlk
    have hsz1 : n0 ≤ H1.size := by have := hmv1.size; omega
    generalize hN1 : H1.size = N1 at *
    cases μ with
    | zero =>
      obtain rfl : i = xs.length := by omega
      simp -implicitDefEqProofs only [go_sem, ↓reduceIte, Int.reduceEq, Int.reduceLT, Int.reduceLE, List.zip_cons_cons, List.zip_nil_right, List.zip_nil_left, setT_nil, setT_cons, intA, Int.lt_irrefl, hN1, settle_eqN hN1, trim_eqN hN1]
      rw [List.drop_of_length_le (Nat.le_refl _)] at hrun1
      rw [hrun1]
      exact ⟨rfl, m1, hR1, hH1, hmv1⟩
    | succ μ =>
      obtain ⟨y, hy⟩ := at_lt xs i (by omega)
      obtain ⟨id, l0, lxs, rfl, hl0, hlc, hll⟩ := hall y (List.mem_of_getElem? hy)
      have hlt : (i : Int) < ((xs.length : Nat) : Int) := by omega
      have hw := wrap_succ i (by omega)
      have hkN : H1.lock ≤ N1 := by have := hsrc.klock; omega
      simp -implicitDefEqProofs only [go_sem, ↓reduceIte, Int.reduceEq, Int.reduceLT, Int.reduceLE, List.zip_cons_cons, List.zip_nil_right, List.zip_nil_left, setT_nil, setT_cons, intA, hlt, hN1, settle_eqN hN1, hch.idx hy, hl0.cells, hl0.flat, hl0.bound, put_endN hN1, row_endN hN1, store_endN hN1 hkN, settle_endN hN1, size_endN hN1, hl0.len]
      have hc : chapIts i (xs.drop i) = lineIts i 0 (lxs.drop 0) ++ chapIts (i + 1) (xs.drop (i + 1)) := by
        rw [chapIts_drop xs i _ hy, List.drop_zero]
        show lineIts i 0 (slElems l0) ++ _ = _
        rw [hl0.elems]
      refine Lp_rule (P := fun μ a H2 => ∃ j s2 m2, j + μ = lxs.length ∧ a = ⟨34, [(0, .yld l), (1, .ro (.agg [ch]) 0), (8, ch), (9, intA xs.length), (10, intA i), (11, .v (.bool true)), (4, .ptr N1 0 0), (3, intA i), (17, intA lxs.length), (18, intA j)], []⟩ ∧ live s2 ∧ R s2 m2 ∧ Has m2 H2 ∧ Moves m1 (H1.plus [some (.cells 0 0 78 1 false [intA id, l0])]) m2 H2 ∧ runIt stp (chapIts 0 xs) s = runIt stp (lineIts i j (lxs.drop j) ++ chapIts (i + 1) (xs.drop (i + 1))) s2 ∧ okRun stp ok (lineIts i j (lxs.drop j) ++ chapIts (i + 1) (xs.drop (i + 1))) s2) ?_ lxs.length _ _ ⟨0, s1, m1, by omega, rfl, hlv1, hR1, hH1.plus _, Moves.refl _ _, by rw [hrun1, hc], by rw [hc] at hok1; exact hok1⟩
      rintro μ2 _ H2 ⟨j, s2, m2, hj, rfl, hlv2, hR2, hH2, hmv2, hrun2, hok2⟩
      have hlk2 : H2.lock = k := hmv2.lock.trans hlk1
      have hp1 := size_endN hN1 [some (AObj.cells 0 0 78 1 false [intA id, l0])]
      have hrow2 : H2.get N1 = some (.cells 0 0 78 1 false [intA id, l0]) := by
        rw [hmv2.same N1 (by rw [hp1]; simp) (not_key hH1 (Nat.le_of_eq hN1))]
        exact plus_mid_get hN1 [] [] _
      have hrw := row_of (v := 0) hrow2
      have hmv12 : Moves m H m2 H2 := hmv1.trans ((Moves.plus m1 H1 _).trans hmv2)
      have hsz2 : n0 ≤ H2.size := by have := hmv12.size; omega
      have hlt2 : N1 < H2.size := get_ltS hrow2
      generalize hN2 : H2.size = N2 at *
      cases μ2 with
      | zero =>
        obtain rfl : j = lxs.length := by omega
        rw [List.drop_of_length_le (Nat.le_refl _)] at hrun2 hok2
        simp -implicitDefEqProofs only [go_sem, ↓reduceIte, Int.reduceEq, Int.reduceLT, Int.reduceLE, List.zip_cons_cons, List.zip_nil_right, List.zip_nil_left, setT_nil, setT_cons, intA, Int.lt_irrefl, hN2, settle_eqN hN2, trim_eqN hN2, hw]
        refine ⟨μ, by omega, i + 1, s2, m2, by omega, rfl, hlv2, hR2, ?_, ?_, hrun2, hok2⟩
        · exact hH2.trim (hsrc.anch _ _ hR2) hsz1 _ _
        · exact hmv1.trans ((Moves.plus m1 H1 _).trans hmv2 |>.trim _ _ hN1.symm)
      | succ μ2 =>
        obtain ⟨x, hx⟩ := at_lt lxs j (by omega)
        have hxc := hlc x (List.mem_of_getElem? hx)
        have hltj : (j : Int) < ((lxs.length : Nat) : Int) := by omega
        have hwj := wrap_succ j (by omega)
        have hdr := lineIts_drop i lxs j x hx
        rw [hdr, List.cons_append] at hok2
        obtain ⟨H3, H4, m4, hr3, hr4, hR4, hH4, hmv4⟩ := hsrc.round' s2 m2 [placeA i j 0, x] H2 hlv2 hok2.1 hR2 hH2 hlk2 (by omega)
        have hst := hsrc.step s2 [placeA i j 0, x] hlv2 hok2.1
        rw [hdr, List.cons_append, runIt_cons] at hrun2
        rw [hN2] at hr4
        cases hb : (stp s2 [placeA i j 0, x]).1
        · rw [hb] at hr3 hrun2
          simp only [placeA, intA] at hr3
          simp -implicitDefEqProofs only [go_sem, ↓reduceIte, Int.reduceEq, Int.reduceLT, Int.reduceLE, List.zip_cons_cons, List.zip_nil_right, List.zip_nil_left, setT_nil, setT_cons, intA, hltj, hN2, settle_eqN hN2, trim_eqN hN2, hwj, hrw, hl0.idx hx, hxc, hr3, hr4]
          simp only [Bool.false_eq_true, if_false] at hrun2
          rw [hrun2]
          exact ⟨rfl, m4, hR4, hH4, hmv12.trans hmv4⟩
        · rw [hb] at hr3 hrun2
          simp only [placeA, intA] at hr3
          simp -implicitDefEqProofs only [go_sem, ↓reduceIte, Int.reduceEq, Int.reduceLT, Int.reduceLE, List.zip_cons_cons, List.zip_nil_right, List.zip_nil_left, setT_nil, setT_cons, intA, hltj, hN2, settle_eqN hN2, trim_eqN hN2, hwj, hrw, hl0.idx hx, hxc, hr3, hr4]
          simp only [if_true] at hrun2
          refine ⟨μ2, by omega, j + 1, _, m4, by omega, rfl, hst hb, hR4, ?_, ?_, hrun2, hok2.2 hb⟩
          · exact hH4.trim (hsrc.anch _ _ hR4) (by omega) _ _
          · exact hmv2.trans (hmv4.trim _ _ hN2.symm)
  obtain ⟨v, H', h1, rfl, m', h2, h3, h4⟩ := fn_ex key
  exact ⟨H', m', h1, h2, h3, h4⟩
end Go.Ev
namespace Go.Ev
open Go.Proofs
set_option maxRecDepth 100000
set_option linter.unusedSimpArgs false
/-! ### isIndex, lineOf -/
theorem ans65 {e : Exts} (he : Quiet e) (a : Int) (n : Nat) (hn : n < 2 ^ 63) : Ans (Cx e) 71 [intA a, intA n] (.v (.bool (decide (0 ≤ a ∧ a < n)))) := by
  have hw : IntKind.i64.wrap ((n : Int) - 1) = (n : Int) - 1 := wrap_in _ (by omega) (by omega)
  have hc := call69 he 0 ((n : Int) - 1) [a] (by simp) (.vs 1 [.v (.int .i64 a)] (some 1)) (Or.inr ⟨_, rfl⟩)
  rw [within_len] at hc
  unfold intA at hc
  unfold Ans
  rw [fn_step (fn_71 e) (show Try.f71.body = some _ from rfl)]
  simp -implicitDefEqProofs only [Try.f71, go_sem, ↓reduceIte, Int.reduceEq, Int.reduceLT, Int.reduceLE, List.reduceReplicate, intA, setT_nil, setT_cons, hw, hc]
theorem call65 {e : Exts} (he : Quiet e) (a : Int) (n : Nat) (hn : n < 2 ^ 63) (me : FuncId) (d : Option Tmp) (H : Heap) : callA (Cx e) (lim (Cx e)) me 71 d [.v (.int .i64 a), .v (.int .i64 n)] H = some (.v (.bool (decide (0 ≤ a ∧ a < n))), H) :=
  (ans65 he a n hn).call (ext_71 he) (pure_71 _ _ _) rfl H
set_option maxHeartbeats 2000000 in
theorem ans45 {e : Exts} (he : Quiet e) (t : Txt) (ht : Fits t) (ch : AV) (xs : List AV) (hch : SlOf 2 xs ch) (hall : All2 ChapA t xs) (a b c : Int) : ∃ x, LineO (lineAt t a b) x ∧ Ans (Cx e) 45 [.agg [ch], .agg [intA a, intA b, intA c]] x := by
  have hc1 := call65 he a t.length ht.chs
  by_cases h1 : 0 ≤ a ∧ a < t.length
  · obtain ⟨i, rfl⟩ : ∃ i : Nat, a = i := ⟨a.toNat, by omega⟩
    obtain ⟨cp, hs⟩ := at_lt t i (by omega)
    obtain ⟨y, hy, l, rfl, lxs, hl, hls⟩ := hall.get hs
    have hm := List.mem_of_getElem? hs
    have hc2 := call65 he b cp.2.length (ht.lines cp hm)
    rw [decide_eq_true h1] at hc1
    by_cases h2 : 0 ≤ b ∧ b < cp.2.length
    · obtain ⟨j, rfl⟩ : ∃ j : Nat, b = j := ⟨b.toNat, by omega⟩
      obtain ⟨ln, hn⟩ := at_lt cp.2 j (by omega)
      obtain ⟨lx, hx, hlx⟩ := hls.get hn
      have hlx : SlOf 1 (strs ln) lx := hlx
      rw [decide_eq_true h2] at hc2
      have hL : lineAt t i j = some ln := by unfold lineAt; rw [if_pos (by omega)]; simp [hs, hn]
      rw [hL]
      refine ⟨lx, hlx, ?_⟩
      unfold Ans
      rw [fn_step (fn_45 e) (show Try.f45.body = some _ from rfl)]
      simp -implicitDefEqProofs only [Try.f45, go_sem, ↓reduceIte, Int.reduceEq, Int.reduceLT, Int.reduceLE, List.reduceReplicate, intA, setT_nil, setT_cons, hch.cells, hch.flat, hch.bound, hch.len, ← hall.1, hc1, hch.idx hy, hl.len, hl.cells, ← hls.1, hc2, hl.idx hx, hlx.cells]
      rcases hlx with ⟨rfl, -⟩ | ⟨cap, rfl⟩ <;> rfl
    · rw [decide_eq_false h2] at hc2
      have hL : lineAt t i b = none := by
        unfold lineAt
        split
        · simp only [Int.toNat_natCast, hs, Option.bind_some]
          rw [List.getElem?_eq_none_iff]; omega
        · rfl
      rw [hL]
      refine ⟨_, rfl, ?_⟩
      unfold Ans
      rw [fn_step (fn_45 e) (show Try.f45.body = some _ from rfl)]
      simp -implicitDefEqProofs only [Try.f45, go_sem, ↓reduceIte, Int.reduceEq, Int.reduceLT, Int.reduceLE, List.reduceReplicate, intA, setT_nil, setT_cons, hch.cells, hch.flat, hch.bound, hch.len, ← hall.1, hc1, hch.idx hy, hl.len, hl.cells, ← hls.1, hc2]
  · rw [decide_eq_false h1] at hc1
    have hL : lineAt t a b = none := by
      unfold lineAt
      split
      · have : t[a.toNat]? = none := by rw [List.getElem?_eq_none_iff]; omega
        rw [this]; rfl
      · rfl
    rw [hL]
    refine ⟨_, rfl, ?_⟩
    unfold Ans
    rw [fn_step (fn_45 e) (show Try.f45.body = some _ from rfl)]
    simp -implicitDefEqProofs only [Try.f45, go_sem, ↓reduceIte, Int.reduceEq, Int.reduceLT, Int.reduceLE, List.reduceReplicate, intA, setT_nil, setT_cons, hch.cells, hch.flat, hch.bound, hch.len, ← hall.1, hc1]
theorem LineO.bound {o : Option Line} {x : AV} (h : LineO o x) : bound x = 0 := by
  cases o with
  | none => simp only [LineO] at h; subst h; rfl
  | some l => exact SlOf.bound h
theorem call45 {e : Exts} (he : Quiet e) (t : Txt) (ht : Fits t) (ch : AV) (xs : List AV) (hch : SlOf 2 xs ch) (hall : All2 ChapA t xs) (a b c : Int) : ∃ x, LineO (lineAt t a b) x ∧ (∀ (me : FuncId) (d : Option Tmp) (H : Heap), callA (Cx e) (lim (Cx e)) me 45 d [.agg [ch], .agg [.v (.int .i64 a), .v (.int .i64 b), .v (.int .i64 c)]] H = some (x, H)) ∧ ∀ (me : FuncId) (d : Option Tmp), callI (Cx e) me 45 d [.agg [ch], .agg [.v (.int .i64 a), .v (.int .i64 b), .v (.int .i64 c)]] = some x := by
  obtain ⟨x, hx, h⟩ := ans45 he t ht ch xs hch hall a b c
  exact ⟨x, hx, fun me d H => h.call (ext_45 he) (pure_45 _ _ _) (by simp only [boundL_cons, bound_agg, hch.bound, boundL_nil, intA, bound_v]; rfl) H, fun me d => h.callI (ext_45 he) (pure_45 _ _ _) (by simp only [boundL_cons, bound_agg, hch.bound, boundL_nil, intA, bound_v]; rfl)⟩
end Go.Ev
namespace Go.Ev
open Go.Proofs
set_option maxRecDepth 100000
set_option linter.unusedSimpArgs false
/-! ### hasPlace, comparePlaces -/
/-- which one is first -/
def cmpI (a b : Int) : Int := if a < b then -1 else if b < a then 1 else 0
theorem ans119 {e : Exts} (a : Int) : Ans (Cx e) 129 [intA a] (.v (.bool false)) := by
  unfold Ans
  rw [fn_step (fn_129 e) (show Try.f129.body = some _ from rfl)]
  simp -implicitDefEqProofs only [Try.f129, go_sem, ↓reduceIte, Int.reduceEq, Int.reduceLT, Int.reduceLE, List.reduceReplicate, intA, setT_nil, setT_cons]
theorem call119 {e : Exts} (he : Quiet e) (a : Int) (me : FuncId) (d : Option Tmp) (H : Heap) : callA (Cx e) (lim (Cx e)) me 129 d [.v (.int .i64 a)] H = some (.v (.bool false), H) :=
  (ans119 a).call (ext_129 he) (pure_129 _ _ _) rfl H
theorem ans99 {e : Exts} (he : Quiet e) (a b : Int) : Ans (Cx e) 107 [intA a, intA b] (intA (cmpI a b)) := by
  unfold Ans cmpI
  rw [fn_step (fn_107 e) (show Try.f107.body = some _ from rfl)]
  by_cases h1 : a < b
  · simp -implicitDefEqProofs only [Try.f107, go_sem, ↓reduceIte, Int.reduceEq, Int.reduceLT, Int.reduceLE, List.reduceReplicate, intA, setT_nil, setT_cons, call119 he, h1]
  · by_cases h2 : b < a
    · simp -implicitDefEqProofs only [Try.f107, go_sem, ↓reduceIte, Int.reduceEq, Int.reduceLT, Int.reduceLE, List.reduceReplicate, intA, setT_nil, setT_cons, call119 he, h1, h2]
    · simp -implicitDefEqProofs only [Try.f107, go_sem, ↓reduceIte, Int.reduceEq, Int.reduceLT, Int.reduceLE, List.reduceReplicate, intA, setT_nil, setT_cons, call119 he, h1, h2]
theorem callI99 {e : Exts} (he : Quiet e) (a b : Int) (me : FuncId) (d : Option Tmp) : callI (Cx e) me 107 d [.v (.int .i64 a), .v (.int .i64 b)] = some (.v (.int .i64 (cmpI a b))) :=
  (ans99 he a b).callI (ext_107 he) (pure_107 _ _ _) rfl
/-- the first that is not 0 -/
def orI : List Int → Int
  | [] => 0
  | a :: r => if a = 0 then orI r else a
set_option maxHeartbeats 2000000 in
theorem ans98 {e : Exts} (ns : List Int) (hn : ns.length < 2 ^ 63) (x : AV) (hx : SlOf 1 (ns.map intA) x) : Ans (Cx e) 106 [x] (intA (orI ns)) := by
  unfold Ans
  rw [fn_step (fn_106 e) (show Try.f106.body = some _ from rfl)]
  simp -implicitDefEqProofs only [Try.f106, go_sem, ↓reduceIte, Int.reduceEq, Int.reduceLT, Int.reduceLE, List.reduceReplicate, intA, setT_nil, setT_cons, hx.len, List.length_map]
  refine Lp_rule (P := fun μ a H => ∃ j, j + μ = ns.length ∧ a = ⟨18, [(0, x), (2, intA 0), (3, intA 0), (6, x), (7, intA ns.length), (8, intA j)], []⟩ ∧ H = ⟨[], 0⟩ ∧ orI ns = orI (ns.drop j)) ?_ ns.length _ _ ⟨0, by omega, rfl, rfl, rfl⟩
  rintro μ _ _ ⟨j, hj, rfl, rfl, ho⟩
  cases μ with
  | zero =>
    obtain rfl : j = ns.length := by omega
    rw [List.drop_of_length_le (Nat.le_refl _)] at ho
    simp -implicitDefEqProofs only [go_sem, ↓reduceIte, Int.reduceEq, Int.reduceLT, Int.reduceLE, List.reduceReplicate, intA, setT_nil, setT_cons, Int.lt_irrefl]
    rw [ho]; rfl
  | succ μ =>
    have hlt : (j : Int) < (ns.length : Int) := by omega
    have hw := wrap_succ j (by omega)
    have hy : (ns.map intA)[j]? = some (.v (.int .i64 ns[j])) := by rw [List.getElem?_map, List.getElem?_eq_getElem (by omega)]; rfl
    rw [List.drop_eq_getElem_cons (by omega : j < ns.length)] at ho
    cases h1 : decide (ns[j] = 0)
    · simp -implicitDefEqProofs only [go_sem, ↓reduceIte, Int.reduceEq, Int.reduceLT, Int.reduceLE, List.reduceReplicate, intA, setT_nil, setT_cons, hlt, hw, hx.idx hy, h1]
      rw [ho]; simp only [orI]
      rw [if_neg (of_decide_eq_false h1)]
    · simp -implicitDefEqProofs only [go_sem, ↓reduceIte, Int.reduceEq, Int.reduceLT, Int.reduceLE, List.reduceReplicate, intA, setT_nil, setT_cons, hlt, hw, hx.idx hy, h1]
      refine ⟨μ, by omega, j + 1, by omega, rfl, rfl, ?_⟩
      rw [ho]; simp only [orI]
      rw [if_pos (of_decide_eq_true h1)]
theorem callI98 {e : Exts} (he : Quiet e) (a b c : Int) (me : FuncId) (d : Option Tmp) : callI (Cx e) me 106 d [.vs 1 [.v (.int .i64 a), .v (.int .i64 b), .v (.int .i64 c)] (some 3)] = some (.v (.int .i64 (orI [a, b, c]))) :=
  (ans98 [a, b, c] (by simp) _ (Or.inr ⟨_, rfl⟩)).callI (ext_106 he) (pure_106 _ _ _) rfl
def cmpP (a b c a' b' c' : Int) : Int := orI [cmpI a a', cmpI b b', cmpI c c']
set_option maxHeartbeats 2000000 in
theorem ans85 {e : Exts} (he : Quiet e) (a b c a' b' c' : Int) : Ans (Cx e) 84 [.agg [intA a, intA b, intA c], .agg [intA a', intA b', intA c']] (intA (cmpP a b c a' b' c')) := by
  unfold Ans cmpP
  rw [fn_step (fn_84 e) (show Try.f84.body = some _ from rfl)]
  simp -implicitDefEqProofs only [Try.f84, go_sem, ↓reduceIte, Int.reduceEq, Int.reduceLT, Int.reduceLE, List.reduceReplicate, intA, setT_nil, setT_cons]
  refine wp_drawX [([], [], false), ([], [], false), ([], [], false), ([1], [], false), ([], [], false), ([], [], false), ([1, 3, 4], [], false), ([], [], false), ([1, 3, 4, 6], [], false), ([], [], false), ([], [], false), ([1, 3, 4, 6, 8, 9], [], false), ([], [], false), ([1, 3, 4, 6, 8, 9, 11], [], false), ([], [], false), ([], [], false), ([], [15], false), ([], [], false)] (by kernel_rfl) (by kernel_rfl) ?_
  simp -implicitDefEqProofs only [go_sem, ↓reduceIte, Int.reduceEq, Int.reduceLT, Int.reduceLE, List.reduceReplicate, intA, setT_nil, setT_cons, callI99 he, callI98 he]
end Go.Ev
namespace Go.Ev
open Go.Proofs
set_option maxRecDepth 100000
set_option linter.unusedSimpArgs false
/-! ### copies -/
structure Rd where
  ch : Int
  ln : Int
  wd : Int
  kind : Int
  word : ByteArray
def rdV (r : Rd) : AV := .agg [.v (.int .i64 r.ch), .v (.int .i64 r.ln), .v (.int .i64 r.wd), .v (.int .u8 r.kind), .v (.string r.word)]
def RdsA (l : List Rd) (x : AV) : Prop := SlOf 5 (l.map rdV) x
end Go.Ev
namespace Go.Ev
open Go.Proofs
set_option maxRecDepth 100000
set_option linter.unusedSimpArgs false
theorem str_eqB (u w : ByteArray) : bytesEq u.data.toList w.data.toList = decide (u = w) := by
  rw [bytesEq_iff, Bool.eq_iff_iff]
  simp only [decide_eq_true_eq]
  exact (str_ext u w).symm
theorem bin_seq {P : Program} {t : TypeId} (x y : Operand) (u w : ByteArray) : binA P .eql t x y (.v (.string u)) (.v (.string w)) = some (.v (.bool (decide (u = w)))) := by
  rw [← str_eqB]; rfl
def emp : ByteArray := ⟨#[]⟩
def at0 (l : Line) (i : Int) : ByteArray := (l[i.toNat]?).getD emp
/-- what readings of a kind have to be like -/
def fits1 (l : Line) (r : Rd) : Bool := decide (0 ≤ r.wd ∧ r.wd < l.length) && decide (r.word = emp)
def fits2 (l : Line) (r : Rd) : Bool := withinB 0 l.length [r.wd] && wordB r.word
def fits3 (l : Line) (r : Rd) : Bool := decide (0 ≤ r.wd ∧ r.wd < l.length) && wordB r.word && !decide (r.word = at0 l r.wd)
end Go.Ev
/- Appending to slices of this seat's types. Made by program. -/
namespace Go.Ev
open Go.Proofs
set_option maxRecDepth 1000000
@[go_sem] theorem app_22 (H : Heap) (slot : Nat) (s x : AV) : appendA Try.prog H slot [22, 22] [s, x] = appG 78 2 32 H slot s (cellsFrom H 2 x) := app_eq2 (by kernel_rfl) und_22 (by kernel_rfl) (by kernel_rfl) (by decide) (by decide) H slot s x
@[go_sem] theorem app_51 (H : Heap) (slot : Nat) (s x : AV) : appendA Try.prog H slot [51, 51] [s, x] = appG 9 1 16 H slot s (cellsFrom H 1 x) := app_eq2 (by kernel_rfl) und_51 (by kernel_rfl) (by kernel_rfl) (by decide) (by decide) H slot s x
@[go_sem] theorem app_60 (H : Heap) (slot : Nat) (s x : AV) : appendA Try.prog H slot [60, 60] [s, x] = appG 108 5 48 H slot s (cellsFrom H 5 x) := app_eq2 (by kernel_rfl) und_60 (by kernel_rfl) (by kernel_rfl) (by decide) (by decide) H slot s x
@[go_sem] theorem app_76 (H : Heap) (slot : Nat) (s x : AV) : appendA Try.prog H slot [76, 76] [s, x] = appG 51 1 24 H slot s (cellsFrom H 1 x) := app_eq2 (by kernel_rfl) und_76 (by kernel_rfl) (by kernel_rfl) (by decide) (by decide) H slot s x
end Go.Ev
namespace Go.Ev
open Go.Proofs
set_option maxRecDepth 100000
set_option linter.unusedSimpArgs false
attribute [local irreducible] Wp WpS
/-! ### fit -/
end Go.Ev
namespace Go.Ev
open Go.Proofs
set_option maxRecDepth 100000
set_option linter.unusedSimpArgs false
attribute [local irreducible] Wp WpS
/-! ### the readings of a line -/
def atLine (ch ln wd : Int) (r : Rd) : Bool := eqP r.ch r.ln 0 ch ln wd
def rdCells (l : List Rd) : List AV := l.flatMap fun r => (rdV r).cells
def ofV : List Rd → AV
  | [] => .v (.slice none 0 0)
  | r :: l => .vs 5 ((r :: l).map rdV) none
theorem bound_sl (b v o n : Nat) (c : Option Nat) : bound (.sl b v o n c) = b + 1 := rfl
theorem rdCells_cons (r : Rd) (f : List Rd) : rdCells (r :: f) = (rdV r).cells ++ rdCells f := rfl
theorem rdCells_len : ∀ f : List Rd, (rdCells f).length = f.length * 5
  | [] => rfl
  | r :: f => by rw [rdCells_cons, List.length_append, rdCells_len f, List.length_cons]; show 5 + _ = _; omega
theorem rdCells_append (f g : List Rd) : rdCells (f ++ g) = rdCells f ++ rdCells g := List.flatMap_append
theorem chunk_rds : ∀ f : List Rd, chunk 5 f.length (rdCells f) = f.map rdV
  | [] => rfl
  | r :: f => by
    rw [rdCells_cons, List.length_cons, List.map_cons, ← chunk_rds f]; rfl
end Go.Ev
namespace Go.Ev
open Go.Proofs
set_option maxRecDepth 100000
set_option linter.unusedSimpArgs false
attribute [local irreducible] Wp WpS
/-! ### readers of lines -/
/-- what is left behind: the base, and what nothing leads to -/
def rawE (H : Heap) (w : AV) (Y : Heap) : PostO := fun v H' => v = w ∧ ∃ F, H'.trim H.size [v] [] = Y.plus F
theorem callA_rawE {C : Cfg} {me f : FuncId} {d : Option Tmp} {args : List AV} {H Y : Heap} {w : AV} (hx : C.ext f = none) (hp : C.pure me f d = false) (h : Fn' C f args H (rawE H w Y)) : ∃ F, callA C (lim C) me f d args H = some (w, Y.plus F) := by
  unfold Fn' at h
  rw [bindO_iff] at h
  obtain ⟨o, h1, h2⟩ := h
  have hk : callKind C me f d args = 0 := by unfold callKind; rw [hp]; rfl
  cases o with
  | ret v H' =>
    obtain ⟨rfl, F, hF⟩ := h2
    refine ⟨F, ?_⟩
    unfold callA callB
    rw [hx]
    simp only [hk, h1, hF]
  | _ => exact h2.elim
theorem rawE_at {X Y : Heap} {N : Nat} (hN : X.size = N) (hNY : Y.size = N) (E : List (Option AObj)) (w v : AV) (h : v = w) : AtO (rawE X w Y) v (Y.plus E) := by
  refine ⟨h, ?_⟩
  subst hNY
  obtain ⟨G, hG⟩ := trim_plus (H := Y) [] E [v] [] (n := X.size) (by simp [hN])
  rw [List.nil_append] at hG
  exact ⟨_, hG⟩
theorem rawE_far {X Y : Heap} {E : List (Option AObj)} {N : Nat} (hN : X.size = N) (w v : AV) (h : v = w) (hv : N < bound v) : AtO (rawE X w Y) v (Y.plus E) := by
  refine ⟨h, E, ?_⟩
  unfold Heap.trim
  rw [if_neg]
  rw [Bool.and_eq_true, Bool.and_eq_true, Bool.and_eq_true, Nat.ble_eq]
  have : boundL [v] = bound v := by show Nat.max (bound v) 0 = _; exact Nat.max_eq_left (Nat.zero_le _)
  rw [this]
  exact fun g => by have := g.1.1.1; omega
end Go.Ev
namespace Go.Ev
open Go.Proofs
set_option maxRecDepth 100000
set_option linter.unusedSimpArgs false
attribute [local irreducible] Wp WpS
theorem cells_of {sz : Nat} {xs : List AV} {x : AV} (h : SlOf sz xs x) (H : Heap) : cellsFrom H sz x = some (xs.length, xs.flatMap AV.cells) := by
  rcases h with ⟨rfl, rfl⟩ | ⟨cap, rfl⟩
  · rfl
  · rw [cells_vs', if_pos rfl]
theorem SlOf.objs {sz : Nat} {xs : List AV} {x : AV} (h : SlOf sz xs x) : objsOf x = [] := by rcases h with ⟨rfl, rfl⟩ | ⟨cap, rfl⟩ <;> rfl
theorem rawE_far0 {X Y : Heap} {N : Nat} (hN : X.size = N) (w v : AV) (h : v = w) (hv : N < bound v) : AtO (rawE X w Y) v Y := by
  have := rawE_far (X := X) (Y := Y) (E := []) hN w v h hv
  rwa [plus_nil] at this
end Go.Ev
namespace Go.Ev
open Go.Proofs
set_option maxRecDepth 100000
set_option linter.unusedSimpArgs false
attribute [local irreducible] Wp WpS
def rowOf : AV → Option Nat
  | .sl b _ _ _ _ => some b
  | _ => none
/-- what was read, and where it lies -/
def DoneR (X : Heap) (ds : List ByteArray) (dv : AV) : Prop :=
  (ds = [] ∧ dv = .v (.slice none 0 0)) ∨ ∃ b v, X.lock ≤ b ∧ b < X.size ∧ dv = .sl b v 0 ds.length none ∧ X.row b v = some (0, 9, 1, true, strs ds)
structure Turned (X Y : Heap) (dv dv' : AV) (ds' : List ByteArray) : Prop where
  lock : Y.lock = X.lock
  size : X.size ≤ Y.size
  same : ∀ i, i < X.size → rowOf dv ≠ some i → Y.get i = X.get i
  done : DoneR Y ds' dv'
  row : rowOf dv' = rowOf dv ∨ ∃ i, rowOf dv' = some i ∧ X.size ≤ i
theorem row_put_same {H : Heap} {b v m e sz : Nat} {g : Bool} {cs : List AV} (hb : b < H.size) : (H.put b (.cells v m e sz g cs)).row b v = some (m, e, sz, g, cs) := by
  unfold Heap.row
  rw [put_get_eq _ (by omega)]
  simp
end Go.Ev
namespace Go.Ev
open Go.Proofs
set_option maxRecDepth 100000
set_option linter.unusedSimpArgs false
attribute [local irreducible] Wp WpS
theorem takeH_get {n i : Nat} {H : Heap} (hi : i < n) : ({ H with objs := H.objs.take n } : Heap).get i = H.get i := by
  unfold Heap.get
  simp only
  rw [List.getElem?_take, if_pos hi]
theorem settle_lo {n i : Nat} {H : Heap} (hi : i < n) : (settleH n H).get i = H.get i := by
  unfold settleH
  split
  · exact takeH_get hi
  · rfl
theorem settle_some {n i : Nat} {H : Heap} {o : AObj} (h : H.get i = some o) : (settleH n H).get i = some o := by
  unfold settleH
  split
  · rename_i ha
    by_cases hi : i < n
    · rw [takeH_get hi]; exact h
    · exfalso
      unfold Heap.get at h
      have h2 : (H.objs.drop n)[i - n]? = some (some o) := by
        rw [List.getElem?_drop, show n + (i - n) = i by omega]
        cases hq : H.objs[i]? with
        | none => rw [hq] at h; exact nomatch h
        | some z => rw [hq] at h; simp only [Option.join] at h; rw [show z = some o from h]
      have := List.all_eq_true.1 ha _ (List.mem_of_getElem? h2)
      exact nomatch this
  · exact h
theorem settle_size' {n : Nat} {H : Heap} (h : n ≤ H.size) : n ≤ (settleH n H).size := by
  unfold settleH
  split
  · unfold Heap.size at *; simp only [List.length_take]; omega
  · exact h
theorem settle_lock {n : Nat} {H : Heap} : (settleH n H).lock = H.lock := by unfold settleH; split <;> rfl
theorem row_of_get {H : Heap} {b v m e sz : Nat} {g : Bool} {cs : List AV} (h : H.row b v = some (m, e, sz, g, cs)) : H.get b = some (.cells v m e sz g cs) := by
  unfold Heap.row at h
  split at h
  · rename_i hq; split at h
    · rename_i hv; subst hv; simp only [Option.some.injEq, Prod.mk.injEq] at h; obtain ⟨rfl, rfl, rfl, rfl, rfl⟩ := h; exact hq
    · exact nomatch h
  · exact nomatch h
theorem get_row {H : Heap} {b v m e sz : Nat} {g : Bool} {cs : List AV} (h : H.get b = some (.cells v m e sz g cs)) : H.row b v = some (m, e, sz, g, cs) := by
  unfold Heap.row; rw [h]; simp
theorem get_size {H : Heap} {b : Nat} {o : AObj} (h : H.get b = some o) : b < H.size := by
  unfold Heap.get at h
  unfold Heap.size
  cases hq : H.objs[b]? with
  | none => rw [hq] at h; exact nomatch h
  | some z => exact (List.getElem?_eq_some_iff.1 hq).1
/-- what was read stays where it lies when another object is laid -/
theorem DoneR.put {X : Heap} {ds : List ByteArray} {dv : AV} (h : DoneR X ds dv) {i : Nat} (o : AObj) (hi : i < X.size) (hne : rowOf dv ≠ some i) : DoneR (X.put i o) ds dv := by
  rcases h with h | ⟨b, v, h1, h2, rfl, h4⟩
  · exact Or.inl h
  · refine Or.inr ⟨b, v, h1, by rw [put_sizeI _ hi]; exact h2, rfl, get_row ?_⟩
    rw [put_get_ne _ (by omega) (fun h => hne (by rw [← h]; rfl))]
    exact row_of_get h4
theorem DoneR.settle {X : Heap} {ds : List ByteArray} {dv : AV} (h : DoneR X ds dv) (n : Nat) : DoneR (settleH n X) ds dv := by
  rcases h with h | ⟨b, v, h1, h2, rfl, h4⟩
  · exact Or.inl h
  · have := settle_some (n := n) (row_of_get h4)
    exact Or.inr ⟨b, v, by rw [settle_lock]; exact h1, get_size this, rfl, get_row this⟩
theorem DoneR.trim {X : Heap} {ds : List ByteArray} {dv : AV} (h : DoneR X ds dv) (n : Nat) (lx : AV) : DoneR (X.trim n [.agg [lx, dv]] []) ds dv := by
  rcases h with h | ⟨b, v, h1, h2, rfl, h4⟩
  · exact Or.inl h
  · unfold Heap.trim
    split
    · rename_i hq
      rw [Bool.and_eq_true, Bool.and_eq_true, Bool.and_eq_true, Nat.ble_eq] at hq
      have hb : b < n := by
        have h5 := hq.1.1.1
        have : b + 1 ≤ boundL [.agg [lx, .sl b v 0 ds.length none]] := by
          simp only [boundL, bound]
          exact Nat.le_trans (Nat.le_trans (Nat.le_max_left _ _) (Nat.le_max_right _ _)) (Nat.le_max_left _ _)
        omega
      have hg := (takeH_get (H := X) hb).trans (row_of_get h4)
      exact Or.inr ⟨b, v, h1, get_size hg, rfl, get_row hg⟩
    · exact Or.inr ⟨b, v, h1, h2, rfl, h4⟩
theorem trim_lo {n i : Nat} {H : Heap} {vs : List AV} {ms : List Nat} (hi : i < n) : (H.trim n vs ms).get i = H.get i := by
  unfold Heap.trim
  split
  · exact takeH_get hi
  · rfl
theorem trim_size' {n : Nat} {H : Heap} {vs : List AV} {ms : List Nat} (h : n ≤ H.size) : n ≤ (H.trim n vs ms).size := by
  unfold Heap.trim
  split
  · unfold Heap.size at *; simp only [List.length_take]; omega
  · exact h
theorem trim_lock {n : Nat} {H : Heap} {vs : List AV} {ms : List Nat} : (H.trim n vs ms).lock = H.lock := by unfold Heap.trim; split <;> rfl
end Go.Ev
namespace Go.Ev
open Go.Proofs
set_option maxRecDepth 100000
set_option linter.unusedSimpArgs false
attribute [local irreducible] Wp WpS
def rawT (H : Heap) (w : AV) (Q : Heap → Prop) : PostO := fun v H' => v = w ∧ Q (H'.trim H.size [v] [])
theorem DoneR.plus {X : Heap} {ds : List ByteArray} {dv : AV} (h : DoneR X ds dv) (E : List (Option AObj)) : DoneR (X.plus E) ds dv := by
  rcases h with h | ⟨b, v, h1, h2, rfl, h4⟩
  · exact Or.inl h
  · exact Or.inr ⟨b, v, h1, by rw [plus_size]; omega, rfl, by rw [rowLo h2]; exact h4⟩
theorem DoneR.below {X : Heap} {ds : List ByteArray} {dv : AV} (h : DoneR X ds dv) {i : Nat} (hi : X.size ≤ i) : rowOf dv ≠ some i := by
  rcases h with ⟨_, rfl⟩ | ⟨b, v, h1, h2, rfl, h4⟩
  · exact fun h => nomatch h
  · intro h; simp only [rowOf, Option.some.injEq] at h; omega
theorem Turned.off {X Y : Heap} {dv dv' : AV} {_ds ds' : List ByteArray} (ht : Turned X Y dv dv' ds') {i : Nat} (hi : i < X.size) (hne : rowOf dv ≠ some i) : rowOf dv' ≠ some i := by
  rcases ht.row with h | ⟨j, h, hj⟩
  · rw [h]; exact hne
  · rw [h]; intro h; simp only [Option.some.injEq] at h; omega
theorem DoneR.flat {X : Heap} {ds : List ByteArray} {dv : AV} (h : DoneR X ds dv) : dv.flat = true ∧ dv.cells = [dv] := by
  rcases h with ⟨_, rfl⟩ | ⟨b, v, h1, h2, rfl, h4⟩ <;> exact ⟨rfl, rfl⟩
end Go.Ev
namespace Go.Ev
open Go.Proofs
set_option maxRecDepth 100000
set_option linter.unusedSimpArgs false
attribute [local irreducible] Wp WpS
/-- how far a line is read, and to what -/
def rdOne (ls : List ByteArray) (st : Nat × List ByteArray) (r : Rd) : Nat × List ByteArray :=
  (if r.kind = 2 then r.wd.toNat else r.wd.toNat + 1, st.2 ++ (ls.drop st.1).take (r.wd.toNat - st.1) ++ if r.kind = 1 then [] else [r.word])
theorem chunk_one : ∀ (l : List AV), chunk 1 l.length l = l
  | [] => rfl
  | x :: r => by
    show (if 1 = 1 then (x :: r).headD undefA else _) :: chunk 1 r.length ((x :: r).drop 1) = x :: r
    rw [if_pos rfl, List.drop_one, List.tail_cons, chunk_one r]; rfl
/-- an answer that is like this -/
def ansP (Q : AV → Prop) : PostO := fun x H => ∃ v, Q v ∧ freezeV { H with lock := 0 } 1000000 x = some v
theorem ans_of_P {C : Cfg} {f : FuncId} {args : List AV} {Q : AV → Prop} (h : Fn' C f args { objs := [], lock := 0 } (ansP Q)) : ∃ v, Q v ∧ Ans C f args v := by
  unfold Fn' at h
  rw [bindO_iff] at h
  obtain ⟨o, h1, h2⟩ := h
  cases o with
  | ret x H =>
    obtain ⟨v, hq, hf⟩ := h2
    exact ⟨v, hq, Ans.iff.2 ⟨x, H, h1, hf⟩⟩
  | _ => exact h2.elim
theorem trim_whole {H : Heap} {n : Nat} (h : H.size ≤ n) (vs : List AV) (ms : List Nat) : H.trim n vs ms = H := by
  unfold Heap.trim
  split
  · unfold Heap.size at h
    rw [List.take_of_length_le h]
  · rfl
def readLineL (ls : List ByteArray) (l : List Rd) : List ByteArray := (l.foldl (rdOne ls) (0, [])).2 ++ ls.drop (l.foldl (rdOne ls) (0, [])).1
end Go.Ev
namespace Go.Ev
open Go.Proofs
set_option maxRecDepth 100000
set_option linter.unusedSimpArgs false
attribute [local irreducible] Wp WpS
/-- a row that is none of a region's own places -/
def Clear (base top : Nat) (dv : AV) : Prop := ∀ i, rowOf dv = some i → i < base ∨ top ≤ i
/-- what a region goes on with behind a call -/
structure Behind (base top : Nat) (G G' : Heap) (dv dv' : AV) (ds' : List ByteArray) : Prop where
  lock : G'.lock = G.lock
  size : G.size ≤ G'.size
  same : ∀ i, i < base → rowOf dv ≠ some i → G'.get i = G.get i
  done : DoneR G' ds' dv'
  clear : Clear base top dv'
  row : rowOf dv' = rowOf dv ∨ ∃ i, rowOf dv' = some i ∧ G.size ≤ i
theorem Behind.off {base top : Nat} {G G' : Heap} {dv dv' : AV} {ds' : List ByteArray} (h : Behind base top G G' dv dv' ds') {i : Nat} (hi : i < G.size) (hne : rowOf dv ≠ some i) : rowOf dv' ≠ some i := by
  rcases h.row with h | ⟨j, h, hj⟩
  · rw [h]; exact hne
  · rw [h]; intro h; simp only [Option.some.injEq] at h; omega
end Go.Ev
namespace Go.Ev
open Go.Proofs
set_option maxRecDepth 100000
set_option linter.unusedSimpArgs false
attribute [local irreducible] Wp WpS
end Go.Ev
namespace Go.Ev
open Go.Proofs
set_option maxRecDepth 100000
set_option linter.unusedSimpArgs false
attribute [local irreducible] Wp WpS
end Go.Ev
namespace Go.Ev
open Go.Proofs
set_option maxRecDepth 100000
set_option linter.unusedSimpArgs false
attribute [local irreducible] Wp WpS
/-- a chapter that is being read: its number, its lines so far, and the place of their row -/
structure Cst where
  id : AV
  ls : List AV
  b : Nat
  v : Nat
def Cst.sl (c : Cst) : AV := if c.ls = [] then .v (.slice none 0 0) else .sl c.b c.v 0 c.ls.length none
def Cst.cells (c : Cst) : List AV := [c.id, c.sl]
/-! ### what is handed back -/
def Cst.fz (c : Cst) : AV := if c.ls = [] then .v (.slice none 0 0) else .vs 1 c.ls none
end Go.Ev
namespace Go.Ev
open Go.Proofs
set_option maxRecDepth 100000
set_option linter.unusedSimpArgs false
attribute [local irreducible] Wp WpS
theorem ofV_bound (l : List Rd) : bound (ofV l) = 0 := by cases l <;> rfl
theorem storeLoK {X : Heap} {b v k m e sz : Nat} {g : Bool} {cs : List AV} {x : AV} (hb : b < X.size) (hlk : X.lock ≤ b) (hr : X.row b v = some (m, e, sz, g, cs)) (hx : k + 1 ≤ cs.length) (hf : x.flat = true) (E : List (Option AObj)) :
    storeCells (X.plus E) b v k [x] = some ((X.put b (.cells v (Nat.max m (bound x)) e sz g (splice k [x] cs))).plus E) := by
  unfold storeCells
  rw [rowLo hb, hr]
  have hl : (X.plus E).lock ≤ b := hlk
  have hbl : boundL [x] = bound x := by simp only [boundL]; exact Nat.max_zero _
  simp only [hl, hbl, List.length_singleton, hx, List.all_cons, List.all_nil, hf, Bool.and_true, and_self, if_true, putLo hb]
end Go.Ev
namespace Go.Ev
open Go.Proofs
set_option maxRecDepth 100000
set_option linter.unusedSimpArgs false
attribute [local irreducible] Wp WpS
theorem All2.snoc {α β : Type} {R : α → β → Prop} {l : List α} {m : List β} (h : All2 R l m) {a : α} {b : β} (hab : R a b) : All2 R (l ++ [a]) (m ++ [b]) := by
  refine ⟨by simp [h.1], fun i x y hx hy => ?_⟩
  by_cases hi : i < l.length
  · rw [List.getElem?_append_left hi] at hx
    rw [List.getElem?_append_left (by rw [← h.1]; exact hi)] at hy
    exact h.2 i x y hx hy
  · have hi2 := (List.getElem?_eq_some_iff.1 hx).1
    rw [List.length_append, List.length_singleton] at hi2
    obtain rfl : i = l.length := by omega
    rw [List.getElem?_append_right (Nat.le_refl _), Nat.sub_self] at hx
    rw [h.1, List.getElem?_append_right (Nat.le_refl _), Nat.sub_self] at hy
    simp at hx hy
    rw [← hx, ← hy]; exact hab
theorem appTo_vsT (e sz b : Nat) (H : Heap) (slot n : Nat) (new : List AV) : appTo e sz b H slot n new (.vs sz [] (some 0)) = if n = 0 then some (.vs sz [] (some 0), H) else if fitsA b n = true then some (.sl slot 0 0 n none, H.put slot (.cells 0 (boundL new) e sz true new)) else none := by
  unfold appTo
  simp only [ne_eq, not_true_eq_false, if_false, List.length_nil, if_true, List.flatMap_nil, List.all_nil, Bool.and_true, List.nil_append, Nat.zero_add]
  rw [show Nat.max (boundL []) (boundL new) = boundL new from Nat.zero_max (boundL new)]
theorem strs_bd (ws : Line) : boundL (strs ws) = 0 := by
  refine Nat.le_zero.1 (boundL_le.2 fun x hx => ?_)
  obtain ⟨s, -, rfl⟩ := List.mem_map.1 hx; exact Nat.le_refl _
theorem strs_flatT (ws : Line) : (strs ws).all AV.flat = true := by
  rw [List.all_eq_true]; intro x hx
  obtain ⟨s, -, rfl⟩ := List.mem_map.1 hx; rfl
theorem strs_fz (X : Heap) (S : Nat → Prop) : ∀ ws : Line, FzL X S 1 (strs ws) (strs ws)
  | [] => trivial
  | _ :: r => ⟨Fz.v X S _, strs_fz X S r⟩
theorem strs_cellsT : ∀ ws : Line, (strs ws).flatMap AV.cells = strs ws
  | [] => rfl
  | s :: r => by
    show AV.cells _ ++ (strs r).flatMap AV.cells = _
    rw [strs_cellsT r]; rfl
/-- what the cells of a line are, as append reads them -/
theorem line_cells {ws : Line} {x : AV} (h : SlOf 1 (strs ws) x) (G : Heap) : cellsFrom G 1 x = some (ws.length, strs ws) := by
  cases ws with
  | nil =>
    rcases h with ⟨rfl, -⟩ | ⟨c, rfl⟩ <;> rfl
  | cons a r =>
    rcases h with ⟨-, h1⟩ | ⟨c, rfl⟩
    · exact nomatch h1
    · rw [cells_vs', if_pos rfl, strs_len, strs_cellsT]
/-- the lines of a chapter that are copied so far -/
def LnI (X : Heap) (B j : Nat) (cid : Int) (ls : List Line) : Prop :=
  (j = 0 ∧ X.get B = some (.cells 0 0 78 1 false [intA cid, .v (.slice none 0 0)])) ∨
  ∃ R v mB mR l ys, 1 ≤ j ∧ B < R ∧ R < X.size ∧ X.get B = some (.cells 0 mB 78 1 false [intA cid, .sl R v 0 j none]) ∧ X.get R = some (.cells v mR 51 1 true l) ∧ l.length = j ∧ boundL l ≤ mR ∧ FzL X (fun b => B < b ∧ b < X.size ∧ b ≠ R) 100 l ys ∧ All2 LineA (ls.take j) ys
/-- a line of words, in a row of its own -/
theorem line_fz {Z : Heap} {S : Nat → Prop} {b : Nat} {ws : Line} (hS : S b) (hr : Z.get b = some (.cells 0 0 9 1 true (strs ws))) (hw : ws.length < 50) : Fz Z S 100 (.sl b 0 0 ws.length none) (.vs 1 (strs ws) none) := by
  have h := Fz.row hS hr (strs_fz Z S ws) (by rw [strs_bd]; exact Nat.le_refl _) (Nat.zero_lt_one) (n := ws.length) (by rw [strs_len]; omega) none (d' := 100) (by rw [strs_len]; omega)
  have h1 := chunk_one (strs ws)
  rw [strs_len] at h1
  rw [h1] at h
  exact h
theorem keep_end {Y : Heap} {M b : Nat} {o : AObj} {E : List (Option AObj)} (hY : Y.size = M) (hb : b < M) (hg : Y.get b = some o) (ho : M < o.bound) (hE : E.all Option.isNone = false) (vs : List AV) (ms : List Nat) : (settleH M (Y.plus E)).trim M vs ms = Y.plus E := by
  have h1 : settleH M (Y.plus E) = Y.plus E := by rw [settleP0 hY, List.drop_zero, if_neg (by rw [hE]; exact Bool.false_ne_true)]
  rw [h1]
  exact trim_keep hb (by rw [plus_get _ (by omega)]; exact hg) ho
theorem none_end {Y : Heap} {M : Nat} {E : List (Option AObj)} (hY : Y.size = M) (hE : E.all Option.isNone = true) (vs : List AV) (ms : List Nat) : (settleH M (Y.plus E)).trim M vs ms = Y := by
  have h1 : settleH M (Y.plus E) = Y := by rw [settleP0 hY, List.drop_zero, if_pos hE, List.take_zero, plus_nil]
  rw [h1]
  rcases trim_orT Y M vs ms with h | h
  · exact h
  · rw [h]
    cases Y with
    | mk o k => simp only [Heap.size] at hY; simp only [Heap.mk.injEq, and_true]; rw [← hY]; exact List.take_length
theorem plus_at {Y : Heap} {M : Nat} (hY : Y.size = M) (E : List (Option AObj)) (i : Nat) : (Y.plus E).get (M + i) = (E[i]?).join := by
  rw [plus_get_hi _ (by omega), hY, Nat.add_sub_cancel_left]
theorem LnI.first {Z : Heap} {N R mB mR : Nat} {cid : Int} {ls : List Line} {ws : Line} {x y : AV} (hZN : Z.get N = some (.cells 0 mB 78 1 false [intA cid, .sl R 0 0 1 none])) (hZR : Z.get R = some (.cells 0 mR 51 1 true [x])) (h1 : N < R) (h2 : R < Z.size) (hb : bound x ≤ mR)
    (hx : Fz Z (fun b => N < b ∧ b < Z.size ∧ b ≠ R) 100 x y) (hw : ls[0]? = some ws) (hy : LineA ws y) : LnI Z N 1 cid ls := by
  refine Or.inr ⟨R, 0, mB, mR, [x], [y], Nat.le_refl _, h1, h2, hZN, hZR, rfl, by simpa [boundL] using hb, ⟨hx, trivial⟩, ?_⟩
  cases ls with
  | nil => exact nomatch hw
  | cons a r =>
    obtain rfl : a = ws := by simpa using hw
    refine ⟨rfl, fun i p q hp hq => ?_⟩
    cases i with
    | zero => simp at hp hq; rw [← hp, ← hq]; exact hy
    | succ i => simp at hq
theorem LnI.next {Y Z : Heap} {N M R v mB mR mR' j : Nat} {cid : Int} {ls : List Line} {ws : Line} {x y : AV} {l' ys : List AV} (_hM : Y.size = M) (hZM : M ≤ Z.size) (hZN : Z.get N = some (.cells 0 mB 78 1 false [intA cid, .sl R (v + 1) 0 (j + 1) none])) (hZR : Z.get R = some (.cells (v + 1) mR' 51 1 true (l' ++ [x]))) (h1 : N < R) (h2 : R < M) (hlen : l'.length = j) (hm1 : boundL l' ≤ mR) (hm : mR ≤ mR') (hb : bound x ≤ mR')
    (hg : ∀ b, b < M → b ≠ N → b ≠ R → Z.get b = Y.get b) (hfz : FzL Y (fun b => N < b ∧ b < M ∧ b ≠ R) 100 l' ys) (hal : All2 LineA (ls.take j) ys)
    (hx : Fz Z (fun b => N < b ∧ b < Z.size ∧ b ≠ R) 100 x y) (hw : ls[j]? = some ws) (hy : LineA ws y) : LnI Z N (j + 1) cid ls := by
  refine Or.inr ⟨R, v + 1, mB, mR', l' ++ [x], ys ++ [y], by omega, h1, by omega, hZN, hZR, by simp [hlen], ?_, ?_, ?_⟩
  · refine boundL_le.2 fun z hz => ?_
    rcases List.mem_append.1 hz with hz | hz
    · exact Nat.le_trans (boundL_le.1 hm1 z hz) hm
    · rw [List.mem_singleton.1 hz]; exact hb
  · exact FzL.app (show FzL Z _ 100 [x] [y] from ⟨hx, trivial⟩) (hfz.mono (fun b hb => ⟨⟨hb.1, by omega, hb.2.2⟩, hg b hb.2.1 (by omega) hb.2.2⟩) (Nat.le_refl _))
  · rw [List.take_add_one, hw]
    exact hal.snoc hy
theorem LnI.done {Y : Heap} {N M : Nat} {cid : Int} {ls : List Line} (hM : Y.size = M) (h : LnI Y N ls.length cid ls) (hls : ls.length < 1000) :
    ∃ m sl ysl, Y.get N = some (.cells 0 m 78 1 false [intA cid, sl]) ∧ (sl = .v (.slice none 0 0) ∨ ∃ R v, sl = .sl R v 0 ls.length none ∧ N < R ∧ R < M) ∧ LinesA ls ysl ∧ ∀ (Z : Heap) (T : Nat → Prop), (∀ b, N < b → b < M → T b ∧ Z.get b = Y.get b) → Fz Z T 2000 sl ysl := by
  rcases h with ⟨h0, hB⟩ | ⟨R, v, mB, mR, l, ys, -, h1, h2, hB, hR, hl, hb, hf, ha⟩
  · obtain rfl : ls = [] := List.length_eq_zero_iff.1 h0
    exact ⟨0, _, _, hB, Or.inl rfl, ⟨[], Or.inl ⟨rfl, rfl⟩, rfl, fun i a b h => nomatch h⟩, fun Z T _ => (Fz.v Z T _).mono (fun b hb => ⟨hb, rfl⟩) (by omega)⟩
  · rw [hM] at h2 hf
    rw [List.take_length] at ha
    have hyl : ys.length = ls.length := ha.1.symm
    refine ⟨mB, _, .vs 1 ys none, hB, Or.inr ⟨R, v, rfl, h1, h2⟩, ⟨ys, Or.inr ⟨none, rfl⟩, ha⟩, fun Z T hT => ?_⟩
    have h3 := hT R h1 h2
    have h4 := Fz.row (d' := 2000) h3.1 (h3.2.trans hR) (hf.mono (fun b hb => hT b hb.1 hb.2.1) (Nat.le_refl _)) hb Nat.zero_lt_one (n := ls.length) (by omega) none (by omega)
    have h5 := chunk_one ys
    rw [hyl] at h5
    rw [h5] at h4
    exact h4
theorem chunk_snoc {a b : AV} : ∀ (k : Nat) {ys : List AV}, ys.length = k * 2 → chunk 2 (k + 1) (ys ++ [a, b]) = chunk 2 k ys ++ [.agg [a, b]]
  | 0, ys, h => by
    obtain rfl : ys = [] := List.length_eq_zero_iff.1 (by omega)
    rfl
  | k + 1, ys, h => by
    match ys, h with
    | x :: y :: r, h =>
      simp only [List.length_cons] at h
      have ih := chunk_snoc (a := a) (b := b) k (ys := r) (by omega)
      show AV.agg [x, y] :: chunk 2 (k + 1) (r ++ [a, b]) = AV.agg [x, y] :: chunk 2 k r ++ [.agg [a, b]]
      rw [ih]; rfl
    | [x], h => simp at h; omega
    | [], h => simp at h
theorem trim_self {Y : Heap} {M : Nat} (hY : Y.size = M) (vs : List AV) (ms : List Nat) : Y.trim M vs ms = Y := by
  rcases trim_orT Y M vs ms with h | h
  · exact h
  · rw [h]
    cases Y with
    | mk o k => simp only [Heap.size] at hY; simp only [Heap.mk.injEq, and_true]; rw [← hY]; exact List.take_length
def In7 (X0 : Heap) (ch : AV) (k B : Nat) (cid : Int) (ls : List Line) : Inv := fun μ a X => ∃ j, j + μ = ls.length ∧ a = ⟨55, [(0, .agg [ch]), (1, .ptr 0 0 0), (2, .ptr 1 0 0), (3, .ptr 2 0 0), (4, intA k), (11, .v (.bool true)), (5, .ptr B 0 0), (6, intA j)], []⟩ ∧ X.lock = 0 ∧ B < X.size ∧ (∀ b, b < B → X.get b = X0.get b) ∧ LnI X B j cid ls
def ChI (X : Heap) (k : Nat) (t : Txt) : Prop :=
  (k = 0 ∧ X.get 2 = some (.cells 0 0 24 1 false [.v (.slice none 0 0)])) ∨
  ∃ Q v m2 mQ cs ys, 1 ≤ k ∧ 3 ≤ Q ∧ Q < X.size ∧ X.get 2 = some (.cells 0 m2 24 1 false [.sl Q v 0 k none]) ∧ X.get Q = some (.cells v mQ 78 2 true cs) ∧ cs.length = k * 2 ∧ boundL cs ≤ mQ ∧ FzL X (fun b => 3 ≤ b ∧ b < X.size ∧ b ≠ Q) 2000 cs ys ∧ All2 ChapA (t.take k) (chunk 2 k ys)
theorem ChI.first {Y Z : Heap} {N M P mP m2 : Nat} {t : Txt} {c : Chap} {sl ysl : AV} (h1 : M ≤ P) (h2 : P < Z.size) (h3 : 3 ≤ N) (hNM : N < M) (hZ2 : Z.get 2 = some (.cells 0 m2 24 1 false [.sl P 0 0 1 none])) (hZP : Z.get P = some (.cells 0 mP 78 2 true [.v (.int .i64 c.1), sl]))
    (hb : bound sl ≤ mP) (hg : ∀ b, N < b → b < M → Z.get b = Y.get b) (hLA : LinesA c.2 ysl) (hFz : ∀ (Z : Heap) (T : Nat → Prop), (∀ b, N < b → b < M → T b ∧ Z.get b = Y.get b) → Fz Z T 2000 sl ysl) (hc : t[0]? = some c) : ChI Z 1 t := by
  refine Or.inr ⟨P, 0, m2, mP, _, [.v (.int .i64 c.1), ysl], Nat.le_refl _, by omega, h2, hZ2, hZP, rfl, ?_, ⟨(Fz.v _ _ _).mono (fun b hb => ⟨hb, rfl⟩) (by omega), hFz _ _ (fun b hb1 hb2 => ⟨⟨by omega, by omega, by omega⟩, hg b hb1 hb2⟩), trivial⟩, ?_⟩
  · refine boundL_le.2 fun z hz => ?_
    rcases List.mem_cons.1 hz with rfl | hz
    · exact Nat.zero_le _
    · rw [List.mem_singleton.1 hz]; exact hb
  · cases t with
    | nil => exact nomatch hc
    | cons a r =>
      obtain rfl : a = c := by simpa using hc
      refine ⟨rfl, fun i p q hp hq => ?_⟩
      cases i with
      | zero =>
        simp only [List.take_succ_cons, List.take_zero, List.getElem?_cons_zero, Option.some.injEq] at hp
        have hq : AV.agg [.v (.int .i64 a.1), ysl] = q := by simpa [chunk] using hq
        subst hp; subst hq
        exact ⟨ysl, rfl, hLA⟩
      | succ i => simp at hp
theorem ChI.next {X Z : Heap} {k N M P v mP mP' m2 : Nat} {t : Txt} {c : Chap} {sl ysl : AV} {cs ys : List AV} (hP3 : 3 ≤ P) (hPN : P < N) (_hN3 : 3 ≤ N) (_hNM : N < M) (hZs : N ≤ Z.size) (_hZM : bound sl = 0 ∨ M ≤ Z.size)
    (hZ2 : Z.get 2 = some (.cells 0 m2 24 1 false [.sl P (v + 1) 0 (k + 1) none])) (hZP : Z.get P = some (.cells (v + 1) mP' 78 2 true (cs ++ [.v (.int .i64 c.1), sl]))) (hb : bound sl ≤ mP') (hm : mP ≤ mP') (hcl : cs.length = k * 2) (hcb : boundL cs ≤ mP)
    (hgX : ∀ b, 3 ≤ b → b < N → b ≠ P → Z.get b = X.get b) (hcf : FzL X (fun b => 3 ≤ b ∧ b < N ∧ b ≠ P) 2000 cs ys) (hca : All2 ChapA (t.take k) (chunk 2 k ys)) (hLA : LinesA c.2 ysl) (hFz : Fz Z (fun b => 3 ≤ b ∧ b < Z.size ∧ b ≠ P) 2000 sl ysl) (hc : t[k]? = some c) : ChI Z (k + 1) t := by
  have hyl : ys.length = k * 2 := by rw [← hcl]; exact hcf.len.symm
  refine Or.inr ⟨P, v + 1, m2, mP', _, ys ++ [.v (.int .i64 c.1), ysl], by omega, hP3, by omega, hZ2, hZP, by simp [hcl]; omega, ?_, ?_, ?_⟩
  · refine boundL_le.2 fun z hz => ?_
    rcases List.mem_append.1 hz with hz | hz
    · exact Nat.le_trans (boundL_le.1 hcb z hz) hm
    · rcases List.mem_cons.1 hz with rfl | hz
      · exact Nat.zero_le _
      · rw [List.mem_singleton.1 hz]; exact hb
  · exact FzL.app (show FzL Z _ 2000 [.v (.int .i64 c.1), sl] [.v (.int .i64 c.1), ysl] from ⟨(Fz.v _ _ _).mono (fun b hb => ⟨hb, rfl⟩) (by omega), hFz, trivial⟩) (hcf.mono (fun b hb => ⟨⟨hb.1, by omega, hb.2.2⟩, hgX b hb.1 hb.2.1 hb.2.2⟩) (Nat.le_refl _))
  · rw [chunk_snoc k hyl, List.take_add_one, hc]
    exact hca.snoc ⟨ysl, rfl, hLA⟩
def Out7 (ch : AV) (t : Txt) : Inv := fun μ a X => ∃ k, k + μ = t.length ∧ a = ⟨55, [(0, .agg [ch]), (1, .ptr 0 0 0), (2, .ptr 1 0 0), (3, .ptr 2 0 0), (4, intA k)], []⟩ ∧ X.lock = 0 ∧ 3 ≤ X.size ∧ X.get 0 = some (.cells 0 0 24 1 false [ch]) ∧ X.get 1 = some (.cells 0 0 24 1 false [.v (.slice none 0 0)]) ∧ ChI X k t
set_option maxHeartbeats 4000000 in
theorem twinR {e : Exts} (_he : Quiet e) (t : Txt) (ht : t.length < 1000) (hL : ∀ c ∈ t, c.2.length < 1000) (hW : ∀ c ∈ t, ∀ w ∈ c.2, w.length < 50) (ch : AV) (xs : List AV) (hch : SlOf 2 xs ch) (hall : All2 ChapA t xs) : ∃ v, (∃ ch' xs', v = .agg [ch'] ∧ SlOf 2 xs' ch' ∧ All2 ChapA t xs') ∧ Ans (Cx e) 7 [.agg [ch]] v := by
  refine ans_of_P ?_
  rw [fn_step (fn_7 e) (show Try.f7.body = some _ from rfl)]
  simp -implicitDefEqProofs only [Try.f7, go_sem, ↓reduceIte, Int.reduceEq, Int.reduceLT, Int.reduceLE, List.reduceReplicate, intA, setT_nil, setT_cons, hch.cells, hch.flat, hch.bound, hch.len]
  refine Lp_ruleQ (P := Out7 ch t) ?_ t.length _ _ ?_
  · rintro Q KK hQ hKK μ _ X ⟨k, hk, rfl, hXl, hXs, h0, h1, hC⟩
    have hlen := hall.1
    have hrE : ∀ E, (X.plus E).row 0 0 = some (0, 24, 1, false, [ch]) := fun E => by rw [rowLo (by omega)]; exact get_row h0
    generalize hN : X.size = N at *
    have hlkN : X.lock ≤ N := by omega
    rw [← plus_nil X]
    cases μ with
    | zero =>
      obtain rfl : k = t.length := by omega
      simp -implicitDefEqProofs only [go_sem, ↓reduceIte, Int.reduceEq, Int.reduceLT, Int.reduceLE, List.reduceReplicate, intA, setT_nil, setT_cons, hrE, hch.len, hch.cells, ← hlen, Int.lt_irrefl, ↓boolP_bool, ↓iteB_true, ↓iteB_false]
      rw [plus_nil, trim_self hN]
      refine hKK _ _ _ ?_
      rw [← plus_nil X]
      rcases hC with ⟨hk0, hX2⟩ | ⟨P, v, m2, mP, cs, ys, hk1, hP3, hPN, hX2, hXP, hcsl, hcsb, hcsf, hcsa⟩
      · have hr2 : ∀ E, (X.plus E).row 2 0 = some (0, 24, 1, false, [.v (.slice none 0 0)]) := fun E => by rw [rowLo (by omega)]; exact get_row hX2
        have hr1 : ∀ E, (X.plus E).row 1 0 = some (0, 24, 1, false, [.v (.slice none 0 0)]) := fun E => by rw [rowLo (by omega)]; exact get_row h1
        have hst := fun x E => storeLoK (X := X) (b := 1) (v := 0) (k := 0) (x := .v x) (by omega) (by omega) (by have := hr1 []; rwa [plus_nil] at this) (by simp) rfl E
        simp -implicitDefEqProofs only [go_sem, ↓reduceIte, Int.reduceEq, Int.reduceLT, Int.reduceLE, List.reduceReplicate, intA, setT_nil, setT_cons, hr2, hr1, hst, hN, sizeP hN, putP0 hN, putP hN, settleP0 hN, settleP hN, rowP0 hN, rowP hN, storeP0 hN hlkN, storeP hN hlkN, ↓boolP_bool, ↓iteB_true, ↓iteB_false, List.length_nil, List.length_cons, Nat.add_zero, Nat.zero_add]
        have hZs : (X.put 1 (AObj.cells 0 0 24 1 false [AV.v (Value.slice none 0 0)])).size = N := by rw [put_sizeI _ (by omega)]; exact hN
        have hZ1 := get_row (put_get_eq (H := X) (b := 1) (AObj.cells 0 0 24 1 false [AV.v (Value.slice none 0 0)]) (by omega))
        have hZg : ∀ b, b ≠ 1 → (X.put 1 (AObj.cells 0 0 24 1 false [AV.v (Value.slice none 0 0)])).get b = X.get b := fun b hb => put_get_ne _ (by omega) hb
        have hZl : (X.put 1 (AObj.cells 0 0 24 1 false [AV.v (Value.slice none 0 0)])).lock = 0 := hXl
        generalize X.put 1 _ = Z at *
        have hse : settleH N (Z.plus []) = Z := by rw [settleP0 hZs, List.drop_zero, if_pos (show ([] : List (Option AObj)).all Option.isNone = true from rfl), List.take_zero, plus_nil]
        simp -implicitDefEqProofs only [go_sem, ↓reduceIte, Int.reduceEq, Int.reduceLT, Int.reduceLE, List.reduceReplicate, intA, setT_nil, setT_cons, hse, hZ1]
        exact ⟨.agg [.v (.slice none 0 0)], ⟨_, [], rfl, Or.inl ⟨rfl, rfl⟩, by
          obtain rfl : t = [] := List.length_eq_zero_iff.1 hk0
          exact ⟨rfl, fun i a b h => nomatch h⟩⟩, rfl⟩
      · rw [hN] at hPN hcsf
        have hr2 : ∀ E, (X.plus E).row 2 0 = some (m2, 24, 1, false, [.sl P v 0 t.length none]) := fun E => by rw [rowLo (by omega)]; exact get_row hX2
        have hr1 : ∀ E, (X.plus E).row 1 0 = some (0, 24, 1, false, [.v (.slice none 0 0)]) := fun E => by rw [rowLo (by omega)]; exact get_row h1
        have hst := fun b' v' o' l' c' E => storeLoK (X := X) (b := 1) (v := 0) (k := 0) (x := .sl b' v' o' l' c') (by omega) (by omega) (by have := hr1 []; rwa [plus_nil] at this) (by simp) rfl E
        simp -implicitDefEqProofs only [go_sem, ↓reduceIte, Int.reduceEq, Int.reduceLT, Int.reduceLE, List.reduceReplicate, intA, setT_nil, setT_cons, hr2, hr1, hst, bound_sl, hN, sizeP hN, putP0 hN, putP hN, settleP0 hN, settleP hN, rowP0 hN, rowP hN, storeP0 hN hlkN, storeP hN hlkN, ↓boolP_bool, ↓iteB_true, ↓iteB_false, List.length_nil, List.length_cons, Nat.add_zero, Nat.zero_add]
        have hZs : (X.put 1 (AObj.cells 0 (P + 1) 24 1 false [AV.sl P v 0 (List.length t) none])).size = N := by rw [put_sizeI _ (by omega)]; exact hN
        have hZ1 := get_row (put_get_eq (H := X) (b := 1) (AObj.cells 0 (P + 1) 24 1 false [AV.sl P v 0 (List.length t) none]) (by omega))
        have hZg : ∀ b, b ≠ 1 → (X.put 1 (AObj.cells 0 (P + 1) 24 1 false [AV.sl P v 0 (List.length t) none])).get b = X.get b := fun b hb => put_get_ne _ (by omega) hb
        have hZl : (X.put 1 (AObj.cells 0 (P + 1) 24 1 false [AV.sl P v 0 (List.length t) none])).lock = 0 := hXl
        generalize X.put 1 _ = Z at *
        have hse : settleH N (Z.plus []) = Z := by rw [settleP0 hZs, List.drop_zero, if_pos (show ([] : List (Option AObj)).all Option.isNone = true from rfl), List.take_zero, plus_nil]
        simp -implicitDefEqProofs only [go_sem, ↓reduceIte, Int.reduceEq, Int.reduceLT, Int.reduceLE, List.reduceReplicate, intA, setT_nil, setT_cons, hse, hZ1]
        rw [List.take_length] at hcsa
        refine ⟨.agg [.vs 2 (chunk 2 t.length ys) none], ⟨_, _, rfl, Or.inr ⟨none, rfl⟩, hcsa⟩, ?_⟩
        have hZ0 : ({ Z with lock := 0 } : Heap) = Z := by cases Z; simp only at hZl; subst hZl; rfl
        rw [hZ0]
        have hz := Fz.row (X := X) (S := fun b => b ≠ 1) (d' := 10000) (n := t.length) (show P ≠ 1 by omega) hXP (hcsf.mono (fun b hb => ⟨by omega, rfl⟩) (Nat.le_refl _)) hcsb (by omega) hcsl none (by omega)
        have h9 := hz.2 Z hZl (fun b hb => hZg b hb) 999998 (by omega)
        have e1 : freezeL Z 999999 [.sl P v 0 t.length none] = some [.vs 2 (chunk 2 t.length ys) none] := by
          show (match freezeV Z 999998 (.sl P v 0 t.length none), freezeL Z 999998 [] with | some y, some ys => some (y :: ys) | _, _ => none) = _
          rw [h9]; rfl
        show (freezeL Z 999999 [.sl P v 0 t.length none]).map AV.agg = _
        rw [e1]; rfl
    | succ μ =>
      obtain ⟨c, hc⟩ := at_lt t k (by omega)
      obtain ⟨y, hy, l, rfl, lxs, hl, hls⟩ := hall.get hc
      have hix := hch.idx hy
      have hlt : (k : Int) < ((t.length : Nat) : Int) := by omega
      simp -implicitDefEqProofs only [go_sem, ↓reduceIte, Int.reduceEq, Int.reduceLT, Int.reduceLE, List.reduceReplicate, intA, setT_nil, setT_cons, hrE, hch.len, hch.cells, ← hlen, hlt, hix, hl.cells, hl.flat, hl.bound, sizeP hN, putP0 hN, putP hN, settleP0 hN, settleP hN, rowP0 hN, rowP hN, storeP0 hN hlkN, storeP hN hlkN, ↓boolP_bool, ↓iteB_true, ↓iteB_false]
      generalize hX1 : X.plus [some (AObj.cells 0 0 78 1 false [AV.v (Value.int IntKind.i64 c.fst), AV.v (Value.slice none 0 0)])] = X1
      have h1s : X1.size = N + 1 := by rw [← hX1, plus_size, hN]; rfl
      have h1l : X1.lock = 0 := by rw [← hX1]; exact hXl
      have h1g : ∀ b, b < N → X1.get b = X.get b := fun b hb => by rw [← hX1, plus_get _ (by omega)]
      have h1B : X1.get N = some (AObj.cells 0 0 78 1 false [AV.v (Value.int IntKind.i64 c.fst), AV.v (Value.slice none 0 0)]) := by
        rw [← hX1]; subst hN; rw [plus_get_hi _ (Nat.le_refl _), Nat.sub_self]; rfl
      have hlsl := hls.1
      have hcl : c.2.length < 1000 := hL c (List.mem_of_getElem? hc)
      refine Lp_ruleQ (P := In7 X ch k N c.1 c.2) ?_ c.2.length _ _ ⟨0, Nat.zero_add _, rfl, h1l, by omega, h1g, Or.inl ⟨rfl, h1B⟩⟩
      rintro Q2 K2 hQ2 hK2 μ2 _ Y ⟨j, hj, rfl, hYl, hYs, hYg, hYI⟩
      have hrE : ∀ E, (Y.plus E).row 0 0 = some (0, 24, 1, false, [ch]) := fun E => by rw [rowLo (by omega)]; exact get_row ((hYg 0 (by omega)).trans h0)
      generalize hM : Y.size = M at *
      have hlkM : Y.lock ≤ M := by omega
      rw [← plus_nil Y]
      cases μ2 with
      | zero =>
        obtain rfl : j = c.2.length := by omega
        simp -implicitDefEqProofs only [go_sem, ↓reduceIte, Int.reduceEq, Int.reduceLT, Int.reduceLE, List.reduceReplicate, intA, setT_nil, setT_cons, hrE, hch.len, hch.cells, hix, hl.cells, hl.len, ← hlsl, Int.lt_irrefl, ↓boolP_bool, ↓iteB_true, ↓iteB_false]
        rw [plus_nil, trim_self hM]
        refine hK2 _ _ _ ?_
        obtain ⟨mN, sl, ysl, hYN, hsl, hLA, hFz⟩ := LnI.done hM hYI hcl
        have hrN : ∀ E, (Y.plus E).row N 0 = some (mN, 78, 1, false, [.v (.int .i64 c.1), sl]) := fun E => by rw [rowLo (by omega)]; exact get_row hYN
        have hf32 : fitsA 32 1 = true := by decide
        rw [← plus_nil Y]
        rcases hC with ⟨rfl, hX2⟩ | ⟨P, v, m2, mP, cs, ys, hk1, hP3, hPN, hX2, hXP, hcsl, hcsb, hcsf, hcsa⟩
        · have hr2 : ∀ E, (Y.plus E).row 2 0 = some (0, 24, 1, false, [.v (.slice none 0 0)]) := fun E => by rw [rowLo (by omega)]; exact get_row ((hYg 2 (by omega)).trans hX2)
          have hst := fun b' v' o' l' c' E => storeLoK (X := Y) (b := 2) (v := 0) (k := 0) (x := .sl b' v' o' l' c') (by omega) (by omega) (by have := hr2 []; rwa [plus_nil] at this) (by simp) rfl E
          rcases hsl with rfl | ⟨R, v', rfl, hR1, hR2⟩
          · simp -implicitDefEqProofs only [go_sem, ↓reduceIte, Int.reduceEq, Int.reduceLT, Int.reduceLE, List.reduceReplicate, intA, setT_nil, setT_cons, hr2, hrN, hst, hf32, bound_sl, List.flatMap_cons, List.flatMap_nil, List.append_nil, AV.cells, List.all_cons, List.all_nil, Bool.and_self, AV.flat, sizeP hM, putP0 hM, putP hM, settleP0 hM, settleP hM, rowP0 hM, rowP hM, storeP0 hM hlkM, storeP hM hlkM, ↓boolP_bool, ↓iteB_true, ↓iteB_false, List.length_nil, List.length_cons, Nat.add_zero, Nat.zero_add]
            have hZs : (Y.put 2 (AObj.cells 0 (M + 1) 24 1 false [AV.sl (M) 0 0 1 none])).size = M := by rw [put_sizeI _ (by omega)]; exact hM
            have hZ2 := put_get_eq (H := Y) (b := 2) (AObj.cells 0 (M + 1) 24 1 false [AV.sl (M) 0 0 1 none]) (by omega)
            have hZg : ∀ b, b ≠ 2 → (Y.put 2 (AObj.cells 0 (M + 1) 24 1 false [AV.sl (M) 0 0 1 none])).get b = Y.get b := fun b hb => put_get_ne _ (by omega) hb
            have hZl : (Y.put 2 (AObj.cells 0 (M + 1) 24 1 false [AV.sl (M) 0 0 1 none])).lock = 0 := hYl
            generalize Y.put 2 _ = Z at *
            rw [settleP0 hZs, List.drop_zero, if_neg (by simp), trim_keep (b := 2) (by omega) (by rw [plus_get _ (by omega)]; exact hZ2) (by show N < M + 1; omega), wrap_succ 0 (by omega)]
            refine Again.mk' μ (by omega) (hQ _ _ _ ⟨0 + 1, by omega, rfl, hZl, by rw [plus_size, hZs]; omega, by rw [plus_get _ (by omega), hZg 0 (by omega)]; exact (hYg 0 (by omega)).trans h0, by rw [plus_get _ (by omega), hZg 1 (by omega)]; exact (hYg 1 (by omega)).trans h1, ?_⟩)
            exact ChI.first (Y := Y) (N := N) (M := M) (P := M) (mP := 0) (by omega) (by rw [plus_size, hZs]; simp) (by omega) (by omega) (by rw [plus_get _ (by omega)]; exact hZ2) (plus_at hZs _ 0) (Nat.le_refl _) (fun b hb1 hb2 => by rw [plus_get _ (by omega)]; exact hZg b (by omega)) hLA hFz hc
          · simp -implicitDefEqProofs only [go_sem, ↓reduceIte, Int.reduceEq, Int.reduceLT, Int.reduceLE, List.reduceReplicate, intA, setT_nil, setT_cons, hr2, hrN, hst, hf32, bound_sl, List.flatMap_cons, List.flatMap_nil, List.append_nil, AV.cells, List.all_cons, List.all_nil, Bool.and_self, AV.flat, sizeP hM, putP0 hM, putP hM, settleP0 hM, settleP hM, rowP0 hM, rowP hM, storeP0 hM hlkM, storeP hM hlkM, ↓boolP_bool, ↓iteB_true, ↓iteB_false, List.length_nil, List.length_cons, Nat.add_zero, Nat.zero_add]
            have hZs : (Y.put 2 (AObj.cells 0 (M + 1 + 1) 24 1 false [AV.sl (M + 1) 0 0 1 none])).size = M := by rw [put_sizeI _ (by omega)]; exact hM
            have hZ2 := put_get_eq (H := Y) (b := 2) (AObj.cells 0 (M + 1 + 1) 24 1 false [AV.sl (M + 1) 0 0 1 none]) (by omega)
            have hZg : ∀ b, b ≠ 2 → (Y.put 2 (AObj.cells 0 (M + 1 + 1) 24 1 false [AV.sl (M + 1) 0 0 1 none])).get b = Y.get b := fun b hb => put_get_ne _ (by omega) hb
            have hZl : (Y.put 2 (AObj.cells 0 (M + 1 + 1) 24 1 false [AV.sl (M + 1) 0 0 1 none])).lock = 0 := hYl
            generalize Y.put 2 _ = Z at *
            rw [settleP0 hZs, List.drop_zero, if_neg (by simp), trim_keep (b := 2) (by omega) (by rw [plus_get _ (by omega)]; exact hZ2) (by show N < M + 1 + 1; omega), wrap_succ 0 (by omega)]
            refine Again.mk' μ (by omega) (hQ _ _ _ ⟨0 + 1, by omega, rfl, hZl, by rw [plus_size, hZs]; omega, by rw [plus_get _ (by omega), hZg 0 (by omega)]; exact (hYg 0 (by omega)).trans h0, by rw [plus_get _ (by omega), hZg 1 (by omega)]; exact (hYg 1 (by omega)).trans h1, ?_⟩)
            exact ChI.first (Y := Y) (N := N) (M := M) (P := M + 1) (mP := R + 1) (by omega) (by rw [plus_size, hZs]; simp) (by omega) (by omega) (by rw [plus_get _ (by omega)]; exact hZ2) (plus_at hZs _ 1) (Nat.le_refl _) (fun b hb1 hb2 => by rw [plus_get _ (by omega)]; exact hZg b (by omega)) hLA hFz hc
        · rw [hN] at hPN hcsf
          have hr2 : ∀ E, (Y.plus E).row 2 0 = some (m2, 24, 1, false, [.sl P v 0 k none]) := fun E => by rw [rowLo (by omega)]; exact get_row ((hYg 2 (by omega)).trans hX2)
          have hrP : ∀ E, (Y.plus E).row P v = some (mP, 78, 2, true, cs) := fun E => by rw [rowLo (by omega)]; exact get_row ((hYg P (by omega)).trans hXP)
          have hf33 : fitsA 32 (k + 1) = true := by unfold fitsA; exact decide_eq_true (by omega)
          have happ := fun x y E slot => (appTo_own (e := 78) (sz := 2) (b' := 32) (H := Y.plus E) (slot := slot) (n := 1) (new := [x, y]) (hrP E) (by omega) (by show Y.lock ≤ P; omega) hf33 (by omega) (by omega)).trans (by rw [putLo (by omega)])
          have hYP0 : ∀ o, (Y.put P o).row 2 0 = some (m2, 24, 1, false, [.sl P v 0 k none]) := fun x => get_row ((put_get_ne _ (by omega) (by omega)).trans ((hYg 2 (by omega)).trans hX2))
          have hYPs : ∀ o, (Y.put P o).size = M := fun x => by rw [put_sizeI _ (by omega)]; exact hM
          have hst := fun o b' v' o' l'' c' E => storeLoK (X := Y.put P o) (b := 2) (v := 0) (k := 0) (x := .sl b' v' o' l'' c') (by rw [hYPs]; omega) (by show Y.lock ≤ 2; omega) (hYP0 o) (by simp) rfl E
          rcases hsl with rfl | ⟨R, v', rfl, hR1, hR2⟩
          · simp -implicitDefEqProofs only [go_sem, ↓reduceIte, Int.reduceEq, Int.reduceLT, Int.reduceLE, List.reduceReplicate, intA, setT_nil, setT_cons, hr2, hrN, hst, happ, hf33, bound_sl, List.flatMap_cons, List.flatMap_nil, List.append_nil, AV.cells, List.all_cons, List.all_nil, Bool.and_self, AV.flat, sizeP hM, putP0 hM, putP hM, settleP0 hM, settleP hM, rowP0 hM, rowP hM, storeP0 hM hlkM, storeP hM hlkM, ↓boolP_bool, ↓iteB_true, ↓iteB_false, List.length_nil, List.length_cons, Nat.add_zero, Nat.zero_add]
            have hm1 : 0 ≤ (if mP ≤ 0 then 0 else mP) ∧ mP ≤ (if mP ≤ 0 then 0 else mP) := by split <;> omega
            generalize (if mP ≤ 0 then 0 else mP) = m1 at *
            generalize (if m2 ≤ P + 1 then P + 1 else m2) = m3
            have hZs : ((Y.put P (AObj.cells (v + 1) m1 78 2 true (cs ++ [AV.v (Value.int IntKind.i64 c.fst), AV.v (Value.slice none 0 0)]))).put 2 (AObj.cells 0 m3 24 1 false [AV.sl P (v + 1) 0 (k + 1) none])).size = M := by rw [put_sizeI _ (by rw [hYPs]; omega)]; exact hYPs _
            have hZP := (put_get_ne (H := Y.put P (AObj.cells (v + 1) m1 78 2 true (cs ++ [AV.v (Value.int IntKind.i64 c.fst), AV.v (Value.slice none 0 0)]))) (c := P) (AObj.cells 0 m3 24 1 false [AV.sl P (v + 1) 0 (k + 1) none]) (b := 2) (by rw [hYPs]; omega) (by omega)).trans (put_get_eq (AObj.cells (v + 1) m1 78 2 true (cs ++ [AV.v (Value.int IntKind.i64 c.fst), AV.v (Value.slice none 0 0)])) (by omega))
            have hZ2 := put_get_eq (H := Y.put P (AObj.cells (v + 1) m1 78 2 true (cs ++ [AV.v (Value.int IntKind.i64 c.fst), AV.v (Value.slice none 0 0)]))) (b := 2) (AObj.cells 0 m3 24 1 false [AV.sl P (v + 1) 0 (k + 1) none]) (by rw [hYPs]; omega)
            have hZg : ∀ b, b ≠ 2 → b ≠ P → ((Y.put P (AObj.cells (v + 1) m1 78 2 true (cs ++ [AV.v (Value.int IntKind.i64 c.fst), AV.v (Value.slice none 0 0)]))).put 2 (AObj.cells 0 m3 24 1 false [AV.sl P (v + 1) 0 (k + 1) none])).get b = Y.get b := fun b hb1 hb2 => by rw [put_get_ne _ (by rw [hYPs]; omega) hb1, put_get_ne _ (by omega) hb2]
            have hZl : ((Y.put P (AObj.cells (v + 1) m1 78 2 true (cs ++ [AV.v (Value.int IntKind.i64 c.fst), AV.v (Value.slice none 0 0)]))).put 2 (AObj.cells 0 m3 24 1 false [AV.sl P (v + 1) 0 (k + 1) none])).lock = 0 := hYl
            generalize (Y.put P _).put 2 _ = Z at *
            rw [settleP0 hZs, List.drop_zero, if_pos (show ([] : List (Option AObj)).all Option.isNone = true from rfl), List.take_zero, plus_nil, wrap_succ k (by omega)]
            generalize hW : Z.trim N _ [] = W
            have hWg : ∀ b, b < N → W.get b = Z.get b := fun b hb => by rw [← hW]; exact trim_getT hb
            have hWs : N ≤ W.size := by rw [← hW]; exact trim_szT (by omega)
            have hWl : W.lock = 0 := by rw [← hW, trim_lockT]; exact hZl
            refine Again.mk' μ (by omega) (hQ _ _ _ ⟨k + 1, by omega, rfl, hWl, by omega, by rw [hWg 0 (by omega), hZg 0 (by omega) (by omega)]; exact (hYg 0 (by omega)).trans h0, by rw [hWg 1 (by omega), hZg 1 (by omega) (by omega)]; exact (hYg 1 (by omega)).trans h1, ?_⟩)
            have hyl : ysl = .v (.slice none 0 0) := ((hFz Y (fun b => N < b ∧ b < M) (fun b h1 h2 => ⟨⟨h1, h2⟩, rfl⟩)).1.2.2 rfl)
            rw [hyl] at hLA
            exact ChI.next (X := X) (N := N) (M := M) (P := P) (v := v) (mP := mP) hP3 hPN (by omega) (by omega) hWs (Or.inl rfl) (by rw [hWg 2 (by omega)]; exact hZ2) (by rw [hWg P (by omega)]; exact hZP) (Nat.zero_le _) hm1.2 hcsl hcsb (fun b hb1 hb2 hb3 => by rw [hWg b hb2, hZg b (by omega) hb3]; exact hYg b hb2) hcsf hcsa hLA ((Fz.v _ _ _).mono (fun b hb => ⟨hb, rfl⟩) (by omega)) hc
          · simp -implicitDefEqProofs only [go_sem, ↓reduceIte, Int.reduceEq, Int.reduceLT, Int.reduceLE, List.reduceReplicate, intA, setT_nil, setT_cons, hr2, hrN, hst, happ, hf33, bound_sl, List.flatMap_cons, List.flatMap_nil, List.append_nil, AV.cells, List.all_cons, List.all_nil, Bool.and_self, AV.flat, sizeP hM, putP0 hM, putP hM, settleP0 hM, settleP hM, rowP0 hM, rowP hM, storeP0 hM hlkM, storeP hM hlkM, ↓boolP_bool, ↓iteB_true, ↓iteB_false, List.length_nil, List.length_cons, Nat.add_zero, Nat.zero_add]
            have hm1 : R + 1 ≤ (if mP ≤ R + 1 then R + 1 else mP) ∧ mP ≤ (if mP ≤ R + 1 then R + 1 else mP) := by split <;> omega
            generalize (if mP ≤ R + 1 then R + 1 else mP) = m1 at *
            generalize (if m2 ≤ P + 1 then P + 1 else m2) = m3
            have hZs : ((Y.put P (AObj.cells (v + 1) m1 78 2 true (cs ++ [AV.v (Value.int IntKind.i64 c.fst), AV.sl R v' 0 c.snd.length none]))).put 2 (AObj.cells 0 m3 24 1 false [AV.sl P (v + 1) 0 (k + 1) none])).size = M := by rw [put_sizeI _ (by rw [hYPs]; omega)]; exact hYPs _
            have hZP := (put_get_ne (H := Y.put P (AObj.cells (v + 1) m1 78 2 true (cs ++ [AV.v (Value.int IntKind.i64 c.fst), AV.sl R v' 0 c.snd.length none]))) (c := P) (AObj.cells 0 m3 24 1 false [AV.sl P (v + 1) 0 (k + 1) none]) (b := 2) (by rw [hYPs]; omega) (by omega)).trans (put_get_eq (AObj.cells (v + 1) m1 78 2 true (cs ++ [AV.v (Value.int IntKind.i64 c.fst), AV.sl R v' 0 c.snd.length none])) (by omega))
            have hZ2 := put_get_eq (H := Y.put P (AObj.cells (v + 1) m1 78 2 true (cs ++ [AV.v (Value.int IntKind.i64 c.fst), AV.sl R v' 0 c.snd.length none]))) (b := 2) (AObj.cells 0 m3 24 1 false [AV.sl P (v + 1) 0 (k + 1) none]) (by rw [hYPs]; omega)
            have hZg : ∀ b, b ≠ 2 → b ≠ P → ((Y.put P (AObj.cells (v + 1) m1 78 2 true (cs ++ [AV.v (Value.int IntKind.i64 c.fst), AV.sl R v' 0 c.snd.length none]))).put 2 (AObj.cells 0 m3 24 1 false [AV.sl P (v + 1) 0 (k + 1) none])).get b = Y.get b := fun b hb1 hb2 => by rw [put_get_ne _ (by rw [hYPs]; omega) hb1, put_get_ne _ (by omega) hb2]
            have hZl : ((Y.put P (AObj.cells (v + 1) m1 78 2 true (cs ++ [AV.v (Value.int IntKind.i64 c.fst), AV.sl R v' 0 c.snd.length none]))).put 2 (AObj.cells 0 m3 24 1 false [AV.sl P (v + 1) 0 (k + 1) none])).lock = 0 := hYl
            generalize (Y.put P _).put 2 _ = Z at *
            rw [settleP0 hZs, List.drop_zero, if_neg (by simp), trim_keep (b := P) (by omega) (by rw [plus_get _ (by omega)]; exact hZP) (by show N < m1; omega), wrap_succ k (by omega)]
            refine Again.mk' μ (by omega) (hQ _ _ _ ⟨k + 1, by omega, rfl, hZl, by rw [plus_size, hZs]; omega, by rw [plus_get _ (by omega), hZg 0 (by omega) (by omega)]; exact (hYg 0 (by omega)).trans h0, by rw [plus_get _ (by omega), hZg 1 (by omega) (by omega)]; exact (hYg 1 (by omega)).trans h1, ?_⟩)
            exact ChI.next (X := X) (N := N) (M := M) (P := P) (v := v) (mP := mP) hP3 hPN (by omega) (by omega) (by rw [plus_size, hZs]; omega) (Or.inr (by rw [plus_size, hZs]; omega)) (by rw [plus_get _ (by omega)]; exact hZ2) (by rw [plus_get _ (by omega)]; exact hZP) hm1.1 hm1.2 hcsl hcsb (fun b hb1 hb2 hb3 => by rw [plus_get _ (by omega), hZg b (by omega) hb3]; exact hYg b hb2) hcsf hcsa hLA (hFz _ _ (fun b hb1 hb2 => ⟨⟨by omega, by rw [plus_size, hZs]; omega, by omega⟩, by rw [plus_get _ (by omega)]; exact hZg b (by omega) (by omega)⟩)) hc
      | succ μ2 =>
        obtain ⟨ws, hw⟩ := at_lt c.2 j (by omega)
        obtain ⟨lx, hlx, hsl⟩ := hls.get hw
        have hltj : (j : Int) < ((c.2.length : Nat) : Int) := by omega
        have hjx := hl.idx hlx
        have hcf := line_cells hsl
        have hsl0 : SlOf 1 (strs ws) lx := hsl
        rcases hYI with ⟨rfl, hYB⟩ | ⟨R, v, mB, mR, l', ys, hj1, hR1, hR2, hYB, hYR, hl'l, hl'b, hfz, hal⟩
        · have hr5 : ∀ E, (Y.plus E).row N 0 = some (0, 78, 1, false, [.v (.int .i64 c.1), .v (.slice none 0 0)]) := fun E => by rw [rowLo (by omega)]; exact get_row hYB
          simp -implicitDefEqProofs only [go_sem, ↓reduceIte, Int.reduceEq, Int.reduceLT, Int.reduceLE, List.reduceReplicate, intA, setT_nil, setT_cons, hrE, hch.len, hch.cells, hix, hl.cells, hl.len, ← hlsl, hltj, ↓boolP_bool, ↓iteB_true, ↓iteB_false]
          refine wp_drawX [([], [], false), ([], [], false), ([1], [], false), ([], [], false), ([1, 2], [], false), ([], [], false), ([], [], false), ([], [], false), ([1, 2], [], false), ([], [], false), ([], [], false), ([1, 2], [], false), ([1], [2], false), ([1], [2, 12], false), ([], [2, 12, 13], false), ([], [], false), ([], [2, 12, 13, 14], false)] (by kernel_rfl) (by kernel_rfl) ?_
          have hst := fun b' v' o' l' c' E => storeLoK (X := Y) (b := N) (v := 0) (k := 1) (x := .sl b' v' o' l' c') (by omega) (by omega) (by have := hr5 []; rwa [plus_nil] at this) (by simp) rfl E
          have hne : (M + 2 == 0) = false := by simp
          have hne2 : ∀ n, ¬ (M + n + 1 = 0) := fun n => by omega
          have hne3 : ∀ n, (M + n + 1 ≤ 0) = False := fun n => by simp
          have hf24 : fitsA 24 1 = true := by decide
          have hB : ltB N M = true := by unfold ltB; exact decide_eq_true (by omega)
          have h0M : ltB 0 M = true := by unfold ltB; exact decide_eq_true (by omega)
          have hob := hsl0.objs
          have hq1 : ∀ k, ltB (M + (k + 1)) M = false := fun k => by unfold ltB; exact decide_eq_false (by omega)
          have hwl : ws.length < 50 := hW c (List.mem_of_getElem? hc) ws (List.mem_of_getElem? hw)
          have hfit : fitsA 16 ws.length = true := by unfold fitsA; exact decide_eq_true (by omega)
          by_cases hn0 : ws.length = 0
          · simp -implicitDefEqProofs only [go_sem, ↓reduceIte, Int.reduceEq, Int.reduceLT, Int.reduceLE, List.reduceReplicate, intA, setT_nil, setT_cons, hrE, hr5, hch.len, hch.cells, hix, hl.cells, hl.len, hjx, hcf, hsl0.cells, hne, hn0, appTo_vsT, bound_sl, hob, hq1, hf24, hfit, hne2, hne3, strs_flatT, strs_bd, hst, hB, h0M, List.all_cons, List.all_nil, beq_self_eq_true, Bool.or_true, Bool.true_or, Bool.not_false, Bool.and_self, not_false_eq_true, sizeP hM, putP0 hM, putP hM, settleP0 hM, settleP hM, rowP0 hM, rowP hM, storeP0 hM hlkM, storeP hM hlkM, ↓boolP_bool, ↓iteB_true, ↓iteB_false, List.length_nil, List.length_cons, Nat.add_zero, Nat.zero_add]
            have hws : ws = [] := List.length_eq_zero_iff.1 hn0
            subst hws
            have hYN : (Y.put N (AObj.cells 0 (M + 14 + 1) 78 1 false [AV.v (Value.int IntKind.i64 c.fst), AV.sl (M + 14) 0 0 1 none])).size = M := by rw [put_sizeI _ (by omega)]; exact hM
            simp -implicitDefEqProofs only [List.flatMap_cons, List.flatMap_nil, AV.cells, List.append_nil, List.all_cons, List.all_nil, AV.flat, Bool.and_self, go_sem, ↓reduceIte, Int.reduceEq, Int.reduceLT, Int.reduceLE, List.reduceReplicate, intA, setT_nil, setT_cons, hst, bound_sl, Nat.zero_le, List.length_cons, List.length_nil]
            rw [keep_end hYN (b := N) (by omega) (put_get_eq _ (by omega)) (by show M < M + 14 + 1; omega) rfl, wrap_succ 0 (by omega)]
            have hYNl : (Y.put N (AObj.cells 0 (M + 14 + 1) 78 1 false [AV.v (Value.int IntKind.i64 c.fst), AV.sl (M + 14) 0 0 1 none])).lock = 0 := hYl
            have hYNg : ∀ b, b < N → (Y.put N (AObj.cells 0 (M + 14 + 1) 78 1 false [AV.v (Value.int IntKind.i64 c.fst), AV.sl (M + 14) 0 0 1 none])).get b = X.get b := fun b hb => by rw [put_get_ne _ (by omega) (by omega)]; exact hYg b hb
            have hYNN := put_get_eq (H := Y) (b := N) (AObj.cells 0 (M + 14 + 1) 78 1 false [AV.v (Value.int IntKind.i64 c.fst), AV.sl (M + 14) 0 0 1 none]) (by omega)
            generalize Y.put N _ = Z at *
            refine Again.mk' μ2 (by omega) (hQ2 _ _ _ ⟨0 + 1, by omega, rfl, hYNl, by rw [plus_size, hYN]; omega, fun b hb => by rw [plus_get _ (by omega)]; exact hYNg b hb, ?_⟩)
            refine LnI.first (R := M + 14) (ws := []) (x := .vs 1 [] (some 0)) (y := .vs 1 [] (some 0)) (mR := 0) (by rw [plus_get _ (by omega)]; exact hYNN) (plus_at hYN _ _) (by omega) (by rw [plus_size, hYN]; simp) (Nat.le_refl _) ((Fz.vs _ _ 1 [] (some 0)).mono (fun b hb => ⟨hb, rfl⟩) (by omega)) hw (Or.inr ⟨some 0, rfl⟩)
          · simp -implicitDefEqProofs only [go_sem, ↓reduceIte, Int.reduceEq, Int.reduceLT, Int.reduceLE, List.reduceReplicate, intA, setT_nil, setT_cons, hrE, hr5, hch.len, hch.cells, hix, hl.cells, hl.len, hjx, hcf, hsl0.cells, hne, hn0, appTo_vsT, bound_sl, hob, hq1, hf24, hfit, hne2, hne3, strs_flatT, strs_bd, hst, hB, h0M, List.all_cons, List.all_nil, beq_self_eq_true, Bool.or_true, Bool.true_or, Bool.not_false, Bool.and_self, not_false_eq_true, sizeP hM, putP0 hM, putP hM, settleP0 hM, settleP hM, rowP0 hM, rowP hM, storeP0 hM hlkM, storeP hM hlkM, ↓boolP_bool, ↓iteB_true, ↓iteB_false, List.length_nil, List.length_cons, Nat.add_zero, Nat.zero_add]
            have hYN : (Y.put N (AObj.cells 0 (M + 14 + 1) 78 1 false [AV.v (Value.int IntKind.i64 c.fst), AV.sl (M + 14) 0 0 1 none])).size = M := by rw [put_sizeI _ (by omega)]; exact hM
            rw [keep_end hYN (b := N) (by omega) (put_get_eq _ (by omega)) (by show M < M + 14 + 1; omega) rfl, wrap_succ 0 (by omega)]
            have hYNl : (Y.put N (AObj.cells 0 (M + 14 + 1) 78 1 false [AV.v (Value.int IntKind.i64 c.fst), AV.sl (M + 14) 0 0 1 none])).lock = 0 := hYl
            have hYNg : ∀ b, b < N → (Y.put N (AObj.cells 0 (M + 14 + 1) 78 1 false [AV.v (Value.int IntKind.i64 c.fst), AV.sl (M + 14) 0 0 1 none])).get b = X.get b := fun b hb => by rw [put_get_ne _ (by omega) (by omega)]; exact hYg b hb
            have hYNN := put_get_eq (H := Y) (b := N) (AObj.cells 0 (M + 14 + 1) 78 1 false [AV.v (Value.int IntKind.i64 c.fst), AV.sl (M + 14) 0 0 1 none]) (by omega)
            generalize Y.put N _ = Z at *
            refine Again.mk' μ2 (by omega) (hQ2 _ _ _ ⟨0 + 1, by omega, rfl, hYNl, by rw [plus_size, hYN]; omega, fun b hb => by rw [plus_get _ (by omega)]; exact hYNg b hb, ?_⟩)
            refine LnI.first (R := M + 14) (ws := ws) (x := AV.sl (M + 12) 0 0 (List.length ws) none) (y := .vs 1 (strs ws) none) (mR := M + 12 + 1) (by rw [plus_get _ (by omega)]; exact hYNN) (plus_at hYN _ _) (by omega) (by rw [plus_size, hYN]; simp) (Nat.le_refl _) (line_fz ⟨by omega, by rw [plus_size, hYN]; simp, by omega⟩ (plus_at hYN _ _) hwl) hw (Or.inr ⟨none, rfl⟩)
        · have hr5 : ∀ E, (Y.plus E).row N 0 = some (mB, 78, 1, false, [.v (.int .i64 c.1), .sl R v 0 j none]) := fun E => by rw [rowLo (by omega)]; exact get_row hYB
          have hrR : ∀ E, (Y.plus E).row R v = some (mR, 51, 1, true, l') := fun E => by rw [rowLo (by omega)]; exact get_row hYR
          rw [hM] at hfz hR2
          simp -implicitDefEqProofs only [go_sem, ↓reduceIte, Int.reduceEq, Int.reduceLT, Int.reduceLE, List.reduceReplicate, intA, setT_nil, setT_cons, hrE, hch.len, hch.cells, hix, hl.cells, hl.len, ← hlsl, hltj, ↓boolP_bool, ↓iteB_true, ↓iteB_false]
          refine wp_drawX [([], [], false), ([], [], false), ([1], [], false), ([], [], false), ([1, 2], [], false), ([], [], false), ([], [], false), ([], [], false), ([1, 2], [], false), ([], [], false), ([], [], false), ([1, 2], [], false), ([1], [2], false), ([1], [2, 12], false), ([], [2, 12, 13], false), ([], [], false), ([], [2, 12, 13, 14], false)] (by kernel_rfl) (by kernel_rfl) ?_
          have hne : (M + 2 == 0) = false := by simp
          have hne2 : ∀ n, ¬ (M + n + 1 = 0) := fun n => by omega
          have hne3 : ∀ n, (M + n + 1 ≤ 0) = False := fun n => by simp
          have hf24 : fitsA 24 (j + 1) = true := by unfold fitsA; exact decide_eq_true (by omega)
          have happ := fun x E slot => (appTo_own (e := 51) (sz := 1) (b' := 24) (H := Y.plus E) (slot := slot) (n := 1) (new := [x]) (hrR E) (by omega) (by show Y.lock ≤ R; omega) hf24 (by omega) (by omega)).trans (by rw [putLo (by omega)])
          have hYR0 : ∀ o, (Y.put R o).row N 0 = some (mB, 78, 1, false, [.v (.int .i64 c.1), .sl R v 0 j none]) := fun x => get_row ((put_get_ne _ (by omega) (by omega)).trans hYB)
          have hYRs : ∀ o, (Y.put R o).size = M := fun x => by rw [put_sizeI _ (by omega)]; exact hM
          have hst := fun o b' v' o' l'' c' E => storeLoK (X := Y.put R o) (b := N) (v := 0) (k := 1) (x := .sl b' v' o' l'' c') (by rw [hYRs]; omega) (by show Y.lock ≤ N; omega) (hYR0 o) (by simp) rfl E
          have hB : ltB N M = true := by unfold ltB; exact decide_eq_true (by omega)
          have hBR : ltB R M = true := by unfold ltB; exact decide_eq_true (by omega)
          have h0M : ltB 0 M = true := by unfold ltB; exact decide_eq_true (by omega)
          have hob := hsl0.objs
          have hNR : (N == R) = false := by simp; omega
          have hRN : (R == N) = false := by simp; omega
          have hq1 : ∀ k, ltB (M + (k + 1)) M = false := fun k => by unfold ltB; exact decide_eq_false (by omega)
          have hwl : ws.length < 50 := hW c (List.mem_of_getElem? hc) ws (List.mem_of_getElem? hw)
          have hfit : fitsA 16 ws.length = true := by unfold fitsA; exact decide_eq_true (by omega)
          by_cases hn0 : ws.length = 0
          · simp -implicitDefEqProofs only [go_sem, ↓reduceIte, Int.reduceEq, Int.reduceLT, Int.reduceLE, List.reduceReplicate, intA, setT_nil, setT_cons, hrE, hr5, hch.len, hch.cells, hix, hl.cells, hl.len, hjx, hcf, hsl0.cells, hne, hn0, appTo_vsT, bound_sl, hob, hq1, hf24, hfit, hne2, hne3, happ, hBR, hNR, hRN, strs_flatT, strs_bd, hst, hB, h0M, List.all_cons, List.all_nil, beq_self_eq_true, Bool.or_true, Bool.true_or, Bool.not_false, Bool.and_self, not_false_eq_true, sizeP hM, putP0 hM, putP hM, settleP0 hM, settleP hM, rowP0 hM, rowP hM, storeP0 hM hlkM, storeP hM hlkM, ↓boolP_bool, ↓iteB_true, ↓iteB_false, List.length_nil, List.length_cons, Nat.add_zero, Nat.zero_add]
            have hws : ws = [] := List.length_eq_zero_iff.1 hn0
            subst hws
            simp -implicitDefEqProofs only [List.flatMap_cons, List.flatMap_nil, AV.cells, List.append_nil, List.all_cons, List.all_nil, AV.flat, Bool.and_self, go_sem, ↓reduceIte, Int.reduceEq, Int.reduceLT, Int.reduceLE, List.reduceReplicate, intA, setT_nil, setT_cons, happ, hst, bound_sl, Nat.zero_le, List.length_cons, List.length_nil]
            have hm1 : mR ≤ (if mR ≤ 0 then 0 else mR) := by split <;> omega
            generalize (if mR ≤ 0 then 0 else mR) = m1 at *
            generalize (if mB ≤ R + 1 then R + 1 else mB) = m2
            have hZs : ((Y.put R (AObj.cells (v + 1) m1 51 1 true (l' ++ [AV.vs 1 [] (some 0)]))).put N (AObj.cells 0 m2 78 1 false [AV.v (Value.int IntKind.i64 c.fst), AV.sl R (v + 1) 0 (j + 1) none])).size = M := by rw [put_sizeI _ (by rw [hYRs]; omega)]; exact hYRs _
            have hZR := (put_get_ne (H := Y.put R (AObj.cells (v + 1) m1 51 1 true (l' ++ [AV.vs 1 [] (some 0)]))) (c := R) (AObj.cells 0 m2 78 1 false [AV.v (Value.int IntKind.i64 c.fst), AV.sl R (v + 1) 0 (j + 1) none]) (b := N) (by rw [hYRs]; omega) (by omega)).trans (put_get_eq (AObj.cells (v + 1) m1 51 1 true (l' ++ [AV.vs 1 [] (some 0)])) (by omega))
            have hZN := put_get_eq (H := Y.put R (AObj.cells (v + 1) m1 51 1 true (l' ++ [AV.vs 1 [] (some 0)]))) (b := N) (AObj.cells 0 m2 78 1 false [AV.v (Value.int IntKind.i64 c.fst), AV.sl R (v + 1) 0 (j + 1) none]) (by rw [hYRs]; omega)
            have hZg : ∀ b, b ≠ N → b ≠ R → ((Y.put R (AObj.cells (v + 1) m1 51 1 true (l' ++ [AV.vs 1 [] (some 0)]))).put N (AObj.cells 0 m2 78 1 false [AV.v (Value.int IntKind.i64 c.fst), AV.sl R (v + 1) 0 (j + 1) none])).get b = Y.get b := fun b hb1 hb2 => by rw [put_get_ne _ (by rw [hYRs]; omega) hb1, put_get_ne _ (by omega) hb2]
            have hZl : ((Y.put R (AObj.cells (v + 1) m1 51 1 true (l' ++ [AV.vs 1 [] (some 0)]))).put N (AObj.cells 0 m2 78 1 false [AV.v (Value.int IntKind.i64 c.fst), AV.sl R (v + 1) 0 (j + 1) none])).lock = 0 := hYl
            generalize (Y.put R _).put N _ = Z at *
            rw [none_end hZs rfl, wrap_succ j (by omega)]
            refine Again.mk' μ2 (by omega) (hQ2 _ _ _ ⟨j + 1, by omega, rfl, hZl, by omega, fun b hb => by rw [hZg b (by omega) (by omega)]; exact hYg b hb, ?_⟩)
            exact LnI.next (M := M) hM (by omega) hZN hZR hR1 (by omega) hl'l hl'b hm1 (Nat.zero_le _) (fun b h1 h2 h3 => hZg b h2 h3) hfz hal ((Fz.vs _ _ 1 [] (some 0)).mono (fun b hb => ⟨hb, rfl⟩) (by omega)) hw (Or.inr ⟨some 0, rfl⟩)
          · simp -implicitDefEqProofs only [go_sem, ↓reduceIte, Int.reduceEq, Int.reduceLT, Int.reduceLE, List.reduceReplicate, intA, setT_nil, setT_cons, hrE, hr5, hch.len, hch.cells, hix, hl.cells, hl.len, hjx, hcf, hsl0.cells, hne, hn0, appTo_vsT, bound_sl, hob, hq1, hf24, hfit, hne2, hne3, happ, hBR, hNR, hRN, strs_flatT, strs_bd, hst, hB, h0M, List.all_cons, List.all_nil, beq_self_eq_true, Bool.or_true, Bool.true_or, Bool.not_false, Bool.and_self, not_false_eq_true, sizeP hM, putP0 hM, putP hM, settleP0 hM, settleP hM, rowP0 hM, rowP hM, storeP0 hM hlkM, storeP hM hlkM, ↓boolP_bool, ↓iteB_true, ↓iteB_false, List.length_nil, List.length_cons, Nat.add_zero, Nat.zero_add]
            have hm1 : M + 12 + 1 ≤ (if mR ≤ M + 12 + 1 then M + 12 + 1 else mR) ∧ mR ≤ (if mR ≤ M + 12 + 1 then M + 12 + 1 else mR) := by split <;> omega
            generalize (if mR ≤ M + 12 + 1 then M + 12 + 1 else mR) = m1 at *
            generalize (if mB ≤ R + 1 then R + 1 else mB) = m2
            have hZs : ((Y.put R (AObj.cells (v + 1) m1 51 1 true (l' ++ [AV.sl (M + 12) 0 0 (List.length ws) none]))).put N (AObj.cells 0 m2 78 1 false [AV.v (Value.int IntKind.i64 c.fst), AV.sl R (v + 1) 0 (j + 1) none])).size = M := by rw [put_sizeI _ (by rw [hYRs]; omega)]; exact hYRs _
            have hZR := (put_get_ne (H := Y.put R (AObj.cells (v + 1) m1 51 1 true (l' ++ [AV.sl (M + 12) 0 0 (List.length ws) none]))) (c := R) (AObj.cells 0 m2 78 1 false [AV.v (Value.int IntKind.i64 c.fst), AV.sl R (v + 1) 0 (j + 1) none]) (b := N) (by rw [hYRs]; omega) (by omega)).trans (put_get_eq (AObj.cells (v + 1) m1 51 1 true (l' ++ [AV.sl (M + 12) 0 0 (List.length ws) none])) (by omega))
            have hZN := put_get_eq (H := Y.put R (AObj.cells (v + 1) m1 51 1 true (l' ++ [AV.sl (M + 12) 0 0 (List.length ws) none]))) (b := N) (AObj.cells 0 m2 78 1 false [AV.v (Value.int IntKind.i64 c.fst), AV.sl R (v + 1) 0 (j + 1) none]) (by rw [hYRs]; omega)
            have hZg : ∀ b, b ≠ N → b ≠ R → ((Y.put R (AObj.cells (v + 1) m1 51 1 true (l' ++ [AV.sl (M + 12) 0 0 (List.length ws) none]))).put N (AObj.cells 0 m2 78 1 false [AV.v (Value.int IntKind.i64 c.fst), AV.sl R (v + 1) 0 (j + 1) none])).get b = Y.get b := fun b hb1 hb2 => by rw [put_get_ne _ (by rw [hYRs]; omega) hb1, put_get_ne _ (by omega) hb2]
            have hZl : ((Y.put R (AObj.cells (v + 1) m1 51 1 true (l' ++ [AV.sl (M + 12) 0 0 (List.length ws) none]))).put N (AObj.cells 0 m2 78 1 false [AV.v (Value.int IntKind.i64 c.fst), AV.sl R (v + 1) 0 (j + 1) none])).lock = 0 := hYl
            generalize (Y.put R _).put N _ = Z at *
            rw [keep_end hZs (b := R) (by omega) hZR (by show M < m1; omega) rfl, wrap_succ j (by omega)]
            refine Again.mk' μ2 (by omega) (hQ2 _ _ _ ⟨j + 1, by omega, rfl, hZl, by rw [plus_size, hZs]; omega, fun b hb => by rw [plus_get _ (by omega), hZg b (by omega) (by omega)]; exact hYg b hb, ?_⟩)
            exact LnI.next (M := M) hM (by rw [plus_size, hZs]; omega) (by rw [plus_get _ (by omega)]; exact hZN) (by rw [plus_get _ (by omega)]; exact hZR) hR1 (by omega) hl'l hl'b hm1.2 (show bound (AV.sl (M + 12) 0 0 (List.length ws) none) ≤ m1 from hm1.1) (fun b h1 h2 h3 => by rw [plus_get _ (by omega)]; exact hZg b h2 h3) hfz hal (line_fz ⟨by omega, by rw [plus_size, hZs]; simp, by omega⟩ (plus_at hZs _ _) hwl) hw (Or.inr ⟨none, rfl⟩)
  · exact ⟨0, Nat.zero_add _, rfl, rfl, Nat.le_refl _, rfl, rfl, Or.inl ⟨rfl, rfl⟩⟩
end Go.Ev
namespace Go.Ev
open Go.Proofs
set_option maxRecDepth 100000
set_option linter.unusedSimpArgs false
attribute [local irreducible] Wp WpS
/-! ### slices that are closed, or lie in memory -/
def SlH (X : Heap) (xs : List AV) (x : AV) : Prop := SlOf 1 xs x ∨ ∃ b v cap m e g cs, x = .sl b v 0 xs.length cap ∧ b < X.size ∧ X.row b v = some (m, e, 1, g, cs) ∧ cs.take xs.length = xs ∧ xs.length ≤ cs.length
theorem SlH.len {X : Heap} {xs : List AV} {x : AV} (h : SlH X xs x) : slLen x = some (.v (.int .i64 xs.length)) := by
  rcases h with h | ⟨b, v, cap, m, e, g, cs, rfl, -⟩
  · exact h.len
  · rfl
theorem SlH.get {X : Heap} {N : Nat} (hN : X.size = N) {xs : List AV} {x : AV} (h : SlH X xs x) {i : Nat} {z : AV} (hz : xs[i]? = some z) (hzc : z.cells = [z]) (k : IntKind) :
    ∃ p, slIdx 1 x (.v (.int k (i : Int))) = some p ∧ (∀ (t : TypeId) E, isAggT Try.prog t = some false → sizeT Try.prog t = some 1 → loadA Try.prog (X.plus E) t p = some z) ∧ ∀ top, N ≤ top → (objsOf p).all (fun c => ltB c top) = true := by
  have hi := (List.getElem?_eq_some_iff.1 hz).1
  rcases h with h | ⟨b, v, cap, m, e, g, cs, rfl, hb, hr, ht, hl⟩
  · refine ⟨.ro z 0, h.idx hz k, fun t E ha hs => ?_, fun _ _ => rfl⟩
    unfold loadA partOf
    rw [ha, hs]
    show z.cells[0]? = some z
    rw [hzc]; rfl
  · refine ⟨.ptr b v (0 + i * 1), ?_, fun t E ha hs => ?_, fun top h => ?_⟩
    · unfold slIdx
      simp; omega
    · have hrow : (X.plus E).row b v = some (m, e, 1, g, cs) := by rw [rowLo hb, hr]
      unfold loadA
      simp only [hrow]
      unfold partOf
      rw [ha, hs]
      simp only
      rw [Nat.zero_add, Nat.mul_one, ← List.getElem?_take_of_lt (j := xs.length) hi, ht, hz]
    · simp only [objsOf, List.all_cons, List.all_nil, Bool.and_true]
      unfold ltB
      simp; omega
theorem SlH.lock {X : Heap} {xs : List AV} {x : AV} (h : SlH X xs x) (k : Nat) : SlH { X with lock := k } xs x := by
  rcases h with h | ⟨b, v, cap, m, e, g, cs, rfl, hb, hr, ht⟩
  · exact Or.inl h
  · exact Or.inr ⟨b, v, cap, m, e, g, cs, rfl, hb, hr, ht⟩
theorem SlH.closed {X : Heap} {xs : List AV} {x : AV} (h : SlH X xs x) (hb : bound x = 0) (Y : Heap) : SlH Y xs x := by
  rcases h with h | ⟨b, v, cap, m, e, g, cs, rfl, -⟩
  · exact Or.inl h
  · simp [bound] at hb
theorem SlH.yld {X : Heap} {xs : List AV} {x : AV} (h : SlH X xs x) : isYld x = false := by
  rcases h with h | ⟨b, v, cap, m, e, g, cs, rfl, -⟩
  · rcases h with ⟨rfl, _⟩ | ⟨c, rfl⟩ <;> rfl
  · rfl
/-- a call that hands back what is no address, on memory that it leaves -/
theorem callA_still {C : Cfg} {me f : FuncId} {d : Option Tmp} {args : List AV} {X : Heap} {w : Value} (hx : C.ext f = none) (hp : C.pure me f d = true) (hy : args.any isYld = false)
    (h1 : boundL args = 0 → Fn' C f args { objs := [], lock := 0 } (fun v _ => v = .v w)) (h2 : Fn' C f args { X with lock := X.size } (fun v _ => v = .v w)) : callA C (lim C) me f d args X = some (.v w, X) := by
  unfold callA callB callKind
  rw [hx]
  simp only [hp, if_true]
  by_cases hb : boundL args = 0
  · have h1 := h1 hb
    unfold Fn' at h1
    rw [bindO_iff] at h1
    obtain ⟨o, h3, h4⟩ := h1
    rw [if_pos (by rw [hb]; rfl)]
    cases o with
    | ret v H => obtain rfl : v = .v w := h4; simp only [h3]; rfl
    | _ => exact h4.elim
  · unfold Fn' at h2
    rw [bindO_iff] at h2
    obtain ⟨o, h3, h4⟩ := h2
    rw [if_neg (fun h => hb (Nat.eq_of_beq_eq_true h)), hy]
    simp only [Bool.false_eq_true, if_false]
    cases o with
    | ret v H => obtain rfl : v = .v w := h4; simp only [h3]; rfl
    | _ => exact h4.elim
end Go.Ev
namespace Go.Ev
open Go.Proofs
set_option maxRecDepth 100000
set_option linter.unusedSimpArgs false
attribute [local irreducible] Wp WpS
theorem drop_eq_cons {α : Type} {xs : List α} {j : Nat} {x : α} (h : xs[j]? = some x) : xs.drop j = x :: xs.drop (j + 1) := by
  obtain ⟨hj, rfl⟩ := List.getElem?_eq_some_iff.1 h
  exact List.drop_eq_getElem_cons hj
theorem trimP0 {X : Heap} {N : Nat} (hN : X.size = N) (vs : List AV) (ms : List Nat) : (X.plus []).trim N vs ms = X.plus [] := by rw [plus_nil, ← hN, trim_size]
theorem isAgg9 : isAggT Try.prog 9 = some false := by kernel_rfl
theorem size9 : sizeT Try.prog 9 = some 1 := by kernel_rfl
set_option maxHeartbeats 2000000 in
theorem fn31 {e : Exts} {X : Heap} {N : Nat} (hN : X.size = N) (a b : AV) (xs ys : List ByteArray) (ha : SlH X (strs xs) a) (hb : SlOf 1 (strs ys) b) (hn : xs.length < 2 ^ 63) : Fn' (Cx e) 23 [a, b] X (fun v _ => v = .v (.bool (decide (xs = ys)))) := by
  rw [fn_step (fn_23 e) (show Try.f23.body = some _ from rfl)]
  simp -implicitDefEqProofs only [Try.f23, go_sem, ↓reduceIte, Int.reduceEq, Int.reduceLT, Int.reduceLE, List.reduceReplicate, intA, setT_nil, setT_cons, ha.len, hb.len, strs_len]
  by_cases hl : xs.length = ys.length
  · have hli : ((xs.length : Int) = (ys.length : Int)) := by omega
    simp -implicitDefEqProofs only [go_sem, ↓reduceIte, Int.reduceEq, Int.reduceLT, Int.reduceLE, List.reduceReplicate, intA, setT_nil, setT_cons, ha.len, hb.len, strs_len, hli]
    refine Lp_rule (P := fun μ a' H => ∃ j, j ≤ xs.length ∧ xs.length = j + μ ∧ a' = ⟨26, [(0, a), (1, b), (4, .v (.bool false)), (10, .v (.bool false)), (5, intA j)], []⟩ ∧ X = H ∧ decide (xs = ys) = decide (xs.drop j = ys.drop j)) ?_ xs.length _ _ ⟨0, by omega, by omega, rfl, rfl, rfl⟩
    rintro μ _ _ ⟨j, hj1, hj2, rfl, rfl, ho⟩
    by_cases hlt : (j : Int) < (xs.length : Int)
    · obtain ⟨x, hx⟩ := at_lt xs j (by omega)
      obtain ⟨y, hy⟩ := at_lt ys j (by omega)
      have hw := wrap_succ j (by omega)
      obtain ⟨p, hp1, hp2, hp3⟩ := ha.get hN (strs_get hx) rfl .i64
      have hib := hb.idx (strs_get hy)
      rw [drop_eq_cons hx, drop_eq_cons hy] at ho
      rw [← plus_nil X]
      simp -implicitDefEqProofs only [go_sem, ↓reduceIte, Int.reduceEq, Int.reduceLT, Int.reduceLE, List.reduceReplicate, intA, setT_nil, setT_cons, ha.len, hb.len, strs_len, hlt, hw]
      refine wp_drawX [([], [], false), ([], [], false), ([], [], false), ([], [], false), ([], [], false), ([], [], false), ([], [], false), ([3], [], false), ([], [], false)] (by kernel_rfl) (by kernel_rfl) ?_
      simp -implicitDefEqProofs only [go_sem, ↓reduceIte, Int.reduceEq, Int.reduceLT, Int.reduceLE, List.reduceReplicate, intA, setT_nil, setT_cons, hp1, hib, sizeP hN, hp3 _ (Nat.le_refl N), hp2 _ _ isAgg9 size9, hw, settleP0 hN, settleP hN, trimP0 hN]
      by_cases hd : x = y
      · subst hd
        simp -implicitDefEqProofs only [go_sem, ↓reduceIte, Int.reduceEq, Int.reduceLT, Int.reduceLE, List.reduceReplicate, intA, setT_nil, setT_cons, decide_true, Bool.not_true]
        rw [plus_nil]
        exact ⟨μ - 1, by omega, j + 1, by omega, by omega, rfl, rfl, by rw [ho]; simp⟩
      · have h0 : decide (xs = ys) = false := by rw [ho]; simp [hd]
        simp -implicitDefEqProofs only [go_sem, ↓reduceIte, Int.reduceEq, Int.reduceLT, Int.reduceLE, List.reduceReplicate, intA, setT_nil, setT_cons, decide_eq_false hd, Bool.not_false]
        rw [h0]; rfl
    · have hj : j = xs.length := by omega
      have hd : decide (xs = ys) = true := by rw [ho, hj, List.drop_length, hl, List.drop_length]; rfl
      simp -implicitDefEqProofs only [go_sem, ↓reduceIte, Int.reduceEq, Int.reduceLT, Int.reduceLE, List.reduceReplicate, intA, setT_nil, setT_cons, ha.len, hb.len, strs_len, hlt]
      rw [hd]; rfl
  · have hli : ¬ ((xs.length : Int) = (ys.length : Int)) := by omega
    have hne : ¬ xs = ys := fun h => hl (congrArg _ h)
    simp -implicitDefEqProofs only [go_sem, ↓reduceIte, Int.reduceEq, Int.reduceLT, Int.reduceLE, List.reduceReplicate, intA, setT_nil, setT_cons, ha.len, hb.len, strs_len, hli]
    rw [decide_eq_false hne]; rfl
/-- any memory that holds the one list -/
theorem callP31 {e : Exts} (he : Quiet e) {X : Heap} (a b : AV) (xs ys : List ByteArray) (ha : SlH X (strs xs) a) (hb : SlOf 1 (strs ys) b) (hn : xs.length < 2 ^ 63) (me : FuncId) (d : Option Tmp) : callA (Cx e) (lim (Cx e)) me 23 d [a, b] X = some (.v (.bool (decide (xs = ys))), X) := by
  refine callA_still (ext_23 he) (pure_23 _ _ _) ?_ (fun h0 => fn31 rfl a b xs ys (ha.closed ?_ _) hb hn) (fn31 rfl a b xs ys (ha.lock _) hb hn)
  · simp [ha.yld, SlH.yld (X := X) (Or.inl hb)]
  · rw [boundL_cons] at h0
    exact Nat.le_zero.1 (h0 ▸ Nat.le_max_left _ _)
end Go.Ev
namespace Go.Ev
open Go.Proofs
set_option maxRecDepth 100000
set_option linter.unusedSimpArgs false
attribute [local irreducible] Wp WpS
def shapeT (t : Txt) : List (Int × Nat) := t.map fun c => (c.1, c.2.length)
def alikeB (t u : Txt) : Bool := decide (shapeT t = shapeT u)
set_option maxHeartbeats 2000000 in
theorem ans24 {e : Exts} (t u : Txt) (ht : Fits t) (x y : AV) (hx : TextA t x) (hy : TextA u y) : Ans (Cx e) 93 [x, y] (.v (.bool (alikeB t u))) := by
  obtain ⟨ch, rfl, xs, hch, hall⟩ := hx
  obtain ⟨ch', rfl, xs', hch', hall'⟩ := hy
  have hfit := ht.chs
  unfold Ans
  rw [fn_step (fn_93 e) (show Try.f93.body = some _ from rfl)]
  by_cases hl : t.length = u.length
  · have hli : ((t.length : Int) = (u.length : Int)) := by omega
    simp -implicitDefEqProofs only [Try.f93, go_sem, ↓reduceIte, Int.reduceEq, Int.reduceLT, Int.reduceLE, List.reduceReplicate, intA, setT_nil, setT_cons, hch.len, hch.cells, hch.flat, hch.bound, hch'.len, hch'.cells, hch'.flat, hch'.bound, ← hall.1, ← hall'.1, hli]
    refine Lp_rule (P := fun μ a' H => ∃ j, j ≤ t.length ∧ t.length = j + μ ∧ a' = ⟨50, [(0, .agg [ch]), (1, .agg [ch']), (2, .ptr 0 0 0), (3, .ptr 1 0 0), (4, .v (.bool false)), (12, .v (.bool false)), (5, intA j)], []⟩ ∧ H = ⟨[some (.cells 0 0 24 1 false [ch]), some (.cells 0 0 24 1 false [ch'])], 0⟩ ∧ alikeB t u = decide (shapeT (t.drop j) = shapeT (u.drop j))) ?_ t.length _ _ ⟨0, by omega, by omega, rfl, rfl, rfl⟩
    rintro μ _ _ ⟨j, hj1, hj2, rfl, rfl, ho⟩
    by_cases hlt : (j : Int) < (t.length : Int)
    · obtain ⟨c, hs⟩ := at_lt t j (by omega)
      obtain ⟨c', hs'⟩ := at_lt u j (by omega)
      obtain ⟨z, hz, l, rfl, lxs, hll, hls⟩ := hall.get hs
      obtain ⟨z', hz', l', rfl, lxs', hll', hls'⟩ := hall'.get hs'
      have hw := wrap_succ j (by omega)
      have hlt' := hlt
      rw [hli] at hlt'
      rw [drop_eq_cons hs, drop_eq_cons hs'] at ho
      simp -implicitDefEqProofs only [go_sem, ↓reduceIte, Int.reduceEq, Int.reduceLT, Int.reduceLE, List.reduceReplicate, intA, setT_nil, setT_cons, hch.len, hch'.len, ← hall.1, ← hall'.1, hlt, hlt', hw]
      refine wp_drawX [([], [], false), ([], [], false), ([], [], false), ([], [], false), ([], [], false), ([], [], false), ([], [], false), ([1, 5], [], false), ([], [], false), ([], [], false), ([], [], false), ([1, 5], [], false), ([], [], false), ([], [], false), ([], [], false), ([], [], false), ([], [], false), ([], [], false), ([], [], false), ([], [], false), ([], [], false), ([], [], false), ([15, 19, 20], [], false), ([], [], false), ([], [], false), ([], [], false), ([15, 19, 20], [], false), ([15, 19, 20], [], false), ([], [], false), ([], [], false)] (by kernel_rfl) (by kernel_rfl) ?_
      have hi := hch.idx hz
      have hi' := hch'.idx hz'
      unfold intA at hi hi'
      cases h1 : decide (c.1 = c'.1)
      · simp -implicitDefEqProofs only [go_sem, ↓reduceIte, Int.reduceEq, Int.reduceLT, Int.reduceLE, List.reduceReplicate, intA, setT_nil, setT_cons, hi, hi', hll.len, hll'.len, hll.lenI, hll'.lenI, hll.cells, hll'.cells, ← hls.1, ← hls'.1, hw, h1]
        have h0 : alikeB t u = false := by rw [ho]; have := of_decide_eq_false h1; simp [shapeT, this]
        rw [h0]
      · cases h2 : decide ((c.2.length : Int) = (c'.2.length : Int))
        · simp -implicitDefEqProofs only [go_sem, ↓reduceIte, Int.reduceEq, Int.reduceLT, Int.reduceLE, List.reduceReplicate, intA, setT_nil, setT_cons, hi, hi', hll.len, hll'.len, hll.lenI, hll'.lenI, hll.cells, hll'.cells, ← hls.1, ← hls'.1, hw, h1, h2]
          have h0 : alikeB t u = false := by
            rw [ho]
            have : ¬ c.2.length = c'.2.length := fun h => of_decide_eq_false h2 (by rw [h])
            simp [shapeT, this]
          rw [h0]
        · simp -implicitDefEqProofs only [go_sem, ↓reduceIte, Int.reduceEq, Int.reduceLT, Int.reduceLE, List.reduceReplicate, intA, setT_nil, setT_cons, hi, hi', hll.len, hll'.len, hll.lenI, hll'.lenI, hll.cells, hll'.cells, ← hls.1, ← hls'.1, hw, h1, h2, trim_at, hch.bound, hch'.bound]
          have h3 := of_decide_eq_true h1
          have h4 : c.2.length = c'.2.length := by have := of_decide_eq_true h2; omega
          exact ⟨μ - 1, by omega, j + 1, by omega, by omega, rfl, rfl, by rw [ho]; simp [shapeT, h3, h4]⟩
    · have hd : alikeB t u = true := by rw [ho, show t.drop j = [] from List.drop_eq_nil_of_le (by omega), show u.drop j = [] from List.drop_eq_nil_of_le (by omega)]; rfl
      have hlt' := hlt
      rw [hli] at hlt'
      simp -implicitDefEqProofs only [go_sem, ↓reduceIte, Int.reduceEq, Int.reduceLT, Int.reduceLE, List.reduceReplicate, intA, setT_nil, setT_cons, hch.len, hch'.len, ← hall.1, ← hall'.1, hlt, hlt']
      rw [hd]
  · have hli : ¬ ((t.length : Int) = (u.length : Int)) := by omega
    have hne : alikeB t u = false := by unfold alikeB; exact decide_eq_false (fun h => hl (by simpa [shapeT] using congrArg List.length h))
    simp -implicitDefEqProofs only [Try.f93, go_sem, ↓reduceIte, Int.reduceEq, Int.reduceLT, Int.reduceLE, List.reduceReplicate, intA, setT_nil, setT_cons, hch.len, hch.cells, hch.flat, hch.bound, hch'.len, hch'.cells, hch'.flat, hch'.bound, ← hall.1, ← hall'.1, hli]
    rw [hne]
end Go.Ev
namespace Go.Ev
open Go.Proofs
set_option maxRecDepth 100000
set_option linter.unusedSimpArgs false
attribute [local irreducible] Wp WpS
end Go.Ev
namespace Go.Ev
open Go.Proofs
set_option maxRecDepth 100000
set_option linter.unusedSimpArgs false
attribute [local irreducible] Wp WpS
/-- a reading of the reference -/
def readB (t : Txt) (r : Rd) : Bool := match lineAt t r.ch r.ln with | none => false | some l => if r.kind = 1 then fits1 l r else if r.kind = 2 then fits2 l r else if r.kind = 3 then fits3 l r else false
end Go.Ev
namespace Go.Ev
open Go.Proofs
set_option maxRecDepth 100000
set_option linter.unusedSimpArgs false
attribute [local irreducible] Wp WpS
/-! ### a line of a copy, by the reference -/
def refI (k n w : Int) (s : List ByteArray × ByteArray) (r : Rd) : List ByteArray × ByteArray :=
  if r.ch = k ∧ r.ln = n ∧ r.wd = w then if r.kind = 2 then (s.1 ++ [r.word], s.2) else (s.1, r.word) else s
def refW (l : Line) (rs : List Rd) (k n : Int) (ds : List ByteArray) (w : Nat) : List ByteArray :=
  let s := rs.foldl (refI k n w) (ds, (l[w]?).getD emp)
  if s.2 = emp then s.1 else s.1 ++ [s.2]
def refLine (l : Line) (rs : List Rd) (k n : Int) : List ByteArray := (List.range (l.length + 1)).foldl (refW l rs k n) []
structure M79 (id : Int) (x : AV) (H : Heap) (ds : List ByteArray) (out : AV) : Prop where
  lock : H.lock = 0
  size : 2 ≤ H.size
  b1 : H.get 1 = some (.cells 0 0 62 1 false [.v (.int .i64 id), x])
  done : DoneR H ds out
theorem M79.plus {id : Int} {x : AV} {H : Heap} {ds : List ByteArray} {out : AV} (h : M79 id x H ds out) (E : List (Option AObj)) : M79 id x (H.plus E) ds out :=
  ⟨h.lock, by have := h.size; rw [plus_size]; omega, (plus_get E (by have := h.size; omega)).trans h.b1, h.done.plus E⟩
theorem M79.trim {id : Int} {x : AV} {H : Heap} {ds : List ByteArray} {out : AV} (h : M79 id x H ds out) {n : Nat} (hn : 2 ≤ n) (hn2 : n ≤ H.size) (vs : List AV) (ms : List Nat) (hv : bound out ≤ boundL vs) : M79 id x (H.trim n vs ms) ds out := by
  refine ⟨trim_lock.trans h.lock, Nat.le_trans hn (trim_size' hn2), (trim_lo (by omega)).trans h.b1, ?_⟩
  rcases h.done with hd | ⟨b, v, h1, h2, rfl, h4⟩
  · exact Or.inl hd
  · unfold Heap.trim
    split
    · rename_i hq
      rw [Bool.and_eq_true, Bool.and_eq_true, Bool.and_eq_true, Nat.ble_eq] at hq
      have h5 := hq.1.1.1
      have hb : b < n := by simp only [bound] at hv; omega
      have hg := (takeH_get (H := H) hb).trans (row_of_get h4)
      exact Or.inr ⟨b, v, h1, get_size hg, rfl, get_row hg⟩
    · exact Or.inr ⟨b, v, h1, h2, rfl, h4⟩
theorem M79.more {id : Int} {x : AV} {H : Heap} {ds : List ByteArray} {b v : Nat} (h : M79 id x H ds (.sl b v 0 ds.length none)) (hb : b < H.size) (hr : H.row b v = some (0, 9, 1, true, strs ds)) (s : List ByteArray) (n : Nat) (hn : n = ds.length + s.length) : M79 id x (H.put b (.cells (v + 1) 0 9 1 true (strs (ds ++ s)))) (ds ++ s) (.sl b (v + 1) 0 n none) := by
  have hne : 1 ≠ b := by
    rintro rfl
    have := (row_of_get hr).symm.trans h.b1
    simp at this
  refine ⟨h.lock, by rw [put_sizeI _ hb]; exact h.size, (put_get_ne _ (by have := h.size; omega) hne).trans h.b1, Or.inr ⟨b, v + 1, ?_, by rw [put_sizeI _ hb]; exact hb, by rw [hn, List.length_append], row_put_same hb⟩⟩
  have := h.lock
  show H.lock ≤ b
  omega
theorem M79.new {id : Int} {x : AV} {H : Heap} {ds : List ByteArray} {out : AV} (h : M79 id x H ds out) {N : Nat} (hN : H.size = N) (E : List (Option AObj)) (k : Nat) (ds' : List ByteArray) (hE : E[k]? = some (some (.cells 0 0 9 1 true (strs ds')))) : M79 id x (H.plus E) ds' (.sl (N + k) 0 0 ds'.length none) := by
  have hk := (List.getElem?_eq_some_iff.1 hE).1
  refine ⟨h.lock, by have := h.size; rw [plus_size]; omega, (plus_get E (by have := h.size; omega)).trans h.b1, Or.inr ⟨N + k, 0, ?_, by rw [plus_size]; omega, rfl, ?_⟩⟩
  · have := h.lock
    show H.lock ≤ _
    omega
  · rw [rowP hN, hE]; rfl
theorem le_boundL {v : AV} : ∀ {vs : List AV}, v ∈ vs → bound v ≤ boundL vs
  | a :: r, h => by
    rw [boundL_cons]
    rcases List.mem_cons.1 h with rfl | h
    · exact Nat.le_max_left _ _
    · exact Nat.le_trans (le_boundL h) (Nat.le_max_right _ _)
end Go.Ev
namespace Go.Ev
open Go.Proofs
set_option maxRecDepth 100000
set_option linter.unusedSimpArgs false
attribute [local irreducible] Wp WpS
end Go.Ev
namespace Go.Ev
open Go.Proofs
set_option maxRecDepth 100000
set_option linter.unusedSimpArgs false
attribute [local irreducible] Wp WpS
end Go.Ev
namespace Go.Ev
open Go.Proofs
set_option maxRecDepth 100000
set_option linter.unusedSimpArgs false
attribute [local irreducible] Wp WpS
/-! ### a copy, by the reference -/
def pairR (p r : Rd) : Bool := !(beforeB (r.ch, r.ln, r.wd) (p.ch, p.ln, p.wd) || (eqP r.ch r.ln r.wd p.ch p.ln p.wd && !decide (p.kind = 2)))
def rdsB (t : Txt) : Option Rd → List Rd → Bool
  | _, [] => true
  | p, r :: l => readB t r && (match p with | none => true | some p => pairR p r) && rdsB t (some r) l
def linesN (rs : List Rd) (k : Nat) : Nat → List Line → Bool
  | _, [] => true
  | n, l :: r => withinB 1 10 [((refLine l rs k n).length : Int)] && linesN rs k (n + 1) r
def chapsN (rs : List Rd) : Nat → Txt → Bool
  | _, [] => true
  | k, c :: r => linesN rs k 0 c.2 && chapsN rs (k + 1) r
def copyB (t : Txt) (id : Int) (rs : List Rd) : Bool := withinB 0 9999 [id] && !decide (20 < (rs.length : Int)) && (rdsB t none rs && chapsN rs 0 t)
end Go.Ev
namespace Go.Ev
open Go.Proofs
set_option maxRecDepth 100000
set_option linter.unusedSimpArgs false
attribute [local irreducible] Wp WpS
end Go.Ev
namespace Go.Ev
open Go.Proofs
set_option maxRecDepth 100000
set_option linter.unusedSimpArgs false
attribute [local irreducible] Wp WpS
def takesB (a b c : Int) (r : Rd) : Bool := eqP r.ch r.ln r.wd a b c && !decide (r.kind = 2)
def standL (rs : List Rd) (a b c : Int) (own : ByteArray) : ByteArray := match rs.find? (takesB a b c) with | some r => r.word | none => own
end Go.Ev
namespace Go.Ev
open Go.Proofs
set_option maxRecDepth 100000
set_option linter.unusedSimpArgs false
attribute [local irreducible] Wp WpS
end Go.Ev
namespace Go.Ev
open Go.Proofs
set_option maxRecDepth 100000
set_option linter.unusedSimpArgs false
attribute [local irreducible] Wp WpS
theorem isAgg3 : isAggT Try.prog 3 = some false := by kernel_rfl
end Go.Ev
namespace Go.Ev
open Go.Proofs
set_option maxRecDepth 100000
set_option linter.unusedSimpArgs false
attribute [local irreducible] Wp WpS
/-! ### the lengths of the lines of a copy -/
def lenIt (x : List AV) : Int := match x with | [_, z] => ((slElems z).length : Int) | _ => 0
def lensOf (ys : List AV) : List Int := ys.flatMap fun y => (linesOf y).map fun z => ((slElems z).length : Int)
theorem lineIts_lens (i : Nat) : ∀ (k : Nat) (zs : List AV), (lineIts i k zs).map lenIt = zs.map fun z => ((slElems z).length : Int)
  | _, [] => rfl
  | k, z :: r => by
    show lenIt _ :: (lineIts i (k + 1) r).map lenIt = _
    rw [lineIts_lens i (k + 1) r]; rfl
theorem chapIts_lens : ∀ (i : Nat) (ys : List AV), (chapIts i ys).map lenIt = lensOf ys
  | _, [] => rfl
  | i, y :: r => by
    show (lineIts i 0 (linesOf y) ++ chapIts (i + 1) r).map lenIt = _
    rw [List.map_append, lineIts_lens, chapIts_lens (i + 1) r]; rfl
end Go.Ev
namespace Go.Ev
open Go.Proofs
set_option maxRecDepth 100000
set_option linter.unusedSimpArgs false
attribute [local irreducible] Wp WpS
end Go.Ev
namespace Go.Ev
open Go.Proofs
set_option maxRecDepth 100000
set_option linter.unusedSimpArgs false
/-! ### a line of a copy, read in either way -/
/-- how readings of one line stand one behind the other -/
def Bhd (a b : Rd) : Prop := a.wd ≤ b.wd ∧ (a.kind ≠ 2 → a.wd < b.wd)
/-- a way to write a copy's line word by word -/
structure Way (ls : Line) (on : Rd → Prop) (W : List Rd → List ByteArray → Nat → List ByteArray) : Prop where
  none : ∀ ds w s, ls[w]? = some s → W [] ds w = ds ++ [s]
  last : ∀ ds, W [] ds ls.length = ds
  skip : ∀ (r : Rd) (l : List Rd) (ds : List ByteArray) (w : Nat), r.wd ≠ (w : Nat) → W (r :: l) ds w = W l ds w
  put : ∀ (r : Rd) (l : List Rd) (ds : List ByteArray) (w : Nat), on r → r.wd = (w : Nat) → r.kind = 2 → W (r :: l) ds w = W l (ds ++ [r.word]) w
  other : ∀ (r : Rd) (l : List Rd) (ds : List ByteArray) (w : Nat), on r → r.wd = (w : Nat) → r.kind ≠ 2 → w < ls.length → (∀ q ∈ l, q.wd ≠ (w : Nat)) → W (r :: l) ds w = ds ++ if r.word = emp then [] else [r.word]
theorem Way.far {ls : Line} {on : Rd → Prop} {W : List Rd → List ByteArray → Nat → List ByteArray} (hW : Way ls on W) (ds : List ByteArray) (w : Nat) : ∀ l : List Rd, (∀ r ∈ l, r.wd ≠ (w : Nat)) → W l ds w = W [] ds w
  | [], _ => rfl
  | r :: l, h => by rw [hW.skip r l ds w (h r (List.mem_cons_self ..)), hW.far ds w l fun q hq => h q (List.mem_cons_of_mem _ hq)]
theorem drop_take_succ (ls : Line) (p n : Nat) (s : ByteArray) (h : ls[p]? = some s) : (ls.drop p).take (n + 1) = s :: (ls.drop (p + 1)).take n := by
  obtain ⟨hp, rfl⟩ := List.getElem?_eq_some_iff.1 h
  rw [List.drop_eq_getElem_cons hp, List.take_succ_cons]
theorem Way.free {ls : Line} {on : Rd → Prop} {W : List Rd → List ByteArray → Nat → List ByteArray} (hW : Way ls on W) (l : List Rd) : ∀ (n p : Nat) (ds : List ByteArray), p + n ≤ ls.length → (∀ r ∈ l, ((p + n : Nat) : Int) ≤ r.wd) → (List.range' p n).foldl (W l) ds = ds ++ (ls.drop p).take n
  | 0, p, ds, _, _ => by simp
  | n + 1, p, ds, h1, h2 => by
    obtain ⟨s, hs⟩ := at_lt ls p (by omega)
    rw [List.range'_succ, List.foldl_cons, hW.far ds p l (fun r hr => by have := h2 r hr; omega), hW.none ds p s hs, hW.free l n (p + 1) (ds ++ [s]) (by omega) (fun r hr => by have := h2 r hr; omega), drop_take_succ ls p n s hs, List.append_assoc]
    rfl
theorem foldl_eq {α β : Type} {f g : α → β → α} : ∀ (l : List β) (a : α), (∀ b ∈ l, ∀ a, f a b = g a b) → l.foldl f a = l.foldl g a
  | [], _, _ => rfl
  | b :: l, a, h => by rw [List.foldl_cons, List.foldl_cons, h b (List.mem_cons_self ..) a, foldl_eq l _ fun c hc => h c (List.mem_cons_of_mem _ hc)]
theorem range'_split (p q n : Nat) (h1 : p ≤ q) (h2 : q ≤ n) : List.range' p (n - p) = List.range' p (q - p) ++ List.range' q (n - q) := by
  have h := List.range'_append (s := p) (m := q - p) (n := n - q) (step := 1)
  rw [Nat.one_mul, show p + (q - p) = q by omega, show q - p + (n - q) = n - p by omega] at h
  exact h.symm
/-- the word is what the kind says -/
structure RdW (ls : Line) (r : Rd) : Prop where
  kind : r.kind = 1 ∨ r.kind = 2 ∨ r.kind = 3
  word : r.kind = 1 ↔ r.word = emp
  hi : r.wd + (if r.kind = 2 then 0 else 1) ≤ ls.length
theorem way_read {ls : Line} {on : Rd → Prop} {W : List Rd → List ByteArray → Nat → List ByteArray} (hW : Way ls on W) : ∀ (l : List Rd) (p : Nat) (ds : List ByteArray), p ≤ ls.length → (∀ r ∈ l, on r ∧ RdW ls r ∧ (p : Int) ≤ r.wd) → l.Pairwise Bhd →
    (List.range' p (ls.length + 1 - p)).foldl (W l) ds = (l.foldl (rdOne ls) (p, ds)).2 ++ ls.drop (l.foldl (rdOne ls) (p, ds)).1
  | [], p, ds, hp, _, _ => by
    rw [range'_split p ls.length (ls.length + 1) hp (Nat.le_succ _), List.foldl_append, hW.free [] (ls.length - p) p ds (by omega) (fun r hr => nomatch hr), Nat.add_sub_cancel_left]
    show W [] _ ls.length = _
    rw [hW.last]
    show _ = ds ++ ls.drop p
    rw [List.take_of_length_le (by rw [List.length_drop]; exact Nat.le_refl _)]
  | r :: l, p, ds, hp, hr, hs => by
    obtain ⟨hon, hrw, hpw⟩ := hr r (List.mem_cons_self ..)
    obtain ⟨hb, hs'⟩ := List.pairwise_cons.1 hs
    obtain ⟨q, hq⟩ : ∃ q : Nat, r.wd = q := ⟨r.wd.toNat, by omega⟩
    have hhi := hrw.hi
    have hql : q ≤ ls.length := by split at hhi <;> omega
    have hqt : r.wd.toNat = q := by omega
    have hall : ∀ x ∈ r :: l, (q : Int) ≤ x.wd := fun x hx => by
      rcases List.mem_cons.1 hx with rfl | hx
      · omega
      · have := (hb x hx).1; omega
    have hf := hW.free (r :: l) (q - p) p ds (by omega) (fun x hx => by have := hall x hx; omega)
    rw [range'_split p q (ls.length + 1) (by omega) (by omega), List.foldl_append, hf]
    have hrest : ∀ (a : List ByteArray) (n : Nat), (List.range' (q + 1) n).foldl (W (r :: l)) a = (List.range' (q + 1) n).foldl (W l) a := fun a n =>
      foldl_eq _ a fun w hw a => hW.skip r l a w (by have := (List.mem_range'_1.1 hw).1; omega)
    by_cases hk : r.kind = 2
    · have hd : (r :: l).foldl (rdOne ls) (p, ds) = l.foldl (rdOne ls) (q, ds ++ (ls.drop p).take (q - p) ++ [r.word]) := by
        rw [List.foldl_cons]; unfold rdOne
        simp only [hk, hqt, if_true]
        rw [if_neg (by omega)]
      rw [hd, ← way_read hW l q _ hql (fun x hx => ⟨(hr x (List.mem_cons_of_mem _ hx)).1, (hr x (List.mem_cons_of_mem _ hx)).2.1, hall x (List.mem_cons_of_mem _ hx)⟩) hs']
      rw [show ls.length + 1 - q = (ls.length - q) + 1 by omega, List.range'_succ, List.foldl_cons, List.foldl_cons, hW.put r l _ q hon hq hk, hrest]
    · have hlt : q < ls.length := by rw [if_neg hk] at hhi; omega
      have hne : ∀ x ∈ l, x.wd ≠ (q : Nat) := fun x hx => by have := (hb x hx).2 hk; omega
      have hw : (if r.kind = 1 then ([] : List ByteArray) else [r.word]) = if r.word = emp then [] else [r.word] := by
        by_cases h1 : r.kind = 1
        · rw [if_pos h1, if_pos (hrw.word.1 h1)]
        · rw [if_neg h1, if_neg (fun h => h1 (hrw.word.2 h))]
      have hd : (r :: l).foldl (rdOne ls) (p, ds) = l.foldl (rdOne ls) (q + 1, ds ++ (ls.drop p).take (q - p) ++ if r.word = emp then [] else [r.word]) := by
        rw [List.foldl_cons]; unfold rdOne
        simp only [hk, hqt, if_false, hw]
      rw [hd, ← way_read hW l (q + 1) _ hlt (fun x hx => ⟨(hr x (List.mem_cons_of_mem _ hx)).1, (hr x (List.mem_cons_of_mem _ hx)).2.1, by have := (hb x hx).2 hk; omega⟩) hs']
      rw [show ls.length + 1 - q = (ls.length + 1 - (q + 1)) + 1 by omega, List.range'_succ, List.foldl_cons, hW.other r l _ q hon hq hk hlt hne, hrest]
theorem way_line {ls : Line} {on : Rd → Prop} {W : List Rd → List ByteArray → Nat → List ByteArray} (hW : Way ls on W) (l : List Rd) (hr : ∀ r ∈ l, on r ∧ RdW ls r ∧ 0 ≤ r.wd) (hs : l.Pairwise Bhd) : (List.range (ls.length + 1)).foldl (W l) [] = readLineL ls l := by
  rw [List.range_eq_range']
  exact way_read hW l 0 [] (Nat.zero_le _) hr hs
/-! ### the reference's way -/
theorem refI_far (k n : Int) (w : Nat) (l : List Rd) (h : ∀ q ∈ l, q.wd ≠ (w : Nat)) (s : List ByteArray × ByteArray) : l.foldl (refI k n w) s = s := by
  induction l generalizing s with
  | nil => rfl
  | cons r l ih =>
    have : refI k n w s r = s := by unfold refI; rw [if_neg (fun hh => h r (List.mem_cons_self ..) hh.2.2)]
    rw [List.foldl_cons, this, ih fun q hq => h q (List.mem_cons_of_mem _ hq)]
theorem way_ref (ls : Line) (hne : ∀ s ∈ ls, s ≠ emp) (k n : Int) : Way ls (fun r => r.ch = k ∧ r.ln = n) (fun l => refW ls l k n) := by
  refine ⟨fun ds w s hs => ?_, fun ds => ?_, fun r l ds w h => ?_, fun r l ds w ho h hk => ?_, fun r l ds w ho h hk hw hf => ?_⟩
  · unfold refW
    simp only [List.foldl_nil, hs, Option.getD_some]
    rw [if_neg (hne s (List.mem_of_getElem? hs))]
  · unfold refW
    simp only [List.foldl_nil, List.getElem?_eq_none_iff.2 (Nat.le_refl _), Option.getD_none, if_true]
  · unfold refW
    rw [List.foldl_cons, show refI k n w (ds, (ls[w]?).getD emp) r = (ds, (ls[w]?).getD emp) by unfold refI; rw [if_neg (fun hh => h hh.2.2)]]
  · unfold refW
    rw [List.foldl_cons, show refI k n w (ds, (ls[w]?).getD emp) r = (ds ++ [r.word], (ls[w]?).getD emp) by unfold refI; rw [if_pos ⟨ho.1, ho.2, h⟩, if_pos hk]]
  · unfold refW
    rw [List.foldl_cons, show refI k n w (ds, (ls[w]?).getD emp) r = (ds, r.word) by unfold refI; rw [if_pos ⟨ho.1, ho.2, h⟩, if_neg hk], refI_far k n w l hf]
    simp only
    split
    · rw [List.append_nil]
    · rfl
theorem atLine_iff {k n : Int} {r : Rd} : atLine k n 0 r = true ↔ r.ch = k ∧ r.ln = n := by
  unfold atLine eqP; simp
theorem refW_filter (ls : Line) (rs : List Rd) (k n : Int) (ds : List ByteArray) (w : Nat) : refW ls rs k n ds w = refW ls (rs.filter (atLine k n 0)) k n ds w := by
  have h : ∀ (l : List Rd) (s : List ByteArray × ByteArray), l.foldl (refI k n w) s = (l.filter (atLine k n 0)).foldl (refI k n w) s := by
    intro l
    induction l with
    | nil => intro s; rfl
    | cons r l ih =>
      intro s
      cases ha : atLine k n 0 r
      · have : refI k n w s r = s := by unfold refI; rw [if_neg (fun hh => by rw [atLine_iff.2 ⟨hh.1, hh.2.1⟩] at ha; cases ha)]
        rw [List.foldl_cons, this, ih, List.filter_cons_of_neg (by rw [ha]; simp)]
      · rw [List.filter_cons_of_pos ha, List.foldl_cons, List.foldl_cons, ih]
  unfold refW; rw [h rs]
/-! ### the law's way -/
def putAt (k n w : Int) (r : Rd) : Bool := decide (r.kind = 2) && eqP r.ch r.ln r.wd k n w
def lawW (ls : Line) (rs : List Rd) (k n : Int) (ds : List ByteArray) (w : Nat) : List ByteArray :=
  let d := ds ++ (rs.filter (putAt k n w)).map Rd.word
  match ls[w]? with
  | none => d
  | some s => if standL rs k n w s = emp then d else d ++ [standL rs k n w s]
theorem eqP_wd {r : Rd} {k n : Int} {w : Nat} (h : r.wd ≠ (w : Nat)) : eqP r.ch r.ln r.wd k n w = false := by
  unfold eqP; simp; intro _ _ h2; exact h h2
theorem eqP_on {r : Rd} {k n : Int} {w : Nat} (h : r.ch = k ∧ r.ln = n) (hw : r.wd = (w : Nat)) : eqP r.ch r.ln r.wd k n w = true := by
  unfold eqP; simp [h.1, h.2, hw]
theorem stand_cons_no {r : Rd} {l : List Rd} {k n w : Int} {s : ByteArray} (h : takesB k n w r = false) : standL (r :: l) k n w s = standL l k n w s := by unfold standL; rw [List.find?_cons, h]
theorem stand_cons_yes {r : Rd} {l : List Rd} {k n w : Int} {s : ByteArray} (h : takesB k n w r = true) : standL (r :: l) k n w s = r.word := by unfold standL; rw [List.find?_cons, h]
theorem way_law (ls : Line) (hne : ∀ s ∈ ls, s ≠ emp) (k n : Int) : Way ls (fun r => r.ch = k ∧ r.ln = n) (fun l => lawW ls l k n) := by
  refine ⟨fun ds w s hs => ?_, fun ds => ?_, fun r l ds w h => ?_, fun r l ds w ho h hk => ?_, fun r l ds w ho h hk hw hf => ?_⟩
  · unfold lawW
    have h0 : standL [] k n w s = s := rfl
    simp only [hs, List.filter_nil, List.map_nil, List.append_nil, h0]
    rw [if_neg (hne s (List.mem_of_getElem? hs))]
  · unfold lawW
    simp only [List.getElem?_eq_none_iff.2 (Nat.le_refl _), List.filter_nil, List.map_nil, List.append_nil]
  · have h1 : putAt k n w r = false := by unfold putAt; rw [eqP_wd h, Bool.and_false]
    have h2 : takesB k n w r = false := by unfold takesB; rw [eqP_wd h]; rfl
    unfold lawW
    rw [List.filter_cons_of_neg (by rw [h1]; simp)]
    simp only [stand_cons_no h2]
  · have h1 : putAt k n w r = true := by unfold putAt; rw [eqP_on ho h, Bool.and_true]; exact decide_eq_true hk
    have h2 : takesB k n w r = false := by unfold takesB; rw [decide_eq_true hk, Bool.not_true, Bool.and_false]
    unfold lawW
    rw [List.filter_cons_of_pos h1]
    simp only [stand_cons_no h2, List.map_cons, List.append_assoc, List.singleton_append]
  · have h1 : putAt k n w r = false := by unfold putAt; rw [decide_eq_false hk]; rfl
    have h2 : takesB k n w r = true := by unfold takesB; rw [eqP_on ho h, decide_eq_false hk]; rfl
    have h3 : l.filter (putAt k n w) = [] := List.filter_eq_nil_iff.2 fun q hq => by unfold putAt; rw [eqP_wd (hf q hq), Bool.and_false]; simp
    obtain ⟨s, hs⟩ := at_lt ls w hw
    unfold lawW
    rw [List.filter_cons_of_neg (by rw [h1]; simp), h3]
    simp only [hs, stand_cons_yes h2, List.map_nil, List.append_nil]
    split
    · rw [List.append_nil]
    · rfl
theorem lawW_filter (ls : Line) (rs : List Rd) (k n : Int) (ds : List ByteArray) (w : Nat) : lawW ls rs k n ds w = lawW ls (rs.filter (atLine k n 0)) k n ds w := by
  have ha : ∀ r : Rd, eqP r.ch r.ln r.wd k n w = true → atLine k n 0 r = true := fun r h => by
    unfold eqP at h; simp at h; exact atLine_iff.2 ⟨h.1, h.2.1⟩
  have h1 : rs.filter (putAt k n w) = (rs.filter (atLine k n 0)).filter (putAt k n w) := by
    rw [List.filter_filter]
    refine List.filter_congr fun r _ => ?_
    cases hp : putAt k n w r
    · rfl
    · have : eqP r.ch r.ln r.wd k n w = true := by unfold putAt at hp; simp only [Bool.and_eq_true] at hp; exact hp.2
      rw [ha r this]; rfl
  have h2 : ∀ s, standL rs k n w s = standL (rs.filter (atLine k n 0)) k n w s := fun s => by
    induction rs with
    | nil => rfl
    | cons r l ih =>
      cases hl : atLine k n 0 r
      · have ht : takesB k n w r = false := by
          cases ht : takesB k n w r
          · rfl
          · unfold takesB at ht; simp only [Bool.and_eq_true] at ht; rw [ha r ht.1] at hl; cases hl
        rw [stand_cons_no ht, List.filter_cons_of_neg (by rw [hl]; simp)]
        exact ih (by rw [List.filter_filter]; refine List.filter_congr fun r _ => ?_; cases hp : putAt k n w r
                     · rfl
                     · have : eqP r.ch r.ln r.wd k n w = true := by unfold putAt at hp; simp only [Bool.and_eq_true] at hp; exact hp.2
                       rw [ha r this]; rfl)
      · rw [List.filter_cons_of_pos hl]
        unfold standL
        rw [List.find?_cons, List.find?_cons]
        cases ht : takesB k n w r
        · exact ih (by rw [List.filter_filter]; refine List.filter_congr fun r _ => ?_; cases hp : putAt k n w r
                       · rfl
                       · have : eqP r.ch r.ln r.wd k n w = true := by unfold putAt at hp; simp only [Bool.and_eq_true] at hp; exact hp.2
                         rw [ha r this]; rfl)
        · rfl
  unfold lawW; rw [← h1]; simp only [← h2]
end Go.Ev
namespace Go.Ev
open Go.Proofs
set_option maxRecDepth 100000
set_option linter.unusedSimpArgs false
/-! ### readings in order -/
def Ahd (a b : Rd) : Prop := a.ch < b.ch ∨ (a.ch = b.ch ∧ (a.ln < b.ln ∨ (a.ln = b.ln ∧ a.wd ≤ b.wd ∧ (a.kind ≠ 2 → a.wd < b.wd))))
theorem Ahd.trans {a b c : Rd} (h1 : Ahd a b) (h2 : Ahd b c) : Ahd a c := by
  unfold Ahd at *; omega
theorem pairR_ahd {a b : Rd} (h : pairR a b = true) : Ahd a b := by
  unfold pairR beforeB eqP at h
  unfold Ahd
  simp only [Bool.not_eq_true', Bool.or_eq_false_iff, Bool.and_eq_false_iff, Bool.not_eq_false', decide_eq_false_iff_not, decide_eq_true_eq, ne_eq] at h
  obtain ⟨h1, h2⟩ := h
  split at h1
  · simp only [decide_eq_false_iff_not] at h1; omega
  · split at h1
    · simp only [decide_eq_false_iff_not] at h1; omega
    · simp only [decide_eq_false_iff_not] at h1; omega
theorem rdsB_all (t : Txt) : ∀ (l : List Rd) (p : Option Rd), rdsB t p l = true → (∀ r ∈ l, readB t r = true) ∧ l.Pairwise Ahd ∧ (∀ q, p = some q → ∀ r ∈ l, Ahd q r)
  | [], _, _ => ⟨(fun r h => nomatch h), List.Pairwise.nil, (fun _ _ r h => nomatch h)⟩
  | r :: l, p, h => by
    unfold rdsB at h
    simp only [Bool.and_eq_true] at h
    obtain ⟨⟨h1, h2⟩, h3⟩ := h
    obtain ⟨i1, i2, i3⟩ := rdsB_all t l (some r) h3
    have i3 := i3 r rfl
    refine ⟨fun x hx => ?_, List.pairwise_cons.2 ⟨i3, i2⟩, fun q hq x hx => ?_⟩
    · rcases List.mem_cons.1 hx with rfl | hx
      · exact h1
      · exact i1 x hx
    · subst hq
      have hr := pairR_ahd h2
      rcases List.mem_cons.1 hx with rfl | hx
      · exact hr
      · exact hr.trans (i3 x hx)
theorem wordB_ne {s : ByteArray} (h : wordB s = true) : s ≠ emp := by
  rintro rfl
  unfold wordB at h
  simp only [Bool.and_eq_true] at h
  have := h.1
  revert this; decide
/-- a copy whose readings fit, in order -/
structure Cpy (t : Txt) (rs : List Rd) : Prop where
  fit : ∀ r ∈ rs, readB t r = true
  ord : rs.Pairwise Ahd
theorem Cpy.of {t : Txt} {rs : List Rd} (h : rdsB t none rs = true) : Cpy t rs := ⟨(rdsB_all t rs none h).1, (rdsB_all t rs none h).2.1⟩
/-- the readings of one line -/
def ofLn (rs : List Rd) (k n : Int) : List Rd := rs.filter (atLine k n 0)
theorem ofLn_mem {rs : List Rd} {k n : Int} {r : Rd} : r ∈ ofLn rs k n ↔ r ∈ rs ∧ r.ch = k ∧ r.ln = n := by
  unfold ofLn; rw [List.mem_filter, atLine_iff]
theorem Cpy.bhd {t : Txt} {rs : List Rd} (h : Cpy t rs) (k n : Int) : (ofLn rs k n).Pairwise Bhd := by
  have h1 : (ofLn rs k n).Pairwise Ahd := h.ord.sublist List.filter_sublist
  refine h1.imp_of_mem fun ha hb hr => ?_
  have h2 := (ofLn_mem.1 ha).2
  have h3 := (ofLn_mem.1 hb).2
  unfold Ahd at hr
  unfold Bhd
  omega
theorem Cpy.rdw {t : Txt} {rs : List Rd} (h : Cpy t rs) {k n : Int} {ls : Line} (hl : lineAt t k n = some ls) {r : Rd} (hr : r ∈ ofLn rs k n) : RdW ls r ∧ 0 ≤ r.wd := by
  obtain ⟨hm, h1, h2⟩ := ofLn_mem.1 hr
  have hf := h.fit r hm
  unfold readB at hf
  rw [h1, h2, hl] at hf
  simp only at hf
  split at hf
  · rename_i hk
    unfold fits1 at hf
    simp only [Bool.and_eq_true, decide_eq_true_eq] at hf
    exact ⟨⟨Or.inl hk, ⟨fun _ => hf.2, fun _ => hk⟩, by rw [if_neg (by omega)]; omega⟩, hf.1.1⟩
  · split at hf
    · rename_i hk1 hk
      unfold fits2 withinB at hf
      simp only [List.all_cons, List.all_nil, Bool.and_true, Bool.and_eq_true, decide_eq_true_eq] at hf
      exact ⟨⟨Or.inr (Or.inl hk), ⟨fun h => absurd h hk1, fun h => absurd h (wordB_ne hf.2)⟩, by rw [if_pos hk]; omega⟩, hf.1.1⟩
    · split at hf
      · rename_i hk1 hk2 hk
        unfold fits3 at hf
        simp only [Bool.and_eq_true, decide_eq_true_eq] at hf
        exact ⟨⟨Or.inr (Or.inr hk), ⟨fun h => absurd h hk1, fun h => absurd h (wordB_ne hf.1.2)⟩, by rw [if_neg hk2]; omega⟩, hf.1.1.1⟩
      · cases hf
theorem foldl_same {α β : Type} {f g : α → β → α} (h : ∀ a b, f a b = g a b) (l : List β) (a : α) : l.foldl f a = l.foldl g a := foldl_eq l a fun b _ a => h a b
theorem Cpy.line {t : Txt} {rs : List Rd} (h : Cpy t rs) {k n : Int} {ls : Line} (hl : lineAt t k n = some ls) (hne : ∀ s ∈ ls, s ≠ emp) : refLine ls rs k n = readLineL ls (ofLn rs k n) := by
  unfold refLine
  rw [foldl_same (g := refW ls (ofLn rs k n) k n) (fun a b => refW_filter ls rs k n a b)]
  exact way_line (way_ref ls hne k n) (ofLn rs k n) (fun r hr => ⟨(ofLn_mem.1 hr).2, h.rdw hl hr⟩) (h.bhd k n)
theorem Cpy.law {t : Txt} {rs : List Rd} (h : Cpy t rs) {k n : Int} {ls : Line} (hl : lineAt t k n = some ls) (hne : ∀ s ∈ ls, s ≠ emp) : (List.range (ls.length + 1)).foldl (lawW ls rs k n) [] = refLine ls rs k n := by
  rw [h.line hl hne, foldl_same (g := lawW ls (ofLn rs k n) k n) (fun a b => lawW_filter ls rs k n a b)]
  exact way_line (way_law ls hne k n) (ofLn rs k n) (fun r hr => ⟨(ofLn_mem.1 hr).2, h.rdw hl hr⟩) (h.bhd k n)
/-! ### the text of a copy -/
def readT (t : Txt) (rs : List Rd) : Txt := t.mapIdx fun k c => (c.1, c.2.mapIdx fun n l => refLine l rs k n)
theorem readT_get {t : Txt} {rs : List Rd} {k : Nat} {c : Chap} (h : t[k]? = some c) : (readT t rs)[k]? = some (c.1, c.2.mapIdx fun n l => refLine l rs k n) := by
  unfold readT; rw [List.getElem?_mapIdx, h]; rfl
theorem lineAt_nat {t : Txt} {k n : Nat} {c : Chap} {l : Line} (h : t[k]? = some c) (hl : c.2[n]? = some l) : lineAt t k n = some l := by
  unfold lineAt
  rw [if_pos (by omega)]
  simp only [Int.toNat_natCast, h, Option.bind_some, hl]
end Go.Ev
namespace Go.Ev
open Go.Proofs
set_option maxRecDepth 100000
set_option linter.unusedSimpArgs false
/-! ### the fewest readings between two lines -/
def distL : Line → Line → Nat
  | [], ys => ys.length
  | xs, [] => xs.length
  | x :: xs, y :: ys => if x = y then distL xs ys else 1 + min (distL xs ys) (min (distL xs (y :: ys)) (distL (x :: xs) ys))
termination_by xs ys => xs.length + ys.length
theorem distL_nil (ys : Line) : distL [] ys = ys.length := by unfold distL; rfl
theorem distL_nilr (xs : Line) : distL xs [] = xs.length := by cases xs <;> (unfold distL; rfl)
theorem distL_same (x : ByteArray) (xs ys : Line) : distL (x :: xs) (x :: ys) = distL xs ys := by rw [distL]; rw [if_pos rfl]
theorem distL_ne {x y : ByteArray} (h : x ≠ y) (xs ys : Line) : distL (x :: xs) (y :: ys) = 1 + min (distL xs ys) (min (distL xs (y :: ys)) (distL (x :: xs) ys)) := by rw [distL]; rw [if_neg h]
/-- a way from one line to another one, with so many readings -/
inductive Way2 : Nat → Line → Line → Prop
  | nil : Way2 0 [] []
  | keep {n xs ys} (x : ByteArray) : Way2 n xs ys → Way2 n (x :: xs) (x :: ys)
  | other {n xs ys} (x y : ByteArray) : Way2 n xs ys → Way2 (n + 1) (x :: xs) (y :: ys)
  | leave {n xs ys} (x : ByteArray) : Way2 n xs ys → Way2 (n + 1) (x :: xs) ys
  | put {n xs ys} (y : ByteArray) : Way2 n xs ys → Way2 (n + 1) xs (y :: ys)
theorem Way2.puts : ∀ ys : Line, Way2 ys.length [] ys
  | [] => .nil
  | y :: ys => .put y (Way2.puts ys)
theorem Way2.sym {n : Nat} {xs ys : Line} (h : Way2 n xs ys) : Way2 n ys xs := by
  induction h with
  | nil => exact .nil
  | keep x _ ih => exact .keep x ih
  | other x y _ ih => exact .other y x ih
  | leave x _ ih => exact .put x ih
  | put y _ ih => exact .leave y ih
theorem Way2.len {n : Nat} {xs ys : Line} (h : Way2 n xs ys) : ys.length ≤ xs.length + n ∧ xs.length ≤ ys.length + n := by
  induction h with
  | nil => exact ⟨Nat.le_refl _, Nat.le_refl _⟩
  | _ => simp only [List.length_cons]; omega
theorem Way2.zero {xs ys : Line} (h : Way2 0 xs ys) : xs = ys := by
  generalize hn : 0 = n at h
  induction h with
  | nil => rfl
  | keep x _ ih => rw [ih hn]
  | other x y _ ih => omega
  | leave x _ ih => omega
  | put y _ ih => omega
/-- without its first word, a line is not nearer by more than one -/
theorem Way2.tl {n : Nat} {x : ByteArray} {xs ys : Line} (h : Way2 n (x :: xs) ys) : ∃ m, m ≤ n + 1 ∧ Way2 m xs ys := by
  generalize hz : x :: xs = zs at h
  induction h with
  | nil => cases hz
  | keep y h _ => cases hz; exact ⟨_, Nat.le_refl _, .put _ h⟩
  | other x' y h _ => cases hz; exact ⟨_, by omega, .put _ h⟩
  | leave y h _ => cases hz; exact ⟨_, by omega, h⟩
  | put y h ih => obtain ⟨m, h1, h2⟩ := ih hz; exact ⟨m + 1, by omega, .put y h2⟩
theorem Way2.tlr {n : Nat} {y : ByteArray} {xs ys : Line} (h : Way2 n xs (y :: ys)) : ∃ m, m ≤ n + 1 ∧ Way2 m xs ys := by
  obtain ⟨m, h1, h2⟩ := h.sym.tl
  exact ⟨m, h1, h2.sym⟩
/-- words that are the same may be kept -/
theorem Way2.same {n : Nat} {x : ByteArray} {xs ys : Line} (h : Way2 n (x :: xs) (x :: ys)) : ∃ m, m ≤ n ∧ Way2 m xs ys := by
  generalize hz : x :: xs = zs at h
  generalize hu : x :: ys = us at h
  cases h with
  | nil => cases hz
  | keep y h => cases hz; cases hu; exact ⟨_, Nat.le_refl _, h⟩
  | other x' y h => cases hz; cases hu; exact ⟨_, by omega, h⟩
  | leave y h => cases hz; subst hu; obtain ⟨m, h1, h2⟩ := h.tlr; exact ⟨m, h1, h2⟩
  | put y h => cases hu; subst hz; obtain ⟨m, h1, h2⟩ := h.tl; exact ⟨m, h1, h2⟩
theorem dist_le (xs ys : Line) : ∀ n, Way2 n xs ys → distL xs ys ≤ n := by
  induction xs, ys using distL.induct with
  | case1 ys => intro n h; rw [distL_nil]; have := h.len.1; simpa using this
  | case2 xs hx => intro n h; rw [distL_nilr]; have := h.len.2; simpa using this
  | case3 xs y ys ih => intro n h; rw [distL_same]; obtain ⟨m, h1, h2⟩ := h.same; exact Nat.le_trans (ih m h2) h1
  | case4 x xs y ys hne i1 i2 i3 =>
    intro n h
    rw [distL_ne hne]
    generalize hz : x :: xs = zs at h
    generalize hu : y :: ys = us at h
    cases h with
    | nil => cases hz
    | keep w h => cases hz; cases hu; exact absurd rfl hne
    | other x' y' h => cases hz; cases hu; have := i1 _ h; omega
    | leave w h => cases hz; subst hu; have := i2 _ h; omega
    | put w h => cases hu; subst hz; have := i3 _ h; omega
/-- ways one behind the other -/
theorem Way2.trans {n m : Nat} {xs ys zs : Line} (h : Way2 n xs ys) (g : Way2 m ys zs) : ∃ k, k ≤ n + m ∧ Way2 k xs zs := by
  induction h generalizing m zs with
  | nil => exact ⟨m, by omega, g⟩
  | @put n xs ys y h ih =>
    generalize hu : y :: ys = us at g
    induction g with
    | nil => cases hu
    | keep w g _ => cases hu; obtain ⟨k, h1, h2⟩ := ih g; exact ⟨k + 1, by omega, .put _ h2⟩
    | other w y' g _ => cases hu; obtain ⟨k, h1, h2⟩ := ih g; exact ⟨k + 1, by omega, .put _ h2⟩
    | leave w g _ => cases hu; obtain ⟨k, h1, h2⟩ := ih g; exact ⟨k, by omega, h2⟩
    | put w g ig => obtain ⟨k, h1, h2⟩ := ig hu; exact ⟨k + 1, by omega, .put w h2⟩
  | @leave n xs ys x h ih => obtain ⟨k, h1, h2⟩ := ih g; exact ⟨k + 1, by omega, .leave x h2⟩
  | @keep n xs ys x h ih =>
    generalize hu : x :: ys = us at g
    induction g with
    | nil => cases hu
    | keep w g _ => cases hu; obtain ⟨k, h1, h2⟩ := ih g; exact ⟨k, by omega, .keep _ h2⟩
    | other w y' g _ => cases hu; obtain ⟨k, h1, h2⟩ := ih g; exact ⟨k + 1, by omega, .other _ _ h2⟩
    | leave w g _ => cases hu; obtain ⟨k, h1, h2⟩ := ih g; exact ⟨k + 1, by omega, .leave _ h2⟩
    | put w g ig => obtain ⟨k, h1, h2⟩ := ig hu; exact ⟨k + 1, by omega, .put w h2⟩
  | @other n xs ys x y h ih =>
    generalize hu : y :: ys = us at g
    induction g with
    | nil => cases hu
    | keep w g _ => cases hu; obtain ⟨k, h1, h2⟩ := ih g; exact ⟨k + 1, by omega, .other _ _ h2⟩
    | other w y' g _ => cases hu; obtain ⟨k, h1, h2⟩ := ih g; exact ⟨k + 1, by omega, .other _ _ h2⟩
    | leave w g _ => cases hu; obtain ⟨k, h1, h2⟩ := ih g; exact ⟨k + 1, by omega, .leave _ h2⟩
    | put w g ig => obtain ⟨k, h1, h2⟩ := ig hu; exact ⟨k + 1, by omega, .put w h2⟩
end Go.Ev
namespace Go.Ev
open Go.Proofs
set_option maxRecDepth 100000
set_option linter.unusedSimpArgs false
attribute [local irreducible] Wp WpS
/-! ### the text of a copy, as read answers it -/
theorem ofV_rds (l : List Rd) : RdsA l (ofV l) := by
  cases l with
  | nil => exact Or.inl ⟨rfl, rfl⟩
  | cons r f => exact Or.inr ⟨none, rfl⟩
theorem Small.ne {t : Txt} (hs : Small t) {k n : Int} {ls : Line} (h : lineAt t k n = some ls) : ∀ s ∈ ls, s ≠ emp := fun s hm => by
  obtain ⟨c, hc, hl⟩ := lineAt_mem h
  exact wordB_ne (hs.word c hc ls hl s hm)
/-! ### the lines of a copy are lines -/
theorem linesN_get (rs : List Rd) (k : Nat) : ∀ (ls : List Line) (n j : Nat) (l : Line), linesN rs k n ls = true → ls[j]? = some l → withinB 1 10 [((refLine l rs k ((n + j : Nat) : Int)).length : Int)] = true
  | [], _, _, _, _, h => by simp at h
  | x :: r, n, j, l, h1, h2 => by
    unfold linesN at h1
    simp only [Bool.and_eq_true] at h1
    cases j with
    | zero => simp at h2; subst h2; exact h1.1
    | succ j =>
      have := linesN_get rs k r (n + 1) j l h1.2 (by simpa using h2)
      rwa [show n + 1 + j = n + (j + 1) by omega] at this
theorem chapsN_get (rs : List Rd) : ∀ (t : Txt) (k i : Nat) (c : Chap), chapsN rs k t = true → t[i]? = some c → linesN rs (k + i) 0 c.2 = true
  | [], _, _, _, _, h => by simp at h
  | x :: r, k, i, c, h1, h2 => by
    unfold chapsN at h1
    simp only [Bool.and_eq_true] at h1
    cases i with
    | zero => simp at h2; subst h2; exact h1.1
    | succ i =>
      have := chapsN_get rs r (k + 1) i c h1.2 (by simpa using h2)
      rwa [show k + 1 + i = k + (i + 1) by omega] at this
theorem readT_mem {t : Txt} {rs : List Rd} {c : Chap} {l : Line} (hc : c ∈ readT t rs) (hl : l ∈ c.2) : ∃ (k n : Nat) (d : Chap) (ln : Line), t[k]? = some d ∧ d.2[n]? = some ln ∧ l = refLine ln rs k n ∧ c.2.length = d.2.length := by
  obtain ⟨k, hk⟩ := List.getElem?_of_mem hc
  have hil : k < t.length := by
    have := (List.getElem?_eq_some_iff.1 hk).1
    unfold readT at this; rwa [List.length_mapIdx] at this
  obtain ⟨d, hd⟩ := at_lt t k hil
  rw [readT_get hd] at hk
  cases hk
  obtain ⟨n, hn⟩ := List.getElem?_of_mem hl
  simp only at hn
  rw [List.getElem?_mapIdx] at hn
  cases hk : d.2[n]? with
  | none => rw [hk] at hn; cases hn
  | some ln => rw [hk] at hn; cases hn; exact ⟨k, n, d, ln, hd, hk, rfl, by simp⟩
theorem readT_chap {t : Txt} {rs : List Rd} {c : Chap} (hc : c ∈ readT t rs) : ∃ d ∈ t, c.1 = d.1 ∧ c.2.length = d.2.length := by
  obtain ⟨k, hk⟩ := List.getElem?_of_mem hc
  have hil : k < t.length := by
    have := (List.getElem?_eq_some_iff.1 hk).1
    unfold readT at this; rwa [List.length_mapIdx] at this
  obtain ⟨d, hd⟩ := at_lt t k hil
  rw [readT_get hd] at hk
  cases hk
  exact ⟨d, List.mem_of_getElem? hd, rfl, by simp⟩
theorem rdOnes_mem {ls : Line} {s : ByteArray} : ∀ (l : List Rd) (st : Nat × List ByteArray), s ∈ (l.foldl (rdOne ls) st).2 → s ∈ st.2 ∨ s ∈ ls ∨ ∃ r ∈ l, r.kind ≠ 1 ∧ s = r.word
  | [], st, h => Or.inl h
  | r :: l, st, h => by
    rw [List.foldl_cons] at h
    rcases rdOnes_mem l _ h with h | h | ⟨q, hq, h⟩
    · unfold rdOne at h
      simp only at h
      rcases List.mem_append.1 h with h | h
      · rcases List.mem_append.1 h with h | h
        · exact Or.inl h
        · exact Or.inr (Or.inl (List.mem_of_mem_drop (List.mem_of_mem_take h)))
      · split at h
        · exact nomatch h
        · rename_i hk
          exact Or.inr (Or.inr ⟨r, List.mem_cons_self .., hk, List.mem_singleton.1 h⟩)
    · exact Or.inr (Or.inl h)
    · exact Or.inr (Or.inr ⟨q, List.mem_cons_of_mem _ hq, h⟩)
theorem readLineL_mem {ls : Line} {l : List Rd} {s : ByteArray} (h : s ∈ readLineL ls l) : s ∈ ls ∨ ∃ r ∈ l, r.kind ≠ 1 ∧ s = r.word := by
  unfold readLineL at h
  rcases List.mem_append.1 h with h | h
  · rcases rdOnes_mem l _ h with h | h | h
    · exact nomatch h
    · exact Or.inl h
    · exact Or.inr h
  · exact Or.inl (List.mem_of_mem_drop h)
theorem Cpy.wordB {t : Txt} {rs : List Rd} (h : Cpy t rs) {r : Rd} (hr : r ∈ rs) (hk : r.kind ≠ 1) : wordB r.word = true := by
  have hf := h.fit r hr
  unfold readB at hf
  split at hf
  · cases hf
  · rw [if_neg hk] at hf
    split at hf
    · unfold fits2 at hf; simp only [Bool.and_eq_true] at hf; exact hf.2
    · split at hf
      · unfold fits3 at hf; simp only [Bool.and_eq_true] at hf; exact hf.1.2
      · cases hf
/-- what the reference's Copy says of a copy -/
structure Right (t : Txt) (id : Int) (rs : List Rd) : Prop where
  id : withinB 0 9999 [id] = true
  len : ¬ 20 < (rs.length : Int)
  cpy : Cpy t rs
  lines : ∀ (k n : Nat) (c : Chap) (l : Line), t[k]? = some c → c.2[n]? = some l → 1 ≤ (refLine l rs k n).length ∧ (refLine l rs k n).length ≤ 10
theorem Right.of {t : Txt} {id : Int} {rs : List Rd} (h : copyB t id rs = true) : Right t id rs := by
  unfold copyB at h
  simp only [Bool.and_eq_true, Bool.not_eq_true', decide_eq_false_iff_not] at h
  obtain ⟨⟨h1, h2⟩, h3, h4⟩ := h
  refine ⟨h1, h2, Cpy.of h3, fun k n c l hc hl => ?_⟩
  have := linesN_get rs (0 + k) c.2 0 n l (chapsN_get rs t 0 k c h4 hc) hl
  rw [Nat.zero_add, Nat.zero_add] at this
  unfold withinB at this
  simp only [List.all_cons, List.all_nil, Bool.and_true, Bool.and_eq_true, decide_eq_true_eq] at this
  omega
theorem Right.small {t : Txt} {id : Int} {rs : List Rd} (h : Right t id rs) (hs : Small t) : Small (readT t rs) := by
  refine ⟨?_, fun c hc => ?_, fun c hc l hl => ?_, fun c hc l hl s hm => ?_⟩
  · unfold readT; rw [List.length_mapIdx]; exact hs.chs
  · obtain ⟨d, hd, -, h2⟩ := readT_chap hc
    rw [h2]; exact hs.lines d hd
  · obtain ⟨k, n, d, ln, h1, h2, rfl, -⟩ := readT_mem hc hl
    exact h.lines k n d ln h1 h2
  · obtain ⟨k, n, d, ln, h1, h2, rfl, -⟩ := readT_mem hc hl
    have hLA := lineAt_nat h1 h2
    rw [h.cpy.line hLA (hs.ne hLA)] at hm
    rcases readLineL_mem hm with hm | ⟨r, hr, hk, rfl⟩
    · exact hs.word d (List.mem_of_getElem? h1) ln (List.mem_of_getElem? h2) s hm
    · exact h.cpy.wordB ((ofLn_mem.1 hr).1) hk
end Go.Ev
namespace Go.Ev
open Go.Proofs
set_option maxRecDepth 100000
set_option linter.unusedSimpArgs false
attribute [local irreducible] Wp WpS
/-! ### a copy that is right, by both -/
theorem lensOf_len : ∀ (ys : List AV), (∀ y ∈ ys, (linesOf y).length ≤ 10) → (lensOf ys).length ≤ 10 * ys.length
  | [], _ => Nat.le_refl _
  | y :: r, h => by
    have ih := lensOf_len r fun z hz => h z (List.mem_cons_of_mem _ hz)
    have h1 := h y (List.mem_cons_self ..)
    unfold lensOf at ih ⊢
    rw [List.flatMap_cons, List.length_append, List.length_map, List.length_cons]; omega
theorem linesOf_len {t : Txt} {ys : List AV} (h : All2 ChapA t ys) (hs : Small t) : ∀ y ∈ ys, (linesOf y).length ≤ 10 := fun y hy => by
  obtain ⟨i, hi⟩ := List.getElem?_of_mem hy
  obtain ⟨c, hc⟩ := at_lt t i (by rw [h.1]; exact (List.getElem?_eq_some_iff.1 hi).1)
  obtain ⟨l, rfl, lxs, hl, hls⟩ := h.2 i c y hc hi
  have hlo : linesOf (.agg [intA c.1, l]) = lxs := hl.elems
  rw [hlo, ← hls.1]; exact (hs.lines c (List.mem_of_getElem? hc)).2
/-! ### memory with a list of words that grows over what stays -/
structure MB (B : Nat) (base : Fm) (H : Heap) (ds : List ByteArray) (out : AV) : Prop where
  lock : H.lock = 0
  size : B ≤ H.size
  base : Has base H
  done : DoneR H ds out
/-- what stays is no list that grows, and lies in front -/
def Stay (B : Nat) (base : Fm) : Prop := ∀ p ∈ base, p.1 < B ∧ ∀ v m e sz cs, p.2 ≠ .cells v m e sz true cs
theorem MB.row {B : Nat} {base : Fm} {H : Heap} {ds : List ByteArray} {out : AV} (h : MB B base H ds out) {b v m e sz : Nat} {g : Bool} {cs : List AV} (hb : (b, AObj.cells v m e sz g cs) ∈ base) (E : List (Option AObj)) : (H.plus E).row b v = some (m, e, sz, g, cs) := by
  have hg := h.base _ hb
  rw [rowLo (get_ltS hg)]; exact get_row hg
theorem MB.plus {B : Nat} {base : Fm} {H : Heap} {ds : List ByteArray} {out : AV} (h : MB B base H ds out) (E : List (Option AObj)) : MB B base (H.plus E) ds out :=
  ⟨h.lock, by have := h.size; rw [plus_size]; omega, h.base.plus E, h.done.plus E⟩
theorem MB.trim {B : Nat} {base : Fm} {H : Heap} {ds : List ByteArray} {out : AV} (h : MB B base H ds out) (hS : Stay B base) {n : Nat} (hn : B ≤ n) (vs : List AV) (ms : List Nat) (hv : bound out ≤ boundL vs) : MB B base (H.trim n vs ms) ds out := by
  by_cases hn2 : n ≤ H.size
  · refine ⟨trim_lock.trans h.lock, Nat.le_trans hn (trim_size' hn2), fun p hp => (trim_lo (by have := (hS p hp).1; omega)).trans (h.base p hp), ?_⟩
    rcases h.done with hd | ⟨b, v, h1, h2, rfl, h4⟩
    · exact Or.inl hd
    · unfold Heap.trim
      split
      · rename_i hq
        rw [Bool.and_eq_true, Bool.and_eq_true, Bool.and_eq_true, Nat.ble_eq] at hq
        have h5 := hq.1.1.1
        have hb : b < n := by simp only [bound] at hv; omega
        have hg := (takeH_get (H := H) hb).trans (row_of_get h4)
        exact Or.inr ⟨b, v, h1, get_size hg, rfl, get_row hg⟩
      · exact Or.inr ⟨b, v, h1, h2, rfl, h4⟩
  · rw [trim_whole (by omega)]; exact h
theorem MB.more {B : Nat} {base : Fm} {H : Heap} {ds : List ByteArray} {b v : Nat} (h : MB B base H ds (.sl b v 0 ds.length none)) (hS : Stay B base) (hb : b < H.size) (hr : H.row b v = some (0, 9, 1, true, strs ds)) (s : List ByteArray) (n : Nat) (hn : n = ds.length + s.length) : MB B base (H.put b (.cells (v + 1) 0 9 1 true (strs (ds ++ s)))) (ds ++ s) (.sl b (v + 1) 0 n none) := by
  refine ⟨h.lock, by rw [put_sizeI _ hb]; exact h.size, fun p hp => ?_, Or.inr ⟨b, v + 1, ?_, by rw [put_sizeI _ hb]; exact hb, by rw [hn, List.length_append], row_put_same hb⟩⟩
  · have hne : p.1 ≠ b := by
      rintro rfl
      have h1 := (row_of_get hr).symm.trans (h.base p hp)
      exact (hS p hp).2 v 0 9 1 (strs ds) (Option.some.inj h1).symm
    exact (put_get_ne _ (by omega) hne).trans (h.base p hp)
  · have := h.lock
    show H.lock ≤ b
    omega
theorem MB.new {B : Nat} {base : Fm} {H : Heap} {ds : List ByteArray} {out : AV} (h : MB B base H ds out) {N : Nat} (hN : H.size = N) (E : List (Option AObj)) (k : Nat) (ds' : List ByteArray) (hE : E[k]? = some (some (.cells 0 0 9 1 true (strs ds')))) : MB B base (H.plus E) ds' (.sl (N + k) 0 0 ds'.length none) := by
  have hk := (List.getElem?_eq_some_iff.1 hE).1
  refine ⟨h.lock, by have := h.size; rw [plus_size]; omega, h.base.plus E, Or.inr ⟨N + k, 0, ?_, by rw [plus_size]; omega, rfl, ?_⟩⟩
  · have := h.lock
    show H.lock ≤ _
    omega
  · rw [rowP hN, hE]; rfl
end Go.Ev
namespace Go.Ev
open Go.Proofs
set_option maxRecDepth 100000
set_option linter.unusedSimpArgs false
/-! ### the readings that are found -/
def foundL (k n : Int) : Nat → Line → Line → List Rd
  | i, x :: xs, y :: ys =>
    if x = y then foundL k n (i + 1) xs ys
    else if distL xs ys ≤ min (distL xs (y :: ys)) (distL (x :: xs) ys) then ⟨k, n, i, 3, y⟩ :: foundL k n (i + 1) xs ys
    else if distL xs (y :: ys) ≤ distL (x :: xs) ys then ⟨k, n, i, 1, emp⟩ :: foundL k n (i + 1) xs (y :: ys)
    else ⟨k, n, i, 2, y⟩ :: foundL k n i (x :: xs) ys
  | i, _ :: xs, [] => ⟨k, n, i, 1, emp⟩ :: foundL k n (i + 1) xs []
  | i, [], y :: ys => ⟨k, n, i, 2, y⟩ :: foundL k n i [] ys
  | _, [], [] => []
termination_by _ xs ys => xs.length + ys.length
theorem found_same (k n : Int) (i : Nat) (x : ByteArray) (xs ys : Line) : foundL k n i (x :: xs) (x :: ys) = foundL k n (i + 1) xs ys := by rw [foundL]; rw [if_pos rfl]
theorem found_other {k n : Int} {i : Nat} {x y : ByteArray} {xs ys : Line} (h : x ≠ y) (h1 : distL xs ys ≤ min (distL xs (y :: ys)) (distL (x :: xs) ys)) : foundL k n i (x :: xs) (y :: ys) = ⟨k, n, i, 3, y⟩ :: foundL k n (i + 1) xs ys := by rw [foundL]; rw [if_neg h, if_pos h1]
theorem found_leave {k n : Int} {i : Nat} {x y : ByteArray} {xs ys : Line} (h : x ≠ y) (h1 : ¬ distL xs ys ≤ min (distL xs (y :: ys)) (distL (x :: xs) ys)) (h2 : distL xs (y :: ys) ≤ distL (x :: xs) ys) : foundL k n i (x :: xs) (y :: ys) = ⟨k, n, i, 1, emp⟩ :: foundL k n (i + 1) xs (y :: ys) := by rw [foundL]; rw [if_neg h, if_neg h1, if_pos h2]
theorem found_put {k n : Int} {i : Nat} {x y : ByteArray} {xs ys : Line} (h : x ≠ y) (h1 : ¬ distL xs ys ≤ min (distL xs (y :: ys)) (distL (x :: xs) ys)) (h2 : ¬ distL xs (y :: ys) ≤ distL (x :: xs) ys) : foundL k n i (x :: xs) (y :: ys) = ⟨k, n, i, 2, y⟩ :: foundL k n i (x :: xs) ys := by rw [foundL]; rw [if_neg h, if_neg h1, if_neg h2]
theorem found_left (k n : Int) (i : Nat) (x : ByteArray) (xs : Line) : foundL k n i (x :: xs) [] = ⟨k, n, i, 1, emp⟩ :: foundL k n (i + 1) xs [] := by rw [foundL]
theorem found_right (k n : Int) (i : Nat) (y : ByteArray) (ys : Line) : foundL k n i [] (y :: ys) = ⟨k, n, i, 2, y⟩ :: foundL k n i [] ys := by rw [foundL]
theorem found_nil (k n : Int) (i : Nat) : foundL k n i [] [] = [] := by rw [foundL]
/-- by the ways that are taken -/
theorem found_ind {k n : Int} {P : Nat → Line → Line → List Rd → Prop} (h0 : ∀ i, P i [] [] [])
    (hs : ∀ i x xs ys, P (i + 1) xs ys (foundL k n (i + 1) xs ys) → P i (x :: xs) (x :: ys) (foundL k n (i + 1) xs ys))
    (h3 : ∀ i x xs y ys, x ≠ y → distL xs ys ≤ min (distL xs (y :: ys)) (distL (x :: xs) ys) → P (i + 1) xs ys (foundL k n (i + 1) xs ys) → P i (x :: xs) (y :: ys) (⟨k, n, i, 3, y⟩ :: foundL k n (i + 1) xs ys))
    (h1 : ∀ i x xs ys, (∀ y r, ys = y :: r → x ≠ y ∧ ¬ distL xs r ≤ min (distL xs (y :: r)) (distL (x :: xs) r) ∧ distL xs (y :: r) ≤ distL (x :: xs) r) → P (i + 1) xs ys (foundL k n (i + 1) xs ys) → P i (x :: xs) ys (⟨k, n, i, 1, emp⟩ :: foundL k n (i + 1) xs ys))
    (h2 : ∀ i xs y ys, (∀ x r, xs = x :: r → x ≠ y ∧ ¬ distL r ys ≤ min (distL r (y :: ys)) (distL (x :: r) ys) ∧ ¬ distL r (y :: ys) ≤ distL (x :: r) ys) → P i xs ys (foundL k n i xs ys) → P i xs (y :: ys) (⟨k, n, i, 2, y⟩ :: foundL k n i xs ys)) :
    ∀ (m i : Nat) (xs ys : Line), xs.length + ys.length ≤ m → P i xs ys (foundL k n i xs ys) := by
  intro m
  induction m with
  | zero =>
    intro i xs ys h
    obtain rfl : xs = [] := List.length_eq_zero_iff.1 (by omega)
    obtain rfl : ys = [] := List.length_eq_zero_iff.1 (by simpa using h)
    rw [found_nil]; exact h0 i
  | succ m ih =>
    intro i xs ys h
    match xs, ys, h with
    | [], [], _ => rw [found_nil]; exact h0 i
    | x :: xs, [], h =>
      rw [found_left]
      exact h1 i x xs [] (fun y r hh => by cases hh) (ih _ _ _ (by simp only [List.length_cons, List.length_nil] at h ⊢; omega))
    | [], y :: ys, h =>
      rw [found_right]
      exact h2 i [] y ys (fun x r hh => by cases hh) (ih _ _ _ (by simp only [List.length_cons, List.length_nil] at h ⊢; omega))
    | x :: xs, y :: ys, h =>
      simp only [List.length_cons] at h
      by_cases e : x = y
      · subst e; rw [found_same]; exact hs i x xs ys (ih _ _ _ (by omega))
      · by_cases e1 : distL xs ys ≤ min (distL xs (y :: ys)) (distL (x :: xs) ys)
        · rw [found_other e e1]; exact h3 i x xs y ys e e1 (ih _ _ _ (by omega))
        · by_cases e2 : distL xs (y :: ys) ≤ distL (x :: xs) ys
          · rw [found_leave e e1 e2]
            exact h1 i x xs (y :: ys) (fun y' r hh => by cases hh; exact ⟨e, e1, e2⟩) (ih _ _ _ (by simp only [List.length_cons]; omega))
          · rw [found_put e e1 e2]
            exact h2 i (x :: xs) y ys (fun x' r hh => by cases hh; exact ⟨e, e1, e2⟩) (ih _ _ _ (by simp only [List.length_cons]; omega))
theorem found_len (k n : Int) (i : Nat) (xs ys : Line) : (foundL k n i xs ys).length = distL xs ys := by
  refine found_ind (P := fun _ xs ys l => l.length = distL xs ys) (fun i => by rw [distL_nil]; rfl) (fun i x xs ys h => by rw [h, distL_same]) (fun i x xs y ys e e1 h => ?_) (fun i x xs ys hq h => ?_) (fun i xs y ys hq h => ?_) _ i xs ys (Nat.le_refl _)
  · rw [List.length_cons, h, distL_ne e, Nat.min_eq_left e1, Nat.add_comm]
  · rw [List.length_cons, h]
    cases ys with
    | nil => rw [distL_nilr, distL_nilr]; rfl
    | cons y r => obtain ⟨e, e1, e2⟩ := hq y r rfl; rw [distL_ne e, Nat.min_eq_right (by omega), Nat.min_eq_left e2, Nat.add_comm]
  · rw [List.length_cons, h]
    cases xs with
    | nil => rw [distL_nil, distL_nil]; rfl
    | cons x r => obtain ⟨e, e1, e2⟩ := hq x r rfl; rw [distL_ne e, Nat.min_eq_right (by omega), Nat.min_eq_right (by omega), Nat.add_comm]
/-- what each reading that is found is like -/
structure FndOk (k n : Int) (i : Nat) (xs ys : Line) (r : Rd) : Prop where
  ch : r.ch = k
  ln : r.ln = n
  lo : (i : Int) ≤ r.wd
  hi : r.wd + (if r.kind = 2 then 0 else 1) ≤ ((i + xs.length : Nat) : Int)
  kind : r.kind = 1 ∨ r.kind = 2 ∨ r.kind = 3
  none : r.kind = 1 → r.word = emp
  word : r.kind ≠ 1 → r.word ∈ ys
  other : r.kind = 3 → ∀ s, xs[r.wd.toNat - i]? = some s → r.word ≠ s
theorem FndOk.step {k n : Int} {i : Nat} {x : ByteArray} {xs ys : Line} {r : Rd} (h : FndOk k n (i + 1) xs ys r) (zs : Line) (hz : ∀ s ∈ ys, s ∈ zs) : FndOk k n i (x :: xs) zs r := by
  refine ⟨h.ch, h.ln, by have := h.lo; omega, by have := h.hi; simp only [List.length_cons]; omega, h.kind, h.none, fun hk => hz _ (h.word hk), fun hk s hs => ?_⟩
  have hlo := h.lo
  have : r.wd.toNat - i = (r.wd.toNat - (i + 1)) + 1 := by omega
  rw [this, List.getElem?_cons_succ] at hs
  exact h.other hk s hs
theorem found_ok (k n : Int) (i : Nat) (xs ys : Line) : ∀ r ∈ foundL k n i xs ys, FndOk k n i xs ys r := by
  refine found_ind (k := k) (n := n) (P := fun i xs ys l => ∀ r ∈ l, FndOk k n i xs ys r) (fun i r h => nomatch h) (fun i x xs ys ih r hr => (ih r hr).step _ fun s hs => List.mem_cons_of_mem _ hs) (fun i x xs y ys e _ ih r hr => ?_) (fun i x xs ys _ ih r hr => ?_) (fun i xs y ys _ ih r hr => ?_) _ i xs ys (Nat.le_refl _)
  · rcases List.mem_cons.1 hr with rfl | hr
    · refine ⟨rfl, rfl, Int.le_refl _, by simp only [List.length_cons]; rw [if_neg (by decide)]; omega, Or.inr (Or.inr rfl), (fun h => absurd (show (3 : Int) = 1 from h) (by decide)), fun _ => List.mem_cons_self .., fun _ s hs => ?_⟩
      simp at hs; subst hs; exact fun h => e h.symm
    · exact (ih r hr).step _ fun s hs => List.mem_cons_of_mem _ hs
  · rcases List.mem_cons.1 hr with rfl | hr
    · exact ⟨rfl, rfl, Int.le_refl _, by simp only [List.length_cons]; rw [if_neg (by decide)]; omega, Or.inl rfl, fun _ => rfl, fun h => absurd rfl h, (fun h => absurd (show (1 : Int) = 3 from h) (by decide))⟩
    · exact (ih r hr).step _ fun s hs => hs
  · rcases List.mem_cons.1 hr with rfl | hr
    · exact ⟨rfl, rfl, Int.le_refl _, by rw [if_pos rfl]; simp only; omega, Or.inr (Or.inl rfl), (fun h => absurd (show (2 : Int) = 1 from h) (by decide)), fun _ => List.mem_cons_self .., (fun h => absurd (show (2 : Int) = 3 from h) (by decide))⟩
    · have h := ih r hr
      exact ⟨h.ch, h.ln, h.lo, h.hi, h.kind, h.none, fun hk => List.mem_cons_of_mem _ (h.word hk), h.other⟩
theorem found_bhd (k n : Int) (i : Nat) (xs ys : Line) : (foundL k n i xs ys).Pairwise Bhd := by
  refine found_ind (k := k) (n := n) (P := fun i xs ys l => l.Pairwise Bhd) (fun i => List.Pairwise.nil) (fun i x xs ys ih => ih) (fun i x xs y ys e _ ih => ?_) (fun i x xs ys _ ih => ?_) (fun i xs y ys _ ih => ?_) _ i xs ys (Nat.le_refl _)
  · refine List.pairwise_cons.2 ⟨fun r hr => ?_, ih⟩
    have := (found_ok k n (i + 1) xs ys r hr).lo
    exact ⟨by show (i : Int) ≤ _; omega, fun _ => by show (i : Int) < _; omega⟩
  · refine List.pairwise_cons.2 ⟨fun r hr => ?_, ih⟩
    have := (found_ok k n (i + 1) xs ys r hr).lo
    exact ⟨by show (i : Int) ≤ _; omega, fun _ => by show (i : Int) < _; omega⟩
  · refine List.pairwise_cons.2 ⟨fun r hr => ?_, ih⟩
    have := (found_ok k n i xs ys r hr).lo
    exact ⟨this, fun h => absurd rfl h⟩
/-! ### of texts -/
def foundC (k : Nat) : Nat → List Line → List Line → List Rd
  | n, a :: bs, c :: cs => foundL k n 0 a c ++ foundC k (n + 1) bs cs
  | _, _, _ => []
def foundT : Nat → Txt → Txt → List Rd
  | k, a :: bs, c :: cs => foundC k 0 a.2 c.2 ++ foundT (k + 1) bs cs
  | _, _, _ => []
theorem foundC_mem (k : Nat) (r : Rd) : ∀ (bs cs : List Line) (n : Nat), r ∈ foundC k n bs cs → ∃ (j : Nat) (a c : Line), bs[j]? = some a ∧ cs[j]? = some c ∧ r ∈ foundL k ((n + j : Nat) : Int) 0 a c
  | [], _, _, h => by simp [foundC] at h
  | _ :: _, [], _, h => by simp [foundC] at h
  | a :: bs, c :: cs, n, h => by
    rw [foundC] at h
    rcases List.mem_append.1 h with h | h
    · exact ⟨0, a, c, rfl, rfl, h⟩
    · obtain ⟨j, a', c', h1, h2, h3⟩ := foundC_mem k r bs cs (n + 1) h
      exact ⟨j + 1, a', c', by simpa using h1, by simpa using h2, by rwa [show n + (j + 1) = n + 1 + j by omega]⟩
theorem foundT_mem (r : Rd) : ∀ (t u : Txt) (k : Nat), r ∈ foundT k t u → ∃ (i j : Nat) (p q : Chap) (a c : Line), t[i]? = some p ∧ u[i]? = some q ∧ p.2[j]? = some a ∧ q.2[j]? = some c ∧ r ∈ foundL ((k + i : Nat) : Int) (j : Int) 0 a c
  | [], _, _, h => by simp [foundT] at h
  | _ :: _, [], _, h => by simp [foundT] at h
  | p :: t, q :: u, k, h => by
    rw [foundT] at h
    rcases List.mem_append.1 h with h | h
    · obtain ⟨j, a, c, h1, h2, h3⟩ := foundC_mem k r p.2 q.2 0 h
      exact ⟨0, j, p, q, a, c, rfl, rfl, h1, h2, by rwa [Nat.zero_add] at h3⟩
    · obtain ⟨i, j, p', q', a, c, h1, h2, h3, h4, h5⟩ := foundT_mem r t u (k + 1) h
      exact ⟨i + 1, j, p', q', a, c, by simpa using h1, by simpa using h2, h3, h4, by rwa [show k + (i + 1) = k + 1 + i by omega]⟩
theorem foundC_ord (k : Nat) : ∀ (bs cs : List Line) (n : Nat), (foundC k n bs cs).Pairwise Ahd
  | [], _, _ => by rw [foundC]; exact List.Pairwise.nil; intros; simp at *
  | _ :: _, [], _ => by rw [foundC]; exact List.Pairwise.nil; intros; simp at *
  | a :: bs, c :: cs, n => by
    rw [foundC]
    refine List.pairwise_append.2 ⟨?_, foundC_ord k bs cs (n + 1), fun r hr q hq => ?_⟩
    · refine (found_bhd k n 0 a c).imp_of_mem fun {r q} hr hq h => ?_
      have h1 := found_ok k n 0 a c r hr
      have h2 := found_ok k n 0 a c q hq
      exact Or.inr ⟨h1.ch.trans h2.ch.symm, Or.inr ⟨h1.ln.trans h2.ln.symm, h.1, h.2⟩⟩
    · have h1 := found_ok k n 0 a c r hr
      obtain ⟨j, a', c', -, -, h3⟩ := foundC_mem k q bs cs (n + 1) hq
      have h2 := found_ok k _ 0 a' c' q h3
      exact Or.inr ⟨h1.ch.trans h2.ch.symm, Or.inl (by rw [h1.ln, h2.ln]; omega)⟩
theorem foundT_ord : ∀ (t u : Txt) (k : Nat), (foundT k t u).Pairwise Ahd
  | [], _, _ => by rw [foundT]; exact List.Pairwise.nil; intros; simp at *
  | _ :: _, [], _ => by rw [foundT]; exact List.Pairwise.nil; intros; simp at *
  | p :: t, q :: u, k => by
    rw [foundT]
    refine List.pairwise_append.2 ⟨foundC_ord k p.2 q.2 0, foundT_ord t u (k + 1), fun r hr s hs => ?_⟩
    obtain ⟨j, a, c, -, -, h3⟩ := foundC_mem k r p.2 q.2 0 hr
    obtain ⟨i, j', p', q', a', c', -, -, -, -, h5⟩ := foundT_mem s t u (k + 1) hs
    exact Or.inl (by rw [(found_ok k _ 0 a c r h3).ch, (found_ok _ _ 0 a' c' s h5).ch]; omega)
/-- how far texts are apart -/
def apartC : List Line → List Line → Nat
  | a :: bs, c :: cs => distL a c + apartC bs cs
  | _, _ => 0
def apartT : Txt → Txt → Nat
  | p :: t, q :: u => apartC p.2 q.2 + apartT t u
  | _, _ => 0
theorem foundC_len (k : Nat) : ∀ (bs cs : List Line) (n : Nat), (foundC k n bs cs).length = apartC bs cs
  | [], _, _ => by rw [foundC, apartC]; rfl; all_goals (intros; simp at *)
  | _ :: _, [], _ => by rw [foundC, apartC]; rfl; all_goals (intros; simp at *)
  | a :: bs, c :: cs, n => by rw [foundC, apartC, List.length_append, found_len, foundC_len k bs cs (n + 1)]
theorem foundT_len : ∀ (t u : Txt) (k : Nat), (foundT k t u).length = apartT t u
  | [], _, _ => by rw [foundT, apartT]; rfl; all_goals (intros; simp at *)
  | _ :: _, [], _ => by rw [foundT, apartT]; rfl; all_goals (intros; simp at *)
  | p :: t, q :: u, k => by rw [foundT, apartT, List.length_append, foundC_len, foundT_len t u (k + 1)]
end Go.Ev
namespace Go.Ev
open Go.Proofs
set_option maxRecDepth 1000000
def extWord : List AV → Option AV
  | [.v (.string s)] => if s.size < 1000 then some (.v (.bool (wordB s))) else none
  | _ => none
def eN : Exts := { x := fun _ => none }
def e0 : Exts := eN.more 100 cmpStr
def e1 : Exts := e0.more 49 extWord
theorem quiet0 : Quiet e0 := by
  intro f h1 h2
  unfold e0 Exts.more
  show (if Nat.beq f 100 then some cmpStr else none) = none
  rw [if_neg]
  intro h; exact h2 (Nat.eq_of_beq_eq_true h)
theorem mixed (e : Exts) : (Cx e).P.follows .mixedOrders = true := by show Try.prog.follows .mixedOrders = true; kernel_rfl
theorem nogo_all : (Try.prog.funcs.toList.all fun fn => !(fn.body.isSome && (fn.name == "runtime.NumGoroutine"))) = true := by kernel_rfl
theorem nogo (e : Exts) : NoGo (Cx e).P := by
  intro f fn hf hb
  have h := List.all_eq_true.1 nogo_all fn (by
    have : Try.prog.funcs[f]? = some fn := hf
    exact List.mem_of_getElem? (by simpa using this))
  rw [hb] at h
  simpa using h
theorem extOK_none : ExtOK (Cx eN) := by
  refine ⟨fun _ _ h => (nomatch h), fun f g h => ?_⟩
  have h' : (if Nat.beq f 105 then none else if Nat.beq f 75 then none else none) = some g := h
  split at h'
  · cases h'
  · split at h' <;> cases h'
theorem extOK0 : ExtOK (Cx e0) := by
  refine extOK_more (C := Cx eN) (f := 100) (g := cmpStr) rfl ?_ extOK_none rfl
  intro args v h Z ρ H w vals hs hl
  exact ext_cmp (fn := Try.f100) Try.func100 (by kernel_rfl) (by kernel_rfl) (by kernel_rfl) (by kernel_rfl) h Z ρ H w vals hs hl
end Go.Ev
/- A function that sorts a row of memory, and stands for itself. -/
namespace Go.Ev
open Go.Sort
/-! ### lists in order -/
section
variable {α : Type}
def insL (lt : α → α → Bool) (x : α) : List α → List α
  | [] => [x]
  | y :: r => if lt y x then y :: insL lt x r else x :: y :: r
def sortL (lt : α → α → Bool) : List α → List α
  | [] => []
  | x :: r => insL lt x (sortL lt r)
def Asc (lt : α → α → Bool) (l : List α) : Prop := l.Pairwise fun a b => lt b a = false
theorem insL_perm (lt : α → α → Bool) (x : α) : ∀ l, (insL lt x l).Perm (x :: l)
  | [] => .refl _
  | y :: r => by
    unfold insL; split
    · exact ((insL_perm lt x r).cons y).trans (.swap _ _ _)
    · exact .refl _
theorem sortL_perm (lt : α → α → Bool) : ∀ l, (sortL lt l).Perm l
  | [] => .refl _
  | x :: r => (insL_perm lt x _).trans ((sortL_perm lt r).cons x)
theorem insL_asc {lt : α → α → Bool} (hO : SWO lt) (x : α) : ∀ {l : List α}, Asc lt l → Asc lt (insL lt x l)
  | [], _ => by unfold insL Asc; simp
  | y :: r, h => by
    obtain ⟨h1, h2⟩ := List.pairwise_cons.1 h
    unfold insL; split
    · rename_i hyx
      refine List.pairwise_cons.2 ⟨fun z hz => ?_, insL_asc hO x h2⟩
      rcases List.mem_cons.1 ((insL_perm lt x r).mem_iff.1 hz) with rfl | hz
      · cases hxy : lt z y
        · rfl
        · have := hO.trans _ _ _ hxy hyx; rw [hO.irrefl] at this; cases this
      · exact h1 z hz
    · rename_i hyx
      have hyx : lt y x = false := by cases h : lt y x <;> simp_all
      refine List.pairwise_cons.2 ⟨fun z hz => ?_, h⟩
      rcases List.mem_cons.1 hz with rfl | hz
      · exact hyx
      · exact hO.ntrans _ _ _ (h1 z hz) hyx
theorem sortL_asc {lt : α → α → Bool} (hO : SWO lt) : ∀ l : List α, Asc lt (sortL lt l)
  | [] => List.Pairwise.nil
  | x :: r => insL_asc hO x (sortL_asc hO r)
theorem asc_uniq {lt : α → α → Bool} (hO : SWO lt) : ∀ {l m : List α}, l.Perm m → Asc lt l → Asc lt m → (∀ a ∈ l, ∀ b ∈ l, lt a b = false → lt b a = false → a = b) → l = m
  | [], m, h, _, _, _ => by rw [List.Perm.nil_eq h]
  | x :: l, [], h, _, _, _ => by have := h.length_eq; simp at this
  | x :: l, y :: m, h, hl, hm, ha => by
    obtain ⟨l1, l2⟩ := List.pairwise_cons.1 hl
    obtain ⟨m1, m2⟩ := List.pairwise_cons.1 hm
    have hx : lt x y = false := by
      rcases List.mem_cons.1 (h.mem_iff.1 (List.mem_cons_self (a := x))) with rfl | hz
      · exact hO.irrefl _
      · exact m1 x hz
    have hym := h.mem_iff.2 (List.mem_cons_self (a := y))
    have hy : lt y x = false := by
      rcases List.mem_cons.1 hym with rfl | hz
      · exact hO.irrefl _
      · exact l1 y hz
    obtain rfl := ha x List.mem_cons_self y hym hx hy
    rw [asc_uniq hO h.cons_inv l2 m2 fun a h1 b h2 => ha a (List.mem_cons_of_mem _ h1) b (List.mem_cons_of_mem _ h2)]
end
/-! ### cells of a row, as things -/
section
variable {α : Type} [Inhabited α]
def takeE (k : Nat) (dec : List AV → Option α) : Nat → List AV → Option (List α)
  | 0, _ => some []
  | n + 1, cs => match dec (cs.take k), takeE k dec n (cs.drop k) with | some a, some l => some (a :: l) | _, _ => none
def flatE (enc : α → List Value) (l : List α) : List Value := l.flatMap enc
/-- how things lie in cells -/
structure Coded (k : Nat) (enc : α → List Value) (dec : List AV → Option α) : Prop where
  pos : 0 < k
  len : ∀ x, (enc x).length = k
  de : ∀ cs a, dec cs = some a → cs = (enc a).map AV.v
  en : ∀ a, dec ((enc a).map AV.v) = some a
  atom : ∀ a, ∀ v ∈ enc a, atom v = true
theorem takeE_some {β : Type} {k : Nat} {enc : β → List Value} {dec : List AV → Option β} (hc : Coded k enc dec) : ∀ {n : Nat} {cs : List AV} {l : List β}, takeE k dec n cs = some l → l.length = n ∧ cs.take (n * k) = (flatE enc l).map AV.v ∧ n * k ≤ cs.length
  | 0, cs, l, h => by simp [takeE] at h; subst h; simp [flatE]
  | n + 1, cs, l, h => by
    unfold takeE at h
    split at h
    · rename_i a r h1 h2
      simp only [Option.some.injEq] at h
      subst h
      obtain ⟨e1, e2, e3⟩ := takeE_some hc h2
      have e4 := hc.de _ _ h1
      have e5 : k ≤ cs.length := by
        have := congrArg List.length e4
        rw [List.length_take, List.length_map, hc.len] at this; omega
      refine ⟨by simp [e1], ?_, ?_⟩
      · rw [Nat.add_mul, Nat.one_mul, Nat.add_comm, List.take_add, e4, e2]
        simp [flatE]
      · rw [List.length_drop] at e3
        rw [Nat.add_mul, Nat.one_mul]; omega
    · cases h
theorem flatE_len {β : Type} {enc : β → List Value} {k : Nat} (hk : ∀ x, (enc x).length = k) : ∀ l : List β, (flatE enc l).length = l.length * k
  | [] => by simp [flatE]
  | a :: r => by
    have := flatE_len hk r
    simp only [flatE, List.flatMap_cons, List.length_append, hk] at this ⊢
    rw [this, List.length_cons, Nat.add_mul, Nat.one_mul, Nat.add_comm]
theorem flatE_get {enc : α → List Value} {k : Nat} (hk : ∀ x, (enc x).length = k) (h0 : 0 < k) : ∀ (l : List α) (t : Nat), t < l.length * k → (flatE enc l)[t]! = (enc l[t / k]!)[t % k]!
  | [], t, h => by simp at h
  | a :: r, t, h => by
    by_cases ht : t < k
    · rw [Nat.div_eq_of_lt ht, Nat.mod_eq_of_lt ht]
      simp only [flatE, List.flatMap_cons, List.getElem!_cons_zero]
      rw [List.getElem!_eq_getElem?_getD, List.getElem!_eq_getElem?_getD, List.getElem?_append_left (by rw [hk]; exact ht)]
    · obtain ⟨u, rfl⟩ : ∃ u, t = k + u := ⟨t - k, by omega⟩
      have hu : u < r.length * k := by rw [List.length_cons, Nat.add_mul, Nat.one_mul] at h; omega
      have := flatE_get hk h0 r u hu
      rw [Nat.add_div_left _ h0, Nat.add_mod_left, List.getElem!_cons_succ, ← this]
      simp only [flatE, List.flatMap_cons]
      rw [List.getElem!_eq_getElem?_getD, List.getElem!_eq_getElem?_getD, List.getElem?_append_right (by rw [hk]; exact Nat.le_add_right _ _), hk, Nat.add_sub_cancel_left]
theorem flatK_eq {enc : α → List Value} {k : Nat} (hk : ∀ x, (enc x).length = k) (h0 : 0 < k) (d : Array α) : flatK enc k d = (flatE enc d.toList).toArray := by
  refine ext_get! (by simp [flatE_len hk]) fun t ht => ?_
  have ht' : t < d.size * k := by simpa using ht
  rw [get_flatK _ _ _ _ ht']
  have h := flatE_get hk h0 d.toList t (by simpa using ht')
  have h1 : (flatE enc d.toList).toArray[t]! = (flatE enc d.toList)[t]! := by simp
  have h2 : d.toList[t / k]! = d[t / k]! := by
    rw [List.getElem!_eq_getElem?_getD, Array.getElem!_eq_getD, Array.getD_eq_getD_getElem?, Array.getElem?_toList]
  rw [h1, h, h2]
end
/-! ### a world with more behind -/
theorem later {Z : Fzn} {ρ : Pls} {H : Heap} {w : World} (hs : Sim Z ρ H w) (n : Nat) (os : Array Obj) : Sim Z ρ H (grow (Sort.ahead w n) os) ∧ Ext Z ρ H w Z ρ H (grow (Sort.ahead w n) os) := by
  have hb : ∀ k, k < w.heap.size → (grow (Sort.ahead w n) os).heap[k]? = w.heap[k]? := fun k hk => heap_grow_old (Sort.ahead w n) os hk
  refine ⟨⟨fun b o h hl => ?_, hs.inj, fun k o hk => ?_, hs.fresh, hs.lk⟩, ⟨.refl _, .refl _, fun k hk _ => hb k hk, fun _ _ h => h, ?_, rfl, rfl, rfl, Nat.le_add_right _ _, fun a ha => ?_, rfl, fun _ _ => rfl, Nat.le_refl _, fun _ _ _ => rfl, fun _ _ _ => rfl, fun _ _ h _ => ⟨h, fun _ => rfl⟩⟩⟩
  · obtain ⟨pl, obj, h1, h2, h3, h4⟩ := hs.objs b o h hl
    exact ⟨pl, obj, h1, (hb _ (Array.getElem?_eq_some_iff.1 h2).1).trans h2, h3, h4⟩
  · exact (hb k (Array.getElem?_eq_some_iff.1 (hs.zok k o hk)).1).trans (hs.zok k o hk)
  · rw [size_grow]; exact Nat.le_add_right _ _
  · simp only [World.frozen?, hb _ ha]
theorem freeze_toV {H : Heap} {K : Nat} {x : AV} {y : Value} (h : freezeV H K x = some (.v y)) : x = .v y := by
  cases K with
  | zero => cases h
  | succ K =>
    unfold freezeV at h
    cases x with
    | v z => simpa using h
    | ro z k => simp at h
    | vs s l c => simp at h
    | agg l => simp only [Option.map_eq_some_iff] at h; obtain ⟨_, _, h⟩ := h; cases h
    | tup l => simp only [Option.map_eq_some_iff] at h; obtain ⟨_, _, h⟩ := h; cases h
    | ifc t z => simp only [Option.map_eq_some_iff] at h; obtain ⟨_, _, h⟩ := h; cases h
    | mp b => simp only at h; split at h <;> simp at h
    | yld b => simp only at h; split at h <;> simp at h
    | fn f a b => simp only at h; split at h <;> simp at h
    | ptr b v k =>
      simp only at h
      split at h
      · simp at h
      · split at h
        · split at h
          · split at h <;> simp at h
          · cases h
        · cases h
    | sl b v o l c =>
      simp only at h
      split at h
      · simp at h
      · split at h
        · split at h
          · split at h
            · simp at h
            · split at h
              · split at h <;> simp at h
              · cases h
          · cases h
        · cases h
/-- a call on closed arguments, in whatever world -/
theorem calls_closed {C : Cfg} (hgo : NoGo C.P) (hm : C.P.follows .mixedOrders = true) (hext : ExtOK C) {f : FuncId} {args : List AV} {v : Value} (h : Ans C f args (.v v)) {vals : List Value} (w : World) (hl : RepL (allZ w) noPls args vals) :
    Calls C.P f vals.toArray w fun e w' => e = .returned v ∧ ∃ q os, w' = grow (w.drewN q) os := by
  obtain ⟨x, H', h1, h2⟩ := Ans.iff.1 h
  rw [freeze_toV h2] at h1
  refine Calls.mono' (lim_right hgo hm hext h1 (start_sim w) hl) ?_
  rintro e w' ⟨y, rfl, Z', ρ', k1, k2, k3⟩
  refine ⟨by rw [k1.v_inv.1], w'.drawn - w.drawn, w'.heap.extract w.heap.size w'.heap.size, ?_⟩
  have hd := k3.drawn
  have hheap : w'.heap = w.heap ++ w'.heap.extract w.heap.size w'.heap.size := by
    apply Array.ext_getElem?
    intro i
    by_cases hi : i < w.heap.size
    · rw [Array.getElem?_append_left hi]; exact k3.frame i hi (start_own w i)
    · rw [Array.getElem?_append_right (by omega), Array.getElem?_extract]
      have hsz := k3.size
      by_cases hi2 : i < w'.heap.size
      · rw [if_pos (by omega)]; congr 1; omega
      · rw [if_neg (by omega), Array.getElem?_eq_none (by omega)]
  have h1 := k3.os
  have h2 := k3.output
  have h3 := k3.tape
  cases w'; cases w
  simp only [grow, World.drewN] at *
  subst h1 h2 h3
  congr 1
  omega
theorem putCells_eq (o : Nat) (F : List Value) (arr : Array Value) (h : o + F.length ≤ arr.size) : putCells id o F.toArray arr = (arr.toList.take o ++ F ++ arr.toList.drop (o + F.length)).toArray := by
  refine Array.ext_getElem? fun i => ?_
  unfold putCells
  rw [Array.getElem?_mapIdx]
  simp only [List.getElem?_toArray, id_eq]
  by_cases hi : i < arr.size
  · rw [Array.getElem?_eq_getElem hi]
    simp only [Option.map_some]
    by_cases h1 : i < o
    · rw [if_neg (by omega), List.append_assoc, List.getElem?_append_left (by simp; omega), List.getElem?_take, if_pos h1]
      simp [hi]
    · by_cases h2 : i < o + F.length
      · rw [if_pos (by simp; omega), List.append_assoc, List.getElem?_append_right (by simp; omega), List.getElem?_append_left (by simp; omega)]
        have e : i - (arr.toList.take o).length = i - o := by simp; omega
        rw [e, List.getElem?_eq_getElem (by omega)]
        simp [show i - o < F.length by omega]
      · rw [if_neg (by simp; omega), List.getElem?_append_right (by simp; omega), List.getElem?_drop]
        have e : o + F.length + (i - (arr.toList.take o ++ F).length) = i := by simp; omega
        rw [e]; simp [hi]
  · rw [Array.getElem?_eq_none (by omega), List.getElem?_eq_none (by simp; omega)]
    rfl
/-! ### the function -/
section
variable {α : Type} [Inhabited α]
/-- 'cf a b < 0' -/
def ltF (cf : α → α → Int) (x y : α) : Bool := decide (cf x y < 0)
/-- of what lies in memory: it sorts whatever there is, by a function that is known -/
structure Sorts (P : Program) (f g : FuncId) (k : Nat) (enc : α → List Value) (cf : α → α → Int) : Prop where
  body : HasBody P f
  nil : ∀ p cap fv w, Calls P f #[.slice p 0 cap, fv] w fun e w' => e = .returned (.tuple #[]) ∧ w' = w
  row : ∀ (blk off cap : Nat) (d : Array α) (w : World), Holds id w blk off (flatE enc d.toList).toArray → blk < w.heap.size → d.size < 4611686018427387904 →
    Calls P f #[.slice (some ⟨blk, off, none⟩) d.size cap, .func (.func g) #[] #[]] w fun e w' =>
      e = .returned (.tuple #[]) ∧ ∃ d' n os, PermIn 0 d.size d d' ∧ SortedIn (ltF cf) 0 d.size d' ∧ w' = grow (putRow id (Sort.ahead w n) blk off (flatE enc d'.toList).toArray) os
def antiB (lt : α → α → Bool) (eqv : α → α → Bool) (l : List α) : Bool := l.all fun a => l.all fun b => lt a b || lt b a || eqv a b
def sortH (k : Nat) (enc : α → List Value) (dec : List AV → Option α) (eqv : α → α → Bool) (cf : α → α → Int) (g : FuncId) : List AV → Heap → Option (AV × Heap)
  | [x, .fn (.func g') [] []], H =>
    if g' = g then
      match x with
      | .v (.slice none 0 0) => some (.tup [], H)
      | .vs _ [] _ => some (.tup [], H)
      | .sl b v off len _ =>
        if len = 0 then some (.tup [], H) else
        match H.row b v with
        | some (_, _, _, _, cs) =>
          if len < 4611686018427387904 then
            match takeE k dec len (cs.drop off) with
            | some l => if antiB (ltF cf) eqv l then (storeCells H b v off ((flatE enc (sortL (ltF cf) l)).map AV.v)).map fun H' => (.tup [], H') else none
            | none => none
          else none
        | none => none
      | _ => none
    else none
  | _, _ => none
theorem sortH_meets {P : Program} {f g : FuncId} {k : Nat} {enc : α → List Value} {dec : List AV → Option α} {eqv : α → α → Bool} {cf : α → α → Int} (hO : SWO (ltF cf)) (hc : Coded k enc dec) (hq : ∀ a b, eqv a b = true → a = b) (hS : Sorts P f g k enc cf)
    {args : List AV} {H H' : Heap} {v : AV} (h : sortH k enc dec eqv cf g args H = some (v, H')) : MeetsCall P f args H v H' := by
  refine ⟨hS.body, fun Z ρ w vals hs hl => ?_⟩
  unfold sortH at h
  split at h
  · rename_i x g'
    obtain ⟨v1, ws, rfl, hv1, hl⟩ := hl.uncons
    obtain ⟨v2, ws, rfl, hv2, hl⟩ := hl.uncons
    have : ws = [] := List.length_eq_zero_iff.1 hl.1.symm
    subst this
    split at h
    · rename_i hg
      subst hg
      have hnone : ∀ p cap, v1 = .slice p 0 cap → v = .tup [] ∧ H' = H → Calls P f [v1, v2].toArray w fun e w' => ∃ x, e = .returned x ∧ After Z ρ H w v H' x w' := by
        rintro p cap rfl ⟨rfl, rfl⟩
        refine Calls.mono' (hS.nil p cap v2 w) ?_
        rintro e w' ⟨rfl, rfl⟩
        exact ⟨_, rfl, Z, ρ, .tup (cs := []) (vs := []) rfl (fun i c v h => by simp at h), hs, Ext.refl _ _ _ _⟩
      split at h
      · simp only [Option.some.injEq, Prod.mk.injEq] at h
        obtain ⟨rfl, -⟩ := hv1.v_inv
        exact hnone none 0 rfl ⟨h.1.symm, h.2.symm⟩
      · simp only [Option.some.injEq, Prod.mk.injEq] at h
        cases hv1 with
        | vs => exact hnone _ _ rfl ⟨h.1.symm, h.2.symm⟩
        | vs0 => exact hnone _ _ rfl ⟨h.1.symm, h.2.symm⟩
      · rename_i b ver off len cap
        cases hv1 with
        | sl hp hcap hn hle =>
          rename_i c pl
          split at h
          · rename_i hlen
            subst hlen
            simp only [Option.some.injEq, Prod.mk.injEq] at h
            exact hnone _ _ rfl ⟨h.1.symm, h.2.symm⟩
          · rename_i hlen
            split at h
            · rename_i m e sz gr cs hrow
              split at h
              · rename_i hbig
                split at h
                · rename_i l htake
                  split at h
                  · rename_i hanti
                    simp only [Option.map_eq_some_iff, Prod.mk.injEq] at h
                    obtain ⟨H2, hst, rfl, rfl⟩ := h
                    obtain ⟨hll, htk, hle2⟩ := takeE_some hc htake
                    obtain ⟨pl1, arr, e', h1, h2, h3, h3b, h3c, h4, pre, vs, post, h5, h6, h7, h7b, h8⟩ := hs.row hrow
                    rw [hp] at h1; cases h1
                    have hdl : (flatE enc l).length = len * k := by rw [flatE_len hc.len, hll]
                    have hcell : ∀ j x, (flatE enc l)[j]? = some x → vs[off + j]? = some x := by
                      intro j x hj
                      have hlt := (List.getElem?_eq_some_iff.1 hj).1
                      have hcj : cs[off + j]? = some (.v x) := by
                        have : (cs.drop off)[j]? = some (.v x) := by
                          have h9 : ((cs.drop off).take (len * k))[j]? = some (.v x) := by rw [htk, List.getElem?_map, hj]; rfl
                          rw [List.getElem?_take] at h9
                          split at h9
                          · exact h9
                          · cases h9
                        rwa [List.getElem?_drop] at this
                      obtain ⟨y, hy, hr⟩ := h8.get hcj
                      rw [hy, hr.v_inv.1]
                    have hholds : Holds id w pl.blk (pl.base + off) (flatE enc l.toArray.toList).toArray := by
                      intro j hj
                      have hj' : j < (flatE enc l).length := by simpa using hj
                      refine ⟨?_, ?_⟩
                      · have := cell_at (w := w) h2 h5 (hcell j _ (List.getElem?_eq_getElem hj'))
                        rw [← h6, Nat.add_assoc, this]
                        simp [hj']
                      · simp [World.frozen?, h2]
                    have hblk := (Array.getElem?_eq_some_iff.1 h2).1
                    have hcall := hS.row pl.blk (pl.base + off) c l.toArray w hholds hblk (by simpa [hll] using hbig)
                    have hfn : v2 = .func (.func g') #[] #[] := by
                      cases hv2 with
                      | fn q1 q2 q3 q4 =>
                        have e1 := List.length_eq_zero_iff.1 q1.symm
                        have e2 := List.length_eq_zero_iff.1 q2.symm
                        rw [e1, e2]
                    rw [hfn, ← hll, show l.length = l.toArray.size by simp]
                    refine Calls.mono' hcall ?_
                    rintro e w' ⟨rfl, d', n, os, hpm, hsd, rfl⟩
                    have hd' : d'.toList = sortL (ltF cf) l := by
                      obtain ⟨p1, -, p3⟩ := hpm
                      have p3 : d'.toList.Perm l := by
                        have e1 : d'.extract 0 l.toArray.size = d' := by rw [← p1]; simp
                        have e2 : l.toArray.extract 0 l.toArray.size = l.toArray := by simp
                        rw [e1, e2] at p3; simpa using p3
                      refine asc_uniq hO (p3.trans (sortL_perm _ l).symm) ?_ (sortL_asc hO l) ?_
                      · refine List.pairwise_iff_getElem.2 fun i j hi hj hij => ?_
                        have hj2 : j < d'.size := by simpa using hj
                        have hi2 : i < d'.size := by simpa using hi
                        have := hsd i j (Nat.zero_le _) hij (by rw [← p1]; exact hj2)
                        rw [getElem!_pos d' j hj2, getElem!_pos d' i hi2] at this
                        simpa using this
                      · intro a ha b hb h1 h2
                        have ha := p3.mem_iff.1 ha
                        have hb := p3.mem_iff.1 hb
                        have := List.all_eq_true.1 (List.all_eq_true.1 hanti a ha) b hb
                        rw [h1, h2] at this
                        exact hq _ _ (by simpa using this)
                    rw [hd']
                    have hys : RepL Z ρ ((flatE enc (sortL (ltF cf) l)).map AV.v) (flatE enc (sortL (ltF cf) l)) := by
                      refine ⟨by simp, fun i c v hc' hv => ?_⟩
                      rw [List.getElem?_map, hv] at hc'
                      simp only [Option.map_some, Option.some.injEq] at hc'
                      subst hc'
                      obtain ⟨a, -, ha⟩ := List.mem_flatMap.1 (List.mem_of_getElem? hv)
                      exact .v (hc.atom a v ha)
                    obtain ⟨w1, Z1, ρ1, r1, s1, x1⟩ := cells_does (P := P) hs hp hys hst
                    have hsl : (flatE enc (sortL (ltF cf) l)).length = len * k := by rw [flatE_len hc.len, (sortL_perm _ l).length_eq, hll]
                    have hvl : off + len * k ≤ vs.length := by
                      rw [← h8.1]; rw [List.length_drop] at hle2
                      have : 0 < len * k := Nat.mul_pos (Nat.pos_of_ne_zero hlen) hc.pos
                      omega
                    have hsz : arr.size = pre.length + vs.length + post.length := by rw [← Array.length_toList, h5]; simp; omega
                    have hrun := run_storeCells_at P pl.blk (pl.base + off) e' (flatE enc (sortL (ltF cf) l)) 0 arr w h2 (by rw [hsl]; omega) (fun y hy => by
                      obtain ⟨a, -, ha⟩ := List.mem_flatMap.1 hy
                      have := hc.atom a y ha
                      exact (Rep.v (Z := Z) (ρ := ρ) this).flat rfl)
                    have hw1 : w1 = w.setRow pl.blk (arr.toList.take (pl.base + off + 0) ++ flatE enc (sortL (ltF cf) l) ++ arr.toList.drop (pl.base + off + 0 + (flatE enc (sortL (ltF cf) l)).length)).toArray := by
                      rw [hrun] at r1
                      simpa using r1.symm
                    obtain ⟨s2, x2⟩ := later s1 n os
                    have hput : putRow id (Sort.ahead w n) pl.blk (pl.base + off) (flatE enc (sortL (ltF cf) l)).toArray = Sort.ahead w1 n := by
                      rw [hw1]
                      unfold putRow mapBlock World.setRow Sort.ahead
                      simp only []
                      congr 1
                      refine Array.ext_getElem? fun i => ?_
                      rw [Array.getElem?_modify, Array.getElem?_modify]
                      by_cases hi : pl.blk = i
                      · subst hi
                        have h2' : w.heap[pl.blk]? = some (.cells arr e' (0, 0)) := h2
                        simp only [if_true, h2', Option.map_some, onCells]
                        rw [Nat.add_zero, putCells_eq _ _ _ (by rw [hsl]; omega)]
                      · simp [hi]
                    rw [hput]
                    exact ⟨_, rfl, Z1, ρ1, .tup (cs := []) (vs := []) rfl (fun i c v h => by simp at h), s2, x1.trans x2⟩
                  · cases h
                · cases h
              · cases h
            · cases h
      · cases h
    · cases h
  · cases h
end
end Go.Ev
/- slices.SortFunc of Go's library, by the shelf's contracts. -/
namespace Go.Ev
open Go.Proofs Go.Shelf Go.RowKit Go.Sort
section
variable {α : Type} [Inhabited α] {P : Program} {ρn : Ren}
/-- slices of structs -/
theorem sorts_many (L : SlLaysF0.n6 P ρn) {f : FuncId} (hf : ρn.f 6 = f) (hbody : HasBody P f) {k : Nat} (aE : ∀ w, (isAgg (ρn.t 24)).run P w = .ok true w) (zE : ∀ w, (Go.sizeOf (ρn.t 24)).run P w = .ok k w) {enc : α → List Value} {dec : List AV → Option α} (hc : Coded k enc dec) (h1 : ∀ x, ∀ v ∈ enc x, v.oneCell' = true)
    {cf : α → α → Int} (hO : SWO (ltF cf)) {g : FuncId} (hg : HasBody P g)
    (hcmp : ∀ (w : World) (x y : α), Calls P g #[.agg (enc x).toArray, .agg (enc y).toArray] w fun e w' => e = .returned (.int .i64 (cf x y)) ∧ ∃ q os, w' = grow (w.drewN q) os) : Sorts P f g k enc cf := by
  subst hf
  refine ⟨hbody, fun p cap fv w => AnyF.slices_SortFunc_none L p cap fv w, fun blk off cap d w hh hblk hsz => ?_⟩
  have hH : HoldsK enc k w blk off d := by unfold HoldsK; rw [flatK_eq hc.len hc.pos]; exact hh
  have h := AnyQ.slices_SortFunc L k aE zE enc hc.len h1 cf hO g #[] blk off cap d w (fun args w => hg.run args w) (fun m os dk _ x y => hcmp _ x y) hH hblk hsz
  refine Calls.mono' h ?_
  rintro e w' ⟨rfl, d', n, os, p1, p2, rfl⟩
  refine ⟨rfl, d', n, os, p1, p2, ?_⟩
  unfold sortWorldK putRowK
  rw [flatK_eq hc.len hc.pos]
theorem flat_one {β : Type} (enc : β → Value) (l : List β) : flatE (fun x => [enc x]) l = l.map enc := by
  unfold flatE; induction l with
  | nil => rfl
  | cons a r ih => simp [ih]
theorem putRow_one (enc : α → Value) (w : World) (blk off : Nat) (d : Array α) : putRow enc w blk off d = putRow id w blk off (d.toList.map enc).toArray := by
  unfold putRow
  congr 1
  funext c
  unfold putCells
  congr 1
  funext k x
  simp only [List.size_toArray, List.length_map, Array.length_toList, id_eq]
  split
  · rename_i h
    have hk : k - off < d.size := by omega
    simp [hk]
  · rfl
/-- slices of things of one cell -/
theorem sorts_one (L : SlLaysF.n6 P ρn) (L0 : SlLaysF0.n6 P ρn) {f : FuncId} (hf : ρn.f 6 = f) (hbody : HasBody P f) {enc : α → Value} (h1 : OneCell enc)
    {cf : α → α → Int} (hO : SWO (ltF cf)) {g : FuncId} (hg : HasBody P g)
    (hcmp : ∀ (w : World) (x y : α), Calls P g #[enc x, enc y] w fun e w' => e = .returned (.int .i64 (cf x y)) ∧ ∃ q os, w' = grow (w.drewN q) os) : Sorts P f g 1 (fun x => [enc x]) cf := by
  subst hf
  refine ⟨hbody, fun p cap fv w => AnyF.slices_SortFunc_none L0 p cap fv w, fun blk off cap d w hh hblk hsz => ?_⟩
  rw [flat_one] at hh
  have hH : Holds enc w blk off d := by
    intro j hj
    have := hh j (by simpa using hj)
    simpa [hj] using this
  have h := Any.slices_SortFunc L enc h1 cf hO g #[] blk off cap d w (fun args w => hg.run args w) (fun m os dk _ x y => hcmp _ x y) hH hblk hsz
  refine Calls.mono' h ?_
  rintro e w' ⟨rfl, d', n, os, p1, p2, rfl⟩
  refine ⟨rfl, d', n, os, p1, p2, ?_⟩
  rw [flat_one]
  unfold sortWorld
  rw [putRow_one]
end
end Go.Ev
/- slices.SortFunc of Go's library at this program: where the shelf's contract finds its parts. -/
namespace Go.Proofs
open Go.Shelf
def Try.sortPl_ren : Go.Shelf.Ren := ⟨fun | 6 => 105 | 15 => 99 | 14 => 128 | 28 => 120 | 29 => 121 | 20 => 136 | 21 => 137 | 22 => 138 | 23 => 139 | 24 => 140 | 25 => 141 | 26 => 142 | 27 => 143 | 46 => 145 | 47 => 132 | 48 => 133 | 49 => 146 | 50 => 147 | 57 => 148 | n => n, fun | 22 => 46 | 24 => 26 | 25 => 147 | 3 => 3 | 39 => 162 | 0 => 0 | 53 => 190 | 55 => 192 | 4 => 4 | 46 => 183 | 45 => 182 | 50 => 187 | 5 => 5 | 9 => 9 | 66 => 195 | 70 => 199 | 76 => 206 | 77 => 32 | n => n, fun | n => n⟩
theorem Try.sortPl : Go.Proofs.SlLaysF0.n6 Try.prog Try.sortPl_ren := {
  mixed := by kernel_rfl
  f6 := ⟨Try.f105.name, by decide, Try.func105.trans (congrArg some (by kernel_rfl))⟩
  f14 := ⟨Try.f128.name, by decide, Try.func128.trans (congrArg some (by kernel_rfl))⟩
  f15 := Try.func99.trans (congrArg some (by kernel_rfl))
  f20 := ⟨Try.f136.name, by decide, Try.func136.trans (congrArg some (by kernel_rfl))⟩
  f21 := ⟨Try.f137.name, by decide, Try.func137.trans (congrArg some (by kernel_rfl))⟩
  f22 := ⟨Try.f138.name, by decide, Try.func138.trans (congrArg some (by kernel_rfl))⟩
  f23 := ⟨Try.f139.name, by decide, Try.func139.trans (congrArg some (by kernel_rfl))⟩
  f24 := ⟨Try.f140.name, by decide, Try.func140.trans (congrArg some (by kernel_rfl))⟩
  f25 := ⟨Try.f141.name, by decide, Try.func141.trans (congrArg some (by kernel_rfl))⟩
  f26 := ⟨Try.f142.name, by decide, Try.func142.trans (congrArg some (by kernel_rfl))⟩
  f27 := ⟨Try.f143.name, by decide, Try.func143.trans (congrArg some (by kernel_rfl))⟩
  f28 := Try.func120.trans (congrArg some (by kernel_rfl))
  f29 := Try.func121.trans (congrArg some (by kernel_rfl))
  f46 := ⟨Try.f145.name, by decide, Try.func145.trans (congrArg some (by kernel_rfl))⟩
  f47 := Try.func132.trans (congrArg some (by kernel_rfl))
  f48 := Try.func133.trans (congrArg some (by kernel_rfl))
  f49 := ⟨Try.f146.name, by decide, Try.func146.trans (congrArg some (by kernel_rfl))⟩
  f50 := ⟨Try.f147.name, by decide, Try.func147.trans (congrArg some (by kernel_rfl))⟩
  f57 := ⟨Try.f148.name, by decide, Try.func148.trans (congrArg some (by kernel_rfl))⟩
  t0 := Try.underlying0
  a0 := Try.isAgg0
  z0 := Try.sizeOf0
  v0 := Try.zeroValue0
  t3 := Try.underlying3
  a3 := Try.isAgg3
  z3 := Try.sizeOf3
  v3 := Try.zeroValue3
  t4 := Try.underlying4
  a4 := Try.isAgg4
  z4 := Try.sizeOf4
  v4 := Try.zeroValue4
  t5 := Try.underlying5
  a5 := Try.isAgg5
  z5 := Try.sizeOf5
  v5 := Try.zeroValue5
  t9 := Try.underlying9
  a9 := Try.isAgg9
  z9 := Try.sizeOf9
  v9 := Try.zeroValue9
  t22 := Try.underlying46
  a22 := Try.isAgg46
  z22 := Try.sizeOf46
  v22 := Try.zeroValue46
  t25 := Try.underlying147
  a25 := Try.isAgg147
  z25 := Try.sizeOf147
  v25 := Try.zeroValue147
  t39 := Try.underlying162
  a39 := Try.isAgg162
  z39 := Try.sizeOf162
  v39 := Try.zeroValue162
  t45 := Try.underlying182
  a45 := Try.isAgg182
  z45 := Try.sizeOf182
  v45 := Try.zeroValue182
  t46 := Try.underlying183
  a46 := Try.isAgg183
  z46 := Try.sizeOf183
  v46 := Try.zeroValue183
  t50 := Try.underlying187
  a50 := Try.isAgg187
  z50 := Try.sizeOf187
  v50 := Try.zeroValue187
  t53 := Try.underlying190
  a53 := Try.isAgg190
  z53 := Try.sizeOf190
  v53 := Try.zeroValue190
  t55 := Try.underlying192
  a55 := Try.isAgg192
  z55 := Try.sizeOf192
  v55 := Try.zeroValue192
  t66 := Try.underlying195
  a66 := Try.isAgg195
  z66 := Try.sizeOf195
  v66 := Try.zeroValue195
  t70 := Try.underlying199
  a70 := Try.isAgg199
  z70 := Try.sizeOf199
  v70 := Try.zeroValue199
  t76 := Try.underlying206
  a76 := Try.isAgg206
  z76 := Try.sizeOf206
  v76 := Try.zeroValue206
  t77 := Try.underlying32
  a77 := Try.isAgg32
  z77 := Try.sizeOf32
  v77 := Try.zeroValue32 }
end Go.Proofs
/- slices.SortFunc of Go's library at this program, for words: where the shelf's contract finds its parts. -/
namespace Go.Proofs
open Go.Shelf
def Try.sortSt_ren : Go.Shelf.Ren := ⟨fun | 6 => 75 | 15 => 99 | 14 => 98 | 28 => 120 | 29 => 121 | 20 => 112 | 21 => 113 | 22 => 114 | 23 => 115 | 24 => 116 | 25 => 117 | 26 => 118 | 27 => 119 | 46 => 131 | 47 => 132 | 48 => 133 | 49 => 134 | 50 => 135 | 57 => 144 | n => n, fun | 22 => 51 | 24 => 9 | 25 => 106 | 3 => 3 | 39 => 162 | 0 => 0 | 53 => 190 | 55 => 192 | 4 => 4 | 46 => 183 | 45 => 182 | 50 => 187 | 5 => 5 | 9 => 9 | 66 => 195 | 70 => 199 | 76 => 206 | 77 => 32 | n => n, fun | n => n⟩
theorem Try.sortSt : Go.Proofs.SlLaysF.n6 Try.prog Try.sortSt_ren := {
  mixed := by kernel_rfl
  f6 := ⟨Try.f75.name, by decide, Try.func75.trans (congrArg some (by kernel_rfl))⟩
  f14 := ⟨Try.f98.name, by decide, Try.func98.trans (congrArg some (by kernel_rfl))⟩
  f15 := Try.func99.trans (congrArg some (by kernel_rfl))
  f20 := ⟨Try.f112.name, by decide, Try.func112.trans (congrArg some (by kernel_rfl))⟩
  f21 := ⟨Try.f113.name, by decide, Try.func113.trans (congrArg some (by kernel_rfl))⟩
  f22 := ⟨Try.f114.name, by decide, Try.func114.trans (congrArg some (by kernel_rfl))⟩
  f23 := ⟨Try.f115.name, by decide, Try.func115.trans (congrArg some (by kernel_rfl))⟩
  f24 := ⟨Try.f116.name, by decide, Try.func116.trans (congrArg some (by kernel_rfl))⟩
  f25 := ⟨Try.f117.name, by decide, Try.func117.trans (congrArg some (by kernel_rfl))⟩
  f26 := ⟨Try.f118.name, by decide, Try.func118.trans (congrArg some (by kernel_rfl))⟩
  f27 := ⟨Try.f119.name, by decide, Try.func119.trans (congrArg some (by kernel_rfl))⟩
  f28 := Try.func120.trans (congrArg some (by kernel_rfl))
  f29 := Try.func121.trans (congrArg some (by kernel_rfl))
  f46 := ⟨Try.f131.name, by decide, Try.func131.trans (congrArg some (by kernel_rfl))⟩
  f47 := Try.func132.trans (congrArg some (by kernel_rfl))
  f48 := Try.func133.trans (congrArg some (by kernel_rfl))
  f49 := ⟨Try.f134.name, by decide, Try.func134.trans (congrArg some (by kernel_rfl))⟩
  f50 := ⟨Try.f135.name, by decide, Try.func135.trans (congrArg some (by kernel_rfl))⟩
  f57 := ⟨Try.f144.name, by decide, Try.func144.trans (congrArg some (by kernel_rfl))⟩
  t0 := Try.underlying0
  a0 := Try.isAgg0
  z0 := Try.sizeOf0
  v0 := Try.zeroValue0
  t3 := Try.underlying3
  a3 := Try.isAgg3
  z3 := Try.sizeOf3
  v3 := Try.zeroValue3
  t4 := Try.underlying4
  a4 := Try.isAgg4
  z4 := Try.sizeOf4
  v4 := Try.zeroValue4
  t5 := Try.underlying5
  a5 := Try.isAgg5
  z5 := Try.sizeOf5
  v5 := Try.zeroValue5
  t9 := Try.underlying9
  a9 := Try.isAgg9
  z9 := Try.sizeOf9
  v9 := Try.zeroValue9
  t22 := Try.underlying51
  a22 := Try.isAgg51
  z22 := Try.sizeOf51
  v22 := Try.zeroValue51
  a24 := Try.isAgg9
  z24 := Try.sizeOf9
  t25 := Try.underlying106
  a25 := Try.isAgg106
  z25 := Try.sizeOf106
  v25 := Try.zeroValue106
  t39 := Try.underlying162
  a39 := Try.isAgg162
  z39 := Try.sizeOf162
  v39 := Try.zeroValue162
  t45 := Try.underlying182
  a45 := Try.isAgg182
  z45 := Try.sizeOf182
  v45 := Try.zeroValue182
  t46 := Try.underlying183
  a46 := Try.isAgg183
  z46 := Try.sizeOf183
  v46 := Try.zeroValue183
  t50 := Try.underlying187
  a50 := Try.isAgg187
  z50 := Try.sizeOf187
  v50 := Try.zeroValue187
  t53 := Try.underlying190
  a53 := Try.isAgg190
  z53 := Try.sizeOf190
  v53 := Try.zeroValue190
  t55 := Try.underlying192
  a55 := Try.isAgg192
  z55 := Try.sizeOf192
  v55 := Try.zeroValue192
  t66 := Try.underlying195
  a66 := Try.isAgg195
  z66 := Try.sizeOf195
  v66 := Try.zeroValue195
  t70 := Try.underlying199
  a70 := Try.isAgg199
  z70 := Try.sizeOf199
  v70 := Try.zeroValue199
  t76 := Try.underlying206
  a76 := Try.isAgg206
  z76 := Try.sizeOf206
  v76 := Try.zeroValue206
  t77 := Try.underlying32
  a77 := Try.isAgg32
  z77 := Try.sizeOf32
  v77 := Try.zeroValue32 }
theorem Try.sortSt0 : Go.Proofs.SlLaysF0.n6 Try.prog Try.sortSt_ren := {
  mixed := by kernel_rfl
  f6 := ⟨Try.f75.name, by decide, Try.func75.trans (congrArg some (by kernel_rfl))⟩
  f14 := ⟨Try.f98.name, by decide, Try.func98.trans (congrArg some (by kernel_rfl))⟩
  f15 := Try.func99.trans (congrArg some (by kernel_rfl))
  f20 := ⟨Try.f112.name, by decide, Try.func112.trans (congrArg some (by kernel_rfl))⟩
  f21 := ⟨Try.f113.name, by decide, Try.func113.trans (congrArg some (by kernel_rfl))⟩
  f22 := ⟨Try.f114.name, by decide, Try.func114.trans (congrArg some (by kernel_rfl))⟩
  f23 := ⟨Try.f115.name, by decide, Try.func115.trans (congrArg some (by kernel_rfl))⟩
  f24 := ⟨Try.f116.name, by decide, Try.func116.trans (congrArg some (by kernel_rfl))⟩
  f25 := ⟨Try.f117.name, by decide, Try.func117.trans (congrArg some (by kernel_rfl))⟩
  f26 := ⟨Try.f118.name, by decide, Try.func118.trans (congrArg some (by kernel_rfl))⟩
  f27 := ⟨Try.f119.name, by decide, Try.func119.trans (congrArg some (by kernel_rfl))⟩
  f28 := Try.func120.trans (congrArg some (by kernel_rfl))
  f29 := Try.func121.trans (congrArg some (by kernel_rfl))
  f46 := ⟨Try.f131.name, by decide, Try.func131.trans (congrArg some (by kernel_rfl))⟩
  f47 := Try.func132.trans (congrArg some (by kernel_rfl))
  f48 := Try.func133.trans (congrArg some (by kernel_rfl))
  f49 := ⟨Try.f134.name, by decide, Try.func134.trans (congrArg some (by kernel_rfl))⟩
  f50 := ⟨Try.f135.name, by decide, Try.func135.trans (congrArg some (by kernel_rfl))⟩
  f57 := ⟨Try.f144.name, by decide, Try.func144.trans (congrArg some (by kernel_rfl))⟩
  t0 := Try.underlying0
  a0 := Try.isAgg0
  z0 := Try.sizeOf0
  v0 := Try.zeroValue0
  t3 := Try.underlying3
  a3 := Try.isAgg3
  z3 := Try.sizeOf3
  v3 := Try.zeroValue3
  t4 := Try.underlying4
  a4 := Try.isAgg4
  z4 := Try.sizeOf4
  v4 := Try.zeroValue4
  t5 := Try.underlying5
  a5 := Try.isAgg5
  z5 := Try.sizeOf5
  v5 := Try.zeroValue5
  t9 := Try.underlying9
  a9 := Try.isAgg9
  z9 := Try.sizeOf9
  v9 := Try.zeroValue9
  t22 := Try.underlying51
  a22 := Try.isAgg51
  z22 := Try.sizeOf51
  v22 := Try.zeroValue51
  t25 := Try.underlying106
  a25 := Try.isAgg106
  z25 := Try.sizeOf106
  v25 := Try.zeroValue106
  t39 := Try.underlying162
  a39 := Try.isAgg162
  z39 := Try.sizeOf162
  v39 := Try.zeroValue162
  t45 := Try.underlying182
  a45 := Try.isAgg182
  z45 := Try.sizeOf182
  v45 := Try.zeroValue182
  t46 := Try.underlying183
  a46 := Try.isAgg183
  z46 := Try.sizeOf183
  v46 := Try.zeroValue183
  t50 := Try.underlying187
  a50 := Try.isAgg187
  z50 := Try.sizeOf187
  v50 := Try.zeroValue187
  t53 := Try.underlying190
  a53 := Try.isAgg190
  z53 := Try.sizeOf190
  v53 := Try.zeroValue190
  t55 := Try.underlying192
  a55 := Try.isAgg192
  z55 := Try.sizeOf192
  v55 := Try.zeroValue192
  t66 := Try.underlying195
  a66 := Try.isAgg195
  z66 := Try.sizeOf195
  v66 := Try.zeroValue195
  t70 := Try.underlying199
  a70 := Try.isAgg199
  z70 := Try.sizeOf199
  v70 := Try.zeroValue199
  t76 := Try.underlying206
  a76 := Try.isAgg206
  z76 := Try.sizeOf206
  v76 := Try.zeroValue206
  t77 := Try.underlying32
  a77 := Try.isAgg32
  z77 := Try.sizeOf32
  v77 := Try.zeroValue32 }
end Go.Proofs
/- Lists in strict order: each once. -/
namespace Go.Ev
section
variable {α : Type} [DecidableEq α]
/-- in strict order -/
structure StrictO (lt : α → α → Bool) : Prop where
  irrefl : ∀ a, lt a a = false
  trans : ∀ a b c, lt a b = true → lt b c = true → lt a c = true
  total : ∀ a b, lt a b = false → lt b a = false → a = b
/-! the same by steps -/
end
end Go.Ev
namespace Go.Ev
open Go.Proofs Go.Sort
set_option maxRecDepth 100000
set_option linter.unusedSimpArgs false
/-! ### words in order -/
theorem bytesLt_nil (a : List UInt8) : bytesLt a [] = false := by cases a <;> rfl
theorem bytesLt_irrefl : ∀ a : List UInt8, bytesLt a a = false
  | [] => rfl
  | x :: r => by
    show (Nat.blt x.toNat x.toNat || (x.toNat == x.toNat && bytesLt r r)) = false
    have h : Nat.blt x.toNat x.toNat = false := by
      cases h : Nat.blt x.toNat x.toNat with
      | false => rfl
      | true => exact absurd (Nat.le_of_ble_eq_true h) (by omega)
    rw [bytesLt_irrefl r, h]; simp
theorem bytesLt_cons (x y : UInt8) (a b : List UInt8) : bytesLt (x :: a) (y :: b) = true ↔ x.toNat < y.toNat ∨ x.toNat = y.toNat ∧ bytesLt a b = true := by
  show (Nat.blt x.toNat y.toNat || (x.toNat == y.toNat && bytesLt a b)) = true ↔ _
  rw [Bool.or_eq_true, Bool.and_eq_true, beq_iff_eq]
  refine or_congr ?_ Iff.rfl
  unfold Nat.blt; rw [Nat.ble_eq]; exact Iff.rfl
theorem bytesLt_trans : ∀ a b c : List UInt8, bytesLt a b = true → bytesLt b c = true → bytesLt a c = true
  | _, [], _, h, _ => by rw [bytesLt_nil] at h; cases h
  | _, _ :: _, [], _, h => by rw [bytesLt_nil] at h; cases h
  | [], _ :: _, _ :: _, _, _ => rfl
  | x :: a, y :: b, z :: c, h1, h2 => by
    rw [bytesLt_cons] at *
    rcases h1 with h1 | ⟨e1, h1⟩ <;> rcases h2 with h2 | ⟨e2, h2⟩
    · left; omega
    · left; omega
    · left; omega
    · right; exact ⟨by omega, bytesLt_trans a b c h1 h2⟩
theorem bytesLt_total : ∀ a b : List UInt8, bytesLt a b = false → bytesLt b a = false → a = b
  | [], [], _, _ => rfl
  | [], _ :: _, h, _ => by cases h
  | _ :: _, [], _, h => by cases h
  | x :: a, y :: b, h1, h2 => by
    have n1 : ¬ (x.toNat < y.toNat ∨ x.toNat = y.toNat ∧ bytesLt a b = true) := fun h => by rw [(bytesLt_cons ..).2 h] at h1; cases h1
    have n2 : ¬ (y.toNat < x.toNat ∨ y.toNat = x.toNat ∧ bytesLt b a = true) := fun h => by rw [(bytesLt_cons ..).2 h] at h2; cases h2
    have e : x.toNat = y.toNat := by omega
    have e' : x = y := UInt8.toNat_inj.1 e
    subst e'
    rw [bytesLt_total a b (by simpa using fun h => n1 (Or.inr ⟨rfl, h⟩)) (by simpa using fun h => n2 (Or.inr ⟨rfl, h⟩))]
def ltW (s t : ByteArray) : Bool := bytesLt s.data.toList t.data.toList
theorem strictW : StrictO ltW := by
  refine ⟨fun a => bytesLt_irrefl _, fun a b c h1 h2 => bytesLt_trans _ _ _ h1 h2, fun a b h1 h2 => ?_⟩
  have := bytesLt_total _ _ h1 h2
  obtain ⟨⟨a⟩⟩ := a
  obtain ⟨⟨b⟩⟩ := b
  simp only at this
  rw [this]
def cmpW (s t : ByteArray) : Int := if ltW s t then -1 else if ltW t s then 1 else 0
theorem ltF_W : ltF cmpW = ltW := by
  funext s t
  unfold ltF cmpW
  cases h : ltW s t
  · cases h2 : ltW t s <;> simp
  · simp
theorem swoW : SWO ltW := by
  refine ⟨fun x => strictW.irrefl x, fun x y z h1 h2 => strictW.trans _ _ _ h1 h2, fun x y z h1 h2 => ?_⟩
  cases h : ltW x z with
  | false => rfl
  | true =>
    cases h3 : ltW y x with
    | true => have := strictW.trans _ _ _ h3 h; rw [h2] at this; cases this
    | false => have := strictW.total _ _ h1 h3; subst this; rw [h2] at h; cases h
theorem swoW' : SWO (ltF cmpW) := by rw [ltF_W]; exact swoW
def eqvW (s t : ByteArray) : Bool := decide (s = t)
def encW (s : ByteArray) : List Value := [.string s]
def decW : List AV → Option ByteArray
  | [.v (.string s)] => some s
  | _ => none
theorem codedW : Coded 1 encW decW := by
  refine ⟨by decide, fun _ => rfl, fun cs a h => ?_, fun _ => rfl, fun a v hv => ?_⟩
  · unfold decW at h
    split at h
    · simp only [Option.some.injEq] at h
      subst h; rfl
    · cases h
  · simp [encW] at hv
    subst hv; rfl
theorem call91 (me : FuncId) (d : Option Tmp) (s t : ByteArray) (H : Heap) : callA (Cx e0) (lim (Cx e0)) me 100 d [.v (.string s), .v (.string t)] H = some (.v (.int .i64 (cmpW s t)), H) := by
  have he : (Cx e0).ext 100 = some cmpStr := rfl
  unfold callA
  rw [he]
  rfl
theorem ans68 (s t : ByteArray) : Ans (Cx e0) 76 [.v (.string s), .v (.string t)] (intA (cmpW s t)) := by
  unfold Ans
  rw [fn_step (fn_76 e0) (show Try.f76.body = some _ from rfl)]
  simp -implicitDefEqProofs only [Try.f76, go_sem, ↓reduceIte, Int.reduceEq, Int.reduceLT, Int.reduceLE, List.reduceReplicate, intA, setT_nil, setT_cons, call91]
theorem ans48 (s t : ByteArray) : Ans (Cx e0) 53 [.v (.string s), .v (.string t)] (intA (cmpW s t)) := by
  have h68 := fun me d H => (ans68 s t).call (me := me) (d := d) (ext_76 quiet0) (pure_76 _ _ _) rfl H
  unfold intA at h68
  unfold Ans
  rw [fn_step (fn_53 e0) (show Try.f53.body = some _ from rfl)]
  simp -implicitDefEqProofs only [Try.f53, go_sem, ↓reduceIte, Int.reduceEq, Int.reduceLT, Int.reduceLE, List.reduceReplicate, intA, setT_nil, setT_cons, h68]
theorem body48 : HasBody Try.prog 53 := ⟨Try.f53, Try.func53, by kernel_rfl, by kernel_rfl⟩
theorem body67 : HasBody Try.prog 75 := ⟨Try.f75, Try.func75, by kernel_rfl, by kernel_rfl⟩
theorem sorts67 : Sorts Try.prog 75 53 1 encW cmpW := by
  refine sorts_one (enc := Value.string) Try.sortSt Try.sortSt0 rfl body67 (fun x => rfl) swoW' body48 fun w x y => ?_
  refine calls_closed (nogo e0) (mixed e0) extOK0 (ans48 x y) (vals := [.string x, .string y]) w ?_
  refine ⟨rfl, fun i c v hc hv => ?_⟩
  match i with
  | 0 => simp at hc hv; subst hc hv; exact .v rfl
  | 1 => simp at hc hv; subst hc hv; exact .v rfl
  | i + 2 => simp at hc
/-! ### places in order -/
abbrev P3 := Int × Int × Int
def encP (p : P3) : List Value := [.int .i64 p.1, .int .i64 p.2.1, .int .i64 p.2.2]
def decP : List AV → Option P3
  | [.v (.int .i64 a), .v (.int .i64 b), .v (.int .i64 c)] => some (a, b, c)
  | _ => none
def p3V (p : P3) : AV := .agg [intA p.1, intA p.2.1, intA p.2.2]
def cmpPl (p q : P3) : Int := cmpP p.1 p.2.1 p.2.2 q.1 q.2.1 q.2.2
def ltP (p q : P3) : Bool := decide (p.1 < q.1 ∨ p.1 = q.1 ∧ (p.2.1 < q.2.1 ∨ p.2.1 = q.2.1 ∧ p.2.2 < q.2.2))
theorem ltF_P : ltF cmpPl = ltP := by
  funext p q
  unfold ltF ltP cmpPl cmpP
  congr 1
  simp only [orI, cmpI, eq_iff_iff]
  by_cases a1 : p.1 < q.1
  · simp [a1]
  · by_cases a2 : q.1 < p.1
    · simp [a1, a2]; omega
    · have a3 : p.1 = q.1 := by omega
      by_cases b1 : p.2.1 < q.2.1
      · simp [a3, b1]
      · by_cases b2 : q.2.1 < p.2.1
        · simp [a3, b1, b2]; omega
        · have b3 : p.2.1 = q.2.1 := by omega
          by_cases c1 : p.2.2 < q.2.2
          · simp [a3, b3, c1]
          · by_cases c2 : q.2.2 < p.2.2
            · simp [a3, b3, c1, c2]
            · simp [a3, b3, c1, c2]
theorem swoP : SWO (ltF cmpPl) := by
  rw [ltF_P]
  refine ⟨fun x => ?_, fun x y z h1 h2 => ?_, fun x y z h1 h2 => ?_⟩
  · simp [ltP]
  · simp only [ltP, decide_eq_true_eq] at *; omega
  · simp only [ltP, decide_eq_false_iff_not] at *; omega
def eqvP (p q : P3) : Bool := decide (p = q)
theorem codedP : Coded 3 encP decP := by
  refine ⟨by decide, fun _ => rfl, fun cs a h => ?_, fun _ => rfl, fun a v hv => ?_⟩
  · unfold decP at h
    split at h
    · simp only [Option.some.injEq] at h
      subst h; rfl
    · cases h
  · simp [encP] at hv
    rcases hv with rfl | rfl | rfl <;> rfl
theorem body85 : HasBody Try.prog 84 := ⟨Try.f84, Try.func84, by kernel_rfl, by kernel_rfl⟩
theorem body97 : HasBody Try.prog 105 := ⟨Try.f105, Try.func105, by kernel_rfl, by kernel_rfl⟩
theorem repL_ints (Z : Fzn) (p : P3) : Rep Z noPls (p3V p) (.agg (encP p).toArray) := by
  refine .agg rfl fun i c v hc hv => ?_
  match i with
  | 0 => simp [encP, intA] at hc hv; subst hc hv; exact .v rfl
  | 1 => simp [encP, intA] at hc hv; subst hc hv; exact .v rfl
  | 2 => simp [encP, intA] at hc hv; subst hc hv; exact .v rfl
  | i + 3 => simp at hc
theorem sorts97 : Sorts Try.prog 105 84 3 encP cmpPl := by
  refine sorts_many Try.sortPl rfl body97 (fun w => Try.isAgg26 w) (fun w => Try.sizeOf26 w) codedP (fun x v hv => ?_) swoP body85 fun w x y => ?_
  · simp [encP] at hv
    rcases hv with rfl | rfl | rfl <;> rfl
  · have h := ans85 quiet0 x.1 x.2.1 x.2.2 y.1 y.2.1 y.2.2
    refine calls_closed (nogo e0) (mixed e0) extOK0 h (vals := [.agg (encP x).toArray, .agg (encP y).toArray]) w ?_
    refine ⟨rfl, fun i c v hc hv => ?_⟩
    match i with
    | 0 => simp at hc hv; subst hc hv; exact repL_ints _ x
    | 1 => simp at hc hv; subst hc hv; exact repL_ints _ y
    | i + 2 => simp at hc
end Go.Ev
namespace Go.Ev
open Go.Proofs Go.Sort
set_option maxRecDepth 100000
set_option linter.unusedSimpArgs false
/-! ### the configuration of a law -/
/-- the functions that sort places, and words -/
noncomputable def sortPl97 : List AV → Heap → Option (AV × Heap) := Go.Ev.sortH 3 encP decP eqvP cmpPl 84
noncomputable def sortSt67 : List AV → Heap → Option (AV × Heap) := Go.Ev.sortH 1 encW decW eqvW cmpW 53
noncomputable def eA : Exts := { x := e0.x, l1 := some sortPl97, l2 := some sortSt67 }
theorem extOKA : ExtOK (Cx eA) := by
  have hx := extOK0
  refine ⟨hx.ext, fun f g hf args H v H' h => ?_⟩
  have hf' : (if Nat.beq f 105 then some sortPl97 else if Nat.beq f 75 then some sortSt67 else none) = some g := hf
  split at hf'
  · rename_i hb
    have := Nat.eq_of_beq_eq_true hb
    subst this
    simp only [Option.some.injEq] at hf'
    subst hf'
    exact sortH_meets swoP codedP (fun a b h => of_decide_eq_true h) sorts97 h
  · split at hf'
    · rename_i hb
      have := Nat.eq_of_beq_eq_true hb
      subst this
      simp only [Option.some.injEq] at hf'
      subst hf'
      exact sortH_meets swoW' codedW (fun a b h => of_decide_eq_true h) sorts67 h
    · cases hf'
theorem quietA : Quiet eA := quiet0
end Go.Ev
namespace Go.Ev
open Go.Proofs Go.Sort
set_option maxRecDepth 100000
set_option linter.unusedSimpArgs false
/-! ### the configuration in which places are sorted -/
noncomputable def Cs : Cfg := Cx eA
theorem extOKS : ExtOK Cs := extOKA
def toldF : List Nat := [8, 16, 46, 86, 10, 29, 40, 58, 59]
theorem toldF_ok {f : FuncId} (hf : toldF.contains f = true) : (Cx eA).ext f = none ∧ ∀ me d, (Cx eA).pure me f d = true := by
  have h : f ∈ toldF := by simpa using hf
  simp only [toldF, List.mem_cons, List.not_mem_nil, or_false] at h
  rcases h with rfl | rfl | rfl | rfl | rfl | rfl | rfl | rfl | rfl
  · exact ⟨ext_8 quietA, pure_8 eA⟩
  · exact ⟨ext_16 quietA, pure_16 eA⟩
  · exact ⟨ext_46 quietA, pure_46 eA⟩
  · exact ⟨ext_86 quietA, pure_86 eA⟩
  · exact ⟨ext_10 quietA, pure_10 eA⟩
  · exact ⟨ext_29 quietA, pure_29 eA⟩
  · exact ⟨ext_40 quietA, pure_40 eA⟩
  · exact ⟨ext_58 quietA, pure_58 eA⟩
  · exact ⟨ext_59 quietA, pure_59 eA⟩
theorem told {f : FuncId} (hf : toldF.contains f = true) {args : List AV} {v : AV} (h : Ans (Cx eA) f args v) (hb : boundL args = 0) (me : FuncId) (d : Option Tmp) (H : Heap) : callA Cs (lim Cs) me f d args H = some (v, H) :=
  h.call (C := Cx eA) (toldF_ok hf).1 ((toldF_ok hf).2 me d) hb H
end Go.Ev
namespace Go.Ev
open Go.Proofs Go.Sort
set_option maxRecDepth 100000
set_option linter.unusedSimpArgs false
attribute [local irreducible] Wp WpS
/-! ### rows of places -/
def clP (ps : List P3) : List AV := (flatE encP ps).map AV.v
/-! ### sorting -/
end Go.Ev
namespace Go.Ev
open Go.Proofs Go.Sort
set_option maxRecDepth 100000
set_option linter.unusedSimpArgs false
/-! ### places in doubt -/
def atR (r : Rd) : P3 := (r.ch, r.ln, r.wd)
end Go.Ev
namespace Go.Ev
open Go.Proofs Go.Sort
set_option maxRecDepth 100000
set_option linter.unusedSimpArgs false
attribute [local irreducible] Wp WpS
variable {C : Cfg} {me : FuncId} {a : AAct} {H : Heap} {s : Nat} {K : PostO} {d : Option Tmp}
theorem slIdx_at (sz b v o len : Nat) (c : Option Nat) (i : Nat) (h : i < len) : slIdx sz (.sl b v o len c) (.v (.int .i64 (i : Int))) = some (.ptr b v (o + i * sz)) := by
  unfold slIdx
  simp only [Int.toNat_natCast]
  rw [if_pos (by omega)]
end Go.Ev
namespace Go.Ev
open Go.Proofs
set_option maxRecDepth 100000
set_option linter.unusedSimpArgs false
attribute [local irreducible] Wp WpS
theorem repeat_one (z : AV) : ∀ n : Nat, repeatCells [z] n = List.replicate n z
  | 0 => rfl
  | n + 1 => by
    show [z] ++ repeatCells [z] n = _
    rw [repeat_one z n]; rfl
theorem mk177 (H : Heap) (s n : Nat) (hn : n < 1000) : makeSliceA Try.prog H s 177 (.v (.int .i64 (n : Int))) (.v (.int .i64 (n : Int))) = some (.sl s 0 0 n (some n), H.put s (.cells 0 0 144 1 false (List.replicate n (.v (.slice none 0 0))))) := by
  have hu : Try.prog.underlying 177 = some (.slice 144) := by kernel_rfl
  have hi : (Try.prog.info? 144).map (fun i => (i.size, i.bytes)) = some (1, 24) := by kernel_rfl
  have hz : zeroT Try.prog 144 = some (.v (.slice none 0 0)) := by kernel_rfl
  obtain ⟨i, hi1, hi2⟩ := Option.map_eq_some_iff.1 hi
  simp only [Prod.mk.injEq] at hi2
  unfold makeSliceA
  simp only [hu, hi1, hz, hi2.1, hi2.2]
  rw [if_pos ⟨by omega, by omega, by omega, by omega, by omega, rfl, rfl⟩, Int.toNat_natCast]
  show some (AV.sl s 0 0 n (some n), H.put s (.cells 0 0 144 1 false (repeatCells [.v (.slice none 0 0)] n))) = _
  rw [repeat_one]
theorem mk144 (H : Heap) (s n : Nat) (hn : n < 1000) : makeSliceA Try.prog H s 144 (.v (.int .i64 (n : Int))) (.v (.int .i64 (n : Int))) = some (.sl s 0 0 n (some n), H.put s (.cells 0 0 3 1 false (List.replicate n (intA 0)))) := by
  have hu : Try.prog.underlying 144 = some (.slice 3) := by kernel_rfl
  have hi : (Try.prog.info? 3).map (fun i => (i.size, i.bytes)) = some (1, 8) := by kernel_rfl
  have hz : zeroT Try.prog 3 = some (intA 0) := by kernel_rfl
  obtain ⟨i, hi1, hi2⟩ := Option.map_eq_some_iff.1 hi
  simp only [Prod.mk.injEq] at hi2
  unfold makeSliceA
  simp only [hu, hi1, hz, hi2.1, hi2.2]
  rw [if_pos ⟨by omega, by omega, by omega, by omega, by omega, rfl, rfl⟩, Int.toNat_natCast]
  show some (AV.sl s 0 0 n (some n), H.put s (.cells 0 0 3 1 false (repeatCells [intA 0] n))) = _
  rw [repeat_one]
theorem splice_set (l : List AV) (k : Nat) (x : AV) (hk : k < l.length) : splice k [x] l = l.set k x := by
  unfold splice
  apply List.ext_getElem?
  intro n
  rw [List.getElem?_set, List.append_assoc]
  by_cases h1 : n < k
  · rw [List.getElem?_append_left (by rw [List.length_take]; omega), List.getElem?_take, if_pos h1, if_neg (by omega)]
  · rw [List.getElem?_append_right (by rw [List.length_take]; omega), List.length_take, Nat.min_eq_left (by omega)]
    by_cases h2 : k = n
    · subst h2; rw [Nat.sub_self, if_pos rfl, if_pos hk]; rfl
    · rw [if_neg h2, show n - k = (n - k - 1) + 1 by omega]
      show ((l.drop (k + 1)))[n - k - 1]? = _
      rw [List.getElem?_drop]; congr 1; omega
theorem min_two (x y : Nat) : minmaxA false (.v (.int .i64 (x : Int))) [.v (.int .i64 (y : Int))] = some (.v (.int .i64 ((min x y : Nat) : Int))) := by
  unfold minmaxA minmax2
  simp only [Bool.false_eq_true, if_false]
  unfold minmaxA
  by_cases h : (y : Int) < (x : Int)
  · rw [if_pos h, Nat.min_eq_right (by omega)]
  · rw [if_neg h, Nat.min_eq_left (by omega)]
theorem way_all : ∀ (xs ys : Line), Way2 (xs.length + ys.length) xs ys
  | [], ys => by rw [List.length_nil, Nat.zero_add]; exact Way2.puts ys
  | x :: xs, ys => by
    have h := Way2.leave x (way_all xs ys)
    rwa [show xs.length + ys.length + 1 = (x :: xs).length + ys.length by simp; omega] at h
theorem dist_bd (xs ys : Line) : distL xs ys ≤ xs.length + ys.length := dist_le _ _ _ (way_all xs ys)
theorem take_set (l : List AV) (k : Nat) (x : AV) (hk : k < l.length) : l.take k ++ [x] ++ l.drop (k + 1) = l.set k x := splice_set l k x hk
theorem replicate_bd : ∀ n : Nat, boundL (List.replicate n (AV.v (.slice none 0 0))) = 0
  | 0 => rfl
  | n + 1 => by rw [List.replicate_succ, boundL_cons, replicate_bd n]; rfl
theorem replicate_fl : ∀ n : Nat, (List.replicate n (AV.v (.slice none 0 0))).all AV.flat = true
  | 0 => rfl
  | n + 1 => by rw [List.replicate_succ, List.all_cons, replicate_fl n]; rfl
def row109 (a b : Line) (r : Nat) : List AV := (List.range (b.length + 1)).map fun k => intA (distL (a.drop r) (b.drop k))
def part109 (a b : Line) (r q : Nat) : List AV := (List.range (b.length + 1)).map fun k => if q ≤ k then intA (distL (a.drop r) (b.drop k)) else intA 0
theorem row109_at {a b : Line} {r k : Nat} (h : k ≤ b.length) : (row109 a b r)[k]? = some (intA (distL (a.drop r) (b.drop k))) := by
  unfold row109; rw [List.getElem?_map, List.getElem?_range (by omega)]; rfl
theorem part109_at {a b : Line} {r q k : Nat} (h : k ≤ b.length) (hq : q ≤ k) : (part109 a b r q)[k]? = some (intA (distL (a.drop r) (b.drop k))) := by
  unfold part109; rw [List.getElem?_map, List.getElem?_range (by omega)]; simp [hq]
theorem part109_len (a b : Line) (r q : Nat) : (part109 a b r q).length = b.length + 1 := by unfold part109; simp
theorem part109_zero (a b : Line) (r : Nat) : part109 a b r (b.length + 1) = List.replicate (b.length + 1) (intA 0) := by
  apply List.ext_getElem?
  intro n
  unfold part109
  rw [List.getElem?_map, List.getElem?_replicate]
  by_cases hn : n < b.length + 1
  · rw [List.getElem?_range hn, if_pos hn]; simp; omega
  · rw [List.getElem?_eq_none (by simp; omega), if_neg hn]; rfl
theorem part109_done (a b : Line) (r : Nat) : part109 a b r 0 = row109 a b r := by unfold part109 row109; simp
theorem part109_step (a b : Line) (r k : Nat) (_hk : k ≤ b.length) : (part109 a b r (k + 1)).set k (intA (distL (a.drop r) (b.drop k))) = part109 a b r k := by
  apply List.ext_getElem?
  intro n
  rw [List.getElem?_set, part109_len]
  unfold part109
  rw [List.getElem?_map, List.getElem?_map]
  by_cases hn : n < b.length + 1
  · rw [List.getElem?_range hn]
    by_cases h : k = n
    · subst h; simp; omega
    · rw [if_neg h]; simp only [Option.map_some]
      by_cases h2 : k ≤ n
      · rw [if_pos (by omega), if_pos h2]
      · rw [if_neg (by omega), if_neg h2]
  · rw [List.getElem?_eq_none (l := List.range (b.length + 1)) (by simp; omega)]
    rw [if_neg (by omega)]; rfl
def tab109 (a b : Line) : AV := .vs 1 ((List.range (a.length + 1)).map fun r => .vs 1 (row109 a b r) none) none
theorem FzL.of_get {X : Heap} {S : Nat → Prop} {d : Nat} : ∀ {l m : List AV}, l.length = m.length → (∀ (i : Nat) (x y : AV), l[i]? = some x → m[i]? = some y → Fz X S d x y) → FzL X S d l m
  | [], [], _, _ => trivial
  | x :: r, y :: s, hl, h => ⟨h 0 x y rfl rfl, FzL.of_get (by simpa using hl) fun i a b ha hb => h (i + 1) a b (by simpa using ha) (by simpa using hb)⟩
  | [], _ :: _, hl, _ => by simp at hl
  | _ :: _, [], hl, _ => by simp at hl
theorem FzL.vals {X : Heap} {S : Nat → Prop} : ∀ {l : List AV}, (∀ x ∈ l, ∃ v, x = .v v) → FzL X S 1 l l
  | [], _ => trivial
  | x :: r, h => ⟨by obtain ⟨v, rfl⟩ := h x (by simp); exact Fz.v X S v, FzL.vals fun y hy => h y (by simp [hy])⟩
theorem row109_vals (a b : Line) (r : Nat) : ∀ x ∈ row109 a b r, ∃ v, x = .v v := fun x hx => by
  obtain ⟨k, -, rfl⟩ := List.mem_map.1 hx; exact ⟨_, rfl⟩
theorem row109_len (a b : Line) (r : Nat) : (row109 a b r).length = b.length + 1 := by unfold row109; simp
theorem vals_bd {l : List AV} (h : ∀ x ∈ l, ∃ v, x = AV.v v) : boundL l = 0 := Nat.le_zero.1 (boundL_le.2 fun x hx => by obtain ⟨v, rfl⟩ := h x hx; exact Nat.le_refl _)
structure Tab109 (X : Heap) (a b : Line) (s m : Nat) (c0 : List AV) : Prop where
  z : X.get 0 = some (.cells 0 m 144 1 false c0)
  len : c0.length = a.length + 1
  bd : boundL c0 ≤ m
  fl : c0.all AV.flat = true
  sz : X.size = a.length + 2 - s
  ptr : ∀ r, s ≤ r → r ≤ a.length → c0[r]? = some (.sl (a.length + 1 - r) 0 0 (b.length + 1) (some (b.length + 1)))
  row : ∀ r, s ≤ r → r ≤ a.length → X.get (a.length + 1 - r) = some (.cells 0 0 3 1 false (row109 a b r))
def Out109 (a b : Line) (x y : AV) : Inv := fun μ A X => A = ⟨121, [(0, x), (1, y), (4, .v (.slice none 0 0)), (5, .sl 0 0 0 (a.length + 1) (some (a.length + 1))), (6, .v (.int .i64 ((μ : Int) - 1)))], []⟩ ∧ X.lock = 0 ∧ μ ≤ a.length + 1 ∧ ∃ m c0, Tab109 X a b μ m c0
def In109 (a b : Line) (x y : AV) (X : Heap) (i N m : Nat) (c1 : List AV) : Inv := fun μ A Y => A = ⟨121, [(0, x), (1, y), (4, .v (.slice none 0 0)), (5, .sl 0 0 0 (a.length + 1) (some (a.length + 1))), (6, intA i), (15, .v (.bool true)), (7, .v (.int .i64 ((μ : Int) - 1)))], []⟩ ∧ Y.lock = 0 ∧ μ ≤ b.length + 1 ∧ Y.size = N + 1 ∧ Y.get 0 = some (.cells 0 m 144 1 false c1) ∧ Y.get N = some (.cells 0 0 3 1 false (part109 a b i μ)) ∧ ∀ k, k ≠ 0 → k ≠ N → k < N → Y.get k = X.get k
set_option maxHeartbeats 4000000 in
theorem ansF109 {e : Exts} (a b : Line) (x y : AV) (hx : SlOf 1 (strs a) x) (hy : SlOf 1 (strs b) y) (ha : a.length < 500) (hb : b.length < 500) : Ans (Cx e) 109 [x, y] (tab109 a b) := by
  unfold Ans
  rw [fn_step (fn_109 e) (show Try.f109.body = some _ from rfl)]
  have hla := strs_len a
  have hlb := strs_len b
  have hwa : IntKind.i64.wrap ((a.length : Int) + 1) = ((a.length + 1 : Nat) : Int) := wrap_succ _ (by omega)
  have hwb : IntKind.i64.wrap ((b.length : Int) + 1) = ((b.length + 1 : Nat) : Int) := wrap_succ _ (by omega)
  simp -implicitDefEqProofs only [Try.f109, go_sem, ↓reduceIte, Int.reduceEq, Int.reduceLT, Int.reduceLE, List.reduceReplicate, intA, setT_nil, setT_cons, hx.cells, hx.flat, hx.bound, hx.len, hla, hlb, hwa, mk177 _ _ _ (show a.length + 1 < 1000 by omega)]
  refine Lp_ruleQ (P := Out109 a b x y) ?_ (a.length + 1) _ _ ⟨by rw [show (((a.length + 1 : Nat) : Int) - 1) = (a.length : Int) by omega], rfl, Nat.le_refl _, _, _, rfl, by simp, by rw [Nat.le_zero]; exact replicate_bd _, replicate_fl _, by show 1 = _; omega, fun r h1 h2 => by omega, fun r h1 h2 => by omega⟩
  rintro Q KK hQ hKK μ _ X ⟨rfl, hXl, hμ, m, c0, hT⟩
  generalize hN : X.size = N at *
  have hNa := hT.sz
  rw [hN] at hNa
  have hlkN : X.lock ≤ N := by omega
  rw [← plus_nil X]
  cases μ with
  | zero =>
    have hlt : ¬ ((0 : Int) ≤ ((0 : Nat) : Int) - 1) := by omega
    simp -implicitDefEqProofs only [go_sem, ↓reduceIte, Int.reduceEq, Int.reduceLT, Int.reduceLE, List.reduceReplicate, intA, setT_nil, setT_cons, hlt, decide_false, ↓boolP_bool, ↓iteB_true, ↓iteB_false]
    rw [plus_nil, trim_self hN]
    refine hKK _ _ _ ?_
    simp -implicitDefEqProofs only [go_sem, ↓reduceIte, Int.reduceEq, Int.reduceLT, Int.reduceLE, List.reduceReplicate, intA, setT_nil, setT_cons]
    show freezeV { X with lock := 0 } 1000000 _ = some _
    have hX0 : ({ X with lock := 0 } : Heap) = X := by cases X; simp only at hXl; subst hXl; rfl
    rw [hX0]
    have hz := Fz.row (X := X) (S := fun _ => True) (d' := 10000) (n := a.length + 1) (b := 0) (d := 2000) (ys := (List.range (a.length + 1)).map fun r => .vs 1 (row109 a b r) none) trivial hT.z (FzL.of_get (by rw [hT.len]; simp) fun i p q hp hq => by
      have hi := (List.getElem?_eq_some_iff.1 hp).1
      rw [hT.len] at hi
      rw [hT.ptr i (Nat.zero_le _) (by omega)] at hp
      rw [List.getElem?_map, List.getElem?_range (by omega)] at hq
      obtain rfl := Option.some.inj hp
      obtain rfl := Option.some.inj hq
      have h1 := Fz.row (X := X) (S := fun _ => True) (d' := 2000) (n := b.length + 1) (b := a.length + 1 - i) (ys := row109 a b i) trivial (hT.row i (Nat.zero_le _) (by omega)) (FzL.vals (row109_vals a b i)) (by rw [vals_bd (row109_vals a b i)]; exact Nat.le_refl _) Nat.zero_lt_one (by rw [row109_len]; omega) (some (b.length + 1)) (by rw [row109_len]; omega)
      have h2 := chunk_one (row109 a b i)
      rw [row109_len] at h2
      rw [h2] at h1
      exact h1) hT.bd Nat.zero_lt_one (by rw [hT.len]; omega) (some (a.length + 1)) (by rw [hT.len]; omega)
    have h3 := chunk_one ((List.range (a.length + 1)).map fun r => AV.vs 1 (row109 a b r) none)
    rw [List.length_map, List.length_range] at h3
    rw [h3] at hz
    exact hz.2 X hXl (fun _ _ => rfl) 1000000 (by omega)
  | succ i =>
    rw [show (((i + 1 : Nat) : Int) - 1) = (i : Int) by omega]
    have hlt : (0 : Int) ≤ (i : Int) := by omega
    have hi1 := slIdx_at 1 0 0 0 (a.length + 1) (some (a.length + 1)) i (by omega)
    rw [Nat.zero_add, Nat.mul_one] at hi1
    have hst := fun b' v' o' l' c' E => storeLoK (X := X) (b := 0) (v := 0) (k := i) (x := .sl b' v' o' l' c') (by omega) (by omega) (get_row hT.z) (by rw [hT.len]; omega) rfl E
    have hsp := fun x => take_set c0 i x (by rw [hT.len]; omega)
    simp -implicitDefEqProofs only [go_sem, ↓reduceIte, Int.reduceEq, Int.reduceLT, Int.reduceLE, List.reduceReplicate, intA, setT_nil, setT_cons, hlt, hi1, hwb, hst, hsp, hlb, hy.len, hy.cells, hx.cells, bound_sl, mk144 _ _ _ (show b.length + 1 < 1000 by omega), sizeP hN, putP0 hN, putP hN, settleP0 hN, settleP hN, rowP0 hN, rowP hN, storeP0 hN hlkN, storeP hN hlkN, ↓boolP_bool, ↓iteB_true, ↓iteB_false]
    have hm1 : N + 1 ≤ (if m ≤ N + 1 then N + 1 else m) ∧ m ≤ (if m ≤ N + 1 then N + 1 else m) := by split <;> omega
    generalize (if m ≤ N + 1 then N + 1 else m) = m1 at *
    generalize hc1 : c0.set i (.sl N 0 0 (b.length + 1) (some (b.length + 1))) = c1
    have hZs : (X.put 0 (.cells 0 m1 144 1 false c1)).size = N := by rw [put_sizeI _ (by omega)]; exact hN
    have hZ0 := put_get_eq (H := X) (b := 0) (.cells 0 m1 144 1 false c1) (by omega)
    have hZg : ∀ k, k ≠ 0 → (X.put 0 (.cells 0 m1 144 1 false c1)).get k = X.get k := fun k hk => put_get_ne _ (by omega) hk
    have hZl : (X.put 0 (.cells 0 m1 144 1 false c1)).lock = 0 := hXl
    generalize X.put 0 (.cells 0 m1 144 1 false c1) = Z at *
    rw [settleP0 hZs, List.drop_zero, if_neg (by simp), show List.replicate (b.length + 1) (AV.v (.int .i64 0)) = part109 a b i (b.length + 1) from (part109_zero a b i).symm]
    refine Lp_ruleQ (P := In109 a b x y X i N m1 c1) ?_ (b.length + 1) _ _ ⟨by rw [show (((b.length + 1 : Nat) : Int) - 1) = (b.length : Int) by omega]; rfl, hZl, Nat.le_refl _, by rw [plus_size, hZs]; rfl, by rw [plus_get _ (by omega)]; exact hZ0, plus_at hZs _ 0, fun k h1 _ h3 => by rw [plus_get _ (by omega)]; exact hZg k h1⟩
    clear hst hsp hZs hZ0 hZg hZl
    rintro Q2 K2 hQ2 hK2 μ2 _ Y ⟨rfl, hYl, hμ2, hYs, hY0, hYN, hYg⟩
    have hlkM : Y.lock ≤ N + 1 := by omega
    rw [← plus_nil Y]
    cases μ2 with
    | zero =>
      have hlt : ¬ ((0 : Int) ≤ ((0 : Nat) : Int) - 1) := by omega
      simp -implicitDefEqProofs only [go_sem, ↓reduceIte, Int.reduceEq, Int.reduceLT, Int.reduceLE, List.reduceReplicate, intA, setT_nil, setT_cons, hlt, decide_false, ↓boolP_bool, ↓iteB_true, ↓iteB_false]
      refine hK2 _ _ _ ?_
      simp -implicitDefEqProofs only [go_sem, ↓reduceIte, Int.reduceEq, Int.reduceLT, Int.reduceLE, List.reduceReplicate, intA, setT_nil, setT_cons]
      rw [plus_nil] 
      have hwi : IntKind.i64.wrap ((i : Int) - 1) = (i : Int) - 1 := wrap_in _ (by omega) (by omega)
      rw [trim_keep (b := 0) (by omega) hY0 (by show N < m1; omega), hwi]
      refine Again.mk' i (by omega) (hQ _ _ _ ⟨rfl, hYl, by omega, m1, c1, hY0, by rw [← hc1, List.length_set]; exact hT.len, ?_, ?_, by rw [hYs]; omega, fun r h1 h2 => ?_, fun r h1 h2 => ?_⟩)
      · rw [← hc1]
        refine boundL_le.2 fun z hz => ?_
        rcases List.mem_or_eq_of_mem_set hz with hz | rfl
        · exact Nat.le_trans (boundL_le.1 hT.bd z hz) hm1.2
        · exact hm1.1
      · rw [← hc1, List.all_eq_true]
        intro z hz
        rcases List.mem_or_eq_of_mem_set hz with hz | rfl
        · exact List.all_eq_true.1 hT.fl z hz
        · rfl
      · rw [← hc1, List.getElem?_set]
        by_cases hir : i = r
        · subst hir
          rw [if_pos rfl, if_pos (by rw [hT.len]; omega), show a.length + 1 - i = N by omega]
        · rw [if_neg hir]; exact hT.ptr r (by omega) h2
      · by_cases hir : i = r
        · subst hir
          rw [show a.length + 1 - i = N by omega, hYN, part109_done]
        · rw [hYg _ (by omega) (by omega) (by omega)]; exact hT.row r (by omega) h2
    | succ k =>
      rw [show (((k + 1 : Nat) : Int) - 1) = (k : Int) by omega]
      have hlt : (0 : Int) ≤ (k : Int) := by omega
      have hr0 : ∀ E, (Y.plus E).row 0 0 = some (m1, 144, 1, false, c1) := fun E => by rw [rowLo (by omega)]; exact get_row hY0
      have hrN : ∀ E, (Y.plus E).row N 0 = some (0, 3, 1, false, part109 a b i (k + 1)) := fun E => by rw [rowLo (by omega)]; exact get_row hYN
      have hci : c1[i]? = some (.sl N 0 0 (b.length + 1) (some (b.length + 1))) := by rw [← hc1, List.getElem?_set, if_pos rfl, if_pos (by rw [hT.len]; omega)]
      have hk1 := slIdx_at 1 N 0 0 (b.length + 1) (some (b.length + 1)) k (by omega)
      rw [Nat.zero_add, Nat.mul_one] at hk1
      have hst := fun z E => storeLoK (X := Y) (b := N) (v := 0) (k := k) (x := .v z) (by omega) (by omega) (get_row hYN) (by rw [part109_len]; omega) rfl E
      have hsp := fun x => take_set (part109 a b i (k + 1)) k x (by rw [part109_len]; omega)
      have hwk : IntKind.i64.wrap ((k : Int) - 1) = (k : Int) - 1 := wrap_in _ (by omega) (by omega)
      have hYNs : ∀ o, (Y.put N o).size = N + 1 := fun o => by rw [put_sizeI _ (by omega)]; exact hYs
      have hend : ∀ z : Int, z = (distL (a.drop i) (b.drop k) : Nat) → Again Q2 (k + 1) ⟨121, [(0, x), (1, y), (4, .v (.slice none 0 0)), (5, .sl 0 0 0 (a.length + 1) (some (a.length + 1))), (6, intA i), (15, .v (.bool true)), (7, .v (.int .i64 ((k : Int) - 1)))], []⟩ (Y.put N (.cells 0 0 3 1 false ((part109 a b i (k + 1)).set k (.v (.int .i64 z))))) := by
        intro z hz
        subst hz
        refine Again.mk' k (by omega) (hQ2 _ _ _ ⟨rfl, hYl, by omega, hYNs _, by rw [put_get_ne _ (by omega) (by omega)]; exact hY0, ?_, fun j h1 h2 h3 => by rw [put_get_ne _ (by omega) h2]; exact hYg j h1 h2 h3⟩)
        rw [put_get_eq _ (by omega), show AV.v (.int .i64 ((distL (a.drop i) (b.drop k) : Nat) : Int)) = intA (distL (a.drop i) (b.drop k) : Nat) from rfl, part109_step a b i k (by omega)]
      unfold intA at hend
      by_cases hia : i = a.length
      · have hqa : decide ((i : Int) = (a.length : Int)) = true := decide_eq_true (by omega)
        have hws : IntKind.i64.wrap ((b.length : Int) - (k : Int)) = ((b.length - k : Nat) : Int) := by rw [wrap_in _ (by omega) (by omega)]; omega
        simp -implicitDefEqProofs only [go_sem, ↓reduceIte, Int.reduceEq, Int.reduceLT, Int.reduceLE, List.reduceReplicate, intA, setT_nil, setT_cons, hlt, hqa, hws, hr0, hrN, hci, hi1, hk1, hla, hlb, hst, hsp, hx.len, hy.len, hx.cells, hy.cells, sizeP hYs, putP0 hYs, putP hYs, settleP0 hYs, settleP hYs, ↓boolP_bool, ↓iteB_true, ↓iteB_false]
        rw [none_end (hYNs _) rfl, hwk]
        refine hend _ ?_
        rw [List.drop_of_length_le (by omega), distL_nil, List.length_drop]
      · have hqa : decide ((i : Int) = (a.length : Int)) = false := decide_eq_false (by omega)
        by_cases hkb : k = b.length
        · have hqb : decide ((k : Int) = (b.length : Int)) = true := decide_eq_true (by omega)
          have hws : IntKind.i64.wrap ((a.length : Int) - (i : Int)) = ((a.length - i : Nat) : Int) := by rw [wrap_in _ (by omega) (by omega)]; omega
          simp -implicitDefEqProofs only [go_sem, ↓reduceIte, Int.reduceEq, Int.reduceLT, Int.reduceLE, List.reduceReplicate, intA, setT_nil, setT_cons, hlt, hqa, hws, hqb, hr0, hrN, hci, hi1, hk1, hla, hlb, hst, hsp, hx.len, hy.len, hx.cells, hy.cells, sizeP hYs, putP0 hYs, putP hYs, settleP0 hYs, settleP hYs, ↓boolP_bool, ↓iteB_true, ↓iteB_false]
          rw [none_end (hYNs _) rfl, hwk]
          refine hend _ ?_
          rw [List.drop_of_length_le (l := b) (by omega), distL_nilr, List.length_drop]
        · have hqb : decide ((k : Int) = (b.length : Int)) = false := decide_eq_false (by omega)
          obtain ⟨s, hs⟩ := at_lt a i (by omega)
          obtain ⟨s2, hs2⟩ := at_lt b k (by omega)
          have hxi := hx.idx (strs_get hs)
          have hyi := hy.idx (strs_get hs2)
          simp -implicitDefEqProofs only [go_sem, ↓reduceIte, Int.reduceEq, Int.reduceLT, Int.reduceLE, List.reduceReplicate, intA, setT_nil, setT_cons, hlt, hqa, hqb, hr0, hrN, hci, hi1, hk1, hla, hlb, hst, hsp, hx.len, hy.len, hx.cells, hy.cells, sizeP hYs, putP0 hYs, putP hYs, settleP0 hYs, settleP hYs, ↓boolP_bool, ↓iteB_true, ↓iteB_false]
          generalize hB1 : a.length + 1 - (i + 1) = B1
          have hB1N : B1 + 1 = N := by omega
          have hB0 : B1 ≠ 0 := by omega
          have hci1 : c1[i + 1]? = some (.sl B1 0 0 (b.length + 1) (some (b.length + 1))) := by
            rw [← hc1, List.getElem?_set, if_neg (by omega), ← hB1]
            exact hT.ptr (i + 1) (Nat.le_refl _) (by omega)
          have hrB : ∀ E, (Y.plus E).row B1 0 = some (0, 3, 1, false, row109 a b (i + 1)) := fun E => by
            rw [rowLo (by omega)]
            refine get_row ((hYg B1 hB0 (by omega) (by omega)).trans ?_)
            rw [← hB1]; exact hT.row (i + 1) (Nat.le_refl _) (by omega)
          have hwi := wrap_succ i (by omega)
          have hwk1 := wrap_succ k (by omega)
          have hi2 := slIdx_at 1 0 0 0 (a.length + 1) (some (a.length + 1)) (i + 1) (by omega)
          have hk2 := slIdx_at 1 B1 0 0 (b.length + 1) (some (b.length + 1)) (k + 1) (by omega)
          have hk3 := slIdx_at 1 B1 0 0 (b.length + 1) (some (b.length + 1)) k (by omega)
          have hk4 := slIdx_at 1 N 0 0 (b.length + 1) (some (b.length + 1)) (k + 1) (by omega)
          rw [Nat.zero_add, Nat.mul_one] at hi2 hk2 hk3 hk4
          have ha1 := row109_at (a := a) (b := b) (r := i + 1) (k := k + 1) (by omega)
          have ha2 := row109_at (a := a) (b := b) (r := i + 1) (k := k) (by omega)
          have ha3 := part109_at (a := a) (b := b) (r := i) (q := k + 1) (k := k + 1) (by omega) (Nat.le_refl _)
          have hda : a.drop i = s :: a.drop (i + 1) := by
            rw [List.drop_eq_getElem_cons (by omega)]; congr 1; rw [List.getElem?_eq_getElem (by omega)] at hs; exact Option.some.inj hs
          have hdb : b.drop k = s2 :: b.drop (k + 1) := by
            rw [List.drop_eq_getElem_cons (by omega)]; congr 1; rw [List.getElem?_eq_getElem (by omega)] at hs2; exact Option.some.inj hs2
          unfold intA at ha1 ha2 ha3
          have hww : IntKind.i64.wrap (1 + ((min (distL (a.drop (i + 1)) (b.drop (k + 1))) (min (distL (a.drop (i + 1)) (b.drop k)) (distL (a.drop i) (b.drop (k + 1)))) : Nat) : Int)) = ((1 + min (distL (a.drop (i + 1)) (b.drop (k + 1))) (min (distL (a.drop (i + 1)) (b.drop k)) (distL (a.drop i) (b.drop (k + 1)))) : Nat) : Int) := by
            have h1 := dist_bd (a.drop (i + 1)) (b.drop (k + 1))
            have h2 := Nat.min_le_left (distL (a.drop (i + 1)) (b.drop (k + 1))) (min (distL (a.drop (i + 1)) (b.drop k)) (distL (a.drop i) (b.drop (k + 1))))
            rw [List.length_drop, List.length_drop] at h1
            rw [wrap_in _ (by omega) (by omega)]; omega
          have hl0 : ltB 0 (N + 1) = true := by unfold ltB; exact decide_eq_true (by omega)
          have hlB : ltB B1 (N + 1) = true := by unfold ltB; exact decide_eq_true (by omega)
          have hlN : ltB N (N + 1) = true := by unfold ltB; exact decide_eq_true (by omega)
          refine wp_draw (by kernel_rfl) ?_
          cases hss : decide (s = s2)
          · simp -implicitDefEqProofs only [go_sem, ↓reduceIte, Int.reduceEq, Int.reduceLT, Int.reduceLE, List.reduceReplicate, intA, setT_nil, setT_cons, hlt, hqa, hqb, hxi, hyi, hss, hr0, hrN, hci, hi1, hk1, hla, hlb, hst, hsp, hx.len, hy.len, hx.cells, hy.cells, sizeP hYs, putP0 hYs, putP hYs, settleP0 hYs, settleP hYs, ↓boolP_bool, ↓iteB_true, ↓iteB_false]
            refine wp_drawX [([], [], false), ([], [], false), ([], [], false), ([], [], false), ([], [], false), ([], [], false), ([], [], false), ([], [], false), ([], [], false), ([3], [], false), ([], [], false), ([], [], false), ([], [], false), ([3], [], false), ([], [], false), ([], [], false), ([], [], false), ([], [], false), ([3, 9, 13], [], false), ([], [], false), ([], [], false), ([3, 9, 13], [], false), ([], [], false), ([], [], false), ([], [], false), ([3, 9, 13, 18, 21], [], false), ([], [], false), ([], [], false), ([], [], false), ([3, 9, 13, 18, 21], [], false), ([3, 9, 13], [], false), ([3], [], false), ([], [], false), ([], [], false), ([], [], false)] (by kernel_rfl) (by kernel_rfl) ?_
            simp -implicitDefEqProofs only [go_sem, ↓reduceIte, Int.reduceEq, Int.reduceLT, Int.reduceLE, List.reduceReplicate, intA, setT_nil, setT_cons, min_two, hww, hlt, hqa, hqb, hci1, hrB, hwi, hwk1, hi2, hk2, hk3, hk4, ha1, ha2, ha3, hl0, hlB, hlN, List.all_cons, List.all_nil, Bool.and_self, Bool.true_or, hr0, hrN, hci, hi1, hk1, hla, hlb, hst, hsp, hx.len, hy.len, hx.cells, hy.cells, sizeP hYs, putP0 hYs, putP hYs, settleP0 hYs, settleP hYs, ↓boolP_bool, ↓iteB_true, ↓iteB_false]
            rw [none_end (hYNs _) rfl, hwk]
            refine hend _ ?_
            rw [hda, hdb, distL_ne (of_decide_eq_false hss)]
          · simp -implicitDefEqProofs only [go_sem, ↓reduceIte, Int.reduceEq, Int.reduceLT, Int.reduceLE, List.reduceReplicate, intA, setT_nil, setT_cons, hlt, hqa, hqb, hxi, hyi, hss, hr0, hrN, hci, hi1, hk1, hla, hlb, hst, hsp, hx.len, hy.len, hx.cells, hy.cells, sizeP hYs, putP0 hYs, putP hYs, settleP0 hYs, settleP hYs, ↓boolP_bool, ↓iteB_true, ↓iteB_false]
            refine wp_drawX [([], [], false), ([], [], false), ([], [], false), ([], [], false), ([], [], false), ([], [], false), ([], [], false), ([], [], false), ([], [], false), ([3], [], false), ([], [], false), ([], [], false), ([], [], false), ([3], [], false), ([], [], false), ([], [], false)] (by kernel_rfl) (by kernel_rfl) ?_
            simp -implicitDefEqProofs only [go_sem, ↓reduceIte, Int.reduceEq, Int.reduceLT, Int.reduceLE, List.reduceReplicate, intA, setT_nil, setT_cons, hlt, hqa, hqb, hci1, hrB, hwi, hwk1, hi2, hk2, hk3, hk4, ha1, ha2, ha3, hl0, hlB, hlN, List.all_cons, List.all_nil, Bool.and_self, Bool.true_or, hr0, hrN, hci, hi1, hk1, hla, hlb, hst, hsp, hx.len, hy.len, hx.cells, hy.cells, sizeP hYs, putP0 hYs, putP hYs, settleP0 hYs, settleP hYs, ↓boolP_bool, ↓iteB_true, ↓iteB_false]
            rw [none_end (hYNs _) rfl, hwk]
            refine hend _ ?_
            rw [hda, hdb, of_decide_eq_true hss, distL_same]
end Go.Ev
