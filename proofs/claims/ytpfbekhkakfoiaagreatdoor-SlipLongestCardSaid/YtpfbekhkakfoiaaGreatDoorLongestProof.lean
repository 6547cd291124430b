/- SlipLongest: for every text, cut and number the law returns true: the slip of a place is valid, its context fits, before and after its word stand the words of the chapter with a space between them, and no context of the place that fits is longer. No condition. -/
import Derived.Test.YtpfbekhkakfoiaaGreatDoorRows
import Derived.Test.YtpfbekhkakfoiaaGreatDoorPk04
import Derived.Test.YtpfbekhkakfoiaaGreatDoorCards
import Derived.Test.YtpfbekhkakfoiaaGreatDoorTie
import Derived.WalkKit
import Derived.ProofKit
import Derived.Lay
import Derived.SevenTiedAt
namespace Go.Proofs.YtpfbekhkakfoiaaGreatDoor
open Go.ChangeShapes Go.WideShapes Go.ChangeAt Go.RowKit Go.Ev
set_option maxRecDepth 100000
theorem slipLongest_own : ownKnob Tryz.prog.godebug = none := by kernel_rfl
theorem slipLongest_spec {HH : Type} : ∀ ds : List (DataW HH), ds.length = Tryz.f6.params.size → Rows.slipLongestSpec.fn HH ds = { results := [.lit (.bool true)], args := ds } := by
  intro ds hl
  have hp : Tryz.f6.params.size = 3 := by kernel_rfl
  rw [hp] at hl
  match ds, hl with
  | [a, b, c], _ => rfl
theorem slipLongest_law (xs : List AV) (h : ArgsOf Tryz.prog 10 Tryz.f6.params.toList xs) : ∃ H', Go.Ev.lim (Cx eA) (.call 6 xs { objs := [], lock := 0 }) = some (.ret (.v (.bool true)) H') := by
  have hp : Tryz.f6.params.toList = [24, 26, 76] := by kernel_rfl
  rw [hp] at h
  cases h with
  | cons h1 h =>
    cases h with
    | cons h2 h =>
      cases h with
      | cons h3 h =>
        cases h
        obtain ⟨t, ⟨ch, rfl, ys, hch, hall⟩, ht⟩ := text_of (N := 4) h1
        obtain ⟨w, sd, hs1, hs2, rfl⟩ := cut_of (N := 7) h2
        obtain ⟨m1, hm1, rfl⟩ := u16_of (N := 9) h3
        exact (ansS6 t ht ch ys hch hall w sd hs1 hs2 m1 hm1).lim
theorem slipLongest_shape (os : Os) : ((World.laidAll Tryz.prog os Rows.slipLongestRow.laid).forCall (fun _ _ => 0) ⟨#[], #[.agg #[.slice none 0 0], .agg #[.int .i64 0, .int .u8 0], .int .u16 0], []⟩).Shaped Tryz.prog := World.shaped_of_ZipB (by kernel_rfl) (by kernel_rfl)
theorem slipLongest_met (os : Os) : laidMetH Tryz.prog Rows.slipLongestRow.laid ((World.laidAll Tryz.prog os Rows.slipLongestRow.laid).forCall (fun _ _ => 0) ⟨#[], #[.agg #[.slice none 0 0], .agg #[.int .i64 0, .int .u8 0], .int .u16 0], []⟩).memory := by
  rw [MakeChecks.laidMetH_plain _ _ _ (by kernel_rfl)]; exact laidMet_laidAll _ (by kernel_rfl) (by kernel_rfl)
theorem slipLongest_tab {W : World} (h : laidMetH Tryz.prog Rows.slipLongestRow.laid W) : laidOk (allZ W) := by
  rw [MakeChecks.laidMetH_plain _ _ _ (by kernel_rfl)] at h
  intro p hp
  obtain rfl := List.mem_singleton.1 hp
  exact heap_of_tab (P := Tryz.prog) (name := "strings.asciiSpace") (by kernel_rfl) (tabIs_of_vars (P := Tryz.prog) (g := 0) (t := 187) (e := 5) (n := 256) (by kernel_rfl) (by kernel_rfl) (by kernel_rfl) (by kernel_rfl) (by kernel_rfl) (by kernel_rfl) (l := Rows.slipLongestRow.laid) (List.mem_of_getElem? (i := 2) (by kernel_rfl)) h.choose_spec.1)
theorem slipLongest_lifted (os : Os) (started : os.Started) (H : Type) (enc : TypeId × Value → H) :
    ReturnsInHanded {} Tryz.checked os 6 .any (fun w args => (Rows.slipLongestSpec.pre enc Tryz.prog Tryz.f6 [] false w args ∧ laidMetH Tryz.prog Rows.slipLongestRow.laid w) ∧ sizedMet enc Tryz.prog Tryz.f6 (OpenSpec.ofChange Rows.slipLongestSpec) false w args)
      (Rows.slipLongestSpec.post enc Tryz.prog Tryz.f6 false true false false) := by
  refine returnsInHanded_of_change_and (C := Tryz.checked) (X := fun w _ => laidMetH Tryz.prog Rows.slipLongestRow.laid w) (fun _ _ _ hh h => h.of_heap hh) slipLongest_own started (by kernel_rfl) Tryz.func6
    (ChangeSpec.witness_shaped (enc := enc) (C := Tryz.checked) (os := os) (X := fun w _ => laidMetH Tryz.prog Rows.slipLongestRow.laid w) false (World.laidAll Tryz.prog os Rows.slipLongestRow.laid) #[.agg #[.slice none 0 0], .agg #[.int .i64 0, .int .u8 0], .int .u16 0] 8 (World.laidAll_os _ _ _)
      (slipLongest_shape os) (by kernel_rfl) (by kernel_rfl) (by kernel_rfl) (slipLongest_met os)) ?_
  intro W base args ds gs before hval hW _ _ hX _
  exact law_contract (C := Cx eA) (N := 10) rfl (nogo eA) (mixed eA) extOKA (by kernel_rfl) rfl slipLongest_spec rfl (by kernel_rfl) slipLongest_law hval hW (slipLongest_tab hX)
theorem slipLongest_c1 : (Rows.slipLongestRow.inPlace == Tryz.prog.inPlace 6) = true := by kernel_rfl
theorem slipLongest_c2 : (Rows.slipLongestRow.unfollowed == Tryz.prog.unfollowed 6) = true := by kernel_rfl
theorem slipLongest_c3 : (Rows.slipLongestRow.recurses == Tryz.prog.recurses 6) = true := by kernel_rfl
theorem slipLongest_c4 : (Rows.slipLongestRow.named == Tryz.prog.varsNamed 6) = true := by kernel_rfl
theorem slipLongest_c5 : laidOutB Tryz.prog = true := by kernel_rfl
theorem slipLongest_c6 : Tryz.prog.stopsHeard = true := by kernel_rfl
theorem slipLongest_c7 : Tryz.prog.mayEnter = true := by kernel_rfl
theorem slipLongest_c8 : (Rows.slipLongestRow.plainKeys == Tryz.prog.plainKeys) = true := by kernel_rfl
theorem slipLongest_closed : joinedFacts Tryz.prog 6 Tryz.f6 Rows.slipLongestSpec Rows.slipLongestRow = true := by
  unfold joinedFacts
  exact (Bool.and_eq_true_iff.2 ⟨(Bool.and_eq_true_iff.2 ⟨(Bool.and_eq_true_iff.2 ⟨(Bool.and_eq_true_iff.2 ⟨(Bool.and_eq_true_iff.2 ⟨(Bool.and_eq_true_iff.2 ⟨(Bool.and_eq_true_iff.2 ⟨(Bool.and_eq_true_iff.2 ⟨(Bool.and_eq_true_iff.2 ⟨(Bool.and_eq_true_iff.2 ⟨(Bool.and_eq_true_iff.2 ⟨(Bool.and_eq_true_iff.2 ⟨(Bool.and_eq_true_iff.2 ⟨(Bool.and_eq_true_iff.2 ⟨(Bool.and_eq_true_iff.2 ⟨(Bool.and_eq_true_iff.2 ⟨(Bool.and_eq_true_iff.2 ⟨(Bool.and_eq_true_iff.2 ⟨(Bool.and_eq_true_iff.2 ⟨(Bool.and_eq_true_iff.2 ⟨(Bool.and_eq_true_iff.2 ⟨(Bool.and_eq_true_iff.2 ⟨(Bool.and_eq_true_iff.2 ⟨(Bool.and_eq_true_iff.2 ⟨(Bool.and_eq_true_iff.2 ⟨(Bool.and_eq_true_iff.2 ⟨(Bool.and_eq_true_iff.2 ⟨(Bool.and_eq_true_iff.2 ⟨(Bool.and_eq_true_iff.2 ⟨(Bool.and_eq_true_iff.2 ⟨(Bool.and_eq_true_iff.2 ⟨(by kernel_rfl), slipLongest_c5⟩), by kernel_rfl⟩), by kernel_rfl⟩), by kernel_rfl⟩), by kernel_rfl⟩), by kernel_rfl⟩), by kernel_rfl⟩), by kernel_rfl⟩), slipLongest_c1⟩), slipLongest_c2⟩), slipLongest_c3⟩), slipLongest_c4⟩), by kernel_rfl⟩), by kernel_rfl⟩), by kernel_rfl⟩), by kernel_rfl⟩), by kernel_rfl⟩), by kernel_rfl⟩), by kernel_rfl⟩), by kernel_rfl⟩), by kernel_rfl⟩), slipLongest_c8⟩), by kernel_rfl⟩), slipLongest_c6⟩), slipLongest_c7⟩), by kernel_rfl⟩), by kernel_rfl⟩), by kernel_rfl⟩), by kernel_rfl⟩), by kernel_rfl⟩), by kernel_rfl⟩)
theorem slipLongest_c9 : Tryz.prog.funcNamed "postil/postillaw03.SlipLongest" = some 6 := by kernel_rfl
theorem slipLongest_c10 : Tryz.f6.isInstance Tryz.prog Rows.slipLongestRow.origin Rows.slipLongestRow.targs := of_decide_eq_true (by kernel_rfl)
theorem slipLongest_c11 : Tryz.f6.isWrapper Tryz.prog Rows.slipLongestRow.wrapper Rows.slipLongestRow.mainSum := by unfold Func.isWrapper; first | (rw [if_pos (by decide +kernel)]; kernel_rfl) | (rw [if_neg (by decide +kernel)]; exact ⟨rfl, rfl⟩)
theorem slipLongest_c12 : Rows.slipLongestRow.wfByText (OpenSpec.ofChange Rows.slipLongestSpec) = true := by kernel_rfl
theorem slipLongest_c13 : Tryz.prog.mainIs = some ((true, "cdb0c94b42050c44fe1623a4c45843700c837e98d62dd29dbc15ecf1b30f6525").1, (true, "cdb0c94b42050c44fe1623a4c45843700c837e98d62dd29dbc15ecf1b30f6525").2.toList) := by kernel_rfl
theorem slipLongest_c14 : false = Tryz.prog.looks [] := by kernel_rfl
theorem slipLongest_c15 : false = Rows.slipLongestRow.goesBy Tryz.prog := by kernel_rfl
theorem slipLongest_over : Rows.SlipLongestSaid :=
  OpenClaim.holds_of_wide 6 Tryz.f6 rfl rfl rfl rfl rfl rfl rfl ⟨rfl, rfl, rfl, rfl, rfl⟩ rfl rfl rfl rfl rfl slipLongest_c9 Tryz.func6 slipLongest_closed
    slipLongest_c10 slipLongest_c11
    (fun os started H enc _ => slipLongest_lifted os started H enc)
theorem slipLongest_holds : Rows.SlipLongestCardSaid :=
  Claim7.holds_tied_plain_at .later [] [.data, .listed, .data, .pinned] true (true, "cdb0c94b42050c44fe1623a4c45843700c837e98d62dd29dbc15ecf1b30f6525") false
    slipLongest_over (fun _ h => by cases h) slipLongest_c12 (fun _ h => by cases h) slipLongest_row_tie rfl ⟨rfl, rfl⟩ slipLongest_c13 rfl
    (fun f fn hf hfn => by
      obtain rfl : f = 6 := Option.some.inj (slipLongest_c9.symm.trans hf) |>.symm
      obtain rfl : fn = Tryz.f6 := (Option.some.inj (Tryz.func6.symm.trans hfn)).symm
      exact ⟨slipLongest_c14, fun j t ht => by
        have hp : Tryz.f6.params = #[24, 26, 76] := by kernel_rfl
        rw [hp] at ht
        have hm : t ∈ [24, 26, 76] := by
          have := Array.mem_of_getElem? ht
          simpa using this
        simp only [List.mem_cons, List.mem_nil_iff, or_false] at hm
        rcases hm with rfl | rfl | rfl
        · exact (by kernel_rfl : Tryz.prog.wantsStandIn 24 = false)
        · exact (by kernel_rfl : Tryz.prog.wantsStandIn 26 = false)
        · exact (by kernel_rfl : Tryz.prog.wantsStandIn 76 = false)⟩)
    slipLongest_c15
end Go.Proofs.YtpfbekhkakfoiaaGreatDoor
