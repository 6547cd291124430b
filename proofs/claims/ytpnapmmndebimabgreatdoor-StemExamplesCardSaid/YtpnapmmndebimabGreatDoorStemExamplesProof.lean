/- StemExamples: the law, which has no argument, returns true: the chapter's examples, limits and numbers are as they should be. No condition. -/
import Derived.Test.YtpnapmmndebimabGreatDoorRows
import Derived.Test.YtpnapmmndebimabGreatDoorPk02
import Derived.Test.YtpnapmmndebimabGreatDoorCards
import Derived.Test.YtpnapmmndebimabGreatDoorTie
import Derived.WalkKit
import Derived.ProofKit
import Derived.Lay
import Derived.SevenTiedAt
namespace Go.Proofs.YtpnapmmndebimabGreatDoor
open Go.ChangeShapes Go.WideShapes Go.ChangeAt Go.RowKit Go.Ev
set_option maxRecDepth 100000
theorem stemExamples_own : ownKnob Tryz.prog.godebug = none := by kernel_rfl
theorem stemExamples_spec {HH : Type} : ∀ ds : List (DataW HH), ds.length = Tryz.f3.params.size → Rows.stemExamplesSpec.fn HH ds = { results := [.lit (.bool true)], args := ds } := by
  intro ds hl
  have hp : Tryz.f3.params.size = 0 := by kernel_rfl
  rw [hp] at hl
  match ds, hl with
  | [], _ => rfl
theorem stemExamples_law : ∃ e, ExtOK (CC.more e) ∧ ∀ xs, ArgsOf Tryz.prog 10 Tryz.f3.params.toList xs → ∃ H', Go.Ev.lim (CC.more e) (.call 3 xs { objs := [], lock := 0 }) = some (.ret (.v (.bool true)) H') := by
  obtain ⟨e, he, hl⟩ := closed_law gAll
  refine ⟨e, he, fun xs hx => ?_⟩
  have hp : Tryz.f3.params.toList = [] := by kernel_rfl
  rw [hp] at hx
  exact hl _ _ xs hx
theorem stemExamples_shape (os : Os) : ((World.laidAll Tryz.prog os Rows.stemExamplesRow.laid).forCall (fun _ _ => 0) ⟨#[], #[], []⟩).Shaped Tryz.prog := World.shaped_of_ZipB (by kernel_rfl) (by kernel_rfl)
theorem stemExamples_met (os : Os) : laidMetH Tryz.prog Rows.stemExamplesRow.laid ((World.laidAll Tryz.prog os Rows.stemExamplesRow.laid).forCall (fun _ _ => 0) ⟨#[], #[], []⟩).memory := by
  rw [MakeChecks.laidMetH_plain _ _ _ (by kernel_rfl)]; exact laidMet_laidAll _ (by kernel_rfl) (by kernel_rfl)
theorem stemExamples_lifted (os : Os) (started : os.Started) (H : Type) (enc : TypeId × Value → H) :
    ReturnsInHanded {} Tryz.checked os 3 .any (fun w args => (Rows.stemExamplesSpec.pre enc Tryz.prog Tryz.f3 [] false w args ∧ laidMetH Tryz.prog Rows.stemExamplesRow.laid w) ∧ sizedMet enc Tryz.prog Tryz.f3 (OpenSpec.ofChange Rows.stemExamplesSpec) false w args)
      (Rows.stemExamplesSpec.post enc Tryz.prog Tryz.f3 false true false false) := by
  refine returnsInHanded_of_change_and (C := Tryz.checked) (X := fun w _ => laidMetH Tryz.prog Rows.stemExamplesRow.laid w) (fun _ _ _ hh h => h.of_heap hh) stemExamples_own started (by kernel_rfl) Tryz.func3
    (ChangeSpec.witness_shaped (enc := enc) (C := Tryz.checked) (os := os) (X := fun w _ => laidMetH Tryz.prog Rows.stemExamplesRow.laid w) false (World.laidAll Tryz.prog os Rows.stemExamplesRow.laid) #[] 8 (World.laidAll_os _ _ _)
      (stemExamples_shape os) (by kernel_rfl) (by kernel_rfl) (by kernel_rfl) (stemExamples_met os)) ?_
  intro W base args ds gs before hval hW _ _ _ _
  obtain ⟨e, he, hlaw⟩ := stemExamples_law
  exact law_contract (C := CC.more e) (N := 10) rfl nogoC mixedC he (by kernel_rfl) rfl stemExamples_spec rfl (by kernel_rfl) hlaw hval hW
theorem stemExamples_c1 : (Rows.stemExamplesRow.inPlace == Tryz.prog.inPlace 3) = true := by kernel_rfl
theorem stemExamples_c2 : (Rows.stemExamplesRow.unfollowed == Tryz.prog.unfollowed 3) = true := by kernel_rfl
theorem stemExamples_c3 : (Rows.stemExamplesRow.recurses == Tryz.prog.recurses 3) = true := by kernel_rfl
theorem stemExamples_c4 : (Rows.stemExamplesRow.named == Tryz.prog.varsNamed 3) = true := by kernel_rfl
theorem stemExamples_c5 : laidOutB Tryz.prog = true := by kernel_rfl
theorem stemExamples_c6 : Tryz.prog.stopsHeard = true := by kernel_rfl
theorem stemExamples_c7 : Tryz.prog.mayEnter = true := by kernel_rfl
theorem stemExamples_c8 : (Rows.stemExamplesRow.plainKeys == Tryz.prog.plainKeys) = true := by kernel_rfl
theorem stemExamples_closed : joinedFacts Tryz.prog 3 Tryz.f3 Rows.stemExamplesSpec Rows.stemExamplesRow = true := by
  unfold joinedFacts
  exact (Bool.and_eq_true_iff.2 ⟨(Bool.and_eq_true_iff.2 ⟨(Bool.and_eq_true_iff.2 ⟨(Bool.and_eq_true_iff.2 ⟨(Bool.and_eq_true_iff.2 ⟨(Bool.and_eq_true_iff.2 ⟨(Bool.and_eq_true_iff.2 ⟨(Bool.and_eq_true_iff.2 ⟨(Bool.and_eq_true_iff.2 ⟨(Bool.and_eq_true_iff.2 ⟨(Bool.and_eq_true_iff.2 ⟨(Bool.and_eq_true_iff.2 ⟨(Bool.and_eq_true_iff.2 ⟨(Bool.and_eq_true_iff.2 ⟨(Bool.and_eq_true_iff.2 ⟨(Bool.and_eq_true_iff.2 ⟨(Bool.and_eq_true_iff.2 ⟨(Bool.and_eq_true_iff.2 ⟨(Bool.and_eq_true_iff.2 ⟨(Bool.and_eq_true_iff.2 ⟨(Bool.and_eq_true_iff.2 ⟨(Bool.and_eq_true_iff.2 ⟨(Bool.and_eq_true_iff.2 ⟨(Bool.and_eq_true_iff.2 ⟨(Bool.and_eq_true_iff.2 ⟨(Bool.and_eq_true_iff.2 ⟨(Bool.and_eq_true_iff.2 ⟨(Bool.and_eq_true_iff.2 ⟨(Bool.and_eq_true_iff.2 ⟨(Bool.and_eq_true_iff.2 ⟨(Bool.and_eq_true_iff.2 ⟨(by kernel_rfl), stemExamples_c5⟩), by kernel_rfl⟩), by kernel_rfl⟩), by kernel_rfl⟩), by kernel_rfl⟩), by kernel_rfl⟩), by kernel_rfl⟩), by kernel_rfl⟩), stemExamples_c1⟩), stemExamples_c2⟩), stemExamples_c3⟩), stemExamples_c4⟩), by kernel_rfl⟩), by kernel_rfl⟩), by kernel_rfl⟩), by kernel_rfl⟩), by kernel_rfl⟩), by kernel_rfl⟩), by kernel_rfl⟩), by kernel_rfl⟩), by kernel_rfl⟩), stemExamples_c8⟩), by kernel_rfl⟩), stemExamples_c6⟩), stemExamples_c7⟩), by kernel_rfl⟩), by kernel_rfl⟩), by kernel_rfl⟩), by kernel_rfl⟩), by kernel_rfl⟩), by kernel_rfl⟩)
theorem stemExamples_c9 : Tryz.prog.funcNamed "postil/postillaw04.StemExamples" = some 3 := by kernel_rfl
theorem stemExamples_c10 : Tryz.f3.isInstance Tryz.prog Rows.stemExamplesRow.origin Rows.stemExamplesRow.targs := of_decide_eq_true (by kernel_rfl)
theorem stemExamples_c11 : Tryz.f3.isWrapper Tryz.prog Rows.stemExamplesRow.wrapper Rows.stemExamplesRow.mainSum := by unfold Func.isWrapper; first | (rw [if_pos (by decide +kernel)]; kernel_rfl) | (rw [if_neg (by decide +kernel)]; exact ⟨rfl, rfl⟩)
theorem stemExamples_c12 : Rows.stemExamplesRow.wfByText (OpenSpec.ofChange Rows.stemExamplesSpec) = true := by kernel_rfl
theorem stemExamples_c13 : Tryz.prog.mainIs = some ((true, "5ce3c009f00a37b71c23f8303391e7b549a2917d955e20288c0e1c85eb9f146d").1, (true, "5ce3c009f00a37b71c23f8303391e7b549a2917d955e20288c0e1c85eb9f146d").2.toList) := by kernel_rfl
theorem stemExamples_c14 : false = Tryz.prog.looks [] := by kernel_rfl
theorem stemExamples_c15 : false = Rows.stemExamplesRow.goesBy Tryz.prog := by kernel_rfl
theorem stemExamples_over : Rows.StemExamplesSaid :=
  OpenClaim.holds_of_wide 3 Tryz.f3 rfl rfl rfl rfl rfl rfl rfl ⟨rfl, rfl, rfl, rfl, rfl⟩ rfl rfl rfl rfl rfl stemExamples_c9 Tryz.func3 stemExamples_closed
    stemExamples_c10 stemExamples_c11
    (fun os started H enc _ => stemExamples_lifted os started H enc)
theorem stemExamples_holds : Rows.StemExamplesCardSaid :=
  Claim7.holds_tied_plain_at .later [] [.data, .pinned] true (true, "5ce3c009f00a37b71c23f8303391e7b549a2917d955e20288c0e1c85eb9f146d") false
    stemExamples_over (fun _ h => by cases h) stemExamples_c12 (fun _ h => by cases h) stemExamples_row_tie rfl ⟨rfl, rfl⟩ stemExamples_c13 rfl
    (fun f fn hf hfn => by
      obtain rfl : f = 3 := Option.some.inj (stemExamples_c9.symm.trans hf) |>.symm
      obtain rfl : fn = Tryz.f3 := (Option.some.inj (Tryz.func3.symm.trans hfn)).symm
      exact ⟨stemExamples_c14, fun j t ht => by
        have hp : Tryz.f3.params = #[] := by kernel_rfl
        rw [hp] at ht
        simp at ht⟩)
    stemExamples_c15
end Go.Proofs.YtpnapmmndebimabGreatDoor
