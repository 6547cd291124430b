/- RackExamples: the law, which has no argument, returns true: the chapter's examples, limits and numbers are as they should be. No condition. -/
import Derived.Test.YtiojjbobodcokaaGreatDoorRows
import Derived.Test.YtiojjbobodcokaaGreatDoorPk02
import Derived.Test.YtiojjbobodcokaaGreatDoorCards
import Derived.Test.YtiojjbobodcokaaGreatDoorTie
import Derived.WalkKit
import Derived.ProofKit
import Derived.Lay
import Derived.SevenTiedAt
namespace Go.Proofs.YtiojjbobodcokaaGreatDoor
open Go.ChangeShapes Go.WideShapes Go.ChangeAt Go.RowKit Go.Ev
set_option maxRecDepth 100000
theorem rackExamples_own : ownKnob Tryz.prog.godebug = none := by kernel_rfl
theorem rackExamples_spec {HH : Type} : ∀ ds : List (DataW HH), ds.length = Tryz.f3.params.size → Rows.rackExamplesSpec.fn HH ds = { results := [.lit (.bool true)], args := ds } := by
  intro ds hl
  have hp : Tryz.f3.params.size = 0 := by kernel_rfl
  rw [hp] at hl
  match ds, hl with
  | [], _ => rfl
theorem rackExamples_law : ∃ e, ExtOK (CC.more e) ∧ ∀ xs, ArgsOf Tryz.prog 10 Tryz.f3.params.toList xs → ∃ H', Go.Ev.lim (CC.more e) (.call 3 xs { objs := [], lock := 0 }) = some (.ret (.v (.bool true)) H') := by
  obtain ⟨e, he, hl⟩ := closed_law gAll
  refine ⟨e, he, fun xs hx => ?_⟩
  have hp : Tryz.f3.params.toList = [] := by kernel_rfl
  rw [hp] at hx
  exact hl _ _ xs hx
theorem rackExamples_shape (os : Os) : ((World.laidAll Tryz.prog os Rows.rackExamplesRow.laid).forCall (fun _ _ => 0) ⟨#[], #[], []⟩).Shaped Tryz.prog := World.shaped_of_ZipB (by kernel_rfl) (by kernel_rfl)
theorem rackExamples_met (os : Os) : laidMetH Tryz.prog Rows.rackExamplesRow.laid ((World.laidAll Tryz.prog os Rows.rackExamplesRow.laid).forCall (fun _ _ => 0) ⟨#[], #[], []⟩).memory := by
  rw [MakeChecks.laidMetH_plain _ _ _ (by kernel_rfl)]; exact laidMet_laidAll _ (by kernel_rfl) (by kernel_rfl)
theorem rackExamples_lifted (os : Os) (started : os.Started) (H : Type) (enc : TypeId × Value → H) :
    ReturnsInHanded {} Tryz.checked os 3 .any (fun w args => (Rows.rackExamplesSpec.pre enc Tryz.prog Tryz.f3 [] false w args ∧ laidMetH Tryz.prog Rows.rackExamplesRow.laid w) ∧ sizedMet enc Tryz.prog Tryz.f3 (OpenSpec.ofChange Rows.rackExamplesSpec) false w args)
      (Rows.rackExamplesSpec.post enc Tryz.prog Tryz.f3 false true false false) := by
  refine returnsInHanded_of_change_and (C := Tryz.checked) (X := fun w _ => laidMetH Tryz.prog Rows.rackExamplesRow.laid w) (fun _ _ _ hh h => h.of_heap hh) rackExamples_own started (by kernel_rfl) Tryz.func3
    (ChangeSpec.witness_shaped (enc := enc) (C := Tryz.checked) (os := os) (X := fun w _ => laidMetH Tryz.prog Rows.rackExamplesRow.laid w) false (World.laidAll Tryz.prog os Rows.rackExamplesRow.laid) #[] 8 (World.laidAll_os _ _ _)
      (rackExamples_shape os) (by kernel_rfl) (by kernel_rfl) (by kernel_rfl) (rackExamples_met os)) ?_
  intro W base args ds gs before hval hW _ _ _ _
  obtain ⟨e, he, hlaw⟩ := rackExamples_law
  exact law_contract (C := CC.more e) (N := 10) rfl nogoC mixedC he (by kernel_rfl) rfl rackExamples_spec rfl (by kernel_rfl) hlaw hval hW
theorem rackExamples_c1 : (Rows.rackExamplesRow.inPlace == Tryz.prog.inPlace 3) = true := by kernel_rfl
theorem rackExamples_c2 : (Rows.rackExamplesRow.unfollowed == Tryz.prog.unfollowed 3) = true := by kernel_rfl
theorem rackExamples_c3 : (Rows.rackExamplesRow.recurses == Tryz.prog.recurses 3) = true := by kernel_rfl
theorem rackExamples_c4 : (Rows.rackExamplesRow.named == Tryz.prog.varsNamed 3) = true := by kernel_rfl
theorem rackExamples_c5 : laidOutB Tryz.prog = true := by kernel_rfl
theorem rackExamples_c6 : Tryz.prog.stopsHeard = true := by kernel_rfl
theorem rackExamples_c7 : Tryz.prog.mayEnter = true := by kernel_rfl
theorem rackExamples_c8 : (Rows.rackExamplesRow.plainKeys == Tryz.prog.plainKeys) = true := by kernel_rfl
theorem rackExamples_closed : joinedFacts Tryz.prog 3 Tryz.f3 Rows.rackExamplesSpec Rows.rackExamplesRow = true := by
  unfold joinedFacts
  exact (Bool.and_eq_true_iff.2 ⟨(Bool.and_eq_true_iff.2 ⟨(Bool.and_eq_true_iff.2 ⟨(Bool.and_eq_true_iff.2 ⟨(Bool.and_eq_true_iff.2 ⟨(Bool.and_eq_true_iff.2 ⟨(Bool.and_eq_true_iff.2 ⟨(Bool.and_eq_true_iff.2 ⟨(Bool.and_eq_true_iff.2 ⟨(Bool.and_eq_true_iff.2 ⟨(Bool.and_eq_true_iff.2 ⟨(Bool.and_eq_true_iff.2 ⟨(Bool.and_eq_true_iff.2 ⟨(Bool.and_eq_true_iff.2 ⟨(Bool.and_eq_true_iff.2 ⟨(Bool.and_eq_true_iff.2 ⟨(Bool.and_eq_true_iff.2 ⟨(Bool.and_eq_true_iff.2 ⟨(Bool.and_eq_true_iff.2 ⟨(Bool.and_eq_true_iff.2 ⟨(Bool.and_eq_true_iff.2 ⟨(Bool.and_eq_true_iff.2 ⟨(Bool.and_eq_true_iff.2 ⟨(Bool.and_eq_true_iff.2 ⟨(Bool.and_eq_true_iff.2 ⟨(Bool.and_eq_true_iff.2 ⟨(Bool.and_eq_true_iff.2 ⟨(Bool.and_eq_true_iff.2 ⟨(Bool.and_eq_true_iff.2 ⟨(Bool.and_eq_true_iff.2 ⟨(Bool.and_eq_true_iff.2 ⟨(by kernel_rfl), rackExamples_c5⟩), by kernel_rfl⟩), by kernel_rfl⟩), by kernel_rfl⟩), by kernel_rfl⟩), by kernel_rfl⟩), by kernel_rfl⟩), by kernel_rfl⟩), rackExamples_c1⟩), rackExamples_c2⟩), rackExamples_c3⟩), rackExamples_c4⟩), by kernel_rfl⟩), by kernel_rfl⟩), by kernel_rfl⟩), by kernel_rfl⟩), by kernel_rfl⟩), by kernel_rfl⟩), by kernel_rfl⟩), by kernel_rfl⟩), by kernel_rfl⟩), rackExamples_c8⟩), by kernel_rfl⟩), rackExamples_c6⟩), rackExamples_c7⟩), by kernel_rfl⟩), by kernel_rfl⟩), by kernel_rfl⟩), by kernel_rfl⟩), by kernel_rfl⟩), by kernel_rfl⟩)
theorem rackExamples_c9 : Tryz.prog.funcNamed "postil/postillaw06.RackExamples" = some 3 := by kernel_rfl
theorem rackExamples_c10 : Tryz.f3.isInstance Tryz.prog Rows.rackExamplesRow.origin Rows.rackExamplesRow.targs := of_decide_eq_true (by kernel_rfl)
theorem rackExamples_c11 : Tryz.f3.isWrapper Tryz.prog Rows.rackExamplesRow.wrapper Rows.rackExamplesRow.mainSum := by unfold Func.isWrapper; first | (rw [if_pos (by decide +kernel)]; kernel_rfl) | (rw [if_neg (by decide +kernel)]; exact ⟨rfl, rfl⟩)
theorem rackExamples_c12 : Rows.rackExamplesRow.wfByText (OpenSpec.ofChange Rows.rackExamplesSpec) = true := by kernel_rfl
theorem rackExamples_c13 : Tryz.prog.mainIs = some ((true, "330222d25b4d0d2c1da5ef52b1584e253760403563291c21a08a93c14b13c608").1, (true, "330222d25b4d0d2c1da5ef52b1584e253760403563291c21a08a93c14b13c608").2.toList) := by kernel_rfl
theorem rackExamples_c14 : false = Tryz.prog.looks [] := by kernel_rfl
theorem rackExamples_c15 : false = Rows.rackExamplesRow.goesBy Tryz.prog := by kernel_rfl
theorem rackExamples_over : Rows.RackExamplesSaid :=
  OpenClaim.holds_of_wide 3 Tryz.f3 rfl rfl rfl rfl rfl rfl rfl ⟨rfl, rfl, rfl, rfl, rfl⟩ rfl rfl rfl rfl rfl rackExamples_c9 Tryz.func3 rackExamples_closed
    rackExamples_c10 rackExamples_c11
    (fun os started H enc _ => rackExamples_lifted os started H enc)
theorem rackExamples_holds : Rows.RackExamplesCardSaid :=
  Claim7.holds_tied_plain_at .later [] [.data, .pinned] true (true, "330222d25b4d0d2c1da5ef52b1584e253760403563291c21a08a93c14b13c608") false
    rackExamples_over (fun _ h => by cases h) rackExamples_c12 (fun _ h => by cases h) rackExamples_row_tie rfl ⟨rfl, rfl⟩ rackExamples_c13 rfl
    (fun f fn hf hfn => by
      obtain rfl : f = 3 := Option.some.inj (rackExamples_c9.symm.trans hf) |>.symm
      obtain rfl : fn = Tryz.f3 := (Option.some.inj (Tryz.func3.symm.trans hfn)).symm
      exact ⟨rackExamples_c14, fun j t ht => by
        have hp : Tryz.f3.params = #[] := by kernel_rfl
        rw [hp] at ht
        simp at ht⟩)
    rackExamples_c15
end Go.Proofs.YtiojjbobodcokaaGreatDoor
