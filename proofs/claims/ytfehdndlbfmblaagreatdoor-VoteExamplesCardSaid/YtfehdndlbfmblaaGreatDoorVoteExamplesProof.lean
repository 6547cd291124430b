/- VoteExamples: the law, which has no argument, returns true: the chapter's examples, limits and numbers are as they should be. No condition. -/
import Derived.Test.YtfehdndlbfmblaaGreatDoorRows
import Derived.Test.YtfehdndlbfmblaaGreatDoorPk02
import Derived.Test.YtfehdndlbfmblaaGreatDoorCards
import Derived.Test.YtfehdndlbfmblaaGreatDoorTie
import Derived.WalkKit
import Derived.ProofKit
import Derived.Lay
import Derived.SevenTiedAt
namespace Go.Proofs.YtfehdndlbfmblaaGreatDoor
open Go.ChangeShapes Go.WideShapes Go.ChangeAt Go.RowKit Go.Ev
set_option maxRecDepth 100000
theorem voteExamples_own : ownKnob Tryz.prog.godebug = none := by kernel_rfl
theorem voteExamples_spec {HH : Type} : ∀ ds : List (DataW HH), ds.length = Tryz.f6.params.size → Rows.voteExamplesSpec.fn HH ds = { results := [.lit (.bool true)], args := ds } := by
  intro ds hl
  have hp : Tryz.f6.params.size = 0 := by kernel_rfl
  rw [hp] at hl
  match ds, hl with
  | [], _ => rfl
theorem voteExamples_law : ∃ e x, ExtOK (CC.more2 e x) ∧ ∀ xs, ArgsOf Tryz.prog 10 Tryz.f6.params.toList xs → ∃ H', Go.Ev.lim (CC.more2 e x) (.call 6 xs { objs := [], lock := 0 }) = some (.ret (.v (.bool true)) H') := by
  obtain ⟨e, x, he, hl⟩ := closed_law gAll
  refine ⟨e, x, he, fun xs hx => ?_⟩
  have hp : Tryz.f6.params.toList = [] := by kernel_rfl
  rw [hp] at hx
  exact hl _ _ xs hx
theorem voteExamples_shape (os : Os) : ((World.laidAll Tryz.prog os Rows.voteExamplesRow.laid).forCall (fun _ _ => 0) ⟨#[], #[], []⟩).Shaped Tryz.prog := World.shaped_of_ZipB (by kernel_rfl) (by kernel_rfl)
theorem voteExamples_met (os : Os) : laidMetH Tryz.prog Rows.voteExamplesRow.laid ((World.laidAll Tryz.prog os Rows.voteExamplesRow.laid).forCall (fun _ _ => 0) ⟨#[], #[], []⟩).memory := by
  rw [MakeChecks.laidMetH_plain _ _ _ (by kernel_rfl)]; exact laidMet_laidAll _ (by kernel_rfl) (by kernel_rfl)
theorem voteExamples_lifted (os : Os) (started : os.Started) (H : Type) (enc : TypeId × Value → H) :
    ReturnsInHanded {} Tryz.checked os 6 .any (fun w args => (Rows.voteExamplesSpec.pre enc Tryz.prog Tryz.f6 [] false w args ∧ laidMetH Tryz.prog Rows.voteExamplesRow.laid w) ∧ sizedMet enc Tryz.prog Tryz.f6 (OpenSpec.ofChange Rows.voteExamplesSpec) false w args)
      (Rows.voteExamplesSpec.post enc Tryz.prog Tryz.f6 false true false false) := by
  refine returnsInHanded_of_change_and (C := Tryz.checked) (X := fun w _ => laidMetH Tryz.prog Rows.voteExamplesRow.laid w) (fun _ _ _ hh h => h.of_heap hh) voteExamples_own started (by kernel_rfl) Tryz.func6
    (ChangeSpec.witness_shaped (enc := enc) (C := Tryz.checked) (os := os) (X := fun w _ => laidMetH Tryz.prog Rows.voteExamplesRow.laid w) false (World.laidAll Tryz.prog os Rows.voteExamplesRow.laid) #[] 8 (World.laidAll_os _ _ _)
      (voteExamples_shape os) (by kernel_rfl) (by kernel_rfl) (by kernel_rfl) (voteExamples_met os)) ?_
  intro W base args ds gs before hval hW _ _ _ _
  obtain ⟨e, x, he, hlaw⟩ := voteExamples_law
  exact law_contract (C := CC.more2 e x) (N := 10) rfl nogoC mixedC he (by kernel_rfl) rfl voteExamples_spec rfl (by kernel_rfl) hlaw hval hW
theorem voteExamples_c1 : (Rows.voteExamplesRow.inPlace == Tryz.prog.inPlace 6) = true := by kernel_rfl
theorem voteExamples_c2 : (Rows.voteExamplesRow.unfollowed == Tryz.prog.unfollowed 6) = true := by kernel_rfl
theorem voteExamples_c3 : (Rows.voteExamplesRow.recurses == Tryz.prog.recurses 6) = true := by kernel_rfl
theorem voteExamples_c4 : (Rows.voteExamplesRow.named == Tryz.prog.varsNamed 6) = true := by kernel_rfl
theorem voteExamples_c5 : laidOutB Tryz.prog = true := by kernel_rfl
theorem voteExamples_c6 : Tryz.prog.stopsHeard = true := by kernel_rfl
theorem voteExamples_c7 : Tryz.prog.mayEnter = true := by kernel_rfl
theorem voteExamples_c8 : (Rows.voteExamplesRow.plainKeys == Tryz.prog.plainKeys) = true := by kernel_rfl
theorem voteExamples_closed : joinedFacts Tryz.prog 6 Tryz.f6 Rows.voteExamplesSpec Rows.voteExamplesRow = true := by
  unfold joinedFacts
  exact (Bool.and_eq_true_iff.2 ⟨(Bool.and_eq_true_iff.2 ⟨(Bool.and_eq_true_iff.2 ⟨(Bool.and_eq_true_iff.2 ⟨(Bool.and_eq_true_iff.2 ⟨(Bool.and_eq_true_iff.2 ⟨(Bool.and_eq_true_iff.2 ⟨(Bool.and_eq_true_iff.2 ⟨(Bool.and_eq_true_iff.2 ⟨(Bool.and_eq_true_iff.2 ⟨(Bool.and_eq_true_iff.2 ⟨(Bool.and_eq_true_iff.2 ⟨(Bool.and_eq_true_iff.2 ⟨(Bool.and_eq_true_iff.2 ⟨(Bool.and_eq_true_iff.2 ⟨(Bool.and_eq_true_iff.2 ⟨(Bool.and_eq_true_iff.2 ⟨(Bool.and_eq_true_iff.2 ⟨(Bool.and_eq_true_iff.2 ⟨(Bool.and_eq_true_iff.2 ⟨(Bool.and_eq_true_iff.2 ⟨(Bool.and_eq_true_iff.2 ⟨(Bool.and_eq_true_iff.2 ⟨(Bool.and_eq_true_iff.2 ⟨(Bool.and_eq_true_iff.2 ⟨(Bool.and_eq_true_iff.2 ⟨(Bool.and_eq_true_iff.2 ⟨(Bool.and_eq_true_iff.2 ⟨(Bool.and_eq_true_iff.2 ⟨(Bool.and_eq_true_iff.2 ⟨(Bool.and_eq_true_iff.2 ⟨(by kernel_rfl), voteExamples_c5⟩), by kernel_rfl⟩), by kernel_rfl⟩), by kernel_rfl⟩), by kernel_rfl⟩), by kernel_rfl⟩), by kernel_rfl⟩), by kernel_rfl⟩), voteExamples_c1⟩), voteExamples_c2⟩), voteExamples_c3⟩), voteExamples_c4⟩), by kernel_rfl⟩), by kernel_rfl⟩), by kernel_rfl⟩), by kernel_rfl⟩), by kernel_rfl⟩), by kernel_rfl⟩), by kernel_rfl⟩), by kernel_rfl⟩), by kernel_rfl⟩), voteExamples_c8⟩), by kernel_rfl⟩), voteExamples_c6⟩), voteExamples_c7⟩), by kernel_rfl⟩), by kernel_rfl⟩), by kernel_rfl⟩), by kernel_rfl⟩), by kernel_rfl⟩), by kernel_rfl⟩)
theorem voteExamples_c9 : Tryz.prog.funcNamed "postil/postillaw07.VoteExamples" = some 6 := by kernel_rfl
theorem voteExamples_c10 : Tryz.f6.isInstance Tryz.prog Rows.voteExamplesRow.origin Rows.voteExamplesRow.targs := of_decide_eq_true (by kernel_rfl)
theorem voteExamples_c11 : Tryz.f6.isWrapper Tryz.prog Rows.voteExamplesRow.wrapper Rows.voteExamplesRow.mainSum := by unfold Func.isWrapper; first | (rw [if_pos (by decide +kernel)]; kernel_rfl) | (rw [if_neg (by decide +kernel)]; exact ⟨rfl, rfl⟩)
theorem voteExamples_c12 : Rows.voteExamplesRow.wfByText (OpenSpec.ofChange Rows.voteExamplesSpec) = true := by kernel_rfl
theorem voteExamples_c13 : Tryz.prog.mainIs = some ((true, "4cebd1db3005313a155869144b692de14484d9ecaaa8a1f46ed26680ea8b6bb8").1, (true, "4cebd1db3005313a155869144b692de14484d9ecaaa8a1f46ed26680ea8b6bb8").2.toList) := by kernel_rfl
theorem voteExamples_c14 : false = Tryz.prog.looks [] := by kernel_rfl
theorem voteExamples_c15 : false = Rows.voteExamplesRow.goesBy Tryz.prog := by kernel_rfl
theorem voteExamples_over : Rows.VoteExamplesSaid :=
  OpenClaim.holds_of_wide 6 Tryz.f6 rfl rfl rfl rfl rfl rfl rfl ⟨rfl, rfl, rfl, rfl, rfl⟩ rfl rfl rfl rfl rfl voteExamples_c9 Tryz.func6 voteExamples_closed
    voteExamples_c10 voteExamples_c11
    (fun os started H enc _ => voteExamples_lifted os started H enc)
theorem voteExamples_holds : Rows.VoteExamplesCardSaid :=
  Claim7.holds_tied_plain_at .later [] [.data, .pinned] true (true, "4cebd1db3005313a155869144b692de14484d9ecaaa8a1f46ed26680ea8b6bb8") false
    voteExamples_over (fun _ h => by cases h) voteExamples_c12 (fun _ h => by cases h) voteExamples_row_tie rfl ⟨rfl, rfl⟩ voteExamples_c13 rfl
    (fun f fn hf hfn => by
      obtain rfl : f = 6 := Option.some.inj (voteExamples_c9.symm.trans hf) |>.symm
      obtain rfl : fn = Tryz.f6 := (Option.some.inj (Tryz.func6.symm.trans hfn)).symm
      exact ⟨voteExamples_c14, fun j t ht => by
        have hp : Tryz.f6.params = #[] := by kernel_rfl
        rw [hp] at ht
        simp at ht⟩)
    voteExamples_c15
end Go.Proofs.YtfehdndlbfmblaaGreatDoor
