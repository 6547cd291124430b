/- LeafExamples: the law, which has no argument, returns true: the chapter's examples, limits and numbers are as they should be. No condition. -/
import Derived.Test.YtpnapmmndebimaaGreatDoorRows
import Derived.Test.YtpnapmmndebimaaGreatDoorPk01
import Derived.Test.YtpnapmmndebimaaGreatDoorCards
import Derived.Test.YtpnapmmndebimaaGreatDoorTie
import Derived.WalkKit
import Derived.ProofKit
import Derived.Lay
import Derived.SevenTiedAt
namespace Go.Proofs.YtpnapmmndebimaaGreatDoor
open Go.ChangeShapes Go.WideShapes Go.ChangeAt Go.RowKit Go.Ev
set_option maxRecDepth 100000
theorem leafExamples_own : ownKnob Tryz.prog.godebug = none := by kernel_rfl
theorem leafExamples_spec {HH : Type} : ∀ ds : List (DataW HH), ds.length = Tryz.f3.params.size → Rows.leafExamplesSpec.fn HH ds = { results := [.lit (.bool true)], args := ds } := by
  intro ds hl
  have hp : Tryz.f3.params.size = 0 := by kernel_rfl
  rw [hp] at hl
  match ds, hl with
  | [], _ => rfl
theorem leafExamples_law : ∃ e, ExtOK (CC.more e) ∧ ∀ xs, ArgsOf Tryz.prog 10 Tryz.f3.params.toList xs → ∃ H', Go.Ev.lim (CC.more e) (.call 3 xs { objs := [], lock := 0 }) = some (.ret (.v (.bool true)) H') := by
  obtain ⟨e, he, hl⟩ := closed_law gAll
  refine ⟨e, he, fun xs hx => ?_⟩
  have hp : Tryz.f3.params.toList = [] := by kernel_rfl
  rw [hp] at hx
  exact hl _ _ xs hx
theorem leafExamples_shape (os : Os) : ((World.laidAll Tryz.prog os Rows.leafExamplesRow.laid).forCall (fun _ _ => 0) ⟨#[], #[], []⟩).Shaped Tryz.prog := World.shaped_of_ZipB (by kernel_rfl) (by kernel_rfl)
theorem leafExamples_met (os : Os) : laidMetH Tryz.prog Rows.leafExamplesRow.laid ((World.laidAll Tryz.prog os Rows.leafExamplesRow.laid).forCall (fun _ _ => 0) ⟨#[], #[], []⟩).memory := by
  rw [MakeChecks.laidMetH_plain _ _ _ (by kernel_rfl)]; exact laidMet_laidAll _ (by kernel_rfl) (by kernel_rfl)
theorem leafExamples_lifted (os : Os) (started : os.Started) (H : Type) (enc : TypeId × Value → H) :
    ReturnsInHanded {} Tryz.checked os 3 .any (fun w args => (Rows.leafExamplesSpec.pre enc Tryz.prog Tryz.f3 [] false w args ∧ laidMetH Tryz.prog Rows.leafExamplesRow.laid w) ∧ sizedMet enc Tryz.prog Tryz.f3 (OpenSpec.ofChange Rows.leafExamplesSpec) false w args)
      (Rows.leafExamplesSpec.post enc Tryz.prog Tryz.f3 false true false false) := by
  refine returnsInHanded_of_change_and (C := Tryz.checked) (X := fun w _ => laidMetH Tryz.prog Rows.leafExamplesRow.laid w) (fun _ _ _ hh h => h.of_heap hh) leafExamples_own started (by kernel_rfl) Tryz.func3
    (ChangeSpec.witness_shaped (enc := enc) (C := Tryz.checked) (os := os) (X := fun w _ => laidMetH Tryz.prog Rows.leafExamplesRow.laid w) false (World.laidAll Tryz.prog os Rows.leafExamplesRow.laid) #[] 8 (World.laidAll_os _ _ _)
      (leafExamples_shape os) (by kernel_rfl) (by kernel_rfl) (by kernel_rfl) (leafExamples_met os)) ?_
  intro W base args ds gs before hval hW _ _ _ _
  obtain ⟨e, he, hlaw⟩ := leafExamples_law
  exact law_contract (C := CC.more e) (N := 10) rfl nogoC mixedC he (by kernel_rfl) rfl leafExamples_spec rfl (by kernel_rfl) hlaw hval hW
theorem leafExamples_c1 : (Rows.leafExamplesRow.inPlace == Tryz.prog.inPlace 3) = true := by kernel_rfl
theorem leafExamples_c2 : (Rows.leafExamplesRow.unfollowed == Tryz.prog.unfollowed 3) = true := by kernel_rfl
theorem leafExamples_c3 : (Rows.leafExamplesRow.recurses == Tryz.prog.recurses 3) = true := by kernel_rfl
theorem leafExamples_c4 : (Rows.leafExamplesRow.named == Tryz.prog.varsNamed 3) = true := by kernel_rfl
theorem leafExamples_c5 : laidOutB Tryz.prog = true := by kernel_rfl
theorem leafExamples_c6 : Tryz.prog.stopsHeard = true := by kernel_rfl
theorem leafExamples_c7 : Tryz.prog.mayEnter = true := by kernel_rfl
theorem leafExamples_c8 : (Rows.leafExamplesRow.plainKeys == Tryz.prog.plainKeys) = true := by kernel_rfl
theorem leafExamples_closed : joinedFacts Tryz.prog 3 Tryz.f3 Rows.leafExamplesSpec Rows.leafExamplesRow = true := by
  unfold joinedFacts
  exact (Bool.and_eq_true_iff.2 ⟨(Bool.and_eq_true_iff.2 ⟨(Bool.and_eq_true_iff.2 ⟨(Bool.and_eq_true_iff.2 ⟨(Bool.and_eq_true_iff.2 ⟨(Bool.and_eq_true_iff.2 ⟨(Bool.and_eq_true_iff.2 ⟨(Bool.and_eq_true_iff.2 ⟨(Bool.and_eq_true_iff.2 ⟨(Bool.and_eq_true_iff.2 ⟨(Bool.and_eq_true_iff.2 ⟨(Bool.and_eq_true_iff.2 ⟨(Bool.and_eq_true_iff.2 ⟨(Bool.and_eq_true_iff.2 ⟨(Bool.and_eq_true_iff.2 ⟨(Bool.and_eq_true_iff.2 ⟨(Bool.and_eq_true_iff.2 ⟨(Bool.and_eq_true_iff.2 ⟨(Bool.and_eq_true_iff.2 ⟨(Bool.and_eq_true_iff.2 ⟨(Bool.and_eq_true_iff.2 ⟨(Bool.and_eq_true_iff.2 ⟨(Bool.and_eq_true_iff.2 ⟨(Bool.and_eq_true_iff.2 ⟨(Bool.and_eq_true_iff.2 ⟨(Bool.and_eq_true_iff.2 ⟨(Bool.and_eq_true_iff.2 ⟨(Bool.and_eq_true_iff.2 ⟨(Bool.and_eq_true_iff.2 ⟨(Bool.and_eq_true_iff.2 ⟨(Bool.and_eq_true_iff.2 ⟨(by kernel_rfl), leafExamples_c5⟩), by kernel_rfl⟩), by kernel_rfl⟩), by kernel_rfl⟩), by kernel_rfl⟩), by kernel_rfl⟩), by kernel_rfl⟩), by kernel_rfl⟩), leafExamples_c1⟩), leafExamples_c2⟩), leafExamples_c3⟩), leafExamples_c4⟩), by kernel_rfl⟩), by kernel_rfl⟩), by kernel_rfl⟩), by kernel_rfl⟩), by kernel_rfl⟩), by kernel_rfl⟩), by kernel_rfl⟩), by kernel_rfl⟩), by kernel_rfl⟩), leafExamples_c8⟩), by kernel_rfl⟩), leafExamples_c6⟩), leafExamples_c7⟩), by kernel_rfl⟩), by kernel_rfl⟩), by kernel_rfl⟩), by kernel_rfl⟩), by kernel_rfl⟩), by kernel_rfl⟩)
theorem leafExamples_c9 : Tryz.prog.funcNamed "postil/postillaw01.LeafExamples" = some 3 := by kernel_rfl
theorem leafExamples_c10 : Tryz.f3.isInstance Tryz.prog Rows.leafExamplesRow.origin Rows.leafExamplesRow.targs := of_decide_eq_true (by kernel_rfl)
theorem leafExamples_c11 : Tryz.f3.isWrapper Tryz.prog Rows.leafExamplesRow.wrapper Rows.leafExamplesRow.mainSum := by unfold Func.isWrapper; first | (rw [if_pos (by decide +kernel)]; kernel_rfl) | (rw [if_neg (by decide +kernel)]; exact ⟨rfl, rfl⟩)
theorem leafExamples_c12 : Rows.leafExamplesRow.wfByText (OpenSpec.ofChange Rows.leafExamplesSpec) = true := by kernel_rfl
theorem leafExamples_c13 : Tryz.prog.mainIs = some ((true, "8429d24a9af3766b4b9905db6178b9e73b31f3be0164f53e6ccdd42b3de8b037").1, (true, "8429d24a9af3766b4b9905db6178b9e73b31f3be0164f53e6ccdd42b3de8b037").2.toList) := by kernel_rfl
theorem leafExamples_c14 : false = Tryz.prog.looks [] := by kernel_rfl
theorem leafExamples_c15 : false = Rows.leafExamplesRow.goesBy Tryz.prog := by kernel_rfl
theorem leafExamples_over : Rows.LeafExamplesSaid :=
  OpenClaim.holds_of_wide 3 Tryz.f3 rfl rfl rfl rfl rfl rfl rfl ⟨rfl, rfl, rfl, rfl, rfl⟩ rfl rfl rfl rfl rfl leafExamples_c9 Tryz.func3 leafExamples_closed
    leafExamples_c10 leafExamples_c11
    (fun os started H enc _ => leafExamples_lifted os started H enc)
theorem leafExamples_holds : Rows.LeafExamplesCardSaid :=
  Claim7.holds_tied_plain_at .later [] [.data, .data, .data] true (true, "8429d24a9af3766b4b9905db6178b9e73b31f3be0164f53e6ccdd42b3de8b037") false
    leafExamples_over (fun _ h => by cases h) leafExamples_c12 (fun _ h => by cases h) leafExamples_row_tie rfl ⟨rfl, rfl⟩ leafExamples_c13 rfl
    (fun f fn hf hfn => by
      obtain rfl : f = 3 := Option.some.inj (leafExamples_c9.symm.trans hf) |>.symm
      obtain rfl : fn = Tryz.f3 := (Option.some.inj (Tryz.func3.symm.trans hfn)).symm
      exact ⟨leafExamples_c14, fun j t ht => by
        have hp : Tryz.f3.params = #[] := by kernel_rfl
        rw [hp] at ht
        simp at ht⟩)
    leafExamples_c15
end Go.Proofs.YtpnapmmndebimaaGreatDoor
