/- TomeExamples: the law, which has no argument, returns true: the chapter's examples, limits and numbers are as they should be. No condition. -/
import Derived.Test.YthmpmakgacnelaaGreatDoorRows
import Derived.Test.YthmpmakgacnelaaGreatDoorPk03
import Derived.Test.YthmpmakgacnelaaGreatDoorCards
import Derived.Test.YthmpmakgacnelaaGreatDoorTie
import Derived.WalkKit
import Derived.ProofKit
import Derived.Lay
import Derived.SevenTiedAt
namespace Go.Proofs.YthmpmakgacnelaaGreatDoor
open Go.ChangeShapes Go.WideShapes Go.ChangeAt Go.RowKit Go.Ev
set_option maxRecDepth 100000
theorem tomeExamples_own : ownKnob Tryz.prog.godebug = none := by kernel_rfl
theorem tomeExamples_spec {HH : Type} : ∀ ds : List (DataW HH), ds.length = Tryz.f3.params.size → Rows.tomeExamplesSpec.fn HH ds = { results := [.lit (.bool true)], args := ds } := by
  intro ds hl
  have hp : Tryz.f3.params.size = 0 := by kernel_rfl
  rw [hp] at hl
  match ds, hl with
  | [], _ => rfl
theorem tomeExamples_law : ∃ e x, ExtOK (CC.more2 e x) ∧ ∀ xs, ArgsOf Tryz.prog 10 Tryz.f3.params.toList xs → ∃ H', Go.Ev.lim (CC.more2 e x) (.call 3 xs { objs := [], lock := 0 }) = some (.ret (.v (.bool true)) H') := by
  obtain ⟨e, x, he, hl⟩ := closed_law gAll
  refine ⟨e, x, he, fun xs hx => ?_⟩
  have hp : Tryz.f3.params.toList = [] := by kernel_rfl
  rw [hp] at hx
  exact hl _ _ xs hx
theorem tomeExamples_shape (os : Os) : ((World.laidAll Tryz.prog os Rows.tomeExamplesRow.laid).forCall (fun _ _ => 0) ⟨#[], #[], []⟩).Shaped Tryz.prog := World.shaped_of_ZipB (by kernel_rfl) (by kernel_rfl)
theorem tomeExamples_met (os : Os) : laidMetH Tryz.prog Rows.tomeExamplesRow.laid ((World.laidAll Tryz.prog os Rows.tomeExamplesRow.laid).forCall (fun _ _ => 0) ⟨#[], #[], []⟩).memory := by
  rw [MakeChecks.laidMetH_plain _ _ _ (by kernel_rfl)]; exact laidMet_laidAll _ (by kernel_rfl) (by kernel_rfl)
theorem tomeExamples_lifted (os : Os) (started : os.Started) (H : Type) (enc : TypeId × Value → H) :
    ReturnsInHanded {} Tryz.checked os 3 .any (fun w args => (Rows.tomeExamplesSpec.pre enc Tryz.prog Tryz.f3 [] false w args ∧ laidMetH Tryz.prog Rows.tomeExamplesRow.laid w) ∧ sizedMet enc Tryz.prog Tryz.f3 (OpenSpec.ofChange Rows.tomeExamplesSpec) false w args)
      (Rows.tomeExamplesSpec.post enc Tryz.prog Tryz.f3 false true false false) := by
  refine returnsInHanded_of_change_and (C := Tryz.checked) (X := fun w _ => laidMetH Tryz.prog Rows.tomeExamplesRow.laid w) (fun _ _ _ hh h => h.of_heap hh) tomeExamples_own started (by kernel_rfl) Tryz.func3
    (ChangeSpec.witness_shaped (enc := enc) (C := Tryz.checked) (os := os) (X := fun w _ => laidMetH Tryz.prog Rows.tomeExamplesRow.laid w) false (World.laidAll Tryz.prog os Rows.tomeExamplesRow.laid) #[] 8 (World.laidAll_os _ _ _)
      (tomeExamples_shape os) (by kernel_rfl) (by kernel_rfl) (by kernel_rfl) (tomeExamples_met os)) ?_
  intro W base args ds gs before hval hW _ _ _ _
  obtain ⟨e, x, he, hlaw⟩ := tomeExamples_law
  exact law_contract (C := CC.more2 e x) (N := 10) rfl nogoC mixedC he (by kernel_rfl) rfl tomeExamples_spec rfl (by kernel_rfl) hlaw hval hW
theorem tomeExamples_c1 : (Rows.tomeExamplesRow.inPlace == Tryz.prog.inPlace 3) = true := by kernel_rfl
theorem tomeExamples_c2 : (Rows.tomeExamplesRow.unfollowed == Tryz.prog.unfollowed 3) = true := by kernel_rfl
theorem tomeExamples_c3 : (Rows.tomeExamplesRow.recurses == Tryz.prog.recurses 3) = true := by kernel_rfl
theorem tomeExamples_c4 : (Rows.tomeExamplesRow.named == Tryz.prog.varsNamed 3) = true := by kernel_rfl
theorem tomeExamples_c5 : laidOutB Tryz.prog = true := by kernel_rfl
theorem tomeExamples_c6 : Tryz.prog.stopsHeard = true := by kernel_rfl
theorem tomeExamples_c7 : Tryz.prog.mayEnter = true := by kernel_rfl
theorem tomeExamples_c8 : (Rows.tomeExamplesRow.plainKeys == Tryz.prog.plainKeys) = true := by kernel_rfl
theorem tomeExamples_closed : joinedFacts Tryz.prog 3 Tryz.f3 Rows.tomeExamplesSpec Rows.tomeExamplesRow = true := by
  unfold joinedFacts
  exact (Bool.and_eq_true_iff.2 ⟨(Bool.and_eq_true_iff.2 ⟨(Bool.and_eq_true_iff.2 ⟨(Bool.and_eq_true_iff.2 ⟨(Bool.and_eq_true_iff.2 ⟨(Bool.and_eq_true_iff.2 ⟨(Bool.and_eq_true_iff.2 ⟨(Bool.and_eq_true_iff.2 ⟨(Bool.and_eq_true_iff.2 ⟨(Bool.and_eq_true_iff.2 ⟨(Bool.and_eq_true_iff.2 ⟨(Bool.and_eq_true_iff.2 ⟨(Bool.and_eq_true_iff.2 ⟨(Bool.and_eq_true_iff.2 ⟨(Bool.and_eq_true_iff.2 ⟨(Bool.and_eq_true_iff.2 ⟨(Bool.and_eq_true_iff.2 ⟨(Bool.and_eq_true_iff.2 ⟨(Bool.and_eq_true_iff.2 ⟨(Bool.and_eq_true_iff.2 ⟨(Bool.and_eq_true_iff.2 ⟨(Bool.and_eq_true_iff.2 ⟨(Bool.and_eq_true_iff.2 ⟨(Bool.and_eq_true_iff.2 ⟨(Bool.and_eq_true_iff.2 ⟨(Bool.and_eq_true_iff.2 ⟨(Bool.and_eq_true_iff.2 ⟨(Bool.and_eq_true_iff.2 ⟨(Bool.and_eq_true_iff.2 ⟨(Bool.and_eq_true_iff.2 ⟨(Bool.and_eq_true_iff.2 ⟨(by kernel_rfl), tomeExamples_c5⟩), by kernel_rfl⟩), by kernel_rfl⟩), by kernel_rfl⟩), by kernel_rfl⟩), by kernel_rfl⟩), by kernel_rfl⟩), by kernel_rfl⟩), tomeExamples_c1⟩), tomeExamples_c2⟩), tomeExamples_c3⟩), tomeExamples_c4⟩), by kernel_rfl⟩), by kernel_rfl⟩), by kernel_rfl⟩), by kernel_rfl⟩), by kernel_rfl⟩), by kernel_rfl⟩), by kernel_rfl⟩), by kernel_rfl⟩), by kernel_rfl⟩), tomeExamples_c8⟩), by kernel_rfl⟩), tomeExamples_c6⟩), tomeExamples_c7⟩), by kernel_rfl⟩), by kernel_rfl⟩), by kernel_rfl⟩), by kernel_rfl⟩), by kernel_rfl⟩), by kernel_rfl⟩)
theorem tomeExamples_c9 : Tryz.prog.funcNamed "postil/postillaw10.TomeExamples" = some 3 := by kernel_rfl
theorem tomeExamples_c10 : Tryz.f3.isInstance Tryz.prog Rows.tomeExamplesRow.origin Rows.tomeExamplesRow.targs := of_decide_eq_true (by kernel_rfl)
theorem tomeExamples_c11 : Tryz.f3.isWrapper Tryz.prog Rows.tomeExamplesRow.wrapper Rows.tomeExamplesRow.mainSum := by unfold Func.isWrapper; first | (rw [if_pos (by decide +kernel)]; kernel_rfl) | (rw [if_neg (by decide +kernel)]; exact ⟨rfl, rfl⟩)
theorem tomeExamples_c12 : Rows.tomeExamplesRow.wfByText (OpenSpec.ofChange Rows.tomeExamplesSpec) = true := by kernel_rfl
theorem tomeExamples_c13 : Tryz.prog.mainIs = some ((true, "f750a506af9ceb95eae97bc019e87f59a95baba1f5aa94da78c6db6a804327ec").1, (true, "f750a506af9ceb95eae97bc019e87f59a95baba1f5aa94da78c6db6a804327ec").2.toList) := by kernel_rfl
theorem tomeExamples_c14 : false = Tryz.prog.looks [] := by kernel_rfl
theorem tomeExamples_c15 : false = Rows.tomeExamplesRow.goesBy Tryz.prog := by kernel_rfl
theorem tomeExamples_over : Rows.TomeExamplesSaid :=
  OpenClaim.holds_of_wide 3 Tryz.f3 rfl rfl rfl rfl rfl rfl rfl ⟨rfl, rfl, rfl, rfl, rfl⟩ rfl rfl rfl rfl rfl tomeExamples_c9 Tryz.func3 tomeExamples_closed
    tomeExamples_c10 tomeExamples_c11
    (fun os started H enc _ => tomeExamples_lifted os started H enc)
theorem tomeExamples_holds : Rows.TomeExamplesCardSaid :=
  Claim7.holds_tied_plain_at .later [] [.data, .data, .data, .data, .pinned] true (true, "f750a506af9ceb95eae97bc019e87f59a95baba1f5aa94da78c6db6a804327ec") false
    tomeExamples_over (fun _ h => by cases h) tomeExamples_c12 (fun _ h => by cases h) tomeExamples_row_tie rfl ⟨rfl, rfl⟩ tomeExamples_c13 rfl
    (fun f fn hf hfn => by
      obtain rfl : f = 3 := Option.some.inj (tomeExamples_c9.symm.trans hf) |>.symm
      obtain rfl : fn = Tryz.f3 := (Option.some.inj (Tryz.func3.symm.trans hfn)).symm
      exact ⟨tomeExamples_c14, fun j t ht => by
        have hp : Tryz.f3.params = #[] := by kernel_rfl
        rw [hp] at ht
        simp at ht⟩)
    tomeExamples_c15
end Go.Proofs.YthmpmakgacnelaaGreatDoor
