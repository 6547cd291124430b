/- SlipExamples: the law, which has no argument, returns true: the chapter's examples, limits and numbers are as they should be. No condition. -/
import Derived.Test.YtmajcafhfbpamaaGreatDoorRows
import Derived.Test.YtmajcafhfbpamaaGreatDoorPk02
import Derived.Test.YtmajcafhfbpamaaGreatDoorCards
import Derived.Test.YtmajcafhfbpamaaGreatDoorTie
import Derived.WalkKit
import Derived.ProofKit
import Derived.Lay
import Derived.SevenTiedAt
namespace Go.Proofs.YtmajcafhfbpamaaGreatDoor
open Go.ChangeShapes Go.WideShapes Go.ChangeAt Go.RowKit Go.Ev
set_option maxRecDepth 100000
theorem slipExamples_own : ownKnob Tryz.prog.godebug = none := by kernel_rfl
theorem slipExamples_spec {HH : Type} : ∀ ds : List (DataW HH), ds.length = Tryz.f4.params.size → Rows.slipExamplesSpec.fn HH ds = { results := [.lit (.bool true)], args := ds } := by
  intro ds hl
  have hp : Tryz.f4.params.size = 0 := by kernel_rfl
  rw [hp] at hl
  match ds, hl with
  | [], _ => rfl
theorem slipExamples_law : ∃ e x, ExtOK (CC.more2 e x) ∧ ∀ xs, ArgsOf Tryz.prog 10 Tryz.f4.params.toList xs → ∃ H', Go.Ev.lim (CC.more2 e x) (.call 4 xs { objs := [], lock := 0 }) = some (.ret (.v (.bool true)) H') := by
  obtain ⟨e, x, he, hl⟩ := closed_law gAll
  refine ⟨e, x, he, fun xs hx => ?_⟩
  have hp : Tryz.f4.params.toList = [] := by kernel_rfl
  rw [hp] at hx
  exact hl _ _ xs hx
theorem slipExamples_shape (os : Os) : ((World.laidAll Tryz.prog os Rows.slipExamplesRow.laid).forCall (fun _ _ => 0) ⟨#[], #[], []⟩).Shaped Tryz.prog := World.shaped_of_ZipB (by kernel_rfl) (by kernel_rfl)
theorem slipExamples_met (os : Os) : laidMetH Tryz.prog Rows.slipExamplesRow.laid ((World.laidAll Tryz.prog os Rows.slipExamplesRow.laid).forCall (fun _ _ => 0) ⟨#[], #[], []⟩).memory := by
  rw [MakeChecks.laidMetH_plain _ _ _ (by kernel_rfl)]; exact laidMet_laidAll _ (by kernel_rfl) (by kernel_rfl)
theorem slipExamples_tab {W : World} (h : laidMetH Tryz.prog Rows.slipExamplesRow.laid W) : laidOk (allZ W) := by
  rw [MakeChecks.laidMetH_plain _ _ _ (by kernel_rfl)] at h
  intro p hp
  obtain rfl := List.mem_singleton.1 hp
  exact heap_of_tab (P := Tryz.prog) (name := "strings.asciiSpace") (by kernel_rfl) (tabIs_of_vars (P := Tryz.prog) (g := 0) (t := 187) (e := 5) (n := 256) (by kernel_rfl) (by kernel_rfl) (by kernel_rfl) (by kernel_rfl) (by kernel_rfl) (by kernel_rfl) (l := Rows.slipExamplesRow.laid) (List.mem_of_getElem? (i := 2) (by kernel_rfl)) h.choose_spec.1)
theorem slipExamples_lifted (os : Os) (started : os.Started) (H : Type) (enc : TypeId × Value → H) :
    ReturnsInHanded {} Tryz.checked os 4 .any (fun w args => (Rows.slipExamplesSpec.pre enc Tryz.prog Tryz.f4 [] false w args ∧ laidMetH Tryz.prog Rows.slipExamplesRow.laid w) ∧ sizedMet enc Tryz.prog Tryz.f4 (OpenSpec.ofChange Rows.slipExamplesSpec) false w args)
      (Rows.slipExamplesSpec.post enc Tryz.prog Tryz.f4 false true false false) := by
  refine returnsInHanded_of_change_and (C := Tryz.checked) (X := fun w _ => laidMetH Tryz.prog Rows.slipExamplesRow.laid w) (fun _ _ _ hh h => h.of_heap hh) slipExamples_own started (by kernel_rfl) Tryz.func4
    (ChangeSpec.witness_shaped (enc := enc) (C := Tryz.checked) (os := os) (X := fun w _ => laidMetH Tryz.prog Rows.slipExamplesRow.laid w) false (World.laidAll Tryz.prog os Rows.slipExamplesRow.laid) #[] 8 (World.laidAll_os _ _ _)
      (slipExamples_shape os) (by kernel_rfl) (by kernel_rfl) (by kernel_rfl) (slipExamples_met os)) ?_
  intro W base args ds gs before hval hW _ _ hX _
  obtain ⟨e, x, he, hlaw⟩ := slipExamples_law
  exact law_contract (C := CC.more2 e x) (N := 10) rfl nogoC mixedC he (by kernel_rfl) rfl slipExamples_spec rfl (by kernel_rfl) hlaw hval hW (slipExamples_tab hX)
theorem slipExamples_c1 : (Rows.slipExamplesRow.inPlace == Tryz.prog.inPlace 4) = true := by kernel_rfl
theorem slipExamples_c2 : (Rows.slipExamplesRow.unfollowed == Tryz.prog.unfollowed 4) = true := by kernel_rfl
theorem slipExamples_c3 : (Rows.slipExamplesRow.recurses == Tryz.prog.recurses 4) = true := by kernel_rfl
theorem slipExamples_c4 : (Rows.slipExamplesRow.named == Tryz.prog.varsNamed 4) = true := by kernel_rfl
theorem slipExamples_c5 : laidOutB Tryz.prog = true := by kernel_rfl
theorem slipExamples_c6 : Tryz.prog.stopsHeard = true := by kernel_rfl
theorem slipExamples_c7 : Tryz.prog.mayEnter = true := by kernel_rfl
theorem slipExamples_c8 : (Rows.slipExamplesRow.plainKeys == Tryz.prog.plainKeys) = true := by kernel_rfl
theorem slipExamples_closed : joinedFacts Tryz.prog 4 Tryz.f4 Rows.slipExamplesSpec Rows.slipExamplesRow = true := by
  unfold joinedFacts
  exact (Bool.and_eq_true_iff.2 ⟨(Bool.and_eq_true_iff.2 ⟨(Bool.and_eq_true_iff.2 ⟨(Bool.and_eq_true_iff.2 ⟨(Bool.and_eq_true_iff.2 ⟨(Bool.and_eq_true_iff.2 ⟨(Bool.and_eq_true_iff.2 ⟨(Bool.and_eq_true_iff.2 ⟨(Bool.and_eq_true_iff.2 ⟨(Bool.and_eq_true_iff.2 ⟨(Bool.and_eq_true_iff.2 ⟨(Bool.and_eq_true_iff.2 ⟨(Bool.and_eq_true_iff.2 ⟨(Bool.and_eq_true_iff.2 ⟨(Bool.and_eq_true_iff.2 ⟨(Bool.and_eq_true_iff.2 ⟨(Bool.and_eq_true_iff.2 ⟨(Bool.and_eq_true_iff.2 ⟨(Bool.and_eq_true_iff.2 ⟨(Bool.and_eq_true_iff.2 ⟨(Bool.and_eq_true_iff.2 ⟨(Bool.and_eq_true_iff.2 ⟨(Bool.and_eq_true_iff.2 ⟨(Bool.and_eq_true_iff.2 ⟨(Bool.and_eq_true_iff.2 ⟨(Bool.and_eq_true_iff.2 ⟨(Bool.and_eq_true_iff.2 ⟨(Bool.and_eq_true_iff.2 ⟨(Bool.and_eq_true_iff.2 ⟨(Bool.and_eq_true_iff.2 ⟨(Bool.and_eq_true_iff.2 ⟨(by kernel_rfl), slipExamples_c5⟩), by kernel_rfl⟩), by kernel_rfl⟩), by kernel_rfl⟩), by kernel_rfl⟩), by kernel_rfl⟩), by kernel_rfl⟩), by kernel_rfl⟩), slipExamples_c1⟩), slipExamples_c2⟩), slipExamples_c3⟩), slipExamples_c4⟩), by kernel_rfl⟩), by kernel_rfl⟩), by kernel_rfl⟩), by kernel_rfl⟩), by kernel_rfl⟩), by kernel_rfl⟩), by kernel_rfl⟩), by kernel_rfl⟩), by kernel_rfl⟩), slipExamples_c8⟩), by kernel_rfl⟩), slipExamples_c6⟩), slipExamples_c7⟩), by kernel_rfl⟩), by kernel_rfl⟩), by kernel_rfl⟩), by kernel_rfl⟩), by kernel_rfl⟩), by kernel_rfl⟩)
theorem slipExamples_c9 : Tryz.prog.funcNamed "postil/postillaw03.SlipExamples" = some 4 := by kernel_rfl
theorem slipExamples_c10 : Tryz.f4.isInstance Tryz.prog Rows.slipExamplesRow.origin Rows.slipExamplesRow.targs := of_decide_eq_true (by kernel_rfl)
theorem slipExamples_c11 : Tryz.f4.isWrapper Tryz.prog Rows.slipExamplesRow.wrapper Rows.slipExamplesRow.mainSum := by unfold Func.isWrapper; first | (rw [if_pos (by decide +kernel)]; kernel_rfl) | (rw [if_neg (by decide +kernel)]; exact ⟨rfl, rfl⟩)
theorem slipExamples_c12 : Rows.slipExamplesRow.wfByText (OpenSpec.ofChange Rows.slipExamplesSpec) = true := by kernel_rfl
theorem slipExamples_c13 : Tryz.prog.mainIs = some ((true, "cdb0c94b42050c44fe1623a4c45843700c837e98d62dd29dbc15ecf1b30f6525").1, (true, "cdb0c94b42050c44fe1623a4c45843700c837e98d62dd29dbc15ecf1b30f6525").2.toList) := by kernel_rfl
theorem slipExamples_c14 : false = Tryz.prog.looks [] := by kernel_rfl
theorem slipExamples_c15 : false = Rows.slipExamplesRow.goesBy Tryz.prog := by kernel_rfl
theorem slipExamples_over : Rows.SlipExamplesSaid :=
  OpenClaim.holds_of_wide 4 Tryz.f4 rfl rfl rfl rfl rfl rfl rfl ⟨rfl, rfl, rfl, rfl, rfl⟩ rfl rfl rfl rfl rfl slipExamples_c9 Tryz.func4 slipExamples_closed
    slipExamples_c10 slipExamples_c11
    (fun os started H enc _ => slipExamples_lifted os started H enc)
theorem slipExamples_holds : Rows.SlipExamplesCardSaid :=
  Claim7.holds_tied_plain_at .later [] [.data, .listed, .data, .pinned] true (true, "cdb0c94b42050c44fe1623a4c45843700c837e98d62dd29dbc15ecf1b30f6525") false
    slipExamples_over (fun _ h => by cases h) slipExamples_c12 (fun _ h => by cases h) slipExamples_row_tie rfl ⟨rfl, rfl⟩ slipExamples_c13 rfl
    (fun f fn hf hfn => by
      obtain rfl : f = 4 := Option.some.inj (slipExamples_c9.symm.trans hf) |>.symm
      obtain rfl : fn = Tryz.f4 := (Option.some.inj (Tryz.func4.symm.trans hfn)).symm
      exact ⟨slipExamples_c14, fun j t ht => by
        have hp : Tryz.f4.params = #[] := by kernel_rfl
        rw [hp] at ht
        simp at ht⟩)
    slipExamples_c15
end Go.Proofs.YtmajcafhfbpamaaGreatDoor
