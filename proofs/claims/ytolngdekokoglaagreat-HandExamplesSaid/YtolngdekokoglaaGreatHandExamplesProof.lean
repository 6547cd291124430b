/- HandExamples: the law, which has no argument, returns true: the chapter's examples, limits and numbers are as they should be. No condition. -/
import Derived.Test.YtolngdekokoglaaGreatRows
import Derived.Test.YtolngdekokoglaaGreatPk02
import Derived.WalkKit
import Derived.ProofKit
import Derived.Lay
import Derived.SevenTiedAt
namespace Go.Proofs.YtolngdekokoglaaGreat
open Go.ChangeShapes Go.WideShapes Go.ChangeAt Go.RowKit Go.Ev
set_option maxRecDepth 100000
theorem handExamples_own : ownKnob Tryz.prog.godebug = none := by kernel_rfl
theorem handExamples_spec {HH : Type} : ∀ ds : List (DataW HH), ds.length = Tryz.f4.params.size → Rows.handExamplesSpec.fn HH ds = { results := [.lit (.bool true)], args := ds } := by
  intro ds hl
  have hp : Tryz.f4.params.size = 0 := by kernel_rfl
  rw [hp] at hl
  match ds, hl with
  | [], _ => rfl
theorem handExamples_law : ∃ e x, ExtOK (CC.more2 e x) ∧ ∀ xs, ArgsOf Tryz.prog 10 Tryz.f4.params.toList xs → ∃ H', Go.Ev.lim (CC.more2 e x) (.call 4 xs { objs := [], lock := 0 }) = some (.ret (.v (.bool true)) H') := by
  obtain ⟨e, x, he, hl⟩ := closed_law gAll
  refine ⟨e, x, he, fun xs hx => ?_⟩
  have hp : Tryz.f4.params.toList = [] := by kernel_rfl
  rw [hp] at hx
  exact hl _ _ xs hx
theorem handExamples_lifted (os : Os) (started : os.Started) (H : Type) (enc : TypeId × Value → H) :
    ReturnsInHanded {} Tryz.checked os 4 .any (Rows.handExamplesSpec.pre6 enc Tryz.prog Tryz.f4 Rows.handExamplesRow.domain false) (Rows.handExamplesSpec.post enc Tryz.prog Tryz.f4 false true false false) := by
  refine returnsInHanded_of_change (C := Tryz.checked) handExamples_own started (by kernel_rfl) Tryz.func4
    (ChangeSpec.witness6 (enc := enc) (C := Tryz.checked) false ⟨#[], #[], []⟩ 8 (by kernel_rfl) (by kernel_rfl) (by kernel_rfl) (by kernel_rfl)) ?_
  intro W base args ds gs before hval hW hcnd _
  obtain ⟨e, x, he, hlaw⟩ := handExamples_law
  exact law_contract (C := CC.more2 e x) (N := 10) rfl nogoC mixedC he (by kernel_rfl) rfl handExamples_spec rfl (by kernel_rfl) hlaw hval hW
theorem handExamples_c1 : (Rows.handExamplesRow.inPlace == Tryz.prog.inPlace 4) = true := by kernel_rfl
theorem handExamples_c2 : (Rows.handExamplesRow.unfollowed == Tryz.prog.unfollowed 4) = true := by kernel_rfl
theorem handExamples_c3 : (Rows.handExamplesRow.recurses == Tryz.prog.recurses 4) = true := by kernel_rfl
theorem handExamples_c4 : (Rows.handExamplesRow.named == Tryz.prog.varsNamed 4) = true := by kernel_rfl
theorem handExamples_c5 : laidOutB Tryz.prog = true := by kernel_rfl
theorem handExamples_c6 : Tryz.prog.stopsHeard = true := by kernel_rfl
theorem handExamples_c7 : Tryz.prog.mayEnter = true := by kernel_rfl
theorem handExamples_c8 : (Rows.handExamplesRow.plainKeys == Tryz.prog.plainKeys) = true := by kernel_rfl
theorem handExamples_closed : joinedFacts Tryz.prog 4 Tryz.f4 Rows.handExamplesSpec Rows.handExamplesRow = true := by
  unfold joinedFacts
  exact (Bool.and_eq_true_iff.2 ⟨(Bool.and_eq_true_iff.2 ⟨(Bool.and_eq_true_iff.2 ⟨(Bool.and_eq_true_iff.2 ⟨(Bool.and_eq_true_iff.2 ⟨(Bool.and_eq_true_iff.2 ⟨(Bool.and_eq_true_iff.2 ⟨(Bool.and_eq_true_iff.2 ⟨(Bool.and_eq_true_iff.2 ⟨(Bool.and_eq_true_iff.2 ⟨(Bool.and_eq_true_iff.2 ⟨(Bool.and_eq_true_iff.2 ⟨(Bool.and_eq_true_iff.2 ⟨(Bool.and_eq_true_iff.2 ⟨(Bool.and_eq_true_iff.2 ⟨(Bool.and_eq_true_iff.2 ⟨(Bool.and_eq_true_iff.2 ⟨(Bool.and_eq_true_iff.2 ⟨(Bool.and_eq_true_iff.2 ⟨(Bool.and_eq_true_iff.2 ⟨(Bool.and_eq_true_iff.2 ⟨(Bool.and_eq_true_iff.2 ⟨(Bool.and_eq_true_iff.2 ⟨(Bool.and_eq_true_iff.2 ⟨(Bool.and_eq_true_iff.2 ⟨(Bool.and_eq_true_iff.2 ⟨(Bool.and_eq_true_iff.2 ⟨(Bool.and_eq_true_iff.2 ⟨(Bool.and_eq_true_iff.2 ⟨(Bool.and_eq_true_iff.2 ⟨(Bool.and_eq_true_iff.2 ⟨(by kernel_rfl), handExamples_c5⟩), by kernel_rfl⟩), by kernel_rfl⟩), by kernel_rfl⟩), by kernel_rfl⟩), by kernel_rfl⟩), by kernel_rfl⟩), by kernel_rfl⟩), handExamples_c1⟩), handExamples_c2⟩), handExamples_c3⟩), handExamples_c4⟩), by kernel_rfl⟩), by kernel_rfl⟩), by kernel_rfl⟩), by kernel_rfl⟩), by kernel_rfl⟩), by kernel_rfl⟩), by kernel_rfl⟩), by kernel_rfl⟩), by kernel_rfl⟩), handExamples_c8⟩), by kernel_rfl⟩), handExamples_c6⟩), handExamples_c7⟩), by kernel_rfl⟩), by kernel_rfl⟩), by kernel_rfl⟩), by kernel_rfl⟩), by kernel_rfl⟩), by kernel_rfl⟩)
theorem handExamples_c9 : Tryz.prog.funcNamed "postil/postillaw05.HandExamples" = some 4 := by kernel_rfl
theorem handExamples_c10 : Tryz.f4.isInstance Tryz.prog Rows.handExamplesRow.origin Rows.handExamplesRow.targs := of_decide_eq_true (by kernel_rfl)
theorem handExamples_c11 : Tryz.f4.isWrapper Tryz.prog Rows.handExamplesRow.wrapper Rows.handExamplesRow.mainSum := by unfold Func.isWrapper; first | (rw [if_pos (by decide +kernel)]; kernel_rfl) | (rw [if_neg (by decide +kernel)]; exact ⟨rfl, rfl⟩)
theorem handExamples_holds : Rows.HandExamplesSaid :=
  OpenClaim.holds_of_wide 4 Tryz.f4 rfl rfl rfl rfl rfl rfl rfl ⟨rfl, rfl, rfl, rfl, rfl⟩ rfl rfl rfl rfl rfl handExamples_c9 Tryz.func4 handExamples_closed
    handExamples_c10 handExamples_c11
    (fun os started H enc _ => handExamples_lifted os started H enc)
end Go.Proofs.YtolngdekokoglaaGreat
