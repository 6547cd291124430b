/- ProofExamples: the law, which has no argument, returns true: the chapter's examples, limits and numbers are as they should be. No condition. -/
import Derived.Test.YtkdhmidpmcbbiaaRows
import Derived.Test.YtkdhmidpmcbbiaaPk02
import Derived.WalkKit
import Derived.ProofKit
import Derived.Lay
import Derived.SevenTiedAt
namespace Go.Proofs.Ytkdhmidpmcbbiaa
open Go.ChangeShapes Go.WideShapes Go.ChangeAt Go.RowKit Go.Ev
set_option maxRecDepth 100000
theorem proofExamples_own : ownKnob Try.prog.godebug = none := by kernel_rfl
theorem proofExamples_spec {HH : Type} : ∀ ds : List (DataW HH), ds.length = Try.f5.params.size → Rows.proofExamplesSpec.fn HH ds = { results := [.lit (.bool true)], args := ds } := by
  intro ds hl
  have hp : Try.f5.params.size = 0 := by kernel_rfl
  rw [hp] at hl
  match ds, hl with
  | [], _ => rfl
theorem proofExamples_law : ∃ e x, ExtOK (CC.more2 e x) ∧ ∀ xs, ArgsOf Try.prog 10 Try.f5.params.toList xs → ∃ H', Go.Ev.lim (CC.more2 e x) (.call 5 xs { objs := [], lock := 0 }) = some (.ret (.v (.bool true)) H') := by
  obtain ⟨e, x, he, hl⟩ := closed_law gAll
  refine ⟨e, x, he, fun xs hx => ?_⟩
  have hp : Try.f5.params.toList = [] := by kernel_rfl
  rw [hp] at hx
  exact hl _ _ xs hx
theorem proofExamples_lifted (os : Os) (started : os.Started) (H : Type) (enc : TypeId × Value → H) :
    ReturnsInHanded {} Try.checked os 5 .any (Rows.proofExamplesSpec.pre6 enc Try.prog Try.f5 Rows.proofExamplesRow.domain false) (Rows.proofExamplesSpec.post enc Try.prog Try.f5 false true false false) := by
  refine returnsInHanded_of_change (C := Try.checked) proofExamples_own started (by kernel_rfl) Try.func5
    (ChangeSpec.witness6 (enc := enc) (C := Try.checked) false ⟨#[], #[], []⟩ 8 (by kernel_rfl) (by kernel_rfl) (by kernel_rfl) (by kernel_rfl)) ?_
  intro W base args ds gs before hval hW hcnd _
  obtain ⟨e, x, he, hlaw⟩ := proofExamples_law
  exact law_contract (C := CC.more2 e x) (N := 10) rfl nogoC mixedC he (by kernel_rfl) rfl proofExamples_spec rfl (by kernel_rfl) hlaw hval hW
theorem proofExamples_c1 : (Rows.proofExamplesRow.inPlace == Try.prog.inPlace 5) = true := by kernel_rfl
theorem proofExamples_c2 : (Rows.proofExamplesRow.unfollowed == Try.prog.unfollowed 5) = true := by kernel_rfl
theorem proofExamples_c3 : (Rows.proofExamplesRow.recurses == Try.prog.recurses 5) = true := by kernel_rfl
theorem proofExamples_c4 : (Rows.proofExamplesRow.named == Try.prog.varsNamed 5) = true := by kernel_rfl
theorem proofExamples_c5 : laidOutB Try.prog = true := by kernel_rfl
theorem proofExamples_c6 : Try.prog.stopsHeard = true := by kernel_rfl
theorem proofExamples_c7 : Try.prog.mayEnter = true := by kernel_rfl
theorem proofExamples_c8 : (Rows.proofExamplesRow.plainKeys == Try.prog.plainKeys) = true := by kernel_rfl
theorem proofExamples_closed : joinedFacts Try.prog 5 Try.f5 Rows.proofExamplesSpec Rows.proofExamplesRow = true := by
  unfold joinedFacts
  exact (Bool.and_eq_true_iff.2 ⟨(Bool.and_eq_true_iff.2 ⟨(Bool.and_eq_true_iff.2 ⟨(Bool.and_eq_true_iff.2 ⟨(Bool.and_eq_true_iff.2 ⟨(Bool.and_eq_true_iff.2 ⟨(Bool.and_eq_true_iff.2 ⟨(Bool.and_eq_true_iff.2 ⟨(Bool.and_eq_true_iff.2 ⟨(Bool.and_eq_true_iff.2 ⟨(Bool.and_eq_true_iff.2 ⟨(Bool.and_eq_true_iff.2 ⟨(Bool.and_eq_true_iff.2 ⟨(Bool.and_eq_true_iff.2 ⟨(Bool.and_eq_true_iff.2 ⟨(Bool.and_eq_true_iff.2 ⟨(Bool.and_eq_true_iff.2 ⟨(Bool.and_eq_true_iff.2 ⟨(Bool.and_eq_true_iff.2 ⟨(Bool.and_eq_true_iff.2 ⟨(Bool.and_eq_true_iff.2 ⟨(Bool.and_eq_true_iff.2 ⟨(Bool.and_eq_true_iff.2 ⟨(Bool.and_eq_true_iff.2 ⟨(Bool.and_eq_true_iff.2 ⟨(Bool.and_eq_true_iff.2 ⟨(Bool.and_eq_true_iff.2 ⟨(Bool.and_eq_true_iff.2 ⟨(Bool.and_eq_true_iff.2 ⟨(Bool.and_eq_true_iff.2 ⟨(Bool.and_eq_true_iff.2 ⟨(by kernel_rfl), proofExamples_c5⟩), by kernel_rfl⟩), by kernel_rfl⟩), by kernel_rfl⟩), by kernel_rfl⟩), by kernel_rfl⟩), by kernel_rfl⟩), by kernel_rfl⟩), proofExamples_c1⟩), proofExamples_c2⟩), proofExamples_c3⟩), proofExamples_c4⟩), by kernel_rfl⟩), by kernel_rfl⟩), by kernel_rfl⟩), by kernel_rfl⟩), by kernel_rfl⟩), by kernel_rfl⟩), by kernel_rfl⟩), by kernel_rfl⟩), by kernel_rfl⟩), proofExamples_c8⟩), by kernel_rfl⟩), proofExamples_c6⟩), proofExamples_c7⟩), by kernel_rfl⟩), by kernel_rfl⟩), by kernel_rfl⟩), by kernel_rfl⟩), by kernel_rfl⟩), by kernel_rfl⟩)
theorem proofExamples_c9 : Try.prog.funcNamed "postil/postillaw09.ProofExamples" = some 5 := by kernel_rfl
theorem proofExamples_c10 : Try.f5.isInstance Try.prog Rows.proofExamplesRow.origin Rows.proofExamplesRow.targs := of_decide_eq_true (by kernel_rfl)
theorem proofExamples_c11 : Try.f5.isWrapper Try.prog Rows.proofExamplesRow.wrapper Rows.proofExamplesRow.mainSum := by unfold Func.isWrapper; first | (rw [if_pos (by decide +kernel)]; kernel_rfl) | (rw [if_neg (by decide +kernel)]; exact ⟨rfl, rfl⟩)
theorem proofExamples_holds : Rows.ProofExamplesSaid :=
  OpenClaim.holds_of_wide 5 Try.f5 rfl rfl rfl rfl rfl rfl rfl ⟨rfl, rfl, rfl, rfl, rfl⟩ rfl rfl rfl rfl rfl proofExamples_c9 Try.func5 proofExamples_closed
    proofExamples_c10 proofExamples_c11
    (fun os started H enc _ => proofExamples_lifted os started H enc)
end Go.Proofs.Ytkdhmidpmcbbiaa
