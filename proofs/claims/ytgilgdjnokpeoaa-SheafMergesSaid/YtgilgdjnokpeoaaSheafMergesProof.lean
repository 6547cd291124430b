/- SheafMerges: for all three files the law returns true: the rows that Merge makes, or the error, are what the reference tells; the rows stay, and what is handed back shares no memory with them. No condition. -/
import Derived.Test.YtgilgdjnokpeoaaRows
import Derived.Test.YtgilgdjnokpeoaaPk03
namespace Go.Proofs.Ytgilgdjnokpeoaa
open Go.ChangeShapes Go.WideShapes Go.ChangeAt Go.RowKit Go.Ev
set_option maxRecDepth 100000
theorem sheafMerges_own : ownKnob Try.prog.godebug = none := by kernel_rfl
theorem sheafMerges_law (xs : List AV) (h : ArgsOf Try.prog 10 Try.f4.params.toList xs) : ∃ H', lim (Cx eA) (.call 4 xs { objs := [], lock := 0 }) = some (.ret (.v (.bool true)) H') := by
  have hp : Try.f4.params.toList = [22, 22, 22] := by kernel_rfl
  rw [hp] at h
  cases h with
  | cons h1 h =>
    cases h with
    | cons h2 h =>
      cases h with
      | cons h3 h =>
        cases h
        obtain ⟨o, hx, ho⟩ := rows_arg (N := 8) h1
        obtain ⟨a, hy, ha⟩ := rows_arg (N := 8) h2
        obtain ⟨b, hz, hb⟩ := rows_arg (N := 8) h3
        exact (ansM4 o ho _ hx a ha _ hy b hb _ hz).lim
theorem sheafMerges_spec {HH : Type} : ∀ ds : List (DataW HH), ds.length = Try.f4.params.size → Rows.sheafMergesSpec.fn HH ds = { results := [.lit (.bool true)], args := ds } := by
  intro ds hl
  have hp : Try.f4.params.size = 3 := by kernel_rfl
  rw [hp] at hl
  match ds, hl with
  | [a, b, c], _ => rfl

theorem sheafMerges_lifted (os : Os) (started : os.Started) (H : Type) (enc : TypeId × Value → H) :
    ReturnsInHanded {} Try.checked os 4 .any (Rows.sheafMergesSpec.pre6 enc Try.prog Try.f4 Rows.sheafMergesRow.domain false) (Rows.sheafMergesSpec.post enc Try.prog Try.f4 false true false false) := by
  refine returnsInHanded_of_change (C := Try.checked) sheafMerges_own started (by kernel_rfl) Try.func4
    (ChangeSpec.witness6 (enc := enc) (C := Try.checked) false ⟨#[], #[.slice none 0 0, .slice none 0 0, .slice none 0 0], []⟩ 8 (by kernel_rfl) (by kernel_rfl) (by kernel_rfl) (by kernel_rfl)) ?_
  intro W base args ds gs before hval hW hcnd _
  exact law_contract (C := Cx eA) (N := 10) rfl (nogo eA) (mixed eA) extOKA (by kernel_rfl) rfl sheafMerges_spec rfl (by kernel_rfl) sheafMerges_law hval hW
theorem sheafMerges_over : Rows.sheafMergesRow.holds Try.pinned (OpenSpec.ofChange Rows.sheafMergesSpec) :=
  OpenClaim.holds_of_wide 4 Try.f4 rfl rfl rfl rfl rfl rfl rfl ⟨rfl, rfl, rfl, rfl, rfl⟩ rfl rfl rfl rfl rfl (by kernel_rfl) Try.func4 (by kernel_rfl)
    (of_decide_eq_true (by kernel_rfl)) (by unfold Func.isWrapper; first | (rw [if_pos (by decide +kernel)]; kernel_rfl) | (rw [if_neg (by decide +kernel)]; exact ⟨rfl, rfl⟩))
    (fun os started H enc _ => sheafMerges_lifted os started H enc)
theorem sheafMerges_holds : Rows.SheafMergesSaid := sheafMerges_over
end Go.Proofs.Ytgilgdjnokpeoaa
