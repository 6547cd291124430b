/- LeafFinds: for all texts and every number the law returns true: the copy that the program finds, and how far it says that texts are apart, are what the reference says, whether the texts and the number are right or not, and the texts stay. No condition. -/
import Derived.Test.YtphfgbmonepliaaRows
import Derived.Test.YtphfgbmonepliaaPk05
namespace Go.Proofs.Ytphfgbmonepliaa
open Go.ChangeShapes Go.WideShapes Go.ChangeAt Go.RowKit Go.Ev
set_option maxRecDepth 100000
theorem leafFinds_own : ownKnob Try.prog.godebug = none := by kernel_rfl
theorem leafFinds_law (xs : List AV) (h : ArgsOf Try.prog 10 Try.f5.params.toList xs) : ∃ H', lim Cs (.call 5 xs { objs := [], lock := 0 }) = some (.ret (.v (.bool true)) H') := by
  have hp : Try.f5.params.toList = [24, 24, 3] := by kernel_rfl
  rw [hp] at h
  cases h with
  | cons h1 h =>
    cases h with
    | cons h2 h =>
      cases h with
      | cons h3 h =>
        cases h
        obtain ⟨t, ⟨ch, rfl, ys, hch, hall⟩, ht⟩ := text_of (N := 4) h1
        obtain ⟨u, ⟨cu, rfl, us, hcu, halu⟩, hu⟩ := text_of (N := 4) h2
        obtain ⟨n, rfl⟩ := int_of (N := 9) h3
        exact (ansF5 t u ht hu ch cu ys us hch hall hcu halu n).lim
theorem leafFinds_spec {HH : Type} : ∀ ds : List (DataW HH), ds.length = Try.f5.params.size → Rows.leafFindsSpec.fn HH ds = { results := [.lit (.bool true)], args := ds } := by
  intro ds hl
  have hp : Try.f5.params.size = 3 := by kernel_rfl
  rw [hp] at hl
  match ds, hl with
  | [a, b, c], _ => rfl

theorem leafFinds_lifted (os : Os) (started : os.Started) (H : Type) (enc : TypeId × Value → H) :
    ReturnsInHanded {} Try.checked os 5 .any (Rows.leafFindsSpec.pre6 enc Try.prog Try.f5 Rows.leafFindsRow.domain false) (Rows.leafFindsSpec.post enc Try.prog Try.f5 false true false false) := by
  refine returnsInHanded_of_change (C := Try.checked) leafFinds_own started (by kernel_rfl) Try.func5
    (ChangeSpec.witness6 (enc := enc) (C := Try.checked) false ⟨#[], #[.agg #[.slice none 0 0], .agg #[.slice none 0 0], .int .i64 0], []⟩ 8 (by kernel_rfl) (by kernel_rfl) (by kernel_rfl) (by kernel_rfl)) ?_
  intro W base args ds gs before hval hW hcnd _
  exact law_contract (C := Cs) (N := 10) rfl (nogo eA) (mixed eA) extOKS (by kernel_rfl) rfl leafFinds_spec rfl (by kernel_rfl) leafFinds_law hval hW
theorem leafFinds_over : Rows.leafFindsRow.holds Try.pinned (OpenSpec.ofChange Rows.leafFindsSpec) :=
  OpenClaim.holds_of_wide 5 Try.f5 rfl rfl rfl rfl rfl rfl rfl ⟨rfl, rfl, rfl, rfl, rfl⟩ rfl rfl rfl rfl rfl (by kernel_rfl) Try.func5 (by kernel_rfl)
    (of_decide_eq_true (by kernel_rfl)) (by unfold Func.isWrapper; first | (rw [if_pos (by decide +kernel)]; kernel_rfl) | (rw [if_neg (by decide +kernel)]; exact ⟨rfl, rfl⟩))
    (fun os started H enc _ => leafFinds_lifted os started H enc)
theorem leafFinds_holds : Rows.LeafFindsSaid := leafFinds_over
end Go.Proofs.Ytphfgbmonepliaa
