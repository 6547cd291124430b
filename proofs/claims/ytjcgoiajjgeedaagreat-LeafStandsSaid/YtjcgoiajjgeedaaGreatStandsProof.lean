/- LeafStands: for every text and every copy the law returns true: what a valid copy of a valid text has in the places of the base, in their order, with the words that are put in, is its text. No condition. -/
import Derived.Test.YtjcgoiajjgeedaaGreatRows
import Derived.Test.YtjcgoiajjgeedaaGreatPk05
namespace Go.Proofs.YtjcgoiajjgeedaaGreat
open Go.ChangeShapes Go.WideShapes Go.ChangeAt Go.RowKit Go.Ev
set_option maxRecDepth 100000
theorem leafStands_own : ownKnob Tryz.prog.godebug = none := by kernel_rfl
theorem leafStands_law (xs : List AV) (h : ArgsOf Tryz.prog 10 Tryz.f8.params.toList xs) : ∃ H', lim (Cx eA) (.call 8 xs { objs := [], lock := 0 }) = some (.ret (.v (.bool true)) H') := by
  have hp : Tryz.f8.params.toList = [24, 53] := by kernel_rfl
  rw [hp] at h
  cases h with
  | cons h1 h =>
    cases h with
    | cons h2 h =>
      cases h
      obtain ⟨t, ⟨ch, rfl, ys, hch, hall⟩, ht⟩ := text_of (N := 4) h1
      obtain ⟨id, rs, y, rfl, hy, hrs⟩ := copy_of (N := 5) h2
      exact (ans8 quietA eA12 t ht ch ys hch hall id rs y hy hrs).lim
theorem leafStands_spec {HH : Type} : ∀ ds : List (DataW HH), ds.length = Tryz.f8.params.size → Rows.leafStandsSpec.fn HH ds = { results := [.lit (.bool true)], args := ds } := by
  intro ds hl
  have hp : Tryz.f8.params.size = 2 := by kernel_rfl
  rw [hp] at hl
  match ds, hl with
  | [a, b], _ => rfl

theorem leafStands_lifted (os : Os) (started : os.Started) (H : Type) (enc : TypeId × Value → H) :
    ReturnsInHanded {} Tryz.checked os 8 .any (Rows.leafStandsSpec.pre6 enc Tryz.prog Tryz.f8 Rows.leafStandsRow.domain false) (Rows.leafStandsSpec.post enc Tryz.prog Tryz.f8 false true false false) := by
  refine returnsInHanded_of_change (C := Tryz.checked) leafStands_own started (by kernel_rfl) Tryz.func8
    (ChangeSpec.witness6 (enc := enc) (C := Tryz.checked) false ⟨#[], #[.agg #[.slice none 0 0], .agg #[.int .i64 0, .slice none 0 0]], []⟩ 8 (by kernel_rfl) (by kernel_rfl) (by kernel_rfl) (by kernel_rfl)) ?_
  intro W base args ds gs before hval hW hcnd _
  exact law_contract (C := Cx eA) (N := 10) rfl (nogo eA) (mixed eA) extOKA (by kernel_rfl) rfl leafStands_spec rfl (by kernel_rfl) leafStands_law hval hW
theorem leafStands_over : Rows.leafStandsRow.holds Tryz.pinned (OpenSpec.ofChange Rows.leafStandsSpec) :=
  OpenClaim.holds_of_wide 8 Tryz.f8 rfl rfl rfl rfl rfl rfl rfl ⟨rfl, rfl, rfl, rfl, rfl⟩ rfl rfl rfl rfl rfl (by kernel_rfl) Tryz.func8 (by kernel_rfl)
    (of_decide_eq_true (by kernel_rfl)) (by unfold Func.isWrapper; first | (rw [if_pos (by decide +kernel)]; kernel_rfl) | (rw [if_neg (by decide +kernel)]; exact ⟨rfl, rfl⟩))
    (fun os started H enc _ => leafStands_lifted os started H enc)
theorem leafStands_holds : Rows.LeafStandsSaid := leafStands_over
end Go.Proofs.YtjcgoiajjgeedaaGreat
