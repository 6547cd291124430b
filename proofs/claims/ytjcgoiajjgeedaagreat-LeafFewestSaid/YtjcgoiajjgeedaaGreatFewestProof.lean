/- LeafFewest: for every text and every copy of it the law returns true: the copy that is found for the text that the copy has gives back that text, with as many readings as the two texts are apart, and no more than the copy has. No condition. -/
import Derived.Test.YtjcgoiajjgeedaaGreatRows
import Derived.Test.YtjcgoiajjgeedaaGreatPk05
namespace Go.Proofs.YtjcgoiajjgeedaaGreat
open Go.ChangeShapes Go.WideShapes Go.ChangeAt Go.RowKit Go.Ev
set_option maxRecDepth 100000
theorem leafFewest_own : ownKnob Tryz.prog.godebug = none := by kernel_rfl
theorem leafFewest_law (xs : List AV) (h : ArgsOf Tryz.prog 10 Tryz.f6.params.toList xs) : ∃ H', lim (Cx eA) (.call 6 xs { objs := [], lock := 0 }) = some (.ret (.v (.bool true)) H') := by
  have hp : Tryz.f6.params.toList = [24, 53] := by kernel_rfl
  rw [hp] at h
  cases h with
  | cons h1 h =>
    cases h with
    | cons h2 h =>
      cases h
      obtain ⟨t, ⟨ch, rfl, ys, hch, hall⟩, ht⟩ := text_of (N := 4) h1
      obtain ⟨id, rs, y, rfl, hy, hrs⟩ := copy_of (N := 5) h2
      exact (ans6 quietA eA12 t ht ch ys hch hall id rs y hy hrs).lim
theorem leafFewest_spec {HH : Type} : ∀ ds : List (DataW HH), ds.length = Tryz.f6.params.size → Rows.leafFewestSpec.fn HH ds = { results := [.lit (.bool true)], args := ds } := by
  intro ds hl
  have hp : Tryz.f6.params.size = 2 := by kernel_rfl
  rw [hp] at hl
  match ds, hl with
  | [a, b], _ => rfl

theorem leafFewest_lifted (os : Os) (started : os.Started) (H : Type) (enc : TypeId × Value → H) :
    ReturnsInHanded {} Tryz.checked os 6 .any (Rows.leafFewestSpec.pre6 enc Tryz.prog Tryz.f6 Rows.leafFewestRow.domain false) (Rows.leafFewestSpec.post enc Tryz.prog Tryz.f6 false true false false) := by
  refine returnsInHanded_of_change (C := Tryz.checked) leafFewest_own started (by kernel_rfl) Tryz.func6
    (ChangeSpec.witness6 (enc := enc) (C := Tryz.checked) false ⟨#[], #[.agg #[.slice none 0 0], .agg #[.int .i64 0, .slice none 0 0]], []⟩ 8 (by kernel_rfl) (by kernel_rfl) (by kernel_rfl) (by kernel_rfl)) ?_
  intro W base args ds gs before hval hW hcnd _
  exact law_contract (C := Cx eA) (N := 10) rfl (nogo eA) (mixed eA) extOKA (by kernel_rfl) rfl leafFewest_spec rfl (by kernel_rfl) leafFewest_law hval hW
theorem leafFewest_over : Rows.leafFewestRow.holds Tryz.pinned (OpenSpec.ofChange Rows.leafFewestSpec) :=
  OpenClaim.holds_of_wide 6 Tryz.f6 rfl rfl rfl rfl rfl rfl rfl ⟨rfl, rfl, rfl, rfl, rfl⟩ rfl rfl rfl rfl rfl (by kernel_rfl) Tryz.func6 (by kernel_rfl)
    (of_decide_eq_true (by kernel_rfl)) (by unfold Func.isWrapper; first | (rw [if_pos (by decide +kernel)]; kernel_rfl) | (rw [if_neg (by decide +kernel)]; exact ⟨rfl, rfl⟩))
    (fun os started H enc _ => leafFewest_lifted os started H enc)
theorem leafFewest_holds : Rows.LeafFewestSaid := leafFewest_over
end Go.Proofs.YtjcgoiajjgeedaaGreat
