/- LeafPlaces: for every text and every number the law returns true: in each place of a valid text stands the word that is told, it is one of all places of this word, these are places of the text, in order, with this word in each, and the places of all words together are as many as the text has words. No condition. -/
import Derived.Test.YtfghfkjjikodnaaGreatRows
import Derived.Test.YtfghfkjjikodnaaGreatPk04
namespace Go.Proofs.YtfghfkjjikodnaaGreat
open Go.ChangeShapes Go.WideShapes Go.ChangeAt Go.RowKit Go.Ev
set_option maxRecDepth 100000
theorem leafPlaces_own : ownKnob Tryz.prog.godebug = none := by kernel_rfl
theorem leafPlaces_law (xs : List AV) (h : ArgsOf Tryz.prog 10 Tryz.f4.params.toList xs) : ∃ H', lim Cs (.call 4 xs { objs := [], lock := 0 }) = some (.ret (.v (.bool true)) H') := by
  have hp : Tryz.f4.params.toList = [24, 25] := by kernel_rfl
  rw [hp] at h
  cases h with
  | cons h1 h =>
    cases h with
    | cons h2 h =>
      cases h
      obtain ⟨t, ⟨ch, rfl, ys, hch, hall⟩, ht⟩ := text_of (N := 4) h1
      obtain ⟨n, hn, rfl⟩ := u16_of h2
      exact (ans4 t ht ch ys hch hall n hn).lim
theorem leafPlaces_spec {HH : Type} : ∀ ds : List (DataW HH), ds.length = Tryz.f4.params.size → Rows.leafPlacesSpec.fn HH ds = { results := [.lit (.bool true)], args := ds } := by
  intro ds hl
  have hp : Tryz.f4.params.size = 2 := by kernel_rfl
  rw [hp] at hl
  match ds, hl with
  | [a, b], _ => rfl

theorem leafPlaces_lifted (os : Os) (started : os.Started) (H : Type) (enc : TypeId × Value → H) :
    ReturnsInHanded {} Tryz.checked os 4 .any (Rows.leafPlacesSpec.pre6 enc Tryz.prog Tryz.f4 Rows.leafPlacesRow.domain false) (Rows.leafPlacesSpec.post enc Tryz.prog Tryz.f4 false true false false) := by
  refine returnsInHanded_of_change (C := Tryz.checked) leafPlaces_own started (by kernel_rfl) Tryz.func4
    (ChangeSpec.witness6 (enc := enc) (C := Tryz.checked) false ⟨#[], #[.agg #[.slice none 0 0], .int .u16 0], []⟩ 8 (by kernel_rfl) (by kernel_rfl) (by kernel_rfl) (by kernel_rfl)) ?_
  intro W base args ds gs before hval hW hcnd _
  exact law_contract (C := Cs) (N := 10) rfl (nogo eA) (mixed eA) extOKS (by kernel_rfl) rfl leafPlaces_spec rfl (by kernel_rfl) leafPlaces_law hval hW
theorem leafPlaces_over : Rows.leafPlacesRow.holds Tryz.pinned (OpenSpec.ofChange Rows.leafPlacesSpec) :=
  OpenClaim.holds_of_wide 4 Tryz.f4 rfl rfl rfl rfl rfl rfl rfl ⟨rfl, rfl, rfl, rfl, rfl⟩ rfl rfl rfl rfl rfl (by kernel_rfl) Tryz.func4 (by kernel_rfl)
    (of_decide_eq_true (by kernel_rfl)) (by unfold Func.isWrapper; first | (rw [if_pos (by decide +kernel)]; kernel_rfl) | (rw [if_neg (by decide +kernel)]; exact ⟨rfl, rfl⟩))
    (fun os started H enc _ => leafPlaces_lifted os started H enc)
theorem leafPlaces_holds : Rows.LeafPlacesSaid := leafPlaces_over
end Go.Proofs.YtfghfkjjikodnaaGreat
