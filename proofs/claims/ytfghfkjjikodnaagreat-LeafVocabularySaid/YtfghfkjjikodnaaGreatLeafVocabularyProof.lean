/- LeafVocabulary: for every text and every copy of it the law returns true: a valid copy has no word but those of the base and of its readings, and a word of the base that it has not is in doubt in all of its places. No condition. -/
import Derived.Test.YtfghfkjjikodnaaGreatRows
import Derived.Test.YtfghfkjjikodnaaGreatPk05
namespace Go.Proofs.YtfghfkjjikodnaaGreat
open Go.ChangeShapes Go.WideShapes Go.ChangeAt Go.RowKit Go.Ev
set_option maxRecDepth 100000
theorem leafVocabulary_own : ownKnob Tryz.prog.godebug = none := by kernel_rfl
theorem leafVocabulary_law (xs : List AV) (h : ArgsOf Tryz.prog 10 Tryz.f11.params.toList xs) : ∃ H', lim Cs (.call 11 xs { objs := [], lock := 0 }) = some (.ret (.v (.bool true)) H') := by
  have hp : Tryz.f11.params.toList = [24, 53] := by kernel_rfl
  rw [hp] at h
  cases h with
  | cons h1 h =>
    cases h with
    | cons h2 h =>
      cases h
      obtain ⟨t, ⟨ch, rfl, ys, hch, hall⟩, ht⟩ := text_of (N := 4) h1
      obtain ⟨id, rs, y, rfl, hy, hrs⟩ := copy_of (N := 5) h2
      exact (ans11 t ht ch ys hch hall id rs y hy hrs).lim
theorem leafVocabulary_spec {HH : Type} : ∀ ds : List (DataW HH), ds.length = Tryz.f11.params.size → Rows.leafVocabularySpec.fn HH ds = { results := [.lit (.bool true)], args := ds } := by
  intro ds hl
  have hp : Tryz.f11.params.size = 2 := by kernel_rfl
  rw [hp] at hl
  match ds, hl with
  | [a, b], _ => rfl

theorem leafVocabulary_lifted (os : Os) (started : os.Started) (H : Type) (enc : TypeId × Value → H) :
    ReturnsInHanded {} Tryz.checked os 11 .any (Rows.leafVocabularySpec.pre6 enc Tryz.prog Tryz.f11 Rows.leafVocabularyRow.domain false) (Rows.leafVocabularySpec.post enc Tryz.prog Tryz.f11 false true false false) := by
  refine returnsInHanded_of_change (C := Tryz.checked) leafVocabulary_own started (by kernel_rfl) Tryz.func11
    (ChangeSpec.witness6 (enc := enc) (C := Tryz.checked) false ⟨#[], #[.agg #[.slice none 0 0], .agg #[.int .i64 0, .slice none 0 0]], []⟩ 8 (by kernel_rfl) (by kernel_rfl) (by kernel_rfl) (by kernel_rfl)) ?_
  intro W base args ds gs before hval hW hcnd _
  exact law_contract (C := Cs) (N := 10) rfl (nogo eA) (mixed eA) extOKS (by kernel_rfl) rfl leafVocabulary_spec rfl (by kernel_rfl) leafVocabulary_law hval hW
theorem leafVocabulary_over : Rows.leafVocabularyRow.holds Tryz.pinned (OpenSpec.ofChange Rows.leafVocabularySpec) :=
  OpenClaim.holds_of_wide 11 Tryz.f11 rfl rfl rfl rfl rfl rfl rfl ⟨rfl, rfl, rfl, rfl, rfl⟩ rfl rfl rfl rfl rfl (by kernel_rfl) Tryz.func11 (by kernel_rfl)
    (of_decide_eq_true (by kernel_rfl)) (by unfold Func.isWrapper; first | (rw [if_pos (by decide +kernel)]; kernel_rfl) | (rw [if_neg (by decide +kernel)]; exact ⟨rfl, rfl⟩))
    (fun os started H enc _ => leafVocabulary_lifted os started H enc)
theorem leafVocabulary_holds : Rows.LeafVocabularySaid := leafVocabulary_over
end Go.Proofs.YtfghfkjjikodnaaGreat
