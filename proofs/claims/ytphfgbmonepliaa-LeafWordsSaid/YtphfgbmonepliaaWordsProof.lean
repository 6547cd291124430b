/- LeafWords: for every text, place, number and word the law returns true: what the program tells of a text's words and places is what the reference tells, whether the text, the place, the number and the word are right or not. No condition. -/
import Derived.Test.YtphfgbmonepliaaRows
import Derived.Test.YtphfgbmonepliaaPk04
namespace Go.Proofs.Ytphfgbmonepliaa
open Go.ChangeShapes Go.WideShapes Go.ChangeAt Go.RowKit Go.Ev
set_option maxRecDepth 100000
theorem leafWords_own : ownKnob Try.prog.godebug = none := by kernel_rfl
theorem leafWords_law (xs : List AV) (h : ArgsOf Try.prog 10 Try.f3.params.toList xs) : ∃ H', lim Cs (.call 3 xs { objs := [], lock := 0 }) = some (.ret (.v (.bool true)) H') := by
  have hp : Try.f3.params.toList = [24, 26, 3, 9] := by kernel_rfl
  rw [hp] at h
  cases h with
  | cons h1 h =>
    cases h with
    | cons h2 h =>
      cases h with
      | cons h3 h =>
        cases h with
        | cons h4 h =>
          cases h
          obtain ⟨t, ⟨ch, rfl, ys, hch, hall⟩, ht⟩ := text_of (N := 4) h1
          obtain ⟨a, b, c, rfl⟩ := plA_of (N := 8) h2
          obtain ⟨n, rfl⟩ := int_of (N := 9) h3
          obtain ⟨w, rfl, hw⟩ := str_of (N := 9) h4
          exact (ansR3 t ht ch ys hch hall (fun hg => twin7 t ht hg ch ys hch hall) a b c n w hw).lim
theorem leafWords_spec {HH : Type} : ∀ ds : List (DataW HH), ds.length = Try.f3.params.size → Rows.leafWordsSpec.fn HH ds = { results := [.lit (.bool true)], args := ds } := by
  intro ds hl
  have hp : Try.f3.params.size = 4 := by kernel_rfl
  rw [hp] at hl
  match ds, hl with
  | [a, b, c, d], _ => rfl

theorem leafWords_lifted (os : Os) (started : os.Started) (H : Type) (enc : TypeId × Value → H) :
    ReturnsInHanded {} Try.checked os 3 .any (Rows.leafWordsSpec.pre6 enc Try.prog Try.f3 Rows.leafWordsRow.domain false) (Rows.leafWordsSpec.post enc Try.prog Try.f3 false true false false) := by
  refine returnsInHanded_of_change (C := Try.checked) leafWords_own started (by kernel_rfl) Try.func3
    (ChangeSpec.witness6 (enc := enc) (C := Try.checked) false ⟨#[], #[.agg #[.slice none 0 0], .agg #[.int .i64 0, .int .i64 0, .int .i64 0], .int .i64 0, .string ⟨#[]⟩], []⟩ 8 (by kernel_rfl) (by kernel_rfl) (by kernel_rfl) (by kernel_rfl)) ?_
  intro W base args ds gs before hval hW hcnd _
  exact law_contract (C := Cs) (N := 10) rfl (nogo eA) (mixed eA) extOKS (by kernel_rfl) rfl leafWords_spec rfl (by kernel_rfl) leafWords_law hval hW
theorem leafWords_over : Rows.leafWordsRow.holds Try.pinned (OpenSpec.ofChange Rows.leafWordsSpec) :=
  OpenClaim.holds_of_wide 3 Try.f3 rfl rfl rfl rfl rfl rfl rfl ⟨rfl, rfl, rfl, rfl, rfl⟩ rfl rfl rfl rfl rfl (by kernel_rfl) Try.func3 (by kernel_rfl)
    (of_decide_eq_true (by kernel_rfl)) (by unfold Func.isWrapper; first | (rw [if_pos (by decide +kernel)]; kernel_rfl) | (rw [if_neg (by decide +kernel)]; exact ⟨rfl, rfl⟩))
    (fun os started H enc _ => leafWords_lifted os started H enc)
theorem leafWords_holds : Rows.LeafWordsSaid := leafWords_over
end Go.Proofs.Ytphfgbmonepliaa
