/- LeafNumbers: for every text and every two numbers the law returns true: each place of a valid text has one number, and each number below their count one place, and numbers go up as places do. No condition. -/
import Derived.Test.YtajjlolcodbikaaGreatRows
import Derived.Test.YtajjlolcodbikaaGreatPk04
namespace Go.Proofs.YtajjlolcodbikaaGreat
open Go.ChangeShapes Go.WideShapes Go.ChangeAt Go.RowKit Go.Ev
set_option maxRecDepth 100000
theorem leafNumbers_own : ownKnob Tryz.prog.godebug = none := by kernel_rfl
theorem leafNumbers_law (xs : List AV) (h : ArgsOf Tryz.prog 10 Tryz.f3.params.toList xs) : ∃ H', lim (Cx eA) (.call 3 xs { objs := [], lock := 0 }) = some (.ret (.v (.bool true)) H') := by
  have hp : Tryz.f3.params.toList = [24, 25, 25] := by kernel_rfl
  rw [hp] at h
  cases h with
  | cons h1 h =>
    cases h with
    | cons h2 h =>
      cases h with
      | cons h3 h =>
        cases h
        obtain ⟨t, ⟨ch, rfl, ys, hch, hall⟩, ht⟩ := text_of (N := 4) h1
        obtain ⟨o, ho, rfl⟩ := u16_of h2
        obtain ⟨w, hw, rfl⟩ := u16_of h3
        exact (ans3 quietA eA12 t ht ch ys hch hall o w ho hw).lim
theorem leafNumbers_spec {HH : Type} : ∀ ds : List (DataW HH), ds.length = Tryz.f3.params.size → Rows.leafNumbersSpec.fn HH ds = { results := [.lit (.bool true)], args := ds } := by
  intro ds hl
  have hp : Tryz.f3.params.size = 3 := by kernel_rfl
  rw [hp] at hl
  match ds, hl with
  | [a, b, c], _ => rfl

theorem leafNumbers_lifted (os : Os) (started : os.Started) (H : Type) (enc : TypeId × Value → H) :
    ReturnsInHanded {} Tryz.checked os 3 .any (Rows.leafNumbersSpec.pre6 enc Tryz.prog Tryz.f3 Rows.leafNumbersRow.domain false) (Rows.leafNumbersSpec.post enc Tryz.prog Tryz.f3 false true false false) := by
  refine returnsInHanded_of_change (C := Tryz.checked) leafNumbers_own started (by kernel_rfl) Tryz.func3
    (ChangeSpec.witness6 (enc := enc) (C := Tryz.checked) false ⟨#[], #[.agg #[.slice none 0 0], .int .u16 0, .int .u16 0], []⟩ 8 (by kernel_rfl) (by kernel_rfl) (by kernel_rfl) (by kernel_rfl)) ?_
  intro W base args ds gs before hval hW hcnd _
  exact law_contract (C := Cx eA) (N := 10) rfl (nogo eA) (mixed eA) extOKA (by kernel_rfl) rfl leafNumbers_spec rfl (by kernel_rfl) leafNumbers_law hval hW
theorem leafNumbers_over : Rows.leafNumbersRow.holds Tryz.pinned (OpenSpec.ofChange Rows.leafNumbersSpec) :=
  OpenClaim.holds_of_wide 3 Tryz.f3 rfl rfl rfl rfl rfl rfl rfl ⟨rfl, rfl, rfl, rfl, rfl⟩ rfl rfl rfl rfl rfl (by kernel_rfl) Tryz.func3 (by kernel_rfl)
    (of_decide_eq_true (by kernel_rfl)) (by unfold Func.isWrapper; first | (rw [if_pos (by decide +kernel)]; kernel_rfl) | (rw [if_neg (by decide +kernel)]; exact ⟨rfl, rfl⟩))
    (fun os started H enc _ => leafNumbers_lifted os started H enc)
theorem leafNumbers_holds : Rows.LeafNumbersSaid := leafNumbers_over
end Go.Proofs.YtajjlolcodbikaaGreat
