/- LeafFound: for every two texts and every number the law returns true: where two valid texts are alike and no more than 20 readings apart, the copy that is found has that number, as many readings as the texts are apart, is right, and its text is the text that was looked for; else Find says why not, and a text looked for in itself has no reading. No condition. -/
import Derived.Test.YtjcgoiajjgeedaaGreatRows
import Derived.Test.YtjcgoiajjgeedaaGreatPk05
namespace Go.Proofs.YtjcgoiajjgeedaaGreat
open Go.ChangeShapes Go.WideShapes Go.ChangeAt Go.RowKit Go.Ev
set_option maxRecDepth 100000
theorem leafFound_own : ownKnob Tryz.prog.godebug = none := by kernel_rfl
theorem leafFound_law (xs : List AV) (h : ArgsOf Tryz.prog 10 Tryz.f5.params.toList xs) : ∃ H', lim (Cx eA) (.call 5 xs { objs := [], lock := 0 }) = some (.ret (.v (.bool true)) H') := by
  have hp : Tryz.f5.params.toList = [24, 24, 25] := by kernel_rfl
  rw [hp] at h
  cases h with
  | cons h1 h =>
    cases h with
    | cons h2 h =>
      cases h with
      | cons h3 h =>
        cases h
        obtain ⟨t, ⟨ch, rfl, ys, hch, hall⟩, ht⟩ := text_of (N := 4) h1
        obtain ⟨u, ⟨ch', rfl, ys', hch', hall'⟩, hu⟩ := text_of (N := 4) h2
        obtain ⟨n, hn, rfl⟩ := u16_of h3
        exact (ans5 quietA eA12 t u ht hu ch ch' ys ys' hch hall hch' hall' n hn).lim
theorem leafFound_spec {HH : Type} : ∀ ds : List (DataW HH), ds.length = Tryz.f5.params.size → Rows.leafFoundSpec.fn HH ds = { results := [.lit (.bool true)], args := ds } := by
  intro ds hl
  have hp : Tryz.f5.params.size = 3 := by kernel_rfl
  rw [hp] at hl
  match ds, hl with
  | [a, b, c], _ => rfl

theorem leafFound_lifted (os : Os) (started : os.Started) (H : Type) (enc : TypeId × Value → H) :
    ReturnsInHanded {} Tryz.checked os 5 .any (Rows.leafFoundSpec.pre6 enc Tryz.prog Tryz.f5 Rows.leafFoundRow.domain false) (Rows.leafFoundSpec.post enc Tryz.prog Tryz.f5 false true false false) := by
  refine returnsInHanded_of_change (C := Tryz.checked) leafFound_own started (by kernel_rfl) Tryz.func5
    (ChangeSpec.witness6 (enc := enc) (C := Tryz.checked) false ⟨#[], #[.agg #[.slice none 0 0], .agg #[.slice none 0 0], .int .u16 0], []⟩ 8 (by kernel_rfl) (by kernel_rfl) (by kernel_rfl) (by kernel_rfl)) ?_
  intro W base args ds gs before hval hW hcnd _
  exact law_contract (C := Cx eA) (N := 10) rfl (nogo eA) (mixed eA) extOKA (by kernel_rfl) rfl leafFound_spec rfl (by kernel_rfl) leafFound_law hval hW
theorem leafFound_over : Rows.leafFoundRow.holds Tryz.pinned (OpenSpec.ofChange Rows.leafFoundSpec) :=
  OpenClaim.holds_of_wide 5 Tryz.f5 rfl rfl rfl rfl rfl rfl rfl ⟨rfl, rfl, rfl, rfl, rfl⟩ rfl rfl rfl rfl rfl (by kernel_rfl) Tryz.func5 (by kernel_rfl)
    (of_decide_eq_true (by kernel_rfl)) (by unfold Func.isWrapper; first | (rw [if_pos (by decide +kernel)]; kernel_rfl) | (rw [if_neg (by decide +kernel)]; exact ⟨rfl, rfl⟩))
    (fun os started H enc _ => leafFound_lifted os started H enc)
theorem leafFound_holds : Rows.LeafFoundSaid := leafFound_over
end Go.Proofs.YtjcgoiajjgeedaaGreat
