/- LeafApart: for every two texts and every copy of the first one the law returns true: texts are as far apart one way as the other, no way over a third text is shorter, texts that are not apart are the same, and a copy is no farther from its base than it has readings. No condition. -/
import Derived.Test.YtjcgoiajjgeedaaGreatRows
import Derived.Test.YtjcgoiajjgeedaaGreatPk05
namespace Go.Proofs.YtjcgoiajjgeedaaGreat
open Go.ChangeShapes Go.WideShapes Go.ChangeAt Go.RowKit Go.Ev
set_option maxRecDepth 100000
theorem leafApart_own : ownKnob Tryz.prog.godebug = none := by kernel_rfl
theorem leafApart_law (xs : List AV) (h : ArgsOf Tryz.prog 10 Tryz.f7.params.toList xs) : ∃ H', lim (Cx eA) (.call 7 xs { objs := [], lock := 0 }) = some (.ret (.v (.bool true)) H') := by
  have hp : Tryz.f7.params.toList = [24, 24, 53] := by kernel_rfl
  rw [hp] at h
  cases h with
  | cons h1 h =>
    cases h with
    | cons h2 h =>
      cases h with
      | cons h3 h =>
        cases h
        obtain ⟨t, ⟨ch, rfl, ys, hch, hall⟩, ht⟩ := text_of (N := 4) h1
        obtain ⟨u, ⟨ch', rfl, ys', hch', hall'⟩, hu⟩ := text_of (N := 4) h2
        obtain ⟨id, rs, y, rfl, hy, hrs⟩ := copy_of (N := 5) h3
        exact (ans7 quietA eA12 t u ht hu ch ch' ys ys' hch hall hch' hall' id rs y hy hrs).lim
theorem leafApart_spec {HH : Type} : ∀ ds : List (DataW HH), ds.length = Tryz.f7.params.size → Rows.leafApartSpec.fn HH ds = { results := [.lit (.bool true)], args := ds } := by
  intro ds hl
  have hp : Tryz.f7.params.size = 3 := by kernel_rfl
  rw [hp] at hl
  match ds, hl with
  | [a, b, c], _ => rfl

theorem leafApart_lifted (os : Os) (started : os.Started) (H : Type) (enc : TypeId × Value → H) :
    ReturnsInHanded {} Tryz.checked os 7 .any (Rows.leafApartSpec.pre6 enc Tryz.prog Tryz.f7 Rows.leafApartRow.domain false) (Rows.leafApartSpec.post enc Tryz.prog Tryz.f7 false true false false) := by
  refine returnsInHanded_of_change (C := Tryz.checked) leafApart_own started (by kernel_rfl) Tryz.func7
    (ChangeSpec.witness6 (enc := enc) (C := Tryz.checked) false ⟨#[], #[.agg #[.slice none 0 0], .agg #[.slice none 0 0], .agg #[.int .i64 0, .slice none 0 0]], []⟩ 8 (by kernel_rfl) (by kernel_rfl) (by kernel_rfl) (by kernel_rfl)) ?_
  intro W base args ds gs before hval hW hcnd _
  exact law_contract (C := Cx eA) (N := 10) rfl (nogo eA) (mixed eA) extOKA (by kernel_rfl) rfl leafApart_spec rfl (by kernel_rfl) leafApart_law hval hW
theorem leafApart_over : Rows.leafApartRow.holds Tryz.pinned (OpenSpec.ofChange Rows.leafApartSpec) :=
  OpenClaim.holds_of_wide 7 Tryz.f7 rfl rfl rfl rfl rfl rfl rfl ⟨rfl, rfl, rfl, rfl, rfl⟩ rfl rfl rfl rfl rfl (by kernel_rfl) Tryz.func7 (by kernel_rfl)
    (of_decide_eq_true (by kernel_rfl)) (by unfold Func.isWrapper; first | (rw [if_pos (by decide +kernel)]; kernel_rfl) | (rw [if_neg (by decide +kernel)]; exact ⟨rfl, rfl⟩))
    (fun os started H enc _ => leafApart_lifted os started H enc)
theorem leafApart_holds : Rows.LeafApartSaid := leafApart_over
end Go.Proofs.YtjcgoiajjgeedaaGreat
