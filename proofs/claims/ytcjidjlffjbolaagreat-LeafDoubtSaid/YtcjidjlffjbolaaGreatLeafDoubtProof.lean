/- LeafDoubt: for every text, every list of copies and every number the law returns true: a place of a valid text is told to be in doubt if and only if some copy of at most five valid ones has not the word of the base there, and the places that are told are places of the text, in order. No condition. -/
import Derived.Test.YtcjidjlffjbolaaGreatRows
import Derived.Test.YtcjidjlffjbolaaGreatPk04
namespace Go.Proofs.YtcjidjlffjbolaaGreat
open Go.ChangeShapes Go.WideShapes Go.ChangeAt Go.RowKit Go.Ev
set_option maxRecDepth 100000
theorem leafDoubt_own : ownKnob Tryz.prog.godebug = none := by kernel_rfl
theorem leafDoubt_law (xs : List AV) (h : ArgsOf Tryz.prog 10 Tryz.f9.params.toList xs) : ∃ H', lim Cs (.call 9 xs { objs := [], lock := 0 }) = some (.ret (.v (.bool true)) H') := by
  have hp : Tryz.f9.params.toList = [24, 69, 25] := by kernel_rfl
  rw [hp] at h
  cases h with
  | cons h1 h =>
    cases h with
    | cons h2 h =>
      cases h with
      | cons h3 h =>
        cases h
        obtain ⟨t, ⟨ch, rfl, ys, hch, hall⟩, ht⟩ := text_of (N := 4) h1
        obtain ⟨cs, zs, hl, hz⟩ := copies_of (N := 4) h2
        obtain ⟨n, hn, rfl⟩ := u16_of h3
        exact (ans9 t ht ch ys hch hall cs zs _ hl hz n hn).lim
theorem leafDoubt_spec {HH : Type} : ∀ ds : List (DataW HH), ds.length = Tryz.f9.params.size → Rows.leafDoubtSpec.fn HH ds = { results := [.lit (.bool true)], args := ds } := by
  intro ds hl
  have hp : Tryz.f9.params.size = 3 := by kernel_rfl
  rw [hp] at hl
  match ds, hl with
  | [a, b, c], _ => rfl

theorem leafDoubt_lifted (os : Os) (started : os.Started) (H : Type) (enc : TypeId × Value → H) :
    ReturnsInHanded {} Tryz.checked os 9 .any (Rows.leafDoubtSpec.pre6 enc Tryz.prog Tryz.f9 Rows.leafDoubtRow.domain false) (Rows.leafDoubtSpec.post enc Tryz.prog Tryz.f9 false true false false) := by
  refine returnsInHanded_of_change (C := Tryz.checked) leafDoubt_own started (by kernel_rfl) Tryz.func9
    (ChangeSpec.witness6 (enc := enc) (C := Tryz.checked) false ⟨#[], #[.agg #[.slice none 0 0], .slice none 0 0, .int .u16 0], []⟩ 8 (by kernel_rfl) (by kernel_rfl) (by kernel_rfl) (by kernel_rfl)) ?_
  intro W base args ds gs before hval hW hcnd _
  exact law_contract (C := Cs) (N := 10) rfl (nogo eA) (mixed eA) extOKS (by kernel_rfl) rfl leafDoubt_spec rfl (by kernel_rfl) leafDoubt_law hval hW
theorem leafDoubt_over : Rows.leafDoubtRow.holds Tryz.pinned (OpenSpec.ofChange Rows.leafDoubtSpec) :=
  OpenClaim.holds_of_wide 9 Tryz.f9 rfl rfl rfl rfl rfl rfl rfl ⟨rfl, rfl, rfl, rfl, rfl⟩ rfl rfl rfl rfl rfl (by kernel_rfl) Tryz.func9 (by kernel_rfl)
    (of_decide_eq_true (by kernel_rfl)) (by unfold Func.isWrapper; first | (rw [if_pos (by decide +kernel)]; kernel_rfl) | (rw [if_neg (by decide +kernel)]; exact ⟨rfl, rfl⟩))
    (fun os started H enc _ => leafDoubt_lifted os started H enc)
theorem leafDoubt_holds : Rows.LeafDoubtSaid := leafDoubt_over
end Go.Proofs.YtcjidjlffjbolaaGreat
