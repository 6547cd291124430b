/- LeafOrder: for every text, every list of copies, every copy more and every number the law returns true: with a valid copy more the places in doubt are those that were, and those of the copy more, each once; in whatever order the copies come they are the same, and without copies there are none. No condition. -/
import Derived.Test.YtfghfkjjikodnaaGreatRows
import Derived.Test.YtfghfkjjikodnaaGreatPk04
namespace Go.Proofs.YtfghfkjjikodnaaGreat
open Go.ChangeShapes Go.WideShapes Go.ChangeAt Go.RowKit Go.Ev
set_option maxRecDepth 100000
theorem leafOrder_own : ownKnob Tryz.prog.godebug = none := by kernel_rfl
theorem u8_of {N : Nat} {x : AV} (h : Arg Tryz.prog (N + 1) 5 x) : ∃ n : Nat, n < 256 ∧ x = .v (.int .u8 n) := by
  unfold Arg at h
  have hu : Tryz.prog.underlying 5 = some (.int .u8) := by kernel_rfl
  rw [hu] at h
  obtain ⟨m, hm, hw⟩ := plain_int hu h
  simp only [List.cons.injEq, and_true] at hm
  have : 0 ≤ m ∧ m < 256 := by
    have h2 : (decide (IntKind.u8.min ≤ m) && decide (m ≤ IntKind.u8.max)) = true := hw
    have e1 : IntKind.u8.min = 0 := by decide
    have e2 : IntKind.u8.max = 255 := by decide
    rw [e1, e2] at h2
    simp at h2; omega
  exact ⟨m.toNat, by omega, by rw [hm, Int.toNat_of_nonneg this.1]⟩
theorem leafOrder_law (xs : List AV) (h : ArgsOf Tryz.prog 10 Tryz.f10.params.toList xs) : ∃ H', lim Cs (.call 10 xs { objs := [], lock := 0 }) = some (.ret (.v (.bool true)) H') := by
  have hp : Tryz.f10.params.toList = [24, 69, 53, 5] := by kernel_rfl
  rw [hp] at h
  cases h with
  | cons h1 h =>
    cases h with
    | cons h2 h =>
      cases h with
      | cons h3 h =>
        cases h with
        | cons h4 h =>
          cases h
          obtain ⟨t, ⟨ch, rfl, ys, hch, hall⟩, ht⟩ := text_of (N := 4) h1
          obtain ⟨cs, zs, hl, hz⟩ := copies_of (N := 4) h2
          obtain ⟨id, rs, y, rfl, hy, hrs⟩ := copy_of (N := 5) h3
          obtain ⟨n, hn, rfl⟩ := u8_of h4
          exact (ans10 t ht ch ys hch hall cs zs _ hl hz (id, rs) _ ⟨y, rfl, hy, hrs⟩ n hn).lim
theorem leafOrder_spec {HH : Type} : ∀ ds : List (DataW HH), ds.length = Tryz.f10.params.size → Rows.leafOrderSpec.fn HH ds = { results := [.lit (.bool true)], args := ds } := by
  intro ds hl
  have hp : Tryz.f10.params.size = 4 := by kernel_rfl
  rw [hp] at hl
  match ds, hl with
  | [a, b, c, d], _ => rfl

theorem leafOrder_lifted (os : Os) (started : os.Started) (H : Type) (enc : TypeId × Value → H) :
    ReturnsInHanded {} Tryz.checked os 10 .any (Rows.leafOrderSpec.pre6 enc Tryz.prog Tryz.f10 Rows.leafOrderRow.domain false) (Rows.leafOrderSpec.post enc Tryz.prog Tryz.f10 false true false false) := by
  refine returnsInHanded_of_change (C := Tryz.checked) leafOrder_own started (by kernel_rfl) Tryz.func10
    (ChangeSpec.witness6 (enc := enc) (C := Tryz.checked) false ⟨#[], #[.agg #[.slice none 0 0], .slice none 0 0, .agg #[.int .i64 0, .slice none 0 0], .int .u8 0], []⟩ 8 (by kernel_rfl) (by kernel_rfl) (by kernel_rfl) (by kernel_rfl)) ?_
  intro W base args ds gs before hval hW hcnd _
  exact law_contract (C := Cs) (N := 10) rfl (nogo eA) (mixed eA) extOKS (by kernel_rfl) rfl leafOrder_spec rfl (by kernel_rfl) leafOrder_law hval hW
theorem leafOrder_over : Rows.leafOrderRow.holds Tryz.pinned (OpenSpec.ofChange Rows.leafOrderSpec) :=
  OpenClaim.holds_of_wide 10 Tryz.f10 rfl rfl rfl rfl rfl rfl rfl ⟨rfl, rfl, rfl, rfl, rfl⟩ rfl rfl rfl rfl rfl (by kernel_rfl) Tryz.func10 (by kernel_rfl)
    (of_decide_eq_true (by kernel_rfl)) (by unfold Func.isWrapper; first | (rw [if_pos (by decide +kernel)]; kernel_rfl) | (rw [if_neg (by decide +kernel)]; exact ⟨rfl, rfl⟩))
    (fun os started H enc _ => leafOrder_lifted os started H enc)
theorem leafOrder_holds : Rows.LeafOrderSaid := leafOrder_over
end Go.Proofs.YtfghfkjjikodnaaGreat
