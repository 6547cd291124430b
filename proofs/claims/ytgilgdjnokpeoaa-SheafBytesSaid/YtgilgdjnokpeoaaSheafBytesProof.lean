/- SheafBytes: for all rows and all bytes the law returns true: whether rows are some, their bytes, and which rows are read of bytes, or the errors, are what the reference tells, and the rows stay. No condition. -/
import Derived.Test.YtgilgdjnokpeoaaRows
import Derived.Test.YtgilgdjnokpeoaaPk03
namespace Go.Proofs.Ytgilgdjnokpeoaa
open Go.ChangeShapes Go.WideShapes Go.ChangeAt Go.RowKit Go.Ev
set_option maxRecDepth 100000
theorem sheafBytes_own : ownKnob Try.prog.godebug = none := by kernel_rfl
theorem sheafBytes_law (xs : List AV) (h : ArgsOf Try.prog 10 Try.f3.params.toList xs) : ∃ H', lim (Cx eA) (.call 3 xs { objs := [], lock := 0 }) = some (.ret (.v (.bool true)) H') := by
  have hp : Try.f3.params.toList = [22, 9] := by kernel_rfl
  rw [hp] at h
  cases h with
  | cons h1 h =>
    cases h with
    | cons h2 h =>
      cases h
      obtain ⟨l, hx, hl⟩ := rows_arg (N := 8) h1
      obtain ⟨s, rfl⟩ := str_arg (N := 9) h2
      exact (ansP3 l hl _ hx s).lim
theorem sheafBytes_spec {HH : Type} : ∀ ds : List (DataW HH), ds.length = Try.f3.params.size → Rows.sheafBytesSpec.fn HH ds = { results := [.lit (.bool true)], args := ds } := by
  intro ds hl
  have hp : Try.f3.params.size = 2 := by kernel_rfl
  rw [hp] at hl
  match ds, hl with
  | [a, b], _ => rfl

theorem sheafBytes_lifted (os : Os) (started : os.Started) (H : Type) (enc : TypeId × Value → H) :
    ReturnsInHanded {} Try.checked os 3 .any (Rows.sheafBytesSpec.pre6 enc Try.prog Try.f3 Rows.sheafBytesRow.domain false) (Rows.sheafBytesSpec.post enc Try.prog Try.f3 false true false false) := by
  refine returnsInHanded_of_change (C := Try.checked) sheafBytes_own started (by kernel_rfl) Try.func3
    (ChangeSpec.witness6 (enc := enc) (C := Try.checked) false ⟨#[], #[.slice none 0 0, .string ⟨#[]⟩], []⟩ 8 (by kernel_rfl) (by kernel_rfl) (by kernel_rfl) (by kernel_rfl)) ?_
  intro W base args ds gs before hval hW hcnd _
  exact law_contract (C := Cx eA) (N := 10) rfl (nogo eA) (mixed eA) extOKA (by kernel_rfl) rfl sheafBytes_spec rfl (by kernel_rfl) sheafBytes_law hval hW
theorem sheafBytes_over : Rows.sheafBytesRow.holds Try.pinned (OpenSpec.ofChange Rows.sheafBytesSpec) :=
  OpenClaim.holds_of_wide 3 Try.f3 rfl rfl rfl rfl rfl rfl rfl ⟨rfl, rfl, rfl, rfl, rfl⟩ rfl rfl rfl rfl rfl (by kernel_rfl) Try.func3 (by kernel_rfl)
    (of_decide_eq_true (by kernel_rfl)) (by unfold Func.isWrapper; first | (rw [if_pos (by decide +kernel)]; kernel_rfl) | (rw [if_neg (by decide +kernel)]; exact ⟨rfl, rfl⟩))
    (fun os started H enc _ => sheafBytes_lifted os started H enc)
theorem sheafBytes_holds : Rows.SheafBytesSaid := sheafBytes_over
end Go.Proofs.Ytgilgdjnokpeoaa
