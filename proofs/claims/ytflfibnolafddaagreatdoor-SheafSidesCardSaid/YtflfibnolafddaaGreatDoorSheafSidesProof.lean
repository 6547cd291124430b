/- for every three lists of rows the law returns true: it does not matter which of two files is merged into the other one; a file that did not change, or the same change, leaves the other one. No condition. -/
import Derived.Test.YtflfibnolafddaaGreatDoorRows
import Derived.Test.YtflfibnolafddaaGreatDoorPk03
import Derived.Test.YtflfibnolafddaaGreatDoorCards
import Derived.Test.YtflfibnolafddaaGreatDoorTie
import Derived.WalkKit
import Derived.ProofKit
import Derived.Lay
import Derived.SevenTiedAt
namespace Go.Proofs.YtflfibnolafddaaGreatDoor
open Go.ChangeShapes Go.WideShapes Go.ChangeAt Go.RowKit Go.Ev
set_option maxRecDepth 100000
theorem sheafSides_own : ownKnob Tryz.prog.godebug = none := by kernel_rfl
theorem sheafSides_spec {HH : Type} : ∀ ds : List (DataW HH), ds.length = Tryz.f7.params.size → Rows.sheafSidesSpec.fn HH ds = { results := [.lit (.bool true)], args := ds } := by
  intro ds hl
  have hp : Tryz.f7.params.size = 3 := by kernel_rfl
  rw [hp] at hl
  match ds, hl with
  | [a, b, c], _ => rfl
theorem sheafSides_law (xs : List AV) (h : ArgsOf Tryz.prog 10 Tryz.f7.params.toList xs) : ∃ H', Go.Ev.lim (Cx eA) (.call 7 xs { objs := [], lock := 0 }) = some (.ret (.v (.bool true)) H') := by
  have hp : Tryz.f7.params.toList = [22, 22, 22] := by kernel_rfl
  rw [hp] at h
  cases h with
  | cons h1 h =>
    cases h with
    | cons h2 h =>
      cases h with
      | cons h3 h =>
        cases h
        obtain ⟨l1, hx1, hf1⟩ := rows_arg (N := 8) h1
        obtain ⟨l2, hx2, hf2⟩ := rows_arg (N := 8) h2
        obtain ⟨l3, hx3, hf3⟩ := rows_arg (N := 8) h3
        exact (ans7 l1 hf1 _ hx1 l2 hf2 _ hx2 l3 hf3 _ hx3).lim
theorem sheafSides_shape (os : Os) : ((World.laidAll Tryz.prog os Rows.sheafSidesRow.laid).forCall (fun _ _ => 0) ⟨#[], #[.slice none 0 0, .slice none 0 0, .slice none 0 0], []⟩).Shaped Tryz.prog := World.shaped_of_ZipB (by kernel_rfl) (by kernel_rfl)
theorem sheafSides_met (os : Os) : laidMetH Tryz.prog Rows.sheafSidesRow.laid ((World.laidAll Tryz.prog os Rows.sheafSidesRow.laid).forCall (fun _ _ => 0) ⟨#[], #[.slice none 0 0, .slice none 0 0, .slice none 0 0], []⟩).memory := by
  rw [MakeChecks.laidMetH_plain _ _ _ (by kernel_rfl)]; exact laidMet_laidAll _ (by kernel_rfl) (by kernel_rfl)
theorem sheafSides_lifted (os : Os) (started : os.Started) (H : Type) (enc : TypeId × Value → H) :
    ReturnsInHanded {} Tryz.checked os 7 .any (fun w args => (Rows.sheafSidesSpec.pre enc Tryz.prog Tryz.f7 [] false w args ∧ laidMetH Tryz.prog Rows.sheafSidesRow.laid w) ∧ sizedMet enc Tryz.prog Tryz.f7 (OpenSpec.ofChange Rows.sheafSidesSpec) false w args)
      (Rows.sheafSidesSpec.post enc Tryz.prog Tryz.f7 false true false false) := by
  refine returnsInHanded_of_change_and (C := Tryz.checked) (X := fun w _ => laidMetH Tryz.prog Rows.sheafSidesRow.laid w) (fun _ _ _ hh h => h.of_heap hh) sheafSides_own started (by kernel_rfl) Tryz.func7
    (ChangeSpec.witness_shaped (enc := enc) (C := Tryz.checked) (os := os) (X := fun w _ => laidMetH Tryz.prog Rows.sheafSidesRow.laid w) false (World.laidAll Tryz.prog os Rows.sheafSidesRow.laid) #[.slice none 0 0, .slice none 0 0, .slice none 0 0] 8 (World.laidAll_os _ _ _)
      (sheafSides_shape os) (by kernel_rfl) (by kernel_rfl) (by kernel_rfl) (sheafSides_met os)) ?_
  intro W base args ds gs before hval hW _ _ _ _
  exact law_contract (C := Cx eA) (N := 10) rfl (nogo eA) (mixed eA) extOKA (by kernel_rfl) rfl sheafSides_spec rfl (by kernel_rfl) sheafSides_law hval hW
theorem sheafSides_c1 : (Rows.sheafSidesRow.inPlace == Tryz.prog.inPlace 7) = true := by kernel_rfl
theorem sheafSides_c2 : (Rows.sheafSidesRow.unfollowed == Tryz.prog.unfollowed 7) = true := by kernel_rfl
theorem sheafSides_c3 : (Rows.sheafSidesRow.recurses == Tryz.prog.recurses 7) = true := by kernel_rfl
theorem sheafSides_c4 : (Rows.sheafSidesRow.named == Tryz.prog.varsNamed 7) = true := by kernel_rfl
theorem sheafSides_c5 : laidOutB Tryz.prog = true := by kernel_rfl
theorem sheafSides_c6 : Tryz.prog.stopsHeard = true := by kernel_rfl
theorem sheafSides_c7 : Tryz.prog.mayEnter = true := by kernel_rfl
theorem sheafSides_c8 : (Rows.sheafSidesRow.plainKeys == Tryz.prog.plainKeys) = true := by kernel_rfl
theorem sheafSides_closed : joinedFacts Tryz.prog 7 Tryz.f7 Rows.sheafSidesSpec Rows.sheafSidesRow = true := by
  unfold joinedFacts
  exact (Bool.and_eq_true_iff.2 ⟨(Bool.and_eq_true_iff.2 ⟨(Bool.and_eq_true_iff.2 ⟨(Bool.and_eq_true_iff.2 ⟨(Bool.and_eq_true_iff.2 ⟨(Bool.and_eq_true_iff.2 ⟨(Bool.and_eq_true_iff.2 ⟨(Bool.and_eq_true_iff.2 ⟨(Bool.and_eq_true_iff.2 ⟨(Bool.and_eq_true_iff.2 ⟨(Bool.and_eq_true_iff.2 ⟨(Bool.and_eq_true_iff.2 ⟨(Bool.and_eq_true_iff.2 ⟨(Bool.and_eq_true_iff.2 ⟨(Bool.and_eq_true_iff.2 ⟨(Bool.and_eq_true_iff.2 ⟨(Bool.and_eq_true_iff.2 ⟨(Bool.and_eq_true_iff.2 ⟨(Bool.and_eq_true_iff.2 ⟨(Bool.and_eq_true_iff.2 ⟨(Bool.and_eq_true_iff.2 ⟨(Bool.and_eq_true_iff.2 ⟨(Bool.and_eq_true_iff.2 ⟨(Bool.and_eq_true_iff.2 ⟨(Bool.and_eq_true_iff.2 ⟨(Bool.and_eq_true_iff.2 ⟨(Bool.and_eq_true_iff.2 ⟨(Bool.and_eq_true_iff.2 ⟨(Bool.and_eq_true_iff.2 ⟨(Bool.and_eq_true_iff.2 ⟨(Bool.and_eq_true_iff.2 ⟨(by kernel_rfl), sheafSides_c5⟩), by kernel_rfl⟩), by kernel_rfl⟩), by kernel_rfl⟩), by kernel_rfl⟩), by kernel_rfl⟩), by kernel_rfl⟩), by kernel_rfl⟩), sheafSides_c1⟩), sheafSides_c2⟩), sheafSides_c3⟩), sheafSides_c4⟩), by kernel_rfl⟩), by kernel_rfl⟩), by kernel_rfl⟩), by kernel_rfl⟩), by kernel_rfl⟩), by kernel_rfl⟩), by kernel_rfl⟩), by kernel_rfl⟩), by kernel_rfl⟩), sheafSides_c8⟩), by kernel_rfl⟩), sheafSides_c6⟩), sheafSides_c7⟩), by kernel_rfl⟩), by kernel_rfl⟩), by kernel_rfl⟩), by kernel_rfl⟩), by kernel_rfl⟩), by kernel_rfl⟩)
theorem sheafSides_c9 : Tryz.prog.funcNamed "postil/postillaw11.SheafSides" = some 7 := by kernel_rfl
theorem sheafSides_c10 : Tryz.f7.isInstance Tryz.prog Rows.sheafSidesRow.origin Rows.sheafSidesRow.targs := of_decide_eq_true (by kernel_rfl)
theorem sheafSides_c11 : Tryz.f7.isWrapper Tryz.prog Rows.sheafSidesRow.wrapper Rows.sheafSidesRow.mainSum := by unfold Func.isWrapper; first | (rw [if_pos (by decide +kernel)]; kernel_rfl) | (rw [if_neg (by decide +kernel)]; exact ⟨rfl, rfl⟩)
theorem sheafSides_c12 : Rows.sheafSidesRow.wfByText (OpenSpec.ofChange Rows.sheafSidesSpec) = true := by kernel_rfl
theorem sheafSides_c13 : Tryz.prog.mainIs = some ((true, "a22c67c78887604cb126bec272bc71b176597bf07d274bfbfe8495834c8a693d").1, (true, "a22c67c78887604cb126bec272bc71b176597bf07d274bfbfe8495834c8a693d").2.toList) := by kernel_rfl
theorem sheafSides_c14 : false = Tryz.prog.looks [] := by kernel_rfl
theorem sheafSides_c15 : false = Rows.sheafSidesRow.goesBy Tryz.prog := by kernel_rfl
theorem sheafSides_over : Rows.SheafSidesSaid :=
  OpenClaim.holds_of_wide 7 Tryz.f7 rfl rfl rfl rfl rfl rfl rfl ⟨rfl, rfl, rfl, rfl, rfl⟩ rfl rfl rfl rfl rfl sheafSides_c9 Tryz.func7 sheafSides_closed
    sheafSides_c10 sheafSides_c11
    (fun os started H enc _ => sheafSides_lifted os started H enc)
theorem sheafSides_holds : Rows.SheafSidesCardSaid :=
  Claim7.holds_tied_plain_at .later [] [.data, .data, .data, .data, .pinned] true (true, "a22c67c78887604cb126bec272bc71b176597bf07d274bfbfe8495834c8a693d") false
    sheafSides_over (fun _ h => by cases h) sheafSides_c12 (fun _ h => by cases h) sheafSides_row_tie rfl ⟨rfl, rfl⟩ sheafSides_c13 rfl
    (fun f fn hf hfn => by
      obtain rfl : f = 7 := Option.some.inj (sheafSides_c9.symm.trans hf) |>.symm
      obtain rfl : fn = Tryz.f7 := (Option.some.inj (Tryz.func7.symm.trans hfn)).symm
      exact ⟨sheafSides_c14, fun j t ht => by
        have hp : Tryz.f7.params = #[22, 22, 22] := by kernel_rfl
        rw [hp] at ht
        have hm : t ∈ [22, 22, 22] := by
          have := Array.mem_of_getElem? ht
          simpa using this
        simp only [List.mem_cons, List.mem_nil_iff, or_false] at hm
        rcases hm with rfl | rfl | rfl
        · exact (by kernel_rfl : Tryz.prog.wantsStandIn 22 = false)
        · exact (by kernel_rfl : Tryz.prog.wantsStandIn 22 = false)
        · exact (by kernel_rfl : Tryz.prog.wantsStandIn 22 = false)⟩)
    sheafSides_c15
end Go.Proofs.YtflfibnolafddaaGreatDoor
