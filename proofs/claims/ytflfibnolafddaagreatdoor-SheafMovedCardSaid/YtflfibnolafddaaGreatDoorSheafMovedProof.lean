/- SheafMoved: for every list of rows and every number the law returns true: a row that is left out, or there twice, is found: what is read ends with the rows before it, or with it. No condition. -/
import Derived.Test.YtflfibnolafddaaGreatDoorRows
import Derived.Test.YtflfibnolafddaaGreatDoorPk03
import Derived.Test.YtflfibnolafddaaGreatDoorCards
import Derived.Test.YtflfibnolafddaaGreatDoorTie
import Derived.WalkKit
import Derived.ProofKit
import Derived.Lay
import Derived.SevenTiedAt
namespace Go.Proofs.YtflfibnolafddaaGreatDoor
open Go.ChangeShapes Go.WideShapes Go.ChangeAt Go.RowKit Go.Ev
set_option maxRecDepth 100000
theorem sheafMoved_own : ownKnob Tryz.prog.godebug = none := by kernel_rfl
theorem sheafMoved_spec {HH : Type} : ∀ ds : List (DataW HH), ds.length = Tryz.f5.params.size → Rows.sheafMovedSpec.fn HH ds = { results := [.lit (.bool true)], args := ds } := by
  intro ds hl
  have hp : Tryz.f5.params.size = 2 := by kernel_rfl
  rw [hp] at hl
  match ds, hl with
  | [a, b], _ => rfl
theorem sheafMoved_law (xs : List AV) (h : ArgsOf Tryz.prog 10 Tryz.f5.params.toList xs) : ∃ H', Go.Ev.lim (Cx eA) (.call 5 xs { objs := [], lock := 0 }) = some (.ret (.v (.bool true)) H') := by
  have hp : Tryz.f5.params.toList = [22, 5] := by kernel_rfl
  rw [hp] at h
  cases h with
  | cons h1 h =>
    cases h with
    | cons h2 h =>
      cases h
      obtain ⟨l1, hx1, hf1⟩ := rows_arg (N := 8) h1
      obtain ⟨m2, hm2, rfl⟩ := u8_of (N := 9) h2
      exact (ans5 l1 hf1 _ hx1 m2 hm2).lim
theorem sheafMoved_shape (os : Os) : ((World.laidAll Tryz.prog os Rows.sheafMovedRow.laid).forCall (fun _ _ => 0) ⟨#[], #[.slice none 0 0, .int .u8 0], []⟩).Shaped Tryz.prog := World.shaped_of_ZipB (by kernel_rfl) (by kernel_rfl)
theorem sheafMoved_met (os : Os) : laidMetH Tryz.prog Rows.sheafMovedRow.laid ((World.laidAll Tryz.prog os Rows.sheafMovedRow.laid).forCall (fun _ _ => 0) ⟨#[], #[.slice none 0 0, .int .u8 0], []⟩).memory := by
  rw [MakeChecks.laidMetH_plain _ _ _ (by kernel_rfl)]; exact laidMet_laidAll _ (by kernel_rfl) (by kernel_rfl)
theorem sheafMoved_lifted (os : Os) (started : os.Started) (H : Type) (enc : TypeId × Value → H) :
    ReturnsInHanded {} Tryz.checked os 5 .any (fun w args => (Rows.sheafMovedSpec.pre enc Tryz.prog Tryz.f5 [] false w args ∧ laidMetH Tryz.prog Rows.sheafMovedRow.laid w) ∧ sizedMet enc Tryz.prog Tryz.f5 (OpenSpec.ofChange Rows.sheafMovedSpec) false w args)
      (Rows.sheafMovedSpec.post enc Tryz.prog Tryz.f5 false true false false) := by
  refine returnsInHanded_of_change_and (C := Tryz.checked) (X := fun w _ => laidMetH Tryz.prog Rows.sheafMovedRow.laid w) (fun _ _ _ hh h => h.of_heap hh) sheafMoved_own started (by kernel_rfl) Tryz.func5
    (ChangeSpec.witness_shaped (enc := enc) (C := Tryz.checked) (os := os) (X := fun w _ => laidMetH Tryz.prog Rows.sheafMovedRow.laid w) false (World.laidAll Tryz.prog os Rows.sheafMovedRow.laid) #[.slice none 0 0, .int .u8 0] 8 (World.laidAll_os _ _ _)
      (sheafMoved_shape os) (by kernel_rfl) (by kernel_rfl) (by kernel_rfl) (sheafMoved_met os)) ?_
  intro W base args ds gs before hval hW _ _ _ _
  exact law_contract (C := Cx eA) (N := 10) rfl (nogo eA) (mixed eA) extOKA (by kernel_rfl) rfl sheafMoved_spec rfl (by kernel_rfl) sheafMoved_law hval hW
theorem sheafMoved_c1 : (Rows.sheafMovedRow.inPlace == Tryz.prog.inPlace 5) = true := by kernel_rfl
theorem sheafMoved_c2 : (Rows.sheafMovedRow.unfollowed == Tryz.prog.unfollowed 5) = true := by kernel_rfl
theorem sheafMoved_c3 : (Rows.sheafMovedRow.recurses == Tryz.prog.recurses 5) = true := by kernel_rfl
theorem sheafMoved_c4 : (Rows.sheafMovedRow.named == Tryz.prog.varsNamed 5) = true := by kernel_rfl
theorem sheafMoved_c5 : laidOutB Tryz.prog = true := by kernel_rfl
theorem sheafMoved_c6 : Tryz.prog.stopsHeard = true := by kernel_rfl
theorem sheafMoved_c7 : Tryz.prog.mayEnter = true := by kernel_rfl
theorem sheafMoved_c8 : (Rows.sheafMovedRow.plainKeys == Tryz.prog.plainKeys) = true := by kernel_rfl
theorem sheafMoved_closed : joinedFacts Tryz.prog 5 Tryz.f5 Rows.sheafMovedSpec Rows.sheafMovedRow = true := by
  unfold joinedFacts
  exact (Bool.and_eq_true_iff.2 ⟨(Bool.and_eq_true_iff.2 ⟨(Bool.and_eq_true_iff.2 ⟨(Bool.and_eq_true_iff.2 ⟨(Bool.and_eq_true_iff.2 ⟨(Bool.and_eq_true_iff.2 ⟨(Bool.and_eq_true_iff.2 ⟨(Bool.and_eq_true_iff.2 ⟨(Bool.and_eq_true_iff.2 ⟨(Bool.and_eq_true_iff.2 ⟨(Bool.and_eq_true_iff.2 ⟨(Bool.and_eq_true_iff.2 ⟨(Bool.and_eq_true_iff.2 ⟨(Bool.and_eq_true_iff.2 ⟨(Bool.and_eq_true_iff.2 ⟨(Bool.and_eq_true_iff.2 ⟨(Bool.and_eq_true_iff.2 ⟨(Bool.and_eq_true_iff.2 ⟨(Bool.and_eq_true_iff.2 ⟨(Bool.and_eq_true_iff.2 ⟨(Bool.and_eq_true_iff.2 ⟨(Bool.and_eq_true_iff.2 ⟨(Bool.and_eq_true_iff.2 ⟨(Bool.and_eq_true_iff.2 ⟨(Bool.and_eq_true_iff.2 ⟨(Bool.and_eq_true_iff.2 ⟨(Bool.and_eq_true_iff.2 ⟨(Bool.and_eq_true_iff.2 ⟨(Bool.and_eq_true_iff.2 ⟨(Bool.and_eq_true_iff.2 ⟨(Bool.and_eq_true_iff.2 ⟨(by kernel_rfl), sheafMoved_c5⟩), by kernel_rfl⟩), by kernel_rfl⟩), by kernel_rfl⟩), by kernel_rfl⟩), by kernel_rfl⟩), by kernel_rfl⟩), by kernel_rfl⟩), sheafMoved_c1⟩), sheafMoved_c2⟩), sheafMoved_c3⟩), sheafMoved_c4⟩), by kernel_rfl⟩), by kernel_rfl⟩), by kernel_rfl⟩), by kernel_rfl⟩), by kernel_rfl⟩), by kernel_rfl⟩), by kernel_rfl⟩), by kernel_rfl⟩), by kernel_rfl⟩), sheafMoved_c8⟩), by kernel_rfl⟩), sheafMoved_c6⟩), sheafMoved_c7⟩), by kernel_rfl⟩), by kernel_rfl⟩), by kernel_rfl⟩), by kernel_rfl⟩), by kernel_rfl⟩), by kernel_rfl⟩)
theorem sheafMoved_c9 : Tryz.prog.funcNamed "postil/postillaw11.SheafMoved" = some 5 := by kernel_rfl
theorem sheafMoved_c10 : Tryz.f5.isInstance Tryz.prog Rows.sheafMovedRow.origin Rows.sheafMovedRow.targs := of_decide_eq_true (by kernel_rfl)
theorem sheafMoved_c11 : Tryz.f5.isWrapper Tryz.prog Rows.sheafMovedRow.wrapper Rows.sheafMovedRow.mainSum := by unfold Func.isWrapper; first | (rw [if_pos (by decide +kernel)]; kernel_rfl) | (rw [if_neg (by decide +kernel)]; exact ⟨rfl, rfl⟩)
theorem sheafMoved_c12 : Rows.sheafMovedRow.wfByText (OpenSpec.ofChange Rows.sheafMovedSpec) = true := by kernel_rfl
theorem sheafMoved_c13 : Tryz.prog.mainIs = some ((true, "a22c67c78887604cb126bec272bc71b176597bf07d274bfbfe8495834c8a693d").1, (true, "a22c67c78887604cb126bec272bc71b176597bf07d274bfbfe8495834c8a693d").2.toList) := by kernel_rfl
theorem sheafMoved_c14 : false = Tryz.prog.looks [] := by kernel_rfl
theorem sheafMoved_c15 : false = Rows.sheafMovedRow.goesBy Tryz.prog := by kernel_rfl
theorem sheafMoved_over : Rows.SheafMovedSaid :=
  OpenClaim.holds_of_wide 5 Tryz.f5 rfl rfl rfl rfl rfl rfl rfl ⟨rfl, rfl, rfl, rfl, rfl⟩ rfl rfl rfl rfl rfl sheafMoved_c9 Tryz.func5 sheafMoved_closed
    sheafMoved_c10 sheafMoved_c11
    (fun os started H enc _ => sheafMoved_lifted os started H enc)
theorem sheafMoved_holds : Rows.SheafMovedCardSaid :=
  Claim7.holds_tied_plain_at .later [] [.data, .data, .data, .data, .pinned] true (true, "a22c67c78887604cb126bec272bc71b176597bf07d274bfbfe8495834c8a693d") false
    sheafMoved_over (fun _ h => by cases h) sheafMoved_c12 (fun _ h => by cases h) sheafMoved_row_tie rfl ⟨rfl, rfl⟩ sheafMoved_c13 rfl
    (fun f fn hf hfn => by
      obtain rfl : f = 5 := Option.some.inj (sheafMoved_c9.symm.trans hf) |>.symm
      obtain rfl : fn = Tryz.f5 := (Option.some.inj (Tryz.func5.symm.trans hfn)).symm
      exact ⟨sheafMoved_c14, fun j t ht => by
        have hp : Tryz.f5.params = #[22, 5] := by kernel_rfl
        rw [hp] at ht
        have hm : t ∈ [22, 5] := by
          have := Array.mem_of_getElem? ht
          simpa using this
        simp only [List.mem_cons, List.mem_nil_iff, or_false] at hm
        rcases hm with rfl | rfl
        · exact (by kernel_rfl : Tryz.prog.wantsStandIn 22 = false)
        · exact (by kernel_rfl : Tryz.prog.wantsStandIn 5 = false)⟩)
    sheafMoved_c15
end Go.Proofs.YtflfibnolafddaaGreatDoor
