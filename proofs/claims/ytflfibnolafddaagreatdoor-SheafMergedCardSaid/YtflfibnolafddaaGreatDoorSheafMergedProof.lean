/- SheafMerged holds: with what one file changed, what the other one changed is what is left: from each file to the merged one the hunk drops and puts what the other one's did, and what neither changed is as it was. For any three lists of rows. -/
import Derived.Test.YtflfibnolafddaaGreatDoorRows
import Derived.Test.YtflfibnolafddaaGreatDoorPk03
import Derived.Test.YtflfibnolafddaaGreatDoorCards
import Derived.Test.YtflfibnolafddaaGreatDoorTie
import Derived.WalkKit
import Derived.ProofKit
import Derived.Lay
import Derived.SevenTiedAt
namespace Go.Proofs.YtflfibnolafddaaGreatDoor
open Go.ChangeShapes Go.WideShapes Go.ChangeAt Go.RowKit Go.Ev
set_option maxRecDepth 100000
theorem sheafMerged_own : ownKnob Tryz.prog.godebug = none := by kernel_rfl
theorem sheafMerged_spec {HH : Type} : ∀ ds : List (DataW HH), ds.length = Tryz.f8.params.size → Rows.sheafMergedSpec.fn HH ds = { results := [.lit (.bool true)], args := ds } := by
  intro ds hl
  have hp : Tryz.f8.params.size = 3 := by kernel_rfl
  rw [hp] at hl
  match ds, hl with
  | [a, b, c], _ => rfl
theorem sheafMerged_law (xs : List AV) (h : ArgsOf Tryz.prog 10 Tryz.f8.params.toList xs) : ∃ H', Go.Ev.lim (Cx eA) (.call 8 xs { objs := [], lock := 0 }) = some (.ret (.v (.bool true)) H') := by
  have hp : Tryz.f8.params.toList = [22, 22, 22] := by kernel_rfl
  rw [hp] at h
  cases h with
  | cons h1 h =>
    cases h with
    | cons h2 h =>
      cases h with
      | cons h3 h =>
        cases h
        obtain ⟨l1, hx1, hf1⟩ := rows_arg (N := 8) h1
        obtain ⟨l2, hx2, hf2⟩ := rows_arg (N := 8) h2
        obtain ⟨l3, hx3, hf3⟩ := rows_arg (N := 8) h3
        exact (ans8 l1 hf1 _ hx1 l2 hf2 _ hx2 l3 hf3 _ hx3).lim
theorem sheafMerged_shape (os : Os) : ((World.laidAll Tryz.prog os Rows.sheafMergedRow.laid).forCall (fun _ _ => 0) ⟨#[], #[.slice none 0 0, .slice none 0 0, .slice none 0 0], []⟩).Shaped Tryz.prog := World.shaped_of_ZipB (by kernel_rfl) (by kernel_rfl)
theorem sheafMerged_met (os : Os) : laidMetH Tryz.prog Rows.sheafMergedRow.laid ((World.laidAll Tryz.prog os Rows.sheafMergedRow.laid).forCall (fun _ _ => 0) ⟨#[], #[.slice none 0 0, .slice none 0 0, .slice none 0 0], []⟩).memory := by
  rw [MakeChecks.laidMetH_plain _ _ _ (by kernel_rfl)]; exact laidMet_laidAll _ (by kernel_rfl) (by kernel_rfl)
theorem sheafMerged_lifted (os : Os) (started : os.Started) (H : Type) (enc : TypeId × Value → H) :
    ReturnsInHanded {} Tryz.checked os 8 .any (fun w args => (Rows.sheafMergedSpec.pre enc Tryz.prog Tryz.f8 [] false w args ∧ laidMetH Tryz.prog Rows.sheafMergedRow.laid w) ∧ sizedMet enc Tryz.prog Tryz.f8 (OpenSpec.ofChange Rows.sheafMergedSpec) false w args)
      (Rows.sheafMergedSpec.post enc Tryz.prog Tryz.f8 false true false false) := by
  refine returnsInHanded_of_change_and (C := Tryz.checked) (X := fun w _ => laidMetH Tryz.prog Rows.sheafMergedRow.laid w) (fun _ _ _ hh h => h.of_heap hh) sheafMerged_own started (by kernel_rfl) Tryz.func8
    (ChangeSpec.witness_shaped (enc := enc) (C := Tryz.checked) (os := os) (X := fun w _ => laidMetH Tryz.prog Rows.sheafMergedRow.laid w) false (World.laidAll Tryz.prog os Rows.sheafMergedRow.laid) #[.slice none 0 0, .slice none 0 0, .slice none 0 0] 8 (World.laidAll_os _ _ _)
      (sheafMerged_shape os) (by kernel_rfl) (by kernel_rfl) (by kernel_rfl) (sheafMerged_met os)) ?_
  intro W base args ds gs before hval hW _ _ _ _
  exact law_contract (C := Cx eA) (N := 10) rfl (nogo eA) (mixed eA) extOKA (by kernel_rfl) rfl sheafMerged_spec rfl (by kernel_rfl) sheafMerged_law hval hW
theorem sheafMerged_c1 : (Rows.sheafMergedRow.inPlace == Tryz.prog.inPlace 8) = true := by kernel_rfl
theorem sheafMerged_c2 : (Rows.sheafMergedRow.unfollowed == Tryz.prog.unfollowed 8) = true := by kernel_rfl
theorem sheafMerged_c3 : (Rows.sheafMergedRow.recurses == Tryz.prog.recurses 8) = true := by kernel_rfl
theorem sheafMerged_c4 : (Rows.sheafMergedRow.named == Tryz.prog.varsNamed 8) = true := by kernel_rfl
theorem sheafMerged_c5 : laidOutB Tryz.prog = true := by kernel_rfl
theorem sheafMerged_c6 : Tryz.prog.stopsHeard = true := by kernel_rfl
theorem sheafMerged_c7 : Tryz.prog.mayEnter = true := by kernel_rfl
theorem sheafMerged_c8 : (Rows.sheafMergedRow.plainKeys == Tryz.prog.plainKeys) = true := by kernel_rfl
theorem sheafMerged_closed : joinedFacts Tryz.prog 8 Tryz.f8 Rows.sheafMergedSpec Rows.sheafMergedRow = true := by
  unfold joinedFacts
  exact (Bool.and_eq_true_iff.2 ⟨(Bool.and_eq_true_iff.2 ⟨(Bool.and_eq_true_iff.2 ⟨(Bool.and_eq_true_iff.2 ⟨(Bool.and_eq_true_iff.2 ⟨(Bool.and_eq_true_iff.2 ⟨(Bool.and_eq_true_iff.2 ⟨(Bool.and_eq_true_iff.2 ⟨(Bool.and_eq_true_iff.2 ⟨(Bool.and_eq_true_iff.2 ⟨(Bool.and_eq_true_iff.2 ⟨(Bool.and_eq_true_iff.2 ⟨(Bool.and_eq_true_iff.2 ⟨(Bool.and_eq_true_iff.2 ⟨(Bool.and_eq_true_iff.2 ⟨(Bool.and_eq_true_iff.2 ⟨(Bool.and_eq_true_iff.2 ⟨(Bool.and_eq_true_iff.2 ⟨(Bool.and_eq_true_iff.2 ⟨(Bool.and_eq_true_iff.2 ⟨(Bool.and_eq_true_iff.2 ⟨(Bool.and_eq_true_iff.2 ⟨(Bool.and_eq_true_iff.2 ⟨(Bool.and_eq_true_iff.2 ⟨(Bool.and_eq_true_iff.2 ⟨(Bool.and_eq_true_iff.2 ⟨(Bool.and_eq_true_iff.2 ⟨(Bool.and_eq_true_iff.2 ⟨(Bool.and_eq_true_iff.2 ⟨(Bool.and_eq_true_iff.2 ⟨(Bool.and_eq_true_iff.2 ⟨(by kernel_rfl), sheafMerged_c5⟩), by kernel_rfl⟩), by kernel_rfl⟩), by kernel_rfl⟩), by kernel_rfl⟩), by kernel_rfl⟩), by kernel_rfl⟩), by kernel_rfl⟩), sheafMerged_c1⟩), sheafMerged_c2⟩), sheafMerged_c3⟩), sheafMerged_c4⟩), by kernel_rfl⟩), by kernel_rfl⟩), by kernel_rfl⟩), by kernel_rfl⟩), by kernel_rfl⟩), by kernel_rfl⟩), by kernel_rfl⟩), by kernel_rfl⟩), by kernel_rfl⟩), sheafMerged_c8⟩), by kernel_rfl⟩), sheafMerged_c6⟩), sheafMerged_c7⟩), by kernel_rfl⟩), by kernel_rfl⟩), by kernel_rfl⟩), by kernel_rfl⟩), by kernel_rfl⟩), by kernel_rfl⟩)
theorem sheafMerged_c9 : Tryz.prog.funcNamed "postil/postillaw11.SheafMerged" = some 8 := by kernel_rfl
theorem sheafMerged_c10 : Tryz.f8.isInstance Tryz.prog Rows.sheafMergedRow.origin Rows.sheafMergedRow.targs := of_decide_eq_true (by kernel_rfl)
theorem sheafMerged_c11 : Tryz.f8.isWrapper Tryz.prog Rows.sheafMergedRow.wrapper Rows.sheafMergedRow.mainSum := by unfold Func.isWrapper; first | (rw [if_pos (by decide +kernel)]; kernel_rfl) | (rw [if_neg (by decide +kernel)]; exact ⟨rfl, rfl⟩)
theorem sheafMerged_c12 : Rows.sheafMergedRow.wfByText (OpenSpec.ofChange Rows.sheafMergedSpec) = true := by kernel_rfl
theorem sheafMerged_c13 : Tryz.prog.mainIs = some ((true, "a22c67c78887604cb126bec272bc71b176597bf07d274bfbfe8495834c8a693d").1, (true, "a22c67c78887604cb126bec272bc71b176597bf07d274bfbfe8495834c8a693d").2.toList) := by kernel_rfl
theorem sheafMerged_c14 : false = Tryz.prog.looks [] := by kernel_rfl
theorem sheafMerged_c15 : false = Rows.sheafMergedRow.goesBy Tryz.prog := by kernel_rfl
theorem sheafMerged_over : Rows.SheafMergedSaid :=
  OpenClaim.holds_of_wide 8 Tryz.f8 rfl rfl rfl rfl rfl rfl rfl ⟨rfl, rfl, rfl, rfl, rfl⟩ rfl rfl rfl rfl rfl sheafMerged_c9 Tryz.func8 sheafMerged_closed
    sheafMerged_c10 sheafMerged_c11
    (fun os started H enc _ => sheafMerged_lifted os started H enc)
theorem sheafMerged_holds : Rows.SheafMergedCardSaid :=
  Claim7.holds_tied_plain_at .later [] [.data, .data, .data, .data, .pinned] true (true, "a22c67c78887604cb126bec272bc71b176597bf07d274bfbfe8495834c8a693d") false
    sheafMerged_over (fun _ h => by cases h) sheafMerged_c12 (fun _ h => by cases h) sheafMerged_row_tie rfl ⟨rfl, rfl⟩ sheafMerged_c13 rfl
    (fun f fn hf hfn => by
      obtain rfl : f = 8 := Option.some.inj (sheafMerged_c9.symm.trans hf) |>.symm
      obtain rfl : fn = Tryz.f8 := (Option.some.inj (Tryz.func8.symm.trans hfn)).symm
      exact ⟨sheafMerged_c14, fun j t ht => by
        have hp : Tryz.f8.params = #[22, 22, 22] := by kernel_rfl
        rw [hp] at ht
        have hm : t ∈ [22, 22, 22] := by
          have := Array.mem_of_getElem? ht
          simpa using this
        simp only [List.mem_cons, List.mem_nil_iff, or_false] at hm
        rcases hm with rfl | rfl | rfl
        · exact (by kernel_rfl : Tryz.prog.wantsStandIn 22 = false)
        · exact (by kernel_rfl : Tryz.prog.wantsStandIn 22 = false)
        · exact (by kernel_rfl : Tryz.prog.wantsStandIn 22 = false)⟩)
    sheafMerged_c15
end Go.Proofs.YtflfibnolafddaaGreatDoor
