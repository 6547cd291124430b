/- SheafRead: for every list of rows and every number the law returns true: what is read is what was written, and bytes that are cut off anywhere are read up to the last row that is whole. No condition. -/
import Derived.Test.YtflfibnolafddaaGreatDoorRows
import Derived.Test.YtflfibnolafddaaGreatDoorPk03
import Derived.Test.YtflfibnolafddaaGreatDoorCards
import Derived.Test.YtflfibnolafddaaGreatDoorTie
import Derived.WalkKit
import Derived.ProofKit
import Derived.Lay
import Derived.SevenTiedAt
namespace Go.Proofs.YtflfibnolafddaaGreatDoor
open Go.ChangeShapes Go.WideShapes Go.ChangeAt Go.RowKit Go.Ev
set_option maxRecDepth 100000
theorem sheafRead_own : ownKnob Tryz.prog.godebug = none := by kernel_rfl
theorem sheafRead_spec {HH : Type} : ∀ ds : List (DataW HH), ds.length = Tryz.f3.params.size → Rows.sheafReadSpec.fn HH ds = { results := [.lit (.bool true)], args := ds } := by
  intro ds hl
  have hp : Tryz.f3.params.size = 2 := by kernel_rfl
  rw [hp] at hl
  match ds, hl with
  | [a, b], _ => rfl
theorem sheafRead_law (xs : List AV) (h : ArgsOf Tryz.prog 10 Tryz.f3.params.toList xs) : ∃ H', Go.Ev.lim (Cx eA) (.call 3 xs { objs := [], lock := 0 }) = some (.ret (.v (.bool true)) H') := by
  have hp : Tryz.f3.params.toList = [22, 23] := by kernel_rfl
  rw [hp] at h
  cases h with
  | cons h1 h =>
    cases h with
    | cons h2 h =>
      cases h
      obtain ⟨l1, hx1, hf1⟩ := rows_arg (N := 8) h1
      obtain ⟨m2, hm2, rfl⟩ := u16_of (N := 9) h2
      exact (ans3 l1 hf1 _ hx1 m2 hm2).lim
theorem sheafRead_shape (os : Os) : ((World.laidAll Tryz.prog os Rows.sheafReadRow.laid).forCall (fun _ _ => 0) ⟨#[], #[.slice none 0 0, .int .u16 0], []⟩).Shaped Tryz.prog := World.shaped_of_ZipB (by kernel_rfl) (by kernel_rfl)
theorem sheafRead_met (os : Os) : laidMetH Tryz.prog Rows.sheafReadRow.laid ((World.laidAll Tryz.prog os Rows.sheafReadRow.laid).forCall (fun _ _ => 0) ⟨#[], #[.slice none 0 0, .int .u16 0], []⟩).memory := by
  rw [MakeChecks.laidMetH_plain _ _ _ (by kernel_rfl)]; exact laidMet_laidAll _ (by kernel_rfl) (by kernel_rfl)
theorem sheafRead_lifted (os : Os) (started : os.Started) (H : Type) (enc : TypeId × Value → H) :
    ReturnsInHanded {} Tryz.checked os 3 .any (fun w args => (Rows.sheafReadSpec.pre enc Tryz.prog Tryz.f3 [] false w args ∧ laidMetH Tryz.prog Rows.sheafReadRow.laid w) ∧ sizedMet enc Tryz.prog Tryz.f3 (OpenSpec.ofChange Rows.sheafReadSpec) false w args)
      (Rows.sheafReadSpec.post enc Tryz.prog Tryz.f3 false true false false) := by
  refine returnsInHanded_of_change_and (C := Tryz.checked) (X := fun w _ => laidMetH Tryz.prog Rows.sheafReadRow.laid w) (fun _ _ _ hh h => h.of_heap hh) sheafRead_own started (by kernel_rfl) Tryz.func3
    (ChangeSpec.witness_shaped (enc := enc) (C := Tryz.checked) (os := os) (X := fun w _ => laidMetH Tryz.prog Rows.sheafReadRow.laid w) false (World.laidAll Tryz.prog os Rows.sheafReadRow.laid) #[.slice none 0 0, .int .u16 0] 8 (World.laidAll_os _ _ _)
      (sheafRead_shape os) (by kernel_rfl) (by kernel_rfl) (by kernel_rfl) (sheafRead_met os)) ?_
  intro W base args ds gs before hval hW _ _ _ _
  exact law_contract (C := Cx eA) (N := 10) rfl (nogo eA) (mixed eA) extOKA (by kernel_rfl) rfl sheafRead_spec rfl (by kernel_rfl) sheafRead_law hval hW
theorem sheafRead_c1 : (Rows.sheafReadRow.inPlace == Tryz.prog.inPlace 3) = true := by kernel_rfl
theorem sheafRead_c2 : (Rows.sheafReadRow.unfollowed == Tryz.prog.unfollowed 3) = true := by kernel_rfl
theorem sheafRead_c3 : (Rows.sheafReadRow.recurses == Tryz.prog.recurses 3) = true := by kernel_rfl
theorem sheafRead_c4 : (Rows.sheafReadRow.named == Tryz.prog.varsNamed 3) = true := by kernel_rfl
theorem sheafRead_c5 : laidOutB Tryz.prog = true := by kernel_rfl
theorem sheafRead_c6 : Tryz.prog.stopsHeard = true := by kernel_rfl
theorem sheafRead_c7 : Tryz.prog.mayEnter = true := by kernel_rfl
theorem sheafRead_c8 : (Rows.sheafReadRow.plainKeys == Tryz.prog.plainKeys) = true := by kernel_rfl
theorem sheafRead_closed : joinedFacts Tryz.prog 3 Tryz.f3 Rows.sheafReadSpec Rows.sheafReadRow = true := by
  unfold joinedFacts
  exact (Bool.and_eq_true_iff.2 ⟨(Bool.and_eq_true_iff.2 ⟨(Bool.and_eq_true_iff.2 ⟨(Bool.and_eq_true_iff.2 ⟨(Bool.and_eq_true_iff.2 ⟨(Bool.and_eq_true_iff.2 ⟨(Bool.and_eq_true_iff.2 ⟨(Bool.and_eq_true_iff.2 ⟨(Bool.and_eq_true_iff.2 ⟨(Bool.and_eq_true_iff.2 ⟨(Bool.and_eq_true_iff.2 ⟨(Bool.and_eq_true_iff.2 ⟨(Bool.and_eq_true_iff.2 ⟨(Bool.and_eq_true_iff.2 ⟨(Bool.and_eq_true_iff.2 ⟨(Bool.and_eq_true_iff.2 ⟨(Bool.and_eq_true_iff.2 ⟨(Bool.and_eq_true_iff.2 ⟨(Bool.and_eq_true_iff.2 ⟨(Bool.and_eq_true_iff.2 ⟨(Bool.and_eq_true_iff.2 ⟨(Bool.and_eq_true_iff.2 ⟨(Bool.and_eq_true_iff.2 ⟨(Bool.and_eq_true_iff.2 ⟨(Bool.and_eq_true_iff.2 ⟨(Bool.and_eq_true_iff.2 ⟨(Bool.and_eq_true_iff.2 ⟨(Bool.and_eq_true_iff.2 ⟨(Bool.and_eq_true_iff.2 ⟨(Bool.and_eq_true_iff.2 ⟨(Bool.and_eq_true_iff.2 ⟨(by kernel_rfl), sheafRead_c5⟩), by kernel_rfl⟩), by kernel_rfl⟩), by kernel_rfl⟩), by kernel_rfl⟩), by kernel_rfl⟩), by kernel_rfl⟩), by kernel_rfl⟩), sheafRead_c1⟩), sheafRead_c2⟩), sheafRead_c3⟩), sheafRead_c4⟩), by kernel_rfl⟩), by kernel_rfl⟩), by kernel_rfl⟩), by kernel_rfl⟩), by kernel_rfl⟩), by kernel_rfl⟩), by kernel_rfl⟩), by kernel_rfl⟩), by kernel_rfl⟩), sheafRead_c8⟩), by kernel_rfl⟩), sheafRead_c6⟩), sheafRead_c7⟩), by kernel_rfl⟩), by kernel_rfl⟩), by kernel_rfl⟩), by kernel_rfl⟩), by kernel_rfl⟩), by kernel_rfl⟩)
theorem sheafRead_c9 : Tryz.prog.funcNamed "postil/postillaw11.SheafRead" = some 3 := by kernel_rfl
theorem sheafRead_c10 : Tryz.f3.isInstance Tryz.prog Rows.sheafReadRow.origin Rows.sheafReadRow.targs := of_decide_eq_true (by kernel_rfl)
theorem sheafRead_c11 : Tryz.f3.isWrapper Tryz.prog Rows.sheafReadRow.wrapper Rows.sheafReadRow.mainSum := by unfold Func.isWrapper; first | (rw [if_pos (by decide +kernel)]; kernel_rfl) | (rw [if_neg (by decide +kernel)]; exact ⟨rfl, rfl⟩)
theorem sheafRead_c12 : Rows.sheafReadRow.wfByText (OpenSpec.ofChange Rows.sheafReadSpec) = true := by kernel_rfl
theorem sheafRead_c13 : Tryz.prog.mainIs = some ((true, "a22c67c78887604cb126bec272bc71b176597bf07d274bfbfe8495834c8a693d").1, (true, "a22c67c78887604cb126bec272bc71b176597bf07d274bfbfe8495834c8a693d").2.toList) := by kernel_rfl
theorem sheafRead_c14 : false = Tryz.prog.looks [] := by kernel_rfl
theorem sheafRead_c15 : false = Rows.sheafReadRow.goesBy Tryz.prog := by kernel_rfl
theorem sheafRead_over : Rows.SheafReadSaid :=
  OpenClaim.holds_of_wide 3 Tryz.f3 rfl rfl rfl rfl rfl rfl rfl ⟨rfl, rfl, rfl, rfl, rfl⟩ rfl rfl rfl rfl rfl sheafRead_c9 Tryz.func3 sheafRead_closed
    sheafRead_c10 sheafRead_c11
    (fun os started H enc _ => sheafRead_lifted os started H enc)
theorem sheafRead_holds : Rows.SheafReadCardSaid :=
  Claim7.holds_tied_plain_at .later [] [.data, .data, .data, .data, .pinned] true (true, "a22c67c78887604cb126bec272bc71b176597bf07d274bfbfe8495834c8a693d") false
    sheafRead_over (fun _ h => by cases h) sheafRead_c12 (fun _ h => by cases h) sheafRead_row_tie rfl ⟨rfl, rfl⟩ sheafRead_c13 rfl
    (fun f fn hf hfn => by
      obtain rfl : f = 3 := Option.some.inj (sheafRead_c9.symm.trans hf) |>.symm
      obtain rfl : fn = Tryz.f3 := (Option.some.inj (Tryz.func3.symm.trans hfn)).symm
      exact ⟨sheafRead_c14, fun j t ht => by
        have hp : Tryz.f3.params = #[22, 23] := by kernel_rfl
        rw [hp] at ht
        have hm : t ∈ [22, 23] := by
          have := Array.mem_of_getElem? ht
          simpa using this
        simp only [List.mem_cons, List.mem_nil_iff, or_false] at hm
        rcases hm with rfl | rfl
        · exact (by kernel_rfl : Tryz.prog.wantsStandIn 22 = false)
        · exact (by kernel_rfl : Tryz.prog.wantsStandIn 23 = false)⟩)
    sheafRead_c15
end Go.Proofs.YtflfibnolafddaaGreatDoor
