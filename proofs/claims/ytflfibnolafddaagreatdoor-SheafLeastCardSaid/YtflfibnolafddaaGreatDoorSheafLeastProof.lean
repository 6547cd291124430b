/- SheafLeast holds: a hunk that the program makes is the smallest: no other one, by where it begins and how much it drops, that makes the same rows drops and puts fewer together. For any two lists of rows, and any two numbers. -/
import Derived.Test.YtflfibnolafddaaGreatDoorRows
import Derived.Test.YtflfibnolafddaaGreatDoorPk03
import Derived.Test.YtflfibnolafddaaGreatDoorCards
import Derived.Test.YtflfibnolafddaaGreatDoorTie
import Derived.WalkKit
import Derived.ProofKit
import Derived.Lay
import Derived.SevenTiedAt
namespace Go.Proofs.YtflfibnolafddaaGreatDoor
open Go.ChangeShapes Go.WideShapes Go.ChangeAt Go.RowKit Go.Ev
set_option maxRecDepth 100000
theorem sheafLeast_own : ownKnob Tryz.prog.godebug = none := by kernel_rfl
theorem sheafLeast_spec {HH : Type} : ∀ ds : List (DataW HH), ds.length = Tryz.f6.params.size → Rows.sheafLeastSpec.fn HH ds = { results := [.lit (.bool true)], args := ds } := by
  intro ds hl
  have hp : Tryz.f6.params.size = 4 := by kernel_rfl
  rw [hp] at hl
  match ds, hl with
  | [a, b, c, d], _ => rfl
theorem sheafLeast_law (xs : List AV) (h : ArgsOf Tryz.prog 10 Tryz.f6.params.toList xs) : ∃ H', Go.Ev.lim (Cx eA) (.call 6 xs { objs := [], lock := 0 }) = some (.ret (.v (.bool true)) H') := by
  have hp : Tryz.f6.params.toList = [22, 22, 5, 5] := by kernel_rfl
  rw [hp] at h
  cases h with
  | cons h1 h =>
    cases h with
    | cons h2 h =>
      cases h with
      | cons h3 h =>
        cases h with
        | cons h4 h =>
          cases h
          obtain ⟨l1, hx1, hf1⟩ := rows_arg (N := 8) h1
          obtain ⟨l2, hx2, hf2⟩ := rows_arg (N := 8) h2
          obtain ⟨m3, hm3, rfl⟩ := u8_of (N := 9) h3
          obtain ⟨m4, hm4, rfl⟩ := u8_of (N := 9) h4
          exact (ans6 l1 hf1 _ hx1 l2 hf2 _ hx2 m3 hm3 m4 hm4).lim
theorem sheafLeast_shape (os : Os) : ((World.laidAll Tryz.prog os Rows.sheafLeastRow.laid).forCall (fun _ _ => 0) ⟨#[], #[.slice none 0 0, .slice none 0 0, .int .u8 0, .int .u8 0], []⟩).Shaped Tryz.prog := World.shaped_of_ZipB (by kernel_rfl) (by kernel_rfl)
theorem sheafLeast_met (os : Os) : laidMetH Tryz.prog Rows.sheafLeastRow.laid ((World.laidAll Tryz.prog os Rows.sheafLeastRow.laid).forCall (fun _ _ => 0) ⟨#[], #[.slice none 0 0, .slice none 0 0, .int .u8 0, .int .u8 0], []⟩).memory := by
  rw [MakeChecks.laidMetH_plain _ _ _ (by kernel_rfl)]; exact laidMet_laidAll _ (by kernel_rfl) (by kernel_rfl)
theorem sheafLeast_lifted (os : Os) (started : os.Started) (H : Type) (enc : TypeId × Value → H) :
    ReturnsInHanded {} Tryz.checked os 6 .any (fun w args => (Rows.sheafLeastSpec.pre enc Tryz.prog Tryz.f6 [] false w args ∧ laidMetH Tryz.prog Rows.sheafLeastRow.laid w) ∧ sizedMet enc Tryz.prog Tryz.f6 (OpenSpec.ofChange Rows.sheafLeastSpec) false w args)
      (Rows.sheafLeastSpec.post enc Tryz.prog Tryz.f6 false true false false) := by
  refine returnsInHanded_of_change_and (C := Tryz.checked) (X := fun w _ => laidMetH Tryz.prog Rows.sheafLeastRow.laid w) (fun _ _ _ hh h => h.of_heap hh) sheafLeast_own started (by kernel_rfl) Tryz.func6
    (ChangeSpec.witness_shaped (enc := enc) (C := Tryz.checked) (os := os) (X := fun w _ => laidMetH Tryz.prog Rows.sheafLeastRow.laid w) false (World.laidAll Tryz.prog os Rows.sheafLeastRow.laid) #[.slice none 0 0, .slice none 0 0, .int .u8 0, .int .u8 0] 8 (World.laidAll_os _ _ _)
      (sheafLeast_shape os) (by kernel_rfl) (by kernel_rfl) (by kernel_rfl) (sheafLeast_met os)) ?_
  intro W base args ds gs before hval hW _ _ _ _
  exact law_contract (C := Cx eA) (N := 10) rfl (nogo eA) (mixed eA) extOKA (by kernel_rfl) rfl sheafLeast_spec rfl (by kernel_rfl) sheafLeast_law hval hW
theorem sheafLeast_c1 : (Rows.sheafLeastRow.inPlace == Tryz.prog.inPlace 6) = true := by kernel_rfl
theorem sheafLeast_c2 : (Rows.sheafLeastRow.unfollowed == Tryz.prog.unfollowed 6) = true := by kernel_rfl
theorem sheafLeast_c3 : (Rows.sheafLeastRow.recurses == Tryz.prog.recurses 6) = true := by kernel_rfl
theorem sheafLeast_c4 : (Rows.sheafLeastRow.named == Tryz.prog.varsNamed 6) = true := by kernel_rfl
theorem sheafLeast_c5 : laidOutB Tryz.prog = true := by kernel_rfl
theorem sheafLeast_c6 : Tryz.prog.stopsHeard = true := by kernel_rfl
theorem sheafLeast_c7 : Tryz.prog.mayEnter = true := by kernel_rfl
theorem sheafLeast_c8 : (Rows.sheafLeastRow.plainKeys == Tryz.prog.plainKeys) = true := by kernel_rfl
theorem sheafLeast_closed : joinedFacts Tryz.prog 6 Tryz.f6 Rows.sheafLeastSpec Rows.sheafLeastRow = true := by
  unfold joinedFacts
  exact (Bool.and_eq_true_iff.2 ⟨(Bool.and_eq_true_iff.2 ⟨(Bool.and_eq_true_iff.2 ⟨(Bool.and_eq_true_iff.2 ⟨(Bool.and_eq_true_iff.2 ⟨(Bool.and_eq_true_iff.2 ⟨(Bool.and_eq_true_iff.2 ⟨(Bool.and_eq_true_iff.2 ⟨(Bool.and_eq_true_iff.2 ⟨(Bool.and_eq_true_iff.2 ⟨(Bool.and_eq_true_iff.2 ⟨(Bool.and_eq_true_iff.2 ⟨(Bool.and_eq_true_iff.2 ⟨(Bool.and_eq_true_iff.2 ⟨(Bool.and_eq_true_iff.2 ⟨(Bool.and_eq_true_iff.2 ⟨(Bool.and_eq_true_iff.2 ⟨(Bool.and_eq_true_iff.2 ⟨(Bool.and_eq_true_iff.2 ⟨(Bool.and_eq_true_iff.2 ⟨(Bool.and_eq_true_iff.2 ⟨(Bool.and_eq_true_iff.2 ⟨(Bool.and_eq_true_iff.2 ⟨(Bool.and_eq_true_iff.2 ⟨(Bool.and_eq_true_iff.2 ⟨(Bool.and_eq_true_iff.2 ⟨(Bool.and_eq_true_iff.2 ⟨(Bool.and_eq_true_iff.2 ⟨(Bool.and_eq_true_iff.2 ⟨(Bool.and_eq_true_iff.2 ⟨(Bool.and_eq_true_iff.2 ⟨(by kernel_rfl), sheafLeast_c5⟩), by kernel_rfl⟩), by kernel_rfl⟩), by kernel_rfl⟩), by kernel_rfl⟩), by kernel_rfl⟩), by kernel_rfl⟩), by kernel_rfl⟩), sheafLeast_c1⟩), sheafLeast_c2⟩), sheafLeast_c3⟩), sheafLeast_c4⟩), by kernel_rfl⟩), by kernel_rfl⟩), by kernel_rfl⟩), by kernel_rfl⟩), by kernel_rfl⟩), by kernel_rfl⟩), by kernel_rfl⟩), by kernel_rfl⟩), by kernel_rfl⟩), sheafLeast_c8⟩), by kernel_rfl⟩), sheafLeast_c6⟩), sheafLeast_c7⟩), by kernel_rfl⟩), by kernel_rfl⟩), by kernel_rfl⟩), by kernel_rfl⟩), by kernel_rfl⟩), by kernel_rfl⟩)
theorem sheafLeast_c9 : Tryz.prog.funcNamed "postil/postillaw11.SheafLeast" = some 6 := by kernel_rfl
theorem sheafLeast_c10 : Tryz.f6.isInstance Tryz.prog Rows.sheafLeastRow.origin Rows.sheafLeastRow.targs := of_decide_eq_true (by kernel_rfl)
theorem sheafLeast_c11 : Tryz.f6.isWrapper Tryz.prog Rows.sheafLeastRow.wrapper Rows.sheafLeastRow.mainSum := by unfold Func.isWrapper; first | (rw [if_pos (by decide +kernel)]; kernel_rfl) | (rw [if_neg (by decide +kernel)]; exact ⟨rfl, rfl⟩)
theorem sheafLeast_c12 : Rows.sheafLeastRow.wfByText (OpenSpec.ofChange Rows.sheafLeastSpec) = true := by kernel_rfl
theorem sheafLeast_c13 : Tryz.prog.mainIs = some ((true, "a22c67c78887604cb126bec272bc71b176597bf07d274bfbfe8495834c8a693d").1, (true, "a22c67c78887604cb126bec272bc71b176597bf07d274bfbfe8495834c8a693d").2.toList) := by kernel_rfl
theorem sheafLeast_c14 : false = Tryz.prog.looks [] := by kernel_rfl
theorem sheafLeast_c15 : false = Rows.sheafLeastRow.goesBy Tryz.prog := by kernel_rfl
theorem sheafLeast_over : Rows.SheafLeastSaid :=
  OpenClaim.holds_of_wide 6 Tryz.f6 rfl rfl rfl rfl rfl rfl rfl ⟨rfl, rfl, rfl, rfl, rfl⟩ rfl rfl rfl rfl rfl sheafLeast_c9 Tryz.func6 sheafLeast_closed
    sheafLeast_c10 sheafLeast_c11
    (fun os started H enc _ => sheafLeast_lifted os started H enc)
theorem sheafLeast_holds : Rows.SheafLeastCardSaid :=
  Claim7.holds_tied_plain_at .later [] [.data, .data, .data, .data, .pinned] true (true, "a22c67c78887604cb126bec272bc71b176597bf07d274bfbfe8495834c8a693d") false
    sheafLeast_over (fun _ h => by cases h) sheafLeast_c12 (fun _ h => by cases h) sheafLeast_row_tie rfl ⟨rfl, rfl⟩ sheafLeast_c13 rfl
    (fun f fn hf hfn => by
      obtain rfl : f = 6 := Option.some.inj (sheafLeast_c9.symm.trans hf) |>.symm
      obtain rfl : fn = Tryz.f6 := (Option.some.inj (Tryz.func6.symm.trans hfn)).symm
      exact ⟨sheafLeast_c14, fun j t ht => by
        have hp : Tryz.f6.params = #[22, 22, 5, 5] := by kernel_rfl
        rw [hp] at ht
        have hm : t ∈ [22, 22, 5, 5] := by
          have := Array.mem_of_getElem? ht
          simpa using this
        simp only [List.mem_cons, List.mem_nil_iff, or_false] at hm
        rcases hm with rfl | rfl | rfl | rfl
        · exact (by kernel_rfl : Tryz.prog.wantsStandIn 22 = false)
        · exact (by kernel_rfl : Tryz.prog.wantsStandIn 22 = false)
        · exact (by kernel_rfl : Tryz.prog.wantsStandIn 5 = false)
        · exact (by kernel_rfl : Tryz.prog.wantsStandIn 5 = false)⟩)
    sheafLeast_c15
end Go.Proofs.YtflfibnolafddaaGreatDoor
