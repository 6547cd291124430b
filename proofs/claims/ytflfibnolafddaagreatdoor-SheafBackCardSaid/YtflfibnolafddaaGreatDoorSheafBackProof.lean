/- SheafBack holds: any earlier generation of a valid shelf comes back whatever is saved after it, and the last one has the rows that were saved. For any shelf, and two lists of rows. -/
import Derived.Test.YtflfibnolafddaaGreatDoorRows
import Derived.Test.YtflfibnolafddaaGreatDoorPk03
import Derived.Test.YtflfibnolafddaaGreatDoorCards
import Derived.Test.YtflfibnolafddaaGreatDoorTie
import Derived.WalkKit
import Derived.ProofKit
import Derived.Lay
import Derived.SevenTiedAt
namespace Go.Proofs.YtflfibnolafddaaGreatDoor
open Go.ChangeShapes Go.WideShapes Go.ChangeAt Go.RowKit Go.Ev
set_option maxRecDepth 100000
theorem sheafBack_own : ownKnob Tryz.prog.godebug = none := by kernel_rfl
theorem sheafBack_spec {HH : Type} : ∀ ds : List (DataW HH), ds.length = Tryz.f9.params.size → Rows.sheafBackSpec.fn HH ds = { results := [.lit (.bool true)], args := ds } := by
  intro ds hl
  have hp : Tryz.f9.params.size = 3 := by kernel_rfl
  rw [hp] at hl
  match ds, hl with
  | [a, b, c], _ => rfl
theorem sheafBack_law (xs : List AV) (h : ArgsOf Tryz.prog 10 Tryz.f9.params.toList xs) : ∃ H', Go.Ev.lim (Cx eA) (.call 9 xs { objs := [], lock := 0 }) = some (.ret (.v (.bool true)) H') := by
  have hp : Tryz.f9.params.toList = [38, 22, 22] := by kernel_rfl
  rw [hp] at h
  cases h with
  | cons h1 h =>
    cases h with
    | cons h2 h =>
      cases h with
      | cons h3 h =>
        cases h
        obtain ⟨sh1, hs1, hf1⟩ := shelf_arg (N := 4) h1
        obtain ⟨l2, hx2, hf2⟩ := rows_arg (N := 8) h2
        obtain ⟨l3, hx3, hf3⟩ := rows_arg (N := 8) h3
        exact (ans9 sh1 hf1 _ hs1 l2 hf2 _ hx2 l3 hf3 _ hx3).lim
theorem sheafBack_shape (os : Os) : ((World.laidAll Tryz.prog os Rows.sheafBackRow.laid).forCall (fun _ _ => 0) ⟨#[], #[.agg #[.slice none 0 0, .slice none 0 0], .slice none 0 0, .slice none 0 0], []⟩).Shaped Tryz.prog := World.shaped_of_ZipB (by kernel_rfl) (by kernel_rfl)
theorem sheafBack_met (os : Os) : laidMetH Tryz.prog Rows.sheafBackRow.laid ((World.laidAll Tryz.prog os Rows.sheafBackRow.laid).forCall (fun _ _ => 0) ⟨#[], #[.agg #[.slice none 0 0, .slice none 0 0], .slice none 0 0, .slice none 0 0], []⟩).memory := by
  rw [MakeChecks.laidMetH_plain _ _ _ (by kernel_rfl)]; exact laidMet_laidAll _ (by kernel_rfl) (by kernel_rfl)
theorem sheafBack_lifted (os : Os) (started : os.Started) (H : Type) (enc : TypeId × Value → H) :
    ReturnsInHanded {} Tryz.checked os 9 .any (fun w args => (Rows.sheafBackSpec.pre enc Tryz.prog Tryz.f9 [] false w args ∧ laidMetH Tryz.prog Rows.sheafBackRow.laid w) ∧ sizedMet enc Tryz.prog Tryz.f9 (OpenSpec.ofChange Rows.sheafBackSpec) false w args)
      (Rows.sheafBackSpec.post enc Tryz.prog Tryz.f9 false true false false) := by
  refine returnsInHanded_of_change_and (C := Tryz.checked) (X := fun w _ => laidMetH Tryz.prog Rows.sheafBackRow.laid w) (fun _ _ _ hh h => h.of_heap hh) sheafBack_own started (by kernel_rfl) Tryz.func9
    (ChangeSpec.witness_shaped (enc := enc) (C := Tryz.checked) (os := os) (X := fun w _ => laidMetH Tryz.prog Rows.sheafBackRow.laid w) false (World.laidAll Tryz.prog os Rows.sheafBackRow.laid) #[.agg #[.slice none 0 0, .slice none 0 0], .slice none 0 0, .slice none 0 0] 8 (World.laidAll_os _ _ _)
      (sheafBack_shape os) (by kernel_rfl) (by kernel_rfl) (by kernel_rfl) (sheafBack_met os)) ?_
  intro W base args ds gs before hval hW _ _ _ _
  exact law_contract (C := Cx eA) (N := 10) rfl (nogo eA) (mixed eA) extOKA (by kernel_rfl) rfl sheafBack_spec rfl (by kernel_rfl) sheafBack_law hval hW
theorem sheafBack_c1 : (Rows.sheafBackRow.inPlace == Tryz.prog.inPlace 9) = true := by kernel_rfl
theorem sheafBack_c2 : (Rows.sheafBackRow.unfollowed == Tryz.prog.unfollowed 9) = true := by kernel_rfl
theorem sheafBack_c3 : (Rows.sheafBackRow.recurses == Tryz.prog.recurses 9) = true := by kernel_rfl
theorem sheafBack_c4 : (Rows.sheafBackRow.named == Tryz.prog.varsNamed 9) = true := by kernel_rfl
theorem sheafBack_c5 : laidOutB Tryz.prog = true := by kernel_rfl
theorem sheafBack_c6 : Tryz.prog.stopsHeard = true := by kernel_rfl
theorem sheafBack_c7 : Tryz.prog.mayEnter = true := by kernel_rfl
theorem sheafBack_c8 : (Rows.sheafBackRow.plainKeys == Tryz.prog.plainKeys) = true := by kernel_rfl
theorem sheafBack_closed : joinedFacts Tryz.prog 9 Tryz.f9 Rows.sheafBackSpec Rows.sheafBackRow = true := by
  unfold joinedFacts
  exact (Bool.and_eq_true_iff.2 ⟨(Bool.and_eq_true_iff.2 ⟨(Bool.and_eq_true_iff.2 ⟨(Bool.and_eq_true_iff.2 ⟨(Bool.and_eq_true_iff.2 ⟨(Bool.and_eq_true_iff.2 ⟨(Bool.and_eq_true_iff.2 ⟨(Bool.and_eq_true_iff.2 ⟨(Bool.and_eq_true_iff.2 ⟨(Bool.and_eq_true_iff.2 ⟨(Bool.and_eq_true_iff.2 ⟨(Bool.and_eq_true_iff.2 ⟨(Bool.and_eq_true_iff.2 ⟨(Bool.and_eq_true_iff.2 ⟨(Bool.and_eq_true_iff.2 ⟨(Bool.and_eq_true_iff.2 ⟨(Bool.and_eq_true_iff.2 ⟨(Bool.and_eq_true_iff.2 ⟨(Bool.and_eq_true_iff.2 ⟨(Bool.and_eq_true_iff.2 ⟨(Bool.and_eq_true_iff.2 ⟨(Bool.and_eq_true_iff.2 ⟨(Bool.and_eq_true_iff.2 ⟨(Bool.and_eq_true_iff.2 ⟨(Bool.and_eq_true_iff.2 ⟨(Bool.and_eq_true_iff.2 ⟨(Bool.and_eq_true_iff.2 ⟨(Bool.and_eq_true_iff.2 ⟨(Bool.and_eq_true_iff.2 ⟨(Bool.and_eq_true_iff.2 ⟨(Bool.and_eq_true_iff.2 ⟨(by kernel_rfl), sheafBack_c5⟩), by kernel_rfl⟩), by kernel_rfl⟩), by kernel_rfl⟩), by kernel_rfl⟩), by kernel_rfl⟩), by kernel_rfl⟩), by kernel_rfl⟩), sheafBack_c1⟩), sheafBack_c2⟩), sheafBack_c3⟩), sheafBack_c4⟩), by kernel_rfl⟩), by kernel_rfl⟩), by kernel_rfl⟩), by kernel_rfl⟩), by kernel_rfl⟩), by kernel_rfl⟩), by kernel_rfl⟩), by kernel_rfl⟩), by kernel_rfl⟩), sheafBack_c8⟩), by kernel_rfl⟩), sheafBack_c6⟩), sheafBack_c7⟩), by kernel_rfl⟩), by kernel_rfl⟩), by kernel_rfl⟩), by kernel_rfl⟩), by kernel_rfl⟩), by kernel_rfl⟩)
theorem sheafBack_c9 : Tryz.prog.funcNamed "postil/postillaw11.SheafBack" = some 9 := by kernel_rfl
theorem sheafBack_c10 : Tryz.f9.isInstance Tryz.prog Rows.sheafBackRow.origin Rows.sheafBackRow.targs := of_decide_eq_true (by kernel_rfl)
theorem sheafBack_c11 : Tryz.f9.isWrapper Tryz.prog Rows.sheafBackRow.wrapper Rows.sheafBackRow.mainSum := by unfold Func.isWrapper; first | (rw [if_pos (by decide +kernel)]; kernel_rfl) | (rw [if_neg (by decide +kernel)]; exact ⟨rfl, rfl⟩)
theorem sheafBack_c12 : Rows.sheafBackRow.wfByText (OpenSpec.ofChange Rows.sheafBackSpec) = true := by kernel_rfl
theorem sheafBack_c13 : Tryz.prog.mainIs = some ((true, "a22c67c78887604cb126bec272bc71b176597bf07d274bfbfe8495834c8a693d").1, (true, "a22c67c78887604cb126bec272bc71b176597bf07d274bfbfe8495834c8a693d").2.toList) := by kernel_rfl
theorem sheafBack_c14 : false = Tryz.prog.looks [] := by kernel_rfl
theorem sheafBack_c15 : false = Rows.sheafBackRow.goesBy Tryz.prog := by kernel_rfl
theorem sheafBack_over : Rows.SheafBackSaid :=
  OpenClaim.holds_of_wide 9 Tryz.f9 rfl rfl rfl rfl rfl rfl rfl ⟨rfl, rfl, rfl, rfl, rfl⟩ rfl rfl rfl rfl rfl sheafBack_c9 Tryz.func9 sheafBack_closed
    sheafBack_c10 sheafBack_c11
    (fun os started H enc _ => sheafBack_lifted os started H enc)
theorem sheafBack_holds : Rows.SheafBackCardSaid :=
  Claim7.holds_tied_plain_at .later [] [.data, .data, .data, .data, .pinned] true (true, "a22c67c78887604cb126bec272bc71b176597bf07d274bfbfe8495834c8a693d") false
    sheafBack_over (fun _ h => by cases h) sheafBack_c12 (fun _ h => by cases h) sheafBack_row_tie rfl ⟨rfl, rfl⟩ sheafBack_c13 rfl
    (fun f fn hf hfn => by
      obtain rfl : f = 9 := Option.some.inj (sheafBack_c9.symm.trans hf) |>.symm
      obtain rfl : fn = Tryz.f9 := (Option.some.inj (Tryz.func9.symm.trans hfn)).symm
      exact ⟨sheafBack_c14, fun j t ht => by
        have hp : Tryz.f9.params = #[38, 22, 22] := by kernel_rfl
        rw [hp] at ht
        have hm : t ∈ [38, 22, 22] := by
          have := Array.mem_of_getElem? ht
          simpa using this
        simp only [List.mem_cons, List.mem_nil_iff, or_false] at hm
        rcases hm with rfl | rfl | rfl
        · exact (by kernel_rfl : Tryz.prog.wantsStandIn 38 = false)
        · exact (by kernel_rfl : Tryz.prog.wantsStandIn 22 = false)
        · exact (by kernel_rfl : Tryz.prog.wantsStandIn 22 = false)⟩)
    sheafBack_c15
end Go.Proofs.YtflfibnolafddaaGreatDoor
