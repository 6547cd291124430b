/- for every shelf and every number the law returns true: what is pruned is the earlier generations alone; all others come back, counted from the one that is first now; with none pruned the shelf is the same. No condition. -/
import Derived.Test.YtflfibnolafddaaGreatDoorRows
import Derived.Test.YtflfibnolafddaaGreatDoorPk03
import Derived.Test.YtflfibnolafddaaGreatDoorCards
import Derived.Test.YtflfibnolafddaaGreatDoorTie
import Derived.WalkKit
import Derived.ProofKit
import Derived.Lay
import Derived.SevenTiedAt
namespace Go.Proofs.YtflfibnolafddaaGreatDoor
open Go.ChangeShapes Go.WideShapes Go.ChangeAt Go.RowKit Go.Ev
set_option maxRecDepth 100000
theorem sheafPruned_own : ownKnob Tryz.prog.godebug = none := by kernel_rfl
theorem sheafPruned_spec {HH : Type} : ∀ ds : List (DataW HH), ds.length = Tryz.f10.params.size → Rows.sheafPrunedSpec.fn HH ds = { results := [.lit (.bool true)], args := ds } := by
  intro ds hl
  have hp : Tryz.f10.params.size = 2 := by kernel_rfl
  rw [hp] at hl
  match ds, hl with
  | [a, b], _ => rfl
theorem sheafPruned_law (xs : List AV) (h : ArgsOf Tryz.prog 10 Tryz.f10.params.toList xs) : ∃ H', Go.Ev.lim (Cx eA) (.call 10 xs { objs := [], lock := 0 }) = some (.ret (.v (.bool true)) H') := by
  have hp : Tryz.f10.params.toList = [38, 5] := by kernel_rfl
  rw [hp] at h
  cases h with
  | cons h1 h =>
    cases h with
    | cons h2 h =>
      cases h
      obtain ⟨sh1, hs1, hf1⟩ := shelf_arg (N := 4) h1
      obtain ⟨m2, hm2, rfl⟩ := u8_of (N := 9) h2
      exact (ans10 sh1 hf1 _ hs1 m2 hm2).lim
theorem sheafPruned_shape (os : Os) : ((World.laidAll Tryz.prog os Rows.sheafPrunedRow.laid).forCall (fun _ _ => 0) ⟨#[], #[.agg #[.slice none 0 0, .slice none 0 0], .int .u8 0], []⟩).Shaped Tryz.prog := World.shaped_of_ZipB (by kernel_rfl) (by kernel_rfl)
theorem sheafPruned_met (os : Os) : laidMetH Tryz.prog Rows.sheafPrunedRow.laid ((World.laidAll Tryz.prog os Rows.sheafPrunedRow.laid).forCall (fun _ _ => 0) ⟨#[], #[.agg #[.slice none 0 0, .slice none 0 0], .int .u8 0], []⟩).memory := by
  rw [MakeChecks.laidMetH_plain _ _ _ (by kernel_rfl)]; exact laidMet_laidAll _ (by kernel_rfl) (by kernel_rfl)
theorem sheafPruned_lifted (os : Os) (started : os.Started) (H : Type) (enc : TypeId × Value → H) :
    ReturnsInHanded {} Tryz.checked os 10 .any (fun w args => (Rows.sheafPrunedSpec.pre enc Tryz.prog Tryz.f10 [] false w args ∧ laidMetH Tryz.prog Rows.sheafPrunedRow.laid w) ∧ sizedMet enc Tryz.prog Tryz.f10 (OpenSpec.ofChange Rows.sheafPrunedSpec) false w args)
      (Rows.sheafPrunedSpec.post enc Tryz.prog Tryz.f10 false true false false) := by
  refine returnsInHanded_of_change_and (C := Tryz.checked) (X := fun w _ => laidMetH Tryz.prog Rows.sheafPrunedRow.laid w) (fun _ _ _ hh h => h.of_heap hh) sheafPruned_own started (by kernel_rfl) Tryz.func10
    (ChangeSpec.witness_shaped (enc := enc) (C := Tryz.checked) (os := os) (X := fun w _ => laidMetH Tryz.prog Rows.sheafPrunedRow.laid w) false (World.laidAll Tryz.prog os Rows.sheafPrunedRow.laid) #[.agg #[.slice none 0 0, .slice none 0 0], .int .u8 0] 8 (World.laidAll_os _ _ _)
      (sheafPruned_shape os) (by kernel_rfl) (by kernel_rfl) (by kernel_rfl) (sheafPruned_met os)) ?_
  intro W base args ds gs before hval hW _ _ _ _
  exact law_contract (C := Cx eA) (N := 10) rfl (nogo eA) (mixed eA) extOKA (by kernel_rfl) rfl sheafPruned_spec rfl (by kernel_rfl) sheafPruned_law hval hW
theorem sheafPruned_c1 : (Rows.sheafPrunedRow.inPlace == Tryz.prog.inPlace 10) = true := by kernel_rfl
theorem sheafPruned_c2 : (Rows.sheafPrunedRow.unfollowed == Tryz.prog.unfollowed 10) = true := by kernel_rfl
theorem sheafPruned_c3 : (Rows.sheafPrunedRow.recurses == Tryz.prog.recurses 10) = true := by kernel_rfl
theorem sheafPruned_c4 : (Rows.sheafPrunedRow.named == Tryz.prog.varsNamed 10) = true := by kernel_rfl
theorem sheafPruned_c5 : laidOutB Tryz.prog = true := by kernel_rfl
theorem sheafPruned_c6 : Tryz.prog.stopsHeard = true := by kernel_rfl
theorem sheafPruned_c7 : Tryz.prog.mayEnter = true := by kernel_rfl
theorem sheafPruned_c8 : (Rows.sheafPrunedRow.plainKeys == Tryz.prog.plainKeys) = true := by kernel_rfl
theorem sheafPruned_closed : joinedFacts Tryz.prog 10 Tryz.f10 Rows.sheafPrunedSpec Rows.sheafPrunedRow = true := by
  unfold joinedFacts
  exact (Bool.and_eq_true_iff.2 ⟨(Bool.and_eq_true_iff.2 ⟨(Bool.and_eq_true_iff.2 ⟨(Bool.and_eq_true_iff.2 ⟨(Bool.and_eq_true_iff.2 ⟨(Bool.and_eq_true_iff.2 ⟨(Bool.and_eq_true_iff.2 ⟨(Bool.and_eq_true_iff.2 ⟨(Bool.and_eq_true_iff.2 ⟨(Bool.and_eq_true_iff.2 ⟨(Bool.and_eq_true_iff.2 ⟨(Bool.and_eq_true_iff.2 ⟨(Bool.and_eq_true_iff.2 ⟨(Bool.and_eq_true_iff.2 ⟨(Bool.and_eq_true_iff.2 ⟨(Bool.and_eq_true_iff.2 ⟨(Bool.and_eq_true_iff.2 ⟨(Bool.and_eq_true_iff.2 ⟨(Bool.and_eq_true_iff.2 ⟨(Bool.and_eq_true_iff.2 ⟨(Bool.and_eq_true_iff.2 ⟨(Bool.and_eq_true_iff.2 ⟨(Bool.and_eq_true_iff.2 ⟨(Bool.and_eq_true_iff.2 ⟨(Bool.and_eq_true_iff.2 ⟨(Bool.and_eq_true_iff.2 ⟨(Bool.and_eq_true_iff.2 ⟨(Bool.and_eq_true_iff.2 ⟨(Bool.and_eq_true_iff.2 ⟨(Bool.and_eq_true_iff.2 ⟨(Bool.and_eq_true_iff.2 ⟨(by kernel_rfl), sheafPruned_c5⟩), by kernel_rfl⟩), by kernel_rfl⟩), by kernel_rfl⟩), by kernel_rfl⟩), by kernel_rfl⟩), by kernel_rfl⟩), by kernel_rfl⟩), sheafPruned_c1⟩), sheafPruned_c2⟩), sheafPruned_c3⟩), sheafPruned_c4⟩), by kernel_rfl⟩), by kernel_rfl⟩), by kernel_rfl⟩), by kernel_rfl⟩), by kernel_rfl⟩), by kernel_rfl⟩), by kernel_rfl⟩), by kernel_rfl⟩), by kernel_rfl⟩), sheafPruned_c8⟩), by kernel_rfl⟩), sheafPruned_c6⟩), sheafPruned_c7⟩), by kernel_rfl⟩), by kernel_rfl⟩), by kernel_rfl⟩), by kernel_rfl⟩), by kernel_rfl⟩), by kernel_rfl⟩)
theorem sheafPruned_c9 : Tryz.prog.funcNamed "postil/postillaw11.SheafPruned" = some 10 := by kernel_rfl
theorem sheafPruned_c10 : Tryz.f10.isInstance Tryz.prog Rows.sheafPrunedRow.origin Rows.sheafPrunedRow.targs := of_decide_eq_true (by kernel_rfl)
theorem sheafPruned_c11 : Tryz.f10.isWrapper Tryz.prog Rows.sheafPrunedRow.wrapper Rows.sheafPrunedRow.mainSum := by unfold Func.isWrapper; first | (rw [if_pos (by decide +kernel)]; kernel_rfl) | (rw [if_neg (by decide +kernel)]; exact ⟨rfl, rfl⟩)
theorem sheafPruned_c12 : Rows.sheafPrunedRow.wfByText (OpenSpec.ofChange Rows.sheafPrunedSpec) = true := by kernel_rfl
theorem sheafPruned_c13 : Tryz.prog.mainIs = some ((true, "a22c67c78887604cb126bec272bc71b176597bf07d274bfbfe8495834c8a693d").1, (true, "a22c67c78887604cb126bec272bc71b176597bf07d274bfbfe8495834c8a693d").2.toList) := by kernel_rfl
theorem sheafPruned_c14 : false = Tryz.prog.looks [] := by kernel_rfl
theorem sheafPruned_c15 : false = Rows.sheafPrunedRow.goesBy Tryz.prog := by kernel_rfl
theorem sheafPruned_over : Rows.SheafPrunedSaid :=
  OpenClaim.holds_of_wide 10 Tryz.f10 rfl rfl rfl rfl rfl rfl rfl ⟨rfl, rfl, rfl, rfl, rfl⟩ rfl rfl rfl rfl rfl sheafPruned_c9 Tryz.func10 sheafPruned_closed
    sheafPruned_c10 sheafPruned_c11
    (fun os started H enc _ => sheafPruned_lifted os started H enc)
theorem sheafPruned_holds : Rows.SheafPrunedCardSaid :=
  Claim7.holds_tied_plain_at .later [] [.data, .data, .data, .data, .pinned] true (true, "a22c67c78887604cb126bec272bc71b176597bf07d274bfbfe8495834c8a693d") false
    sheafPruned_over (fun _ h => by cases h) sheafPruned_c12 (fun _ h => by cases h) sheafPruned_row_tie rfl ⟨rfl, rfl⟩ sheafPruned_c13 rfl
    (fun f fn hf hfn => by
      obtain rfl : f = 10 := Option.some.inj (sheafPruned_c9.symm.trans hf) |>.symm
      obtain rfl : fn = Tryz.f10 := (Option.some.inj (Tryz.func10.symm.trans hfn)).symm
      exact ⟨sheafPruned_c14, fun j t ht => by
        have hp : Tryz.f10.params = #[38, 5] := by kernel_rfl
        rw [hp] at ht
        have hm : t ∈ [38, 5] := by
          have := Array.mem_of_getElem? ht
          simpa using this
        simp only [List.mem_cons, List.mem_nil_iff, or_false] at hm
        rcases hm with rfl | rfl
        · exact (by kernel_rfl : Tryz.prog.wantsStandIn 38 = false)
        · exact (by kernel_rfl : Tryz.prog.wantsStandIn 5 = false)⟩)
    sheafPruned_c15
end Go.Proofs.YtflfibnolafddaaGreatDoor
