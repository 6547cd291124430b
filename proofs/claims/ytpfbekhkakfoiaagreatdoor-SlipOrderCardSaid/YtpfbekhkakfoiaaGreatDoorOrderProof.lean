/- SlipOrder: for every three slips the law returns true: the order of valid slips is one order -/
import Derived.Test.YtpfbekhkakfoiaaGreatDoorRows
import Derived.Test.YtpfbekhkakfoiaaGreatDoorPk03
import Derived.Test.YtpfbekhkakfoiaaGreatDoorCards
import Derived.Test.YtpfbekhkakfoiaaGreatDoorTie
import Derived.WalkKit
import Derived.ProofKit
import Derived.Lay
import Derived.SevenTiedAt
namespace Go.Proofs.YtpfbekhkakfoiaaGreatDoor
open Go.ChangeShapes Go.WideShapes Go.ChangeAt Go.RowKit Go.Ev
set_option maxRecDepth 100000
theorem slipOrder_own : ownKnob Tryz.prog.godebug = none := by kernel_rfl
theorem slipOrder_spec {HH : Type} : ∀ ds : List (DataW HH), ds.length = Tryz.f13.params.size → Rows.slipOrderSpec.fn HH ds = { results := [.lit (.bool true)], args := ds } := by
  intro ds hl
  have hp : Tryz.f13.params.size = 3 := by kernel_rfl
  rw [hp] at hl
  match ds, hl with
  | [a, b, c], _ => rfl
theorem slipOrder_law (xs : List AV) (h : ArgsOf Tryz.prog 10 Tryz.f13.params.toList xs) : ∃ H', Go.Ev.lim (Cx eA) (.call 13 xs { objs := [], lock := 0 }) = some (.ret (.v (.bool true)) H') := by
  have hp : Tryz.f13.params.toList = [30, 30, 30] := by kernel_rfl
  rw [hp] at h
  cases h with
  | cons h1 h =>
    cases h with
    | cons h2 h =>
      cases h with
      | cons h3 h =>
        cases h
        obtain ⟨m1, rfl⟩ := slip_of (N := 5) h1
        obtain ⟨m2, rfl⟩ := slip_of (N := 5) h2
        obtain ⟨m3, rfl⟩ := slip_of (N := 5) h3
        exact (ansS13 m1 m2 m3).lim
theorem slipOrder_shape (os : Os) : ((World.laidAll Tryz.prog os Rows.slipOrderRow.laid).forCall (fun _ _ => 0) ⟨#[], #[.agg #[.int .i64 0, .int .i64 0, .int .i64 0, .string ⟨#[]⟩, .string ⟨#[]⟩, .string ⟨#[]⟩], .agg #[.int .i64 0, .int .i64 0, .int .i64 0, .string ⟨#[]⟩, .string ⟨#[]⟩, .string ⟨#[]⟩], .agg #[.int .i64 0, .int .i64 0, .int .i64 0, .string ⟨#[]⟩, .string ⟨#[]⟩, .string ⟨#[]⟩]], []⟩).Shaped Tryz.prog := World.shaped_of_ZipB (by kernel_rfl) (by kernel_rfl)
theorem slipOrder_met (os : Os) : laidMetH Tryz.prog Rows.slipOrderRow.laid ((World.laidAll Tryz.prog os Rows.slipOrderRow.laid).forCall (fun _ _ => 0) ⟨#[], #[.agg #[.int .i64 0, .int .i64 0, .int .i64 0, .string ⟨#[]⟩, .string ⟨#[]⟩, .string ⟨#[]⟩], .agg #[.int .i64 0, .int .i64 0, .int .i64 0, .string ⟨#[]⟩, .string ⟨#[]⟩, .string ⟨#[]⟩], .agg #[.int .i64 0, .int .i64 0, .int .i64 0, .string ⟨#[]⟩, .string ⟨#[]⟩, .string ⟨#[]⟩]], []⟩).memory := by
  rw [MakeChecks.laidMetH_plain _ _ _ (by kernel_rfl)]; exact laidMet_laidAll _ (by kernel_rfl) (by kernel_rfl)
theorem slipOrder_tab {W : World} (h : laidMetH Tryz.prog Rows.slipOrderRow.laid W) : laidOk (allZ W) := by
  rw [MakeChecks.laidMetH_plain _ _ _ (by kernel_rfl)] at h
  intro p hp
  obtain rfl := List.mem_singleton.1 hp
  exact heap_of_tab (P := Tryz.prog) (name := "strings.asciiSpace") (by kernel_rfl) (tabIs_of_vars (P := Tryz.prog) (g := 0) (t := 187) (e := 5) (n := 256) (by kernel_rfl) (by kernel_rfl) (by kernel_rfl) (by kernel_rfl) (by kernel_rfl) (by kernel_rfl) (l := Rows.slipOrderRow.laid) (List.mem_of_getElem? (i := 2) (by kernel_rfl)) h.choose_spec.1)
theorem slipOrder_lifted (os : Os) (started : os.Started) (H : Type) (enc : TypeId × Value → H) :
    ReturnsInHanded {} Tryz.checked os 13 .any (fun w args => (Rows.slipOrderSpec.pre enc Tryz.prog Tryz.f13 [] false w args ∧ laidMetH Tryz.prog Rows.slipOrderRow.laid w) ∧ sizedMet enc Tryz.prog Tryz.f13 (OpenSpec.ofChange Rows.slipOrderSpec) false w args)
      (Rows.slipOrderSpec.post enc Tryz.prog Tryz.f13 false true false false) := by
  refine returnsInHanded_of_change_and (C := Tryz.checked) (X := fun w _ => laidMetH Tryz.prog Rows.slipOrderRow.laid w) (fun _ _ _ hh h => h.of_heap hh) slipOrder_own started (by kernel_rfl) Tryz.func13
    (ChangeSpec.witness_shaped (enc := enc) (C := Tryz.checked) (os := os) (X := fun w _ => laidMetH Tryz.prog Rows.slipOrderRow.laid w) false (World.laidAll Tryz.prog os Rows.slipOrderRow.laid) #[.agg #[.int .i64 0, .int .i64 0, .int .i64 0, .string ⟨#[]⟩, .string ⟨#[]⟩, .string ⟨#[]⟩], .agg #[.int .i64 0, .int .i64 0, .int .i64 0, .string ⟨#[]⟩, .string ⟨#[]⟩, .string ⟨#[]⟩], .agg #[.int .i64 0, .int .i64 0, .int .i64 0, .string ⟨#[]⟩, .string ⟨#[]⟩, .string ⟨#[]⟩]] 8 (World.laidAll_os _ _ _)
      (slipOrder_shape os) (by kernel_rfl) (by kernel_rfl) (by kernel_rfl) (slipOrder_met os)) ?_
  intro W base args ds gs before hval hW _ _ hX _
  exact law_contract (C := Cx eA) (N := 10) rfl (nogo eA) (mixed eA) extOKA (by kernel_rfl) rfl slipOrder_spec rfl (by kernel_rfl) slipOrder_law hval hW (slipOrder_tab hX)
theorem slipOrder_c1 : (Rows.slipOrderRow.inPlace == Tryz.prog.inPlace 13) = true := by kernel_rfl
theorem slipOrder_c2 : (Rows.slipOrderRow.unfollowed == Tryz.prog.unfollowed 13) = true := by kernel_rfl
theorem slipOrder_c3 : (Rows.slipOrderRow.recurses == Tryz.prog.recurses 13) = true := by kernel_rfl
theorem slipOrder_c4 : (Rows.slipOrderRow.named == Tryz.prog.varsNamed 13) = true := by kernel_rfl
theorem slipOrder_c5 : laidOutB Tryz.prog = true := by kernel_rfl
theorem slipOrder_c6 : Tryz.prog.stopsHeard = true := by kernel_rfl
theorem slipOrder_c7 : Tryz.prog.mayEnter = true := by kernel_rfl
theorem slipOrder_c8 : (Rows.slipOrderRow.plainKeys == Tryz.prog.plainKeys) = true := by kernel_rfl
theorem slipOrder_closed : joinedFacts Tryz.prog 13 Tryz.f13 Rows.slipOrderSpec Rows.slipOrderRow = true := by
  unfold joinedFacts
  exact (Bool.and_eq_true_iff.2 ⟨(Bool.and_eq_true_iff.2 ⟨(Bool.and_eq_true_iff.2 ⟨(Bool.and_eq_true_iff.2 ⟨(Bool.and_eq_true_iff.2 ⟨(Bool.and_eq_true_iff.2 ⟨(Bool.and_eq_true_iff.2 ⟨(Bool.and_eq_true_iff.2 ⟨(Bool.and_eq_true_iff.2 ⟨(Bool.and_eq_true_iff.2 ⟨(Bool.and_eq_true_iff.2 ⟨(Bool.and_eq_true_iff.2 ⟨(Bool.and_eq_true_iff.2 ⟨(Bool.and_eq_true_iff.2 ⟨(Bool.and_eq_true_iff.2 ⟨(Bool.and_eq_true_iff.2 ⟨(Bool.and_eq_true_iff.2 ⟨(Bool.and_eq_true_iff.2 ⟨(Bool.and_eq_true_iff.2 ⟨(Bool.and_eq_true_iff.2 ⟨(Bool.and_eq_true_iff.2 ⟨(Bool.and_eq_true_iff.2 ⟨(Bool.and_eq_true_iff.2 ⟨(Bool.and_eq_true_iff.2 ⟨(Bool.and_eq_true_iff.2 ⟨(Bool.and_eq_true_iff.2 ⟨(Bool.and_eq_true_iff.2 ⟨(Bool.and_eq_true_iff.2 ⟨(Bool.and_eq_true_iff.2 ⟨(Bool.and_eq_true_iff.2 ⟨(Bool.and_eq_true_iff.2 ⟨(by kernel_rfl), slipOrder_c5⟩), by kernel_rfl⟩), by kernel_rfl⟩), by kernel_rfl⟩), by kernel_rfl⟩), by kernel_rfl⟩), by kernel_rfl⟩), by kernel_rfl⟩), slipOrder_c1⟩), slipOrder_c2⟩), slipOrder_c3⟩), slipOrder_c4⟩), by kernel_rfl⟩), by kernel_rfl⟩), by kernel_rfl⟩), by kernel_rfl⟩), by kernel_rfl⟩), by kernel_rfl⟩), by kernel_rfl⟩), by kernel_rfl⟩), by kernel_rfl⟩), slipOrder_c8⟩), by kernel_rfl⟩), slipOrder_c6⟩), slipOrder_c7⟩), by kernel_rfl⟩), by kernel_rfl⟩), by kernel_rfl⟩), by kernel_rfl⟩), by kernel_rfl⟩), by kernel_rfl⟩)
theorem slipOrder_c9 : Tryz.prog.funcNamed "postil/postillaw03.SlipOrder" = some 13 := by kernel_rfl
theorem slipOrder_c10 : Tryz.f13.isInstance Tryz.prog Rows.slipOrderRow.origin Rows.slipOrderRow.targs := of_decide_eq_true (by kernel_rfl)
theorem slipOrder_c11 : Tryz.f13.isWrapper Tryz.prog Rows.slipOrderRow.wrapper Rows.slipOrderRow.mainSum := by unfold Func.isWrapper; first | (rw [if_pos (by decide +kernel)]; kernel_rfl) | (rw [if_neg (by decide +kernel)]; exact ⟨rfl, rfl⟩)
theorem slipOrder_c12 : Rows.slipOrderRow.wfByText (OpenSpec.ofChange Rows.slipOrderSpec) = true := by kernel_rfl
theorem slipOrder_c13 : Tryz.prog.mainIs = some ((true, "cdb0c94b42050c44fe1623a4c45843700c837e98d62dd29dbc15ecf1b30f6525").1, (true, "cdb0c94b42050c44fe1623a4c45843700c837e98d62dd29dbc15ecf1b30f6525").2.toList) := by kernel_rfl
theorem slipOrder_c14 : false = Tryz.prog.looks [] := by kernel_rfl
theorem slipOrder_c15 : false = Rows.slipOrderRow.goesBy Tryz.prog := by kernel_rfl
theorem slipOrder_over : Rows.SlipOrderSaid :=
  OpenClaim.holds_of_wide 13 Tryz.f13 rfl rfl rfl rfl rfl rfl rfl ⟨rfl, rfl, rfl, rfl, rfl⟩ rfl rfl rfl rfl rfl slipOrder_c9 Tryz.func13 slipOrder_closed
    slipOrder_c10 slipOrder_c11
    (fun os started H enc _ => slipOrder_lifted os started H enc)
theorem slipOrder_holds : Rows.SlipOrderCardSaid :=
  Claim7.holds_tied_plain_at .later [] [.data, .listed, .data, .pinned] true (true, "cdb0c94b42050c44fe1623a4c45843700c837e98d62dd29dbc15ecf1b30f6525") false
    slipOrder_over (fun _ h => by cases h) slipOrder_c12 (fun _ h => by cases h) slipOrder_row_tie rfl ⟨rfl, rfl⟩ slipOrder_c13 rfl
    (fun f fn hf hfn => by
      obtain rfl : f = 13 := Option.some.inj (slipOrder_c9.symm.trans hf) |>.symm
      obtain rfl : fn = Tryz.f13 := (Option.some.inj (Tryz.func13.symm.trans hfn)).symm
      exact ⟨slipOrder_c14, fun j t ht => by
        have hp : Tryz.f13.params = #[30, 30, 30] := by kernel_rfl
        rw [hp] at ht
        have hm : t ∈ [30, 30, 30] := by
          have := Array.mem_of_getElem? ht
          simpa using this
        simp only [List.mem_cons, List.mem_nil_iff, or_false] at hm
        rcases hm with rfl | rfl | rfl
        · exact (by kernel_rfl : Tryz.prog.wantsStandIn 30 = false)
        · exact (by kernel_rfl : Tryz.prog.wantsStandIn 30 = false)
        · exact (by kernel_rfl : Tryz.prog.wantsStandIn 30 = false)⟩)
    slipOrder_c15
end Go.Proofs.YtpfbekhkakfoiaaGreatDoor
