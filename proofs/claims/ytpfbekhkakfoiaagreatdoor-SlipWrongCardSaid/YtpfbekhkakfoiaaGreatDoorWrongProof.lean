/- SlipWrong holds: what is wrong with a slip is the first thing in which it differs from the slip of its place; with nothing wrong it is that one, and may be from there. For any text, cut, and slip. No condition. -/
import Derived.Test.YtpfbekhkakfoiaaGreatDoorRows
import Derived.Test.YtpfbekhkakfoiaaGreatDoorPk05
import Derived.Test.YtpfbekhkakfoiaaGreatDoorCards
import Derived.Test.YtpfbekhkakfoiaaGreatDoorTie
import Derived.WalkKit
import Derived.ProofKit
import Derived.Lay
import Derived.SevenTiedAt
namespace Go.Proofs.YtpfbekhkakfoiaaGreatDoor
open Go.ChangeShapes Go.WideShapes Go.ChangeAt Go.RowKit Go.Ev
set_option maxRecDepth 100000
theorem slipWrong_own : ownKnob Tryz.prog.godebug = none := by kernel_rfl
theorem slipWrong_spec {HH : Type} : ∀ ds : List (DataW HH), ds.length = Tryz.f14.params.size → Rows.slipWrongSpec.fn HH ds = { results := [.lit (.bool true)], args := ds } := by
  intro ds hl
  have hp : Tryz.f14.params.size = 3 := by kernel_rfl
  rw [hp] at hl
  match ds, hl with
  | [a, b, c], _ => rfl
theorem slipWrong_law (xs : List AV) (h : ArgsOf Tryz.prog 10 Tryz.f14.params.toList xs) : ∃ H', Go.Ev.lim (Cx eA) (.call 14 xs { objs := [], lock := 0 }) = some (.ret (.v (.bool true)) H') := by
  have hp : Tryz.f14.params.toList = [24, 26, 30] := by kernel_rfl
  rw [hp] at h
  cases h with
  | cons h1 h =>
    cases h with
    | cons h2 h =>
      cases h with
      | cons h3 h =>
        cases h
        obtain ⟨t, ⟨ch, rfl, ys, hch, hall⟩, ht⟩ := text_of (N := 4) h1
        obtain ⟨w, sd, hs1, hs2, rfl⟩ := cut_of (N := 7) h2
        obtain ⟨m1, rfl⟩ := slip_of (N := 5) h3
        exact (ansS14 t ht ch ys hch hall w sd hs1 hs2 m1).lim
theorem slipWrong_shape (os : Os) : ((World.laidAll Tryz.prog os Rows.slipWrongRow.laid).forCall (fun _ _ => 0) ⟨#[], #[.agg #[.slice none 0 0], .agg #[.int .i64 0, .int .u8 0], .agg #[.int .i64 0, .int .i64 0, .int .i64 0, .string ⟨#[]⟩, .string ⟨#[]⟩, .string ⟨#[]⟩]], []⟩).Shaped Tryz.prog := World.shaped_of_ZipB (by kernel_rfl) (by kernel_rfl)
theorem slipWrong_met (os : Os) : laidMetH Tryz.prog Rows.slipWrongRow.laid ((World.laidAll Tryz.prog os Rows.slipWrongRow.laid).forCall (fun _ _ => 0) ⟨#[], #[.agg #[.slice none 0 0], .agg #[.int .i64 0, .int .u8 0], .agg #[.int .i64 0, .int .i64 0, .int .i64 0, .string ⟨#[]⟩, .string ⟨#[]⟩, .string ⟨#[]⟩]], []⟩).memory := by
  rw [MakeChecks.laidMetH_plain _ _ _ (by kernel_rfl)]; exact laidMet_laidAll _ (by kernel_rfl) (by kernel_rfl)
theorem slipWrong_tab {W : World} (h : laidMetH Tryz.prog Rows.slipWrongRow.laid W) : laidOk (allZ W) := by
  rw [MakeChecks.laidMetH_plain _ _ _ (by kernel_rfl)] at h
  intro p hp
  obtain rfl := List.mem_singleton.1 hp
  exact heap_of_tab (P := Tryz.prog) (name := "strings.asciiSpace") (by kernel_rfl) (tabIs_of_vars (P := Tryz.prog) (g := 0) (t := 187) (e := 5) (n := 256) (by kernel_rfl) (by kernel_rfl) (by kernel_rfl) (by kernel_rfl) (by kernel_rfl) (by kernel_rfl) (l := Rows.slipWrongRow.laid) (List.mem_of_getElem? (i := 2) (by kernel_rfl)) h.choose_spec.1)
theorem slipWrong_lifted (os : Os) (started : os.Started) (H : Type) (enc : TypeId × Value → H) :
    ReturnsInHanded {} Tryz.checked os 14 .any (fun w args => (Rows.slipWrongSpec.pre enc Tryz.prog Tryz.f14 [] false w args ∧ laidMetH Tryz.prog Rows.slipWrongRow.laid w) ∧ sizedMet enc Tryz.prog Tryz.f14 (OpenSpec.ofChange Rows.slipWrongSpec) false w args)
      (Rows.slipWrongSpec.post enc Tryz.prog Tryz.f14 false true false false) := by
  refine returnsInHanded_of_change_and (C := Tryz.checked) (X := fun w _ => laidMetH Tryz.prog Rows.slipWrongRow.laid w) (fun _ _ _ hh h => h.of_heap hh) slipWrong_own started (by kernel_rfl) Tryz.func14
    (ChangeSpec.witness_shaped (enc := enc) (C := Tryz.checked) (os := os) (X := fun w _ => laidMetH Tryz.prog Rows.slipWrongRow.laid w) false (World.laidAll Tryz.prog os Rows.slipWrongRow.laid) #[.agg #[.slice none 0 0], .agg #[.int .i64 0, .int .u8 0], .agg #[.int .i64 0, .int .i64 0, .int .i64 0, .string ⟨#[]⟩, .string ⟨#[]⟩, .string ⟨#[]⟩]] 8 (World.laidAll_os _ _ _)
      (slipWrong_shape os) (by kernel_rfl) (by kernel_rfl) (by kernel_rfl) (slipWrong_met os)) ?_
  intro W base args ds gs before hval hW _ _ hX _
  exact law_contract (C := Cx eA) (N := 10) rfl (nogo eA) (mixed eA) extOKA (by kernel_rfl) rfl slipWrong_spec rfl (by kernel_rfl) slipWrong_law hval hW (slipWrong_tab hX)
theorem slipWrong_c1 : (Rows.slipWrongRow.inPlace == Tryz.prog.inPlace 14) = true := by kernel_rfl
theorem slipWrong_c2 : (Rows.slipWrongRow.unfollowed == Tryz.prog.unfollowed 14) = true := by kernel_rfl
theorem slipWrong_c3 : (Rows.slipWrongRow.recurses == Tryz.prog.recurses 14) = true := by kernel_rfl
theorem slipWrong_c4 : (Rows.slipWrongRow.named == Tryz.prog.varsNamed 14) = true := by kernel_rfl
theorem slipWrong_c5 : laidOutB Tryz.prog = true := by kernel_rfl
theorem slipWrong_c6 : Tryz.prog.stopsHeard = true := by kernel_rfl
theorem slipWrong_c7 : Tryz.prog.mayEnter = true := by kernel_rfl
theorem slipWrong_c8 : (Rows.slipWrongRow.plainKeys == Tryz.prog.plainKeys) = true := by kernel_rfl
theorem slipWrong_closed : joinedFacts Tryz.prog 14 Tryz.f14 Rows.slipWrongSpec Rows.slipWrongRow = true := by
  unfold joinedFacts
  exact (Bool.and_eq_true_iff.2 ⟨(Bool.and_eq_true_iff.2 ⟨(Bool.and_eq_true_iff.2 ⟨(Bool.and_eq_true_iff.2 ⟨(Bool.and_eq_true_iff.2 ⟨(Bool.and_eq_true_iff.2 ⟨(Bool.and_eq_true_iff.2 ⟨(Bool.and_eq_true_iff.2 ⟨(Bool.and_eq_true_iff.2 ⟨(Bool.and_eq_true_iff.2 ⟨(Bool.and_eq_true_iff.2 ⟨(Bool.and_eq_true_iff.2 ⟨(Bool.and_eq_true_iff.2 ⟨(Bool.and_eq_true_iff.2 ⟨(Bool.and_eq_true_iff.2 ⟨(Bool.and_eq_true_iff.2 ⟨(Bool.and_eq_true_iff.2 ⟨(Bool.and_eq_true_iff.2 ⟨(Bool.and_eq_true_iff.2 ⟨(Bool.and_eq_true_iff.2 ⟨(Bool.and_eq_true_iff.2 ⟨(Bool.and_eq_true_iff.2 ⟨(Bool.and_eq_true_iff.2 ⟨(Bool.and_eq_true_iff.2 ⟨(Bool.and_eq_true_iff.2 ⟨(Bool.and_eq_true_iff.2 ⟨(Bool.and_eq_true_iff.2 ⟨(Bool.and_eq_true_iff.2 ⟨(Bool.and_eq_true_iff.2 ⟨(Bool.and_eq_true_iff.2 ⟨(Bool.and_eq_true_iff.2 ⟨(by kernel_rfl), slipWrong_c5⟩), by kernel_rfl⟩), by kernel_rfl⟩), by kernel_rfl⟩), by kernel_rfl⟩), by kernel_rfl⟩), by kernel_rfl⟩), by kernel_rfl⟩), slipWrong_c1⟩), slipWrong_c2⟩), slipWrong_c3⟩), slipWrong_c4⟩), by kernel_rfl⟩), by kernel_rfl⟩), by kernel_rfl⟩), by kernel_rfl⟩), by kernel_rfl⟩), by kernel_rfl⟩), by kernel_rfl⟩), by kernel_rfl⟩), by kernel_rfl⟩), slipWrong_c8⟩), by kernel_rfl⟩), slipWrong_c6⟩), slipWrong_c7⟩), by kernel_rfl⟩), by kernel_rfl⟩), by kernel_rfl⟩), by kernel_rfl⟩), by kernel_rfl⟩), by kernel_rfl⟩)
theorem slipWrong_c9 : Tryz.prog.funcNamed "postil/postillaw03.SlipWrong" = some 14 := by kernel_rfl
theorem slipWrong_c10 : Tryz.f14.isInstance Tryz.prog Rows.slipWrongRow.origin Rows.slipWrongRow.targs := of_decide_eq_true (by kernel_rfl)
theorem slipWrong_c11 : Tryz.f14.isWrapper Tryz.prog Rows.slipWrongRow.wrapper Rows.slipWrongRow.mainSum := by unfold Func.isWrapper; first | (rw [if_pos (by decide +kernel)]; kernel_rfl) | (rw [if_neg (by decide +kernel)]; exact ⟨rfl, rfl⟩)
theorem slipWrong_c12 : Rows.slipWrongRow.wfByText (OpenSpec.ofChange Rows.slipWrongSpec) = true := by kernel_rfl
theorem slipWrong_c13 : Tryz.prog.mainIs = some ((true, "cdb0c94b42050c44fe1623a4c45843700c837e98d62dd29dbc15ecf1b30f6525").1, (true, "cdb0c94b42050c44fe1623a4c45843700c837e98d62dd29dbc15ecf1b30f6525").2.toList) := by kernel_rfl
theorem slipWrong_c14 : false = Tryz.prog.looks [] := by kernel_rfl
theorem slipWrong_c15 : false = Rows.slipWrongRow.goesBy Tryz.prog := by kernel_rfl
theorem slipWrong_over : Rows.SlipWrongSaid :=
  OpenClaim.holds_of_wide 14 Tryz.f14 rfl rfl rfl rfl rfl rfl rfl ⟨rfl, rfl, rfl, rfl, rfl⟩ rfl rfl rfl rfl rfl slipWrong_c9 Tryz.func14 slipWrong_closed
    slipWrong_c10 slipWrong_c11
    (fun os started H enc _ => slipWrong_lifted os started H enc)
theorem slipWrong_holds : Rows.SlipWrongCardSaid :=
  Claim7.holds_tied_plain_at .later [] [.data, .listed, .data, .pinned] true (true, "cdb0c94b42050c44fe1623a4c45843700c837e98d62dd29dbc15ecf1b30f6525") false
    slipWrong_over (fun _ h => by cases h) slipWrong_c12 (fun _ h => by cases h) slipWrong_row_tie rfl ⟨rfl, rfl⟩ slipWrong_c13 rfl
    (fun f fn hf hfn => by
      obtain rfl : f = 14 := Option.some.inj (slipWrong_c9.symm.trans hf) |>.symm
      obtain rfl : fn = Tryz.f14 := (Option.some.inj (Tryz.func14.symm.trans hfn)).symm
      exact ⟨slipWrong_c14, fun j t ht => by
        have hp : Tryz.f14.params = #[24, 26, 30] := by kernel_rfl
        rw [hp] at ht
        have hm : t ∈ [24, 26, 30] := by
          have := Array.mem_of_getElem? ht
          simpa using this
        simp only [List.mem_cons, List.mem_nil_iff, or_false] at hm
        rcases hm with rfl | rfl | rfl
        · exact (by kernel_rfl : Tryz.prog.wantsStandIn 24 = false)
        · exact (by kernel_rfl : Tryz.prog.wantsStandIn 26 = false)
        · exact (by kernel_rfl : Tryz.prog.wantsStandIn 30 = false)⟩)
    slipWrong_c15
end Go.Proofs.YtpfbekhkakfoiaaGreatDoor
