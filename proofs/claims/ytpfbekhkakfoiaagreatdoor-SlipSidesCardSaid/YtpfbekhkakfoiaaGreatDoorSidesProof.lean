/- SlipSides: for every text, cut and number the law returns true: the side changes no length; of the three sides the left one has no more letters after the word than any, the right one no more before it, and the even one differs no more in numbers of words. No condition. -/
import Derived.Test.YtpfbekhkakfoiaaGreatDoorRows
import Derived.Test.YtpfbekhkakfoiaaGreatDoorPk04
import Derived.Test.YtpfbekhkakfoiaaGreatDoorCards
import Derived.Test.YtpfbekhkakfoiaaGreatDoorTie
import Derived.WalkKit
import Derived.ProofKit
import Derived.Lay
import Derived.SevenTiedAt
namespace Go.Proofs.YtpfbekhkakfoiaaGreatDoor
open Go.ChangeShapes Go.WideShapes Go.ChangeAt Go.RowKit Go.Ev
set_option maxRecDepth 100000
theorem slipSides_own : ownKnob Tryz.prog.godebug = none := by kernel_rfl
theorem slipSides_spec {HH : Type} : ∀ ds : List (DataW HH), ds.length = Tryz.f8.params.size → Rows.slipSidesSpec.fn HH ds = { results := [.lit (.bool true)], args := ds } := by
  intro ds hl
  have hp : Tryz.f8.params.size = 3 := by kernel_rfl
  rw [hp] at hl
  match ds, hl with
  | [a, b, c], _ => rfl
theorem slipSides_law (xs : List AV) (h : ArgsOf Tryz.prog 10 Tryz.f8.params.toList xs) : ∃ H', Go.Ev.lim (Cx eA) (.call 8 xs { objs := [], lock := 0 }) = some (.ret (.v (.bool true)) H') := by
  have hp : Tryz.f8.params.toList = [24, 26, 76] := by kernel_rfl
  rw [hp] at h
  cases h with
  | cons h1 h =>
    cases h with
    | cons h2 h =>
      cases h with
      | cons h3 h =>
        cases h
        obtain ⟨t, ⟨ch, rfl, ys, hch, hall⟩, ht⟩ := text_of (N := 4) h1
        obtain ⟨w, sd, hs1, hs2, rfl⟩ := cut_of (N := 7) h2
        obtain ⟨m1, hm1, rfl⟩ := u16_of (N := 9) h3
        exact (ansS8 t ht ch ys hch hall w sd hs1 hs2 m1 hm1).lim
theorem slipSides_shape (os : Os) : ((World.laidAll Tryz.prog os Rows.slipSidesRow.laid).forCall (fun _ _ => 0) ⟨#[], #[.agg #[.slice none 0 0], .agg #[.int .i64 0, .int .u8 0], .int .u16 0], []⟩).Shaped Tryz.prog := World.shaped_of_ZipB (by kernel_rfl) (by kernel_rfl)
theorem slipSides_met (os : Os) : laidMetH Tryz.prog Rows.slipSidesRow.laid ((World.laidAll Tryz.prog os Rows.slipSidesRow.laid).forCall (fun _ _ => 0) ⟨#[], #[.agg #[.slice none 0 0], .agg #[.int .i64 0, .int .u8 0], .int .u16 0], []⟩).memory := by
  rw [MakeChecks.laidMetH_plain _ _ _ (by kernel_rfl)]; exact laidMet_laidAll _ (by kernel_rfl) (by kernel_rfl)
theorem slipSides_tab {W : World} (h : laidMetH Tryz.prog Rows.slipSidesRow.laid W) : laidOk (allZ W) := by
  rw [MakeChecks.laidMetH_plain _ _ _ (by kernel_rfl)] at h
  intro p hp
  obtain rfl := List.mem_singleton.1 hp
  exact heap_of_tab (P := Tryz.prog) (name := "strings.asciiSpace") (by kernel_rfl) (tabIs_of_vars (P := Tryz.prog) (g := 0) (t := 187) (e := 5) (n := 256) (by kernel_rfl) (by kernel_rfl) (by kernel_rfl) (by kernel_rfl) (by kernel_rfl) (by kernel_rfl) (l := Rows.slipSidesRow.laid) (List.mem_of_getElem? (i := 2) (by kernel_rfl)) h.choose_spec.1)
theorem slipSides_lifted (os : Os) (started : os.Started) (H : Type) (enc : TypeId × Value → H) :
    ReturnsInHanded {} Tryz.checked os 8 .any (fun w args => (Rows.slipSidesSpec.pre enc Tryz.prog Tryz.f8 [] false w args ∧ laidMetH Tryz.prog Rows.slipSidesRow.laid w) ∧ sizedMet enc Tryz.prog Tryz.f8 (OpenSpec.ofChange Rows.slipSidesSpec) false w args)
      (Rows.slipSidesSpec.post enc Tryz.prog Tryz.f8 false true false false) := by
  refine returnsInHanded_of_change_and (C := Tryz.checked) (X := fun w _ => laidMetH Tryz.prog Rows.slipSidesRow.laid w) (fun _ _ _ hh h => h.of_heap hh) slipSides_own started (by kernel_rfl) Tryz.func8
    (ChangeSpec.witness_shaped (enc := enc) (C := Tryz.checked) (os := os) (X := fun w _ => laidMetH Tryz.prog Rows.slipSidesRow.laid w) false (World.laidAll Tryz.prog os Rows.slipSidesRow.laid) #[.agg #[.slice none 0 0], .agg #[.int .i64 0, .int .u8 0], .int .u16 0] 8 (World.laidAll_os _ _ _)
      (slipSides_shape os) (by kernel_rfl) (by kernel_rfl) (by kernel_rfl) (slipSides_met os)) ?_
  intro W base args ds gs before hval hW _ _ hX _
  exact law_contract (C := Cx eA) (N := 10) rfl (nogo eA) (mixed eA) extOKA (by kernel_rfl) rfl slipSides_spec rfl (by kernel_rfl) slipSides_law hval hW (slipSides_tab hX)
theorem slipSides_c1 : (Rows.slipSidesRow.inPlace == Tryz.prog.inPlace 8) = true := by kernel_rfl
theorem slipSides_c2 : (Rows.slipSidesRow.unfollowed == Tryz.prog.unfollowed 8) = true := by kernel_rfl
theorem slipSides_c3 : (Rows.slipSidesRow.recurses == Tryz.prog.recurses 8) = true := by kernel_rfl
theorem slipSides_c4 : (Rows.slipSidesRow.named == Tryz.prog.varsNamed 8) = true := by kernel_rfl
theorem slipSides_c5 : laidOutB Tryz.prog = true := by kernel_rfl
theorem slipSides_c6 : Tryz.prog.stopsHeard = true := by kernel_rfl
theorem slipSides_c7 : Tryz.prog.mayEnter = true := by kernel_rfl
theorem slipSides_c8 : (Rows.slipSidesRow.plainKeys == Tryz.prog.plainKeys) = true := by kernel_rfl
theorem slipSides_closed : joinedFacts Tryz.prog 8 Tryz.f8 Rows.slipSidesSpec Rows.slipSidesRow = true := by
  unfold joinedFacts
  exact (Bool.and_eq_true_iff.2 ⟨(Bool.and_eq_true_iff.2 ⟨(Bool.and_eq_true_iff.2 ⟨(Bool.and_eq_true_iff.2 ⟨(Bool.and_eq_true_iff.2 ⟨(Bool.and_eq_true_iff.2 ⟨(Bool.and_eq_true_iff.2 ⟨(Bool.and_eq_true_iff.2 ⟨(Bool.and_eq_true_iff.2 ⟨(Bool.and_eq_true_iff.2 ⟨(Bool.and_eq_true_iff.2 ⟨(Bool.and_eq_true_iff.2 ⟨(Bool.and_eq_true_iff.2 ⟨(Bool.and_eq_true_iff.2 ⟨(Bool.and_eq_true_iff.2 ⟨(Bool.and_eq_true_iff.2 ⟨(Bool.and_eq_true_iff.2 ⟨(Bool.and_eq_true_iff.2 ⟨(Bool.and_eq_true_iff.2 ⟨(Bool.and_eq_true_iff.2 ⟨(Bool.and_eq_true_iff.2 ⟨(Bool.and_eq_true_iff.2 ⟨(Bool.and_eq_true_iff.2 ⟨(Bool.and_eq_true_iff.2 ⟨(Bool.and_eq_true_iff.2 ⟨(Bool.and_eq_true_iff.2 ⟨(Bool.and_eq_true_iff.2 ⟨(Bool.and_eq_true_iff.2 ⟨(Bool.and_eq_true_iff.2 ⟨(Bool.and_eq_true_iff.2 ⟨(Bool.and_eq_true_iff.2 ⟨(by kernel_rfl), slipSides_c5⟩), by kernel_rfl⟩), by kernel_rfl⟩), by kernel_rfl⟩), by kernel_rfl⟩), by kernel_rfl⟩), by kernel_rfl⟩), by kernel_rfl⟩), slipSides_c1⟩), slipSides_c2⟩), slipSides_c3⟩), slipSides_c4⟩), by kernel_rfl⟩), by kernel_rfl⟩), by kernel_rfl⟩), by kernel_rfl⟩), by kernel_rfl⟩), by kernel_rfl⟩), by kernel_rfl⟩), by kernel_rfl⟩), by kernel_rfl⟩), slipSides_c8⟩), by kernel_rfl⟩), slipSides_c6⟩), slipSides_c7⟩), by kernel_rfl⟩), by kernel_rfl⟩), by kernel_rfl⟩), by kernel_rfl⟩), by kernel_rfl⟩), by kernel_rfl⟩)
theorem slipSides_c9 : Tryz.prog.funcNamed "postil/postillaw03.SlipSides" = some 8 := by kernel_rfl
theorem slipSides_c10 : Tryz.f8.isInstance Tryz.prog Rows.slipSidesRow.origin Rows.slipSidesRow.targs := of_decide_eq_true (by kernel_rfl)
theorem slipSides_c11 : Tryz.f8.isWrapper Tryz.prog Rows.slipSidesRow.wrapper Rows.slipSidesRow.mainSum := by unfold Func.isWrapper; first | (rw [if_pos (by decide +kernel)]; kernel_rfl) | (rw [if_neg (by decide +kernel)]; exact ⟨rfl, rfl⟩)
theorem slipSides_c12 : Rows.slipSidesRow.wfByText (OpenSpec.ofChange Rows.slipSidesSpec) = true := by kernel_rfl
theorem slipSides_c13 : Tryz.prog.mainIs = some ((true, "cdb0c94b42050c44fe1623a4c45843700c837e98d62dd29dbc15ecf1b30f6525").1, (true, "cdb0c94b42050c44fe1623a4c45843700c837e98d62dd29dbc15ecf1b30f6525").2.toList) := by kernel_rfl
theorem slipSides_c14 : false = Tryz.prog.looks [] := by kernel_rfl
theorem slipSides_c15 : false = Rows.slipSidesRow.goesBy Tryz.prog := by kernel_rfl
theorem slipSides_over : Rows.SlipSidesSaid :=
  OpenClaim.holds_of_wide 8 Tryz.f8 rfl rfl rfl rfl rfl rfl rfl ⟨rfl, rfl, rfl, rfl, rfl⟩ rfl rfl rfl rfl rfl slipSides_c9 Tryz.func8 slipSides_closed
    slipSides_c10 slipSides_c11
    (fun os started H enc _ => slipSides_lifted os started H enc)
theorem slipSides_holds : Rows.SlipSidesCardSaid :=
  Claim7.holds_tied_plain_at .later [] [.data, .listed, .data, .pinned] true (true, "cdb0c94b42050c44fe1623a4c45843700c837e98d62dd29dbc15ecf1b30f6525") false
    slipSides_over (fun _ h => by cases h) slipSides_c12 (fun _ h => by cases h) slipSides_row_tie rfl ⟨rfl, rfl⟩ slipSides_c13 rfl
    (fun f fn hf hfn => by
      obtain rfl : f = 8 := Option.some.inj (slipSides_c9.symm.trans hf) |>.symm
      obtain rfl : fn = Tryz.f8 := (Option.some.inj (Tryz.func8.symm.trans hfn)).symm
      exact ⟨slipSides_c14, fun j t ht => by
        have hp : Tryz.f8.params = #[24, 26, 76] := by kernel_rfl
        rw [hp] at ht
        have hm : t ∈ [24, 26, 76] := by
          have := Array.mem_of_getElem? ht
          simpa using this
        simp only [List.mem_cons, List.mem_nil_iff, or_false] at hm
        rcases hm with rfl | rfl | rfl
        · exact (by kernel_rfl : Tryz.prog.wantsStandIn 24 = false)
        · exact (by kernel_rfl : Tryz.prog.wantsStandIn 26 = false)
        · exact (by kernel_rfl : Tryz.prog.wantsStandIn 76 = false)⟩)
    slipSides_c15
end Go.Proofs.YtpfbekhkakfoiaaGreatDoor
