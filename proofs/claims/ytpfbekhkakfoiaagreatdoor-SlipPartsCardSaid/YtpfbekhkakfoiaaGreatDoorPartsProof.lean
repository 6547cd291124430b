/- SlipParts: for every text, cut and three numbers the law returns true: the slips of two parts, one behind the other, are those of both together; those of a whole text are all. No condition. -/
import Derived.Test.YtpfbekhkakfoiaaGreatDoorRows
import Derived.Test.YtpfbekhkakfoiaaGreatDoorPk04
import Derived.Test.YtpfbekhkakfoiaaGreatDoorCards
import Derived.Test.YtpfbekhkakfoiaaGreatDoorTie
import Derived.WalkKit
import Derived.ProofKit
import Derived.Lay
import Derived.SevenTiedAt
namespace Go.Proofs.YtpfbekhkakfoiaaGreatDoor
open Go.ChangeShapes Go.WideShapes Go.ChangeAt Go.RowKit Go.Ev
set_option maxRecDepth 100000
theorem slipParts_own : ownKnob Tryz.prog.godebug = none := by kernel_rfl
theorem slipParts_spec {HH : Type} : ∀ ds : List (DataW HH), ds.length = Tryz.f10.params.size → Rows.slipPartsSpec.fn HH ds = { results := [.lit (.bool true)], args := ds } := by
  intro ds hl
  have hp : Tryz.f10.params.size = 5 := by kernel_rfl
  rw [hp] at hl
  match ds, hl with
  | [a, b, c, d, e], _ => rfl
theorem slipParts_law (xs : List AV) (h : ArgsOf Tryz.prog 10 Tryz.f10.params.toList xs) : ∃ H', Go.Ev.lim (Cx eA) (.call 10 xs { objs := [], lock := 0 }) = some (.ret (.v (.bool true)) H') := by
  have hp : Tryz.f10.params.toList = [24, 26, 76, 76, 76] := by kernel_rfl
  rw [hp] at h
  cases h with
  | cons h1 h =>
    cases h with
    | cons h2 h =>
      cases h with
      | cons h3 h =>
        cases h with
        | cons h4 h =>
          cases h with
          | cons h5 h =>
            cases h
            obtain ⟨t, ⟨ch, rfl, ys, hch, hall⟩, ht⟩ := text_of (N := 4) h1
            obtain ⟨w, sd, hs1, hs2, rfl⟩ := cut_of (N := 7) h2
            obtain ⟨m1, hm1, rfl⟩ := u16_of (N := 9) h3
            obtain ⟨m2, hm2, rfl⟩ := u16_of (N := 9) h4
            obtain ⟨m3, hm3, rfl⟩ := u16_of (N := 9) h5
            exact (ansS10 t ht ch ys hch hall w sd hs1 hs2 m1 hm1 m2 hm2 m3 hm3).lim
theorem slipParts_shape (os : Os) : ((World.laidAll Tryz.prog os Rows.slipPartsRow.laid).forCall (fun _ _ => 0) ⟨#[], #[.agg #[.slice none 0 0], .agg #[.int .i64 0, .int .u8 0], .int .u16 0, .int .u16 0, .int .u16 0], []⟩).Shaped Tryz.prog := World.shaped_of_ZipB (by kernel_rfl) (by kernel_rfl)
theorem slipParts_met (os : Os) : laidMetH Tryz.prog Rows.slipPartsRow.laid ((World.laidAll Tryz.prog os Rows.slipPartsRow.laid).forCall (fun _ _ => 0) ⟨#[], #[.agg #[.slice none 0 0], .agg #[.int .i64 0, .int .u8 0], .int .u16 0, .int .u16 0, .int .u16 0], []⟩).memory := by
  rw [MakeChecks.laidMetH_plain _ _ _ (by kernel_rfl)]; exact laidMet_laidAll _ (by kernel_rfl) (by kernel_rfl)
theorem slipParts_tab {W : World} (h : laidMetH Tryz.prog Rows.slipPartsRow.laid W) : laidOk (allZ W) := by
  rw [MakeChecks.laidMetH_plain _ _ _ (by kernel_rfl)] at h
  intro p hp
  obtain rfl := List.mem_singleton.1 hp
  exact heap_of_tab (P := Tryz.prog) (name := "strings.asciiSpace") (by kernel_rfl) (tabIs_of_vars (P := Tryz.prog) (g := 0) (t := 187) (e := 5) (n := 256) (by kernel_rfl) (by kernel_rfl) (by kernel_rfl) (by kernel_rfl) (by kernel_rfl) (by kernel_rfl) (l := Rows.slipPartsRow.laid) (List.mem_of_getElem? (i := 2) (by kernel_rfl)) h.choose_spec.1)
theorem slipParts_lifted (os : Os) (started : os.Started) (H : Type) (enc : TypeId × Value → H) :
    ReturnsInHanded {} Tryz.checked os 10 .any (fun w args => (Rows.slipPartsSpec.pre enc Tryz.prog Tryz.f10 [] false w args ∧ laidMetH Tryz.prog Rows.slipPartsRow.laid w) ∧ sizedMet enc Tryz.prog Tryz.f10 (OpenSpec.ofChange Rows.slipPartsSpec) false w args)
      (Rows.slipPartsSpec.post enc Tryz.prog Tryz.f10 false true false false) := by
  refine returnsInHanded_of_change_and (C := Tryz.checked) (X := fun w _ => laidMetH Tryz.prog Rows.slipPartsRow.laid w) (fun _ _ _ hh h => h.of_heap hh) slipParts_own started (by kernel_rfl) Tryz.func10
    (ChangeSpec.witness_shaped (enc := enc) (C := Tryz.checked) (os := os) (X := fun w _ => laidMetH Tryz.prog Rows.slipPartsRow.laid w) false (World.laidAll Tryz.prog os Rows.slipPartsRow.laid) #[.agg #[.slice none 0 0], .agg #[.int .i64 0, .int .u8 0], .int .u16 0, .int .u16 0, .int .u16 0] 8 (World.laidAll_os _ _ _)
      (slipParts_shape os) (by kernel_rfl) (by kernel_rfl) (by kernel_rfl) (slipParts_met os)) ?_
  intro W base args ds gs before hval hW _ _ hX _
  exact law_contract (C := Cx eA) (N := 10) rfl (nogo eA) (mixed eA) extOKA (by kernel_rfl) rfl slipParts_spec rfl (by kernel_rfl) slipParts_law hval hW (slipParts_tab hX)
theorem slipParts_c1 : (Rows.slipPartsRow.inPlace == Tryz.prog.inPlace 10) = true := by kernel_rfl
theorem slipParts_c2 : (Rows.slipPartsRow.unfollowed == Tryz.prog.unfollowed 10) = true := by kernel_rfl
theorem slipParts_c3 : (Rows.slipPartsRow.recurses == Tryz.prog.recurses 10) = true := by kernel_rfl
theorem slipParts_c4 : (Rows.slipPartsRow.named == Tryz.prog.varsNamed 10) = true := by kernel_rfl
theorem slipParts_c5 : laidOutB Tryz.prog = true := by kernel_rfl
theorem slipParts_c6 : Tryz.prog.stopsHeard = true := by kernel_rfl
theorem slipParts_c7 : Tryz.prog.mayEnter = true := by kernel_rfl
theorem slipParts_c8 : (Rows.slipPartsRow.plainKeys == Tryz.prog.plainKeys) = true := by kernel_rfl
theorem slipParts_closed : joinedFacts Tryz.prog 10 Tryz.f10 Rows.slipPartsSpec Rows.slipPartsRow = true := by
  unfold joinedFacts
  exact (Bool.and_eq_true_iff.2 ⟨(Bool.and_eq_true_iff.2 ⟨(Bool.and_eq_true_iff.2 ⟨(Bool.and_eq_true_iff.2 ⟨(Bool.and_eq_true_iff.2 ⟨(Bool.and_eq_true_iff.2 ⟨(Bool.and_eq_true_iff.2 ⟨(Bool.and_eq_true_iff.2 ⟨(Bool.and_eq_true_iff.2 ⟨(Bool.and_eq_true_iff.2 ⟨(Bool.and_eq_true_iff.2 ⟨(Bool.and_eq_true_iff.2 ⟨(Bool.and_eq_true_iff.2 ⟨(Bool.and_eq_true_iff.2 ⟨(Bool.and_eq_true_iff.2 ⟨(Bool.and_eq_true_iff.2 ⟨(Bool.and_eq_true_iff.2 ⟨(Bool.and_eq_true_iff.2 ⟨(Bool.and_eq_true_iff.2 ⟨(Bool.and_eq_true_iff.2 ⟨(Bool.and_eq_true_iff.2 ⟨(Bool.and_eq_true_iff.2 ⟨(Bool.and_eq_true_iff.2 ⟨(Bool.and_eq_true_iff.2 ⟨(Bool.and_eq_true_iff.2 ⟨(Bool.and_eq_true_iff.2 ⟨(Bool.and_eq_true_iff.2 ⟨(Bool.and_eq_true_iff.2 ⟨(Bool.and_eq_true_iff.2 ⟨(Bool.and_eq_true_iff.2 ⟨(Bool.and_eq_true_iff.2 ⟨(by kernel_rfl), slipParts_c5⟩), by kernel_rfl⟩), by kernel_rfl⟩), by kernel_rfl⟩), by kernel_rfl⟩), by kernel_rfl⟩), by kernel_rfl⟩), by kernel_rfl⟩), slipParts_c1⟩), slipParts_c2⟩), slipParts_c3⟩), slipParts_c4⟩), by kernel_rfl⟩), by kernel_rfl⟩), by kernel_rfl⟩), by kernel_rfl⟩), by kernel_rfl⟩), by kernel_rfl⟩), by kernel_rfl⟩), by kernel_rfl⟩), by kernel_rfl⟩), slipParts_c8⟩), by kernel_rfl⟩), slipParts_c6⟩), slipParts_c7⟩), by kernel_rfl⟩), by kernel_rfl⟩), by kernel_rfl⟩), by kernel_rfl⟩), by kernel_rfl⟩), by kernel_rfl⟩)
theorem slipParts_c9 : Tryz.prog.funcNamed "postil/postillaw03.SlipParts" = some 10 := by kernel_rfl
theorem slipParts_c10 : Tryz.f10.isInstance Tryz.prog Rows.slipPartsRow.origin Rows.slipPartsRow.targs := of_decide_eq_true (by kernel_rfl)
theorem slipParts_c11 : Tryz.f10.isWrapper Tryz.prog Rows.slipPartsRow.wrapper Rows.slipPartsRow.mainSum := by unfold Func.isWrapper; first | (rw [if_pos (by decide +kernel)]; kernel_rfl) | (rw [if_neg (by decide +kernel)]; exact ⟨rfl, rfl⟩)
theorem slipParts_c12 : Rows.slipPartsRow.wfByText (OpenSpec.ofChange Rows.slipPartsSpec) = true := by kernel_rfl
theorem slipParts_c13 : Tryz.prog.mainIs = some ((true, "cdb0c94b42050c44fe1623a4c45843700c837e98d62dd29dbc15ecf1b30f6525").1, (true, "cdb0c94b42050c44fe1623a4c45843700c837e98d62dd29dbc15ecf1b30f6525").2.toList) := by kernel_rfl
theorem slipParts_c14 : false = Tryz.prog.looks [] := by kernel_rfl
theorem slipParts_c15 : false = Rows.slipPartsRow.goesBy Tryz.prog := by kernel_rfl
theorem slipParts_over : Rows.SlipPartsSaid :=
  OpenClaim.holds_of_wide 10 Tryz.f10 rfl rfl rfl rfl rfl rfl rfl ⟨rfl, rfl, rfl, rfl, rfl⟩ rfl rfl rfl rfl rfl slipParts_c9 Tryz.func10 slipParts_closed
    slipParts_c10 slipParts_c11
    (fun os started H enc _ => slipParts_lifted os started H enc)
theorem slipParts_holds : Rows.SlipPartsCardSaid :=
  Claim7.holds_tied_plain_at .later [] [.data, .listed, .data, .pinned] true (true, "cdb0c94b42050c44fe1623a4c45843700c837e98d62dd29dbc15ecf1b30f6525") false
    slipParts_over (fun _ h => by cases h) slipParts_c12 (fun _ h => by cases h) slipParts_row_tie rfl ⟨rfl, rfl⟩ slipParts_c13 rfl
    (fun f fn hf hfn => by
      obtain rfl : f = 10 := Option.some.inj (slipParts_c9.symm.trans hf) |>.symm
      obtain rfl : fn = Tryz.f10 := (Option.some.inj (Tryz.func10.symm.trans hfn)).symm
      exact ⟨slipParts_c14, fun j t ht => by
        have hp : Tryz.f10.params = #[24, 26, 76, 76, 76] := by kernel_rfl
        rw [hp] at ht
        have hm : t ∈ [24, 26, 76, 76, 76] := by
          have := Array.mem_of_getElem? ht
          simpa using this
        simp only [List.mem_cons, List.mem_nil_iff, or_false] at hm
        rcases hm with rfl | rfl | rfl | rfl | rfl
        · exact (by kernel_rfl : Tryz.prog.wantsStandIn 24 = false)
        · exact (by kernel_rfl : Tryz.prog.wantsStandIn 26 = false)
        · exact (by kernel_rfl : Tryz.prog.wantsStandIn 76 = false)
        · exact (by kernel_rfl : Tryz.prog.wantsStandIn 76 = false)
        · exact (by kernel_rfl : Tryz.prog.wantsStandIn 76 = false)⟩)
    slipParts_c15
end Go.Proofs.YtpfbekhkakfoiaaGreatDoor
