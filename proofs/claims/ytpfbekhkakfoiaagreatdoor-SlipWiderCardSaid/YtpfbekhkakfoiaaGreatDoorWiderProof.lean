/- SlipWider: for every text, cut, number and how much wider, the law returns true: a wider cut has no shorter context; if it is as long it is the same one; a word more on either side does not fit, or there is none. No condition. -/
import Derived.Test.YtpfbekhkakfoiaaGreatDoorRows
import Derived.Test.YtpfbekhkakfoiaaGreatDoorPk04
import Derived.Test.YtpfbekhkakfoiaaGreatDoorCards
import Derived.Test.YtpfbekhkakfoiaaGreatDoorTie
import Derived.WalkKit
import Derived.ProofKit
import Derived.Lay
import Derived.SevenTiedAt
namespace Go.Proofs.YtpfbekhkakfoiaaGreatDoor
open Go.ChangeShapes Go.WideShapes Go.ChangeAt Go.RowKit Go.Ev
set_option maxRecDepth 100000
theorem slipWider_own : ownKnob Tryz.prog.godebug = none := by kernel_rfl
theorem slipWider_spec {HH : Type} : ∀ ds : List (DataW HH), ds.length = Tryz.f7.params.size → Rows.slipWiderSpec.fn HH ds = { results := [.lit (.bool true)], args := ds } := by
  intro ds hl
  have hp : Tryz.f7.params.size = 4 := by kernel_rfl
  rw [hp] at hl
  match ds, hl with
  | [a, b, c, d], _ => rfl
theorem slipWider_law (xs : List AV) (h : ArgsOf Tryz.prog 10 Tryz.f7.params.toList xs) : ∃ H', Go.Ev.lim (Cx eA) (.call 7 xs { objs := [], lock := 0 }) = some (.ret (.v (.bool true)) H') := by
  have hp : Tryz.f7.params.toList = [24, 26, 76, 5] := by kernel_rfl
  rw [hp] at h
  cases h with
  | cons h1 h =>
    cases h with
    | cons h2 h =>
      cases h with
      | cons h3 h =>
        cases h with
        | cons h4 h =>
          cases h
          obtain ⟨t, ⟨ch, rfl, ys, hch, hall⟩, ht⟩ := text_of (N := 4) h1
          obtain ⟨w, sd, hs1, hs2, rfl⟩ := cut_of (N := 7) h2
          obtain ⟨m1, hm1, rfl⟩ := u16_of (N := 9) h3
          obtain ⟨m2, hm2, rfl⟩ := u8_of (N := 9) h4
          exact (ansS7 t ht ch ys hch hall w sd hs1 hs2 m1 hm1 m2 hm2).lim
theorem slipWider_shape (os : Os) : ((World.laidAll Tryz.prog os Rows.slipWiderRow.laid).forCall (fun _ _ => 0) ⟨#[], #[.agg #[.slice none 0 0], .agg #[.int .i64 0, .int .u8 0], .int .u16 0, .int .u8 0], []⟩).Shaped Tryz.prog := World.shaped_of_ZipB (by kernel_rfl) (by kernel_rfl)
theorem slipWider_met (os : Os) : laidMetH Tryz.prog Rows.slipWiderRow.laid ((World.laidAll Tryz.prog os Rows.slipWiderRow.laid).forCall (fun _ _ => 0) ⟨#[], #[.agg #[.slice none 0 0], .agg #[.int .i64 0, .int .u8 0], .int .u16 0, .int .u8 0], []⟩).memory := by
  rw [MakeChecks.laidMetH_plain _ _ _ (by kernel_rfl)]; exact laidMet_laidAll _ (by kernel_rfl) (by kernel_rfl)
theorem slipWider_tab {W : World} (h : laidMetH Tryz.prog Rows.slipWiderRow.laid W) : laidOk (allZ W) := by
  rw [MakeChecks.laidMetH_plain _ _ _ (by kernel_rfl)] at h
  intro p hp
  obtain rfl := List.mem_singleton.1 hp
  exact heap_of_tab (P := Tryz.prog) (name := "strings.asciiSpace") (by kernel_rfl) (tabIs_of_vars (P := Tryz.prog) (g := 0) (t := 187) (e := 5) (n := 256) (by kernel_rfl) (by kernel_rfl) (by kernel_rfl) (by kernel_rfl) (by kernel_rfl) (by kernel_rfl) (l := Rows.slipWiderRow.laid) (List.mem_of_getElem? (i := 2) (by kernel_rfl)) h.choose_spec.1)
theorem slipWider_lifted (os : Os) (started : os.Started) (H : Type) (enc : TypeId × Value → H) :
    ReturnsInHanded {} Tryz.checked os 7 .any (fun w args => (Rows.slipWiderSpec.pre enc Tryz.prog Tryz.f7 [] false w args ∧ laidMetH Tryz.prog Rows.slipWiderRow.laid w) ∧ sizedMet enc Tryz.prog Tryz.f7 (OpenSpec.ofChange Rows.slipWiderSpec) false w args)
      (Rows.slipWiderSpec.post enc Tryz.prog Tryz.f7 false true false false) := by
  refine returnsInHanded_of_change_and (C := Tryz.checked) (X := fun w _ => laidMetH Tryz.prog Rows.slipWiderRow.laid w) (fun _ _ _ hh h => h.of_heap hh) slipWider_own started (by kernel_rfl) Tryz.func7
    (ChangeSpec.witness_shaped (enc := enc) (C := Tryz.checked) (os := os) (X := fun w _ => laidMetH Tryz.prog Rows.slipWiderRow.laid w) false (World.laidAll Tryz.prog os Rows.slipWiderRow.laid) #[.agg #[.slice none 0 0], .agg #[.int .i64 0, .int .u8 0], .int .u16 0, .int .u8 0] 8 (World.laidAll_os _ _ _)
      (slipWider_shape os) (by kernel_rfl) (by kernel_rfl) (by kernel_rfl) (slipWider_met os)) ?_
  intro W base args ds gs before hval hW _ _ hX _
  exact law_contract (C := Cx eA) (N := 10) rfl (nogo eA) (mixed eA) extOKA (by kernel_rfl) rfl slipWider_spec rfl (by kernel_rfl) slipWider_law hval hW (slipWider_tab hX)
theorem slipWider_c1 : (Rows.slipWiderRow.inPlace == Tryz.prog.inPlace 7) = true := by kernel_rfl
theorem slipWider_c2 : (Rows.slipWiderRow.unfollowed == Tryz.prog.unfollowed 7) = true := by kernel_rfl
theorem slipWider_c3 : (Rows.slipWiderRow.recurses == Tryz.prog.recurses 7) = true := by kernel_rfl
theorem slipWider_c4 : (Rows.slipWiderRow.named == Tryz.prog.varsNamed 7) = true := by kernel_rfl
theorem slipWider_c5 : laidOutB Tryz.prog = true := by kernel_rfl
theorem slipWider_c6 : Tryz.prog.stopsHeard = true := by kernel_rfl
theorem slipWider_c7 : Tryz.prog.mayEnter = true := by kernel_rfl
theorem slipWider_c8 : (Rows.slipWiderRow.plainKeys == Tryz.prog.plainKeys) = true := by kernel_rfl
theorem slipWider_closed : joinedFacts Tryz.prog 7 Tryz.f7 Rows.slipWiderSpec Rows.slipWiderRow = true := by
  unfold joinedFacts
  exact (Bool.and_eq_true_iff.2 ⟨(Bool.and_eq_true_iff.2 ⟨(Bool.and_eq_true_iff.2 ⟨(Bool.and_eq_true_iff.2 ⟨(Bool.and_eq_true_iff.2 ⟨(Bool.and_eq_true_iff.2 ⟨(Bool.and_eq_true_iff.2 ⟨(Bool.and_eq_true_iff.2 ⟨(Bool.and_eq_true_iff.2 ⟨(Bool.and_eq_true_iff.2 ⟨(Bool.and_eq_true_iff.2 ⟨(Bool.and_eq_true_iff.2 ⟨(Bool.and_eq_true_iff.2 ⟨(Bool.and_eq_true_iff.2 ⟨(Bool.and_eq_true_iff.2 ⟨(Bool.and_eq_true_iff.2 ⟨(Bool.and_eq_true_iff.2 ⟨(Bool.and_eq_true_iff.2 ⟨(Bool.and_eq_true_iff.2 ⟨(Bool.and_eq_true_iff.2 ⟨(Bool.and_eq_true_iff.2 ⟨(Bool.and_eq_true_iff.2 ⟨(Bool.and_eq_true_iff.2 ⟨(Bool.and_eq_true_iff.2 ⟨(Bool.and_eq_true_iff.2 ⟨(Bool.and_eq_true_iff.2 ⟨(Bool.and_eq_true_iff.2 ⟨(Bool.and_eq_true_iff.2 ⟨(Bool.and_eq_true_iff.2 ⟨(Bool.and_eq_true_iff.2 ⟨(Bool.and_eq_true_iff.2 ⟨(by kernel_rfl), slipWider_c5⟩), by kernel_rfl⟩), by kernel_rfl⟩), by kernel_rfl⟩), by kernel_rfl⟩), by kernel_rfl⟩), by kernel_rfl⟩), by kernel_rfl⟩), slipWider_c1⟩), slipWider_c2⟩), slipWider_c3⟩), slipWider_c4⟩), by kernel_rfl⟩), by kernel_rfl⟩), by kernel_rfl⟩), by kernel_rfl⟩), by kernel_rfl⟩), by kernel_rfl⟩), by kernel_rfl⟩), by kernel_rfl⟩), by kernel_rfl⟩), slipWider_c8⟩), by kernel_rfl⟩), slipWider_c6⟩), slipWider_c7⟩), by kernel_rfl⟩), by kernel_rfl⟩), by kernel_rfl⟩), by kernel_rfl⟩), by kernel_rfl⟩), by kernel_rfl⟩)
theorem slipWider_c9 : Tryz.prog.funcNamed "postil/postillaw03.SlipWider" = some 7 := by kernel_rfl
theorem slipWider_c10 : Tryz.f7.isInstance Tryz.prog Rows.slipWiderRow.origin Rows.slipWiderRow.targs := of_decide_eq_true (by kernel_rfl)
theorem slipWider_c11 : Tryz.f7.isWrapper Tryz.prog Rows.slipWiderRow.wrapper Rows.slipWiderRow.mainSum := by unfold Func.isWrapper; first | (rw [if_pos (by decide +kernel)]; kernel_rfl) | (rw [if_neg (by decide +kernel)]; exact ⟨rfl, rfl⟩)
theorem slipWider_c12 : Rows.slipWiderRow.wfByText (OpenSpec.ofChange Rows.slipWiderSpec) = true := by kernel_rfl
theorem slipWider_c13 : Tryz.prog.mainIs = some ((true, "cdb0c94b42050c44fe1623a4c45843700c837e98d62dd29dbc15ecf1b30f6525").1, (true, "cdb0c94b42050c44fe1623a4c45843700c837e98d62dd29dbc15ecf1b30f6525").2.toList) := by kernel_rfl
theorem slipWider_c14 : false = Tryz.prog.looks [] := by kernel_rfl
theorem slipWider_c15 : false = Rows.slipWiderRow.goesBy Tryz.prog := by kernel_rfl
theorem slipWider_over : Rows.SlipWiderSaid :=
  OpenClaim.holds_of_wide 7 Tryz.f7 rfl rfl rfl rfl rfl rfl rfl ⟨rfl, rfl, rfl, rfl, rfl⟩ rfl rfl rfl rfl rfl slipWider_c9 Tryz.func7 slipWider_closed
    slipWider_c10 slipWider_c11
    (fun os started H enc _ => slipWider_lifted os started H enc)
theorem slipWider_holds : Rows.SlipWiderCardSaid :=
  Claim7.holds_tied_plain_at .later [] [.data, .listed, .data, .pinned] true (true, "cdb0c94b42050c44fe1623a4c45843700c837e98d62dd29dbc15ecf1b30f6525") false
    slipWider_over (fun _ h => by cases h) slipWider_c12 (fun _ h => by cases h) slipWider_row_tie rfl ⟨rfl, rfl⟩ slipWider_c13 rfl
    (fun f fn hf hfn => by
      obtain rfl : f = 7 := Option.some.inj (slipWider_c9.symm.trans hf) |>.symm
      obtain rfl : fn = Tryz.f7 := (Option.some.inj (Tryz.func7.symm.trans hfn)).symm
      exact ⟨slipWider_c14, fun j t ht => by
        have hp : Tryz.f7.params = #[24, 26, 76, 5] := by kernel_rfl
        rw [hp] at ht
        have hm : t ∈ [24, 26, 76, 5] := by
          have := Array.mem_of_getElem? ht
          simpa using this
        simp only [List.mem_cons, List.mem_nil_iff, or_false] at hm
        rcases hm with rfl | rfl | rfl | rfl
        · exact (by kernel_rfl : Tryz.prog.wantsStandIn 24 = false)
        · exact (by kernel_rfl : Tryz.prog.wantsStandIn 26 = false)
        · exact (by kernel_rfl : Tryz.prog.wantsStandIn 76 = false)
        · exact (by kernel_rfl : Tryz.prog.wantsStandIn 5 = false)⟩)
    slipWider_c15
end Go.Proofs.YtpfbekhkakfoiaaGreatDoor
