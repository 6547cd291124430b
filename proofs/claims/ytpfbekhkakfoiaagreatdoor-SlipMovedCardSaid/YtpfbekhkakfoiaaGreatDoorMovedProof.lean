/- SlipMoved: for every text, copy, and two numbers the law returns true: what a copy has in a place of a valid text is at the place to which it is moved in the copy's text, and places keep their order. No condition. -/
import Derived.Test.YtpfbekhkakfoiaaGreatDoorRows
import Derived.Test.YtpfbekhkakfoiaaGreatDoorPk05
import Derived.Test.YtpfbekhkakfoiaaGreatDoorCards
import Derived.Test.YtpfbekhkakfoiaaGreatDoorTie
import Derived.WalkKit
import Derived.ProofKit
import Derived.Lay
import Derived.SevenTiedAt
namespace Go.Proofs.YtpfbekhkakfoiaaGreatDoor
open Go.ChangeShapes Go.WideShapes Go.ChangeAt Go.RowKit Go.Ev
set_option maxRecDepth 100000
theorem slipMoved_own : ownKnob Tryz.prog.godebug = none := by kernel_rfl
theorem slipMoved_spec {HH : Type} : ∀ ds : List (DataW HH), ds.length = Tryz.f11.params.size → Rows.slipMovedSpec.fn HH ds = { results := [.lit (.bool true)], args := ds } := by
  intro ds hl
  have hp : Tryz.f11.params.size = 4 := by kernel_rfl
  rw [hp] at hl
  match ds, hl with
  | [a, b, c, d], _ => rfl
theorem slipMoved_law (xs : List AV) (h : ArgsOf Tryz.prog 10 Tryz.f11.params.toList xs) : ∃ H', Go.Ev.lim (Cx eA) (.call 11 xs { objs := [], lock := 0 }) = some (.ret (.v (.bool true)) H') := by
  have hp : Tryz.f11.params.toList = [24, 66, 76, 76] := by kernel_rfl
  rw [hp] at h
  cases h with
  | cons h1 h =>
    cases h with
    | cons h2 h =>
      cases h with
      | cons h3 h =>
        cases h with
        | cons h4 h =>
          cases h
          obtain ⟨t, ⟨ch, rfl, ys, hch, hall⟩, ht⟩ := text_of (N := 4) h1
          obtain ⟨id, rs, x, rfl, hx, hrd⟩ := copy_of (N := 5) h2
          obtain ⟨n, hn, rfl⟩ := u16_of (N := 9) h3
          obtain ⟨m, hm, rfl⟩ := u16_of (N := 9) h4
          exact (ansS11 t ht ch ys hch hall id rs x hx hrd n m hn hm).lim
theorem slipMoved_shape (os : Os) : ((World.laidAll Tryz.prog os Rows.slipMovedRow.laid).forCall (fun _ _ => 0) ⟨#[], #[.agg #[.slice none 0 0], .agg #[.int .i64 0, .slice none 0 0], .int .u16 0, .int .u16 0], []⟩).Shaped Tryz.prog := World.shaped_of_ZipB (by kernel_rfl) (by kernel_rfl)
theorem slipMoved_met (os : Os) : laidMetH Tryz.prog Rows.slipMovedRow.laid ((World.laidAll Tryz.prog os Rows.slipMovedRow.laid).forCall (fun _ _ => 0) ⟨#[], #[.agg #[.slice none 0 0], .agg #[.int .i64 0, .slice none 0 0], .int .u16 0, .int .u16 0], []⟩).memory := by
  rw [MakeChecks.laidMetH_plain _ _ _ (by kernel_rfl)]; exact laidMet_laidAll _ (by kernel_rfl) (by kernel_rfl)
theorem slipMoved_tab {W : World} (h : laidMetH Tryz.prog Rows.slipMovedRow.laid W) : laidOk (allZ W) := by
  rw [MakeChecks.laidMetH_plain _ _ _ (by kernel_rfl)] at h
  intro p hp
  obtain rfl := List.mem_singleton.1 hp
  exact heap_of_tab (P := Tryz.prog) (name := "strings.asciiSpace") (by kernel_rfl) (tabIs_of_vars (P := Tryz.prog) (g := 0) (t := 187) (e := 5) (n := 256) (by kernel_rfl) (by kernel_rfl) (by kernel_rfl) (by kernel_rfl) (by kernel_rfl) (by kernel_rfl) (l := Rows.slipMovedRow.laid) (List.mem_of_getElem? (i := 2) (by kernel_rfl)) h.choose_spec.1)
theorem slipMoved_lifted (os : Os) (started : os.Started) (H : Type) (enc : TypeId × Value → H) :
    ReturnsInHanded {} Tryz.checked os 11 .any (fun w args => (Rows.slipMovedSpec.pre enc Tryz.prog Tryz.f11 [] false w args ∧ laidMetH Tryz.prog Rows.slipMovedRow.laid w) ∧ sizedMet enc Tryz.prog Tryz.f11 (OpenSpec.ofChange Rows.slipMovedSpec) false w args)
      (Rows.slipMovedSpec.post enc Tryz.prog Tryz.f11 false true false false) := by
  refine returnsInHanded_of_change_and (C := Tryz.checked) (X := fun w _ => laidMetH Tryz.prog Rows.slipMovedRow.laid w) (fun _ _ _ hh h => h.of_heap hh) slipMoved_own started (by kernel_rfl) Tryz.func11
    (ChangeSpec.witness_shaped (enc := enc) (C := Tryz.checked) (os := os) (X := fun w _ => laidMetH Tryz.prog Rows.slipMovedRow.laid w) false (World.laidAll Tryz.prog os Rows.slipMovedRow.laid) #[.agg #[.slice none 0 0], .agg #[.int .i64 0, .slice none 0 0], .int .u16 0, .int .u16 0] 8 (World.laidAll_os _ _ _)
      (slipMoved_shape os) (by kernel_rfl) (by kernel_rfl) (by kernel_rfl) (slipMoved_met os)) ?_
  intro W base args ds gs before hval hW _ _ hX _
  exact law_contract (C := Cx eA) (N := 10) rfl (nogo eA) (mixed eA) extOKA (by kernel_rfl) rfl slipMoved_spec rfl (by kernel_rfl) slipMoved_law hval hW (slipMoved_tab hX)
theorem slipMoved_c1 : (Rows.slipMovedRow.inPlace == Tryz.prog.inPlace 11) = true := by kernel_rfl
theorem slipMoved_c2 : (Rows.slipMovedRow.unfollowed == Tryz.prog.unfollowed 11) = true := by kernel_rfl
theorem slipMoved_c3 : (Rows.slipMovedRow.recurses == Tryz.prog.recurses 11) = true := by kernel_rfl
theorem slipMoved_c4 : (Rows.slipMovedRow.named == Tryz.prog.varsNamed 11) = true := by kernel_rfl
theorem slipMoved_c5 : laidOutB Tryz.prog = true := by kernel_rfl
theorem slipMoved_c6 : Tryz.prog.stopsHeard = true := by kernel_rfl
theorem slipMoved_c7 : Tryz.prog.mayEnter = true := by kernel_rfl
theorem slipMoved_c8 : (Rows.slipMovedRow.plainKeys == Tryz.prog.plainKeys) = true := by kernel_rfl
theorem slipMoved_closed : joinedFacts Tryz.prog 11 Tryz.f11 Rows.slipMovedSpec Rows.slipMovedRow = true := by
  unfold joinedFacts
  exact (Bool.and_eq_true_iff.2 ⟨(Bool.and_eq_true_iff.2 ⟨(Bool.and_eq_true_iff.2 ⟨(Bool.and_eq_true_iff.2 ⟨(Bool.and_eq_true_iff.2 ⟨(Bool.and_eq_true_iff.2 ⟨(Bool.and_eq_true_iff.2 ⟨(Bool.and_eq_true_iff.2 ⟨(Bool.and_eq_true_iff.2 ⟨(Bool.and_eq_true_iff.2 ⟨(Bool.and_eq_true_iff.2 ⟨(Bool.and_eq_true_iff.2 ⟨(Bool.and_eq_true_iff.2 ⟨(Bool.and_eq_true_iff.2 ⟨(Bool.and_eq_true_iff.2 ⟨(Bool.and_eq_true_iff.2 ⟨(Bool.and_eq_true_iff.2 ⟨(Bool.and_eq_true_iff.2 ⟨(Bool.and_eq_true_iff.2 ⟨(Bool.and_eq_true_iff.2 ⟨(Bool.and_eq_true_iff.2 ⟨(Bool.and_eq_true_iff.2 ⟨(Bool.and_eq_true_iff.2 ⟨(Bool.and_eq_true_iff.2 ⟨(Bool.and_eq_true_iff.2 ⟨(Bool.and_eq_true_iff.2 ⟨(Bool.and_eq_true_iff.2 ⟨(Bool.and_eq_true_iff.2 ⟨(Bool.and_eq_true_iff.2 ⟨(Bool.and_eq_true_iff.2 ⟨(Bool.and_eq_true_iff.2 ⟨(by kernel_rfl), slipMoved_c5⟩), by kernel_rfl⟩), by kernel_rfl⟩), by kernel_rfl⟩), by kernel_rfl⟩), by kernel_rfl⟩), by kernel_rfl⟩), by kernel_rfl⟩), slipMoved_c1⟩), slipMoved_c2⟩), slipMoved_c3⟩), slipMoved_c4⟩), by kernel_rfl⟩), by kernel_rfl⟩), by kernel_rfl⟩), by kernel_rfl⟩), by kernel_rfl⟩), by kernel_rfl⟩), by kernel_rfl⟩), by kernel_rfl⟩), by kernel_rfl⟩), slipMoved_c8⟩), by kernel_rfl⟩), slipMoved_c6⟩), slipMoved_c7⟩), by kernel_rfl⟩), by kernel_rfl⟩), by kernel_rfl⟩), by kernel_rfl⟩), by kernel_rfl⟩), by kernel_rfl⟩)
theorem slipMoved_c9 : Tryz.prog.funcNamed "postil/postillaw03.SlipMoved" = some 11 := by kernel_rfl
theorem slipMoved_c10 : Tryz.f11.isInstance Tryz.prog Rows.slipMovedRow.origin Rows.slipMovedRow.targs := of_decide_eq_true (by kernel_rfl)
theorem slipMoved_c11 : Tryz.f11.isWrapper Tryz.prog Rows.slipMovedRow.wrapper Rows.slipMovedRow.mainSum := by unfold Func.isWrapper; first | (rw [if_pos (by decide +kernel)]; kernel_rfl) | (rw [if_neg (by decide +kernel)]; exact ⟨rfl, rfl⟩)
theorem slipMoved_c12 : Rows.slipMovedRow.wfByText (OpenSpec.ofChange Rows.slipMovedSpec) = true := by kernel_rfl
theorem slipMoved_c13 : Tryz.prog.mainIs = some ((true, "cdb0c94b42050c44fe1623a4c45843700c837e98d62dd29dbc15ecf1b30f6525").1, (true, "cdb0c94b42050c44fe1623a4c45843700c837e98d62dd29dbc15ecf1b30f6525").2.toList) := by kernel_rfl
theorem slipMoved_c14 : false = Tryz.prog.looks [] := by kernel_rfl
theorem slipMoved_c15 : false = Rows.slipMovedRow.goesBy Tryz.prog := by kernel_rfl
theorem slipMoved_over : Rows.SlipMovedSaid :=
  OpenClaim.holds_of_wide 11 Tryz.f11 rfl rfl rfl rfl rfl rfl rfl ⟨rfl, rfl, rfl, rfl, rfl⟩ rfl rfl rfl rfl rfl slipMoved_c9 Tryz.func11 slipMoved_closed
    slipMoved_c10 slipMoved_c11
    (fun os started H enc _ => slipMoved_lifted os started H enc)
theorem slipMoved_holds : Rows.SlipMovedCardSaid :=
  Claim7.holds_tied_plain_at .later [] [.data, .listed, .data, .pinned] true (true, "cdb0c94b42050c44fe1623a4c45843700c837e98d62dd29dbc15ecf1b30f6525") false
    slipMoved_over (fun _ h => by cases h) slipMoved_c12 (fun _ h => by cases h) slipMoved_row_tie rfl ⟨rfl, rfl⟩ slipMoved_c13 rfl
    (fun f fn hf hfn => by
      obtain rfl : f = 11 := Option.some.inj (slipMoved_c9.symm.trans hf) |>.symm
      obtain rfl : fn = Tryz.f11 := (Option.some.inj (Tryz.func11.symm.trans hfn)).symm
      exact ⟨slipMoved_c14, fun j t ht => by
        have hp : Tryz.f11.params = #[24, 66, 76, 76] := by kernel_rfl
        rw [hp] at ht
        have hm : t ∈ [24, 66, 76, 76] := by
          have := Array.mem_of_getElem? ht
          simpa using this
        simp only [List.mem_cons, List.mem_nil_iff, or_false] at hm
        rcases hm with rfl | rfl | rfl | rfl
        · exact (by kernel_rfl : Tryz.prog.wantsStandIn 24 = false)
        · exact (by kernel_rfl : Tryz.prog.wantsStandIn 66 = false)
        · exact (by kernel_rfl : Tryz.prog.wantsStandIn 76 = false)
        · exact (by kernel_rfl : Tryz.prog.wantsStandIn 76 = false)⟩)
    slipMoved_c15
end Go.Proofs.YtpfbekhkakfoiaaGreatDoor
