/- SlipCopied: for every text, copy, cut and number the law returns true: where a chapter of a valid copy is as the base's the slips are the same, and a slip of the copy's text at a place to which one was moved has the word that stands there. No condition. -/
import Derived.Test.YtpfbekhkakfoiaaGreatDoorRows
import Derived.Test.YtpfbekhkakfoiaaGreatDoorPk05
import Derived.Test.YtpfbekhkakfoiaaGreatDoorCards
import Derived.Test.YtpfbekhkakfoiaaGreatDoorTie
import Derived.WalkKit
import Derived.ProofKit
import Derived.Lay
import Derived.SevenTiedAt
namespace Go.Proofs.YtpfbekhkakfoiaaGreatDoor
open Go.ChangeShapes Go.WideShapes Go.ChangeAt Go.RowKit Go.Ev
set_option maxRecDepth 100000
theorem slipCopied_own : ownKnob Tryz.prog.godebug = none := by kernel_rfl
theorem slipCopied_spec {HH : Type} : ∀ ds : List (DataW HH), ds.length = Tryz.f12.params.size → Rows.slipCopiedSpec.fn HH ds = { results := [.lit (.bool true)], args := ds } := by
  intro ds hl
  have hp : Tryz.f12.params.size = 4 := by kernel_rfl
  rw [hp] at hl
  match ds, hl with
  | [a, b, c, d], _ => rfl
theorem slipCopied_law (xs : List AV) (h : ArgsOf Tryz.prog 10 Tryz.f12.params.toList xs) : ∃ H', Go.Ev.lim (Cx eA) (.call 12 xs { objs := [], lock := 0 }) = some (.ret (.v (.bool true)) H') := by
  have hp : Tryz.f12.params.toList = [24, 66, 26, 76] := by kernel_rfl
  rw [hp] at h
  cases h with
  | cons h1 h =>
    cases h with
    | cons h2 h =>
      cases h with
      | cons h3 h =>
        cases h with
        | cons h4 h =>
          cases h
          obtain ⟨t, ⟨ch, rfl, ys, hch, hall⟩, ht⟩ := text_of (N := 4) h1
          obtain ⟨id, rs, x, rfl, hx, hrd⟩ := copy_of (N := 5) h2
          obtain ⟨w, sd, hs1, hs2, rfl⟩ := cut_of (N := 7) h3
          obtain ⟨m, hm, rfl⟩ := u16_of (N := 9) h4
          exact (ansS12 t ht ch ys hch hall id rs x hx hrd w sd hs1 hs2 m hm).lim
theorem slipCopied_shape (os : Os) : ((World.laidAll Tryz.prog os Rows.slipCopiedRow.laid).forCall (fun _ _ => 0) ⟨#[], #[.agg #[.slice none 0 0], .agg #[.int .i64 0, .slice none 0 0], .agg #[.int .i64 0, .int .u8 0], .int .u16 0], []⟩).Shaped Tryz.prog := World.shaped_of_ZipB (by kernel_rfl) (by kernel_rfl)
theorem slipCopied_met (os : Os) : laidMetH Tryz.prog Rows.slipCopiedRow.laid ((World.laidAll Tryz.prog os Rows.slipCopiedRow.laid).forCall (fun _ _ => 0) ⟨#[], #[.agg #[.slice none 0 0], .agg #[.int .i64 0, .slice none 0 0], .agg #[.int .i64 0, .int .u8 0], .int .u16 0], []⟩).memory := by
  rw [MakeChecks.laidMetH_plain _ _ _ (by kernel_rfl)]; exact laidMet_laidAll _ (by kernel_rfl) (by kernel_rfl)
theorem slipCopied_tab {W : World} (h : laidMetH Tryz.prog Rows.slipCopiedRow.laid W) : laidOk (allZ W) := by
  rw [MakeChecks.laidMetH_plain _ _ _ (by kernel_rfl)] at h
  intro p hp
  obtain rfl := List.mem_singleton.1 hp
  exact heap_of_tab (P := Tryz.prog) (name := "strings.asciiSpace") (by kernel_rfl) (tabIs_of_vars (P := Tryz.prog) (g := 0) (t := 187) (e := 5) (n := 256) (by kernel_rfl) (by kernel_rfl) (by kernel_rfl) (by kernel_rfl) (by kernel_rfl) (by kernel_rfl) (l := Rows.slipCopiedRow.laid) (List.mem_of_getElem? (i := 2) (by kernel_rfl)) h.choose_spec.1)
theorem slipCopied_lifted (os : Os) (started : os.Started) (H : Type) (enc : TypeId × Value → H) :
    ReturnsInHanded {} Tryz.checked os 12 .any (fun w args => (Rows.slipCopiedSpec.pre enc Tryz.prog Tryz.f12 [] false w args ∧ laidMetH Tryz.prog Rows.slipCopiedRow.laid w) ∧ sizedMet enc Tryz.prog Tryz.f12 (OpenSpec.ofChange Rows.slipCopiedSpec) false w args)
      (Rows.slipCopiedSpec.post enc Tryz.prog Tryz.f12 false true false false) := by
  refine returnsInHanded_of_change_and (C := Tryz.checked) (X := fun w _ => laidMetH Tryz.prog Rows.slipCopiedRow.laid w) (fun _ _ _ hh h => h.of_heap hh) slipCopied_own started (by kernel_rfl) Tryz.func12
    (ChangeSpec.witness_shaped (enc := enc) (C := Tryz.checked) (os := os) (X := fun w _ => laidMetH Tryz.prog Rows.slipCopiedRow.laid w) false (World.laidAll Tryz.prog os Rows.slipCopiedRow.laid) #[.agg #[.slice none 0 0], .agg #[.int .i64 0, .slice none 0 0], .agg #[.int .i64 0, .int .u8 0], .int .u16 0] 8 (World.laidAll_os _ _ _)
      (slipCopied_shape os) (by kernel_rfl) (by kernel_rfl) (by kernel_rfl) (slipCopied_met os)) ?_
  intro W base args ds gs before hval hW _ _ hX _
  exact law_contract (C := Cx eA) (N := 10) rfl (nogo eA) (mixed eA) extOKA (by kernel_rfl) rfl slipCopied_spec rfl (by kernel_rfl) slipCopied_law hval hW (slipCopied_tab hX)
theorem slipCopied_c1 : (Rows.slipCopiedRow.inPlace == Tryz.prog.inPlace 12) = true := by kernel_rfl
theorem slipCopied_c2 : (Rows.slipCopiedRow.unfollowed == Tryz.prog.unfollowed 12) = true := by kernel_rfl
theorem slipCopied_c3 : (Rows.slipCopiedRow.recurses == Tryz.prog.recurses 12) = true := by kernel_rfl
theorem slipCopied_c4 : (Rows.slipCopiedRow.named == Tryz.prog.varsNamed 12) = true := by kernel_rfl
theorem slipCopied_c5 : laidOutB Tryz.prog = true := by kernel_rfl
theorem slipCopied_c6 : Tryz.prog.stopsHeard = true := by kernel_rfl
theorem slipCopied_c7 : Tryz.prog.mayEnter = true := by kernel_rfl
theorem slipCopied_c8 : (Rows.slipCopiedRow.plainKeys == Tryz.prog.plainKeys) = true := by kernel_rfl
theorem slipCopied_closed : joinedFacts Tryz.prog 12 Tryz.f12 Rows.slipCopiedSpec Rows.slipCopiedRow = true := by
  unfold joinedFacts
  exact (Bool.and_eq_true_iff.2 ⟨(Bool.and_eq_true_iff.2 ⟨(Bool.and_eq_true_iff.2 ⟨(Bool.and_eq_true_iff.2 ⟨(Bool.and_eq_true_iff.2 ⟨(Bool.and_eq_true_iff.2 ⟨(Bool.and_eq_true_iff.2 ⟨(Bool.and_eq_true_iff.2 ⟨(Bool.and_eq_true_iff.2 ⟨(Bool.and_eq_true_iff.2 ⟨(Bool.and_eq_true_iff.2 ⟨(Bool.and_eq_true_iff.2 ⟨(Bool.and_eq_true_iff.2 ⟨(Bool.and_eq_true_iff.2 ⟨(Bool.and_eq_true_iff.2 ⟨(Bool.and_eq_true_iff.2 ⟨(Bool.and_eq_true_iff.2 ⟨(Bool.and_eq_true_iff.2 ⟨(Bool.and_eq_true_iff.2 ⟨(Bool.and_eq_true_iff.2 ⟨(Bool.and_eq_true_iff.2 ⟨(Bool.and_eq_true_iff.2 ⟨(Bool.and_eq_true_iff.2 ⟨(Bool.and_eq_true_iff.2 ⟨(Bool.and_eq_true_iff.2 ⟨(Bool.and_eq_true_iff.2 ⟨(Bool.and_eq_true_iff.2 ⟨(Bool.and_eq_true_iff.2 ⟨(Bool.and_eq_true_iff.2 ⟨(Bool.and_eq_true_iff.2 ⟨(Bool.and_eq_true_iff.2 ⟨(by kernel_rfl), slipCopied_c5⟩), by kernel_rfl⟩), by kernel_rfl⟩), by kernel_rfl⟩), by kernel_rfl⟩), by kernel_rfl⟩), by kernel_rfl⟩), by kernel_rfl⟩), slipCopied_c1⟩), slipCopied_c2⟩), slipCopied_c3⟩), slipCopied_c4⟩), by kernel_rfl⟩), by kernel_rfl⟩), by kernel_rfl⟩), by kernel_rfl⟩), by kernel_rfl⟩), by kernel_rfl⟩), by kernel_rfl⟩), by kernel_rfl⟩), by kernel_rfl⟩), slipCopied_c8⟩), by kernel_rfl⟩), slipCopied_c6⟩), slipCopied_c7⟩), by kernel_rfl⟩), by kernel_rfl⟩), by kernel_rfl⟩), by kernel_rfl⟩), by kernel_rfl⟩), by kernel_rfl⟩)
theorem slipCopied_c9 : Tryz.prog.funcNamed "postil/postillaw03.SlipCopied" = some 12 := by kernel_rfl
theorem slipCopied_c10 : Tryz.f12.isInstance Tryz.prog Rows.slipCopiedRow.origin Rows.slipCopiedRow.targs := of_decide_eq_true (by kernel_rfl)
theorem slipCopied_c11 : Tryz.f12.isWrapper Tryz.prog Rows.slipCopiedRow.wrapper Rows.slipCopiedRow.mainSum := by unfold Func.isWrapper; first | (rw [if_pos (by decide +kernel)]; kernel_rfl) | (rw [if_neg (by decide +kernel)]; exact ⟨rfl, rfl⟩)
theorem slipCopied_c12 : Rows.slipCopiedRow.wfByText (OpenSpec.ofChange Rows.slipCopiedSpec) = true := by kernel_rfl
theorem slipCopied_c13 : Tryz.prog.mainIs = some ((true, "cdb0c94b42050c44fe1623a4c45843700c837e98d62dd29dbc15ecf1b30f6525").1, (true, "cdb0c94b42050c44fe1623a4c45843700c837e98d62dd29dbc15ecf1b30f6525").2.toList) := by kernel_rfl
theorem slipCopied_c14 : false = Tryz.prog.looks [] := by kernel_rfl
theorem slipCopied_c15 : false = Rows.slipCopiedRow.goesBy Tryz.prog := by kernel_rfl
theorem slipCopied_over : Rows.SlipCopiedSaid :=
  OpenClaim.holds_of_wide 12 Tryz.f12 rfl rfl rfl rfl rfl rfl rfl ⟨rfl, rfl, rfl, rfl, rfl⟩ rfl rfl rfl rfl rfl slipCopied_c9 Tryz.func12 slipCopied_closed
    slipCopied_c10 slipCopied_c11
    (fun os started H enc _ => slipCopied_lifted os started H enc)
theorem slipCopied_holds : Rows.SlipCopiedCardSaid :=
  Claim7.holds_tied_plain_at .later [] [.data, .listed, .data, .pinned] true (true, "cdb0c94b42050c44fe1623a4c45843700c837e98d62dd29dbc15ecf1b30f6525") false
    slipCopied_over (fun _ h => by cases h) slipCopied_c12 (fun _ h => by cases h) slipCopied_row_tie rfl ⟨rfl, rfl⟩ slipCopied_c13 rfl
    (fun f fn hf hfn => by
      obtain rfl : f = 12 := Option.some.inj (slipCopied_c9.symm.trans hf) |>.symm
      obtain rfl : fn = Tryz.f12 := (Option.some.inj (Tryz.func12.symm.trans hfn)).symm
      exact ⟨slipCopied_c14, fun j t ht => by
        have hp : Tryz.f12.params = #[24, 66, 26, 76] := by kernel_rfl
        rw [hp] at ht
        have hm : t ∈ [24, 66, 26, 76] := by
          have := Array.mem_of_getElem? ht
          simpa using this
        simp only [List.mem_cons, List.mem_nil_iff, or_false] at hm
        rcases hm with rfl | rfl | rfl | rfl
        · exact (by kernel_rfl : Tryz.prog.wantsStandIn 24 = false)
        · exact (by kernel_rfl : Tryz.prog.wantsStandIn 66 = false)
        · exact (by kernel_rfl : Tryz.prog.wantsStandIn 26 = false)
        · exact (by kernel_rfl : Tryz.prog.wantsStandIn 76 = false)⟩)
    slipCopied_c15
end Go.Proofs.YtpfbekhkakfoiaaGreatDoor
