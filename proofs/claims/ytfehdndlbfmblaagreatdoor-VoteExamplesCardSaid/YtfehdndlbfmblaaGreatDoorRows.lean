/-
  NARROWER THAN 'FOR EVERY INPUT', by the rows' own cells (each row's printed sentence says how): VoteCounts: laid · VoteTells: laid · VoteDecides: laid · VoteExamples: laid · VoteTrue: laid · VoteEnds: laid · VoteMore: laid · VoteAsk: laid · VoteNext: laid · VoteSure: laid · VoteOrder: laid · VoteWrongs: laid · VoteTally: laid · VoteFollow: laid · VoteUnder: laid · VoteMoot: laid.
  DERIVED. THE GIVEN ROWS OF THIS SEAT. 16 by the template 'for every input the law returns true; each argument reads behind the call as it read before'; 0 by the template 'total and deterministic' (their statements: YtfehdndlbfmblaaGreatDoorTotals.lean).
  GIVEN WITH THE SEED: the statements are not yours to turn. If you find one false, say at which input.
  Laid BY PROGRAM, IN A SANDBOX (cutbox-rows.mjs): the forced cells as the released guide's own fill.sh prints them over the translation 6fa2bba23a7be5ba… (all of the seat's roots in one cut). By AI agents, Wed Nov 11 2026. No macro, syntax, notation, axiom, sorry.
-/
import Derived.Test.YtfehdndlbfmblaaGreatDoorChecked
import GoSem.PinnedTables
import GoSem.Claim
import GoSem.ClaimJoined
import GoSem.ClaimMapViews
import Derived.JoinedTies
import Derived.KernelRfl
namespace Go.Proofs.YtfehdndlbfmblaaGreatDoor
/- THE CELL 'sum', in the pinned program and in every row, IS THE sha256 OF THE DUMP (.gsa) THAT YtfehdndlbfmblaaGreatDoorProg.lean LOADS. Nothing in Lean hashes anything: it is a label: what it is worth is what the hold of that sum in a sandbox is worth. -/
noncomputable def Tryz.pinned : Pinned := { name := "ytfehdndlbfmblaagreatdoor", sum := "6fa2bba23a7be5ba16e5a9e90ee18842411fffbcfcd2cfd6947353bcb1ca8324", checked := Tryz.checked }
namespace Rows
def none {H : Type} : Left H := { results := [], args := [] }

/- WHAT THE LISTED PACKAGE-LEVEL VARIABLES READ AS WHEN THE CALL BEGINS. Each datum BY PROGRAM (the guide's laid-datum.mjs) off the statement by which the dump's own 'gosem.cut.vars' lays the variable. In a bare row this is a premise. The card (YtfehdndlbfmblaaGreatDoorCards.lean) ties it to the program's text. -/
def laid_unicode_utf8_acceptRanges {H : Type} : DataW H := .agg [.agg [.lit (.int .u8 128), .lit (.int .u8 191)], .agg [.lit (.int .u8 160), .lit (.int .u8 191)], .agg [.lit (.int .u8 128), .lit (.int .u8 159)], .agg [.lit (.int .u8 144), .lit (.int .u8 191)], .agg [.lit (.int .u8 128), .lit (.int .u8 143)], .agg [.lit (.int .u8 0), .lit (.int .u8 0)], .agg [.lit (.int .u8 0), .lit (.int .u8 0)], .agg [.lit (.int .u8 0), .lit (.int .u8 0)], .agg [.lit (.int .u8 0), .lit (.int .u8 0)], .agg [.lit (.int .u8 0), .lit (.int .u8 0)], .agg [.lit (.int .u8 0), .lit (.int .u8 0)], .agg [.lit (.int .u8 0), .lit (.int .u8 0)], .agg [.lit (.int .u8 0), .lit (.int .u8 0)], .agg [.lit (.int .u8 0), .lit (.int .u8 0)], .agg [.lit (.int .u8 0), .lit (.int .u8 0)], .agg [.lit (.int .u8 0), .lit (.int .u8 0)]]
/-- One of Go's own tables, pinned by name: the form's constant. -/
def laid_unicode_utf8_first : DataW Unit := Go.Pinned.utf8First

/-- 'postillaw07.VoteCounts': WHATEVER THE INPUT: true; the input reads as it did. -/
def voteCountsSpec : ChangeSpec := { name := "voteCounts", fn := fun _ => fun
  | [d1, d2] => { results := [.lit (.bool true)], args := [d1, d2] }
  | _ => none }
def voteCountsRow : OpenClaim := { program := "ytfehdndlbfmblaagreatdoor", sum := "6fa2bba23a7be5ba16e5a9e90ee18842411fffbcfcd2cfd6947353bcb1ca8324", func := "postil/postillaw07.VoteCounts", spec := "voteCounts", inPlace := ["internal/bytealg.IndexByteString", "internal/bytealg.IndexString", "internal/bytealg.abigen_runtime_cmpstring"], unfollowed := true, recurses := true, named := ["unicode/utf8.first", "unicode/utf8.acceptRanges", "internal/bytealg.MaxLen"], plainKeys := false, apart := false, laid := [("unicode/utf8.acceptRanges", laid_unicode_utf8_acceptRanges), ("unicode/utf8.first", laid_unicode_utf8_first)] }
def VoteCountsSaid : Prop := voteCountsRow.holds Tryz.pinned (OpenSpec.ofChange voteCountsSpec)

/-- ITS FALSE NEIGHBOUR: 'it returns false'. Refute it at one input. -/
def voteCountsWrong : ChangeSpec := { name := "voteCounts", fn := fun _ => fun
  | [d1, d2] => { results := [.lit (.bool false)], args := [d1, d2] }
  | _ => none }
def VoteCountsWrongFalsely : Prop := voteCountsRow.holds Tryz.pinned (OpenSpec.ofChange voteCountsWrong)

/-- 'postillaw07.VoteTells': WHATEVER THE INPUT: true; the input reads as it did. -/
def voteTellsSpec : ChangeSpec := { name := "voteTells", fn := fun _ => fun
  | [d1, d2, d3] => { results := [.lit (.bool true)], args := [d1, d2, d3] }
  | _ => none }
def voteTellsRow : OpenClaim := { program := "ytfehdndlbfmblaagreatdoor", sum := "6fa2bba23a7be5ba16e5a9e90ee18842411fffbcfcd2cfd6947353bcb1ca8324", func := "postil/postillaw07.VoteTells", spec := "voteTells", inPlace := ["internal/bytealg.IndexByteString", "internal/bytealg.IndexString", "internal/bytealg.abigen_runtime_cmpstring"], unfollowed := true, recurses := true, named := ["unicode/utf8.first", "unicode/utf8.acceptRanges", "internal/bytealg.MaxLen"], plainKeys := false, apart := false, laid := [("unicode/utf8.acceptRanges", laid_unicode_utf8_acceptRanges), ("unicode/utf8.first", laid_unicode_utf8_first)] }
def VoteTellsSaid : Prop := voteTellsRow.holds Tryz.pinned (OpenSpec.ofChange voteTellsSpec)

/-- ITS FALSE NEIGHBOUR: 'it returns false'. Refute it at one input. -/
def voteTellsWrong : ChangeSpec := { name := "voteTells", fn := fun _ => fun
  | [d1, d2, d3] => { results := [.lit (.bool false)], args := [d1, d2, d3] }
  | _ => none }
def VoteTellsWrongFalsely : Prop := voteTellsRow.holds Tryz.pinned (OpenSpec.ofChange voteTellsWrong)

/-- 'postillaw07.VoteDecides': WHATEVER THE INPUT: true; the input reads as it did. -/
def voteDecidesSpec : ChangeSpec := { name := "voteDecides", fn := fun _ => fun
  | [d] => { results := [.lit (.bool true)], args := [d] }
  | _ => none }
def voteDecidesRow : OpenClaim := { program := "ytfehdndlbfmblaagreatdoor", sum := "6fa2bba23a7be5ba16e5a9e90ee18842411fffbcfcd2cfd6947353bcb1ca8324", func := "postil/postillaw07.VoteDecides", spec := "voteDecides", inPlace := ["internal/bytealg.IndexByteString", "internal/bytealg.IndexString", "internal/bytealg.abigen_runtime_cmpstring"], unfollowed := true, recurses := true, named := ["unicode/utf8.first", "unicode/utf8.acceptRanges", "internal/bytealg.MaxLen"], plainKeys := false, apart := false, laid := [("unicode/utf8.acceptRanges", laid_unicode_utf8_acceptRanges), ("unicode/utf8.first", laid_unicode_utf8_first)] }
def VoteDecidesSaid : Prop := voteDecidesRow.holds Tryz.pinned (OpenSpec.ofChange voteDecidesSpec)

/-- ITS FALSE NEIGHBOUR: 'it returns false'. Refute it at one input. -/
def voteDecidesWrong : ChangeSpec := { name := "voteDecides", fn := fun _ => fun
  | [d] => { results := [.lit (.bool false)], args := [d] }
  | _ => none }
def VoteDecidesWrongFalsely : Prop := voteDecidesRow.holds Tryz.pinned (OpenSpec.ofChange voteDecidesWrong)

/-- 'postillaw07.VoteExamples': WHATEVER THE INPUT: true; the input reads as it did. -/
def voteExamplesSpec : ChangeSpec := { name := "voteExamples", fn := fun _ => fun
  | [] => { results := [.lit (.bool true)], args := [] }
  | _ => none }
def voteExamplesRow : OpenClaim := { program := "ytfehdndlbfmblaagreatdoor", sum := "6fa2bba23a7be5ba16e5a9e90ee18842411fffbcfcd2cfd6947353bcb1ca8324", func := "postil/postillaw07.VoteExamples", spec := "voteExamples", inPlace := ["internal/bytealg.IndexByteString", "internal/bytealg.IndexString", "internal/bytealg.abigen_runtime_cmpstring"], unfollowed := true, recurses := true, named := ["unicode/utf8.first", "unicode/utf8.acceptRanges", "internal/bytealg.MaxLen"], plainKeys := false, apart := false, laid := [("unicode/utf8.acceptRanges", laid_unicode_utf8_acceptRanges), ("unicode/utf8.first", laid_unicode_utf8_first)] }
def VoteExamplesSaid : Prop := voteExamplesRow.holds Tryz.pinned (OpenSpec.ofChange voteExamplesSpec)

/-- ITS FALSE NEIGHBOUR: 'it returns false'. Refute it at one input. -/
def voteExamplesWrong : ChangeSpec := { name := "voteExamples", fn := fun _ => fun
  | [] => { results := [.lit (.bool false)], args := [] }
  | _ => none }
def VoteExamplesWrongFalsely : Prop := voteExamplesRow.holds Tryz.pinned (OpenSpec.ofChange voteExamplesWrong)

/-- 'postillaw07.VoteTrue': WHATEVER THE INPUT: true; the input reads as it did. -/
def voteTrueSpec : ChangeSpec := { name := "voteTrue", fn := fun _ => fun
  | [d1, d2] => { results := [.lit (.bool true)], args := [d1, d2] }
  | _ => none }
def voteTrueRow : OpenClaim := { program := "ytfehdndlbfmblaagreatdoor", sum := "6fa2bba23a7be5ba16e5a9e90ee18842411fffbcfcd2cfd6947353bcb1ca8324", func := "postil/postillaw07.VoteTrue", spec := "voteTrue", inPlace := ["internal/bytealg.IndexByteString", "internal/bytealg.IndexString", "internal/bytealg.abigen_runtime_cmpstring"], unfollowed := true, recurses := true, named := ["unicode/utf8.first", "unicode/utf8.acceptRanges", "internal/bytealg.MaxLen"], plainKeys := false, apart := false, laid := [("unicode/utf8.acceptRanges", laid_unicode_utf8_acceptRanges), ("unicode/utf8.first", laid_unicode_utf8_first)] }
def VoteTrueSaid : Prop := voteTrueRow.holds Tryz.pinned (OpenSpec.ofChange voteTrueSpec)

/-- ITS FALSE NEIGHBOUR: 'it returns false'. Refute it at one input. -/
def voteTrueWrong : ChangeSpec := { name := "voteTrue", fn := fun _ => fun
  | [d1, d2] => { results := [.lit (.bool false)], args := [d1, d2] }
  | _ => none }
def VoteTrueWrongFalsely : Prop := voteTrueRow.holds Tryz.pinned (OpenSpec.ofChange voteTrueWrong)

/-- 'postillaw07.VoteEnds': WHATEVER THE INPUT: true; the input reads as it did. -/
def voteEndsSpec : ChangeSpec := { name := "voteEnds", fn := fun _ => fun
  | [d] => { results := [.lit (.bool true)], args := [d] }
  | _ => none }
def voteEndsRow : OpenClaim := { program := "ytfehdndlbfmblaagreatdoor", sum := "6fa2bba23a7be5ba16e5a9e90ee18842411fffbcfcd2cfd6947353bcb1ca8324", func := "postil/postillaw07.VoteEnds", spec := "voteEnds", inPlace := ["internal/bytealg.IndexByteString", "internal/bytealg.IndexString", "internal/bytealg.abigen_runtime_cmpstring"], unfollowed := true, recurses := true, named := ["unicode/utf8.first", "unicode/utf8.acceptRanges", "internal/bytealg.MaxLen"], plainKeys := false, apart := false, laid := [("unicode/utf8.acceptRanges", laid_unicode_utf8_acceptRanges), ("unicode/utf8.first", laid_unicode_utf8_first)] }
def VoteEndsSaid : Prop := voteEndsRow.holds Tryz.pinned (OpenSpec.ofChange voteEndsSpec)

/-- ITS FALSE NEIGHBOUR: 'it returns false'. Refute it at one input. -/
def voteEndsWrong : ChangeSpec := { name := "voteEnds", fn := fun _ => fun
  | [d] => { results := [.lit (.bool false)], args := [d] }
  | _ => none }
def VoteEndsWrongFalsely : Prop := voteEndsRow.holds Tryz.pinned (OpenSpec.ofChange voteEndsWrong)

/-- 'postillaw07.VoteMore': WHATEVER THE INPUT: true; the input reads as it did. -/
def voteMoreSpec : ChangeSpec := { name := "voteMore", fn := fun _ => fun
  | [d1, d2] => { results := [.lit (.bool true)], args := [d1, d2] }
  | _ => none }
def voteMoreRow : OpenClaim := { program := "ytfehdndlbfmblaagreatdoor", sum := "6fa2bba23a7be5ba16e5a9e90ee18842411fffbcfcd2cfd6947353bcb1ca8324", func := "postil/postillaw07.VoteMore", spec := "voteMore", inPlace := ["internal/bytealg.IndexByteString", "internal/bytealg.IndexString", "internal/bytealg.abigen_runtime_cmpstring"], unfollowed := true, recurses := true, named := ["unicode/utf8.first", "unicode/utf8.acceptRanges", "internal/bytealg.MaxLen"], plainKeys := false, apart := false, laid := [("unicode/utf8.acceptRanges", laid_unicode_utf8_acceptRanges), ("unicode/utf8.first", laid_unicode_utf8_first)] }
def VoteMoreSaid : Prop := voteMoreRow.holds Tryz.pinned (OpenSpec.ofChange voteMoreSpec)

/-- ITS FALSE NEIGHBOUR: 'it returns false'. Refute it at one input. -/
def voteMoreWrong : ChangeSpec := { name := "voteMore", fn := fun _ => fun
  | [d1, d2] => { results := [.lit (.bool false)], args := [d1, d2] }
  | _ => none }
def VoteMoreWrongFalsely : Prop := voteMoreRow.holds Tryz.pinned (OpenSpec.ofChange voteMoreWrong)

/-- 'postillaw07.VoteAsk': WHATEVER THE INPUT: true; the input reads as it did. -/
def voteAskSpec : ChangeSpec := { name := "voteAsk", fn := fun _ => fun
  | [d1, d2, d3] => { results := [.lit (.bool true)], args := [d1, d2, d3] }
  | _ => none }
def voteAskRow : OpenClaim := { program := "ytfehdndlbfmblaagreatdoor", sum := "6fa2bba23a7be5ba16e5a9e90ee18842411fffbcfcd2cfd6947353bcb1ca8324", func := "postil/postillaw07.VoteAsk", spec := "voteAsk", inPlace := ["internal/bytealg.IndexByteString", "internal/bytealg.IndexString", "internal/bytealg.abigen_runtime_cmpstring"], unfollowed := true, recurses := true, named := ["unicode/utf8.first", "unicode/utf8.acceptRanges", "internal/bytealg.MaxLen"], plainKeys := false, apart := false, laid := [("unicode/utf8.acceptRanges", laid_unicode_utf8_acceptRanges), ("unicode/utf8.first", laid_unicode_utf8_first)] }
def VoteAskSaid : Prop := voteAskRow.holds Tryz.pinned (OpenSpec.ofChange voteAskSpec)

/-- ITS FALSE NEIGHBOUR: 'it returns false'. Refute it at one input. -/
def voteAskWrong : ChangeSpec := { name := "voteAsk", fn := fun _ => fun
  | [d1, d2, d3] => { results := [.lit (.bool false)], args := [d1, d2, d3] }
  | _ => none }
def VoteAskWrongFalsely : Prop := voteAskRow.holds Tryz.pinned (OpenSpec.ofChange voteAskWrong)

/-- 'postillaw07.VoteNext': WHATEVER THE INPUT: true; the input reads as it did. -/
def voteNextSpec : ChangeSpec := { name := "voteNext", fn := fun _ => fun
  | [d1, d2] => { results := [.lit (.bool true)], args := [d1, d2] }
  | _ => none }
def voteNextRow : OpenClaim := { program := "ytfehdndlbfmblaagreatdoor", sum := "6fa2bba23a7be5ba16e5a9e90ee18842411fffbcfcd2cfd6947353bcb1ca8324", func := "postil/postillaw07.VoteNext", spec := "voteNext", inPlace := ["internal/bytealg.IndexByteString", "internal/bytealg.IndexString", "internal/bytealg.abigen_runtime_cmpstring"], unfollowed := true, recurses := true, named := ["unicode/utf8.first", "unicode/utf8.acceptRanges", "internal/bytealg.MaxLen"], plainKeys := false, apart := false, laid := [("unicode/utf8.acceptRanges", laid_unicode_utf8_acceptRanges), ("unicode/utf8.first", laid_unicode_utf8_first)] }
def VoteNextSaid : Prop := voteNextRow.holds Tryz.pinned (OpenSpec.ofChange voteNextSpec)

/-- ITS FALSE NEIGHBOUR: 'it returns false'. Refute it at one input. -/
def voteNextWrong : ChangeSpec := { name := "voteNext", fn := fun _ => fun
  | [d1, d2] => { results := [.lit (.bool false)], args := [d1, d2] }
  | _ => none }
def VoteNextWrongFalsely : Prop := voteNextRow.holds Tryz.pinned (OpenSpec.ofChange voteNextWrong)

/-- 'postillaw07.VoteSure': WHATEVER THE INPUT: true; the input reads as it did. -/
def voteSureSpec : ChangeSpec := { name := "voteSure", fn := fun _ => fun
  | [d1, d2] => { results := [.lit (.bool true)], args := [d1, d2] }
  | _ => none }
def voteSureRow : OpenClaim := { program := "ytfehdndlbfmblaagreatdoor", sum := "6fa2bba23a7be5ba16e5a9e90ee18842411fffbcfcd2cfd6947353bcb1ca8324", func := "postil/postillaw07.VoteSure", spec := "voteSure", inPlace := ["internal/bytealg.IndexByteString", "internal/bytealg.IndexString", "internal/bytealg.abigen_runtime_cmpstring"], unfollowed := true, recurses := true, named := ["unicode/utf8.first", "unicode/utf8.acceptRanges", "internal/bytealg.MaxLen"], plainKeys := false, apart := false, laid := [("unicode/utf8.acceptRanges", laid_unicode_utf8_acceptRanges), ("unicode/utf8.first", laid_unicode_utf8_first)] }
def VoteSureSaid : Prop := voteSureRow.holds Tryz.pinned (OpenSpec.ofChange voteSureSpec)

/-- ITS FALSE NEIGHBOUR: 'it returns false'. Refute it at one input. -/
def voteSureWrong : ChangeSpec := { name := "voteSure", fn := fun _ => fun
  | [d1, d2] => { results := [.lit (.bool false)], args := [d1, d2] }
  | _ => none }
def VoteSureWrongFalsely : Prop := voteSureRow.holds Tryz.pinned (OpenSpec.ofChange voteSureWrong)

/-- 'postillaw07.VoteOrder': WHATEVER THE INPUT: true; the input reads as it did. -/
def voteOrderSpec : ChangeSpec := { name := "voteOrder", fn := fun _ => fun
  | [d1, d2] => { results := [.lit (.bool true)], args := [d1, d2] }
  | _ => none }
def voteOrderRow : OpenClaim := { program := "ytfehdndlbfmblaagreatdoor", sum := "6fa2bba23a7be5ba16e5a9e90ee18842411fffbcfcd2cfd6947353bcb1ca8324", func := "postil/postillaw07.VoteOrder", spec := "voteOrder", inPlace := ["internal/bytealg.IndexByteString", "internal/bytealg.IndexString", "internal/bytealg.abigen_runtime_cmpstring"], unfollowed := true, recurses := true, named := ["unicode/utf8.first", "unicode/utf8.acceptRanges", "internal/bytealg.MaxLen"], plainKeys := false, apart := false, laid := [("unicode/utf8.acceptRanges", laid_unicode_utf8_acceptRanges), ("unicode/utf8.first", laid_unicode_utf8_first)] }
def VoteOrderSaid : Prop := voteOrderRow.holds Tryz.pinned (OpenSpec.ofChange voteOrderSpec)

/-- ITS FALSE NEIGHBOUR: 'it returns false'. Refute it at one input. -/
def voteOrderWrong : ChangeSpec := { name := "voteOrder", fn := fun _ => fun
  | [d1, d2] => { results := [.lit (.bool false)], args := [d1, d2] }
  | _ => none }
def VoteOrderWrongFalsely : Prop := voteOrderRow.holds Tryz.pinned (OpenSpec.ofChange voteOrderWrong)

/-- 'postillaw07.VoteWrongs': WHATEVER THE INPUT: true; the input reads as it did. -/
def voteWrongsSpec : ChangeSpec := { name := "voteWrongs", fn := fun _ => fun
  | [d1, d2] => { results := [.lit (.bool true)], args := [d1, d2] }
  | _ => none }
def voteWrongsRow : OpenClaim := { program := "ytfehdndlbfmblaagreatdoor", sum := "6fa2bba23a7be5ba16e5a9e90ee18842411fffbcfcd2cfd6947353bcb1ca8324", func := "postil/postillaw07.VoteWrongs", spec := "voteWrongs", inPlace := ["internal/bytealg.IndexByteString", "internal/bytealg.IndexString", "internal/bytealg.abigen_runtime_cmpstring"], unfollowed := true, recurses := true, named := ["unicode/utf8.first", "unicode/utf8.acceptRanges", "internal/bytealg.MaxLen"], plainKeys := false, apart := false, laid := [("unicode/utf8.acceptRanges", laid_unicode_utf8_acceptRanges), ("unicode/utf8.first", laid_unicode_utf8_first)] }
def VoteWrongsSaid : Prop := voteWrongsRow.holds Tryz.pinned (OpenSpec.ofChange voteWrongsSpec)

/-- ITS FALSE NEIGHBOUR: 'it returns false'. Refute it at one input. -/
def voteWrongsWrong : ChangeSpec := { name := "voteWrongs", fn := fun _ => fun
  | [d1, d2] => { results := [.lit (.bool false)], args := [d1, d2] }
  | _ => none }
def VoteWrongsWrongFalsely : Prop := voteWrongsRow.holds Tryz.pinned (OpenSpec.ofChange voteWrongsWrong)

/-- 'postillaw07.VoteTally': WHATEVER THE INPUT: true; the input reads as it did. -/
def voteTallySpec : ChangeSpec := { name := "voteTally", fn := fun _ => fun
  | [d1, d2] => { results := [.lit (.bool true)], args := [d1, d2] }
  | _ => none }
def voteTallyRow : OpenClaim := { program := "ytfehdndlbfmblaagreatdoor", sum := "6fa2bba23a7be5ba16e5a9e90ee18842411fffbcfcd2cfd6947353bcb1ca8324", func := "postil/postillaw07.VoteTally", spec := "voteTally", inPlace := ["internal/bytealg.IndexByteString", "internal/bytealg.IndexString", "internal/bytealg.abigen_runtime_cmpstring"], unfollowed := true, recurses := true, named := ["unicode/utf8.first", "unicode/utf8.acceptRanges", "internal/bytealg.MaxLen"], plainKeys := false, apart := false, laid := [("unicode/utf8.acceptRanges", laid_unicode_utf8_acceptRanges), ("unicode/utf8.first", laid_unicode_utf8_first)] }
def VoteTallySaid : Prop := voteTallyRow.holds Tryz.pinned (OpenSpec.ofChange voteTallySpec)

/-- ITS FALSE NEIGHBOUR: 'it returns false'. Refute it at one input. -/
def voteTallyWrong : ChangeSpec := { name := "voteTally", fn := fun _ => fun
  | [d1, d2] => { results := [.lit (.bool false)], args := [d1, d2] }
  | _ => none }
def VoteTallyWrongFalsely : Prop := voteTallyRow.holds Tryz.pinned (OpenSpec.ofChange voteTallyWrong)

/-- 'postillaw07.VoteFollow': WHATEVER THE INPUT: true; the input reads as it did. -/
def voteFollowSpec : ChangeSpec := { name := "voteFollow", fn := fun _ => fun
  | [d1, d2] => { results := [.lit (.bool true)], args := [d1, d2] }
  | _ => none }
def voteFollowRow : OpenClaim := { program := "ytfehdndlbfmblaagreatdoor", sum := "6fa2bba23a7be5ba16e5a9e90ee18842411fffbcfcd2cfd6947353bcb1ca8324", func := "postil/postillaw07.VoteFollow", spec := "voteFollow", inPlace := ["internal/bytealg.IndexByteString", "internal/bytealg.IndexString", "internal/bytealg.abigen_runtime_cmpstring"], unfollowed := true, recurses := true, named := ["unicode/utf8.first", "unicode/utf8.acceptRanges", "internal/bytealg.MaxLen"], plainKeys := false, apart := false, laid := [("unicode/utf8.acceptRanges", laid_unicode_utf8_acceptRanges), ("unicode/utf8.first", laid_unicode_utf8_first)] }
def VoteFollowSaid : Prop := voteFollowRow.holds Tryz.pinned (OpenSpec.ofChange voteFollowSpec)

/-- ITS FALSE NEIGHBOUR: 'it returns false'. Refute it at one input. -/
def voteFollowWrong : ChangeSpec := { name := "voteFollow", fn := fun _ => fun
  | [d1, d2] => { results := [.lit (.bool false)], args := [d1, d2] }
  | _ => none }
def VoteFollowWrongFalsely : Prop := voteFollowRow.holds Tryz.pinned (OpenSpec.ofChange voteFollowWrong)

/-- 'postillaw07.VoteUnder': WHATEVER THE INPUT: true; the input reads as it did. -/
def voteUnderSpec : ChangeSpec := { name := "voteUnder", fn := fun _ => fun
  | [d] => { results := [.lit (.bool true)], args := [d] }
  | _ => none }
def voteUnderRow : OpenClaim := { program := "ytfehdndlbfmblaagreatdoor", sum := "6fa2bba23a7be5ba16e5a9e90ee18842411fffbcfcd2cfd6947353bcb1ca8324", func := "postil/postillaw07.VoteUnder", spec := "voteUnder", inPlace := ["internal/bytealg.IndexByteString", "internal/bytealg.IndexString", "internal/bytealg.abigen_runtime_cmpstring"], unfollowed := true, recurses := true, named := ["unicode/utf8.first", "unicode/utf8.acceptRanges", "internal/bytealg.MaxLen"], plainKeys := false, apart := false, laid := [("unicode/utf8.acceptRanges", laid_unicode_utf8_acceptRanges), ("unicode/utf8.first", laid_unicode_utf8_first)] }
def VoteUnderSaid : Prop := voteUnderRow.holds Tryz.pinned (OpenSpec.ofChange voteUnderSpec)

/-- ITS FALSE NEIGHBOUR: 'it returns false'. Refute it at one input. -/
def voteUnderWrong : ChangeSpec := { name := "voteUnder", fn := fun _ => fun
  | [d] => { results := [.lit (.bool false)], args := [d] }
  | _ => none }
def VoteUnderWrongFalsely : Prop := voteUnderRow.holds Tryz.pinned (OpenSpec.ofChange voteUnderWrong)

/-- 'postillaw07.VoteMoot': WHATEVER THE INPUT: true; the input reads as it did. -/
def voteMootSpec : ChangeSpec := { name := "voteMoot", fn := fun _ => fun
  | [d] => { results := [.lit (.bool true)], args := [d] }
  | _ => none }
def voteMootRow : OpenClaim := { program := "ytfehdndlbfmblaagreatdoor", sum := "6fa2bba23a7be5ba16e5a9e90ee18842411fffbcfcd2cfd6947353bcb1ca8324", func := "postil/postillaw07.VoteMoot", spec := "voteMoot", inPlace := ["internal/bytealg.IndexByteString", "internal/bytealg.IndexString", "internal/bytealg.abigen_runtime_cmpstring"], unfollowed := true, recurses := true, named := ["unicode/utf8.first", "unicode/utf8.acceptRanges", "internal/bytealg.MaxLen"], plainKeys := false, apart := false, laid := [("unicode/utf8.acceptRanges", laid_unicode_utf8_acceptRanges), ("unicode/utf8.first", laid_unicode_utf8_first)] }
def VoteMootSaid : Prop := voteMootRow.holds Tryz.pinned (OpenSpec.ofChange voteMootSpec)

/-- ITS FALSE NEIGHBOUR: 'it returns false'. Refute it at one input. -/
def voteMootWrong : ChangeSpec := { name := "voteMoot", fn := fun _ => fun
  | [d] => { results := [.lit (.bool false)], args := [d] }
  | _ => none }
def VoteMootWrongFalsely : Prop := voteMootRow.holds Tryz.pinned (OpenSpec.ofChange voteMootWrong)

/- THE SECOND FORM. 'bulk': how many values and letters a reading holds, each counted each time it is reached (what is shared counts as often as it is met; a slice's spare places count too). A statement '..UptoSaid' is the law's where the arguments, and the package variables that the reading takes, are together of bulk at most 1048576: NARROWER than '..Said'. Prove '..Said' where nothing that the law and all that it calls make is longer than what came in: it says more and counts as full. Else prove '..UptoSaid'. A law counts once. -/
mutual
def uptoBulk {H : Type} : DataW H → Nat
  | .lit (.string bytes) => bytes.length + 1
  | .lit _ => 1
  | .nil => 1
  | .ptr d => uptoBulk d + 1
  | .slice elems spare => uptoBulkAll elems + uptoBulkAll spare + 1
  | .agg parts => uptoBulkAll parts + 1
  | .iface _ d => uptoBulk d + 1
  | .map entries => uptoBulkEntries entries + 1
  | .held _ => 1
def uptoBulkAll {H : Type} : List (DataW H) → Nat
  | [] => 0
  | d :: r => uptoBulk d + uptoBulkAll r
def uptoBulkEntries {H : Type} : List (Lit × DataW H) → Nat
  | [] => 0
  | x :: r => uptoBulkEntry x + uptoBulkEntries r
def uptoBulkEntry {H : Type} : Lit × DataW H → Nat
  | (.string bytes, d) => bytes.length + uptoBulk d + 1
  | (_, d) => uptoBulk d + 1
 end
def uptoSmall : (H : Type) → List (DataW H) → Bool := fun _ ds => decide (uptoBulkAll ds ≤ 1048576)
def OpenSpec.upto (s : _root_.Go.ChangeSpec) : _root_.Go.OpenSpec := { _root_.Go.OpenSpec.ofChange s with cond := some uptoSmall }

/-- 'postillaw07.VoteCounts', WHERE WHAT IT READS IS OF BULK AT MOST 1048576: true; the input reads as it did. -/
def voteCountsUptoRow : OpenClaim := { program := "ytfehdndlbfmblaagreatdoor", sum := "6fa2bba23a7be5ba16e5a9e90ee18842411fffbcfcd2cfd6947353bcb1ca8324", func := "postil/postillaw07.VoteCounts", spec := "voteCounts", inPlace := ["internal/bytealg.IndexByteString", "internal/bytealg.IndexString", "internal/bytealg.abigen_runtime_cmpstring"], unfollowed := true, recurses := true, named := ["unicode/utf8.first", "unicode/utf8.acceptRanges", "internal/bytealg.MaxLen"], plainKeys := false, apart := false, laid := [("unicode/utf8.acceptRanges", laid_unicode_utf8_acceptRanges), ("unicode/utf8.first", laid_unicode_utf8_first)], narrowed := true }
def VoteCountsUptoSaid : Prop := voteCountsUptoRow.holds Tryz.pinned (OpenSpec.upto voteCountsSpec)

/-- 'postillaw07.VoteTells', WHERE WHAT IT READS IS OF BULK AT MOST 1048576: true; the input reads as it did. -/
def voteTellsUptoRow : OpenClaim := { program := "ytfehdndlbfmblaagreatdoor", sum := "6fa2bba23a7be5ba16e5a9e90ee18842411fffbcfcd2cfd6947353bcb1ca8324", func := "postil/postillaw07.VoteTells", spec := "voteTells", inPlace := ["internal/bytealg.IndexByteString", "internal/bytealg.IndexString", "internal/bytealg.abigen_runtime_cmpstring"], unfollowed := true, recurses := true, named := ["unicode/utf8.first", "unicode/utf8.acceptRanges", "internal/bytealg.MaxLen"], plainKeys := false, apart := false, laid := [("unicode/utf8.acceptRanges", laid_unicode_utf8_acceptRanges), ("unicode/utf8.first", laid_unicode_utf8_first)], narrowed := true }
def VoteTellsUptoSaid : Prop := voteTellsUptoRow.holds Tryz.pinned (OpenSpec.upto voteTellsSpec)

/-- 'postillaw07.VoteDecides', WHERE WHAT IT READS IS OF BULK AT MOST 1048576: true; the input reads as it did. -/
def voteDecidesUptoRow : OpenClaim := { program := "ytfehdndlbfmblaagreatdoor", sum := "6fa2bba23a7be5ba16e5a9e90ee18842411fffbcfcd2cfd6947353bcb1ca8324", func := "postil/postillaw07.VoteDecides", spec := "voteDecides", inPlace := ["internal/bytealg.IndexByteString", "internal/bytealg.IndexString", "internal/bytealg.abigen_runtime_cmpstring"], unfollowed := true, recurses := true, named := ["unicode/utf8.first", "unicode/utf8.acceptRanges", "internal/bytealg.MaxLen"], plainKeys := false, apart := false, laid := [("unicode/utf8.acceptRanges", laid_unicode_utf8_acceptRanges), ("unicode/utf8.first", laid_unicode_utf8_first)], narrowed := true }
def VoteDecidesUptoSaid : Prop := voteDecidesUptoRow.holds Tryz.pinned (OpenSpec.upto voteDecidesSpec)

/-- 'postillaw07.VoteExamples', WHERE WHAT IT READS IS OF BULK AT MOST 1048576: true; the input reads as it did. -/
def voteExamplesUptoRow : OpenClaim := { program := "ytfehdndlbfmblaagreatdoor", sum := "6fa2bba23a7be5ba16e5a9e90ee18842411fffbcfcd2cfd6947353bcb1ca8324", func := "postil/postillaw07.VoteExamples", spec := "voteExamples", inPlace := ["internal/bytealg.IndexByteString", "internal/bytealg.IndexString", "internal/bytealg.abigen_runtime_cmpstring"], unfollowed := true, recurses := true, named := ["unicode/utf8.first", "unicode/utf8.acceptRanges", "internal/bytealg.MaxLen"], plainKeys := false, apart := false, laid := [("unicode/utf8.acceptRanges", laid_unicode_utf8_acceptRanges), ("unicode/utf8.first", laid_unicode_utf8_first)], narrowed := true }
def VoteExamplesUptoSaid : Prop := voteExamplesUptoRow.holds Tryz.pinned (OpenSpec.upto voteExamplesSpec)

/-- 'postillaw07.VoteTrue', WHERE WHAT IT READS IS OF BULK AT MOST 1048576: true; the input reads as it did. -/
def voteTrueUptoRow : OpenClaim := { program := "ytfehdndlbfmblaagreatdoor", sum := "6fa2bba23a7be5ba16e5a9e90ee18842411fffbcfcd2cfd6947353bcb1ca8324", func := "postil/postillaw07.VoteTrue", spec := "voteTrue", inPlace := ["internal/bytealg.IndexByteString", "internal/bytealg.IndexString", "internal/bytealg.abigen_runtime_cmpstring"], unfollowed := true, recurses := true, named := ["unicode/utf8.first", "unicode/utf8.acceptRanges", "internal/bytealg.MaxLen"], plainKeys := false, apart := false, laid := [("unicode/utf8.acceptRanges", laid_unicode_utf8_acceptRanges), ("unicode/utf8.first", laid_unicode_utf8_first)], narrowed := true }
def VoteTrueUptoSaid : Prop := voteTrueUptoRow.holds Tryz.pinned (OpenSpec.upto voteTrueSpec)

/-- 'postillaw07.VoteEnds', WHERE WHAT IT READS IS OF BULK AT MOST 1048576: true; the input reads as it did. -/
def voteEndsUptoRow : OpenClaim := { program := "ytfehdndlbfmblaagreatdoor", sum := "6fa2bba23a7be5ba16e5a9e90ee18842411fffbcfcd2cfd6947353bcb1ca8324", func := "postil/postillaw07.VoteEnds", spec := "voteEnds", inPlace := ["internal/bytealg.IndexByteString", "internal/bytealg.IndexString", "internal/bytealg.abigen_runtime_cmpstring"], unfollowed := true, recurses := true, named := ["unicode/utf8.first", "unicode/utf8.acceptRanges", "internal/bytealg.MaxLen"], plainKeys := false, apart := false, laid := [("unicode/utf8.acceptRanges", laid_unicode_utf8_acceptRanges), ("unicode/utf8.first", laid_unicode_utf8_first)], narrowed := true }
def VoteEndsUptoSaid : Prop := voteEndsUptoRow.holds Tryz.pinned (OpenSpec.upto voteEndsSpec)

/-- 'postillaw07.VoteMore', WHERE WHAT IT READS IS OF BULK AT MOST 1048576: true; the input reads as it did. -/
def voteMoreUptoRow : OpenClaim := { program := "ytfehdndlbfmblaagreatdoor", sum := "6fa2bba23a7be5ba16e5a9e90ee18842411fffbcfcd2cfd6947353bcb1ca8324", func := "postil/postillaw07.VoteMore", spec := "voteMore", inPlace := ["internal/bytealg.IndexByteString", "internal/bytealg.IndexString", "internal/bytealg.abigen_runtime_cmpstring"], unfollowed := true, recurses := true, named := ["unicode/utf8.first", "unicode/utf8.acceptRanges", "internal/bytealg.MaxLen"], plainKeys := false, apart := false, laid := [("unicode/utf8.acceptRanges", laid_unicode_utf8_acceptRanges), ("unicode/utf8.first", laid_unicode_utf8_first)], narrowed := true }
def VoteMoreUptoSaid : Prop := voteMoreUptoRow.holds Tryz.pinned (OpenSpec.upto voteMoreSpec)

/-- 'postillaw07.VoteAsk', WHERE WHAT IT READS IS OF BULK AT MOST 1048576: true; the input reads as it did. -/
def voteAskUptoRow : OpenClaim := { program := "ytfehdndlbfmblaagreatdoor", sum := "6fa2bba23a7be5ba16e5a9e90ee18842411fffbcfcd2cfd6947353bcb1ca8324", func := "postil/postillaw07.VoteAsk", spec := "voteAsk", inPlace := ["internal/bytealg.IndexByteString", "internal/bytealg.IndexString", "internal/bytealg.abigen_runtime_cmpstring"], unfollowed := true, recurses := true, named := ["unicode/utf8.first", "unicode/utf8.acceptRanges", "internal/bytealg.MaxLen"], plainKeys := false, apart := false, laid := [("unicode/utf8.acceptRanges", laid_unicode_utf8_acceptRanges), ("unicode/utf8.first", laid_unicode_utf8_first)], narrowed := true }
def VoteAskUptoSaid : Prop := voteAskUptoRow.holds Tryz.pinned (OpenSpec.upto voteAskSpec)

/-- 'postillaw07.VoteNext', WHERE WHAT IT READS IS OF BULK AT MOST 1048576: true; the input reads as it did. -/
def voteNextUptoRow : OpenClaim := { program := "ytfehdndlbfmblaagreatdoor", sum := "6fa2bba23a7be5ba16e5a9e90ee18842411fffbcfcd2cfd6947353bcb1ca8324", func := "postil/postillaw07.VoteNext", spec := "voteNext", inPlace := ["internal/bytealg.IndexByteString", "internal/bytealg.IndexString", "internal/bytealg.abigen_runtime_cmpstring"], unfollowed := true, recurses := true, named := ["unicode/utf8.first", "unicode/utf8.acceptRanges", "internal/bytealg.MaxLen"], plainKeys := false, apart := false, laid := [("unicode/utf8.acceptRanges", laid_unicode_utf8_acceptRanges), ("unicode/utf8.first", laid_unicode_utf8_first)], narrowed := true }
def VoteNextUptoSaid : Prop := voteNextUptoRow.holds Tryz.pinned (OpenSpec.upto voteNextSpec)

/-- 'postillaw07.VoteSure', WHERE WHAT IT READS IS OF BULK AT MOST 1048576: true; the input reads as it did. -/
def voteSureUptoRow : OpenClaim := { program := "ytfehdndlbfmblaagreatdoor", sum := "6fa2bba23a7be5ba16e5a9e90ee18842411fffbcfcd2cfd6947353bcb1ca8324", func := "postil/postillaw07.VoteSure", spec := "voteSure", inPlace := ["internal/bytealg.IndexByteString", "internal/bytealg.IndexString", "internal/bytealg.abigen_runtime_cmpstring"], unfollowed := true, recurses := true, named := ["unicode/utf8.first", "unicode/utf8.acceptRanges", "internal/bytealg.MaxLen"], plainKeys := false, apart := false, laid := [("unicode/utf8.acceptRanges", laid_unicode_utf8_acceptRanges), ("unicode/utf8.first", laid_unicode_utf8_first)], narrowed := true }
def VoteSureUptoSaid : Prop := voteSureUptoRow.holds Tryz.pinned (OpenSpec.upto voteSureSpec)

/-- 'postillaw07.VoteOrder', WHERE WHAT IT READS IS OF BULK AT MOST 1048576: true; the input reads as it did. -/
def voteOrderUptoRow : OpenClaim := { program := "ytfehdndlbfmblaagreatdoor", sum := "6fa2bba23a7be5ba16e5a9e90ee18842411fffbcfcd2cfd6947353bcb1ca8324", func := "postil/postillaw07.VoteOrder", spec := "voteOrder", inPlace := ["internal/bytealg.IndexByteString", "internal/bytealg.IndexString", "internal/bytealg.abigen_runtime_cmpstring"], unfollowed := true, recurses := true, named := ["unicode/utf8.first", "unicode/utf8.acceptRanges", "internal/bytealg.MaxLen"], plainKeys := false, apart := false, laid := [("unicode/utf8.acceptRanges", laid_unicode_utf8_acceptRanges), ("unicode/utf8.first", laid_unicode_utf8_first)], narrowed := true }
def VoteOrderUptoSaid : Prop := voteOrderUptoRow.holds Tryz.pinned (OpenSpec.upto voteOrderSpec)

/-- 'postillaw07.VoteWrongs', WHERE WHAT IT READS IS OF BULK AT MOST 1048576: true; the input reads as it did. -/
def voteWrongsUptoRow : OpenClaim := { program := "ytfehdndlbfmblaagreatdoor", sum := "6fa2bba23a7be5ba16e5a9e90ee18842411fffbcfcd2cfd6947353bcb1ca8324", func := "postil/postillaw07.VoteWrongs", spec := "voteWrongs", inPlace := ["internal/bytealg.IndexByteString", "internal/bytealg.IndexString", "internal/bytealg.abigen_runtime_cmpstring"], unfollowed := true, recurses := true, named := ["unicode/utf8.first", "unicode/utf8.acceptRanges", "internal/bytealg.MaxLen"], plainKeys := false, apart := false, laid := [("unicode/utf8.acceptRanges", laid_unicode_utf8_acceptRanges), ("unicode/utf8.first", laid_unicode_utf8_first)], narrowed := true }
def VoteWrongsUptoSaid : Prop := voteWrongsUptoRow.holds Tryz.pinned (OpenSpec.upto voteWrongsSpec)

/-- 'postillaw07.VoteTally', WHERE WHAT IT READS IS OF BULK AT MOST 1048576: true; the input reads as it did. -/
def voteTallyUptoRow : OpenClaim := { program := "ytfehdndlbfmblaagreatdoor", sum := "6fa2bba23a7be5ba16e5a9e90ee18842411fffbcfcd2cfd6947353bcb1ca8324", func := "postil/postillaw07.VoteTally", spec := "voteTally", inPlace := ["internal/bytealg.IndexByteString", "internal/bytealg.IndexString", "internal/bytealg.abigen_runtime_cmpstring"], unfollowed := true, recurses := true, named := ["unicode/utf8.first", "unicode/utf8.acceptRanges", "internal/bytealg.MaxLen"], plainKeys := false, apart := false, laid := [("unicode/utf8.acceptRanges", laid_unicode_utf8_acceptRanges), ("unicode/utf8.first", laid_unicode_utf8_first)], narrowed := true }
def VoteTallyUptoSaid : Prop := voteTallyUptoRow.holds Tryz.pinned (OpenSpec.upto voteTallySpec)

/-- 'postillaw07.VoteFollow', WHERE WHAT IT READS IS OF BULK AT MOST 1048576: true; the input reads as it did. -/
def voteFollowUptoRow : OpenClaim := { program := "ytfehdndlbfmblaagreatdoor", sum := "6fa2bba23a7be5ba16e5a9e90ee18842411fffbcfcd2cfd6947353bcb1ca8324", func := "postil/postillaw07.VoteFollow", spec := "voteFollow", inPlace := ["internal/bytealg.IndexByteString", "internal/bytealg.IndexString", "internal/bytealg.abigen_runtime_cmpstring"], unfollowed := true, recurses := true, named := ["unicode/utf8.first", "unicode/utf8.acceptRanges", "internal/bytealg.MaxLen"], plainKeys := false, apart := false, laid := [("unicode/utf8.acceptRanges", laid_unicode_utf8_acceptRanges), ("unicode/utf8.first", laid_unicode_utf8_first)], narrowed := true }
def VoteFollowUptoSaid : Prop := voteFollowUptoRow.holds Tryz.pinned (OpenSpec.upto voteFollowSpec)

/-- 'postillaw07.VoteUnder', WHERE WHAT IT READS IS OF BULK AT MOST 1048576: true; the input reads as it did. -/
def voteUnderUptoRow : OpenClaim := { program := "ytfehdndlbfmblaagreatdoor", sum := "6fa2bba23a7be5ba16e5a9e90ee18842411fffbcfcd2cfd6947353bcb1ca8324", func := "postil/postillaw07.VoteUnder", spec := "voteUnder", inPlace := ["internal/bytealg.IndexByteString", "internal/bytealg.IndexString", "internal/bytealg.abigen_runtime_cmpstring"], unfollowed := true, recurses := true, named := ["unicode/utf8.first", "unicode/utf8.acceptRanges", "internal/bytealg.MaxLen"], plainKeys := false, apart := false, laid := [("unicode/utf8.acceptRanges", laid_unicode_utf8_acceptRanges), ("unicode/utf8.first", laid_unicode_utf8_first)], narrowed := true }
def VoteUnderUptoSaid : Prop := voteUnderUptoRow.holds Tryz.pinned (OpenSpec.upto voteUnderSpec)

/-- 'postillaw07.VoteMoot', WHERE WHAT IT READS IS OF BULK AT MOST 1048576: true; the input reads as it did. -/
def voteMootUptoRow : OpenClaim := { program := "ytfehdndlbfmblaagreatdoor", sum := "6fa2bba23a7be5ba16e5a9e90ee18842411fffbcfcd2cfd6947353bcb1ca8324", func := "postil/postillaw07.VoteMoot", spec := "voteMoot", inPlace := ["internal/bytealg.IndexByteString", "internal/bytealg.IndexString", "internal/bytealg.abigen_runtime_cmpstring"], unfollowed := true, recurses := true, named := ["unicode/utf8.first", "unicode/utf8.acceptRanges", "internal/bytealg.MaxLen"], plainKeys := false, apart := false, laid := [("unicode/utf8.acceptRanges", laid_unicode_utf8_acceptRanges), ("unicode/utf8.first", laid_unicode_utf8_first)], narrowed := true }
def VoteMootUptoSaid : Prop := voteMootUptoRow.holds Tryz.pinned (OpenSpec.upto voteMootSpec)

end Rows
end Go.Proofs.YtfehdndlbfmblaaGreatDoor
