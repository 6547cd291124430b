/-
  No cell of these rows narrows 'for every input' (looked for: loops, veiled, ifaces, maps, wideKeys, modest, calm, conditions, laid).
  DERIVED. THE GIVEN ROWS OF THIS SEAT. 3 by the template 'for every input the law returns true; each argument reads behind the call as it read before'; 0 by the template 'total and deterministic' (their statements: YtgilgdjnokpeoaaTotals.lean).
  GIVEN WITH THE SEED: the statements are not yours to turn. If you find one false, say at which input.
  Laid BY PROGRAM, IN A SANDBOX (cutbox-rows.mjs): the forced cells as the released guide's own fill.sh prints them over the translation 10de4fab55186180… (all of the seat's roots in one cut). By AI agents, Wed Nov 11 2026. No macro, syntax, notation, axiom, sorry.
-/
import Derived.Test.YtgilgdjnokpeoaaChecked
import GoSem.Claim
import GoSem.ClaimJoined
import GoSem.ClaimMapViews
import Derived.JoinedTies
import Derived.KernelRfl
namespace Go.Proofs.Ytgilgdjnokpeoaa
/- THE CELL 'sum', in the pinned program and in every row, IS THE sha256 OF THE DUMP (.gsa) THAT YtgilgdjnokpeoaaProg.lean LOADS. Nothing in Lean hashes anything: it is a label: what it is worth is what the hold of that sum in a sandbox is worth. -/
noncomputable def Try.pinned : Pinned := { name := "ytgilgdjnokpeoaa", sum := "10de4fab5518618071c64420fce7431b89f6b25d61ea15cb32107f92df21ccd2", checked := Try.checked }
namespace Rows
def none {H : Type} : Left H := { results := [], args := [] }

/-- 'postillaw11.SheafBytes': WHATEVER THE INPUT: true; the input reads as it did. -/
def sheafBytesSpec : ChangeSpec := { name := "sheafBytes", fn := fun _ => fun
  | [d1, d2] => { results := [.lit (.bool true)], args := [d1, d2] }
  | _ => none }
def sheafBytesRow : OpenClaim := { program := "ytgilgdjnokpeoaa", sum := "10de4fab5518618071c64420fce7431b89f6b25d61ea15cb32107f92df21ccd2", func := "postil/postillaw11.SheafBytes", spec := "sheafBytes", inPlace := ["internal/abi.NoEscape", "internal/bytealg.IndexByteString"], unfollowed := true, recurses := true, apart := false }
def SheafBytesSaid : Prop := sheafBytesRow.holds Try.pinned (OpenSpec.ofChange sheafBytesSpec)

/-- ITS FALSE NEIGHBOUR: 'it returns false'. Refute it at one input. -/
def sheafBytesWrong : ChangeSpec := { name := "sheafBytes", fn := fun _ => fun
  | [d1, d2] => { results := [.lit (.bool false)], args := [d1, d2] }
  | _ => none }
def SheafBytesWrongFalsely : Prop := sheafBytesRow.holds Try.pinned (OpenSpec.ofChange sheafBytesWrong)

/-- 'postillaw11.SheafMerges': WHATEVER THE INPUT: true; the input reads as it did. -/
def sheafMergesSpec : ChangeSpec := { name := "sheafMerges", fn := fun _ => fun
  | [d1, d2, d3] => { results := [.lit (.bool true)], args := [d1, d2, d3] }
  | _ => none }
def sheafMergesRow : OpenClaim := { program := "ytgilgdjnokpeoaa", sum := "10de4fab5518618071c64420fce7431b89f6b25d61ea15cb32107f92df21ccd2", func := "postil/postillaw11.SheafMerges", spec := "sheafMerges", unfollowed := true, recurses := true, apart := false }
def SheafMergesSaid : Prop := sheafMergesRow.holds Try.pinned (OpenSpec.ofChange sheafMergesSpec)

/-- ITS FALSE NEIGHBOUR: 'it returns false'. Refute it at one input. -/
def sheafMergesWrong : ChangeSpec := { name := "sheafMerges", fn := fun _ => fun
  | [d1, d2, d3] => { results := [.lit (.bool false)], args := [d1, d2, d3] }
  | _ => none }
def SheafMergesWrongFalsely : Prop := sheafMergesRow.holds Try.pinned (OpenSpec.ofChange sheafMergesWrong)

/-- 'postillaw11.SheafShelves': WHATEVER THE INPUT: true; the input reads as it did. -/
def sheafShelvesSpec : ChangeSpec := { name := "sheafShelves", fn := fun _ => fun
  | [d1, d2, d3] => { results := [.lit (.bool true)], args := [d1, d2, d3] }
  | _ => none }
def sheafShelvesRow : OpenClaim := { program := "ytgilgdjnokpeoaa", sum := "10de4fab5518618071c64420fce7431b89f6b25d61ea15cb32107f92df21ccd2", func := "postil/postillaw11.SheafShelves", spec := "sheafShelves", unfollowed := true, recurses := true, apart := false }
def SheafShelvesSaid : Prop := sheafShelvesRow.holds Try.pinned (OpenSpec.ofChange sheafShelvesSpec)

/-- ITS FALSE NEIGHBOUR: 'it returns false'. Refute it at one input. -/
def sheafShelvesWrong : ChangeSpec := { name := "sheafShelves", fn := fun _ => fun
  | [d1, d2, d3] => { results := [.lit (.bool false)], args := [d1, d2, d3] }
  | _ => none }
def SheafShelvesWrongFalsely : Prop := sheafShelvesRow.holds Try.pinned (OpenSpec.ofChange sheafShelvesWrong)

/- THE SECOND FORM. 'bulk': how many values and letters a reading holds, each counted each time it is reached (what is shared counts as often as it is met; a slice's spare places count too). A statement '..UptoSaid' is the law's where the arguments, and the package variables that the reading takes, are together of bulk at most 1048576: NARROWER than '..Said'. Prove '..Said' where nothing that the law and all that it calls make is longer than what came in: it says more and counts as full. Else prove '..UptoSaid'. A law counts once. -/
mutual
def uptoBulk {H : Type} : DataW H → Nat
  | .lit (.string bytes) => bytes.length + 1
  | .lit _ => 1
  | .nil => 1
  | .ptr d => uptoBulk d + 1
  | .slice elems spare => uptoBulkAll elems + uptoBulkAll spare + 1
  | .agg parts => uptoBulkAll parts + 1
  | .iface _ d => uptoBulk d + 1
  | .map entries => uptoBulkEntries entries + 1
  | .held _ => 1
def uptoBulkAll {H : Type} : List (DataW H) → Nat
  | [] => 0
  | d :: r => uptoBulk d + uptoBulkAll r
def uptoBulkEntries {H : Type} : List (Lit × DataW H) → Nat
  | [] => 0
  | x :: r => uptoBulkEntry x + uptoBulkEntries r
def uptoBulkEntry {H : Type} : Lit × DataW H → Nat
  | (.string bytes, d) => bytes.length + uptoBulk d + 1
  | (_, d) => uptoBulk d + 1
 end
def uptoSmall : (H : Type) → List (DataW H) → Bool := fun _ ds => decide (uptoBulkAll ds ≤ 1048576)
def OpenSpec.upto (s : _root_.Go.ChangeSpec) : _root_.Go.OpenSpec := { _root_.Go.OpenSpec.ofChange s with cond := some uptoSmall }

/-- 'postillaw11.SheafBytes', WHERE WHAT IT READS IS OF BULK AT MOST 1048576: true; the input reads as it did. -/
def sheafBytesUptoRow : OpenClaim := { program := "ytgilgdjnokpeoaa", sum := "10de4fab5518618071c64420fce7431b89f6b25d61ea15cb32107f92df21ccd2", func := "postil/postillaw11.SheafBytes", spec := "sheafBytes", inPlace := ["internal/abi.NoEscape", "internal/bytealg.IndexByteString"], unfollowed := true, recurses := true, apart := false, narrowed := true }
def SheafBytesUptoSaid : Prop := sheafBytesUptoRow.holds Try.pinned (OpenSpec.upto sheafBytesSpec)

/-- 'postillaw11.SheafMerges', WHERE WHAT IT READS IS OF BULK AT MOST 1048576: true; the input reads as it did. -/
def sheafMergesUptoRow : OpenClaim := { program := "ytgilgdjnokpeoaa", sum := "10de4fab5518618071c64420fce7431b89f6b25d61ea15cb32107f92df21ccd2", func := "postil/postillaw11.SheafMerges", spec := "sheafMerges", unfollowed := true, recurses := true, apart := false, narrowed := true }
def SheafMergesUptoSaid : Prop := sheafMergesUptoRow.holds Try.pinned (OpenSpec.upto sheafMergesSpec)

/-- 'postillaw11.SheafShelves', WHERE WHAT IT READS IS OF BULK AT MOST 1048576: true; the input reads as it did. -/
def sheafShelvesUptoRow : OpenClaim := { program := "ytgilgdjnokpeoaa", sum := "10de4fab5518618071c64420fce7431b89f6b25d61ea15cb32107f92df21ccd2", func := "postil/postillaw11.SheafShelves", spec := "sheafShelves", unfollowed := true, recurses := true, apart := false, narrowed := true }
def SheafShelvesUptoSaid : Prop := sheafShelvesUptoRow.holds Try.pinned (OpenSpec.upto sheafShelvesSpec)

end Rows
end Go.Proofs.Ytgilgdjnokpeoaa
