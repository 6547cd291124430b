/-
  No cell of these rows narrows 'for every input' (looked for: loops, veiled, ifaces, maps, wideKeys, modest, calm, conditions, laid).
  DERIVED. THE GIVEN ROWS OF THIS SEAT. 9 by the template 'for every input the law returns true; each argument reads behind the call as it read before'; 0 by the template 'total and deterministic' (their statements: YtfghfkjjikodnaaGreatTotals.lean).
  GIVEN WITH THE SEED: the statements are not yours to turn. If you find one false, say at which input.
  Laid BY PROGRAM, IN A SANDBOX (cutbox-rows.mjs): the forced cells as the released guide's own fill.sh prints them over the translation 887af5ccdfe2dc7c… (all of the seat's roots in one cut). By AI agents, Wed Nov 11 2026. No macro, syntax, notation, axiom, sorry.
-/
import Derived.Test.YtfghfkjjikodnaaGreatChecked
import GoSem.Claim
import GoSem.ClaimJoined
import GoSem.ClaimMapViews
import Derived.JoinedTies
import Derived.KernelRfl
namespace Go.Proofs.YtfghfkjjikodnaaGreat
/- THE CELL 'sum', in the pinned program and in every row, IS THE sha256 OF THE DUMP (.gsa) THAT YtfghfkjjikodnaaGreatProg.lean LOADS. Nothing in Lean hashes anything: it is a label: what it is worth is what the hold of that sum in a sandbox is worth. -/
noncomputable def Tryz.pinned : Pinned := { name := "ytfghfkjjikodnaagreat", sum := "887af5ccdfe2dc7ce52bcb327f02232ddf7c0c7ba835e6470c9707392494ee46", checked := Tryz.checked }
namespace Rows
def none {H : Type} : Left H := { results := [], args := [] }

/-- 'postillaw01.LeafNumbers': WHATEVER THE INPUT: true; the input reads as it did. -/
def leafNumbersSpec : ChangeSpec := { name := "leafNumbers", fn := fun _ => fun
  | [d1, d2, d3] => { results := [.lit (.bool true)], args := [d1, d2, d3] }
  | _ => none }
def leafNumbersRow : OpenClaim := { program := "ytfghfkjjikodnaagreat", sum := "887af5ccdfe2dc7ce52bcb327f02232ddf7c0c7ba835e6470c9707392494ee46", func := "postil/postillaw01.LeafNumbers", spec := "leafNumbers", inPlace := ["internal/bytealg.abigen_runtime_cmpstring"], unfollowed := true, recurses := true, apart := false }
def LeafNumbersSaid : Prop := leafNumbersRow.holds Tryz.pinned (OpenSpec.ofChange leafNumbersSpec)

/-- ITS FALSE NEIGHBOUR: 'it returns false'. Refute it at one input. -/
def leafNumbersWrong : ChangeSpec := { name := "leafNumbers", fn := fun _ => fun
  | [d1, d2, d3] => { results := [.lit (.bool false)], args := [d1, d2, d3] }
  | _ => none }
def LeafNumbersWrongFalsely : Prop := leafNumbersRow.holds Tryz.pinned (OpenSpec.ofChange leafNumbersWrong)

/-- 'postillaw01.LeafPlaces': WHATEVER THE INPUT: true; the input reads as it did. -/
def leafPlacesSpec : ChangeSpec := { name := "leafPlaces", fn := fun _ => fun
  | [d1, d2] => { results := [.lit (.bool true)], args := [d1, d2] }
  | _ => none }
def leafPlacesRow : OpenClaim := { program := "ytfghfkjjikodnaagreat", sum := "887af5ccdfe2dc7ce52bcb327f02232ddf7c0c7ba835e6470c9707392494ee46", func := "postil/postillaw01.LeafPlaces", spec := "leafPlaces", inPlace := ["internal/bytealg.abigen_runtime_cmpstring"], unfollowed := true, recurses := true, apart := false }
def LeafPlacesSaid : Prop := leafPlacesRow.holds Tryz.pinned (OpenSpec.ofChange leafPlacesSpec)

/-- ITS FALSE NEIGHBOUR: 'it returns false'. Refute it at one input. -/
def leafPlacesWrong : ChangeSpec := { name := "leafPlaces", fn := fun _ => fun
  | [d1, d2] => { results := [.lit (.bool false)], args := [d1, d2] }
  | _ => none }
def LeafPlacesWrongFalsely : Prop := leafPlacesRow.holds Tryz.pinned (OpenSpec.ofChange leafPlacesWrong)

/-- 'postillaw01.LeafFound': WHATEVER THE INPUT: true; the input reads as it did. -/
def leafFoundSpec : ChangeSpec := { name := "leafFound", fn := fun _ => fun
  | [d1, d2, d3] => { results := [.lit (.bool true)], args := [d1, d2, d3] }
  | _ => none }
def leafFoundRow : OpenClaim := { program := "ytfghfkjjikodnaagreat", sum := "887af5ccdfe2dc7ce52bcb327f02232ddf7c0c7ba835e6470c9707392494ee46", func := "postil/postillaw01.LeafFound", spec := "leafFound", inPlace := ["internal/bytealg.abigen_runtime_cmpstring"], unfollowed := true, recurses := true, apart := false }
def LeafFoundSaid : Prop := leafFoundRow.holds Tryz.pinned (OpenSpec.ofChange leafFoundSpec)

/-- ITS FALSE NEIGHBOUR: 'it returns false'. Refute it at one input. -/
def leafFoundWrong : ChangeSpec := { name := "leafFound", fn := fun _ => fun
  | [d1, d2, d3] => { results := [.lit (.bool false)], args := [d1, d2, d3] }
  | _ => none }
def LeafFoundWrongFalsely : Prop := leafFoundRow.holds Tryz.pinned (OpenSpec.ofChange leafFoundWrong)

/-- 'postillaw01.LeafFewest': WHATEVER THE INPUT: true; the input reads as it did. -/
def leafFewestSpec : ChangeSpec := { name := "leafFewest", fn := fun _ => fun
  | [d1, d2] => { results := [.lit (.bool true)], args := [d1, d2] }
  | _ => none }
def leafFewestRow : OpenClaim := { program := "ytfghfkjjikodnaagreat", sum := "887af5ccdfe2dc7ce52bcb327f02232ddf7c0c7ba835e6470c9707392494ee46", func := "postil/postillaw01.LeafFewest", spec := "leafFewest", inPlace := ["internal/bytealg.abigen_runtime_cmpstring"], unfollowed := true, recurses := true, apart := false }
def LeafFewestSaid : Prop := leafFewestRow.holds Tryz.pinned (OpenSpec.ofChange leafFewestSpec)

/-- ITS FALSE NEIGHBOUR: 'it returns false'. Refute it at one input. -/
def leafFewestWrong : ChangeSpec := { name := "leafFewest", fn := fun _ => fun
  | [d1, d2] => { results := [.lit (.bool false)], args := [d1, d2] }
  | _ => none }
def LeafFewestWrongFalsely : Prop := leafFewestRow.holds Tryz.pinned (OpenSpec.ofChange leafFewestWrong)

/-- 'postillaw01.LeafApart': WHATEVER THE INPUT: true; the input reads as it did. -/
def leafApartSpec : ChangeSpec := { name := "leafApart", fn := fun _ => fun
  | [d1, d2, d3] => { results := [.lit (.bool true)], args := [d1, d2, d3] }
  | _ => none }
def leafApartRow : OpenClaim := { program := "ytfghfkjjikodnaagreat", sum := "887af5ccdfe2dc7ce52bcb327f02232ddf7c0c7ba835e6470c9707392494ee46", func := "postil/postillaw01.LeafApart", spec := "leafApart", inPlace := ["internal/bytealg.abigen_runtime_cmpstring"], unfollowed := true, recurses := true, apart := false }
def LeafApartSaid : Prop := leafApartRow.holds Tryz.pinned (OpenSpec.ofChange leafApartSpec)

/-- ITS FALSE NEIGHBOUR: 'it returns false'. Refute it at one input. -/
def leafApartWrong : ChangeSpec := { name := "leafApart", fn := fun _ => fun
  | [d1, d2, d3] => { results := [.lit (.bool false)], args := [d1, d2, d3] }
  | _ => none }
def LeafApartWrongFalsely : Prop := leafApartRow.holds Tryz.pinned (OpenSpec.ofChange leafApartWrong)

/-- 'postillaw01.LeafStands': WHATEVER THE INPUT: true; the input reads as it did. -/
def leafStandsSpec : ChangeSpec := { name := "leafStands", fn := fun _ => fun
  | [d1, d2] => { results := [.lit (.bool true)], args := [d1, d2] }
  | _ => none }
def leafStandsRow : OpenClaim := { program := "ytfghfkjjikodnaagreat", sum := "887af5ccdfe2dc7ce52bcb327f02232ddf7c0c7ba835e6470c9707392494ee46", func := "postil/postillaw01.LeafStands", spec := "leafStands", inPlace := ["internal/bytealg.abigen_runtime_cmpstring"], unfollowed := true, recurses := true, apart := false }
def LeafStandsSaid : Prop := leafStandsRow.holds Tryz.pinned (OpenSpec.ofChange leafStandsSpec)

/-- ITS FALSE NEIGHBOUR: 'it returns false'. Refute it at one input. -/
def leafStandsWrong : ChangeSpec := { name := "leafStands", fn := fun _ => fun
  | [d1, d2] => { results := [.lit (.bool false)], args := [d1, d2] }
  | _ => none }
def LeafStandsWrongFalsely : Prop := leafStandsRow.holds Tryz.pinned (OpenSpec.ofChange leafStandsWrong)

/-- 'postillaw01.LeafDoubt': WHATEVER THE INPUT: true; the input reads as it did. -/
def leafDoubtSpec : ChangeSpec := { name := "leafDoubt", fn := fun _ => fun
  | [d1, d2, d3] => { results := [.lit (.bool true)], args := [d1, d2, d3] }
  | _ => none }
def leafDoubtRow : OpenClaim := { program := "ytfghfkjjikodnaagreat", sum := "887af5ccdfe2dc7ce52bcb327f02232ddf7c0c7ba835e6470c9707392494ee46", func := "postil/postillaw01.LeafDoubt", spec := "leafDoubt", inPlace := ["internal/bytealg.abigen_runtime_cmpstring"], unfollowed := true, recurses := true, apart := false }
def LeafDoubtSaid : Prop := leafDoubtRow.holds Tryz.pinned (OpenSpec.ofChange leafDoubtSpec)

/-- ITS FALSE NEIGHBOUR: 'it returns false'. Refute it at one input. -/
def leafDoubtWrong : ChangeSpec := { name := "leafDoubt", fn := fun _ => fun
  | [d1, d2, d3] => { results := [.lit (.bool false)], args := [d1, d2, d3] }
  | _ => none }
def LeafDoubtWrongFalsely : Prop := leafDoubtRow.holds Tryz.pinned (OpenSpec.ofChange leafDoubtWrong)

/-- 'postillaw01.LeafOrder': WHATEVER THE INPUT: true; the input reads as it did. -/
def leafOrderSpec : ChangeSpec := { name := "leafOrder", fn := fun _ => fun
  | [d1, d2, d3, d4] => { results := [.lit (.bool true)], args := [d1, d2, d3, d4] }
  | _ => none }
def leafOrderRow : OpenClaim := { program := "ytfghfkjjikodnaagreat", sum := "887af5ccdfe2dc7ce52bcb327f02232ddf7c0c7ba835e6470c9707392494ee46", func := "postil/postillaw01.LeafOrder", spec := "leafOrder", inPlace := ["internal/bytealg.abigen_runtime_cmpstring"], unfollowed := true, recurses := true, apart := false }
def LeafOrderSaid : Prop := leafOrderRow.holds Tryz.pinned (OpenSpec.ofChange leafOrderSpec)

/-- ITS FALSE NEIGHBOUR: 'it returns false'. Refute it at one input. -/
def leafOrderWrong : ChangeSpec := { name := "leafOrder", fn := fun _ => fun
  | [d1, d2, d3, d4] => { results := [.lit (.bool false)], args := [d1, d2, d3, d4] }
  | _ => none }
def LeafOrderWrongFalsely : Prop := leafOrderRow.holds Tryz.pinned (OpenSpec.ofChange leafOrderWrong)

/-- 'postillaw01.LeafVocabulary': WHATEVER THE INPUT: true; the input reads as it did. -/
def leafVocabularySpec : ChangeSpec := { name := "leafVocabulary", fn := fun _ => fun
  | [d1, d2] => { results := [.lit (.bool true)], args := [d1, d2] }
  | _ => none }
def leafVocabularyRow : OpenClaim := { program := "ytfghfkjjikodnaagreat", sum := "887af5ccdfe2dc7ce52bcb327f02232ddf7c0c7ba835e6470c9707392494ee46", func := "postil/postillaw01.LeafVocabulary", spec := "leafVocabulary", inPlace := ["internal/bytealg.abigen_runtime_cmpstring"], unfollowed := true, recurses := true, apart := false }
def LeafVocabularySaid : Prop := leafVocabularyRow.holds Tryz.pinned (OpenSpec.ofChange leafVocabularySpec)

/-- ITS FALSE NEIGHBOUR: 'it returns false'. Refute it at one input. -/
def leafVocabularyWrong : ChangeSpec := { name := "leafVocabulary", fn := fun _ => fun
  | [d1, d2] => { results := [.lit (.bool false)], args := [d1, d2] }
  | _ => none }
def LeafVocabularyWrongFalsely : Prop := leafVocabularyRow.holds Tryz.pinned (OpenSpec.ofChange leafVocabularyWrong)

/- THE SECOND FORM. 'bulk': how many values and letters a reading holds, each counted each time it is reached (what is shared counts as often as it is met; a slice's spare places count too). A statement '..UptoSaid' is the law's where the arguments, and the package variables that the reading takes, are together of bulk at most 1048576: NARROWER than '..Said'. Prove '..Said' where nothing that the law and all that it calls make is longer than what came in: it says more and counts as full. Else prove '..UptoSaid'. A law counts once. -/
mutual
def uptoBulk {H : Type} : DataW H → Nat
  | .lit (.string bytes) => bytes.length + 1
  | .lit _ => 1
  | .nil => 1
  | .ptr d => uptoBulk d + 1
  | .slice elems spare => uptoBulkAll elems + uptoBulkAll spare + 1
  | .agg parts => uptoBulkAll parts + 1
  | .iface _ d => uptoBulk d + 1
  | .map entries => uptoBulkEntries entries + 1
  | .held _ => 1
def uptoBulkAll {H : Type} : List (DataW H) → Nat
  | [] => 0
  | d :: r => uptoBulk d + uptoBulkAll r
def uptoBulkEntries {H : Type} : List (Lit × DataW H) → Nat
  | [] => 0
  | x :: r => uptoBulkEntry x + uptoBulkEntries r
def uptoBulkEntry {H : Type} : Lit × DataW H → Nat
  | (.string bytes, d) => bytes.length + uptoBulk d + 1
  | (_, d) => uptoBulk d + 1
 end
def uptoSmall : (H : Type) → List (DataW H) → Bool := fun _ ds => decide (uptoBulkAll ds ≤ 1048576)
def OpenSpec.upto (s : _root_.Go.ChangeSpec) : _root_.Go.OpenSpec := { _root_.Go.OpenSpec.ofChange s with cond := some uptoSmall }

/-- 'postillaw01.LeafNumbers', WHERE WHAT IT READS IS OF BULK AT MOST 1048576: true; the input reads as it did. -/
def leafNumbersUptoRow : OpenClaim := { program := "ytfghfkjjikodnaagreat", sum := "887af5ccdfe2dc7ce52bcb327f02232ddf7c0c7ba835e6470c9707392494ee46", func := "postil/postillaw01.LeafNumbers", spec := "leafNumbers", inPlace := ["internal/bytealg.abigen_runtime_cmpstring"], unfollowed := true, recurses := true, apart := false, narrowed := true }
def LeafNumbersUptoSaid : Prop := leafNumbersUptoRow.holds Tryz.pinned (OpenSpec.upto leafNumbersSpec)

/-- 'postillaw01.LeafPlaces', WHERE WHAT IT READS IS OF BULK AT MOST 1048576: true; the input reads as it did. -/
def leafPlacesUptoRow : OpenClaim := { program := "ytfghfkjjikodnaagreat", sum := "887af5ccdfe2dc7ce52bcb327f02232ddf7c0c7ba835e6470c9707392494ee46", func := "postil/postillaw01.LeafPlaces", spec := "leafPlaces", inPlace := ["internal/bytealg.abigen_runtime_cmpstring"], unfollowed := true, recurses := true, apart := false, narrowed := true }
def LeafPlacesUptoSaid : Prop := leafPlacesUptoRow.holds Tryz.pinned (OpenSpec.upto leafPlacesSpec)

/-- 'postillaw01.LeafFound', WHERE WHAT IT READS IS OF BULK AT MOST 1048576: true; the input reads as it did. -/
def leafFoundUptoRow : OpenClaim := { program := "ytfghfkjjikodnaagreat", sum := "887af5ccdfe2dc7ce52bcb327f02232ddf7c0c7ba835e6470c9707392494ee46", func := "postil/postillaw01.LeafFound", spec := "leafFound", inPlace := ["internal/bytealg.abigen_runtime_cmpstring"], unfollowed := true, recurses := true, apart := false, narrowed := true }
def LeafFoundUptoSaid : Prop := leafFoundUptoRow.holds Tryz.pinned (OpenSpec.upto leafFoundSpec)

/-- 'postillaw01.LeafFewest', WHERE WHAT IT READS IS OF BULK AT MOST 1048576: true; the input reads as it did. -/
def leafFewestUptoRow : OpenClaim := { program := "ytfghfkjjikodnaagreat", sum := "887af5ccdfe2dc7ce52bcb327f02232ddf7c0c7ba835e6470c9707392494ee46", func := "postil/postillaw01.LeafFewest", spec := "leafFewest", inPlace := ["internal/bytealg.abigen_runtime_cmpstring"], unfollowed := true, recurses := true, apart := false, narrowed := true }
def LeafFewestUptoSaid : Prop := leafFewestUptoRow.holds Tryz.pinned (OpenSpec.upto leafFewestSpec)

/-- 'postillaw01.LeafApart', WHERE WHAT IT READS IS OF BULK AT MOST 1048576: true; the input reads as it did. -/
def leafApartUptoRow : OpenClaim := { program := "ytfghfkjjikodnaagreat", sum := "887af5ccdfe2dc7ce52bcb327f02232ddf7c0c7ba835e6470c9707392494ee46", func := "postil/postillaw01.LeafApart", spec := "leafApart", inPlace := ["internal/bytealg.abigen_runtime_cmpstring"], unfollowed := true, recurses := true, apart := false, narrowed := true }
def LeafApartUptoSaid : Prop := leafApartUptoRow.holds Tryz.pinned (OpenSpec.upto leafApartSpec)

/-- 'postillaw01.LeafStands', WHERE WHAT IT READS IS OF BULK AT MOST 1048576: true; the input reads as it did. -/
def leafStandsUptoRow : OpenClaim := { program := "ytfghfkjjikodnaagreat", sum := "887af5ccdfe2dc7ce52bcb327f02232ddf7c0c7ba835e6470c9707392494ee46", func := "postil/postillaw01.LeafStands", spec := "leafStands", inPlace := ["internal/bytealg.abigen_runtime_cmpstring"], unfollowed := true, recurses := true, apart := false, narrowed := true }
def LeafStandsUptoSaid : Prop := leafStandsUptoRow.holds Tryz.pinned (OpenSpec.upto leafStandsSpec)

/-- 'postillaw01.LeafDoubt', WHERE WHAT IT READS IS OF BULK AT MOST 1048576: true; the input reads as it did. -/
def leafDoubtUptoRow : OpenClaim := { program := "ytfghfkjjikodnaagreat", sum := "887af5ccdfe2dc7ce52bcb327f02232ddf7c0c7ba835e6470c9707392494ee46", func := "postil/postillaw01.LeafDoubt", spec := "leafDoubt", inPlace := ["internal/bytealg.abigen_runtime_cmpstring"], unfollowed := true, recurses := true, apart := false, narrowed := true }
def LeafDoubtUptoSaid : Prop := leafDoubtUptoRow.holds Tryz.pinned (OpenSpec.upto leafDoubtSpec)

/-- 'postillaw01.LeafOrder', WHERE WHAT IT READS IS OF BULK AT MOST 1048576: true; the input reads as it did. -/
def leafOrderUptoRow : OpenClaim := { program := "ytfghfkjjikodnaagreat", sum := "887af5ccdfe2dc7ce52bcb327f02232ddf7c0c7ba835e6470c9707392494ee46", func := "postil/postillaw01.LeafOrder", spec := "leafOrder", inPlace := ["internal/bytealg.abigen_runtime_cmpstring"], unfollowed := true, recurses := true, apart := false, narrowed := true }
def LeafOrderUptoSaid : Prop := leafOrderUptoRow.holds Tryz.pinned (OpenSpec.upto leafOrderSpec)

/-- 'postillaw01.LeafVocabulary', WHERE WHAT IT READS IS OF BULK AT MOST 1048576: true; the input reads as it did. -/
def leafVocabularyUptoRow : OpenClaim := { program := "ytfghfkjjikodnaagreat", sum := "887af5ccdfe2dc7ce52bcb327f02232ddf7c0c7ba835e6470c9707392494ee46", func := "postil/postillaw01.LeafVocabulary", spec := "leafVocabulary", inPlace := ["internal/bytealg.abigen_runtime_cmpstring"], unfollowed := true, recurses := true, apart := false, narrowed := true }
def LeafVocabularyUptoSaid : Prop := leafVocabularyUptoRow.holds Tryz.pinned (OpenSpec.upto leafVocabularySpec)

end Rows
end Go.Proofs.YtfghfkjjikodnaaGreat
