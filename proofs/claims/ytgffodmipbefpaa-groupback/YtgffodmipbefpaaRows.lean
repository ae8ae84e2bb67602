/-
  No cell of these rows narrows 'for every input' (looked for: loops, veiled, ifaces, maps, wideKeys, modest, calm, conditions, laid).
  DERIVED. THE GIVEN ROWS OF THIS SEAT. 5 by the template 'for every input the law returns true; each argument reads behind the call as it read before'; 0 by the template 'total and deterministic' (their statements: YtgffodmipbefpaaTotals.lean).
  GIVEN WITH THE SEED: the statements are not yours to turn. If you find one false, say at which input.
  Laid BY PROGRAM, IN A SANDBOX (cutbox-rows.mjs): the forced cells as the released guide's own fill.sh prints them over the translation 158a57868e146066… (all of the seat's roots in one cut). By AI agents, Wed Nov 11 2026. No macro, syntax, notation, axiom, sorry.
-/
import Derived.Test.YtgffodmipbefpaaChecked
import GoSem.Claim
import GoSem.ClaimJoined
import GoSem.ClaimMapViews
import Derived.JoinedTies
import Derived.KernelRfl
namespace Go.Proofs.Ytgffodmipbefpaa
/- THE CELL 'sum', in the pinned program and in every row, IS THE sha256 OF THE DUMP (.gsa) THAT YtgffodmipbefpaaProg.lean LOADS. Nothing in Lean hashes anything: it is a label: what it is worth is what the hold of that sum in a sandbox is worth. -/
noncomputable def Try.pinned : Pinned := { name := "ytgffodmipbefpaa", sum := "158a57868e146066b2911772a2ad6b784d295ba00554d5fec0589209071d4e04", checked := Try.checked }
namespace Rows
def none {H : Type} : Left H := { results := [], args := [] }

/-- 'estuarylaw.RowOrder': WHATEVER THE INPUT: true; the input reads as it did. -/
def rowOrderSpec : ChangeSpec := { name := "rowOrder", fn := fun _ => fun
  | [d1, d2] => { results := [.lit (.bool true)], args := [d1, d2] }
  | _ => none }
def rowOrderRow : OpenClaim := { program := "ytgffodmipbefpaa", sum := "158a57868e146066b2911772a2ad6b784d295ba00554d5fec0589209071d4e04", func := "estuary/estuarylaw.RowOrder", spec := "rowOrder", unfollowed := true, recurses := true, plainKeys := false, apart := false }
def RowOrderSaid : Prop := rowOrderRow.holds Try.pinned (OpenSpec.ofChange rowOrderSpec)

/-- ITS FALSE NEIGHBOUR: 'it returns false'. Refute it at one input. -/
def rowOrderWrong : ChangeSpec := { name := "rowOrder", fn := fun _ => fun
  | [d1, d2] => { results := [.lit (.bool false)], args := [d1, d2] }
  | _ => none }
def RowOrderWrongFalsely : Prop := rowOrderRow.holds Try.pinned (OpenSpec.ofChange rowOrderWrong)

/-- 'estuarylaw.RowOuts': WHATEVER THE INPUT: true; the input reads as it did. -/
def rowOutsSpec : ChangeSpec := { name := "rowOuts", fn := fun _ => fun
  | [d1, d2, d3, d4, d5, d6] => { results := [.lit (.bool true)], args := [d1, d2, d3, d4, d5, d6] }
  | _ => none }
def rowOutsRow : OpenClaim := { program := "ytgffodmipbefpaa", sum := "158a57868e146066b2911772a2ad6b784d295ba00554d5fec0589209071d4e04", func := "estuary/estuarylaw.RowOuts", spec := "rowOuts", unfollowed := true, recurses := true, plainKeys := false, apart := false }
def RowOutsSaid : Prop := rowOutsRow.holds Try.pinned (OpenSpec.ofChange rowOutsSpec)

/-- ITS FALSE NEIGHBOUR: 'it returns false'. Refute it at one input. -/
def rowOutsWrong : ChangeSpec := { name := "rowOuts", fn := fun _ => fun
  | [d1, d2, d3, d4, d5, d6] => { results := [.lit (.bool false)], args := [d1, d2, d3, d4, d5, d6] }
  | _ => none }
def RowOutsWrongFalsely : Prop := rowOutsRow.holds Try.pinned (OpenSpec.ofChange rowOutsWrong)

/-- 'estuarykeep.RowTotal': WHATEVER THE INPUT: true; the input reads as it did. -/
def rowTotalSpec : ChangeSpec := { name := "rowTotal", fn := fun _ => fun
  | [d1, d2, d3, d4, d5, d6] => { results := [.lit (.bool true)], args := [d1, d2, d3, d4, d5, d6] }
  | _ => none }
def rowTotalRow : OpenClaim := { program := "ytgffodmipbefpaa", sum := "158a57868e146066b2911772a2ad6b784d295ba00554d5fec0589209071d4e04", func := "estuary/estuarykeep.RowTotal", spec := "rowTotal", unfollowed := true, recurses := true, plainKeys := false, apart := false }
def RowTotalSaid : Prop := rowTotalRow.holds Try.pinned (OpenSpec.ofChange rowTotalSpec)

/-- ITS FALSE NEIGHBOUR: 'it returns false'. Refute it at one input. -/
def rowTotalWrong : ChangeSpec := { name := "rowTotal", fn := fun _ => fun
  | [d1, d2, d3, d4, d5, d6] => { results := [.lit (.bool false)], args := [d1, d2, d3, d4, d5, d6] }
  | _ => none }
def RowTotalWrongFalsely : Prop := rowTotalRow.holds Try.pinned (OpenSpec.ofChange rowTotalWrong)

/-- 'estuarykeep.BagBack': WHATEVER THE INPUT: true; the input reads as it did. -/
def bagBackSpec : ChangeSpec := { name := "bagBack", fn := fun _ => fun
  | [d1, d2, d3] => { results := [.lit (.bool true)], args := [d1, d2, d3] }
  | _ => none }
def bagBackRow : OpenClaim := { program := "ytgffodmipbefpaa", sum := "158a57868e146066b2911772a2ad6b784d295ba00554d5fec0589209071d4e04", func := "estuary/estuarykeep.BagBack", spec := "bagBack", unfollowed := true, recurses := true, plainKeys := false, apart := false }
def BagBackSaid : Prop := bagBackRow.holds Try.pinned (OpenSpec.ofChange bagBackSpec)

/-- ITS FALSE NEIGHBOUR: 'it returns false'. Refute it at one input. -/
def bagBackWrong : ChangeSpec := { name := "bagBack", fn := fun _ => fun
  | [d1, d2, d3] => { results := [.lit (.bool false)], args := [d1, d2, d3] }
  | _ => none }
def BagBackWrongFalsely : Prop := bagBackRow.holds Try.pinned (OpenSpec.ofChange bagBackWrong)

/-- 'estuarykeep.GroupBack': WHATEVER THE INPUT: true; the input reads as it did. -/
def groupBackSpec : ChangeSpec := { name := "groupBack", fn := fun _ => fun
  | [d1, d2, d3] => { results := [.lit (.bool true)], args := [d1, d2, d3] }
  | _ => none }
def groupBackRow : OpenClaim := { program := "ytgffodmipbefpaa", sum := "158a57868e146066b2911772a2ad6b784d295ba00554d5fec0589209071d4e04", func := "estuary/estuarykeep.GroupBack", spec := "groupBack", unfollowed := true, recurses := true, plainKeys := false, apart := false }
def GroupBackSaid : Prop := groupBackRow.holds Try.pinned (OpenSpec.ofChange groupBackSpec)

/-- ITS FALSE NEIGHBOUR: 'it returns false'. Refute it at one input. -/
def groupBackWrong : ChangeSpec := { name := "groupBack", fn := fun _ => fun
  | [d1, d2, d3] => { results := [.lit (.bool false)], args := [d1, d2, d3] }
  | _ => none }
def GroupBackWrongFalsely : Prop := groupBackRow.holds Try.pinned (OpenSpec.ofChange groupBackWrong)

/- THE SECOND FORM. 'bulk': how many values and letters a reading holds, each counted each time it is reached (what is shared counts as often as it is met; a slice's spare places count too). A statement '..UptoSaid' is the law's where the arguments, and the package variables that the reading takes, are together of bulk at most 1048576: NARROWER than '..Said'. Prove '..Said' where nothing that the law and all that it calls make is longer than what came in: it says more and counts as full. Else prove '..UptoSaid'. A law counts once. -/
mutual
def uptoBulk {H : Type} : DataW H → Nat
  | .lit (.string bytes) => bytes.length + 1
  | .lit _ => 1
  | .nil => 1
  | .ptr d => uptoBulk d + 1
  | .slice elems spare => uptoBulkAll elems + uptoBulkAll spare + 1
  | .agg parts => uptoBulkAll parts + 1
  | .iface _ d => uptoBulk d + 1
  | .map entries => uptoBulkEntries entries + 1
  | .held _ => 1
def uptoBulkAll {H : Type} : List (DataW H) → Nat
  | [] => 0
  | d :: r => uptoBulk d + uptoBulkAll r
def uptoBulkEntries {H : Type} : List (Lit × DataW H) → Nat
  | [] => 0
  | x :: r => uptoBulkEntry x + uptoBulkEntries r
def uptoBulkEntry {H : Type} : Lit × DataW H → Nat
  | (.string bytes, d) => bytes.length + uptoBulk d + 1
  | (_, d) => uptoBulk d + 1
 end
def uptoSmall : (H : Type) → List (DataW H) → Bool := fun _ ds => decide (uptoBulkAll ds ≤ 1048576)
def OpenSpec.upto (s : _root_.Go.ChangeSpec) : _root_.Go.OpenSpec := { _root_.Go.OpenSpec.ofChange s with cond := some uptoSmall }

/-- 'estuarylaw.RowOrder', WHERE WHAT IT READS IS OF BULK AT MOST 1048576: true; the input reads as it did. -/
def rowOrderUptoRow : OpenClaim := { program := "ytgffodmipbefpaa", sum := "158a57868e146066b2911772a2ad6b784d295ba00554d5fec0589209071d4e04", func := "estuary/estuarylaw.RowOrder", spec := "rowOrder", unfollowed := true, recurses := true, plainKeys := false, apart := false, narrowed := true }
def RowOrderUptoSaid : Prop := rowOrderUptoRow.holds Try.pinned (OpenSpec.upto rowOrderSpec)

/-- 'estuarylaw.RowOuts', WHERE WHAT IT READS IS OF BULK AT MOST 1048576: true; the input reads as it did. -/
def rowOutsUptoRow : OpenClaim := { program := "ytgffodmipbefpaa", sum := "158a57868e146066b2911772a2ad6b784d295ba00554d5fec0589209071d4e04", func := "estuary/estuarylaw.RowOuts", spec := "rowOuts", unfollowed := true, recurses := true, plainKeys := false, apart := false, narrowed := true }
def RowOutsUptoSaid : Prop := rowOutsUptoRow.holds Try.pinned (OpenSpec.upto rowOutsSpec)

/-- 'estuarykeep.RowTotal', WHERE WHAT IT READS IS OF BULK AT MOST 1048576: true; the input reads as it did. -/
def rowTotalUptoRow : OpenClaim := { program := "ytgffodmipbefpaa", sum := "158a57868e146066b2911772a2ad6b784d295ba00554d5fec0589209071d4e04", func := "estuary/estuarykeep.RowTotal", spec := "rowTotal", unfollowed := true, recurses := true, plainKeys := false, apart := false, narrowed := true }
def RowTotalUptoSaid : Prop := rowTotalUptoRow.holds Try.pinned (OpenSpec.upto rowTotalSpec)

/-- 'estuarykeep.BagBack', WHERE WHAT IT READS IS OF BULK AT MOST 1048576: true; the input reads as it did. -/
def bagBackUptoRow : OpenClaim := { program := "ytgffodmipbefpaa", sum := "158a57868e146066b2911772a2ad6b784d295ba00554d5fec0589209071d4e04", func := "estuary/estuarykeep.BagBack", spec := "bagBack", unfollowed := true, recurses := true, plainKeys := false, apart := false, narrowed := true }
def BagBackUptoSaid : Prop := bagBackUptoRow.holds Try.pinned (OpenSpec.upto bagBackSpec)

/-- 'estuarykeep.GroupBack', WHERE WHAT IT READS IS OF BULK AT MOST 1048576: true; the input reads as it did. -/
def groupBackUptoRow : OpenClaim := { program := "ytgffodmipbefpaa", sum := "158a57868e146066b2911772a2ad6b784d295ba00554d5fec0589209071d4e04", func := "estuary/estuarykeep.GroupBack", spec := "groupBack", unfollowed := true, recurses := true, plainKeys := false, apart := false, narrowed := true }
def GroupBackUptoSaid : Prop := groupBackUptoRow.holds Try.pinned (OpenSpec.upto groupBackSpec)

end Rows
end Go.Proofs.Ytgffodmipbefpaa
