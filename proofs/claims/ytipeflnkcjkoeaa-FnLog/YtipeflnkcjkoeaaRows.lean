/-
  No cell of these rows narrows 'for every input' (looked for: loops, veiled, ifaces, maps, wideKeys, modest, calm, conditions, laid).
  DERIVED. THE GIVEN ROWS OF THIS SEAT. 6 by the template 'for every input the law returns true; each argument reads behind the call as it read before'; 0 by the template 'total and deterministic' (their statements: YtipeflnkcjkoeaaTotals.lean).
  GIVEN WITH THE SEED: the statements are not yours to turn. If you find one false, say at which input.
  Laid BY PROGRAM, IN A SANDBOX (cutbox-rows.mjs): the forced cells as the released guide's own fill.sh prints them over the translation a2f86a8f48ce14dd… (all of the seat's roots in one cut). By AI agents, Wed Nov 11 2026. No macro, syntax, notation, axiom, sorry.
-/
import Derived.Test.YtipeflnkcjkoeaaChecked
import GoSem.Claim
import GoSem.ClaimJoined
import GoSem.ClaimMapViews
import Derived.JoinedTies
import Derived.KernelRfl
namespace Go.Proofs.Ytipeflnkcjkoeaa
/- THE CELL 'sum', in the pinned program and in every row, IS THE sha256 OF THE DUMP (.gsa) THAT YtipeflnkcjkoeaaProg.lean LOADS. Nothing in Lean hashes anything: it is a label: what it is worth is what the hold of that sum in a sandbox is worth. -/
noncomputable def Try.pinned : Pinned := { name := "ytipeflnkcjkoeaa", sum := "a2f86a8f48ce14dd0b1287c93775867f72f0515e658f5dd2959f3f4ec9f10ecc", checked := Try.checked }
namespace Rows
def none {H : Type} : Left H := { results := [], args := [] }

/-- 'laws.FnExactChecksum': WHATEVER THE INPUT: true; the input reads as it did. -/
def fnExactChecksumSpec : ChangeSpec := { name := "fnExactChecksum", fn := fun _ => fun
  | [d] => { results := [.lit (.bool true)], args := [d] }
  | _ => none }
def fnExactChecksumRow : OpenClaim := { program := "ytipeflnkcjkoeaa", sum := "a2f86a8f48ce14dd0b1287c93775867f72f0515e658f5dd2959f3f4ec9f10ecc", func := "loop.example/s02132/laws.FnExactChecksum", spec := "fnExactChecksum", apart := false }
def FnExactChecksumSaid : Prop := fnExactChecksumRow.holds Try.pinned (OpenSpec.ofChange fnExactChecksumSpec)

/-- ITS FALSE NEIGHBOUR: 'it returns false'. Refute it at one input. -/
def fnExactChecksumWrong : ChangeSpec := { name := "fnExactChecksum", fn := fun _ => fun
  | [d] => { results := [.lit (.bool false)], args := [d] }
  | _ => none }
def FnExactChecksumWrongFalsely : Prop := fnExactChecksumRow.holds Try.pinned (OpenSpec.ofChange fnExactChecksumWrong)

/-- 'laws.FnExactEncodeSnapshot': WHATEVER THE INPUT: true; the input reads as it did. -/
def fnExactEncodeSnapshotSpec : ChangeSpec := { name := "fnExactEncodeSnapshot", fn := fun _ => fun
  | [d1, d2] => { results := [.lit (.bool true)], args := [d1, d2] }
  | _ => none }
def fnExactEncodeSnapshotRow : OpenClaim := { program := "ytipeflnkcjkoeaa", sum := "a2f86a8f48ce14dd0b1287c93775867f72f0515e658f5dd2959f3f4ec9f10ecc", func := "loop.example/s02132/laws.FnExactEncodeSnapshot", spec := "fnExactEncodeSnapshot", recurses := true, apart := false }
def FnExactEncodeSnapshotSaid : Prop := fnExactEncodeSnapshotRow.holds Try.pinned (OpenSpec.ofChange fnExactEncodeSnapshotSpec)

/-- ITS FALSE NEIGHBOUR: 'it returns false'. Refute it at one input. -/
def fnExactEncodeSnapshotWrong : ChangeSpec := { name := "fnExactEncodeSnapshot", fn := fun _ => fun
  | [d1, d2] => { results := [.lit (.bool false)], args := [d1, d2] }
  | _ => none }
def FnExactEncodeSnapshotWrongFalsely : Prop := fnExactEncodeSnapshotRow.holds Try.pinned (OpenSpec.ofChange fnExactEncodeSnapshotWrong)

/-- 'laws.FnExactDecodeSnapshot': WHATEVER THE INPUT: true; the input reads as it did. -/
def fnExactDecodeSnapshotSpec : ChangeSpec := { name := "fnExactDecodeSnapshot", fn := fun _ => fun
  | [d] => { results := [.lit (.bool true)], args := [d] }
  | _ => none }
def fnExactDecodeSnapshotRow : OpenClaim := { program := "ytipeflnkcjkoeaa", sum := "a2f86a8f48ce14dd0b1287c93775867f72f0515e658f5dd2959f3f4ec9f10ecc", func := "loop.example/s02132/laws.FnExactDecodeSnapshot", spec := "fnExactDecodeSnapshot", unfollowed := true, recurses := true, apart := false }
def FnExactDecodeSnapshotSaid : Prop := fnExactDecodeSnapshotRow.holds Try.pinned (OpenSpec.ofChange fnExactDecodeSnapshotSpec)

/-- ITS FALSE NEIGHBOUR: 'it returns false'. Refute it at one input. -/
def fnExactDecodeSnapshotWrong : ChangeSpec := { name := "fnExactDecodeSnapshot", fn := fun _ => fun
  | [d] => { results := [.lit (.bool false)], args := [d] }
  | _ => none }
def FnExactDecodeSnapshotWrongFalsely : Prop := fnExactDecodeSnapshotRow.holds Try.pinned (OpenSpec.ofChange fnExactDecodeSnapshotWrong)

/-- 'laws.FnExactEncodeRecord': WHATEVER THE INPUT: true; the input reads as it did. -/
def fnExactEncodeRecordSpec : ChangeSpec := { name := "fnExactEncodeRecord", fn := fun _ => fun
  | [d] => { results := [.lit (.bool true)], args := [d] }
  | _ => none }
def fnExactEncodeRecordRow : OpenClaim := { program := "ytipeflnkcjkoeaa", sum := "a2f86a8f48ce14dd0b1287c93775867f72f0515e658f5dd2959f3f4ec9f10ecc", func := "loop.example/s02132/laws.FnExactEncodeRecord", spec := "fnExactEncodeRecord", recurses := true, apart := false }
def FnExactEncodeRecordSaid : Prop := fnExactEncodeRecordRow.holds Try.pinned (OpenSpec.ofChange fnExactEncodeRecordSpec)

/-- ITS FALSE NEIGHBOUR: 'it returns false'. Refute it at one input. -/
def fnExactEncodeRecordWrong : ChangeSpec := { name := "fnExactEncodeRecord", fn := fun _ => fun
  | [d] => { results := [.lit (.bool false)], args := [d] }
  | _ => none }
def FnExactEncodeRecordWrongFalsely : Prop := fnExactEncodeRecordRow.holds Try.pinned (OpenSpec.ofChange fnExactEncodeRecordWrong)

/-- 'laws.FnExactReadLog': WHATEVER THE INPUT: true; the input reads as it did. -/
def fnExactReadLogSpec : ChangeSpec := { name := "fnExactReadLog", fn := fun _ => fun
  | [d] => { results := [.lit (.bool true)], args := [d] }
  | _ => none }
def fnExactReadLogRow : OpenClaim := { program := "ytipeflnkcjkoeaa", sum := "a2f86a8f48ce14dd0b1287c93775867f72f0515e658f5dd2959f3f4ec9f10ecc", func := "loop.example/s02132/laws.FnExactReadLog", spec := "fnExactReadLog", unfollowed := true, recurses := true, apart := false }
def FnExactReadLogSaid : Prop := fnExactReadLogRow.holds Try.pinned (OpenSpec.ofChange fnExactReadLogSpec)

/-- ITS FALSE NEIGHBOUR: 'it returns false'. Refute it at one input. -/
def fnExactReadLogWrong : ChangeSpec := { name := "fnExactReadLog", fn := fun _ => fun
  | [d] => { results := [.lit (.bool false)], args := [d] }
  | _ => none }
def FnExactReadLogWrongFalsely : Prop := fnExactReadLogRow.holds Try.pinned (OpenSpec.ofChange fnExactReadLogWrong)

/-- 'laws.FnLog': WHATEVER THE INPUT: true; the input reads as it did. -/
def fnLogSpec : ChangeSpec := { name := "fnLog", fn := fun _ => fun
  | [d1, d2] => { results := [.lit (.bool true)], args := [d1, d2] }
  | _ => none }
def fnLogRow : OpenClaim := { program := "ytipeflnkcjkoeaa", sum := "a2f86a8f48ce14dd0b1287c93775867f72f0515e658f5dd2959f3f4ec9f10ecc", func := "loop.example/s02132/laws.FnLog", spec := "fnLog", unfollowed := true, recurses := true, apart := false }
def FnLogSaid : Prop := fnLogRow.holds Try.pinned (OpenSpec.ofChange fnLogSpec)

/-- ITS FALSE NEIGHBOUR: 'it returns false'. Refute it at one input. -/
def fnLogWrong : ChangeSpec := { name := "fnLog", fn := fun _ => fun
  | [d1, d2] => { results := [.lit (.bool false)], args := [d1, d2] }
  | _ => none }
def FnLogWrongFalsely : Prop := fnLogRow.holds Try.pinned (OpenSpec.ofChange fnLogWrong)

/- THE SECOND FORM. 'bulk': how many values and letters a reading holds, each counted each time it is reached (what is shared counts as often as it is met; a slice's spare places count too). A statement '..UptoSaid' is the law's where the arguments, and the package variables that the reading takes, are together of bulk at most 1048576: NARROWER than '..Said'. Prove '..Said' where nothing that the law and all that it calls make is longer than what came in: it says more and counts as full. Else prove '..UptoSaid'. A law counts once. -/
mutual
def uptoBulk {H : Type} : DataW H → Nat
  | .lit (.string bytes) => bytes.length + 1
  | .lit _ => 1
  | .nil => 1
  | .ptr d => uptoBulk d + 1
  | .slice elems spare => uptoBulkAll elems + uptoBulkAll spare + 1
  | .agg parts => uptoBulkAll parts + 1
  | .iface _ d => uptoBulk d + 1
  | .map entries => uptoBulkEntries entries + 1
  | .held _ => 1
def uptoBulkAll {H : Type} : List (DataW H) → Nat
  | [] => 0
  | d :: r => uptoBulk d + uptoBulkAll r
def uptoBulkEntries {H : Type} : List (Lit × DataW H) → Nat
  | [] => 0
  | x :: r => uptoBulkEntry x + uptoBulkEntries r
def uptoBulkEntry {H : Type} : Lit × DataW H → Nat
  | (.string bytes, d) => bytes.length + uptoBulk d + 1
  | (_, d) => uptoBulk d + 1
 end
def uptoSmall : (H : Type) → List (DataW H) → Bool := fun _ ds => decide (uptoBulkAll ds ≤ 1048576)
def OpenSpec.upto (s : _root_.Go.ChangeSpec) : _root_.Go.OpenSpec := { _root_.Go.OpenSpec.ofChange s with cond := some uptoSmall }

/-- 'laws.FnExactChecksum', WHERE WHAT IT READS IS OF BULK AT MOST 1048576: true; the input reads as it did. -/
def fnExactChecksumUptoRow : OpenClaim := { program := "ytipeflnkcjkoeaa", sum := "a2f86a8f48ce14dd0b1287c93775867f72f0515e658f5dd2959f3f4ec9f10ecc", func := "loop.example/s02132/laws.FnExactChecksum", spec := "fnExactChecksum", apart := false, narrowed := true }
def FnExactChecksumUptoSaid : Prop := fnExactChecksumUptoRow.holds Try.pinned (OpenSpec.upto fnExactChecksumSpec)

/-- 'laws.FnExactEncodeSnapshot', WHERE WHAT IT READS IS OF BULK AT MOST 1048576: true; the input reads as it did. -/
def fnExactEncodeSnapshotUptoRow : OpenClaim := { program := "ytipeflnkcjkoeaa", sum := "a2f86a8f48ce14dd0b1287c93775867f72f0515e658f5dd2959f3f4ec9f10ecc", func := "loop.example/s02132/laws.FnExactEncodeSnapshot", spec := "fnExactEncodeSnapshot", recurses := true, apart := false, narrowed := true }
def FnExactEncodeSnapshotUptoSaid : Prop := fnExactEncodeSnapshotUptoRow.holds Try.pinned (OpenSpec.upto fnExactEncodeSnapshotSpec)

/-- 'laws.FnExactDecodeSnapshot', WHERE WHAT IT READS IS OF BULK AT MOST 1048576: true; the input reads as it did. -/
def fnExactDecodeSnapshotUptoRow : OpenClaim := { program := "ytipeflnkcjkoeaa", sum := "a2f86a8f48ce14dd0b1287c93775867f72f0515e658f5dd2959f3f4ec9f10ecc", func := "loop.example/s02132/laws.FnExactDecodeSnapshot", spec := "fnExactDecodeSnapshot", unfollowed := true, recurses := true, apart := false, narrowed := true }
def FnExactDecodeSnapshotUptoSaid : Prop := fnExactDecodeSnapshotUptoRow.holds Try.pinned (OpenSpec.upto fnExactDecodeSnapshotSpec)

/-- 'laws.FnExactEncodeRecord', WHERE WHAT IT READS IS OF BULK AT MOST 1048576: true; the input reads as it did. -/
def fnExactEncodeRecordUptoRow : OpenClaim := { program := "ytipeflnkcjkoeaa", sum := "a2f86a8f48ce14dd0b1287c93775867f72f0515e658f5dd2959f3f4ec9f10ecc", func := "loop.example/s02132/laws.FnExactEncodeRecord", spec := "fnExactEncodeRecord", recurses := true, apart := false, narrowed := true }
def FnExactEncodeRecordUptoSaid : Prop := fnExactEncodeRecordUptoRow.holds Try.pinned (OpenSpec.upto fnExactEncodeRecordSpec)

/-- 'laws.FnExactReadLog', WHERE WHAT IT READS IS OF BULK AT MOST 1048576: true; the input reads as it did. -/
def fnExactReadLogUptoRow : OpenClaim := { program := "ytipeflnkcjkoeaa", sum := "a2f86a8f48ce14dd0b1287c93775867f72f0515e658f5dd2959f3f4ec9f10ecc", func := "loop.example/s02132/laws.FnExactReadLog", spec := "fnExactReadLog", unfollowed := true, recurses := true, apart := false, narrowed := true }
def FnExactReadLogUptoSaid : Prop := fnExactReadLogUptoRow.holds Try.pinned (OpenSpec.upto fnExactReadLogSpec)

/-- 'laws.FnLog', WHERE WHAT IT READS IS OF BULK AT MOST 1048576: true; the input reads as it did. -/
def fnLogUptoRow : OpenClaim := { program := "ytipeflnkcjkoeaa", sum := "a2f86a8f48ce14dd0b1287c93775867f72f0515e658f5dd2959f3f4ec9f10ecc", func := "loop.example/s02132/laws.FnLog", spec := "fnLog", unfollowed := true, recurses := true, apart := false, narrowed := true }
def FnLogUptoSaid : Prop := fnLogUptoRow.holds Try.pinned (OpenSpec.upto fnLogSpec)

end Rows
end Go.Proofs.Ytipeflnkcjkoeaa
