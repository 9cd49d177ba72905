import Derived.Test.YtlkhghcffhckmaaDoorPCb
namespace Go.Proofs.YtlkhghcffhckmaaDoor
open Go.ChangeShapes Go.WideShapes Go.ChangeAt Go.RowKit
set_option linter.unusedVariables false
set_option linter.unusedSimpArgs false
set_option maxRecDepth 100000

/-- a first word's shape, kind and request, as the specification has them -/
def shTab (s : List UInt8) : List UInt8 × Int × Int :=
 if s == [111, 112, 101, 110] then ([], 0, 1) else
 if s == [107, 101, 101, 112] then ([83], 0, 2) else
 if s == [99, 108, 111, 115, 101] then ([83], 0, 3) else
 if s == [112, 111, 108, 108] then ([83], 0, 12) else
 if s == [99, 114, 101, 97, 116, 101] then ([83, 80, 102, 86], 0, 4) else
 if s == [100, 101, 108, 101, 116, 101] then ([83, 80], 0, 5) else
 if s == [117, 110, 108, 111, 99, 107] then ([83, 80], 0, 9) else
 if s == [119, 97, 116, 99, 104] then ([83, 80], 0, 11) else
 if s == [103, 101, 116] then ([80], 0, 6) else
 if s == [108, 105, 115, 116] then ([80], 0, 13) else
 if s == [115, 101, 116] then ([83, 80, 86], 0, 7) else
 if s == [108, 111, 99, 107] then ([83, 80, 109], 0, 8) else
 if s == [99, 104, 101, 99, 107] then ([83, 80, 69, 71], 0, 10) else
 if s == [116, 105, 99, 107] then ([78], 1, 0) else
 if s == [115, 119, 101, 101, 112] then ([], 2, 0) else
 if s == [102, 108, 117, 115, 104] then ([], 3, 0) else
 if s == [115, 110, 97, 112] then ([], 4, 0) else
 if s == [99, 114, 97, 115, 104] then ([78, 99], 5, 0) else
 if s == [115, 110, 97, 112, 99, 114, 97, 115, 104] then ([110, 77], 6, 0) else
 ([63], 0, 0)

set_option maxHeartbeats 6400000 in
theorem shape_any (s : ByteArray) (w : World) : Calls Tryd.prog 13 #[.string s] w fun e w' => e = .returned (.tuple #[.string ⟨(shTab s.toList).1.toArray⟩, .int .i64 (shTab s.toList).2.1, .int .i64 (shTab s.toList).2.2]) ∧ w' = w := by
 go_enter Tryd.func13, Tryd.ntmps13
 go_wp2
 all_goals (
  refine bodyPost_ret (v := .tuple #[.string ⟨(shTab s.toList).1.toArray⟩, .int .i64 (shTab s.toList).2.1, .int .i64 (shTab s.toList).2.2]) (by simp_all [results, Tryd.results13, go_sem, shTab]) rfl ?_
  exact ⟨rfl, rfl⟩)
end Go.Proofs.YtlkhghcffhckmaaDoor
