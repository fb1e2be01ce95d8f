/-
  The float of a number: the model's l5round.
-/
import Derived.Test.YtckaecmkidplhaaGreatDoorBS
import Derived.Test.YtckaecmkidplhaaGreatDoorBY
import Derived.Test.YtckaecmkidplhaaGreatDoorBK
namespace Go.Proofs.YtckaecmkidplhaaGreatDoor
open Go.RowKit
set_option linter.unusedVariables false
set_option maxRecDepth 8000
set_option linter.unusedSimpArgs false

theorem in_l2shl_r : ∀ (w : World) (args : Array Value), (callFunc 132 args).run Tryz.prog w = .ok (.enter 132 args) w := enters Tryz.func132 (by decide) (fun h => by cases h)

theorem in_l2int_r : ∀ (w : World) (args : Array Value), (callFunc 131 args).run Tryz.prog w = .ok (.enter 131 args) w := enters Tryz.func131 (by decide) (fun h => by cases h)

end Go.Proofs.YtckaecmkidplhaaGreatDoor

