import Derived.Test.YtkophfgkcijjkaaGreatDoorZK
import Derived.Lib.IndexMore
import Derived.Lib.AtoiAll
namespace Go.Proofs.YtkophfgkcijjkaaGreatDoor.Vp
open RowKit
abbrev I3:=Int × List UInt8 × Int
end Go.Proofs.YtkophfgkcijjkaaGreatDoor.Vp
