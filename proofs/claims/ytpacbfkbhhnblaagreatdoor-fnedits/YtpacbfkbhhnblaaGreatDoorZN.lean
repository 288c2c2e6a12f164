import Derived.Test.YtpacbfkbhhnblaaGreatDoorZI
import Derived.Lib.IndexMore
import Derived.Lib.AtoiAll
namespace Go.Proofs.YtpacbfkbhhnblaaGreatDoor.Vp
open Go.RowKit
abbrev I3:=Int × List UInt8 × Int
end Go.Proofs.YtpacbfkbhhnblaaGreatDoor.Vp
