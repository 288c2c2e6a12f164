/-
  FnExactReadAccount: the law, whatever the text.
-/
import Derived.Test.YtkbhcajiebeepaaGreatDoorYS
import Derived.Test.YtkbhcajiebeepaaGreatDoorZRaSpec
namespace Go.Proofs.YtkbhcajiebeepaaGreatDoor.Vp
open Go.RowKit Go.Proofs.YtkbhcajiebeepaaGreatDoor.Ca

theorem specReadAcc_any (s : ByteArray) (w : World) (hs : s.size ≤ maxLen) :
    Calls Tryz.prog 5 #[.string s] w fun e w' => RaPost w s.data.toList e w' :=
  specReadAcc_if s w hs (fun h V => l6Read_any s V h)
theorem law_ra (s : ByteArray) (w : World) (hs : s.size ≤ maxLen) (hL : Lay w) (hE : EV w 1) :
    Calls Tryz.prog 3 #[.string s] w fun e w' => e = .returned (.bool true) ∧ Below w.heap.size w w' := by
  by_cases h : s.size ≤ 1048576
  · exact lawr_in s w h hL hE (fun V => specReadAcc_any s V hs)
  · exact lawr_big s w (by omega) hs

end Go.Proofs.YtkbhcajiebeepaaGreatDoor.Vp
