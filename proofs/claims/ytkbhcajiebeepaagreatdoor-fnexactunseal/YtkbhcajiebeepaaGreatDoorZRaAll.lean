/-
  Put together of: RaAll, UnAll.
-/
import Derived.Test.YtkbhcajiebeepaaGreatDoorYW
import Derived.Test.YtkbhcajiebeepaaGreatDoorZRaSpec
import Derived.Test.YtkbhcajiebeepaaGreatDoorYX

/-
  FnExactReadAccount: the law, whatever the text.
-/
namespace Go.Proofs.YtkbhcajiebeepaaGreatDoor.Vp
open Go.RowKit Go.Proofs.YtkbhcajiebeepaaGreatDoor.Ca

theorem specReadAcc_any (s : ByteArray) (w : World) (hs : s.size ≤ maxLen) :
    Calls Tryz.prog 5 #[.string s] w fun e w' => RaPost w s.data.toList e w' :=
  specReadAcc_if s w hs (fun h V => l6Read_any s V h)
theorem law_ra (s : ByteArray) (w : World) (hs : s.size ≤ maxLen) (hL : Lay w) (hE : EV w 1) :
    Calls Tryz.prog 3 #[.string s] w fun e w' => e = .returned (.bool true) ∧ Below w.heap.size w w' := by
  by_cases h : s.size ≤ 1048576
  · exact lawr_in s w h hL hE (fun V => specReadAcc_any s V hs)
  · exact lawr_big s w (by omega) hs

end Go.Proofs.YtkbhcajiebeepaaGreatDoor.Vp

/-
  FnExactUnseal: the law, whatever the text and the key.
-/
namespace Go.Proofs.YtkbhcajiebeepaaGreatDoor.Vp
open Go.RowKit Go.Proofs.YtkbhcajiebeepaaGreatDoor.Ca

theorem law_un (s k : ByteArray) (w : World) (hs : s.size ≤ maxLen) (hk : k.size ≤ maxLen) (hL : Lay w) (hE : EV w 1) (hD : Deb w) :
    Calls Tryz.prog 4 #[.string s, .string k] w fun e w' => e = .returned (.bool true) ∧ Below w.heap.size w w' := by
  have hgd : 10 < w.heap.size := by
    rcases Nat.lt_or_ge 10 w.heap.size with h' | h'
    · exact h'
    · simp [Deb, World.cell?, Array.getElem?_eq_none h'] at hD
  by_cases h : s.size ≤ 1048576
  · by_cases h2 : k.size ≤ 1048576
    · exact lawu_in s k w h h2 hL hE hD hgd (fun V => specUnseal_if s k V h h2 (fun U => specReadAcc_any _ U (by rw [ByteArray.size_extract]; unfold maxLen at *; omega)))
    · exact lawu_bigk s k w h (by omega) hk
  · exact lawu_big s k w (by omega) hs

end Go.Proofs.YtkbhcajiebeepaaGreatDoor.Vp
