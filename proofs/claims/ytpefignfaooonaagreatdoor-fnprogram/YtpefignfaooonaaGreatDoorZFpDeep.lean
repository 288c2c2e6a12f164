/-
  FnProgram: l1Value at the depths that are drawn.
-/
import Derived.Test.YtpefignfaooonaaGreatDoorZFpValueS
namespace Go.Proofs.YtpefignfaooonaaGreatDoor.Vp
open Go.RowKit

/-- l1Value at depth d: at most nc places of the reader, at most nb instructions. -/
def VD (nc nb : Nat) (d : Int) : Prop := ∀ (R p : Nat) (at_ : Int) (w : World), Rd w R p → p + nc ≤ 30000 → 0 ≤ at_ → at_ + (nb : Int) ≤ 10000 → Calls Tryz.prog 43 #[.pointer (some ⟨R, 0, none⟩), .int .i64 at_, .int .i64 d] w fun e w' => DI w R (p + nc) nb e w'
theorem vd0 : VD 14 4 ((0 : Nat) : Int) := fun R p at_ w hR hp _ _ => l1Value_0 R p at_ w hR hp
theorem vd1 : VD 56 14 ((1 : Nat) : Int) := fun R p at_ w hR hp h0 h1 => l1Value_s 0 4 14 (by omega) (by omega) (by omega) (by omega) (by omega) vd0 R p at_ w hR (by omega) h0 (by omega)
theorem vd2 : VD 182 44 ((2 : Nat) : Int) := fun R p at_ w hR hp h0 h1 => l1Value_s 1 14 56 (by omega) (by omega) (by omega) (by omega) (by omega) vd1 R p at_ w hR (by omega) h0 (by omega)
theorem vd3 : VD 560 134 ((3 : Nat) : Int) := fun R p at_ w hR hp h0 h1 => l1Value_s 2 44 182 (by omega) (by omega) (by omega) (by omega) (by omega) vd2 R p at_ w hR (by omega) h0 (by omega)
theorem DI.mono {w w' : World} {R q q' n n' : Nat} {e : Ending} (h : DI w R q n e w') (hq : q ≤ q') (hn : n ≤ n') : DI w R q' n' e w' := by
  obtain ⟨L, g, c, h1, h2, h3, h4, h5, p, h6, h7⟩ := h
  exact ⟨L, g, c, h1, h2, h3, Nat.le_trans h4 hn, h5, p, Nat.le_trans h6 hq, h7⟩
theorem l1Value_any (R p : Nat) (z : Int) (hz : z = 0 ∨ z = 1) (w : World) (hR : Rd w R p) (hp : p ≤ 29000) :
    Calls Tryz.prog 43 #[.pointer (some ⟨R, 0, none⟩), .int .i64 0, .int .i64 (2 + z)] w fun e w' => DI w R (p + 560) 134 e w' := by
  rcases hz with rfl | rfl
  · exact (vd2 R p 0 w hR (by omega) (by omega) (by omega)).mono fun e w' h => h.mono (by omega) (by omega)
  · exact vd3 R p 0 w hR (by omega) (by omega) (by omega)

end Go.Proofs.YtpefignfaooonaaGreatDoor.Vp
