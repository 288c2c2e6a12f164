/-
  impl: validReplies.
-/
import Derived.Test.YtfhdecheaeoopaaDoorZI
namespace Go.Proofs.YtfhdecheaeoopaaDoor.Vp
open Go.RowKit

set_option maxHeartbeats 1000000 in
theorem validReplies_no (a : Option Addr) (n cap : Nat) (w : World) (h : 200 < (n : Int)) :
    Calls Tryd.prog 20 #[.slice a n cap] w fun e w' => e = .returned (.bool false) ∧ Below w.heap.size w w' := by
  go_enter Tryd.func20, Tryd.ntmps20
  go_wp2
  go_ret
  exact ⟨rfl, Below.refl _ _⟩

set_option maxHeartbeats 1000000 in
theorem validReplies_row (b off n cap : Nat) (y : Nat → Reply) (w : World) (h2 : (n : Int) ≤ 200) (hY : RowReply w b off n y) :
    Calls Tryd.prog 20 #[.slice (some ⟨b, off, none⟩) n cap] w fun e w' => e = .returned (.bool (repliesTo y n)) ∧ Below w.heap.size w w' := by
  have HY := hide hY
  clear hY
  go_enter Tryd.func20, Tryd.ntmps20
  go_wp2
  go_loopw [10] (fun i wr => ∃ k : Nat, k ≤ n ∧ i = .int .i64 k ∧ repliesTo y k = true ∧ Below w.heap.size w wr) (fun i _ => n - (intOf i).toNat)
  case atStart => exact ⟨0, by omega, rfl, rfl, Below.refl _ _⟩
  case round =>
    obtain ⟨k, hk, rfl, hok, hB⟩ := hrel
    have HB := hide hB
    have HK := hide hok
    have hsz : w.heap.size ≤ wr.heap.size := hB.size
    clear hB hok
    by_cases hlt : k < n
    · obtain ⟨c0, c1, c2⟩ := (HY.out.2 k hlt).below HB.out HY.out.1
      by_cases g1 : ((y k).text.size : Int) ≤ 2000
      · by_cases g2 : 0 ≤ (y k).code
        · by_cases g3 : (y k).code ≤ 7
          · go_wp2
            exact ⟨⟨k + 1, by omega, by go_num, by simp only [repliesTo, HK.out, replyOk, Bool.true_and, decide_eq_true_eq]; omega, HB.out.alloc hsz _⟩, by simp [intOf]; omega⟩
          · go_wp2
            go_ret
            exact ⟨ret_bool (by rw [repliesTo_false hlt (by simp only [replyOk, decide_eq_false_iff_not]; omega)]), HB.out.alloc hsz _⟩
        · go_wp2
          go_ret
          exact ⟨ret_bool (by rw [repliesTo_false hlt (by simp only [replyOk, decide_eq_false_iff_not]; omega)]), HB.out.alloc hsz _⟩
      · go_wp2
        go_ret
        exact ⟨ret_bool (by rw [repliesTo_false hlt (by simp only [replyOk, decide_eq_false_iff_not]; omega)]), HB.out.alloc hsz _⟩
    · have e : k = n := by omega
      subst e
      go_wp2
      go_ret
      exact ⟨ret_bool HK.out.symm, HB.out⟩

end Go.Proofs.YtfhdecheaeoopaaDoor.Vp
