import Derived.Test.YtkophfgkcijjkaaGreatDoorZV
import Derived.Test.YtkophfgkcijjkaaGreatDoorZI
namespace Go.Proofs.YtkophfgkcijjkaaGreatDoor.Vp
open Go.RowKit
def decT (n : Nat) : ByteArray := ⟨(Lib.decDigits n).toArray⟩
def flagT (b : Bool) : ByteArray := if b then ⟨#[49]⟩ else ⟨#[48]⟩
set_option maxHeartbeats 400000 in
theorem truth_any (x : Bool) (w : World) : Calls Tryz.prog 166 #[.bool x] w fun e w' => e = .returned (.string (flagT x)) ∧ w' = w := by
  cases x
  all_goals
    go_enter Tryz.func166, Tryz.ntmps166
    go_wp2
    go_ret
    exact ⟨rfl, rfl⟩
set_option maxHeartbeats 1000000 in
theorem stick_any (b : Nat) (cv : Value) (m : Mst) (p : Nat) (w : World) (hM : MAt w b cv m) (hp : p ≤ 2000) (hP : Pow w) :
    Calls Tryz.prog 204 #[.pointer (some ⟨b, 0, none⟩), .int .i64 p] w fun e w' => e = .returned (.tuple #[]) ∧ MAt w' b cv { m with t := ⟨true, 2, decT p, false, ⟨#[]⟩, m.steps⟩ } ∧ Only b w w' := by
  have HM := hide hM
  have HP := hide hP
  have hl := hM.lt
  clear hM hP
  go_enter Tryz.func204, Tryz.ntmps204
  go_wp2_with fail
  refine (itoa_any _ _ (by omega) HP.out).mono ?_
  rintro e w1 ⟨rfl, hB⟩
  have HB := hide hB
  have HM1 := hide (HM.out.below hB hl)
  clear hB
  go_wp2_with fail
  refine (end_any b cv m _ _ _ HM1.out).mono ?_
  rintro e w2 ⟨rfl, hM2, hB2⟩
  have HM2 := hide hM2
  have HB2 := hide hB2
  clear hM2 hB2
  go_wp2
  refine end0 rfl rfl ?_
  exact ⟨rfl, HM2.out, (Only.of_below HB.out).trans HB2.out⟩
def stuckT (p : Nat) (steps : Int) : Turn := ⟨true, 2, decT p, false, ⟨#[]⟩, steps⟩
set_option maxHeartbeats 1000000 in
theorem join_any (b : Nat) (cv : Value) (m : Mst) (k p : Nat) (w : World) (hM : MAt w b cv m) (hk : m.size = k + 2) (hs : k + 2 ≤ 50) (hp : p ≤ 2000) (hP : Pow w) (hPb : 2 < b) (ha : (m.S k).size ≤ 2000) (hb : (m.S (k + 1)).size ≤ 2000) :
    Calls Tryz.prog 227 #[.pointer (some ⟨b, 0, none⟩), .int .i64 p] w fun e w' => e = .returned (.tuple #[]) ∧
      MAt w' b cv (if (m.S k).size + (m.S (k + 1)).size ≤ 2000 then { m with S := upd m.S k (m.S k ++ m.S (k + 1)), size := k + 1 } else { m with size := k, t := stuckT p m.steps }) ∧ Only b w w' := by
  have HM := hide hM
  have HP := hide hP
  have hl := hM.lt
  clear hM hP
  obtain ⟨X, hX⟩ : ∃ X, X = (if (m.S k).size + (m.S (k + 1)).size ≤ 2000 then { m with S := upd m.S k (m.S k ++ m.S (k + 1)), size := k + 1 } else { m with size := k, t := stuckT p m.steps }) := ⟨_, rfl⟩
  rw [← hX]
  have HX := hide hX
  clear hX
  go_enter Tryz.func227, Tryz.ntmps227
  go_wp2_with fail
  refine (take_any b cv m (k + 1) _ HM.out hk (by omega)).mono ?_
  rintro e w1 ⟨rfl, hM1, hB1⟩
  have HM1 := hide hM1
  have HB1 := hide hB1
  clear hM1 hB1
  go_wp2_with fail
  refine (take_any b cv _ k _ HM1.out rfl (by omega)).mono ?_
  rintro e w2 ⟨rfl, hM2, hB2⟩
  have HM2 := hide hM2
  have HB2 := hide (HB1.out.trans hB2)
  clear hM2 hB2
  by_cases hlen : ((m.S k).size : Int) + ((m.S (k + 1)).size : Int) ≤ 2000
  · rw [if_pos (by omega)] at HX
    go_wp2_with fail
    refine (put_any b cv _ _ _ HM2.out (by simp; omega)).mono ?_
    rintro e w3 ⟨rfl, hM3, hB3⟩
    have HM3 := hide hM3
    have HB3 := hide (HB2.out.trans hB3)
    clear hM3 hB3
    go_wp2
    refine end0 rfl rfl ?_
    exact ⟨rfl, by rw [HX.out]; exact HM3.out, HB3.out⟩
  · rw [if_neg (by omega)] at HX
    go_wp2_with fail
    refine (stick_any b cv _ p _ HM2.out hp (HP.out.low (HB2.out.below (Nat.le_refl _) (Nat.le_of_lt hl)) hPb)).mono ?_
    rintro e w3 ⟨rfl, hM3, hB3⟩
    have HM3 := hide hM3
    have HB3 := hide (HB2.out.trans hB3)
    clear hM3 hB3
    go_wp2
    refine ret0 rfl rfl ?_
    exact ⟨rfl, by rw [HX.out]; exact HM3.out, HB3.out⟩
set_option maxHeartbeats 1000000 in
theorem look_any (b : Nat) (cv : Value) (m : Mst) (ask : Bool) (k p : Nat) (w : World) (hM : MAt w b cv m) (hk : m.size = k + 1) (hs : k + 1 ≤ 50) (hp : p ≤ 2000) (hlk : 0 ≤ m.looks) (hlk2 : m.looks ≤ 200) (hP : Pow w) (hPb : 2 < b) :
    Calls Tryz.prog 230 #[.pointer (some ⟨b, 0, none⟩), .bool ask, .int .i64 p] w fun e w' => e = .returned (.tuple #[]) ∧
      MAt w' b cv (if nameOk (m.S k) = false then { m with size := k, t := stuckT p m.steps } else if m.looks = 200 then { m with size := k, t := ⟨true, 3, ⟨#[]⟩, false, ⟨#[]⟩, m.steps⟩ } else { m with size := k, looks := m.looks + 1, t := ⟨false, 0, ⟨#[]⟩, ask, m.S k, m.steps⟩ }) ∧ Only b w w' := by
  have HM := hide hM
  have HP := hide hP
  have hl := hM.lt
  clear hM hP
  obtain ⟨X, hX⟩ : ∃ X, X = (if nameOk (m.S k) = false then { m with size := k, t := stuckT p m.steps } else if m.looks = 200 then { m with size := k, t := ⟨true, 3, ⟨#[]⟩, false, ⟨#[]⟩, m.steps⟩ } else { m with size := k, looks := m.looks + 1, t := ⟨false, 0, ⟨#[]⟩, ask, m.S k, m.steps⟩ }) := ⟨_, rfl⟩
  rw [← hX]
  have HX := hide hX
  clear hX
  go_enter Tryz.func230, Tryz.ntmps230
  go_wp2_with fail
  refine (take_any b cv m k _ HM.out hk (by omega)).mono ?_
  rintro e w1 ⟨rfl, hM1, hB1⟩
  have HM1 := hide hM1
  have HB1 := hide hB1
  clear hM1 hB1
  go_wp2_with fail
  refine (isName_any _ _).mono ?_
  rintro e w2 ⟨rfl, hB2⟩
  have HM2 := hide (HM1.out.below hB2 HM1.out.lt)
  have HB2 := hide (HB1.out.trans (Only.of_below hB2))
  clear hB2
  cases hn : nameOk (m.S k) with
  | false =>
    rw [if_pos hn] at HX
    go_wp2_with fail
    refine (stick_any b cv _ p _ HM2.out hp (HP.out.low (HB2.out.below (Nat.le_refl _) (Nat.le_of_lt hl)) hPb)).mono ?_
    rintro e w3 ⟨rfl, hM3, hB3⟩
    have HM3 := hide hM3
    have HB3 := hide (HB2.out.trans hB3)
    clear hM3 hB3
    go_wp2
    refine ret0 rfl rfl ?_
    exact ⟨rfl, by rw [HX.out]; exact HM3.out, HB3.out⟩
  | true =>
    rw [if_neg (by simp [hn])] at HX
    obtain ⟨c4, z4⟩ := HM2.out.fld 54 (.int .i64 m.looks) (by omega) (by simp [Mst.F])
    by_cases h200 : m.looks = 200
    · rw [if_pos h200] at HX
      have hb2 : (m.looks == 200) = true := by simp [h200]
      go_wp2_with fail
      refine (end_any b cv _ _ _ _ HM2.out).mono ?_
      rintro e w3 ⟨rfl, hM3, hB3⟩
      have HM3 := hide hM3
      have HB3 := hide (HB2.out.trans hB3)
      clear hM3 hB3
      go_wp2
      refine ret0 rfl rfl ?_
      exact ⟨rfl, by rw [HX.out]; exact HM3.out, HB3.out⟩
    · rw [if_neg h200] at HX
      have hb2 : (m.looks == 200) = false := by simp [h200]
      obtain ⟨c3, z3⟩ := HM2.out.fld 53 (.int .i64 m.steps) (by omega) (by simp [Mst.F])
      obtain ⟨⟨c5, z5⟩, ⟨c6, z6⟩, ⟨c7, z7⟩, ⟨c8, z8⟩, ⟨c9, z9⟩, c10, z10⟩ := HM2.out.turn
      go_wp2
      refine end0 rfl rfl ?_
      exact ⟨rfl, by rw [HX.out]; exact (HM2.out.setLooks _).setTurn ⟨false, 0, ⟨#[]⟩, ask, m.S k, m.steps⟩, bset6 (bset HB2.out _ _) ⟨false, 0, ⟨#[]⟩, ask, m.S k, m.steps⟩⟩
end Go.Proofs.YtkophfgkcijjkaaGreatDoor.Vp
