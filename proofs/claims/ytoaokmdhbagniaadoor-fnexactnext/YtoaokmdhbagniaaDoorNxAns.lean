/-
  impl: answer. Written by tools/ans.py.
-/
import Derived.Test.YtoaokmdhbagniaaDoorNxRun
namespace Go.Proofs.YtoaokmdhbagniaaDoor.Vp
open Go.RowKit

theorem box2 (w W1 : World) (cs : Array Value) (ty : TypeId) (T : Obj) (j : Nat) (v : Value) (hz : W1.heap.size = w.heap.size) (hv : cs[j]? = some v) : ((W1.alloc (.cells cs ty)).alloc T).cell? ⟨w.heap.size, j, none⟩ = some v := by
  rw [← hz, ((Below.refl (W1.alloc (.cells cs ty)).heap.size _).alloc (Nat.le_refl _) T).cell (p := ⟨W1.heap.size, j, none⟩) (by simp)]
  simp [hv]
def ansT (m : Mst) (c : Int) : Turn := ⟨true, c, m.t.name, false, ⟨#[]⟩, m.steps⟩

set_option maxHeartbeats 2000000 in
theorem answer_has (b : Nat) (cv : Value) (m : Mst) (x : Bool) (c : Int) (t : ByteArray) (w : World) (hM : MAt w b cv m) (ha : m.t.ask = false) (hs : m.size < 50) :
    Calls Tryd.prog 69 #[.pointer (some ⟨b, 0, none⟩), .agg #[.bool x, .int .i64 c, .string t]] w fun e w' => e = .returned (.tuple #[]) ∧
      MAt w' b cv { m with t := noTurn, S := upd m.S m.size (flagT x), size := m.size + 1 } ∧ Only b w w' := by
  have HM := hide hM
  have hlt := hM.lt
  obtain ⟨⟨c5, z5⟩, ⟨c6, z6⟩, ⟨c7, z7⟩, ⟨c8, z8⟩, ⟨c9, z9⟩, c10, z10⟩ := hM.turn
  rw [ha] at c8
  have HM1 : Hid (MAt ((((((((w.setCell ⟨b, 55, none⟩ (.bool false)).setCell ⟨b, 56, none⟩ (.int .i64 0)).setCell ⟨b, 57, none⟩ (.string ⟨#[]⟩)).setCell ⟨b, 58, none⟩ (.bool false)).setCell ⟨b, 59, none⟩ (.string ⟨#[]⟩)).setCell ⟨b, 60, none⟩ (.int .i64 0)).alloc (.cells #[.bool x, .int .i64 c, .string t] 102)).alloc (.cells #[.bool m.t.over, .int .i64 m.t.code, .string m.t.text, .bool false, .string m.t.name, .int .i64 m.t.steps] 57)) b cv { m with t := noTurn }) := hide (((HM.out.setTurn noTurn).al _).al _)
  have HO1 : Hid (Only b w ((((((((w.setCell ⟨b, 55, none⟩ (.bool false)).setCell ⟨b, 56, none⟩ (.int .i64 0)).setCell ⟨b, 57, none⟩ (.string ⟨#[]⟩)).setCell ⟨b, 58, none⟩ (.bool false)).setCell ⟨b, 59, none⟩ (.string ⟨#[]⟩)).setCell ⟨b, 60, none⟩ (.int .i64 0)).alloc (.cells #[.bool x, .int .i64 c, .string t] 102)).alloc (.cells #[.bool m.t.over, .int .i64 m.t.code, .string m.t.text, .bool false, .string m.t.name, .int .i64 m.t.steps] 57))) := hide (((bset6 (Only.refl b w) noTurn).al _).al _)
  have q0 : ((((((((w.setCell ⟨b, 55, none⟩ (.bool false)).setCell ⟨b, 56, none⟩ (.int .i64 0)).setCell ⟨b, 57, none⟩ (.string ⟨#[]⟩)).setCell ⟨b, 58, none⟩ (.bool false)).setCell ⟨b, 59, none⟩ (.string ⟨#[]⟩)).setCell ⟨b, 60, none⟩ (.int .i64 0)).alloc (.cells #[.bool x, .int .i64 c, .string t] 102)).alloc (.cells #[.bool m.t.over, .int .i64 m.t.code, .string m.t.text, .bool false, .string m.t.name, .int .i64 m.t.steps] 57)).cell? ⟨w.heap.size, 0, none⟩ = some (.bool x) := box2 w _ _ _ _ _ _ (by simp) rfl
  clear hM
  go_enter Tryd.func69, Tryd.ntmps69
  go_wp2_with fail
  clear c5 c6 c7 c8 c9 c10 z5 z6 z7 z8 z9 z10
  generalize ((((((((w.setCell ⟨b, 55, none⟩ (.bool false)).setCell ⟨b, 56, none⟩ (.int .i64 0)).setCell ⟨b, 57, none⟩ (.string ⟨#[]⟩)).setCell ⟨b, 58, none⟩ (.bool false)).setCell ⟨b, 59, none⟩ (.string ⟨#[]⟩)).setCell ⟨b, 60, none⟩ (.int .i64 0)).alloc (.cells #[.bool x, .int .i64 c, .string t] 102)).alloc (.cells #[.bool m.t.over, .int .i64 m.t.code, .string m.t.text, .bool false, .string m.t.name, .int .i64 m.t.steps] 57)) = W at HM1 HO1 q0 ⊢
  go_region_with (first | (go_at_call 95; refine (truth_any _ _).mono ?_; rintro e w1 ⟨rfl, hw1⟩; subst hw1) | (go_at_call 94; refine (put_any b cv { m with t := noTurn } _ _ ?_ hs).mono ?_; (first | exact HM1.out | exact HM1.out.drew | exact HM1.out.drew.drew); rintro e w2 ⟨rfl, hM2, hB2⟩; have HM2 := hide hM2; have HO2 : Hid (Only b w w2) := Only.trans (by repeat (first | exact HO1.out | apply Only.drew)) hB2; clear hM2 hB2))
  all_goals
    go_wp2
    refine end0 rfl rfl ?_
    exact ⟨rfl, HM2.out, HO2.out⟩

set_option maxHeartbeats 2000000 in
theorem answer_ask (b : Nat) (cv : Value) (m : Mst)  (t : ByteArray) (w : World) (hM : MAt w b cv m) (ha : m.t.ask = true) (hs : m.size < 50) :
    Calls Tryd.prog 69 #[.pointer (some ⟨b, 0, none⟩), .agg #[.bool true, .int .i64 0, .string t]] w fun e w' => e = .returned (.tuple #[]) ∧
      MAt w' b cv { m with t := noTurn, S := upd m.S m.size t, size := m.size + 1 } ∧ Only b w w' := by
  have HM := hide hM
  have hlt := hM.lt
  obtain ⟨⟨c5, z5⟩, ⟨c6, z6⟩, ⟨c7, z7⟩, ⟨c8, z8⟩, ⟨c9, z9⟩, c10, z10⟩ := hM.turn
  rw [ha] at c8
  have HM1 : Hid (MAt ((((((((w.setCell ⟨b, 55, none⟩ (.bool false)).setCell ⟨b, 56, none⟩ (.int .i64 0)).setCell ⟨b, 57, none⟩ (.string ⟨#[]⟩)).setCell ⟨b, 58, none⟩ (.bool false)).setCell ⟨b, 59, none⟩ (.string ⟨#[]⟩)).setCell ⟨b, 60, none⟩ (.int .i64 0)).alloc (.cells #[.bool true, .int .i64 0, .string t] 102)).alloc (.cells #[.bool m.t.over, .int .i64 m.t.code, .string m.t.text, .bool true, .string m.t.name, .int .i64 m.t.steps] 57)) b cv { m with t := noTurn }) := hide (((HM.out.setTurn noTurn).al _).al _)
  have HO1 : Hid (Only b w ((((((((w.setCell ⟨b, 55, none⟩ (.bool false)).setCell ⟨b, 56, none⟩ (.int .i64 0)).setCell ⟨b, 57, none⟩ (.string ⟨#[]⟩)).setCell ⟨b, 58, none⟩ (.bool false)).setCell ⟨b, 59, none⟩ (.string ⟨#[]⟩)).setCell ⟨b, 60, none⟩ (.int .i64 0)).alloc (.cells #[.bool true, .int .i64 0, .string t] 102)).alloc (.cells #[.bool m.t.over, .int .i64 m.t.code, .string m.t.text, .bool true, .string m.t.name, .int .i64 m.t.steps] 57))) := hide (((bset6 (Only.refl b w) noTurn).al _).al _)
  have q2 : ((((((((w.setCell ⟨b, 55, none⟩ (.bool false)).setCell ⟨b, 56, none⟩ (.int .i64 0)).setCell ⟨b, 57, none⟩ (.string ⟨#[]⟩)).setCell ⟨b, 58, none⟩ (.bool false)).setCell ⟨b, 59, none⟩ (.string ⟨#[]⟩)).setCell ⟨b, 60, none⟩ (.int .i64 0)).alloc (.cells #[.bool true, .int .i64 0, .string t] 102)).alloc (.cells #[.bool m.t.over, .int .i64 m.t.code, .string m.t.text, .bool true, .string m.t.name, .int .i64 m.t.steps] 57)).cell? ⟨w.heap.size, 2, none⟩ = some (.string t) := box2 w _ _ _ _ _ _ (by simp) rfl
  clear hM
  go_enter Tryd.func69, Tryd.ntmps69
  go_wp2_with fail
  clear c5 c6 c7 c8 c9 c10 z5 z6 z7 z8 z9 z10
  generalize ((((((((w.setCell ⟨b, 55, none⟩ (.bool false)).setCell ⟨b, 56, none⟩ (.int .i64 0)).setCell ⟨b, 57, none⟩ (.string ⟨#[]⟩)).setCell ⟨b, 58, none⟩ (.bool false)).setCell ⟨b, 59, none⟩ (.string ⟨#[]⟩)).setCell ⟨b, 60, none⟩ (.int .i64 0)).alloc (.cells #[.bool true, .int .i64 0, .string t] 102)).alloc (.cells #[.bool m.t.over, .int .i64 m.t.code, .string m.t.text, .bool true, .string m.t.name, .int .i64 m.t.steps] 57)) = W at HM1 HO1 q2 ⊢
  go_region_with (go_at_call 94; refine (put_any b cv { m with t := noTurn } _ _ ?_ hs).mono ?_; (first | exact HM1.out | exact HM1.out.drew | exact HM1.out.drew.drew); rintro e w2 ⟨rfl, hM2, hB2⟩; have HM2 := hide hM2; have HO2 : Hid (Only b w w2) := Only.trans (by repeat (first | exact HO1.out | apply Only.drew)) hB2; clear hM2 hB2)
  all_goals
    go_wp2
    refine end0 rfl rfl ?_
    exact ⟨rfl, HM2.out, HO2.out⟩

set_option maxHeartbeats 2000000 in
theorem answer_missing (b : Nat) (cv : Value) (m : Mst) (c : Int) (t : ByteArray) (w : World) (hM : MAt w b cv m) (ha : m.t.ask = true) :
    Calls Tryd.prog 69 #[.pointer (some ⟨b, 0, none⟩), .agg #[.bool false, .int .i64 c, .string t]] w fun e w' => e = .returned (.tuple #[]) ∧
      MAt w' b cv { m with t := ansT m 4 } ∧ Only b w w' := by
  have HM := hide hM
  have hlt := hM.lt
  obtain ⟨⟨c5, z5⟩, ⟨c6, z6⟩, ⟨c7, z7⟩, ⟨c8, z8⟩, ⟨c9, z9⟩, c10, z10⟩ := hM.turn
  rw [ha] at c8
  have HM1 : Hid (MAt ((((((((w.setCell ⟨b, 55, none⟩ (.bool false)).setCell ⟨b, 56, none⟩ (.int .i64 0)).setCell ⟨b, 57, none⟩ (.string ⟨#[]⟩)).setCell ⟨b, 58, none⟩ (.bool false)).setCell ⟨b, 59, none⟩ (.string ⟨#[]⟩)).setCell ⟨b, 60, none⟩ (.int .i64 0)).alloc (.cells #[.bool false, .int .i64 c, .string t] 102)).alloc (.cells #[.bool m.t.over, .int .i64 m.t.code, .string m.t.text, .bool true, .string m.t.name, .int .i64 m.t.steps] 57)) b cv { m with t := noTurn }) := hide (((HM.out.setTurn noTurn).al _).al _)
  have HO1 : Hid (Only b w ((((((((w.setCell ⟨b, 55, none⟩ (.bool false)).setCell ⟨b, 56, none⟩ (.int .i64 0)).setCell ⟨b, 57, none⟩ (.string ⟨#[]⟩)).setCell ⟨b, 58, none⟩ (.bool false)).setCell ⟨b, 59, none⟩ (.string ⟨#[]⟩)).setCell ⟨b, 60, none⟩ (.int .i64 0)).alloc (.cells #[.bool false, .int .i64 c, .string t] 102)).alloc (.cells #[.bool m.t.over, .int .i64 m.t.code, .string m.t.text, .bool true, .string m.t.name, .int .i64 m.t.steps] 57))) := hide (((bset6 (Only.refl b w) noTurn).al _).al _)
  clear hM
  go_enter Tryd.func69, Tryd.ntmps69
  go_wp2_with fail
  clear c5 c6 c7 c8 c9 c10 z5 z6 z7 z8 z9 z10
  generalize ((((((((w.setCell ⟨b, 55, none⟩ (.bool false)).setCell ⟨b, 56, none⟩ (.int .i64 0)).setCell ⟨b, 57, none⟩ (.string ⟨#[]⟩)).setCell ⟨b, 58, none⟩ (.bool false)).setCell ⟨b, 59, none⟩ (.string ⟨#[]⟩)).setCell ⟨b, 60, none⟩ (.int .i64 0)).alloc (.cells #[.bool false, .int .i64 c, .string t] 102)).alloc (.cells #[.bool m.t.over, .int .i64 m.t.code, .string m.t.text, .bool true, .string m.t.name, .int .i64 m.t.steps] 57)) = W at HM1 HO1  ⊢
  refine (end_any b cv { m with t := noTurn } _ _ _ HM1.out).mono ?_
  rintro e w2 ⟨rfl, hM2, hB2⟩
  have HM2 := hide hM2
  have HO2 : Hid (Only b w w2) := HO1.out.trans hB2
  clear hM2 hB2
  all_goals
    go_wp2
    refine end0 rfl rfl ?_
    exact ⟨rfl, HM2.out, HO2.out⟩

set_option maxHeartbeats 2000000 in
theorem answer_below (b : Nat) (cv : Value) (m : Mst) (c : Int) (t : ByteArray) (w : World) (hM : MAt w b cv m) (ha : m.t.ask = true) (hc : (c == 0) = false) :
    Calls Tryd.prog 69 #[.pointer (some ⟨b, 0, none⟩), .agg #[.bool true, .int .i64 c, .string t]] w fun e w' => e = .returned (.tuple #[]) ∧
      MAt w' b cv { m with t := ansT m 5 } ∧ Only b w w' := by
  have HM := hide hM
  have hlt := hM.lt
  obtain ⟨⟨c5, z5⟩, ⟨c6, z6⟩, ⟨c7, z7⟩, ⟨c8, z8⟩, ⟨c9, z9⟩, c10, z10⟩ := hM.turn
  rw [ha] at c8
  have HM1 : Hid (MAt ((((((((w.setCell ⟨b, 55, none⟩ (.bool false)).setCell ⟨b, 56, none⟩ (.int .i64 0)).setCell ⟨b, 57, none⟩ (.string ⟨#[]⟩)).setCell ⟨b, 58, none⟩ (.bool false)).setCell ⟨b, 59, none⟩ (.string ⟨#[]⟩)).setCell ⟨b, 60, none⟩ (.int .i64 0)).alloc (.cells #[.bool true, .int .i64 c, .string t] 102)).alloc (.cells #[.bool m.t.over, .int .i64 m.t.code, .string m.t.text, .bool true, .string m.t.name, .int .i64 m.t.steps] 57)) b cv { m with t := noTurn }) := hide (((HM.out.setTurn noTurn).al _).al _)
  have HO1 : Hid (Only b w ((((((((w.setCell ⟨b, 55, none⟩ (.bool false)).setCell ⟨b, 56, none⟩ (.int .i64 0)).setCell ⟨b, 57, none⟩ (.string ⟨#[]⟩)).setCell ⟨b, 58, none⟩ (.bool false)).setCell ⟨b, 59, none⟩ (.string ⟨#[]⟩)).setCell ⟨b, 60, none⟩ (.int .i64 0)).alloc (.cells #[.bool true, .int .i64 c, .string t] 102)).alloc (.cells #[.bool m.t.over, .int .i64 m.t.code, .string m.t.text, .bool true, .string m.t.name, .int .i64 m.t.steps] 57))) := hide (((bset6 (Only.refl b w) noTurn).al _).al _)
  clear hM
  go_enter Tryd.func69, Tryd.ntmps69
  go_wp2_with fail
  clear c5 c6 c7 c8 c9 c10 z5 z6 z7 z8 z9 z10
  generalize ((((((((w.setCell ⟨b, 55, none⟩ (.bool false)).setCell ⟨b, 56, none⟩ (.int .i64 0)).setCell ⟨b, 57, none⟩ (.string ⟨#[]⟩)).setCell ⟨b, 58, none⟩ (.bool false)).setCell ⟨b, 59, none⟩ (.string ⟨#[]⟩)).setCell ⟨b, 60, none⟩ (.int .i64 0)).alloc (.cells #[.bool true, .int .i64 c, .string t] 102)).alloc (.cells #[.bool m.t.over, .int .i64 m.t.code, .string m.t.text, .bool true, .string m.t.name, .int .i64 m.t.steps] 57)) = W at HM1 HO1  ⊢
  refine (end_any b cv { m with t := noTurn } _ _ _ HM1.out).mono ?_
  rintro e w2 ⟨rfl, hM2, hB2⟩
  have HM2 := hide hM2
  have HO2 : Hid (Only b w w2) := HO1.out.trans hB2
  clear hM2 hB2
  all_goals
    go_wp2
    refine end0 rfl rfl ?_
    exact ⟨rfl, HM2.out, HO2.out⟩

end Go.Proofs.YtoaokmdhbagniaaDoor.Vp
