import Derived.Test.YtkophfgkcijjkaaGreatDoorZW
import Derived.Test.YtkophfgkcijjkaaGreatDoorZY
namespace Go.Proofs.YtkophfgkcijjkaaGreatDoor.Vp
open Go.RowKit
def Rep (S : Nat → ByteArray) : List ByteArray → Prop
  | [] => True
  | x :: r => S r.length = x ∧ Rep S r
theorem Rep.upd {S : Nat → ByteArray} {r : List ByteArray} {k : Nat} (x : ByteArray) (h : Rep S r) (hk : r.length ≤ k) : Rep (upd S k x) r := by
  induction r with
  | nil => trivial
  | cons y r ih =>
    simp only [List.length_cons] at hk
    refine ⟨?_, ih h.2 (by omega)⟩
    unfold Vp.upd
    rw [if_neg (by omega)]
    exact h.1
theorem Rep.push {S : Nat → ByteArray} {r : List ByteArray} (x : ByteArray) (h : Rep S r) : Rep (Vp.upd S r.length x) (x :: r) :=
  ⟨by simp [Vp.upd], h.upd x (Nat.le_refl _)⟩
theorem Rep.push' {S : Nat → ByteArray} {r : List ByteArray} {x v : ByteArray} (h : Rep S r) (e : x = v) : Rep (Vp.upd S r.length x) (v :: r) := e ▸ h.push x
theorem Rep.at {S : Nat → ByteArray} {r : List ByteArray} {k : Nat} (h : Rep S r) (hk : k < r.length) : S k ∈ r := by
  induction r with
  | nil => simp at hk
  | cons y r ih =>
    by_cases e : k = r.length
    · subst e; simp [h.1]
    · exact List.mem_cons_of_mem _ (ih h.2 (by simp at hk; omega))
abbrev Res := (List ByteArray × Nat) ⊕ (Int × ByteArray) ⊕ (Bool × ByteArray × List ByteArray)
def lookP (ask : Bool) (a : ByteArray) (r : List ByteArray) (here looks : Nat) : Res :=
  if nameOk a = false then .inr (.inl (2, (decT here))) else if looks = 200 then .inr (.inl (3, ⟨#[]⟩)) else .inr (.inr (ask, a, r))
def performP (op n : Nat) (t : ByteArray) (here looks : Nat) (stk : List ByteArray) : Res :=
  match op, stk with
  | 1, stk => .inl ((t :: stk), (here + 1))
  | 2, b :: a :: r => if a.size + b.size ≤ 2000 then .inl (((a ++ b) :: r), (here + 1)) else .inr (.inl (2, (decT here)))
  | 3, a :: r => .inl (((if n < a.size then a.extract 0 n else a) :: r), (here + 1))
  | 4, a :: r => .inl (((if n < a.size then a.extract n a.size else ⟨#[]⟩) :: r), (here + 1))
  | 5, a :: r => .inl ((wordT a n :: r), (here + 1))
  | 6, b :: a :: r => .inl ((flagT (b.toList == a.toList) :: r), (here + 1))
  | 7, a :: r => .inl ((a :: a :: r), (here + 1))
  | 8, b :: a :: r => .inl ((a :: b :: r), (here + 1))
  | 9, _ :: r => .inl (r, (here + 1))
  | 10, stk => .inl (stk, n)
  | 11, a :: r => .inl (r, (if a.toList = [] ∨ (a.toList == [48]) = true then n else here + 1))
  | 12, a :: r => lookP true a r here looks
  | 13, a :: r => lookP false a r here looks
  | 14, a :: _ => .inr (.inl (1, a))
  | 15, a :: _ => .inr (.inl (0, a))
  | _, _ => .inr (.inl (0, ⟨#[]⟩))
def After (m m' : Mst) (res : Res) : Prop := m'.steps = m.steps ∧ match res with
  | .inl (stk, p) => Rep m'.S stk ∧ m'.size = stk.length ∧ m'.place = p ∧ m'.looks = m.looks ∧ m'.t = m.t
  | .inr (.inl (c, x)) => m'.t = ⟨true, c, x, false, ⟨#[]⟩, m.steps⟩
  | .inr (.inr (ask, name, stk)) => Rep m'.S stk ∧ m'.size = stk.length ∧ m'.place = m.place ∧ m'.looks = m.looks + 1 ∧ m'.t = ⟨false, 0, ⟨#[]⟩, ask, name, m.steps⟩
theorem MAt.bel {w w' : World} {b : Nat} {cv : Value} {m : Mst} (h : MAt w b cv m) (hB : Below w.heap.size w w') : MAt w' b cv m := h.below hB h.lt
theorem Only.bel {b : Nat} {u w w' : World} (h : Only b u w) (hB : Below w.heap.size w w') : Only b u w' := h.trans (Only.of_below hB)
theorem Only.frozen {b : Nat} {w w' : World} (h : Only b w w') (k o : Nat) (hk : k < w.heap.size) (hb : k ≠ b) : w'.frozen? ⟨k, o, none⟩ = w.frozen? ⟨k, o, none⟩ := World.frozen?_of_block (w := w) (a := ⟨k, o, none⟩) (h.block k hk hb)
theorem Only.setNew {b : Nat} {w W : World} (h : Only b w W) (k o : Nat) (v : Value) (hk : w.heap.size ≤ k) : Only b w (W.setCell ⟨k, o, none⟩ v) :=
  ⟨h.os, h.tape, h.output, by simpa [World.setCell] using h.size, fun i hi ho => (Below.heap_setCell _ _ _ _ (by simp; omega)).trans (h.block i hi ho), fun cs t fz hb => by
    obtain ⟨cs1, h1⟩ := h.ty cs t fz hb
    have hbl := heap_in hb
    exact ⟨cs1, (Below.heap_setCell _ _ _ _ (by simp; omega)).trans h1⟩⟩
theorem MAt.other {w : World} {b : Nat} {cv : Value} {m : Mst} (h : MAt w b cv m) (k o : Nat) (v : Value) (hk : k ≠ b) : MAt (w.setCell ⟨k, o, none⟩ v) b cv m :=
  ⟨by simpa using h.1, fun j hj => ⟨(cell_far w ⟨k, o, none⟩ ⟨b, j, none⟩ v hk).trans (h.2 j hj).1, by have := (h.2 j hj).2; simpa using this⟩⟩
theorem take_is (b : Nat) (cv : Value) (m : Mst) (k : Nat) (v : ByteArray) (w : World) (hM : MAt w b cv m) (hk : m.size = k + 1) (hs : k < 50) (hv : m.S k = v) :
    Calls Tryz.prog 228 #[.pointer (some ⟨b, 0, none⟩)] w fun e w' => e = .returned (.string v) ∧ MAt w' b cv { m with size := k } ∧ Only b w w' := by
  rw [← hv]
  exact take_any b cv m k w hM hk hs
theorem MAt.drew {w : World} {b : Nat} {cv : Value} {m : Mst} (h : MAt w b cv m) : MAt w.drew b cv m := h.below (Below.refl _ _).drew (Nat.lt_succ_self _)
theorem MAt.al {w : World} {b : Nat} {cv : Value} {m : Mst} (h : MAt w b cv m) (o : Obj) : MAt (w.alloc o) b cv m := h.below ((Below.refl w.heap.size _).alloc (Nat.le_refl _) _) h.lt
end Go.Proofs.YtkophfgkcijjkaaGreatDoor.Vp
namespace Go.Proofs.YtkophfgkcijjkaaGreatDoor.Vp
open Go.RowKit
set_option maxHeartbeats 2000000 in
set_option maxRecDepth 1000000 in
theorem perf1 (b : Nat) (cv : Value) (m : Mst) (n here : Nat) (t : ByteArray) (stk : List ByteArray) (w : World) (hM : MAt w b cv m) (hR : Rep m.S (stk)) (hz : m.size = (stk).length) (hl : (stk).length ≤ 50) (hp : m.place = here + 1) (hl2 : stk.length < 50) :
    Calls Tryz.prog 206 #[.pointer (some ⟨b, 0, none⟩), .agg #[.int .i64 1, .string t, .int .i64 n], .int .i64 here] w fun e w' => e = .returned (.tuple #[]) ∧ (∃ m', MAt w' b cv m' ∧ After m m' (.inl ((t :: stk), (here + 1)))) ∧ Only b w w' := by
  have HM := hide hM
  have HR := hide hR
  have hlt := hM.lt
  have HZ := hide hz
  have hi0 : (w.alloc (.cells #[.int .i64 1, .string t, .int .i64 n] 176)).cell? ⟨w.heap.size, 2, none⟩ = some (.int .i64 n) := by simp
  have HI0 := hide hi0
  have HM0 := hide (HM.out.al (.cells #[.int .i64 1, .string t, .int .i64 n] 176))
  have HB0 := hide ((Only.refl b w).al (.cells #[.int .i64 1, .string t, .int .i64 n] 176))
  have hs0 : w.heap.size < (w.alloc (.cells #[.int .i64 1, .string t, .int .i64 n] 176)).heap.size := by simp
  clear hM hR hi0
  obtain ⟨R, hRes⟩ : ∃ R : Res, R = (.inl ((t :: stk), (here + 1))) := ⟨_, rfl⟩
  rw [← hRes]
  have HQ := hide hRes
  clear hRes
  go_enter Tryz.func206, Tryz.ntmps206
  have HN0 := hide (Only.refl b (w.alloc (.cells #[.int .i64 1, .string t, .int .i64 n] 176)))
  go_wp2_with fail
  go_region_with (go_at_call 165; refine (put_any b cv m t _ ?_ (by omega)).mono ?_; (first | exact HM0.out | exact HM0.out.drew | exact HM0.out.drew.drew | exact HM0.out.drew.drew.drew); rintro e w1 ⟨rfl, hM1, hB1⟩; have HM1 := hide hM1; have HN1 : Hid (Only b (w.alloc (.cells #[.int .i64 1, .string t, .int .i64 n] 176)) w1) := Only.trans (by repeat (first | exact HN0.out | exact Only.refl _ _ | apply Only.drew)) hB1; clear hM1 hB1)
  all_goals
    go_wp2
    refine end0 rfl rfl ?_
    exact ⟨rfl, ⟨_, HM1.out, by rw [HQ.out]; exact ⟨rfl, by rw [HZ.out]; exact HR.out.push t, by simp [HZ.out], hp, rfl, rfl⟩⟩, HB0.out.trans HN1.out⟩
set_option maxHeartbeats 2000000 in
set_option maxRecDepth 1000000 in
theorem perf2 (b : Nat) (cv : Value) (m : Mst) (n here : Nat) (t : ByteArray) (x y : ByteArray) (r : List ByteArray) (w : World) (hM : MAt w b cv m) (hR : Rep m.S (x :: y :: r)) (hz : m.size = (x :: y :: r).length) (hl : (x :: y :: r).length ≤ 50) (hp : m.place = here + 1) (hh : here ≤ 2000) (hP : Pow w) (hPb : 2 < b) (h1 : x.size ≤ 2000) (h2 : y.size ≤ 2000) :
    Calls Tryz.prog 206 #[.pointer (some ⟨b, 0, none⟩), .agg #[.int .i64 2, .string t, .int .i64 n], .int .i64 here] w fun e w' => e = .returned (.tuple #[]) ∧ (∃ m', MAt w' b cv m' ∧ After m m' (if y.size + x.size ≤ 2000 then .inl (((y ++ x) :: r), (here + 1)) else .inr (.inl (2, (decT here))))) ∧ Only b w w' := by
  have HM := hide hM
  have hx : m.S (r.length + 1) = x := hR.1
  have hy : m.S r.length = y := hR.2.1
  have HR := hide hR.2.2
  have hlt := hM.lt
  simp only [List.length_cons] at hl hz
  have HZ := hide hz
  have hi0 : (w.alloc (.cells #[.int .i64 2, .string t, .int .i64 n] 176)).cell? ⟨w.heap.size, 2, none⟩ = some (.int .i64 n) := by simp
  have HI0 := hide hi0
  have HM0 := hide (HM.out.al (.cells #[.int .i64 2, .string t, .int .i64 n] 176))
  have HB0 := hide ((Only.refl b w).al (.cells #[.int .i64 2, .string t, .int .i64 n] 176))
  have hs0 : w.heap.size < (w.alloc (.cells #[.int .i64 2, .string t, .int .i64 n] 176)).heap.size := by simp
  clear hM hR hi0
  obtain ⟨R, hRes⟩ : ∃ R : Res, R = (if y.size + x.size ≤ 2000 then .inl (((y ++ x) :: r), (here + 1)) else .inr (.inl (2, (decT here)))) := ⟨_, rfl⟩
  rw [← hRes]
  have HQ := hide hRes
  clear hRes
  go_enter Tryz.func206, Tryz.ntmps206
  have HN0 := hide (Only.refl b (w.alloc (.cells #[.int .i64 2, .string t, .int .i64 n] 176)))
  have HP := hide hP
  clear hP
  go_wp2_with fail
  refine (join_any b cv m r.length here _ HM0.out HZ.out (by omega) hh (HP.out.low (HB0.out.below (Nat.le_refl _) (Nat.le_of_lt hlt)) hPb) hPb (by rw [hy]; exact h2) (by rw [hx]; exact h1)).mono ?_
  rw [hx, hy]
  rintro e w1 ⟨rfl, hM1, hB1⟩
  have HM1 := hide hM1
  have HB1 := hide (HB0.out.trans hB1)
  clear hM1 hB1
  go_wp2
  refine end0 rfl rfl ?_
  refine ⟨rfl, ⟨_, HM1.out, ?_⟩, HB1.out⟩
  rw [HQ.out]
  by_cases hs : y.size + x.size ≤ 2000
  · rw [if_pos hs, if_pos hs]
    exact ⟨rfl, HR.out.push _, by simp, hp, rfl, rfl⟩
  · rw [if_neg hs, if_neg hs]
    exact ⟨rfl, rfl⟩
set_option maxHeartbeats 2000000 in
set_option maxRecDepth 1000000 in
theorem perf3 (b : Nat) (cv : Value) (m : Mst) (n here : Nat) (t : ByteArray) (x : ByteArray) (r : List ByteArray) (w : World) (hM : MAt w b cv m) (hR : Rep m.S (x :: r)) (hz : m.size = (x :: r).length) (hl : (x :: r).length ≤ 50) (hp : m.place = here + 1) (h1 : x.size ≤ 2000) :
    Calls Tryz.prog 206 #[.pointer (some ⟨b, 0, none⟩), .agg #[.int .i64 3, .string t, .int .i64 n], .int .i64 here] w fun e w' => e = .returned (.tuple #[]) ∧ (∃ m', MAt w' b cv m' ∧ After m m' (.inl (((if n < x.size then x.extract 0 n else x) :: r), (here + 1)))) ∧ Only b w w' := by
  have HM := hide hM
  have hx : m.S r.length = x := hR.1
  have HR := hide hR.2
  have hlt := hM.lt
  simp only [List.length_cons] at hl hz
  have HZ := hide hz
  have hi0 : (w.alloc (.cells #[.int .i64 3, .string t, .int .i64 n] 176)).cell? ⟨w.heap.size, 2, none⟩ = some (.int .i64 n) := by simp
  have HI0 := hide hi0
  have HM0 := hide (HM.out.al (.cells #[.int .i64 3, .string t, .int .i64 n] 176))
  have HB0 := hide ((Only.refl b w).al (.cells #[.int .i64 3, .string t, .int .i64 n] 176))
  have hs0 : w.heap.size < (w.alloc (.cells #[.int .i64 3, .string t, .int .i64 n] 176)).heap.size := by simp
  clear hM hR hi0
  obtain ⟨R, hRes⟩ : ∃ R : Res, R = (.inl (((if n < x.size then x.extract 0 n else x) :: r), (here + 1))) := ⟨_, rfl⟩
  rw [← hRes]
  have HQ := hide hRes
  clear hRes
  go_enter Tryz.func206, Tryz.ntmps206
  have HN0 := hide (Only.refl b (w.alloc (.cells #[.int .i64 3, .string t, .int .i64 n] 176)))
  go_wp2_with fail
  refine (take_is b cv m r.length x _ ?_ HZ.out (by omega) hx).mono ?_
  · exact HM0.out
  rintro e w1 ⟨rfl, hM1, hB1⟩
  have HM1 := hide hM1
  have HN1 : Hid (Only b (w.alloc (.cells #[.int .i64 3, .string t, .int .i64 n] 176)) w1) := Only.trans (by repeat (first | exact HN0.out | exact Only.refl _ _ | apply Only.drew)) hB1
  clear hM1 hB1
  have i1 : w1.cell? ⟨w.heap.size, 2, none⟩ = some (.int .i64 n) := (HN1.out.cell w.heap.size 2 hs0 (by omega)).trans HI0.out
  by_cases hn : (n : Int) < (x.size : Int)
  · rw [if_pos (by omega)] at HQ
    have HV : Hid (x.extract 0 (min (n : Int) (x.size : Int)).toNat = x.extract 0 n) := by
      show x.extract 0 (min (n : Int) (x.size : Int)).toNat = x.extract 0 n
      rw [show (min (n : Int) (x.size : Int)).toNat = n by omega]
    go_wp2_with fail
    go_region_with (go_at_call 165; refine (put_any b cv { m with size := r.length } _ _ ?_ (by simp; omega)).mono ?_; (first | exact HM1.out | exact HM1.out.drew | exact HM1.out.drew.drew | exact HM1.out.drew.drew.drew); rintro e w2 ⟨rfl, hM2, hB2⟩; have HM2 := hide hM2; have HN2 : Hid (Only b (w.alloc (.cells #[.int .i64 3, .string t, .int .i64 n] 176)) w2) := Only.trans (by repeat (first | exact HN1.out | exact Only.refl _ _ | apply Only.drew)) hB2; clear hM2 hB2)
    all_goals
      go_wp2
      refine end0 rfl rfl ?_
      exact ⟨rfl, ⟨_, HM2.out, by rw [HQ.out]; exact ⟨rfl, HR.out.push' HV.out, by simp, hp, rfl, rfl⟩⟩, HB0.out.trans HN2.out⟩
  · rw [if_neg (by omega)] at HQ
    have HV : Hid (x.extract 0 (min (n : Int) (x.size : Int)).toNat = x) := by
      show x.extract 0 (min (n : Int) (x.size : Int)).toNat = x
      rw [show (min (n : Int) (x.size : Int)).toNat = x.size by omega]
      simp
    go_wp2_with fail
    go_region_with (go_at_call 165; refine (put_any b cv { m with size := r.length } _ _ ?_ (by simp; omega)).mono ?_; (first | exact HM1.out | exact HM1.out.drew | exact HM1.out.drew.drew | exact HM1.out.drew.drew.drew); rintro e w2 ⟨rfl, hM2, hB2⟩; have HM2 := hide hM2; have HN2 : Hid (Only b (w.alloc (.cells #[.int .i64 3, .string t, .int .i64 n] 176)) w2) := Only.trans (by repeat (first | exact HN1.out | exact Only.refl _ _ | apply Only.drew)) hB2; clear hM2 hB2)
    all_goals
      go_wp2
      refine end0 rfl rfl ?_
      exact ⟨rfl, ⟨_, HM2.out, by rw [HQ.out]; exact ⟨rfl, HR.out.push' HV.out, by simp, hp, rfl, rfl⟩⟩, HB0.out.trans HN2.out⟩
set_option maxHeartbeats 2000000 in
set_option maxRecDepth 1000000 in
theorem perf4 (b : Nat) (cv : Value) (m : Mst) (n here : Nat) (t : ByteArray) (x : ByteArray) (r : List ByteArray) (w : World) (hM : MAt w b cv m) (hR : Rep m.S (x :: r)) (hz : m.size = (x :: r).length) (hl : (x :: r).length ≤ 50) (hp : m.place = here + 1) (h1 : x.size ≤ 2000) :
    Calls Tryz.prog 206 #[.pointer (some ⟨b, 0, none⟩), .agg #[.int .i64 4, .string t, .int .i64 n], .int .i64 here] w fun e w' => e = .returned (.tuple #[]) ∧ (∃ m', MAt w' b cv m' ∧ After m m' (.inl (((if n < x.size then x.extract n x.size else ⟨#[]⟩) :: r), (here + 1)))) ∧ Only b w w' := by
  have HM := hide hM
  have hx : m.S r.length = x := hR.1
  have HR := hide hR.2
  have hlt := hM.lt
  simp only [List.length_cons] at hl hz
  have HZ := hide hz
  have hi0 : (w.alloc (.cells #[.int .i64 4, .string t, .int .i64 n] 176)).cell? ⟨w.heap.size, 2, none⟩ = some (.int .i64 n) := by simp
  have HI0 := hide hi0
  have HM0 := hide (HM.out.al (.cells #[.int .i64 4, .string t, .int .i64 n] 176))
  have HB0 := hide ((Only.refl b w).al (.cells #[.int .i64 4, .string t, .int .i64 n] 176))
  have hs0 : w.heap.size < (w.alloc (.cells #[.int .i64 4, .string t, .int .i64 n] 176)).heap.size := by simp
  clear hM hR hi0
  obtain ⟨R, hRes⟩ : ∃ R : Res, R = (.inl (((if n < x.size then x.extract n x.size else ⟨#[]⟩) :: r), (here + 1))) := ⟨_, rfl⟩
  rw [← hRes]
  have HQ := hide hRes
  clear hRes
  go_enter Tryz.func206, Tryz.ntmps206
  have HN0 := hide (Only.refl b (w.alloc (.cells #[.int .i64 4, .string t, .int .i64 n] 176)))
  go_wp2_with fail
  refine (take_is b cv m r.length x _ ?_ HZ.out (by omega) hx).mono ?_
  · exact HM0.out
  rintro e w1 ⟨rfl, hM1, hB1⟩
  have HM1 := hide hM1
  have HN1 : Hid (Only b (w.alloc (.cells #[.int .i64 4, .string t, .int .i64 n] 176)) w1) := Only.trans (by repeat (first | exact HN0.out | exact Only.refl _ _ | apply Only.drew)) hB1
  clear hM1 hB1
  have i1 : w1.cell? ⟨w.heap.size, 2, none⟩ = some (.int .i64 n) := (HN1.out.cell w.heap.size 2 hs0 (by omega)).trans HI0.out
  by_cases hn : (n : Int) < (x.size : Int)
  · rw [if_pos (by omega)] at HQ
    have HV : Hid (x.extract (min (n : Int) (x.size : Int)).toNat x.size = x.extract n x.size) := by
      show x.extract (min (n : Int) (x.size : Int)).toNat x.size = x.extract n x.size
      rw [show (min (n : Int) (x.size : Int)).toNat = n by omega]
    go_wp2_with fail
    go_region_with (go_at_call 165; refine (put_any b cv { m with size := r.length } _ _ ?_ (by simp; omega)).mono ?_; (first | exact HM1.out | exact HM1.out.drew | exact HM1.out.drew.drew | exact HM1.out.drew.drew.drew); rintro e w2 ⟨rfl, hM2, hB2⟩; have HM2 := hide hM2; have HN2 : Hid (Only b (w.alloc (.cells #[.int .i64 4, .string t, .int .i64 n] 176)) w2) := Only.trans (by repeat (first | exact HN1.out | exact Only.refl _ _ | apply Only.drew)) hB2; clear hM2 hB2)
    all_goals
      go_wp2
      refine end0 rfl rfl ?_
      exact ⟨rfl, ⟨_, HM2.out, by rw [HQ.out]; exact ⟨rfl, HR.out.push' HV.out, by simp, hp, rfl, rfl⟩⟩, HB0.out.trans HN2.out⟩
  · rw [if_neg (by omega)] at HQ
    have HV : Hid (x.extract (min (n : Int) (x.size : Int)).toNat x.size = ⟨#[]⟩) := by
      show x.extract (min (n : Int) (x.size : Int)).toNat x.size = ⟨#[]⟩
      rw [show (min (n : Int) (x.size : Int)).toNat = x.size by omega]
      exact empty_of_size (by simp)
    go_wp2_with fail
    go_region_with (go_at_call 165; refine (put_any b cv { m with size := r.length } _ _ ?_ (by simp; omega)).mono ?_; (first | exact HM1.out | exact HM1.out.drew | exact HM1.out.drew.drew | exact HM1.out.drew.drew.drew); rintro e w2 ⟨rfl, hM2, hB2⟩; have HM2 := hide hM2; have HN2 : Hid (Only b (w.alloc (.cells #[.int .i64 4, .string t, .int .i64 n] 176)) w2) := Only.trans (by repeat (first | exact HN1.out | exact Only.refl _ _ | apply Only.drew)) hB2; clear hM2 hB2)
    all_goals
      go_wp2
      refine end0 rfl rfl ?_
      exact ⟨rfl, ⟨_, HM2.out, by rw [HQ.out]; exact ⟨rfl, HR.out.push' HV.out, by simp, hp, rfl, rfl⟩⟩, HB0.out.trans HN2.out⟩
set_option maxHeartbeats 2000000 in
set_option maxRecDepth 1000000 in
theorem perf5 (b : Nat) (cv : Value) (m : Mst) (n here : Nat) (t : ByteArray) (x : ByteArray) (r : List ByteArray) (w : World) (hM : MAt w b cv m) (hR : Rep m.S (x :: r)) (hz : m.size = (x :: r).length) (hl : (x :: r).length ≤ 50) (hp : m.place = here + 1) (h1 : x.size ≤ 2000) (hn : n ≤ 2000) :
    Calls Tryz.prog 206 #[.pointer (some ⟨b, 0, none⟩), .agg #[.int .i64 5, .string t, .int .i64 n], .int .i64 here] w fun e w' => e = .returned (.tuple #[]) ∧ (∃ m', MAt w' b cv m' ∧ After m m' (.inl ((wordT x n :: r), (here + 1)))) ∧ Only b w w' := by
  have HM := hide hM
  have hx : m.S r.length = x := hR.1
  have HR := hide hR.2
  have hlt := hM.lt
  simp only [List.length_cons] at hl hz
  have HZ := hide hz
  have hi0 : (w.alloc (.cells #[.int .i64 5, .string t, .int .i64 n] 176)).cell? ⟨w.heap.size, 2, none⟩ = some (.int .i64 n) := by simp
  have HI0 := hide hi0
  have HM0 := hide (HM.out.al (.cells #[.int .i64 5, .string t, .int .i64 n] 176))
  have HB0 := hide ((Only.refl b w).al (.cells #[.int .i64 5, .string t, .int .i64 n] 176))
  have hs0 : w.heap.size < (w.alloc (.cells #[.int .i64 5, .string t, .int .i64 n] 176)).heap.size := by simp
  clear hM hR hi0
  obtain ⟨R, hRes⟩ : ∃ R : Res, R = (.inl ((wordT x n :: r), (here + 1))) := ⟨_, rfl⟩
  rw [← hRes]
  have HQ := hide hRes
  clear hRes
  go_enter Tryz.func206, Tryz.ntmps206
  have HN0 := hide (Only.refl b (w.alloc (.cells #[.int .i64 5, .string t, .int .i64 n] 176)))
  go_wp2_with fail
  go_region_with (first
    | (go_at_call 228; refine (take_is b cv m r.length x _ ?_ HZ.out (by omega) hx).mono ?_; (first | exact HM0.out | exact HM0.out.drew | exact HM0.out.drew.drew | exact HM0.out.drew.drew.drew); rintro e w1 ⟨rfl, hM1, hB1⟩; have HM1 := hide hM1; have HN1 : Hid (Only b (w.alloc (.cells #[.int .i64 5, .string t, .int .i64 n] 176)) w1) := Only.trans (by repeat (first | exact HN0.out | exact Only.refl _ _ | apply Only.drew)) hB1; clear hM1 hB1; have i1 : w1.cell? ⟨w.heap.size, 2, none⟩ = some (.int .i64 n) := (HN1.out.cell w.heap.size 2 hs0 (by omega)).trans HI0.out)
    | (go_at_call 229; refine (wordOf_any x n _ h1 hn).mono ?_; rintro e w2 ⟨rfl, hB2⟩; have HM2 : Hid (MAt w2 b cv { m with size := r.length }) := MAt.bel (by first | exact HM1.out | exact HM1.out.drew | exact HM1.out.drew.drew | exact HM1.out.drew.drew.drew) hB2; have HN2 : Hid (Only b (w.alloc (.cells #[.int .i64 5, .string t, .int .i64 n] 176)) w2) := Only.bel (by repeat (first | exact HN1.out | apply Only.drew)) hB2; clear hB2)
    | (go_at_call 165; refine (put_any b cv { m with size := r.length } _ _ ?_ (by simp; omega)).mono ?_; (first | exact HM2.out | exact HM2.out.drew | exact HM2.out.drew.drew | exact HM2.out.drew.drew.drew); rintro e w3 ⟨rfl, hM3, hB3⟩; have HM3 := hide hM3; have HN3 : Hid (Only b (w.alloc (.cells #[.int .i64 5, .string t, .int .i64 n] 176)) w3) := Only.trans (by repeat (first | exact HN2.out | exact Only.refl _ _ | apply Only.drew)) hB3; clear hM3 hB3))
  all_goals
    go_wp2
    refine end0 rfl rfl ?_
    exact ⟨rfl, ⟨_, HM3.out, by rw [HQ.out]; exact ⟨rfl, HR.out.push _, by simp, hp, rfl, rfl⟩⟩, HB0.out.trans HN3.out⟩
set_option maxHeartbeats 2000000 in
set_option maxRecDepth 1000000 in
theorem perf6 (b : Nat) (cv : Value) (m : Mst) (n here : Nat) (t : ByteArray) (x y : ByteArray) (r : List ByteArray) (w : World) (hM : MAt w b cv m) (hR : Rep m.S (x :: y :: r)) (hz : m.size = (x :: y :: r).length) (hl : (x :: y :: r).length ≤ 50) (hp : m.place = here + 1) :
    Calls Tryz.prog 206 #[.pointer (some ⟨b, 0, none⟩), .agg #[.int .i64 6, .string t, .int .i64 n], .int .i64 here] w fun e w' => e = .returned (.tuple #[]) ∧ (∃ m', MAt w' b cv m' ∧ After m m' (.inl ((flagT (x.toList == y.toList) :: r), (here + 1)))) ∧ Only b w w' := by
  have HM := hide hM
  have hx : m.S (r.length + 1) = x := hR.1
  have hy : m.S r.length = y := hR.2.1
  have HR := hide hR.2.2
  have hlt := hM.lt
  simp only [List.length_cons] at hl hz
  have HZ := hide hz
  have hi0 : (w.alloc (.cells #[.int .i64 6, .string t, .int .i64 n] 176)).cell? ⟨w.heap.size, 2, none⟩ = some (.int .i64 n) := by simp
  have HI0 := hide hi0
  have HM0 := hide (HM.out.al (.cells #[.int .i64 6, .string t, .int .i64 n] 176))
  have HB0 := hide ((Only.refl b w).al (.cells #[.int .i64 6, .string t, .int .i64 n] 176))
  have hs0 : w.heap.size < (w.alloc (.cells #[.int .i64 6, .string t, .int .i64 n] 176)).heap.size := by simp
  clear hM hR hi0
  obtain ⟨R, hRes⟩ : ∃ R : Res, R = (.inl ((flagT (x.toList == y.toList) :: r), (here + 1))) := ⟨_, rfl⟩
  rw [← hRes]
  have HQ := hide hRes
  clear hRes
  go_enter Tryz.func206, Tryz.ntmps206
  have HN0 := hide (Only.refl b (w.alloc (.cells #[.int .i64 6, .string t, .int .i64 n] 176)))
  go_wp2_with fail
  go_region_with (first
    | (go_at_call 228; refine (take_is b cv m (r.length + 1) x _ ?_ HZ.out (by omega) hx).mono ?_; (first | exact HM0.out | exact HM0.out.drew | exact HM0.out.drew.drew | exact HM0.out.drew.drew.drew); rintro e w1 ⟨rfl, hM1, hB1⟩; have HM1 := hide hM1; have HN1 : Hid (Only b (w.alloc (.cells #[.int .i64 6, .string t, .int .i64 n] 176)) w1) := Only.trans (by repeat (first | exact HN0.out | exact Only.refl _ _ | apply Only.drew)) hB1; clear hM1 hB1)
    | (go_at_call 228; refine (take_is b cv { m with size := r.length + 1 } r.length y _ ?_ rfl (by omega) hy).mono ?_; (first | exact HM1.out | exact HM1.out.drew | exact HM1.out.drew.drew | exact HM1.out.drew.drew.drew); rintro e w2 ⟨rfl, hM2, hB2⟩; have HM2 := hide hM2; have HN2 : Hid (Only b (w.alloc (.cells #[.int .i64 6, .string t, .int .i64 n] 176)) w2) := Only.trans (by repeat (first | exact HN1.out | exact Only.refl _ _ | apply Only.drew)) hB2; clear hM2 hB2)
    | (go_at_call 166; refine (truth_any _ _).mono ?_; rintro e w3 ⟨rfl, hw3⟩; subst hw3)
    | (go_at_call 165; refine (put_any b cv { m with size := r.length } _ _ ?_ (by simp; omega)).mono ?_; (first | exact HM2.out | exact HM2.out.drew | exact HM2.out.drew.drew | exact HM2.out.drew.drew.drew); rintro e w4 ⟨rfl, hM4, hB4⟩; have HM4 := hide hM4; have HN4 : Hid (Only b (w.alloc (.cells #[.int .i64 6, .string t, .int .i64 n] 176)) w4) := Only.trans (by repeat (first | exact HN2.out | exact Only.refl _ _ | apply Only.drew)) hB4; clear hM4 hB4))
  all_goals
    go_wp2
    refine end0 rfl rfl ?_
    exact ⟨rfl, ⟨_, HM4.out, by rw [HQ.out]; exact ⟨rfl, HR.out.push _, by simp, hp, rfl, rfl⟩⟩, HB0.out.trans HN4.out⟩
set_option maxHeartbeats 2000000 in
set_option maxRecDepth 1000000 in
theorem perf7 (b : Nat) (cv : Value) (m : Mst) (n here : Nat) (t : ByteArray) (x : ByteArray) (r : List ByteArray) (w : World) (hM : MAt w b cv m) (hR : Rep m.S (x :: r)) (hz : m.size = (x :: r).length) (hl : (x :: r).length ≤ 50) (hp : m.place = here + 1) (hl2 : r.length + 2 ≤ 50) :
    Calls Tryz.prog 206 #[.pointer (some ⟨b, 0, none⟩), .agg #[.int .i64 7, .string t, .int .i64 n], .int .i64 here] w fun e w' => e = .returned (.tuple #[]) ∧ (∃ m', MAt w' b cv m' ∧ After m m' (.inl ((x :: x :: r), (here + 1)))) ∧ Only b w w' := by
  have HM := hide hM
  have hx : m.S r.length = x := hR.1
  have HR := hide hR.2
  have hlt := hM.lt
  simp only [List.length_cons] at hl hz
  have HZ := hide hz
  have hi0 : (w.alloc (.cells #[.int .i64 7, .string t, .int .i64 n] 176)).cell? ⟨w.heap.size, 2, none⟩ = some (.int .i64 n) := by simp
  have HI0 := hide hi0
  have HM0 := hide (HM.out.al (.cells #[.int .i64 7, .string t, .int .i64 n] 176))
  have HB0 := hide ((Only.refl b w).al (.cells #[.int .i64 7, .string t, .int .i64 n] 176))
  have hs0 : w.heap.size < (w.alloc (.cells #[.int .i64 7, .string t, .int .i64 n] 176)).heap.size := by simp
  clear hM hR hi0
  obtain ⟨R, hRes⟩ : ∃ R : Res, R = (.inl ((x :: x :: r), (here + 1))) := ⟨_, rfl⟩
  rw [← hRes]
  have HQ := hide hRes
  clear hRes
  go_enter Tryz.func206, Tryz.ntmps206
  have HN0 := hide (Only.refl b (w.alloc (.cells #[.int .i64 7, .string t, .int .i64 n] 176)))
  go_wp2_with fail
  refine (take_is b cv m r.length x _ ?_ HZ.out (by omega) hx).mono ?_
  · exact HM0.out
  rintro e w1 ⟨rfl, hM1, hB1⟩
  have HM1 := hide hM1
  have HN1 : Hid (Only b (w.alloc (.cells #[.int .i64 7, .string t, .int .i64 n] 176)) w1) := Only.trans (by repeat (first | exact HN0.out | exact Only.refl _ _ | apply Only.drew)) hB1
  clear hM1 hB1
  go_wp2_with fail
  refine (put_any b cv { m with size := r.length } x _ ?_ (by simp; omega)).mono ?_
  · exact HM1.out
  rintro e w2 ⟨rfl, hM2, hB2⟩
  have HM2 := hide hM2
  have HN2 : Hid (Only b (w.alloc (.cells #[.int .i64 7, .string t, .int .i64 n] 176)) w2) := Only.trans (by repeat (first | exact HN1.out | exact Only.refl _ _ | apply Only.drew)) hB2
  clear hM2 hB2
  go_wp2_with fail
  refine (put_any b cv { m with S := upd m.S r.length x, size := r.length + 1 } x _ ?_ (by simp; omega)).mono ?_
  · exact HM2.out
  rintro e w3 ⟨rfl, hM3, hB3⟩
  have HM3 := hide hM3
  have HN3 : Hid (Only b (w.alloc (.cells #[.int .i64 7, .string t, .int .i64 n] 176)) w3) := Only.trans (by repeat (first | exact HN2.out | exact Only.refl _ _ | apply Only.drew)) hB3
  clear hM3 hB3
  go_wp2
  refine end0 rfl rfl ?_
  exact ⟨rfl, ⟨_, HM3.out, by rw [HQ.out]; exact ⟨rfl, (HR.out.push x).push x, by simp, hp, rfl, rfl⟩⟩, HB0.out.trans HN3.out⟩
set_option maxHeartbeats 2000000 in
set_option maxRecDepth 1000000 in
theorem perf8 (b : Nat) (cv : Value) (m : Mst) (n here : Nat) (t : ByteArray) (x y : ByteArray) (r : List ByteArray) (w : World) (hM : MAt w b cv m) (hR : Rep m.S (x :: y :: r)) (hz : m.size = (x :: y :: r).length) (hl : (x :: y :: r).length ≤ 50) (hp : m.place = here + 1) :
    Calls Tryz.prog 206 #[.pointer (some ⟨b, 0, none⟩), .agg #[.int .i64 8, .string t, .int .i64 n], .int .i64 here] w fun e w' => e = .returned (.tuple #[]) ∧ (∃ m', MAt w' b cv m' ∧ After m m' (.inl ((y :: x :: r), (here + 1)))) ∧ Only b w w' := by
  have HM := hide hM
  have hx : m.S (r.length + 1) = x := hR.1
  have hy : m.S r.length = y := hR.2.1
  have HR := hide hR.2.2
  have hlt := hM.lt
  simp only [List.length_cons] at hl hz
  have HZ := hide hz
  have hi0 : (w.alloc (.cells #[.int .i64 8, .string t, .int .i64 n] 176)).cell? ⟨w.heap.size, 2, none⟩ = some (.int .i64 n) := by simp
  have HI0 := hide hi0
  have HM0 := hide (HM.out.al (.cells #[.int .i64 8, .string t, .int .i64 n] 176))
  have HB0 := hide ((Only.refl b w).al (.cells #[.int .i64 8, .string t, .int .i64 n] 176))
  have hs0 : w.heap.size < (w.alloc (.cells #[.int .i64 8, .string t, .int .i64 n] 176)).heap.size := by simp
  clear hM hR hi0
  obtain ⟨R, hRes⟩ : ∃ R : Res, R = (.inl ((y :: x :: r), (here + 1))) := ⟨_, rfl⟩
  rw [← hRes]
  have HQ := hide hRes
  clear hRes
  go_enter Tryz.func206, Tryz.ntmps206
  have HN0 := hide (Only.refl b (w.alloc (.cells #[.int .i64 8, .string t, .int .i64 n] 176)))
  go_wp2_with fail
  refine (take_is b cv m (r.length + 1) x _ ?_ HZ.out (by omega) hx).mono ?_
  · exact HM0.out
  rintro e w1 ⟨rfl, hM1, hB1⟩
  have HM1 := hide hM1
  have HN1 : Hid (Only b (w.alloc (.cells #[.int .i64 8, .string t, .int .i64 n] 176)) w1) := Only.trans (by repeat (first | exact HN0.out | exact Only.refl _ _ | apply Only.drew)) hB1
  clear hM1 hB1
  go_wp2_with fail
  refine (take_is b cv { m with size := r.length + 1 } r.length y _ ?_ rfl (by omega) hy).mono ?_
  · exact HM1.out
  rintro e w2 ⟨rfl, hM2, hB2⟩
  have HM2 := hide hM2
  have HN2 : Hid (Only b (w.alloc (.cells #[.int .i64 8, .string t, .int .i64 n] 176)) w2) := Only.trans (by repeat (first | exact HN1.out | exact Only.refl _ _ | apply Only.drew)) hB2
  clear hM2 hB2
  go_wp2_with fail
  refine (put_any b cv { m with size := r.length } x _ ?_ (by simp; omega)).mono ?_
  · exact HM2.out
  rintro e w3 ⟨rfl, hM3, hB3⟩
  have HM3 := hide hM3
  have HN3 : Hid (Only b (w.alloc (.cells #[.int .i64 8, .string t, .int .i64 n] 176)) w3) := Only.trans (by repeat (first | exact HN2.out | exact Only.refl _ _ | apply Only.drew)) hB3
  clear hM3 hB3
  go_wp2_with fail
  refine (put_any b cv { m with S := upd m.S r.length x, size := r.length + 1 } y _ ?_ (by simp; omega)).mono ?_
  · exact HM3.out
  rintro e w4 ⟨rfl, hM4, hB4⟩
  have HM4 := hide hM4
  have HN4 : Hid (Only b (w.alloc (.cells #[.int .i64 8, .string t, .int .i64 n] 176)) w4) := Only.trans (by repeat (first | exact HN3.out | exact Only.refl _ _ | apply Only.drew)) hB4
  clear hM4 hB4
  go_wp2
  refine end0 rfl rfl ?_
  exact ⟨rfl, ⟨_, HM4.out, by rw [HQ.out]; exact ⟨rfl, (HR.out.push x).push y, by simp, hp, rfl, rfl⟩⟩, HB0.out.trans HN4.out⟩
set_option maxHeartbeats 2000000 in
set_option maxRecDepth 1000000 in
theorem perf9 (b : Nat) (cv : Value) (m : Mst) (n here : Nat) (t : ByteArray) (x : ByteArray) (r : List ByteArray) (w : World) (hM : MAt w b cv m) (hR : Rep m.S (x :: r)) (hz : m.size = (x :: r).length) (hl : (x :: r).length ≤ 50) (hp : m.place = here + 1) :
    Calls Tryz.prog 206 #[.pointer (some ⟨b, 0, none⟩), .agg #[.int .i64 9, .string t, .int .i64 n], .int .i64 here] w fun e w' => e = .returned (.tuple #[]) ∧ (∃ m', MAt w' b cv m' ∧ After m m' (.inl (r, (here + 1)))) ∧ Only b w w' := by
  have HM := hide hM
  have hx : m.S r.length = x := hR.1
  have HR := hide hR.2
  have hlt := hM.lt
  simp only [List.length_cons] at hl hz
  have HZ := hide hz
  have hi0 : (w.alloc (.cells #[.int .i64 9, .string t, .int .i64 n] 176)).cell? ⟨w.heap.size, 2, none⟩ = some (.int .i64 n) := by simp
  have HI0 := hide hi0
  have HM0 := hide (HM.out.al (.cells #[.int .i64 9, .string t, .int .i64 n] 176))
  have HB0 := hide ((Only.refl b w).al (.cells #[.int .i64 9, .string t, .int .i64 n] 176))
  have hs0 : w.heap.size < (w.alloc (.cells #[.int .i64 9, .string t, .int .i64 n] 176)).heap.size := by simp
  clear hM hR hi0
  obtain ⟨R, hRes⟩ : ∃ R : Res, R = (.inl (r, (here + 1))) := ⟨_, rfl⟩
  rw [← hRes]
  have HQ := hide hRes
  clear hRes
  go_enter Tryz.func206, Tryz.ntmps206
  have HN0 := hide (Only.refl b (w.alloc (.cells #[.int .i64 9, .string t, .int .i64 n] 176)))
  go_wp2_with fail
  refine (take_is b cv m r.length x _ ?_ HZ.out (by omega) hx).mono ?_
  · exact HM0.out
  rintro e w1 ⟨rfl, hM1, hB1⟩
  have HM1 := hide hM1
  have HN1 : Hid (Only b (w.alloc (.cells #[.int .i64 9, .string t, .int .i64 n] 176)) w1) := Only.trans (by repeat (first | exact HN0.out | exact Only.refl _ _ | apply Only.drew)) hB1
  clear hM1 hB1
  go_wp2
  refine end0 rfl rfl ?_
  exact ⟨rfl, ⟨_, HM1.out, by rw [HQ.out]; exact ⟨rfl, HR.out, rfl, hp, rfl, rfl⟩⟩, HB0.out.trans HN1.out⟩
set_option maxHeartbeats 2000000 in
set_option maxRecDepth 1000000 in
theorem perf10 (b : Nat) (cv : Value) (m : Mst) (n here : Nat) (t : ByteArray) (stk : List ByteArray) (w : World) (hM : MAt w b cv m) (hR : Rep m.S (stk)) (hz : m.size = (stk).length) :
    Calls Tryz.prog 206 #[.pointer (some ⟨b, 0, none⟩), .agg #[.int .i64 10, .string t, .int .i64 n], .int .i64 here] w fun e w' => e = .returned (.tuple #[]) ∧ (∃ m', MAt w' b cv m' ∧ After m m' (.inl (stk, n))) ∧ Only b w w' := by
  have HM := hide hM
  have HR := hide hR
  have hlt := hM.lt
  have HZ := hide hz
  have hi0 : (w.alloc (.cells #[.int .i64 10, .string t, .int .i64 n] 176)).cell? ⟨w.heap.size, 2, none⟩ = some (.int .i64 n) := by simp
  have HI0 := hide hi0
  have HM0 := hide (HM.out.al (.cells #[.int .i64 10, .string t, .int .i64 n] 176))
  have HB0 := hide ((Only.refl b w).al (.cells #[.int .i64 10, .string t, .int .i64 n] 176))
  have hs0 : w.heap.size < (w.alloc (.cells #[.int .i64 10, .string t, .int .i64 n] 176)).heap.size := by simp
  clear hM hR hi0
  obtain ⟨R, hRes⟩ : ∃ R : Res, R = (.inl (stk, n)) := ⟨_, rfl⟩
  rw [← hRes]
  have HQ := hide hRes
  clear hRes
  go_enter Tryz.func206, Tryz.ntmps206
  obtain ⟨c2, z2⟩ := HM.out.fld 52 (.int .i64 m.place) (by omega) (by simp [Mst.F])
  go_wp2
  refine end0 rfl rfl ?_
  exact ⟨rfl, ⟨_, (HM.out.setPlace _).al _, by rw [HQ.out]; exact ⟨rfl, HR.out, HZ.out, rfl, rfl, rfl⟩⟩, (bset (Only.refl _ _) _ _).al _⟩
set_option maxHeartbeats 2000000 in
set_option maxRecDepth 1000000 in
theorem perf11 (b : Nat) (cv : Value) (m : Mst) (n here : Nat) (t : ByteArray) (x : ByteArray) (r : List ByteArray) (w : World) (hM : MAt w b cv m) (hR : Rep m.S (x :: r)) (hz : m.size = (x :: r).length) (hl : (x :: r).length ≤ 50) (hp : m.place = here + 1) :
    Calls Tryz.prog 206 #[.pointer (some ⟨b, 0, none⟩), .agg #[.int .i64 11, .string t, .int .i64 n], .int .i64 here] w fun e w' => e = .returned (.tuple #[]) ∧ (∃ m', MAt w' b cv m' ∧ After m m' (.inl (r, (if x.toList = [] ∨ (x.toList == [48]) = true then n else here + 1)))) ∧ Only b w w' := by
  have HM := hide hM
  have hx : m.S r.length = x := hR.1
  have HR := hide hR.2
  have hlt := hM.lt
  simp only [List.length_cons] at hl hz
  have HZ := hide hz
  have hi0 : (w.alloc (.cells #[.int .i64 11, .string t, .int .i64 n] 176)).cell? ⟨w.heap.size, 2, none⟩ = some (.int .i64 n) := by simp
  have HI0 := hide hi0
  have HM0 := hide (HM.out.al (.cells #[.int .i64 11, .string t, .int .i64 n] 176))
  have HB0 := hide ((Only.refl b w).al (.cells #[.int .i64 11, .string t, .int .i64 n] 176))
  have hs0 : w.heap.size < (w.alloc (.cells #[.int .i64 11, .string t, .int .i64 n] 176)).heap.size := by simp
  clear hM hR hi0
  obtain ⟨R, hRes⟩ : ∃ R : Res, R = (.inl (r, (if x.toList = [] ∨ (x.toList == [48]) = true then n else here + 1))) := ⟨_, rfl⟩
  rw [← hRes]
  have HQ := hide hRes
  clear hRes
  go_enter Tryz.func206, Tryz.ntmps206
  have HN0 := hide (Only.refl b (w.alloc (.cells #[.int .i64 11, .string t, .int .i64 n] 176)))
  go_wp2_with fail
  refine (take_is b cv m r.length x _ ?_ HZ.out (by omega) hx).mono ?_
  · exact HM0.out
  rintro e w1 ⟨rfl, hM1, hB1⟩
  have HM1 := hide hM1
  have HN1 : Hid (Only b (w.alloc (.cells #[.int .i64 11, .string t, .int .i64 n] 176)) w1) := Only.trans (by repeat (first | exact HN0.out | exact Only.refl _ _ | apply Only.drew)) hB1
  clear hM1 hB1
  have i1 : w1.cell? ⟨w.heap.size, 2, none⟩ = some (.int .i64 n) := (HN1.out.cell w.heap.size 2 hs0 (by omega)).trans HI0.out
  obtain ⟨c2, z2⟩ := HM1.out.fld 52 (.int .i64 m.place) (by omega) (by simp [Mst.F])
  by_cases he : x.toList = []
  · rw [if_pos (.inl he)] at HQ
    go_wp2
    refine end0 rfl rfl ?_
    exact ⟨rfl, ⟨_, HM1.out.setPlace _, by rw [HQ.out]; exact ⟨rfl, HR.out, rfl, rfl, rfl, rfl⟩⟩, bset (HB0.out.trans HN1.out) _ _⟩
  · have heb : x.toList.isEmpty = false := by simp [he]
    cases h48 : (x.toList == [48]) with
    | true =>
      rw [if_pos (.inr h48)] at HQ
      go_wp2
      refine end0 rfl rfl ?_
      exact ⟨rfl, ⟨_, HM1.out.setPlace _, by rw [HQ.out]; exact ⟨rfl, HR.out, rfl, rfl, rfl, rfl⟩⟩, bset (HB0.out.trans HN1.out) _ _⟩
    | false =>
      rw [if_neg (by simp [he, h48])] at HQ
      have h49 : ¬ x.toList = [48] := by simpa using h48
      go_wp2
      refine end0 rfl rfl ?_
      exact ⟨rfl, ⟨_, HM1.out, by rw [HQ.out]; exact ⟨rfl, HR.out, rfl, hp, rfl, rfl⟩⟩, HB0.out.trans HN1.out⟩
set_option maxHeartbeats 2000000 in
set_option maxRecDepth 1000000 in
theorem perf12 (b : Nat) (cv : Value) (m : Mst) (n here : Nat) (t : ByteArray) (x : ByteArray) (r : List ByteArray) (w : World) (hM : MAt w b cv m) (hR : Rep m.S (x :: r)) (hz : m.size = (x :: r).length) (hl : (x :: r).length ≤ 50) (hh : here ≤ 2000) (hP : Pow w) (hPb : 2 < b) (looks : Nat) (hlk : m.looks = looks) (hl2 : looks ≤ 200) :
    Calls Tryz.prog 206 #[.pointer (some ⟨b, 0, none⟩), .agg #[.int .i64 12, .string t, .int .i64 n], .int .i64 here] w fun e w' => e = .returned (.tuple #[]) ∧ (∃ m', MAt w' b cv m' ∧ After m m' (lookP true x r here looks)) ∧ Only b w w' := by
  have HM := hide hM
  have hx : m.S r.length = x := hR.1
  have HR := hide hR.2
  have hlt := hM.lt
  simp only [List.length_cons] at hl hz
  have HZ := hide hz
  have hi0 : (w.alloc (.cells #[.int .i64 12, .string t, .int .i64 n] 176)).cell? ⟨w.heap.size, 2, none⟩ = some (.int .i64 n) := by simp
  have HI0 := hide hi0
  have HM0 := hide (HM.out.al (.cells #[.int .i64 12, .string t, .int .i64 n] 176))
  have HB0 := hide ((Only.refl b w).al (.cells #[.int .i64 12, .string t, .int .i64 n] 176))
  have hs0 : w.heap.size < (w.alloc (.cells #[.int .i64 12, .string t, .int .i64 n] 176)).heap.size := by simp
  clear hM hR hi0
  obtain ⟨R, hRes⟩ : ∃ R : Res, R = (lookP true x r here looks) := ⟨_, rfl⟩
  rw [← hRes]
  have HQ := hide hRes
  clear hRes
  go_enter Tryz.func206, Tryz.ntmps206
  have HN0 := hide (Only.refl b (w.alloc (.cells #[.int .i64 12, .string t, .int .i64 n] 176)))
  have HP := hide hP
  clear hP
  go_wp2_with fail
  refine (look_any b cv m true r.length here _ HM0.out HZ.out (by omega) hh (by omega) (by omega) (HP.out.low (HB0.out.below (Nat.le_refl _) (Nat.le_of_lt hlt)) hPb) hPb).mono ?_
  rw [hx]
  rintro e w1 ⟨rfl, hM1, hB1⟩
  have HM1 := hide hM1
  have HB1 := hide (HB0.out.trans hB1)
  clear hM1 hB1
  go_wp2
  refine end0 rfl rfl ?_
  refine ⟨rfl, ⟨_, HM1.out, ?_⟩, HB1.out⟩
  rw [HQ.out]
  unfold lookP
  cases hn : nameOk x with
  | false =>
    rw [if_pos rfl, if_pos rfl]
    exact ⟨rfl, rfl⟩
  | true =>
    rw [if_neg (show ¬ (true = false) by simp), if_neg (show ¬ (true = false) by simp)]
    by_cases h200 : looks = 200
    · rw [if_pos (show m.looks = 200 by omega), if_pos h200]
      exact ⟨rfl, rfl⟩
    · rw [if_neg (show ¬ m.looks = 200 by omega), if_neg h200]
      exact ⟨rfl, HR.out, rfl, rfl, rfl, rfl⟩
set_option maxHeartbeats 2000000 in
set_option maxRecDepth 1000000 in
theorem perf13 (b : Nat) (cv : Value) (m : Mst) (n here : Nat) (t : ByteArray) (x : ByteArray) (r : List ByteArray) (w : World) (hM : MAt w b cv m) (hR : Rep m.S (x :: r)) (hz : m.size = (x :: r).length) (hl : (x :: r).length ≤ 50) (hh : here ≤ 2000) (hP : Pow w) (hPb : 2 < b) (looks : Nat) (hlk : m.looks = looks) (hl2 : looks ≤ 200) :
    Calls Tryz.prog 206 #[.pointer (some ⟨b, 0, none⟩), .agg #[.int .i64 13, .string t, .int .i64 n], .int .i64 here] w fun e w' => e = .returned (.tuple #[]) ∧ (∃ m', MAt w' b cv m' ∧ After m m' (lookP false x r here looks)) ∧ Only b w w' := by
  have HM := hide hM
  have hx : m.S r.length = x := hR.1
  have HR := hide hR.2
  have hlt := hM.lt
  simp only [List.length_cons] at hl hz
  have HZ := hide hz
  have hi0 : (w.alloc (.cells #[.int .i64 13, .string t, .int .i64 n] 176)).cell? ⟨w.heap.size, 2, none⟩ = some (.int .i64 n) := by simp
  have HI0 := hide hi0
  have HM0 := hide (HM.out.al (.cells #[.int .i64 13, .string t, .int .i64 n] 176))
  have HB0 := hide ((Only.refl b w).al (.cells #[.int .i64 13, .string t, .int .i64 n] 176))
  have hs0 : w.heap.size < (w.alloc (.cells #[.int .i64 13, .string t, .int .i64 n] 176)).heap.size := by simp
  clear hM hR hi0
  obtain ⟨R, hRes⟩ : ∃ R : Res, R = (lookP false x r here looks) := ⟨_, rfl⟩
  rw [← hRes]
  have HQ := hide hRes
  clear hRes
  go_enter Tryz.func206, Tryz.ntmps206
  have HN0 := hide (Only.refl b (w.alloc (.cells #[.int .i64 13, .string t, .int .i64 n] 176)))
  have HP := hide hP
  clear hP
  go_wp2_with fail
  refine (look_any b cv m false r.length here _ HM0.out HZ.out (by omega) hh (by omega) (by omega) (HP.out.low (HB0.out.below (Nat.le_refl _) (Nat.le_of_lt hlt)) hPb) hPb).mono ?_
  rw [hx]
  rintro e w1 ⟨rfl, hM1, hB1⟩
  have HM1 := hide hM1
  have HB1 := hide (HB0.out.trans hB1)
  clear hM1 hB1
  go_wp2
  refine end0 rfl rfl ?_
  refine ⟨rfl, ⟨_, HM1.out, ?_⟩, HB1.out⟩
  rw [HQ.out]
  unfold lookP
  cases hn : nameOk x with
  | false =>
    rw [if_pos rfl, if_pos rfl]
    exact ⟨rfl, rfl⟩
  | true =>
    rw [if_neg (show ¬ (true = false) by simp), if_neg (show ¬ (true = false) by simp)]
    by_cases h200 : looks = 200
    · rw [if_pos (show m.looks = 200 by omega), if_pos h200]
      exact ⟨rfl, rfl⟩
    · rw [if_neg (show ¬ m.looks = 200 by omega), if_neg h200]
      exact ⟨rfl, HR.out, rfl, rfl, rfl, rfl⟩
set_option maxHeartbeats 2000000 in
set_option maxRecDepth 1000000 in
theorem perf14 (b : Nat) (cv : Value) (m : Mst) (n here : Nat) (t : ByteArray) (x : ByteArray) (r : List ByteArray) (w : World) (hM : MAt w b cv m) (hR : Rep m.S (x :: r)) (hz : m.size = (x :: r).length) (hl : (x :: r).length ≤ 50) :
    Calls Tryz.prog 206 #[.pointer (some ⟨b, 0, none⟩), .agg #[.int .i64 14, .string t, .int .i64 n], .int .i64 here] w fun e w' => e = .returned (.tuple #[]) ∧ (∃ m', MAt w' b cv m' ∧ After m m' (.inr (.inl (1, x)))) ∧ Only b w w' := by
  have HM := hide hM
  have hx : m.S r.length = x := hR.1
  have HR := hide hR.2
  have hlt := hM.lt
  simp only [List.length_cons] at hl hz
  have HZ := hide hz
  have hi0 : (w.alloc (.cells #[.int .i64 14, .string t, .int .i64 n] 176)).cell? ⟨w.heap.size, 2, none⟩ = some (.int .i64 n) := by simp
  have HI0 := hide hi0
  have HM0 := hide (HM.out.al (.cells #[.int .i64 14, .string t, .int .i64 n] 176))
  have HB0 := hide ((Only.refl b w).al (.cells #[.int .i64 14, .string t, .int .i64 n] 176))
  have hs0 : w.heap.size < (w.alloc (.cells #[.int .i64 14, .string t, .int .i64 n] 176)).heap.size := by simp
  clear hM hR hi0
  obtain ⟨R, hRes⟩ : ∃ R : Res, R = (.inr (.inl (1, x))) := ⟨_, rfl⟩
  rw [← hRes]
  have HQ := hide hRes
  clear hRes
  go_enter Tryz.func206, Tryz.ntmps206
  have HN0 := hide (Only.refl b (w.alloc (.cells #[.int .i64 14, .string t, .int .i64 n] 176)))
  go_wp2_with fail
  refine (take_is b cv m r.length x _ ?_ HZ.out (by omega) hx).mono ?_
  · exact HM0.out
  rintro e w1 ⟨rfl, hM1, hB1⟩
  have HM1 := hide hM1
  have HN1 : Hid (Only b (w.alloc (.cells #[.int .i64 14, .string t, .int .i64 n] 176)) w1) := Only.trans (by repeat (first | exact HN0.out | exact Only.refl _ _ | apply Only.drew)) hB1
  clear hM1 hB1
  go_wp2_with fail
  refine (end_any b cv { m with size := r.length } _ _ _ ?_).mono ?_
  · exact HM1.out
  rintro e w2 ⟨rfl, hM2, hB2⟩
  have HM2 := hide hM2
  have HN2 : Hid (Only b (w.alloc (.cells #[.int .i64 14, .string t, .int .i64 n] 176)) w2) := Only.trans (by repeat (first | exact HN1.out | exact Only.refl _ _ | apply Only.drew)) hB2
  clear hM2 hB2
  go_wp2
  refine end0 rfl rfl ?_
  exact ⟨rfl, ⟨_, HM2.out, by rw [HQ.out]; exact ⟨rfl, rfl⟩⟩, HB0.out.trans HN2.out⟩
set_option maxHeartbeats 2000000 in
set_option maxRecDepth 1000000 in
theorem perf15 (b : Nat) (cv : Value) (m : Mst) (n here : Nat) (t : ByteArray) (x : ByteArray) (r : List ByteArray) (w : World) (hM : MAt w b cv m) (hR : Rep m.S (x :: r)) (hz : m.size = (x :: r).length) (hl : (x :: r).length ≤ 50) :
    Calls Tryz.prog 206 #[.pointer (some ⟨b, 0, none⟩), .agg #[.int .i64 15, .string t, .int .i64 n], .int .i64 here] w fun e w' => e = .returned (.tuple #[]) ∧ (∃ m', MAt w' b cv m' ∧ After m m' (.inr (.inl (0, x)))) ∧ Only b w w' := by
  have HM := hide hM
  have hx : m.S r.length = x := hR.1
  have HR := hide hR.2
  have hlt := hM.lt
  simp only [List.length_cons] at hl hz
  have HZ := hide hz
  have hi0 : (w.alloc (.cells #[.int .i64 15, .string t, .int .i64 n] 176)).cell? ⟨w.heap.size, 2, none⟩ = some (.int .i64 n) := by simp
  have HI0 := hide hi0
  have HM0 := hide (HM.out.al (.cells #[.int .i64 15, .string t, .int .i64 n] 176))
  have HB0 := hide ((Only.refl b w).al (.cells #[.int .i64 15, .string t, .int .i64 n] 176))
  have hs0 : w.heap.size < (w.alloc (.cells #[.int .i64 15, .string t, .int .i64 n] 176)).heap.size := by simp
  clear hM hR hi0
  obtain ⟨R, hRes⟩ : ∃ R : Res, R = (.inr (.inl (0, x))) := ⟨_, rfl⟩
  rw [← hRes]
  have HQ := hide hRes
  clear hRes
  go_enter Tryz.func206, Tryz.ntmps206
  have HN0 := hide (Only.refl b (w.alloc (.cells #[.int .i64 15, .string t, .int .i64 n] 176)))
  go_wp2_with fail
  refine (take_is b cv m r.length x _ ?_ HZ.out (by omega) hx).mono ?_
  · exact HM0.out
  rintro e w1 ⟨rfl, hM1, hB1⟩
  have HM1 := hide hM1
  have HN1 : Hid (Only b (w.alloc (.cells #[.int .i64 15, .string t, .int .i64 n] 176)) w1) := Only.trans (by repeat (first | exact HN0.out | exact Only.refl _ _ | apply Only.drew)) hB1
  clear hM1 hB1
  go_wp2_with fail
  refine (end_any b cv { m with size := r.length } _ _ _ ?_).mono ?_
  · exact HM1.out
  rintro e w2 ⟨rfl, hM2, hB2⟩
  have HM2 := hide hM2
  have HN2 : Hid (Only b (w.alloc (.cells #[.int .i64 15, .string t, .int .i64 n] 176)) w2) := Only.trans (by repeat (first | exact HN1.out | exact Only.refl _ _ | apply Only.drew)) hB2
  clear hM2 hB2
  go_wp2
  refine end0 rfl rfl ?_
  exact ⟨rfl, ⟨_, HM2.out, by rw [HQ.out]; exact ⟨rfl, rfl⟩⟩, HB0.out.trans HN2.out⟩
end Go.Proofs.YtkophfgkcijjkaaGreatDoor.Vp
namespace Go.Proofs.YtkophfgkcijjkaaGreatDoor.Vp
open Go.RowKit
def bearsP (op : Nat) (stk : List ByteArray) : Bool := decide (takesOf op ≤ stk.length ∧ stk.length - takesOf op + putsOf op ≤ 50)
def stepP (f : Nat → Ins) (cnt place steps looks : Nat) (stk : List ByteArray) : Res :=
  if cnt ≤ place then .inr (.inl (2, (decT place))) else if steps = 2000 then .inr (.inl (3, ⟨#[]⟩)) else
    if bearsP (f place).op.toNat stk = false then .inr (.inl (2, (decT place))) else performP (f place).op.toNat (f place).n.toNat (f place).s place looks stk
def stepN (cnt place steps : Nat) : Nat := if cnt ≤ place then steps else if steps = 2000 then steps else steps + 1
theorem MAt.qN {w : World} {b : Nat} {cv : Value} {m : Mst} (h : MAt w b cv m) (n : Nat) : MAt (w.drewN n) b cv m := h.bel (below_drewN (Below.refl _ _) n)
theorem Only.qN {b : Nat} {u w : World} (h : Only b u w) (n : Nat) : Only b u (w.drewN n) := h.bel (below_drewN (Below.refl _ _) n)
theorem perform_any (b : Nat) (cv : Value) (m : Mst) (op n here looks : Nat) (t : ByteArray) (stk : List ByteArray) (w : World) (hM : MAt w b cv m) (hR : Rep m.S stk) (hz : m.size = stk.length) (hl : stk.length ≤ 50) (hp : m.place = here + 1)
    (hle : ∀ x ∈ stk, x.size ≤ 2000) (hn : n ≤ 2000) (hh : here ≤ 2000) (hP : Pow w) (hPb : 2 < b) (hlk : m.looks = looks) (hl2 : looks ≤ 200) (h1 : 1 ≤ op) (h15 : op ≤ 15) (hb : bearsP op stk = true) :
    Calls Tryz.prog 206 #[.pointer (some ⟨b, 0, none⟩), .agg #[.int .i64 op, .string t, .int .i64 n], .int .i64 here] w fun e w' => e = .returned (.tuple #[]) ∧ (∃ m', MAt w' b cv m' ∧ After m m' (performP op n t here looks stk)) ∧ Only b w w' := by
  simp only [bearsP, decide_eq_true_eq] at hb
  obtain ⟨hb1, hb2⟩ := hb
  rcases (show op = 1 ∨ op = 2 ∨ op = 3 ∨ op = 4 ∨ op = 5 ∨ op = 6 ∨ op = 7 ∨ op = 8 ∨ op = 9 ∨ op = 10 ∨ op = 11 ∨ op = 12 ∨ op = 13 ∨ op = 14 ∨ op = 15 by omega) with rfl | rfl | rfl | rfl | rfl | rfl | rfl | rfl | rfl | rfl | rfl | rfl | rfl | rfl | rfl
  all_goals simp only [takesOf, putsOf] at hb1 hb2
  · exact perf1 b cv m n here t stk w hM hR hz hl hp (by simp at hb2; omega)
  · match stk, hb1 with
    | x :: y :: r, _ => exact perf2 b cv m n here t x y r w hM hR hz hl hp hh hP hPb (hle x (by simp)) (hle y (by simp))
  · match stk, hb1 with
    | x :: r, _ => exact perf3 b cv m n here t x r w hM hR hz hl hp (hle x (by simp))
  · match stk, hb1 with
    | x :: r, _ => exact perf4 b cv m n here t x r w hM hR hz hl hp (hle x (by simp))
  · match stk, hb1 with
    | x :: r, _ => exact perf5 b cv m n here t x r w hM hR hz hl hp (hle x (by simp)) hn
  · match stk, hb1 with
    | x :: y :: r, _ => exact perf6 b cv m n here t x y r w hM hR hz hl hp
  · match stk, hb1 with
    | x :: r, _ => exact perf7 b cv m n here t x r w hM hR hz hl hp (by simp at hb2; omega)
  · match stk, hb1 with
    | x :: y :: r, _ => exact perf8 b cv m n here t x y r w hM hR hz hl hp
  · match stk, hb1 with
    | x :: r, _ => exact perf9 b cv m n here t x r w hM hR hz hl hp
  · exact perf10 b cv m n here t stk w hM hR hz
  · match stk, hb1 with
    | x :: r, _ => exact perf11 b cv m n here t x r w hM hR hz hl hp
  · match stk, hb1 with
    | x :: r, _ => exact perf12 b cv m n here t x r w hM hR hz hl hh hP hPb looks hlk hl2
  · match stk, hb1 with
    | x :: r, _ => exact perf13 b cv m n here t x r w hM hR hz hl hh hP hPb looks hlk hl2
  · match stk, hb1 with
    | x :: r, _ => exact perf14 b cv m n here t x r w hM hR hz hl
  · match stk, hb1 with
    | x :: r, _ => exact perf15 b cv m n here t x r w hM hR hz hl
theorem bears_is (b : Nat) (cv : Value) (m : Mst) (op : Nat) (stk : List ByteArray) (w : World) (hM : MAt w b cv m) (hT : Tab2 w) (h1 : 1 ≤ op) (h2 : op ≤ 15) (hz : m.size = stk.length) (hl : stk.length ≤ 50) :
    Calls Tryz.prog 205 #[.pointer (some ⟨b, 0, none⟩), .int .i64 op] w fun e w' => e = .returned (.bool (bearsP op stk)) ∧ Below w.heap.size w w' := by
  have := bears_any b cv m op w hM hT (by omega) (by omega) (by omega)
  rw [hz] at this
  exact this
structure Env (w : World) (b pb po cnt : Nat) (f : Nat → Ins) : Prop where
  row : RowIns w pb po cnt f
  tab : Tab2 w
  pow : Pow w
  pbb : pb < b
  tbb : 0 < b
  pwb : 2 < b
theorem Env.below {w w' : World} {b pb po cnt : Nat} {f : Nat → Ins} (h : Env w b pb po cnt f) (hb : Below b w w') : Env w' b pb po cnt f :=
  ⟨⟨Nat.lt_of_lt_of_le h.row.1 hb.size, fun i hi => (h.row.2 i hi).below hb h.pbb⟩, h.tab.below hb h.tbb, h.pow.low hb h.pwb, h.pbb, h.tbb, h.pwb⟩
theorem Env.only {w w' : World} {b pb po cnt : Nat} {f : Nat → Ins} (h : Env w b pb po cnt f) (hl : b < w.heap.size) (hb : Only b w w') : Env w' b pb po cnt f := h.below (hb.below (Nat.le_refl _) (Nat.le_of_lt hl))
structure Sim (m : Mst) (place steps looks : Nat) (stk : List ByteArray) : Prop where
  rep : Rep m.S stk
  size : m.size = stk.length
  len : stk.length ≤ 50
  hpl : m.place = place
  hst : m.steps = steps
  hlk : m.looks = looks
  le : ∀ x ∈ stk, x.size ≤ 2000
  pl : place ≤ 2000
  st : steps ≤ 2000
  lk : looks ≤ 200
set_option maxHeartbeats 2000000 in
theorem step_any (b pb po cnt cap place steps looks : Nat) (f : Nat → Ins) (m : Mst) (stk : List ByteArray) (w : World) (hM : MAt w b (.slice (some ⟨pb, po, none⟩) cnt cap) m) (hS : Sim m place steps looks stk) (hE : Env w b pb po cnt f) (hok : okTo f cnt = true) :
    Calls Tryz.prog 164 #[.pointer (some ⟨b, 0, none⟩)] w fun e w' => e = .returned (.tuple #[]) ∧
      (∃ m', MAt w' b (.slice (some ⟨pb, po, none⟩) cnt cap) m' ∧ After { m with steps := stepN cnt place steps, place := place + 1 } m' (stepP f cnt place steps looks stk)) ∧ Only b w w' := by
  have HM := hide hM
  have HE := hide hE
  have HS := hide hS
  have hlt := hM.lt
  have hpl := hS.pl
  have hst := hS.st
  obtain ⟨c1, z1⟩ := hM.fld 51 (.slice (some ⟨pb, po, none⟩) cnt cap) (by omega) (by simp [Mst.F])
  obtain ⟨c2, z2⟩ := hM.fld 52 (.int .i64 place) (by omega) (by simp [Mst.F, hS.hpl])
  obtain ⟨c3, z3⟩ := hM.fld 53 (.int .i64 steps) (by omega) (by simp [Mst.F, hS.hst])
  clear hM hE hS
  by_cases h1 : cnt ≤ place
  · have e1 : stepP f cnt place steps looks stk = .inr (.inl (2, (decT place))) := by simp [stepP, h1]
    have e2 : stepN cnt place steps = steps := by simp [stepN, h1]
    rw [e1, e2]
    clear e1 e2
    go_enter Tryz.func164, Tryz.ntmps164
    go_wp2_with fail
    go_quiet (fail)
    have HM0 := hide (HM.out.qN nq)
    have HE0 := hide (HE.out.only hlt ((Only.refl b w).qN nq))
    have HO0 := hide ((Only.refl b w).qN nq)
    clear c1 z1 c2 z2 c3 z3
    generalize w.drewN nq = W at HM0 HE0 HO0 ⊢
    obtain ⟨c2, z2⟩ := HM0.out.fld 52 (.int .i64 place) (by omega) (by simp [Mst.F, HS.out.hpl])
    obtain ⟨c3, z3⟩ := HM0.out.fld 53 (.int .i64 steps) (by omega) (by simp [Mst.F, HS.out.hst])
    go_wp2_with fail
    refine (stick_any b _ m place _ HM0.out hpl HE0.out.pow).mono ?_
    rintro e w1 ⟨rfl, hM1, hB1⟩
    have HM1 := hide hM1
    have HB1 := hide (HO0.out.trans hB1)
    clear hM1 hB1
    go_wp2
    refine ret0 rfl rfl ?_
    exact ⟨rfl, ⟨_, HM1.out, HS.out.hst, by rw [HS.out.hst]⟩, HB1.out⟩
  · have h1' : (place : Int) < cnt := by omega
    by_cases h2 : steps = 2000
    · have e1 : stepP f cnt place steps looks stk = .inr (.inl (3, ⟨#[]⟩)) := by simp [stepP, h1, h2]
      have e2 : stepN cnt place steps = steps := by simp [stepN, h1, h2]
      rw [e1, e2]
      clear e1 e2
      have h2' : ((steps : Int) == 2000) = true := by simp; omega
      go_enter Tryz.func164, Tryz.ntmps164
      go_wp2_with fail
      go_quiet (fail)
      have HM0 := hide (HM.out.qN nq)
      have HE0 := hide (HE.out.only hlt ((Only.refl b w).qN nq))
      have HO0 := hide ((Only.refl b w).qN nq)
      clear c1 z1 c2 z2 c3 z3
      generalize w.drewN nq = W at HM0 HE0 HO0 ⊢
      obtain ⟨c2, z2⟩ := HM0.out.fld 52 (.int .i64 place) (by omega) (by simp [Mst.F, HS.out.hpl])
      obtain ⟨c3, z3⟩ := HM0.out.fld 53 (.int .i64 steps) (by omega) (by simp [Mst.F, HS.out.hst])
      go_wp2_with fail
      refine (end_any b _ m _ _ _ HM0.out).mono ?_
      rintro e w1 ⟨rfl, hM1, hB1⟩
      have HM1 := hide hM1
      have HB1 := hide (HO0.out.trans hB1)
      clear hM1 hB1
      go_wp2
      refine ret0 rfl rfl ?_
      exact ⟨rfl, ⟨_, HM1.out, HS.out.hst, by rw [HS.out.hst]⟩, HB1.out⟩
    · have h2' : ((steps : Int) == 2000) = false := by simp; omega
      have e2 : stepN cnt place steps = steps + 1 := by simp [stepN, h1, h2]
      have hi := ok_at hok (show place < cnt by omega)
      simp only [insOk, decide_eq_true_eq] at hi
      obtain ⟨i1, i2, i3, i4, i5⟩ := hi
      obtain ⟨op, hop⟩ := Int.eq_ofNat_of_zero_le (show 0 ≤ (f place).op by omega)
      obtain ⟨n, hn⟩ := Int.eq_ofNat_of_zero_le i4
      have e1 : stepP f cnt place steps looks stk = if bearsP op stk = false then .inr (.inl (2, (decT place))) else performP op n (f place).s place looks stk := by
        simp only [stepP, h1, h2, if_false, hop, hn, Int.toNat_natCast]
      rw [e1, e2]
      obtain ⟨R, hR⟩ : ∃ R : Res, R = (if bearsP op stk = false then .inr (.inl (2, (decT place))) else performP op n (f place).s place looks stk) := ⟨_, rfl⟩
      rw [← hR]
      have HQ := hide hR
      clear hR
      have hmt : mostN (f place).op ≤ 2000 := by unfold mostN; split <;> (try split) <;> omega
      have hn2 : n ≤ 2000 := by omega
      have ho1 : 1 ≤ op := by omega
      have ho2 : op ≤ 15 := by omega
      have HA : Hid (AtIns w pb po place (f place)) := HE.out.row.2 place (by omega)
      clear e1 e2 hmt i1 i2 i3 i4 i5
      go_enter Tryz.func164, Tryz.ntmps164
      go_wp2_with fail
      go_quiet (fail)
      have HM0 := hide (HM.out.qN nq)
      have HE0 := hide (HE.out.only hlt ((Only.refl b w).qN nq))
      have HO0 := hide ((Only.refl b w).qN nq)
      clear c1 z1 c2 z2 c3 z3
      generalize w.drewN nq = W at HM0 HE0 HO0 ⊢
      obtain ⟨c2, z2⟩ := HM0.out.fld 52 (.int .i64 place) (by omega) (by simp [Mst.F, HS.out.hpl])
      obtain ⟨c3, z3⟩ := HM0.out.fld 53 (.int .i64 steps) (by omega) (by simp [Mst.F, HS.out.hst])
      obtain ⟨c1, z1⟩ := HM0.out.fld 51 (.slice (some ⟨pb, po, none⟩) cnt cap) (by omega) (by simp [Mst.F])
      go_wp2_with fail
      have HM1 := hide ((HM0.out.setSteps ((steps : Int) + 1)).setPlace ((place : Int) + 1))
      have HO1 := hide (bset (bset HO0.out 53 (.int .i64 ((steps : Int) + 1))) 52 (.int .i64 ((place : Int) + 1)))
      clear c1 z1 c2 z2 c3 z3 HM0 HO0 HE0
      generalize (W.setCell ⟨b, 53, none⟩ (.int .i64 ((steps : Int) + 1))).setCell ⟨b, 52, none⟩ (.int .i64 ((place : Int) + 1)) = V at HM1 HO1 ⊢
      have HE1 := hide (HE.out.only hlt HO1.out)
      obtain ⟨c1, z1⟩ := HM1.out.fld 51 (.slice (some ⟨pb, po, none⟩) cnt cap) (by omega) (by simp [Mst.F])
      obtain ⟨a0, a1, a2⟩ := HE1.out.row.2 place (by omega)
      rw [hop] at a0
      rw [hn] at a2
      obtain ⟨MM, hMM⟩ : ∃ MM : Mst, MM = { m with steps := (steps : Int) + 1, place := (place : Int) + 1 } := ⟨_, rfl⟩
      rw [← hMM] at HM1
      have k1 : MM.size = stk.length := by rw [hMM]; exact HS.out.size
      have HMM := hide hMM
      have hll := HS.out.len
      clear hMM
      go_region_with (go_at_call 205; refine (bears_is b (.slice (some ⟨pb, po, none⟩) cnt cap) MM op stk _ ?_ ?_ ho1 ho2 k1 hll).mono ?_; (first | exact HM1.out | exact HM1.out.drew | exact HM1.out.drew.drew); (first | exact HE1.out.tab | exact (HE1.out.below (Below.refl _ _).drew).tab); rintro e w1 ⟨rfl, hB1⟩; have HM2 : Hid (MAt w1 b (.slice (some ⟨pb, po, none⟩) cnt cap) MM) := MAt.bel (by first | exact HM1.out | exact HM1.out.drew | exact HM1.out.drew.drew) hB1; have HO2 : Hid (Only b w w1) := Only.bel (by repeat (first | exact HO1.out | apply Only.drew)) hB1; clear hB1)
      all_goals
        have HE2 := hide (HE.out.only hlt HO2.out)
        obtain ⟨g1, y1⟩ := HM2.out.fld 51 (.slice (some ⟨pb, po, none⟩) cnt cap) (by omega) (by simp [Mst.F])
        obtain ⟨b0, b1, b2⟩ := HE2.out.row.2 place (by omega)
        rw [hop] at b0
        rw [hn] at b2
        clear c1 z1 a0 a1 a2 HM1 HO1
        have hlt1 := HM2.out.lt
        cases hbr : bearsP op stk with
        | false =>
          rw [if_pos hbr] at HQ
          go_wp2_with fail
          refine (stick_any b _ MM place _ HM2.out hpl HE2.out.pow).mono ?_
          rintro e w2 ⟨rfl, hM3, hB3⟩
          have HM3 := hide hM3
          have HO3 := hide (HO2.out.trans hB3)
          clear hM3 hB3
          go_wp2
          refine ret0 rfl rfl ?_
          refine ⟨rfl, ⟨_, HM3.out, ?_⟩, HO3.out⟩
          rw [HMM.out, HQ.out]
          exact ⟨by simp, by simp⟩
        | true =>
          rw [if_neg (by simp [hbr])] at HQ
          go_wp2_with fail
          refine (perform_any b (.slice (some ⟨pb, po, none⟩) cnt cap) MM op n place looks (f place).s stk _ ?_ ?_ k1 hll ?_ ?_ hn2 hpl ?_ ?_ ?_ ?_ ho1 ho2 hbr).mono ?_
          · exact HM2.out
          · rw [HMM.out]; exact HS.out.rep
          · rw [HMM.out]
          · exact HS.out.le
          · exact HE2.out.pow
          · exact HE2.out.pwb
          · rw [HMM.out]; exact HS.out.hlk
          · exact HS.out.lk
          rintro e w2 ⟨rfl, hM3, hB3⟩
          have HM3 := hide hM3
          have HO3 := hide (HO2.out.trans hB3)
          clear hM3 hB3
          go_wp2
          refine end0 rfl rfl ?_
          obtain ⟨m', h1, h2⟩ := HM3.out
          refine ⟨rfl, ⟨m', h1, ?_⟩, HO3.out⟩
          rw [HQ.out]
          rw [HMM.out] at h2
          exact h2
end Go.Proofs.YtkophfgkcijjkaaGreatDoor.Vp
namespace Go.Proofs.YtkophfgkcijjkaaGreatDoor.Vp
open Go.RowKit
theorem wordL_length (l : List UInt8) (n : Nat) : (wordL l n).length ≤ l.length := by
  induction n generalizing l with
  | zero =>
    rw [wordL]
    have h1 := dropWhile_length l isGap
    have h2 : ((l.dropWhile isGap).takeWhile (fun c => !isGap c)).length ≤ (l.dropWhile isGap).length := (List.takeWhile_sublist _).length_le
    omega
  | succ n ih =>
    rw [wordL]
    split
    · simp
    · have h1 := dropWhile_length l isGap
      have h2 := dropWhile_length (l.dropWhile isGap) (fun c => !isGap c)
      have h3 := ih ((l.dropWhile isGap).dropWhile (fun c => !isGap c))
      omega
theorem wordT_size (s : ByteArray) (n : Nat) : (wordT s n).size ≤ s.size := wordL_length s.data.toList n
def Fine (res : Res) (looks : Nat) : Prop := match res with
  | .inl (stk, p) => stk.length ≤ 50 ∧ (∀ x ∈ stk, x.size ≤ 2000) ∧ p ≤ 2000
  | .inr (.inl (_, _)) => True
  | .inr (.inr (_, name, stk)) => stk.length < 50 ∧ (∀ x ∈ stk, x.size ≤ 2000) ∧ nameOk name = true ∧ looks < 200
theorem performP_fine (op n here looks : Nat) (t : ByteArray) (stk : List ByteArray) (hl : stk.length ≤ 50) (hle : ∀ x ∈ stk, x.size ≤ 2000) (ht : t.size ≤ 2000) (hn : n ≤ 2000) (hh : here < 2000) (hlk : looks ≤ 200) (h1 : 1 ≤ op) (h15 : op ≤ 15) (hb : bearsP op stk = true) : Fine (performP op n t here looks stk) looks := by
  have lookFine : ∀ ask a r, stk = a :: r → Fine (lookP ask a r here looks) looks := by
    intro ask a r e
    subst e
    simp only [List.length_cons] at hl
    unfold lookP
    split
    · trivial
    · rename_i h1
      split
      · trivial
      · rename_i h2
        exact ⟨by omega, fun x hx => hle x (by simp [hx]), by simpa using h1, by omega⟩
  simp only [bearsP, decide_eq_true_eq] at hb
  obtain ⟨hb1, hb2⟩ := hb
  rcases (show op = 1 ∨ op = 2 ∨ op = 3 ∨ op = 4 ∨ op = 5 ∨ op = 6 ∨ op = 7 ∨ op = 8 ∨ op = 9 ∨ op = 10 ∨ op = 11 ∨ op = 12 ∨ op = 13 ∨ op = 14 ∨ op = 15 by omega) with rfl | rfl | rfl | rfl | rfl | rfl | rfl | rfl | rfl | rfl | rfl | rfl | rfl | rfl | rfl
  all_goals simp only [takesOf, putsOf] at hb1 hb2
  · refine ⟨by simp at hb2 ⊢; omega, fun x hx => ?_, by omega⟩
    rcases List.mem_cons.1 hx with rfl | hx
    · exact ht
    · exact hle x hx
  · match stk, hb1 with
    | x :: y :: r, _ =>
      show Fine (if y.size + x.size ≤ 2000 then _ else _) _
      split
      · refine ⟨by simp at hl ⊢; omega, fun z hz => ?_, by omega⟩
        rcases List.mem_cons.1 hz with rfl | hz
        · simp; omega
        · exact hle z (by simp [hz])
      · trivial
  · match stk, hb1 with
    | x :: r, _ =>
      refine ⟨hl, fun z hz => ?_, by omega⟩
      have hx := hle x (by simp)
      rcases List.mem_cons.1 hz with rfl | hz
      · split
        · simp; omega
        · exact hx
      · exact hle z (by simp [hz])
  · match stk, hb1 with
    | x :: r, _ =>
      refine ⟨hl, fun z hz => ?_, by omega⟩
      have hx := hle x (by simp)
      rcases List.mem_cons.1 hz with rfl | hz
      · split
        · simp; omega
        · decide
      · exact hle z (by simp [hz])
  · match stk, hb1 with
    | x :: r, _ =>
      refine ⟨hl, fun z hz => ?_, by omega⟩
      rcases List.mem_cons.1 hz with rfl | hz
      · exact Nat.le_trans (wordT_size _ _) (hle x (by simp))
      · exact hle z (by simp [hz])
  · match stk, hb1 with
    | x :: y :: r, _ =>
      refine ⟨by simp at hl ⊢; omega, fun z hz => ?_, by omega⟩
      rcases List.mem_cons.1 hz with rfl | hz
      · unfold flagT
        split <;> decide
      · exact hle z (by simp [hz])
  · match stk, hb1 with
    | x :: r, _ =>
      refine ⟨by simp at hb2 ⊢; omega, fun z hz => ?_, by omega⟩
      rcases List.mem_cons.1 hz with rfl | hz
      · exact hle _ (by simp)
      · exact hle z hz
  · match stk, hb1 with
    | x :: y :: r, _ =>
      refine ⟨hl, fun z hz => ?_, by omega⟩
      simp only [List.mem_cons] at hz
      exact hle z (by simp only [List.mem_cons]; rcases hz with h | h | h <;> simp [h])
  · match stk, hb1 with
    | x :: r, _ => exact ⟨by simp at hl; omega, fun z hz => hle z (by simp [hz]), by omega⟩
  · exact ⟨hl, hle, hn⟩
  · match stk, hb1 with
    | x :: r, _ =>
      refine ⟨by simp at hl; omega, fun z hz => hle z (by simp [hz]), ?_⟩
      split <;> omega
  · match stk, hb1 with
    | x :: r, _ => exact lookFine true x r rfl
  · match stk, hb1 with
    | x :: r, _ => exact lookFine false x r rfl
  · match stk, hb1 with
    | x :: r, _ => trivial
  · match stk, hb1 with
    | x :: r, _ => trivial
theorem stepP_fine {f : Nat → Ins} {cnt place steps looks : Nat} {stk : List ByteArray} {m : Mst} (hS : Sim m place steps looks stk) (hok : okTo f cnt = true) (hc : cnt ≤ 200) : Fine (stepP f cnt place steps looks stk) looks := by
  unfold stepP
  split
  · trivial
  · rename_i h1
    split
    · trivial
    · split
      · trivial
      · rename_i h3
        have hi := ok_at hok (show place < cnt by omega)
        simp only [insOk, decide_eq_true_eq] at hi
        obtain ⟨i1, i2, i3, i4, i5⟩ := hi
        have hmt : mostN (f place).op ≤ 2000 := by unfold mostN; split <;> (try split) <;> omega
        have hmt2 : mostText (f place).op ≤ 2000 := by unfold mostText; split <;> omega
        exact performP_fine _ _ _ _ _ _ hS.len hS.le (by omega) (by omega) (by omega) hS.lk (by omega) (by omega) (by simpa using h3)
abbrev Halt := (Int × ByteArray × Nat) ⊕ (Bool × ByteArray × List ByteArray × Nat × Nat × Nat)
def runP (f : Nat → Ins) (cnt : Nat) : Nat → Nat → Nat → Nat → List ByteArray → Option Halt
  | 0, _, _, _, _ => none
  | k + 1, place, steps, looks, stk => match stepP f cnt place steps looks stk with
    | .inr (.inl (c, x)) => some (.inl (c, x, (stepN cnt place steps)))
    | .inr (.inr (a, nm, s)) => some (.inr (a, nm, s, (place + 1), (stepN cnt place steps), (looks + 1)))
    | .inl (s, p) => runP f cnt k p (stepN cnt place steps) looks s
theorem stepP_go {f : Nat → Ins} {cnt place steps looks : Nat} {stk s : List ByteArray} {p : Nat} (h : stepP f cnt place steps looks stk = .inl (s, p)) : stepN cnt place steps = steps + 1 ∧ steps ≠ 2000 := by
  unfold stepP at h
  unfold stepN
  split at h
  · cases h
  · split at h
    · cases h
    · rename_i h1 h2
      rw [if_neg h1, if_neg h2]
      exact ⟨rfl, h2⟩
theorem runP_some (f : Nat → Ins) (cnt : Nat) (k : Nat) : ∀ place steps looks stk, steps ≤ 2000 → 2001 ≤ k + steps → ∃ h, runP f cnt k place steps looks stk = some h := by
  induction k with
  | zero => intro _ _ _ _ h1 h2; omega
  | succ k ih =>
    intro place steps looks stk h1 h2
    rw [runP]
    rcases hr : stepP f cnt place steps looks stk with ⟨s, p⟩ | ⟨c, x⟩ | ⟨a, nm, s⟩
    · obtain ⟨e1, e2⟩ := stepP_go hr
      simp only [e1]
      exact ih _ _ _ _ (by omega) (by omega)
    · exact ⟨_, rfl⟩
    · exact ⟨_, rfl⟩
def Stands (m : Mst) : Halt → Prop
  | .inl (c, x, k) => m.t = ⟨true, c, x, false, ⟨#[]⟩, k⟩
  | .inr (a, nm, s, p, k, l) => m.t = ⟨false, 0, ⟨#[]⟩, a, nm, k⟩ ∧ Sim m p k l s ∧ nameOk nm = true ∧ s.length < 50
set_option maxHeartbeats 2000000 in
theorem run_all (b pb po cnt cap : Nat) (f : Nat → Ins) (m : Mst) (H : Halt) (w : World) (hM : MAt w b (.slice (some ⟨pb, po, none⟩) cnt cap) m) (hE : Env w b pb po cnt f) (hc : cnt ≤ 200) (hok : okTo f cnt = true)
    (hH : (m.t = noTurn ∧ ∃ p k l s, Sim m p k l s ∧ runP f cnt (2001 - k) p k l s = some H) ∨ Stands m H) :
    Calls Tryz.prog 106 #[.pointer (some ⟨b, 0, none⟩)] w fun e w' => ∃ m', e = .returned m'.t.v ∧ MAt w' b (.slice (some ⟨pb, po, none⟩) cnt cap) m' ∧ Stands m' H ∧ Only b w w' := by
  have HM := hide hM
  have HE := hide hE
  have HH := hide hH
  have hlt := hM.lt
  clear hM hE hH
  have HM0 := hide (HM.out.al (.cells #[.bool false, .int .i64 0, .string ⟨#[]⟩, .bool false, .string ⟨#[]⟩, .int .i64 0] 70))
  have hw0 : w.heap.size < (w.alloc (.cells #[.bool false, .int .i64 0, .string ⟨#[]⟩, .bool false, .string ⟨#[]⟩, .int .i64 0] 70)).heap.size := by simp
  have HW0 := hide ((Only.refl b w).al (.cells #[.bool false, .int .i64 0, .string ⟨#[]⟩, .bool false, .string ⟨#[]⟩, .int .i64 0] 70))
  have hr0 : ∀ j, j < 6 → ∃ v, (w.alloc (.cells #[.bool false, .int .i64 0, .string ⟨#[]⟩, .bool false, .string ⟨#[]⟩, .int .i64 0] 70)).cell? ⟨w.heap.size, j, none⟩ = some v ∧ (w.alloc (.cells #[.bool false, .int .i64 0, .string ⟨#[]⟩, .bool false, .string ⟨#[]⟩, .int .i64 0] 70)).frozen? ⟨w.heap.size, j, none⟩ = false := by
    intro j hj
    rcases (show j = 0 ∨ j = 1 ∨ j = 2 ∨ j = 3 ∨ j = 4 ∨ j = 5 by omega) with rfl | rfl | rfl | rfl | rfl | rfl
    all_goals exact ⟨_, by simp; rfl, by simp⟩
  have HR0 := hide hr0
  clear hr0
  go_enter Tryz.func106, Tryz.ntmps106
  go_wp2
  generalize w.alloc (.cells #[.bool false, .int .i64 0, .string ⟨#[]⟩, .bool false, .string ⟨#[]⟩, .int .i64 0] 70) = w0 at HM0 hw0 HW0 HR0 ⊢
  go_loopg [] 2002 (fun g wr => ∃ m', MAt wr b (.slice (some ⟨pb, po, none⟩) cnt cap) m' ∧ Only b w0 wr ∧ ((m'.t = noTurn ∧ ∃ p k l s, Sim m' p k l s ∧ runP f cnt (2001 - k) p k l s = some H ∧ 2002 - k ≤ g) ∨ Stands m' H))
  case atStart =>
    refine ⟨m, HM0.out, Only.refl _ _, ?_⟩
    rcases HH.out with ⟨h1, p, k, l, s, h2, h3⟩ | h
    · exact .inl ⟨h1, p, k, l, s, h2, h3, by omega⟩
    · exact .inr h
  case round =>
    obtain ⟨m', hM, hO, hc2⟩ := hrel
    have HM1 := hide hM
    have HO1 := hide hO
    obtain ⟨⟨c5, z5⟩, ⟨c6, z6⟩, ⟨c7, z7⟩, ⟨c8, z8⟩, ⟨c9, z9⟩, c10, z10⟩ := hM.turn
    clear hM hO
    rcases hc2 with ⟨ht, p, k, l, s, hS, hr, hg⟩ | hst
    · have HS1 := hide hS
      have HR1 := hide hr
      have hk := hS.st
      rw [ht] at c5 c6 c7 c8 c9 c10
      simp only [noTurn] at c5 c6 c7 c8 c9 c10
      have HT1 := hide ht
      clear hS hr ht
      go_wp2_with fail
      refine (step_any b pb po cnt cap p k l f m' s _ HM1.out HS1.out (HE.out.only hlt (HW0.out.trans HO1.out)) hok).mono ?_
      rintro e w1 ⟨rfl, ⟨m2, hM2, hA⟩, hB2⟩
      have HM2 := hide hM2
      have HA := hide hA
      have HO2 := hide (HO1.out.trans hB2)
      clear hM2 hA hB2 c5 c6 c7 c8 c9 c10 z5 z6 z7 z8 z9 z10
      obtain ⟨g, rfl⟩ : ∃ g, gk = g + 1 := ⟨gk - 1, by omega⟩
      go_wp2
      go_roundg g
      case measure => omega
      case rel =>
        refine ⟨m2, HM2.out, HO2.out, ?_⟩
        have hR := HR1.out
        have hF := stepP_fine HS1.out hok hc
        obtain ⟨j, hj⟩ : ∃ j, 2001 - k = j + 1 := ⟨2000 - k, by omega⟩
        rw [hj, runP] at hR
        have hA := HA.out
        rcases hst : stepP f cnt p k l s with ⟨s2, p2⟩ | ⟨c, x⟩ | ⟨a, nm, s2⟩
        · rw [hst] at hR hA hF
          obtain ⟨e1, e2⟩ := stepP_go hst
          obtain ⟨a1, a2, a3, a4, a5, a6⟩ := hA
          obtain ⟨f1, f2, f3⟩ := hF
          simp only [e1] at hR a1
          refine .inl ⟨by rw [a6]; exact HT1.out, p2, k + 1, l, s2, ⟨a2, a3, f1, a4, a1, by rw [a5]; exact HS1.out.hlk, f2, f3, by omega, HS1.out.lk⟩, ?_, by omega⟩
          rw [show 2001 - (k + 1) = j by omega]
          exact hR
        · rw [hst] at hR hA hF
          simp only [Option.some.injEq] at hR
          subst hR
          exact .inr hA.2
        · rw [hst] at hR hA hF
          simp only [Option.some.injEq] at hR
          subst hR
          obtain ⟨a1, a2, a3, a4, a5, a6⟩ := hA
          obtain ⟨f1, f2, f3, f4⟩ := hF
          have hN : stepN cnt p k ≤ 2000 ∧ p + 1 ≤ 2000 := by
            unfold stepP at hst
            unfold stepN
            split at hst
            · cases hst
            · split at hst
              · cases hst
              · rename_i h1 h2
                rw [if_neg h1, if_neg h2]
                omega
          exact .inr ⟨a6, ⟨a2, a3, by omega, by rw [a4]; simp, a1, by rw [a5]; show m'.looks + 1 = _; rw [HS1.out.hlk]; simp, f2, hN.2, hN.1, by omega⟩, f3, f1⟩
    · have HST := hide hst
      rcases H with ⟨c, x, k⟩ | ⟨a, nm, s2, p2, k2, l2⟩
      · have ht : m'.t = ⟨true, c, x, false, ⟨#[]⟩, k⟩ := hst
        rw [ht] at c5 c6 c7 c8 c9 c10
        obtain ⟨v0, q0, y0⟩ := HR0.out 0 (by omega)
        obtain ⟨v1, q1, y1⟩ := HR0.out 1 (by omega)
        obtain ⟨v2, q2, y2⟩ := HR0.out 2 (by omega)
        obtain ⟨v3, q3, y3⟩ := HR0.out 3 (by omega)
        obtain ⟨v4, q4, y4⟩ := HR0.out 4 (by omega)
        obtain ⟨v5, q5, y5⟩ := HR0.out 5 (by omega)
        rw [← HO1.out.cell w.heap.size _ hw0 (by omega)] at q0 q1 q2 q3 q4 q5
        rw [← HO1.out.frozen w.heap.size _ hw0 (by omega)] at y0 y1 y2 y3 y4 y5
        go_wp2
        refine bodyPost_ret (v := m'.t.v) (by rw [ht]; simp [results, Tryz.results106, go_sem, Turn.v, q0, q1, q2, q3, q4, q5]) rfl ?_
        refine ⟨m', rfl, ?_, HST.out, ?_⟩
        · exact (((((HM1.out.other _ _ _ (by omega)).other _ _ _ (by omega)).other _ _ _ (by omega)).other _ _ _ (by omega)).other _ _ _ (by omega)).other _ _ _ (by omega)
        · exact ((((((HW0.out.trans HO1.out).setNew _ _ _ (Nat.le_refl _)).setNew _ _ _ (Nat.le_refl _)).setNew _ _ _ (Nat.le_refl _)).setNew _ _ _ (Nat.le_refl _)).setNew _ _ _ (Nat.le_refl _)).setNew _ _ _ (Nat.le_refl _)
      · obtain ⟨ht, hS, hn, hl⟩ := hst
        rw [ht] at c5 c6 c7 c8 c9 c10
        have hne : nm.toList.isEmpty = false := by
          have h0 : ¬ nm.size = 0 := by
            simp only [nameOk, Bool.and_eq_true, decide_eq_true_eq] at hn
            omega
          have := toList_ne h0
          cases h : nm.toList with
          | nil => exact absurd h this
          | cons _ _ => rfl
        clear hS hn hl
        obtain ⟨v0, q0, y0⟩ := HR0.out 0 (by omega)
        obtain ⟨v1, q1, y1⟩ := HR0.out 1 (by omega)
        obtain ⟨v2, q2, y2⟩ := HR0.out 2 (by omega)
        obtain ⟨v3, q3, y3⟩ := HR0.out 3 (by omega)
        obtain ⟨v4, q4, y4⟩ := HR0.out 4 (by omega)
        obtain ⟨v5, q5, y5⟩ := HR0.out 5 (by omega)
        rw [← HO1.out.cell w.heap.size _ hw0 (by omega)] at q0 q1 q2 q3 q4 q5
        rw [← HO1.out.frozen w.heap.size _ hw0 (by omega)] at y0 y1 y2 y3 y4 y5
        go_wp2
        refine bodyPost_ret (v := m'.t.v) (by rw [ht]; simp [results, Tryz.results106, go_sem, Turn.v, q0, q1, q2, q3, q4, q5]) rfl ?_
        refine ⟨m', rfl, ?_, HST.out, ?_⟩
        · exact (((((HM1.out.other _ _ _ (by omega)).other _ _ _ (by omega)).other _ _ _ (by omega)).other _ _ _ (by omega)).other _ _ _ (by omega)).other _ _ _ (by omega)
        · exact ((((((HW0.out.trans HO1.out).setNew _ _ _ (Nat.le_refl _)).setNew _ _ _ (Nat.le_refl _)).setNew _ _ _ (Nat.le_refl _)).setNew _ _ _ (Nat.le_refl _)).setNew _ _ _ (Nat.le_refl _)).setNew _ _ _ (Nat.le_refl _)
end Go.Proofs.YtkophfgkcijjkaaGreatDoor.Vp
namespace Go.Proofs.YtkophfgkcijjkaaGreatDoor.Vp
open Go.RowKit
def endT (c : Int) (x : ByteArray) (k : Nat) : Turn := ⟨true, c, x, false, ⟨#[]⟩, k⟩
def waitT (a : Bool) (nm : ByteArray) (k : Nat) : Turn := ⟨false, 0, ⟨#[]⟩, a, nm, k⟩
def nextP (f : Nat → Ins) (cnt : Nat) (y : Nat → Reply) (n : Nat) : Nat → Nat → Nat → Nat → List ByteArray → Turn
  | 0, _, _, _, _ => noTurn
  | k + 1, place, steps, looks, stk => match stepP f cnt place steps looks stk with
    | .inr (.inl (c, x)) => endT c x (stepN cnt place steps)
    | .inl (s, p) => nextP f cnt y n k p (stepN cnt place steps) looks s
    | .inr (.inr (a, nm, s)) => if n ≤ looks then waitT a nm (stepN cnt place steps)
        else if a = false then nextP f cnt y n k (place + 1) (stepN cnt place steps) (looks + 1) (flagT (y looks).has :: s)
        else if (y looks).has = false then endT 4 nm (stepN cnt place steps)
        else if (y looks).code = 0 then nextP f cnt y n k (place + 1) (stepN cnt place steps) (looks + 1) ((y looks).text :: s)
        else endT 5 nm (stepN cnt place steps)
def contP (f : Nat → Ins) (cnt : Nat) (y : Nat → Reply) (n : Nat) : Halt → Turn
  | .inl (c, x, k) => endT c x k
  | .inr (a, nm, s, p, k, l) => if n ≤ l - 1 then waitT a nm k
      else if a = false then nextP f cnt y n (2001 - k) p k l (flagT (y (l - 1)).has :: s)
      else if (y (l - 1)).has = false then endT 4 nm k
      else if (y (l - 1)).code = 0 then nextP f cnt y n (2001 - k) p k l ((y (l - 1)).text :: s)
      else endT 5 nm k
def looksOf (looks : Nat) : Halt → Prop
  | .inl (_, _, _) => True
  | .inr (_, _, _, _, _, l) => l = looks + 1
theorem stepP_look {f : Nat → Ins} {cnt place steps looks : Nat} {stk s : List ByteArray} {a : Bool} {nm : ByteArray} (h : stepP f cnt place steps looks stk = .inr (.inr (a, nm, s))) : stepN cnt place steps = steps + 1 ∧ steps ≠ 2000 := by
  unfold stepP at h
  unfold stepN
  split at h
  · cases h
  · split at h
    · cases h
    · rename_i h1 h2
      rw [if_neg h1, if_neg h2]
      exact ⟨rfl, h2⟩
theorem next_run (f : Nat → Ins) (cnt : Nat) (y : Nat → Reply) (n : Nat) (k : Nat) : ∀ place steps looks stk H, steps ≤ 2000 → 2001 - steps = k → runP f cnt k place steps looks stk = some H →
    nextP f cnt y n k place steps looks stk = contP f cnt y n H ∧ looksOf looks H := by
  induction k with
  | zero => intro _ _ _ _ _ h1 h2; omega
  | succ k ih =>
    intro place steps looks stk H h1 h2 hr
    rw [runP] at hr
    rw [nextP]
    rcases hs : stepP f cnt place steps looks stk with ⟨s, p⟩ | ⟨c, x⟩ | ⟨a, nm, s⟩
    · obtain ⟨e1, e2⟩ := stepP_go hs
      rw [hs] at hr
      simp only [e1] at hr ⊢
      exact ih _ _ _ _ _ (by omega) (by omega) hr
    · rw [hs] at hr
      simp only [Option.some.injEq] at hr
      subst hr
      exact ⟨rfl, trivial⟩
    · obtain ⟨e1, e2⟩ := stepP_look hs
      rw [hs] at hr
      simp only [Option.some.injEq] at hr
      subst hr
      simp only [contP, e1, Nat.add_sub_cancel, show 2001 - (steps + 1) = k by omega]
      exact ⟨trivial, rfl⟩
end Go.Proofs.YtkophfgkcijjkaaGreatDoor.Vp
namespace Go.Proofs.YtkophfgkcijjkaaGreatDoor.Vp
open Go.RowKit
def replyOk (r : Reply) : Bool := decide (r.text.size ≤ 2000 ∧ 0 ≤ r.code ∧ r.code ≤ 7)
end Go.Proofs.YtkophfgkcijjkaaGreatDoor.Vp
namespace Go.Proofs.YtkophfgkcijjkaaGreatDoor.Vp
open Go.RowKit
theorem box2 (w W1 : World) (cs : Array Value) (ty : TypeId) (T : Obj) (j : Nat) (v : Value) (hz : W1.heap.size = w.heap.size) (hv : cs[j]? = some v) : ((W1.alloc (.cells cs ty)).alloc T).cell? ⟨w.heap.size, j, none⟩ = some v := by
  rw [← hz, ((Below.refl (W1.alloc (.cells cs ty)).heap.size _).alloc (Nat.le_refl _) T).cell (p := ⟨W1.heap.size, j, none⟩) (by simp)]
  simp [hv]
def ansT (m : Mst) (c : Int) : Turn := ⟨true, c, m.t.name, false, ⟨#[]⟩, m.steps⟩
set_option maxHeartbeats 2000000 in
theorem answer_has (b : Nat) (cv : Value) (m : Mst) (x : Bool) (c : Int) (t : ByteArray) (w : World) (hM : MAt w b cv m) (ha : m.t.ask = false) (hs : m.size < 50) :
    Calls Tryz.prog 107 #[.pointer (some ⟨b, 0, none⟩), .agg #[.bool x, .int .i64 c, .string t]] w fun e w' => e = .returned (.tuple #[]) ∧
      MAt w' b cv { m with t := noTurn, S := upd m.S m.size (flagT x), size := m.size + 1 } ∧ Only b w w' := by
  have HM := hide hM
  have hlt := hM.lt
  obtain ⟨⟨c5, z5⟩, ⟨c6, z6⟩, ⟨c7, z7⟩, ⟨c8, z8⟩, ⟨c9, z9⟩, c10, z10⟩ := hM.turn
  rw [ha] at c8
  have HM1 : Hid (MAt ((((((((w.setCell ⟨b, 55, none⟩ (.bool false)).setCell ⟨b, 56, none⟩ (.int .i64 0)).setCell ⟨b, 57, none⟩ (.string ⟨#[]⟩)).setCell ⟨b, 58, none⟩ (.bool false)).setCell ⟨b, 59, none⟩ (.string ⟨#[]⟩)).setCell ⟨b, 60, none⟩ (.int .i64 0)).alloc (.cells #[.bool x, .int .i64 c, .string t] 75)).alloc (.cells #[.bool m.t.over, .int .i64 m.t.code, .string m.t.text, .bool false, .string m.t.name, .int .i64 m.t.steps] 70)) b cv { m with t := noTurn }) := hide (((HM.out.setTurn noTurn).al _).al _)
  have HO1 : Hid (Only b w ((((((((w.setCell ⟨b, 55, none⟩ (.bool false)).setCell ⟨b, 56, none⟩ (.int .i64 0)).setCell ⟨b, 57, none⟩ (.string ⟨#[]⟩)).setCell ⟨b, 58, none⟩ (.bool false)).setCell ⟨b, 59, none⟩ (.string ⟨#[]⟩)).setCell ⟨b, 60, none⟩ (.int .i64 0)).alloc (.cells #[.bool x, .int .i64 c, .string t] 75)).alloc (.cells #[.bool m.t.over, .int .i64 m.t.code, .string m.t.text, .bool false, .string m.t.name, .int .i64 m.t.steps] 70))) := hide (((bset6 (Only.refl b w) noTurn).al _).al _)
  have q0 : ((((((((w.setCell ⟨b, 55, none⟩ (.bool false)).setCell ⟨b, 56, none⟩ (.int .i64 0)).setCell ⟨b, 57, none⟩ (.string ⟨#[]⟩)).setCell ⟨b, 58, none⟩ (.bool false)).setCell ⟨b, 59, none⟩ (.string ⟨#[]⟩)).setCell ⟨b, 60, none⟩ (.int .i64 0)).alloc (.cells #[.bool x, .int .i64 c, .string t] 75)).alloc (.cells #[.bool m.t.over, .int .i64 m.t.code, .string m.t.text, .bool false, .string m.t.name, .int .i64 m.t.steps] 70)).cell? ⟨w.heap.size, 0, none⟩ = some (.bool x) := box2 w _ _ _ _ _ _ (by simp) rfl
  clear hM
  go_enter Tryz.func107, Tryz.ntmps107
  go_wp2_with fail
  clear c5 c6 c7 c8 c9 c10 z5 z6 z7 z8 z9 z10
  generalize ((((((((w.setCell ⟨b, 55, none⟩ (.bool false)).setCell ⟨b, 56, none⟩ (.int .i64 0)).setCell ⟨b, 57, none⟩ (.string ⟨#[]⟩)).setCell ⟨b, 58, none⟩ (.bool false)).setCell ⟨b, 59, none⟩ (.string ⟨#[]⟩)).setCell ⟨b, 60, none⟩ (.int .i64 0)).alloc (.cells #[.bool x, .int .i64 c, .string t] 75)).alloc (.cells #[.bool m.t.over, .int .i64 m.t.code, .string m.t.text, .bool false, .string m.t.name, .int .i64 m.t.steps] 70)) = W at HM1 HO1 q0 ⊢
  go_region_with (first | (go_at_call 166; refine (truth_any _ _).mono ?_; rintro e w1 ⟨rfl, hw1⟩; subst hw1) | (go_at_call 165; refine (put_any b cv { m with t := noTurn } _ _ ?_ hs).mono ?_; (first | exact HM1.out | exact HM1.out.drew | exact HM1.out.drew.drew); rintro e w2 ⟨rfl, hM2, hB2⟩; have HM2 := hide hM2; have HO2 : Hid (Only b w w2) := Only.trans (by repeat (first | exact HO1.out | apply Only.drew)) hB2; clear hM2 hB2))
  all_goals
    go_wp2
    refine end0 rfl rfl ?_
    exact ⟨rfl, HM2.out, HO2.out⟩
set_option maxHeartbeats 2000000 in
theorem answer_ask (b : Nat) (cv : Value) (m : Mst)  (t : ByteArray) (w : World) (hM : MAt w b cv m) (ha : m.t.ask = true) (hs : m.size < 50) :
    Calls Tryz.prog 107 #[.pointer (some ⟨b, 0, none⟩), .agg #[.bool true, .int .i64 0, .string t]] w fun e w' => e = .returned (.tuple #[]) ∧
      MAt w' b cv { m with t := noTurn, S := upd m.S m.size t, size := m.size + 1 } ∧ Only b w w' := by
  have HM := hide hM
  have hlt := hM.lt
  obtain ⟨⟨c5, z5⟩, ⟨c6, z6⟩, ⟨c7, z7⟩, ⟨c8, z8⟩, ⟨c9, z9⟩, c10, z10⟩ := hM.turn
  rw [ha] at c8
  have HM1 : Hid (MAt ((((((((w.setCell ⟨b, 55, none⟩ (.bool false)).setCell ⟨b, 56, none⟩ (.int .i64 0)).setCell ⟨b, 57, none⟩ (.string ⟨#[]⟩)).setCell ⟨b, 58, none⟩ (.bool false)).setCell ⟨b, 59, none⟩ (.string ⟨#[]⟩)).setCell ⟨b, 60, none⟩ (.int .i64 0)).alloc (.cells #[.bool true, .int .i64 0, .string t] 75)).alloc (.cells #[.bool m.t.over, .int .i64 m.t.code, .string m.t.text, .bool true, .string m.t.name, .int .i64 m.t.steps] 70)) b cv { m with t := noTurn }) := hide (((HM.out.setTurn noTurn).al _).al _)
  have HO1 : Hid (Only b w ((((((((w.setCell ⟨b, 55, none⟩ (.bool false)).setCell ⟨b, 56, none⟩ (.int .i64 0)).setCell ⟨b, 57, none⟩ (.string ⟨#[]⟩)).setCell ⟨b, 58, none⟩ (.bool false)).setCell ⟨b, 59, none⟩ (.string ⟨#[]⟩)).setCell ⟨b, 60, none⟩ (.int .i64 0)).alloc (.cells #[.bool true, .int .i64 0, .string t] 75)).alloc (.cells #[.bool m.t.over, .int .i64 m.t.code, .string m.t.text, .bool true, .string m.t.name, .int .i64 m.t.steps] 70))) := hide (((bset6 (Only.refl b w) noTurn).al _).al _)
  have q2 : ((((((((w.setCell ⟨b, 55, none⟩ (.bool false)).setCell ⟨b, 56, none⟩ (.int .i64 0)).setCell ⟨b, 57, none⟩ (.string ⟨#[]⟩)).setCell ⟨b, 58, none⟩ (.bool false)).setCell ⟨b, 59, none⟩ (.string ⟨#[]⟩)).setCell ⟨b, 60, none⟩ (.int .i64 0)).alloc (.cells #[.bool true, .int .i64 0, .string t] 75)).alloc (.cells #[.bool m.t.over, .int .i64 m.t.code, .string m.t.text, .bool true, .string m.t.name, .int .i64 m.t.steps] 70)).cell? ⟨w.heap.size, 2, none⟩ = some (.string t) := box2 w _ _ _ _ _ _ (by simp) rfl
  clear hM
  go_enter Tryz.func107, Tryz.ntmps107
  go_wp2_with fail
  clear c5 c6 c7 c8 c9 c10 z5 z6 z7 z8 z9 z10
  generalize ((((((((w.setCell ⟨b, 55, none⟩ (.bool false)).setCell ⟨b, 56, none⟩ (.int .i64 0)).setCell ⟨b, 57, none⟩ (.string ⟨#[]⟩)).setCell ⟨b, 58, none⟩ (.bool false)).setCell ⟨b, 59, none⟩ (.string ⟨#[]⟩)).setCell ⟨b, 60, none⟩ (.int .i64 0)).alloc (.cells #[.bool true, .int .i64 0, .string t] 75)).alloc (.cells #[.bool m.t.over, .int .i64 m.t.code, .string m.t.text, .bool true, .string m.t.name, .int .i64 m.t.steps] 70)) = W at HM1 HO1 q2 ⊢
  go_region_with (go_at_call 165; refine (put_any b cv { m with t := noTurn } _ _ ?_ hs).mono ?_; (first | exact HM1.out | exact HM1.out.drew | exact HM1.out.drew.drew); rintro e w2 ⟨rfl, hM2, hB2⟩; have HM2 := hide hM2; have HO2 : Hid (Only b w w2) := Only.trans (by repeat (first | exact HO1.out | apply Only.drew)) hB2; clear hM2 hB2)
  all_goals
    go_wp2
    refine end0 rfl rfl ?_
    exact ⟨rfl, HM2.out, HO2.out⟩
set_option maxHeartbeats 2000000 in
theorem answer_missing (b : Nat) (cv : Value) (m : Mst) (c : Int) (t : ByteArray) (w : World) (hM : MAt w b cv m) (ha : m.t.ask = true) :
    Calls Tryz.prog 107 #[.pointer (some ⟨b, 0, none⟩), .agg #[.bool false, .int .i64 c, .string t]] w fun e w' => e = .returned (.tuple #[]) ∧
      MAt w' b cv { m with t := ansT m 4 } ∧ Only b w w' := by
  have HM := hide hM
  have hlt := hM.lt
  obtain ⟨⟨c5, z5⟩, ⟨c6, z6⟩, ⟨c7, z7⟩, ⟨c8, z8⟩, ⟨c9, z9⟩, c10, z10⟩ := hM.turn
  rw [ha] at c8
  have HM1 : Hid (MAt ((((((((w.setCell ⟨b, 55, none⟩ (.bool false)).setCell ⟨b, 56, none⟩ (.int .i64 0)).setCell ⟨b, 57, none⟩ (.string ⟨#[]⟩)).setCell ⟨b, 58, none⟩ (.bool false)).setCell ⟨b, 59, none⟩ (.string ⟨#[]⟩)).setCell ⟨b, 60, none⟩ (.int .i64 0)).alloc (.cells #[.bool false, .int .i64 c, .string t] 75)).alloc (.cells #[.bool m.t.over, .int .i64 m.t.code, .string m.t.text, .bool true, .string m.t.name, .int .i64 m.t.steps] 70)) b cv { m with t := noTurn }) := hide (((HM.out.setTurn noTurn).al _).al _)
  have HO1 : Hid (Only b w ((((((((w.setCell ⟨b, 55, none⟩ (.bool false)).setCell ⟨b, 56, none⟩ (.int .i64 0)).setCell ⟨b, 57, none⟩ (.string ⟨#[]⟩)).setCell ⟨b, 58, none⟩ (.bool false)).setCell ⟨b, 59, none⟩ (.string ⟨#[]⟩)).setCell ⟨b, 60, none⟩ (.int .i64 0)).alloc (.cells #[.bool false, .int .i64 c, .string t] 75)).alloc (.cells #[.bool m.t.over, .int .i64 m.t.code, .string m.t.text, .bool true, .string m.t.name, .int .i64 m.t.steps] 70))) := hide (((bset6 (Only.refl b w) noTurn).al _).al _)
  clear hM
  go_enter Tryz.func107, Tryz.ntmps107
  go_wp2_with fail
  clear c5 c6 c7 c8 c9 c10 z5 z6 z7 z8 z9 z10
  generalize ((((((((w.setCell ⟨b, 55, none⟩ (.bool false)).setCell ⟨b, 56, none⟩ (.int .i64 0)).setCell ⟨b, 57, none⟩ (.string ⟨#[]⟩)).setCell ⟨b, 58, none⟩ (.bool false)).setCell ⟨b, 59, none⟩ (.string ⟨#[]⟩)).setCell ⟨b, 60, none⟩ (.int .i64 0)).alloc (.cells #[.bool false, .int .i64 c, .string t] 75)).alloc (.cells #[.bool m.t.over, .int .i64 m.t.code, .string m.t.text, .bool true, .string m.t.name, .int .i64 m.t.steps] 70)) = W at HM1 HO1  ⊢
  refine (end_any b cv { m with t := noTurn } _ _ _ HM1.out).mono ?_
  rintro e w2 ⟨rfl, hM2, hB2⟩
  have HM2 := hide hM2
  have HO2 : Hid (Only b w w2) := HO1.out.trans hB2
  clear hM2 hB2
  all_goals
    go_wp2
    refine end0 rfl rfl ?_
    exact ⟨rfl, HM2.out, HO2.out⟩
set_option maxHeartbeats 2000000 in
theorem answer_below (b : Nat) (cv : Value) (m : Mst) (c : Int) (t : ByteArray) (w : World) (hM : MAt w b cv m) (ha : m.t.ask = true) (hc : (c == 0) = false) :
    Calls Tryz.prog 107 #[.pointer (some ⟨b, 0, none⟩), .agg #[.bool true, .int .i64 c, .string t]] w fun e w' => e = .returned (.tuple #[]) ∧
      MAt w' b cv { m with t := ansT m 5 } ∧ Only b w w' := by
  have HM := hide hM
  have hlt := hM.lt
  obtain ⟨⟨c5, z5⟩, ⟨c6, z6⟩, ⟨c7, z7⟩, ⟨c8, z8⟩, ⟨c9, z9⟩, c10, z10⟩ := hM.turn
  rw [ha] at c8
  have HM1 : Hid (MAt ((((((((w.setCell ⟨b, 55, none⟩ (.bool false)).setCell ⟨b, 56, none⟩ (.int .i64 0)).setCell ⟨b, 57, none⟩ (.string ⟨#[]⟩)).setCell ⟨b, 58, none⟩ (.bool false)).setCell ⟨b, 59, none⟩ (.string ⟨#[]⟩)).setCell ⟨b, 60, none⟩ (.int .i64 0)).alloc (.cells #[.bool true, .int .i64 c, .string t] 75)).alloc (.cells #[.bool m.t.over, .int .i64 m.t.code, .string m.t.text, .bool true, .string m.t.name, .int .i64 m.t.steps] 70)) b cv { m with t := noTurn }) := hide (((HM.out.setTurn noTurn).al _).al _)
  have HO1 : Hid (Only b w ((((((((w.setCell ⟨b, 55, none⟩ (.bool false)).setCell ⟨b, 56, none⟩ (.int .i64 0)).setCell ⟨b, 57, none⟩ (.string ⟨#[]⟩)).setCell ⟨b, 58, none⟩ (.bool false)).setCell ⟨b, 59, none⟩ (.string ⟨#[]⟩)).setCell ⟨b, 60, none⟩ (.int .i64 0)).alloc (.cells #[.bool true, .int .i64 c, .string t] 75)).alloc (.cells #[.bool m.t.over, .int .i64 m.t.code, .string m.t.text, .bool true, .string m.t.name, .int .i64 m.t.steps] 70))) := hide (((bset6 (Only.refl b w) noTurn).al _).al _)
  clear hM
  go_enter Tryz.func107, Tryz.ntmps107
  go_wp2_with fail
  clear c5 c6 c7 c8 c9 c10 z5 z6 z7 z8 z9 z10
  generalize ((((((((w.setCell ⟨b, 55, none⟩ (.bool false)).setCell ⟨b, 56, none⟩ (.int .i64 0)).setCell ⟨b, 57, none⟩ (.string ⟨#[]⟩)).setCell ⟨b, 58, none⟩ (.bool false)).setCell ⟨b, 59, none⟩ (.string ⟨#[]⟩)).setCell ⟨b, 60, none⟩ (.int .i64 0)).alloc (.cells #[.bool true, .int .i64 c, .string t] 75)).alloc (.cells #[.bool m.t.over, .int .i64 m.t.code, .string m.t.text, .bool true, .string m.t.name, .int .i64 m.t.steps] 70)) = W at HM1 HO1  ⊢
  refine (end_any b cv { m with t := noTurn } _ _ _ HM1.out).mono ?_
  rintro e w2 ⟨rfl, hM2, hB2⟩
  have HM2 := hide hM2
  have HO2 : Hid (Only b w w2) := HO1.out.trans hB2
  clear hM2 hB2
  all_goals
    go_wp2
    refine end0 rfl rfl ?_
    exact ⟨rfl, HM2.out, HO2.out⟩
end Go.Proofs.YtkophfgkcijjkaaGreatDoor.Vp
