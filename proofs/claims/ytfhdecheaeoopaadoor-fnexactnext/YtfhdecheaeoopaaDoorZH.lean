/-
  Put together of: NxPure, NxPerf, NxStep.
-/
import Derived.Test.YtfhdecheaeoopaaDoorZF
import Derived.Test.YtfhdecheaeoopaaDoorZG

/-
  A run, told without a machine: the stack is a list, its top first.
-/
namespace Go.Proofs.YtfhdecheaeoopaaDoor.Vp
open Go.RowKit

def Rep (S : Nat → ByteArray) : List ByteArray → Prop
  | [] => True
  | x :: r => S r.length = x ∧ Rep S r
theorem Rep.upd {S : Nat → ByteArray} {r : List ByteArray} {k : Nat} (x : ByteArray) (h : Rep S r) (hk : r.length ≤ k) : Rep (upd S k x) r := by
  induction r with
  | nil => trivial
  | cons y r ih =>
    simp only [List.length_cons] at hk
    refine ⟨?_, ih h.2 (by omega)⟩
    unfold Vp.upd
    rw [if_neg (by omega)]
    exact h.1
theorem Rep.push {S : Nat → ByteArray} {r : List ByteArray} (x : ByteArray) (h : Rep S r) : Rep (Vp.upd S r.length x) (x :: r) :=
  ⟨by simp [Vp.upd], h.upd x (Nat.le_refl _)⟩
theorem Rep.push' {S : Nat → ByteArray} {r : List ByteArray} {x v : ByteArray} (h : Rep S r) (e : x = v) : Rep (Vp.upd S r.length x) (v :: r) := e ▸ h.push x
theorem Rep.at {S : Nat → ByteArray} {r : List ByteArray} {k : Nat} (h : Rep S r) (hk : k < r.length) : S k ∈ r := by
  induction r with
  | nil => simp at hk
  | cons y r ih =>
    by_cases e : k = r.length
    · subst e; simp [h.1]
    · exact List.mem_cons_of_mem _ (ih h.2 (by simp at hk; omega))

abbrev Res := (List ByteArray × Nat) ⊕ (Int × ByteArray) ⊕ (Bool × ByteArray × List ByteArray)

def lookP (ask : Bool) (a : ByteArray) (r : List ByteArray) (here looks : Nat) : Res :=
  if nameOk a = false then .inr (.inl (2, (decT here))) else if looks = 200 then .inr (.inl (3, ⟨#[]⟩)) else .inr (.inr (ask, a, r))
/-- An instruction for which the stack bears. -/
def performP (op n : Nat) (t : ByteArray) (here looks : Nat) (stk : List ByteArray) : Res :=
  match op, stk with
  | 1, stk => .inl ((t :: stk), (here + 1))
  | 2, b :: a :: r => if a.size + b.size ≤ 2000 then .inl (((a ++ b) :: r), (here + 1)) else .inr (.inl (2, (decT here)))
  | 3, a :: r => .inl (((if n < a.size then a.extract 0 n else a) :: r), (here + 1))
  | 4, a :: r => .inl (((if n < a.size then a.extract n a.size else ⟨#[]⟩) :: r), (here + 1))
  | 5, a :: r => .inl ((wordT a n :: r), (here + 1))
  | 6, b :: a :: r => .inl ((flagT (b.toList == a.toList) :: r), (here + 1))
  | 7, a :: r => .inl ((a :: a :: r), (here + 1))
  | 8, b :: a :: r => .inl ((a :: b :: r), (here + 1))
  | 9, _ :: r => .inl (r, (here + 1))
  | 10, stk => .inl (stk, n)
  | 11, a :: r => .inl (r, (if a.toList = [] ∨ (a.toList == [48]) = true then n else here + 1))
  | 12, a :: r => lookP true a r here looks
  | 13, a :: r => lookP false a r here looks
  | 14, a :: _ => .inr (.inl (1, a))
  | 15, a :: _ => .inr (.inl (0, a))
  | _, _ => .inr (.inl (0, ⟨#[]⟩))

/-- The machine behind a step. -/
def After (m m' : Mst) (res : Res) : Prop := m'.steps = m.steps ∧ match res with
  | .inl (stk, p) => Rep m'.S stk ∧ m'.size = stk.length ∧ m'.place = p ∧ m'.looks = m.looks ∧ m'.t = m.t
  | .inr (.inl (c, x)) => m'.t = ⟨true, c, x, false, ⟨#[]⟩, m.steps⟩
  | .inr (.inr (ask, name, stk)) => Rep m'.S stk ∧ m'.size = stk.length ∧ m'.place = m.place ∧ m'.looks = m.looks + 1 ∧ m'.t = ⟨false, 0, ⟨#[]⟩, ask, name, m.steps⟩

theorem MAt.bel {w w' : World} {b : Nat} {cv : Value} {m : Mst} (h : MAt w b cv m) (hB : Below w.heap.size w w') : MAt w' b cv m := h.below hB h.lt
theorem Only.bel {b : Nat} {u w w' : World} (h : Only b u w) (hB : Below w.heap.size w w') : Only b u w' := h.trans (Only.of_below hB)
theorem Only.frozen {b : Nat} {w w' : World} (h : Only b w w') (k o : Nat) (hk : k < w.heap.size) (hb : k ≠ b) : w'.frozen? ⟨k, o, none⟩ = w.frozen? ⟨k, o, none⟩ := World.frozen?_of_block (w := w) (a := ⟨k, o, none⟩) (h.block k hk hb)
theorem Only.setNew {b : Nat} {w W : World} (h : Only b w W) (k o : Nat) (v : Value) (hk : w.heap.size ≤ k) : Only b w (W.setCell ⟨k, o, none⟩ v) :=
  ⟨h.os, h.tape, h.output, by simpa [World.setCell] using h.size, fun i hi ho => (Below.heap_setCell _ _ _ _ (by simp; omega)).trans (h.block i hi ho), fun cs t fz hb => by
    obtain ⟨cs1, h1⟩ := h.ty cs t fz hb
    have hbl := heap_in hb
    exact ⟨cs1, (Below.heap_setCell _ _ _ _ (by simp; omega)).trans h1⟩⟩
theorem MAt.other {w : World} {b : Nat} {cv : Value} {m : Mst} (h : MAt w b cv m) (k o : Nat) (v : Value) (hk : k ≠ b) : MAt (w.setCell ⟨k, o, none⟩ v) b cv m :=
  ⟨by simpa using h.1, fun j hj => ⟨(cell_far w ⟨k, o, none⟩ ⟨b, j, none⟩ v hk).trans (h.2 j hj).1, by have := (h.2 j hj).2; simpa using this⟩⟩
theorem take_is (b : Nat) (cv : Value) (m : Mst) (k : Nat) (v : ByteArray) (w : World) (hM : MAt w b cv m) (hk : m.size = k + 1) (hs : k < 50) (hv : m.S k = v) :
    Calls Tryd.prog 48 #[.pointer (some ⟨b, 0, none⟩)] w fun e w' => e = .returned (.string v) ∧ MAt w' b cv { m with size := k } ∧ Only b w w' := by
  rw [← hv]
  exact take_any b cv m k w hM hk hs
theorem MAt.drew {w : World} {b : Nat} {cv : Value} {m : Mst} (h : MAt w b cv m) : MAt w.drew b cv m := h.below (Below.refl _ _).drew (Nat.lt_succ_self _)
theorem MAt.al {w : World} {b : Nat} {cv : Value} {m : Mst} (h : MAt w b cv m) (o : Obj) : MAt (w.alloc o) b cv m := h.below ((Below.refl w.heap.size _).alloc (Nat.le_refl _) _) h.lt

end Go.Proofs.YtfhdecheaeoopaaDoor.Vp

/-
  perform, instruction by instruction. Written by tools/perf.py.
-/
namespace Go.Proofs.YtfhdecheaeoopaaDoor.Vp
open Go.RowKit

set_option maxHeartbeats 2000000 in
set_option maxRecDepth 1000000 in
theorem perf1 (b : Nat) (cv : Value) (m : Mst) (n here : Nat) (t : ByteArray) (stk : List ByteArray) (w : World) (hM : MAt w b cv m) (hR : Rep m.S (stk)) (hz : m.size = (stk).length) (hl : (stk).length ≤ 50) (hp : m.place = here + 1) (hl2 : stk.length < 50) :
    Calls Tryd.prog 45 #[.pointer (some ⟨b, 0, none⟩), .agg #[.int .i64 1, .string t, .int .i64 n], .int .i64 here] w fun e w' => e = .returned (.tuple #[]) ∧ (∃ m', MAt w' b cv m' ∧ After m m' (.inl ((t :: stk), (here + 1)))) ∧ Only b w w' := by
  have HM := hide hM
  have HR := hide hR
  have hlt := hM.lt
  have HZ := hide hz
  have hi0 : (w.alloc (.cells #[.int .i64 1, .string t, .int .i64 n] 67)).cell? ⟨w.heap.size, 2, none⟩ = some (.int .i64 n) := by simp
  have HI0 := hide hi0
  have HM0 := hide (HM.out.al (.cells #[.int .i64 1, .string t, .int .i64 n] 67))
  have HB0 := hide ((Only.refl b w).al (.cells #[.int .i64 1, .string t, .int .i64 n] 67))
  have hs0 : w.heap.size < (w.alloc (.cells #[.int .i64 1, .string t, .int .i64 n] 67)).heap.size := by simp
  clear hM hR hi0
  obtain ⟨R, hRes⟩ : ∃ R : Res, R = (.inl ((t :: stk), (here + 1))) := ⟨_, rfl⟩
  rw [← hRes]
  have HQ := hide hRes
  clear hRes
  go_enter Tryd.func45, Tryd.ntmps45
  have HN0 := hide (Only.refl b (w.alloc (.cells #[.int .i64 1, .string t, .int .i64 n] 67)))
  go_wp2_with fail
  go_region_with (go_at_call 35; refine (put_any b cv m t _ ?_ (by omega)).mono ?_; (first | exact HM0.out | exact HM0.out.drew | exact HM0.out.drew.drew | exact HM0.out.drew.drew.drew); rintro e w1 ⟨rfl, hM1, hB1⟩; have HM1 := hide hM1; have HN1 : Hid (Only b (w.alloc (.cells #[.int .i64 1, .string t, .int .i64 n] 67)) w1) := Only.trans (by repeat (first | exact HN0.out | exact Only.refl _ _ | apply Only.drew)) hB1; clear hM1 hB1)
  all_goals
    go_wp2
    refine end0 rfl rfl ?_
    exact ⟨rfl, ⟨_, HM1.out, by rw [HQ.out]; exact ⟨rfl, by rw [HZ.out]; exact HR.out.push t, by simp [HZ.out], hp, rfl, rfl⟩⟩, HB0.out.trans HN1.out⟩

set_option maxHeartbeats 2000000 in
set_option maxRecDepth 1000000 in
theorem perf2 (b : Nat) (cv : Value) (m : Mst) (n here : Nat) (t : ByteArray) (x y : ByteArray) (r : List ByteArray) (w : World) (hM : MAt w b cv m) (hR : Rep m.S (x :: y :: r)) (hz : m.size = (x :: y :: r).length) (hl : (x :: y :: r).length ≤ 50) (hp : m.place = here + 1) (hh : here ≤ 2000) (hP : Pow w) (hPb : 1 < b) (h1 : x.size ≤ 2000) (h2 : y.size ≤ 2000) :
    Calls Tryd.prog 45 #[.pointer (some ⟨b, 0, none⟩), .agg #[.int .i64 2, .string t, .int .i64 n], .int .i64 here] w fun e w' => e = .returned (.tuple #[]) ∧ (∃ m', MAt w' b cv m' ∧ After m m' (if y.size + x.size ≤ 2000 then .inl (((y ++ x) :: r), (here + 1)) else .inr (.inl (2, (decT here))))) ∧ Only b w w' := by
  have HM := hide hM
  have hx : m.S (r.length + 1) = x := hR.1
  have hy : m.S r.length = y := hR.2.1
  have HR := hide hR.2.2
  have hlt := hM.lt
  simp only [List.length_cons] at hl hz
  have HZ := hide hz
  have hi0 : (w.alloc (.cells #[.int .i64 2, .string t, .int .i64 n] 67)).cell? ⟨w.heap.size, 2, none⟩ = some (.int .i64 n) := by simp
  have HI0 := hide hi0
  have HM0 := hide (HM.out.al (.cells #[.int .i64 2, .string t, .int .i64 n] 67))
  have HB0 := hide ((Only.refl b w).al (.cells #[.int .i64 2, .string t, .int .i64 n] 67))
  have hs0 : w.heap.size < (w.alloc (.cells #[.int .i64 2, .string t, .int .i64 n] 67)).heap.size := by simp
  clear hM hR hi0
  obtain ⟨R, hRes⟩ : ∃ R : Res, R = (if y.size + x.size ≤ 2000 then .inl (((y ++ x) :: r), (here + 1)) else .inr (.inl (2, (decT here)))) := ⟨_, rfl⟩
  rw [← hRes]
  have HQ := hide hRes
  clear hRes
  go_enter Tryd.func45, Tryd.ntmps45
  have HN0 := hide (Only.refl b (w.alloc (.cells #[.int .i64 2, .string t, .int .i64 n] 67)))
  have HP := hide hP
  clear hP
  go_wp2_with fail
  refine (join_any b cv m r.length here _ HM0.out HZ.out (by omega) hh (HP.out.low (HB0.out.below (Nat.le_refl _) (Nat.le_of_lt hlt)) hPb) hPb (by rw [hy]; exact h2) (by rw [hx]; exact h1)).mono ?_
  rw [hx, hy]
  rintro e w1 ⟨rfl, hM1, hB1⟩
  have HM1 := hide hM1
  have HB1 := hide (HB0.out.trans hB1)
  clear hM1 hB1
  go_wp2
  refine end0 rfl rfl ?_
  refine ⟨rfl, ⟨_, HM1.out, ?_⟩, HB1.out⟩
  rw [HQ.out]
  by_cases hs : y.size + x.size ≤ 2000
  · rw [if_pos hs, if_pos hs]
    exact ⟨rfl, HR.out.push _, by simp, hp, rfl, rfl⟩
  · rw [if_neg hs, if_neg hs]
    exact ⟨rfl, rfl⟩

set_option maxHeartbeats 2000000 in
set_option maxRecDepth 1000000 in
theorem perf3 (b : Nat) (cv : Value) (m : Mst) (n here : Nat) (t : ByteArray) (x : ByteArray) (r : List ByteArray) (w : World) (hM : MAt w b cv m) (hR : Rep m.S (x :: r)) (hz : m.size = (x :: r).length) (hl : (x :: r).length ≤ 50) (hp : m.place = here + 1) (h1 : x.size ≤ 2000) :
    Calls Tryd.prog 45 #[.pointer (some ⟨b, 0, none⟩), .agg #[.int .i64 3, .string t, .int .i64 n], .int .i64 here] w fun e w' => e = .returned (.tuple #[]) ∧ (∃ m', MAt w' b cv m' ∧ After m m' (.inl (((if n < x.size then x.extract 0 n else x) :: r), (here + 1)))) ∧ Only b w w' := by
  have HM := hide hM
  have hx : m.S r.length = x := hR.1
  have HR := hide hR.2
  have hlt := hM.lt
  simp only [List.length_cons] at hl hz
  have HZ := hide hz
  have hi0 : (w.alloc (.cells #[.int .i64 3, .string t, .int .i64 n] 67)).cell? ⟨w.heap.size, 2, none⟩ = some (.int .i64 n) := by simp
  have HI0 := hide hi0
  have HM0 := hide (HM.out.al (.cells #[.int .i64 3, .string t, .int .i64 n] 67))
  have HB0 := hide ((Only.refl b w).al (.cells #[.int .i64 3, .string t, .int .i64 n] 67))
  have hs0 : w.heap.size < (w.alloc (.cells #[.int .i64 3, .string t, .int .i64 n] 67)).heap.size := by simp
  clear hM hR hi0
  obtain ⟨R, hRes⟩ : ∃ R : Res, R = (.inl (((if n < x.size then x.extract 0 n else x) :: r), (here + 1))) := ⟨_, rfl⟩
  rw [← hRes]
  have HQ := hide hRes
  clear hRes
  go_enter Tryd.func45, Tryd.ntmps45
  have HN0 := hide (Only.refl b (w.alloc (.cells #[.int .i64 3, .string t, .int .i64 n] 67)))
  go_wp2_with fail
  refine (take_is b cv m r.length x _ ?_ HZ.out (by omega) hx).mono ?_
  · exact HM0.out
  rintro e w1 ⟨rfl, hM1, hB1⟩
  have HM1 := hide hM1
  have HN1 : Hid (Only b (w.alloc (.cells #[.int .i64 3, .string t, .int .i64 n] 67)) w1) := Only.trans (by repeat (first | exact HN0.out | exact Only.refl _ _ | apply Only.drew)) hB1
  clear hM1 hB1
  have i1 : w1.cell? ⟨w.heap.size, 2, none⟩ = some (.int .i64 n) := (HN1.out.cell w.heap.size 2 hs0 (by omega)).trans HI0.out
  by_cases hn : (n : Int) < (x.size : Int)
  · rw [if_pos (by omega)] at HQ
    have HV : Hid (x.extract 0 (min (n : Int) (x.size : Int)).toNat = x.extract 0 n) := by
      show x.extract 0 (min (n : Int) (x.size : Int)).toNat = x.extract 0 n
      rw [show (min (n : Int) (x.size : Int)).toNat = n by omega]
    go_wp2_with fail
    go_region_with (go_at_call 35; refine (put_any b cv { m with size := r.length } _ _ ?_ (by simp; omega)).mono ?_; (first | exact HM1.out | exact HM1.out.drew | exact HM1.out.drew.drew | exact HM1.out.drew.drew.drew); rintro e w2 ⟨rfl, hM2, hB2⟩; have HM2 := hide hM2; have HN2 : Hid (Only b (w.alloc (.cells #[.int .i64 3, .string t, .int .i64 n] 67)) w2) := Only.trans (by repeat (first | exact HN1.out | exact Only.refl _ _ | apply Only.drew)) hB2; clear hM2 hB2)
    all_goals
      go_wp2
      refine end0 rfl rfl ?_
      exact ⟨rfl, ⟨_, HM2.out, by rw [HQ.out]; exact ⟨rfl, HR.out.push' HV.out, by simp, hp, rfl, rfl⟩⟩, HB0.out.trans HN2.out⟩
  · rw [if_neg (by omega)] at HQ
    have HV : Hid (x.extract 0 (min (n : Int) (x.size : Int)).toNat = x) := by
      show x.extract 0 (min (n : Int) (x.size : Int)).toNat = x
      rw [show (min (n : Int) (x.size : Int)).toNat = x.size by omega]
      simp
    go_wp2_with fail
    go_region_with (go_at_call 35; refine (put_any b cv { m with size := r.length } _ _ ?_ (by simp; omega)).mono ?_; (first | exact HM1.out | exact HM1.out.drew | exact HM1.out.drew.drew | exact HM1.out.drew.drew.drew); rintro e w2 ⟨rfl, hM2, hB2⟩; have HM2 := hide hM2; have HN2 : Hid (Only b (w.alloc (.cells #[.int .i64 3, .string t, .int .i64 n] 67)) w2) := Only.trans (by repeat (first | exact HN1.out | exact Only.refl _ _ | apply Only.drew)) hB2; clear hM2 hB2)
    all_goals
      go_wp2
      refine end0 rfl rfl ?_
      exact ⟨rfl, ⟨_, HM2.out, by rw [HQ.out]; exact ⟨rfl, HR.out.push' HV.out, by simp, hp, rfl, rfl⟩⟩, HB0.out.trans HN2.out⟩

set_option maxHeartbeats 2000000 in
set_option maxRecDepth 1000000 in
theorem perf4 (b : Nat) (cv : Value) (m : Mst) (n here : Nat) (t : ByteArray) (x : ByteArray) (r : List ByteArray) (w : World) (hM : MAt w b cv m) (hR : Rep m.S (x :: r)) (hz : m.size = (x :: r).length) (hl : (x :: r).length ≤ 50) (hp : m.place = here + 1) (h1 : x.size ≤ 2000) :
    Calls Tryd.prog 45 #[.pointer (some ⟨b, 0, none⟩), .agg #[.int .i64 4, .string t, .int .i64 n], .int .i64 here] w fun e w' => e = .returned (.tuple #[]) ∧ (∃ m', MAt w' b cv m' ∧ After m m' (.inl (((if n < x.size then x.extract n x.size else ⟨#[]⟩) :: r), (here + 1)))) ∧ Only b w w' := by
  have HM := hide hM
  have hx : m.S r.length = x := hR.1
  have HR := hide hR.2
  have hlt := hM.lt
  simp only [List.length_cons] at hl hz
  have HZ := hide hz
  have hi0 : (w.alloc (.cells #[.int .i64 4, .string t, .int .i64 n] 67)).cell? ⟨w.heap.size, 2, none⟩ = some (.int .i64 n) := by simp
  have HI0 := hide hi0
  have HM0 := hide (HM.out.al (.cells #[.int .i64 4, .string t, .int .i64 n] 67))
  have HB0 := hide ((Only.refl b w).al (.cells #[.int .i64 4, .string t, .int .i64 n] 67))
  have hs0 : w.heap.size < (w.alloc (.cells #[.int .i64 4, .string t, .int .i64 n] 67)).heap.size := by simp
  clear hM hR hi0
  obtain ⟨R, hRes⟩ : ∃ R : Res, R = (.inl (((if n < x.size then x.extract n x.size else ⟨#[]⟩) :: r), (here + 1))) := ⟨_, rfl⟩
  rw [← hRes]
  have HQ := hide hRes
  clear hRes
  go_enter Tryd.func45, Tryd.ntmps45
  have HN0 := hide (Only.refl b (w.alloc (.cells #[.int .i64 4, .string t, .int .i64 n] 67)))
  go_wp2_with fail
  refine (take_is b cv m r.length x _ ?_ HZ.out (by omega) hx).mono ?_
  · exact HM0.out
  rintro e w1 ⟨rfl, hM1, hB1⟩
  have HM1 := hide hM1
  have HN1 : Hid (Only b (w.alloc (.cells #[.int .i64 4, .string t, .int .i64 n] 67)) w1) := Only.trans (by repeat (first | exact HN0.out | exact Only.refl _ _ | apply Only.drew)) hB1
  clear hM1 hB1
  have i1 : w1.cell? ⟨w.heap.size, 2, none⟩ = some (.int .i64 n) := (HN1.out.cell w.heap.size 2 hs0 (by omega)).trans HI0.out
  by_cases hn : (n : Int) < (x.size : Int)
  · rw [if_pos (by omega)] at HQ
    have HV : Hid (x.extract (min (n : Int) (x.size : Int)).toNat x.size = x.extract n x.size) := by
      show x.extract (min (n : Int) (x.size : Int)).toNat x.size = x.extract n x.size
      rw [show (min (n : Int) (x.size : Int)).toNat = n by omega]
    go_wp2_with fail
    go_region_with (go_at_call 35; refine (put_any b cv { m with size := r.length } _ _ ?_ (by simp; omega)).mono ?_; (first | exact HM1.out | exact HM1.out.drew | exact HM1.out.drew.drew | exact HM1.out.drew.drew.drew); rintro e w2 ⟨rfl, hM2, hB2⟩; have HM2 := hide hM2; have HN2 : Hid (Only b (w.alloc (.cells #[.int .i64 4, .string t, .int .i64 n] 67)) w2) := Only.trans (by repeat (first | exact HN1.out | exact Only.refl _ _ | apply Only.drew)) hB2; clear hM2 hB2)
    all_goals
      go_wp2
      refine end0 rfl rfl ?_
      exact ⟨rfl, ⟨_, HM2.out, by rw [HQ.out]; exact ⟨rfl, HR.out.push' HV.out, by simp, hp, rfl, rfl⟩⟩, HB0.out.trans HN2.out⟩
  · rw [if_neg (by omega)] at HQ
    have HV : Hid (x.extract (min (n : Int) (x.size : Int)).toNat x.size = ⟨#[]⟩) := by
      show x.extract (min (n : Int) (x.size : Int)).toNat x.size = ⟨#[]⟩
      rw [show (min (n : Int) (x.size : Int)).toNat = x.size by omega]
      exact empty_of_size (by simp)
    go_wp2_with fail
    go_region_with (go_at_call 35; refine (put_any b cv { m with size := r.length } _ _ ?_ (by simp; omega)).mono ?_; (first | exact HM1.out | exact HM1.out.drew | exact HM1.out.drew.drew | exact HM1.out.drew.drew.drew); rintro e w2 ⟨rfl, hM2, hB2⟩; have HM2 := hide hM2; have HN2 : Hid (Only b (w.alloc (.cells #[.int .i64 4, .string t, .int .i64 n] 67)) w2) := Only.trans (by repeat (first | exact HN1.out | exact Only.refl _ _ | apply Only.drew)) hB2; clear hM2 hB2)
    all_goals
      go_wp2
      refine end0 rfl rfl ?_
      exact ⟨rfl, ⟨_, HM2.out, by rw [HQ.out]; exact ⟨rfl, HR.out.push' HV.out, by simp, hp, rfl, rfl⟩⟩, HB0.out.trans HN2.out⟩

set_option maxHeartbeats 2000000 in
set_option maxRecDepth 1000000 in
theorem perf5 (b : Nat) (cv : Value) (m : Mst) (n here : Nat) (t : ByteArray) (x : ByteArray) (r : List ByteArray) (w : World) (hM : MAt w b cv m) (hR : Rep m.S (x :: r)) (hz : m.size = (x :: r).length) (hl : (x :: r).length ≤ 50) (hp : m.place = here + 1) (h1 : x.size ≤ 2000) (hn : n ≤ 2000) :
    Calls Tryd.prog 45 #[.pointer (some ⟨b, 0, none⟩), .agg #[.int .i64 5, .string t, .int .i64 n], .int .i64 here] w fun e w' => e = .returned (.tuple #[]) ∧ (∃ m', MAt w' b cv m' ∧ After m m' (.inl ((wordT x n :: r), (here + 1)))) ∧ Only b w w' := by
  have HM := hide hM
  have hx : m.S r.length = x := hR.1
  have HR := hide hR.2
  have hlt := hM.lt
  simp only [List.length_cons] at hl hz
  have HZ := hide hz
  have hi0 : (w.alloc (.cells #[.int .i64 5, .string t, .int .i64 n] 67)).cell? ⟨w.heap.size, 2, none⟩ = some (.int .i64 n) := by simp
  have HI0 := hide hi0
  have HM0 := hide (HM.out.al (.cells #[.int .i64 5, .string t, .int .i64 n] 67))
  have HB0 := hide ((Only.refl b w).al (.cells #[.int .i64 5, .string t, .int .i64 n] 67))
  have hs0 : w.heap.size < (w.alloc (.cells #[.int .i64 5, .string t, .int .i64 n] 67)).heap.size := by simp
  clear hM hR hi0
  obtain ⟨R, hRes⟩ : ∃ R : Res, R = (.inl ((wordT x n :: r), (here + 1))) := ⟨_, rfl⟩
  rw [← hRes]
  have HQ := hide hRes
  clear hRes
  go_enter Tryd.func45, Tryd.ntmps45
  have HN0 := hide (Only.refl b (w.alloc (.cells #[.int .i64 5, .string t, .int .i64 n] 67)))
  go_wp2_with fail
  go_region_with (first
    | (go_at_call 48; refine (take_is b cv m r.length x _ ?_ HZ.out (by omega) hx).mono ?_; (first | exact HM0.out | exact HM0.out.drew | exact HM0.out.drew.drew | exact HM0.out.drew.drew.drew); rintro e w1 ⟨rfl, hM1, hB1⟩; have HM1 := hide hM1; have HN1 : Hid (Only b (w.alloc (.cells #[.int .i64 5, .string t, .int .i64 n] 67)) w1) := Only.trans (by repeat (first | exact HN0.out | exact Only.refl _ _ | apply Only.drew)) hB1; clear hM1 hB1; have i1 : w1.cell? ⟨w.heap.size, 2, none⟩ = some (.int .i64 n) := (HN1.out.cell w.heap.size 2 hs0 (by omega)).trans HI0.out)
    | (go_at_call 49; refine (wordOf_any x n _ h1 hn).mono ?_; rintro e w2 ⟨rfl, hB2⟩; have HM2 : Hid (MAt w2 b cv { m with size := r.length }) := MAt.bel (by first | exact HM1.out | exact HM1.out.drew | exact HM1.out.drew.drew | exact HM1.out.drew.drew.drew) hB2; have HN2 : Hid (Only b (w.alloc (.cells #[.int .i64 5, .string t, .int .i64 n] 67)) w2) := Only.bel (by repeat (first | exact HN1.out | apply Only.drew)) hB2; clear hB2)
    | (go_at_call 35; refine (put_any b cv { m with size := r.length } _ _ ?_ (by simp; omega)).mono ?_; (first | exact HM2.out | exact HM2.out.drew | exact HM2.out.drew.drew | exact HM2.out.drew.drew.drew); rintro e w3 ⟨rfl, hM3, hB3⟩; have HM3 := hide hM3; have HN3 : Hid (Only b (w.alloc (.cells #[.int .i64 5, .string t, .int .i64 n] 67)) w3) := Only.trans (by repeat (first | exact HN2.out | exact Only.refl _ _ | apply Only.drew)) hB3; clear hM3 hB3))
  all_goals
    go_wp2
    refine end0 rfl rfl ?_
    exact ⟨rfl, ⟨_, HM3.out, by rw [HQ.out]; exact ⟨rfl, HR.out.push _, by simp, hp, rfl, rfl⟩⟩, HB0.out.trans HN3.out⟩

set_option maxHeartbeats 2000000 in
set_option maxRecDepth 1000000 in
theorem perf6 (b : Nat) (cv : Value) (m : Mst) (n here : Nat) (t : ByteArray) (x y : ByteArray) (r : List ByteArray) (w : World) (hM : MAt w b cv m) (hR : Rep m.S (x :: y :: r)) (hz : m.size = (x :: y :: r).length) (hl : (x :: y :: r).length ≤ 50) (hp : m.place = here + 1) :
    Calls Tryd.prog 45 #[.pointer (some ⟨b, 0, none⟩), .agg #[.int .i64 6, .string t, .int .i64 n], .int .i64 here] w fun e w' => e = .returned (.tuple #[]) ∧ (∃ m', MAt w' b cv m' ∧ After m m' (.inl ((flagT (x.toList == y.toList) :: r), (here + 1)))) ∧ Only b w w' := by
  have HM := hide hM
  have hx : m.S (r.length + 1) = x := hR.1
  have hy : m.S r.length = y := hR.2.1
  have HR := hide hR.2.2
  have hlt := hM.lt
  simp only [List.length_cons] at hl hz
  have HZ := hide hz
  have hi0 : (w.alloc (.cells #[.int .i64 6, .string t, .int .i64 n] 67)).cell? ⟨w.heap.size, 2, none⟩ = some (.int .i64 n) := by simp
  have HI0 := hide hi0
  have HM0 := hide (HM.out.al (.cells #[.int .i64 6, .string t, .int .i64 n] 67))
  have HB0 := hide ((Only.refl b w).al (.cells #[.int .i64 6, .string t, .int .i64 n] 67))
  have hs0 : w.heap.size < (w.alloc (.cells #[.int .i64 6, .string t, .int .i64 n] 67)).heap.size := by simp
  clear hM hR hi0
  obtain ⟨R, hRes⟩ : ∃ R : Res, R = (.inl ((flagT (x.toList == y.toList) :: r), (here + 1))) := ⟨_, rfl⟩
  rw [← hRes]
  have HQ := hide hRes
  clear hRes
  go_enter Tryd.func45, Tryd.ntmps45
  have HN0 := hide (Only.refl b (w.alloc (.cells #[.int .i64 6, .string t, .int .i64 n] 67)))
  go_wp2_with fail
  go_region_with (first
    | (go_at_call 48; refine (take_is b cv m (r.length + 1) x _ ?_ HZ.out (by omega) hx).mono ?_; (first | exact HM0.out | exact HM0.out.drew | exact HM0.out.drew.drew | exact HM0.out.drew.drew.drew); rintro e w1 ⟨rfl, hM1, hB1⟩; have HM1 := hide hM1; have HN1 : Hid (Only b (w.alloc (.cells #[.int .i64 6, .string t, .int .i64 n] 67)) w1) := Only.trans (by repeat (first | exact HN0.out | exact Only.refl _ _ | apply Only.drew)) hB1; clear hM1 hB1)
    | (go_at_call 48; refine (take_is b cv { m with size := r.length + 1 } r.length y _ ?_ rfl (by omega) hy).mono ?_; (first | exact HM1.out | exact HM1.out.drew | exact HM1.out.drew.drew | exact HM1.out.drew.drew.drew); rintro e w2 ⟨rfl, hM2, hB2⟩; have HM2 := hide hM2; have HN2 : Hid (Only b (w.alloc (.cells #[.int .i64 6, .string t, .int .i64 n] 67)) w2) := Only.trans (by repeat (first | exact HN1.out | exact Only.refl _ _ | apply Only.drew)) hB2; clear hM2 hB2)
    | (go_at_call 36; refine (truth_any _ _).mono ?_; rintro e w3 ⟨rfl, hw3⟩; subst hw3)
    | (go_at_call 35; refine (put_any b cv { m with size := r.length } _ _ ?_ (by simp; omega)).mono ?_; (first | exact HM2.out | exact HM2.out.drew | exact HM2.out.drew.drew | exact HM2.out.drew.drew.drew); rintro e w4 ⟨rfl, hM4, hB4⟩; have HM4 := hide hM4; have HN4 : Hid (Only b (w.alloc (.cells #[.int .i64 6, .string t, .int .i64 n] 67)) w4) := Only.trans (by repeat (first | exact HN2.out | exact Only.refl _ _ | apply Only.drew)) hB4; clear hM4 hB4))
  all_goals
    go_wp2
    refine end0 rfl rfl ?_
    exact ⟨rfl, ⟨_, HM4.out, by rw [HQ.out]; exact ⟨rfl, HR.out.push _, by simp, hp, rfl, rfl⟩⟩, HB0.out.trans HN4.out⟩

set_option maxHeartbeats 2000000 in
set_option maxRecDepth 1000000 in
theorem perf7 (b : Nat) (cv : Value) (m : Mst) (n here : Nat) (t : ByteArray) (x : ByteArray) (r : List ByteArray) (w : World) (hM : MAt w b cv m) (hR : Rep m.S (x :: r)) (hz : m.size = (x :: r).length) (hl : (x :: r).length ≤ 50) (hp : m.place = here + 1) (hl2 : r.length + 2 ≤ 50) :
    Calls Tryd.prog 45 #[.pointer (some ⟨b, 0, none⟩), .agg #[.int .i64 7, .string t, .int .i64 n], .int .i64 here] w fun e w' => e = .returned (.tuple #[]) ∧ (∃ m', MAt w' b cv m' ∧ After m m' (.inl ((x :: x :: r), (here + 1)))) ∧ Only b w w' := by
  have HM := hide hM
  have hx : m.S r.length = x := hR.1
  have HR := hide hR.2
  have hlt := hM.lt
  simp only [List.length_cons] at hl hz
  have HZ := hide hz
  have hi0 : (w.alloc (.cells #[.int .i64 7, .string t, .int .i64 n] 67)).cell? ⟨w.heap.size, 2, none⟩ = some (.int .i64 n) := by simp
  have HI0 := hide hi0
  have HM0 := hide (HM.out.al (.cells #[.int .i64 7, .string t, .int .i64 n] 67))
  have HB0 := hide ((Only.refl b w).al (.cells #[.int .i64 7, .string t, .int .i64 n] 67))
  have hs0 : w.heap.size < (w.alloc (.cells #[.int .i64 7, .string t, .int .i64 n] 67)).heap.size := by simp
  clear hM hR hi0
  obtain ⟨R, hRes⟩ : ∃ R : Res, R = (.inl ((x :: x :: r), (here + 1))) := ⟨_, rfl⟩
  rw [← hRes]
  have HQ := hide hRes
  clear hRes
  go_enter Tryd.func45, Tryd.ntmps45
  have HN0 := hide (Only.refl b (w.alloc (.cells #[.int .i64 7, .string t, .int .i64 n] 67)))
  go_wp2_with fail
  refine (take_is b cv m r.length x _ ?_ HZ.out (by omega) hx).mono ?_
  · exact HM0.out
  rintro e w1 ⟨rfl, hM1, hB1⟩
  have HM1 := hide hM1
  have HN1 : Hid (Only b (w.alloc (.cells #[.int .i64 7, .string t, .int .i64 n] 67)) w1) := Only.trans (by repeat (first | exact HN0.out | exact Only.refl _ _ | apply Only.drew)) hB1
  clear hM1 hB1
  go_wp2_with fail
  refine (put_any b cv { m with size := r.length } x _ ?_ (by simp; omega)).mono ?_
  · exact HM1.out
  rintro e w2 ⟨rfl, hM2, hB2⟩
  have HM2 := hide hM2
  have HN2 : Hid (Only b (w.alloc (.cells #[.int .i64 7, .string t, .int .i64 n] 67)) w2) := Only.trans (by repeat (first | exact HN1.out | exact Only.refl _ _ | apply Only.drew)) hB2
  clear hM2 hB2
  go_wp2_with fail
  refine (put_any b cv { m with S := upd m.S r.length x, size := r.length + 1 } x _ ?_ (by simp; omega)).mono ?_
  · exact HM2.out
  rintro e w3 ⟨rfl, hM3, hB3⟩
  have HM3 := hide hM3
  have HN3 : Hid (Only b (w.alloc (.cells #[.int .i64 7, .string t, .int .i64 n] 67)) w3) := Only.trans (by repeat (first | exact HN2.out | exact Only.refl _ _ | apply Only.drew)) hB3
  clear hM3 hB3
  go_wp2
  refine end0 rfl rfl ?_
  exact ⟨rfl, ⟨_, HM3.out, by rw [HQ.out]; exact ⟨rfl, (HR.out.push x).push x, by simp, hp, rfl, rfl⟩⟩, HB0.out.trans HN3.out⟩

set_option maxHeartbeats 2000000 in
set_option maxRecDepth 1000000 in
theorem perf8 (b : Nat) (cv : Value) (m : Mst) (n here : Nat) (t : ByteArray) (x y : ByteArray) (r : List ByteArray) (w : World) (hM : MAt w b cv m) (hR : Rep m.S (x :: y :: r)) (hz : m.size = (x :: y :: r).length) (hl : (x :: y :: r).length ≤ 50) (hp : m.place = here + 1) :
    Calls Tryd.prog 45 #[.pointer (some ⟨b, 0, none⟩), .agg #[.int .i64 8, .string t, .int .i64 n], .int .i64 here] w fun e w' => e = .returned (.tuple #[]) ∧ (∃ m', MAt w' b cv m' ∧ After m m' (.inl ((y :: x :: r), (here + 1)))) ∧ Only b w w' := by
  have HM := hide hM
  have hx : m.S (r.length + 1) = x := hR.1
  have hy : m.S r.length = y := hR.2.1
  have HR := hide hR.2.2
  have hlt := hM.lt
  simp only [List.length_cons] at hl hz
  have HZ := hide hz
  have hi0 : (w.alloc (.cells #[.int .i64 8, .string t, .int .i64 n] 67)).cell? ⟨w.heap.size, 2, none⟩ = some (.int .i64 n) := by simp
  have HI0 := hide hi0
  have HM0 := hide (HM.out.al (.cells #[.int .i64 8, .string t, .int .i64 n] 67))
  have HB0 := hide ((Only.refl b w).al (.cells #[.int .i64 8, .string t, .int .i64 n] 67))
  have hs0 : w.heap.size < (w.alloc (.cells #[.int .i64 8, .string t, .int .i64 n] 67)).heap.size := by simp
  clear hM hR hi0
  obtain ⟨R, hRes⟩ : ∃ R : Res, R = (.inl ((y :: x :: r), (here + 1))) := ⟨_, rfl⟩
  rw [← hRes]
  have HQ := hide hRes
  clear hRes
  go_enter Tryd.func45, Tryd.ntmps45
  have HN0 := hide (Only.refl b (w.alloc (.cells #[.int .i64 8, .string t, .int .i64 n] 67)))
  go_wp2_with fail
  refine (take_is b cv m (r.length + 1) x _ ?_ HZ.out (by omega) hx).mono ?_
  · exact HM0.out
  rintro e w1 ⟨rfl, hM1, hB1⟩
  have HM1 := hide hM1
  have HN1 : Hid (Only b (w.alloc (.cells #[.int .i64 8, .string t, .int .i64 n] 67)) w1) := Only.trans (by repeat (first | exact HN0.out | exact Only.refl _ _ | apply Only.drew)) hB1
  clear hM1 hB1
  go_wp2_with fail
  refine (take_is b cv { m with size := r.length + 1 } r.length y _ ?_ rfl (by omega) hy).mono ?_
  · exact HM1.out
  rintro e w2 ⟨rfl, hM2, hB2⟩
  have HM2 := hide hM2
  have HN2 : Hid (Only b (w.alloc (.cells #[.int .i64 8, .string t, .int .i64 n] 67)) w2) := Only.trans (by repeat (first | exact HN1.out | exact Only.refl _ _ | apply Only.drew)) hB2
  clear hM2 hB2
  go_wp2_with fail
  refine (put_any b cv { m with size := r.length } x _ ?_ (by simp; omega)).mono ?_
  · exact HM2.out
  rintro e w3 ⟨rfl, hM3, hB3⟩
  have HM3 := hide hM3
  have HN3 : Hid (Only b (w.alloc (.cells #[.int .i64 8, .string t, .int .i64 n] 67)) w3) := Only.trans (by repeat (first | exact HN2.out | exact Only.refl _ _ | apply Only.drew)) hB3
  clear hM3 hB3
  go_wp2_with fail
  refine (put_any b cv { m with S := upd m.S r.length x, size := r.length + 1 } y _ ?_ (by simp; omega)).mono ?_
  · exact HM3.out
  rintro e w4 ⟨rfl, hM4, hB4⟩
  have HM4 := hide hM4
  have HN4 : Hid (Only b (w.alloc (.cells #[.int .i64 8, .string t, .int .i64 n] 67)) w4) := Only.trans (by repeat (first | exact HN3.out | exact Only.refl _ _ | apply Only.drew)) hB4
  clear hM4 hB4
  go_wp2
  refine end0 rfl rfl ?_
  exact ⟨rfl, ⟨_, HM4.out, by rw [HQ.out]; exact ⟨rfl, (HR.out.push x).push y, by simp, hp, rfl, rfl⟩⟩, HB0.out.trans HN4.out⟩

set_option maxHeartbeats 2000000 in
set_option maxRecDepth 1000000 in
theorem perf9 (b : Nat) (cv : Value) (m : Mst) (n here : Nat) (t : ByteArray) (x : ByteArray) (r : List ByteArray) (w : World) (hM : MAt w b cv m) (hR : Rep m.S (x :: r)) (hz : m.size = (x :: r).length) (hl : (x :: r).length ≤ 50) (hp : m.place = here + 1) :
    Calls Tryd.prog 45 #[.pointer (some ⟨b, 0, none⟩), .agg #[.int .i64 9, .string t, .int .i64 n], .int .i64 here] w fun e w' => e = .returned (.tuple #[]) ∧ (∃ m', MAt w' b cv m' ∧ After m m' (.inl (r, (here + 1)))) ∧ Only b w w' := by
  have HM := hide hM
  have hx : m.S r.length = x := hR.1
  have HR := hide hR.2
  have hlt := hM.lt
  simp only [List.length_cons] at hl hz
  have HZ := hide hz
  have hi0 : (w.alloc (.cells #[.int .i64 9, .string t, .int .i64 n] 67)).cell? ⟨w.heap.size, 2, none⟩ = some (.int .i64 n) := by simp
  have HI0 := hide hi0
  have HM0 := hide (HM.out.al (.cells #[.int .i64 9, .string t, .int .i64 n] 67))
  have HB0 := hide ((Only.refl b w).al (.cells #[.int .i64 9, .string t, .int .i64 n] 67))
  have hs0 : w.heap.size < (w.alloc (.cells #[.int .i64 9, .string t, .int .i64 n] 67)).heap.size := by simp
  clear hM hR hi0
  obtain ⟨R, hRes⟩ : ∃ R : Res, R = (.inl (r, (here + 1))) := ⟨_, rfl⟩
  rw [← hRes]
  have HQ := hide hRes
  clear hRes
  go_enter Tryd.func45, Tryd.ntmps45
  have HN0 := hide (Only.refl b (w.alloc (.cells #[.int .i64 9, .string t, .int .i64 n] 67)))
  go_wp2_with fail
  refine (take_is b cv m r.length x _ ?_ HZ.out (by omega) hx).mono ?_
  · exact HM0.out
  rintro e w1 ⟨rfl, hM1, hB1⟩
  have HM1 := hide hM1
  have HN1 : Hid (Only b (w.alloc (.cells #[.int .i64 9, .string t, .int .i64 n] 67)) w1) := Only.trans (by repeat (first | exact HN0.out | exact Only.refl _ _ | apply Only.drew)) hB1
  clear hM1 hB1
  go_wp2
  refine end0 rfl rfl ?_
  exact ⟨rfl, ⟨_, HM1.out, by rw [HQ.out]; exact ⟨rfl, HR.out, rfl, hp, rfl, rfl⟩⟩, HB0.out.trans HN1.out⟩

set_option maxHeartbeats 2000000 in
set_option maxRecDepth 1000000 in
theorem perf10 (b : Nat) (cv : Value) (m : Mst) (n here : Nat) (t : ByteArray) (stk : List ByteArray) (w : World) (hM : MAt w b cv m) (hR : Rep m.S (stk)) (hz : m.size = (stk).length) :
    Calls Tryd.prog 45 #[.pointer (some ⟨b, 0, none⟩), .agg #[.int .i64 10, .string t, .int .i64 n], .int .i64 here] w fun e w' => e = .returned (.tuple #[]) ∧ (∃ m', MAt w' b cv m' ∧ After m m' (.inl (stk, n))) ∧ Only b w w' := by
  have HM := hide hM
  have HR := hide hR
  have hlt := hM.lt
  have HZ := hide hz
  have hi0 : (w.alloc (.cells #[.int .i64 10, .string t, .int .i64 n] 67)).cell? ⟨w.heap.size, 2, none⟩ = some (.int .i64 n) := by simp
  have HI0 := hide hi0
  have HM0 := hide (HM.out.al (.cells #[.int .i64 10, .string t, .int .i64 n] 67))
  have HB0 := hide ((Only.refl b w).al (.cells #[.int .i64 10, .string t, .int .i64 n] 67))
  have hs0 : w.heap.size < (w.alloc (.cells #[.int .i64 10, .string t, .int .i64 n] 67)).heap.size := by simp
  clear hM hR hi0
  obtain ⟨R, hRes⟩ : ∃ R : Res, R = (.inl (stk, n)) := ⟨_, rfl⟩
  rw [← hRes]
  have HQ := hide hRes
  clear hRes
  go_enter Tryd.func45, Tryd.ntmps45
  obtain ⟨c2, z2⟩ := HM.out.fld 52 (.int .i64 m.place) (by omega) (by simp [Mst.F])
  go_wp2
  refine end0 rfl rfl ?_
  exact ⟨rfl, ⟨_, (HM.out.setPlace _).al _, by rw [HQ.out]; exact ⟨rfl, HR.out, HZ.out, rfl, rfl, rfl⟩⟩, (bset (Only.refl _ _) _ _).al _⟩

set_option maxHeartbeats 2000000 in
set_option maxRecDepth 1000000 in
theorem perf11 (b : Nat) (cv : Value) (m : Mst) (n here : Nat) (t : ByteArray) (x : ByteArray) (r : List ByteArray) (w : World) (hM : MAt w b cv m) (hR : Rep m.S (x :: r)) (hz : m.size = (x :: r).length) (hl : (x :: r).length ≤ 50) (hp : m.place = here + 1) :
    Calls Tryd.prog 45 #[.pointer (some ⟨b, 0, none⟩), .agg #[.int .i64 11, .string t, .int .i64 n], .int .i64 here] w fun e w' => e = .returned (.tuple #[]) ∧ (∃ m', MAt w' b cv m' ∧ After m m' (.inl (r, (if x.toList = [] ∨ (x.toList == [48]) = true then n else here + 1)))) ∧ Only b w w' := by
  have HM := hide hM
  have hx : m.S r.length = x := hR.1
  have HR := hide hR.2
  have hlt := hM.lt
  simp only [List.length_cons] at hl hz
  have HZ := hide hz
  have hi0 : (w.alloc (.cells #[.int .i64 11, .string t, .int .i64 n] 67)).cell? ⟨w.heap.size, 2, none⟩ = some (.int .i64 n) := by simp
  have HI0 := hide hi0
  have HM0 := hide (HM.out.al (.cells #[.int .i64 11, .string t, .int .i64 n] 67))
  have HB0 := hide ((Only.refl b w).al (.cells #[.int .i64 11, .string t, .int .i64 n] 67))
  have hs0 : w.heap.size < (w.alloc (.cells #[.int .i64 11, .string t, .int .i64 n] 67)).heap.size := by simp
  clear hM hR hi0
  obtain ⟨R, hRes⟩ : ∃ R : Res, R = (.inl (r, (if x.toList = [] ∨ (x.toList == [48]) = true then n else here + 1))) := ⟨_, rfl⟩
  rw [← hRes]
  have HQ := hide hRes
  clear hRes
  go_enter Tryd.func45, Tryd.ntmps45
  have HN0 := hide (Only.refl b (w.alloc (.cells #[.int .i64 11, .string t, .int .i64 n] 67)))
  go_wp2_with fail
  refine (take_is b cv m r.length x _ ?_ HZ.out (by omega) hx).mono ?_
  · exact HM0.out
  rintro e w1 ⟨rfl, hM1, hB1⟩
  have HM1 := hide hM1
  have HN1 : Hid (Only b (w.alloc (.cells #[.int .i64 11, .string t, .int .i64 n] 67)) w1) := Only.trans (by repeat (first | exact HN0.out | exact Only.refl _ _ | apply Only.drew)) hB1
  clear hM1 hB1
  have i1 : w1.cell? ⟨w.heap.size, 2, none⟩ = some (.int .i64 n) := (HN1.out.cell w.heap.size 2 hs0 (by omega)).trans HI0.out
  obtain ⟨c2, z2⟩ := HM1.out.fld 52 (.int .i64 m.place) (by omega) (by simp [Mst.F])
  by_cases he : x.toList = []
  · rw [if_pos (.inl he)] at HQ
    go_wp2
    refine end0 rfl rfl ?_
    exact ⟨rfl, ⟨_, HM1.out.setPlace _, by rw [HQ.out]; exact ⟨rfl, HR.out, rfl, rfl, rfl, rfl⟩⟩, bset (HB0.out.trans HN1.out) _ _⟩
  · have heb : x.toList.isEmpty = false := by simp [he]
    cases h48 : (x.toList == [48]) with
    | true =>
      rw [if_pos (.inr h48)] at HQ
      go_wp2
      refine end0 rfl rfl ?_
      exact ⟨rfl, ⟨_, HM1.out.setPlace _, by rw [HQ.out]; exact ⟨rfl, HR.out, rfl, rfl, rfl, rfl⟩⟩, bset (HB0.out.trans HN1.out) _ _⟩
    | false =>
      rw [if_neg (by simp [he, h48])] at HQ
      have h49 : ¬ x.toList = [48] := by simpa using h48
      go_wp2
      refine end0 rfl rfl ?_
      exact ⟨rfl, ⟨_, HM1.out, by rw [HQ.out]; exact ⟨rfl, HR.out, rfl, hp, rfl, rfl⟩⟩, HB0.out.trans HN1.out⟩

set_option maxHeartbeats 2000000 in
set_option maxRecDepth 1000000 in
theorem perf12 (b : Nat) (cv : Value) (m : Mst) (n here : Nat) (t : ByteArray) (x : ByteArray) (r : List ByteArray) (w : World) (hM : MAt w b cv m) (hR : Rep m.S (x :: r)) (hz : m.size = (x :: r).length) (hl : (x :: r).length ≤ 50) (hh : here ≤ 2000) (hP : Pow w) (hPb : 1 < b) (looks : Nat) (hlk : m.looks = looks) (hl2 : looks ≤ 200) :
    Calls Tryd.prog 45 #[.pointer (some ⟨b, 0, none⟩), .agg #[.int .i64 12, .string t, .int .i64 n], .int .i64 here] w fun e w' => e = .returned (.tuple #[]) ∧ (∃ m', MAt w' b cv m' ∧ After m m' (lookP true x r here looks)) ∧ Only b w w' := by
  have HM := hide hM
  have hx : m.S r.length = x := hR.1
  have HR := hide hR.2
  have hlt := hM.lt
  simp only [List.length_cons] at hl hz
  have HZ := hide hz
  have hi0 : (w.alloc (.cells #[.int .i64 12, .string t, .int .i64 n] 67)).cell? ⟨w.heap.size, 2, none⟩ = some (.int .i64 n) := by simp
  have HI0 := hide hi0
  have HM0 := hide (HM.out.al (.cells #[.int .i64 12, .string t, .int .i64 n] 67))
  have HB0 := hide ((Only.refl b w).al (.cells #[.int .i64 12, .string t, .int .i64 n] 67))
  have hs0 : w.heap.size < (w.alloc (.cells #[.int .i64 12, .string t, .int .i64 n] 67)).heap.size := by simp
  clear hM hR hi0
  obtain ⟨R, hRes⟩ : ∃ R : Res, R = (lookP true x r here looks) := ⟨_, rfl⟩
  rw [← hRes]
  have HQ := hide hRes
  clear hRes
  go_enter Tryd.func45, Tryd.ntmps45
  have HN0 := hide (Only.refl b (w.alloc (.cells #[.int .i64 12, .string t, .int .i64 n] 67)))
  have HP := hide hP
  clear hP
  go_wp2_with fail
  refine (look_any b cv m true r.length here _ HM0.out HZ.out (by omega) hh (by omega) (by omega) (HP.out.low (HB0.out.below (Nat.le_refl _) (Nat.le_of_lt hlt)) hPb) hPb).mono ?_
  rw [hx]
  rintro e w1 ⟨rfl, hM1, hB1⟩
  have HM1 := hide hM1
  have HB1 := hide (HB0.out.trans hB1)
  clear hM1 hB1
  go_wp2
  refine end0 rfl rfl ?_
  refine ⟨rfl, ⟨_, HM1.out, ?_⟩, HB1.out⟩
  rw [HQ.out]
  unfold lookP
  cases hn : nameOk x with
  | false =>
    rw [if_pos rfl, if_pos rfl]
    exact ⟨rfl, rfl⟩
  | true =>
    rw [if_neg (show ¬ (true = false) by simp), if_neg (show ¬ (true = false) by simp)]
    by_cases h200 : looks = 200
    · rw [if_pos (show m.looks = 200 by omega), if_pos h200]
      exact ⟨rfl, rfl⟩
    · rw [if_neg (show ¬ m.looks = 200 by omega), if_neg h200]
      exact ⟨rfl, HR.out, rfl, rfl, rfl, rfl⟩

set_option maxHeartbeats 2000000 in
set_option maxRecDepth 1000000 in
theorem perf13 (b : Nat) (cv : Value) (m : Mst) (n here : Nat) (t : ByteArray) (x : ByteArray) (r : List ByteArray) (w : World) (hM : MAt w b cv m) (hR : Rep m.S (x :: r)) (hz : m.size = (x :: r).length) (hl : (x :: r).length ≤ 50) (hh : here ≤ 2000) (hP : Pow w) (hPb : 1 < b) (looks : Nat) (hlk : m.looks = looks) (hl2 : looks ≤ 200) :
    Calls Tryd.prog 45 #[.pointer (some ⟨b, 0, none⟩), .agg #[.int .i64 13, .string t, .int .i64 n], .int .i64 here] w fun e w' => e = .returned (.tuple #[]) ∧ (∃ m', MAt w' b cv m' ∧ After m m' (lookP false x r here looks)) ∧ Only b w w' := by
  have HM := hide hM
  have hx : m.S r.length = x := hR.1
  have HR := hide hR.2
  have hlt := hM.lt
  simp only [List.length_cons] at hl hz
  have HZ := hide hz
  have hi0 : (w.alloc (.cells #[.int .i64 13, .string t, .int .i64 n] 67)).cell? ⟨w.heap.size, 2, none⟩ = some (.int .i64 n) := by simp
  have HI0 := hide hi0
  have HM0 := hide (HM.out.al (.cells #[.int .i64 13, .string t, .int .i64 n] 67))
  have HB0 := hide ((Only.refl b w).al (.cells #[.int .i64 13, .string t, .int .i64 n] 67))
  have hs0 : w.heap.size < (w.alloc (.cells #[.int .i64 13, .string t, .int .i64 n] 67)).heap.size := by simp
  clear hM hR hi0
  obtain ⟨R, hRes⟩ : ∃ R : Res, R = (lookP false x r here looks) := ⟨_, rfl⟩
  rw [← hRes]
  have HQ := hide hRes
  clear hRes
  go_enter Tryd.func45, Tryd.ntmps45
  have HN0 := hide (Only.refl b (w.alloc (.cells #[.int .i64 13, .string t, .int .i64 n] 67)))
  have HP := hide hP
  clear hP
  go_wp2_with fail
  refine (look_any b cv m false r.length here _ HM0.out HZ.out (by omega) hh (by omega) (by omega) (HP.out.low (HB0.out.below (Nat.le_refl _) (Nat.le_of_lt hlt)) hPb) hPb).mono ?_
  rw [hx]
  rintro e w1 ⟨rfl, hM1, hB1⟩
  have HM1 := hide hM1
  have HB1 := hide (HB0.out.trans hB1)
  clear hM1 hB1
  go_wp2
  refine end0 rfl rfl ?_
  refine ⟨rfl, ⟨_, HM1.out, ?_⟩, HB1.out⟩
  rw [HQ.out]
  unfold lookP
  cases hn : nameOk x with
  | false =>
    rw [if_pos rfl, if_pos rfl]
    exact ⟨rfl, rfl⟩
  | true =>
    rw [if_neg (show ¬ (true = false) by simp), if_neg (show ¬ (true = false) by simp)]
    by_cases h200 : looks = 200
    · rw [if_pos (show m.looks = 200 by omega), if_pos h200]
      exact ⟨rfl, rfl⟩
    · rw [if_neg (show ¬ m.looks = 200 by omega), if_neg h200]
      exact ⟨rfl, HR.out, rfl, rfl, rfl, rfl⟩

set_option maxHeartbeats 2000000 in
set_option maxRecDepth 1000000 in
theorem perf14 (b : Nat) (cv : Value) (m : Mst) (n here : Nat) (t : ByteArray) (x : ByteArray) (r : List ByteArray) (w : World) (hM : MAt w b cv m) (hR : Rep m.S (x :: r)) (hz : m.size = (x :: r).length) (hl : (x :: r).length ≤ 50) :
    Calls Tryd.prog 45 #[.pointer (some ⟨b, 0, none⟩), .agg #[.int .i64 14, .string t, .int .i64 n], .int .i64 here] w fun e w' => e = .returned (.tuple #[]) ∧ (∃ m', MAt w' b cv m' ∧ After m m' (.inr (.inl (1, x)))) ∧ Only b w w' := by
  have HM := hide hM
  have hx : m.S r.length = x := hR.1
  have HR := hide hR.2
  have hlt := hM.lt
  simp only [List.length_cons] at hl hz
  have HZ := hide hz
  have hi0 : (w.alloc (.cells #[.int .i64 14, .string t, .int .i64 n] 67)).cell? ⟨w.heap.size, 2, none⟩ = some (.int .i64 n) := by simp
  have HI0 := hide hi0
  have HM0 := hide (HM.out.al (.cells #[.int .i64 14, .string t, .int .i64 n] 67))
  have HB0 := hide ((Only.refl b w).al (.cells #[.int .i64 14, .string t, .int .i64 n] 67))
  have hs0 : w.heap.size < (w.alloc (.cells #[.int .i64 14, .string t, .int .i64 n] 67)).heap.size := by simp
  clear hM hR hi0
  obtain ⟨R, hRes⟩ : ∃ R : Res, R = (.inr (.inl (1, x))) := ⟨_, rfl⟩
  rw [← hRes]
  have HQ := hide hRes
  clear hRes
  go_enter Tryd.func45, Tryd.ntmps45
  have HN0 := hide (Only.refl b (w.alloc (.cells #[.int .i64 14, .string t, .int .i64 n] 67)))
  go_wp2_with fail
  refine (take_is b cv m r.length x _ ?_ HZ.out (by omega) hx).mono ?_
  · exact HM0.out
  rintro e w1 ⟨rfl, hM1, hB1⟩
  have HM1 := hide hM1
  have HN1 : Hid (Only b (w.alloc (.cells #[.int .i64 14, .string t, .int .i64 n] 67)) w1) := Only.trans (by repeat (first | exact HN0.out | exact Only.refl _ _ | apply Only.drew)) hB1
  clear hM1 hB1
  go_wp2_with fail
  refine (end_any b cv { m with size := r.length } _ _ _ ?_).mono ?_
  · exact HM1.out
  rintro e w2 ⟨rfl, hM2, hB2⟩
  have HM2 := hide hM2
  have HN2 : Hid (Only b (w.alloc (.cells #[.int .i64 14, .string t, .int .i64 n] 67)) w2) := Only.trans (by repeat (first | exact HN1.out | exact Only.refl _ _ | apply Only.drew)) hB2
  clear hM2 hB2
  go_wp2
  refine end0 rfl rfl ?_
  exact ⟨rfl, ⟨_, HM2.out, by rw [HQ.out]; exact ⟨rfl, rfl⟩⟩, HB0.out.trans HN2.out⟩

set_option maxHeartbeats 2000000 in
set_option maxRecDepth 1000000 in
theorem perf15 (b : Nat) (cv : Value) (m : Mst) (n here : Nat) (t : ByteArray) (x : ByteArray) (r : List ByteArray) (w : World) (hM : MAt w b cv m) (hR : Rep m.S (x :: r)) (hz : m.size = (x :: r).length) (hl : (x :: r).length ≤ 50) :
    Calls Tryd.prog 45 #[.pointer (some ⟨b, 0, none⟩), .agg #[.int .i64 15, .string t, .int .i64 n], .int .i64 here] w fun e w' => e = .returned (.tuple #[]) ∧ (∃ m', MAt w' b cv m' ∧ After m m' (.inr (.inl (0, x)))) ∧ Only b w w' := by
  have HM := hide hM
  have hx : m.S r.length = x := hR.1
  have HR := hide hR.2
  have hlt := hM.lt
  simp only [List.length_cons] at hl hz
  have HZ := hide hz
  have hi0 : (w.alloc (.cells #[.int .i64 15, .string t, .int .i64 n] 67)).cell? ⟨w.heap.size, 2, none⟩ = some (.int .i64 n) := by simp
  have HI0 := hide hi0
  have HM0 := hide (HM.out.al (.cells #[.int .i64 15, .string t, .int .i64 n] 67))
  have HB0 := hide ((Only.refl b w).al (.cells #[.int .i64 15, .string t, .int .i64 n] 67))
  have hs0 : w.heap.size < (w.alloc (.cells #[.int .i64 15, .string t, .int .i64 n] 67)).heap.size := by simp
  clear hM hR hi0
  obtain ⟨R, hRes⟩ : ∃ R : Res, R = (.inr (.inl (0, x))) := ⟨_, rfl⟩
  rw [← hRes]
  have HQ := hide hRes
  clear hRes
  go_enter Tryd.func45, Tryd.ntmps45
  have HN0 := hide (Only.refl b (w.alloc (.cells #[.int .i64 15, .string t, .int .i64 n] 67)))
  go_wp2_with fail
  refine (take_is b cv m r.length x _ ?_ HZ.out (by omega) hx).mono ?_
  · exact HM0.out
  rintro e w1 ⟨rfl, hM1, hB1⟩
  have HM1 := hide hM1
  have HN1 : Hid (Only b (w.alloc (.cells #[.int .i64 15, .string t, .int .i64 n] 67)) w1) := Only.trans (by repeat (first | exact HN0.out | exact Only.refl _ _ | apply Only.drew)) hB1
  clear hM1 hB1
  go_wp2_with fail
  refine (end_any b cv { m with size := r.length } _ _ _ ?_).mono ?_
  · exact HM1.out
  rintro e w2 ⟨rfl, hM2, hB2⟩
  have HM2 := hide hM2
  have HN2 : Hid (Only b (w.alloc (.cells #[.int .i64 15, .string t, .int .i64 n] 67)) w2) := Only.trans (by repeat (first | exact HN1.out | exact Only.refl _ _ | apply Only.drew)) hB2
  clear hM2 hB2
  go_wp2
  refine end0 rfl rfl ?_
  exact ⟨rfl, ⟨_, HM2.out, by rw [HQ.out]; exact ⟨rfl, rfl⟩⟩, HB0.out.trans HN2.out⟩

end Go.Proofs.YtfhdecheaeoopaaDoor.Vp

/-
  step: one instruction begun.
-/
namespace Go.Proofs.YtfhdecheaeoopaaDoor.Vp
open Go.RowKit

def bearsP (op : Nat) (stk : List ByteArray) : Bool := decide (takesOf op ≤ stk.length ∧ stk.length - takesOf op + putsOf op ≤ 50)
def stepP (f : Nat → Ins) (cnt place steps looks : Nat) (stk : List ByteArray) : Res :=
  if cnt ≤ place then .inr (.inl (2, (decT place))) else if steps = 2000 then .inr (.inl (3, ⟨#[]⟩)) else
    if bearsP (f place).op.toNat stk = false then .inr (.inl (2, (decT place))) else performP (f place).op.toNat (f place).n.toNat (f place).s place looks stk
def stepN (cnt place steps : Nat) : Nat := if cnt ≤ place then steps else if steps = 2000 then steps else steps + 1

theorem MAt.qN {w : World} {b : Nat} {cv : Value} {m : Mst} (h : MAt w b cv m) (n : Nat) : MAt (w.drewN n) b cv m := h.bel (below_drewN (Below.refl _ _) n)
theorem Only.qN {b : Nat} {u w : World} (h : Only b u w) (n : Nat) : Only b u (w.drewN n) := h.bel (below_drewN (Below.refl _ _) n)
theorem perform_any (b : Nat) (cv : Value) (m : Mst) (op n here looks : Nat) (t : ByteArray) (stk : List ByteArray) (w : World) (hM : MAt w b cv m) (hR : Rep m.S stk) (hz : m.size = stk.length) (hl : stk.length ≤ 50) (hp : m.place = here + 1)
    (hle : ∀ x ∈ stk, x.size ≤ 2000) (hn : n ≤ 2000) (hh : here ≤ 2000) (hP : Pow w) (hPb : 1 < b) (hlk : m.looks = looks) (hl2 : looks ≤ 200) (h1 : 1 ≤ op) (h15 : op ≤ 15) (hb : bearsP op stk = true) :
    Calls Tryd.prog 45 #[.pointer (some ⟨b, 0, none⟩), .agg #[.int .i64 op, .string t, .int .i64 n], .int .i64 here] w fun e w' => e = .returned (.tuple #[]) ∧ (∃ m', MAt w' b cv m' ∧ After m m' (performP op n t here looks stk)) ∧ Only b w w' := by
  simp only [bearsP, decide_eq_true_eq] at hb
  obtain ⟨hb1, hb2⟩ := hb
  rcases (show op = 1 ∨ op = 2 ∨ op = 3 ∨ op = 4 ∨ op = 5 ∨ op = 6 ∨ op = 7 ∨ op = 8 ∨ op = 9 ∨ op = 10 ∨ op = 11 ∨ op = 12 ∨ op = 13 ∨ op = 14 ∨ op = 15 by omega) with rfl | rfl | rfl | rfl | rfl | rfl | rfl | rfl | rfl | rfl | rfl | rfl | rfl | rfl | rfl
  all_goals simp only [takesOf, putsOf] at hb1 hb2
  · exact perf1 b cv m n here t stk w hM hR hz hl hp (by simp at hb2; omega)
  · match stk, hb1 with
    | x :: y :: r, _ => exact perf2 b cv m n here t x y r w hM hR hz hl hp hh hP hPb (hle x (by simp)) (hle y (by simp))
  · match stk, hb1 with
    | x :: r, _ => exact perf3 b cv m n here t x r w hM hR hz hl hp (hle x (by simp))
  · match stk, hb1 with
    | x :: r, _ => exact perf4 b cv m n here t x r w hM hR hz hl hp (hle x (by simp))
  · match stk, hb1 with
    | x :: r, _ => exact perf5 b cv m n here t x r w hM hR hz hl hp (hle x (by simp)) hn
  · match stk, hb1 with
    | x :: y :: r, _ => exact perf6 b cv m n here t x y r w hM hR hz hl hp
  · match stk, hb1 with
    | x :: r, _ => exact perf7 b cv m n here t x r w hM hR hz hl hp (by simp at hb2; omega)
  · match stk, hb1 with
    | x :: y :: r, _ => exact perf8 b cv m n here t x y r w hM hR hz hl hp
  · match stk, hb1 with
    | x :: r, _ => exact perf9 b cv m n here t x r w hM hR hz hl hp
  · exact perf10 b cv m n here t stk w hM hR hz
  · match stk, hb1 with
    | x :: r, _ => exact perf11 b cv m n here t x r w hM hR hz hl hp
  · match stk, hb1 with
    | x :: r, _ => exact perf12 b cv m n here t x r w hM hR hz hl hh hP hPb looks hlk hl2
  · match stk, hb1 with
    | x :: r, _ => exact perf13 b cv m n here t x r w hM hR hz hl hh hP hPb looks hlk hl2
  · match stk, hb1 with
    | x :: r, _ => exact perf14 b cv m n here t x r w hM hR hz hl
  · match stk, hb1 with
    | x :: r, _ => exact perf15 b cv m n here t x r w hM hR hz hl

theorem bears_is (b : Nat) (cv : Value) (m : Mst) (op : Nat) (stk : List ByteArray) (w : World) (hM : MAt w b cv m) (hT : Tab2 w) (h1 : 1 ≤ op) (h2 : op ≤ 15) (hz : m.size = stk.length) (hl : stk.length ≤ 50) :
    Calls Tryd.prog 44 #[.pointer (some ⟨b, 0, none⟩), .int .i64 op] w fun e w' => e = .returned (.bool (bearsP op stk)) ∧ Below w.heap.size w w' := by
  have := bears_any b cv m op w hM hT (by omega) (by omega) (by omega)
  rw [hz] at this
  exact this

/-- What lies round the machine in block b: the program's row, the tables. -/
structure Env (w : World) (b pb po cnt : Nat) (f : Nat → Ins) : Prop where
  row : RowIns w pb po cnt f
  tab : Tab2 w
  pow : Pow w
  pbb : pb < b
  tbb : 0 < b
  pwb : 1 < b
theorem Env.below {w w' : World} {b pb po cnt : Nat} {f : Nat → Ins} (h : Env w b pb po cnt f) (hb : Below b w w') : Env w' b pb po cnt f :=
  ⟨⟨Nat.lt_of_lt_of_le h.row.1 hb.size, fun i hi => (h.row.2 i hi).below hb h.pbb⟩, h.tab.below hb h.tbb, h.pow.low hb h.pwb, h.pbb, h.tbb, h.pwb⟩
theorem Env.only {w w' : World} {b pb po cnt : Nat} {f : Nat → Ins} (h : Env w b pb po cnt f) (hl : b < w.heap.size) (hb : Only b w w') : Env w' b pb po cnt f := h.below (hb.below (Nat.le_refl _) (Nat.le_of_lt hl))

/-- The machine holds this state. -/
structure Sim (m : Mst) (place steps looks : Nat) (stk : List ByteArray) : Prop where
  rep : Rep m.S stk
  size : m.size = stk.length
  len : stk.length ≤ 50
  hpl : m.place = place
  hst : m.steps = steps
  hlk : m.looks = looks
  le : ∀ x ∈ stk, x.size ≤ 2000
  pl : place ≤ 2000
  st : steps ≤ 2000
  lk : looks ≤ 200

set_option maxHeartbeats 2000000 in
theorem step_any (b pb po cnt cap place steps looks : Nat) (f : Nat → Ins) (m : Mst) (stk : List ByteArray) (w : World) (hM : MAt w b (.slice (some ⟨pb, po, none⟩) cnt cap) m) (hS : Sim m place steps looks stk) (hE : Env w b pb po cnt f) (hok : okTo f cnt = true) :
    Calls Tryd.prog 34 #[.pointer (some ⟨b, 0, none⟩)] w fun e w' => e = .returned (.tuple #[]) ∧
      (∃ m', MAt w' b (.slice (some ⟨pb, po, none⟩) cnt cap) m' ∧ After { m with steps := stepN cnt place steps, place := place + 1 } m' (stepP f cnt place steps looks stk)) ∧ Only b w w' := by
  have HM := hide hM
  have HE := hide hE
  have HS := hide hS
  have hlt := hM.lt
  have hpl := hS.pl
  have hst := hS.st
  obtain ⟨c1, z1⟩ := hM.fld 51 (.slice (some ⟨pb, po, none⟩) cnt cap) (by omega) (by simp [Mst.F])
  obtain ⟨c2, z2⟩ := hM.fld 52 (.int .i64 place) (by omega) (by simp [Mst.F, hS.hpl])
  obtain ⟨c3, z3⟩ := hM.fld 53 (.int .i64 steps) (by omega) (by simp [Mst.F, hS.hst])
  clear hM hE hS
  by_cases h1 : cnt ≤ place
  · have e1 : stepP f cnt place steps looks stk = .inr (.inl (2, (decT place))) := by simp [stepP, h1]
    have e2 : stepN cnt place steps = steps := by simp [stepN, h1]
    rw [e1, e2]
    clear e1 e2
    go_enter Tryd.func34, Tryd.ntmps34
    go_wp2_with fail
    go_quiet (fail)
    have HM0 := hide (HM.out.qN nq)
    have HE0 := hide (HE.out.only hlt ((Only.refl b w).qN nq))
    have HO0 := hide ((Only.refl b w).qN nq)
    clear c1 z1 c2 z2 c3 z3
    generalize w.drewN nq = W at HM0 HE0 HO0 ⊢
    obtain ⟨c2, z2⟩ := HM0.out.fld 52 (.int .i64 place) (by omega) (by simp [Mst.F, HS.out.hpl])
    obtain ⟨c3, z3⟩ := HM0.out.fld 53 (.int .i64 steps) (by omega) (by simp [Mst.F, HS.out.hst])
    go_wp2_with fail
    refine (stick_any b _ m place _ HM0.out hpl HE0.out.pow).mono ?_
    rintro e w1 ⟨rfl, hM1, hB1⟩
    have HM1 := hide hM1
    have HB1 := hide (HO0.out.trans hB1)
    clear hM1 hB1
    go_wp2
    refine ret0 rfl rfl ?_
    exact ⟨rfl, ⟨_, HM1.out, HS.out.hst, by rw [HS.out.hst]⟩, HB1.out⟩
  · have h1' : (place : Int) < cnt := by omega
    by_cases h2 : steps = 2000
    · have e1 : stepP f cnt place steps looks stk = .inr (.inl (3, ⟨#[]⟩)) := by simp [stepP, h1, h2]
      have e2 : stepN cnt place steps = steps := by simp [stepN, h1, h2]
      rw [e1, e2]
      clear e1 e2
      have h2' : ((steps : Int) == 2000) = true := by simp; omega
      go_enter Tryd.func34, Tryd.ntmps34
      go_wp2_with fail
      go_quiet (fail)
      have HM0 := hide (HM.out.qN nq)
      have HE0 := hide (HE.out.only hlt ((Only.refl b w).qN nq))
      have HO0 := hide ((Only.refl b w).qN nq)
      clear c1 z1 c2 z2 c3 z3
      generalize w.drewN nq = W at HM0 HE0 HO0 ⊢
      obtain ⟨c2, z2⟩ := HM0.out.fld 52 (.int .i64 place) (by omega) (by simp [Mst.F, HS.out.hpl])
      obtain ⟨c3, z3⟩ := HM0.out.fld 53 (.int .i64 steps) (by omega) (by simp [Mst.F, HS.out.hst])
      go_wp2_with fail
      refine (end_any b _ m _ _ _ HM0.out).mono ?_
      rintro e w1 ⟨rfl, hM1, hB1⟩
      have HM1 := hide hM1
      have HB1 := hide (HO0.out.trans hB1)
      clear hM1 hB1
      go_wp2
      refine ret0 rfl rfl ?_
      exact ⟨rfl, ⟨_, HM1.out, HS.out.hst, by rw [HS.out.hst]⟩, HB1.out⟩
    · have h2' : ((steps : Int) == 2000) = false := by simp; omega
      have e2 : stepN cnt place steps = steps + 1 := by simp [stepN, h1, h2]
      have hi := ok_at hok (show place < cnt by omega)
      simp only [insOk, decide_eq_true_eq] at hi
      obtain ⟨i1, i2, i3, i4, i5⟩ := hi
      obtain ⟨op, hop⟩ := Int.eq_ofNat_of_zero_le (show 0 ≤ (f place).op by omega)
      obtain ⟨n, hn⟩ := Int.eq_ofNat_of_zero_le i4
      have e1 : stepP f cnt place steps looks stk = if bearsP op stk = false then .inr (.inl (2, (decT place))) else performP op n (f place).s place looks stk := by
        simp only [stepP, h1, h2, if_false, hop, hn, Int.toNat_natCast]
      rw [e1, e2]
      obtain ⟨R, hR⟩ : ∃ R : Res, R = (if bearsP op stk = false then .inr (.inl (2, (decT place))) else performP op n (f place).s place looks stk) := ⟨_, rfl⟩
      rw [← hR]
      have HQ := hide hR
      clear hR
      have hmt : mostN (f place).op ≤ 2000 := by unfold mostN; split <;> (try split) <;> omega
      have hn2 : n ≤ 2000 := by omega
      have ho1 : 1 ≤ op := by omega
      have ho2 : op ≤ 15 := by omega
      have HA : Hid (AtIns w pb po place (f place)) := HE.out.row.2 place (by omega)
      clear e1 e2 hmt i1 i2 i3 i4 i5
      go_enter Tryd.func34, Tryd.ntmps34
      go_wp2_with fail
      go_quiet (fail)
      have HM0 := hide (HM.out.qN nq)
      have HE0 := hide (HE.out.only hlt ((Only.refl b w).qN nq))
      have HO0 := hide ((Only.refl b w).qN nq)
      clear c1 z1 c2 z2 c3 z3
      generalize w.drewN nq = W at HM0 HE0 HO0 ⊢
      obtain ⟨c2, z2⟩ := HM0.out.fld 52 (.int .i64 place) (by omega) (by simp [Mst.F, HS.out.hpl])
      obtain ⟨c3, z3⟩ := HM0.out.fld 53 (.int .i64 steps) (by omega) (by simp [Mst.F, HS.out.hst])
      obtain ⟨c1, z1⟩ := HM0.out.fld 51 (.slice (some ⟨pb, po, none⟩) cnt cap) (by omega) (by simp [Mst.F])
      go_wp2_with fail
      have HM1 := hide ((HM0.out.setSteps ((steps : Int) + 1)).setPlace ((place : Int) + 1))
      have HO1 := hide (bset (bset HO0.out 53 (.int .i64 ((steps : Int) + 1))) 52 (.int .i64 ((place : Int) + 1)))
      clear c1 z1 c2 z2 c3 z3 HM0 HO0 HE0
      generalize (W.setCell ⟨b, 53, none⟩ (.int .i64 ((steps : Int) + 1))).setCell ⟨b, 52, none⟩ (.int .i64 ((place : Int) + 1)) = V at HM1 HO1 ⊢
      have HE1 := hide (HE.out.only hlt HO1.out)
      obtain ⟨c1, z1⟩ := HM1.out.fld 51 (.slice (some ⟨pb, po, none⟩) cnt cap) (by omega) (by simp [Mst.F])
      obtain ⟨a0, a1, a2⟩ := HE1.out.row.2 place (by omega)
      rw [hop] at a0
      rw [hn] at a2
      obtain ⟨MM, hMM⟩ : ∃ MM : Mst, MM = { m with steps := (steps : Int) + 1, place := (place : Int) + 1 } := ⟨_, rfl⟩
      rw [← hMM] at HM1
      have k1 : MM.size = stk.length := by rw [hMM]; exact HS.out.size
      have HMM := hide hMM
      have hll := HS.out.len
      clear hMM
      go_region_with (go_at_call 44; refine (bears_is b (.slice (some ⟨pb, po, none⟩) cnt cap) MM op stk _ ?_ ?_ ho1 ho2 k1 hll).mono ?_; (first | exact HM1.out | exact HM1.out.drew | exact HM1.out.drew.drew); (first | exact HE1.out.tab | exact (HE1.out.below (Below.refl _ _).drew).tab); rintro e w1 ⟨rfl, hB1⟩; have HM2 : Hid (MAt w1 b (.slice (some ⟨pb, po, none⟩) cnt cap) MM) := MAt.bel (by first | exact HM1.out | exact HM1.out.drew | exact HM1.out.drew.drew) hB1; have HO2 : Hid (Only b w w1) := Only.bel (by repeat (first | exact HO1.out | apply Only.drew)) hB1; clear hB1)
      all_goals
        have HE2 := hide (HE.out.only hlt HO2.out)
        obtain ⟨g1, y1⟩ := HM2.out.fld 51 (.slice (some ⟨pb, po, none⟩) cnt cap) (by omega) (by simp [Mst.F])
        obtain ⟨b0, b1, b2⟩ := HE2.out.row.2 place (by omega)
        rw [hop] at b0
        rw [hn] at b2
        clear c1 z1 a0 a1 a2 HM1 HO1
        have hlt1 := HM2.out.lt
        cases hbr : bearsP op stk with
        | false =>
          rw [if_pos hbr] at HQ
          go_wp2_with fail
          refine (stick_any b _ MM place _ HM2.out hpl HE2.out.pow).mono ?_
          rintro e w2 ⟨rfl, hM3, hB3⟩
          have HM3 := hide hM3
          have HO3 := hide (HO2.out.trans hB3)
          clear hM3 hB3
          go_wp2
          refine ret0 rfl rfl ?_
          refine ⟨rfl, ⟨_, HM3.out, ?_⟩, HO3.out⟩
          rw [HMM.out, HQ.out]
          exact ⟨by simp, by simp⟩
        | true =>
          rw [if_neg (by simp [hbr])] at HQ
          go_wp2_with fail
          refine (perform_any b (.slice (some ⟨pb, po, none⟩) cnt cap) MM op n place looks (f place).s stk _ ?_ ?_ k1 hll ?_ ?_ hn2 hpl ?_ ?_ ?_ ?_ ho1 ho2 hbr).mono ?_
          · exact HM2.out
          · rw [HMM.out]; exact HS.out.rep
          · rw [HMM.out]
          · exact HS.out.le
          · exact HE2.out.pow
          · exact HE2.out.pwb
          · rw [HMM.out]; exact HS.out.hlk
          · exact HS.out.lk
          rintro e w2 ⟨rfl, hM3, hB3⟩
          have HM3 := hide hM3
          have HO3 := hide (HO2.out.trans hB3)
          clear hM3 hB3
          go_wp2
          refine end0 rfl rfl ?_
          obtain ⟨m', h1, h2⟩ := HM3.out
          refine ⟨rfl, ⟨m', h1, ?_⟩, HO3.out⟩
          rw [HQ.out]
          rw [HMM.out] at h2
          exact h2

end Go.Proofs.YtfhdecheaeoopaaDoor.Vp
