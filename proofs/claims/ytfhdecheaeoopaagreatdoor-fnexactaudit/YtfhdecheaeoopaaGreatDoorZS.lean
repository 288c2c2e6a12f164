/-
  Put together of: NxStp, NxStp2.
-/
import Derived.Test.YtfhdecheaeoopaaGreatDoorZR

/-
  spec: l1Step: where it stops at once. Written by tools/spec2.py.
-/
namespace Go.Proofs.YtfhdecheaeoopaaGreatDoor.Vp
open Go.RowKit


set_option maxRecDepth 1000000 in
set_option maxHeartbeats 4000000 in
theorem step_off (pb po cnt cap1 place steps looks : Nat) (f : Nat → Ins) (a : Option Addr) (s : List ByteArray) (cap b2 o2 n cap2 base : Nat) (y : Nat → Reply) (w : World)
    (hP : RowIns w pb po cnt f) (hY : RowReply w b2 o2 n y) (hO : w.ownsRow base 9 1 (.slice a s.length cap) s.length (strs s)) (hp : place ≤ 2000) (h1 : (cnt : Int) ≤ place) :
    Calls Tryz.prog 75 #[.agg #[.slice (some ⟨pb, po, none⟩) cnt cap1], runV place (.slice a s.length cap) steps looks false 0 ⟨#[]⟩ false ⟨#[]⟩ false, .slice (some ⟨b2, o2, none⟩) n cap2] w fun e w' => ∃ v, e = .returned v ∧ SoIs w' w.heap.size v (.inr (.inl (2, (decT place), steps))) ∧ Below w.heap.size w w' := by
  have HP := hide hP
  have HY := hide hY
  have HO := hide hO
  clear hP hY hO
  have A0 := hide ((((Below.refl w.heap.size w).alloc (Nat.le_refl _) (.cells #[.slice (some ⟨pb, po, none⟩) cnt cap1] 51)).alloc (by simp) (.cells #[.int .i64 place, .slice a s.length cap, .int .i64 steps, .int .i64 looks, .bool false, .int .i64 0, .string ⟨#[]⟩, .bool false, .string ⟨#[]⟩, .bool false] 136)).alloc (by first | (simp; done) | (simp; omega)) (.cells #[.int .i64 0, .slice none 0 0, .int .i64 0, .int .i64 0, .bool false, .int .i64 0, .string ⟨#[]⟩, .bool false, .string ⟨#[]⟩, .bool false] 136))
  have R0 := hide ((ten_new (w.alloc (.cells #[.slice (some ⟨pb, po, none⟩) cnt cap1] 51)) (.int .i64 place) (.slice a s.length cap) (.int .i64 steps) (.int .i64 looks) (.bool false) (.int .i64 0) (.string ⟨#[]⟩) (.bool false) (.string ⟨#[]⟩) (.bool false) 136 (w.heap.size + 1) (by simp)).al (.cells #[.int .i64 0, .slice none 0 0, .int .i64 0, .int .i64 0, .bool false, .int .i64 0, .string ⟨#[]⟩, .bool false, .string ⟨#[]⟩, .bool false] 136))
  have Z0 := hide (ten_new ((w.alloc (.cells #[.slice (some ⟨pb, po, none⟩) cnt cap1] 51)).alloc (.cells #[.int .i64 place, .slice a s.length cap, .int .i64 steps, .int .i64 looks, .bool false, .int .i64 0, .string ⟨#[]⟩, .bool false, .string ⟨#[]⟩, .bool false] 136)) (.int .i64 0) (.slice none 0 0) (.int .i64 0) (.int .i64 0) (.bool false) (.int .i64 0) (.string ⟨#[]⟩) (.bool false) (.string ⟨#[]⟩) (.bool false) 136 (w.heap.size + 1 + 1) (by simp))
  go_enter Tryz.func75, Tryz.ntmps75
  go_wp2_with fail
  refine (l1Dec_any place (by omega) _).mono ?_
  rintro e w1 ⟨rfl, hB1⟩
  have hD : (⟨(Lib.decDigits place).toArray⟩ : ByteArray) = decT place := rfl
  rw [hD]
  have R1 := hide (R0.out.below hB1 (by first | (simp; done) | (simp; omega)))
  have Z1 := hide (Z0.out.below hB1 (by first | (simp; done) | (simp; omega)))
  have B1 := hide (A0.out.trans (hB1.mono (by first | (simp; done) | (simp; omega))))
  have pP : w1.cell? ⟨w.heap.size, 0, none⟩ = some (.slice (some ⟨pb, po, none⟩) cnt cap1) := (hB1.cell (p := ⟨w.heap.size, 0, none⟩) (by first | (simp; done) | (simp; omega))).trans (box3 _ _ _ _ _ _ _ rfl)
  have O1 := hide (own_below HO.out B1.out (Nat.le_refl _))
  have hz1 : w.heap.size + 1 + 1 < w1.heap.size := Z1.out.1
  have hz0 : w.heap.size < w1.heap.size := by omega
  have hz01 : w.heap.size + 1 < w1.heap.size := by omega
  clear hB1 A0 R0 Z0 hD
  obtain ⟨chl, ⟨c0, f0⟩, ⟨c1, f1⟩, ⟨c2, f2⟩, ⟨c3, f3⟩, ⟨c4, f4⟩, ⟨c5, f5⟩, ⟨c6, f6⟩, ⟨c7, f7⟩, ⟨c8, f8⟩, c9, f9⟩ := R1.out
  go_wp2_with fail
  refine (l1End_any _ _ _ _ _ _ _ _ _ _ _ _ _ _ _).mono ?_
  rintro e w5 ⟨rfl, hB5⟩
  have ZE := hide (Z1.out.below hB5 Z1.out.1)
  have B5 := hide (B1.out.trans (hB5.mono B1.out.size))
  clear hB5
  clear chl c0 f0 c1 f1 c2 f2 c3 f3 c4 f4 c5 f5 c6 f6 c7 f7 c8 f8 c9 f9
  obtain ⟨zhl, ⟨z0, y0⟩, ⟨z1, y1⟩, ⟨z2, y2⟩, ⟨z3, y3⟩, ⟨z4, y4⟩, ⟨z5, y5⟩, ⟨z6, y6⟩, ⟨z7, y7⟩, ⟨z8, y8⟩, z9, y9⟩ := ZE.out
  go_wp2
  refine bodyPost_ret (v := runV place (.slice a s.length cap) steps looks true 2 (decT place) false ⟨#[]⟩ false) (by simp [results, Tryz.results75, go_sem, z0, z1, z2, z3, z4, z5, z6, z7, z8, z9]) rfl ⟨_, rfl, ⟨_, _, _, _, _, rfl⟩, ten_set B5.out (by omega) _ _ _ _ _ _ _ _ _ _⟩


set_option maxRecDepth 1000000 in
set_option maxHeartbeats 4000000 in
theorem step_spent (pb po cnt cap1 place steps looks : Nat) (f : Nat → Ins) (a : Option Addr) (s : List ByteArray) (cap b2 o2 n cap2 base : Nat) (y : Nat → Reply) (w : World)
    (hP : RowIns w pb po cnt f) (hY : RowReply w b2 o2 n y) (hO : w.ownsRow base 9 1 (.slice a s.length cap) s.length (strs s)) (hp : place ≤ 2000) (h1 : (place : Int) < cnt) (h2 : ((steps : Int) == 2000) = true) :
    Calls Tryz.prog 75 #[.agg #[.slice (some ⟨pb, po, none⟩) cnt cap1], runV place (.slice a s.length cap) steps looks false 0 ⟨#[]⟩ false ⟨#[]⟩ false, .slice (some ⟨b2, o2, none⟩) n cap2] w fun e w' => ∃ v, e = .returned v ∧ SoIs w' w.heap.size v (.inr (.inl (3, ⟨#[]⟩, steps))) ∧ Below w.heap.size w w' := by
  have HP := hide hP
  have HY := hide hY
  have HO := hide hO
  clear hP hY hO
  have A0 := hide ((((Below.refl w.heap.size w).alloc (Nat.le_refl _) (.cells #[.slice (some ⟨pb, po, none⟩) cnt cap1] 51)).alloc (by simp) (.cells #[.int .i64 place, .slice a s.length cap, .int .i64 steps, .int .i64 looks, .bool false, .int .i64 0, .string ⟨#[]⟩, .bool false, .string ⟨#[]⟩, .bool false] 136)).alloc (by first | (simp; done) | (simp; omega)) (.cells #[.int .i64 0, .slice none 0 0, .int .i64 0, .int .i64 0, .bool false, .int .i64 0, .string ⟨#[]⟩, .bool false, .string ⟨#[]⟩, .bool false] 136))
  have R0 := hide ((ten_new (w.alloc (.cells #[.slice (some ⟨pb, po, none⟩) cnt cap1] 51)) (.int .i64 place) (.slice a s.length cap) (.int .i64 steps) (.int .i64 looks) (.bool false) (.int .i64 0) (.string ⟨#[]⟩) (.bool false) (.string ⟨#[]⟩) (.bool false) 136 (w.heap.size + 1) (by simp)).al (.cells #[.int .i64 0, .slice none 0 0, .int .i64 0, .int .i64 0, .bool false, .int .i64 0, .string ⟨#[]⟩, .bool false, .string ⟨#[]⟩, .bool false] 136))
  have Z0 := hide (ten_new ((w.alloc (.cells #[.slice (some ⟨pb, po, none⟩) cnt cap1] 51)).alloc (.cells #[.int .i64 place, .slice a s.length cap, .int .i64 steps, .int .i64 looks, .bool false, .int .i64 0, .string ⟨#[]⟩, .bool false, .string ⟨#[]⟩, .bool false] 136)) (.int .i64 0) (.slice none 0 0) (.int .i64 0) (.int .i64 0) (.bool false) (.int .i64 0) (.string ⟨#[]⟩) (.bool false) (.string ⟨#[]⟩) (.bool false) 136 (w.heap.size + 1 + 1) (by simp))
  go_enter Tryz.func75, Tryz.ntmps75
  go_wp2_with fail
  refine (l1Dec_any place (by omega) _).mono ?_
  rintro e w1 ⟨rfl, hB1⟩
  have hD : (⟨(Lib.decDigits place).toArray⟩ : ByteArray) = decT place := rfl
  rw [hD]
  have R1 := hide (R0.out.below hB1 (by first | (simp; done) | (simp; omega)))
  have Z1 := hide (Z0.out.below hB1 (by first | (simp; done) | (simp; omega)))
  have B1 := hide (A0.out.trans (hB1.mono (by first | (simp; done) | (simp; omega))))
  have pP : w1.cell? ⟨w.heap.size, 0, none⟩ = some (.slice (some ⟨pb, po, none⟩) cnt cap1) := (hB1.cell (p := ⟨w.heap.size, 0, none⟩) (by first | (simp; done) | (simp; omega))).trans (box3 _ _ _ _ _ _ _ rfl)
  have O1 := hide (own_below HO.out B1.out (Nat.le_refl _))
  have hz1 : w.heap.size + 1 + 1 < w1.heap.size := Z1.out.1
  have hz0 : w.heap.size < w1.heap.size := by omega
  have hz01 : w.heap.size + 1 < w1.heap.size := by omega
  clear hB1 A0 R0 Z0 hD
  obtain ⟨chl, ⟨c0, f0⟩, ⟨c1, f1⟩, ⟨c2, f2⟩, ⟨c3, f3⟩, ⟨c4, f4⟩, ⟨c5, f5⟩, ⟨c6, f6⟩, ⟨c7, f7⟩, ⟨c8, f8⟩, c9, f9⟩ := R1.out
  go_wp2_with fail
  refine (l1End_any _ _ _ _ _ _ _ _ _ _ _ _ _ _ _).mono ?_
  rintro e w5 ⟨rfl, hB5⟩
  have ZE := hide (Z1.out.below hB5 Z1.out.1)
  have B5 := hide (B1.out.trans (hB5.mono B1.out.size))
  clear hB5
  clear chl c0 f0 c1 f1 c2 f2 c3 f3 c4 f4 c5 f5 c6 f6 c7 f7 c8 f8 c9 f9
  obtain ⟨zhl, ⟨z0, y0⟩, ⟨z1, y1⟩, ⟨z2, y2⟩, ⟨z3, y3⟩, ⟨z4, y4⟩, ⟨z5, y5⟩, ⟨z6, y6⟩, ⟨z7, y7⟩, ⟨z8, y8⟩, z9, y9⟩ := ZE.out
  go_wp2
  refine bodyPost_ret (v := runV place (.slice a s.length cap) steps looks true 3 ⟨#[]⟩ false ⟨#[]⟩ false) (by simp [results, Tryz.results75, go_sem, z0, z1, z2, z3, z4, z5, z6, z7, z8, z9]) rfl ⟨_, rfl, ⟨_, _, _, _, _, rfl⟩, ten_set B5.out (by omega) _ _ _ _ _ _ _ _ _ _⟩


set_option maxRecDepth 1000000 in
set_option maxHeartbeats 4000000 in
theorem step_few (pb po cnt cap1 place steps looks : Nat) (f : Nat → Ins) (a : Option Addr) (s : List ByteArray) (cap b2 o2 n cap2 base : Nat) (y : Nat → Reply) (w : World)
    (hP : RowIns w pb po cnt f) (hY : RowReply w b2 o2 n y) (hO : w.ownsRow base 9 1 (.slice a s.length cap) s.length (strs s)) (hp : place ≤ 2000) (hst : steps ≤ 2000) (h1 : (place : Int) < cnt) (h2 : ((steps : Int) == 2000) = false) (op k : Nat) (hop : (f place).op = op) (hk : (f place).n = k) (ho1 : 1 ≤ op) (ho2 : op ≤ 15) (hA : (s.length : Int) < (takesOf op : Nat)) :
    Calls Tryz.prog 75 #[.agg #[.slice (some ⟨pb, po, none⟩) cnt cap1], runV place (.slice a s.length cap) steps looks false 0 ⟨#[]⟩ false ⟨#[]⟩ false, .slice (some ⟨b2, o2, none⟩) n cap2] w fun e w' => ∃ v, e = .returned v ∧ SoIs w' w.heap.size v (.inr (.inl (2, (decT place), (steps + 1)))) ∧ Below w.heap.size w w' := by
  have HP := hide hP
  have HY := hide hY
  have HO := hide hO
  clear hP hY hO
  have A0 := hide ((((Below.refl w.heap.size w).alloc (Nat.le_refl _) (.cells #[.slice (some ⟨pb, po, none⟩) cnt cap1] 51)).alloc (by simp) (.cells #[.int .i64 place, .slice a s.length cap, .int .i64 steps, .int .i64 looks, .bool false, .int .i64 0, .string ⟨#[]⟩, .bool false, .string ⟨#[]⟩, .bool false] 136)).alloc (by first | (simp; done) | (simp; omega)) (.cells #[.int .i64 0, .slice none 0 0, .int .i64 0, .int .i64 0, .bool false, .int .i64 0, .string ⟨#[]⟩, .bool false, .string ⟨#[]⟩, .bool false] 136))
  have R0 := hide ((ten_new (w.alloc (.cells #[.slice (some ⟨pb, po, none⟩) cnt cap1] 51)) (.int .i64 place) (.slice a s.length cap) (.int .i64 steps) (.int .i64 looks) (.bool false) (.int .i64 0) (.string ⟨#[]⟩) (.bool false) (.string ⟨#[]⟩) (.bool false) 136 (w.heap.size + 1) (by simp)).al (.cells #[.int .i64 0, .slice none 0 0, .int .i64 0, .int .i64 0, .bool false, .int .i64 0, .string ⟨#[]⟩, .bool false, .string ⟨#[]⟩, .bool false] 136))
  have Z0 := hide (ten_new ((w.alloc (.cells #[.slice (some ⟨pb, po, none⟩) cnt cap1] 51)).alloc (.cells #[.int .i64 place, .slice a s.length cap, .int .i64 steps, .int .i64 looks, .bool false, .int .i64 0, .string ⟨#[]⟩, .bool false, .string ⟨#[]⟩, .bool false] 136)) (.int .i64 0) (.slice none 0 0) (.int .i64 0) (.int .i64 0) (.bool false) (.int .i64 0) (.string ⟨#[]⟩) (.bool false) (.string ⟨#[]⟩) (.bool false) 136 (w.heap.size + 1 + 1) (by simp))
  go_enter Tryz.func75, Tryz.ntmps75
  go_wp2_with fail
  refine (l1Dec_any place (by omega) _).mono ?_
  rintro e w1 ⟨rfl, hB1⟩
  have hD : (⟨(Lib.decDigits place).toArray⟩ : ByteArray) = decT place := rfl
  rw [hD]
  have R1 := hide (R0.out.below hB1 (by first | (simp; done) | (simp; omega)))
  have Z1 := hide (Z0.out.below hB1 (by first | (simp; done) | (simp; omega)))
  have B1 := hide (A0.out.trans (hB1.mono (by first | (simp; done) | (simp; omega))))
  have pP : w1.cell? ⟨w.heap.size, 0, none⟩ = some (.slice (some ⟨pb, po, none⟩) cnt cap1) := (hB1.cell (p := ⟨w.heap.size, 0, none⟩) (by first | (simp; done) | (simp; omega))).trans (box3 _ _ _ _ _ _ _ rfl)
  have O1 := hide (own_below HO.out B1.out (Nat.le_refl _))
  have hz1 : w.heap.size + 1 + 1 < w1.heap.size := Z1.out.1
  have hz0 : w.heap.size < w1.heap.size := by omega
  have hz01 : w.heap.size + 1 < w1.heap.size := by omega
  clear hB1 A0 R0 Z0 hD
  obtain ⟨d0, d1, d2⟩ := (HP.out.below B1.out (Nat.le_refl _)).2 place (by omega)
  rw [hop] at d0
  rw [hk] at d2
  have hpb : pb < w.heap.size := HP.out.1
  have d0' := (cell_far w1 ⟨w.heap.size + 1, 2, none⟩ ⟨pb, po + place * 3, none⟩ (.int .i64 ((steps : Int) + 1)) (by simp; omega)).trans d0
  have d1' := (cell_far w1 ⟨w.heap.size + 1, 2, none⟩ ⟨pb, po + place * 3 + 1, none⟩ (.int .i64 ((steps : Int) + 1)) (by simp; omega)).trans d1
  have d2' := (cell_far w1 ⟨w.heap.size + 1, 2, none⟩ ⟨pb, po + place * 3 + 2, none⟩ (.int .i64 ((steps : Int) + 1)) (by simp; omega)).trans d2
  have hne : ∀ j, w.heap.size ≤ j → Value.ownBlock (.slice a s.length cap) ≠ some j := fun j hj e => by have := (HO.out.lt j e).2; omega
  have R2 := hide ((R1.out.set2 (.int .i64 ((steps : Int) + 1))).al (.cells #[.int .i64 op, .string (f place).s, .int .i64 k] 120))
  have Z2 := hide ((Z1.out.other ⟨w.heap.size + 1, 2, none⟩ (.int .i64 ((steps : Int) + 1)) (by simp)).al (.cells #[.int .i64 op, .string (f place).s, .int .i64 k] 120))
  have O2 := hide ((ownsRow_setCell_other O1.out (a := ⟨w.heap.size + 1, 2, none⟩) (hne _ (by simp)) (.int .i64 ((steps : Int) + 1))).alloc (.cells #[.int .i64 op, .string (f place).s, .int .i64 k] 120))
  have B2 := hide ((B1.out.setCell (p := ⟨w.heap.size + 1, 2, none⟩) (by simp) (.int .i64 ((steps : Int) + 1))).alloc (by have := B1.out.size; simpa using this) (.cells #[.int .i64 op, .string (f place).s, .int .i64 k] 120))
  have g0 : ((w1.setCell ⟨w.heap.size + 1, 2, none⟩ (.int .i64 ((steps : Int) + 1))).alloc (.cells #[.int .i64 op, .string (f place).s, .int .i64 k] 120)).cell? ⟨w1.heap.size, 0, none⟩ = some (.int .i64 op) := box1 _ _ _ _ _ _ (by simp) rfl
  have g1 : ((w1.setCell ⟨w.heap.size + 1, 2, none⟩ (.int .i64 ((steps : Int) + 1))).alloc (.cells #[.int .i64 op, .string (f place).s, .int .i64 k] 120)).cell? ⟨w1.heap.size, 1, none⟩ = some (.string (f place).s) := box1 _ _ _ _ _ _ (by simp) rfl
  have g2 : ((w1.setCell ⟨w.heap.size + 1, 2, none⟩ (.int .i64 ((steps : Int) + 1))).alloc (.cells #[.int .i64 op, .string (f place).s, .int .i64 k] 120)).cell? ⟨w1.heap.size, 2, none⟩ = some (.int .i64 k) := box1 _ _ _ _ _ _ (by simp) rfl
  have hWz : w1.heap.size < ((w1.setCell ⟨w.heap.size + 1, 2, none⟩ (.int .i64 ((steps : Int) + 1))).alloc (.cells #[.int .i64 op, .string (f place).s, .int .i64 k] 120)).heap.size := by simp
  clear hne
  obtain ⟨chl, ⟨c0, f0⟩, ⟨c1, f1⟩, ⟨c2, f2⟩, ⟨c3, f3⟩, ⟨c4, f4⟩, ⟨c5, f5⟩, ⟨c6, f6⟩, ⟨c7, f7⟩, ⟨c8, f8⟩, c9, f9⟩ := R1.out
  go_wp2_with fail
  refine (l1Takes_any op _ ho1 ho2).mono ?_
  rintro e w9 ⟨rfl, hw9⟩
  subst hw9
  clear chl c0 f0 c1 f1 c2 f2 c3 f3 c4 f4 c5 f5 c6 f6 c7 f7 c8 f8 c9 f9
  clear d0 d1 d2 d0' d1' d2' hop hk
  generalize ((w1.setCell ⟨w.heap.size + 1, 2, none⟩ (.int .i64 ((steps : Int) + 1))).alloc (.cells #[.int .i64 op, .string (f place).s, .int .i64 k] 120)) = W at R2 Z2 O2 B2 g0 g1 g2 hWz ⊢
  obtain ⟨chl, ⟨c0, f0⟩, ⟨c1, f1⟩, ⟨c2, f2⟩, ⟨c3, f3⟩, ⟨c4, f4⟩, ⟨c5, f5⟩, ⟨c6, f6⟩, ⟨c7, f7⟩, ⟨c8, f8⟩, c9, f9⟩ := R2.out
  go_wp2_with fail
  refine (l1End_any _ _ _ _ _ _ _ _ _ _ _ _ _ _ _).mono ?_
  rintro e w5 ⟨rfl, hB5⟩
  have ZE := hide (Z2.out.below hB5 Z2.out.1)
  have B5 := hide (B2.out.trans (hB5.mono B2.out.size))
  clear hB5
  clear chl c0 f0 c1 f1 c2 f2 c3 f3 c4 f4 c5 f5 c6 f6 c7 f7 c8 f8 c9 f9
  obtain ⟨zhl, ⟨z0, y0⟩, ⟨z1, y1⟩, ⟨z2, y2⟩, ⟨z3, y3⟩, ⟨z4, y4⟩, ⟨z5, y5⟩, ⟨z6, y6⟩, ⟨z7, y7⟩, ⟨z8, y8⟩, z9, y9⟩ := ZE.out
  go_wp2
  refine bodyPost_ret (v := runV place (.slice a s.length cap) ((steps : Int) + 1) looks true 2 (decT place) false ⟨#[]⟩ false) (by simp [results, Tryz.results75, go_sem, z0, z1, z2, z3, z4, z5, z6, z7, z8, z9]) rfl ⟨_, rfl, ⟨_, _, _, _, _, rfl⟩, ten_set B5.out (by omega) _ _ _ _ _ _ _ _ _ _⟩


set_option maxRecDepth 1000000 in
set_option maxHeartbeats 4000000 in
theorem step_many (pb po cnt cap1 place steps looks : Nat) (f : Nat → Ins) (a : Option Addr) (s : List ByteArray) (cap b2 o2 n cap2 base : Nat) (y : Nat → Reply) (w : World)
    (hP : RowIns w pb po cnt f) (hY : RowReply w b2 o2 n y) (hO : w.ownsRow base 9 1 (.slice a s.length cap) s.length (strs s)) (hp : place ≤ 2000) (hst : steps ≤ 2000) (h1 : (place : Int) < cnt) (h2 : ((steps : Int) == 2000) = false) (op k : Nat) (hop : (f place).op = op) (hk : (f place).n = k) (ho1 : 1 ≤ op) (ho2 : op ≤ 15) (hs : s.length ≤ 50) (hA : ¬ (s.length : Int) < (takesOf op : Nat)) (hA2 : (50 : Int) < (s.length : Int) - (takesOf op : Nat) + (putsOf op : Nat)) (hm : putsOf op ≤ 2) :
    Calls Tryz.prog 75 #[.agg #[.slice (some ⟨pb, po, none⟩) cnt cap1], runV place (.slice a s.length cap) steps looks false 0 ⟨#[]⟩ false ⟨#[]⟩ false, .slice (some ⟨b2, o2, none⟩) n cap2] w fun e w' => ∃ v, e = .returned v ∧ SoIs w' w.heap.size v (.inr (.inl (2, (decT place), (steps + 1)))) ∧ Below w.heap.size w w' := by
  have HP := hide hP
  have HY := hide hY
  have HO := hide hO
  clear hP hY hO
  have A0 := hide ((((Below.refl w.heap.size w).alloc (Nat.le_refl _) (.cells #[.slice (some ⟨pb, po, none⟩) cnt cap1] 51)).alloc (by simp) (.cells #[.int .i64 place, .slice a s.length cap, .int .i64 steps, .int .i64 looks, .bool false, .int .i64 0, .string ⟨#[]⟩, .bool false, .string ⟨#[]⟩, .bool false] 136)).alloc (by first | (simp; done) | (simp; omega)) (.cells #[.int .i64 0, .slice none 0 0, .int .i64 0, .int .i64 0, .bool false, .int .i64 0, .string ⟨#[]⟩, .bool false, .string ⟨#[]⟩, .bool false] 136))
  have R0 := hide ((ten_new (w.alloc (.cells #[.slice (some ⟨pb, po, none⟩) cnt cap1] 51)) (.int .i64 place) (.slice a s.length cap) (.int .i64 steps) (.int .i64 looks) (.bool false) (.int .i64 0) (.string ⟨#[]⟩) (.bool false) (.string ⟨#[]⟩) (.bool false) 136 (w.heap.size + 1) (by simp)).al (.cells #[.int .i64 0, .slice none 0 0, .int .i64 0, .int .i64 0, .bool false, .int .i64 0, .string ⟨#[]⟩, .bool false, .string ⟨#[]⟩, .bool false] 136))
  have Z0 := hide (ten_new ((w.alloc (.cells #[.slice (some ⟨pb, po, none⟩) cnt cap1] 51)).alloc (.cells #[.int .i64 place, .slice a s.length cap, .int .i64 steps, .int .i64 looks, .bool false, .int .i64 0, .string ⟨#[]⟩, .bool false, .string ⟨#[]⟩, .bool false] 136)) (.int .i64 0) (.slice none 0 0) (.int .i64 0) (.int .i64 0) (.bool false) (.int .i64 0) (.string ⟨#[]⟩) (.bool false) (.string ⟨#[]⟩) (.bool false) 136 (w.heap.size + 1 + 1) (by simp))
  go_enter Tryz.func75, Tryz.ntmps75
  go_wp2_with fail
  refine (l1Dec_any place (by omega) _).mono ?_
  rintro e w1 ⟨rfl, hB1⟩
  have hD : (⟨(Lib.decDigits place).toArray⟩ : ByteArray) = decT place := rfl
  rw [hD]
  have R1 := hide (R0.out.below hB1 (by first | (simp; done) | (simp; omega)))
  have Z1 := hide (Z0.out.below hB1 (by first | (simp; done) | (simp; omega)))
  have B1 := hide (A0.out.trans (hB1.mono (by first | (simp; done) | (simp; omega))))
  have pP : w1.cell? ⟨w.heap.size, 0, none⟩ = some (.slice (some ⟨pb, po, none⟩) cnt cap1) := (hB1.cell (p := ⟨w.heap.size, 0, none⟩) (by first | (simp; done) | (simp; omega))).trans (box3 _ _ _ _ _ _ _ rfl)
  have O1 := hide (own_below HO.out B1.out (Nat.le_refl _))
  have hz1 : w.heap.size + 1 + 1 < w1.heap.size := Z1.out.1
  have hz0 : w.heap.size < w1.heap.size := by omega
  have hz01 : w.heap.size + 1 < w1.heap.size := by omega
  clear hB1 A0 R0 Z0 hD
  obtain ⟨d0, d1, d2⟩ := (HP.out.below B1.out (Nat.le_refl _)).2 place (by omega)
  rw [hop] at d0
  rw [hk] at d2
  have hpb : pb < w.heap.size := HP.out.1
  have d0' := (cell_far w1 ⟨w.heap.size + 1, 2, none⟩ ⟨pb, po + place * 3, none⟩ (.int .i64 ((steps : Int) + 1)) (by simp; omega)).trans d0
  have d1' := (cell_far w1 ⟨w.heap.size + 1, 2, none⟩ ⟨pb, po + place * 3 + 1, none⟩ (.int .i64 ((steps : Int) + 1)) (by simp; omega)).trans d1
  have d2' := (cell_far w1 ⟨w.heap.size + 1, 2, none⟩ ⟨pb, po + place * 3 + 2, none⟩ (.int .i64 ((steps : Int) + 1)) (by simp; omega)).trans d2
  have hne : ∀ j, w.heap.size ≤ j → Value.ownBlock (.slice a s.length cap) ≠ some j := fun j hj e => by have := (HO.out.lt j e).2; omega
  have R2 := hide ((R1.out.set2 (.int .i64 ((steps : Int) + 1))).al (.cells #[.int .i64 op, .string (f place).s, .int .i64 k] 120))
  have Z2 := hide ((Z1.out.other ⟨w.heap.size + 1, 2, none⟩ (.int .i64 ((steps : Int) + 1)) (by simp)).al (.cells #[.int .i64 op, .string (f place).s, .int .i64 k] 120))
  have O2 := hide ((ownsRow_setCell_other O1.out (a := ⟨w.heap.size + 1, 2, none⟩) (hne _ (by simp)) (.int .i64 ((steps : Int) + 1))).alloc (.cells #[.int .i64 op, .string (f place).s, .int .i64 k] 120))
  have B2 := hide ((B1.out.setCell (p := ⟨w.heap.size + 1, 2, none⟩) (by simp) (.int .i64 ((steps : Int) + 1))).alloc (by have := B1.out.size; simpa using this) (.cells #[.int .i64 op, .string (f place).s, .int .i64 k] 120))
  have g0 : ((w1.setCell ⟨w.heap.size + 1, 2, none⟩ (.int .i64 ((steps : Int) + 1))).alloc (.cells #[.int .i64 op, .string (f place).s, .int .i64 k] 120)).cell? ⟨w1.heap.size, 0, none⟩ = some (.int .i64 op) := box1 _ _ _ _ _ _ (by simp) rfl
  have g1 : ((w1.setCell ⟨w.heap.size + 1, 2, none⟩ (.int .i64 ((steps : Int) + 1))).alloc (.cells #[.int .i64 op, .string (f place).s, .int .i64 k] 120)).cell? ⟨w1.heap.size, 1, none⟩ = some (.string (f place).s) := box1 _ _ _ _ _ _ (by simp) rfl
  have g2 : ((w1.setCell ⟨w.heap.size + 1, 2, none⟩ (.int .i64 ((steps : Int) + 1))).alloc (.cells #[.int .i64 op, .string (f place).s, .int .i64 k] 120)).cell? ⟨w1.heap.size, 2, none⟩ = some (.int .i64 k) := box1 _ _ _ _ _ _ (by simp) rfl
  have hWz : w1.heap.size < ((w1.setCell ⟨w.heap.size + 1, 2, none⟩ (.int .i64 ((steps : Int) + 1))).alloc (.cells #[.int .i64 op, .string (f place).s, .int .i64 k] 120)).heap.size := by simp
  clear hne
  obtain ⟨chl, ⟨c0, f0⟩, ⟨c1, f1⟩, ⟨c2, f2⟩, ⟨c3, f3⟩, ⟨c4, f4⟩, ⟨c5, f5⟩, ⟨c6, f6⟩, ⟨c7, f7⟩, ⟨c8, f8⟩, c9, f9⟩ := R1.out
  go_wp2_with fail
  refine (l1Takes_any op _ ho1 ho2).mono ?_
  rintro e w9 ⟨rfl, hw9⟩
  subst hw9
  clear chl c0 f0 c1 f1 c2 f2 c3 f3 c4 f4 c5 f5 c6 f6 c7 f7 c8 f8 c9 f9
  clear d0 d1 d2 d0' d1' d2' hop hk
  generalize ((w1.setCell ⟨w.heap.size + 1, 2, none⟩ (.int .i64 ((steps : Int) + 1))).alloc (.cells #[.int .i64 op, .string (f place).s, .int .i64 k] 120)) = W at R2 Z2 O2 B2 g0 g1 g2 hWz ⊢
  obtain ⟨chl, ⟨c0, f0⟩, ⟨c1, f1⟩, ⟨c2, f2⟩, ⟨c3, f3⟩, ⟨c4, f4⟩, ⟨c5, f5⟩, ⟨c6, f6⟩, ⟨c7, f7⟩, ⟨c8, f8⟩, c9, f9⟩ := R2.out
  go_wp2_with fail
  refine (l1End_any _ _ _ _ _ _ _ _ _ _ _ _ _ _ _).mono ?_
  rintro e w5 ⟨rfl, hB5⟩
  have ZE := hide (Z2.out.below hB5 Z2.out.1)
  have B5 := hide (B2.out.trans (hB5.mono B2.out.size))
  clear hB5
  clear chl c0 f0 c1 f1 c2 f2 c3 f3 c4 f4 c5 f5 c6 f6 c7 f7 c8 f8 c9 f9
  obtain ⟨zhl, ⟨z0, y0⟩, ⟨z1, y1⟩, ⟨z2, y2⟩, ⟨z3, y3⟩, ⟨z4, y4⟩, ⟨z5, y5⟩, ⟨z6, y6⟩, ⟨z7, y7⟩, ⟨z8, y8⟩, z9, y9⟩ := ZE.out
  go_wp2
  refine bodyPost_ret (v := runV place (.slice a s.length cap) ((steps : Int) + 1) looks true 2 (decT place) false ⟨#[]⟩ false) (by simp [results, Tryz.results75, go_sem, z0, z1, z2, z3, z4, z5, z6, z7, z8, z9]) rfl ⟨_, rfl, ⟨_, _, _, _, _, rfl⟩, ten_set B5.out (by omega) _ _ _ _ _ _ _ _ _ _⟩


end Go.Proofs.YtfhdecheaeoopaaGreatDoor.Vp

/-
  spec: l1Step: its texts. Written by tools/spec2.py.
-/
namespace Go.Proofs.YtfhdecheaeoopaaGreatDoor.Vp
open Go.RowKit


theorem add0 (g j : Nat) : (⟨g, 0, none⟩ : Addr).add j = ⟨g, j, none⟩ := by
  unfold Addr.add
  split <;> simp_all
theorem own_top {w : World} {base g cap : Nat} {e : TypeId} {x : ByteArray} {r : List ByteArray} (h : w.ownsRow base e 1 (.slice (some ⟨g, 0, none⟩) (r.length + 1) cap) (r.length + 1) (strs (x :: r))) : w.cell? ⟨g, r.length, none⟩ = some (.string x) := by
  have := h.cells (g := g) rfl r.length (.string x) (by rw [strs_cons, List.getElem?_append_right (by simp)]; simp)
  rwa [add0] at this
theorem own_2nd {w : World} {base g cap : Nat} {e : TypeId} {x z : ByteArray} {r : List ByteArray} (h : w.ownsRow base e 1 (.slice (some ⟨g, 0, none⟩) (r.length + 2) cap) (r.length + 2) (strs (x :: z :: r))) : w.cell? ⟨g, r.length + 1, none⟩ = some (.string x) ∧ w.cell? ⟨g, r.length, none⟩ = some (.string z) := by
  have h1 := h.cells (g := g) rfl (r.length + 1) (.string x) (by rw [strs_cons, List.getElem?_append_right (by simp)]; simp)
  have h2 := h.cells (g := g) rfl r.length (.string z) (by rw [strs_cons, List.getElem?_append_left (by simp), strs_cons, List.getElem?_append_right (by simp)]; simp)
  rw [add0] at h1 h2
  exact ⟨h1, h2⟩
theorem own_cap {w : World} {base n cap : Nat} {e : TypeId} {g : Nat} {xs : List Value} (h : w.ownsRow base e 1 (.slice (some ⟨g, 0, none⟩) n cap) n xs) : n ≤ cap := by
  rcases h.2 with ⟨h0, _⟩ | ⟨g, c, cur, hv, _, _, hn, _⟩
  · simp at h0
  · simp at hv
    omega
theorem own_pre {w : World} {base g n cap : Nat} {e : TypeId} {r : List ByteArray} {xs : List Value} (h : w.ownsRow base e 1 (.slice (some ⟨g, 0, none⟩) n cap) n (strs r ++ xs)) : ∀ j u, (strs r)[j]? = some u → w.cell? ((⟨g, 0, none⟩ : Addr).add j) = some u := fun j u hu =>
  h.cells (g := g) rfl j u (by rw [List.getElem?_append_left (by obtain ⟨hj, _⟩ := List.getElem?_eq_some_iff.1 hu; exact hj)]; exact hu)
theorem own_form0 {w : World} {base n : Nat} {e : TypeId} {v : Value} {xs : List Value} (h : w.ownsRow base e 1 v n xs) (hv : v ≠ .slice none 0 0) : ∃ g cap, v = .slice (some ⟨g, 0, none⟩) n cap ∧ base ≤ g := by
  rcases h.2 with ⟨h0, _⟩ | ⟨g, cap, cur, hv, hg, _⟩
  · exact absurd h0 hv
  · exact ⟨g, cap, hv, hg⟩
theorem strs_one (r : List ByteArray) : ∀ u ∈ strs r, u.oneCell' = true := by
  intro u hu
  obtain ⟨x, _, rfl⟩ := List.mem_map.1 hu
  rfl

set_option maxRecDepth 1000000 in
set_option maxHeartbeats 4000000 in
theorem step_end (pb po cnt cap1 place steps looks : Nat) (f : Nat → Ins) (g : Nat) (x : ByteArray) (r : List ByteArray) (cap b2 o2 n cap2 base : Nat) (y : Nat → Reply) (w : World)
    (hP : RowIns w pb po cnt f) (hY : RowReply w b2 o2 n y) (hO : w.ownsRow base 9 1 (.slice (some ⟨g, 0, none⟩) (r.length + 1) cap) (r.length + 1) (strs (x :: r))) (hp : place ≤ 2000) (hst : steps ≤ 2000) (h1 : (place : Int) < cnt) (h2 : ((steps : Int) == 2000) = false) (op k : Nat) (hop : (f place).op = op) (hk : (f place).n = k) (ho1 : 1 ≤ op) (ho2 : op ≤ 15) (hs : r.length ≤ 50) (htk : takesOf op = 1) (hA2 : ((r.length : Int) + (putsOf op : Nat)) ≤ 50) (n15 : ((op : Int) == 15) = true) :
    Calls Tryz.prog 75 #[.agg #[.slice (some ⟨pb, po, none⟩) cnt cap1], runV place (.slice (some ⟨g, 0, none⟩) (r.length + 1) cap) steps looks false 0 ⟨#[]⟩ false ⟨#[]⟩ false, .slice (some ⟨b2, o2, none⟩) n cap2] w fun e w' => ∃ v, e = .returned v ∧ SoIs w' w.heap.size v (.inr (.inl (0, x, (steps + 1)))) ∧ Below w.heap.size w w' := by
  have HP := hide hP
  have HY := hide hY
  have HO := hide hO
  clear hP hY hO
  have A0 := hide ((((Below.refl w.heap.size w).alloc (Nat.le_refl _) (.cells #[.slice (some ⟨pb, po, none⟩) cnt cap1] 51)).alloc (by simp) (.cells #[.int .i64 place, .slice (some ⟨g, 0, none⟩) (r.length + 1) cap, .int .i64 steps, .int .i64 looks, .bool false, .int .i64 0, .string ⟨#[]⟩, .bool false, .string ⟨#[]⟩, .bool false] 136)).alloc (by first | (simp; done) | (simp; omega)) (.cells #[.int .i64 0, .slice none 0 0, .int .i64 0, .int .i64 0, .bool false, .int .i64 0, .string ⟨#[]⟩, .bool false, .string ⟨#[]⟩, .bool false] 136))
  have R0 := hide ((ten_new (w.alloc (.cells #[.slice (some ⟨pb, po, none⟩) cnt cap1] 51)) (.int .i64 place) (.slice (some ⟨g, 0, none⟩) (r.length + 1) cap) (.int .i64 steps) (.int .i64 looks) (.bool false) (.int .i64 0) (.string ⟨#[]⟩) (.bool false) (.string ⟨#[]⟩) (.bool false) 136 (w.heap.size + 1) (by simp)).al (.cells #[.int .i64 0, .slice none 0 0, .int .i64 0, .int .i64 0, .bool false, .int .i64 0, .string ⟨#[]⟩, .bool false, .string ⟨#[]⟩, .bool false] 136))
  have Z0 := hide (ten_new ((w.alloc (.cells #[.slice (some ⟨pb, po, none⟩) cnt cap1] 51)).alloc (.cells #[.int .i64 place, .slice (some ⟨g, 0, none⟩) (r.length + 1) cap, .int .i64 steps, .int .i64 looks, .bool false, .int .i64 0, .string ⟨#[]⟩, .bool false, .string ⟨#[]⟩, .bool false] 136)) (.int .i64 0) (.slice none 0 0) (.int .i64 0) (.int .i64 0) (.bool false) (.int .i64 0) (.string ⟨#[]⟩) (.bool false) (.string ⟨#[]⟩) (.bool false) 136 (w.heap.size + 1 + 1) (by simp))
  go_enter Tryz.func75, Tryz.ntmps75
  go_wp2_with fail
  refine (l1Dec_any place (by omega) _).mono ?_
  rintro e w1 ⟨rfl, hB1⟩
  have hD : (⟨(Lib.decDigits place).toArray⟩ : ByteArray) = decT place := rfl
  rw [hD]
  have R1 := hide (R0.out.below hB1 (by first | (simp; done) | (simp; omega)))
  have Z1 := hide (Z0.out.below hB1 (by first | (simp; done) | (simp; omega)))
  have B1 := hide (A0.out.trans (hB1.mono (by first | (simp; done) | (simp; omega))))
  have pP : w1.cell? ⟨w.heap.size, 0, none⟩ = some (.slice (some ⟨pb, po, none⟩) cnt cap1) := (hB1.cell (p := ⟨w.heap.size, 0, none⟩) (by first | (simp; done) | (simp; omega))).trans (box3 _ _ _ _ _ _ _ rfl)
  have O1 := hide (own_below HO.out B1.out (Nat.le_refl _))
  have hz1 : w.heap.size + 1 + 1 < w1.heap.size := Z1.out.1
  have hz0 : w.heap.size < w1.heap.size := by omega
  have hz01 : w.heap.size + 1 < w1.heap.size := by omega
  clear hB1 A0 R0 Z0 hD
  obtain ⟨d0, d1, d2⟩ := (HP.out.below B1.out (Nat.le_refl _)).2 place (by omega)
  rw [hop] at d0
  rw [hk] at d2
  have hpb : pb < w.heap.size := HP.out.1
  have d0' := (cell_far w1 ⟨w.heap.size + 1, 2, none⟩ ⟨pb, po + place * 3, none⟩ (.int .i64 ((steps : Int) + 1)) (by simp; omega)).trans d0
  have d1' := (cell_far w1 ⟨w.heap.size + 1, 2, none⟩ ⟨pb, po + place * 3 + 1, none⟩ (.int .i64 ((steps : Int) + 1)) (by simp; omega)).trans d1
  have d2' := (cell_far w1 ⟨w.heap.size + 1, 2, none⟩ ⟨pb, po + place * 3 + 2, none⟩ (.int .i64 ((steps : Int) + 1)) (by simp; omega)).trans d2
  have hne : ∀ j, w.heap.size ≤ j → Value.ownBlock (.slice (some ⟨g, 0, none⟩) (r.length + 1) cap) ≠ some j := fun j hj e => by have := (HO.out.lt j e).2; omega
  have R2 := hide ((R1.out.set2 (.int .i64 ((steps : Int) + 1))).al (.cells #[.int .i64 op, .string (f place).s, .int .i64 k] 120))
  have Z2 := hide ((Z1.out.other ⟨w.heap.size + 1, 2, none⟩ (.int .i64 ((steps : Int) + 1)) (by simp)).al (.cells #[.int .i64 op, .string (f place).s, .int .i64 k] 120))
  have O2 := hide ((ownsRow_setCell_other O1.out (a := ⟨w.heap.size + 1, 2, none⟩) (hne _ (by simp)) (.int .i64 ((steps : Int) + 1))).alloc (.cells #[.int .i64 op, .string (f place).s, .int .i64 k] 120))
  have B2 := hide ((B1.out.setCell (p := ⟨w.heap.size + 1, 2, none⟩) (by simp) (.int .i64 ((steps : Int) + 1))).alloc (by have := B1.out.size; simpa using this) (.cells #[.int .i64 op, .string (f place).s, .int .i64 k] 120))
  have g0 : ((w1.setCell ⟨w.heap.size + 1, 2, none⟩ (.int .i64 ((steps : Int) + 1))).alloc (.cells #[.int .i64 op, .string (f place).s, .int .i64 k] 120)).cell? ⟨w1.heap.size, 0, none⟩ = some (.int .i64 op) := box1 _ _ _ _ _ _ (by simp) rfl
  have g1 : ((w1.setCell ⟨w.heap.size + 1, 2, none⟩ (.int .i64 ((steps : Int) + 1))).alloc (.cells #[.int .i64 op, .string (f place).s, .int .i64 k] 120)).cell? ⟨w1.heap.size, 1, none⟩ = some (.string (f place).s) := box1 _ _ _ _ _ _ (by simp) rfl
  have g2 : ((w1.setCell ⟨w.heap.size + 1, 2, none⟩ (.int .i64 ((steps : Int) + 1))).alloc (.cells #[.int .i64 op, .string (f place).s, .int .i64 k] 120)).cell? ⟨w1.heap.size, 2, none⟩ = some (.int .i64 k) := box1 _ _ _ _ _ _ (by simp) rfl
  have hWz : w1.heap.size < ((w1.setCell ⟨w.heap.size + 1, 2, none⟩ (.int .i64 ((steps : Int) + 1))).alloc (.cells #[.int .i64 op, .string (f place).s, .int .i64 k] 120)).heap.size := by simp
  clear hne
  obtain ⟨chl, ⟨c0, f0⟩, ⟨c1, f1⟩, ⟨c2, f2⟩, ⟨c3, f3⟩, ⟨c4, f4⟩, ⟨c5, f5⟩, ⟨c6, f6⟩, ⟨c7, f7⟩, ⟨c8, f8⟩, c9, f9⟩ := R1.out
  go_wp2_with fail
  refine (l1Takes_any op _ ho1 ho2).mono ?_
  rintro e w9 ⟨rfl, hw9⟩
  subst hw9
  clear chl c0 f0 c1 f1 c2 f2 c3 f3 c4 f4 c5 f5 c6 f6 c7 f7 c8 f8 c9 f9
  clear d0 d1 d2 d0' d1' d2' hop hk
  generalize ((w1.setCell ⟨w.heap.size + 1, 2, none⟩ (.int .i64 ((steps : Int) + 1))).alloc (.cells #[.int .i64 op, .string (f place).s, .int .i64 k] 120)) = W at R2 Z2 O2 B2 g0 g1 g2 hWz ⊢
  obtain ⟨chl, ⟨c0, f0⟩, ⟨c1, f1⟩, ⟨c2, f2⟩, ⟨c3, f3⟩, ⟨c4, f4⟩, ⟨c5, f5⟩, ⟨c6, f6⟩, ⟨c7, f7⟩, ⟨c8, f8⟩, c9, f9⟩ := R2.out
  have t1 := own_top O2.out
  rw [htk]
  have hcap : (r.length : Int) ≤ cap := by have := own_cap O2.out; omega
  obtain ⟨i0', hi, hy0, hy1, hy2⟩ := info_parts infoString
  go_wp2_with (at_builtin; refine wpList_append_own _ rfl (.tmp 87) (.tmp 95) 108 rfl W.heap.size 9 i0' (.string ⟨#[]⟩) 1 16 Tryz.underlying108 hi hy0 hy1 hy2 rfl (by decide) (.slice (some ⟨W.heap.size, 0, none⟩) 0 0) 0 [] (by simp [Act.eval]) (World.ownsRow_made W #[] 0 (Nat.le_refl _) (by unfold maxLen; omega) rfl) ⟨g, 0, none⟩ r.length cap (strs r) (by simp [Act.eval]) (by simp [strs]) (own_pre (by rw [← strs_cons]; exact O2.out.alloc _)) (strs_one _) (by unfold maxLen; omega) (by omega) (by simp) ?_; intro v' w2 hown hgrow hnil; simp only [Nat.zero_add, List.nil_append] at hown; obtain ⟨gr, cr, rfl, hgr⟩ := own_form0 hown (fun e => by simpa using hnil.1 e); have B3 := hide (Below.grown ((Below.refl W.heap.size W).alloc (Nat.le_refl _) (.cells #[] 9)) hgrow (by simp) (fun j e => by simp [Value.ownBlock] at e; omega)); have R3 := hide (R2.out.below B3.out R2.out.1); have Z3 := hide (Z2.out.below B3.out Z2.out.1); have G0 := (B3.out.cell (p := ⟨w1.heap.size, 0, none⟩) hWz).trans g0; have G1 := (B3.out.cell (p := ⟨w1.heap.size, 1, none⟩) hWz).trans g1; have G2 := (B3.out.cell (p := ⟨w1.heap.size, 2, none⟩) hWz).trans g2; have OWN := hide hown; clear hown hgrow hnil g0 g1 g2; obtain ⟨ehl, ⟨e0, u0⟩, ⟨e1, u1⟩, ⟨e2, u2⟩, ⟨e3, u3⟩, ⟨e4, u4⟩, ⟨e5, u5⟩, ⟨e6, u6⟩, ⟨e7, u7⟩, ⟨e8, u8⟩, e9, u9⟩ := R3.out)
  have Z4 := hide (Z3.out.other ⟨w.heap.size + 1, 0, none⟩ (.int .i64 ((place : Int) + 1)) (by simp))
  have B4 := hide ((B2.out.trans (B3.out.mono B2.out.size)).setCell (p := ⟨w.heap.size + 1, 0, none⟩) (by simp) (.int .i64 ((place : Int) + 1)))
  refine (l1End_any _ _ _ _ _ _ _ _ _ _ _ _ _ _ _).mono ?_
  rintro e w5 ⟨rfl, hB5⟩
  have ZE := hide (Z4.out.below hB5 Z4.out.1)
  have B5 := hide (B4.out.trans (hB5.mono B4.out.size))
  clear hB5
  clear chl c0 f0 c1 f1 c2 f2 c3 f3 c4 f4 c5 f5 c6 f6 c7 f7 c8 f8 c9 f9
  clear ehl e0 u0 e1 u1 e2 u2 e3 u3 e4 u4 e5 u5 e6 u6 e7 u7 e8 u8 e9 u9
  obtain ⟨zhl, ⟨z0, y0⟩, ⟨z1, y1⟩, ⟨z2, y2⟩, ⟨z3, y3⟩, ⟨z4, y4⟩, ⟨z5, y5⟩, ⟨z6, y6⟩, ⟨z7, y7⟩, ⟨z8, y8⟩, z9, y9⟩ := ZE.out
  go_wp2
  refine bodyPost_ret (v := runV ((place : Int) + 1) (.slice (some ⟨g, 0, none⟩) (r.length + 1) cap) ((steps : Int) + 1) looks true 0 x false ⟨#[]⟩ false) (by simp [results, Tryz.results75, go_sem, z0, z1, z2, z3, z4, z5, z6, z7, z8, z9]) rfl ⟨_, rfl, ⟨_, _, _, _, _, rfl⟩, ten_set B5.out (by omega) _ _ _ _ _ _ _ _ _ _⟩


set_option maxRecDepth 1000000 in
set_option maxHeartbeats 4000000 in
theorem step_fail (pb po cnt cap1 place steps looks : Nat) (f : Nat → Ins) (g : Nat) (x : ByteArray) (r : List ByteArray) (cap b2 o2 n cap2 base : Nat) (y : Nat → Reply) (w : World)
    (hP : RowIns w pb po cnt f) (hY : RowReply w b2 o2 n y) (hO : w.ownsRow base 9 1 (.slice (some ⟨g, 0, none⟩) (r.length + 1) cap) (r.length + 1) (strs (x :: r))) (hp : place ≤ 2000) (hst : steps ≤ 2000) (h1 : (place : Int) < cnt) (h2 : ((steps : Int) == 2000) = false) (op k : Nat) (hop : (f place).op = op) (hk : (f place).n = k) (ho1 : 1 ≤ op) (ho2 : op ≤ 15) (hs : r.length ≤ 50) (htk : takesOf op = 1) (hA2 : ((r.length : Int) + (putsOf op : Nat)) ≤ 50) (n15 : ((op : Int) == 15) = false) (n14 : ((op : Int) == 14) = true) :
    Calls Tryz.prog 75 #[.agg #[.slice (some ⟨pb, po, none⟩) cnt cap1], runV place (.slice (some ⟨g, 0, none⟩) (r.length + 1) cap) steps looks false 0 ⟨#[]⟩ false ⟨#[]⟩ false, .slice (some ⟨b2, o2, none⟩) n cap2] w fun e w' => ∃ v, e = .returned v ∧ SoIs w' w.heap.size v (.inr (.inl (1, x, (steps + 1)))) ∧ Below w.heap.size w w' := by
  have HP := hide hP
  have HY := hide hY
  have HO := hide hO
  clear hP hY hO
  have A0 := hide ((((Below.refl w.heap.size w).alloc (Nat.le_refl _) (.cells #[.slice (some ⟨pb, po, none⟩) cnt cap1] 51)).alloc (by simp) (.cells #[.int .i64 place, .slice (some ⟨g, 0, none⟩) (r.length + 1) cap, .int .i64 steps, .int .i64 looks, .bool false, .int .i64 0, .string ⟨#[]⟩, .bool false, .string ⟨#[]⟩, .bool false] 136)).alloc (by first | (simp; done) | (simp; omega)) (.cells #[.int .i64 0, .slice none 0 0, .int .i64 0, .int .i64 0, .bool false, .int .i64 0, .string ⟨#[]⟩, .bool false, .string ⟨#[]⟩, .bool false] 136))
  have R0 := hide ((ten_new (w.alloc (.cells #[.slice (some ⟨pb, po, none⟩) cnt cap1] 51)) (.int .i64 place) (.slice (some ⟨g, 0, none⟩) (r.length + 1) cap) (.int .i64 steps) (.int .i64 looks) (.bool false) (.int .i64 0) (.string ⟨#[]⟩) (.bool false) (.string ⟨#[]⟩) (.bool false) 136 (w.heap.size + 1) (by simp)).al (.cells #[.int .i64 0, .slice none 0 0, .int .i64 0, .int .i64 0, .bool false, .int .i64 0, .string ⟨#[]⟩, .bool false, .string ⟨#[]⟩, .bool false] 136))
  have Z0 := hide (ten_new ((w.alloc (.cells #[.slice (some ⟨pb, po, none⟩) cnt cap1] 51)).alloc (.cells #[.int .i64 place, .slice (some ⟨g, 0, none⟩) (r.length + 1) cap, .int .i64 steps, .int .i64 looks, .bool false, .int .i64 0, .string ⟨#[]⟩, .bool false, .string ⟨#[]⟩, .bool false] 136)) (.int .i64 0) (.slice none 0 0) (.int .i64 0) (.int .i64 0) (.bool false) (.int .i64 0) (.string ⟨#[]⟩) (.bool false) (.string ⟨#[]⟩) (.bool false) 136 (w.heap.size + 1 + 1) (by simp))
  go_enter Tryz.func75, Tryz.ntmps75
  go_wp2_with fail
  refine (l1Dec_any place (by omega) _).mono ?_
  rintro e w1 ⟨rfl, hB1⟩
  have hD : (⟨(Lib.decDigits place).toArray⟩ : ByteArray) = decT place := rfl
  rw [hD]
  have R1 := hide (R0.out.below hB1 (by first | (simp; done) | (simp; omega)))
  have Z1 := hide (Z0.out.below hB1 (by first | (simp; done) | (simp; omega)))
  have B1 := hide (A0.out.trans (hB1.mono (by first | (simp; done) | (simp; omega))))
  have pP : w1.cell? ⟨w.heap.size, 0, none⟩ = some (.slice (some ⟨pb, po, none⟩) cnt cap1) := (hB1.cell (p := ⟨w.heap.size, 0, none⟩) (by first | (simp; done) | (simp; omega))).trans (box3 _ _ _ _ _ _ _ rfl)
  have O1 := hide (own_below HO.out B1.out (Nat.le_refl _))
  have hz1 : w.heap.size + 1 + 1 < w1.heap.size := Z1.out.1
  have hz0 : w.heap.size < w1.heap.size := by omega
  have hz01 : w.heap.size + 1 < w1.heap.size := by omega
  clear hB1 A0 R0 Z0 hD
  obtain ⟨d0, d1, d2⟩ := (HP.out.below B1.out (Nat.le_refl _)).2 place (by omega)
  rw [hop] at d0
  rw [hk] at d2
  have hpb : pb < w.heap.size := HP.out.1
  have d0' := (cell_far w1 ⟨w.heap.size + 1, 2, none⟩ ⟨pb, po + place * 3, none⟩ (.int .i64 ((steps : Int) + 1)) (by simp; omega)).trans d0
  have d1' := (cell_far w1 ⟨w.heap.size + 1, 2, none⟩ ⟨pb, po + place * 3 + 1, none⟩ (.int .i64 ((steps : Int) + 1)) (by simp; omega)).trans d1
  have d2' := (cell_far w1 ⟨w.heap.size + 1, 2, none⟩ ⟨pb, po + place * 3 + 2, none⟩ (.int .i64 ((steps : Int) + 1)) (by simp; omega)).trans d2
  have hne : ∀ j, w.heap.size ≤ j → Value.ownBlock (.slice (some ⟨g, 0, none⟩) (r.length + 1) cap) ≠ some j := fun j hj e => by have := (HO.out.lt j e).2; omega
  have R2 := hide ((R1.out.set2 (.int .i64 ((steps : Int) + 1))).al (.cells #[.int .i64 op, .string (f place).s, .int .i64 k] 120))
  have Z2 := hide ((Z1.out.other ⟨w.heap.size + 1, 2, none⟩ (.int .i64 ((steps : Int) + 1)) (by simp)).al (.cells #[.int .i64 op, .string (f place).s, .int .i64 k] 120))
  have O2 := hide ((ownsRow_setCell_other O1.out (a := ⟨w.heap.size + 1, 2, none⟩) (hne _ (by simp)) (.int .i64 ((steps : Int) + 1))).alloc (.cells #[.int .i64 op, .string (f place).s, .int .i64 k] 120))
  have B2 := hide ((B1.out.setCell (p := ⟨w.heap.size + 1, 2, none⟩) (by simp) (.int .i64 ((steps : Int) + 1))).alloc (by have := B1.out.size; simpa using this) (.cells #[.int .i64 op, .string (f place).s, .int .i64 k] 120))
  have g0 : ((w1.setCell ⟨w.heap.size + 1, 2, none⟩ (.int .i64 ((steps : Int) + 1))).alloc (.cells #[.int .i64 op, .string (f place).s, .int .i64 k] 120)).cell? ⟨w1.heap.size, 0, none⟩ = some (.int .i64 op) := box1 _ _ _ _ _ _ (by simp) rfl
  have g1 : ((w1.setCell ⟨w.heap.size + 1, 2, none⟩ (.int .i64 ((steps : Int) + 1))).alloc (.cells #[.int .i64 op, .string (f place).s, .int .i64 k] 120)).cell? ⟨w1.heap.size, 1, none⟩ = some (.string (f place).s) := box1 _ _ _ _ _ _ (by simp) rfl
  have g2 : ((w1.setCell ⟨w.heap.size + 1, 2, none⟩ (.int .i64 ((steps : Int) + 1))).alloc (.cells #[.int .i64 op, .string (f place).s, .int .i64 k] 120)).cell? ⟨w1.heap.size, 2, none⟩ = some (.int .i64 k) := box1 _ _ _ _ _ _ (by simp) rfl
  have hWz : w1.heap.size < ((w1.setCell ⟨w.heap.size + 1, 2, none⟩ (.int .i64 ((steps : Int) + 1))).alloc (.cells #[.int .i64 op, .string (f place).s, .int .i64 k] 120)).heap.size := by simp
  clear hne
  obtain ⟨chl, ⟨c0, f0⟩, ⟨c1, f1⟩, ⟨c2, f2⟩, ⟨c3, f3⟩, ⟨c4, f4⟩, ⟨c5, f5⟩, ⟨c6, f6⟩, ⟨c7, f7⟩, ⟨c8, f8⟩, c9, f9⟩ := R1.out
  go_wp2_with fail
  refine (l1Takes_any op _ ho1 ho2).mono ?_
  rintro e w9 ⟨rfl, hw9⟩
  subst hw9
  clear chl c0 f0 c1 f1 c2 f2 c3 f3 c4 f4 c5 f5 c6 f6 c7 f7 c8 f8 c9 f9
  clear d0 d1 d2 d0' d1' d2' hop hk
  generalize ((w1.setCell ⟨w.heap.size + 1, 2, none⟩ (.int .i64 ((steps : Int) + 1))).alloc (.cells #[.int .i64 op, .string (f place).s, .int .i64 k] 120)) = W at R2 Z2 O2 B2 g0 g1 g2 hWz ⊢
  obtain ⟨chl, ⟨c0, f0⟩, ⟨c1, f1⟩, ⟨c2, f2⟩, ⟨c3, f3⟩, ⟨c4, f4⟩, ⟨c5, f5⟩, ⟨c6, f6⟩, ⟨c7, f7⟩, ⟨c8, f8⟩, c9, f9⟩ := R2.out
  have t1 := own_top O2.out
  rw [htk]
  have hcap : (r.length : Int) ≤ cap := by have := own_cap O2.out; omega
  obtain ⟨i0', hi, hy0, hy1, hy2⟩ := info_parts infoString
  go_wp2_with (at_builtin; refine wpList_append_own _ rfl (.tmp 87) (.tmp 95) 108 rfl W.heap.size 9 i0' (.string ⟨#[]⟩) 1 16 Tryz.underlying108 hi hy0 hy1 hy2 rfl (by decide) (.slice (some ⟨W.heap.size, 0, none⟩) 0 0) 0 [] (by simp [Act.eval]) (World.ownsRow_made W #[] 0 (Nat.le_refl _) (by unfold maxLen; omega) rfl) ⟨g, 0, none⟩ r.length cap (strs r) (by simp [Act.eval]) (by simp [strs]) (own_pre (by rw [← strs_cons]; exact O2.out.alloc _)) (strs_one _) (by unfold maxLen; omega) (by omega) (by simp) ?_; intro v' w2 hown hgrow hnil; simp only [Nat.zero_add, List.nil_append] at hown; obtain ⟨gr, cr, rfl, hgr⟩ := own_form0 hown (fun e => by simpa using hnil.1 e); have B3 := hide (Below.grown ((Below.refl W.heap.size W).alloc (Nat.le_refl _) (.cells #[] 9)) hgrow (by simp) (fun j e => by simp [Value.ownBlock] at e; omega)); have R3 := hide (R2.out.below B3.out R2.out.1); have Z3 := hide (Z2.out.below B3.out Z2.out.1); have G0 := (B3.out.cell (p := ⟨w1.heap.size, 0, none⟩) hWz).trans g0; have G1 := (B3.out.cell (p := ⟨w1.heap.size, 1, none⟩) hWz).trans g1; have G2 := (B3.out.cell (p := ⟨w1.heap.size, 2, none⟩) hWz).trans g2; have OWN := hide hown; clear hown hgrow hnil g0 g1 g2; obtain ⟨ehl, ⟨e0, u0⟩, ⟨e1, u1⟩, ⟨e2, u2⟩, ⟨e3, u3⟩, ⟨e4, u4⟩, ⟨e5, u5⟩, ⟨e6, u6⟩, ⟨e7, u7⟩, ⟨e8, u8⟩, e9, u9⟩ := R3.out)
  have Z4 := hide (Z3.out.other ⟨w.heap.size + 1, 0, none⟩ (.int .i64 ((place : Int) + 1)) (by simp))
  have B4 := hide ((B2.out.trans (B3.out.mono B2.out.size)).setCell (p := ⟨w.heap.size + 1, 0, none⟩) (by simp) (.int .i64 ((place : Int) + 1)))
  refine (l1End_any _ _ _ _ _ _ _ _ _ _ _ _ _ _ _).mono ?_
  rintro e w5 ⟨rfl, hB5⟩
  have ZE := hide (Z4.out.below hB5 Z4.out.1)
  have B5 := hide (B4.out.trans (hB5.mono B4.out.size))
  clear hB5
  clear chl c0 f0 c1 f1 c2 f2 c3 f3 c4 f4 c5 f5 c6 f6 c7 f7 c8 f8 c9 f9
  clear ehl e0 u0 e1 u1 e2 u2 e3 u3 e4 u4 e5 u5 e6 u6 e7 u7 e8 u8 e9 u9
  obtain ⟨zhl, ⟨z0, y0⟩, ⟨z1, y1⟩, ⟨z2, y2⟩, ⟨z3, y3⟩, ⟨z4, y4⟩, ⟨z5, y5⟩, ⟨z6, y6⟩, ⟨z7, y7⟩, ⟨z8, y8⟩, z9, y9⟩ := ZE.out
  go_wp2
  refine bodyPost_ret (v := runV ((place : Int) + 1) (.slice (some ⟨g, 0, none⟩) (r.length + 1) cap) ((steps : Int) + 1) looks true 1 x false ⟨#[]⟩ false) (by simp [results, Tryz.results75, go_sem, z0, z1, z2, z3, z4, z5, z6, z7, z8, z9]) rfl ⟨_, rfl, ⟨_, _, _, _, _, rfl⟩, ten_set B5.out (by omega) _ _ _ _ _ _ _ _ _ _⟩


end Go.Proofs.YtfhdecheaeoopaaGreatDoor.Vp
