/-
  spec: l1Step: where it stops at once. Written by tools/spec2.py.
-/
import Derived.Test.YtoaokmdhbagniaaDoorNxLook3
namespace Go.Proofs.YtoaokmdhbagniaaDoor.Vp
open Go.RowKit


set_option maxRecDepth 1000000 in
set_option maxHeartbeats 4000000 in
theorem step_off (pb po cnt cap1 place steps looks : Nat) (f : Nat → Ins) (a : Option Addr) (s : List ByteArray) (cap b2 o2 n cap2 base : Nat) (y : Nat → Reply) (w : World)
    (hP : RowIns w pb po cnt f) (hY : RowReply w b2 o2 n y) (hO : w.ownsRow base 9 1 (.slice a s.length cap) s.length (strs s)) (hp : place ≤ 2000) (h1 : (cnt : Int) ≤ place) :
    Calls Tryd.prog 64 #[.agg #[.slice (some ⟨pb, po, none⟩) cnt cap1], runV place (.slice a s.length cap) steps looks false 0 ⟨#[]⟩ false ⟨#[]⟩ false, .slice (some ⟨b2, o2, none⟩) n cap2] w fun e w' => ∃ v, e = .returned v ∧ SoIs w' w.heap.size v (.over 2 (decT place) steps) ∧ Below w.heap.size w w' := by
  have HP := hide hP
  have HY := hide hY
  have HO := hide hO
  clear hP hY hO
  have A0 := hide ((((Below.refl w.heap.size w).alloc (Nat.le_refl _) (.cells #[.slice (some ⟨pb, po, none⟩) cnt cap1] 61)).alloc (by simp) (.cells #[.int .i64 place, .slice a s.length cap, .int .i64 steps, .int .i64 looks, .bool false, .int .i64 0, .string ⟨#[]⟩, .bool false, .string ⟨#[]⟩, .bool false] 104)).alloc (by first | (simp; done) | (simp; omega)) (.cells #[.int .i64 0, .slice none 0 0, .int .i64 0, .int .i64 0, .bool false, .int .i64 0, .string ⟨#[]⟩, .bool false, .string ⟨#[]⟩, .bool false] 104))
  have R0 := hide ((ten_new (w.alloc (.cells #[.slice (some ⟨pb, po, none⟩) cnt cap1] 61)) (.int .i64 place) (.slice a s.length cap) (.int .i64 steps) (.int .i64 looks) (.bool false) (.int .i64 0) (.string ⟨#[]⟩) (.bool false) (.string ⟨#[]⟩) (.bool false) 104 (w.heap.size + 1) (by simp)).al (.cells #[.int .i64 0, .slice none 0 0, .int .i64 0, .int .i64 0, .bool false, .int .i64 0, .string ⟨#[]⟩, .bool false, .string ⟨#[]⟩, .bool false] 104))
  have Z0 := hide (ten_new ((w.alloc (.cells #[.slice (some ⟨pb, po, none⟩) cnt cap1] 61)).alloc (.cells #[.int .i64 place, .slice a s.length cap, .int .i64 steps, .int .i64 looks, .bool false, .int .i64 0, .string ⟨#[]⟩, .bool false, .string ⟨#[]⟩, .bool false] 104)) (.int .i64 0) (.slice none 0 0) (.int .i64 0) (.int .i64 0) (.bool false) (.int .i64 0) (.string ⟨#[]⟩) (.bool false) (.string ⟨#[]⟩) (.bool false) 104 (w.heap.size + 1 + 1) (by simp))
  go_enter Tryd.func64, Tryd.ntmps64
  go_wp2_with fail
  refine (l1Dec_any place (by omega) _).mono ?_
  rintro e w1 ⟨rfl, hB1⟩
  have hD : (⟨(Lib.decDigits place).toArray⟩ : ByteArray) = decT place := rfl
  rw [hD]
  have R1 := hide (R0.out.below hB1 (by first | (simp; done) | (simp; omega)))
  have Z1 := hide (Z0.out.below hB1 (by first | (simp; done) | (simp; omega)))
  have B1 := hide (A0.out.trans (hB1.mono (by first | (simp; done) | (simp; omega))))
  have pP : w1.cell? ⟨w.heap.size, 0, none⟩ = some (.slice (some ⟨pb, po, none⟩) cnt cap1) := (hB1.cell (p := ⟨w.heap.size, 0, none⟩) (by first | (simp; done) | (simp; omega))).trans (box3 _ _ _ _ _ _ _ rfl)
  have O1 := hide (own_below HO.out B1.out (Nat.le_refl _))
  have hz1 : w.heap.size + 1 + 1 < w1.heap.size := Z1.out.1
  have hz0 : w.heap.size < w1.heap.size := by omega
  have hz01 : w.heap.size + 1 < w1.heap.size := by omega
  clear hB1 A0 R0 Z0 hD
  obtain ⟨chl, ⟨c0, f0⟩, ⟨c1, f1⟩, ⟨c2, f2⟩, ⟨c3, f3⟩, ⟨c4, f4⟩, ⟨c5, f5⟩, ⟨c6, f6⟩, ⟨c7, f7⟩, ⟨c8, f8⟩, c9, f9⟩ := R1.out
  go_wp2_with fail
  refine (l1End_any _ _ _ _ _ _ _ _ _ _ _ _ _ _ _).mono ?_
  rintro e w5 ⟨rfl, hB5⟩
  have ZE := hide (Z1.out.below hB5 Z1.out.1)
  have B5 := hide (B1.out.trans (hB5.mono B1.out.size))
  clear hB5
  clear chl c0 f0 c1 f1 c2 f2 c3 f3 c4 f4 c5 f5 c6 f6 c7 f7 c8 f8 c9 f9
  obtain ⟨zhl, ⟨z0, y0⟩, ⟨z1, y1⟩, ⟨z2, y2⟩, ⟨z3, y3⟩, ⟨z4, y4⟩, ⟨z5, y5⟩, ⟨z6, y6⟩, ⟨z7, y7⟩, ⟨z8, y8⟩, z9, y9⟩ := ZE.out
  go_wp2
  refine bodyPost_ret (v := runV place (.slice a s.length cap) steps looks true 2 (decT place) false ⟨#[]⟩ false) (by simp [results, Tryd.results64, go_sem, z0, z1, z2, z3, z4, z5, z6, z7, z8, z9]) rfl ⟨_, rfl, ⟨_, _, _, _, _, rfl⟩, ten_set B5.out (by omega) _ _ _ _ _ _ _ _ _ _⟩


set_option maxRecDepth 1000000 in
set_option maxHeartbeats 4000000 in
theorem step_spent (pb po cnt cap1 place steps looks : Nat) (f : Nat → Ins) (a : Option Addr) (s : List ByteArray) (cap b2 o2 n cap2 base : Nat) (y : Nat → Reply) (w : World)
    (hP : RowIns w pb po cnt f) (hY : RowReply w b2 o2 n y) (hO : w.ownsRow base 9 1 (.slice a s.length cap) s.length (strs s)) (hp : place ≤ 2000) (h1 : (place : Int) < cnt) (h2 : ((steps : Int) == 2000) = true) :
    Calls Tryd.prog 64 #[.agg #[.slice (some ⟨pb, po, none⟩) cnt cap1], runV place (.slice a s.length cap) steps looks false 0 ⟨#[]⟩ false ⟨#[]⟩ false, .slice (some ⟨b2, o2, none⟩) n cap2] w fun e w' => ∃ v, e = .returned v ∧ SoIs w' w.heap.size v (.over 3 ⟨#[]⟩ steps) ∧ Below w.heap.size w w' := by
  have HP := hide hP
  have HY := hide hY
  have HO := hide hO
  clear hP hY hO
  have A0 := hide ((((Below.refl w.heap.size w).alloc (Nat.le_refl _) (.cells #[.slice (some ⟨pb, po, none⟩) cnt cap1] 61)).alloc (by simp) (.cells #[.int .i64 place, .slice a s.length cap, .int .i64 steps, .int .i64 looks, .bool false, .int .i64 0, .string ⟨#[]⟩, .bool false, .string ⟨#[]⟩, .bool false] 104)).alloc (by first | (simp; done) | (simp; omega)) (.cells #[.int .i64 0, .slice none 0 0, .int .i64 0, .int .i64 0, .bool false, .int .i64 0, .string ⟨#[]⟩, .bool false, .string ⟨#[]⟩, .bool false] 104))
  have R0 := hide ((ten_new (w.alloc (.cells #[.slice (some ⟨pb, po, none⟩) cnt cap1] 61)) (.int .i64 place) (.slice a s.length cap) (.int .i64 steps) (.int .i64 looks) (.bool false) (.int .i64 0) (.string ⟨#[]⟩) (.bool false) (.string ⟨#[]⟩) (.bool false) 104 (w.heap.size + 1) (by simp)).al (.cells #[.int .i64 0, .slice none 0 0, .int .i64 0, .int .i64 0, .bool false, .int .i64 0, .string ⟨#[]⟩, .bool false, .string ⟨#[]⟩, .bool false] 104))
  have Z0 := hide (ten_new ((w.alloc (.cells #[.slice (some ⟨pb, po, none⟩) cnt cap1] 61)).alloc (.cells #[.int .i64 place, .slice a s.length cap, .int .i64 steps, .int .i64 looks, .bool false, .int .i64 0, .string ⟨#[]⟩, .bool false, .string ⟨#[]⟩, .bool false] 104)) (.int .i64 0) (.slice none 0 0) (.int .i64 0) (.int .i64 0) (.bool false) (.int .i64 0) (.string ⟨#[]⟩) (.bool false) (.string ⟨#[]⟩) (.bool false) 104 (w.heap.size + 1 + 1) (by simp))
  go_enter Tryd.func64, Tryd.ntmps64
  go_wp2_with fail
  refine (l1Dec_any place (by omega) _).mono ?_
  rintro e w1 ⟨rfl, hB1⟩
  have hD : (⟨(Lib.decDigits place).toArray⟩ : ByteArray) = decT place := rfl
  rw [hD]
  have R1 := hide (R0.out.below hB1 (by first | (simp; done) | (simp; omega)))
  have Z1 := hide (Z0.out.below hB1 (by first | (simp; done) | (simp; omega)))
  have B1 := hide (A0.out.trans (hB1.mono (by first | (simp; done) | (simp; omega))))
  have pP : w1.cell? ⟨w.heap.size, 0, none⟩ = some (.slice (some ⟨pb, po, none⟩) cnt cap1) := (hB1.cell (p := ⟨w.heap.size, 0, none⟩) (by first | (simp; done) | (simp; omega))).trans (box3 _ _ _ _ _ _ _ rfl)
  have O1 := hide (own_below HO.out B1.out (Nat.le_refl _))
  have hz1 : w.heap.size + 1 + 1 < w1.heap.size := Z1.out.1
  have hz0 : w.heap.size < w1.heap.size := by omega
  have hz01 : w.heap.size + 1 < w1.heap.size := by omega
  clear hB1 A0 R0 Z0 hD
  obtain ⟨chl, ⟨c0, f0⟩, ⟨c1, f1⟩, ⟨c2, f2⟩, ⟨c3, f3⟩, ⟨c4, f4⟩, ⟨c5, f5⟩, ⟨c6, f6⟩, ⟨c7, f7⟩, ⟨c8, f8⟩, c9, f9⟩ := R1.out
  go_wp2_with fail
  refine (l1End_any _ _ _ _ _ _ _ _ _ _ _ _ _ _ _).mono ?_
  rintro e w5 ⟨rfl, hB5⟩
  have ZE := hide (Z1.out.below hB5 Z1.out.1)
  have B5 := hide (B1.out.trans (hB5.mono B1.out.size))
  clear hB5
  clear chl c0 f0 c1 f1 c2 f2 c3 f3 c4 f4 c5 f5 c6 f6 c7 f7 c8 f8 c9 f9
  obtain ⟨zhl, ⟨z0, y0⟩, ⟨z1, y1⟩, ⟨z2, y2⟩, ⟨z3, y3⟩, ⟨z4, y4⟩, ⟨z5, y5⟩, ⟨z6, y6⟩, ⟨z7, y7⟩, ⟨z8, y8⟩, z9, y9⟩ := ZE.out
  go_wp2
  refine bodyPost_ret (v := runV place (.slice a s.length cap) steps looks true 3 ⟨#[]⟩ false ⟨#[]⟩ false) (by simp [results, Tryd.results64, go_sem, z0, z1, z2, z3, z4, z5, z6, z7, z8, z9]) rfl ⟨_, rfl, ⟨_, _, _, _, _, rfl⟩, ten_set B5.out (by omega) _ _ _ _ _ _ _ _ _ _⟩


set_option maxRecDepth 1000000 in
set_option maxHeartbeats 4000000 in
theorem step_few (pb po cnt cap1 place steps looks : Nat) (f : Nat → Ins) (a : Option Addr) (s : List ByteArray) (cap b2 o2 n cap2 base : Nat) (y : Nat → Reply) (w : World)
    (hP : RowIns w pb po cnt f) (hY : RowReply w b2 o2 n y) (hO : w.ownsRow base 9 1 (.slice a s.length cap) s.length (strs s)) (hp : place ≤ 2000) (hst : steps ≤ 2000) (h1 : (place : Int) < cnt) (h2 : ((steps : Int) == 2000) = false) (op k : Nat) (hop : (f place).op = op) (hk : (f place).n = k) (ho1 : 1 ≤ op) (ho2 : op ≤ 15) (hA : (s.length : Int) < (takesOf op : Nat)) :
    Calls Tryd.prog 64 #[.agg #[.slice (some ⟨pb, po, none⟩) cnt cap1], runV place (.slice a s.length cap) steps looks false 0 ⟨#[]⟩ false ⟨#[]⟩ false, .slice (some ⟨b2, o2, none⟩) n cap2] w fun e w' => ∃ v, e = .returned v ∧ SoIs w' w.heap.size v (.over 2 (decT place) (steps + 1)) ∧ Below w.heap.size w w' := by
  have HP := hide hP
  have HY := hide hY
  have HO := hide hO
  clear hP hY hO
  have A0 := hide ((((Below.refl w.heap.size w).alloc (Nat.le_refl _) (.cells #[.slice (some ⟨pb, po, none⟩) cnt cap1] 61)).alloc (by simp) (.cells #[.int .i64 place, .slice a s.length cap, .int .i64 steps, .int .i64 looks, .bool false, .int .i64 0, .string ⟨#[]⟩, .bool false, .string ⟨#[]⟩, .bool false] 104)).alloc (by first | (simp; done) | (simp; omega)) (.cells #[.int .i64 0, .slice none 0 0, .int .i64 0, .int .i64 0, .bool false, .int .i64 0, .string ⟨#[]⟩, .bool false, .string ⟨#[]⟩, .bool false] 104))
  have R0 := hide ((ten_new (w.alloc (.cells #[.slice (some ⟨pb, po, none⟩) cnt cap1] 61)) (.int .i64 place) (.slice a s.length cap) (.int .i64 steps) (.int .i64 looks) (.bool false) (.int .i64 0) (.string ⟨#[]⟩) (.bool false) (.string ⟨#[]⟩) (.bool false) 104 (w.heap.size + 1) (by simp)).al (.cells #[.int .i64 0, .slice none 0 0, .int .i64 0, .int .i64 0, .bool false, .int .i64 0, .string ⟨#[]⟩, .bool false, .string ⟨#[]⟩, .bool false] 104))
  have Z0 := hide (ten_new ((w.alloc (.cells #[.slice (some ⟨pb, po, none⟩) cnt cap1] 61)).alloc (.cells #[.int .i64 place, .slice a s.length cap, .int .i64 steps, .int .i64 looks, .bool false, .int .i64 0, .string ⟨#[]⟩, .bool false, .string ⟨#[]⟩, .bool false] 104)) (.int .i64 0) (.slice none 0 0) (.int .i64 0) (.int .i64 0) (.bool false) (.int .i64 0) (.string ⟨#[]⟩) (.bool false) (.string ⟨#[]⟩) (.bool false) 104 (w.heap.size + 1 + 1) (by simp))
  go_enter Tryd.func64, Tryd.ntmps64
  go_wp2_with fail
  refine (l1Dec_any place (by omega) _).mono ?_
  rintro e w1 ⟨rfl, hB1⟩
  have hD : (⟨(Lib.decDigits place).toArray⟩ : ByteArray) = decT place := rfl
  rw [hD]
  have R1 := hide (R0.out.below hB1 (by first | (simp; done) | (simp; omega)))
  have Z1 := hide (Z0.out.below hB1 (by first | (simp; done) | (simp; omega)))
  have B1 := hide (A0.out.trans (hB1.mono (by first | (simp; done) | (simp; omega))))
  have pP : w1.cell? ⟨w.heap.size, 0, none⟩ = some (.slice (some ⟨pb, po, none⟩) cnt cap1) := (hB1.cell (p := ⟨w.heap.size, 0, none⟩) (by first | (simp; done) | (simp; omega))).trans (box3 _ _ _ _ _ _ _ rfl)
  have O1 := hide (own_below HO.out B1.out (Nat.le_refl _))
  have hz1 : w.heap.size + 1 + 1 < w1.heap.size := Z1.out.1
  have hz0 : w.heap.size < w1.heap.size := by omega
  have hz01 : w.heap.size + 1 < w1.heap.size := by omega
  clear hB1 A0 R0 Z0 hD
  obtain ⟨d0, d1, d2⟩ := (HP.out.below B1.out (Nat.le_refl _)).2 place (by omega)
  rw [hop] at d0
  rw [hk] at d2
  have hpb : pb < w.heap.size := HP.out.1
  have d0' := (cell_far w1 ⟨w.heap.size + 1, 2, none⟩ ⟨pb, po + place * 3, none⟩ (.int .i64 ((steps : Int) + 1)) (by simp; omega)).trans d0
  have d1' := (cell_far w1 ⟨w.heap.size + 1, 2, none⟩ ⟨pb, po + place * 3 + 1, none⟩ (.int .i64 ((steps : Int) + 1)) (by simp; omega)).trans d1
  have d2' := (cell_far w1 ⟨w.heap.size + 1, 2, none⟩ ⟨pb, po + place * 3 + 2, none⟩ (.int .i64 ((steps : Int) + 1)) (by simp; omega)).trans d2
  have hne : ∀ j, w.heap.size ≤ j → Value.ownBlock (.slice a s.length cap) ≠ some j := fun j hj e => by have := (HO.out.lt j e).2; omega
  have R2 := hide ((R1.out.set2 (.int .i64 ((steps : Int) + 1))).al (.cells #[.int .i64 op, .string (f place).s, .int .i64 k] 127))
  have Z2 := hide ((Z1.out.other ⟨w.heap.size + 1, 2, none⟩ (.int .i64 ((steps : Int) + 1)) (by simp)).al (.cells #[.int .i64 op, .string (f place).s, .int .i64 k] 127))
  have O2 := hide ((ownsRow_setCell_other O1.out (a := ⟨w.heap.size + 1, 2, none⟩) (hne _ (by simp)) (.int .i64 ((steps : Int) + 1))).alloc (.cells #[.int .i64 op, .string (f place).s, .int .i64 k] 127))
  have B2 := hide ((B1.out.setCell (p := ⟨w.heap.size + 1, 2, none⟩) (by simp) (.int .i64 ((steps : Int) + 1))).alloc (by have := B1.out.size; simpa using this) (.cells #[.int .i64 op, .string (f place).s, .int .i64 k] 127))
  have g0 : ((w1.setCell ⟨w.heap.size + 1, 2, none⟩ (.int .i64 ((steps : Int) + 1))).alloc (.cells #[.int .i64 op, .string (f place).s, .int .i64 k] 127)).cell? ⟨w1.heap.size, 0, none⟩ = some (.int .i64 op) := box1 _ _ _ _ _ _ (by simp) rfl
  have g1 : ((w1.setCell ⟨w.heap.size + 1, 2, none⟩ (.int .i64 ((steps : Int) + 1))).alloc (.cells #[.int .i64 op, .string (f place).s, .int .i64 k] 127)).cell? ⟨w1.heap.size, 1, none⟩ = some (.string (f place).s) := box1 _ _ _ _ _ _ (by simp) rfl
  have g2 : ((w1.setCell ⟨w.heap.size + 1, 2, none⟩ (.int .i64 ((steps : Int) + 1))).alloc (.cells #[.int .i64 op, .string (f place).s, .int .i64 k] 127)).cell? ⟨w1.heap.size, 2, none⟩ = some (.int .i64 k) := box1 _ _ _ _ _ _ (by simp) rfl
  have hWz : w1.heap.size < ((w1.setCell ⟨w.heap.size + 1, 2, none⟩ (.int .i64 ((steps : Int) + 1))).alloc (.cells #[.int .i64 op, .string (f place).s, .int .i64 k] 127)).heap.size := by simp
  clear hne
  obtain ⟨chl, ⟨c0, f0⟩, ⟨c1, f1⟩, ⟨c2, f2⟩, ⟨c3, f3⟩, ⟨c4, f4⟩, ⟨c5, f5⟩, ⟨c6, f6⟩, ⟨c7, f7⟩, ⟨c8, f8⟩, c9, f9⟩ := R1.out
  go_wp2_with fail
  refine (l1Takes_any op _ ho1 ho2).mono ?_
  rintro e w9 ⟨rfl, hw9⟩
  subst hw9
  clear chl c0 f0 c1 f1 c2 f2 c3 f3 c4 f4 c5 f5 c6 f6 c7 f7 c8 f8 c9 f9
  clear d0 d1 d2 d0' d1' d2' hop hk
  generalize ((w1.setCell ⟨w.heap.size + 1, 2, none⟩ (.int .i64 ((steps : Int) + 1))).alloc (.cells #[.int .i64 op, .string (f place).s, .int .i64 k] 127)) = W at R2 Z2 O2 B2 g0 g1 g2 hWz ⊢
  obtain ⟨chl, ⟨c0, f0⟩, ⟨c1, f1⟩, ⟨c2, f2⟩, ⟨c3, f3⟩, ⟨c4, f4⟩, ⟨c5, f5⟩, ⟨c6, f6⟩, ⟨c7, f7⟩, ⟨c8, f8⟩, c9, f9⟩ := R2.out
  go_wp2_with fail
  refine (l1End_any _ _ _ _ _ _ _ _ _ _ _ _ _ _ _).mono ?_
  rintro e w5 ⟨rfl, hB5⟩
  have ZE := hide (Z2.out.below hB5 Z2.out.1)
  have B5 := hide (B2.out.trans (hB5.mono B2.out.size))
  clear hB5
  clear chl c0 f0 c1 f1 c2 f2 c3 f3 c4 f4 c5 f5 c6 f6 c7 f7 c8 f8 c9 f9
  obtain ⟨zhl, ⟨z0, y0⟩, ⟨z1, y1⟩, ⟨z2, y2⟩, ⟨z3, y3⟩, ⟨z4, y4⟩, ⟨z5, y5⟩, ⟨z6, y6⟩, ⟨z7, y7⟩, ⟨z8, y8⟩, z9, y9⟩ := ZE.out
  go_wp2
  refine bodyPost_ret (v := runV place (.slice a s.length cap) ((steps : Int) + 1) looks true 2 (decT place) false ⟨#[]⟩ false) (by simp [results, Tryd.results64, go_sem, z0, z1, z2, z3, z4, z5, z6, z7, z8, z9]) rfl ⟨_, rfl, ⟨_, _, _, _, _, rfl⟩, ten_set B5.out (by omega) _ _ _ _ _ _ _ _ _ _⟩


set_option maxRecDepth 1000000 in
set_option maxHeartbeats 4000000 in
theorem step_many (pb po cnt cap1 place steps looks : Nat) (f : Nat → Ins) (a : Option Addr) (s : List ByteArray) (cap b2 o2 n cap2 base : Nat) (y : Nat → Reply) (w : World)
    (hP : RowIns w pb po cnt f) (hY : RowReply w b2 o2 n y) (hO : w.ownsRow base 9 1 (.slice a s.length cap) s.length (strs s)) (hp : place ≤ 2000) (hst : steps ≤ 2000) (h1 : (place : Int) < cnt) (h2 : ((steps : Int) == 2000) = false) (op k : Nat) (hop : (f place).op = op) (hk : (f place).n = k) (ho1 : 1 ≤ op) (ho2 : op ≤ 15) (hs : s.length ≤ 50) (hA : ¬ (s.length : Int) < (takesOf op : Nat)) (hA2 : (50 : Int) < (s.length : Int) - (takesOf op : Nat) + (putsOf op : Nat)) (hm : putsOf op ≤ 2) :
    Calls Tryd.prog 64 #[.agg #[.slice (some ⟨pb, po, none⟩) cnt cap1], runV place (.slice a s.length cap) steps looks false 0 ⟨#[]⟩ false ⟨#[]⟩ false, .slice (some ⟨b2, o2, none⟩) n cap2] w fun e w' => ∃ v, e = .returned v ∧ SoIs w' w.heap.size v (.over 2 (decT place) (steps + 1)) ∧ Below w.heap.size w w' := by
  have HP := hide hP
  have HY := hide hY
  have HO := hide hO
  clear hP hY hO
  have A0 := hide ((((Below.refl w.heap.size w).alloc (Nat.le_refl _) (.cells #[.slice (some ⟨pb, po, none⟩) cnt cap1] 61)).alloc (by simp) (.cells #[.int .i64 place, .slice a s.length cap, .int .i64 steps, .int .i64 looks, .bool false, .int .i64 0, .string ⟨#[]⟩, .bool false, .string ⟨#[]⟩, .bool false] 104)).alloc (by first | (simp; done) | (simp; omega)) (.cells #[.int .i64 0, .slice none 0 0, .int .i64 0, .int .i64 0, .bool false, .int .i64 0, .string ⟨#[]⟩, .bool false, .string ⟨#[]⟩, .bool false] 104))
  have R0 := hide ((ten_new (w.alloc (.cells #[.slice (some ⟨pb, po, none⟩) cnt cap1] 61)) (.int .i64 place) (.slice a s.length cap) (.int .i64 steps) (.int .i64 looks) (.bool false) (.int .i64 0) (.string ⟨#[]⟩) (.bool false) (.string ⟨#[]⟩) (.bool false) 104 (w.heap.size + 1) (by simp)).al (.cells #[.int .i64 0, .slice none 0 0, .int .i64 0, .int .i64 0, .bool false, .int .i64 0, .string ⟨#[]⟩, .bool false, .string ⟨#[]⟩, .bool false] 104))
  have Z0 := hide (ten_new ((w.alloc (.cells #[.slice (some ⟨pb, po, none⟩) cnt cap1] 61)).alloc (.cells #[.int .i64 place, .slice a s.length cap, .int .i64 steps, .int .i64 looks, .bool false, .int .i64 0, .string ⟨#[]⟩, .bool false, .string ⟨#[]⟩, .bool false] 104)) (.int .i64 0) (.slice none 0 0) (.int .i64 0) (.int .i64 0) (.bool false) (.int .i64 0) (.string ⟨#[]⟩) (.bool false) (.string ⟨#[]⟩) (.bool false) 104 (w.heap.size + 1 + 1) (by simp))
  go_enter Tryd.func64, Tryd.ntmps64
  go_wp2_with fail
  refine (l1Dec_any place (by omega) _).mono ?_
  rintro e w1 ⟨rfl, hB1⟩
  have hD : (⟨(Lib.decDigits place).toArray⟩ : ByteArray) = decT place := rfl
  rw [hD]
  have R1 := hide (R0.out.below hB1 (by first | (simp; done) | (simp; omega)))
  have Z1 := hide (Z0.out.below hB1 (by first | (simp; done) | (simp; omega)))
  have B1 := hide (A0.out.trans (hB1.mono (by first | (simp; done) | (simp; omega))))
  have pP : w1.cell? ⟨w.heap.size, 0, none⟩ = some (.slice (some ⟨pb, po, none⟩) cnt cap1) := (hB1.cell (p := ⟨w.heap.size, 0, none⟩) (by first | (simp; done) | (simp; omega))).trans (box3 _ _ _ _ _ _ _ rfl)
  have O1 := hide (own_below HO.out B1.out (Nat.le_refl _))
  have hz1 : w.heap.size + 1 + 1 < w1.heap.size := Z1.out.1
  have hz0 : w.heap.size < w1.heap.size := by omega
  have hz01 : w.heap.size + 1 < w1.heap.size := by omega
  clear hB1 A0 R0 Z0 hD
  obtain ⟨d0, d1, d2⟩ := (HP.out.below B1.out (Nat.le_refl _)).2 place (by omega)
  rw [hop] at d0
  rw [hk] at d2
  have hpb : pb < w.heap.size := HP.out.1
  have d0' := (cell_far w1 ⟨w.heap.size + 1, 2, none⟩ ⟨pb, po + place * 3, none⟩ (.int .i64 ((steps : Int) + 1)) (by simp; omega)).trans d0
  have d1' := (cell_far w1 ⟨w.heap.size + 1, 2, none⟩ ⟨pb, po + place * 3 + 1, none⟩ (.int .i64 ((steps : Int) + 1)) (by simp; omega)).trans d1
  have d2' := (cell_far w1 ⟨w.heap.size + 1, 2, none⟩ ⟨pb, po + place * 3 + 2, none⟩ (.int .i64 ((steps : Int) + 1)) (by simp; omega)).trans d2
  have hne : ∀ j, w.heap.size ≤ j → Value.ownBlock (.slice a s.length cap) ≠ some j := fun j hj e => by have := (HO.out.lt j e).2; omega
  have R2 := hide ((R1.out.set2 (.int .i64 ((steps : Int) + 1))).al (.cells #[.int .i64 op, .string (f place).s, .int .i64 k] 127))
  have Z2 := hide ((Z1.out.other ⟨w.heap.size + 1, 2, none⟩ (.int .i64 ((steps : Int) + 1)) (by simp)).al (.cells #[.int .i64 op, .string (f place).s, .int .i64 k] 127))
  have O2 := hide ((ownsRow_setCell_other O1.out (a := ⟨w.heap.size + 1, 2, none⟩) (hne _ (by simp)) (.int .i64 ((steps : Int) + 1))).alloc (.cells #[.int .i64 op, .string (f place).s, .int .i64 k] 127))
  have B2 := hide ((B1.out.setCell (p := ⟨w.heap.size + 1, 2, none⟩) (by simp) (.int .i64 ((steps : Int) + 1))).alloc (by have := B1.out.size; simpa using this) (.cells #[.int .i64 op, .string (f place).s, .int .i64 k] 127))
  have g0 : ((w1.setCell ⟨w.heap.size + 1, 2, none⟩ (.int .i64 ((steps : Int) + 1))).alloc (.cells #[.int .i64 op, .string (f place).s, .int .i64 k] 127)).cell? ⟨w1.heap.size, 0, none⟩ = some (.int .i64 op) := box1 _ _ _ _ _ _ (by simp) rfl
  have g1 : ((w1.setCell ⟨w.heap.size + 1, 2, none⟩ (.int .i64 ((steps : Int) + 1))).alloc (.cells #[.int .i64 op, .string (f place).s, .int .i64 k] 127)).cell? ⟨w1.heap.size, 1, none⟩ = some (.string (f place).s) := box1 _ _ _ _ _ _ (by simp) rfl
  have g2 : ((w1.setCell ⟨w.heap.size + 1, 2, none⟩ (.int .i64 ((steps : Int) + 1))).alloc (.cells #[.int .i64 op, .string (f place).s, .int .i64 k] 127)).cell? ⟨w1.heap.size, 2, none⟩ = some (.int .i64 k) := box1 _ _ _ _ _ _ (by simp) rfl
  have hWz : w1.heap.size < ((w1.setCell ⟨w.heap.size + 1, 2, none⟩ (.int .i64 ((steps : Int) + 1))).alloc (.cells #[.int .i64 op, .string (f place).s, .int .i64 k] 127)).heap.size := by simp
  clear hne
  obtain ⟨chl, ⟨c0, f0⟩, ⟨c1, f1⟩, ⟨c2, f2⟩, ⟨c3, f3⟩, ⟨c4, f4⟩, ⟨c5, f5⟩, ⟨c6, f6⟩, ⟨c7, f7⟩, ⟨c8, f8⟩, c9, f9⟩ := R1.out
  go_wp2_with fail
  refine (l1Takes_any op _ ho1 ho2).mono ?_
  rintro e w9 ⟨rfl, hw9⟩
  subst hw9
  clear chl c0 f0 c1 f1 c2 f2 c3 f3 c4 f4 c5 f5 c6 f6 c7 f7 c8 f8 c9 f9
  clear d0 d1 d2 d0' d1' d2' hop hk
  generalize ((w1.setCell ⟨w.heap.size + 1, 2, none⟩ (.int .i64 ((steps : Int) + 1))).alloc (.cells #[.int .i64 op, .string (f place).s, .int .i64 k] 127)) = W at R2 Z2 O2 B2 g0 g1 g2 hWz ⊢
  obtain ⟨chl, ⟨c0, f0⟩, ⟨c1, f1⟩, ⟨c2, f2⟩, ⟨c3, f3⟩, ⟨c4, f4⟩, ⟨c5, f5⟩, ⟨c6, f6⟩, ⟨c7, f7⟩, ⟨c8, f8⟩, c9, f9⟩ := R2.out
  go_wp2_with fail
  refine (l1End_any _ _ _ _ _ _ _ _ _ _ _ _ _ _ _).mono ?_
  rintro e w5 ⟨rfl, hB5⟩
  have ZE := hide (Z2.out.below hB5 Z2.out.1)
  have B5 := hide (B2.out.trans (hB5.mono B2.out.size))
  clear hB5
  clear chl c0 f0 c1 f1 c2 f2 c3 f3 c4 f4 c5 f5 c6 f6 c7 f7 c8 f8 c9 f9
  obtain ⟨zhl, ⟨z0, y0⟩, ⟨z1, y1⟩, ⟨z2, y2⟩, ⟨z3, y3⟩, ⟨z4, y4⟩, ⟨z5, y5⟩, ⟨z6, y6⟩, ⟨z7, y7⟩, ⟨z8, y8⟩, z9, y9⟩ := ZE.out
  go_wp2
  refine bodyPost_ret (v := runV place (.slice a s.length cap) ((steps : Int) + 1) looks true 2 (decT place) false ⟨#[]⟩ false) (by simp [results, Tryd.results64, go_sem, z0, z1, z2, z3, z4, z5, z6, z7, z8, z9]) rfl ⟨_, rfl, ⟨_, _, _, _, _, rfl⟩, ten_set B5.out (by omega) _ _ _ _ _ _ _ _ _ _⟩


end Go.Proofs.YtoaokmdhbagniaaDoor.Vp
