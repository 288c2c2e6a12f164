/-
  FnProgram: DrawValidProgram.
-/
import Derived.Test.YtpefignfaooonaaGreatDoorZFpProg
import Derived.Test.YtpefignfaooonaaGreatDoorZFpSpoil
namespace Go.Proofs.YtpefignfaooonaaGreatDoor.Vp
open Go.RowKit

set_option maxRecDepth 100000 in
set_option maxHeartbeats 4000000 in
theorem drawValid_any (a : Option Addr) (n cap : Nat) (w : World) (hn : (n : Int) ≤ 1048576) (hc : n ≤ cap) (hS : ByteSl w a n) :
    Calls Tryz.prog 11 #[.slice a n cap] w fun e w' => ∃ (L : List I3) (g c : Nat), e = .returned (.agg #[.slice (some ⟨g, 0, none⟩) L.length c]) ∧ IR w' w.heap.size g c L ∧ L.length ≤ 201 ∧ (∀ i ∈ L, i.2.1.length ≤ 5000) ∧ Below w.heap.size w w' := by
  have A0 := hide ((Below.refl w.heap.size w).alloc (Nat.le_refl _) (.cells #[.slice none 0 0] 24))
  have S0 := hide (hS.below A0.out (Nat.le_refl _))
  have P0 : Hid (PB (w.alloc (.cells #[.slice none 0 0] 24)) w.heap.size (.slice none 0 0)) := heap_alloc_new w _
  clear hS
  go_enter Tryz.func11, Tryz.ntmps11
  go_wp2_with fail
  generalize w.alloc (.cells #[.slice none 0 0] 24) = W0 at A0 S0 P0 ⊢
  have z0 := P0.out.lt
  refine (l1Open_any a n cap _ hn hc S0.out).mono ?_
  rintro e W1 ⟨R, rfl, hRz, hR, hB⟩
  have R1 := hide hR
  have B1 := hide (A0.out.trans (hB.mono (by omega)))
  have P1 := hide (P0.out.below hB z0)
  have hRl := hR.lt
  clear hB hR A0 S0 P0
  go_wp2_with fail
  refine (l1DrawProgram_any R 0 _ R1.out (by omega)).mono ?_
  rintro e W2 ⟨L, g, c, rfl, hI, hlo, hL, hT, q, hq, hR, hO⟩
  have X2 := hO.below (B := w.heap.size) (by omega) (by omega)
  have B2 := B1.out.trans X2
  have P2 := P1.out.only hO (by omega)
  have gz := hI.lt
  have AL := (Below.refl W2.heap.size W2).alloc (Nat.le_refl _) (.cells #[.slice (some ⟨g, 0, none⟩) L.length c] 24)
  have R3 := hide (hR.below AL (Nat.le_refl _))
  have I3 := hide (hI.below AL (Nat.le_refl _))
  have P3 := hide (P2.below AL P2.lt)
  have B3 := hide (B2.trans (AL.mono B2.size))
  have Q3 : Hid (PB (W2.alloc (.cells #[.slice (some ⟨g, 0, none⟩) L.length c] 24)) W2.heap.size (.slice (some ⟨g, 0, none⟩) L.length c)) := heap_alloc_new W2 _
  have hT' := hide hT
  have z2 : R < W2.heap.size := hR.lt
  clear hI hR hO AL B2 P2 R1 B1 P1 hT X2
  go_upto_region 3 with fail
  generalize W2.alloc (.cells #[.slice (some ⟨g, 0, none⟩) L.length c] 24) = W3 at R3 I3 P3 B3 Q3 ⊢
  go_wp2_with fail
  refine (pick_any R _ 2 _ R3.out (by omega) (by omega) (by omega)).mono ?_
  rintro e W4 ⟨z, rfl, zz0, zz1, hR, hO⟩
  have X4 := hO.below (B := w.heap.size) (by omega) B3.out.size
  have R4 := hide hR
  have I4 := hide (I3.out.only hO hRl)
  have P4 := hide (P3.out.only hO (by omega))
  have Q4 := hide (Q3.out.only hO (by omega))
  have B4 := hide (B3.out.trans X4)
  clear hR hO X4 R3 I3 P3 Q3 B3
  have q0 := Q4.out.c0
  have ql := Q4.out.lt
  rcases (show z = 0 ∨ z = 1 by omega) with rfl | rfl
  · go_wp2_with fail
    refine (l1Spoil_any R (q + 1) g c L _ W1.heap.size R4.out (by omega) I4.out (by omega) (List.length_pos_iff.1 (by omega)) hT'.out).mono ?_
    rintro e W5 ⟨M, g5, c5, rfl, hI, hlo5, hL5, hT5, q5, hq5, hR, hO⟩
    have P5 := P4.out.only hO (by omega)
    have B5 := B4.out.trans (hO.below (B := w.heap.size) (by omega) B4.out.size)
    have d0 := P5.c0
    have d1 := P5.fz 0
    have zl := P5.lt
    have I5 := own_setP (own_mono hI (show w.heap.size + 1 ≤ W4.heap.size by omega)) (show w.heap.size < w.heap.size + 1 by omega) (j := 0) (.slice (some ⟨g5, 0, none⟩) M.length c5)
    have F5 := hide (P5.set (.slice (some ⟨g5, 0, none⟩) M.length c5))
    have I5' := hide (own_mono I5 (show w.heap.size ≤ w.heap.size + 1 by omega))
    have B5' := hide (B5.setCell (p := ⟨w.heap.size, 0, none⟩) (Nat.le_refl _) (.slice (some ⟨g5, 0, none⟩) M.length c5))
    have HT5 := hide hT5
    clear hI hR hO I5 B5 P5 hT5
    go_wp2
    try simp only [Exit.inBlock, Exit.then]
    refine bodyPost_ret (res_prog1 rfl _ _ w.heap.size _ rfl F5.out) rfl ?_
    exact ⟨M, g5, c5, rfl, I5'.out, hL5, HT5.out, B5'.out⟩
  · have d0 := P4.out.c0
    have d1 := P4.out.fz 0
    have zl := P4.out.lt
    have I5 := own_setP (own_mono I4.out (show w.heap.size + 1 ≤ W1.heap.size by omega)) (show w.heap.size < w.heap.size + 1 by omega) (j := 0) (.slice (some ⟨g, 0, none⟩) L.length c)
    have F5 := hide (P4.out.set (.slice (some ⟨g, 0, none⟩) L.length c))
    have I5' := hide (own_mono I5 (show w.heap.size ≤ w.heap.size + 1 by omega))
    have B5' := hide (B4.out.setCell (p := ⟨w.heap.size, 0, none⟩) (Nat.le_refl _) (.slice (some ⟨g, 0, none⟩) L.length c))
    clear I5
    go_wp2
    try simp only [Exit.inBlock, Exit.then]
    refine bodyPost_ret (res_prog1 rfl _ _ w.heap.size _ rfl F5.out) rfl ?_
    exact ⟨L, g, c, rfl, I5'.out, by omega, hT'.out, B5'.out⟩

end Go.Proofs.YtpefignfaooonaaGreatDoor.Vp
