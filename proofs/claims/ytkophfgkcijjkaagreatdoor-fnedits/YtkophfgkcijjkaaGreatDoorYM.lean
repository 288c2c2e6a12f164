import Derived.Test.YtkophfgkcijjkaaGreatDoorZT
import Derived.Test.YtkophfgkcijjkaaGreatDoorYI
import Derived.Test.YtkophfgkcijjkaaGreatDoorZA
namespace Go.Proofs.YtkophfgkcijjkaaGreatDoor.Vp
open Go.RowKit
theorem neqSource (x : Source) (w : World) : (binOp .neq 100 (.agg #[.string x.name, .string x.text]) (.agg #[.string x.name, .string x.text])).run Tryz.prog w = .ok (.bool false) w := by
  have hS : Tryz.prog.underlying 100 = some (.struct (Tryz.prog.fieldsOf 100)) := by kernel_rfl
  have hp : Tryz.prog.stoodInHeld 100 = false := by kernel_rfl
  rw [run_neq_struct, show (10000 : Nat) = 9999 + 1 from rfl, run_equalIn_agg w 9999 100 _ _ hS hp]
  simp only [Program.fieldsOf, Tryz.underlying100]
  go_simp
set_option maxRecDepth 100000 in
set_option maxHeartbeats 4000000 in
theorem wSpace_same (n0 c0 n1 c1 d0 d1 : Nat) (a0 a1 b0 b1 : Option Addr) (f0 : Nat → Source) (f1 : Nat → Target) (w : World) (hn0 : n0 ≤ 1048576) (hn1 : n1 ≤ 1048576) (hs : SlSource w a0 n0 f0) (ht : SlSource w b0 n0 f0) (hfit : ∀ i, i < n1 → FitsTarget (f1 i))
    (hA : ∀ i, i < n1 → ∃ tb g c, a1 = some ⟨tb, 0, none⟩ ∧ tb < w.heap.size ∧ w.cell? ⟨tb, i * 2, none⟩ = some (.string (f1 i).name) ∧ w.cell? ⟨tb, i * 2 + 1, none⟩ = some (.slice (some ⟨g, 0, none⟩) (f1 i).actN c) ∧ RowIns w g 0 (f1 i).actN (f1 i).act)
    (hB : ∀ i, i < n1 → ∃ tb g c, b1 = some ⟨tb, 0, none⟩ ∧ tb < w.heap.size ∧ w.cell? ⟨tb, i * 2, none⟩ = some (.string (f1 i).name) ∧ w.cell? ⟨tb, i * 2 + 1, none⟩ = some (.slice (some ⟨g, 0, none⟩) (f1 i).actN c) ∧ RowIns w g 0 (f1 i).actN (f1 i).act) :
    Calls Tryz.prog 12 #[.agg #[.slice a0 n0 c0, .slice a1 n1 c1], .agg #[.slice b0 n0 d0, .slice b1 n1 d1]] w fun e w' => e = .returned (.bool true) ∧ Below w.heap.size w w' := by
  have HSS := hide hs
  have HT := hide ht
  have HA := hide hA
  have HB := hide hB
  clear hs ht hA hB
  have A0 := hide (((Below.refl w.heap.size w).alloc (Nat.le_refl _) (.cells #[.slice a0 n0 c0, .slice a1 n1 c1] 26)).alloc (by simp) (.cells #[.slice b0 n0 d0, .slice b1 n1 d1] 26))
  have K0 : Hid (((w.alloc (.cells #[.slice a0 n0 c0, .slice a1 n1 c1] 26)).alloc (.cells #[.slice b0 n0 d0, .slice b1 n1 d1] 26)).heap[w.heap.size]? = some (.cells #[.slice a0 n0 c0, .slice a1 n1 c1] 26 (0, 0))) := by
    show _ = _
    rw [heap_alloc_old _ _ (by simp)]
    exact heap_alloc_new w _
  have K1 : Hid (((w.alloc (.cells #[.slice a0 n0 c0, .slice a1 n1 c1] 26)).alloc (.cells #[.slice b0 n0 d0, .slice b1 n1 d1] 26)).heap[w.heap.size + 1]? = some (.cells #[.slice b0 n0 d0, .slice b1 n1 d1] 26 (0, 0))) := heap_alloc2_new w _ _
  go_enter Tryz.func12, Tryz.ntmps12
  go_wp2_with fail
  generalize (w.alloc (.cells #[.slice a0 n0 c0, .slice a1 n1 c1] 26)).alloc (.cells #[.slice b0 n0 d0, .slice b1 n1 d1] 26) = W0 at A0 K0 K1 ⊢
  have l0 := heap_in K0.out
  have l1 := heap_in K1.out
  go_loopw [5] (fun i wr => ∃ k : Nat, k ≤ n0 ∧ i = .int .i64 k ∧ Hid (Below W0.heap.size W0 wr)) (fun i _ => n0 - (intOf i).toNat)
  case atStart => exact ⟨0, by omega, rfl, Below.refl _ _⟩
  case round =>
    obtain ⟨k, hk, rfl, HW⟩ := hrel
    have kb := (HW.out.block w.heap.size l0).trans K0.out
    have kc := (HW.out.block (w.heap.size + 1) l1).trans K1.out
    have z0 : wr.cell? ⟨w.heap.size, 0, none⟩ = some (.slice a0 n0 c0) := by simp [World.cell?, kb]
    have z1 : wr.cell? ⟨w.heap.size, 1, none⟩ = some (.slice a1 n1 c1) := by simp [World.cell?, kb]
    have y0 : wr.cell? ⟨w.heap.size + 1, 0, none⟩ = some (.slice b0 n0 d0) := by simp [World.cell?, kc]
    have y1 : wr.cell? ⟨w.heap.size + 1, 1, none⟩ = some (.slice b1 n1 d1) := by simp [World.cell?, kc]
    have l2 := heap_in kb
    have l3 := heap_in kc
    clear kb kc
    have HC := hide (A0.out.trans (HW.out.mono (by omega)))
    by_cases hlt : k < n0
    · rcases HSS.out.below HC.out (Nat.le_refl _) with h | ⟨sb, so, rfl, hr⟩
      · omega
      rcases HT.out.below HC.out (Nat.le_refl _) with h | ⟨tb, sp, rfl, hq⟩
      · omega
      obtain ⟨e0, e1⟩ := hr.2 k hlt
      obtain ⟨g0, g1⟩ := hq.2 k hlt
      have hsb := hr.1
      have htb := hq.1
      clear hr hq
      have hlt2 : (k : Int) < n0 := by omega
      have hne := neqSource (f0 k)
      go_wp2_with fail
      go_quiet (fail)
      have B1 := hide (below_drewN HW.out nq)
      clear e0 e1 g0 g1 hne z0 z1 y0 y1
      generalize wr.drewN nq = W at B1 ⊢
      go_wp2
      exact ⟨⟨k + 1, by omega, by go_num, B1.out⟩, by simp [intOf]; omega⟩
    · obtain rfl : k = n0 := by omega
      go_wp2_with fail
      clear z0 z1 y0 y1 l2 l3
      go_loopw [6] (fun i wx => ∃ j : Nat, j ≤ n1 ∧ i = .int .i64 j ∧ Hid (Below W0.heap.size W0 wx)) (fun i _ => n1 - (intOf i).toNat)
      case atStart => exact ⟨0, by omega, rfl, HW.out⟩
      case round =>
        clear HC HW
        obtain ⟨j, hj, rfl, HW⟩ := hrel
        have kb := (HW.out.block w.heap.size l0).trans K0.out
        have kc := (HW.out.block (w.heap.size + 1) l1).trans K1.out
        have z1 : wr.cell? ⟨w.heap.size, 1, none⟩ = some (.slice a1 n1 c1) := by simp [World.cell?, kb]
        have y1 : wr.cell? ⟨w.heap.size + 1, 1, none⟩ = some (.slice b1 n1 d1) := by simp [World.cell?, kc]
        have l2 := heap_in kb
        have l3 := heap_in kc
        clear kb kc
        have HC := hide (A0.out.trans (HW.out.mono (by omega)))
        by_cases hlt2 : j < n1
        · obtain ⟨ta, ga, ca, rfl, hta, e0, e1, hra⟩ := HA.out j hlt2
          obtain ⟨tb, gb, cb, rfl, htb, g0, g1, hrb⟩ := HB.out j hlt2
          have e0 := (HC.out.cell (p := ⟨ta, j * 2, none⟩) hta).trans e0
          have e1 := (HC.out.cell (p := ⟨ta, j * 2 + 1, none⟩) hta).trans e1
          have g0 := (HC.out.cell (p := ⟨tb, j * 2, none⟩) htb).trans g0
          have g1 := (HC.out.cell (p := ⟨tb, j * 2 + 1, none⟩) htb).trans g1
          have hi2 : (j : Int) < n1 := by omega
          go_wp2_with fail
          refine wp_region_held_drew (S := fun V => V.cell? ⟨w.heap.size, 1, none⟩ = some (.slice (some ⟨ta, 0, none⟩) n1 c1) ∧ V.cell? ⟨w.heap.size + 1, 1, none⟩ = some (.slice (some ⟨tb, 0, none⟩) n1 d1) ∧ V.cell? ⟨ta, j * 2, none⟩ = some (.string (f1 j).name) ∧ V.cell? ⟨ta, j * 2 + 1, none⟩ = some (.slice (some ⟨ga, 0, none⟩) (f1 j).actN ca) ∧ V.cell? ⟨tb, j * 2, none⟩ = some (.string (f1 j).name) ∧ V.cell? ⟨tb, j * 2 + 1, none⟩ = some (.slice (some ⟨gb, 0, none⟩) (f1 j).actN cb)) (by as_aux_lemma => kernel_rfl) ⟨z1, y1, e0, e1, g0, g1⟩ (fun hS => ?_)
          have HS := hide hS
          clear hS
          iterate 26
            refine anyS_nx 0 (v := ?_) rfl rfl (by as_aux_lemma => kernel_rfl) (fun _ _ _ h => h) rfl ?_ HS.out ?_
            rotate_left
            · (intro wz hSw; obtain ⟨s0, s1, s2, s3, s4, s5⟩ := hSw; go_simp)
              (try with_reducible rfl)
            (try simp only [Act.put, nzL])
          refine anyS_one (i := 26) rfl (by as_aux_lemma => kernel_rfl) (fun K hK => ?_)
          go_simp
          go_at_call 63
          have hrA := (hra.below HC.out (Nat.le_refl _)).below (Below.refl wr.heap.size wr).drew (Nat.le_refl _)
          have hrB := (hrb.below HC.out (Nat.le_refl _)).below (Below.refl wr.heap.size wr).drew (Nat.le_refl _)
          refine (wProgram_same ga ca gb cb (f1 j).actN (f1 j).act _ (hfit j hlt2) hrA.1 hrB.1 hrA.2 hrB.2).mono ?_
          rintro e w5 ⟨rfl, hB5⟩
          have BT : Hid (Below wr.heap.size wr w5) := (Below.refl wr.heap.size wr).drew.trans hB5
          have hzc := HC.out.size
          clear hB5 HS hrA hrB
          have HS := hide (show w5.cell? ⟨w.heap.size, 1, none⟩ = some (.slice (some ⟨ta, 0, none⟩) n1 c1) ∧ w5.cell? ⟨w.heap.size + 1, 1, none⟩ = some (.slice (some ⟨tb, 0, none⟩) n1 d1) ∧ w5.cell? ⟨ta, j * 2, none⟩ = some (.string (f1 j).name) ∧ w5.cell? ⟨ta, j * 2 + 1, none⟩ = some (.slice (some ⟨ga, 0, none⟩) (f1 j).actN ca) ∧ w5.cell? ⟨tb, j * 2, none⟩ = some (.string (f1 j).name) ∧ w5.cell? ⟨tb, j * 2 + 1, none⟩ = some (.slice (some ⟨gb, 0, none⟩) (f1 j).actN cb) from ⟨(BT.out.cell (p := ⟨w.heap.size, 1, none⟩) l2).trans z1, (BT.out.cell (p := ⟨w.heap.size + 1, 1, none⟩) l3).trans y1, (BT.out.cell (p := ⟨ta, j * 2, none⟩) (by show ta < wr.heap.size; omega)).trans e0, (BT.out.cell (p := ⟨ta, j * 2 + 1, none⟩) (by show ta < wr.heap.size; omega)).trans e1, (BT.out.cell (p := ⟨tb, j * 2, none⟩) (by show tb < wr.heap.size; omega)).trans g0, (BT.out.cell (p := ⟨tb, j * 2 + 1, none⟩) (by show tb < wr.heap.size; omega)).trans g1⟩)
          refine hK.out _ _ HS.out ?_
          clear hK K
          (try simp only [Act.put, nzL])
          iterate 2
            refine anyS_on 27 rfl rfl (by as_aux_lemma => kernel_rfl) (fun K hK => ?_)
            go_simp
            refine hK.out _ _ HS.out ?_
            clear hK K
            (try simp only [Act.put, nzL])
          refine wpAnyH_done (by as_aux_lemma => kernel_rfl) ?_ _
          have B6 := hide (HW.out.trans (BT.out.mono HW.out.size))
          clear HS z1 y1 e0 e1 g0 g1
          go_wp2
          exact ⟨⟨j + 1, by omega, by go_num, B6.out⟩, by simp [intOf]; omega⟩
        · obtain rfl : j = n1 := by omega
          go_wp2
          go_ret
          exact ⟨rfl, HC.out⟩
end Go.Proofs.YtkophfgkcijjkaaGreatDoor.Vp
