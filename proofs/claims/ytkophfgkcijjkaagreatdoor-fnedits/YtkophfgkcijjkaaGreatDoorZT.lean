import Derived.Test.YtkophfgkcijjkaaGreatDoorZS
import Derived.Laws.StructEq
namespace Go.Proofs.YtkophfgkcijjkaaGreatDoor.Vp
open Go.RowKit
theorem neqSame (x : Ins) (w : World) : (binOp .neq 176 (.agg #[.int .i64 x.op, .string x.s, .int .i64 x.n]) (.agg #[.int .i64 x.op, .string x.s, .int .i64 x.n])).run Tryz.prog w = .ok (.bool false) w := by
  have hS : Tryz.prog.underlying 176 = some (.struct (Tryz.prog.fieldsOf 176)) := by kernel_rfl
  have hp : Tryz.prog.stoodInHeld 176 = false := by kernel_rfl
  rw [run_neq_struct, show (10000 : Nat) = 9999 + 1 from rfl, run_equalIn_agg w 9999 176 _ _ hS hp]
  simp only [Program.fieldsOf, Tryz.underlying176]
  go_simp
set_option maxRecDepth 100000 in
set_option maxHeartbeats 2000000 in
theorem wProgram_same (b c b' c' n : Nat) (f : Nat → Ins) (w : World) (hn : n ≤ 1048576) (hb : b < w.heap.size) (hb' : b' < w.heap.size) (hf : ∀ i, i < n → AtIns w b 0 i (f i)) (hg : ∀ i, i < n → AtIns w b' 0 i (f i)) :
    Calls Tryz.prog 63 #[.agg #[.slice (some ⟨b, 0, none⟩) n c], .agg #[.slice (some ⟨b', 0, none⟩) n c']] w fun e w' => e = .returned (.bool true) ∧ Below w.heap.size w w' := by
  have HF := hide hf
  have HG := hide hg
  clear hf hg
  have A0 := hide (((Below.refl w.heap.size w).alloc (Nat.le_refl _) (.cells #[.slice (some ⟨b, 0, none⟩) n c] 31)).alloc (by simp) (.cells #[.slice (some ⟨b', 0, none⟩) n c'] 31))
  have P0 : Hid (PB ((w.alloc (.cells #[.slice (some ⟨b, 0, none⟩) n c] 31)).alloc (.cells #[.slice (some ⟨b', 0, none⟩) n c'] 31)) w.heap.size (.slice (some ⟨b, 0, none⟩) n c)) := by
    show _ = _
    rw [heap_alloc_old _ _ (by simp)]
    exact heap_alloc_new w _
  have P1 : Hid (PB ((w.alloc (.cells #[.slice (some ⟨b, 0, none⟩) n c] 31)).alloc (.cells #[.slice (some ⟨b', 0, none⟩) n c'] 31)) (w.heap.size + 1) (.slice (some ⟨b', 0, none⟩) n c')) := heap_alloc2_new w _ _
  go_enter Tryz.func63, Tryz.ntmps63
  go_upto_region 1 with fail
  generalize (w.alloc (.cells #[.slice (some ⟨b, 0, none⟩) n c] 31)).alloc (.cells #[.slice (some ⟨b', 0, none⟩) n c'] 31) = W0 at A0 P0 P1 ⊢
  have z0 := P0.out.c0
  have z1 := P1.out.c0
  have l0 := P0.out.lt
  have l1 := P1.out.lt
  go_wp2
  clear z0 z1
  go_loopw [5] (fun i wr => ∃ k : Nat, k ≤ n ∧ i = .int .i64 k ∧ Hid (∃ q, wr = W0.drewN q)) (fun i _ => n - (intOf i).toNat)
  case atStart => exact ⟨0, by omega, rfl, 0, rfl⟩
  case round =>
    obtain ⟨k, hk, rfl, HW⟩ := hrel
    have HB : Hid (Below W0.heap.size W0 wr) := by obtain ⟨q, hq⟩ := HW.out; rw [hq]; exact below_drewN (Below.refl _ _) q
    have z0 := (P0.out.below HB.out l0).c0
    have z1 := (P1.out.below HB.out l1).c0
    have l2 := HB.out.size
    by_cases hlt : k < n
    · obtain ⟨c0, c1, c2⟩ := (HF.out k hlt).below (A0.out.trans (HB.out.mono (by omega))) hb
      obtain ⟨d0, d1, d2⟩ := (HG.out k hlt).below (A0.out.trans (HB.out.mono (by omega))) hb'
      rw [Nat.zero_add] at c0 c1 c2 d0 d1 d2
      have hlt2 : (k : Int) < n := by omega
      have hne := neqSame (f k)
      go_wp2_with fail
      go_quiet (fail)
      have B1 : Hid (∃ q, wr.drewN nq = W0.drewN q) := by obtain ⟨q, hq⟩ := HW.out; exact ⟨q + nq, by rw [hq, World.drewN_drewN]⟩
      clear c0 c1 c2 d0 d1 d2 hne z0 z1
      generalize wr.drewN nq = W at B1 ⊢
      go_wp2
      exact ⟨⟨k + 1, by omega, by go_num, B1.out⟩, by simp [intOf]; omega⟩
    · obtain rfl : k = n := by omega
      go_wp2
      go_ret
      exact ⟨rfl, A0.out.trans (HB.out.mono (by omega))⟩
end Go.Proofs.YtkophfgkcijjkaaGreatDoor.Vp
