/-
  Instructions compared as a whole: slices.Equal (impl), l4Same (spec).
-/
import Derived.Test.YtfhdecheaeoopaaGreatDoorZInsB
import Derived.Laws.StructEq
namespace Go.Proofs.YtfhdecheaeoopaaGreatDoor.Vp
open Go.RowKit

theorem neqIns (x y : Ins) (w : World) : (binOp .neq 120 (.agg #[.int .i64 x.op, .string x.s, .int .i64 x.n]) (.agg #[.int .i64 y.op, .string y.s, .int .i64 y.n])).run Tryz.prog w = .ok (.bool (!insB x y)) w := by
  have hS : Tryz.prog.underlying 120 = some (.struct (Tryz.prog.fieldsOf 120)) := by kernel_rfl
  have hp : Tryz.prog.stoodInHeld 120 = false := by kernel_rfl
  rw [run_neq_struct, show (10000 : Nat) = 9999 + 1 from rfl, run_equalIn_agg w 9999 120 _ _ hS hp]
  simp only [Program.fieldsOf, Tryz.underlying120]
  go_simp
  unfold insB
  by_cases h1 : x.op = y.op <;> by_cases h2 : x.s.toList = y.s.toList <;> by_cases h3 : x.n = y.n <;> simp [h1, h2, h3]

set_option maxRecDepth 100000 in
set_option maxHeartbeats 2000000 in
theorem equalIns_row (b off n cap : Nat) (f : Nat → Ins) (b' off' cap' : Nat) (g : Nat → Ins) (w : World) (hn : n ≤ 1048576) (hf : RowIns w b off n f) (hg : RowIns w b' off' n g) :
    Calls Tryz.prog 65 #[.slice (some ⟨b, off, none⟩) n cap, .slice (some ⟨b', off', none⟩) n cap'] w fun e w' => e = .returned (.bool (insTo f g n)) ∧ ∃ m, w' = w.drewN m := by
  have HF := hide hf
  have HG := hide hg
  clear hf hg
  go_enter Tryz.func65, Tryz.ntmps65
  go_wp2
  go_loopw [13] (fun i wr => ∃ k : Nat, k ≤ n ∧ i = .int .i64 k ∧ Hid (insTo f g k = true) ∧ Hid (∃ q, wr = w.drewN q)) (fun i _ => n - (intOf i).toNat)
  case atStart => exact ⟨0, by omega, rfl, rfl, 0, rfl⟩
  case round =>
    obtain ⟨k, hk, rfl, HK, HW⟩ := hrel
    have HB : Hid (Below w.heap.size w wr) := by obtain ⟨q, hq⟩ := HW.out; rw [hq]; exact below_drewN (Below.refl _ _) q
    by_cases hlt : k < n
    · obtain ⟨c0, c1, c2⟩ := (HF.out.below HB.out (Nat.le_refl _)).2 k hlt
      obtain ⟨d0, d1, d2⟩ := (HG.out.below HB.out (Nat.le_refl _)).2 k hlt
      have hlt2 : (k : Int) < n := by omega
      have hne := neqIns (f k) (g k)
      go_wp2_with fail
      go_quiet (fail)
      have B1 : Hid (∃ q, wr.drewN nq = w.drewN q) := by obtain ⟨q, hq⟩ := HW.out; exact ⟨q + nq, by rw [hq, World.drewN_drewN]⟩
      clear c0 c1 c2 d0 d1 d2 hne
      generalize wr.drewN nq = W at B1 ⊢
      cases hb : insB (f k) (g k) with
      | true =>
        have HQ := hide hb
        clear hb
        go_wp2
        exact ⟨⟨k + 1, by omega, by go_num, by show insTo f g (k + 1) = true; rw [insTo, HK.out, HQ.out]; rfl, B1.out⟩, by simp [intOf]; omega⟩
      | false =>
        have HQ := hide hb
        clear hb
        go_wp2
        go_ret
        exact ⟨ret_bool (insTo_false hlt HQ.out).symm, B1.out⟩
    · obtain rfl : k = n := by omega
      go_wp2
      go_ret
      exact ⟨ret_bool HK.out.symm, HW.out⟩

set_option maxHeartbeats 1000000 in
theorem equalIns_nil (a : Option Addr) (cap : Nat) (a' : Option Addr) (cap' : Nat) (w : World) :
    Calls Tryz.prog 65 #[.slice a 0 cap, .slice a' 0 cap'] w fun e w' => e = .returned (.bool true) ∧ w' = w := by
  go_enter Tryz.func65, Tryz.ntmps65
  go_wp2
  go_loop [13] (fun i => i = .int .i64 0) (fun _ => 0)
  case atStart => rfl
  case round =>
    subst hrel
    go_wp2
    go_ret
    exact ⟨rfl, rfl⟩
set_option maxHeartbeats 1000000 in
theorem equalIns_off (a : Option Addr) (n cap : Nat) (a' : Option Addr) (m cap' : Nat) (w : World) (h : (n : Int) ≠ m) :
    Calls Tryz.prog 65 #[.slice a n cap, .slice a' m cap'] w fun e w' => e = .returned (.bool false) ∧ w' = w := by
  have h2 : ((n : Int) == (m : Int)) = false := by simpa using h
  go_enter Tryz.func65, Tryz.ntmps65
  go_wp2
  go_ret
  exact ⟨rfl, rfl⟩
theorem equalIns_any (a : Option Addr) (n cap : Nat) (f : Nat → Ins) (a' : Option Addr) (m cap' : Nat) (g : Nat → Ins) (w : World) (hn : n ≤ 1048576) (hm : m ≤ 1048576) (hf : SlIns w a n f) (hg : SlIns w a' m g) :
    Calls Tryz.prog 65 #[.slice a n cap, .slice a' m cap'] w fun e w' => e = .returned (.bool (codeB f g n m)) ∧ ∃ m, w' = w.drewN m := by
  by_cases h : n = m
  · subst h
    have hc : codeB f g n n = insTo f g n := by simp [codeB]
    rw [hc]
    rcases hf with rfl | ⟨b, off, rfl, hf⟩
    · exact (equalIns_nil a cap a' cap' w).mono fun e w' ⟨p, q⟩ => ⟨p, 0, by rw [q]; rfl⟩
    · rcases hg with rfl | ⟨b', off', rfl, hg⟩
      · exact (equalIns_nil _ cap a' cap' w).mono fun e w' ⟨p, q⟩ => ⟨p, 0, by rw [q]; rfl⟩
      · exact equalIns_row b off n cap f b' off' cap' g w hn hf hg
  · have hc : codeB f g n m = false := by simp [codeB, h]
    rw [hc]
    exact (equalIns_off a n cap a' m cap' w (by omega)).mono fun e w' ⟨p, q⟩ => ⟨p, 0, by rw [q]; rfl⟩

set_option maxRecDepth 100000 in
set_option maxHeartbeats 2000000 in
theorem l4Same_row (b off n cap : Nat) (f : Nat → Ins) (b' off' cap' : Nat) (g : Nat → Ins) (w : World) (hn : n ≤ 1048576) (hf : RowIns w b off n f) (hg : RowIns w b' off' n g) :
    Calls Tryz.prog 49 #[.agg #[.slice (some ⟨b, off, none⟩) n cap], .agg #[.slice (some ⟨b', off', none⟩) n cap']] w fun e w' => e = .returned (.bool (insTo f g n)) ∧ Below w.heap.size w w' := by
  have A0 := hide (((Below.refl w.heap.size w).alloc (Nat.le_refl _) (.cells #[.slice (some ⟨b, off, none⟩) n cap] 51)).alloc (by simp) (.cells #[.slice (some ⟨b', off', none⟩) n cap'] 51))
  have k0 : ((w.alloc (.cells #[.slice (some ⟨b, off, none⟩) n cap] 51)).alloc (.cells #[.slice (some ⟨b', off', none⟩) n cap'] 51)).cell? ⟨w.heap.size, 0, none⟩ = some (.slice (some ⟨b, off, none⟩) n cap) := by simp [go_sem]
  have k1 : ((w.alloc (.cells #[.slice (some ⟨b, off, none⟩) n cap] 51)).alloc (.cells #[.slice (some ⟨b', off', none⟩) n cap'] 51)).cell? ⟨w.heap.size + 1, 0, none⟩ = some (.slice (some ⟨b', off', none⟩) n cap') := by simp [go_sem]
  have hz : w.heap.size + 1 < ((w.alloc (.cells #[.slice (some ⟨b, off, none⟩) n cap] 51)).alloc (.cells #[.slice (some ⟨b', off', none⟩) n cap'] 51)).heap.size := by simp
  have HF := hide hf
  have HG := hide hg
  clear hf hg
  go_enter Tryz.func49, Tryz.ntmps49
  go_wp2
  generalize (w.alloc (.cells #[.slice (some ⟨b, off, none⟩) n cap] 51)).alloc (.cells #[.slice (some ⟨b', off', none⟩) n cap'] 51) = W at A0 k0 k1 hz ⊢
  go_loopw [5] (fun i wr => ∃ k : Nat, k ≤ n ∧ i = .int .i64 k ∧ Hid (insTo f g k = true) ∧ Hid (Below W.heap.size W wr)) (fun i _ => n - (intOf i).toNat)
  case atStart => exact ⟨0, by omega, rfl, rfl, Below.refl _ _⟩
  case round =>
    obtain ⟨k, hk, rfl, HK, HB⟩ := hrel
    have B0 := hide (A0.out.trans (HB.out.mono A0.out.size))
    have l0 := (HB.out.cell (p := ⟨w.heap.size, 0, none⟩) (by show w.heap.size < _; omega)).trans k0
    have l1 := (HB.out.cell (p := ⟨w.heap.size + 1, 0, none⟩) hz).trans k1
    have hzr : w.heap.size + 1 < wr.heap.size := Nat.lt_of_lt_of_le hz HB.out.size
    by_cases hlt : k < n
    · obtain ⟨c0, c1, c2⟩ := (HF.out.below B0.out (Nat.le_refl _)).2 k hlt
      obtain ⟨d0, d1, d2⟩ := (HG.out.below B0.out (Nat.le_refl _)).2 k hlt
      have hlt2 : (k : Int) < n := by omega
      have hne := neqIns (f k) (g k)
      go_wp2_with fail
      go_quiet (fail)
      have B1 := hide (below_drewN HB.out nq)
      have B2 := hide (below_drewN B0.out nq)
      clear c0 c1 c2 d0 d1 d2 hne l0 l1 hzr
      generalize wr.drewN nq = W' at B1 B2 ⊢
      cases hb : insB (f k) (g k) with
      | true =>
        have HQ := hide hb
        clear hb
        go_wp2
        exact ⟨⟨k + 1, by omega, by go_num, by show insTo f g (k + 1) = true; rw [insTo, HK.out, HQ.out]; rfl, B1.out⟩, by simp [intOf]; omega⟩
      | false =>
        have HQ := hide hb
        clear hb
        go_wp2
        go_ret
        exact ⟨ret_bool (insTo_false hlt HQ.out).symm, B2.out⟩
    · obtain rfl : k = n := by omega
      go_wp2
      go_ret
      exact ⟨ret_bool HK.out.symm, B0.out⟩
set_option maxHeartbeats 1000000 in
theorem l4Same_nil (a : Option Addr) (cap : Nat) (a' : Option Addr) (cap' : Nat) (w : World) :
    Calls Tryz.prog 49 #[.agg #[.slice a 0 cap], .agg #[.slice a' 0 cap']] w fun e w' => e = .returned (.bool true) ∧ Below w.heap.size w w' := by
  have A0 := hide (((Below.refl w.heap.size w).alloc (Nat.le_refl _) (.cells #[.slice a 0 cap] 51)).alloc (by simp) (.cells #[.slice a' 0 cap'] 51))
  go_enter Tryz.func49, Tryz.ntmps49
  go_wp2
  go_loop [5] (fun i => i = .int .i64 0) (fun _ => 0)
  case atStart => rfl
  case round =>
    subst hrel
    go_wp2
    go_ret
    exact ⟨rfl, A0.out⟩
set_option maxHeartbeats 1000000 in
theorem l4Same_off (a : Option Addr) (n cap : Nat) (a' : Option Addr) (m cap' : Nat) (w : World) (h : (n : Int) ≠ m) :
    Calls Tryz.prog 49 #[.agg #[.slice a n cap], .agg #[.slice a' m cap']] w fun e w' => e = .returned (.bool false) ∧ Below w.heap.size w w' := by
  have A0 := hide (((Below.refl w.heap.size w).alloc (Nat.le_refl _) (.cells #[.slice a n cap] 51)).alloc (by simp) (.cells #[.slice a' m cap'] 51))
  have h2 : ((n : Int) == (m : Int)) = false := by simpa using h
  go_enter Tryz.func49, Tryz.ntmps49
  go_wp2
  go_ret
  exact ⟨rfl, A0.out⟩
theorem l4Same_any (a : Option Addr) (n cap : Nat) (f : Nat → Ins) (a' : Option Addr) (m cap' : Nat) (g : Nat → Ins) (w : World) (hn : n ≤ 1048576) (hm : m ≤ 1048576) (hf : SlIns w a n f) (hg : SlIns w a' m g) :
    Calls Tryz.prog 49 #[.agg #[.slice a n cap], .agg #[.slice a' m cap']] w fun e w' => e = .returned (.bool (codeB f g n m)) ∧ Below w.heap.size w w' := by
  by_cases h : n = m
  · subst h
    have hc : codeB f g n n = insTo f g n := by simp [codeB]
    rw [hc]
    rcases hf with rfl | ⟨b, off, rfl, hf⟩
    · exact l4Same_nil a cap a' cap' w
    · rcases hg with rfl | ⟨b', off', rfl, hg⟩
      · exact l4Same_nil _ cap a' cap' w
      · exact l4Same_row b off n cap f b' off' cap' g w hn hf hg
  · have hc : codeB f g n m = false := by simp [codeB, h]
    rw [hc]
    exact l4Same_off a n cap a' m cap' w (by omega)

end Go.Proofs.YtfhdecheaeoopaaGreatDoor.Vp
