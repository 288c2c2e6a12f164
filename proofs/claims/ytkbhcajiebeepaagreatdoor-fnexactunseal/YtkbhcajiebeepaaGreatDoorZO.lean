/-
  Put together of: SeBits.
-/
import Derived.Test.YtkbhcajiebeepaaGreatDoorZM
import Derived.Lib.BufferMore
import Derived.Laws.Bits64b

/-
  Seal: a number in base 16: internal/strconv.formatBits.
-/
namespace Go.Proofs.YtkbhcajiebeepaaGreatDoor.Vp
open Go.RowKit

set_option maxHeartbeats 1000000 in
theorem pow2_16 (w : World) : Calls Tryz.prog 120 #[.int .i64 16] w fun e w' => e = .returned (.bool true) ∧ w' = w := by
  go_enter Tryz.func120, Tryz.ntmps120
  go_wp2
  go_ret
  exact ⟨rfl, rfl⟩

theorem hexAt36 (k : Nat) (h : k < 16) (w : World) : (Instr.index 9 (.string ⟨#[48, 49, 50, 51, 52, 53, 54, 55, 56, 57, 97, 98, 99, 100, 101, 102, 103, 104, 105, 106, 107, 108, 109, 110, 111, 112, 113, 114, 115, 116, 117, 118, 119, 120, 121, 122]⟩) (.int .u64 (k : Int))).run Tryz.prog w = .ok (.int .u8 (hexD k).toNat) w := by
  rcases (show k = 0 ∨ k = 1 ∨ k = 2 ∨ k = 3 ∨ k = 4 ∨ k = 5 ∨ k = 6 ∨ k = 7 ∨ k = 8 ∨ k = 9 ∨ k = 10 ∨ k = 11 ∨ k = 12 ∨ k = 13 ∨ k = 14 ∨ k = 15 by omega) with rfl | rfl | rfl | rfl | rfl | rfl | rfl | rfl | rfl | rfl | rfl | rfl | rfl | rfl | rfl | rfl
  all_goals kernel_rfl
theorem and15 (q : Nat) (h : q ≤ 18446744073709551615) : bits BinOp.and IntKind.u64 (q : Int) 15 = ((q % 16 : Nat) : Int) := by
  have h1 := bits_and_u64_nat q 15 (by omega) (by omega)
  rw [show q &&& 15 = q % 16 from Nat.and_two_pow_sub_one_eq_mod q 4] at h1
  exact h1
theorem slice65 (g r k : Nat) (h : r + 1 + k = 65) (V : World) : (Instr.sliceAt 160 (.pointer (some ⟨g, 0, none⟩)) (some (.int .i64 (r : Int))) none none).run Tryz.prog V = .ok (.slice (some ⟨g, r, none⟩) (k + 1) (k + 1)) V := by
  have hal : Tryz.prog.arrayLen 160 = 65 := by kernel_rfl
  have hel : Tryz.prog.elem 160 = 5 := by kernel_rfl
  have ht : Tryz.prog.underlying 160 = some (.array (Tryz.prog.arrayLen 160) (Tryz.prog.elem 160)) := by kernel_rfl
  rw [run_sliceAt_array_l V 160 ⟨g, 0, none⟩ ht .i64 (r : Int) (by omega) (by rw [hal]; omega), hel, hal]
  have hadd : (⟨g, 0, none⟩ : Addr).add (r * 1) = ⟨g, r, none⟩ := by unfold Addr.add; split <;> simp_all
  rw [Tryz.sizeOf5]
  simp only [Result.andThen_ok, slicedAt, Int.toNat_natCast]
  rw [if_neg (by omega), hadd]
  have e : 65 - r = k + 1 := by omega
  rw [e]
theorem put_digit {N k r d : Nat} {cs : Array Value} (hr : r < cs.size) (hd : N / 16 ^ k % 16 = d) (h : ∀ j, j < k → cs[r + 1 + j]? = (Lib.byteCells (digTo N k))[j]?) : ∀ j, j < k + 1 → (cs.setIfInBounds r (.int .u8 (hexD d).toNat))[r + j]? = (Lib.byteCells (digTo N (k + 1)))[j]? := by
  intro j hj
  rw [digTo, hd]
  cases j with
  | zero => simp [Lib.byteCells, hr]
  | succ j =>
    have h1 := h j (by omega)
    rw [show r + 1 + j = r + (j + 1) by omega] at h1
    rw [Array.getElem?_setIfInBounds_ne (by omega), h1]
    simp [Lib.byteCells]
theorem top16 {N k q : Nat} (hN : N ≤ 18446744073709551615) (hk : k ≤ 15) (hq : q = N / 16 ^ k) (h16 : 16 ≤ q) : k < 15 := by
  rcases Nat.lt_or_ge k 15 with h | h
  · exact h
  · obtain rfl : k = 15 := by omega
    have : q ≤ 15 := by rw [hq]; omega
    omega

def Deb (w : World) : Prop := w.cell? ⟨10, 15, none⟩ = some (.int .u8 4)
set_option maxHeartbeats 1000000 in
theorem tz64_16 (w : World) (h : Deb w) : Calls Tryz.prog 136 #[.int .u64 16] w fun e w' => e = .returned (.int .i64 4) ∧ w' = w := by
  unfold Deb at h
  have hq : IntKind.u64.wrap (bits BinOp.and IntKind.u64 16 (IntKind.u64.wrap (-16)) * 285870213051353865) / 288230376151711744 = 15 := by kernel_rfl
  go_enter Tryz.func136, Tryz.ntmps136
  go_wp2
  go_ret
  exact ⟨rfl, rfl⟩
set_option maxHeartbeats 1000000 in
theorem tz_16 (w : World) (h : Deb w) : Calls Tryz.prog 121 #[.int .u64 16] w fun e w' => e = .returned (.int .i64 4) ∧ w' = w := by
  have H := hide h
  clear h
  go_enter Tryz.func121, Tryz.ntmps121
  go_wp2_with fail
  refine (tz64_16 _ H.out).mono ?_
  rintro e w1 ⟨rfl, rfl⟩
  go_wp2
  go_ret
  exact ⟨rfl, rfl⟩

set_option maxRecDepth 100000 in
set_option maxHeartbeats 2000000 in
theorem formatBits_16 (N : Nat) (w : World) (hN : N ≤ 18446744073709551615) (h : Deb w) (hg : 10 < w.heap.size) :
    Calls Tryz.prog 98 #[.slice none 0 0, .int .u64 (N : Int), .int .i64 16, .bool false, .bool false] w fun e w' => ∃ m : Nat, m ≤ 16 ∧ N < 16 ^ m ∧ e = .returned (.tuple #[.slice none 0 0, .string ⟨(digTo N m).toArray⟩]) ∧ Below w.heap.size w w' := by
  have H := hide h
  clear h
  go_enter Tryz.func98, Tryz.ntmps98
  go_wp2_with fail
  have A0 := hide ((Below.refl w.heap.size w).alloc (Nat.le_refl _) (.cells Tryz.zeroCells160 160))
  have HA : Hid ((w.alloc (.cells Tryz.zeroCells160 160)).heap[w.heap.size]? = some (.cells Tryz.zeroCells160 160)) := heap_alloc_new w _
  have HD : Hid (Deb (w.alloc (.cells Tryz.zeroCells160 160))) := (A0.out.cell (p := ⟨10, 15, none⟩) hg).trans H.out
  have hcs : (Tryz.zeroCells160).size = 65 := by kernel_rfl
  generalize Tryz.zeroCells160 = C0 at A0 HA HD hcs ⊢
  generalize w.alloc (.cells C0 160) = W at A0 HA HD ⊢
  refine (pow2_16 _).mono ?_
  rintro e w1 ⟨rfl, rfl⟩
  go_wp2_with fail
  refine (tz_16 _ HD.out).mono ?_
  rintro e w2 ⟨rfl, rfl⟩
  go_wp2
  have hwg : w.heap.size < w2.heap.size := (Array.getElem?_eq_some_iff.1 HA.out).1
  generalize hgg : w.heap.size = g at HA ⊢
  go_loopw [1, 13] (fun u i wr => ∃ (k q p : Nat) (cs : Array Value), p + k = 65 ∧ k ≤ 15 ∧ Hid (q = N / 16 ^ k) ∧ q ≤ 18446744073709551615 ∧ u = .int .u64 q ∧ i = .int .i64 p ∧ Hid (wr.heap[g]? = some (.cells cs 160)) ∧ cs.size = 65 ∧ Hid (∀ j, j < k → cs[p + j]? = (Lib.byteCells (digTo N k))[j]?) ∧ Hid (Below g w2 wr)) (fun u _ _ => (intOf u).toNat)
  case atStart => exact ⟨0, N, 65, C0, by omega, by omega, by show _ = _; simp, hN, rfl, rfl, HA.out, hcs, fun j hj => absurd hj (Nat.not_lt_zero _), Below.refl _ _⟩
  case round =>
    obtain ⟨k, q, p, cs, hpk, hk, HQ, hqb, rfl, rfl, HG, hsz, HC, HB⟩ := hrel
    obtain ⟨r, rfl⟩ : ∃ r, p = r + 1 := ⟨p - 1, by omega⟩
    have hgz : g < wr.heap.size := (Array.getElem?_eq_some_iff.1 HG.out).1
    have cr : wr.cell? ⟨g, r, none⟩ = some cs[r] := by simp [World.cell?, HG.out, show r < cs.size by omega]
    have fr : wr.frozen? ⟨g, r, none⟩ = false := by simp [World.frozen?, HG.out]
    have hp1 : ((r + 1 : Nat) : Int) - 1 = r := by omega
    by_cases hge : (16 : Int) ≤ q
    · have hk15 := top16 hN hk HQ.out (by omega)
      obtain ⟨d, hd⟩ : ∃ d : Nat, d = q % 16 := ⟨_, rfl⟩
      obtain ⟨e, he⟩ : ∃ e : Nat, e = q / 16 := ⟨_, rfl⟩
      have ha := and15 q hqb
      rw [← hd] at ha
      have hix := hexAt36 d (by omega)
      have hd1 : (q : Int) / 16 = (e : Int) := by omega
      have HE : Hid (e = N / 16 ^ (k + 1)) := by show _ = _; rw [he, HQ.out, Nat.div_div_eq_div_mul, Nat.pow_succ]
      have heb : e < q := by omega
      have HC2 := hide (put_digit (N := N) (k := k) (r := r) (d := d) (cs := cs) (by omega) (by rw [← HQ.out, ← hd]) HC.out)
      clear hd he
      go_wp2
      exact ⟨⟨k + 1, e, r, cs.setIfInBounds r (.int .u8 (hexD d).toNat), by omega, by omega, HE.out, by omega, rfl, rfl, Lib.heap_setCell_same HG.out _, by simp [hsz], HC2.out, HB.out.setCell (p := ⟨g, r, none⟩) (Nat.le_refl _) _⟩, by simp [intOf]; omega⟩
    · have hq16 : q < 16 := by omega
      have hix := hexAt36 q hq16
      have hsl := slice65 g r k (by omega)
      have HC2 := hide (put_digit (N := N) (k := k) (r := r) (d := q) (cs := cs) (by omega) (by rw [← HQ.out]; omega) HC.out)
      have hcv : (convert 60 9 (.slice (some ⟨g, r, none⟩) (k + 1) (k + 1))).run Tryz.prog (wr.setCell ⟨g, r, none⟩ (.int .u8 (hexD q).toNat)) = .ok (.string ⟨(digTo N (k + 1)).toArray⟩) (wr.setCell ⟨g, r, none⟩ (.int .u8 (hexD q).toNat)) := by
        have h1 := run_convert_bytes_back (P := Tryz.prog) (wr.setCell ⟨g, r, none⟩ (.int .u8 (hexD q).toNat)) 60 9 5 ⟨g, r, none⟩ (k + 1) (digTo N (k + 1)) Tryz.underlying60 Tryz.underlying5 Tryz.underlying9 (fun j hj => by
          have hj2 : j < k + 1 := by rw [digTo_len] at hj; exact hj
          have h2 := HC2.out j hj2
          have hadd : (⟨g, r, none⟩ : Addr).add j = ⟨g, r + j, none⟩ := by unfold Addr.add; split <;> simp_all
          rw [hadd]
          have h3 := Lib.heap_setCell_same (i := r) HG.out (.int .u8 (hexD q).toNat)
          simp only [World.cell?, h3]
          rw [h2]
          simp [Lib.byteCells, hj])
        rw [digTo_len] at h1
        exact h1
      have BF := hide (HB.out.setCell (p := ⟨g, r, none⟩) (Nat.le_refl _) (.int .u8 (hexD q).toNat))
      have HTOP : Hid (N < 16 ^ (k + 1)) := by
        show N < 16 ^ (k + 1)
        have h1 : N / 16 ^ k < 16 := by rw [← HQ.out]; exact hq16
        rw [Nat.pow_succ, Nat.mul_comm]
        exact (Nat.div_lt_iff_lt_mul (Nat.pow_pos (by omega))).1 h1
      have AF := A0.out
      rw [hgg] at AF
      have BF2 := hide (AF.trans BF.out)
      clear AF
      go_wp2
      go_ret2
      exact ⟨k + 1, by omega, HTOP.out, rfl, BF2.out⟩

end Go.Proofs.YtkbhcajiebeepaaGreatDoor.Vp
