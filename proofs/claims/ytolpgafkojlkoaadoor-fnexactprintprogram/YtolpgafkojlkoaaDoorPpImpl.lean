/-
  impl.PrintProgram.
-/
import Derived.Test.YtolpgafkojlkoaaDoorPpImplP
import Derived.Test.YtolpgafkojlkoaaDoorPpProg
namespace Go.Proofs.YtolpgafkojlkoaaDoor.Vp
open Go.RowKit

set_option maxRecDepth 100000 in
set_option maxHeartbeats 2000000 in
theorem implPrint_row (b off n cap : Nat) (f : Nat → Ins) (w : World) (hn : n ≤ 1048576) (hb : b < w.heap.size) (hf : ∀ i, i < n → AtIns w b off i (f i)) (hT : Tab w) (hW : TabW w) (hP : Pow w) :
    Calls Tryd.prog 29 #[.agg #[.slice (some ⟨b, off, none⟩) n cap]] w fun e w' => e = .returned (.string ⟨(printed f n).toArray⟩) ∧ Below w.heap.size w w' := by
  have HF := hide hf
  have HT := hide hT
  have HW := hide hW
  have HP := hide hP
  have hT0 := hT.1
  clear hf hT hW hP
  have B0 : Hid (Below w.heap.size w (w.alloc (.cells #[.slice (some ⟨b, off, none⟩) n cap] 57))) := (Below.refl _ _).alloc (Nat.le_refl _) _
  go_enter Tryd.func29, Tryd.ntmps29
  go_wp2_with fail
  refine (implValid_any b off n cap f _ hn (by simp; omega) (fun i hi => (HF.out i hi).below B0.out hb) (HT.out.below B0.out hT0)).mono ?_
  rintro e w1 ⟨rfl, hB⟩
  have B1 := hide (B0.out.trans (hB.mono (by simp)))
  have hc0 : w1.cell? ⟨w.heap.size, 0, none⟩ = some (.slice (some ⟨b, off, none⟩) n cap) := by
    rw [hB.cell (p := ⟨w.heap.size, 0, none⟩) (by simp)]; simp
  have hsz : w.heap.size + 1 ≤ w1.heap.size := by have := hB.size; simpa using this
  clear hB
  cases hv : valid f n with
  | false =>
    have HR : Hid (printed f n = []) := by
      show printed f n = []
      simp [printed, hv]
    clear hv
    go_wp2
    go_ret
    exact ⟨ret_str (by rw [HR.out]), B1.out⟩
  | true =>
    have HR : Hid (printed f n = progTo f n) := by
      show printed f n = progTo f n
      simp [printed, hv]
    obtain ⟨ok, h1, h2⟩ := valid_parts hv
    have OK := hide ok
    clear hv ok
    have hc1 : ∀ o, (w1.alloc o).cell? ⟨w.heap.size, 0, none⟩ = some (.slice (some ⟨b, off, none⟩) n cap) := fun o => by
      rw [((Below.refl w1.heap.size w1).alloc (Nat.le_refl _) o).cell (p := ⟨w.heap.size, 0, none⟩) (by simp; omega), hc0]
    go_wp2
    clear hc1
    go_loopw [12] (fun i wr => ∃ k : Nat, k ≤ n ∧ i = .int .i64 k ∧ Bd wr w1.heap.size w1.heap.size (progTo f k) ∧ Below w1.heap.size w1 wr ∧ w1.heap.size < wr.heap.size) (fun i _ => n - (intOf i).toNat)
    case atStart => exact ⟨0, by omega, rfl, Bd.new w1, (Below.refl _ _).alloc (Nat.le_refl _) _, by simp⟩
    case round =>
      obtain ⟨k, hk, rfl, hD, hB, hszr⟩ := hrel
      have HB := hide hB
      have HD := hide hD
      have hlen := progTo_le OK.out k hk
      clear hB hD
      by_cases hlt : k < n
      · have BW := hide (B1.out.trans (HB.out.mono (by omega)))
        obtain ⟨c0, c1, c2⟩ := (HF.out k hlt).below BW.out hb
        have hline := lineB_le _ _ _ (ok_at OK.out hlt)
        go_wp2_with fail
        have A1 := hide ((Below.refl wr.heap.size wr).alloc (Nat.le_refl _) (.cells #[.int .i64 (f k).op, .string (f k).s, .int .i64 (f k).n] 93))
        have BA := hide (BW.out.trans (A1.out.mono (by omega)))
        refine (printIns_any _ _ _ _ (ok_at OK.out hlt) (HT.out.below BA.out hT0) (HW.out.below BA.out hT0) (HP.out.below BA.out (Nat.le_refl _))).mono ?_
        rintro e w2 ⟨rfl, hB2⟩
        have D2 := hide ((HD.out.below A1.out (Nat.le_refl _)).below hB2 (Nat.le_refl _))
        have B2 : Hid (Below w1.heap.size w1 w2) := (HB.out.trans (A1.out.mono (by omega))).trans (hB2.mono (by simp; omega))
        have hs2 : w1.heap.size < w2.heap.size := Nat.lt_of_lt_of_le hszr (Nat.le_trans A1.out.size hB2.size)
        clear hB2 c0 c1 c2
        go_wp2_with fail
        refine (writeString_any w1.heap.size w1.heap.size _ _ _ D2.out (by omega) (by omega)).mono ?_
        rintro e w3 ⟨⟨x, rfl⟩, hD3, hB3⟩
        have D3 := hide hD3
        have B3 := hide (B2.out.trans hB3)
        have hs3 := Nat.lt_of_lt_of_le hs2 hB3.size
        clear hD3 hB3
        go_wp2_with fail
        refine (writeByte_any w1.heap.size w1.heap.size _ 10 _ D3.out (by simp only [List.length_append]; omega) (by omega)).mono ?_
        rintro e w4 ⟨rfl, hD4, hB4⟩
        have D4 := hide hD4
        have B4 := hide (B3.out.trans hB4)
        have hs4 := Nat.lt_of_lt_of_le hs3 hB4.size
        clear hD4 hB4
        go_wp2
        exact ⟨⟨k + 1, by omega, by go_num, by rw [progTo]; simpa using D4.out, B4.out, hs4⟩, by simp [intOf]; omega⟩
      · have e : k = n := by omega
        subst e
        go_wp2_with fail
        refine (string_any w1.heap.size w1.heap.size _ _ HD.out (by omega)).mono ?_
        rintro e w3 ⟨rfl, hB3⟩
        go_wp2
        go_ret
        exact ⟨ret_str (by rw [HR.out]), (B1.out.trans (HB.out.mono (by omega))).trans (hB3.mono (by omega))⟩

end Go.Proofs.YtolpgafkojlkoaaDoor.Vp
