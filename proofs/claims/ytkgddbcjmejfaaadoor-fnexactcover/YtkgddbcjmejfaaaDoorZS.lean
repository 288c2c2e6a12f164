/-
  Put together of: CoSpec.
-/
import Derived.Test.YtkgddbcjmejfaaaDoorZR
import Derived.Test.YtkgddbcjmejfaaaDoorZN

/-
  spec: Cover.
-/
namespace Go.Proofs.YtkgddbcjmejfaaaDoor.Vp
open Go.RowKit Go.Sort

theorem infoInt2 : (Tryd.prog.info? 3).map (fun i => (i.zero, i.size, i.bytes)) = some (some (.int .i64 0), 1, 8) := by kernel_rfl
/-- the numbers behind j names of account k. -/
def covJ (F : Nat → Acc) (t : ByteArray) (k j : Nat) : List Int := if seen (nams (F k).f (F k).n) t j = true then covL F t k ++ [(k : Int)] else covL F t k
theorem covJ_len (F : Nat → Acc) (t : ByteArray) (k j : Nat) : (covJ F t k j).length ≤ k + 1 := by
  have := covL_len F t k
  unfold covJ
  split
  · simp; omega
  · omega
theorem covJ_zero (F : Nat → Acc) (t : ByteArray) (k : Nat) : covJ F t k 0 = covL F t k := by simp [covJ, seen]
theorem covJ_end (F : Nat → Acc) (t : ByteArray) (k : Nat) : covJ F t k (nams (F k).f (F k).n).length = covL F t (k + 1) := by
  unfold covJ
  rw [seen_end]
  rfl

/-- a row of texts stands while another one grows. -/
theorem row_grown {w w' : World} {b off m : Nat} {f : Nat → ByteArray} {o : Option Nat} (h : RowStr w b off m f) (hg : w.grownBy w' o) (ho : ∀ g, o = some g → g < b) : RowStr w' b off m f := by
  have e := hg.block b h.1 (fun e => by have := ho b e.symm; omega)
  exact ⟨Nat.lt_of_lt_of_le h.1 hg.size, fun i hi => (World.cell?_of_block (w := w) (a := ⟨b, off + i, none⟩) e).trans (h.2 i hi)⟩

set_option maxRecDepth 100000 in
set_option maxHeartbeats 4000000 in
theorem specCover_any (b m cap : Nat) (F : Nat → Acc) (t : ByteArray) (w : World) (hm : (m : Int) ≤ 1048576) (hv : AccE w b m F) (hfit : ∀ i, i < m → FitsAcc (F i)) (hsz : ∀ i, i < m → SizedAcc (F i)) :
    Calls Tryd.prog 21 #[.slice (some ⟨b, 0, none⟩) m cap, .string t] w fun e w' => ∃ v, e = .returned v ∧ w'.ownsRow w.heap.size 3 1 v (cover F m t).length ((cover F m t).map encInt) ∧ Below w.heap.size w w' := by
  obtain ⟨i0, hi, hz0, hz1, hz2⟩ := info_parts infoInt2
  have HV := hide hv
  have HM := hide hfit
  have HZ := hide hsz
  clear hv hfit hsz
  obtain ⟨T, hT⟩ : ∃ T, T = cover F m t := ⟨_, rfl⟩
  rw [← hT]
  have HE := hide (show T = if 50 < m then [] else covL F t m from hT)
  clear hT
  have O0 := hide (own_lit w 3 1)
  have B0 := hide ((Below.refl w.heap.size w).alloc (Nat.le_refl _) (.cells #[] 3))
  go_enter Tryd.func21, Tryd.ntmps21
  by_cases hbig : 50 < m
  · obtain rfl : T = [] := by rw [HE.out, if_pos hbig]
    go_wp2
    go_ret
    exact ⟨_, rfl, O0.out, B0.out⟩
  obtain rfl : T = covL F t m := by rw [HE.out, if_neg hbig]
  clear HE
  go_wp2
  generalize w.alloc (.cells #[] 3) = W at O0 B0 ⊢
  go_loopw [5, 6] (fun v i wr => ∃ k : Nat, k ≤ m ∧ i = .int .i64 k ∧ Hid (wr.ownsRow w.heap.size 3 1 v (covL F t k).length ((covL F t k).map encInt)) ∧ Hid (Below w.heap.size w wr)) (fun _ i _ => m - (intOf i).toNat)
  case atStart => exact ⟨0, by omega, rfl, O0.out, B0.out⟩
  case round =>
    obtain ⟨k, hk, rfl, HO, HB⟩ := hrel
    by_cases hlt : k < m
    · obtain ⟨a0, c0, hr0⟩ := (HV.out.below HB.out (Nat.le_refl _)).2 k hlt
      have R2 := hide hr0
      have hf1 := (HM.out k hlt).1
      have hlen := covL_len F t k
      clear hr0
      go_wp2_with fail
      clear c0
      refine (specNames_new a0 (F k).n (F k).n (F k).f _ (by omega) R2.out (HM.out k hlt).2 (HZ.out k hlt).2).mono ?_
      rintro e w3 ⟨b3, off3, m3, c3, rfl, hm3, hR, hnew, hB⟩
      have M3 := hide hm3
      have R3 := hide hR
      have B3 := hide (HB.out.trans (hB.mono HB.out.size))
      have O3 := hide (own_below HO.out hB (Nat.le_refl _))
      have HBL : Hid (∀ g, u5.ownBlock = some g → g < b3) := fun g e => Nat.lt_of_lt_of_le (HO.out.lt g e).2 hnew
      have h3z : m3 ≤ 1048576 := by rw [hm3]; exact nams_len _ _
      clear hm3 hR hB hnew R2
      go_wp2
      go_loopw [5, 8] (fun v i w4 => ∃ j : Nat, j ≤ m3 ∧ i = .int .i64 j ∧ Hid (w4.ownsRow w.heap.size 3 1 v (covJ F t k j).length ((covJ F t k j).map encInt)) ∧ Hid (RowStr w4 b3 off3 m3 (nmF (nams (F k).f (F k).n))) ∧ Hid (seen (nams (F k).f (F k).n) t j = false → ∀ g, v.ownBlock = some g → g < b3) ∧ Hid (Below w.heap.size w w4)) (fun _ i _ => m3 - (intOf i).toNat)
      case atStart => exact ⟨0, by omega, rfl, by rw [covJ_zero]; exact O3.out, R3.out, fun _ => HBL.out, B3.out⟩
      case round =>
        obtain ⟨j, hj, rfl, HO4, HR4, HBL4, HB4⟩ := hrel
        have hlj := covJ_len F t k j
        by_cases hjl : j < m3
        · have c4 := HR4.out.2 j hjl
          have hjn : j < (nams (F k).f (F k).n).length := by have := M3.out; omega
          have HS := hide (seen_succ (t := t) hjn)
          cases hb : ((nmF (nams (F k).f (F k).n) j).toList == t.toList) with
          | false =>
            have HX : Hid (seen (nams (F k).f (F k).n) t (j + 1) = seen (nams (F k).f (F k).n) t j) := by show _ = _; rw [HS.out, hb, Bool.or_false]
            go_wp2
            exact ⟨⟨j + 1, by omega, by go_num, by unfold covJ; rw [HX.out]; exact HO4.out, HR4.out, fun h => HBL4.out (by rw [← HX.out]; exact h), HB4.out⟩, by simp [intOf]; omega⟩
          | true =>
            have HN := hide (seen_new (nams_asc (F k).f (F k).n) hjn (beq_iff_eq.1 hb))
            have HX : Hid (seen (nams (F k).f (F k).n) t (j + 1) = true) := by show _ = _; rw [HS.out, hb, Bool.or_true]
            have HJ : Hid (covJ F t k j = covL F t k) := by show _ = _; unfold covJ; rw [if_neg (by rw [HN.out]; simp)]
            have HJ1 : Hid (covJ F t k (j + 1) = covL F t k ++ [(k : Int)]) := by show _ = _; unfold covJ; rw [if_pos HX.out]
            have HBL5 := hide (HBL4.out HN.out)
            have O4 := HO4.out
            rw [HJ.out] at O4
            have HO5 := hide (World.ownsRow.alloc O4 (.cells #[.int .i64 (k : Int)] 3))
            have B5 := hide (HB4.out.alloc HB4.out.size (.cells #[.int .i64 (k : Int)] 3))
            have R5 := hide (HR4.out.below ((Below.refl _ _).alloc (Nat.le_refl _) (.cells #[.int .i64 (k : Int)] 3)) (Nat.le_refl _))
            have z5 := B5.out.size
            clear O4
            go_wp2_with (at_builtin; refine wpList_append_own _ rfl (.tmp 37) (.tmp 39) 41 rfl w.heap.size 3 i0 (.int .i64 0) 1 8 Tryd.underlying41 hi hz0 hz1 hz2 rfl (by decide) u5 (covL F t k).length ((covL F t k).map encInt) (by simp [Act.eval]) HO5.out ⟨wr.heap.size, 0, none⟩ 1 1 [.int .i64 (k : Int)] (by simp [Act.eval]) rfl (one_new wr _ _) (by simp [Value.oneCell']) (by unfold maxLen; omega) (by omega) z5 ?_; intro v6 w6 hown hgrow hnil; have O6 := hide hown; have B6 := hide (Below.grown B5.out hgrow z5 (fun j e => (HO5.out.lt j e).1)); have R6 := hide (row_grown R5.out hgrow HBL5.out); clear hown hgrow hnil)
            exact ⟨⟨j + 1, by omega, by go_num, by rw [HJ1.out, List.length_append, List.map_append]; exact O6.out, R6.out, fun h => by rw [HX.out] at h; simp at h, B6.out⟩, by simp [intOf]; omega⟩
        · obtain rfl : j = m3 := by omega
          have HJ : Hid (covJ F t k j = covL F t (k + 1)) := by show _ = _; rw [M3.out]; exact covJ_end F t k
          go_wp2
          exact ⟨⟨k + 1, by omega, by go_num, by rw [← HJ.out]; exact HO4.out, HB4.out⟩, by simp [intOf]; omega⟩
    · obtain rfl : k = m := by omega
      go_wp2
      go_ret
      exact ⟨_, rfl, HO.out, HB.out⟩

end Go.Proofs.YtkgddbcjmejfaaaDoor.Vp
