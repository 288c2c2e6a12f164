/-
  impl: Cover.
-/
import Derived.Test.YtggchgpphhhleaaDoorZNmImpl2
import Derived.Test.YtggchgpphhhleaaDoorZL
import Derived.Test.YtggchgpphhhleaaDoorZCoPure
namespace Go.Proofs.YtggchgpphhhleaaDoor.Vp
open Go.RowKit Go.Maps Go.Sort

theorem infoInt : (Tryd.prog.info? 3).map (fun i => (i.zero, i.size, i.bytes)) = some (some (.int .i64 0), 1, 8) := by kernel_rfl

set_option maxHeartbeats 2000000 in
theorem index_str (b off n cap : Nat) (L : List (List UInt8)) (t : ByteArray) (w : World) (hn : n = L.length) (hm : (n : Int) ≤ 1048576) (hR : RowStr w b off n (nmF L)) :
    Calls Tryd.prog 66 #[.slice (some ⟨b, off, none⟩) n cap, .string t] w fun e w' => ∃ r : Int, e = .returned (.int .i64 r) ∧ decide (0 ≤ r) = decide (t.toList ∈ L) ∧ w' = w := by
  have HR := hide hR
  have HN := hide hn
  have HE := hide (show seen L t n = decide (t.toList ∈ L) by rw [hn]; exact seen_end L t)
  clear hR hn
  go_enter Tryd.func66, Tryd.ntmps66
  go_wp2
  go_loop [8] (fun i => ∃ k : Nat, k ≤ n ∧ i = .int .i64 k ∧ Hid (seen L t k = false)) (fun i => n - (intOf i).toNat)
  case atStart => exact ⟨0, by omega, rfl, by show seen L t 0 = false; simp [seen]⟩
  case round =>
    obtain ⟨k, hk, rfl, HK⟩ := hrel
    by_cases hlt : k < n
    · have c0 := HR.out.2 k hlt
      have HS := hide (seen_succ (L := L) (t := t) (j := k) (by have := HN.out; omega))
      cases hb : ((nmF L k).toList == t.toList) with
      | true =>
        have HB := hide hb
        have hb2 : (t.toList == (nmF L k).toList) = true := by rw [beq_iff_eq] at hb ⊢; exact hb.symm
        have HI := hide (show t.toList ∈ L by rw [← beq_iff_eq.1 hb, nmF_at (by have := HN.out; omega)]; exact List.getElem_mem _)
        clear hb
        go_wp2
        go_ret
        exact ⟨k, rfl, by simp [HI.out], rfl⟩
      | false =>
        have HB := hide hb
        have hb2 : (t.toList == (nmF L k).toList) = false := by rw [beq_eq_false_iff_ne] at hb ⊢; exact fun h => hb h.symm
        clear hb
        go_wp2
        exact ⟨⟨k + 1, by omega, by go_num, by show seen L t (k + 1) = false; rw [HS.out, HK.out, HB.out]; rfl⟩, by simp [intOf]; omega⟩
    · have e : k = n := by omega
      subst e
      go_wp2
      go_ret
      have h2 : ¬ t.toList ∈ L := by have h1 := HE.out; rw [HK.out] at h1; simpa using h1.symm
      exact ⟨-1, rfl, by simp [h2], rfl⟩
set_option maxHeartbeats 1000000 in
theorem index_strNil (a0 : Option Addr) (c : Nat) (t : ByteArray) (w : World) :
    Calls Tryd.prog 66 #[.slice a0 0 c, .string t] w fun e w' => ∃ r : Int, e = .returned (.int .i64 r) ∧ decide (0 ≤ r) = false ∧ w' = w := by
  go_enter Tryd.func66, Tryd.ntmps66
  go_wp2
  go_loop [8] (fun i => i = .int .i64 0) (fun _ => 0)
  case atStart => rfl
  case round =>
    subst hrel
    go_wp2
    go_ret
    first
      | exact ⟨-1, rfl, rfl, rfl⟩
      | exact ⟨-1, rfl, by decide, rfl⟩
      | exact ⟨⟨-1, rfl, by decide⟩, rfl⟩
      | exact ⟨-1, by decide, rfl⟩
theorem index_strAny (p : Option Addr) (cap : Nat) (L : List (List UInt8)) (t : ByteArray) (w : World) (hm : (L.length : Int) ≤ 1048576) (hS : SlStr w p L.length (nmF L)) :
    Calls Tryd.prog 66 #[.slice p L.length cap, .string t] w fun e w' => ∃ r : Int, e = .returned (.int .i64 r) ∧ decide (0 ≤ r) = decide (t.toList ∈ L) ∧ w' = w := by
  rcases hS with h | ⟨b, off, rfl, hR⟩
  · rw [h]
    have h2 : L = [] := List.length_eq_zero_iff.1 h
    exact (index_strNil p cap t w).mono fun e w' ⟨r, h3, h4, h5⟩ => ⟨r, h3, by rw [h4, h2]; simp, h5⟩
  · exact index_str b off _ cap L t w rfl hm hR
set_option maxHeartbeats 1000000 in
theorem contains_str (p : Option Addr) (cap : Nat) (L : List (List UInt8)) (t : ByteArray) (w : World) (hm : (L.length : Int) ≤ 1048576) (hS : SlStr w p L.length (nmF L)) :
    Calls Tryd.prog 51 #[.slice p L.length cap, .string t] w fun e w' => e = .returned (.bool (decide (t.toList ∈ L))) ∧ w' = w := by
  have HQ := hide (index_strAny p cap L t w hm hS)
  obtain ⟨A, hA⟩ : ∃ A, A = decide (t.toList ∈ L) := ⟨_, rfl⟩
  rw [← hA]
  rw [← hA] at HQ
  clear hA hS
  go_enter Tryd.func51, Tryd.ntmps51
  go_wp2_with fail
  refine HQ.out.mono ?_
  rintro e w1 ⟨r, rfl, hd, rfl⟩
  have HD := hide hd
  clear hd
  go_wp2
  go_ret
  exact ⟨ret_bool HD.out, rfl⟩

set_option maxRecDepth 100000 in
set_option maxHeartbeats 4000000 in
theorem implCover_any (b m cap : Nat) (F : Nat → Acc) (t : ByteArray) (w : World) (hm : (m : Int) ≤ 1048576) (hv : AccE w b m F) (hfit : ∀ i, i < m → FitsAcc (F i)) (hsz : ∀ i, i < m → SizedAcc (F i)) (hT : Tab w) :
    Calls Tryd.prog 26 #[.slice (some ⟨b, 0, none⟩) m cap, .string t] w fun e w' => ∃ v, e = .returned v ∧ w'.ownsRow w.heap.size 3 1 v (cover F m t).length ((cover F m t).map encInt) ∧ Below w.heap.size w w' := by
  obtain ⟨i0, hi, hz0, hz1, hz2⟩ := info_parts infoInt
  have HV := hide hv
  have HM := hide hfit
  have HZ := hide hsz
  have HT := hide hT
  clear hv hfit hsz hT
  obtain ⟨T, hT⟩ : ∃ T, T = cover F m t := ⟨_, rfl⟩
  rw [← hT]
  have HE := hide (show T = if 50 < m then [] else covL F t m from hT)
  clear hT
  go_enter Tryd.func26, Tryd.ntmps26
  by_cases hbig : 50 < m
  · obtain rfl : T = [] := by rw [HE.out, if_pos hbig]
    go_wp2
    go_ret
    exact ⟨_, rfl, ⟨by simp, .inl ⟨rfl, rfl⟩⟩, Below.refl _ _⟩
  obtain rfl : T = covL F t m := by rw [HE.out, if_neg hbig]
  clear HE
  go_wp2
  go_loopw [5, 13] (fun v i wr => ∃ k : Nat, k ≤ m ∧ i = .int .i64 k ∧ Hid (wr.ownsRow w.heap.size 3 1 v (covL F t k).length ((covL F t k).map encInt)) ∧ Hid (Below w.heap.size w wr)) (fun _ i _ => m - (intOf i).toNat)
  case atStart => exact ⟨0, by omega, rfl, ⟨by simp [covL], .inl ⟨rfl, rfl⟩⟩, Below.refl _ _⟩
  case round =>
    obtain ⟨k, hk, rfl, HO, HB⟩ := hrel
    by_cases hlt : k < m
    · obtain ⟨a0, c0, hr0⟩ := (HV.out.below HB.out (Nat.le_refl _)).2 k hlt
      have D2 := hide ((Below.refl wr.heap.size wr).alloc (Nat.le_refl _) (.cells #[.slice a0 (F k).n (F k).n] 30))
      have C2 := hide (HB.out.alloc HB.out.size (.cells #[.slice a0 (F k).n (F k).n] 30))
      have O2 := hide (HO.out.alloc (.cells #[.slice a0 (F k).n (F k).n] 30))
      have R2 := hide (hr0.below D2.out (Nat.le_refl _))
      have HS := hide (show covL F t (k + 1) = if covs (F k) t = true then covL F t k ++ [(k : Int)] else covL F t k from rfl)
      have hf1 := (HM.out k hlt).1
      have hlen := covL_len F t k
      clear hr0
      go_wp2_with fail
      clear c0
      generalize wr.alloc (.cells #[.slice a0 (F k).n (F k).n] 30) = W2 at D2 C2 O2 R2 ⊢
      refine (implNames_any a0 (F k).n (F k).n (F k).f _ (by omega) R2.out (by omega) (HM.out k hlt).2 (HZ.out k hlt).2 (HT.out.below C2.out HT.out.1)).mono ?_
      rintro e w3 ⟨v3, rfl, hO, hB⟩
      obtain ⟨p3, c3, g3, rfl, hA⟩ := ans_of_owns hO
      have A3 := hide hA.sl
      have B3 := hide (C2.out.trans (hB.mono C2.out.size))
      have O3 := hide (own_below O2.out hB (Nat.le_refl _))
      clear hO hA hB
      go_wp2_with fail
      refine (contains_str p3 c3 (nams (F k).f (F k).n) t _ (by have := nams_len (F k).f (F k).n; omega) A3.out).mono ?_
      rintro e w4 ⟨rfl, rfl⟩
      have HC := hide (show covs (F k) t = decide (t.toList ∈ nams (F k).f (F k).n) from rfl)
      rw [← HC.out]
      cases hc : covs (F k) t with
      | false =>
        have HF := hide hc
        clear hc
        go_wp2
        exact ⟨⟨k + 1, by omega, by go_num, by rw [HS.out, if_neg (by rw [HF.out]; simp)]; exact O3.out, B3.out⟩, by simp [intOf]; omega⟩
      | true =>
        have HF := hide hc
        clear hc
        have B4 := hide (B3.out.alloc B3.out.size (.cells #[.int .i64 (k : Int)] 3))
        have O4 := hide (O3.out.alloc (.cells #[.int .i64 (k : Int)] 3))
        have z4 := B4.out.size
        go_wp2_with (at_builtin; refine wpList_append_own _ rfl (.tmp 22) (.tmp 24) 43 rfl w.heap.size 3 i0 (.int .i64 0) 1 8 Tryd.underlying43 hi hz0 hz1 hz2 rfl (by decide) u5 (covL F t k).length ((covL F t k).map encInt) (by simp [Act.eval]) O4.out ⟨w4.heap.size, 0, none⟩ 1 1 [.int .i64 (k : Int)] (by simp [Act.eval]) rfl (one_new w4 _ _) (by simp [Value.oneCell']) (by unfold maxLen; omega) (by omega) z4 ?_; intro v5 w5 hown hgrow hnil; have O5 := hide hown; have B5 := hide (Below.grown B4.out hgrow z4 (fun j e => (O4.out.lt j e).1)); clear hown hgrow hnil)
        exact ⟨⟨k + 1, by omega, by go_num, by rw [HS.out, if_pos HF.out, List.length_append, List.map_append]; exact O5.out, B5.out⟩, by simp [intOf]; omega⟩
    · obtain rfl : k = m := by omega
      go_wp2
      go_ret
      exact ⟨_, rfl, HO.out, HB.out⟩

end Go.Proofs.YtggchgpphhhleaaDoor.Vp
