/-
  Put together of: TeSpec.
-/
import Derived.Test.YtkgddbcjmejfaaaGreatDoorZU
import Derived.Test.YtkgddbcjmejfaaaGreatDoorZT

/-
  spec: Texts.
-/
namespace Go.Proofs.YtkgddbcjmejfaaaGreatDoor.Vp
open Go.RowKit Go.Sort

theorem res_none {x : Deed} (h : x.kind = 2) : formT 4 x.name 0 = txt x := by simp [txt, resC, resT, h]
theorem res_some {x : Deed} (h : ¬ x.kind = 2) : formT x.code x.text 0 = txt x := by simp [txt, resC, resT, h]

set_option maxRecDepth 100000 in
set_option maxHeartbeats 4000000 in
theorem specTexts_any (b m cap : Nat) (F : Nat → Acc) (w : World) (hm : (m : Int) ≤ 1048576) (hv : AccE w b m F) (hfit : ∀ i, i < m → FitsAcc (F i)) (hsz : ∀ i, i < m → SizedAcc (F i)) :
    Calls Tryz.prog 6 #[.slice (some ⟨b, 0, none⟩) m cap] w fun e w' => ∃ b' off' m' c' : Nat, e = .returned (.slice (some ⟨b', off', none⟩) m' c') ∧ m' = (texts F m).length ∧ RowStr w' b' off' m' (nmF (texts F m)) ∧ Below w.heap.size w w' := by
  have HV := hide hv
  have HM := hide hfit
  have HZ := hide hsz
  clear hv hfit hsz
  obtain ⟨T, hT⟩ : ∃ T, T = texts F m := ⟨_, rfl⟩
  rw [← hT]
  have HE := hide (show T = if 50 < m then [] else texL F m from hT)
  clear hT
  have E0 := hide (show RowStr (w.alloc (.cells #[] 9)) w.heap.size 0 0 (nmF []) from ⟨by simp, fun i hi => absurd hi (Nat.not_lt_zero _)⟩)
  have B0 := hide ((Below.refl w.heap.size w).alloc (Nat.le_refl _) (.cells #[] 9))
  go_enter Tryz.func6, Tryz.ntmps6
  by_cases hbig : 50 < m
  · obtain rfl : T = [] := by rw [HE.out, if_pos hbig]
    go_wp2
    go_ret
    exact ⟨w.heap.size, 0, 0, 0, rfl, rfl, E0.out, B0.out⟩
  obtain rfl : T = texL F m := by rw [HE.out, if_neg hbig]
  clear HE
  go_wp2
  generalize w.alloc (.cells #[] 9) = W at E0 B0 ⊢
  go_loopw [3, 4] (fun v i wr => ∃ (k b' off' m' c' : Nat), k ≤ m ∧ i = .int .i64 k ∧ v = .slice (some ⟨b', off', none⟩) m' c' ∧ Hid (m' = (texL F k).length) ∧ m' ≤ c' ∧ Hid (RowStr wr b' off' m' (nmF (texL F k))) ∧ Hid (Below w.heap.size w wr)) (fun _ i _ => m - (intOf i).toNat)
  case atStart => exact ⟨0, w.heap.size, 0, 0, 0, by omega, rfl, rfl, rfl, by omega, E0.out, B0.out⟩
  case round =>
    obtain ⟨k, b', off', m', c', hk, rfl, rfl, HMM, hmc, HK, HB⟩ := hrel
    by_cases hlt : k < m
    · obtain ⟨a0, c0, hr0⟩ := (HV.out.below HB.out (Nat.le_refl _)).2 k hlt
      have R0 := hide hr0
      have hf1 := (HM.out k hlt).1
      have hlen := texL_len F k
      have hm' : m' ≤ k * 400 := by have := HMM.out; omega
      have bl : b < wr.heap.size := Nat.lt_of_lt_of_le HV.out.1 HB.out.size
      have HS := hide (show texL F (k + 1) = if accOk (F k).f (F k).n = true then dtxL (texL F k) (F k).f (F k).n else texL F k from rfl)
      clear hr0
      go_wp2_with fail
      refine (l3Ok_any a0 (F k).n (F k).n (F k).f _ (by omega) R0.out (HM.out k hlt).2 (HZ.out k hlt).2).mono ?_
      rintro e w1 ⟨rfl, hB⟩
      have D1 := hide hB
      have B1 := hide (HB.out.trans (hB.mono HB.out.size))
      have K1 := hide (HK.out.below hB (Nat.le_refl _))
      have c1 := (hB.cell (p := ⟨b, k, none⟩) bl).trans c0
      have R1 := hide (R0.out.below hB (Nat.le_refl _))
      have bl1 : b < w1.heap.size := Nat.lt_of_lt_of_le bl hB.size
      have HO := hide (fun h : accOk (F k).f (F k).n = true => accOk_n h)
      clear hB c0
      generalize accOk (F k).f (F k).n = r at HS HO ⊢
      cases r with
      | false =>
        go_wp2
        exact ⟨⟨k + 1, b', off', m', c', by omega, by go_num, rfl, by rw [HS.out]; exact HMM.out, hmc, by rw [HS.out]; exact K1.out, B1.out⟩, by simp [intOf]; omega⟩
      | true =>
        obtain ⟨hn1, hn4, -⟩ := HO.out rfl
        obtain ⟨bd, offd, rfl, hrow⟩ := R1.out.resolve_left (by omega)
        have HR := hide hrow
        clear hrow R0 R1 HO
        have C1 := hide c1
        go_wp2
        clear c1
        go_loopw [3, 5] (fun v i w2 => ∃ (j b2 off2 m2 c2 : Nat), j ≤ (F k).n ∧ i = .int .i64 j ∧ v = .slice (some ⟨b2, off2, none⟩) m2 c2 ∧ Hid (m2 = (dtxL (texL F k) (F k).f j).length) ∧ m2 ≤ c2 ∧ Hid (RowStr w2 b2 off2 m2 (nmF (dtxL (texL F k) (F k).f j))) ∧ Hid (Below w1.heap.size w1 w2)) (fun _ i _ => (F k).n - (intOf i).toNat)
        case atStart => exact ⟨0, b', off', m', c', by omega, rfl, rfl, HMM.out, hmc, K1.out, Below.refl _ _⟩
        case round =>
          obtain ⟨j, b2, off2, m2, c2, hj, rfl, rfl, HM2, hmc2, HK2, HB2⟩ := hrel
          have d0 := (HB2.out.cell (p := ⟨b, k, none⟩) bl1).trans C1.out
          by_cases hjl : j < (F k).n
          · obtain ⟨p0, p1, p2, p3, ⟨a2, cap2, p4, q4⟩, ⟨a3, cap3, p5, q5⟩⟩ := (HR.out.below HB2.out (Nat.le_refl _)).2 j hjl
            clear q4 q5
            have hm2 : (m2 : Int) ≤ 1048576 := by have h1 := HM2.out; have h2 := dtxL_len (texL F k) (F k).f j; omega
            by_cases h2 : ((F k).f j).kind = 2
            · go_wp2_with fail
              refine (specForm_any 4 ((F k).f j).name none 0 0 _).mono ?_
              rintro e w3 ⟨rfl, hB⟩
              rw [res_none h2]
              have D3 : Hid (Below wr.heap.size wr w3) := (((Below.refl wr.heap.size wr).alloc (Nat.le_refl _) _).alloc (by simp) _).trans (hB.mono (by simp; omega))
              have K3 := hide (HK2.out.below D3.out (Nat.le_refl _))
              have B3 := hide (HB2.out.trans (D3.out.mono HB2.out.size))
              clear hB D3 p0 p1 p2 p3 p4 p5 d0
              go_wp2_with fail
              refine (l5Put_any b2 off2 m2 c2 (dtxL (texL F k) (F k).f j) (txt ((F k).f j)) _ HM2.out hm2 (by omega) K3.out).mono ?_
              rintro e w4 ⟨b4, off4, m4, c4, rfl, hm4, hc4, hr4, hB⟩
              have M4 := hide hm4
              have R4 := hide hr4
              have B4 := hide (B3.out.trans (hB.mono B3.out.size))
              clear hm4 hr4 hB
              go_wp2
              exact ⟨⟨j + 1, b4, off4, m4, c4, by omega, by go_num, rfl, M4.out, by omega, R4.out, B4.out⟩, by simp [intOf]; omega⟩
            · go_wp2_with fail
              refine (specForm_any ((F k).f j).code ((F k).f j).text none 0 0 _).mono ?_
              rintro e w3 ⟨rfl, hB⟩
              rw [res_some h2]
              have D3 : Hid (Below wr.heap.size wr w3) := (((Below.refl wr.heap.size wr).alloc (Nat.le_refl _) _).alloc (by simp) _).trans (hB.mono (by simp; omega))
              have K3 := hide (HK2.out.below D3.out (Nat.le_refl _))
              have B3 := hide (HB2.out.trans (D3.out.mono HB2.out.size))
              clear hB D3 p0 p1 p2 p3 p4 p5 d0
              go_wp2_with fail
              refine (l5Put_any b2 off2 m2 c2 (dtxL (texL F k) (F k).f j) (txt ((F k).f j)) _ HM2.out hm2 (by omega) K3.out).mono ?_
              rintro e w4 ⟨b4, off4, m4, c4, rfl, hm4, hc4, hr4, hB⟩
              have M4 := hide hm4
              have R4 := hide hr4
              have B4 := hide (B3.out.trans (hB.mono B3.out.size))
              clear hm4 hr4 hB
              go_wp2
              exact ⟨⟨j + 1, b4, off4, m4, c4, by omega, by go_num, rfl, M4.out, by omega, R4.out, B4.out⟩, by simp [intOf]; omega⟩
          · obtain rfl : j = (F k).n := by omega
            go_wp2
            exact ⟨⟨k + 1, b2, off2, m2, c2, by omega, by go_num, rfl, by rw [HS.out]; exact HM2.out, hmc2, by rw [HS.out]; exact HK2.out, B1.out.trans (HB2.out.mono B1.out.size)⟩, by simp [intOf]; omega⟩
    · obtain rfl : k = m := by omega
      go_wp2
      go_ret
      exact ⟨b', off', m', c', rfl, HMM.out, HK.out, HB.out⟩

end Go.Proofs.YtkgddbcjmejfaaaGreatDoor.Vp
