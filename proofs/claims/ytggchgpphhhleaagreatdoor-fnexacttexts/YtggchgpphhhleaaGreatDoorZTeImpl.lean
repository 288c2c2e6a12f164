/-
  impl: Texts.
-/
import Derived.Test.YtggchgpphhhleaaGreatDoorZNmValid
import Derived.Test.YtggchgpphhhleaaGreatDoorZTePure
namespace Go.Proofs.YtggchgpphhhleaaGreatDoor.Vp
open Go.RowKit Go.Maps Go.Sort

set_option maxHeartbeats 1000000 in
theorem result_any (x : Deed) (a0 : Option Addr) (cap0 : Nat) (a1 : Option Addr) (cap1 : Nat) (w : World) :
    Calls Tryz.prog 21 #[.agg #[.string x.name, .int .i64 x.kind, .int .i64 x.code, .string x.text, .slice a0 x.actN cap0, .slice a1 x.linksN cap1]] w fun e w' => e = .returned (.agg #[.int .i64 (resC x), .string (resT x), .slice none 0 0]) ∧ Below w.heap.size w w' := by
  have A0 := hide (((Below.refl w.heap.size w).alloc (Nat.le_refl _) (.cells #[.string x.name, .int .i64 x.kind, .int .i64 x.code, .string x.text, .slice a0 x.actN cap0, .slice a1 x.linksN cap1] 46)))
  obtain ⟨rc, hrc⟩ : ∃ rc, rc = resC x := ⟨_, rfl⟩
  obtain ⟨rt, hrt⟩ : ∃ rt, rt = resT x := ⟨_, rfl⟩
  rw [← hrc, ← hrt]
  have HC := hide (show rc = if x.kind = 2 then 4 else x.code from hrc)
  have HT := hide (show rt = if x.kind = 2 then x.name else x.text from hrt)
  clear hrc hrt
  go_enter Tryz.func21, Tryz.ntmps21
  by_cases hk : x.kind = 2
  · obtain rfl : rc = 4 := by rw [HC.out, if_pos hk]
    obtain rfl : rt = x.name := by rw [HT.out, if_pos hk]
    go_wp2
    exact bodyPost_ret (v := .agg #[.int .i64 4, .string x.name, .slice none 0 0]) (by simp [results, Tryz.results21, go_sem]) rfl ⟨rfl, by
      repeat (first | exact A0.out | exact Below.refl _ _ | refine Below.alloc ?_ (by first | (simp; done) | (simp; omega)) _ | refine Below.setCell ?_ (by first | (simp; done) | (simp; omega)) _)⟩
  · obtain rfl : rc = x.code := by rw [HC.out, if_neg hk]
    obtain rfl : rt = x.text := by rw [HT.out, if_neg hk]
    go_wp2
    exact bodyPost_ret (v := .agg #[.int .i64 x.code, .string x.text, .slice none 0 0]) (by simp [results, Tryz.results21, go_sem]) rfl ⟨rfl, by
      repeat (first | exact A0.out | exact Below.refl _ _ | refine Below.alloc ?_ (by first | (simp; done) | (simp; omega)) _ | refine Below.setCell ?_ (by first | (simp; done) | (simp; omega)) _)⟩

set_option maxRecDepth 100000 in
set_option maxHeartbeats 4000000 in
theorem implTexts_any (b m cap : Nat) (F : Nat → Acc) (w : World) (hm : (m : Int) ≤ 1048576) (hv : AccE w b m F) (hfit : ∀ i, i < m → FitsAcc (F i)) (hsz : ∀ i, i < m → SizedAcc (F i)) (hT : Tab w) (hP : Pow w) :
    Calls Tryz.prog 7 #[.slice (some ⟨b, 0, none⟩) m cap] w fun e w' => ∃ v, e = .returned v ∧ w'.ownsRow w.heap.size 9 1 v (texts F m).length ((texts F m).map encStr) ∧ Below w.heap.size w w' := by
  have HV := hide hv
  have HM := hide hfit
  have HZ := hide hsz
  have HT := hide hT
  have HP := hide hP
  clear hv hfit hsz hT hP
  obtain ⟨T, hT⟩ : ∃ T, T = texts F m := ⟨_, rfl⟩
  rw [← hT]
  have HE := hide (show T = if 50 < m then [] else texL F m from hT)
  clear hT
  go_enter Tryz.func7, Tryz.ntmps7
  by_cases hbig : 50 < m
  · obtain rfl : T = [] := by rw [HE.out, if_pos hbig]
    go_wp2
    go_ret
    exact ⟨_, rfl, ⟨by simp, .inl ⟨rfl, rfl⟩⟩, Below.refl _ _⟩
  obtain rfl : T = texL F m := by rw [HE.out, if_neg hbig]
  clear HE
  have M0 := hide (setIs_new w)
  have A1 := hide ((Below.refl w.heap.size w).alloc (Nat.le_refl _) (.map #[] 0))
  have hmm := @run_makeMap Tryz.prog
  go_wp2
  clear hmm
  generalize w.alloc (.map #[] 0) = W1 at M0 A1 ⊢
  obtain ⟨mb, hmb⟩ : ∃ mb, mb = w.heap.size := ⟨_, rfl⟩
  rw [← hmb] at M0 ⊢
  have HMB := hide hmb
  clear hmb
  go_loopw [14] (fun i wr => ∃ k : Nat, k ≤ m ∧ i = .int .i64 k ∧ Hid (SetIs wr mb (k * 400) (texL F k)) ∧ Hid (Below w.heap.size w wr)) (fun i _ => m - (intOf i).toNat)
  case atStart => exact ⟨0, by omega, rfl, M0.out, A1.out⟩
  case round =>
    obtain ⟨k, hk, rfl, HK, HB⟩ := hrel
    by_cases hlt : k < m
    · obtain ⟨a0, e0, hr0⟩ := HV.out.2 k hlt
      have c0 := (HB.out.cell (p := ⟨b, k, none⟩) HV.out.1).trans e0
      have HS := hide (show texL F (k + 1) = if accOk (F k).f (F k).n = true then dtxL (texL F k) (F k).f (F k).n else texL F k from rfl)
      have hf1 := (HM.out k hlt).1
      have D2 := hide ((Below.refl wr.heap.size wr).alloc (Nat.le_refl _) (.cells #[.slice a0 (F k).n (F k).n] 40))
      have C2 := hide (HB.out.alloc HB.out.size (.cells #[.slice a0 (F k).n (F k).n] 40))
      have K2 := hide (HK.out.grown D2.out HK.out.lt)
      have X0 := hide (show (wr.alloc (.cells #[.slice a0 (F k).n (F k).n] 40)).cell? ⟨wr.heap.size, 0, none⟩ = some (.slice a0 (F k).n (F k).n) by simp)
      have X1 := hide (show wr.heap.size < (wr.alloc (.cells #[.slice a0 (F k).n (F k).n] 40)).heap.size by simp)
      have R0 := hide hr0
      clear hr0 e0
      go_wp2_with fail
      clear c0
      generalize wr.alloc (.cells #[.slice a0 (F k).n (F k).n] 40) = W2 at D2 C2 K2 X0 X1 ⊢
      refine (validAccount_any a0 (F k).n (F k).n (F k).f _ (by omega) (R0.out.below C2.out (Nat.le_refl _)) (by omega) (HM.out k hlt).2 (HT.out.below C2.out HT.out.1)).mono ?_
      rintro e w1 ⟨rfl, hB⟩
      have B1 := hide (C2.out.trans (hB.mono C2.out.size))
      have K1 := hide (K2.out.grown hB K2.out.lt)
      have x1 := (hB.cell (p := ⟨wr.heap.size, 0, none⟩) X1.out).trans X0.out
      have HO := hide (fun h : accOk (F k).f (F k).n = true => accOk_n h)
      clear hB
      generalize accOk (F k).f (F k).n = r at HS HO ⊢
      cases r with
      | false =>
        go_wp2
        exact ⟨⟨k + 1, by omega, by go_num, by rw [HS.out]; exact K1.out.mono (by omega), B1.out⟩, by simp [intOf]; omega⟩
      | true =>
        obtain ⟨hn1, hn4, -⟩ := HO.out rfl
        obtain ⟨bd, offd, rfl, hrow⟩ := R0.out.resolve_left (by omega)
        have HR := hide hrow
        clear hrow R0 HO
        go_wp2
        clear x1
        go_loopw [24] (fun i w2 => ∃ j : Nat, j ≤ (F k).n ∧ i = .int .i64 j ∧ Hid (SetIs w2 mb (k * 400 + j) (dtxL (texL F k) (F k).f j)) ∧ Hid (Below w.heap.size w w2)) (fun i _ => (F k).n - (intOf i).toNat)
        case atStart => exact ⟨0, by omega, rfl, K1.out, B1.out⟩
        case round =>
          obtain ⟨j, hj, rfl, HK3, HB3⟩ := hrel
          by_cases hjl : j < (F k).n
          · obtain ⟨p0, p1, p2, p3, ⟨a2, cap2, p4, q4⟩, ⟨a3, cap3, p5, q5⟩⟩ := (HR.out.below HB3.out (Nat.le_refl _)).2 j hjl
            clear q4 q5
            have D3 := hide ((Below.refl wr.heap.size wr).alloc (Nat.le_refl _) (.cells #[.string ((F k).f j).name, .int .i64 ((F k).f j).kind, .int .i64 ((F k).f j).code, .string ((F k).f j).text, .slice a2 ((F k).f j).actN cap2, .slice a3 ((F k).f j).linksN cap3] 46))
            have C3 := hide (HB3.out.alloc HB3.out.size (.cells #[.string ((F k).f j).name, .int .i64 ((F k).f j).kind, .int .i64 ((F k).f j).code, .string ((F k).f j).text, .slice a2 ((F k).f j).actN cap2, .slice a3 ((F k).f j).linksN cap3] 46))
            have K3 := hide (HK3.out.grown D3.out HK3.out.lt)
            go_wp2_with fail
            clear p0 p1 p2 p3 p4 p5
            generalize wr.alloc (.cells #[.string ((F k).f j).name, .int .i64 ((F k).f j).kind, .int .i64 ((F k).f j).code, .string ((F k).f j).text, .slice a2 ((F k).f j).actN cap2, .slice a3 ((F k).f j).linksN cap3] 46) = W3 at D3 C3 K3 ⊢
            refine (result_any ((F k).f j) a2 cap2 a3 cap3 _).mono ?_
            rintro e w4 ⟨rfl, hB⟩
            have B4 := hide (C3.out.trans (hB.mono C3.out.size))
            have K4 := hide (K3.out.grown hB K3.out.lt)
            clear hB
            go_wp2_with fail
            refine (implForm_any (resC ((F k).f j)) (resT ((F k).f j)) none 0 0 _ (HP.out.below B4.out (Nat.le_refl _))).mono ?_
            rintro e w5 ⟨rfl, hB⟩
            have B5 := hide (B4.out.trans (hB.mono B4.out.size))
            have K5 := hide (K4.out.grown hB K4.out.lt)
            clear hB
            go_wp2_with fail
            refine (add_any mb (k * 400 + j) (dtxL (texL F k) (F k).f j) (txt ((F k).f j)) _ (by omega) (txt_size _) K5.out).mono ?_
            rintro e w6 ⟨rfl, hs6, hg6⟩
            have S6 := hide hs6
            have B6 := hide (Below.grown B5.out hg6 B5.out.size (fun j e => by cases e; exact Nat.le_of_eq HMB.out.symm))
            clear hs6 hg6
            go_wp2
            exact ⟨⟨j + 1, by omega, by go_num, S6.out, B6.out⟩, by simp [intOf]; omega⟩
          · obtain rfl : j = (F k).n := by omega
            go_wp2
            exact ⟨⟨k + 1, by omega, by go_num, by rw [HS.out]; exact HK3.out.mono (by omega), HB3.out⟩, by simp [intOf]; omega⟩
    · obtain rfl : k = m := by omega
      go_wp2_with (go_at_call 22; refine (sorted_any mb (k * 400) (texL F k) _ (by omega) (texL_asc F k) HK.out).mono ?_; rintro e w2 ⟨v, rfl, ho, hB⟩; have O2 := hide (own_mono ho HB.out.size); have B2 := hide (HB.out.trans (hB.mono HB.out.size)); clear ho hB)
      go_ret
      exact ⟨v, rfl, O2.out, B2.out⟩

end Go.Proofs.YtggchgpphhhleaaGreatDoor.Vp
