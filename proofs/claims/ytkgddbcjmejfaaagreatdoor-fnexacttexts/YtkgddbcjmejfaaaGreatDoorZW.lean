/-
  Put together of: TeImpl, TeLaw.
-/
import Derived.Test.YtkgddbcjmejfaaaGreatDoorZU
import Derived.Test.YtkgddbcjmejfaaaGreatDoorZR
import Derived.Test.YtkgddbcjmejfaaaGreatDoorZT
import Derived.Test.YtkgddbcjmejfaaaGreatDoorZV
import Derived.Test.YtkgddbcjmejfaaaGreatDoorZO
import Derived.Test.YtkgddbcjmejfaaaGreatDoorZI

/-
  impl: Texts.
-/
namespace Go.Proofs.YtkgddbcjmejfaaaGreatDoor.Vp
open Go.RowKit Go.Maps Go.Sort

set_option maxHeartbeats 1000000 in
theorem result_any (x : Deed) (a0 : Option Addr) (cap0 : Nat) (a1 : Option Addr) (cap1 : Nat) (w : World) :
    Calls Tryz.prog 26 #[.agg #[.string x.name, .int .i64 x.kind, .int .i64 x.code, .string x.text, .slice a0 x.actN cap0, .slice a1 x.linksN cap1]] w fun e w' => e = .returned (.agg #[.int .i64 (resC x), .string (resT x), .slice none 0 0]) ∧ Below w.heap.size w w' := by
  have A0 := hide (((Below.refl w.heap.size w).alloc (Nat.le_refl _) (.cells #[.string x.name, .int .i64 x.kind, .int .i64 x.code, .string x.text, .slice a0 x.actN cap0, .slice a1 x.linksN cap1] 51)))
  obtain ⟨rc, hrc⟩ : ∃ rc, rc = resC x := ⟨_, rfl⟩
  obtain ⟨rt, hrt⟩ : ∃ rt, rt = resT x := ⟨_, rfl⟩
  rw [← hrc, ← hrt]
  have HC := hide (show rc = if x.kind = 2 then 4 else x.code from hrc)
  have HT := hide (show rt = if x.kind = 2 then x.name else x.text from hrt)
  clear hrc hrt
  go_enter Tryz.func26, Tryz.ntmps26
  by_cases hk : x.kind = 2
  · obtain rfl : rc = 4 := by rw [HC.out, if_pos hk]
    obtain rfl : rt = x.name := by rw [HT.out, if_pos hk]
    go_wp2
    exact bodyPost_ret (v := .agg #[.int .i64 4, .string x.name, .slice none 0 0]) (by simp [results, Tryz.results26, go_sem]) rfl ⟨rfl, by
      repeat (first | exact A0.out | exact Below.refl _ _ | refine Below.alloc ?_ (by first | (simp; done) | (simp; omega)) _ | refine Below.setCell ?_ (by first | (simp; done) | (simp; omega)) _)⟩
  · obtain rfl : rc = x.code := by rw [HC.out, if_neg hk]
    obtain rfl : rt = x.text := by rw [HT.out, if_neg hk]
    go_wp2
    exact bodyPost_ret (v := .agg #[.int .i64 x.code, .string x.text, .slice none 0 0]) (by simp [results, Tryz.results26, go_sem]) rfl ⟨rfl, by
      repeat (first | exact A0.out | exact Below.refl _ _ | refine Below.alloc ?_ (by first | (simp; done) | (simp; omega)) _ | refine Below.setCell ?_ (by first | (simp; done) | (simp; omega)) _)⟩

set_option maxRecDepth 100000 in
set_option maxHeartbeats 4000000 in
theorem implTexts_any (b m cap : Nat) (F : Nat → Acc) (w : World) (hm : (m : Int) ≤ 1048576) (hv : AccE w b m F) (hfit : ∀ i, i < m → FitsAcc (F i)) (hsz : ∀ i, i < m → SizedAcc (F i)) (hT : Tab w) (hP : Pow w) :
    Calls Tryz.prog 8 #[.slice (some ⟨b, 0, none⟩) m cap] w fun e w' => ∃ v, e = .returned v ∧ w'.ownsRow w.heap.size 9 1 v (texts F m).length ((texts F m).map encStr) ∧ Below w.heap.size w w' := by
  have HV := hide hv
  have HM := hide hfit
  have HZ := hide hsz
  have HT := hide hT
  have HP := hide hP
  clear hv hfit hsz hT hP
  obtain ⟨T, hT⟩ : ∃ T, T = texts F m := ⟨_, rfl⟩
  rw [← hT]
  have HE := hide (show T = if 50 < m then [] else texL F m from hT)
  clear hT
  go_enter Tryz.func8, Tryz.ntmps8
  by_cases hbig : 50 < m
  · obtain rfl : T = [] := by rw [HE.out, if_pos hbig]
    go_wp2
    go_ret
    exact ⟨_, rfl, ⟨by simp, .inl ⟨rfl, rfl⟩⟩, Below.refl _ _⟩
  obtain rfl : T = texL F m := by rw [HE.out, if_neg hbig]
  clear HE
  have M0 := hide (setIs_new w)
  have A1 := hide ((Below.refl w.heap.size w).alloc (Nat.le_refl _) (.map #[] 0))
  have hmm := @run_makeMap Tryz.prog
  go_wp2
  clear hmm
  generalize w.alloc (.map #[] 0) = W1 at M0 A1 ⊢
  obtain ⟨mb, hmb⟩ : ∃ mb, mb = w.heap.size := ⟨_, rfl⟩
  rw [← hmb] at M0 ⊢
  have HMB := hide hmb
  clear hmb
  go_loopw [14] (fun i wr => ∃ k : Nat, k ≤ m ∧ i = .int .i64 k ∧ Hid (SetIs wr mb (k * 400) (texL F k)) ∧ Hid (Below w.heap.size w wr)) (fun i _ => m - (intOf i).toNat)
  case atStart => exact ⟨0, by omega, rfl, M0.out, A1.out⟩
  case round =>
    obtain ⟨k, hk, rfl, HK, HB⟩ := hrel
    by_cases hlt : k < m
    · obtain ⟨a0, e0, hr0⟩ := HV.out.2 k hlt
      have c0 := (HB.out.cell (p := ⟨b, k, none⟩) HV.out.1).trans e0
      have HS := hide (show texL F (k + 1) = if accOk (F k).f (F k).n = true then dtxL (texL F k) (F k).f (F k).n else texL F k from rfl)
      have hf1 := (HM.out k hlt).1
      have D2 := hide ((Below.refl wr.heap.size wr).alloc (Nat.le_refl _) (.cells #[.slice a0 (F k).n (F k).n] 40))
      have C2 := hide (HB.out.alloc HB.out.size (.cells #[.slice a0 (F k).n (F k).n] 40))
      have K2 := hide (HK.out.grown D2.out HK.out.lt)
      have X0 := hide (show (wr.alloc (.cells #[.slice a0 (F k).n (F k).n] 40)).cell? ⟨wr.heap.size, 0, none⟩ = some (.slice a0 (F k).n (F k).n) by simp)
      have X1 := hide (show wr.heap.size < (wr.alloc (.cells #[.slice a0 (F k).n (F k).n] 40)).heap.size by simp)
      have R0 := hide hr0
      clear hr0 e0
      go_wp2_with fail
      clear c0
      generalize wr.alloc (.cells #[.slice a0 (F k).n (F k).n] 40) = W2 at D2 C2 K2 X0 X1 ⊢
      refine (validAccount_any a0 (F k).n (F k).n (F k).f _ (by omega) (R0.out.below C2.out (Nat.le_refl _)) (by omega) (HM.out k hlt).2 (HT.out.below C2.out HT.out.1)).mono ?_
      rintro e w1 ⟨rfl, hB⟩
      have B1 := hide (C2.out.trans (hB.mono C2.out.size))
      have K1 := hide (K2.out.grown hB K2.out.lt)
      have x1 := (hB.cell (p := ⟨wr.heap.size, 0, none⟩) X1.out).trans X0.out
      have HO := hide (fun h : accOk (F k).f (F k).n = true => accOk_n h)
      clear hB
      generalize accOk (F k).f (F k).n = r at HS HO ⊢
      cases r with
      | false =>
        go_wp2
        exact ⟨⟨k + 1, by omega, by go_num, by rw [HS.out]; exact K1.out.mono (by omega), B1.out⟩, by simp [intOf]; omega⟩
      | true =>
        obtain ⟨hn1, hn4, -⟩ := HO.out rfl
        obtain ⟨bd, offd, rfl, hrow⟩ := R0.out.resolve_left (by omega)
        have HR := hide hrow
        clear hrow R0 HO
        go_wp2
        clear x1
        go_loopw [24] (fun i w2 => ∃ j : Nat, j ≤ (F k).n ∧ i = .int .i64 j ∧ Hid (SetIs w2 mb (k * 400 + j) (dtxL (texL F k) (F k).f j)) ∧ Hid (Below w.heap.size w w2)) (fun i _ => (F k).n - (intOf i).toNat)
        case atStart => exact ⟨0, by omega, rfl, K1.out, B1.out⟩
        case round =>
          obtain ⟨j, hj, rfl, HK3, HB3⟩ := hrel
          by_cases hjl : j < (F k).n
          · obtain ⟨p0, p1, p2, p3, ⟨a2, cap2, p4, q4⟩, ⟨a3, cap3, p5, q5⟩⟩ := (HR.out.below HB3.out (Nat.le_refl _)).2 j hjl
            clear q4 q5
            have D3 := hide ((Below.refl wr.heap.size wr).alloc (Nat.le_refl _) (.cells #[.string ((F k).f j).name, .int .i64 ((F k).f j).kind, .int .i64 ((F k).f j).code, .string ((F k).f j).text, .slice a2 ((F k).f j).actN cap2, .slice a3 ((F k).f j).linksN cap3] 51))
            have C3 := hide (HB3.out.alloc HB3.out.size (.cells #[.string ((F k).f j).name, .int .i64 ((F k).f j).kind, .int .i64 ((F k).f j).code, .string ((F k).f j).text, .slice a2 ((F k).f j).actN cap2, .slice a3 ((F k).f j).linksN cap3] 51))
            have K3 := hide (HK3.out.grown D3.out HK3.out.lt)
            go_wp2_with fail
            clear p0 p1 p2 p3 p4 p5
            generalize wr.alloc (.cells #[.string ((F k).f j).name, .int .i64 ((F k).f j).kind, .int .i64 ((F k).f j).code, .string ((F k).f j).text, .slice a2 ((F k).f j).actN cap2, .slice a3 ((F k).f j).linksN cap3] 51) = W3 at D3 C3 K3 ⊢
            refine (result_any ((F k).f j) a2 cap2 a3 cap3 _).mono ?_
            rintro e w4 ⟨rfl, hB⟩
            have B4 := hide (C3.out.trans (hB.mono C3.out.size))
            have K4 := hide (K3.out.grown hB K3.out.lt)
            clear hB
            go_wp2_with fail
            refine (implForm_any (resC ((F k).f j)) (resT ((F k).f j)) none 0 0 _ (HP.out.below B4.out (Nat.le_refl _))).mono ?_
            rintro e w5 ⟨rfl, hB⟩
            have B5 := hide (B4.out.trans (hB.mono B4.out.size))
            have K5 := hide (K4.out.grown hB K4.out.lt)
            clear hB
            go_wp2_with fail
            refine (add_any mb (k * 400 + j) (dtxL (texL F k) (F k).f j) (txt ((F k).f j)) _ (by omega) (txt_size _) K5.out).mono ?_
            rintro e w6 ⟨rfl, hs6, hg6⟩
            have S6 := hide hs6
            have B6 := hide (Below.grown B5.out hg6 B5.out.size (fun j e => by cases e; exact Nat.le_of_eq HMB.out.symm))
            clear hs6 hg6
            go_wp2
            exact ⟨⟨j + 1, by omega, by go_num, S6.out, B6.out⟩, by simp [intOf]; omega⟩
          · obtain rfl : j = (F k).n := by omega
            go_wp2
            exact ⟨⟨k + 1, by omega, by go_num, by rw [HS.out]; exact HK3.out.mono (by omega), HB3.out⟩, by simp [intOf]; omega⟩
    · obtain rfl : k = m := by omega
      go_wp2_with (go_at_call 27; refine (sorted_any mb (k * 400) (texL F k) _ (by omega) (texL_asc F k) HK.out).mono ?_; rintro e w2 ⟨v, rfl, ho, hB⟩; have O2 := hide (own_mono ho HB.out.size); have B2 := hide (HB.out.trans (hB.mono HB.out.size)); clear ho hB)
      go_ret
      exact ⟨v, rfl, O2.out, B2.out⟩

end Go.Proofs.YtkgddbcjmejfaaaGreatDoor.Vp

/-
  FnExactTexts: the law. Written by tools/list_law.py.
-/
namespace Go.Proofs.YtkgddbcjmejfaaaGreatDoor.Vp
open Go.RowKit Go.Sort

theorem AnsStr.apart {w w' : World} {base g : Nat} {p : Option Addr} {L : List (List UInt8)} {Q : Nat → Prop} (h : AnsStr w base p g L) (hT : Touch Q w w') (hQ : L.length ≠ 0 → ¬ Q g) : AnsStr w' base p g L := by
  by_cases hz : L.length = 0
  · exact .inl hz
  · obtain ⟨h1, h2, h3, F, h4⟩ := h.resolve_left hz
    exact .inr ⟨h1, h2, h3.touch hT (hQ hz), F, h4.touch hT (hQ hz)⟩
theorem AnsStr.lt {w : World} {base g : Nat} {p : Option Addr} {L : List (List UInt8)} (h : AnsStr w base p g L) (hz : L.length ≠ 0) : base ≤ g ∧ g < w.heap.size := ⟨(h.resolve_left hz).2.1, (h.resolve_left hz).2.2.1.1⟩

set_option maxRecDepth 100000 in
set_option maxHeartbeats 8000000 in
theorem law_te (a : Option Addr) (m cap : Nat) (F : Nat → Acc) (w : World) (hn : (m : Int) ≤ 9223372036854775807) (hv : SlAcc w a m F) (hs : ∀ i, i < m → SizedAcc (F i)) (hT : Tab w) (hP : Pow w) :
    Calls Tryz.prog 3 #[.slice a m cap] w fun e w' => e = .returned (.bool true) ∧ Below w.heap.size w w' := by
  have HV := hide hv
  have HS := hide hs
  have HT := hide hT
  clear hv hs hT
  have HPW := hide hP
  clear hP
  obtain ⟨L, hL⟩ : ∃ L, L = texts F m := ⟨_, rfl⟩
  have hlen : L.length ≤ 1048576 := by rw [hL]; exact texts_len F m
  have HL := hide hL
  clear hL
  go_enter Tryz.func3, Tryz.ntmps3
  go_wp2_with fail
  refine (szAccountS_any a m cap F 1048576 _ (by omega) (by omega) hn HV.out HS.out).mono ?_
  rintro e w1 ⟨r, rfl, hr1, hr2, hr3, hB⟩
  have B1 := hide hB
  clear hB
  by_cases hr : r < 0
  · clear hr3
    go_wp2
    go_ret
    exact ⟨rfl, B1.out⟩
  obtain ⟨hm0, hF⟩ := hr3 (by omega)
  have HF := hide hF
  have hp : m ≤ 1048576 := by omega
  have hsum : (sumN F m : Int) ≤ 1048576 := by omega
  clear hr3 hF hm0
  go_wp2_with fail
  refine (toAccountS_any a m cap F _ hp (HV.out.below B1.out (Nat.le_refl _)) HF.out).mono ?_
  rintro e w2 ⟨g, V, G, H, rfl, hS, hg, hB⟩
  have S0 := hide hS.accE
  have g2 : g < w2.heap.size := hS.row.lt
  have z2 : w.heap.size ≤ w2.heap.size := Nat.le_trans B1.out.size hB.size
  clear hS hg
  have B2 := hide (B1.out.trans (hB.mono B1.out.size))
  clear  B1
  clear hB
  go_wp2_with fail
  refine (specTexts_any g m m F _ (by omega) S0.out HF.out HS.out).mono ?_
  rintro e w3 ⟨bs, offs, ms, cs, rfl, hm3, hR, hB⟩
  rw [← HL.out] at hm3 hR
  subst hm3
  have hz23 : w.heap.size ≤ w3.heap.size := Nat.le_trans z2 hB.size
  have hbs : bs < w3.heap.size := hR.1
  have B3 := hide (B2.out.trans (hB.mono B2.out.size))
  clear  B2
  have P3 := hide (hR)
  clear hB hR S0
  go_wp2_with fail
  refine (toAccountS_any a m cap F _ hp (HV.out.below B3.out (Nat.le_refl _)) HF.out).mono ?_
  rintro e w4 ⟨h0, V2, G2, H2, rfl, hS, hg, hB⟩
  have hN : h0 < w4.heap.size := hS.row.lt
  have hz34 : w3.heap.size ≤ w4.heap.size := hB.size
  have P4 := hide (P3.out.below hB (Nat.le_refl _))
  have B4 := hide (B3.out.trans (hB.mono B3.out.size))
  clear P3 B3
  have O4 := hide (hS)
  clear hB hS
  go_wp2_with fail
  refine (implTexts_any h0 m m F _ (by omega) O4.out.accE HF.out HS.out (HT.out.below B4.out HT.out.1) (HPW.out.below B4.out (Nat.le_refl _))).mono ?_
  rintro e w6 ⟨v, rfl, hO, hB⟩
  rw [← HL.out] at hO
  obtain ⟨p, c6, g6, rfl, hA⟩ := ans_of_owns hO
  have hg6 : Hid (L.length ≠ 0 → w4.heap.size ≤ g6 ∧ g6 < w6.heap.size) := fun hz => hA.lt hz
  have z46 : w4.heap.size ≤ w6.heap.size := hB.size
  clear hO
  have P5 := hide (P4.out.below hB (Nat.le_refl _))
  have O5 := hide (O4.out.below hB (Nat.le_refl _))
  have B5 := hide (B4.out.trans (hB.mono B4.out.size))
  clear P4 O4 B4
  have Q5 := hide (hA)
  clear hA hB
  go_wp2_with fail
  refine (eqStringS_any p (some ⟨bs, offs, none⟩) c6 cs L.length (nmF L) _ hlen Q5.out.sl P5.out.sl).mono ?_
  rintro e w7 ⟨rfl, hB⟩
  have P6 := hide (P5.out.below hB (Nat.le_refl _))
  have O6 := hide (O5.out.below hB (Nat.le_refl _))
  have Q6 := hide (Q5.out.below hB (Nat.le_refl _))
  have B6 := hide (B5.out.trans (hB.mono B5.out.size))
  clear P5 O5 Q5 B5
  clear hB
  go_wp2_with fail
  refine (toAccountS_any a m cap F _ hp (HV.out.below B6.out (Nat.le_refl _)) HF.out).mono ?_
  rintro e w8 ⟨i0, V3, G3, H3, rfl, hS, hg8, hB⟩
  have S8 := hide hS.rows.sl
  clear hS hg8
  have P7 := hide (P6.out.below hB (Nat.le_refl _))
  have O7 := hide (O6.out.below hB (Nat.le_refl _))
  have Q7 := hide (Q6.out.below hB (Nat.le_refl _))
  have B7 := hide (B6.out.trans (hB.mono B6.out.size))
  clear P6 O6 Q6 B6
  clear hB
  go_wp2_with fail
  refine (eqAccountS_any (some ⟨h0, 0, none⟩) (some ⟨i0, 0, none⟩) m m m F _ hp O7.out.rows.sl S8.out HF.out).mono ?_
  rintro e w9 ⟨rfl, hB⟩
  clear S8
  have P8 := hide (P7.out.below hB (Nat.le_refl _))
  have O8 := hide (O7.out.below hB (Nat.le_refl _))
  have Q8 := hide (Q7.out.below hB (Nat.le_refl _))
  have B8 := hide (B7.out.trans (hB.mono B7.out.size))
  clear P7 O7 Q7 B7
  clear hB
  go_wp2_with fail
  refine (markAccountS_own h0 m w4.heap.size F V2 G2 H2 _ (by omega) hsum HF.out O8.out).mono ?_
  rintro e w10 ⟨q9, rfl, hT9⟩
  clear O8
  have P9 := hide (P8.out.touch hT9 (by rintro ⟨h, -⟩; omega))
  have Q9 := hide (Q8.out.apart hT9 (by intro hz; rintro ⟨-, h⟩; have := hg6.out hz; omega))
  have B9 := hide (B8.out.trans (hT9.toBelow (by rintro x ⟨h, -⟩; have := hz23; omega) B8.out.size))
  clear P8 Q8 B8
  clear hT9
  have hq9 : ¬ ((q9 : Int) < 0) := by omega
  go_wp2_with fail
  refine (eqStringS_any p (some ⟨bs, offs, none⟩) c6 cs L.length (nmF L) _ hlen Q9.out.sl P9.out.sl).mono ?_
  rintro e w11 ⟨rfl, hB⟩
  have P10 := hide (P9.out.below hB (Nat.le_refl _))
  have Q10 := hide (Q9.out.below hB (Nat.le_refl _))
  have B10 := hide (B9.out.trans (hB.mono B9.out.size))
  clear P9 Q9 B9
  clear hB
  go_wp2_with fail
  refine (markStringS_sl p L.length c6 1 g6 _ (by omega) (by omega) (by omega) Q10.out.room).mono ?_
  rintro e w12 ⟨rfl, hM, hT11⟩
  have M12 := hide hM
  clear hM
  clear Q10
  have P11 := hide (P10.out.touch hT11 (by rintro ⟨hz, h⟩; have := hg6.out hz; omega))
  have B11 := hide (B10.out.trans (hT11.toBelow (by rintro x ⟨hz, h⟩; have := hg6.out hz; have := hz23; have := hz34; omega) B10.out.size))
  clear P10 B10
  clear hT11
  go_wp2_with fail
  refine (heldStringS_sl p L.length c6 1 g6 _ (by omega) (by omega) (by omega) M12.out).mono ?_
  rintro e w13 ⟨rfl, hB⟩
  clear M12
  have P12 := hide (P11.out.below hB (Nat.le_refl _))
  have B12 := hide (B11.out.trans (hB.mono B11.out.size))
  clear P11 B11
  clear hB
  have hq1 : ¬ (((1 + L.length : Nat) : Int) < 0) := by omega
  go_wp2_with fail
  refine (toAccountS_any a m cap F _ hp (HV.out.below B12.out (Nat.le_refl _)) HF.out).mono ?_
  rintro e w14 ⟨i3, V4, G4, H4, rfl, hS, hg9, hB⟩
  have S0 := hide hS.accE
  clear hS hg9
  have P13 := hide (P12.out.below hB (Nat.le_refl _))
  have B13 := hide (B12.out.trans (hB.mono B12.out.size))
  clear P12 B12
  clear hB
  go_wp2_with fail
  refine (implTexts_any i3 m m F _ (by omega) S0.out HF.out HS.out (HT.out.below B13.out HT.out.1) (HPW.out.below B13.out (Nat.le_refl _))).mono ?_
  rintro e w15 ⟨v, rfl, hO, hB⟩
  rw [← HL.out] at hO
  obtain ⟨p2, c7, g7, rfl, hA⟩ := ans_of_owns hO
  have A15 := hide hA
  clear hA hO
  have P14 := hide (P13.out.below hB (Nat.le_refl _))
  have B14 := hide (B13.out.trans (hB.mono B13.out.size))
  clear P13 B13
  clear hB
  go_wp2_with fail
  refine (eqStringS_any p2 (some ⟨bs, offs, none⟩) c7 cs L.length (nmF L) _ hlen A15.out.sl P14.out.sl).mono ?_
  rintro e w16 ⟨rfl, hB⟩
  have P15 := hide (P14.out.below hB (Nat.le_refl _))
  have B15 := hide (B14.out.trans (hB.mono B14.out.size))
  clear P14 B14
  clear hB
  go_wp2
  go_ret
  exact ⟨rfl, B15.out⟩

end Go.Proofs.YtkgddbcjmejfaaaGreatDoor.Vp
