/-
  Put together of: NmSpec3.
-/
import Derived.Test.YtkgddbcjmejfaaaDoorZQ
import Derived.Test.YtkgddbcjmejfaaaDoorZL

/-
  spec: Names once more: its row is new. Written by tools/nmput2.py.
-/
namespace Go.Proofs.YtkgddbcjmejfaaaDoor.Vp
open Go.RowKit Go.Sort

set_option maxRecDepth 100000 in
set_option maxHeartbeats 4000000 in
theorem specNames_new (a : Option Addr) (n cap : Nat) (f : Nat → Deed) (w : World) (hn : (n : Int) ≤ 1048576) (hv : SlDeed w a n f) (hfit : ∀ i, i < n → FitsDeed (f i)) (hsz : ∀ i, i < n → SizedDeed (f i)) :
    Calls Tryd.prog 8 #[.agg #[.slice a n cap]] w fun e w' => ∃ b off m c : Nat, e = .returned (.slice (some ⟨b, off, none⟩) m c) ∧ m = (nams f n).length ∧ RowStr w' b off m (nmF (nams f n)) ∧ w.heap.size ≤ b ∧ Below w.heap.size w w' := by
  have HV := hide hv
  have HM := hide hfit
  have HZ := hide hsz
  clear hv hfit hsz
  have A0 := hide (((Below.refl w.heap.size w).alloc (Nat.le_refl _) (.cells #[.slice a n cap] 30)).alloc (by simp) (.cells #[] 9))
  have k0 : ((w.alloc (.cells #[.slice a n cap] 30)).alloc (.cells #[] 9)).cell? ⟨w.heap.size, 0, none⟩ = some (.slice a n cap) := by simp
  have E0 := hide (show RowStr ((w.alloc (.cells #[.slice a n cap] 30)).alloc (.cells #[] 9)) (w.heap.size + 1) 0 0 (nmF []) from ⟨by simp, fun i hi => absurd hi (Nat.not_lt_zero _)⟩)
  obtain ⟨T, hT⟩ : ∃ T, T = nams f n := ⟨_, rfl⟩
  rw [← hT]
  have HE := hide (show T = if accOk f n = true then nameL f n else [] from hT)
  clear hT
  go_enter Tryd.func8, Tryd.ntmps8
  go_wp2_with fail
  generalize (w.alloc (.cells #[.slice a n cap] 30)).alloc (.cells #[] 9) = W at A0 k0 E0 ⊢
  have hz : w.heap.size < W.heap.size := by have := E0.out.1; omega
  refine (l3Ok_any a n cap f _ hn (HV.out.below A0.out (Nat.le_refl _)) HM.out HZ.out).mono ?_
  rintro e w1 ⟨rfl, hB⟩
  have B1 := hide (A0.out.trans (hB.mono A0.out.size))
  have E1 := hide (E0.out.below hB (Nat.le_refl _))
  have k1 := (hB.cell (p := ⟨w.heap.size, 0, none⟩) hz).trans k0
  have hz1 : w.heap.size < w1.heap.size := Nat.lt_of_lt_of_le hz hB.size
  clear hB A0 E0 k0 hz
  have HO := hide (fun h : accOk f n = true => (⟨accOk_n h, accOk_links h⟩ : (1 ≤ n ∧ n ≤ 400 ∧ firstNo (deedOk f) n = -1) ∧ ∀ p, p < n → (f p).linksN ≤ 200))
  generalize accOk f n = r at HE HO ⊢
  cases r with
  | false =>
    obtain rfl : T = [] := HE.out
    go_wp2
    go_ret
    exact ⟨w.heap.size + 1, 0, 0, 0, rfl, rfl, E1.out, Nat.le_succ _, B1.out⟩
  | true =>
    obtain rfl : T = nameL f n := HE.out
    obtain ⟨⟨hn1, hn4, -⟩, hl⟩ := HO.out rfl
    have HLK := hide hl
    clear hl
    clear HE HO HM
    obtain ⟨b, off, rfl, hrow⟩ := HV.out.resolve_left (by omega)
    have HR := hide hrow
    clear HV hrow
    go_wp2
    go_loopw [3, 4] (fun v i wr => ∃ (k b' off' m c' : Nat), k ≤ n ∧ i = .int .i64 k ∧ v = .slice (some ⟨b', off', none⟩) m c' ∧ Hid (m = (nameL f k).length) ∧ m ≤ c' ∧ w.heap.size ≤ b' ∧ Hid (RowStr wr b' off' m (nmF (nameL f k))) ∧ Hid (Below w1.heap.size w1 wr)) (fun _ i _ => n - (intOf i).toNat)
    case atStart => exact ⟨0, w.heap.size + 1, 0, 0, 0, by omega, rfl, rfl, rfl, by omega, Nat.le_succ _, E1.out, Below.refl _ _⟩
    case round =>
      obtain ⟨k, b', off', m, c', hk, rfl, rfl, HM, hmc, hbb, HK, HB⟩ := hrel
      have hwz : w.heap.size ≤ wr.heap.size := Nat.le_trans (Nat.le_of_lt hz1) HB.out.size
      have k2 := (HB.out.cell (p := ⟨w.heap.size, 0, none⟩) hz1).trans k1
      by_cases hlt : k < n
      · have hm0 : m ≤ k * 201 := by have h1 := HM.out; have h2 := nameL_len (f := f) (k := k) (fun p hp => HLK.out p (by omega)); omega
        have hm : (m : Int) ≤ 1048576 := by omega
        have hlk := HLK.out k hlt
        have HS := hide (show nameL f (k + 1) = lnkL (lput (nameL f k) (f k).name.toList) (f k).links (f k).linksN from rfl)
        obtain ⟨p0, p1, p2, p3, ⟨a0, cap0, p4, q4⟩, ⟨a1, cap1, p5, q5⟩⟩ := (HR.out.below (B1.out.trans (HB.out.mono B1.out.size)) (Nat.le_refl _)).2 k hlt
        clear q4 p4 p1 p2 p3
        have Q5 := hide q5
        clear q5
        have hbl := (HR.out.below (B1.out.trans (HB.out.mono B1.out.size)) (Nat.le_refl _)).1
        have P5 := hide p5
        clear p5
        go_wp2_with (go_at_call 31; refine (l5Put_new b' off' m c' (nameL f k) (f k).name _ HM.out hm (by omega) HK.out).mono ?_; rintro e w2 ⟨b2, off2, m2, c2, rfl, hm2, hc2, hr2, hB, hnew⟩; have hb2 : w.heap.size ≤ b2 := (by omega); have H2 := hide hm2; have R2 := hide hr2; have D2 := hide hB; have B2 := hide (HB.out.trans (hB.mono HB.out.size)); clear hm2 hr2 hB hnew)
        have hm2 : m2 ≤ k * 201 + 1 := by have h1 := HM.out; have h2 := H2.out; have h3 := lput_len (nameL f k) (f k).name.toList; omega
        have c2k := hc2
        go_loopw [3, 5] (fun v i w3 => ∃ (j b3 off3 m3 c3 : Nat), j ≤ (f k).linksN ∧ i = .int .i64 j ∧ v = .slice (some ⟨b3, off3, none⟩) m3 c3 ∧ Hid (m3 = (lnkL (lput (nameL f k) (f k).name.toList) (f k).links j).length) ∧ m3 ≤ c3 ∧ w.heap.size ≤ b3 ∧ Hid (RowStr w3 b3 off3 m3 (nmF (lnkL (lput (nameL f k) (f k).name.toList) (f k).links j))) ∧ Hid (Below w2.heap.size w2 w3)) (fun _ i _ => (f k).linksN - (intOf i).toNat)
        case atStart => exact ⟨0, b2, off2, m2, c2, by omega, rfl, rfl, H2.out, by omega, hb2, R2.out, Below.refl _ _⟩
        case round =>
          obtain ⟨j, b3, off3, m3, c3, hj, rfl, rfl, HM3, hmc3, hbb3, HK3, HB3⟩ := hrel
          have D3 := hide (D2.out.trans (HB3.out.mono D2.out.size))
          have hw3 : w.heap.size ≤ wr.heap.size := by have := B2.out.size; have := HB3.out.size; omega
          have B3 := hide (B2.out.trans (HB3.out.mono B2.out.size))
          have k3 := (B3.out.cell (p := ⟨w.heap.size, 0, none⟩) hz1).trans k1
          have p6 := (D3.out.cell (p := ⟨b, off + k * 6 + 5, none⟩) hbl).trans P5.out
          have Q6 := hide (Q5.out.below D3.out (Nat.le_refl _))
          have hm3 : (m3 : Int) ≤ 1048576 := by have h1 := HM3.out; have h2 := lnkL_len (lput (nameL f k) (f k).name.toList) (f k).links j; have h3 := H2.out; omega
          by_cases hjl : j < (f k).linksN
          · obtain ⟨b4, off4, rfl, hr4⟩ := Q6.out.resolve_left (by omega)
            obtain ⟨r0, r1, r2, r3⟩ := hr4.2 j hjl
            clear r1 r2 r3 hr4
            go_wp2_with (go_at_call 31; refine (l5Put_new b3 off3 m3 c3 _ ((f k).links j).name _ HM3.out hm3 (by omega) HK3.out).mono ?_; rintro e w4 ⟨b5, off5, m5, c5, rfl, hm5, hc5, hr5, hB, hnew⟩; have hb5 : w.heap.size ≤ b5 := (by omega); have H5 := hide hm5; have R5 := hide hr5; have B5 := hide (HB3.out.trans (hB.mono HB3.out.size)); clear hm5 hr5 hB hnew)
            exact ⟨⟨j + 1, b5, off5, m5, c5, by omega, by go_num, rfl, H5.out, by omega, hb5, R5.out, B5.out⟩, by simp [intOf]; omega⟩
          · obtain rfl : j = (f k).linksN := by omega
            go_wp2
            exact ⟨⟨k + 1, b3, off3, m3, c3, by omega, by go_num, rfl, by rw [HS.out]; exact HM3.out, by omega, hbb3, by rw [HS.out]; exact HK3.out, B3.out⟩, by simp [intOf]; omega⟩
      · obtain rfl : k = n := by omega
        go_wp2
        go_ret
        exact ⟨b', off', m, c', rfl, HM.out, HK.out, hbb, B1.out.trans (HB.out.mono B1.out.size)⟩

end Go.Proofs.YtkgddbcjmejfaaaDoor.Vp
