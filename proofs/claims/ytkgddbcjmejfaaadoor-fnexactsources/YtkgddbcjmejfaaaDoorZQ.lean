/-
  Put together of: NmSpec.
-/
import Derived.Test.YtkgddbcjmejfaaaDoorZP
import Derived.Test.YtkgddbcjmejfaaaDoorZL

/-
  spec: Sources.
-/
namespace Go.Proofs.YtkgddbcjmejfaaaDoor.Vp
open Go.RowKit Go.Sort

set_option maxRecDepth 100000 in
set_option maxHeartbeats 4000000 in
theorem specSources_any (a : Option Addr) (n cap : Nat) (f : Nat → Deed) (w : World) (hn : (n : Int) ≤ 1048576) (hv : SlDeed w a n f) (hfit : ∀ i, i < n → FitsDeed (f i)) (hsz : ∀ i, i < n → SizedDeed (f i)) :
    Calls Tryd.prog 16 #[.agg #[.slice a n cap]] w fun e w' => ∃ b off m c : Nat, e = .returned (.slice (some ⟨b, off, none⟩) m c) ∧ m = (srcs f n).length ∧ RowStr w' b off m (nmF (srcs f n)) ∧ Below w.heap.size w w' := by
  have HV := hide hv
  have HM := hide hfit
  have HZ := hide hsz
  clear hv hfit hsz
  have A0 := hide (((Below.refl w.heap.size w).alloc (Nat.le_refl _) (.cells #[.slice a n cap] 30)).alloc (by simp) (.cells #[] 9))
  have k0 : ((w.alloc (.cells #[.slice a n cap] 30)).alloc (.cells #[] 9)).cell? ⟨w.heap.size, 0, none⟩ = some (.slice a n cap) := by simp
  have E0 := hide (show RowStr ((w.alloc (.cells #[.slice a n cap] 30)).alloc (.cells #[] 9)) (w.heap.size + 1) 0 0 (nmF []) from ⟨by simp, fun i hi => absurd hi (Nat.not_lt_zero _)⟩)
  obtain ⟨T, hT⟩ : ∃ T, T = srcs f n := ⟨_, rfl⟩
  rw [← hT]
  have HE := hide (show T = if accOk f n = true then srcL f n else [] from hT)
  clear hT
  go_enter Tryd.func16, Tryd.ntmps16
  go_wp2_with fail
  generalize (w.alloc (.cells #[.slice a n cap] 30)).alloc (.cells #[] 9) = W at A0 k0 E0 ⊢
  have hz : w.heap.size < W.heap.size := by have := E0.out.1; omega
  refine (l3Ok_any a n cap f _ hn (HV.out.below A0.out (Nat.le_refl _)) HM.out HZ.out).mono ?_
  rintro e w1 ⟨rfl, hB⟩
  have B1 := hide (A0.out.trans (hB.mono A0.out.size))
  have E1 := hide (E0.out.below hB (Nat.le_refl _))
  have k1 := (hB.cell (p := ⟨w.heap.size, 0, none⟩) hz).trans k0
  have hz1 : w.heap.size < w1.heap.size := Nat.lt_of_lt_of_le hz hB.size
  clear hB A0 E0 k0 hz
  have HO := hide (fun h : accOk f n = true => accOk_n h)
  generalize accOk f n = r at HE HO ⊢
  cases r with
  | false =>
    obtain rfl : T = [] := HE.out
    go_wp2
    go_ret
    exact ⟨w.heap.size + 1, 0, 0, 0, rfl, rfl, E1.out, B1.out⟩
  | true =>
    obtain rfl : T = srcL f n := HE.out
    obtain ⟨hn1, hn4, -⟩ := HO.out rfl
    clear HE HO HM
    obtain ⟨b, off, rfl, hrow⟩ := HV.out.resolve_left (by omega)
    have HR := hide hrow
    clear HV hrow
    go_wp2
    go_loopw [3, 4] (fun v i wr => ∃ (k b' off' m c' : Nat), k ≤ n ∧ i = .int .i64 k ∧ v = .slice (some ⟨b', off', none⟩) m c' ∧ Hid (m = (srcL f k).length) ∧ m ≤ c' ∧ Hid (RowStr wr b' off' m (nmF (srcL f k))) ∧ Hid (Below w1.heap.size w1 wr)) (fun _ i _ => n - (intOf i).toNat)
    case atStart => exact ⟨0, w.heap.size + 1, 0, 0, 0, by omega, rfl, rfl, rfl, by omega, E1.out, Below.refl _ _⟩
    case round =>
      obtain ⟨k, b', off', m, c', hk, rfl, rfl, HM, hmc, HK, HB⟩ := hrel
      have k2 := (HB.out.cell (p := ⟨w.heap.size, 0, none⟩) hz1).trans k1
      have hm : (m : Int) ≤ 1048576 := by have h1 := HM.out; have h2 := srcL_len f k; omega
      by_cases hlt : k < n
      · obtain ⟨p0, p1, p2, p3, ⟨a0, cap0, p4, q4⟩, ⟨a1, cap1, p5, q5⟩⟩ := (HR.out.below (B1.out.trans (HB.out.mono B1.out.size)) (Nat.le_refl _)).2 k hlt
        clear q4 q5
        have HS := hide (show srcL f (k + 1) = if (f k).kind = 1 then lput (srcL f k) (f k).name.toList else srcL f k from rfl)
        by_cases h1 : (f k).kind = 1
        · go_wp2_with (go_at_call 31; refine (l5Put_any b' off' m c' (srcL f k) (f k).name _ HM.out hm (by omega) HK.out).mono ?_; rintro e w2 ⟨b2, off2, m2, c2, rfl, hm2, hc2, hr2, hB⟩; have H2 := hide hm2; have R2 := hide hr2; have B2 := hide (HB.out.trans (hB.mono HB.out.size)); clear hm2 hr2 hB)
          exact ⟨⟨k + 1, b2, off2, m2, c2, by omega, by go_num, rfl, by rw [HS.out, if_pos h1]; exact H2.out, by omega, by rw [HS.out, if_pos h1]; exact R2.out, B2.out⟩, by simp [intOf]; omega⟩
        · go_wp2
          exact ⟨⟨k + 1, b', off', m, c', by omega, by go_num, rfl, by rw [HS.out, if_neg h1]; exact HM.out, by omega, by rw [HS.out, if_neg h1]; exact HK.out, HB.out⟩, by simp [intOf]; omega⟩
      · obtain rfl : k = n := by omega
        go_wp2
        go_ret
        exact ⟨b', off', m, c', rfl, HM.out, HK.out, B1.out.trans (HB.out.mono B1.out.size)⟩

end Go.Proofs.YtkgddbcjmejfaaaDoor.Vp
