/-
  Put together of: NmImpl.
-/
import Derived.Test.YtkgddbcjmejfaaaDoorZP
import Derived.Test.YtkgddbcjmejfaaaDoorZN

/-
  impl: Sources.
-/
namespace Go.Proofs.YtkgddbcjmejfaaaDoor.Vp
open Go.RowKit Go.Maps Go.Sort

set_option maxRecDepth 100000 in
set_option maxHeartbeats 4000000 in
theorem implSources_any (a : Option Addr) (n cap : Nat) (f : Nat → Deed) (w : World) (hn : (n : Int) ≤ 1048576) (hv : SlDeed w a n f) (hcap : (n : Int) ≤ cap) (hfit : ∀ i, i < n → FitsDeed (f i)) (hsz : ∀ i, i < n → SizedDeed (f i)) (hT : Tab w) :
    Calls Tryd.prog 17 #[.agg #[.slice a n cap]] w fun e w' => ∃ v, e = .returned v ∧ w'.ownsRow w.heap.size 9 1 v (srcs f n).length ((srcs f n).map encStr) ∧ Below w.heap.size w w' := by
  have HV := hide hv
  have HM := hide hfit
  have HZ := hide hsz
  have HT := hide hT
  clear hv hfit hsz hT
  have A0 := hide ((Below.refl w.heap.size w).alloc (Nat.le_refl _) (.cells #[.slice a n cap] 30))
  have k0 : (w.alloc (.cells #[.slice a n cap] 30)).cell? ⟨w.heap.size, 0, none⟩ = some (.slice a n cap) := by simp
  have hz : w.heap.size < (w.alloc (.cells #[.slice a n cap] 30)).heap.size := by simp
  obtain ⟨T, hT⟩ : ∃ T, T = srcs f n := ⟨_, rfl⟩
  rw [← hT]
  have HE := hide (show T = if accOk f n = true then srcL f n else [] from hT)
  clear hT
  go_enter Tryd.func17, Tryd.ntmps17
  go_wp2_with fail
  generalize w.alloc (.cells #[.slice a n cap] 30) = W at A0 k0 hz ⊢
  refine (validAccount_any a n cap f _ hn (HV.out.below A0.out (Nat.le_refl _)) hcap HM.out (HT.out.below A0.out HT.out.1)).mono ?_
  rintro e w1 ⟨rfl, hB⟩
  have B1 := hide (A0.out.trans (hB.mono A0.out.size))
  have k1 := (hB.cell (p := ⟨w.heap.size, 0, none⟩) hz).trans k0
  have hz1 : w.heap.size < w1.heap.size := Nat.lt_of_lt_of_le hz hB.size
  clear hB A0 k0 hz
  have HO := hide (fun h : accOk f n = true => accOk_n h)
  generalize accOk f n = r at HE HO ⊢
  cases r with
  | false =>
    obtain rfl : T = [] := HE.out
    go_wp2
    go_ret
    exact ⟨_, rfl, ⟨by simp, .inl ⟨rfl, rfl⟩⟩, B1.out⟩
  | true =>
    obtain rfl : T = srcL f n := HE.out
    obtain ⟨hn1, hn4, -⟩ := HO.out rfl
    clear HE HO HM
    obtain ⟨b, off, rfl, hrow⟩ := HV.out.resolve_left (by omega)
    have HR := hide hrow
    clear HV hrow
    have M0 := hide (setIs_new w1)
    have A1 := hide ((Below.refl w1.heap.size w1).alloc (Nat.le_refl _) (.map #[] 0))
    have k2 := (A1.out.cell (p := ⟨w.heap.size, 0, none⟩) hz1).trans k1
    have hmm := @run_makeMap Tryd.prog
    go_wp2
    clear hmm k2
    generalize w1.alloc (.map #[] 0) = W1 at M0 A1 ⊢
    obtain ⟨mb, hmb⟩ : ∃ mb, mb = w1.heap.size := ⟨_, rfl⟩
    rw [← hmb] at M0 ⊢
    have HMB := hide hmb
    clear hmb
    go_loopw [13] (fun i wr => ∃ k : Nat, k ≤ n ∧ i = .int .i64 k ∧ Hid (SetIs wr mb k (srcL f k)) ∧ Hid (Below w1.heap.size w1 wr)) (fun i _ => n - (intOf i).toNat)
    case atStart => exact ⟨0, by omega, rfl, M0.out, A1.out⟩
    case round =>
      obtain ⟨k, hk, rfl, HK, HB⟩ := hrel
      by_cases hlt : k < n
      · obtain ⟨p0, p1, p2, p3, ⟨a0, cap0, p4, q4⟩, ⟨a1, cap1, p5, q5⟩⟩ := (HR.out.below (B1.out.trans (HB.out.mono B1.out.size)) (Nat.le_refl _)).2 k hlt
        clear q4 q5
        have HS := hide (show srcL f (k + 1) = if (f k).kind = 1 then lput (srcL f k) (f k).name.toList else srcL f k from rfl)
        have C2 := hide (HB.out.alloc HB.out.size (.cells #[.string (f k).name, .int .i64 (f k).kind, .int .i64 (f k).code, .string (f k).text, .slice a0 (f k).actN cap0, .slice a1 (f k).linksN cap1] 58))
        have K2 := hide (HK.out.grown ((Below.refl wr.heap.size wr).alloc (Nat.le_refl _) (.cells #[.string (f k).name, .int .i64 (f k).kind, .int .i64 (f k).code, .string (f k).text, .slice a0 (f k).actN cap0, .slice a1 (f k).linksN cap1] 58)) HK.out.lt)
        by_cases h1 : (f k).kind = 1
        · rw [h1] at C2 K2
          go_wp2_with (go_at_call 34; refine (add_any mb k (srcL f k) (f k).name _ (by omega) (HZ.out k hlt).1 K2.out).mono ?_; rintro e w2 ⟨rfl, hs2, hg2⟩; have S2 := hide hs2; have B2 := hide (Below.grown C2.out hg2 C2.out.size (fun j e => by cases e; exact Nat.le_of_eq HMB.out.symm)); clear hs2 hg2)
          exact ⟨⟨k + 1, by omega, by go_num, by rw [HS.out, if_pos h1]; exact S2.out, B2.out⟩, by simp [intOf]; omega⟩
        · go_wp2
          exact ⟨⟨k + 1, by omega, by go_num, by rw [HS.out, if_neg h1]; exact K2.out.mono (by omega), C2.out⟩, by simp [intOf]; omega⟩
      · obtain rfl : k = n := by omega
        have D2 := hide (B1.out.trans (HB.out.mono B1.out.size))
        go_wp2_with (go_at_call 35; refine (sorted_any mb k (srcL f k) _ (by omega) (srcL_asc f k) HK.out).mono ?_; rintro e w2 ⟨v, rfl, ho, hB⟩; have O2 := hide (own_mono ho D2.out.size); have B2 := hide (D2.out.trans (hB.mono D2.out.size)); clear ho hB)
        go_ret
        exact ⟨v, rfl, O2.out, B2.out⟩

end Go.Proofs.YtkgddbcjmejfaaaDoor.Vp
