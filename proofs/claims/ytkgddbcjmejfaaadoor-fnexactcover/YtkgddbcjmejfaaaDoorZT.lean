/-
  Put together of: NmImpl2.
-/
import Derived.Test.YtkgddbcjmejfaaaDoorZQ
import Derived.Test.YtkgddbcjmejfaaaDoorZO

/-
  impl: Names.
-/
namespace Go.Proofs.YtkgddbcjmejfaaaDoor.Vp
open Go.RowKit Go.Maps Go.Sort

set_option maxRecDepth 100000 in
set_option maxHeartbeats 4000000 in
theorem implNames_any (a : Option Addr) (n cap : Nat) (f : Nat → Deed) (w : World) (hn : (n : Int) ≤ 1048576) (hv : SlDeed w a n f) (hcap : (n : Int) ≤ cap) (hfit : ∀ i, i < n → FitsDeed (f i)) (hsz : ∀ i, i < n → SizedDeed (f i)) (hT : Tab w) :
    Calls Tryd.prog 10 #[.agg #[.slice a n cap]] w fun e w' => ∃ v, e = .returned v ∧ w'.ownsRow w.heap.size 9 1 v (nams f n).length ((nams f n).map encStr) ∧ Below w.heap.size w w' := by
  have HV := hide hv
  have HM := hide hfit
  have HZ := hide hsz
  have HT := hide hT
  clear hv hfit hsz hT
  have A0 := hide ((Below.refl w.heap.size w).alloc (Nat.le_refl _) (.cells #[.slice a n cap] 30))
  have k0 : (w.alloc (.cells #[.slice a n cap] 30)).cell? ⟨w.heap.size, 0, none⟩ = some (.slice a n cap) := by simp
  have hz : w.heap.size < (w.alloc (.cells #[.slice a n cap] 30)).heap.size := by simp
  obtain ⟨T, hT⟩ : ∃ T, T = nams f n := ⟨_, rfl⟩
  rw [← hT]
  have HE := hide (show T = if accOk f n = true then nameL f n else [] from hT)
  clear hT
  go_enter Tryd.func10, Tryd.ntmps10
  go_wp2_with fail
  generalize w.alloc (.cells #[.slice a n cap] 30) = W at A0 k0 hz ⊢
  refine (validAccount_any a n cap f _ hn (HV.out.below A0.out (Nat.le_refl _)) hcap HM.out (HT.out.below A0.out HT.out.1)).mono ?_
  rintro e w1 ⟨rfl, hB⟩
  have B1 := hide (A0.out.trans (hB.mono A0.out.size))
  have k1 := (hB.cell (p := ⟨w.heap.size, 0, none⟩) hz).trans k0
  have hz1 : w.heap.size < w1.heap.size := Nat.lt_of_lt_of_le hz hB.size
  clear hB A0 k0 hz
  have HO := hide (fun h : accOk f n = true => (⟨accOk_n h, accOk_links h⟩ : (1 ≤ n ∧ n ≤ 400 ∧ firstNo (deedOk f) n = -1) ∧ ∀ p, p < n → (f p).linksN ≤ 200))
  generalize accOk f n = r at HE HO ⊢
  cases r with
  | false =>
    obtain rfl : T = [] := HE.out
    go_wp2
    go_ret
    exact ⟨_, rfl, ⟨by simp, .inl ⟨rfl, rfl⟩⟩, B1.out⟩
  | true =>
    obtain rfl : T = nameL f n := HE.out
    obtain ⟨⟨hn1, hn4, -⟩, hl⟩ := HO.out rfl
    have HLK := hide hl
    clear hl
    clear HE HO HM
    obtain ⟨b, off, rfl, hrow⟩ := HV.out.resolve_left (by omega)
    have HR := hide hrow
    clear HV hrow
    have M0 := hide (setIs_new w1)
    have A1 := hide ((Below.refl w1.heap.size w1).alloc (Nat.le_refl _) (.map #[] 0))
    have k2 := (A1.out.cell (p := ⟨w.heap.size, 0, none⟩) hz1).trans k1
    have hmm := @run_makeMap Tryd.prog
    go_wp2
    clear hmm k2
    generalize w1.alloc (.map #[] 0) = W1 at M0 A1 ⊢
    obtain ⟨mb, hmb⟩ : ∃ mb, mb = w1.heap.size := ⟨_, rfl⟩
    rw [← hmb] at M0 ⊢
    have HMB := hide hmb
    clear hmb
    go_loopw [15] (fun i wr => ∃ k : Nat, k ≤ n ∧ i = .int .i64 k ∧ Hid (SetIs wr mb (k * 201) (nameL f k)) ∧ Hid (Below w1.heap.size w1 wr)) (fun i _ => n - (intOf i).toNat)
    case atStart => exact ⟨0, by omega, rfl, M0.out, A1.out⟩
    case round =>
      obtain ⟨k, hk, rfl, HK, HB⟩ := hrel
      by_cases hlt : k < n
      · obtain ⟨o0, o1, o2, o3, ⟨a0, cap0, o4, q4⟩, ⟨a1, cap1, o5, q5⟩⟩ := HR.out.2 k hlt
        have DW := B1.out.trans (HB.out.mono B1.out.size)
        have p0 := (DW.cell (p := ⟨b, off + k * 6, none⟩) HR.out.1).trans o0
        have p1 := (DW.cell (p := ⟨b, off + k * 6 + 1, none⟩) HR.out.1).trans o1
        have p2 := (DW.cell (p := ⟨b, off + k * 6 + 2, none⟩) HR.out.1).trans o2
        have p3 := (DW.cell (p := ⟨b, off + k * 6 + 3, none⟩) HR.out.1).trans o3
        have p4 := (DW.cell (p := ⟨b, off + k * 6 + 4, none⟩) HR.out.1).trans o4
        have p5 := (DW.cell (p := ⟨b, off + k * 6 + 5, none⟩) HR.out.1).trans o5
        have Q5 := hide q5
        clear q4 q5 o0 o1 o2 o3 o4 o5 DW
        have hlk := HLK.out k hlt
        have HS := hide (show nameL f (k + 1) = lnkL (lput (nameL f k) (f k).name.toList) (f k).links (f k).linksN from rfl)
        have D2 := hide ((Below.refl wr.heap.size wr).alloc (Nat.le_refl _) (.cells #[.string (f k).name, .int .i64 (f k).kind, .int .i64 (f k).code, .string (f k).text, .slice a0 (f k).actN cap0, .slice a1 (f k).linksN cap1] 58))
        have C2 := hide (HB.out.alloc HB.out.size (.cells #[.string (f k).name, .int .i64 (f k).kind, .int .i64 (f k).code, .string (f k).text, .slice a0 (f k).actN cap0, .slice a1 (f k).linksN cap1] 58))
        have K2 := hide (HK.out.grown D2.out HK.out.lt)
        have X5 := hide (show (wr.alloc (.cells #[.string (f k).name, .int .i64 (f k).kind, .int .i64 (f k).code, .string (f k).text, .slice a0 (f k).actN cap0, .slice a1 (f k).linksN cap1] 58)).cell? ⟨wr.heap.size, 5, none⟩ = some (.slice a1 (f k).linksN cap1) by simp)
        have mz := HK.out.lt
        go_wp2_with (go_at_call 34; refine (add_any mb (k * 201) (nameL f k) (f k).name _ (by omega) (HZ.out k hlt).1 K2.out).mono ?_; rintro e w2 ⟨rfl, hs2, hg2⟩; have S2 := hide hs2; have B2 := hide (Below.grown C2.out hg2 C2.out.size (fun j e => by cases e; exact Nat.le_of_eq HMB.out.symm)); have x6 := hg2.cell X5.out (by simp; omega); clear hs2 hg2)
        clear x6
        go_loopw [26] (fun i w3 => ∃ j : Nat, j ≤ (f k).linksN ∧ i = .int .i64 j ∧ Hid (SetIs w3 mb (k * 201 + 1 + j) (lnkL (lput (nameL f k) (f k).name.toList) (f k).links j)) ∧ Hid (Below w1.heap.size w1 w3)) (fun i _ => (f k).linksN - (intOf i).toNat)
        case atStart => exact ⟨0, by omega, rfl, S2.out, B2.out⟩
        case round =>
          obtain ⟨j, hj, rfl, HK3, HB3⟩ := hrel
          by_cases hjl : j < (f k).linksN
          · obtain ⟨b4, off4, rfl, hr4⟩ := (Q5.out.below (B1.out.trans (HB3.out.mono B1.out.size)) (Nat.le_refl _)).resolve_left (by omega)
            obtain ⟨r0, r1, r2, r3⟩ := hr4.2 j hjl
            clear hr4
            have C3 := hide (HB3.out.alloc HB3.out.size (.cells #[.string ((f k).links j).name, .bool ((f k).links j).ask, .bool ((f k).links j).has, .int .i64 ((f k).links j).at_] 60))
            have K3 := hide (HK3.out.grown ((Below.refl wr.heap.size wr).alloc (Nat.le_refl _) (.cells #[.string ((f k).links j).name, .bool ((f k).links j).ask, .bool ((f k).links j).has, .int .i64 ((f k).links j).at_] 60)) HK3.out.lt)
            go_wp2_with (go_at_call 34; refine (add_any mb (k * 201 + 1 + j) _ ((f k).links j).name _ (by omega) ((HZ.out k hlt).2.2.2.2 j hjl) K3.out).mono ?_; rintro e w4 ⟨rfl, hs4, hg4⟩; have S4 := hide hs4; have B4 := hide (Below.grown C3.out hg4 C3.out.size (fun j e => by cases e; exact Nat.le_of_eq HMB.out.symm)); clear hs4 hg4)
            exact ⟨⟨j + 1, by omega, by go_num, S4.out, B4.out⟩, by simp [intOf]; omega⟩
          · obtain rfl : j = (f k).linksN := by omega
            go_wp2
            exact ⟨⟨k + 1, by omega, by go_num, by rw [HS.out]; exact HK3.out.mono (by omega), HB3.out⟩, by simp [intOf]; omega⟩
      · obtain rfl : k = n := by omega
        have D2 := hide (B1.out.trans (HB.out.mono B1.out.size))
        go_wp2_with (go_at_call 35; refine (sorted_any mb (k * 201) (nameL f k) _ (by omega) (nameL_asc f k) HK.out).mono ?_; rintro e w2 ⟨v, rfl, ho, hB⟩; have O2 := hide (own_mono ho D2.out.size); have B2 := hide (D2.out.trans (hB.mono D2.out.size)); clear ho hB)
        go_ret
        exact ⟨v, rfl, O2.out, B2.out⟩

end Go.Proofs.YtkgddbcjmejfaaaDoor.Vp
