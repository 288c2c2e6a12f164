/-
  spec: Audit.
-/
import Derived.Test.YtfhdecheaeoopaaGreatDoorZInsB
import Derived.Test.YtfhdecheaeoopaaGreatDoorZAuThere
import Derived.Test.YtfhdecheaeoopaaGreatDoorZAuBx
import Derived.Test.YtfhdecheaeoopaaGreatDoorZCsSpec2
import Derived.Test.YtfhdecheaeoopaaGreatDoorZU
import Derived.Test.YtfhdecheaeoopaaGreatDoorZN
import Derived.Deep.RegionHeld3
namespace Go.Proofs.YtfhdecheaeoopaaGreatDoor.Vp
open Go.RowKit

theorem placeOf_one {g : Nat → ByteArray} {n : Nat} {t : ByteArray} {r s : Int} (hs : ascTo g n = true) (h1 : PlaceOf g n t r) (h2 : PlaceOf g n t s) : r = s := by
  rcases h1 with ⟨rfl, h1⟩ | ⟨i, rfl, hi, h1⟩
  · rcases h2 with ⟨rfl, h2⟩ | ⟨j, rfl, hj, h2⟩
    · rfl
    · rw [isIn_true hj h2] at h1
      cases h1
  · rcases h2 with ⟨rfl, h2⟩ | ⟨j, rfl, hj, h2⟩
    · rw [isIn_true hi h1] at h2
      cases h2
    · rw [asc_one hs hi hj h1 h2]
theorem placeOf_some (g : Nat → ByteArray) (n : Nat) (t : ByteArray) : ∃ r, PlaceOf g n t r := by
  cases h : isIn g n t with
  | false => exact ⟨-1, .inl ⟨rfl, h⟩⟩
  | true =>
    obtain ⟨k, hk, h1⟩ := isIn_get h
    exact ⟨k, .inr ⟨k, rfl, hk, h1⟩⟩

theorem l2Source_is (a0 : Option Addr) (n0 c0 : Nat) (a1 : Option Addr) (n1 c1 : Nat) (f0 : Nat → Source) (t : ByteArray) (S : Int) (w : World) (hn0 : (n0 : Int) ≤ 1048576) (hv0 : SlSource w a0 n0 f0) (hs : ascTo (nm0 f0) n0 = true) (hS : PlaceOf (nm0 f0) n0 t S) :
    Calls Tryz.prog 28 #[.agg #[.slice a0 n0 c0, .slice a1 n1 c1], .string t] w fun e w' => e = .returned (.int .i64 S) ∧ Below w.heap.size w w' :=
  (l2SourceAt_any a0 n0 c0 a1 n1 c1 f0 t w hn0 hv0).mono fun _ _ ⟨_, he, hp, hb⟩ => ⟨by rw [he, placeOf_one hs hp hS], hb⟩
theorem l2Target_is (a0 : Option Addr) (n0 c0 : Nat) (a1 : Option Addr) (n1 c1 : Nat) (f1 : Nat → Target) (t : ByteArray) (S : Int) (w : World) (hn1 : (n1 : Int) ≤ 1048576) (hv1 : SlTarget w a1 n1 f1) (hs : ascTo (nm1 f1) n1 = true) (hS : PlaceOf (nm1 f1) n1 t S) :
    Calls Tryz.prog 29 #[.agg #[.slice a0 n0 c0, .slice a1 n1 c1], .string t] w fun e w' => e = .returned (.int .i64 S) ∧ Below w.heap.size w w' :=
  (l2TargetAt_any a0 n0 c0 a1 n1 c1 f1 t w hn1 hv1).mono fun _ _ ⟨_, he, hp, hb⟩ => ⟨by rw [he, placeOf_one hs hp hS], hb⟩

set_option maxRecDepth 100000 in
set_option maxHeartbeats 8000000 in
theorem specAudit_any (a : Option Addr) (n cap : Nat) (f : Nat → Deed) (sa0 : Option Addr) (n0 sc0 : Nat) (f0 : Nat → Source) (sa1 : Option Addr) (n1 sc1 : Nat) (f1 : Nat → Target) (w : World) (hn : (n : Int) ≤ 1048576) (hn0 : (n0 : Int) ≤ 1048576) (hn1 : (n1 : Int) ≤ 1048576) (hv : SlDeed w a n f) (hfit : ∀ i, i < n → FitsDeed (f i)) (hsz : ∀ i, i < n → SizedDeed (f i)) (hs0 : SlSource w sa0 n0 f0) (hs1 : SlTarget w sa1 n1 f1) (hfs : ∀ i, i < n1 → FitsTarget (f1 i)) (hss : ∀ i, i < n1 → ∀ j, j < (f1 i).actN → ((f1 i).act j).s.size ≤ maxLen) :
    Calls Tryz.prog 11 #[.agg #[.slice a n cap], .agg #[.slice sa0 n0 sc0, .slice sa1 n1 sc1]] w fun e w' => e = .returned (.tuple #[.int .i64 (audC n0 f0 n1 f1 f n).1, .int .i64 (audC n0 f0 n1 f1 f n).2]) ∧ Below w.heap.size w w' := by
  have HV := hide hv
  have HM := hide hfit
  have HZ := hide hsz
  have HS0 := hide hs0
  have HS1 := hide hs1
  have HFS := hide hfs
  have HSS := hide hss
  clear hv hfit hsz hs0 hs1 hfs hss
  have A0 := hide (((Below.refl w.heap.size w).alloc (Nat.le_refl _) (.cells #[.slice a n cap] 30)).alloc (by simp) (.cells #[.slice sa0 n0 sc0, .slice sa1 n1 sc1] 43))
  have X0 := hide (auBox_new w (.slice a n cap) (.slice sa0 n0 sc0) (.slice sa1 n1 sc1) 30 43)
  obtain ⟨T1, T2, hT⟩ : ∃ T1 T2, audC n0 f0 n1 f1 f n = (T1, T2) := ⟨_, _, rfl⟩
  rw [hT]
  have HE := hide (show (if accOk f n = true then (if checkC n0 f0 n1 f1 = 0 then firF (codeA n0 f0 n1 f1 f) n else (1, 0)) else (1, 0)) = (T1, T2) from hT)
  clear hT
  go_enter Tryz.func11, Tryz.ntmps11
  go_wp2_with fail
  generalize (w.alloc (.cells #[.slice a n cap] 30)).alloc (.cells #[.slice sa0 n0 sc0, .slice sa1 n1 sc1] 43) = W at A0 X0 ⊢
  refine (l3Ok_any a n cap f _ hn (HV.out.below A0.out (Nat.le_refl _)) HM.out HZ.out).mono ?_
  rintro e w1 ⟨rfl, hB⟩
  have B1 := hide (A0.out.trans (hB.mono A0.out.size))
  have X1 := hide (X0.out.below hB X0.out.lt)
  clear hB A0 X0
  have HO := hide (fun h : accOk f n = true => (⟨accOk_n h, h⟩ : (1 ≤ n ∧ n ≤ 400 ∧ firstNo (deedOk f) n = -1) ∧ accOk f n = true))
  obtain ⟨r, hr⟩ : ∃ r, r = accOk f n := ⟨_, rfl⟩
  rw [← hr] at HE ⊢
  have HRR := hide hr
  clear hr
  obtain ⟨x1, y0, y1, y2⟩ := X1.out
  cases r with
  | false =>
    obtain ⟨rfl, rfl⟩ : (1 : Int) = T1 ∧ (0 : Int) = T2 := by have := HE.out; simpa using this
    go_wp2
    go_ret2
    exact ⟨rfl, B1.out⟩
  | true =>
    have HF := hide (show (if checkC n0 f0 n1 f1 = 0 then firF (codeA n0 f0 n1 f1 f) n else (1, 0)) = (T1, T2) by have := HE.out; simpa using this)
    obtain ⟨⟨hn1', hn4, -⟩, hacc⟩ := HO.out HRR.out.symm
    have HACC := hide hacc
    clear HE HO hacc HRR
    obtain ⟨b, off, rfl, hrow⟩ := HV.out.resolve_left (by omega)
    have HR := hide hrow
    clear HV hrow
    go_wp2_with fail
    refine (specCheck_any sa0 n0 sc0 f0 sa1 n1 sc1 f1 _ hn0 hn1 (HS0.out.below B1.out (Nat.le_refl _)) (HS1.out.below B1.out (Nat.le_refl _)) HFS.out HSS.out).mono ?_
    rintro e w2 ⟨rfl, hB⟩
    have B2 := hide (B1.out.trans (hB.mono B1.out.size))
    have X2 := hide (X1.out.below hB X1.out.lt)
    clear hB X1 x1 y0 y1 y2
    have HCZ := hide (fun h : checkC n0 f0 n1 f1 = 0 => check_asc h)
    obtain ⟨c, hc⟩ : ∃ c, c = checkC n0 f0 n1 f1 := ⟨_, rfl⟩
    rw [← hc] at HF ⊢
    have HCC := hide hc
    clear hc
    by_cases hc0 : c = 0
    case neg =>
      obtain ⟨rfl, rfl⟩ : (1 : Int) = T1 ∧ (0 : Int) = T2 := by have := HF.out; simpa [hc0] using this
      have hc2 : (c == 0) = false := by simpa using hc0
      go_wp2
      go_ret2
      exact ⟨rfl, B2.out⟩
    subst hc0
    have HG := hide (show firF (codeA n0 f0 n1 f1 f) n = (T1, T2) by have := HF.out; simpa using this)
    obtain ⟨hasc0, hasc1, hfew⟩ := HCZ.out HCC.out.symm
    have HA0 := hide hasc0
    have HA1 := hide hasc1
    clear HF HCZ HCC hasc0 hasc1
    go_wp2
    go_loopw [6] (fun v wr => ∃ i : Nat, i ≤ n ∧ v = .int .i64 i ∧ Hid (∀ j, j < i → codeA n0 f0 n1 f1 f j = 0) ∧ Hid (Below w2.heap.size w2 wr)) (fun i _ => n - (intOf i).toNat)
    case atStart => exact ⟨0, by omega, rfl, fun j hj => absurd hj (Nat.not_lt_zero _), Below.refl _ _⟩
    case round =>
      obtain ⟨i, hin, rfl, HD, HB⟩ := hrel
      have X3 := hide (X2.out.below HB.out X2.out.lt)
      have R2 := hide (B2.out.trans (HB.out.mono B2.out.size))
      obtain ⟨x1, y0, y1, y2⟩ := X3.out
      by_cases hlt : i < n
      case neg =>
        obtain rfl : i = n := by omega
        have h := firF_none HD.out
        rw [HG.out] at h
        simp only [Prod.mk.injEq] at h
        obtain ⟨rfl, rfl⟩ := h
        go_wp2
        go_ret2
        exact ⟨rfl, R2.out⟩
      have hlt2 : (i : Int) < n := by omega
      have hrow2 := HR.out.below R2.out (Nat.le_refl _)
      have HRW := hide hrow2
      obtain ⟨o0, o1, o2, o3, ⟨a0, cap0, o4, q4⟩, ⟨a1, cap1, o5, q5⟩⟩ := hrow2.2 i hlt
      have QI := hide (show SlIns wr a0 (f i).actN (f i).act ∧ SlLink wr a1 (f i).linksN (f i).links from ⟨q4, q5⟩)
      clear hrow2 q4 q5
      have D1 := hide ((Below.refl wr.heap.size wr).alloc (Nat.le_refl _) (.cells #[.string (f i).name, .int .i64 (f i).kind, .int .i64 (f i).code, .string (f i).text, .slice a0 (f i).actN cap0, .slice a1 (f i).linksN cap1] 54))
      have e1 : (wr.alloc (.cells #[.string (f i).name, .int .i64 (f i).kind, .int .i64 (f i).code, .string (f i).text, .slice a0 (f i).actN cap0, .slice a1 (f i).linksN cap1] 54)).cell? ⟨wr.heap.size, 1, none⟩ = some (.int .i64 (f i).kind) := by simp
      have e5 : (wr.alloc (.cells #[.string (f i).name, .int .i64 (f i).kind, .int .i64 (f i).code, .string (f i).text, .slice a0 (f i).actN cap0, .slice a1 (f i).linksN cap1] 54)).cell? ⟨wr.heap.size, 5, none⟩ = some (.slice a1 (f i).linksN cap1) := by simp
      have hez : wr.heap.size < (wr.alloc (.cells #[.string (f i).name, .int .i64 (f i).kind, .int .i64 (f i).code, .string (f i).text, .slice a0 (f i).actN cap0, .slice a1 (f i).linksN cap1] 54)).heap.size := by simp
      go_wp2_with fail
      clear o0 o1 o2 o3 o4 o5
      generalize wr.alloc (.cells #[.string (f i).name, .int .i64 (f i).kind, .int .i64 (f i).code, .string (f i).text, .slice a0 (f i).actN cap0, .slice a1 (f i).linksN cap1] 54) = WD at D1 e1 e5 hez ⊢
      have R3 := hide (R2.out.trans (D1.out.mono R2.out.size))
      have B3 := hide (HB.out.trans (D1.out.mono HB.out.size))
      refine (there_any (f i) a0 cap0 a1 cap1 sa0 n0 sc0 f0 sa1 n1 sc1 f1 _ hn0 hn1 (HS0.out.below R3.out (Nat.le_refl _)) (HS1.out.below R3.out (Nat.le_refl _)) HA0.out HA1.out (QI.out.1.below D1.out (Nat.le_refl _)) (HM.out i hlt).1 HFS.out).mono ?_
      rintro e w4 ⟨rfl, hB⟩
      have X4 := hide ((X3.out.below D1.out X3.out.lt).below hB (by have := X3.out.lt; have := D1.out.size; omega))
      have R4 := hide (R3.out.trans (hB.mono R3.out.size))
      have B4 := hide (B3.out.trans (hB.mono B3.out.size))
      have D4 := hide (D1.out.trans (hB.mono D1.out.size))
      have g1 := (hB.cell (p := ⟨wr.heap.size, 1, none⟩) hez).trans e1
      have g5 := (hB.cell (p := ⟨wr.heap.size, 5, none⟩) hez).trans e5
      have hgz : wr.heap.size < w4.heap.size := Nat.lt_of_lt_of_le hez hB.size
      have HCI := hide (show codeA n0 f0 n1 f1 f i = if lieB n0 f0 n1 f1 (f i) = true then 2 else if hasB n0 f0 n1 f1 (f i) = true then 3 else codeF f i from rfl)
      clear hB D1 R3 B3 e1 e5 hez x1 y0 y1 y2 X3
      obtain ⟨x1, y0, y1, y2⟩ := X4.out
      cases hq : lieB n0 f0 n1 f1 (f i) with
      | true =>
        have HEE : Hid ((2 : Int) = T1 ∧ (i : Int) = T2) := by
          have hci : codeA n0 f0 n1 f1 f i = 2 := by rw [HCI.out, if_pos hq]
          have h := firF_first hlt HD.out (by rw [hci]; decide)
          rw [HG.out, hci] at h
          simp only [Prod.mk.injEq] at h
          exact ⟨h.1.symm, h.2.symm⟩
        go_wp2
        go_ret2
        exact ⟨by rw [HEE.out.1, HEE.out.2]; rfl, R4.out⟩
      | false =>
        have HQ := hide hq
        have QJ := hide (And.intro (QI.out.1.below D4.out (Nat.le_refl _)) (QI.out.2.below D4.out (Nat.le_refl _)))
        have HRJ := hide (HRW.out.below D4.out (Nat.le_refl _))
        have hll := (HM.out i hlt).2
        clear hq QI HRW D4 HB R2 y0 y1 y2 x1
        generalize wr.heap.size = gd at g1 g5 hgz ⊢
        obtain ⟨x1, y0, y1, y2⟩ := X4.out
        go_wp2
        go_loopw [8] (fun v w5 => ∃ k : Nat, k ≤ (f i).linksN ∧ v = .int .i64 k ∧ Hid (anyTo (fun k => offB n0 f0 n1 f1 ((f i).links k)) k = false) ∧ Hid (Below w4.heap.size w4 w5)) (fun k _ => (f i).linksN - (intOf k).toNat)
        case atStart => exact ⟨0, by omega, rfl, rfl, Below.refl _ _⟩
        case round =>
          obtain ⟨k, hk, rfl, HN, HB5⟩ := hrel
          have X5 := hide (X4.out.below HB5.out X4.out.lt)
          have R5 := hide (R4.out.trans (HB5.out.mono R4.out.size))
          have g1' := (HB5.out.cell (p := ⟨gd, 1, none⟩) hgz).trans g1
          have g5' := (HB5.out.cell (p := ⟨gd, 5, none⟩) hgz).trans g5
          have hgz' : gd < wr.heap.size := Nat.lt_of_lt_of_le hgz HB5.out.size
          clear x1 y0 y1 y2
          obtain ⟨x1, y0, y1, y2⟩ := X5.out
          by_cases hlk : k < (f i).linksN
          · have hlk2 : (k : Int) < (f i).linksN := by omega
            obtain ⟨lb, lo, hae, hlr⟩ := (QJ.out.2.below HB5.out (Nat.le_refl _)).resolve_left (by omega)
            subst hae
            obtain ⟨p0, p1, p2, p3⟩ := hlr.2 k hlk
            clear hlr
            have HX := hide (show anyTo (fun k => offB n0 f0 n1 f1 ((f i).links k)) (k + 1) = offB n0 f0 n1 f1 ((f i).links k) by rw [anyTo, HN.out]; rfl)
            have HY := hide (fun h : offB n0 f0 n1 f1 ((f i).links k) = true => show hasB n0 f0 n1 f1 (f i) = true from anyTo_true (p := fun k => offB n0 f0 n1 f1 ((f i).links k)) hlk h)
            generalize (f i).links k = X at p0 p1 p2 p3 HX HY
            obtain ⟨S, hS⟩ := placeOf_some (nm0 f0) n0 X.name
            obtain ⟨T, hT⟩ := placeOf_some (nm1 f1) n1 X.name
            have HOF := hide (show offB n0 f0 n1 f1 X = (!X.ask && !(X.has == (decide (0 ≤ S) || decide (0 ≤ T)))) by unfold offB hasN; rw [hS.has, hT.has])
            have PS := hide hS
            have PT := hide hT
            have HST := hide (show (S = -1 ∨ ∃ s : Nat, S = s) ∧ (T = -1 ∨ ∃ t : Nat, T = t) from ⟨hS.elim (fun h => .inl h.1) (fun ⟨k, h, _⟩ => .inr ⟨k, h⟩), hT.elim (fun h => .inl h.1) (fun ⟨k, h, _⟩ => .inr ⟨k, h⟩)⟩)
            clear hS hT
            cases hask : X.ask with
            | true =>
              have hof : offB n0 f0 n1 f1 X = false := by rw [HOF.out, hask]; rfl
              have HOK := hide (HX.out.trans hof)
              have BL := hide (HB5.out.alloc HB5.out.size (.cells #[.string X.name, .bool true, .bool X.has, .int .i64 X.at_] 70))
              rw [hask] at p1
              clear hof HX HY HOF PS PT
              go_wp2_with fail
              go_quiet (fail)
              have BQ := hide (below_drewN BL.out nq)
              go_wp2
              exact ⟨⟨k + 1, by omega, by go_num, HOK.out, BQ.out⟩, by simp [intOf]; omega⟩
            | false =>
              obtain ⟨c, hcc⟩ : ∃ c, c = X.has := ⟨_, rfl⟩
              obtain ⟨nm, hnm⟩ : ∃ nm, nm = X.name := ⟨_, rfl⟩
              have HOF2 : Hid (offB n0 f0 n1 f1 X = !(c == (decide (0 ≤ S) || decide (0 ≤ T)))) := by show _ = _; rw [HOF.out, hask, hcc]; rfl
              rw [hask] at p1
              rw [← hcc] at p2
              rw [← hnm] at p0 PS PT
              have D6 := hide ((Below.refl wr.heap.size wr).alloc (Nat.le_refl _) (.cells #[.string nm, .bool false, .bool c, .int .i64 X.at_] 70))
              have m0 : (wr.alloc (.cells #[.string nm, .bool false, .bool c, .int .i64 X.at_] 70)).cell? ⟨wr.heap.size, 0, none⟩ = some (.string nm) := by simp
              have m1 : (wr.alloc (.cells #[.string nm, .bool false, .bool c, .int .i64 X.at_] 70)).cell? ⟨wr.heap.size, 1, none⟩ = some (.bool false) := by simp
              have m2 : (wr.alloc (.cells #[.string nm, .bool false, .bool c, .int .i64 X.at_] 70)).cell? ⟨wr.heap.size, 2, none⟩ = some (.bool c) := by simp
              have hmz : wr.heap.size < (wr.alloc (.cells #[.string nm, .bool false, .bool c, .int .i64 X.at_] 70)).heap.size := by simp
              clear hcc hnm hask HOF
              go_wp2_with fail
              have X6 := hide (X5.out.below D6.out X5.out.lt)
              clear p0 p1 p2 p3 g1' g5' x1 y0 y1 y2
              generalize wr.alloc (.cells #[.string nm, .bool false, .bool c, .int .i64 X.at_] 70) = WL at D6 m0 m1 m2 hmz X6 ⊢
              have B6 := hide (HB5.out.trans (D6.out.mono HB5.out.size))
              have R6 := hide (R5.out.trans (D6.out.mono R5.out.size))
              have CS := hide (fun V (hB : Below WL.heap.size WL V) => l2Source_is sa0 n0 sc0 sa1 n1 sc1 f0 nm S V hn0 ((HS0.out.below R6.out (Nat.le_refl _)).below hB (Nat.le_refl _)) HA0.out PS.out)
              have CT := hide (fun V (hB : Below WL.heap.size WL V) => l2Target_is sa0 n0 sc0 sa1 n1 sc1 f1 nm T V hn1 ((HS1.out.below R6.out (Nat.le_refl _)).below hB (Nat.le_refl _)) HA1.out PT.out)
              generalize wr.heap.size = gl at m0 m1 m2 hmz ⊢
              clear D6 PS PT X5 R5
              have HEE := hide (fun h : offB n0 f0 n1 f1 X = true => (show (3 : Int) = T1 ∧ (i : Int) = T2 by
                have hci : codeA n0 f0 n1 f1 f i = 3 := by rw [HCI.out, if_neg (by rw [HQ.out]; simp), if_pos (HY.out h)]
                have h := firF_first hlt HD.out (by rw [hci]; decide)
                rw [HG.out, hci] at h
                simp only [Prod.mk.injEq] at h
                exact ⟨h.1.symm, h.2.symm⟩))
              have SK := hide (fun V (hB : Below WL.heap.size WL V) => (show V.cell? ⟨gl, 0, none⟩ = some (.string nm) ∧ V.cell? ⟨gl, 1, none⟩ = some (.bool false) ∧ V.cell? ⟨gl, 2, none⟩ = some (.bool c) ∧ V.cell? ⟨w.heap.size + 1, 0, none⟩ = some (.slice sa0 n0 sc0) ∧ V.cell? ⟨w.heap.size + 1, 1, none⟩ = some (.slice sa1 n1 sc1) from ⟨(hB.cell (p := ⟨gl, 0, none⟩) hmz).trans m0, (hB.cell (p := ⟨gl, 1, none⟩) hmz).trans m1, (hB.cell (p := ⟨gl, 2, none⟩) hmz).trans m2, (X6.out.below hB X6.out.lt).c1, (X6.out.below hB X6.out.lt).c2⟩))
              clear m0 m1 m2
              have hst : (S = -1 ∨ ∃ s : Nat, S = s) ∧ (T = -1 ∨ ∃ t : Nat, T = t) := HST.out
              rcases hst with ⟨rfl | ⟨s, rfl⟩, hTT⟩
              · rcases hTT with rfl | ⟨t, rfl⟩
                · go_region_held3 (fun V => V.cell? ⟨gl, 0, none⟩ = some (.string nm) ∧ V.cell? ⟨gl, 1, none⟩ = some (.bool false) ∧ V.cell? ⟨gl, 2, none⟩ = some (.bool c) ∧ V.cell? ⟨w.heap.size + 1, 0, none⟩ = some (.slice sa0 n0 sc0) ∧ V.cell? ⟨w.heap.size + 1, 1, none⟩ = some (.slice sa1 n1 sc1)) (first | exact SK.out _ (Below.refl _ _) | exact SK.out _ (Below.refl _ _).drew | exact SK.out _ BS.out | exact SK.out _ BT.out)
                    (first
                    | (go_at_call 28; refine (CS.out _ ?_).mono ?_; (first | exact Below.refl _ _ | exact (Below.refl _ _).drew); rintro e wS ⟨rfl, hB⟩; have BS : Hid (Below WL.heap.size WL wS) := ⟨hB.os, hB.tape, hB.output, hB.size, hB.block⟩; clear hB)
                    | (go_at_call 29; refine (CT.out _ ?_).mono ?_; (first | exact BS.out | exact BS.out.drew); rintro e wT ⟨rfl, hB⟩; have BT : Hid (Below WL.heap.size WL wT) := BS.out.trans (Below.mono (⟨hB.os, hB.tape, hB.output, hB.size, hB.block⟩ : Below wS.heap.size wS wT) BS.out.size); clear hB))
                  all_goals
                    go_simp
                    cases c
                    all_goals
                      go_wp2
                      first
                        | exact ⟨⟨k + 1, by omega, by go_num, HX.out.trans (by rw [HOF2.out]; simp), B6.out.trans (BT.out.mono B6.out.size)⟩, by simp [intOf]; omega⟩
                        | (go_ret2
                           have hee := HEE.out (by rw [HOF2.out]; simp)
                           exact ⟨by rw [hee.1, hee.2]; rfl, R6.out.trans (BT.out.mono R6.out.size)⟩)
                · go_region_held3 (fun V => V.cell? ⟨gl, 0, none⟩ = some (.string nm) ∧ V.cell? ⟨gl, 1, none⟩ = some (.bool false) ∧ V.cell? ⟨gl, 2, none⟩ = some (.bool c) ∧ V.cell? ⟨w.heap.size + 1, 0, none⟩ = some (.slice sa0 n0 sc0) ∧ V.cell? ⟨w.heap.size + 1, 1, none⟩ = some (.slice sa1 n1 sc1)) (first | exact SK.out _ (Below.refl _ _) | exact SK.out _ (Below.refl _ _).drew | exact SK.out _ BS.out | exact SK.out _ BT.out)
                    (first
                    | (go_at_call 28; refine (CS.out _ ?_).mono ?_; (first | exact Below.refl _ _ | exact (Below.refl _ _).drew); rintro e wS ⟨rfl, hB⟩; have BS : Hid (Below WL.heap.size WL wS) := ⟨hB.os, hB.tape, hB.output, hB.size, hB.block⟩; clear hB)
                    | (go_at_call 29; refine (CT.out _ ?_).mono ?_; (first | exact BS.out | exact BS.out.drew); rintro e wT ⟨rfl, hB⟩; have BT : Hid (Below WL.heap.size WL wT) := BS.out.trans (Below.mono (⟨hB.os, hB.tape, hB.output, hB.size, hB.block⟩ : Below wS.heap.size wS wT) BS.out.size); clear hB))
                  all_goals
                    go_simp
                    cases c
                    all_goals
                      go_wp2
                      first
                        | exact ⟨⟨k + 1, by omega, by go_num, HX.out.trans (by rw [HOF2.out]; simp), B6.out.trans (BT.out.mono B6.out.size)⟩, by simp [intOf]; omega⟩
                        | (go_ret2
                           have hee := HEE.out (by rw [HOF2.out]; simp)
                           exact ⟨by rw [hee.1, hee.2]; rfl, R6.out.trans (BT.out.mono R6.out.size)⟩)
              · clear CT hTT
                obtain ⟨z0, z1, z2, z3, z4⟩ := SK.out _ (Below.refl _ _)
                first
                  | go_region_with (first
                    | (go_at_call 28; refine (CS.out _ ?_).mono ?_; (first | exact Below.refl _ _ | exact (Below.refl _ _).drew); rintro e wS ⟨rfl, hB⟩; have BS : Hid (Below WL.heap.size WL wS) := ⟨hB.os, hB.tape, hB.output, hB.size, hB.block⟩; obtain ⟨u0, u1, u2, u3, u4⟩ := SK.out _ BS.out; have hsz1 : gl < wS.heap.size := Nat.lt_of_lt_of_le hmz BS.out.size; clear hB))
                  | fail
                all_goals
                  go_simp
                  cases c
                  all_goals
                    go_wp2
                    first
                      | exact ⟨⟨k + 1, by omega, by go_num, HX.out.trans (by rw [HOF2.out]; simp), B6.out.trans (BS.out.mono B6.out.size)⟩, by simp [intOf]; omega⟩
                      | (go_ret2
                         have hee := HEE.out (by rw [HOF2.out]; simp)
                         exact ⟨by rw [hee.1, hee.2]; rfl, R6.out.trans (BS.out.mono R6.out.size)⟩)
          · obtain rfl : k = (f i).linksN := by omega
            have HHB := hide (show hasB n0 f0 n1 f1 (f i) = false from HN.out)
            have HCF : Hid (codeA n0 f0 n1 f1 f i = codeF f i) := by show _ = _; rw [HCI.out, if_neg (by rw [HQ.out]; simp), if_neg (by rw [HHB.out]; simp)]
            have B5 := hide (B4.out.trans (HB5.out.mono B4.out.size))
            by_cases hk3 : (f i).kind = 3
            · have HKK := hide hk3
              have HC2 : Hid (codeA n0 f0 n1 f1 f i = codeR f i) := by show _ = _; rw [HCF.out]; unfold codeF; rw [if_pos hk3]
              rw [hk3] at g1'
              clear hk3 HCF
              go_wp2_with fail
              refine (l4Run_any b off n cap f i _ (by omega) HACC.out hlt HKK.out (HRJ.out.below HB5.out (Nat.le_refl _)) (HZ.out i hlt)).mono ?_
              rintro e w6 ⟨rfl, hB⟩
              have B7 := hide (B5.out.trans (hB.mono B5.out.size))
              have R7 := hide (R5.out.trans (hB.mono R5.out.size))
              clear hB
              obtain ⟨C, hC⟩ : ∃ C, C = codeR f i := ⟨_, rfl⟩
              rw [← hC]
              rw [← hC] at HC2
              clear hC
              by_cases hc : C = 0
              · subst hc
                go_wp2
                exact ⟨⟨i + 1, by omega, by go_num, fun j hj => by
                  by_cases e : j = i
                  · subst e; exact HC2.out
                  · exact HD.out j (by omega), B7.out⟩, by simp [intOf]; omega⟩
              · have hc2 : (C == 0) = false := by simpa using hc
                have HEE : Hid (C = T1 ∧ (i : Int) = T2) := by
                  have h := firF_first hlt HD.out (by rw [HC2.out]; exact hc)
                  rw [HG.out, HC2.out] at h
                  simp only [Prod.mk.injEq] at h
                  exact ⟨h.1.symm, h.2.symm⟩
                go_wp2
                go_ret2
                exact ⟨by rw [HEE.out.1, HEE.out.2]; rfl, R7.out⟩
            · have HC2 : Hid (codeA n0 f0 n1 f1 f i = 0) := by show _ = _; rw [HCF.out]; unfold codeF; rw [if_neg hk3]
              have hk2 : ((f i).kind == 3) = false := by simpa using hk3
              go_wp2
              exact ⟨⟨i + 1, by omega, by go_num, fun j hj => by
                  by_cases e : j = i
                  · subst e; exact HC2.out
                  · exact HD.out j (by omega), B5.out⟩, by simp [intOf]; omega⟩

end Go.Proofs.YtfhdecheaeoopaaGreatDoor.Vp
