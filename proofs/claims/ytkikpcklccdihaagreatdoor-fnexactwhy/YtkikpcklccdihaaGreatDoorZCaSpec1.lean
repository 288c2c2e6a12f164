/-
  spec: what is a right deed.
-/
import Derived.Test.YtkikpcklccdihaaGreatDoorZCaDeed
namespace Go.Proofs.YtkikpcklccdihaaGreatDoor.Vp
open Go.RowKit

set_option maxRecDepth 100000 in
set_option maxHeartbeats 1000000 in
theorem sourceOk_any (x : Deed) (a0 : Option Addr) (cap0 : Nat) (a1 : Option Addr) (cap1 : Nat) (w : World) :
    Calls Tryz.prog 63 #[deedV x a0 cap0 a1 cap1] w fun e w' => e = .returned (.bool (decide (x.text.size ≤ 2000) && unmadeOk x)) ∧ Below w.heap.size w w' := by
  have A0 := hide ((Below.refl w.heap.size w).alloc (Nat.le_refl _) (.cells #[.string x.name, .int .i64 x.kind, .int .i64 x.code, .string x.text, .slice a0 x.actN cap0, .slice a1 x.linksN cap1] 76))
  obtain ⟨r, hr⟩ : ∃ r, r = (decide (x.text.size ≤ 2000) && unmadeOk x) := ⟨_, rfl⟩
  rw [← hr]
  have HR := hide hr
  clear hr
  go_enter Tryz.func63, Tryz.ntmps63
  cases h1 : (x.code == 0) with
  | false =>
    obtain rfl : r = false := by rw [HR.out]; simp at h1; simp [unmadeOk, h1]
    go_wp2
    go_ret
    exact ⟨rfl, A0.out⟩
  | true =>
    by_cases h4 : (x.text.size : Int) ≤ 2000
    · have h4' : decide (x.text.size ≤ 2000) = true := by simp; omega
      cases h2 : ((x.actN : Int) == 0) with
      | false =>
        obtain rfl : r = false := by rw [HR.out]; simp at h2; simp [unmadeOk]; omega
        go_wp2
        go_ret
        exact ⟨rfl, A0.out⟩
      | true =>
        cases h3 : ((x.linksN : Int) == 0) with
        | false =>
          obtain rfl : r = false := by rw [HR.out]; simp at h3; simp [unmadeOk]; omega
          go_wp2
          go_ret
          exact ⟨rfl, A0.out⟩
        | true =>
          obtain rfl : r = true := by rw [HR.out, h4']; simp at h1 h2 h3; simp [unmadeOk, h1, h2, h3]
          go_wp2
          go_ret
          exact ⟨rfl, A0.out⟩
    · obtain rfl : r = false := by rw [HR.out]; simp; omega
      go_wp2
      go_ret
      exact ⟨rfl, A0.out⟩

set_option maxRecDepth 100000 in
set_option maxHeartbeats 4000000 in
theorem l3TargetOk_any (b off n cap p : Nat) (f : Nat → Deed) (w : World) (hp : p < n) (hf : RowDeed w b off n f) (hfit : (f p).actN ≤ 1048576) (hsz : ∀ j, j < (f p).actN → ((f p).act j).s.size ≤ maxLen) :
    Calls Tryz.prog 64 #[.agg #[.slice (some ⟨b, off, none⟩) n cap], .int .i64 (p : Int)] w fun e w' => e = .returned (.bool (decide ((f p).text.size ≤ 2000) && targetOk f p (f p))) ∧ Below w.heap.size w w' := by
  have HF := hide hf
  have hb := hf.1
  obtain ⟨p0, p1, p2, p3, ⟨a0, cap0, p4, q4⟩, ⟨a1, cap1, p5, q5⟩⟩ := hf.2 p hp
  obtain ⟨x, hx⟩ : ∃ x, x = f p := ⟨_, rfl⟩
  rw [← hx] at p0 p1 p2 p3 p4 p5 q4 q5 hfit hsz ⊢
  have HX := hide hx
  have Q4 := hide q4
  have Q5 := hide q5
  have HZ := hide hsz
  clear hx q4 q5 hf hsz
  have A0 := hide (((Below.refl w.heap.size w).alloc (Nat.le_refl _) (.cells #[.slice (some ⟨b, off, none⟩) n cap] 30)).alloc (by simp) (.cells #[.string x.name, .int .i64 x.kind, .int .i64 x.code, .string x.text, .slice a0 x.actN cap0, .slice a1 x.linksN cap1] 76))
  have S0 := hide (sixB_new (w.alloc (.cells #[.slice (some ⟨b, off, none⟩) n cap] 30)) (.string x.name) (.int .i64 x.kind) (.int .i64 x.code) (.string x.text) (.slice a0 x.actN cap0) (.slice a1 x.linksN cap1) 76)
  have hz : (w.alloc (.cells #[.slice (some ⟨b, off, none⟩) n cap] 30)).heap.size = w.heap.size + 1 := by simp
  rw [hz] at S0
  have K0 : Hid (((w.alloc (.cells #[.slice (some ⟨b, off, none⟩) n cap] 30)).alloc (.cells #[.string x.name, .int .i64 x.kind, .int .i64 x.code, .string x.text, .slice a0 x.actN cap0, .slice a1 x.linksN cap1] 76)).cell? ⟨w.heap.size, 0, none⟩ = some (.slice (some ⟨b, off, none⟩) n cap)) := by
    show World.cell? _ _ = _
    simp
  clear hz
  obtain ⟨r, hr⟩ : ∃ r, r = (decide (x.text.size ≤ 2000) && targetOk f p x) := ⟨_, rfl⟩
  rw [← hr]
  have HR := hide hr
  clear hr
  have c2 := S0.out.c2
  have c3 := S0.out.c3
  have c4 := S0.out.c4
  have c5 := S0.out.c5
  by_cases g1 : 0 ≤ x.code
  case neg =>
    obtain rfl : r = false := by rw [HR.out]; simp [targetOk, g1]
    go_enter Tryz.func64, Tryz.ntmps64
    go_wp2
    go_ret
    exact ⟨rfl, A0.out⟩
  by_cases g2 : x.code ≤ 5
  case neg =>
    obtain rfl : r = false := by rw [HR.out]; simp [targetOk, g2]
    go_enter Tryz.func64, Tryz.ntmps64
    go_wp2
    go_ret
    exact ⟨rfl, A0.out⟩
  by_cases g3 : (x.text.size : Int) ≤ 2000
  case neg =>
    obtain rfl : r = false := by rw [HR.out]; simp; omega
    go_enter Tryz.func64, Tryz.ntmps64
    go_wp2
    go_ret
    exact ⟨rfl, A0.out⟩
  have g3' : decide (x.text.size ≤ 2000) = true := by simp; omega
  go_enter Tryz.func64, Tryz.ntmps64
  go_wp2_with fail
  generalize (w.alloc (.cells #[.slice (some ⟨b, off, none⟩) n cap] 30)).alloc (.cells #[.string x.name, .int .i64 x.kind, .int .i64 x.code, .string x.text, .slice a0 x.actN cap0, .slice a1 x.linksN cap1] 76) = W at A0 S0 K0 ⊢
  clear p0 p1 p2 p3 p4 p5
  refine (specValid_sl a0 x.actN cap0 x.act _ hfit (Q4.out.below A0.out (Nat.le_refl _)) HZ.out).mono ?_
  rintro e w1 ⟨he, hB⟩
  have B1 := hide (A0.out.trans (hB.mono A0.out.size))
  have S1 := hide (S0.out.below hB)
  have K1 := hide ((hB.cell (p := ⟨w.heap.size, 0, none⟩) (Nat.lt_of_succ_lt S0.out.lt)).trans K0.out)
  clear hB A0 S0 K0 c2 c3 c4 c5
  have c5 := S1.out.c5
  cases hv : valid x.act x.actN with
  | false =>
    rw [hv] at he
    subst he
    obtain rfl : r = false := by rw [HR.out]; simp [targetOk, hv]
    go_wp2
    go_ret
    exact ⟨rfl, B1.out⟩
  | true =>
  rw [hv] at he
  subst he
  have HR2 : Hid (r = (decide (x.linksN ≤ 200) && linksOk f p x x.linksN)) := by show r = _; rw [HR.out, g3']; simp [targetOk, hv, g1, g2]
  clear HR g3' hv
  by_cases hbig : (200 : Int) < (x.linksN : Int)
  · obtain rfl : r = false := by rw [HR2.out]; simp; omega
    go_wp2
    go_ret
    exact ⟨rfl, B1.out⟩
  have HR3 : Hid (r = linksOk f p x x.linksN) := by show r = _; rw [HR2.out, show decide (x.linksN ≤ 200) = true by simp; omega]; rfl
  clear HR2
  go_wp2
  have hlw1 : w.heap.size + 1 < w1.heap.size := S1.out.lt
  go_loopw [6] (fun i wr => ∃ k : Nat, k ≤ x.linksN ∧ i = .int .i64 k ∧ Hid (linksOk f p x k = true) ∧ Hid (Below w1.heap.size w1 wr)) (fun i _ => x.linksN - (intOf i).toNat)
  case atStart => exact ⟨0, by omega, rfl, rfl, Below.refl _ _⟩
  case round =>
    obtain ⟨k, hk, rfl, HK, HB⟩ := hrel
    have e5 := (HB.out.cell (p := ⟨w.heap.size + 1, 5, none⟩) hlw1).trans c5
    have G0 := hide (B1.out.trans (HB.out.mono B1.out.size))
    by_cases hlt : k < x.linksN
    · obtain ⟨lb, lo, rfl, hrow⟩ := (Q5.out.below G0.out (Nat.le_refl _)).resolve_left (by omega)
      have hxx := hrow.2 k hlt
      obtain ⟨l, hl⟩ : ∃ l, l = x.links k := ⟨_, rfl⟩
      rw [← hl] at hxx
      obtain ⟨d0, d1, d2, d3⟩ := hxx
      have HS : Hid (linksOk f p x (k + 1) = linkOk f p l) := by
        show (linksOk f p x k && linkOk f p (x.links k)) = _
        rw [HK.out, Bool.true_and, ← hl]
      clear hl hrow
      have G1 := hide (G0.out.alloc G0.out.size (.cells #[.string l.name, .bool l.ask, .bool l.has, .int .i64 l.at_] 78))
      have C1 := hide (HB.out.alloc HB.out.size (.cells #[.string l.name, .bool l.ask, .bool l.has, .int .i64 l.at_] 78))
      have e0 : (wr.alloc (.cells #[.string l.name, .bool l.ask, .bool l.has, .int .i64 l.at_] 78)).cell? ⟨wr.heap.size, 0, none⟩ = some (.string l.name) := by simp
      have e1 : (wr.alloc (.cells #[.string l.name, .bool l.ask, .bool l.has, .int .i64 l.at_] 78)).cell? ⟨wr.heap.size, 1, none⟩ = some (.bool l.ask) := by simp
      have e2 : (wr.alloc (.cells #[.string l.name, .bool l.ask, .bool l.has, .int .i64 l.at_] 78)).cell? ⟨wr.heap.size, 2, none⟩ = some (.bool l.has) := by simp
      have e3 : (wr.alloc (.cells #[.string l.name, .bool l.ask, .bool l.has, .int .i64 l.at_] 78)).cell? ⟨wr.heap.size, 3, none⟩ = some (.int .i64 l.at_) := by simp
      have hXl : wr.heap.size < (wr.alloc (.cells #[.string l.name, .bool l.ask, .bool l.has, .int .i64 l.at_] 78)).heap.size := by simp
      have kA := (C1.out.cell (p := ⟨w.heap.size, 0, none⟩) (by show w.heap.size < _; omega)).trans K1.out
      have hwA : w.heap.size < (wr.alloc (.cells #[.string l.name, .bool l.ask, .bool l.has, .int .i64 l.at_] 78)).heap.size := by have := C1.out.size; omega
      go_wp2_with fail
      clear d0 d1 d2 d3 e5
      generalize wr.alloc (.cells #[.string l.name, .bool l.ask, .bool l.has, .int .i64 l.at_] 78) = W1 at G1 C1 e0 e1 e2 e3 hXl kA hwA ⊢
      generalize wr.heap.size = X at e0 e1 e2 e3 hXl ⊢
      refine (l1NameOk_any l.name _).mono ?_
      rintro e w2 ⟨he, hB⟩
      have G2 := hide (G1.out.trans (hB.mono G1.out.size))
      have C2 := hide (C1.out.trans (hB.mono C1.out.size))
      have f0 := (hB.cell (p := ⟨X, 0, none⟩) hXl).trans e0
      have f1 := (hB.cell (p := ⟨X, 1, none⟩) hXl).trans e1
      have f2 := (hB.cell (p := ⟨X, 2, none⟩) hXl).trans e2
      have f3 := (hB.cell (p := ⟨X, 3, none⟩) hXl).trans e3
      have kB := (hB.cell (p := ⟨w.heap.size, 0, none⟩) hwA).trans kA
      have FR := hide (HF.out.below G2.out (Nat.le_refl _))
      clear hB e0 e1 e2 e3 kA G1 C1
      have HLT := hide hlt
      have no : linkOk f p l = false → r = false := fun h => by rw [HR3.out]; exact linksOk_no hlt (HS.out.trans h)
      have HNO := hide no
      clear no
      cases hnm : nameOk l.name with
      | false =>
        rw [hnm] at he
        subst he
        obtain rfl : r = false := HNO.out (by rw [linkOk_eq, hnm]; rfl)
        go_wp2
        go_ret
        exact ⟨rfl, G2.out⟩
      | true =>
      rw [hnm] at he
      subst he
      cases hask : l.ask with
      | false =>
        rw [hask] at f1
        cases h1 : (l.at_ == 0) with
        | false =>
          obtain rfl : r = false := HNO.out (by simp at h1; rw [linkOk_eq, hnm]; simp [linkAt, hask, h1])
          go_wp2
          go_ret
          exact ⟨rfl, G2.out⟩
        | true =>
          have HN : Hid (linksOk f p x (k + 1) = true) := HS.out.trans (by simp at h1; rw [linkOk_eq, hnm]; simp [linkAt, hask, h1])
          go_wp2_with fail
          go_quiet (fail)
          have C3 := hide (below_drewN C2.out nq)
          go_wp2
          exact ⟨⟨k + 1, by omega, by go_num, HN.out, C3.out⟩, by simp [intOf]; omega⟩
      | true =>
        rw [hask] at f1
        cases hhas : l.has with
        | true =>
          rw [hhas] at f2
          obtain rfl : r = false := HNO.out (by rw [linkOk_eq, hnm]; simp [linkAt, hask, hhas])
          go_wp2_with fail
          go_quiet (fail)
          have G3 := hide (below_drewN G2.out nq)
          go_wp2
          go_ret
          exact ⟨rfl, G3.out⟩
        | false =>
          rw [hhas] at f2
          by_cases g4 : 0 ≤ l.at_
          · by_cases g5 : l.at_ < (p : Int)
            · obtain ⟨q, hq⟩ : ∃ q : Nat, l.at_ = (q : Int) := ⟨l.at_.toNat, by omega⟩
              rw [hq] at f3 g5
              have hqn : q < n := by omega
              have d0 := (FR.out.2 q hqn).1
              have h5 : decide ((p : Int) ≤ (q : Int)) = false := by simp; omega
              have h5n : decide (p ≤ q) = false := by simp; omega
              have h6 : decide ((q : Int) < 0) = false := by simp
              have hq0 : (0 : Int) ≤ q := by omega
              have hqn' : (q : Int) < n := by omega
              have HLA : Hid (linkAt f p l = ((f q).name.toList == l.name.toList)) := by show linkAt f p l = _; simp [linkAt, hask, hhas, hq, g5]
              cases hr : ((f q).name.toList == l.name.toList) with
              | true =>
                have HN : Hid (linksOk f p x (k + 1) = true) := HS.out.trans (by rw [linkOk_eq, hnm, HLA.out, hr]; rfl)
                go_wp2_with fail
                go_quiet (fail)
                have C3 := hide (below_drewN C2.out nq)
                go_wp2
                exact ⟨⟨k + 1, by omega, by go_num, HN.out, C3.out⟩, by simp [intOf]; omega⟩
              | false =>
                obtain rfl : r = false := HNO.out (by rw [linkOk_eq, hnm, HLA.out, hr]; rfl)
                go_wp2_with fail
                go_quiet (fail)
                have G3 := hide (below_drewN G2.out nq)
                go_wp2
                go_ret
                exact ⟨rfl, G3.out⟩
            · obtain rfl : r = false := HNO.out (by rw [linkOk_eq, hnm]; simp [linkAt, hask, g5])
              have h5 : (p : Int) ≤ l.at_ := by omega
              have h6 : decide (l.at_ < 0) = false := by simpa using g4
              go_wp2_with fail
              go_quiet (fail)
              have G3 := hide (below_drewN G2.out nq)
              go_wp2
              go_ret
              exact ⟨rfl, G3.out⟩
          · obtain rfl : r = false := HNO.out (by rw [linkOk_eq, hnm]; simp [linkAt, hask, g4])
            have h6 : l.at_ < 0 := by omega
            go_wp2_with fail
            go_quiet (fail)
            have G3 := hide (below_drewN G2.out nq)
            go_wp2
            go_ret
            exact ⟨rfl, G3.out⟩
    · have e : x.linksN = k := by omega
      obtain rfl : r = true := by rw [HR3.out, e]; exact HK.out
      have h5 : ((k : Int) < (x.linksN : Int)) = False := by simp; omega
      go_wp2
      go_ret
      exact ⟨rfl, G0.out⟩

set_option maxRecDepth 100000 in
set_option maxHeartbeats 4000000 in
theorem l3DeedOk_any (b off n cap p : Nat) (f : Nat → Deed) (w : World) (hp : p < n) (hf : RowDeed w b off n f) (hfit : (f p).actN ≤ 1048576) (hsz : ∀ j, j < (f p).actN → ((f p).act j).s.size ≤ maxLen) :
    Calls Tryz.prog 45 #[.agg #[.slice (some ⟨b, off, none⟩) n cap], .int .i64 (p : Int)] w fun e w' => e = .returned (.bool (deedOk f p)) ∧ Below w.heap.size w w' := by
  have HTG := hide (fun w' (hb : Below w.heap.size w w') => l3TargetOk_any b off n cap p f w' hp (hf.below hb (Nat.le_refl _)) hfit hsz)
  obtain ⟨r, hr⟩ : ∃ r, r = deedOk f p := ⟨_, rfl⟩
  rw [← hr]
  have HR := hide hr
  clear hr
  have hb := hf.1
  obtain ⟨p0, p1, p2, p3, ⟨a0, cap0, p4, q4⟩, ⟨a1, cap1, p5, q5⟩⟩ := hf.2 p hp
  obtain ⟨x, hx⟩ : ∃ x, x = f p := ⟨_, rfl⟩
  rw [← hx] at p0 p1 p2 p3 p4 p5 q4 q5 hfit hsz HTG
  have HX := hide hx
  clear hx q4 q5 hf hsz hfit
  have A0 := hide (((Below.refl w.heap.size w).alloc (Nat.le_refl _) (.cells #[.slice (some ⟨b, off, none⟩) n cap] 30)).alloc (by simp) (.cells #[.string x.name, .int .i64 x.kind, .int .i64 x.code, .string x.text, .slice a0 x.actN cap0, .slice a1 x.linksN cap1] 76))
  have S0 := hide (sixB_new (w.alloc (.cells #[.slice (some ⟨b, off, none⟩) n cap] 30)) (.string x.name) (.int .i64 x.kind) (.int .i64 x.code) (.string x.text) (.slice a0 x.actN cap0) (.slice a1 x.linksN cap1) 76)
  have hz : (w.alloc (.cells #[.slice (some ⟨b, off, none⟩) n cap] 30)).heap.size = w.heap.size + 1 := by simp
  rw [hz] at S0
  have K0 : Hid (((w.alloc (.cells #[.slice (some ⟨b, off, none⟩) n cap] 30)).alloc (.cells #[.string x.name, .int .i64 x.kind, .int .i64 x.code, .string x.text, .slice a0 x.actN cap0, .slice a1 x.linksN cap1] 76)).cell? ⟨w.heap.size, 0, none⟩ = some (.slice (some ⟨b, off, none⟩) n cap)) := by
    show World.cell? _ _ = _
    simp
  clear hz
  go_enter Tryz.func45, Tryz.ntmps45
  go_wp2_with fail
  generalize (w.alloc (.cells #[.slice (some ⟨b, off, none⟩) n cap] 30)).alloc (.cells #[.string x.name, .int .i64 x.kind, .int .i64 x.code, .string x.text, .slice a0 x.actN cap0, .slice a1 x.linksN cap1] 76) = W at A0 S0 K0 ⊢
  clear p0 p1 p2 p3 p4 p5
  refine (l1NameOk_any x.name _).mono ?_
  rintro e w1 ⟨he, hB⟩
  have B1 := hide (A0.out.trans (hB.mono A0.out.size))
  have S1 := hide (S0.out.below hB)
  have K1 := hide ((hB.cell (p := ⟨w.heap.size, 0, none⟩) (Nat.lt_of_succ_lt S0.out.lt)).trans K0.out)
  clear hB A0 S0 K0
  cases hnm : nameOk x.name with
  | false =>
    rw [hnm] at he
    subst he
    obtain rfl : r = false := by rw [HR.out]; unfold deedOk; rw [← HX.out, hnm]; rfl
    go_wp2
    go_ret
    exact ⟨rfl, B1.out⟩
  | true =>
  rw [hnm] at he
  subst he
  have HK : Hid (r = (decide (x.text.size ≤ 2000) && kindOk f p x)) := by
    show r = _
    rw [HR.out]; unfold deedOk; rw [← HX.out, hnm]; rfl
  clear HR
  have c0 := S1.out.c0
  have c1 := S1.out.c1
  have c2 := S1.out.c2
  have c3 := S1.out.c3
  have c4 := S1.out.c4
  have c5 := S1.out.c5
  cases h1 : (x.kind == 1) with
  | true =>
    have hk : x.kind = 1 := by simpa using h1
    have HK1 : Hid ((decide (x.text.size ≤ 2000) && unmadeOk x) = r) := (HK.out.trans (by unfold kindOk; rw [if_pos hk])).symm
    clear hk
    go_wp2_with fail
    refine (sourceOk_any x a0 cap0 a1 cap1 _).mono ?_
    rintro e w2 ⟨rfl, hB⟩
    have B2 := hide (B1.out.trans (hB.mono B1.out.size))
    clear hB
    go_wp2
    go_ret
    exact ⟨ret_of HK1.out, B2.out⟩
  | false =>
  cases h2 : (x.kind == 2) with
  | true =>
    have hk : x.kind = 2 := by simpa using h2
    have HK1 : Hid (r = (unmadeOk x && decide (x.text.size = 0))) := HK.out.trans (by
      unfold kindOk
      rw [if_neg (by omega), if_pos hk]
      by_cases h : x.text.size = 0
      · simp [h]
      · simp [h])
    clear hk HK
    cases g1 : (x.code == 0) with
    | false =>
      obtain rfl : r = false := by rw [HK1.out]; simp at g1; simp [unmadeOk, g1]
      go_wp2
      go_ret
      exact ⟨rfl, B1.out⟩
    | true =>
    cases g2 : x.text.toList.isEmpty with
    | false =>
      obtain rfl : r = false := by rw [HK1.out, ← empty_size, g2]; simp
      go_wp2
      go_ret
      exact ⟨rfl, B1.out⟩
    | true =>
    cases g3 : ((x.actN : Int) == 0) with
    | false =>
      obtain rfl : r = false := by rw [HK1.out]; simp at g3; simp [unmadeOk]; omega
      go_wp2
      go_ret
      exact ⟨rfl, B1.out⟩
    | true =>
    cases g4 : ((x.linksN : Int) == 0) with
    | false =>
      obtain rfl : r = false := by rw [HK1.out]; simp at g4; simp [unmadeOk]; omega
      go_wp2
      go_ret
      exact ⟨rfl, B1.out⟩
    | true =>
      obtain rfl : r = true := by rw [HK1.out, ← empty_size, g2]; simp at g1 g3 g4; simp [unmadeOk, g1, g3, g4]
      go_wp2
      go_ret
      exact ⟨rfl, B1.out⟩
  | false =>
  cases h3 : (x.kind == 3) with
  | false =>
    obtain rfl : r = false := by rw [HK.out]; unfold kindOk; simp at h1 h2 h3; rw [if_neg h1, if_neg h2, if_neg h3]; simp
    go_wp2
    go_ret
    exact ⟨rfl, B1.out⟩
  | true =>
    have HK1 : Hid ((decide (x.text.size ≤ 2000) && targetOk f p x) = r) := (HK.out.trans (by unfold kindOk; simp at h1 h2 h3; rw [if_neg h1, if_neg h2, if_pos h3])).symm
    have k1 := K1.out
    have HTX := hide (HTG.out w1 B1.out)
    rw [HK1.out] at HTX
    clear HTG HK
    go_wp2_with fail
    refine HTX.out.mono ?_
    rintro e w2 ⟨rfl, hB⟩
    have B2 := hide (B1.out.trans (hB.mono B1.out.size))
    clear hB
    go_wp2
    go_ret
    exact ⟨rfl, B2.out⟩

end Go.Proofs.YtkikpcklccdihaaGreatDoor.Vp
