/-
  spec: what is a right deed.
-/
import Derived.Test.YtolpgafkojlkoabDoorCaDeed
namespace Go.Proofs.YtolpgafkojlkoabDoor.Vp
open Go.RowKit

set_option maxRecDepth 100000 in
set_option maxHeartbeats 1000000 in
theorem sourceOk_any (x : Deed) (a0 : Option Addr) (cap0 : Nat) (a1 : Option Addr) (cap1 : Nat) (w : World) :
    Calls Tryd.prog 20 #[deedV x a0 cap0 a1 cap1] w fun e w' => e = .returned (.bool (decide (x.text.size ≤ 2000) && unmadeOk x)) ∧ Below w.heap.size w w' := by
  have A0 := hide ((Below.refl w.heap.size w).alloc (Nat.le_refl _) (.cells #[.string x.name, .int .i64 x.kind, .int .i64 x.code, .string x.text, .slice a0 x.actN cap0, .slice a1 x.linksN cap1] 41))
  obtain ⟨r, hr⟩ : ∃ r, r = (decide (x.text.size ≤ 2000) && unmadeOk x) := ⟨_, rfl⟩
  rw [← hr]
  have HR := hide hr
  clear hr
  go_enter Tryd.func20, Tryd.ntmps20
  cases h1 : (x.code == 0) with
  | false =>
    obtain rfl : r = false := by rw [HR.out]; simp at h1; simp [unmadeOk, h1]
    go_wp2
    go_ret
    exact ⟨rfl, A0⟩
  | true =>
    by_cases h4 : (x.text.size : Int) ≤ 2000
    · have h4' : decide (x.text.size ≤ 2000) = true := by simp; omega
      cases h2 : ((x.actN : Int) == 0) with
      | false =>
        obtain rfl : r = false := by rw [HR.out]; simp at h2; simp [unmadeOk]; omega
        go_wp2
        go_ret
        exact ⟨rfl, A0⟩
      | true =>
        cases h3 : ((x.linksN : Int) == 0) with
        | false =>
          obtain rfl : r = false := by rw [HR.out]; simp at h3; simp [unmadeOk]; omega
          go_wp2
          go_ret
          exact ⟨rfl, A0⟩
        | true =>
          obtain rfl : r = true := by rw [HR.out, h4']; simp at h1 h2 h3; simp [unmadeOk, h1, h2, h3]
          go_wp2
          go_ret
          exact ⟨rfl, A0⟩
    · obtain rfl : r = false := by rw [HR.out]; simp; omega
      go_wp2
      go_ret
      exact ⟨rfl, A0⟩

set_option maxRecDepth 100000 in
set_option maxHeartbeats 4000000 in
theorem l3TargetOk_any (b off n cap p : Nat) (f : Nat → Deed) (w : World) (hp : p < n) (hf : RowDeed w b off n f) (hfit : (f p).actN ≤ 1048576) (hsz : ∀ j, j < (f p).actN → ((f p).act j).s.size ≤ maxLen) :
    Calls Tryd.prog 21 #[.agg #[.slice (some ⟨b, off, none⟩) n cap], .int .i64 (p : Int)] w fun e w' => e = .returned (.bool (decide ((f p).text.size ≤ 2000) && targetOk f p (f p))) ∧ Below w.heap.size w w' := by
  have HF := hide hf
  have hb := hf.1
  obtain ⟨p0, p1, p2, p3, ⟨a0, cap0, p4, q4⟩, ⟨a1, cap1, p5, q5⟩⟩ := hf.2 p hp
  obtain ⟨x, hx⟩ : ∃ x, x = f p := ⟨_, rfl⟩
  rw [← hx] at p0 p1 p2 p3 p4 p5 q4 q5 hfit hsz ⊢
  have HX := hide hx
  have Q4 := hide q4
  have Q5 := hide q5
  have HZ := hide hsz
  clear hx q4 q5 hf hsz
  have A0 := hide (((Below.refl w.heap.size w).alloc (Nat.le_refl _) (.cells #[.slice (some ⟨b, off, none⟩) n cap] 30)).alloc (by simp) (.cells #[.string x.name, .int .i64 x.kind, .int .i64 x.code, .string x.text, .slice a0 x.actN cap0, .slice a1 x.linksN cap1] 41))
  have S0 := hide (sixB_new (w.alloc (.cells #[.slice (some ⟨b, off, none⟩) n cap] 30)) (.string x.name) (.int .i64 x.kind) (.int .i64 x.code) (.string x.text) (.slice a0 x.actN cap0) (.slice a1 x.linksN cap1) 41)
  have hz : (w.alloc (.cells #[.slice (some ⟨b, off, none⟩) n cap] 30)).heap.size = w.heap.size + 1 := by simp
  rw [hz] at S0
  have K0 : Hid (((w.alloc (.cells #[.slice (some ⟨b, off, none⟩) n cap] 30)).alloc (.cells #[.string x.name, .int .i64 x.kind, .int .i64 x.code, .string x.text, .slice a0 x.actN cap0, .slice a1 x.linksN cap1] 41)).cell? ⟨w.heap.size, 0, none⟩ = some (.slice (some ⟨b, off, none⟩) n cap)) := by
    show World.cell? _ _ = _
    simp
  clear hz
  obtain ⟨r, hr⟩ : ∃ r, r = (decide (x.text.size ≤ 2000) && targetOk f p x) := ⟨_, rfl⟩
  rw [← hr]
  have HR := hide hr
  clear hr
  have c2 := S0.c2
  have c3 := S0.c3
  have c4 := S0.c4
  have c5 := S0.c5
  by_cases g1 : 0 ≤ x.code
  case neg =>
    obtain rfl : r = false := by rw [HR.out]; simp [targetOk, g1]
    go_enter Tryd.func21, Tryd.ntmps21
    go_wp2
    go_ret
    exact ⟨rfl, A0⟩
  by_cases g2 : x.code ≤ 5
  case neg =>
    obtain rfl : r = false := by rw [HR.out]; simp [targetOk, g2]
    go_enter Tryd.func21, Tryd.ntmps21
    go_wp2
    go_ret
    exact ⟨rfl, A0⟩
  by_cases g3 : (x.text.size : Int) ≤ 2000
  case neg =>
    obtain rfl : r = false := by rw [HR.out]; simp; omega
    go_enter Tryd.func21, Tryd.ntmps21
    go_wp2
    go_ret
    exact ⟨rfl, A0⟩
  have g3' : decide (x.text.size ≤ 2000) = true := by simp; omega
  go_enter Tryd.func21, Tryd.ntmps21
  go_wp2_with fail
  generalize World.alloc (World.alloc w _) _ = W at A0 S0 K0 ⊢
  clear p0 p1 p2 p3 p4 p5
  refine (specValid_sl a0 x.actN cap0 x.act _ hfit (Q4.below A0 (Nat.le_refl _)) HZ).mono ?_
  rintro e w1 ⟨he, hB⟩
  have B1 := hide (A0.trans (hB.mono A0.size))
  have S1 := hide (S0.below hB)
  have K1 := hide ((hB.cell (p := ⟨w.heap.size, 0, none⟩) (Nat.lt_of_succ_lt S0.lt)).trans K0)
  clear hB A0 S0 K0 c2 c3 c4 c5
  have c5 := S1.c5
  cases hv : valid x.act x.actN with
  | false =>
    rw [hv] at he
    subst he
    obtain rfl : r = false := by rw [HR.out]; simp [targetOk, hv]
    go_wp2
    go_ret
    exact ⟨rfl, B1⟩
  | true =>
  rw [hv] at he
  subst he
  have HR2 : Hid (r = (decide (x.linksN ≤ 200) && linksOk f p x x.linksN)) := by show r = _; rw [HR.out, g3']; simp [targetOk, hv, g1, g2]
  clear HR g3' hv
  by_cases hbig : (200 : Int) < (x.linksN : Int)
  · obtain rfl : r = false := by rw [HR2.out]; simp; omega
    go_wp2
    go_ret
    exact ⟨rfl, B1⟩
  have HR3 : Hid (r = linksOk f p x x.linksN) := by show r = _; rw [HR2.out, show decide (x.linksN ≤ 200) = true by simp; omega]; rfl
  clear HR2
  go_wp2
  have hlw1 : w.heap.size + 1 < w1.heap.size := S1.lt
  go_loopw [6] (fun i wr => ∃ k : Nat, k ≤ x.linksN ∧ i = .int .i64 k ∧ Hid (linksOk f p x k = true) ∧ Hid (Below w1.heap.size w1 wr)) (fun i _ => x.linksN - (intOf i).toNat)
  case atStart => exact ⟨0, by omega, rfl, rfl, Below.refl _ _⟩
  case round =>
    obtain ⟨k, hk, rfl, HK, HB⟩ := hrel
    have e5 := (HB.cell (p := ⟨w.heap.size + 1, 5, none⟩) hlw1).trans c5
    have G0 := hide (B1.trans (HB.mono B1.size))
    by_cases hlt : k < x.linksN
    · obtain ⟨lb, lo, rfl, hrow⟩ := (Q5.below G0 (Nat.le_refl _)).resolve_left (by omega)
      have hxx := hrow.2 k hlt
      obtain ⟨l, hl⟩ : ∃ l, l = x.links k := ⟨_, rfl⟩
      rw [← hl] at hxx
      obtain ⟨d0, d1, d2, d3⟩ := hxx
      have HS : Hid (linksOk f p x (k + 1) = linkOk f p l) := by
        show (linksOk f p x k && linkOk f p (x.links k)) = _
        rw [HK.out, Bool.true_and, ← hl]
      clear hl hrow
      have G1 := hide (G0.alloc G0.size (.cells #[.string l.name, .bool l.ask, .bool l.has, .int .i64 l.at_] 73))
      have C1 := hide (HB.alloc HB.size (.cells #[.string l.name, .bool l.ask, .bool l.has, .int .i64 l.at_] 73))
      have e0 : (wr.alloc (.cells #[.string l.name, .bool l.ask, .bool l.has, .int .i64 l.at_] 73)).cell? ⟨wr.heap.size, 0, none⟩ = some (.string l.name) := by simp
      have e1 : (wr.alloc (.cells #[.string l.name, .bool l.ask, .bool l.has, .int .i64 l.at_] 73)).cell? ⟨wr.heap.size, 1, none⟩ = some (.bool l.ask) := by simp
      have e2 : (wr.alloc (.cells #[.string l.name, .bool l.ask, .bool l.has, .int .i64 l.at_] 73)).cell? ⟨wr.heap.size, 2, none⟩ = some (.bool l.has) := by simp
      have e3 : (wr.alloc (.cells #[.string l.name, .bool l.ask, .bool l.has, .int .i64 l.at_] 73)).cell? ⟨wr.heap.size, 3, none⟩ = some (.int .i64 l.at_) := by simp
      have hXl : wr.heap.size < (wr.alloc (.cells #[.string l.name, .bool l.ask, .bool l.has, .int .i64 l.at_] 73)).heap.size := by simp
      have kA := (C1.cell (p := ⟨w.heap.size, 0, none⟩) (by show w.heap.size < _; omega)).trans K1
      have hwA : w.heap.size < (wr.alloc (.cells #[.string l.name, .bool l.ask, .bool l.has, .int .i64 l.at_] 73)).heap.size := by have := C1.size; omega
      go_wp2_with fail
      clear d0 d1 d2 d3 e5
      generalize World.alloc wr _ = W1 at G1 C1 e0 e1 e2 e3 hXl kA hwA ⊢
      generalize wr.heap.size = X at e0 e1 e2 e3 hXl ⊢
      refine (l1NameOk_any l.name _).mono ?_
      rintro e w2 ⟨he, hB⟩
      have G2 := hide (G1.trans (hB.mono G1.size))
      have C2 := hide (C1.trans (hB.mono C1.size))
      have f0 := (hB.cell (p := ⟨X, 0, none⟩) hXl).trans e0
      have f1 := (hB.cell (p := ⟨X, 1, none⟩) hXl).trans e1
      have f2 := (hB.cell (p := ⟨X, 2, none⟩) hXl).trans e2
      have f3 := (hB.cell (p := ⟨X, 3, none⟩) hXl).trans e3
      have kB := (hB.cell (p := ⟨w.heap.size, 0, none⟩) hwA).trans kA
      have FR := hide (HF.below G2 (Nat.le_refl _))
      clear hB e0 e1 e2 e3 kA G1 C1
      have HLT := hide hlt
      have no : linkOk f p l = false → r = false := fun h => by rw [HR3.out]; exact linksOk_no hlt (HS.trans h)
      have HNO := hide no
      clear no
      cases hnm : nameOk l.name with
      | false =>
        rw [hnm] at he
        subst he
        obtain rfl : r = false := HNO.out (by rw [linkOk_eq, hnm]; rfl)
        go_wp2
        go_ret
        exact ⟨rfl, G2⟩
      | true =>
      rw [hnm] at he
      subst he
      cases hask : l.ask with
      | false =>
        rw [hask] at f1
        cases h1 : (l.at_ == 0) with
        | false =>
          obtain rfl : r = false := HNO.out (by simp at h1; rw [linkOk_eq, hnm]; simp [linkAt, hask, h1])
          go_wp2
          go_ret
          exact ⟨rfl, G2⟩
        | true =>
          have HN : Hid (linksOk f p x (k + 1) = true) := HS.trans (by simp at h1; rw [linkOk_eq, hnm]; simp [linkAt, hask, h1])
          go_wp2_with fail
          go_quiet (fail)
          have C3 := hide (below_drewN C2 nq)
          go_wp2
          exact ⟨⟨k + 1, by omega, by go_num, HN, C3⟩, by simp [intOf]; omega⟩
      | true =>
        rw [hask] at f1
        cases hhas : l.has with
        | true =>
          rw [hhas] at f2
          obtain rfl : r = false := HNO.out (by rw [linkOk_eq, hnm]; simp [linkAt, hask, hhas])
          go_wp2_with fail
          go_quiet (fail)
          have G3 := hide (below_drewN G2 nq)
          go_wp2
          go_ret
          exact ⟨rfl, G3⟩
        | false =>
          rw [hhas] at f2
          by_cases g4 : 0 ≤ l.at_
          · by_cases g5 : l.at_ < (p : Int)
            · obtain ⟨q, hq⟩ : ∃ q : Nat, l.at_ = (q : Int) := ⟨l.at_.toNat, by omega⟩
              rw [hq] at f3 g5
              have hqn : q < n := by omega
              have d0 := (FR.2 q hqn).1
              have h5 : decide ((p : Int) ≤ (q : Int)) = false := by simp; omega
              have h5n : decide (p ≤ q) = false := by simp; omega
              have h6 : decide ((q : Int) < 0) = false := by simp
              have hq0 : (0 : Int) ≤ q := by omega
              have hqn' : (q : Int) < n := by omega
              have HLA : Hid (linkAt f p l = ((f q).name.toList == l.name.toList)) := by show linkAt f p l = _; simp [linkAt, hask, hhas, hq, g5]
              cases hr : ((f q).name.toList == l.name.toList) with
              | true =>
                have HN : Hid (linksOk f p x (k + 1) = true) := HS.trans (by rw [linkOk_eq, hnm, HLA.out, hr]; rfl)
                go_wp2_with fail
                go_quiet (fail)
                have C3 := hide (below_drewN C2 nq)
                go_wp2
                exact ⟨⟨k + 1, by omega, by go_num, HN, C3⟩, by simp [intOf]; omega⟩
              | false =>
                obtain rfl : r = false := HNO.out (by rw [linkOk_eq, hnm, HLA.out, hr]; rfl)
                go_wp2_with fail
                go_quiet (fail)
                have G3 := hide (below_drewN G2 nq)
                go_wp2
                go_ret
                exact ⟨rfl, G3⟩
            · obtain rfl : r = false := HNO.out (by rw [linkOk_eq, hnm]; simp [linkAt, hask, g5])
              have h5 : (p : Int) ≤ l.at_ := by omega
              have h6 : decide (l.at_ < 0) = false := by simpa using g4
              go_wp2_with fail
              go_quiet (fail)
              have G3 := hide (below_drewN G2 nq)
              go_wp2
              go_ret
              exact ⟨rfl, G3⟩
          · obtain rfl : r = false := HNO.out (by rw [linkOk_eq, hnm]; simp [linkAt, hask, g4])
            have h6 : l.at_ < 0 := by omega
            go_wp2_with fail
            go_quiet (fail)
            have G3 := hide (below_drewN G2 nq)
            go_wp2
            go_ret
            exact ⟨rfl, G3⟩
    · have e : x.linksN = k := by omega
      obtain rfl : r = true := by rw [HR3.out, e]; exact HK
      have h5 : ((k : Int) < (x.linksN : Int)) = False := by simp; omega
      go_wp2
      go_ret
      exact ⟨rfl, G0⟩

set_option maxRecDepth 100000 in
set_option maxHeartbeats 4000000 in
theorem l3DeedOk_any (b off n cap p : Nat) (f : Nat → Deed) (w : World) (hp : p < n) (hf : RowDeed w b off n f) (hfit : (f p).actN ≤ 1048576) (hsz : ∀ j, j < (f p).actN → ((f p).act j).s.size ≤ maxLen) :
    Calls Tryd.prog 10 #[.agg #[.slice (some ⟨b, off, none⟩) n cap], .int .i64 (p : Int)] w fun e w' => e = .returned (.bool (deedOk f p)) ∧ Below w.heap.size w w' := by
  have HTG := hide (fun w' (hb : Below w.heap.size w w') => l3TargetOk_any b off n cap p f w' hp (hf.below hb (Nat.le_refl _)) hfit hsz)
  obtain ⟨r, hr⟩ : ∃ r, r = deedOk f p := ⟨_, rfl⟩
  rw [← hr]
  have HR := hide hr
  clear hr
  have hb := hf.1
  obtain ⟨p0, p1, p2, p3, ⟨a0, cap0, p4, q4⟩, ⟨a1, cap1, p5, q5⟩⟩ := hf.2 p hp
  obtain ⟨x, hx⟩ : ∃ x, x = f p := ⟨_, rfl⟩
  rw [← hx] at p0 p1 p2 p3 p4 p5 q4 q5 hfit hsz HTG
  have HX := hide hx
  clear hx q4 q5 hf hsz hfit
  have A0 := hide (((Below.refl w.heap.size w).alloc (Nat.le_refl _) (.cells #[.slice (some ⟨b, off, none⟩) n cap] 30)).alloc (by simp) (.cells #[.string x.name, .int .i64 x.kind, .int .i64 x.code, .string x.text, .slice a0 x.actN cap0, .slice a1 x.linksN cap1] 41))
  have S0 := hide (sixB_new (w.alloc (.cells #[.slice (some ⟨b, off, none⟩) n cap] 30)) (.string x.name) (.int .i64 x.kind) (.int .i64 x.code) (.string x.text) (.slice a0 x.actN cap0) (.slice a1 x.linksN cap1) 41)
  have hz : (w.alloc (.cells #[.slice (some ⟨b, off, none⟩) n cap] 30)).heap.size = w.heap.size + 1 := by simp
  rw [hz] at S0
  have K0 : Hid (((w.alloc (.cells #[.slice (some ⟨b, off, none⟩) n cap] 30)).alloc (.cells #[.string x.name, .int .i64 x.kind, .int .i64 x.code, .string x.text, .slice a0 x.actN cap0, .slice a1 x.linksN cap1] 41)).cell? ⟨w.heap.size, 0, none⟩ = some (.slice (some ⟨b, off, none⟩) n cap)) := by
    show World.cell? _ _ = _
    simp
  clear hz
  go_enter Tryd.func10, Tryd.ntmps10
  go_wp2_with fail
  generalize World.alloc (World.alloc w _) _ = W at A0 S0 K0 ⊢
  clear p0 p1 p2 p3 p4 p5
  refine (l1NameOk_any x.name _).mono ?_
  rintro e w1 ⟨he, hB⟩
  have B1 := hide (A0.trans (hB.mono A0.size))
  have S1 := hide (S0.below hB)
  have K1 := hide ((hB.cell (p := ⟨w.heap.size, 0, none⟩) (Nat.lt_of_succ_lt S0.lt)).trans K0)
  clear hB A0 S0 K0
  cases hnm : nameOk x.name with
  | false =>
    rw [hnm] at he
    subst he
    obtain rfl : r = false := by rw [HR.out]; unfold deedOk; rw [← HX.out, hnm]; rfl
    go_wp2
    go_ret
    exact ⟨rfl, B1⟩
  | true =>
  rw [hnm] at he
  subst he
  have HK : Hid (r = (decide (x.text.size ≤ 2000) && kindOk f p x)) := by
    show r = _
    rw [HR.out]; unfold deedOk; rw [← HX.out, hnm]; rfl
  clear HR
  have c0 := S1.c0
  have c1 := S1.c1
  have c2 := S1.c2
  have c3 := S1.c3
  have c4 := S1.c4
  have c5 := S1.c5
  cases h1 : (x.kind == 1) with
  | true =>
    have hk : x.kind = 1 := by simpa using h1
    have HK1 : Hid ((decide (x.text.size ≤ 2000) && unmadeOk x) = r) := (HK.trans (by unfold kindOk; rw [if_pos hk])).symm
    clear hk
    go_wp2_with fail
    refine (sourceOk_any x a0 cap0 a1 cap1 _).mono ?_
    rintro e w2 ⟨rfl, hB⟩
    have B2 := hide (B1.trans (hB.mono B1.size))
    clear hB
    go_wp2
    go_ret
    exact ⟨ret_of HK1, B2⟩
  | false =>
  cases h2 : (x.kind == 2) with
  | true =>
    have hk : x.kind = 2 := by simpa using h2
    have HK1 : Hid (r = (unmadeOk x && decide (x.text.size = 0))) := HK.trans (by
      unfold kindOk
      rw [if_neg (by omega), if_pos hk]
      by_cases h : x.text.size = 0
      · simp [h]
      · simp [h])
    clear hk HK
    cases g1 : (x.code == 0) with
    | false =>
      obtain rfl : r = false := by rw [HK1.out]; simp at g1; simp [unmadeOk, g1]
      go_wp2
      go_ret
      exact ⟨rfl, B1⟩
    | true =>
    cases g2 : x.text.toList.isEmpty with
    | false =>
      obtain rfl : r = false := by rw [HK1.out, ← empty_size, g2]; simp
      go_wp2
      go_ret
      exact ⟨rfl, B1⟩
    | true =>
    cases g3 : ((x.actN : Int) == 0) with
    | false =>
      obtain rfl : r = false := by rw [HK1.out]; simp at g3; simp [unmadeOk]; omega
      go_wp2
      go_ret
      exact ⟨rfl, B1⟩
    | true =>
    cases g4 : ((x.linksN : Int) == 0) with
    | false =>
      obtain rfl : r = false := by rw [HK1.out]; simp at g4; simp [unmadeOk]; omega
      go_wp2
      go_ret
      exact ⟨rfl, B1⟩
    | true =>
      obtain rfl : r = true := by rw [HK1.out, ← empty_size, g2]; simp at g1 g3 g4; simp [unmadeOk, g1, g3, g4]
      go_wp2
      go_ret
      exact ⟨rfl, B1⟩
  | false =>
  cases h3 : (x.kind == 3) with
  | false =>
    obtain rfl : r = false := by rw [HK.out]; unfold kindOk; simp at h1 h2 h3; rw [if_neg h1, if_neg h2, if_neg h3]; simp
    go_wp2
    go_ret
    exact ⟨rfl, B1⟩
  | true =>
    have HK1 : Hid ((decide (x.text.size ≤ 2000) && targetOk f p x) = r) := (HK.trans (by unfold kindOk; simp at h1 h2 h3; rw [if_neg h1, if_neg h2, if_pos h3])).symm
    have k1 := K1.out
    have HTX := hide (HTG w1 B1)
    rw [HK1.out] at HTX
    clear HTG HK
    go_wp2_with fail
    refine HTX.mono ?_
    rintro e w2 ⟨rfl, hB⟩
    have B2 := hide (B1.trans (hB.mono B1.size))
    clear hB
    go_wp2
    go_ret
    exact ⟨rfl, B2⟩

end Go.Proofs.YtolpgafkojlkoabDoor.Vp
