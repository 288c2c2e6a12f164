/-
  impl: what is a right deed.
-/
import Derived.Test.YtolpgafkojlkoabDoorCaPure
import Derived.Test.YtolpgafkojlkoabDoorVpSl
import Derived.Test.YtolpgafkojlkoabDoorCaName
import Derived.Deep.DeepCutAuto
import Derived.Deep.QuietTactic
import Derived.BigQuiet
namespace Go.Proofs.YtolpgafkojlkoabDoor.Vp
open Go.RowKit

abbrev deedV (x : Deed) (a0 : Option Addr) (cap0 : Nat) (a1 : Option Addr) (cap1 : Nat) : Value := .agg #[.string x.name, .int .i64 x.kind, .int .i64 x.code, .string x.text, .slice a0 x.actN cap0, .slice a1 x.linksN cap1]
abbrev linkV (l : Link) : Value := .agg #[.string l.name, .bool l.ask, .bool l.has, .int .i64 l.at_]

set_option maxRecDepth 100000 in
set_option maxHeartbeats 1000000 in
theorem unmade_any (x : Deed) (a0 : Option Addr) (cap0 : Nat) (a1 : Option Addr) (cap1 : Nat) (w : World) :
    Calls Tryd.prog 33 #[deedV x a0 cap0 a1 cap1] w fun e w' => e = .returned (.bool (unmadeOk x)) ∧ Below w.heap.size w w' := by
  have A0 := hide ((Below.refl w.heap.size w).alloc (Nat.le_refl _) (.cells #[.string x.name, .int .i64 x.kind, .int .i64 x.code, .string x.text, .slice a0 x.actN cap0, .slice a1 x.linksN cap1] 41))
  obtain ⟨r, hr⟩ : ∃ r, r = unmadeOk x := ⟨_, rfl⟩
  rw [← hr]
  have HR := hide hr
  clear hr
  go_enter Tryd.func33, Tryd.ntmps33
  cases h1 : (x.code == 0) with
  | false =>
    obtain rfl : r = false := by rw [HR.out]; simp at h1; simp [unmadeOk, h1]
    go_wp2
    go_ret
    exact ⟨rfl, A0⟩
  | true =>
    cases h2 : ((x.actN : Int) == 0) with
    | false =>
      obtain rfl : r = false := by rw [HR.out]; simp at h2; simp [unmadeOk]; omega
      go_wp2
      go_ret
      exact ⟨rfl, A0⟩
    | true =>
      cases h3 : ((x.linksN : Int) == 0) with
      | false =>
        obtain rfl : r = false := by rw [HR.out]; simp at h3; simp [unmadeOk]; omega
        go_wp2
        go_ret
        exact ⟨rfl, A0⟩
      | true =>
        obtain rfl : r = true := by rw [HR.out]; simp at h1 h2 h3; simp [unmadeOk, h1, h2, h3]
        go_wp2
        go_ret
        exact ⟨rfl, A0⟩

def linkAt (f : Nat → Deed) (p : Nat) (l : Link) : Bool := if l.ask = true then !l.has && decide (0 ≤ l.at_) && decide (l.at_ < (p : Int)) && ((f l.at_.toNat).name.toList == l.name.toList) else decide (l.at_ = 0)
theorem linkOk_eq (f : Nat → Deed) (p : Nat) (l : Link) : linkOk f p l = (nameOk l.name && linkAt f p l) := rfl

set_option maxRecDepth 100000 in
set_option maxHeartbeats 2000000 in
theorem rightLink_any (b off n p cap : Nat) (f : Nat → Deed) (l : Link) (w : World) (hp : p ≤ n) (hf : RowDeed w b off n f) :
    Calls Tryd.prog 46 #[.slice (some ⟨b, off, none⟩) p cap, linkV l] w fun e w' => e = .returned (.bool (linkAt f p l)) ∧ Below w.heap.size w w' := by
  have A0 := hide ((Below.refl w.heap.size w).alloc (Nat.le_refl _) (.cells #[.string l.name, .bool l.ask, .bool l.has, .int .i64 l.at_] 73))
  have HF := hide (hf.below A0 (Nat.le_refl _))
  have hb := hf.1
  clear hf
  obtain ⟨r, hr⟩ : ∃ r, r = linkAt f p l := ⟨_, rfl⟩
  rw [← hr]
  have HR := hide hr
  clear hr
  obtain ⟨nm, ask, has, at_⟩ := l
  go_enter Tryd.func46, Tryd.ntmps46
  cases ask with
  | false =>
    cases h1 : (at_ == 0) with
    | true =>
      obtain rfl : r = true := by rw [HR.out]; simp at h1; simp [linkAt, h1]
      go_wp2
      go_ret
      exact ⟨rfl, A0⟩
    | false =>
      obtain rfl : r = false := by rw [HR.out]; simp at h1; simp [linkAt, h1]
      go_wp2
      go_ret
      exact ⟨rfl, A0⟩
  | true =>
    cases has with
    | true =>
      obtain rfl : r = false := by rw [HR.out]; simp [linkAt]
      go_wp2_with fail
      go_quiet (fail)
      go_wp2
      go_ret
      exact ⟨rfl, below_drewN A0 _⟩
    | false =>
      by_cases h1 : 0 ≤ at_
      · by_cases h2 : at_ < (p : Int)
        · obtain ⟨q, rfl⟩ : ∃ q : Nat, at_ = (q : Int) := ⟨at_.toNat, by omega⟩
          have hq : q < n := by omega
          have d0 := (HF.2 q hq).1
          have e : r = ((f q).name.toList == nm.toList) := by rw [HR.out]; simp [linkAt, h2]
          cases hr : ((f q).name.toList == nm.toList) with
          | true =>
            rw [hr] at e
            subst e
            go_wp2_with fail
            go_quiet (fail)
            go_wp2
            go_ret
            exact ⟨rfl, below_drewN A0 _⟩
          | false =>
            rw [hr] at e
            subst e
            go_wp2_with fail
            go_quiet (fail)
            go_wp2
            go_ret
            exact ⟨rfl, below_drewN A0 _⟩
        · obtain rfl : r = false := by rw [HR.out]; simp [linkAt, h2]
          have h3 : decide (at_ < (p : Int)) = false := by simpa using h2
          go_wp2_with fail
          go_quiet (fail)
          go_wp2
          go_ret
          exact ⟨rfl, below_drewN A0 _⟩
      · obtain rfl : r = false := by rw [HR.out]; simp [linkAt, h1]
        have h3 : decide (0 ≤ at_) = false := by simpa using h1
        go_wp2_with fail
        go_quiet (fail)
        go_wp2
        go_ret
        exact ⟨rfl, below_drewN A0 _⟩

theorem linksOk_no {f : Nat → Deed} {p : Nat} {x : Deed} {k m : Nat} (hk : k < m) (h : linksOk f p x (k + 1) = false) : linksOk f p x m = false := by
  induction m with
  | zero => omega
  | succ j ih =>
    by_cases e : k = j
    · subst e; exact h
    · rw [linksOk, ih (by omega)]; rfl

set_option maxRecDepth 100000 in
set_option maxHeartbeats 4000000 in
theorem rightLinks_any (b off n cap p : Nat) (f : Nat → Deed) (w : World) (hp : p < n) (hf : RowDeed w b off n f) (hcap : (p : Int) ≤ cap) :
    Calls Tryd.prog 35 #[.agg #[.slice (some ⟨b, off, none⟩) n cap], .int .i64 (p : Int)] w fun e w' => e = .returned (.bool (decide ((f p).linksN ≤ 200) && linksOk f p (f p) (f p).linksN)) ∧ Below w.heap.size w w' := by
  have A0 := hide ((Below.refl w.heap.size w).alloc (Nat.le_refl _) (.cells #[.slice (some ⟨b, off, none⟩) n cap] 30))
  have HF := hide hf
  obtain ⟨_, _, _, _, _, ⟨a1, cap1, p5', r1⟩⟩ := hf.2 p hp
  have hb := hf.1
  have k0 : (w.alloc (.cells #[.slice (some ⟨b, off, none⟩) n cap] 30)).cell? ⟨w.heap.size, 0, none⟩ = some (.slice (some ⟨b, off, none⟩) n cap) := by simp
  have p5 := (A0.cell (p := ⟨b, off + p * 6 + 5, none⟩) hb).trans p5'
  have HL := hide r1
  have hw0 : w.heap.size < (w.alloc (.cells #[.slice (some ⟨b, off, none⟩) n cap] 30)).heap.size := by simp
  clear r1 p5' hf
  obtain ⟨m, hm⟩ : ∃ m, m = (f p).linksN := ⟨_, rfl⟩
  obtain ⟨L, hL⟩ : ∃ L, L = (f p).links := ⟨_, rfl⟩
  rw [← hm] at p5 HL ⊢
  rw [← hL] at HL
  have HM := hide hm
  have HLK := hide hL
  clear hm hL
  by_cases hbig : (200 : Int) < (m : Int)
  · obtain ⟨r, hr⟩ : ∃ r, r = (decide (m ≤ 200) && linksOk f p (f p) m) := ⟨_, rfl⟩
    rw [← hr]
    obtain rfl : r = false := by rw [hr]; simp; omega
    clear hr
    go_enter Tryd.func35, Tryd.ntmps35
    go_wp2
    go_ret
    exact ⟨rfl, A0⟩
  have hd : decide (m ≤ 200) = true := by simp; omega
  rw [hd, Bool.true_and]
  clear hd
  go_enter Tryd.func35, Tryd.ntmps35
  go_wp2
  generalize World.alloc w _ = W at A0 k0 hw0 ⊢
  clear p5
  go_loopw [19] (fun i wr => ∃ k : Nat, k ≤ m ∧ i = .int .i64 k ∧ Hid (linksOk f p (f p) k = true) ∧ Hid (Below W.heap.size W wr)) (fun i _ => m - (intOf i).toNat)
  case atStart => exact ⟨0, by omega, rfl, rfl, Below.refl _ _⟩
  case round =>
    obtain ⟨k, hk, rfl, HK, HB⟩ := hrel
    by_cases hlt : k < m
    · obtain ⟨lb, lo, rfl, hlb, hrow⟩ := HL.resolve_left (by omega)
      have hx := (hrow k hlt).below (A0.trans (HB.mono A0.size)) hlb
      obtain ⟨l, hl⟩ : ∃ l, l = L k := ⟨_, rfl⟩
      rw [← hl] at hx
      have HLL := hide hl
      obtain ⟨d0, d1, d2, d3⟩ := hx
      clear hl hrow
      have HS : Hid (linksOk f p (f p) (k + 1) = linkOk f p l) := by
        show (linksOk f p (f p) k && linkOk f p ((f p).links k)) = _
        rw [HK.out, Bool.true_and, ← HLK.out, ← HLL.out]
      have B1 := hide ((A0.trans (HB.mono A0.size)).alloc (by have := A0.size; have := HB.size; omega) (.cells #[.string l.name, .bool l.ask, .bool l.has, .int .i64 l.at_] 73))
      have C1 := hide ((HB).alloc HB.size (.cells #[.string l.name, .bool l.ask, .bool l.has, .int .i64 l.at_] 73))
      have e0 : (wr.alloc (.cells #[.string l.name, .bool l.ask, .bool l.has, .int .i64 l.at_] 73)).cell? ⟨wr.heap.size, 0, none⟩ = some (.string l.name) := by simp
      have e1 : (wr.alloc (.cells #[.string l.name, .bool l.ask, .bool l.has, .int .i64 l.at_] 73)).cell? ⟨wr.heap.size, 1, none⟩ = some (.bool l.ask) := by simp
      have e2 : (wr.alloc (.cells #[.string l.name, .bool l.ask, .bool l.has, .int .i64 l.at_] 73)).cell? ⟨wr.heap.size, 2, none⟩ = some (.bool l.has) := by simp
      have e3 : (wr.alloc (.cells #[.string l.name, .bool l.ask, .bool l.has, .int .i64 l.at_] 73)).cell? ⟨wr.heap.size, 3, none⟩ = some (.int .i64 l.at_) := by simp
      have hX : wr.heap.size < (wr.alloc (.cells #[.string l.name, .bool l.ask, .bool l.has, .int .i64 l.at_] 73)).heap.size := by simp
      have k1 := (C1.cell (p := ⟨w.heap.size, 0, none⟩) hw0).trans k0
      have hw1 : w.heap.size < (wr.alloc (.cells #[.string l.name, .bool l.ask, .bool l.has, .int .i64 l.at_] 73)).heap.size := Nat.lt_of_lt_of_le hw0 C1.size
      have FR := hide (HF.below B1 (Nat.le_refl _))
      go_upto_region 7 with fail
      clear d0 d1 d2 d3
      generalize World.alloc wr _ = W1 at B1 C1 e0 e1 e2 e3 hX k1 hw1 FR ⊢
      generalize wr.heap.size = X at e0 e1 e2 e3 hX ⊢
      have hp0 : 0 ≤ (p : Int) := by omega
      have hpn : (p : Int) ≤ n := by omega
      have hp' : p ≤ n := by omega
      have hcap' : p ≤ cap := by omega
      cases hnm : nameOk l.name with
      | false =>
        have hq : ∀ w, Calls Tryd.prog 32 #[.string l.name] w fun e w' => e = .returned (.bool false) ∧ w' = w := fun w => by rw [← hnm]; exact isName_same l.name w
        go_quiet ((go_at_call 32; exact Calls.quiet_of_same (hq _)))
        have hN : linkOk f p l = false := by rw [linkOk_eq, hnm]; rfl
        have HN := hide (HS.trans hN)
        have HLT := hide hlt
        have G1 := hide (below_drewN B1 nq)
        clear hN
        go_wp2
        go_ret
        exact ⟨congrArg (fun z => Ending.returned (.bool z)) (linksOk_no HLT HN).symm, G1⟩
      | true =>
        cases hla : linkAt f p l with
        | true =>
          go_region_with (first
            | (go_at_call 32; refine (isName_any _ _).mono ?_; rintro e w1 ⟨he, hB1⟩; rw [hnm] at he; subst he; have D1 : Hid (Below W1.heap.size W1 w1) := ⟨hB1.os, hB1.tape, hB1.output, hB1.size, hB1.block⟩; have f0 := (D1.cell (p := ⟨X, 0, none⟩) hX).trans e0; have f1 := (D1.cell (p := ⟨X, 1, none⟩) hX).trans e1; have f2 := (D1.cell (p := ⟨X, 2, none⟩) hX).trans e2; have f3 := (D1.cell (p := ⟨X, 3, none⟩) hX).trans e3; have k2 := (D1.cell (p := ⟨w.heap.size, 0, none⟩) hw1).trans k1; have F2 := hide (FR.below D1 (Nat.le_refl _)); clear hB1)
            | (go_at_call 46; refine (rightLink_any b off n p cap f l _ hp' F2).mono ?_; rintro e w2 ⟨he, hB2⟩; rw [hla] at he; subst he; have D2 := hide (D1.trans (hB2.mono D1.size)); clear hB2))
          all_goals
            have HN : Hid (linksOk f p (f p) (k + 1) = true) := HS.trans (by rw [linkOk_eq, hnm, hla]; rfl)
            have G2 := hide (C1.trans (D2.mono C1.size))
            go_wp2
            exact ⟨⟨k + 1, by omega, by go_num, HN, G2⟩, by simp [intOf]; omega⟩
        | false =>
          go_region_with (first
            | (go_at_call 32; refine (isName_any _ _).mono ?_; rintro e w1 ⟨he, hB1⟩; rw [hnm] at he; subst he; have D1 : Hid (Below W1.heap.size W1 w1) := ⟨hB1.os, hB1.tape, hB1.output, hB1.size, hB1.block⟩; have f0 := (D1.cell (p := ⟨X, 0, none⟩) hX).trans e0; have f1 := (D1.cell (p := ⟨X, 1, none⟩) hX).trans e1; have f2 := (D1.cell (p := ⟨X, 2, none⟩) hX).trans e2; have f3 := (D1.cell (p := ⟨X, 3, none⟩) hX).trans e3; have k2 := (D1.cell (p := ⟨w.heap.size, 0, none⟩) hw1).trans k1; have F2 := hide (FR.below D1 (Nat.le_refl _)); clear hB1)
            | (go_at_call 46; refine (rightLink_any b off n p cap f l _ hp' F2).mono ?_; rintro e w2 ⟨he, hB2⟩; rw [hla] at he; subst he; have D2 := hide (D1.trans (hB2.mono D1.size)); clear hB2))
          all_goals
            have HN : Hid (linksOk f p (f p) (k + 1) = false) := HS.trans (by rw [linkOk_eq, hnm, hla]; rfl)
            have HLT := hide hlt
            have G2 := hide (B1.trans (D2.mono (by have := B1.size; omega)))
            go_wp2
            go_ret
            exact ⟨congrArg (fun z => Ending.returned (.bool z)) (linksOk_no HLT HN).symm, G2⟩
    · have e : m = k := by omega
      subst e
      go_wp2
      go_ret
      exact ⟨by rw [HM.out] at HK; rw [HM.out]; exact congrArg (fun z => Ending.returned (.bool z)) HK.symm, A0.trans (HB.mono A0.size)⟩

end Go.Proofs.YtolpgafkojlkoabDoor.Vp
