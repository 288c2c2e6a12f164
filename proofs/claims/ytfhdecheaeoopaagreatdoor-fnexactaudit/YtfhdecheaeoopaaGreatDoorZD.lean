/-
  Put together of: CaRight, CaDeed, CaSpec1.
-/
import Derived.Test.YtfhdecheaeoopaaGreatDoorZC
import Derived.Deep.DeepCutAuto
import Derived.Deep.QuietTactic
import Derived.BigQuiet

/-
  impl: what is a right deed.
-/
namespace Go.Proofs.YtfhdecheaeoopaaGreatDoor.Vp
open Go.RowKit

abbrev deedV (x : Deed) (a0 : Option Addr) (cap0 : Nat) (a1 : Option Addr) (cap1 : Nat) : Value := .agg #[.string x.name, .int .i64 x.kind, .int .i64 x.code, .string x.text, .slice a0 x.actN cap0, .slice a1 x.linksN cap1]
abbrev linkV (l : Link) : Value := .agg #[.string l.name, .bool l.ask, .bool l.has, .int .i64 l.at_]

set_option maxRecDepth 100000 in
set_option maxHeartbeats 1000000 in
theorem unmade_any (x : Deed) (a0 : Option Addr) (cap0 : Nat) (a1 : Option Addr) (cap1 : Nat) (w : World) :
    Calls Tryz.prog 129 #[deedV x a0 cap0 a1 cap1] w fun e w' => e = .returned (.bool (unmadeOk x)) ∧ Below w.heap.size w w' := by
  have A0 := hide ((Below.refl w.heap.size w).alloc (Nat.le_refl _) (.cells #[.string x.name, .int .i64 x.kind, .int .i64 x.code, .string x.text, .slice a0 x.actN cap0, .slice a1 x.linksN cap1] 54))
  obtain ⟨r, hr⟩ : ∃ r, r = unmadeOk x := ⟨_, rfl⟩
  rw [← hr]
  have HR := hide hr
  clear hr
  go_enter Tryz.func129, Tryz.ntmps129
  cases h1 : (x.code == 0) with
  | false =>
    obtain rfl : r = false := by rw [HR.out]; simp at h1; simp [unmadeOk, h1]
    go_wp2
    go_ret
    exact ⟨rfl, A0.out⟩
  | true =>
    cases h2 : ((x.actN : Int) == 0) with
    | false =>
      obtain rfl : r = false := by rw [HR.out]; simp at h2; simp [unmadeOk]; omega
      go_wp2
      go_ret
      exact ⟨rfl, A0.out⟩
    | true =>
      cases h3 : ((x.linksN : Int) == 0) with
      | false =>
        obtain rfl : r = false := by rw [HR.out]; simp at h3; simp [unmadeOk]; omega
        go_wp2
        go_ret
        exact ⟨rfl, A0.out⟩
      | true =>
        obtain rfl : r = true := by rw [HR.out]; simp at h1 h2 h3; simp [unmadeOk, h1, h2, h3]
        go_wp2
        go_ret
        exact ⟨rfl, A0.out⟩

def linkAt (f : Nat → Deed) (p : Nat) (l : Link) : Bool := if l.ask = true then !l.has && decide (0 ≤ l.at_) && decide (l.at_ < (p : Int)) && ((f l.at_.toNat).name.toList == l.name.toList) else decide (l.at_ = 0)
theorem linkOk_eq (f : Nat → Deed) (p : Nat) (l : Link) : linkOk f p l = (nameOk l.name && linkAt f p l) := rfl

set_option maxRecDepth 100000 in
set_option maxHeartbeats 2000000 in
theorem rightLink_any (b off n p cap : Nat) (f : Nat → Deed) (l : Link) (w : World) (hp : p ≤ n) (hf : RowDeed w b off n f) :
    Calls Tryz.prog 140 #[.slice (some ⟨b, off, none⟩) p cap, linkV l] w fun e w' => e = .returned (.bool (linkAt f p l)) ∧ Below w.heap.size w w' := by
  have A0 := hide ((Below.refl w.heap.size w).alloc (Nat.le_refl _) (.cells #[.string l.name, .bool l.ask, .bool l.has, .int .i64 l.at_] 70))
  have HF := hide (hf.below A0.out (Nat.le_refl _))
  have hb := hf.1
  clear hf
  obtain ⟨r, hr⟩ : ∃ r, r = linkAt f p l := ⟨_, rfl⟩
  rw [← hr]
  have HR := hide hr
  clear hr
  obtain ⟨nm, ask, has, at_⟩ := l
  go_enter Tryz.func140, Tryz.ntmps140
  cases ask with
  | false =>
    cases h1 : (at_ == 0) with
    | true =>
      obtain rfl : r = true := by rw [HR.out]; simp at h1; simp [linkAt, h1]
      go_wp2
      go_ret
      exact ⟨rfl, A0.out⟩
    | false =>
      obtain rfl : r = false := by rw [HR.out]; simp at h1; simp [linkAt, h1]
      go_wp2
      go_ret
      exact ⟨rfl, A0.out⟩
  | true =>
    cases has with
    | true =>
      obtain rfl : r = false := by rw [HR.out]; simp [linkAt]
      go_wp2_with fail
      go_quiet (fail)
      go_wp2
      go_ret
      exact ⟨rfl, below_drewN A0.out _⟩
    | false =>
      by_cases h1 : 0 ≤ at_
      · by_cases h2 : at_ < (p : Int)
        · obtain ⟨q, rfl⟩ : ∃ q : Nat, at_ = (q : Int) := ⟨at_.toNat, by omega⟩
          have hq : q < n := by omega
          have d0 := (HF.out.2 q hq).1
          have e : r = ((f q).name.toList == nm.toList) := by rw [HR.out]; simp [linkAt, h2]
          cases hr : ((f q).name.toList == nm.toList) with
          | true =>
            rw [hr] at e
            subst e
            go_wp2_with fail
            go_quiet (fail)
            go_wp2
            go_ret
            exact ⟨rfl, below_drewN A0.out _⟩
          | false =>
            rw [hr] at e
            subst e
            go_wp2_with fail
            go_quiet (fail)
            go_wp2
            go_ret
            exact ⟨rfl, below_drewN A0.out _⟩
        · obtain rfl : r = false := by rw [HR.out]; simp [linkAt, h2]
          have h3 : decide (at_ < (p : Int)) = false := by simpa using h2
          go_wp2_with fail
          go_quiet (fail)
          go_wp2
          go_ret
          exact ⟨rfl, below_drewN A0.out _⟩
      · obtain rfl : r = false := by rw [HR.out]; simp [linkAt, h1]
        have h3 : decide (0 ≤ at_) = false := by simpa using h1
        go_wp2_with fail
        go_quiet (fail)
        go_wp2
        go_ret
        exact ⟨rfl, below_drewN A0.out _⟩

theorem linksOk_no {f : Nat → Deed} {p : Nat} {x : Deed} {k m : Nat} (hk : k < m) (h : linksOk f p x (k + 1) = false) : linksOk f p x m = false := by
  induction m with
  | zero => omega
  | succ j ih =>
    by_cases e : k = j
    · subst e; exact h
    · rw [linksOk, ih (by omega)]; rfl

set_option maxRecDepth 100000 in
set_option maxHeartbeats 4000000 in
theorem rightLinks_any (b off n cap p : Nat) (f : Nat → Deed) (w : World) (hp : p < n) (hf : RowDeed w b off n f) (hcap : (p : Int) ≤ cap) :
    Calls Tryz.prog 130 #[.agg #[.slice (some ⟨b, off, none⟩) n cap], .int .i64 (p : Int)] w fun e w' => e = .returned (.bool (decide ((f p).linksN ≤ 200) && linksOk f p (f p) (f p).linksN)) ∧ Below w.heap.size w w' := by
  have A0 := hide ((Below.refl w.heap.size w).alloc (Nat.le_refl _) (.cells #[.slice (some ⟨b, off, none⟩) n cap] 30))
  have HF := hide hf
  obtain ⟨_, _, _, _, _, ⟨a1, cap1, p5', r1⟩⟩ := hf.2 p hp
  have hb := hf.1
  have k0 : (w.alloc (.cells #[.slice (some ⟨b, off, none⟩) n cap] 30)).cell? ⟨w.heap.size, 0, none⟩ = some (.slice (some ⟨b, off, none⟩) n cap) := by simp
  have p5 := (A0.out.cell (p := ⟨b, off + p * 6 + 5, none⟩) hb).trans p5'
  have HL := hide r1
  have hw0 : w.heap.size < (w.alloc (.cells #[.slice (some ⟨b, off, none⟩) n cap] 30)).heap.size := by simp
  clear r1 p5' hf
  obtain ⟨m, hm⟩ : ∃ m, m = (f p).linksN := ⟨_, rfl⟩
  obtain ⟨L, hL⟩ : ∃ L, L = (f p).links := ⟨_, rfl⟩
  rw [← hm] at p5 HL ⊢
  rw [← hL] at HL
  have HM := hide hm
  have HLK := hide hL
  clear hm hL
  by_cases hbig : (200 : Int) < (m : Int)
  · obtain ⟨r, hr⟩ : ∃ r, r = (decide (m ≤ 200) && linksOk f p (f p) m) := ⟨_, rfl⟩
    rw [← hr]
    obtain rfl : r = false := by rw [hr]; simp; omega
    clear hr
    go_enter Tryz.func130, Tryz.ntmps130
    go_wp2
    go_ret
    exact ⟨rfl, A0.out⟩
  have hd : decide (m ≤ 200) = true := by simp; omega
  rw [hd, Bool.true_and]
  clear hd
  go_enter Tryz.func130, Tryz.ntmps130
  go_wp2
  generalize w.alloc (.cells #[.slice (some ⟨b, off, none⟩) n cap] 30) = W at A0 k0 hw0 ⊢
  clear p5
  go_loopw [19] (fun i wr => ∃ k : Nat, k ≤ m ∧ i = .int .i64 k ∧ Hid (linksOk f p (f p) k = true) ∧ Hid (Below W.heap.size W wr)) (fun i _ => m - (intOf i).toNat)
  case atStart => exact ⟨0, by omega, rfl, rfl, Below.refl _ _⟩
  case round =>
    obtain ⟨k, hk, rfl, HK, HB⟩ := hrel
    by_cases hlt : k < m
    · obtain ⟨lb, lo, rfl, hlb, hrow⟩ := HL.out.resolve_left (by omega)
      have hx := (hrow k hlt).below (A0.out.trans (HB.out.mono A0.out.size)) hlb
      obtain ⟨l, hl⟩ : ∃ l, l = L k := ⟨_, rfl⟩
      rw [← hl] at hx
      have HLL := hide hl
      obtain ⟨d0, d1, d2, d3⟩ := hx
      clear hl hrow
      have HS : Hid (linksOk f p (f p) (k + 1) = linkOk f p l) := by
        show (linksOk f p (f p) k && linkOk f p ((f p).links k)) = _
        rw [HK.out, Bool.true_and, ← HLK.out, ← HLL.out]
      have B1 := hide ((A0.out.trans (HB.out.mono A0.out.size)).alloc (by have := A0.out.size; have := HB.out.size; omega) (.cells #[.string l.name, .bool l.ask, .bool l.has, .int .i64 l.at_] 70))
      have C1 := hide ((HB.out).alloc HB.out.size (.cells #[.string l.name, .bool l.ask, .bool l.has, .int .i64 l.at_] 70))
      have e0 : (wr.alloc (.cells #[.string l.name, .bool l.ask, .bool l.has, .int .i64 l.at_] 70)).cell? ⟨wr.heap.size, 0, none⟩ = some (.string l.name) := by simp
      have e1 : (wr.alloc (.cells #[.string l.name, .bool l.ask, .bool l.has, .int .i64 l.at_] 70)).cell? ⟨wr.heap.size, 1, none⟩ = some (.bool l.ask) := by simp
      have e2 : (wr.alloc (.cells #[.string l.name, .bool l.ask, .bool l.has, .int .i64 l.at_] 70)).cell? ⟨wr.heap.size, 2, none⟩ = some (.bool l.has) := by simp
      have e3 : (wr.alloc (.cells #[.string l.name, .bool l.ask, .bool l.has, .int .i64 l.at_] 70)).cell? ⟨wr.heap.size, 3, none⟩ = some (.int .i64 l.at_) := by simp
      have hX : wr.heap.size < (wr.alloc (.cells #[.string l.name, .bool l.ask, .bool l.has, .int .i64 l.at_] 70)).heap.size := by simp
      have k1 := (C1.out.cell (p := ⟨w.heap.size, 0, none⟩) hw0).trans k0
      have hw1 : w.heap.size < (wr.alloc (.cells #[.string l.name, .bool l.ask, .bool l.has, .int .i64 l.at_] 70)).heap.size := Nat.lt_of_lt_of_le hw0 C1.out.size
      have FR := hide (HF.out.below B1.out (Nat.le_refl _))
      go_upto_region 7 with fail
      clear d0 d1 d2 d3
      generalize wr.alloc (.cells #[.string l.name, .bool l.ask, .bool l.has, .int .i64 l.at_] 70) = W1 at B1 C1 e0 e1 e2 e3 hX k1 hw1 FR ⊢
      generalize wr.heap.size = X at e0 e1 e2 e3 hX ⊢
      have hp0 : 0 ≤ (p : Int) := by omega
      have hpn : (p : Int) ≤ n := by omega
      have hp' : p ≤ n := by omega
      have hcap' : p ≤ cap := by omega
      cases hnm : nameOk l.name with
      | false =>
        have hq : ∀ w, Calls Tryz.prog 87 #[.string l.name] w fun e w' => e = .returned (.bool false) ∧ w' = w := fun w => by rw [← hnm]; exact isName_same l.name w
        go_quiet ((go_at_call 87; exact Calls.quiet_of_same (hq _)))
        have hN : linkOk f p l = false := by rw [linkOk_eq, hnm]; rfl
        have HN := hide (HS.out.trans hN)
        have HLT := hide hlt
        have G1 := hide (below_drewN B1.out nq)
        clear hN
        go_wp2
        go_ret
        exact ⟨congrArg (fun z => Ending.returned (.bool z)) (linksOk_no HLT.out HN.out).symm, G1.out⟩
      | true =>
        cases hla : linkAt f p l with
        | true =>
          go_region_with (first
            | (go_at_call 87; refine (isName_any _ _).mono ?_; rintro e w1 ⟨he, hB1⟩; rw [hnm] at he; subst he; have D1 : Hid (Below W1.heap.size W1 w1) := ⟨hB1.os, hB1.tape, hB1.output, hB1.size, hB1.block⟩; have f0 := (D1.out.cell (p := ⟨X, 0, none⟩) hX).trans e0; have f1 := (D1.out.cell (p := ⟨X, 1, none⟩) hX).trans e1; have f2 := (D1.out.cell (p := ⟨X, 2, none⟩) hX).trans e2; have f3 := (D1.out.cell (p := ⟨X, 3, none⟩) hX).trans e3; have k2 := (D1.out.cell (p := ⟨w.heap.size, 0, none⟩) hw1).trans k1; have F2 := hide (FR.out.below D1.out (Nat.le_refl _)); clear hB1)
            | (go_at_call 140; refine (rightLink_any b off n p cap f l _ hp' F2.out).mono ?_; rintro e w2 ⟨he, hB2⟩; rw [hla] at he; subst he; have D2 := hide (D1.out.trans (hB2.mono D1.out.size)); clear hB2))
          all_goals
            have HN : Hid (linksOk f p (f p) (k + 1) = true) := HS.out.trans (by rw [linkOk_eq, hnm, hla]; rfl)
            have G2 := hide (C1.out.trans (D2.out.mono C1.out.size))
            go_wp2
            exact ⟨⟨k + 1, by omega, by go_num, HN.out, G2.out⟩, by simp [intOf]; omega⟩
        | false =>
          go_region_with (first
            | (go_at_call 87; refine (isName_any _ _).mono ?_; rintro e w1 ⟨he, hB1⟩; rw [hnm] at he; subst he; have D1 : Hid (Below W1.heap.size W1 w1) := ⟨hB1.os, hB1.tape, hB1.output, hB1.size, hB1.block⟩; have f0 := (D1.out.cell (p := ⟨X, 0, none⟩) hX).trans e0; have f1 := (D1.out.cell (p := ⟨X, 1, none⟩) hX).trans e1; have f2 := (D1.out.cell (p := ⟨X, 2, none⟩) hX).trans e2; have f3 := (D1.out.cell (p := ⟨X, 3, none⟩) hX).trans e3; have k2 := (D1.out.cell (p := ⟨w.heap.size, 0, none⟩) hw1).trans k1; have F2 := hide (FR.out.below D1.out (Nat.le_refl _)); clear hB1)
            | (go_at_call 140; refine (rightLink_any b off n p cap f l _ hp' F2.out).mono ?_; rintro e w2 ⟨he, hB2⟩; rw [hla] at he; subst he; have D2 := hide (D1.out.trans (hB2.mono D1.out.size)); clear hB2))
          all_goals
            have HN : Hid (linksOk f p (f p) (k + 1) = false) := HS.out.trans (by rw [linkOk_eq, hnm, hla]; rfl)
            have HLT := hide hlt
            have G2 := hide (B1.out.trans (D2.out.mono (by have := B1.out.size; omega)))
            go_wp2
            go_ret
            exact ⟨congrArg (fun z => Ending.returned (.bool z)) (linksOk_no HLT.out HN.out).symm, G2.out⟩
    · have e : m = k := by omega
      subst e
      go_wp2
      go_ret
      exact ⟨by rw [HM.out] at HK; rw [HM.out]; exact congrArg (fun z => Ending.returned (.bool z)) HK.out.symm, A0.out.trans (HB.out.mono A0.out.size)⟩

end Go.Proofs.YtfhdecheaeoopaaGreatDoor.Vp

/-
  impl: rightDeed, wrongDeed.
-/
namespace Go.Proofs.YtfhdecheaeoopaaGreatDoor.Vp
open Go.RowKit

structure SixB (w : World) (b : Nat) (v0 v1 v2 v3 v4 v5 : Value) : Prop where
  lt : b < w.heap.size
  c0 : w.cell? ⟨b, 0, none⟩ = some v0
  c1 : w.cell? ⟨b, 1, none⟩ = some v1
  c2 : w.cell? ⟨b, 2, none⟩ = some v2
  c3 : w.cell? ⟨b, 3, none⟩ = some v3
  c4 : w.cell? ⟨b, 4, none⟩ = some v4
  c5 : w.cell? ⟨b, 5, none⟩ = some v5
theorem SixB.below {w w' : World} {b : Nat} {v0 v1 v2 v3 v4 v5 : Value} (h : SixB w b v0 v1 v2 v3 v4 v5) (hb : Below w.heap.size w w') : SixB w' b v0 v1 v2 v3 v4 v5 :=
  ⟨Nat.lt_of_lt_of_le h.lt hb.size, (hb.cell (p := ⟨b, 0, none⟩) h.lt).trans h.c0, (hb.cell (p := ⟨b, 1, none⟩) h.lt).trans h.c1, (hb.cell (p := ⟨b, 2, none⟩) h.lt).trans h.c2, (hb.cell (p := ⟨b, 3, none⟩) h.lt).trans h.c3, (hb.cell (p := ⟨b, 4, none⟩) h.lt).trans h.c4, (hb.cell (p := ⟨b, 5, none⟩) h.lt).trans h.c5⟩
theorem sixB_new (w : World) (v0 v1 v2 v3 v4 v5 : Value) (t : TypeId) : SixB (w.alloc (.cells #[v0, v1, v2, v3, v4, v5] t)) w.heap.size v0 v1 v2 v3 v4 v5 := ⟨by simp, by simp, by simp, by simp, by simp, by simp, by simp⟩
theorem empty_size (t : ByteArray) : t.toList.isEmpty = decide (t.size = 0) := by
  rw [ByteArray.toList_eq]
  obtain ⟨⟨l⟩⟩ := t
  cases l <;> simp [ByteArray.size]
theorem ret_of {a b : Bool} (h : a = b) : Ending.returned (.bool a) = Ending.returned (.bool b) := by rw [h]

set_option maxRecDepth 100000 in
set_option maxHeartbeats 4000000 in
theorem rightDeed_any (b off n cap p : Nat) (f : Nat → Deed) (w : World) (hp : p < n) (hf : RowDeed w b off n f) (hcap : (p : Int) ≤ cap) (hfit : (f p).actN ≤ 1048576) (hT : Tab w) :
    Calls Tryz.prog 112 #[.agg #[.slice (some ⟨b, off, none⟩) n cap], .int .i64 (p : Int)] w fun e w' => e = .returned (.bool (deedOk f p)) ∧ Below w.heap.size w w' := by
  have HF := hide hf
  have HT := hide hT
  have hb := hf.1
  obtain ⟨p0, p1, p2, p3, ⟨a0, cap0, p4, q4⟩, ⟨a1, cap1, p5, q5⟩⟩ := hf.2 p hp
  obtain ⟨r, hr⟩ : ∃ r, r = deedOk f p := ⟨_, rfl⟩
  rw [← hr]
  have HR := hide hr
  obtain ⟨x, hx⟩ : ∃ x, x = f p := ⟨_, rfl⟩
  rw [← hx] at p0 p1 p2 p3 p4 p5 q4 hfit
  have HX := hide hx
  have Q4 := hide q4
  clear hr hx q4 q5 hf hT
  have A0 := hide (((Below.refl w.heap.size w).alloc (Nat.le_refl _) (.cells #[.slice (some ⟨b, off, none⟩) n cap] 30)).alloc (by simp) (.cells #[.string x.name, .int .i64 x.kind, .int .i64 x.code, .string x.text, .slice a0 x.actN cap0, .slice a1 x.linksN cap1] 54))
  have S0 := hide (sixB_new (w.alloc (.cells #[.slice (some ⟨b, off, none⟩) n cap] 30)) (.string x.name) (.int .i64 x.kind) (.int .i64 x.code) (.string x.text) (.slice a0 x.actN cap0) (.slice a1 x.linksN cap1) 54)
  have hz : (w.alloc (.cells #[.slice (some ⟨b, off, none⟩) n cap] 30)).heap.size = w.heap.size + 1 := by simp
  rw [hz] at S0
  have K0 : Hid (((w.alloc (.cells #[.slice (some ⟨b, off, none⟩) n cap] 30)).alloc (.cells #[.string x.name, .int .i64 x.kind, .int .i64 x.code, .string x.text, .slice a0 x.actN cap0, .slice a1 x.linksN cap1] 54)).cell? ⟨w.heap.size, 0, none⟩ = some (.slice (some ⟨b, off, none⟩) n cap)) := by
    show World.cell? _ _ = _
    simp
  clear hz
  go_enter Tryz.func112, Tryz.ntmps112
  go_wp2_with fail
  generalize (w.alloc (.cells #[.slice (some ⟨b, off, none⟩) n cap] 30)).alloc (.cells #[.string x.name, .int .i64 x.kind, .int .i64 x.code, .string x.text, .slice a0 x.actN cap0, .slice a1 x.linksN cap1] 54) = W at A0 S0 K0 ⊢
  clear p0 p1 p2 p3 p4 p5
  cases hnm : nameOk x.name with
  | false =>
    refine (isName_any x.name _).mono ?_
    rintro e w1 ⟨he, hB⟩
    rw [hnm] at he
    subst he
    have B1 := hide (A0.out.trans (hB.mono A0.out.size))
    obtain rfl : r = false := by rw [HR.out]; unfold deedOk; rw [← HX.out, hnm]; rfl
    clear hB
    go_wp2
    go_ret
    exact ⟨rfl, B1.out⟩
  | true =>
  refine (isName_any x.name _).mono ?_
  rintro e w1 ⟨he, hB⟩
  rw [hnm] at he
  subst he
  have B1 := hide (A0.out.trans (hB.mono A0.out.size))
  have S1 := hide (S0.out.below hB)
  have K1 := hide ((hB.cell (p := ⟨w.heap.size, 0, none⟩) (Nat.lt_of_succ_lt S0.out.lt)).trans K0.out)
  have c1 := S1.out.c1
  have c2 := S1.out.c2
  have c3 := S1.out.c3
  clear hB A0 S0 K0
  by_cases hbig : (2000 : Int) < (x.text.size : Int)
  · obtain rfl : r = false := by rw [HR.out]; unfold deedOk; rw [← HX.out, hnm]; simp; omega
    go_wp2
    go_ret
    exact ⟨rfl, B1.out⟩
  have HK : Hid (r = kindOk f p x) := by
    show r = _
    rw [HR.out]; unfold deedOk; rw [← HX.out, hnm, show decide (x.text.size ≤ 2000) = true by simp; omega]; rfl
  clear HR
  cases h1 : (x.kind == 1) with
  | true =>
    have hk : x.kind = 1 := by simpa using h1
    have HK1 : Hid (unmadeOk x = r) := (HK.out.trans (by unfold kindOk; rw [if_pos hk])).symm
    clear hk
    have c0 := S1.out.c0
    have c4 := S1.out.c4
    have c5 := S1.out.c5
    go_wp2_with fail
    refine (unmade_any x a0 cap0 a1 cap1 _).mono ?_
    rintro e w2 ⟨rfl, hB⟩
    have B2 := hide (B1.out.trans (hB.mono B1.out.size))
    clear hB
    go_wp2
    go_ret
    exact ⟨ret_of HK1.out, B2.out⟩
  | false =>
  cases h2 : (x.kind == 2) with
  | true =>
    have hk : x.kind = 2 := by simpa using h2
    have HK1 : Hid (r = (unmadeOk x && decide (x.text.size = 0))) := HK.out.trans (by unfold kindOk; rw [if_neg (by omega), if_pos hk])
    clear hk
    have c0 := S1.out.c0
    have c4 := S1.out.c4
    have c5 := S1.out.c5
    go_wp2_with fail
    refine (unmade_any x a0 cap0 a1 cap1 _).mono ?_
    rintro e w2 ⟨he, hB⟩
    have B2 := hide (B1.out.trans (hB.mono B1.out.size))
    have d3 := (S1.out.below hB).c3
    clear hB
    cases hu : unmadeOk x with
    | false =>
      rw [hu] at he
      subst he
      obtain rfl : r = false := by rw [HK1.out, hu]; rfl
      go_wp2
      go_ret
      exact ⟨rfl, B2.out⟩
    | true =>
      rw [hu] at he
      subst he
      have HK2 : Hid (decide (x.text.size = 0) = r) := by show _ = r; rw [HK1.out, hu]; rfl
      go_wp2
      go_ret
      exact ⟨ret_bool (by rw [empty_size]; exact HK2.out), B2.out⟩
  | false =>
  cases h3 : (x.kind == 3) with
  | false =>
    obtain rfl : r = false := by rw [HK.out]; unfold kindOk; simp at h1 h2 h3; rw [if_neg h1, if_neg h2, if_neg h3]
    go_wp2
    go_ret
    exact ⟨rfl, B1.out⟩
  | true =>
  have HK1 : Hid (r = targetOk f p x) := HK.out.trans (by unfold kindOk; simp at h1 h2 h3; rw [if_neg h1, if_neg h2, if_pos h3])
  by_cases g1 : 0 ≤ x.code
  · by_cases g2 : x.code ≤ 5
    · have c4 := S1.out.c4
      go_wp2_with fail
      refine (implValid_sl a0 x.actN cap0 x.act _ hfit (Q4.out.below B1.out (Nat.le_refl _)) (HT.out.below B1.out HT.out.1)).mono ?_
      rintro e w2 ⟨he, hB⟩
      have B2 := hide (B1.out.trans (hB.mono B1.out.size))
      have K2 := (hB.cell (p := ⟨w.heap.size, 0, none⟩) (Nat.lt_of_succ_lt S1.out.lt)).trans K1.out
      clear hB
      cases hv : valid x.act x.actN with
      | false =>
        rw [hv] at he
        subst he
        obtain rfl : r = false := by rw [HK1.out]; simp [targetOk, hv]
        go_wp2
        go_ret
        exact ⟨rfl, B2.out⟩
      | true =>
        rw [hv] at he
        subst he
        have HK2 : Hid ((decide (x.linksN ≤ 200) && linksOk f p x x.linksN) = r) := by show _ = r; rw [HK1.out]; simp [targetOk, hv, g1, g2]
        have HRL := hide (rightLinks_any b off n cap p f w2 hp (HF.out.below B2.out (Nat.le_refl _)) hcap)
        rw [← HX.out] at HRL
        rw [HK2.out] at HRL
        go_wp2_with fail
        refine HRL.out.mono ?_
        rintro e w3 ⟨rfl, hB⟩
        have B3 := hide (B2.out.trans (hB.mono B2.out.size))
        clear hB
        go_wp2
        go_ret
        exact ⟨rfl, B3.out⟩
    · obtain rfl : r = false := by rw [HK1.out]; simp [targetOk, g2]
      go_wp2
      go_ret
      exact ⟨rfl, B1.out⟩
  · obtain rfl : r = false := by rw [HK1.out]; simp [targetOk, g1]
    go_wp2
    go_ret
    exact ⟨rfl, B1.out⟩

set_option maxRecDepth 100000 in
set_option maxHeartbeats 4000000 in
theorem wrongDeed_any (b off n cap : Nat) (f : Nat → Deed) (w : World) (hn : (n : Int) ≤ 400) (hf : RowDeed w b off n f) (hcap : (n : Int) ≤ cap) (hfit : ∀ i, i < n → FitsDeed (f i)) (hT : Tab w) :
    Calls Tryz.prog 78 #[.agg #[.slice (some ⟨b, off, none⟩) n cap]] w fun e w' => e = .returned (.int .i64 (firstNo (deedOk f) n)) ∧ Below w.heap.size w w' := by
  have HF := hide hf
  have HT := hide hT
  have HM := hide hfit
  clear hf hT hfit
  have A0 := hide ((Below.refl w.heap.size w).alloc (Nat.le_refl _) (.cells #[.slice (some ⟨b, off, none⟩) n cap] 30))
  have k0 : (w.alloc (.cells #[.slice (some ⟨b, off, none⟩) n cap] 30)).cell? ⟨w.heap.size, 0, none⟩ = some (.slice (some ⟨b, off, none⟩) n cap) := by simp
  have hw0 : w.heap.size < (w.alloc (.cells #[.slice (some ⟨b, off, none⟩) n cap] 30)).heap.size := by simp
  obtain ⟨r, hr⟩ : ∃ r, r = firstNo (deedOk f) n := ⟨_, rfl⟩
  rw [← hr]
  have HR := hide hr
  clear hr
  go_enter Tryz.func78, Tryz.ntmps78
  go_wp2
  generalize w.alloc (.cells #[.slice (some ⟨b, off, none⟩) n cap] 30) = W at A0 k0 hw0 ⊢
  go_loopw [7] (fun i wr => ∃ k : Nat, k ≤ n ∧ i = .int .i64 k ∧ Hid (∀ j, j < k → deedOk f j = true) ∧ Hid (Below W.heap.size W wr)) (fun i _ => n - (intOf i).toNat)
  case atStart => exact ⟨0, by omega, rfl, fun j hj => absurd hj (Nat.not_lt_zero _), Below.refl _ _⟩
  case round =>
    obtain ⟨k, hk, rfl, HK, HB⟩ := hrel
    have k1 := (HB.out.cell (p := ⟨w.heap.size, 0, none⟩) hw0).trans k0
    have G0 := hide (A0.out.trans (HB.out.mono A0.out.size))
    by_cases hlt : k < n
    · go_wp2_with fail
      refine (rightDeed_any b off n cap k f _ hlt (HF.out.below G0.out (Nat.le_refl _)) (by omega) (HM.out k hlt).1 (HT.out.below G0.out HT.out.1)).mono ?_
      rintro e w2 ⟨he, hB⟩
      have G1 := hide (G0.out.trans (hB.mono G0.out.size))
      have H1 := hide (HB.out.trans (hB.mono HB.out.size))
      clear hB
      cases hd : deedOk f k with
      | true =>
        rw [hd] at he
        subst he
        have HD := hide hd
        clear hd
        go_wp2
        exact ⟨⟨k + 1, by omega, by go_num, fun j hj => by
          by_cases e : j = k
          · subst e; exact HD.out
          · exact HK.out j (by omega), H1.out⟩, by simp [intOf]; omega⟩
      | false =>
        rw [hd] at he
        subst he
        obtain rfl : r = k := by rw [HR.out]; exact firstNo_at hlt hd HK.out
        clear hd
        go_wp2
        go_ret
        exact ⟨rfl, G1.out⟩
    · have e : n = k := by omega
      subst e
      obtain rfl : r = -1 := by rw [HR.out]; exact firstNo_all HK.out
      go_wp2
      go_ret
      exact ⟨rfl, G0.out⟩

end Go.Proofs.YtfhdecheaeoopaaGreatDoor.Vp

/-
  spec: what is a right deed.
-/
namespace Go.Proofs.YtfhdecheaeoopaaGreatDoor.Vp
open Go.RowKit

set_option maxRecDepth 100000 in
set_option maxHeartbeats 1000000 in
theorem sourceOk_any (x : Deed) (a0 : Option Addr) (cap0 : Nat) (a1 : Option Addr) (cap1 : Nat) (w : World) :
    Calls Tryz.prog 102 #[deedV x a0 cap0 a1 cap1] w fun e w' => e = .returned (.bool (decide (x.text.size ≤ 2000) && unmadeOk x)) ∧ Below w.heap.size w w' := by
  have A0 := hide ((Below.refl w.heap.size w).alloc (Nat.le_refl _) (.cells #[.string x.name, .int .i64 x.kind, .int .i64 x.code, .string x.text, .slice a0 x.actN cap0, .slice a1 x.linksN cap1] 54))
  obtain ⟨r, hr⟩ : ∃ r, r = (decide (x.text.size ≤ 2000) && unmadeOk x) := ⟨_, rfl⟩
  rw [← hr]
  have HR := hide hr
  clear hr
  go_enter Tryz.func102, Tryz.ntmps102
  cases h1 : (x.code == 0) with
  | false =>
    obtain rfl : r = false := by rw [HR.out]; simp at h1; simp [unmadeOk, h1]
    go_wp2
    go_ret
    exact ⟨rfl, A0.out⟩
  | true =>
    by_cases h4 : (x.text.size : Int) ≤ 2000
    · have h4' : decide (x.text.size ≤ 2000) = true := by simp; omega
      cases h2 : ((x.actN : Int) == 0) with
      | false =>
        obtain rfl : r = false := by rw [HR.out]; simp at h2; simp [unmadeOk]; omega
        go_wp2
        go_ret
        exact ⟨rfl, A0.out⟩
      | true =>
        cases h3 : ((x.linksN : Int) == 0) with
        | false =>
          obtain rfl : r = false := by rw [HR.out]; simp at h3; simp [unmadeOk]; omega
          go_wp2
          go_ret
          exact ⟨rfl, A0.out⟩
        | true =>
          obtain rfl : r = true := by rw [HR.out, h4']; simp at h1 h2 h3; simp [unmadeOk, h1, h2, h3]
          go_wp2
          go_ret
          exact ⟨rfl, A0.out⟩
    · obtain rfl : r = false := by rw [HR.out]; simp; omega
      go_wp2
      go_ret
      exact ⟨rfl, A0.out⟩

set_option maxRecDepth 100000 in
set_option maxHeartbeats 4000000 in
theorem l3TargetOk_any (b off n cap p : Nat) (f : Nat → Deed) (w : World) (hp : p < n) (hf : RowDeed w b off n f) (hfit : (f p).actN ≤ 1048576) (hsz : ∀ j, j < (f p).actN → ((f p).act j).s.size ≤ maxLen) :
    Calls Tryz.prog 103 #[.agg #[.slice (some ⟨b, off, none⟩) n cap], .int .i64 (p : Int)] w fun e w' => e = .returned (.bool (decide ((f p).text.size ≤ 2000) && targetOk f p (f p))) ∧ Below w.heap.size w w' := by
  have HF := hide hf
  have hb := hf.1
  obtain ⟨p0, p1, p2, p3, ⟨a0, cap0, p4, q4⟩, ⟨a1, cap1, p5, q5⟩⟩ := hf.2 p hp
  obtain ⟨x, hx⟩ : ∃ x, x = f p := ⟨_, rfl⟩
  rw [← hx] at p0 p1 p2 p3 p4 p5 q4 q5 hfit hsz ⊢
  have HX := hide hx
  have Q4 := hide q4
  have Q5 := hide q5
  have HZ := hide hsz
  clear hx q4 q5 hf hsz
  have A0 := hide (((Below.refl w.heap.size w).alloc (Nat.le_refl _) (.cells #[.slice (some ⟨b, off, none⟩) n cap] 30)).alloc (by simp) (.cells #[.string x.name, .int .i64 x.kind, .int .i64 x.code, .string x.text, .slice a0 x.actN cap0, .slice a1 x.linksN cap1] 54))
  have S0 := hide (sixB_new (w.alloc (.cells #[.slice (some ⟨b, off, none⟩) n cap] 30)) (.string x.name) (.int .i64 x.kind) (.int .i64 x.code) (.string x.text) (.slice a0 x.actN cap0) (.slice a1 x.linksN cap1) 54)
  have hz : (w.alloc (.cells #[.slice (some ⟨b, off, none⟩) n cap] 30)).heap.size = w.heap.size + 1 := by simp
  rw [hz] at S0
  have K0 : Hid (((w.alloc (.cells #[.slice (some ⟨b, off, none⟩) n cap] 30)).alloc (.cells #[.string x.name, .int .i64 x.kind, .int .i64 x.code, .string x.text, .slice a0 x.actN cap0, .slice a1 x.linksN cap1] 54)).cell? ⟨w.heap.size, 0, none⟩ = some (.slice (some ⟨b, off, none⟩) n cap)) := by
    show World.cell? _ _ = _
    simp
  clear hz
  obtain ⟨r, hr⟩ : ∃ r, r = (decide (x.text.size ≤ 2000) && targetOk f p x) := ⟨_, rfl⟩
  rw [← hr]
  have HR := hide hr
  clear hr
  have c2 := S0.out.c2
  have c3 := S0.out.c3
  have c4 := S0.out.c4
  have c5 := S0.out.c5
  by_cases g1 : 0 ≤ x.code
  case neg =>
    obtain rfl : r = false := by rw [HR.out]; simp [targetOk, g1]
    go_enter Tryz.func103, Tryz.ntmps103
    go_wp2
    go_ret
    exact ⟨rfl, A0.out⟩
  by_cases g2 : x.code ≤ 5
  case neg =>
    obtain rfl : r = false := by rw [HR.out]; simp [targetOk, g2]
    go_enter Tryz.func103, Tryz.ntmps103
    go_wp2
    go_ret
    exact ⟨rfl, A0.out⟩
  by_cases g3 : (x.text.size : Int) ≤ 2000
  case neg =>
    obtain rfl : r = false := by rw [HR.out]; simp; omega
    go_enter Tryz.func103, Tryz.ntmps103
    go_wp2
    go_ret
    exact ⟨rfl, A0.out⟩
  have g3' : decide (x.text.size ≤ 2000) = true := by simp; omega
  go_enter Tryz.func103, Tryz.ntmps103
  go_wp2_with fail
  generalize (w.alloc (.cells #[.slice (some ⟨b, off, none⟩) n cap] 30)).alloc (.cells #[.string x.name, .int .i64 x.kind, .int .i64 x.code, .string x.text, .slice a0 x.actN cap0, .slice a1 x.linksN cap1] 54) = W at A0 S0 K0 ⊢
  clear p0 p1 p2 p3 p4 p5
  refine (specValid_sl a0 x.actN cap0 x.act _ hfit (Q4.out.below A0.out (Nat.le_refl _)) HZ.out).mono ?_
  rintro e w1 ⟨he, hB⟩
  have B1 := hide (A0.out.trans (hB.mono A0.out.size))
  have S1 := hide (S0.out.below hB)
  have K1 := hide ((hB.cell (p := ⟨w.heap.size, 0, none⟩) (Nat.lt_of_succ_lt S0.out.lt)).trans K0.out)
  clear hB A0 S0 K0 c2 c3 c4 c5
  have c5 := S1.out.c5
  cases hv : valid x.act x.actN with
  | false =>
    rw [hv] at he
    subst he
    obtain rfl : r = false := by rw [HR.out]; simp [targetOk, hv]
    go_wp2
    go_ret
    exact ⟨rfl, B1.out⟩
  | true =>
  rw [hv] at he
  subst he
  have HR2 : Hid (r = (decide (x.linksN ≤ 200) && linksOk f p x x.linksN)) := by show r = _; rw [HR.out, g3']; simp [targetOk, hv, g1, g2]
  clear HR g3' hv
  by_cases hbig : (200 : Int) < (x.linksN : Int)
  · obtain rfl : r = false := by rw [HR2.out]; simp; omega
    go_wp2
    go_ret
    exact ⟨rfl, B1.out⟩
  have HR3 : Hid (r = linksOk f p x x.linksN) := by show r = _; rw [HR2.out, show decide (x.linksN ≤ 200) = true by simp; omega]; rfl
  clear HR2
  go_wp2
  have hlw1 : w.heap.size + 1 < w1.heap.size := S1.out.lt
  go_loopw [6] (fun i wr => ∃ k : Nat, k ≤ x.linksN ∧ i = .int .i64 k ∧ Hid (linksOk f p x k = true) ∧ Hid (Below w1.heap.size w1 wr)) (fun i _ => x.linksN - (intOf i).toNat)
  case atStart => exact ⟨0, by omega, rfl, rfl, Below.refl _ _⟩
  case round =>
    obtain ⟨k, hk, rfl, HK, HB⟩ := hrel
    have e5 := (HB.out.cell (p := ⟨w.heap.size + 1, 5, none⟩) hlw1).trans c5
    have G0 := hide (B1.out.trans (HB.out.mono B1.out.size))
    by_cases hlt : k < x.linksN
    · obtain ⟨lb, lo, rfl, hrow⟩ := (Q5.out.below G0.out (Nat.le_refl _)).resolve_left (by omega)
      have hxx := hrow.2 k hlt
      obtain ⟨l, hl⟩ : ∃ l, l = x.links k := ⟨_, rfl⟩
      rw [← hl] at hxx
      obtain ⟨d0, d1, d2, d3⟩ := hxx
      have HS : Hid (linksOk f p x (k + 1) = linkOk f p l) := by
        show (linksOk f p x k && linkOk f p (x.links k)) = _
        rw [HK.out, Bool.true_and, ← hl]
      clear hl hrow
      have G1 := hide (G0.out.alloc G0.out.size (.cells #[.string l.name, .bool l.ask, .bool l.has, .int .i64 l.at_] 70))
      have C1 := hide (HB.out.alloc HB.out.size (.cells #[.string l.name, .bool l.ask, .bool l.has, .int .i64 l.at_] 70))
      have e0 : (wr.alloc (.cells #[.string l.name, .bool l.ask, .bool l.has, .int .i64 l.at_] 70)).cell? ⟨wr.heap.size, 0, none⟩ = some (.string l.name) := by simp
      have e1 : (wr.alloc (.cells #[.string l.name, .bool l.ask, .bool l.has, .int .i64 l.at_] 70)).cell? ⟨wr.heap.size, 1, none⟩ = some (.bool l.ask) := by simp
      have e2 : (wr.alloc (.cells #[.string l.name, .bool l.ask, .bool l.has, .int .i64 l.at_] 70)).cell? ⟨wr.heap.size, 2, none⟩ = some (.bool l.has) := by simp
      have e3 : (wr.alloc (.cells #[.string l.name, .bool l.ask, .bool l.has, .int .i64 l.at_] 70)).cell? ⟨wr.heap.size, 3, none⟩ = some (.int .i64 l.at_) := by simp
      have hXl : wr.heap.size < (wr.alloc (.cells #[.string l.name, .bool l.ask, .bool l.has, .int .i64 l.at_] 70)).heap.size := by simp
      have kA := (C1.out.cell (p := ⟨w.heap.size, 0, none⟩) (by show w.heap.size < _; omega)).trans K1.out
      have hwA : w.heap.size < (wr.alloc (.cells #[.string l.name, .bool l.ask, .bool l.has, .int .i64 l.at_] 70)).heap.size := by have := C1.out.size; omega
      go_wp2_with fail
      clear d0 d1 d2 d3 e5
      generalize wr.alloc (.cells #[.string l.name, .bool l.ask, .bool l.has, .int .i64 l.at_] 70) = W1 at G1 C1 e0 e1 e2 e3 hXl kA hwA ⊢
      generalize wr.heap.size = X at e0 e1 e2 e3 hXl ⊢
      refine (l1NameOk_any l.name _).mono ?_
      rintro e w2 ⟨he, hB⟩
      have G2 := hide (G1.out.trans (hB.mono G1.out.size))
      have C2 := hide (C1.out.trans (hB.mono C1.out.size))
      have f0 := (hB.cell (p := ⟨X, 0, none⟩) hXl).trans e0
      have f1 := (hB.cell (p := ⟨X, 1, none⟩) hXl).trans e1
      have f2 := (hB.cell (p := ⟨X, 2, none⟩) hXl).trans e2
      have f3 := (hB.cell (p := ⟨X, 3, none⟩) hXl).trans e3
      have kB := (hB.cell (p := ⟨w.heap.size, 0, none⟩) hwA).trans kA
      have FR := hide (HF.out.below G2.out (Nat.le_refl _))
      clear hB e0 e1 e2 e3 kA G1 C1
      have HLT := hide hlt
      have no : linkOk f p l = false → r = false := fun h => by rw [HR3.out]; exact linksOk_no hlt (HS.out.trans h)
      have HNO := hide no
      clear no
      cases hnm : nameOk l.name with
      | false =>
        rw [hnm] at he
        subst he
        obtain rfl : r = false := HNO.out (by rw [linkOk_eq, hnm]; rfl)
        go_wp2
        go_ret
        exact ⟨rfl, G2.out⟩
      | true =>
      rw [hnm] at he
      subst he
      cases hask : l.ask with
      | false =>
        rw [hask] at f1
        cases h1 : (l.at_ == 0) with
        | false =>
          obtain rfl : r = false := HNO.out (by simp at h1; rw [linkOk_eq, hnm]; simp [linkAt, hask, h1])
          go_wp2
          go_ret
          exact ⟨rfl, G2.out⟩
        | true =>
          have HN : Hid (linksOk f p x (k + 1) = true) := HS.out.trans (by simp at h1; rw [linkOk_eq, hnm]; simp [linkAt, hask, h1])
          go_wp2_with fail
          go_quiet (fail)
          have C3 := hide (below_drewN C2.out nq)
          go_wp2
          exact ⟨⟨k + 1, by omega, by go_num, HN.out, C3.out⟩, by simp [intOf]; omega⟩
      | true =>
        rw [hask] at f1
        cases hhas : l.has with
        | true =>
          rw [hhas] at f2
          obtain rfl : r = false := HNO.out (by rw [linkOk_eq, hnm]; simp [linkAt, hask, hhas])
          go_wp2_with fail
          go_quiet (fail)
          have G3 := hide (below_drewN G2.out nq)
          go_wp2
          go_ret
          exact ⟨rfl, G3.out⟩
        | false =>
          rw [hhas] at f2
          by_cases g4 : 0 ≤ l.at_
          · by_cases g5 : l.at_ < (p : Int)
            · obtain ⟨q, hq⟩ : ∃ q : Nat, l.at_ = (q : Int) := ⟨l.at_.toNat, by omega⟩
              rw [hq] at f3 g5
              have hqn : q < n := by omega
              have d0 := (FR.out.2 q hqn).1
              have h5 : decide ((p : Int) ≤ (q : Int)) = false := by simp; omega
              have h5n : decide (p ≤ q) = false := by simp; omega
              have h6 : decide ((q : Int) < 0) = false := by simp
              have hq0 : (0 : Int) ≤ q := by omega
              have hqn' : (q : Int) < n := by omega
              have HLA : Hid (linkAt f p l = ((f q).name.toList == l.name.toList)) := by show linkAt f p l = _; simp [linkAt, hask, hhas, hq, g5]
              cases hr : ((f q).name.toList == l.name.toList) with
              | true =>
                have HN : Hid (linksOk f p x (k + 1) = true) := HS.out.trans (by rw [linkOk_eq, hnm, HLA.out, hr]; rfl)
                go_wp2_with fail
                go_quiet (fail)
                have C3 := hide (below_drewN C2.out nq)
                go_wp2
                exact ⟨⟨k + 1, by omega, by go_num, HN.out, C3.out⟩, by simp [intOf]; omega⟩
              | false =>
                obtain rfl : r = false := HNO.out (by rw [linkOk_eq, hnm, HLA.out, hr]; rfl)
                go_wp2_with fail
                go_quiet (fail)
                have G3 := hide (below_drewN G2.out nq)
                go_wp2
                go_ret
                exact ⟨rfl, G3.out⟩
            · obtain rfl : r = false := HNO.out (by rw [linkOk_eq, hnm]; simp [linkAt, hask, g5])
              have h5 : (p : Int) ≤ l.at_ := by omega
              have h6 : decide (l.at_ < 0) = false := by simpa using g4
              go_wp2_with fail
              go_quiet (fail)
              have G3 := hide (below_drewN G2.out nq)
              go_wp2
              go_ret
              exact ⟨rfl, G3.out⟩
          · obtain rfl : r = false := HNO.out (by rw [linkOk_eq, hnm]; simp [linkAt, hask, g4])
            have h6 : l.at_ < 0 := by omega
            go_wp2_with fail
            go_quiet (fail)
            have G3 := hide (below_drewN G2.out nq)
            go_wp2
            go_ret
            exact ⟨rfl, G3.out⟩
    · have e : x.linksN = k := by omega
      obtain rfl : r = true := by rw [HR3.out, e]; exact HK.out
      have h5 : ((k : Int) < (x.linksN : Int)) = False := by simp; omega
      go_wp2
      go_ret
      exact ⟨rfl, G0.out⟩

set_option maxRecDepth 100000 in
set_option maxHeartbeats 4000000 in
theorem l3DeedOk_any (b off n cap p : Nat) (f : Nat → Deed) (w : World) (hp : p < n) (hf : RowDeed w b off n f) (hfit : (f p).actN ≤ 1048576) (hsz : ∀ j, j < (f p).actN → ((f p).act j).s.size ≤ maxLen) :
    Calls Tryz.prog 73 #[.agg #[.slice (some ⟨b, off, none⟩) n cap], .int .i64 (p : Int)] w fun e w' => e = .returned (.bool (deedOk f p)) ∧ Below w.heap.size w w' := by
  have HTG := hide (fun w' (hb : Below w.heap.size w w') => l3TargetOk_any b off n cap p f w' hp (hf.below hb (Nat.le_refl _)) hfit hsz)
  obtain ⟨r, hr⟩ : ∃ r, r = deedOk f p := ⟨_, rfl⟩
  rw [← hr]
  have HR := hide hr
  clear hr
  have hb := hf.1
  obtain ⟨p0, p1, p2, p3, ⟨a0, cap0, p4, q4⟩, ⟨a1, cap1, p5, q5⟩⟩ := hf.2 p hp
  obtain ⟨x, hx⟩ : ∃ x, x = f p := ⟨_, rfl⟩
  rw [← hx] at p0 p1 p2 p3 p4 p5 q4 q5 hfit hsz HTG
  have HX := hide hx
  clear hx q4 q5 hf hsz hfit
  have A0 := hide (((Below.refl w.heap.size w).alloc (Nat.le_refl _) (.cells #[.slice (some ⟨b, off, none⟩) n cap] 30)).alloc (by simp) (.cells #[.string x.name, .int .i64 x.kind, .int .i64 x.code, .string x.text, .slice a0 x.actN cap0, .slice a1 x.linksN cap1] 54))
  have S0 := hide (sixB_new (w.alloc (.cells #[.slice (some ⟨b, off, none⟩) n cap] 30)) (.string x.name) (.int .i64 x.kind) (.int .i64 x.code) (.string x.text) (.slice a0 x.actN cap0) (.slice a1 x.linksN cap1) 54)
  have hz : (w.alloc (.cells #[.slice (some ⟨b, off, none⟩) n cap] 30)).heap.size = w.heap.size + 1 := by simp
  rw [hz] at S0
  have K0 : Hid (((w.alloc (.cells #[.slice (some ⟨b, off, none⟩) n cap] 30)).alloc (.cells #[.string x.name, .int .i64 x.kind, .int .i64 x.code, .string x.text, .slice a0 x.actN cap0, .slice a1 x.linksN cap1] 54)).cell? ⟨w.heap.size, 0, none⟩ = some (.slice (some ⟨b, off, none⟩) n cap)) := by
    show World.cell? _ _ = _
    simp
  clear hz
  go_enter Tryz.func73, Tryz.ntmps73
  go_wp2_with fail
  generalize (w.alloc (.cells #[.slice (some ⟨b, off, none⟩) n cap] 30)).alloc (.cells #[.string x.name, .int .i64 x.kind, .int .i64 x.code, .string x.text, .slice a0 x.actN cap0, .slice a1 x.linksN cap1] 54) = W at A0 S0 K0 ⊢
  clear p0 p1 p2 p3 p4 p5
  refine (l1NameOk_any x.name _).mono ?_
  rintro e w1 ⟨he, hB⟩
  have B1 := hide (A0.out.trans (hB.mono A0.out.size))
  have S1 := hide (S0.out.below hB)
  have K1 := hide ((hB.cell (p := ⟨w.heap.size, 0, none⟩) (Nat.lt_of_succ_lt S0.out.lt)).trans K0.out)
  clear hB A0 S0 K0
  cases hnm : nameOk x.name with
  | false =>
    rw [hnm] at he
    subst he
    obtain rfl : r = false := by rw [HR.out]; unfold deedOk; rw [← HX.out, hnm]; rfl
    go_wp2
    go_ret
    exact ⟨rfl, B1.out⟩
  | true =>
  rw [hnm] at he
  subst he
  have HK : Hid (r = (decide (x.text.size ≤ 2000) && kindOk f p x)) := by
    show r = _
    rw [HR.out]; unfold deedOk; rw [← HX.out, hnm]; rfl
  clear HR
  have c0 := S1.out.c0
  have c1 := S1.out.c1
  have c2 := S1.out.c2
  have c3 := S1.out.c3
  have c4 := S1.out.c4
  have c5 := S1.out.c5
  cases h1 : (x.kind == 1) with
  | true =>
    have hk : x.kind = 1 := by simpa using h1
    have HK1 : Hid ((decide (x.text.size ≤ 2000) && unmadeOk x) = r) := (HK.out.trans (by unfold kindOk; rw [if_pos hk])).symm
    clear hk
    go_wp2_with fail
    refine (sourceOk_any x a0 cap0 a1 cap1 _).mono ?_
    rintro e w2 ⟨rfl, hB⟩
    have B2 := hide (B1.out.trans (hB.mono B1.out.size))
    clear hB
    go_wp2
    go_ret
    exact ⟨ret_of HK1.out, B2.out⟩
  | false =>
  cases h2 : (x.kind == 2) with
  | true =>
    have hk : x.kind = 2 := by simpa using h2
    have HK1 : Hid (r = (unmadeOk x && decide (x.text.size = 0))) := HK.out.trans (by
      unfold kindOk
      rw [if_neg (by omega), if_pos hk]
      by_cases h : x.text.size = 0
      · simp [h]
      · simp [h])
    clear hk HK
    cases g1 : (x.code == 0) with
    | false =>
      obtain rfl : r = false := by rw [HK1.out]; simp at g1; simp [unmadeOk, g1]
      go_wp2
      go_ret
      exact ⟨rfl, B1.out⟩
    | true =>
    cases g2 : x.text.toList.isEmpty with
    | false =>
      obtain rfl : r = false := by rw [HK1.out, ← empty_size, g2]; simp
      go_wp2
      go_ret
      exact ⟨rfl, B1.out⟩
    | true =>
    cases g3 : ((x.actN : Int) == 0) with
    | false =>
      obtain rfl : r = false := by rw [HK1.out]; simp at g3; simp [unmadeOk]; omega
      go_wp2
      go_ret
      exact ⟨rfl, B1.out⟩
    | true =>
    cases g4 : ((x.linksN : Int) == 0) with
    | false =>
      obtain rfl : r = false := by rw [HK1.out]; simp at g4; simp [unmadeOk]; omega
      go_wp2
      go_ret
      exact ⟨rfl, B1.out⟩
    | true =>
      obtain rfl : r = true := by rw [HK1.out, ← empty_size, g2]; simp at g1 g3 g4; simp [unmadeOk, g1, g3, g4]
      go_wp2
      go_ret
      exact ⟨rfl, B1.out⟩
  | false =>
  cases h3 : (x.kind == 3) with
  | false =>
    obtain rfl : r = false := by rw [HK.out]; unfold kindOk; simp at h1 h2 h3; rw [if_neg h1, if_neg h2, if_neg h3]; simp
    go_wp2
    go_ret
    exact ⟨rfl, B1.out⟩
  | true =>
    have HK1 : Hid ((decide (x.text.size ≤ 2000) && targetOk f p x) = r) := (HK.out.trans (by unfold kindOk; simp at h1 h2 h3; rw [if_neg h1, if_neg h2, if_pos h3])).symm
    have k1 := K1.out
    have HTX := hide (HTG.out w1 B1.out)
    rw [HK1.out] at HTX
    clear HTG HK
    go_wp2_with fail
    refine HTX.out.mono ?_
    rintro e w2 ⟨rfl, hB⟩
    have B2 := hide (B1.out.trans (hB.mono B1.out.size))
    clear hB
    go_wp2
    go_ret
    exact ⟨rfl, B2.out⟩

end Go.Proofs.YtfhdecheaeoopaaGreatDoor.Vp
