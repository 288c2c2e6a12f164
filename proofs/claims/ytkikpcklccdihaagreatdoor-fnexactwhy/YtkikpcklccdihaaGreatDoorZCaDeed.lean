/-
  impl: rightDeed, wrongDeed.
-/
import Derived.Test.YtkikpcklccdihaaGreatDoorZCaRight
namespace Go.Proofs.YtkikpcklccdihaaGreatDoor.Vp
open Go.RowKit

structure SixB (w : World) (b : Nat) (v0 v1 v2 v3 v4 v5 : Value) : Prop where
  lt : b < w.heap.size
  c0 : w.cell? ⟨b, 0, none⟩ = some v0
  c1 : w.cell? ⟨b, 1, none⟩ = some v1
  c2 : w.cell? ⟨b, 2, none⟩ = some v2
  c3 : w.cell? ⟨b, 3, none⟩ = some v3
  c4 : w.cell? ⟨b, 4, none⟩ = some v4
  c5 : w.cell? ⟨b, 5, none⟩ = some v5
theorem SixB.below {w w' : World} {b : Nat} {v0 v1 v2 v3 v4 v5 : Value} (h : SixB w b v0 v1 v2 v3 v4 v5) (hb : Below w.heap.size w w') : SixB w' b v0 v1 v2 v3 v4 v5 :=
  ⟨Nat.lt_of_lt_of_le h.lt hb.size, (hb.cell (p := ⟨b, 0, none⟩) h.lt).trans h.c0, (hb.cell (p := ⟨b, 1, none⟩) h.lt).trans h.c1, (hb.cell (p := ⟨b, 2, none⟩) h.lt).trans h.c2, (hb.cell (p := ⟨b, 3, none⟩) h.lt).trans h.c3, (hb.cell (p := ⟨b, 4, none⟩) h.lt).trans h.c4, (hb.cell (p := ⟨b, 5, none⟩) h.lt).trans h.c5⟩
theorem sixB_new (w : World) (v0 v1 v2 v3 v4 v5 : Value) (t : TypeId) : SixB (w.alloc (.cells #[v0, v1, v2, v3, v4, v5] t)) w.heap.size v0 v1 v2 v3 v4 v5 := ⟨by simp, by simp, by simp, by simp, by simp, by simp, by simp⟩
theorem empty_size (t : ByteArray) : t.toList.isEmpty = decide (t.size = 0) := by
  rw [ByteArray.toList_eq]
  obtain ⟨⟨l⟩⟩ := t
  cases l <;> simp [ByteArray.size]
theorem ret_of {a b : Bool} (h : a = b) : Ending.returned (.bool a) = Ending.returned (.bool b) := by rw [h]

set_option maxRecDepth 100000 in
set_option maxHeartbeats 4000000 in
theorem rightDeed_any (b off n cap p : Nat) (f : Nat → Deed) (w : World) (hp : p < n) (hf : RowDeed w b off n f) (hcap : (p : Int) ≤ cap) (hfit : (f p).actN ≤ 1048576) (hT : Tab w) :
    Calls Tryz.prog 68 #[.agg #[.slice (some ⟨b, off, none⟩) n cap], .int .i64 (p : Int)] w fun e w' => e = .returned (.bool (deedOk f p)) ∧ Below w.heap.size w w' := by
  have HF := hide hf
  have HT := hide hT
  have hb := hf.1
  obtain ⟨p0, p1, p2, p3, ⟨a0, cap0, p4, q4⟩, ⟨a1, cap1, p5, q5⟩⟩ := hf.2 p hp
  obtain ⟨r, hr⟩ : ∃ r, r = deedOk f p := ⟨_, rfl⟩
  rw [← hr]
  have HR := hide hr
  obtain ⟨x, hx⟩ : ∃ x, x = f p := ⟨_, rfl⟩
  rw [← hx] at p0 p1 p2 p3 p4 p5 q4 hfit
  have HX := hide hx
  have Q4 := hide q4
  clear hr hx q4 q5 hf hT
  have A0 := hide (((Below.refl w.heap.size w).alloc (Nat.le_refl _) (.cells #[.slice (some ⟨b, off, none⟩) n cap] 30)).alloc (by simp) (.cells #[.string x.name, .int .i64 x.kind, .int .i64 x.code, .string x.text, .slice a0 x.actN cap0, .slice a1 x.linksN cap1] 76))
  have S0 := hide (sixB_new (w.alloc (.cells #[.slice (some ⟨b, off, none⟩) n cap] 30)) (.string x.name) (.int .i64 x.kind) (.int .i64 x.code) (.string x.text) (.slice a0 x.actN cap0) (.slice a1 x.linksN cap1) 76)
  have hz : (w.alloc (.cells #[.slice (some ⟨b, off, none⟩) n cap] 30)).heap.size = w.heap.size + 1 := by simp
  rw [hz] at S0
  have K0 : Hid (((w.alloc (.cells #[.slice (some ⟨b, off, none⟩) n cap] 30)).alloc (.cells #[.string x.name, .int .i64 x.kind, .int .i64 x.code, .string x.text, .slice a0 x.actN cap0, .slice a1 x.linksN cap1] 76)).cell? ⟨w.heap.size, 0, none⟩ = some (.slice (some ⟨b, off, none⟩) n cap)) := by
    show World.cell? _ _ = _
    simp
  clear hz
  go_enter Tryz.func68, Tryz.ntmps68
  go_wp2_with fail
  generalize (w.alloc (.cells #[.slice (some ⟨b, off, none⟩) n cap] 30)).alloc (.cells #[.string x.name, .int .i64 x.kind, .int .i64 x.code, .string x.text, .slice a0 x.actN cap0, .slice a1 x.linksN cap1] 76) = W at A0 S0 K0 ⊢
  clear p0 p1 p2 p3 p4 p5
  cases hnm : nameOk x.name with
  | false =>
    refine (isName_any x.name _).mono ?_
    rintro e w1 ⟨he, hB⟩
    rw [hnm] at he
    subst he
    have B1 := hide (A0.out.trans (hB.mono A0.out.size))
    obtain rfl : r = false := by rw [HR.out]; unfold deedOk; rw [← HX.out, hnm]; rfl
    clear hB
    go_wp2
    go_ret
    exact ⟨rfl, B1.out⟩
  | true =>
  refine (isName_any x.name _).mono ?_
  rintro e w1 ⟨he, hB⟩
  rw [hnm] at he
  subst he
  have B1 := hide (A0.out.trans (hB.mono A0.out.size))
  have S1 := hide (S0.out.below hB)
  have K1 := hide ((hB.cell (p := ⟨w.heap.size, 0, none⟩) (Nat.lt_of_succ_lt S0.out.lt)).trans K0.out)
  have c1 := S1.out.c1
  have c2 := S1.out.c2
  have c3 := S1.out.c3
  clear hB A0 S0 K0
  by_cases hbig : (2000 : Int) < (x.text.size : Int)
  · obtain rfl : r = false := by rw [HR.out]; unfold deedOk; rw [← HX.out, hnm]; simp; omega
    go_wp2
    go_ret
    exact ⟨rfl, B1.out⟩
  have HK : Hid (r = kindOk f p x) := by
    show r = _
    rw [HR.out]; unfold deedOk; rw [← HX.out, hnm, show decide (x.text.size ≤ 2000) = true by simp; omega]; rfl
  clear HR
  cases h1 : (x.kind == 1) with
  | true =>
    have hk : x.kind = 1 := by simpa using h1
    have HK1 : Hid (unmadeOk x = r) := (HK.out.trans (by unfold kindOk; rw [if_pos hk])).symm
    clear hk
    have c0 := S1.out.c0
    have c4 := S1.out.c4
    have c5 := S1.out.c5
    go_wp2_with fail
    refine (unmade_any x a0 cap0 a1 cap1 _).mono ?_
    rintro e w2 ⟨rfl, hB⟩
    have B2 := hide (B1.out.trans (hB.mono B1.out.size))
    clear hB
    go_wp2
    go_ret
    exact ⟨ret_of HK1.out, B2.out⟩
  | false =>
  cases h2 : (x.kind == 2) with
  | true =>
    have hk : x.kind = 2 := by simpa using h2
    have HK1 : Hid (r = (unmadeOk x && decide (x.text.size = 0))) := HK.out.trans (by unfold kindOk; rw [if_neg (by omega), if_pos hk])
    clear hk
    have c0 := S1.out.c0
    have c4 := S1.out.c4
    have c5 := S1.out.c5
    go_wp2_with fail
    refine (unmade_any x a0 cap0 a1 cap1 _).mono ?_
    rintro e w2 ⟨he, hB⟩
    have B2 := hide (B1.out.trans (hB.mono B1.out.size))
    have d3 := (S1.out.below hB).c3
    clear hB
    cases hu : unmadeOk x with
    | false =>
      rw [hu] at he
      subst he
      obtain rfl : r = false := by rw [HK1.out, hu]; rfl
      go_wp2
      go_ret
      exact ⟨rfl, B2.out⟩
    | true =>
      rw [hu] at he
      subst he
      have HK2 : Hid (decide (x.text.size = 0) = r) := by show _ = r; rw [HK1.out, hu]; rfl
      go_wp2
      go_ret
      exact ⟨ret_bool (by rw [empty_size]; exact HK2.out), B2.out⟩
  | false =>
  cases h3 : (x.kind == 3) with
  | false =>
    obtain rfl : r = false := by rw [HK.out]; unfold kindOk; simp at h1 h2 h3; rw [if_neg h1, if_neg h2, if_neg h3]
    go_wp2
    go_ret
    exact ⟨rfl, B1.out⟩
  | true =>
  have HK1 : Hid (r = targetOk f p x) := HK.out.trans (by unfold kindOk; simp at h1 h2 h3; rw [if_neg h1, if_neg h2, if_pos h3])
  by_cases g1 : 0 ≤ x.code
  · by_cases g2 : x.code ≤ 5
    · have c4 := S1.out.c4
      go_wp2_with fail
      refine (implValid_sl a0 x.actN cap0 x.act _ hfit (Q4.out.below B1.out (Nat.le_refl _)) (HT.out.below B1.out HT.out.1)).mono ?_
      rintro e w2 ⟨he, hB⟩
      have B2 := hide (B1.out.trans (hB.mono B1.out.size))
      have K2 := (hB.cell (p := ⟨w.heap.size, 0, none⟩) (Nat.lt_of_succ_lt S1.out.lt)).trans K1.out
      clear hB
      cases hv : valid x.act x.actN with
      | false =>
        rw [hv] at he
        subst he
        obtain rfl : r = false := by rw [HK1.out]; simp [targetOk, hv]
        go_wp2
        go_ret
        exact ⟨rfl, B2.out⟩
      | true =>
        rw [hv] at he
        subst he
        have HK2 : Hid ((decide (x.linksN ≤ 200) && linksOk f p x x.linksN) = r) := by show _ = r; rw [HK1.out]; simp [targetOk, hv, g1, g2]
        have HRL := hide (rightLinks_any b off n cap p f w2 hp (HF.out.below B2.out (Nat.le_refl _)) hcap)
        rw [← HX.out] at HRL
        rw [HK2.out] at HRL
        go_wp2_with fail
        refine HRL.out.mono ?_
        rintro e w3 ⟨rfl, hB⟩
        have B3 := hide (B2.out.trans (hB.mono B2.out.size))
        clear hB
        go_wp2
        go_ret
        exact ⟨rfl, B3.out⟩
    · obtain rfl : r = false := by rw [HK1.out]; simp [targetOk, g2]
      go_wp2
      go_ret
      exact ⟨rfl, B1.out⟩
  · obtain rfl : r = false := by rw [HK1.out]; simp [targetOk, g1]
    go_wp2
    go_ret
    exact ⟨rfl, B1.out⟩

set_option maxRecDepth 100000 in
set_option maxHeartbeats 4000000 in
theorem wrongDeed_any (b off n cap : Nat) (f : Nat → Deed) (w : World) (hn : (n : Int) ≤ 400) (hf : RowDeed w b off n f) (hcap : (n : Int) ≤ cap) (hfit : ∀ i, i < n → FitsDeed (f i)) (hT : Tab w) :
    Calls Tryz.prog 49 #[.agg #[.slice (some ⟨b, off, none⟩) n cap]] w fun e w' => e = .returned (.int .i64 (firstNo (deedOk f) n)) ∧ Below w.heap.size w w' := by
  have HF := hide hf
  have HT := hide hT
  have HM := hide hfit
  clear hf hT hfit
  have A0 := hide ((Below.refl w.heap.size w).alloc (Nat.le_refl _) (.cells #[.slice (some ⟨b, off, none⟩) n cap] 30))
  have k0 : (w.alloc (.cells #[.slice (some ⟨b, off, none⟩) n cap] 30)).cell? ⟨w.heap.size, 0, none⟩ = some (.slice (some ⟨b, off, none⟩) n cap) := by simp
  have hw0 : w.heap.size < (w.alloc (.cells #[.slice (some ⟨b, off, none⟩) n cap] 30)).heap.size := by simp
  obtain ⟨r, hr⟩ : ∃ r, r = firstNo (deedOk f) n := ⟨_, rfl⟩
  rw [← hr]
  have HR := hide hr
  clear hr
  go_enter Tryz.func49, Tryz.ntmps49
  go_wp2
  generalize w.alloc (.cells #[.slice (some ⟨b, off, none⟩) n cap] 30) = W at A0 k0 hw0 ⊢
  go_loopw [7] (fun i wr => ∃ k : Nat, k ≤ n ∧ i = .int .i64 k ∧ Hid (∀ j, j < k → deedOk f j = true) ∧ Hid (Below W.heap.size W wr)) (fun i _ => n - (intOf i).toNat)
  case atStart => exact ⟨0, by omega, rfl, fun j hj => absurd hj (Nat.not_lt_zero _), Below.refl _ _⟩
  case round =>
    obtain ⟨k, hk, rfl, HK, HB⟩ := hrel
    have k1 := (HB.out.cell (p := ⟨w.heap.size, 0, none⟩) hw0).trans k0
    have G0 := hide (A0.out.trans (HB.out.mono A0.out.size))
    by_cases hlt : k < n
    · go_wp2_with fail
      refine (rightDeed_any b off n cap k f _ hlt (HF.out.below G0.out (Nat.le_refl _)) (by omega) (HM.out k hlt).1 (HT.out.below G0.out HT.out.1)).mono ?_
      rintro e w2 ⟨he, hB⟩
      have G1 := hide (G0.out.trans (hB.mono G0.out.size))
      have H1 := hide (HB.out.trans (hB.mono HB.out.size))
      clear hB
      cases hd : deedOk f k with
      | true =>
        rw [hd] at he
        subst he
        have HD := hide hd
        clear hd
        go_wp2
        exact ⟨⟨k + 1, by omega, by go_num, fun j hj => by
          by_cases e : j = k
          · subst e; exact HD.out
          · exact HK.out j (by omega), H1.out⟩, by simp [intOf]; omega⟩
      | false =>
        rw [hd] at he
        subst he
        obtain rfl : r = k := by rw [HR.out]; exact firstNo_at hlt hd HK.out
        clear hd
        go_wp2
        go_ret
        exact ⟨rfl, G1.out⟩
    · have e : n = k := by omega
      subst e
      obtain rfl : r = -1 := by rw [HR.out]; exact firstNo_all HK.out
      go_wp2
      go_ret
      exact ⟨rfl, G0.out⟩

end Go.Proofs.YtkikpcklccdihaaGreatDoor.Vp
