/-
  impl: rightDeed, wrongDeed.
-/
import Derived.Test.YtolpgafkojlkoabDoorCaRight
namespace Go.Proofs.YtolpgafkojlkoabDoor.Vp
open Go.RowKit

structure SixB (w : World) (b : Nat) (v0 v1 v2 v3 v4 v5 : Value) : Prop where
  lt : b < w.heap.size
  c0 : w.cell? ⟨b, 0, none⟩ = some v0
  c1 : w.cell? ⟨b, 1, none⟩ = some v1
  c2 : w.cell? ⟨b, 2, none⟩ = some v2
  c3 : w.cell? ⟨b, 3, none⟩ = some v3
  c4 : w.cell? ⟨b, 4, none⟩ = some v4
  c5 : w.cell? ⟨b, 5, none⟩ = some v5
theorem SixB.below {w w' : World} {b : Nat} {v0 v1 v2 v3 v4 v5 : Value} (h : SixB w b v0 v1 v2 v3 v4 v5) (hb : Below w.heap.size w w') : SixB w' b v0 v1 v2 v3 v4 v5 :=
  ⟨Nat.lt_of_lt_of_le h.lt hb.size, (hb.cell (p := ⟨b, 0, none⟩) h.lt).trans h.c0, (hb.cell (p := ⟨b, 1, none⟩) h.lt).trans h.c1, (hb.cell (p := ⟨b, 2, none⟩) h.lt).trans h.c2, (hb.cell (p := ⟨b, 3, none⟩) h.lt).trans h.c3, (hb.cell (p := ⟨b, 4, none⟩) h.lt).trans h.c4, (hb.cell (p := ⟨b, 5, none⟩) h.lt).trans h.c5⟩
theorem sixB_new (w : World) (v0 v1 v2 v3 v4 v5 : Value) (t : TypeId) : SixB (w.alloc (.cells #[v0, v1, v2, v3, v4, v5] t)) w.heap.size v0 v1 v2 v3 v4 v5 := ⟨by simp, by simp, by simp, by simp, by simp, by simp, by simp⟩
theorem empty_size (t : ByteArray) : t.toList.isEmpty = decide (t.size = 0) := by
  rw [ByteArray.toList_eq]
  obtain ⟨⟨l⟩⟩ := t
  cases l <;> simp [ByteArray.size]
theorem ret_of {a b : Bool} (h : a = b) : Ending.returned (.bool a) = Ending.returned (.bool b) := by rw [h]

set_option maxRecDepth 100000 in
set_option maxHeartbeats 4000000 in
theorem rightDeed_any (b off n cap p : Nat) (f : Nat → Deed) (w : World) (hp : p < n) (hf : RowDeed w b off n f) (hcap : (p : Int) ≤ cap) (hfit : (f p).actN ≤ 1048576) (hT : Tab w) :
    Calls Tryd.prog 24 #[.agg #[.slice (some ⟨b, off, none⟩) n cap], .int .i64 (p : Int)] w fun e w' => e = .returned (.bool (deedOk f p)) ∧ Below w.heap.size w w' := by
  have HF := hide hf
  have HT := hide hT
  have hb := hf.1
  obtain ⟨p0, p1, p2, p3, ⟨a0, cap0, p4, q4⟩, ⟨a1, cap1, p5, q5⟩⟩ := hf.2 p hp
  obtain ⟨r, hr⟩ : ∃ r, r = deedOk f p := ⟨_, rfl⟩
  rw [← hr]
  have HR := hide hr
  obtain ⟨x, hx⟩ : ∃ x, x = f p := ⟨_, rfl⟩
  rw [← hx] at p0 p1 p2 p3 p4 p5 q4 hfit
  have HX := hide hx
  have Q4 := hide q4
  clear hr hx q4 q5 hf hT
  obtain ⟨W, hwW⟩ : ∃ W : World, (w.alloc (.cells #[.slice (some ⟨b, off, none⟩) n cap] 30)).alloc (.cells #[.string x.name, .int .i64 x.kind, .int .i64 x.code, .string x.text, .slice a0 x.actN cap0, .slice a1 x.linksN cap1] 41) = W := ⟨_, rfl⟩
  obtain ⟨A0, -, -, -⟩ := nb2 hwW
  have HWW := hide hwW
  clear hwW
  have S0 := hide (sixB_new (w.alloc (.cells #[.slice (some ⟨b, off, none⟩) n cap] 30)) (.string x.name) (.int .i64 x.kind) (.int .i64 x.code) (.string x.text) (.slice a0 x.actN cap0) (.slice a1 x.linksN cap1) 41)
  have hz : (w.alloc (.cells #[.slice (some ⟨b, off, none⟩) n cap] 30)).heap.size = w.heap.size + 1 := by simp
  rw [hz] at S0
  have K0 : Hid (W.cell? ⟨w.heap.size, 0, none⟩ = some (.slice (some ⟨b, off, none⟩) n cap)) := by
    rw [← HWW.out]
    show World.cell? _ _ = _
    simp
  clear hz
  go_enter Tryd.func24, Tryd.ntmps24
  go_wp2_with fail
  rw [HWW.out] at S0 ⊢
  clear HWW
  clear p0 p1 p2 p3 p4 p5
  cases hnm : nameOk x.name with
  | false =>
    refine (isName_any x.name _).mono ?_
    rintro e w1 ⟨he, hB⟩
    rw [hnm] at he
    subst he
    have B1 := hide (A0.trans (hB.mono A0.size))
    obtain rfl : r = false := by rw [HR.out]; unfold deedOk; rw [← HX.out, hnm]; rfl
    clear hB
    go_wp2
    go_ret
    exact ⟨rfl, B1⟩
  | true =>
  refine (isName_any x.name _).mono ?_
  rintro e w1 ⟨he, hB⟩
  rw [hnm] at he
  subst he
  have B1 := hide (A0.trans (hB.mono A0.size))
  have S1 := hide (S0.below hB)
  have K1 := hide ((hB.cell (p := ⟨w.heap.size, 0, none⟩) (Nat.lt_of_succ_lt S0.lt)).trans K0)
  have c1 := S1.c1
  have c2 := S1.c2
  have c3 := S1.c3
  clear hB A0 S0 K0
  by_cases hbig : (2000 : Int) < (x.text.size : Int)
  · obtain rfl : r = false := by rw [HR.out]; unfold deedOk; rw [← HX.out, hnm]; simp; omega
    go_wp2
    go_ret
    exact ⟨rfl, B1⟩
  have HK : Hid (r = kindOk f p x) := by
    show r = _
    rw [HR.out]; unfold deedOk; rw [← HX.out, hnm, show decide (x.text.size ≤ 2000) = true by simp; omega]; rfl
  clear HR
  cases h1 : (x.kind == 1) with
  | true =>
    have hk : x.kind = 1 := by simpa using h1
    have HK1 : Hid (unmadeOk x = r) := (HK.trans (by unfold kindOk; rw [if_pos hk])).symm
    clear hk
    have c0 := S1.c0
    have c4 := S1.c4
    have c5 := S1.c5
    go_wp2_with fail
    refine (unmade_any x a0 cap0 a1 cap1 _).mono ?_
    rintro e w2 ⟨rfl, hB⟩
    have B2 := hide (B1.trans (hB.mono B1.size))
    clear hB
    go_wp2
    go_ret
    exact ⟨ret_of HK1, B2⟩
  | false =>
  cases h2 : (x.kind == 2) with
  | true =>
    have hk : x.kind = 2 := by simpa using h2
    have HK1 : Hid (r = (unmadeOk x && decide (x.text.size = 0))) := HK.trans (by unfold kindOk; rw [if_neg (by omega), if_pos hk])
    clear hk
    have c0 := S1.c0
    have c4 := S1.c4
    have c5 := S1.c5
    go_wp2_with fail
    refine (unmade_any x a0 cap0 a1 cap1 _).mono ?_
    rintro e w2 ⟨he, hB⟩
    have B2 := hide (B1.trans (hB.mono B1.size))
    have d3 := (S1.below hB).c3
    clear hB
    cases hu : unmadeOk x with
    | false =>
      rw [hu] at he
      subst he
      obtain rfl : r = false := by rw [HK1.out, hu]; rfl
      go_wp2
      go_ret
      exact ⟨rfl, B2⟩
    | true =>
      rw [hu] at he
      subst he
      have HK2 : Hid (decide (x.text.size = 0) = r) := by show _ = r; rw [HK1.out, hu]; rfl
      go_wp2
      go_ret
      exact ⟨ret_bool (by rw [empty_size]; exact HK2), B2⟩
  | false =>
  cases h3 : (x.kind == 3) with
  | false =>
    obtain rfl : r = false := by rw [HK.out]; unfold kindOk; simp at h1 h2 h3; rw [if_neg h1, if_neg h2, if_neg h3]
    go_wp2
    go_ret
    exact ⟨rfl, B1⟩
  | true =>
  have HK1 : Hid (r = targetOk f p x) := HK.trans (by unfold kindOk; simp at h1 h2 h3; rw [if_neg h1, if_neg h2, if_pos h3])
  by_cases g1 : 0 ≤ x.code
  · by_cases g2 : x.code ≤ 5
    · have c4 := S1.c4
      go_wp2_with fail
      refine (implValid_sl a0 x.actN cap0 x.act _ hfit (Q4.below B1 (Nat.le_refl _)) (HT.below B1 HT.1)).mono ?_
      rintro e w2 ⟨he, hB⟩
      have B2 := hide (B1.trans (hB.mono B1.size))
      have K2 := (hB.cell (p := ⟨w.heap.size, 0, none⟩) (Nat.lt_of_succ_lt S1.lt)).trans K1
      clear hB
      cases hv : valid x.act x.actN with
      | false =>
        rw [hv] at he
        subst he
        obtain rfl : r = false := by rw [HK1.out]; simp [targetOk, hv]
        go_wp2
        go_ret
        exact ⟨rfl, B2⟩
      | true =>
        rw [hv] at he
        subst he
        have HK2 : Hid ((decide (x.linksN ≤ 200) && linksOk f p x x.linksN) = r) := by show _ = r; rw [HK1.out]; simp [targetOk, hv, g1, g2]
        have HRL := hide (rightLinks_any b off n cap p f w2 hp (HF.below B2 (Nat.le_refl _)) hcap)
        rw [← HX.out] at HRL
        rw [HK2.out] at HRL
        go_wp2_with fail
        refine HRL.mono ?_
        rintro e w3 ⟨rfl, hB⟩
        have B3 := hide (B2.trans (hB.mono B2.size))
        clear hB
        go_wp2
        go_ret
        exact ⟨rfl, B3⟩
    · obtain rfl : r = false := by rw [HK1.out]; simp [targetOk, g2]
      go_wp2
      go_ret
      exact ⟨rfl, B1⟩
  · obtain rfl : r = false := by rw [HK1.out]; simp [targetOk, g1]
    go_wp2
    go_ret
    exact ⟨rfl, B1⟩

set_option maxRecDepth 100000 in
set_option maxHeartbeats 4000000 in
theorem wrongDeed_any (b off n cap : Nat) (f : Nat → Deed) (w : World) (hn : (n : Int) ≤ 400) (hf : RowDeed w b off n f) (hcap : (n : Int) ≤ cap) (hfit : ∀ i, i < n → FitsDeed (f i)) (hT : Tab w) :
    Calls Tryd.prog 13 #[.agg #[.slice (some ⟨b, off, none⟩) n cap]] w fun e w' => e = .returned (.int .i64 (firstNo (deedOk f) n)) ∧ Below w.heap.size w w' := by
  have HF := hide hf
  have HT := hide hT
  have HM := hide hfit
  clear hf hT hfit
  obtain ⟨W, hwW⟩ : ∃ W : World, w.alloc (.cells #[.slice (some ⟨b, off, none⟩) n cap] 30) = W := ⟨_, rfl⟩
  obtain ⟨A0, -, -⟩ := nb1 hwW
  have HWW := hide hwW
  clear hwW
  have k0 : W.cell? ⟨w.heap.size, 0, none⟩ = some (.slice (some ⟨b, off, none⟩) n cap) := by rw [← HWW.out]; simp
  have hw0 : w.heap.size < W.heap.size := by rw [← HWW.out]; simp
  obtain ⟨r, hr⟩ : ∃ r, r = firstNo (deedOk f) n := ⟨_, rfl⟩
  rw [← hr]
  have HR := hide hr
  clear hr
  go_enter Tryd.func13, Tryd.ntmps13
  go_wp2
  rw [HWW.out]
  clear HWW
  go_loopw [7] (fun i wr => ∃ k : Nat, k ≤ n ∧ i = .int .i64 k ∧ Hid (∀ j, j < k → deedOk f j = true) ∧ Hid (Below W.heap.size W wr)) (fun i _ => n - (intOf i).toNat)
  case atStart => exact ⟨0, by omega, rfl, fun j hj => absurd hj (Nat.not_lt_zero _), Below.refl _ _⟩
  case round =>
    obtain ⟨k, hk, rfl, HK, HB⟩ := hrel
    have k1 := (HB.cell (p := ⟨w.heap.size, 0, none⟩) hw0).trans k0
    have G0 := hide (A0.trans (HB.mono A0.size))
    by_cases hlt : k < n
    · go_wp2_with fail
      refine (rightDeed_any b off n cap k f _ hlt (HF.below G0 (Nat.le_refl _)) (by omega) (HM k hlt).1 (HT.below G0 HT.1)).mono ?_
      rintro e w2 ⟨he, hB⟩
      have G1 := hide (G0.trans (hB.mono G0.size))
      have H1 := hide (HB.trans (hB.mono HB.size))
      clear hB
      cases hd : deedOk f k with
      | true =>
        rw [hd] at he
        subst he
        have HD := hide hd
        clear hd
        go_wp2
        exact ⟨⟨k + 1, by omega, by go_num, fun j hj => by
          by_cases e : j = k
          · subst e; exact HD
          · exact HK j (by omega), H1⟩, by simp [intOf]; omega⟩
      | false =>
        rw [hd] at he
        subst he
        obtain rfl : r = k := by rw [HR.out]; exact firstNo_at hlt hd HK
        clear hd
        go_wp2
        go_ret
        exact ⟨rfl, G1⟩
    · have e : n = k := by omega
      subst e
      obtain rfl : r = -1 := by rw [HR.out]; exact firstNo_all HK
      go_wp2
      go_ret
      exact ⟨rfl, G0⟩

end Go.Proofs.YtolpgafkojlkoabDoor.Vp
