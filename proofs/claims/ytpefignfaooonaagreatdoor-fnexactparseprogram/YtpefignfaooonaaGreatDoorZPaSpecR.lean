/-
  ParseProgram, spec: l1Read.
-/
import Derived.Test.YtpefignfaooonaaGreatDoorZPaSpecB
import Derived.Test.YtpefignfaooonaaGreatDoorZPaSpecU
import Derived.Test.YtpefignfaooonaaGreatDoorZPaCand
import Derived.Test.YtpefignfaooonaaGreatDoorZA
import Derived.Test.YtpefignfaooonaaGreatDoorZPpLine
import Derived.Test.YtpefignfaooonaaGreatDoorZPaCI
namespace Go.Proofs.YtpefignfaooonaaGreatDoor.Vp
open Go.RowKit

def readV (o : Option I3) : Value := match o with
  | some i => .tuple #[.agg #[.int .i64 i.1, .string ⟨i.2.1.toArray⟩, .int .i64 i.2.2], .bool true]
  | none => .tuple #[.agg #[.int .i64 0, .string ⟨#[]⟩, .int .i64 0], .bool false]
theorem word_short (k : Int) : (word k).length ≤ 6 := by
  unfold word
  split <;> decide

set_option maxRecDepth 100000 in
set_option maxHeartbeats 8000000 in
theorem l1Read_any (s : ByteArray) (w : World) (hs : s.size ≤ 16777216) :
    Calls Tryz.prog 17 #[.string s] w fun e w' => e = .returned (readV (readL s.data.toList)) ∧ Below w.heap.size w w' := by
  have HL : Hid (s.data.toList.length = s.size) := by show _ = _; simp
  have C0 := hide (CI.new w (.int .i64 0) (.string ⟨#[]⟩) (.int .i64 0))
  have B0 := hide ((Below.refl w.heap.size w).alloc (Nat.le_refl _) (.cells #[.int .i64 0, .string ⟨#[]⟩, .int .i64 0] 41))
  go_enter Tryz.func17, Tryz.ntmps17
  go_wp2
  go_loopw [4] (fun i wr => ∃ k : Nat, 1 ≤ k ∧ k ≤ 16 ∧ i = .int .i64 k ∧ Hid (∀ j : Int, 1 ≤ j → j < k → ∀ t m, ¬ IsLine s.data.toList j t m) ∧ Hid (CI wr w.heap.size (.int .i64 0) (.string ⟨#[]⟩) (.int .i64 0)) ∧ Hid (Below w.heap.size w wr)) (fun i _ => 16 - (intOf i).toNat)
  case atStart => exact ⟨1, by omega, by omega, rfl, fun j h1 h2 => by omega, C0.out, B0.out⟩
  case round =>
    clear C0 B0
    obtain ⟨k, hk1, hk2, rfl, HNO, HC, HB⟩ := hrel
    have hsz : w.heap.size < wr.heap.size := HC.out.lt
    by_cases hlt : k < 16
    · have i15 : (k : Int) ≤ 15 := by omega
      have WD := fun V => l1Word_any (k : Int) V
      have hcT : Hid (candT k s.data.toList = if kind k = 1 ∧ (⟨(word k).toArray⟩ : ByteArray).size < s.size then loosU (innerL (s.data.toList.drop ((⟨(word k).toArray⟩ : ByteArray).size + 1))) else []) := by show _ = _; unfold candT; rw [HL.out]; rfl
      have hcN : Hid (candN k s.data.toList = if ¬ kind k = 1 ∧ 0 < kind k ∧ (⟨(word k).toArray⟩ : ByteArray).size < s.size then numL 0 ((s.data.toList.drop ((⟨(word k).toArray⟩ : ByteArray).size + 1)).take 6) else 0) := by show _ = _; unfold candN; rw [HL.out]; rfl
      have hw6 : (⟨(word k).toArray⟩ : ByteArray).size ≤ 6 := word_short k
      have hkd := kind_ge k
      generalize (⟨(word (k : Int)).toArray⟩ : ByteArray) = wd at WD hcT hcN hw6
      generalize kind (k : Int) = kd at WD hcT hcN hkd
      have HCY := hide (fun h1 h2 => cand_yes (s := s.data.toList) (k := k) h1 h2)
      have HCN := hide (fun h => cand_no (s := s.data.toList) (k := k) h)
      have htl := candT_len k s.data.toList
      rw [HL.out] at htl
      generalize candT (k : Int) s.data.toList = ct at hcT HCY HCN htl
      generalize candN (k : Int) s.data.toList = cn at hcN HCY HCN
      have CX := hide (CI.new wr (.int .i64 (k : Int)) (.string ⟨#[]⟩) (.int .i64 0))
      have BX := hide (HB.out.alloc (Nat.le_of_lt hsz) (.cells #[.int .i64 (k : Int), .string ⟨#[]⟩, .int .i64 0] 41))
      have hcase : (¬ 0 < kd ∨ (0 < kd ∧ ¬ (wd.size : Int) < s.size)) ∨ (kd = 1 ∧ (wd.size : Int) < s.size) ∨ (0 < kd ∧ (kd == 1) = false ∧ (wd.size : Int) < s.size) := by
        by_cases h1 : 0 < kd
        · by_cases h2 : (wd.size : Int) < s.size
          · by_cases h3 : kd = 1
            · exact .inr (.inl ⟨h3, h2⟩)
            · exact .inr (.inr ⟨h1, by simpa using h3, h2⟩)
          · exact .inl (.inr ⟨h1, h2⟩)
        · exact .inl (.inl h1)
      rcases hcase with hc | ⟨rfl, hc⟩ | ⟨hc1, hc2, hc3⟩
      · have e1 : ct = [] := by rw [hcT.out, if_neg (by omega)]
        have e2 : cn = 0 := by rw [hcN.out, if_neg (by omega)]
        subst e1 e2
        rcases hc with hc | ⟨hc, hd⟩
        all_goals
          go_wp2_with (go_at_call 33; go_fit (WD _); rintro e w' ⟨rfl, hw'⟩; rw [hw']; clear hw')
          have I4 := CX
          have R4 := hide (HC.out.below ((Below.refl wr.heap.size wr).alloc (Nat.le_refl _) (.cells #[.int .i64 (k : Int), .string ⟨#[]⟩, .int .i64 0] 41)) hsz)
          have B4 := BX
          clear CX BX
          generalize wr.alloc (.cells #[.int .i64 (k : Int), .string ⟨#[]⟩, .int .i64 0] 41) = W4 at I4 R4 B4 ⊢
          have hX4 : wr.heap.size < W4.heap.size := I4.out.lt
          have OK : ∀ V, Calls Tryz.prog 31 #[.agg #[.int .i64 (k : Int), .string ⟨([] : List UInt8).toArray⟩, .int .i64 (0 : Int)]] V fun e w' => e = .returned (.bool (insOk (k : Int) ([] : List UInt8).length (0 : Int))) ∧ Below V.heap.size V w' := fun V => l1InsOk_any (k : Int) ⟨([] : List UInt8).toArray⟩ (0 : Int) V (by unfold maxLen; show ([] : List UInt8).length ≤ _; simp)
          have LN : insOk (k : Int) ([] : List UInt8).length (0 : Int) = true → ∀ V, Calls Tryz.prog 36 #[.agg #[.int .i64 (k : Int), .string ⟨([] : List UInt8).toArray⟩, .int .i64 (0 : Int)]] V fun e w' => e = .returned (.string ⟨(lineB (k : Int) ([] : List UInt8) (0 : Int)).toArray⟩) ∧ Below V.heap.size V w' := fun h V => l1Line_any (k : Int) ⟨([] : List UInt8).toArray⟩ (0 : Int) V h
          have HNX : Hid (¬ (insOk (k : Int) ([] : List UInt8).length (0 : Int) = true ∧ lineB (k : Int) ([] : List UInt8) (0 : Int) = s.data.toList) → ∀ j : Int, 1 ≤ j → j < ((k + 1 : Nat) : Int) → ∀ t m, ¬ IsLine s.data.toList j t m) := fun h j h1 h2 t m => by
            by_cases e : j = k
            · rw [e]; exact HCN.out h t m
            · exact HNO.out j h1 (by omega) t m
          clear HCN HNO
          refine (OK _).mono ?_
          rintro e w2 ⟨rfl, hB2⟩
          have B2 := hide (B4.out.trans (hB2.mono (by omega)))
          have R2 := hide (R4.out.below hB2 (by omega))
          have I2 := hide (I4.out.below hB2 hX4)
          have z2 : w.heap.size < w2.heap.size := R2.out.lt
          have z2' : wr.heap.size < w2.heap.size := I2.out.lt
          clear hB2 OK I4 R4 B4
          cases hok : insOk (k : Int) ([] : List UInt8).length (0 : Int) with
          | false =>
            have HX := hide (HNX.out (fun h => by rw [hok] at h; exact absurd h.1 (by simp)))
            clear HNX HCY LN
            go_wp2
            exact ⟨⟨k + 1, by omega, by omega, by go_num, HX.out, R2.out, B2.out⟩, by simp [intOf]; omega⟩
          | true =>
            have LN := LN hok
            have HCY := hide (HCY.out hok)
            have HNX := hide (fun (h : ¬ lineB (k : Int) ([] : List UInt8) (0 : Int) = s.data.toList) => HNX.out (fun h' => h h'.2))
            generalize lineB (k : Int) ([] : List UInt8) (0 : Int) = ln at LN HCY HNX
            have c0 := I2.out.c0
            have c1 := I2.out.c1
            have c2 := I2.out.c2
            go_wp2_with fail
            refine (LN _).mono ?_
            rintro e w3 ⟨rfl, hB3⟩
            clear c0 c1 c2
            have B3 := hide (B2.out.trans (hB3.mono (by omega)))
            have R3 := hide (R2.out.below hB3 z2)
            have I3 := hide (I2.out.below hB3 z2')
            have z3 : w.heap.size < w3.heap.size := R3.out.lt
            clear hB3 LN B2 R2 I2
            cases heq : (ln == s.toList) with
            | false =>
              have HX := hide (HNX.out (fun h => by rw [h, ByteArray.toList_eq] at heq; simp at heq))
              go_wp2
              exact ⟨⟨k + 1, by omega, by omega, by go_num, HX.out, R3.out, B3.out⟩, by simp [intOf]; omega⟩
            | true =>
              have HX := hide (HCY.out (by have := eq_of_beq heq; rw [ByteArray.toList_eq] at this; exact this))
              have c0 := I3.out.c0
              have c1 := I3.out.c1
              have c2 := I3.out.c2
              have d0 := R3.out.c0
              have d1 := R3.out.c1
              have d2 := R3.out.c2
              have f0 := R3.out.fz 0
              have f1 := R3.out.fz 1
              have f2 := R3.out.fz 2
              go_wp2
              try simp only [Exit.inBlock, Exit.then]
              refine bodyPost_ret (res_ins rfl _ _ w.heap.size _ _ _ rfl (R3.out.all _ _ _)) rfl ?_
              exact ⟨by rw [HX.out]; rfl, ((B3.out.setCell (p := ⟨w.heap.size, 0, none⟩) (Nat.le_refl _) _).setCell (p := ⟨w.heap.size, 1, none⟩) (Nat.le_refl _) _).setCell (p := ⟨w.heap.size, 2, none⟩) (Nat.le_refl _) _⟩
      · have e1 : ct = loosU (innerL (s.data.toList.drop (wd.size + 1))) := by rw [hcT.out, if_pos ⟨rfl, by omega⟩]
        have e2 : cn = 0 := by rw [hcN.out, if_neg (fun h => h.1 rfl)]
        subst e2
        have q1 : (0 : Int) ≤ (wd.size : Int) + 1 := by omega
        have q2 : (wd.size : Int) + 1 ≤ s.size := by omega
        have q3 : (s.size : Int) ≤ 9223372036854775807 := by omega
        have UQ : ∀ V, Calls Tryz.prog 34 #[.string (s.extract (wd.size + 1) s.size)] V fun e w' => e = .returned (.string ⟨ct.toArray⟩) ∧ Below V.heap.size V w' := fun V => by
          have h := l1Unquote_any (s.extract (wd.size + 1) s.size) V (by rw [ByteArray.size_extract]; omega)
          rw [show (s.extract (wd.size + 1) s.size).data.toList = s.data.toList.drop (wd.size + 1) by rw [ext_end], ← e1] at h
          exact h
        clear e1
        have RX := hide (HC.out.below ((Below.refl wr.heap.size wr).alloc (Nat.le_refl _) (.cells #[.int .i64 (k : Int), .string ⟨#[]⟩, .int .i64 0] 41)) hsz)
        have zX : wr.heap.size < (wr.alloc (.cells #[.int .i64 (k : Int), .string ⟨#[]⟩, .int .i64 0] 41)).heap.size := CX.out.lt
        go_wp2_with (first
          | (go_at_call 33; go_fit (WD _); rintro e w' ⟨rfl, hw'⟩; rw [hw']; clear hw')
          | (go_at_call 34; go_fit (UQ _); rintro e w1 ⟨rfl, hB1⟩; have I1 := hide (CX.out.below hB1 zX); have R1 := hide (RX.out.below hB1 (by omega)); have B1 := hide (BX.out.trans (hB1.mono (by omega))); have c0 := I1.out.c0; have c1 := I1.out.c1; have c2 := I1.out.c2; have f1 := I1.out.fz 1; clear hB1))
        have I4 := hide (I1.out.set1 (.string ⟨ct.toArray⟩))
        have R4 := hide (R1.out.other ⟨wr.heap.size, 1, none⟩ (by show wr.heap.size ≠ w.heap.size; omega) (.string ⟨ct.toArray⟩))
        have B4 := hide (B1.out.setCell (p := ⟨wr.heap.size, 1, none⟩) (Nat.le_of_lt hsz) (.string ⟨ct.toArray⟩))
        clear c0 c1 c2 f1 I1 R1 B1 CX BX RX UQ
        generalize w1.setCell ⟨wr.heap.size, 1, none⟩ (.string ⟨ct.toArray⟩) = W4 at I4 R4 B4 ⊢
        have hX4 : wr.heap.size < W4.heap.size := I4.out.lt
        have OK : ∀ V, Calls Tryz.prog 31 #[.agg #[.int .i64 (k : Int), .string ⟨ct.toArray⟩, .int .i64 (0 : Int)]] V fun e w' => e = .returned (.bool (insOk (k : Int) ct.length (0 : Int))) ∧ Below V.heap.size V w' := fun V => l1InsOk_any (k : Int) ⟨ct.toArray⟩ (0 : Int) V (by unfold maxLen; show ct.length ≤ _; omega)
        have LN : insOk (k : Int) ct.length (0 : Int) = true → ∀ V, Calls Tryz.prog 36 #[.agg #[.int .i64 (k : Int), .string ⟨ct.toArray⟩, .int .i64 (0 : Int)]] V fun e w' => e = .returned (.string ⟨(lineB (k : Int) ct (0 : Int)).toArray⟩) ∧ Below V.heap.size V w' := fun h V => l1Line_any (k : Int) ⟨ct.toArray⟩ (0 : Int) V h
        have HNX : Hid (¬ (insOk (k : Int) ct.length (0 : Int) = true ∧ lineB (k : Int) ct (0 : Int) = s.data.toList) → ∀ j : Int, 1 ≤ j → j < ((k + 1 : Nat) : Int) → ∀ t m, ¬ IsLine s.data.toList j t m) := fun h j h1 h2 t m => by
          by_cases e : j = k
          · rw [e]; exact HCN.out h t m
          · exact HNO.out j h1 (by omega) t m
        clear HCN HNO
        refine (OK _).mono ?_
        rintro e w2 ⟨rfl, hB2⟩
        have B2 := hide (B4.out.trans (hB2.mono (by omega)))
        have R2 := hide (R4.out.below hB2 (by omega))
        have I2 := hide (I4.out.below hB2 hX4)
        have z2 : w.heap.size < w2.heap.size := R2.out.lt
        have z2' : wr.heap.size < w2.heap.size := I2.out.lt
        clear hB2 OK I4 R4 B4
        cases hok : insOk (k : Int) ct.length (0 : Int) with
        | false =>
          have HX := hide (HNX.out (fun h => by rw [hok] at h; exact absurd h.1 (by simp)))
          clear HNX HCY LN
          go_wp2
          exact ⟨⟨k + 1, by omega, by omega, by go_num, HX.out, R2.out, B2.out⟩, by simp [intOf]; omega⟩
        | true =>
          have LN := LN hok
          have HCY := hide (HCY.out hok)
          have HNX := hide (fun (h : ¬ lineB (k : Int) ct (0 : Int) = s.data.toList) => HNX.out (fun h' => h h'.2))
          generalize lineB (k : Int) ct (0 : Int) = ln at LN HCY HNX
          have c0 := I2.out.c0
          have c1 := I2.out.c1
          have c2 := I2.out.c2
          go_wp2_with fail
          refine (LN _).mono ?_
          rintro e w3 ⟨rfl, hB3⟩
          clear c0 c1 c2
          have B3 := hide (B2.out.trans (hB3.mono (by omega)))
          have R3 := hide (R2.out.below hB3 z2)
          have I3 := hide (I2.out.below hB3 z2')
          have z3 : w.heap.size < w3.heap.size := R3.out.lt
          clear hB3 LN B2 R2 I2
          cases heq : (ln == s.toList) with
          | false =>
            have HX := hide (HNX.out (fun h => by rw [h, ByteArray.toList_eq] at heq; simp at heq))
            go_wp2
            exact ⟨⟨k + 1, by omega, by omega, by go_num, HX.out, R3.out, B3.out⟩, by simp [intOf]; omega⟩
          | true =>
            have HX := hide (HCY.out (by have := eq_of_beq heq; rw [ByteArray.toList_eq] at this; exact this))
            have c0 := I3.out.c0
            have c1 := I3.out.c1
            have c2 := I3.out.c2
            have d0 := R3.out.c0
            have d1 := R3.out.c1
            have d2 := R3.out.c2
            have f0 := R3.out.fz 0
            have f1 := R3.out.fz 1
            have f2 := R3.out.fz 2
            go_wp2
            try simp only [Exit.inBlock, Exit.then]
            refine bodyPost_ret (res_ins rfl _ _ w.heap.size _ _ _ rfl (R3.out.all _ _ _)) rfl ?_
            exact ⟨by rw [HX.out]; rfl, ((B3.out.setCell (p := ⟨w.heap.size, 0, none⟩) (Nat.le_refl _) _).setCell (p := ⟨w.heap.size, 1, none⟩) (Nat.le_refl _) _).setCell (p := ⟨w.heap.size, 2, none⟩) (Nat.le_refl _) _⟩
      · have e1 : ct = [] := by rw [hcT.out, if_neg (fun h => by rw [h.1] at hc2; simp at hc2)]
        have e2 : cn = numL 0 ((s.data.toList.drop (wd.size + 1)).take 6) := by rw [hcN.out, if_pos ⟨fun h => by rw [h] at hc2; simp at hc2, hc1, by omega⟩]
        subst e1
        have q1 : (0 : Int) ≤ (wd.size : Int) + 1 := by omega
        have q2 : (wd.size : Int) + 1 ≤ s.size := by omega
        have q3 : (s.size : Int) ≤ 9223372036854775807 := by omega
        have UQ : ∀ V, Calls Tryz.prog 35 #[.string (s.extract (wd.size + 1) s.size)] V fun e w' => e = .returned (.int .i64 cn) ∧ Below V.heap.size V w' := fun V => by
          have h := l1Number_any (s.extract (wd.size + 1) s.size) V (by rw [ByteArray.size_extract]; omega)
          rw [show (s.extract (wd.size + 1) s.size).data.toList = s.data.toList.drop (wd.size + 1) by rw [ext_end], ← e2] at h
          refine h.mono ?_
          rintro e w' ⟨rfl, rfl⟩
          exact ⟨rfl, Below.refl _ _⟩
        clear e2
        have RX := hide (HC.out.below ((Below.refl wr.heap.size wr).alloc (Nat.le_refl _) (.cells #[.int .i64 (k : Int), .string ⟨#[]⟩, .int .i64 0] 41)) hsz)
        have zX : wr.heap.size < (wr.alloc (.cells #[.int .i64 (k : Int), .string ⟨#[]⟩, .int .i64 0] 41)).heap.size := CX.out.lt
        go_wp2_with (first
          | (go_at_call 33; go_fit (WD _); rintro e w' ⟨rfl, hw'⟩; rw [hw']; clear hw')
          | (go_at_call 35; go_fit (UQ _); rintro e w1 ⟨rfl, hB1⟩; have I1 := hide (CX.out.below hB1 zX); have R1 := hide (RX.out.below hB1 (by omega)); have B1 := hide (BX.out.trans (hB1.mono (by omega))); have c0 := I1.out.c0; have c1 := I1.out.c1; have c2 := I1.out.c2; have f1 := I1.out.fz 2; clear hB1))
        have I4 := hide (I1.out.set2 (.int .i64 cn))
        have R4 := hide (R1.out.other ⟨wr.heap.size, 2, none⟩ (by show wr.heap.size ≠ w.heap.size; omega) (.int .i64 cn))
        have B4 := hide (B1.out.setCell (p := ⟨wr.heap.size, 2, none⟩) (Nat.le_of_lt hsz) (.int .i64 cn))
        clear c0 c1 c2 f1 I1 R1 B1 CX BX RX UQ
        generalize w1.setCell ⟨wr.heap.size, 2, none⟩ (.int .i64 cn) = W4 at I4 R4 B4 ⊢
        have hX4 : wr.heap.size < W4.heap.size := I4.out.lt
        have OK : ∀ V, Calls Tryz.prog 31 #[.agg #[.int .i64 (k : Int), .string ⟨([] : List UInt8).toArray⟩, .int .i64 cn]] V fun e w' => e = .returned (.bool (insOk (k : Int) ([] : List UInt8).length cn)) ∧ Below V.heap.size V w' := fun V => l1InsOk_any (k : Int) ⟨([] : List UInt8).toArray⟩ cn V (by unfold maxLen; show ([] : List UInt8).length ≤ _; simp)
        have LN : insOk (k : Int) ([] : List UInt8).length cn = true → ∀ V, Calls Tryz.prog 36 #[.agg #[.int .i64 (k : Int), .string ⟨([] : List UInt8).toArray⟩, .int .i64 cn]] V fun e w' => e = .returned (.string ⟨(lineB (k : Int) ([] : List UInt8) cn).toArray⟩) ∧ Below V.heap.size V w' := fun h V => l1Line_any (k : Int) ⟨([] : List UInt8).toArray⟩ cn V h
        have HNX : Hid (¬ (insOk (k : Int) ([] : List UInt8).length cn = true ∧ lineB (k : Int) ([] : List UInt8) cn = s.data.toList) → ∀ j : Int, 1 ≤ j → j < ((k + 1 : Nat) : Int) → ∀ t m, ¬ IsLine s.data.toList j t m) := fun h j h1 h2 t m => by
          by_cases e : j = k
          · rw [e]; exact HCN.out h t m
          · exact HNO.out j h1 (by omega) t m
        clear HCN HNO
        refine (OK _).mono ?_
        rintro e w2 ⟨rfl, hB2⟩
        have B2 := hide (B4.out.trans (hB2.mono (by omega)))
        have R2 := hide (R4.out.below hB2 (by omega))
        have I2 := hide (I4.out.below hB2 hX4)
        have z2 : w.heap.size < w2.heap.size := R2.out.lt
        have z2' : wr.heap.size < w2.heap.size := I2.out.lt
        clear hB2 OK I4 R4 B4
        cases hok : insOk (k : Int) ([] : List UInt8).length cn with
        | false =>
          have HX := hide (HNX.out (fun h => by rw [hok] at h; exact absurd h.1 (by simp)))
          clear HNX HCY LN
          go_wp2
          exact ⟨⟨k + 1, by omega, by omega, by go_num, HX.out, R2.out, B2.out⟩, by simp [intOf]; omega⟩
        | true =>
          have LN := LN hok
          have HCY := hide (HCY.out hok)
          have HNX := hide (fun (h : ¬ lineB (k : Int) ([] : List UInt8) cn = s.data.toList) => HNX.out (fun h' => h h'.2))
          generalize lineB (k : Int) ([] : List UInt8) cn = ln at LN HCY HNX
          have c0 := I2.out.c0
          have c1 := I2.out.c1
          have c2 := I2.out.c2
          go_wp2_with fail
          refine (LN _).mono ?_
          rintro e w3 ⟨rfl, hB3⟩
          clear c0 c1 c2
          have B3 := hide (B2.out.trans (hB3.mono (by omega)))
          have R3 := hide (R2.out.below hB3 z2)
          have I3 := hide (I2.out.below hB3 z2')
          have z3 : w.heap.size < w3.heap.size := R3.out.lt
          clear hB3 LN B2 R2 I2
          cases heq : (ln == s.toList) with
          | false =>
            have HX := hide (HNX.out (fun h => by rw [h, ByteArray.toList_eq] at heq; simp at heq))
            go_wp2
            exact ⟨⟨k + 1, by omega, by omega, by go_num, HX.out, R3.out, B3.out⟩, by simp [intOf]; omega⟩
          | true =>
            have HX := hide (HCY.out (by have := eq_of_beq heq; rw [ByteArray.toList_eq] at this; exact this))
            have c0 := I3.out.c0
            have c1 := I3.out.c1
            have c2 := I3.out.c2
            have d0 := R3.out.c0
            have d1 := R3.out.c1
            have d2 := R3.out.c2
            have f0 := R3.out.fz 0
            have f1 := R3.out.fz 1
            have f2 := R3.out.fz 2
            go_wp2
            try simp only [Exit.inBlock, Exit.then]
            refine bodyPost_ret (res_ins rfl _ _ w.heap.size _ _ _ rfl (R3.out.all _ _ _)) rfl ?_
            exact ⟨by rw [HX.out]; rfl, ((B3.out.setCell (p := ⟨w.heap.size, 0, none⟩) (Nat.le_refl _) _).setCell (p := ⟨w.heap.size, 1, none⟩) (Nat.le_refl _) _).setCell (p := ⟨w.heap.size, 2, none⟩) (Nat.le_refl _) _⟩
    · obtain rfl : k = 16 := by omega
      have HR : Hid (readL s.data.toList = none) := cand_end fun j h1 h2 => HNO.out j h1 (by omega)
      have c0 := HC.out.c0
      have c1 := HC.out.c1
      have c2 := HC.out.c2
      have f0 := HC.out.fz 0
      have f1 := HC.out.fz 1
      have f2 := HC.out.fz 2
      go_wp2
      try simp only [Exit.inBlock, Exit.then]
      refine bodyPost_ret (res_ins rfl _ _ w.heap.size _ _ _ rfl (HC.out.all _ _ _)) rfl ?_
      exact ⟨by rw [HR.out]; rfl, ((HB.out.setCell (p := ⟨w.heap.size, 0, none⟩) (Nat.le_refl _) _).setCell (p := ⟨w.heap.size, 1, none⟩) (Nat.le_refl _) _).setCell (p := ⟨w.heap.size, 2, none⟩) (Nat.le_refl _) _⟩

end Go.Proofs.YtpefignfaooonaaGreatDoor.Vp
