/-
  Put together of: RaWords.
-/
import Derived.Test.YtkbhcajiebeepaaGreatDoorZV
import Derived.Test.YtkbhcajiebeepaaGreatDoorYE

/-
  ReadAccount, spec: l6Words.
-/
namespace Go.Proofs.YtkbhcajiebeepaaGreatDoor.Vp
open Go.RowKit

/-- A line cut at its first spaces. -/
def cutN : Nat → List UInt8 → List (List UInt8)
  | 0, s => [s]
  | n + 1, s => if (cutC 32 s).2.2 = true then (cutC 32 s).1 :: cutN n (cutC 32 s).2.1 else [s]
theorem cutN_at {n : Nat} {x : List UInt8} (y : List UInt8) (h : (32 : UInt8) ∉ x) : cutN (n + 1) (x ++ 32 :: y) = x :: cutN n y := by
  rw [cutN, cutC_at y h, if_pos rfl]
theorem cutN_no {n : Nat} {x : List UInt8} (h : (32 : UInt8) ∉ x) : cutN n x = [x] := by
  cases n with
  | zero => rfl
  | succ n => rw [cutN, cutC_no h, if_neg (by simp)]
theorem cut_atW {S : List UInt8} {f k : Nat} (hf : f ≤ k) (hk : k < S.length) (h10 : S[k] = 32) : S.drop f = (S.drop f).take (k - f) ++ 32 :: S.drop (k + 1) := by
  have h1 := (List.take_append_drop (k - f) (S.drop f)).symm
  rw [List.drop_drop, show f + (k - f) = k by omega, List.drop_eq_getElem_cons hk, h10] at h1
  exact h1
theorem no_nextW {S : List UInt8} {f k : Nat} (hf : f ≤ k) (hk : k < S.length) (h10 : S[k] ≠ 32) (hn : (32 : UInt8) ∉ (S.drop f).take (k - f)) : (32 : UInt8) ∉ (S.drop f).take (k + 1 - f) := by
  have hl : k - f < (S.drop f).length := by rw [List.length_drop]; omega
  rw [show k + 1 - f = (k - f) + 1 by omega, List.take_succ_eq_append_getElem hl]
  intro h
  rcases List.mem_append.1 h with h | h
  · exact hn h
  · simp only [List.getElem_drop, List.mem_singleton] at h
    simp only [show f + (k - f) = k by omega] at h
    exact h10 h.symm

set_option maxRecDepth 100000 in
set_option maxHeartbeats 4000000 in
theorem l6Words_any (s : ByteArray) (N : Nat) (hN : N ≤ 3) (w : World) (hs : s.size ≤ 16777216) :
    Calls Tryz.prog 22 #[.string s, .int .i64 N] w fun e w' => ∃ g cap, e = .returned (.slice (some ⟨g, 0, none⟩) (cutN N s.data.toList).length cap) ∧ w'.ownsRow w.heap.size 9 1 (.slice (some ⟨g, 0, none⟩) (cutN N s.data.toList).length cap) (cutN N s.data.toList).length (strV (cutN N s.data.toList)) ∧ (cutN N s.data.toList).length ≤ 4 ∧ Below w.heap.size w w' := by
  have HL : Hid (s.data.toList.length = s.size) := by show _ = _; simp
  obtain ⟨i0, hi, hz0, hz1, hz2⟩ := info_partsP infoStrP
  go_enter Tryz.func22, Tryz.ntmps22
  go_wp2
  go_loopw [1, 5, 6, 7] (fun nv v p i wr => ∃ (k f g cap m : Nat) (L : List (List UInt8)), f ≤ k ∧ k ≤ s.size ∧ nv = .int .i64 m ∧ i = .int .i64 k ∧ p = .int .i64 f ∧ v = .slice (some ⟨g, 0, none⟩) L.length cap ∧ Hid (wr.ownsRow w.heap.size 9 1 v L.length (strV L)) ∧ Hid (cutN N s.data.toList = L ++ cutN m (s.data.toList.drop f)) ∧ Hid ((32 : UInt8) ∉ (s.data.toList.drop f).take (k - f)) ∧ L.length + m ≤ 3 ∧ Hid (Below w.heap.size w wr)) (fun _ _ _ i _ => s.size - (intOf i).toNat)
  case atStart => exact ⟨0, 0, w.heap.size, 0, N, [], by omega, by omega, rfl, rfl, rfl, rfl, pa_lit w _ _, by simp [Hid], by simp [Hid], by simpa using hN, (Below.refl _ _).alloc (Nat.le_refl _) _⟩
  case round =>
    obtain ⟨k, f, g, cap, m, L, hfk, hks, rfl, rfl, rfl, rfl, HO, HE, HN, hLk, HB⟩ := hrel
    have hsz : w.heap.size ≤ wr.heap.size := HB.out.size
    have c1 : (0 : Int) ≤ f := by omega
    have c2 : (f : Int) ≤ k := by omega
    have c3 : (k : Int) ≤ s.size := by omega
    have c4 : (f : Int) ≤ s.size := by omega
    have fin : ∀ hc : cutN N s.data.toList = L ++ [s.data.toList.drop f], True := fun _ => trivial
    clear fin
    by_cases hlt : k < s.size ∧ 0 < m
    · obtain ⟨hlt, hm0⟩ := hlt
      obtain ⟨m', rfl⟩ : ∃ m', m = m' + 1 := ⟨m - 1, by omega⟩
      have j1 : (0 : Int) < ((m' + 1 : Nat) : Int) := by omega
      have j2 : ((m' + 1 : Nat) : Int) = (m' : Int) + 1 := by omega
      have i1 : (k : Int) < s.size := by omega
      have hl0 : k < s.data.toList.length := by rw [HL.out]; exact hlt
      have X0 := fun V => ixS s (k : Int) k rfl hlt V
      have H10 := hide (fun h => cut_atW hfk hl0 h)
      have HNX := hide (fun h => no_nextW hfk hl0 h HN.out)
      generalize s.data.toList[k] = c at X0 H10 HNX
      by_cases h10 : c = 32
      · subst h10
        have X0 : ∀ V, (Instr.index 9 (.string s) (.int .i64 (k : Int))).run Tryz.prog V = .ok (.int .u8 32) V := X0
        have HC := hide (H10.out rfl)
        have HX := hide (ext_mid s f k)
        go_wp2_with (at_builtin; refine wpList_append_own _ rfl (.tmp 23) (.tmp 28) 42 rfl w.heap.size 9 i0 (.string ⟨#[]⟩) 1 16 Tryz.underlying42 hi hz0 hz1 hz2 rfl (by decide) _ L.length (strV L) (by simp [Act.eval]) (HO.out.alloc _) ⟨wr.heap.size, 0, none⟩ 1 1 [.string (s.extract f k)] (by simp [Act.eval]) rfl (one_new wr _ _) (by simp [Value.oneCell']) (by unfold maxLen; omega) (by omega) (by simp; omega) ?_; intro v' w2 hown hgrow hnil; obtain ⟨g2, cap2, rfl⟩ := own_form hown (by omega); have O2 := hide hown; have B2 := hide (Below.grown (HB.out.alloc hsz (.cells #[.string (s.extract f k)] 9)) hgrow (by simp; omega) (fun j e => (HO.out.lt j e).1)); clear hown hgrow hnil)
        refine ⟨⟨k + 1, k + 1, g2, cap2, m', L ++ [(s.data.toList.drop f).take (k - f)], by omega, by omega, by go_num, by go_num, by go_num, by simp, ?_, ?_, by simp [Hid], by simp; omega, B2.out⟩, by simp [intOf]; omega⟩
        · show World.ownsRow _ _ _ _ _ _ _
          rw [strV_snoc, ← HX.out]
          simp only [List.length_append, List.length_cons, List.length_nil, Nat.zero_add]
          exact O2.out
        · show _ = _
          rw [HE.out, HC.out, cutN_at _ HN.out]
          rw [← HC.out]
          simp
      · have hne : ((c.toNat : Int) == 32) = false := by
          have : ¬ (c.toNat : Int) = 32 := fun e => h10 (by rw [← UInt8.toNat_inj]; show c.toNat = 32; omega)
          simpa using this
        go_wp2
        exact ⟨⟨k + 1, f, g, cap, m' + 1, L, by omega, by omega, by go_num, by go_num, rfl, rfl, HO.out, HE.out, HNX.out h10, by omega, HB.out⟩, by simp [intOf]; omega⟩
    · have HX := hide (ext_end s f)
      have HLs : Hid (cutN N s.data.toList = L ++ [s.data.toList.drop f]) := by
        show _ = _
        rw [HE.out]
        by_cases hm : m = 0
        · subst hm
          rfl
        · obtain rfl : k = s.size := by omega
          have := HN.out
          rw [List.take_of_length_le (by rw [List.length_drop, HL.out]; omega)] at this
          rw [cutN_no this]
      rcases (show (k : Int) < s.size ∧ (m : Int) = 0 ∨ ¬ (k : Int) < s.size by omega) with ⟨i1, i2⟩ | i1
      all_goals
        go_wp2_with (at_builtin; refine wpList_append_own _ rfl (.tmp 34) (.tmp 38) 42 rfl w.heap.size 9 i0 (.string ⟨#[]⟩) 1 16 Tryz.underlying42 hi hz0 hz1 hz2 rfl (by decide) _ L.length (strV L) (by simp [Act.eval]) (HO.out.alloc _) ⟨wr.heap.size, 0, none⟩ 1 1 [.string (s.extract f s.size)] (by simp [Act.eval]) rfl (one_new wr _ _) (by simp [Value.oneCell']) (by unfold maxLen; omega) (by omega) (by simp; omega) ?_; intro v' w2 hown hgrow hnil; obtain ⟨g2, cap2, rfl⟩ := own_form hown (by omega); have O2 := hide hown; have B2 := hide (Below.grown (HB.out.alloc hsz (.cells #[.string (s.extract f s.size)] 9)) hgrow (by simp; omega) (fun j e => (HO.out.lt j e).1)); clear hown hgrow hnil)
        go_ret
        have hlen : (cutN N s.data.toList).length = L.length + 1 := by rw [HLs.out]; simp
        refine ⟨g2, cap2, by rw [hlen]; rfl, ?_, by omega, B2.out⟩
        rw [hlen, HLs.out, strV_snoc, ← HX.out]
        exact O2.out

end Go.Proofs.YtkbhcajiebeepaaGreatDoor.Vp
