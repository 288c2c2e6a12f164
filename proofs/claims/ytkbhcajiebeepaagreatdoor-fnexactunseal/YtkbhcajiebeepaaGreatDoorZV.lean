/-
  Put together of: PaSpecB.
-/
import Derived.Test.YtkbhcajiebeepaaGreatDoorZP
import Derived.Test.YtkbhcajiebeepaaGreatDoorZJ

/-
  ParseProgram, spec: l1Cut.
-/
namespace Go.Proofs.YtkbhcajiebeepaaGreatDoor.Vp
open Go.RowKit

theorem pa_lit (w : World) (e : TypeId) (size : Nat) : (w.alloc (.cells #[] e)).ownsRow w.heap.size e size (.slice (some ⟨w.heap.size, 0, none⟩) 0 0) 0 [] :=
  ⟨by simp, .inr ⟨w.heap.size, 0, #[], rfl, Nat.le_refl _, heap_alloc_new w _, Nat.le_refl _, by unfold maxLen; omega, by simp, by simp⟩⟩
theorem infoStrP : (Tryz.prog.info? 9).map (fun i => (i.zero, i.size, i.bytes)) = some (some (.string ⟨#[]⟩), 1, 16) := by kernel_rfl
/-- The cells of texts. -/
def strV (L : List (List UInt8)) : List Value := L.map fun l => .string ⟨l.toArray⟩
theorem strV_snoc (L : List (List UInt8)) (l : List UInt8) : strV (L ++ [l]) = strV L ++ [.string ⟨l.toArray⟩] := by simp [strV]
theorem ext_mid (s : ByteArray) (f k : Nat) : s.extract f k = ⟨((s.data.toList.drop f).take (k - f)).toArray⟩ := by
  refine ByteArray.ext (Array.ext' ?_)
  simp [ByteArray.data_extract, Array.toList_extract, List.extract_eq_take_drop]
theorem ext_end (s : ByteArray) (f : Nat) : s.extract f s.size = ⟨(s.data.toList.drop f).toArray⟩ := by
  rw [ext_mid s f s.size, List.take_of_length_le (by simp)]
theorem cut_at {S : List UInt8} {f k : Nat} (hf : f ≤ k) (hk : k < S.length) (h10 : S[k] = 10) : S.drop f = (S.drop f).take (k - f) ++ 10 :: S.drop (k + 1) := by
  have h1 := (List.take_append_drop (k - f) (S.drop f)).symm
  rw [List.drop_drop, show f + (k - f) = k by omega, List.drop_eq_getElem_cons hk, h10] at h1
  exact h1
theorem no_next {S : List UInt8} {f k : Nat} (hf : f ≤ k) (hk : k < S.length) (h10 : S[k] ≠ 10) (hn : (10 : UInt8) ∉ (S.drop f).take (k - f)) : (10 : UInt8) ∉ (S.drop f).take (k + 1 - f) := by
  have hl : k - f < (S.drop f).length := by rw [List.length_drop]; omega
  rw [show k + 1 - f = (k - f) + 1 by omega, List.take_succ_eq_append_getElem hl]
  intro h
  rcases List.mem_append.1 h with h | h
  · exact hn h
  · simp only [List.getElem_drop, List.mem_singleton] at h
    simp only [show f + (k - f) = k by omega] at h
    exact h10 h.symm
theorem info_partsP {e : TypeId} {z : Value} {a b : Nat} (h : (Tryz.prog.info? e).map (fun i => (i.zero, i.size, i.bytes)) = some (some z, a, b)) : ∃ i, Tryz.prog.info? e = some i ∧ i.zero = some z ∧ i.size = a ∧ i.bytes = b := by
  obtain ⟨i, hi, hz⟩ := Option.map_eq_some_iff.1 h
  simp only [Prod.mk.injEq] at hz
  exact ⟨i, hi, hz⟩

set_option maxRecDepth 100000 in
set_option maxHeartbeats 4000000 in
theorem l1Cut_any (s : ByteArray) (w : World) (hs : s.size ≤ 16777216) :
    Calls Tryz.prog 21 #[.string s] w fun e w' => ∃ g cap, e = .returned (.slice (some ⟨g, 0, none⟩) (linesL s.data.toList).length cap) ∧ w'.ownsRow w.heap.size 9 1 (.slice (some ⟨g, 0, none⟩) (linesL s.data.toList).length cap) (linesL s.data.toList).length (strV (linesL s.data.toList)) ∧ (linesL s.data.toList).length ≤ s.size + 1 ∧ Below w.heap.size w w' := by
  have HL : Hid (s.data.toList.length = s.size) := by show _ = _; simp
  obtain ⟨i0, hi, hz0, hz1, hz2⟩ := info_partsP infoStrP
  go_enter Tryz.func21, Tryz.ntmps21
  go_wp2
  go_loopw [3, 4, 5] (fun v p i wr => ∃ (k f g cap : Nat) (L : List (List UInt8)), f ≤ k ∧ k ≤ s.size ∧ i = .int .i64 k ∧ p = .int .i64 f ∧ v = .slice (some ⟨g, 0, none⟩) L.length cap ∧ Hid (wr.ownsRow w.heap.size 9 1 v L.length (strV L)) ∧ Hid (linesL s.data.toList = L ++ linesL (s.data.toList.drop f)) ∧ Hid ((10 : UInt8) ∉ (s.data.toList.drop f).take (k - f)) ∧ L.length ≤ k ∧ Hid (Below w.heap.size w wr)) (fun _ _ i _ => s.size - (intOf i).toNat)
  case atStart => exact ⟨0, 0, w.heap.size, 0, [], by omega, by omega, rfl, rfl, rfl, pa_lit w _ _, by simp [Hid], by simp [Hid], by simp, (Below.refl _ _).alloc (Nat.le_refl _) _⟩
  case round =>
    obtain ⟨k, f, g, cap, L, hfk, hks, rfl, rfl, rfl, HO, HE, HN, hLk, HB⟩ := hrel
    have hsz : w.heap.size ≤ wr.heap.size := HB.out.size
    have c1 : (0 : Int) ≤ f := by omega
    have c2 : (f : Int) ≤ k := by omega
    have c3 : (k : Int) ≤ s.size := by omega
    have c4 : (f : Int) ≤ s.size := by omega
    by_cases hlt : k < s.size
    · have i1 : (k : Int) < s.size := by omega
      have hl0 : k < s.data.toList.length := by rw [HL.out]; exact hlt
      have X0 := fun V => ixS s (k : Int) k rfl hlt V
      have H10 := hide (fun h => cut_at hfk hl0 h)
      have HNX := hide (fun h => no_next hfk hl0 h HN.out)
      generalize s.data.toList[k] = c at X0 H10 HNX
      by_cases h10 : c = 10
      · subst h10
        have X0 : ∀ V, (Instr.index 9 (.string s) (.int .i64 (k : Int))).run Tryz.prog V = .ok (.int .u8 10) V := X0
        have HC := hide (H10.out rfl)
        have HX := hide (ext_mid s f k)
        go_wp2_with (at_builtin; refine wpList_append_own _ rfl (.tmp 17) (.tmp 22) 42 rfl w.heap.size 9 i0 (.string ⟨#[]⟩) 1 16 Tryz.underlying42 hi hz0 hz1 hz2 rfl (by decide) _ L.length (strV L) (by simp [Act.eval]) (HO.out.alloc _) ⟨wr.heap.size, 0, none⟩ 1 1 [.string (s.extract f k)] (by simp [Act.eval]) rfl (one_new wr _ _) (by simp [Value.oneCell']) (by unfold maxLen; omega) (by omega) (by simp; omega) ?_; intro v' w2 hown hgrow hnil; obtain ⟨g2, cap2, rfl⟩ := own_form hown (by omega); have O2 := hide hown; have B2 := hide (Below.grown (HB.out.alloc hsz (.cells #[.string (s.extract f k)] 9)) hgrow (by simp; omega) (fun j e => (HO.out.lt j e).1)); clear hown hgrow hnil)
        refine ⟨⟨k + 1, k + 1, g2, cap2, L ++ [(s.data.toList.drop f).take (k - f)], by omega, by omega, by go_num, by go_num, by simp, ?_, ?_, by simp [Hid], by simp; omega, B2.out⟩, by simp [intOf]; omega⟩
        · show World.ownsRow _ _ _ _ _ _ _
          rw [strV_snoc, ← HX.out]
          simp only [List.length_append, List.length_cons, List.length_nil, Nat.zero_add]
          exact O2.out
        · show _ = _
          rw [HE.out, HC.out, linesL_at _ HN.out]
          rw [← HC.out]
          simp
      · have hne : ((c.toNat : Int) == 10) = false := by
          have : ¬ (c.toNat : Int) = 10 := fun e => h10 (by rw [← UInt8.toNat_inj]; show c.toNat = 10; omega)
          simpa using this
        go_wp2
        exact ⟨⟨k + 1, f, g, cap, L, by omega, by omega, by go_num, rfl, rfl, HO.out, HE.out, HNX.out h10, by omega, HB.out⟩, by simp [intOf]; omega⟩
    · obtain rfl : k = s.size := by omega
      have HX := hide (ext_end s f)
      have HLs : Hid (linesL s.data.toList = L ++ [s.data.toList.drop f]) := by
        show _ = _
        have := HN.out
        rw [List.take_of_length_le (by rw [List.length_drop, HL.out]; omega)] at this
        rw [HE.out, linesL_no this]
      have i1 : ¬ ((s.size : Nat) : Int) < s.size := by omega
      go_wp2_with (at_builtin; refine wpList_append_own _ rfl (.tmp 26) (.tmp 30) 42 rfl w.heap.size 9 i0 (.string ⟨#[]⟩) 1 16 Tryz.underlying42 hi hz0 hz1 hz2 rfl (by decide) _ L.length (strV L) (by simp [Act.eval]) (HO.out.alloc _) ⟨wr.heap.size, 0, none⟩ 1 1 [.string (s.extract f s.size)] (by simp [Act.eval]) rfl (one_new wr _ _) (by simp [Value.oneCell']) (by unfold maxLen; omega) (by omega) (by simp; omega) ?_; intro v' w2 hown hgrow hnil; obtain ⟨g2, cap2, rfl⟩ := own_form hown (by omega); have O2 := hide hown; have B2 := hide (Below.grown (HB.out.alloc hsz (.cells #[.string (s.extract f s.size)] 9)) hgrow (by simp; omega) (fun j e => (HO.out.lt j e).1)); clear hown hgrow hnil)
      go_ret
      have hlen : (linesL s.data.toList).length = L.length + 1 := by rw [HLs.out]; simp
      refine ⟨g2, cap2, by rw [hlen]; rfl, ?_, by omega, B2.out⟩
      rw [hlen, HLs.out, strV_snoc, ← HX.out]
      exact O2.out

end Go.Proofs.YtkbhcajiebeepaaGreatDoor.Vp
