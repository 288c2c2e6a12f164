/-
  ParseProgram, impl: opOf, strings.Cut at one byte, unquoteByte.
-/
import Derived.Test.YtdbheeglklgmbaaGreatDoorPaNum
import Derived.Test.YtdbheeglklgmbaaGreatDoorPpTabW
import Derived.Test.YtdbheeglklgmbaaGreatDoorPpPlain
import Derived.Test.YtdbheeglklgmbaaGreatDoorVpTab
import Derived.Test.YtdbheeglklgmbaaGreatDoorShelf
import Derived.Deep.DeepFit
namespace Go.Proofs.YtdbheeglklgmbaaGreatDoor.Vp
open Go.RowKit

set_option maxRecDepth 100000 in
set_option maxHeartbeats 2000000 in
theorem opOf_any (s : ByteArray) (w : World) (hT : TabW w) (hz : 4 < w.heap.size) :
    Calls Tryz.prog 32 #[.string s] w fun e w' => e = .returned (.int .i64 (opF s.data.toList)) ∧ w' = w := by
  have HT := hide hT
  clear hT
  go_enter Tryz.func32, Tryz.ntmps32
  go_wp2
  go_loopw [3] (fun i wr => ∃ k : Nat, 1 ≤ k ∧ k ≤ 16 ∧ i = .int .i64 k ∧ Hid (∀ j : Int, 1 ≤ j → j < k → s.data.toList ≠ word j) ∧ wr = w) (fun i _ => 16 - (intOf i).toNat)
  case atStart => exact ⟨1, by omega, by omega, rfl, fun j h1 h2 => by omega, rfl⟩
  case round =>
    obtain ⟨k, hk1, hk2, rfl, HK, rfl⟩ := hrel
    by_cases hlt : k < 16
    · have c0 := HT.out k hlt
      have h15 : (k : Int) ≤ 15 := by omega
      have h16 : (k : Int) < 16 := by omega
      cases hb : (word k == s.toList) with
      | true =>
        have he : s.data.toList = word k := by
          have := eq_of_beq hb
          rw [ByteArray.toList_eq] at this
          exact this.symm
        have HO := hide (show opF s.data.toList = k by rw [he]; exact opF_word ⟨by omega, h15⟩)
        clear he
        go_wp2
        go_ret
        exact ⟨by rw [HO.out]; rfl, rfl⟩
      | false =>
        have HE := hide (show s.data.toList ≠ word k from fun e => by
          rw [ByteArray.toList_eq, e] at hb
          simp at hb)
        go_wp2
        refine ⟨⟨k + 1, by omega, by omega, by go_num, fun j h1 h2 => ?_, trivial⟩, by simp [intOf]; omega⟩
        by_cases e : j = k
        · rw [e]; exact HE.out
        · exact HK.out j h1 (by omega)
    · obtain rfl : k = 16 := by omega
      have HO := hide (show opF s.data.toList = 0 from by
        rcases opF_inv s.data.toList with h | ⟨h1, h2, h3⟩
        · exact h.1
        · exact absurd h3 (HK.out _ h1 (by omega)))
      go_wp2
      go_ret
      exact ⟨by rw [HO.out]; rfl, rfl⟩

theorem ix_cut (c : UInt8) : ∀ s : List UInt8, (Lib.indexByte s c = -1 ∧ cutC c s = (s, [], false)) ∨ ∃ i : Nat, Lib.indexByte s c = i ∧ i < s.length ∧ cutC c s = (s.take i, s.drop (i + 1), true)
  | [] => .inl ⟨rfl, rfl⟩
  | b :: l => by
    by_cases e : b = c
    · subst e
      exact .inr ⟨0, by simp [Lib.indexByte], by simp, by simp [cutC]⟩
    · have hb : (b == c) = false := by simpa using e
      rcases ix_cut c l with ⟨h1, h2⟩ | ⟨i, h1, h2, h3⟩
      · exact .inl ⟨by simp [Lib.indexByte, hb, h1], by rw [cutC, if_neg e, h2]⟩
      · refine .inr ⟨i + 1, ?_, by simp only [List.length_cons]; omega, ?_⟩
        · have : ((i : Int) == -1) = false := by
            have h : ¬ (i : Int) = -1 := by omega
            exact beq_false_of_ne h
          simp [Lib.indexByte, hb, h1, this]
        · rw [cutC, if_neg e, h3]
          simp

set_option maxRecDepth 100000 in
set_option maxHeartbeats 1000000 in
theorem litecut_any (s : ByteArray) (c : UInt8) (w : World) (hs : s.size ≤ maxLen) :
    Calls Tryz.prog 31 #[.string s, .string ⟨#[c]⟩] w fun e w' => e = .returned (.tuple #[.string ⟨(cutC c s.data.toList).1.toArray⟩, .string ⟨(cutC c s.data.toList).2.1.toArray⟩, .bool (cutC c s.data.toList).2.2]) ∧ ∃ m, w' = w.drewN m := by
  unfold maxLen at hs
  rcases ix_cut c s.data.toList with ⟨h1, h2⟩ | ⟨i, h1, h2, h3⟩
  · rw [h2]
    go_enter Tryz.func31, Tryz.ntmps31
    go_wp2_with (go_at_call 43; refine (Tryz.stringslite_Index_one s c _).mono ?_; rintro e w' ⟨rfl, rfl⟩; rw [h1])
    go_ret3
    exact ⟨by simp, 0, rfl⟩
  · rw [h3]
    have hl : i < s.size := by simpa using h2
    have c1 : (0 : Int) ≤ ↑i := by omega
    have c2 : (↑i : Int) ≤ ↑s.size := by omega
    have c3 : (0 : Int) ≤ ↑i + 1 := by omega
    have c4 : (↑i + 1 : Int) ≤ ↑s.size := by omega
    have c5 : (s.size : Int) ≤ 9223372036854775807 := by omega
    have E1 := hide (show s.extract 0 i = ⟨(s.data.toList.take i).toArray⟩ from by
      refine ByteArray.ext (Array.ext' ?_)
      simp [ByteArray.data_extract])
    have E2 := hide (show s.extract (i + 1) s.size = ⟨(s.data.toList.drop (i + 1)).toArray⟩ from by
      refine ByteArray.ext (Array.ext' ?_)
      simp only [ByteArray.data_extract, Array.toList_extract, List.extract_eq_take_drop]
      rw [List.take_of_length_le (by simp)])
    go_enter Tryz.func31, Tryz.ntmps31
    go_wp2_with (go_at_call 43; refine (Tryz.stringslite_Index_one s c _).mono ?_; rintro e w' ⟨rfl, rfl⟩; rw [h1])
    go_quiet (fail)
    go_wp2
    go_ret3
    exact ⟨by rw [← E1.out, ← E2.out]; rfl, nq, rfl⟩

set_option maxRecDepth 100000 in
set_option maxHeartbeats 1000000 in
theorem cut1_any (s : ByteArray) (c : UInt8) (w : World) (hs : s.size ≤ maxLen) :
    Calls Tryz.prog 22 #[.string s, .string ⟨#[c]⟩] w fun e w' => e = .returned (.tuple #[.string ⟨(cutC c s.data.toList).1.toArray⟩, .string ⟨(cutC c s.data.toList).2.1.toArray⟩, .bool (cutC c s.data.toList).2.2]) ∧ ∃ m, w' = w.drewN m := by
  go_enter Tryz.func22, Tryz.ntmps22
  go_wp2_with (go_at_call 31; refine (litecut_any s c _ hs).mono ?_; rintro e w' ⟨rfl, m, rfl⟩)
  go_ret3
  exact ⟨rfl, m, rfl⟩

theorem ix_hex (c : UInt8) : Lib.indexByte [48, 49, 50, 51, 52, 53, 54, 55, 56, 57, 97, 98, 99, 100, 101, 102] c = hexI c := by
  refine u8_all (p := fun c => Lib.indexByte [48, 49, 50, 51, 52, 53, 54, 55, 56, 57, 97, 98, 99, 100, 101, 102] c = hexI c) ?_ c
  decide +kernel
theorem indexHex_any (c : UInt8) (w : World) :
    Calls Tryz.prog 56 #[.string ⟨#[48, 49, 50, 51, 52, 53, 54, 55, 56, 57, 97, 98, 99, 100, 101, 102]⟩, .int .u8 c.toNat] w fun e w' => e = .returned (.int .i64 (hexI c)) ∧ w' = w := by
  refine (Tryz.strings_IndexByte _ (c.toNat : Int) w).mono ?_
  rintro e w' ⟨rfl, rfl⟩
  refine ⟨?_, rfl⟩
  have : ((c.toNat : Int).toNat).toUInt8 = c := by simp
  rw [this]
  exact congrArg (fun x => Ending.returned (.int .i64 x)) (ix_hex c)

/-- A package-level variable that holds an error. -/
def EV (w : World) (g : Nat) : Prop := g < w.heap.size ∧ ∃ t p, w.cell? ⟨g, 0, none⟩ = some (.iface t p)
theorem EV.below {w w' : World} {g B : Nat} (h : EV w g) (hb : Below B w w') (hB : g < B) : EV w' g := by
  obtain ⟨h1, t, p, h2⟩ := h
  exact ⟨Nat.lt_of_lt_of_le h1 hb.size, t, p, (hb.cell (p := ⟨g, 0, none⟩) hB).trans h2⟩

theorem size_toL (s : ByteArray) : s.data.toList.length = s.size := by simp
theorem byte_at {s : ByteArray} {i : Nat} {c : UInt8} (h : i < s.size) (hc : s.data.toList[i]? = some c) : s[i] = c := by
  obtain ⟨h1, h2⟩ := List.getElem?_eq_some_iff.1 hc
  rw [Array.getElem_toList] at h2
  exact h2
theorem str_cons {s : ByteArray} (h0 : 0 < s.size) : ∃ c r, s.data.toList = c :: r ∧ s.size = r.length + 1 := by
  have h := size_toL s
  cases e : s.data.toList with
  | nil => rw [e] at h; simp at h; omega
  | cons c r => rw [e] at h; exact ⟨c, r, rfl, by simp at h; omega⟩
theorem orB (k l : Int) (h0 : 0 ≤ k) (h1 : k < 16) (h2 : 0 ≤ l) (h3 : l < 16) : bits BinOp.or IntKind.i64 (wrap64 (k * 16)) l % 256 = 16 * k + l := by
  have H : ∀ n m : Fin 16, bits BinOp.or IntKind.i64 (wrap64 ((n.val : Int) * 16)) (m.val : Int) % 256 = 16 * (n.val : Int) + (m.val : Int) := by decide +kernel
  have := H ⟨k.toNat, by omega⟩ ⟨l.toNat, by omega⟩
  simp only [Int.toNat_of_nonneg h0, Int.toNat_of_nonneg h2] at this
  exact this

end Go.Proofs.YtdbheeglklgmbaaGreatDoor.Vp
