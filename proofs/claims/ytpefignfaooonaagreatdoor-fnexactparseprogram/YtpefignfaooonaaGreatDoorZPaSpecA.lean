/-
  ParseProgram, spec: l1HexOf, l1Number, l1Unquote.
-/
import Derived.Test.YtpefignfaooonaaGreatDoorZPaNum
import Derived.Test.YtpefignfaooonaaGreatDoorZPpRow
import Derived.Deep.QuietTactic
namespace Go.Proofs.YtpefignfaooonaaGreatDoor.Vp
open Go.RowKit

set_option maxRecDepth 100000 in
set_option maxHeartbeats 1000000 in
theorem l1HexOf_any (c : UInt8) (w : World) : Calls Tryz.prog 53 #[.int .u8 c.toNat] w fun e w' => e = .returned (.int .i64 (hexI c)) ∧ w' = w := by
  have hc := c.toNat_lt
  have hn : (48 ≤ (c.toNat : Int) ∧ (c.toNat : Int) ≤ 57 ∧ hexI c = (c.toNat : Int) - 48) ∨ (48 ≤ (c.toNat : Int) ∧ ¬ (c.toNat : Int) ≤ 57 ∧ 97 ≤ (c.toNat : Int) ∧ (c.toNat : Int) ≤ 102 ∧ hexI c = (c.toNat : Int) - 87) ∨ (¬ 48 ≤ (c.toNat : Int) ∧ ¬ 97 ≤ (c.toNat : Int) ∧ hexI c = -1) ∨ (48 ≤ (c.toNat : Int) ∧ ¬ (c.toNat : Int) ≤ 57 ∧ ¬ 97 ≤ (c.toNat : Int) ∧ hexI c = -1) ∨ (48 ≤ (c.toNat : Int) ∧ ¬ (c.toNat : Int) ≤ 57 ∧ 97 ≤ (c.toNat : Int) ∧ ¬ (c.toNat : Int) ≤ 102 ∧ hexI c = -1) := by
    unfold hexI
    split
    · omega
    · split <;> omega
  rcases hn with ⟨p1, p2, h⟩ | ⟨p1, p2, p3, p4, h⟩ | ⟨p1, p2, h⟩ | ⟨p1, p2, p3, h⟩ | ⟨p1, p2, p3, p4, h⟩
  all_goals
    rw [h]
    clear h
    go_enter Tryz.func53, Tryz.ntmps53
    go_wp2
    go_ret
    exact ⟨by go_num, rfl⟩

theorem take_at {s : ByteArray} {k : Nat} (h : k < s.size) : s.data.toList.take (k + 1) = s.data.toList.take k ++ [s[k]] := by
  rw [List.take_succ_eq_append_getElem (by simpa using h)]
  rfl
theorem numL_snoc (l : List UInt8) (c : UInt8) : numL 0 (l ++ [c]) = numL 0 l * 10 + c.toNat - 48 := by
  rw [numL_app]
  rfl
theorem numL_lt : ∀ (l : List UInt8), l.length ≤ 6 → -1000000000 ≤ numL 0 l ∧ numL 0 l ≤ 1000000000 := by
  intro l hl
  match l, hl with
  | [], _ => decide
  | [a], _ => simp only [numL]; have := a.toNat_lt; omega
  | [a, b], _ => simp only [numL]; have := a.toNat_lt; have := b.toNat_lt; omega
  | [a, b, c], _ => simp only [numL]; have := a.toNat_lt; have := b.toNat_lt; have := c.toNat_lt; omega
  | [a, b, c, d], _ => simp only [numL]; have := a.toNat_lt; have := b.toNat_lt; have := c.toNat_lt; have := d.toNat_lt; omega
  | [a, b, c, d, e], _ => simp only [numL]; have := a.toNat_lt; have := b.toNat_lt; have := c.toNat_lt; have := d.toNat_lt; have := e.toNat_lt; omega
  | [a, b, c, d, e, f], _ => simp only [numL]; have := a.toNat_lt; have := b.toNat_lt; have := c.toNat_lt; have := d.toNat_lt; have := e.toNat_lt; have := f.toNat_lt; omega
  | a :: b :: c :: d :: e :: f :: g :: r, hl => simp at hl

set_option maxRecDepth 100000 in
set_option maxHeartbeats 1000000 in
theorem l1Number_any (s : ByteArray) (w : World) (hs : s.size ≤ 16777216) : Calls Tryz.prog 35 #[.string s] w fun e w' => e = .returned (.int .i64 (numL 0 (s.data.toList.take 6))) ∧ w' = w := by
  go_enter Tryz.func35, Tryz.ntmps35
  go_wp2
  go_loopw [3, 4] (fun v i wr => ∃ k : Nat, k ≤ s.size ∧ k ≤ 6 ∧ i = .int .i64 k ∧ v = .int .i64 (numL 0 (s.data.toList.take k)) ∧ wr = w) (fun _ i _ => s.size - (intOf i).toNat)
  case atStart => exact ⟨0, by omega, by omega, rfl, rfl, rfl⟩
  case round =>
    obtain ⟨k, hk, hk6, rfl, rfl, rfl⟩ := hrel
    by_cases hlt : k < s.size
    · by_cases h6 : k < 6
      · have HN := hide (show numL 0 (s.data.toList.take (k + 1)) = numL 0 (s.data.toList.take k) * 10 + s[k].toNat - 48 by rw [take_at hlt, numL_snoc])
        have hb := numL_lt (s.data.toList.take k) (by rw [List.length_take]; omega)
        have hc := s[k].toNat_lt
        have i1 : (k : Int) < s.size := by omega
        have i2 : (k : Int) < 6 := by omega
        generalize numL 0 (s.data.toList.take k) = x at hb HN ⊢
        go_wp2
        exact ⟨⟨k + 1, by omega, by omega, by go_num, by rw [HN.out], trivial⟩, by simp [intOf]; omega⟩
      · obtain rfl : k = 6 := by omega
        have i1 : (6 : Int) < s.size := by omega
        go_wp2
        go_ret
        exact ⟨rfl, rfl⟩
    · have HT := hide (show s.data.toList.take 6 = s.data.toList.take k by
        rw [List.take_of_length_le (by rw [Array.length_toList, ByteArray.size_data]; omega), List.take_of_length_le (by rw [Array.length_toList, ByteArray.size_data]; omega)])
      have i1 : ¬ (k : Int) < s.size := by omega
      go_wp2
      go_ret
      exact ⟨by rw [HT.out]; rfl, rfl⟩

def rem (l : List UInt8) (i : Nat) : List UInt8 := (l.drop i).take (l.length - 1 - i)
theorem rem_cons {l : List UInt8} {i : Nat} (h : i + 1 < l.length) : rem l i = l[i] :: rem l (i + 1) := by
  unfold rem
  rw [List.drop_eq_getElem_cons (by omega), show l.length - 1 - i = (l.length - 1 - (i + 1)) + 1 by omega, List.take_succ_cons]
theorem rem_nil {l : List UInt8} {i : Nat} (h : ¬ i + 1 < l.length) : rem l i = [] := by
  unfold rem
  rw [show l.length - 1 - i = 0 by omega, List.take_zero]
theorem rem_inner (l : List UInt8) : rem l 1 = innerL l := by
  unfold rem innerL
  rw [show l.length - 1 - 1 = l.length - 2 by omega]

theorem loosU_no {c : UInt8} : ∀ {r : List UInt8}, (∀ a b r', r = a :: b :: r' → ¬ (c = 92 ∧ 0 ≤ hexI a ∧ 0 ≤ hexI b)) → loosU (c :: r) = c :: loosU r
  | [], _ => by simp [loosU]
  | [a], _ => by simp [loosU]
  | a :: b :: r, h => by rw [loosU, if_neg (h a b r rfl)]
theorem rem_short {l : List UInt8} {k : Nat} (h : ¬ k + 3 < l.length) {a b : UInt8} {r : List UInt8} : rem l (k + 1) ≠ a :: b :: r := by
  intro e
  have := congrArg List.length e
  unfold rem at this
  rw [List.length_take, List.length_drop] at this
  simp at this
  omega
theorem rem_two {l : List UInt8} {k : Nat} (h : k + 3 < l.length) : rem l (k + 1) = l[k + 1] :: l[k + 2] :: rem l (k + 3) := by
  rw [rem_cons (by omega), rem_cons (by omega)]
theorem ixS (s : ByteArray) (x : Int) (i : Nat) (hx : x = i) (h : i < s.size) (w : World) : (Instr.index 9 (.string s) (.int .i64 x)).run Tryz.prog w = .ok (.int .u8 s.data.toList[i].toNat) w := by
  subst hx
  rw [run_index_string w 9 s .i64 (i : Int) Tryz.underlying9]
  simp [h]
  rfl
theorem conv_any (w : World) (base g cap : Nat) (l : List UInt8) (h : Bs w base (.slice (some ⟨g, 0, none⟩) l.length cap) l) : (convert 33 9 (.slice (some ⟨g, 0, none⟩) l.length cap)).run Tryz.prog w = .ok (.string ⟨l.toArray⟩) w :=
  run_convert_bytes_back w 33 9 5 ⟨g, 0, none⟩ cap l Tryz.underlying33 Tryz.underlying5 Tryz.underlying9 (fun j hj => h.cell j hj)

end Go.Proofs.YtpefignfaooonaaGreatDoor.Vp
