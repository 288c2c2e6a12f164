/-
  Names: isName, l1NameOk.
-/
import Derived.Test.YtolpgafkojlkoabDoorDBase
namespace Go.Proofs.YtolpgafkojlkoabDoor.Vp
open Go.RowKit

/-- The first k bytes may stand in a name. -/
def nameTo (s : ByteArray) : Nat → Bool
  | 0 => true
  | k + 1 => nameTo s k && (match s.data[k]? with | some c => decide (33 ≤ c.toNat ∧ c.toNat ≤ 126) | none => false)
def nameOk (s : ByteArray) : Bool := decide (1 ≤ s.size ∧ s.size ≤ 60) && nameTo s s.size
theorem nameTo_mono {s : ByteArray} {k n : Nat} (h : k ≤ n) (hn : nameTo s n = true) : nameTo s k = true := by
  induction n with
  | zero => obtain rfl : k = 0 := by omega
            exact hn
  | succ m ih =>
    by_cases e : k = m + 1
    · subst e; exact hn
    · simp only [nameTo, Bool.and_eq_true] at hn
      exact ih (by omega) hn.1
theorem nameTo_succ {s : ByteArray} {k : Nat} (h : k < s.size) : nameTo s (k + 1) = (nameTo s k && decide (33 ≤ s[k].toNat ∧ s[k].toNat ≤ 126)) := by
  have e : s.data[k]? = some s[k] := by rw [Array.getElem?_eq_getElem h]; rfl
  rw [nameTo, e]
theorem nameTo_false {s : ByteArray} {k : Nat} (h : k < s.size) (hk : ¬ (33 ≤ s[k].toNat ∧ s[k].toNat ≤ 126)) : nameTo s s.size = false := by
  cases e : nameTo s s.size with
  | false => rfl
  | true =>
    have h2 := nameTo_mono (show k + 1 ≤ s.size by omega) e
    rw [nameTo_succ h] at h2
    simp at h2
    omega

theorem byte_ok {c : UInt8} : (33 ≤ c.toNat ∧ c.toNat ≤ 126) ↔ (33 ≤ (c.toNat : Int) ∧ (c.toNat : Int) ≤ 126) := by omega

set_option maxHeartbeats 1000000 in
theorem name_any (s : ByteArray) (w : World) (F : Nat) (hF : (True ∧ F = 32) ∨ F = 19) : Calls Tryd.prog F #[.string s] w fun e w' => e = .returned (.bool (nameOk s)) ∧ Below w.heap.size w w' := by
  by_cases h1 : 1 ≤ (s.size : Int) ∧ (s.size : Int) ≤ 60
  · have HV : Hid (nameOk s = nameTo s s.size) := by
      show nameOk s = nameTo s s.size
      unfold nameOk
      rw [show decide (1 ≤ s.size ∧ s.size ≤ 60) = true by simp; omega, Bool.true_and]
    obtain ⟨h1, h2⟩ := h1
    rcases hF with ⟨M, rfl⟩ | rfl
    all_goals
      first | (guard_hyp M; go_enter Tryd.func32, Tryd.ntmps32) | go_enter Tryd.func19, Tryd.ntmps19
      go_wp2
      first | (guard_hyp M; go_loopw [14] (fun i wr => ∃ k : Nat, k ≤ s.size ∧ i = .int .i64 k ∧ nameTo s k = true ∧ Below w.heap.size w wr) (fun i _ => s.size - (intOf i).toNat)) | go_loopw [3] (fun i wr => ∃ k : Nat, k ≤ s.size ∧ i = .int .i64 k ∧ nameTo s k = true ∧ Below w.heap.size w wr) (fun i _ => s.size - (intOf i).toNat)
      case atStart => exact ⟨0, by omega, rfl, rfl, Below.refl _ _⟩
      case round =>
        obtain ⟨k, hk, rfl, hok, hB⟩ := hrel
        have HB := hide hB
        have HK := hide hok
        clear hB hok
        by_cases hlt : k < s.size
        · by_cases p1 : 33 ≤ (s[k].toNat : Int)
          · by_cases p2 : (s[k].toNat : Int) ≤ 126
            · go_wp2
              exact ⟨⟨k + 1, by omega, by go_num, by rw [nameTo_succ hlt, HK.out]; simp; omega, HB⟩, by simp [intOf]; omega⟩
            · go_wp2
              go_ret
              exact ⟨ret_bool (by rw [HV.out, nameTo_false hlt (by omega)]), HB⟩
          · go_wp2
            go_ret
            exact ⟨ret_bool (by rw [HV.out, nameTo_false hlt (by omega)]), HB⟩
        · have e : k = s.size := by omega
          subst e
          go_wp2
          go_ret
          exact ⟨ret_bool (by rw [HV.out, HK.out]), HB.out⟩
  · rw [show nameOk s = false by unfold nameOk; rw [show decide (1 ≤ s.size ∧ s.size ≤ 60) = false by simp; omega, Bool.false_and]]
    by_cases h2 : 1 ≤ (s.size : Int)
    · have h3 : ¬ (s.size : Int) ≤ 60 := fun h => h1 ⟨h2, h⟩
      clear h1
      rcases hF with ⟨M, rfl⟩ | rfl
      all_goals
        first | (guard_hyp M; go_enter Tryd.func32, Tryd.ntmps32) | go_enter Tryd.func19, Tryd.ntmps19
        go_wp2
        go_ret
        exact ⟨rfl, Below.refl _ _⟩
    · clear h1
      rcases hF with ⟨M, rfl⟩ | rfl
      all_goals
        first | (guard_hyp M; go_enter Tryd.func32, Tryd.ntmps32) | go_enter Tryd.func19, Tryd.ntmps19
        go_wp2
        go_ret
        exact ⟨rfl, Below.refl _ _⟩
abbrev isName_any (s : ByteArray) (w : World) := name_any s w _ (.inl ⟨trivial, rfl⟩)
abbrev l1NameOk_any (s : ByteArray) (w : World) := name_any s w _ (.inr rfl)


end Go.Proofs.YtolpgafkojlkoabDoor.Vp
