/-
  impl: sourceNames, targetNames: rows of names.
-/
import Derived.Test.YtolpgafkojlkoaaDoorCsImpl
import Derived.Test.YtolpgafkojlkoaaDoorDOne
namespace Go.Proofs.YtolpgafkojlkoaaDoor.Vp
open Go.RowKit

def rowL (g : Nat → ByteArray) (n : Nat) : List Value := (List.range n).map fun i => .string (g i)
theorem rowL_succ (g : Nat → ByteArray) (n : Nat) : rowL g (n + 1) = rowL g n ++ [.string (g n)] := by simp [rowL, List.range_succ]
/-- Owned texts as a slice. -/
theorem own_sl {w : World} {base n : Nat} {e : TypeId} {v : Value} {g : Nat → ByteArray} (h : w.ownsRow base e 1 v n (rowL g n)) : ∃ a cap, v = .slice a n cap ∧ SlStr w a n g := by
  rcases h.2 with ⟨rfl, rfl⟩ | ⟨b, cap, cur, rfl, hb, hg, _⟩
  · exact ⟨none, 0, rfl, .inl rfl⟩
  · refine ⟨_, cap, rfl, .inr ⟨b, 0, rfl, lt_of_block hg, fun i hi => ?_⟩⟩
    have := h.cells (g := b) rfl i (.string (g i)) (by simp [rowL, hi])
    rw [Nat.zero_add]
    have ha : (⟨b, 0, none⟩ : Addr).add i = ⟨b, i, none⟩ := by
      unfold Addr.add
      split <;> simp_all
    rwa [ha] at this

set_option maxRecDepth 100000 in
set_option maxHeartbeats 2000000 in
theorem sourceNames_row (b off n c0 : Nat) (v1 : Value) (a1 : Option Addr) (n1 c1 : Nat) (hv1 : v1 = .slice a1 n1 c1) (f : Nat → Source) (w : World) (hn : (n : Int) ≤ 1048576) (hr : RowSource w b off n f) :
    Calls Tryd.prog 48 #[.agg #[.slice (some ⟨b, off, none⟩) n c0, v1]] w fun e w' => ∃ a cap, e = .returned (.slice a n cap) ∧ SlStr w' a n (fun i => (f i).name) ∧ Below w.heap.size w w' := by
  subst hv1
  have HR := hide hr
  clear hr
  obtain ⟨i0', hi, hy0, hy1, hy2⟩ := info_parts infoString
  have A0 := hide ((Below.refl w.heap.size w).alloc (Nat.le_refl _) (.cells #[.slice (some ⟨b, off, none⟩) n c0, .slice a1 n1 c1] 46))
  go_enter Tryd.func48, Tryd.ntmps48
  go_wp2
  go_loopw [3, 9] (fun v i wr => ∃ k : Nat, k ≤ n ∧ i = .int .i64 k ∧ Hid (wr.ownsRow w.heap.size 9 1 v k (rowL (fun i => (f i).name) k)) ∧ Below w.heap.size w wr) (fun _ i _ => n - (intOf i).toNat)
  case atStart => exact ⟨0, by omega, rfl, World.ownsRow_nil _ _ _ _, A0⟩
  case round =>
    obtain ⟨k, hk, rfl, OW, hB⟩ := hrel
    have HB := hide hB
    have hsz : w.heap.size ≤ wr.heap.size := hB.size
    clear hB
    by_cases hlt : k < n
    · obtain ⟨d0, d1⟩ := (HR.2 k hlt).below HB HR.1
      go_wp2_with (at_builtin; refine wpList_append_own _ rfl (.tmp 13) (.tmp 16) 22 rfl w.heap.size 9 i0' (.string ⟨#[]⟩) 1 16 Tryd.underlying22 hi hy0 hy1 hy2 rfl (by decide) _ k (rowL (fun i => (f i).name) k) (by simp [Act.eval]) ((OW.alloc _).alloc _) ⟨wr.heap.size + 1, 0, none⟩ 1 1 [.string (f k).name] (by simp [Act.eval]) rfl (by rw [show wr.heap.size + 1 = (wr.alloc (.cells #[.string (f k).name, .string (f k).text] 76)).heap.size by simp]; exact one_new _ _ _) (by simp [Value.oneCell']) (by unfold maxLen; omega) (by omega) (by simp; omega) ?_; intro v' w2 hown hgrow hnil; have O2 := hide hown; have B2 := hide (Below.grown ((HB.alloc hsz (.cells #[.string (f k).name, .string (f k).text] 76)).alloc (by simp; omega) (.cells #[.string (f k).name] 9)) hgrow (by simp; omega) (fun j e => (OW.lt j e).1)); clear hown hgrow hnil)
      exact ⟨⟨k + 1, by omega, by go_num, by show World.ownsRow _ _ _ _ _ _ _; rw [rowL_succ]; exact O2, B2⟩, by simp [intOf]; omega⟩
    · have e : k = n := by omega
      subst e
      obtain ⟨a, cap, rfl, hsl⟩ := own_sl OW
      have HSl := hide hsl
      clear hsl
      go_wp2
      go_ret
      exact ⟨a, cap, rfl, HSl, HB⟩

set_option maxHeartbeats 1000000 in
theorem sourceNames_nil (a0 : Option Addr) (c0 : Nat) (a1 : Option Addr) (n1 c1 : Nat) (g : Nat → ByteArray) (w : World) :
    Calls Tryd.prog 48 #[.agg #[.slice a0 0 c0, .slice a1 n1 c1]] w fun e w' => ∃ a cap, e = .returned (.slice a 0 cap) ∧ SlStr w' a 0 g ∧ Below w.heap.size w w' := by
  have A0 := hide ((Below.refl w.heap.size w).alloc (Nat.le_refl _) (.cells #[.slice a0 0 c0, .slice a1 n1 c1] 46))
  go_enter Tryd.func48, Tryd.ntmps48
  go_wp2
  go_loopw [3, 9] (fun v i wr => v = .slice none 0 0 ∧ i = .int .i64 0 ∧ Below w.heap.size w wr) (fun _ _ _ => 0)
  case atStart => exact ⟨rfl, rfl, A0⟩
  case round =>
    obtain ⟨rfl, rfl, hB⟩ := hrel
    have HB := hide hB
    clear hB
    go_wp2
    go_ret
    exact ⟨none, 0, rfl, .inl rfl, HB⟩
theorem sourceNames_any (a0 : Option Addr) (n c0 : Nat) (a1 : Option Addr) (n1 c1 : Nat) (f : Nat → Source) (w : World) (hn : (n : Int) ≤ 1048576) (hr : SlSource w a0 n f) :
    Calls Tryd.prog 48 #[.agg #[.slice a0 n c0, .slice a1 n1 c1]] w fun e w' => ∃ a cap, e = .returned (.slice a n cap) ∧ SlStr w' a n (fun i => (f i).name) ∧ Below w.heap.size w w' := by
  rcases hr with rfl | ⟨b, off, rfl, hr⟩
  · exact sourceNames_nil a0 c0 a1 n1 c1 _ w
  · exact sourceNames_row b off n c0 _ a1 n1 c1 rfl f w hn hr

set_option maxRecDepth 100000 in
set_option maxHeartbeats 2000000 in
theorem targetNames_row (b off n c0 : Nat) (v1 : Value) (a1 : Option Addr) (n1 c1 : Nat) (hv1 : v1 = .slice a1 n1 c1) (f : Nat → Target) (w : World) (hn : (n : Int) ≤ 1048576) (hr : RowTarget w b off n f) :
    Calls Tryd.prog 49 #[.agg #[v1, .slice (some ⟨b, off, none⟩) n c0]] w fun e w' => ∃ a cap, e = .returned (.slice a n cap) ∧ SlStr w' a n (fun i => (f i).name) ∧ Below w.heap.size w w' := by
  subst hv1
  have HR := hide hr
  clear hr
  obtain ⟨i0', hi, hy0, hy1, hy2⟩ := info_parts infoString
  have A0 := hide ((Below.refl w.heap.size w).alloc (Nat.le_refl _) (.cells #[.slice a1 n1 c1, .slice (some ⟨b, off, none⟩) n c0] 46))
  go_enter Tryd.func49, Tryd.ntmps49
  go_wp2
  go_loopw [3, 9] (fun v i wr => ∃ k : Nat, k ≤ n ∧ i = .int .i64 k ∧ Hid (wr.ownsRow w.heap.size 9 1 v k (rowL (fun i => (f i).name) k)) ∧ Below w.heap.size w wr) (fun _ i _ => n - (intOf i).toNat)
  case atStart => exact ⟨0, by omega, rfl, World.ownsRow_nil _ _ _ _, A0⟩
  case round =>
    obtain ⟨k, hk, rfl, OW, hB⟩ := hrel
    have HB := hide hB
    have hsz : w.heap.size ≤ wr.heap.size := hB.size
    clear hB
    by_cases hlt : k < n
    · obtain ⟨d0, ka, kc, d1, _⟩ := (HR.2 k hlt).below HB (Nat.le_refl _) HR.1
      go_wp2_with (at_builtin; refine wpList_append_own _ rfl (.tmp 13) (.tmp 16) 22 rfl w.heap.size 9 i0' (.string ⟨#[]⟩) 1 16 Tryd.underlying22 hi hy0 hy1 hy2 rfl (by decide) _ k (rowL (fun i => (f i).name) k) (by simp [Act.eval]) ((OW.alloc _).alloc _) ⟨wr.heap.size + 1, 0, none⟩ 1 1 [.string (f k).name] (by simp [Act.eval]) rfl (by rw [show wr.heap.size + 1 = (wr.alloc (.cells #[.string (f k).name, .slice ka (f k).actN kc] 78)).heap.size by simp]; exact one_new _ _ _) (by simp [Value.oneCell']) (by unfold maxLen; omega) (by omega) (by simp; omega) ?_; intro v' w2 hown hgrow hnil; have O2 := hide hown; have B2 := hide (Below.grown ((HB.alloc hsz (.cells #[.string (f k).name, .slice ka (f k).actN kc] 78)).alloc (by simp; omega) (.cells #[.string (f k).name] 9)) hgrow (by simp; omega) (fun j e => (OW.lt j e).1)); clear hown hgrow hnil)
      exact ⟨⟨k + 1, by omega, by go_num, by show World.ownsRow _ _ _ _ _ _ _; rw [rowL_succ]; exact O2, B2⟩, by simp [intOf]; omega⟩
    · have e : k = n := by omega
      subst e
      obtain ⟨a, cap, rfl, hsl⟩ := own_sl OW
      have HSl := hide hsl
      clear hsl
      go_wp2
      go_ret
      exact ⟨a, cap, rfl, HSl, HB⟩

set_option maxHeartbeats 1000000 in
theorem targetNames_nil (a0 : Option Addr) (c0 : Nat) (a1 : Option Addr) (n1 c1 : Nat) (g : Nat → ByteArray) (w : World) :
    Calls Tryd.prog 49 #[.agg #[.slice a1 n1 c1, .slice a0 0 c0]] w fun e w' => ∃ a cap, e = .returned (.slice a 0 cap) ∧ SlStr w' a 0 g ∧ Below w.heap.size w w' := by
  have A0 := hide ((Below.refl w.heap.size w).alloc (Nat.le_refl _) (.cells #[.slice a1 n1 c1, .slice a0 0 c0] 46))
  go_enter Tryd.func49, Tryd.ntmps49
  go_wp2
  go_loopw [3, 9] (fun v i wr => v = .slice none 0 0 ∧ i = .int .i64 0 ∧ Below w.heap.size w wr) (fun _ _ _ => 0)
  case atStart => exact ⟨rfl, rfl, A0⟩
  case round =>
    obtain ⟨rfl, rfl, hB⟩ := hrel
    have HB := hide hB
    clear hB
    go_wp2
    go_ret
    exact ⟨none, 0, rfl, .inl rfl, HB⟩
theorem targetNames_any (a0 : Option Addr) (n c0 : Nat) (a1 : Option Addr) (n1 c1 : Nat) (f : Nat → Target) (w : World) (hn : (n : Int) ≤ 1048576) (hr : SlTarget w a0 n f) :
    Calls Tryd.prog 49 #[.agg #[.slice a1 n1 c1, .slice a0 n c0]] w fun e w' => ∃ a cap, e = .returned (.slice a n cap) ∧ SlStr w' a n (fun i => (f i).name) ∧ Below w.heap.size w w' := by
  rcases hr with rfl | ⟨b, off, rfl, hr⟩
  · exact targetNames_nil a0 c0 a1 n1 c1 _ w
  · exact targetNames_row b off n c0 _ a1 n1 c1 rfl f w hn hr

end Go.Proofs.YtolpgafkojlkoaaDoor.Vp
