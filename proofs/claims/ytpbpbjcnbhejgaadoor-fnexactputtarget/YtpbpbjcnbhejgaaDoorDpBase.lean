/-
  Drop: what it answers.
-/
import Derived.Test.YtpbpbjcnbhejgaaDoorWoRow
import Derived.Test.YtpbpbjcnbhejgaaDoorCsSpec2
namespace Go.Proofs.YtpbpbjcnbhejgaaDoor.Vp
open Go.RowKit

def dropC (n0 : Nat) (f0 : Nat → Source) (n1 : Nat) (f1 : Nat → Target) (t : ByteArray) : Int :=
  if checkC n0 f0 n1 f1 ≠ 0 then 1 else if nameOk t = false then 2 else if (isIn (nm0 f0) n0 t || isIn (nm1 f1) n1 t) = false then 4 else 0
def dropS (n0 : Nat) (f0 : Nat → Source) (n1 : Nat) (f1 : Nat → Target) (t : ByteArray) : List Source := if dropC n0 f0 n1 f1 t = 0 then keepS f0 t n0 else []
def dropT (n0 : Nat) (f0 : Nat → Source) (n1 : Nat) (f1 : Nat → Target) (t : ByteArray) : List Target := if dropC n0 f0 n1 f1 t = 0 then keepT f1 t n1 else []
theorem anyTo_none {p : Nat → Bool} {n i : Nat} (h : anyTo p n = false) (hi : i < n) : p i = false := by
  cases e : p i with
  | false => rfl
  | true => rw [anyTo_true hi e] at h; cases h
theorem check_zero {n0 : Nat} {f0 : Nat → Source} {n1 : Nat} {f1 : Nat → Target} (h : checkC n0 f0 n1 f1 = 0) : ascTo (nm0 f0) n0 = true ∧ ascTo (nm1 f1) n1 = true ∧ ∀ i, i < n1 → 1 ≤ (f1 i).actN := by
  unfold checkC at h
  split at h; · omega
  split at h; · omega
  split at h; · omega
  split at h; · omega
  split at h; · omega
  split at h; · omega
  split at h; · omega
  split at h; · omega
  rename_i h3 h4 _ _ h7
  refine ⟨by simpa using h3, by simpa using h4, fun i hi => ?_⟩
  have h8 := anyTo_none (by simpa using h7) hi
  have h9 : valid (f1 i).act (f1 i).actN = true := by simpa [wrongA] using h8
  have := (valid_parts h9).2.1
  omega
theorem tRow_mono {w : World} {base base' : Nat} {v : Value} {R : List TR} (h : TRow w base v R) (hb : base' ≤ base) : TRow w base' v R := by
  refine ⟨own_mono h.own hb, fun r hr => ?_, h.up⟩
  obtain ⟨h1, h2, h3, h4⟩ := h.act r hr
  exact ⟨h1, h2, h3, by omega⟩
/-- Two boxes: the argument, the answer. -/
structure Pair (w : World) (h : Nat) (p0 p1 : Value) : Prop where
  lt : h + 1 < w.heap.size
  a0 : w.cell? ⟨h, 0, none⟩ = some p0
  a1 : w.cell? ⟨h, 1, none⟩ = some p1
  r0 : w.cell? ⟨h + 1, 0, none⟩ = some (.slice none 0 0) ∧ w.frozen? ⟨h + 1, 0, none⟩ = false
  r1 : w.cell? ⟨h + 1, 1, none⟩ = some (.slice none 0 0) ∧ w.frozen? ⟨h + 1, 1, none⟩ = false
theorem Pair.lt' {w : World} {h : Nat} {p0 p1 : Value} (b : Pair w h p0 p1) : h + 2 ≤ w.heap.size := b.lt
theorem Pair.below {w w' : World} {h B : Nat} {p0 p1 : Value} (b : Pair w h p0 p1) (hb : Below B w w') (hB : h + 2 ≤ B) : Pair w' h p0 p1 := by
  have c : ∀ k o, k < B → w'.cell? ⟨k, o, none⟩ = w.cell? ⟨k, o, none⟩ := fun k o hk => hb.cell (p := ⟨k, o, none⟩) hk
  have f : ∀ k o, k < B → w'.frozen? ⟨k, o, none⟩ = w.frozen? ⟨k, o, none⟩ := fun k o hk => hb.frozen (p := ⟨k, o, none⟩) hk
  exact ⟨Nat.lt_of_lt_of_le b.lt hb.size, (c _ _ (by omega)).trans b.a0, (c _ _ (by omega)).trans b.a1, ⟨(c _ _ (by omega)).trans b.r0.1, (f _ _ (by omega)).trans b.r0.2⟩, ⟨(c _ _ (by omega)).trans b.r1.1, (f _ _ (by omega)).trans b.r1.2⟩⟩
theorem pair_new (w : World) (p0 p1 : Value) (t : TypeId) : Pair ((w.alloc (.cells #[p0, p1] t)).alloc (.cells #[.slice none 0 0, .slice none 0 0] t)) w.heap.size p0 p1 := by
  have A : Below (w.heap.size + 1) (w.alloc (.cells #[p0, p1] t)) ((w.alloc (.cells #[p0, p1] t)).alloc (.cells #[.slice none 0 0, .slice none 0 0] t)) := (Below.refl _ _).alloc (by simp) _
  have hz : (w.alloc (.cells #[p0, p1] t)).heap.size = w.heap.size + 1 := by simp
  refine ⟨by simp, (A.cell (p := ⟨w.heap.size, 0, none⟩) (Nat.lt_succ_self _)).trans (by simp), (A.cell (p := ⟨w.heap.size, 1, none⟩) (Nat.lt_succ_self _)).trans (by simp), ⟨?_, ?_⟩, ⟨?_, ?_⟩⟩
  all_goals
    rw [← hz]
    clear A hz
    generalize w.alloc (.cells #[p0, p1] t) = W
    simp

set_option maxHeartbeats 1000000 in
theorem l2Source_row (b off n0 c0 : Nat) (a1 : Option Addr) (n1 c1 : Nat) (f0 : Nat → Source) (t : ByteArray) (w : World) (hn0 : (n0 : Int) ≤ 1048576) (hv0 : RowSource w b off n0 f0) :
    Calls Tryd.prog 76 #[.agg #[.slice (some ⟨b, off, none⟩) n0 c0, .slice a1 n1 c1], .string t] w fun e w' => ∃ r : Int, e = .returned (.int .i64 r) ∧ decide (0 ≤ r) = isIn (nm0 f0) n0 t ∧ Below w.heap.size w w' := by
  have A0 := hide ((Below.refl w.heap.size w).alloc (Nat.le_refl _) (.cells #[.slice (some ⟨b, off, none⟩) n0 c0, .slice a1 n1 c1] 42))
  have V0 := hide (hv0.below A0.out (Nat.le_refl _))
  have k1 : (w.alloc (.cells #[.slice (some ⟨b, off, none⟩) n0 c0, .slice a1 n1 c1] 42)).cell? ⟨w.heap.size, 0, none⟩ = some (.slice (some ⟨b, off, none⟩) n0 c0) := by simp
  clear hv0
  go_enter Tryd.func76, Tryd.ntmps76
  go_wp2
  generalize w.alloc (.cells #[.slice (some ⟨b, off, none⟩) n0 c0, .slice a1 n1 c1] 42) = W at A0 V0 k1 ⊢
  go_loop [5] (fun i => ∃ k : Nat, k ≤ n0 ∧ i = .int .i64 k ∧ Hid (isIn (nm0 f0) k t = false)) (fun i => n0 - (intOf i).toNat)
  case atStart => exact ⟨0, by omega, rfl, rfl⟩
  case round =>
    obtain ⟨k, hk, rfl, HK⟩ := hrel
    by_cases hlt : k < n0
    · obtain ⟨d0, d1⟩ := V0.out.2 k hlt
      cases hb : ((f0 k).name.toList == t.toList) with
      | true =>
        have HB := hide hb
        go_wp2
        go_ret
        exact ⟨k, rfl, by rw [isIn_true (g := nm0 f0) hlt HB.out]; simp, A0.out⟩
      | false =>
        have HB := hide hb
        go_wp2
        exact ⟨⟨k + 1, by omega, by go_num, by show isIn (nm0 f0) (k + 1) t = false; rw [isIn_succ, HK.out]; exact HB.out⟩, by simp [intOf]; omega⟩
    · have e : k = n0 := by omega
      subst e
      go_wp2
      go_ret
      exact ⟨-1, rfl, by rw [HK.out]; rfl, A0.out⟩
set_option maxHeartbeats 1000000 in
theorem l2Source_nil (a0 : Option Addr) (c0 : Nat) (a1 : Option Addr) (n1 c1 : Nat) (g : Nat → ByteArray) (t : ByteArray) (w : World) :
    Calls Tryd.prog 76 #[.agg #[.slice a0 0 c0, .slice a1 n1 c1], .string t] w fun e w' => ∃ r : Int, e = .returned (.int .i64 r) ∧ decide (0 ≤ r) = isIn g 0 t ∧ Below w.heap.size w w' := by
  have A0 := hide ((Below.refl w.heap.size w).alloc (Nat.le_refl _) (.cells #[.slice a0 0 c0, .slice a1 n1 c1] 42))
  go_enter Tryd.func76, Tryd.ntmps76
  go_wp2
  go_loop [5] (fun i => i = .int .i64 0) (fun _ => 0)
  case atStart => rfl
  case round =>
    subst hrel
    go_wp2
    go_ret
    exact ⟨-1, rfl, by rw [isIn_zero]; rfl, A0.out⟩
theorem l2Source_any (a0 : Option Addr) (n0 c0 : Nat) (a1 : Option Addr) (n1 c1 : Nat) (f0 : Nat → Source) (t : ByteArray) (w : World) (hn0 : (n0 : Int) ≤ 1048576) (hv0 : SlSource w a0 n0 f0) :
    Calls Tryd.prog 76 #[.agg #[.slice a0 n0 c0, .slice a1 n1 c1], .string t] w fun e w' => ∃ r : Int, e = .returned (.int .i64 r) ∧ decide (0 ≤ r) = isIn (nm0 f0) n0 t ∧ Below w.heap.size w w' := by
  rcases hv0 with rfl | ⟨b, off, rfl, hr⟩
  · exact l2Source_nil a0 c0 a1 n1 c1 (nm0 f0) t w
  · exact l2Source_row b off n0 c0 a1 n1 c1 f0 t w hn0 hr

end Go.Proofs.YtpbpbjcnbhejgaaDoor.Vp
