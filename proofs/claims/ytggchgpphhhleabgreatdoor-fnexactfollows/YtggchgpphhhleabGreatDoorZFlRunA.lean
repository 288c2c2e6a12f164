/-
  spec: l4Run: rows of replies; where a run stops.
-/
import Derived.Test.YtggchgpphhhleabGreatDoorZFlAns
import Derived.Test.YtggchgpphhhleabGreatDoorZDePure
import Derived.Test.YtggchgpphhhleabGreatDoorZF
import Derived.Test.YtggchgpphhhleabGreatDoorZW
namespace Go.Proofs.YtggchgpphhhleabGreatDoor.Vp
open Go.RowKit

def replyV (y : Nat → Reply) (i : Nat) : List Value := [.bool (y i).has, .int .i64 (y i).code, .string (y i).text]
def repL (y : Nat → Reply) : Nat → List Value
  | 0 => []
  | k + 1 => repL y k ++ replyV y k
theorem repL_len (y : Nat → Reply) (k : Nat) : (repL y k).length = k * 3 := by
  induction k with
  | zero => rfl
  | succ k ih => simp [repL, replyV, ih]; omega
theorem repL_at (y : Nat → Reply) {i j : Nat} (hj : j < 3) : ∀ k, i < k → (repL y k)[i * 3 + j]? = (replyV y i)[j]?
  | 0, h => absurd h (Nat.not_lt_zero _)
  | k + 1, h => by
    rw [repL]
    by_cases e : i = k
    · subst e
      rw [List.getElem?_append_right (by rw [repL_len]; omega), repL_len, show i * 3 + j - i * 3 = j by omega]
    · rw [List.getElem?_append_left (by rw [repL_len]; omega)]
      exact repL_at y hj k (by omega)
theorem row_replies {w : World} {base g c k : Nat} {y : Nat → Reply} (h : w.ownsRow base 140 3 (.slice (some ⟨g, 0, none⟩) k c) k (repL y k)) : RowReply w g 0 k y := by
  rcases h.2 with ⟨hv, h0⟩ | ⟨g', cap, cur, hv, hb, hg, hc1, hc2, hc3, hc4⟩
  · simp at hv
  · simp only [Value.slice.injEq, Option.some.injEq, Addr.mk.injEq] at hv
    obtain ⟨⟨rfl, -⟩, -, rfl⟩ := hv
    have hlt : g < w.heap.size := by
      rcases Nat.lt_or_ge g w.heap.size with h1 | h1
      · exact h1
      · rw [Array.getElem?_eq_none h1] at hg; simp at hg
    have each : ∀ i j, i < k → j < 3 → w.cell? ⟨g, 0 + i * 3 + j, none⟩ = (replyV y i)[j]? := by
      intro i j hi hj
      have e1 : w.cell? ⟨g, 0 + i * 3 + j, none⟩ = cur[i * 3 + j]? := by simp [World.cell?, hg]
      have e2 : (cur.toList.take (k * 3))[i * 3 + j]? = (repL y k)[i * 3 + j]? := by rw [hc4]
      rw [List.getElem?_take, if_pos (by omega), Array.getElem?_toList, repL_at y hj k hi] at e2
      rw [e1, e2]
    refine ⟨hlt, fun i hi => ⟨?_, ?_, ?_⟩⟩
    · exact each i 0 hi (by omega)
    · exact each i 1 hi (by omega)
    · exact each i 2 hi (by omega)
theorem three_new (w : World) (x y z : Value) (t : TypeId) : ∀ j u, [x, y, z][j]? = some u → (w.alloc (.cells #[x, y, z] t)).cell? ((⟨w.heap.size, 0, none⟩ : Addr).add j) = some u := by
  intro j u hj
  match j, hj with
  | 0, hj => simp at hj; subst hj; simp [Addr.add]
  | 1, hj => simp at hj; subst hj; simp [Addr.add]
  | 2, hj => simp at hj; subst hj; simp [Addr.add]
theorem infoReply : (Tryz.prog.info? 140).map (fun i => (i.zero, i.size, i.bytes)) = some (some (.agg #[.bool false, .int .i64 0, .string ⟨#[]⟩]), 3, 32) := by kernel_rfl
theorem own_slice3 {w : World} {base n : Nat} {e : TypeId} {v : Value} {xs : List Value} (h : w.ownsRow base e 3 v n xs) (hn : 0 < n) : ∃ g c, v = .slice (some ⟨g, 0, none⟩) n c := by
  rcases h.2 with ⟨hv, h0⟩ | ⟨g, cap, cur, hv, _⟩
  · omega
  · exact ⟨g, cap, hv⟩
def slLen : Value → Nat
  | .slice _ n _ => n
  | _ => 0

theorem stop_from {f : Nat → Deed} {p : Nat} : ∀ k, k ≤ (f p).linksN → (∀ i, i < k → offK f p i = false) → stopK f p ((f p).linksN - k) k = stopAt f p
  | 0, _, _ => rfl
  | k + 1, hk, h => by
    have := stop_from (f := f) (p := p) k (by omega) fun i hi => h i (by omega)
    rw [← this, show (f p).linksN - k = ((f p).linksN - (k + 1)) + 1 by omega, stopK_go (h k (by omega))]
theorem stop_off {f : Nat → Deed} {p k : Nat} (hk : k < (f p).linksN) (h : ∀ i, i < k → offK f p i = false) (ho : offK f p k = true) : stopAt f p = k := by
  rw [← stop_from k (by omega) h, show (f p).linksN - k = ((f p).linksN - (k + 1)) + 1 by omega, stopK_at ho]
theorem stop_end {f : Nat → Deed} {p : Nat} (h : ∀ i, i < (f p).linksN → offK f p i = false) : stopAt f p = (f p).linksN := by
  rw [← stop_from (f p).linksN (Nat.le_refl _) h, Nat.sub_self]
  rfl
theorem code_off {f : Nat → Deed} {p k : Nat} (hk : k < (f p).linksN) (h : ∀ i, i < k → offK f p i = false) (ho : offK f p k = true) : codeR f p = 4 := by
  unfold codeR
  rw [stop_off hk h ho, if_pos hk]
theorem code_end {f : Nat → Deed} {p : Nat} (h : ∀ i, i < (f p).linksN → offK f p i = false) : codeR f p = if (turnK f p (f p).linksN).over = false then 4 else if (turnK f p (f p).linksN).code = (f p).code ∧ (turnK f p (f p).linksN).text.toList = (f p).text.toList then 0 else 5 := by
  unfold codeR
  rw [stop_end h, if_neg (Nat.lt_irrefl _)]
theorem nextA_is {f : Nat → Deed} {n p k : Nat} (hacc : accOk f n = true) (hp : p < n) (hk3 : (f p).kind = 3) (hk : k ≤ (f p).linksN) : nextA (f p).act (f p).actN (yOf f p) k = turnK f p k := by
  have hd : valid (f p).act (f p).actN = true ∧ (f p).linksN ≤ 200 := by
    rcases (accOk_deed hacc p hp).2 with h | h | h
    · omega
    · omega
    · exact ⟨h.2.2.2.1, h.2.2.2.2⟩
  have hr : repliesTo (yOf f p) k = true := repliesTo_of fun i hi => ansR_ok hacc fun ha => Nat.lt_trans (accOk_ask hacc p hp i (by omega) ha).2.1 hp
  unfold nextA turnK
  rw [if_neg (by rw [hd.1]; simp), if_neg (by omega), if_neg (by rw [hr]; simp)]

end Go.Proofs.YtggchgpphhhleabGreatDoor.Vp
