/-
  spec: Next.
-/
import Derived.Test.YtoaokmdhbagniaaDoorNxStepS
namespace Go.Proofs.YtoaokmdhbagniaaDoor.Vp
open Go.RowKit

def SoNext (f : Nat → Ins) (cnt : Nat) (y : Nat → Reply) (n : Nat) (T : Turn) (st : Nat) : SO → Prop
  | .over c x k => T = endT c x k
  | .wait a nm k => T = waitT a nm k
  | .go p k l s => k = st + 1 ∧ k ≤ 2000 ∧ nextP f cnt y n (2001 - k) p k l s = T ∧ p ≤ 2000 ∧ l ≤ 200 ∧ s.length ≤ 50 ∧ ∀ x ∈ s, x.size ≤ 2000
theorem stepP_fine2 {f : Nat → Ins} {cnt place steps looks : Nat} {stk : List ByteArray} (hl : stk.length ≤ 50) (hle : ∀ x ∈ stk, x.size ≤ 2000) (hlk : looks ≤ 200) (hok : okTo f cnt = true) (hc : cnt ≤ 200) : Fine (stepP f cnt place steps looks stk) looks := by
  unfold stepP
  split
  · trivial
  · rename_i h1
    split
    · trivial
    · split
      · trivial
      · rename_i h3
        have hi := ok_at hok (show place < cnt by omega)
        simp only [insOk, decide_eq_true_eq] at hi
        obtain ⟨i1, i2, i3, i4, i5⟩ := hi
        have hmt : mostN (f place).op ≤ 2000 := by unfold mostN; split <;> (try split) <;> omega
        have hmt2 : mostText (f place).op ≤ 2000 := by unfold mostText; split <;> omega
        exact performP_fine _ _ _ _ _ _ hl hle (by omega) (by omega) (by omega) hlk (by omega) (by omega) (by simpa using h3)
theorem stepP_place {f : Nat → Ins} {cnt place steps looks : Nat} {stk : List ByteArray} {a : Bool} {nm : ByteArray} {s : List ByteArray} (h : stepP f cnt place steps looks stk = .look a nm s) : place < cnt := by
  unfold stepP at h
  split at h
  · cases h
  · omega
theorem so_next {f : Nat → Ins} {cnt : Nat} {y : Nat → Reply} {n : Nat} {T : Turn} {p st l : Nat} {s : List ByteArray} (hst : st ≤ 2000) (hl : l ≤ 200) (hs : s.length ≤ 50) (hle : ∀ x ∈ s, x.size ≤ 2000) (hok : okTo f cnt = true) (hc : cnt ≤ 200) (hr : repliesTo y n = true)
    (hT : nextP f cnt y n (2001 - st) p st l s = T) : SoNext f cnt y n T st (sstepP f cnt y n p st l s) := by
  obtain ⟨j, hj⟩ : ∃ j, 2001 - st = j + 1 := ⟨2000 - st, by omega⟩
  rw [hj, nextP] at hT
  have hF := stepP_fine2 (place := p) (steps := st) hs hle hl hok hc
  unfold sstepP
  cases h : stepP f cnt p st l s with
  | over c x =>
    rw [h] at hT
    exact hT.symm
  | go s' p' =>
    rw [h] at hT hF
    obtain ⟨e1, e2⟩ := stepP_go h
    obtain ⟨f1, f2, f3⟩ := hF
    simp only [e1] at hT ⊢
    exact ⟨rfl, by omega, by rw [show 2001 - (st + 1) = j by omega]; exact hT, f3, hl, f1, f2⟩
  | look a nm s' =>
    rw [h] at hT hF
    obtain ⟨e1, e2⟩ := stepP_look h
    obtain ⟨f1, f2, f3, f4⟩ := hF
    have hp := stepP_place h
    simp only [e1] at hT ⊢
    simp only [soOf, afterLook]
    by_cases h1 : n ≤ l
    · rw [if_pos h1] at hT ⊢
      exact hT.symm
    · rw [if_neg h1] at hT ⊢
      by_cases h2 : a = false
      · rw [if_pos h2] at hT ⊢
        refine ⟨rfl, by omega, by rw [show 2001 - (st + 1) = j by omega]; exact hT, by omega, by omega, by simp; omega, fun x hx => ?_⟩
        rcases List.mem_cons.1 hx with rfl | hx
        · exact flagT_size _
        · exact f2 x hx
      · rw [if_neg h2] at hT ⊢
        by_cases h3 : (y l).has = false
        · rw [if_pos h3] at hT ⊢
          exact hT.symm
        · rw [if_neg h3] at hT ⊢
          by_cases h4 : (y l).code = 0
          · rw [if_pos h4] at hT ⊢
            refine ⟨rfl, by omega, by rw [show 2001 - (st + 1) = j by omega]; exact hT, by omega, by omega, by simp; omega, fun x hx => ?_⟩
            rcases List.mem_cons.1 hx with rfl | hx
            · exact (reply_at hr (show l < n by omega)).1
            · exact f2 x hx
          · rw [if_neg h4] at hT ⊢
            exact hT.symm
theorem Ten.put {w : World} {g : Nat} {v0 v1 v2 v3 v4 v5 v6 v7 v8 v9 : Value} (h : Ten w g v0 v1 v2 v3 v4 v5 v6 v7 v8 v9) (u0 u1 u2 u3 u4 u5 u6 u7 u8 u9 : Value) : Ten ((((((((((w.setCell ⟨g, 0, none⟩ u0).setCell ⟨g, 1, none⟩ u1).setCell ⟨g, 2, none⟩ u2).setCell ⟨g, 3, none⟩ u3).setCell ⟨g, 4, none⟩ u4).setCell ⟨g, 5, none⟩ u5).setCell ⟨g, 6, none⟩ u6).setCell ⟨g, 7, none⟩ u7).setCell ⟨g, 8, none⟩ u8).setCell ⟨g, 9, none⟩ u9) g u0 u1 u2 u3 u4 u5 u6 u7 u8 u9 :=
  (((((((((h.set0 u0).set1 u1).set2 u2).set3 u3).set4 u4).set5 u5).set6 u6).set7 u7).set8 u8).set9 u9
theorem only_ten {g : Nat} {u w : World} (h : Only g u w) (u0 u1 u2 u3 u4 u5 u6 u7 u8 u9 : Value) : Only g u ((((((((((w.setCell ⟨g, 0, none⟩ u0).setCell ⟨g, 1, none⟩ u1).setCell ⟨g, 2, none⟩ u2).setCell ⟨g, 3, none⟩ u3).setCell ⟨g, 4, none⟩ u4).setCell ⟨g, 5, none⟩ u5).setCell ⟨g, 6, none⟩ u6).setCell ⟨g, 7, none⟩ u7).setCell ⟨g, 8, none⟩ u8).setCell ⟨g, 9, none⟩ u9) :=
  bset (bset (bset (bset (bset (bset (bset (bset (bset (bset h 0 u0) 1 u1) 2 u2) 3 u3) 4 u4) 5 u5) 6 u6) 7 u7) 8 u8) 9 u9

/-- How the specification's run stands in its box g. -/
def Stands2 (w : World) (g base : Nat) (f : Nat → Ins) (cnt : Nat) (y : Nat → Reply) (n : Nat) (T : Turn) (k : Nat) : Prop :=
  (∃ p st l s a cap, Ten w g (.int .i64 (p : Nat)) (.slice a (List.length s) cap) (.int .i64 (st : Nat)) (.int .i64 (l : Nat)) (.bool false) (.int .i64 0) (.string ⟨#[]⟩) (.bool false) (.string ⟨#[]⟩) (.bool false) ∧ w.ownsRow base 9 1 (.slice a s.length cap) s.length (strs s) ∧
    st ≤ 2000 ∧ nextP f cnt y n (2001 - st) p st l s = T ∧ p ≤ 2000 ∧ l ≤ 200 ∧ s.length ≤ 50 ∧ (∀ x ∈ s, x.size ≤ 2000) ∧ 2002 - st ≤ k) ∨
  (∃ at_ sv lk c x, ∃ st : Nat, Ten w g at_ sv (.int .i64 st) lk (.bool true) (.int .i64 c) (.string x) (.bool false) (.string ⟨#[]⟩) (.bool false) ∧ T = endT c x st) ∨
  (∃ at_ sv lk a nm, ∃ st : Nat, Ten w g at_ sv (.int .i64 st) lk (.bool false) (.int .i64 0) (.string ⟨#[]⟩) (.bool a) (.string nm) (.bool true) ∧ T = waitT a nm st)

end Go.Proofs.YtoaokmdhbagniaaDoor.Vp
