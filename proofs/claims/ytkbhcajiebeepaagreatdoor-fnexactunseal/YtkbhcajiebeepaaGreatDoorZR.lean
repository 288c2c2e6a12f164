/-
  Put together of: FoPure.
-/
import Derived.Test.YtkbhcajiebeepaaGreatDoorZJ
import Derived.Test.YtkbhcajiebeepaaGreatDoorZM

/-
  What FormAccount answers.
-/
namespace Go.Proofs.YtkbhcajiebeepaaGreatDoor.Vp
open Go.RowKit

/-- a link's line, without its newline. -/
def linkT (l : Link) : List UInt8 :=
  if l.ask = true then [97, 115, 107, 32] ++ l.name.data.toList ++ [32] ++ Lib.decDigits l.at_.toNat else [104, 97, 115, 32] ++ l.name.data.toList ++ [32] ++ (if l.has = true then [49] else [48])
def doT (x : Ins) : List UInt8 := [100, 111, 32] ++ lineB x.op x.s.data.toList x.n
def dosTo (g : Nat → Ins) : Nat → List UInt8
  | 0 => []
  | k + 1 => dosTo g k ++ doT (g k) ++ [10]
def lnksTo (g : Nat → Link) : Nat → List UInt8
  | 0 => []
  | k + 1 => lnksTo g k ++ linkT (g k) ++ [10]
def srcT (d : Deed) : List UInt8 := [115, 111, 117, 114, 99, 101, 32] ++ d.name.data.toList ++ [32] ++ quoteB d.text.data.toList
def noneT (d : Deed) : List UInt8 := [110, 111, 110, 101, 32] ++ d.name.data.toList
def headT (d : Deed) : List UInt8 := [116, 97, 114, 103, 101, 116, 32] ++ d.name.data.toList ++ [32] ++ Lib.decDigits d.code.toNat ++ [32] ++ quoteB d.text.data.toList
def tgtT (d : Deed) : List UInt8 := headT d ++ [10] ++ dosTo d.act d.actN ++ lnksTo d.links d.linksN ++ [101, 110, 100, 10]
/-- a deed's lines. -/
def deedT (d : Deed) : List UInt8 := if d.kind = 1 then srcT d ++ [10] else if d.kind = 2 then noneT d ++ [10] else tgtT d
def formTo (f : Nat → Deed) (n : Nat) : Nat → List UInt8
  | 0 => [97, 99, 99, 111, 117, 110, 116, 32] ++ Lib.decDigits n ++ [10]
  | k + 1 => formTo f n k ++ deedT (f k)
def formB (f : Nat → Deed) (n : Nat) : List UInt8 := if accOk f n = true then (if (formTo f n n).length ≤ 300000 then formTo f n n else []) else []

theorem dec_le (n : Nat) (h : n ≤ 9223372036854775807) : (Lib.decDigits n).length ≤ 21 := by rw [← Lib.itoa_nonneg]; exact Lib.itoa_length_le _ (by omega) (by omega)
theorem nameOk_size {s : ByteArray} (h : nameOk s = true) : 1 ≤ s.size ∧ s.size ≤ 60 := by
  unfold nameOk at h
  rw [Bool.and_eq_true, decide_eq_true_eq] at h
  exact h.1
theorem size_list (s : ByteArray) : s.data.toList.length = s.size := by simp
theorem linkOk_size {f : Nat → Deed} {p : Nat} {l : Link} (h : linkOk f p l = true) : l.name.size ≤ 60 ∧ 0 ≤ l.at_ ∧ l.at_ ≤ p := by
  unfold linkOk at h
  rw [Bool.and_eq_true] at h
  refine ⟨(nameOk_size h.1).2, ?_⟩
  split at h
  · simp only [Bool.and_eq_true, decide_eq_true_eq] at h
    omega
  · simp only [decide_eq_true_eq] at h
    omega
theorem linkT_le {f : Nat → Deed} {p : Nat} {l : Link} (h : linkOk f p l = true) (hp : p ≤ 400) : (linkT l).length ≤ 100 := by
  obtain ⟨h1, h2, h3⟩ := linkOk_size h
  have h4 := dec_le l.at_.toNat (by omega)
  have h5 := size_list l.name
  unfold linkT
  split
  · simp only [List.length_append, List.length_cons, List.length_nil]
    omega
  · split <;> simp only [List.length_append, List.length_cons, List.length_nil] <;> omega
theorem doT_le {x : Ins} (h : insOk x.op x.s.size x.n = true) : (doT x).length ≤ 6013 := by
  have := lineB_le _ _ _ h
  unfold doT
  simp only [List.length_append, List.length_cons, List.length_nil]
  omega
theorem dosTo_le {g : Nat → Ins} {n : Nat} (h : okTo g n = true) : ∀ k, k ≤ n → (dosTo g k).length ≤ 6014 * k := by
  intro k
  induction k with
  | zero => intro _; simp [dosTo]
  | succ k ih =>
    intro hk
    have h1 := ih (by omega)
    have h2 := doT_le (ok_at h (show k < n by omega))
    simp only [dosTo, List.length_append, List.length_cons, List.length_nil]
    omega
theorem lnksTo_le {f : Nat → Deed} {p : Nat} {x : Deed} {n : Nat} (h : linksOk f p x n = true) (hp : p ≤ 400) : ∀ k, k ≤ n → (lnksTo x.links k).length ≤ 101 * k := by
  intro k
  induction k with
  | zero => intro _; simp [lnksTo]
  | succ k ih =>
    intro hk
    have h1 := ih (by omega)
    have h2 := linkT_le (linksOk_at h k (by omega)) hp
    simp only [lnksTo, List.length_append, List.length_cons, List.length_nil]
    omega
/-- what a valid account says of each deed, as FormAccount wants it. -/
theorem accOk_form {f : Nat → Deed} {n : Nat} (h : accOk f n = true) : ∀ p, p < n → (f p).name.size ≤ 60 ∧ (f p).text.size ≤ 2000 ∧ ((f p).kind = 1 ∨ (f p).kind = 2 ∨ (f p).kind = 3 ∧ 0 ≤ (f p).code ∧ (f p).code ≤ 5 ∧ okTo (f p).act (f p).actN = true ∧ (f p).actN ≤ 200 ∧ (f p).linksN ≤ 200 ∧ linksOk f p (f p) (f p).linksN = true) := by
  intro p hp
  have h1 := firstNo_ok (accOk_n h).2.2 p hp
  simp only [deedOk, Bool.and_eq_true, kindOk, decide_eq_true_eq] at h1
  obtain ⟨⟨h0, h00⟩, h2⟩ := h1
  refine ⟨(nameOk_size h0).2, h00, ?_⟩
  split at h2
  · rename_i hk
    exact .inl hk
  · split at h2
    · rename_i hk
      exact .inr (.inl hk)
    · split at h2
      · rename_i hk
        simp only [targetOk, Bool.and_eq_true, decide_eq_true_eq] at h2
        obtain ⟨⟨⟨⟨a1, a2⟩, a3⟩, a4⟩, a5⟩ := h2
        obtain ⟨b1, b2, b3⟩ := valid_parts a3
        exact .inr (.inr ⟨hk, a1, a2, b1, by omega, a4, a5⟩)
      · simp at h2
theorem deedT_le {f : Nat → Deed} {n : Nat} (h : accOk f n = true) : ∀ p, p < n → (deedT (f p)).length ≤ 1300000 := by
  intro p hp
  obtain ⟨h1, h2, h3⟩ := accOk_form h p hp
  have hn := accOk_n h
  have q1 := size_list (f p).name
  have q2 := quoteB_le (f p).text.data.toList
  rw [size_list] at q2
  unfold deedT
  split
  · simp only [srcT, List.length_append, List.length_cons, List.length_nil]
    omega
  · split
    · simp only [noneT, List.length_append, List.length_cons, List.length_nil]
      omega
    · rcases h3 with h3 | h3 | ⟨_, c1, c2, c3, c4, c5, c6⟩
      · omega
      · omega
      · have d1 := dosTo_le c3 _ (Nat.le_refl _)
        have d2 := lnksTo_le c6 (by omega) _ (Nat.le_refl _)
        have d3 := dec_le (f p).code.toNat (by omega)
        simp only [tgtT, headT, List.length_append, List.length_cons, List.length_nil]
        omega
theorem formTo_le {f : Nat → Deed} {n : Nat} (h : accOk f n = true) : ∀ k, k ≤ n → (formTo f n k).length ≤ 40 + 1300000 * k := by
  intro k
  have hn := accOk_n h
  induction k with
  | zero =>
    intro _
    have := dec_le n (by omega)
    simp only [formTo, List.length_append, List.length_cons, List.length_nil]
    omega
  | succ k ih =>
    intro hk
    have h1 := ih (by omega)
    have h2 := deedT_le h k (by omega)
    simp only [formTo, List.length_append]
    omega
theorem formTo_mono {f : Nat → Deed} {n : Nat} : ∀ {j k : Nat}, j ≤ k → (formTo f n j).length ≤ (formTo f n k).length := by
  intro j k h
  induction k with
  | zero => obtain rfl : j = 0 := by omega
            exact Nat.le_refl _
  | succ k ih =>
    by_cases e : j = k + 1
    · subst e; exact Nat.le_refl _
    · have := ih (by omega)
      simp only [formTo, List.length_append]
      omega
theorem formTo_ne (f : Nat → Deed) (n k : Nat) : formTo f n k ≠ [] := by
  have h := formTo_mono (f := f) (n := n) (Nat.zero_le k)
  intro e
  rw [e] at h
  simp [formTo] at h

end Go.Proofs.YtkbhcajiebeepaaGreatDoor.Vp
