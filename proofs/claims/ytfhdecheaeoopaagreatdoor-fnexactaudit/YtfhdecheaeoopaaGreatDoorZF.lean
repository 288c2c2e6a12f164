/-
  Put together of: DOne, AcOk.
-/
import Derived.Test.YtfhdecheaeoopaaGreatDoorZB
import Derived.OneCell
import Derived.OwnWalk
import Derived.Maps.AppendAt
import Derived.Deep.RegionLaw
import Derived.Test.YtfhdecheaeoopaaGreatDoorZC

/-
  What is owned; one new cell.
-/
namespace Go.Proofs.YtfhdecheaeoopaaGreatDoor.Vp
open Go.RowKit

theorem one_new (w : World) (x : Value) (t : TypeId) : ∀ j u, [x][j]? = some u → (w.alloc (.cells #[x] t)).cell? ((⟨w.heap.size, 0, none⟩ : Addr).add j) = some u := by
  intro j u hj
  match j, hj with
  | 0, hj => simp at hj; subst hj; simp [Addr.add]
theorem step_append_own {P : Program} {w : World} {ops : Array Oper} {o : Oper} {a : Act} {K : Act → World → Prop} {Q : Exit → Act → World → Prop} {E : Prop} (hg : o.guard = none) (s x : Operand) (t : TypeId)
    (ho : o.op = .call { callee := .builtin .append, args := #[s, x], argTypes := #[t, t] })
    (base : Nat) (e : TypeId) (i : TypeInfo) (z : Value) (size bytes : Nat) (ht : P.underlying t = some (.slice e)) (hi : P.info? e = some i) (hz : i.zero = some z)
    (hsize : i.size = size) (hby : i.bytes = bytes) (hzs : z.cells.size = size) (hsz : 0 < size)
    (v : Value) (n : Nat) (xs : List Value) (hs : a.eval s = v) (hown : w.ownsRow base e size v n xs)
    (ad : Addr) (m c : Nat) (news : List Value) (hx : a.eval x = .slice (some ad) m c) (hl : news.length = m * size) (hnews : ∀ j u, news[j]? = some u → w.cell? (ad.add j) = some u) (h1 : ∀ u ∈ news, u.oneCell' = true)
    (h63 : n + m ≤ maxLen) (hbytes : (n + m) * bytes ≤ 140737488355328) (hbase : base ≤ w.heap.size)
    (h : ∀ v' w', w'.ownsRow base e size v' (n + m) (xs ++ news) → w.grownBy w' v.ownBlock → (v' = .slice none 0 0 ↔ v = .slice none 0 0 ∧ m = 0) → K (a.put o.dst v') w') :
    if Region.wanted o (yielded ops a.tmps) = true then Oper.wp P o a w K Q else E := by
  have hw : Region.wanted o (yielded ops a.tmps) = true := by simp [Region.wanted, hg]
  rw [if_pos hw]
  exact wp_append_own w s x t ho base e i z size bytes ht hi hz hsize hby hzs hsz v n xs hs hown ad m c news hx hl hnews h1 h63 hbytes hbase h

/-- What is owned stays owned where old blocks stand. -/
theorem own_below {w w' : World} {base B : Nat} {e : TypeId} {size n : Nat} {v : Value} {xs : List Value} (h : w.ownsRow base e size v n xs) (hb : Below B w w') (hB : w.heap.size ≤ B) : w'.ownsRow base e size v n xs :=
  h.kept (row := none) ⟨hb.os, hb.tape, hb.output, hb.size, fun k hk _ => hb.block k (Nat.lt_of_lt_of_le hk hB)⟩ (by cases v.ownBlock <;> simp)
theorem own_mono {w : World} {base base' : Nat} {e : TypeId} {size n : Nat} {v : Value} {xs : List Value} (h : w.ownsRow base e size v n xs) (hb : base' ≤ base) : w.ownsRow base' e size v n xs := by
  refine ⟨h.1, ?_⟩
  rcases h.2 with h | ⟨g, cap, cur, hv, hg, r⟩
  · exact .inl h
  · exact .inr ⟨g, cap, cur, hv, Nat.le_trans hb hg, r⟩
theorem box1 (W : World) (cs : Array Value) (ty : TypeId) (g j : Nat) (v : Value) (hg : g = W.heap.size) (hv : cs[j]? = some v) : (W.alloc (.cells cs ty)).cell? ⟨g, j, none⟩ = some v := by
  subst hg
  simp [hv]
theorem own_form {w : World} {base n : Nat} {e : TypeId} {v : Value} {xs : List Value} (h : w.ownsRow base e 1 v n xs) (hn : 0 < n) : ∃ g cap, v = .slice (some ⟨g, 0, none⟩) n cap := by
  rcases h.2 with ⟨_, h0⟩ | ⟨g, cap, cur, hv, _⟩
  · omega
  · exact ⟨g, cap, hv⟩
end Go.Proofs.YtfhdecheaeoopaaGreatDoor.Vp

/-
  A valid account: what it says of its deeds.
-/
namespace Go.Proofs.YtfhdecheaeoopaaGreatDoor.Vp
open Go.RowKit

theorem own_lit (w : World) (e : TypeId) (size : Nat) : (w.alloc (.cells #[] e)).ownsRow w.heap.size e size (.slice (some ⟨w.heap.size, 0, none⟩) 0 0) 0 [] :=
  ⟨by simp, .inr ⟨w.heap.size, 0, #[], rfl, Nat.le_refl _, heap_alloc_new w _, Nat.le_refl _, by unfold maxLen; omega, by simp, by simp⟩⟩

/-- the account is valid. -/
def accOk (f : Nat → Deed) (n : Nat) : Bool := decide ((accC f n).1 = 0)
theorem accOk_n {f : Nat → Deed} {n : Nat} (h : accOk f n = true) : 1 ≤ n ∧ n ≤ 400 ∧ firstNo (deedOk f) n = -1 := by
  have h1 : (accC f n).1 = 0 := of_decide_eq_true h
  unfold accC at h1
  split at h1
  · simp at h1
  · rename_i h2
    refine ⟨by omega, by omega, ?_⟩
    split at h1
    · simp at h1
    · rename_i h3
      exact Classical.byContradiction fun hc => h3 hc
theorem accOk_links {f : Nat → Deed} {n : Nat} (h : accOk f n = true) : ∀ p, p < n → (f p).linksN ≤ 200 := by
  intro p hp
  have h1 := firstNo_ok (accOk_n h).2.2 p hp
  simp only [deedOk, Bool.and_eq_true, kindOk] at h1
  obtain ⟨_, h2⟩ := h1
  split at h2
  · simp [unmadeOk] at h2
    omega
  · split at h2
    · simp [unmadeOk] at h2
      omega
    · split at h2
      · simp [targetOk] at h2
        omega
      · simp at h2
/-- a valid account: what is asked for stands ahead, under that name; no two deeds have one name. -/
theorem accOk_ask {f : Nat → Deed} {n : Nat} (h : accOk f n = true) : ∀ p, p < n → ∀ j, j < (f p).linksN → ((f p).links j).ask = true → 0 ≤ ((f p).links j).at_ ∧ ((f p).links j).at_.toNat < p ∧ (f ((f p).links j).at_.toNat).name.toList = ((f p).links j).name.toList := by
  intro p hp j hj ha
  have h1 := firstNo_ok (accOk_n h).2.2 p hp
  simp only [deedOk, Bool.and_eq_true, kindOk] at h1
  obtain ⟨_, h2⟩ := h1
  have hl : linksOk f p (f p) (f p).linksN = true := by
    split at h2
    · simp [unmadeOk] at h2
      omega
    · split at h2
      · simp [unmadeOk] at h2
        omega
      · split at h2
        · simp only [targetOk, Bool.and_eq_true] at h2
          exact h2.2
        · simp at h2
  have h3 := linksOk_at hl j hj
  simp only [linkOk, ha, if_true, Bool.and_eq_true, decide_eq_true_eq, beq_iff_eq] at h3
  obtain ⟨_, ⟨⟨_, h4⟩, h5⟩, h6⟩ := h3
  exact ⟨h4, by omega, h6⟩
theorem nameNew_ne {f : Nat → Deed} {p n : Nat} (h : nameNew f p n = true) : ∀ i, i < n → (f i).name.toList ≠ (f p).name.toList := by
  induction n with
  | zero => intro i hi; omega
  | succ n ih =>
    simp only [nameNew, Bool.and_eq_true, Bool.not_eq_true', beq_eq_false_iff_ne] at h
    intro i hi
    by_cases e : i = n
    · subst e; exact h.2
    · exact ih h.1 i (by omega)
theorem accOk_new {f : Nat → Deed} {n : Nat} (h : accOk f n = true) : ∀ i j, i < n → j < n → (f i).name.toList = (f j).name.toList → i = j := by
  have h1 : (accC f n).1 = 0 := of_decide_eq_true h
  have h2 : firstNo (fun p => nameNew f p p) n = -1 := by
    unfold accC at h1
    split at h1
    · simp at h1
    · split at h1
      · simp at h1
      · split at h1
        · simp at h1
        · rename_i h3
          exact Classical.byContradiction fun hc => h3 hc
  have h3 := firstNo_ok h2
  intro i j hi hj e
  rcases Nat.lt_trichotomy i j with hlt | rfl | hlt
  · exact absurd e (nameNew_ne (h3 j hj) i hlt)
  · rfl
  · exact absurd e.symm (nameNew_ne (h3 i hi) j hlt)

end Go.Proofs.YtfhdecheaeoopaaGreatDoor.Vp
