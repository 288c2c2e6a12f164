/-
  FnProgram: instructions put behind one another.
-/
import Derived.Test.YtpefignfaooonaaGreatDoorZI
namespace Go.Proofs.YtpefignfaooonaaGreatDoor.Vp
open Go.RowKit

theorem infoInsF : ∃ i, Tryz.prog.info? 41 = some i ∧ i.zero = some (.agg #[.int .i64 0, .string ⟨#[]⟩, .int .i64 0]) ∧ i.size = 3 ∧ i.bytes = 32 := by
  obtain ⟨i, hi, hz⟩ := Option.map_eq_some_iff.1 infoIns
  simp only [Prod.mk.injEq] at hz
  exact ⟨i, hi, hz⟩
/-- A row of instructions of the call's own. -/
def IR (w : World) (base g c : Nat) (L : List I3) : Prop := w.ownsRow base 41 3 (.slice (some ⟨g, 0, none⟩) L.length c) L.length (i3L L)
theorem IR.below {w w' : World} {base g c B : Nat} {L : List I3} (h : IR w base g c L) (hb : Below B w w') (hB : w.heap.size ≤ B) : IR w' base g c L := own_below h hb hB
theorem IR.lt {w : World} {base g c : Nat} {L : List I3} (h : IR w base g c L) : base ≤ g ∧ g < w.heap.size := World.ownsRow.lt h g rfl
theorem IR.only {w w' : World} {base g c R : Nat} {L : List I3} (h : IR w base g c L) (ho : Only R w w') (hR : R < base) : IR w' base g c L := own_only h ho hR
theorem IR.lit (w : World) : IR (w.alloc (.cells #[] 41)) w.heap.size w.heap.size 0 [] :=
  ⟨by simp [i3L], .inr ⟨w.heap.size, 0, #[], rfl, Nat.le_refl _, heap_alloc_new w _, Nat.le_refl _, by unfold maxLen; omega, by simp, by simp [i3L]⟩⟩
theorem i3L_app (L M : List I3) : i3L (L ++ M) = i3L L ++ i3L M := by simp [i3L]
theorem i3L_one (L : List I3) : ∀ u ∈ i3L L, u.oneCell' = true := by
  intro u hu
  simp only [i3L, List.mem_flatMap, i3V] at hu
  obtain ⟨x, _, hx⟩ := hu
  simp at hx
  rcases hx with rfl | rfl | rfl <;> simp [Value.oneCell']
theorem addr_addF (b off j : Nat) : (⟨b, off, none⟩ : Addr).add j = ⟨b, off + j, none⟩ := by
  unfold Addr.add
  split <;> simp_all
theorem new_cells (w : World) (cs : Array Value) (t : TypeId) : ∀ j u, cs.toList[j]? = some u → (w.alloc (.cells cs t)).cell? ((⟨w.heap.size, 0, none⟩ : Addr).add j) = some u := by
  intro j u hj
  rw [addr_addF, Nat.zero_add]
  exact box1 w cs t w.heap.size j u rfl (by simpa using hj)
theorem IR.news {w : World} {base g c : Nat} {L : List I3} (h : IR w base g c L) : ∀ j u, (i3L L)[j]? = some u → w.cell? ((⟨g, 0, none⟩ : Addr).add j) = some u := fun j u hu => World.ownsRow.cells h (g := g) rfl j u hu
/-- append(v, x...), x a row of instructions. -/
theorem wp_appI {ops : Array Oper} {rest : List Oper} {o : Oper} {a : Act} {Q : Exit → Act → World → Prop} {w : World} (hgd : o.guard = none) (s x : Operand)
    (ho : o.op = .call { callee := .builtin .append, args := #[s, x], argTypes := #[22, 22] }) (base g c : Nat) (L : List I3) (hs : a.eval s = .slice (some ⟨g, 0, none⟩) L.length c) (hown : IR w base g c L)
    (ad : Addr) (m d : Nat) (M : List I3) (hx : a.eval x = .slice (some ad) m d) (hm : m = M.length) (hne : M ≠ []) (hnews : ∀ j u, (i3L M)[j]? = some u → w.cell? (ad.add j) = some u) (hlen : L.length + M.length ≤ 100000) (hb : base ≤ w.heap.size)
    (h : ∀ g' c' w', IR w' base g' c' (L ++ M) → w.grownBy w' (some g) → wpList Tryz.prog ops Q rest (a.put o.dst (.slice (some ⟨g', 0, none⟩) (L ++ M).length c')) w') : wpList Tryz.prog ops Q (o :: rest) a w := by
  obtain ⟨i0, hi, hy0, hy1, hy2⟩ := infoInsF
  subst hm
  refine wpList_append_own _ hgd s x 22 ho base 41 i0 (.agg #[.int .i64 0, .string ⟨#[]⟩, .int .i64 0]) 3 32 Tryz.underlying22 hi hy0 hy1 hy2 rfl (by decide) _ L.length (i3L L) hs hown ad M.length d (i3L M) hx (i3L_len M) hnews (i3L_one M) (by unfold maxLen; omega) (by omega) hb ?_
  intro v' w' hw hg _
  have hp : 0 < M.length := List.length_pos_iff.2 hne
  have hv : ∃ g' c', v' = .slice (some ⟨g', 0, none⟩) (L.length + M.length) c' := by
    rcases hw.2 with ⟨_, h0⟩ | ⟨g', cap, cur, hv, _⟩
    · omega
    · exact ⟨g', cap, hv⟩
  obtain ⟨g', c', rfl⟩ := hv
  have e : (L ++ M).length = L.length + M.length := List.length_append
  rw [← e] at hw ⊢
  rw [← i3L_app] at hw
  exact h g' c' w' hw hg
/-- What a draw of instructions answers. -/
def DI (w : World) (R q n : Nat) (e : Ending) (w' : World) : Prop := ∃ (L : List I3) (g c : Nat), e = .returned (.slice (some ⟨g, 0, none⟩) L.length c) ∧ IR w' w.heap.size g c L ∧ L ≠ [] ∧ L.length ≤ n ∧ (∀ i ∈ L, i.2.1.length ≤ 5000) ∧ ∃ q' : Nat, q' ≤ q ∧ Rd w' R q' ∧ Only R w w'

end Go.Proofs.YtpefignfaooonaaGreatDoor.Vp
