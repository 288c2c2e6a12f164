/-
  PutTarget: an append to a list that may be empty and without room; a target put into a row of targets.
-/
import Derived.Test.YtpbpbjcnbhejgaaDoorPtBase
namespace Go.Proofs.YtpbpbjcnbhejgaaDoor.Vp
open Go.RowKit

theorem append_none {P : Program} {w : World} (base : Nat) (t ty e : TypeId) (i : TypeInfo) (z : Value) (size bytes : Nat) (ht : P.underlying t = some (.slice e)) (hi : P.info? e = some i) (hz : i.zero = some z)
    (hsize : i.size = size) (hby : i.bytes = bytes) (hzs : z.cells.size = size)
    (b : Nat) (a : Addr) (c : Nat) (news : List Value) (hl : news.length = 1 * size) (hnews : ∀ j u, news[j]? = some u → w.cell? (a.add j) = some u)
    (hbytes : 1 * bytes ≤ 140737488355328) (hbase : base ≤ w.heap.size) :
    ∃ v' w', (Builtin.append_ #[t, t] ty #[.slice (some ⟨b, 0, none⟩) 0 0, .slice (some a) 1 c]).run P w = .ok v' w' ∧ w'.ownsRow base e size v' 1 news ∧ Below base w w' := by
  subst hsize hby
  have hr := run_append_grow (P := P) w t ty e i z ht hi hz ⟨b, 0, none⟩ 0 0 [] (by simp) (by intro j v hj; simp at hj) a 1 c news hl hnews (by omega) (by omega) (growslice_fits (by omega) (by simpa using hbytes))
  have hge := grownCap_ge w (0 + 1) 0 e
  have hcm : grownCap w (0 + 1) 0 e ≤ maxLen := grownCap_le_maxLen w (0 + 1) 0 e (by unfold maxLen; omega)
  refine ⟨_, _, hr, ⟨by simpa using hl, .inr ⟨w.heap.size, _, _, rfl, hbase, heap_alloc_new w.drew _, hge, hcm, ?_, ?_⟩⟩, rfl, rfl, rfl, by simp, fun k hk => heap_alloc_old w.drew _ (Nat.lt_of_lt_of_le hk hbase)⟩
  · simp only [Array.size_append, List.size_toArray, size_zeroCells, hzs, hl, List.length_nil, Nat.zero_add, ← Nat.add_mul]
    congr 1
    have := hge
    simp only [Nat.zero_add] at this
    omega
  · simp only [Array.toList_append, List.nil_append]
    rw [← hl]
    exact List.take_left

theorem wpList_append_z {P : Program} {w : World} {ops : Array Oper} {rest : List Oper} {o : Oper} {a : Act} {Q : Exit → Act → World → Prop} (hgd : o.guard = none) (s x : Operand) (t : TypeId)
    (ho : o.op = .call { callee := .builtin .append, args := #[s, x], argTypes := #[t, t] })
    (base : Nat) (e : TypeId) (i : TypeInfo) (z : Value) (size bytes : Nat) (ht : P.underlying t = some (.slice e)) (hi : P.info? e = some i) (hz : i.zero = some z)
    (hsize : i.size = size) (hby : i.bytes = bytes) (hzs : z.cells.size = size) (hsz : 0 < size)
    (v : Value) (n : Nat) (xs : List Value) (hs : a.eval s = v) (hown : w.ownsRow base e size v n xs ∨ ∃ b, v = .slice (some ⟨b, 0, none⟩) 0 0 ∧ n = 0 ∧ xs = [])
    (ad : Addr) (c : Nat) (news : List Value) (hx : a.eval x = .slice (some ad) 1 c) (hl : news.length = 1 * size) (hnews : ∀ j u, news[j]? = some u → w.cell? (ad.add j) = some u) (h1 : ∀ u ∈ news, u.oneCell' = true)
    (h63 : n + 1 ≤ maxLen) (hbytes : (n + 1) * bytes ≤ 140737488355328) (hbase : base ≤ w.heap.size)
    (h : ∀ v' w', w'.ownsRow base e size v' (n + 1) (xs ++ news) → Below base w w' → wpList P ops Q rest (a.put o.dst v') w') : wpList P ops Q (o :: rest) a w := by
  rcases hown with hown | ⟨b, rfl, rfl, rfl⟩
  · exact wpList_append_own w hgd s x t ho base e i z size bytes ht hi hz hsize hby hzs hsz v n xs hs hown ad 1 c news hx hl hnews h1 h63 hbytes hbase fun v' w' h2 h3 _ => h v' w' h2 (Below.grown (Below.refl base w) h3 hbase (fun j e => (hown.lt j e).1))
  · obtain ⟨v', w', hr, h2, h3⟩ := append_none (w := w) base t o.type e i z size bytes ht hi hz hsize hby hzs b ad c news hl hnews (by omega) hbase
    exact Lib.wpList_append_run w hgd s x t t ho _ _ hs hx v' w' hr (h v' w' (by simpa using h2) h3)

theorem insG_split {α : Type} (g : Nat → ByteArray) (F : Nat → α) (x : α) (t : ByteArray) (k : Nat) : (doneG g t k = false → insG g F x t k = (List.range k).map F) ∧ (doneG g t k = true → ∃ A B, (List.range k).map F = A ++ B ∧ insG g F x t k = A ++ x :: B) := by
  induction k with
  | zero => simp [insG, doneG]
  | succ j ih =>
    have e : (List.range (j + 1)).map F = (List.range j).map F ++ [F j] := by rw [List.range_succ, List.map_append]; rfl
    rw [e]
    simp only [insG, doneG]
    cases hd : doneG g t j with
    | false =>
      have h1 := ih.1 hd
      cases hl : tless t (g j) with
      | true => simpa [h1] using ⟨(List.range j).map F, [F j], rfl, by simp⟩
      | false => simp [h1]
    | true =>
      obtain ⟨A, B, h1, h2⟩ := ih.2 hd
      simp only [Bool.true_or, Bool.true_eq_false, false_and, if_false, true_implies, false_implies, true_and]
      exact ⟨A, B ++ [F j], by rw [h1]; simp, by rw [h2]; simp⟩
theorem finG_split {α : Type} (g : Nat → ByteArray) (F : Nat → α) (x : α) (t : ByteArray) (n : Nat) : ∃ A B, (List.range n).map F = A ++ B ∧ finG g F x t n = A ++ x :: B := by
  obtain ⟨h1, h2⟩ := insG_split g F x t n
  unfold finG
  cases hd : doneG g t n with
  | true => simpa using h2 hd
  | false => exact ⟨(List.range n).map F, [], by simp, by simp [h1 hd]⟩
theorem range_getD {α : Type} (R : List α) (d : α) : (List.range R.length).map (fun j => R.getD j d) = R := by
  apply List.ext_getElem
  · simp
  · intro i h1 h2
    simp at h1
    simp [List.getD_eq_getElem?_getD, h1]
theorem map_getD {α β : Type} (p : α → β) (R : List α) (d : α) (j : Nat) : p (R.getD j d) = (R.map p).getD j (p d) := by
  simp [List.getD_eq_getElem?_getD]

/-- A target put into a row of targets. -/
theorem tRow_put {w : World} {base : Nat} {v0 v : Value} {A B : List TR} {x : TR} (h : TRow w base v0 (A ++ B)) (hx : RowIns w x.2.1 0 x.1.actN x.1.act ∧ (∃ F, Cells w x.2.1 0 (x.1.actN * 3) F) ∧ TypeAt w x.2.1 114 ∧ base ≤ x.2.1)
    (hne : ∀ r ∈ A ++ B, r.2.1 ≠ x.2.1) (hown : w.ownsRow base 78 2 v (A ++ x :: B).length ((A ++ x :: B).flatMap tgtV)) : TRow w base v (A ++ x :: B) := by
  refine ⟨hown, fun r hr => ?_, ?_⟩
  · rcases List.mem_append.1 hr with hr | hr
    · exact h.act r (List.mem_append.2 (.inl hr))
    · rcases List.mem_cons.1 hr with rfl | hr
      · exact hx
      · exact h.act r (List.mem_append.2 (.inr hr))
  · have hu := List.pairwise_append.1 h.up
    refine List.pairwise_append.2 ⟨hu.1, List.pairwise_cons.2 ⟨fun b hb e => hne b (List.mem_append.2 (.inr hb)) e.symm, hu.2.1⟩, fun a ha b hb => ?_⟩
    rcases List.mem_cons.1 hb with rfl | hb
    · exact hne a (List.mem_append.2 (.inl ha))
    · exact hu.2.2 a ha b hb

theorem insG_ne {α : Type} {g : Nat → ByteArray} {F : Nat → α} {x : α} {t : ByteArray} {k : Nat} (h : doneG g t k = true) : (insG g F x t k).length ≠ 0 := by
  obtain ⟨A, B, _, h2⟩ := (insG_split g F x t k).2 h
  rw [h2]
  simp
/-- The cells of a row of targets, at a place. -/
theorem trow_cells {w : World} {base c : Nat} {a : Option Addr} {R : List TR} (h : TRow w base (.slice a R.length c) R) (hn : 0 < R.length) : ∃ b off, a = some ⟨b, off, none⟩ ∧ b < w.heap.size ∧ ∀ i, i < R.length → w.cell? ⟨b, off + i * 2, none⟩ = some (.string (R.getD i default).1.name) ∧ w.cell? ⟨b, off + i * 2 + 1, none⟩ = some (.slice (some ⟨(R.getD i default).2.1, 0, none⟩) (R.getD i default).1.actN (R.getD i default).2.2) := by
  obtain ⟨g, c', e⟩ := own_some h.own hn
  simp at e
  obtain ⟨rfl, rfl⟩ := e
  refine ⟨g, 0, rfl, (own_lt h.own).2, fun i hi => ?_⟩
  have hr : R[i]? = some (R.getD i default) := by rw [List.getD_eq_getElem?_getD, List.getElem?_eq_getElem hi]; rfl
  generalize R.getD i default = r at hr
  refine ⟨?_, ?_⟩
  · have := (own_cell h.own (j := i * 2) (u := .string r.1.name) (by have := flat_at tgtV 2 (fun _ => rfl) R i 0 (by omega) _ hr; simpa [tgtV] using this)).1
    rwa [show 0 + i * 2 = i * 2 by omega]
  · have := (own_cell h.own (j := i * 2 + 1) (u := .slice (some ⟨r.2.1, 0, none⟩) r.1.actN r.2.2) (by have := flat_at tgtV 2 (fun _ => rfl) R i 1 (by omega) _ hr; simpa [tgtV] using this)).1
    rwa [show 0 + i * 2 + 1 = i * 2 + 1 by omega]
/-- The place by the targets' names. -/
def finR (R : List TR) (x : TR) (t : ByteArray) : List TR := finG (nm1 (tgtF (R.map fun r : TR => r.1))) (fun j => R.getD j default) x t R.length
theorem nm_getD (R : List TR) (j : Nat) : nm1 (tgtF (R.map fun r : TR => r.1)) j = (R.getD j default).1.name := by
  exact congrArg Target.name (map_getD (fun r : TR => r.1) R default j).symm
theorem finR_map (R : List TR) (x : TR) (t : ByteArray) : (finR R x t).map (fun r : TR => r.1) = insT (R.map fun r : TR => r.1) x.1 t := by
  unfold finR insT
  rw [finG_map, List.length_map]
  congr 1
  funext j
  exact map_getD (fun r : TR => r.1) R default j
theorem tRow_fin {w : World} {base : Nat} {v0 v : Value} {R : List TR} {x : TR} {t : ByteArray} (h : TRow w base v0 R) (hx : RowIns w x.2.1 0 x.1.actN x.1.act ∧ (∃ F, Cells w x.2.1 0 (x.1.actN * 3) F) ∧ TypeAt w x.2.1 114 ∧ base ≤ x.2.1)
    (hne : ∀ r ∈ R, r.2.1 ≠ x.2.1) (hown : w.ownsRow base 78 2 v (finR R x t).length ((finR R x t).flatMap tgtV)) : TRow w base v (finR R x t) := by
  obtain ⟨A, B, h1, h2⟩ := finG_split (nm1 (tgtF (R.map fun r : TR => r.1))) (fun j => R.getD j default) x t R.length
  rw [range_getD] at h1
  unfold finR at hown ⊢
  rw [h2] at hown ⊢
  subst h1
  exact tRow_put h hx hne hown
theorem own_act {w : World} {base g c : Nat} {x : Target} (h : w.ownsRow base 114 3 (.slice (some ⟨g, 0, none⟩) x.actN c) x.actN (insL x.act x.actN)) : RowIns w g 0 x.actN x.act ∧ (∃ F, Cells w g 0 (x.actN * 3) F) ∧ TypeAt w g 114 ∧ base ≤ g := by
  obtain ⟨h1, h2⟩ := own_ins h
  exact ⟨h1, h2, own_type h, (own_lt h).1⟩

end Go.Proofs.YtpbpbjcnbhejgaaDoor.Vp
