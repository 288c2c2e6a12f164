/-
  PutTarget: what it answers; boxes; an append to a list that may be empty and without room; a target put into a row of targets; a program marked.
-/
import Derived.Test.YthbigpnaepbhjaaDoorZPsImpl
import Derived.Test.YthbigpnaepbhjaaDoorZPtPure
import Derived.Test.YthbigpnaepbhjaaDoorZInTarget
namespace Go.Proofs.YthbigpnaepbhjaaDoor.Vp
open Go.RowKit

def putTS (n0 : Nat) (f0 : Nat → Source) (n1 : Nat) (f1 : Nat → Target) (t : ByteArray) (m : Nat) (fp : Nat → Ins) : List Source := if roomC n0 f0 n1 f1 t (valid fp m) = 0 then keepS f0 t n0 else []
def putTT (n0 : Nat) (f0 : Nat → Source) (n1 : Nat) (f1 : Nat → Target) (t : ByteArray) (m : Nat) (fp : Nat → Ins) : List Target := if roomC n0 f0 n1 f1 t (valid fp m) = 0 then insT (keepT f1 t n1) ⟨t, m, fp⟩ t else []

/-- Three boxes: a space, a program, the answer. -/
structure Trio (w : World) (h : Nat) (p0 p1 p2 : Value) : Prop where
  lt : h + 2 < w.heap.size
  a0 : w.cell? ⟨h, 0, none⟩ = some p0
  a1 : w.cell? ⟨h, 1, none⟩ = some p1
  b0 : w.cell? ⟨h + 1, 0, none⟩ = some p2
  r0 : w.cell? ⟨h + 2, 0, none⟩ = some (.slice none 0 0) ∧ w.frozen? ⟨h + 2, 0, none⟩ = false
  r1 : w.cell? ⟨h + 2, 1, none⟩ = some (.slice none 0 0) ∧ w.frozen? ⟨h + 2, 1, none⟩ = false
theorem Trio.below {w w' : World} {h B : Nat} {p0 p1 p2 : Value} (b : Trio w h p0 p1 p2) (hb : Below B w w') (hB : h + 3 ≤ B) : Trio w' h p0 p1 p2 := by
  have c : ∀ k o, k < B → w'.cell? ⟨k, o, none⟩ = w.cell? ⟨k, o, none⟩ := fun k o hk => hb.cell (p := ⟨k, o, none⟩) hk
  have f : ∀ k o, k < B → w'.frozen? ⟨k, o, none⟩ = w.frozen? ⟨k, o, none⟩ := fun k o hk => hb.frozen (p := ⟨k, o, none⟩) hk
  exact ⟨Nat.lt_of_lt_of_le b.lt hb.size, (c _ _ (by omega)).trans b.a0, (c _ _ (by omega)).trans b.a1, (c _ _ (by omega)).trans b.b0, ⟨(c _ _ (by omega)).trans b.r0.1, (f _ _ (by omega)).trans b.r0.2⟩, ⟨(c _ _ (by omega)).trans b.r1.1, (f _ _ (by omega)).trans b.r1.2⟩⟩
theorem trio_new (w : World) (p0 p1 p2 : Value) (t u : TypeId) : Trio (((w.alloc (.cells #[p0, p1] t)).alloc (.cells #[p2] u)).alloc (.cells #[.slice none 0 0, .slice none 0 0] t)) w.heap.size p0 p1 p2 := by
  have A1 : Below (w.heap.size + 1) (w.alloc (.cells #[p0, p1] t)) ((w.alloc (.cells #[p0, p1] t)).alloc (.cells #[p2] u)) := (Below.refl _ _).alloc (by simp) _
  have A2 : Below (w.heap.size + 2) ((w.alloc (.cells #[p0, p1] t)).alloc (.cells #[p2] u)) (((w.alloc (.cells #[p0, p1] t)).alloc (.cells #[p2] u)).alloc (.cells #[.slice none 0 0, .slice none 0 0] t)) := (Below.refl _ _).alloc (by simp) _
  have hz : (w.alloc (.cells #[p0, p1] t)).heap.size = w.heap.size + 1 := by simp
  have hz2 : ((w.alloc (.cells #[p0, p1] t)).alloc (.cells #[p2] u)).heap.size = w.heap.size + 2 := by simp
  refine ⟨by simp, ?_, ?_, ?_, ⟨?_, ?_⟩, ⟨?_, ?_⟩⟩
  · exact (A2.cell (p := ⟨w.heap.size, 0, none⟩) (by simp)).trans ((A1.cell (p := ⟨w.heap.size, 0, none⟩) (by simp)).trans (by simp))
  · exact (A2.cell (p := ⟨w.heap.size, 1, none⟩) (by simp)).trans ((A1.cell (p := ⟨w.heap.size, 1, none⟩) (by simp)).trans (by simp))
  · refine (A2.cell (p := ⟨w.heap.size + 1, 0, none⟩) (by simp)).trans ?_
    rw [← hz]
    clear A1 A2 hz hz2
    generalize w.alloc (.cells #[p0, p1] t) = W
    simp
  all_goals
    rw [← hz2]
    clear A1 A2 hz hz2
    generalize (w.alloc (.cells #[p0, p1] t)).alloc (.cells #[p2] u) = W
    simp

theorem append_none {P : Program} {w : World} (base : Nat) (t ty e : TypeId) (i : TypeInfo) (z : Value) (size bytes : Nat) (ht : P.underlying t = some (.slice e)) (hi : P.info? e = some i) (hz : i.zero = some z)
    (hsize : i.size = size) (hby : i.bytes = bytes) (hzs : z.cells.size = size)
    (b : Nat) (a : Addr) (c : Nat) (news : List Value) (hl : news.length = 1 * size) (hnews : ∀ j u, news[j]? = some u → w.cell? (a.add j) = some u)
    (hbytes : 1 * bytes ≤ 140737488355328) (hbase : base ≤ w.heap.size) :
    ∃ v' w', (Builtin.append_ #[t, t] ty #[.slice (some ⟨b, 0, none⟩) 0 0, .slice (some a) 1 c]).run P w = .ok v' w' ∧ w'.ownsRow base e size v' 1 news ∧ Below base w w' := by
  subst hsize hby
  have hr := run_append_grow (P := P) w t ty e i z ht hi hz ⟨b, 0, none⟩ 0 0 [] (by simp) (by intro j v hj; simp at hj) a 1 c news hl hnews (by omega) (by omega) (growslice_fits (by omega) (by simpa using hbytes))
  have hge := grownCap_ge w (0 + 1) 0 e
  have hcm : grownCap w (0 + 1) 0 e ≤ maxLen := grownCap_le_maxLen w (0 + 1) 0 e (by unfold maxLen; omega)
  refine ⟨_, _, hr, ⟨by simpa using hl, .inr ⟨w.heap.size, _, _, rfl, hbase, heap_alloc_new w.drew _, hge, hcm, ?_, ?_⟩⟩, rfl, rfl, rfl, by simp, fun k hk => heap_alloc_old w.drew _ (Nat.lt_of_lt_of_le hk hbase)⟩
  · simp only [Array.size_append, List.size_toArray, size_zeroCells, hzs, hl, List.length_nil, Nat.zero_add, ← Nat.add_mul]
    congr 1
    have := hge
    simp only [Nat.zero_add] at this
    omega
  · simp only [Array.toList_append, List.nil_append]
    rw [← hl]
    exact List.take_left

theorem wpList_append_z {P : Program} {w : World} {ops : Array Oper} {rest : List Oper} {o : Oper} {a : Act} {Q : Exit → Act → World → Prop} (hgd : o.guard = none) (s x : Operand) (t : TypeId)
    (ho : o.op = .call { callee := .builtin .append, args := #[s, x], argTypes := #[t, t] })
    (base : Nat) (e : TypeId) (i : TypeInfo) (z : Value) (size bytes : Nat) (ht : P.underlying t = some (.slice e)) (hi : P.info? e = some i) (hz : i.zero = some z)
    (hsize : i.size = size) (hby : i.bytes = bytes) (hzs : z.cells.size = size) (hsz : 0 < size)
    (v : Value) (n : Nat) (xs : List Value) (hs : a.eval s = v) (hown : w.ownsRow base e size v n xs ∨ ∃ b, v = .slice (some ⟨b, 0, none⟩) 0 0 ∧ n = 0 ∧ xs = [])
    (ad : Addr) (c : Nat) (news : List Value) (hx : a.eval x = .slice (some ad) 1 c) (hl : news.length = 1 * size) (hnews : ∀ j u, news[j]? = some u → w.cell? (ad.add j) = some u) (h1 : ∀ u ∈ news, u.oneCell' = true)
    (h63 : n + 1 ≤ maxLen) (hbytes : (n + 1) * bytes ≤ 140737488355328) (hbase : base ≤ w.heap.size)
    (h : ∀ v' w', w'.ownsRow base e size v' (n + 1) (xs ++ news) → Below base w w' → wpList P ops Q rest (a.put o.dst v') w') : wpList P ops Q (o :: rest) a w := by
  rcases hown with hown | ⟨b, rfl, rfl, rfl⟩
  · exact wpList_append_own w hgd s x t ho base e i z size bytes ht hi hz hsize hby hzs hsz v n xs hs hown ad 1 c news hx hl hnews h1 h63 hbytes hbase fun v' w' h2 h3 _ => h v' w' h2 (Below.grown (Below.refl base w) h3 hbase (fun j e => (hown.lt j e).1))
  · obtain ⟨v', w', hr, h2, h3⟩ := append_none (w := w) base t o.type e i z size bytes ht hi hz hsize hby hzs b ad c news hl hnews (by omega) hbase
    exact Lib.wpList_append_run w hgd s x t t ho _ _ hs hx v' w' hr (h v' w' (by simpa using h2) h3)

theorem insG_split {α : Type} (g : Nat → ByteArray) (F : Nat → α) (x : α) (t : ByteArray) (k : Nat) : (doneG g t k = false → insG g F x t k = (List.range k).map F) ∧ (doneG g t k = true → ∃ A B, (List.range k).map F = A ++ B ∧ insG g F x t k = A ++ x :: B) := by
  induction k with
  | zero => simp [insG, doneG]
  | succ j ih =>
    have e : (List.range (j + 1)).map F = (List.range j).map F ++ [F j] := by rw [List.range_succ, List.map_append]; rfl
    rw [e]
    simp only [insG, doneG]
    cases hd : doneG g t j with
    | false =>
      have h1 := ih.1 hd
      cases hl : tless t (g j) with
      | true => simpa [h1] using ⟨(List.range j).map F, [F j], rfl, by simp⟩
      | false => simp [h1]
    | true =>
      obtain ⟨A, B, h1, h2⟩ := ih.2 hd
      simp only [Bool.true_or, Bool.true_eq_false, false_and, if_false, true_implies, false_implies, true_and]
      exact ⟨A, B ++ [F j], by rw [h1]; simp, by rw [h2]; simp⟩
theorem finG_split {α : Type} (g : Nat → ByteArray) (F : Nat → α) (x : α) (t : ByteArray) (n : Nat) : ∃ A B, (List.range n).map F = A ++ B ∧ finG g F x t n = A ++ x :: B := by
  obtain ⟨h1, h2⟩ := insG_split g F x t n
  unfold finG
  cases hd : doneG g t n with
  | true => simpa using h2 hd
  | false => exact ⟨(List.range n).map F, [], by simp, by simp [h1 hd]⟩
theorem range_getD {α : Type} (R : List α) (d : α) : (List.range R.length).map (fun j => R.getD j d) = R := by
  apply List.ext_getElem
  · simp
  · intro i h1 h2
    simp at h1
    simp [List.getD_eq_getElem?_getD, h1]
theorem map_getD {α β : Type} (p : α → β) (R : List α) (d : α) (j : Nat) : p (R.getD j d) = (R.map p).getD j (p d) := by
  simp [List.getD_eq_getElem?_getD]

/-- A target put into a row of targets. -/
theorem tRow_put {w : World} {base : Nat} {v0 v : Value} {A B : List TR} {x : TR} (h : TRow w base v0 (A ++ B)) (hx : RowIns w x.2.1 0 x.1.actN x.1.act ∧ (∃ F, Cells w x.2.1 0 (x.1.actN * 3) F) ∧ TypeAt w x.2.1 97 ∧ base ≤ x.2.1)
    (hne : ∀ r ∈ A ++ B, r.2.1 ≠ x.2.1) (hown : w.ownsRow base 72 2 v (A ++ x :: B).length ((A ++ x :: B).flatMap tgtV)) : TRow w base v (A ++ x :: B) := by
  refine ⟨hown, fun r hr => ?_, ?_⟩
  · rcases List.mem_append.1 hr with hr | hr
    · exact h.act r (List.mem_append.2 (.inl hr))
    · rcases List.mem_cons.1 hr with rfl | hr
      · exact hx
      · exact h.act r (List.mem_append.2 (.inr hr))
  · have hu := List.pairwise_append.1 h.up
    refine List.pairwise_append.2 ⟨hu.1, List.pairwise_cons.2 ⟨fun b hb e => hne b (List.mem_append.2 (.inr hb)) e.symm, hu.2.1⟩, fun a ha b hb => ?_⟩
    rcases List.mem_cons.1 hb with rfl | hb
    · exact hne a (List.mem_append.2 (.inl ha))
    · exact hu.2.2 a ha b hb

theorem insG_ne {α : Type} {g : Nat → ByteArray} {F : Nat → α} {x : α} {t : ByteArray} {k : Nat} (h : doneG g t k = true) : (insG g F x t k).length ≠ 0 := by
  obtain ⟨A, B, _, h2⟩ := (insG_split g F x t k).2 h
  rw [h2]
  simp
/-- The cells of a row of targets, at a place. -/
theorem trow_cells {w : World} {base c : Nat} {a : Option Addr} {R : List TR} (h : TRow w base (.slice a R.length c) R) (hn : 0 < R.length) : ∃ b off, a = some ⟨b, off, none⟩ ∧ b < w.heap.size ∧ ∀ i, i < R.length → w.cell? ⟨b, off + i * 2, none⟩ = some (.string (R.getD i dfR).1.name) ∧ w.cell? ⟨b, off + i * 2 + 1, none⟩ = some (.slice (some ⟨(R.getD i dfR).2.1, 0, none⟩) (R.getD i dfR).1.actN (R.getD i dfR).2.2) := by
  obtain ⟨g, c', e⟩ := own_some h.own hn
  simp at e
  obtain ⟨rfl, rfl⟩ := e
  refine ⟨g, 0, rfl, (own_lt h.own).2, fun i hi => ?_⟩
  have hr : R[i]? = some (R.getD i dfR) := by rw [List.getD_eq_getElem?_getD, List.getElem?_eq_getElem hi]; rfl
  generalize R.getD i dfR = r at hr
  refine ⟨?_, ?_⟩
  · have := (own_cell h.own (j := i * 2) (u := .string r.1.name) (by have := flat_at tgtV 2 (fun _ => rfl) R i 0 (by omega) _ hr; simpa [tgtV] using this)).1
    rwa [show 0 + i * 2 = i * 2 by omega]
  · have := (own_cell h.own (j := i * 2 + 1) (u := .slice (some ⟨r.2.1, 0, none⟩) r.1.actN r.2.2) (by have := flat_at tgtV 2 (fun _ => rfl) R i 1 (by omega) _ hr; simpa [tgtV] using this)).1
    rwa [show 0 + i * 2 + 1 = i * 2 + 1 by omega]
/-- The place by the targets' names. -/
def finR (R : List TR) (x : TR) (t : ByteArray) : List TR := finG (nm1 (tgtF (R.map fun r : TR => r.1))) (fun j => R.getD j dfR) x t R.length
theorem nm_getD (R : List TR) (j : Nat) : nm1 (tgtF (R.map fun r : TR => r.1)) j = (R.getD j dfR).1.name := by
  exact congrArg Target.name (map_getD (fun r : TR => r.1) R dfR j).symm
theorem finR_map (R : List TR) (x : TR) (t : ByteArray) : (finR R x t).map (fun r : TR => r.1) = insT (R.map fun r : TR => r.1) x.1 t := by
  unfold finR insT
  rw [finG_map, List.length_map]
  congr 1
  funext j
  exact map_getD (fun r : TR => r.1) R dfR j
theorem tRow_fin {w : World} {base : Nat} {v0 v : Value} {R : List TR} {x : TR} {t : ByteArray} (h : TRow w base v0 R) (hx : RowIns w x.2.1 0 x.1.actN x.1.act ∧ (∃ F, Cells w x.2.1 0 (x.1.actN * 3) F) ∧ TypeAt w x.2.1 97 ∧ base ≤ x.2.1)
    (hne : ∀ r ∈ R, r.2.1 ≠ x.2.1) (hown : w.ownsRow base 72 2 v (finR R x t).length ((finR R x t).flatMap tgtV)) : TRow w base v (finR R x t) := by
  obtain ⟨A, B, h1, h2⟩ := finG_split (nm1 (tgtF (R.map fun r : TR => r.1))) (fun j => R.getD j dfR) x t R.length
  rw [range_getD] at h1
  unfold finR at hown ⊢
  rw [h2] at hown ⊢
  subst h1
  exact tRow_put h hx hne hown
theorem own_act {w : World} {base g c : Nat} {x : Target} (h : w.ownsRow base 97 3 (.slice (some ⟨g, 0, none⟩) x.actN c) x.actN (insL x.act x.actN)) : RowIns w g 0 x.actN x.act ∧ (∃ F, Cells w g 0 (x.actN * 3) F) ∧ TypeAt w g 97 ∧ base ≤ g := by
  obtain ⟨h1, h2⟩ := own_ins h
  exact ⟨h1, h2, own_type h, (own_lt h).1⟩

/-- A new box that holds nothing yet. -/
structure BoxZ (w : World) (X : Nat) : Prop where
  lt : X < w.heap.size
  z0 : w.frozen? ⟨X, 0, none⟩ = false
  z1 : w.frozen? ⟨X, 1, none⟩ = false
  c0 : w.cell? ⟨X, 0, none⟩ = some (.slice none 0 0)
  c1 : w.cell? ⟨X, 1, none⟩ = some (.slice none 0 0)
  ty : TypeAt w X 30
theorem boxZ_new (w : World) : BoxZ (w.alloc (.cells #[.slice none 0 0, .slice none 0 0] 30)) w.heap.size := ⟨by simp, by simp, by simp, by simp, by simp, type_box _ _ _⟩
theorem BoxZ.below {w w' : World} {X B : Nat} (h : BoxZ w X) (hb : Below B w w') (hB : X < B) : BoxZ w' X :=
  ⟨Nat.lt_of_lt_of_le h.lt hb.size, (hb.frozen (p := ⟨X, 0, none⟩) hB).trans h.z0, (hb.frozen (p := ⟨X, 1, none⟩) hB).trans h.z1, (hb.cell (p := ⟨X, 0, none⟩) hB).trans h.c0, (hb.cell (p := ⟨X, 1, none⟩) hB).trans h.c1, h.ty.block (hb.block X hB)⟩
/-- What roomFor gave, in a box. -/
structure RoomBox (W wx : World) (X : Nat) (p q : Value) (L : List Source) (R : List TR) : Prop where
  two : TwoF wx X p q
  ty : TypeAt wx X 30
  ge : W.heap.size ≤ X
  src : wx.ownsRow W.heap.size 57 2 p L.length (L.flatMap srcV)
  tgt : TRow wx W.heap.size q R
  below : Below W.heap.size W wx
theorem room_last {W w2 : World} {base : Nat} {p q : Value} {L : List Source} {R : List TR} (hO : w2.ownsRow base 57 2 p L.length (L.flatMap srcV)) (hR : TRow w2 base q R) (hb : W.heap.size ≤ base) (hB : Below W.heap.size W w2) : RoomBox W (w2.alloc (.cells #[p, q] 30)) w2.heap.size p q L R :=
  have D : Below w2.heap.size w2 (w2.alloc (.cells #[p, q] 30)) := (Below.refl _ _).alloc (Nat.le_refl _) _
  ⟨twoF_box _ _ _ _, type_box _ _ _, hB.size, own_mono (own_below hO D (Nat.le_refl _)) hb, tRow_mono (hR.below D (Nat.le_refl _)) hb, hB.trans (D.mono hB.size)⟩
theorem TypeAt.set {w : World} {X g j : Nat} {e : TypeId} (h : TypeAt w X e) (u : Value) : TypeAt (w.setCell ⟨g, j, none⟩ u) X e := by
  obtain ⟨c, hc⟩ := h
  by_cases hg : X = g
  · subst hg
    refine ⟨c.setIfInBounds j u, ?_⟩
    unfold World.setCell
    simp only [Array.getElem?_modify, if_true, hc]
    rfl
  · exact ⟨c, (Below.heap_setCell _ _ _ _ (by simpa using hg)).trans hc⟩
theorem room_set {W w2 : World} {base X : Nat} {p q : Value} {L : List Source} {R : List TR} (hO : w2.ownsRow base 57 2 p L.length (L.flatMap srcV)) (hR : TRow w2 base q R) (hb : W.heap.size ≤ base) (hB : Below W.heap.size W w2) (hX : W.heap.size ≤ X) (hZ : BoxZ w2 X) : RoomBox W ((w2.setCell ⟨X, 0, none⟩ p).setCell ⟨X, 1, none⟩ q) X p q L R := by
  have t1 : TypeAt (w2.setCell ⟨X, 0, none⟩ p) X 30 := hZ.ty.set p
  refine ⟨⟨by simpa using hZ.lt, ?_, ?_, by simpa using hZ.z0, by simpa using hZ.z1⟩, t1.set q, hX, own_mono (own_setT (own_setT hO hZ.ty (by decide) p) t1 (by decide) q) hb, tRow_mono ((hR.setT hZ.ty p).setT t1 q) hb, (hB.setCell hX _).setCell hX _⟩
  · rw [World.cell?_setCell_other _ _ _ _ (by simp)]
    exact World.cell?_setCell_same' _ _ _ (by rw [hZ.c0]; rfl)
  · exact World.cell?_setCell_same' _ _ _ (by rw [World.cell?_setCell_other _ _ _ _ (by simp), hZ.c1]; rfl)

/-- A target put into a row of targets whose list is new. -/
theorem tRow_ins {w : World} {base : Nat} {v : Value} {A B : List TR} {x : TR} (ha : ∀ r ∈ A ++ B, RowIns w r.2.1 0 r.1.actN r.1.act ∧ (∃ F, Cells w r.2.1 0 (r.1.actN * 3) F) ∧ TypeAt w r.2.1 97 ∧ base ≤ r.2.1) (hu : (A ++ B).Pairwise fun a b => a.2.1 ≠ b.2.1) (hx : RowIns w x.2.1 0 x.1.actN x.1.act ∧ (∃ F, Cells w x.2.1 0 (x.1.actN * 3) F) ∧ TypeAt w x.2.1 97 ∧ base ≤ x.2.1)
    (hne : ∀ r ∈ A ++ B, r.2.1 ≠ x.2.1) (hown : w.ownsRow base 72 2 v (A ++ x :: B).length ((A ++ x :: B).flatMap tgtV)) : TRow w base v (A ++ x :: B) := by
  refine ⟨hown, fun r hr => ?_, ?_⟩
  · rcases List.mem_append.1 hr with hr | hr
    · exact ha r (List.mem_append.2 (.inl hr))
    · rcases List.mem_cons.1 hr with rfl | hr
      · exact hx
      · exact ha r (List.mem_append.2 (.inr hr))
  · have hu := List.pairwise_append.1 hu
    refine List.pairwise_append.2 ⟨hu.1, List.pairwise_cons.2 ⟨fun b hb e => hne b (List.mem_append.2 (.inr hb)) e.symm, hu.2.1⟩, fun a ha b hb => ?_⟩
    rcases List.mem_cons.1 hb with rfl | hb
    · exact hne a (List.mem_append.2 (.inl ha))
    · exact hu.2.2 a ha b hb
/-- Behind copyProgram, the new target's box, slices.Insert and the store. -/
theorem room_ins {W w3 wC wI : World} {X i m g c tc : Nat} {ta : Option Addr} {p v' : Value} {L : List Source} {R : List TR} {t : ByteArray} {fp : Nat → Ins} (RB : RoomBox W w3 X p (.slice ta R.length tc) L R) (hi : i ≤ R.length) (hBC : Below w3.heap.size w3 wC) (hOC : wC.ownsRow w3.heap.size 97 3 (.slice (some ⟨g, 0, none⟩) m c) m (insL fp m))
    (hI : wI.ownsRow W.heap.size 72 2 v' (R.length + 1) ((R.flatMap tgtV).take (i * 2) ++ [.string t, .slice (some ⟨g, 0, none⟩) m c] ++ (R.flatMap tgtV).drop (i * 2)))
    (hg : (wC.alloc (.cells #[.string t, .slice (some ⟨g, 0, none⟩) m c] 72)).grownBy wI (Value.slice ta R.length tc).ownBlock) :
    RoomBox W (wI.setCell ⟨X, 1, none⟩ v') X p v' L (R.take i ++ (⟨t, m, fp⟩, g, c) :: R.drop i) := by
  have D4 : Below w3.heap.size w3 (wC.alloc (.cells #[.string t, .slice (some ⟨g, 0, none⟩) m c] 72)) := hBC.alloc hBC.size _
  have OC4 := hOC.alloc (.cells #[.string t, .slice (some ⟨g, 0, none⟩) m c] 72)
  generalize wC.alloc (.cells #[.string t, .slice (some ⟨g, 0, none⟩) m c] 72) = w4 at D4 OC4 hg
  have T4 := RB.tgt.below D4 (Nat.le_refl _)
  have S4 := own_below RB.src D4 (Nat.le_refl _)
  have Y4 : TypeAt w4 X 30 := RB.ty.block (D4.block X RB.two.lt)
  have hX4 : X < w4.heap.size := Nat.lt_of_lt_of_le RB.two.lt D4.size
  have rows : ∀ k, (Value.slice ta R.length tc).ownBlock = some k → TypeAt w4 k 72 := own_ty T4.own
  have keep : ∀ k e, TypeAt w4 k e → e ≠ 72 → k < w4.heap.size → wI.heap[k]? = w4.heap[k]? := fun k e hk hne hlt => hg.block k hlt (fun e1 => ty_ne hk (rows k e1.symm) hne rfl)
  have hXb := keep X _ Y4 (by decide) hX4
  have YI : TypeAt wI X 30 := Y4.block hXb
  have hX3 : wI.heap[X]? = w3.heap[X]? := hXb.trans (D4.block X RB.two.lt)
  have SI : wI.ownsRow W.heap.size 57 2 p L.length (L.flatMap srcV) := S4.kept hg (own_apart S4 T4.own (by decide))
  have act : ∀ r : TR, RowIns w4 r.2.1 0 r.1.actN r.1.act ∧ (∃ F, Cells w4 r.2.1 0 (r.1.actN * 3) F) ∧ TypeAt w4 r.2.1 97 ∧ W.heap.size ≤ r.2.1 → RowIns wI r.2.1 0 r.1.actN r.1.act ∧ (∃ F, Cells wI r.2.1 0 (r.1.actN * 3) F) ∧ TypeAt wI r.2.1 97 ∧ W.heap.size ≤ r.2.1 := by
    rintro r ⟨h1, ⟨F, h2⟩, h3, h4⟩
    have e := keep r.2.1 _ h3 (by decide) h1.1
    exact ⟨h1.block hg.size e, ⟨F, h2.block hg.size e⟩, h3.block e, h4⟩
  have hW3 : W.heap.size ≤ w3.heap.size := RB.below.size
  have hgl := (own_lt hOC).1
  have eR : R.take i ++ R.drop i = R := List.take_append_drop i R
  have TI : TRow wI W.heap.size v' (R.take i ++ ((⟨t, m, fp⟩, g, c) : TR) :: R.drop i) := by
    refine tRow_ins ?_ ?_ ?_ ?_ ?_
    · rw [eR]
      exact fun r hr => act r (T4.act r hr)
    · rw [eR]
      exact T4.up
    · exact act (⟨t, m, fp⟩, g, c) (own_act (x := ⟨t, m, fp⟩) (own_mono OC4 hW3))
    · rw [eR]
      intro r hr
      have := (RB.tgt.act r hr).1.1
      show r.2.1 ≠ g
      omega
    · have e1 : (R.take i ++ ((⟨t, m, fp⟩, g, c) : TR) :: R.drop i).length = R.length + 1 := by simp; omega
      have e2 : (R.take i ++ ((⟨t, m, fp⟩, g, c) : TR) :: R.drop i).flatMap tgtV = (R.flatMap tgtV).take (i * 2) ++ [.string t, .slice (some ⟨g, 0, none⟩) m c] ++ (R.flatMap tgtV).drop (i * 2) := by rw [(take_flatT R i).1, (take_flatT R i).2]; simp [tgtV]
      rw [e1, e2]
      exact hI
  refine ⟨⟨?_, ?_, ?_, ?_, ?_⟩, YI.set v', RB.ge, own_setT SI YI (by decide) v', TI.setT YI v', ?_⟩
  · simpa using Nat.lt_of_lt_of_le hX4 hg.size
  · rw [World.cell?_setCell_other _ _ _ _ (by simp)]
    exact (World.cell?_of_block (a := ⟨X, 0, none⟩) hX3).trans RB.two.c0
  · exact World.cell?_setCell_same' _ _ _ (by rw [(World.cell?_of_block (a := ⟨X, 1, none⟩) hX3).trans RB.two.c1]; rfl)
  · simpa using (World.frozen?_of_block (a := ⟨X, 0, none⟩) hX3).trans RB.two.z0
  · simpa using (World.frozen?_of_block (a := ⟨X, 1, none⟩) hX3).trans RB.two.z1
  · exact (Below.grown (RB.below.trans (D4.mono hW3)) hg (Nat.le_trans hW3 D4.size) (fun j e => (T4.own.lt j e).1)).setCell RB.ge _
theorem insT_at {K : List Target} {R : List TR} {t : ByteArray} {x : TR} {i : Nat} (hK : R.map (fun r : TR => r.1) = K) (hi : i ≤ R.length) (h1 : ∀ m, m < i → tless (nm1 (tgtF K) m) t = true) (h2 : ∀ m, i ≤ m → m < R.length → tless (nm1 (tgtF K) m) t = false) (h3 : ∀ m, m < K.length → ((nm1 (tgtF K) m).toList == t.toList) = false) : (R.take i ++ x :: R.drop i).map (fun r : TR => r.1) = insT K x.1 t := by
  have hl : K.length = R.length := by rw [← hK]; simp
  unfold insT
  rw [finG_at (i := i) (by omega) h1 (fun m a b => h2 m a (by omega)) h3, ← hK]
  simp

theorem RoomBox.on {W wx wy : World} {X : Nat} {p q : Value} {L : List Source} {R : List TR} (h : RoomBox W wx X p q L R) (hb : Below wx.heap.size wx wy) : RoomBox W wy X p q L R := by
  have e := hb.block X h.two.lt
  exact ⟨⟨Nat.lt_of_lt_of_le h.two.lt hb.size, (World.cell?_of_block (a := ⟨X, 0, none⟩) e).trans h.two.c0, (World.cell?_of_block (a := ⟨X, 1, none⟩) e).trans h.two.c1, (World.frozen?_of_block (a := ⟨X, 0, none⟩) e).trans h.two.z0, (World.frozen?_of_block (a := ⟨X, 1, none⟩) e).trans h.two.z1⟩, h.ty.block e, h.ge, own_below h.src hb (Nat.le_refl _), h.tgt.below hb (Nat.le_refl _), h.below.trans (hb.mono h.below.size)⟩
theorem room_same {W w3 w4 wI : World} {X tc : Nat} {ta : Option Addr} {p : Value} {L : List Source} {R : List TR} (RB : RoomBox W w3 X p (.slice ta R.length tc) L R) (D4 : Below w3.heap.size w3 w4) (hg : w4.grownBy wI (Value.slice ta R.length tc).ownBlock) : wI.heap[X]? = w3.heap[X]? := by
  have Y4 : TypeAt w4 X 30 := RB.ty.block (D4.block X RB.two.lt)
  exact (hg.block X (Nat.lt_of_lt_of_le RB.two.lt D4.size) (fun e1 => ty_ne Y4 (own_ty (RB.tgt.below D4 (Nat.le_refl _)).own X e1.symm) (by decide) rfl)).trans (D4.block X RB.two.lt)

theorem smarked_le {w : World} {a0 a1 : Option Addr} {n0 n1 r : Nat} (h : SMarked w a0 n0 a1 n1 r) (h0 : (n0 : Int) ≤ 1048576) (h1 : (n1 : Int) ≤ 1048576) : 1 ≤ (r : Int) ∧ (r : Int) ≤ 1152921504606846976 := by
  rcases h.tgt with ⟨_, rfl⟩ | ⟨T, B, m, _, _, hm, rfl⟩
  · omega
  · have h2 := kAt_le (k0 := 1 + n0 * 2) hm
    have h3 := kAt_ge (m := m) (k0 := 1 + n0 * 2) (n := n1)
    omega

structure OneB (w : World) (b : Nat) (v : Value) : Prop where
  lt : b < w.heap.size
  c0 : w.cell? ⟨b, 0, none⟩ = some v
theorem OneB.block {w w' : World} {b : Nat} {v : Value} (h : OneB w b v) (hz : w.heap.size ≤ w'.heap.size) (hb : w'.heap[b]? = w.heap[b]?) : OneB w' b v :=
  ⟨Nat.lt_of_lt_of_le h.lt hz, (World.cell?_of_block (a := ⟨b, 0, none⟩) hb).trans h.c0⟩
theorem OneB.below {w w' : World} {b : Nat} {v : Value} (h : OneB w b v) (hb : Below w.heap.size w w') : OneB w' b v := h.block hb.size (hb.block b h.lt)
theorem OneB.touch {w w' : World} {b : Nat} {v : Value} {P : Nat → Prop} (h : OneB w b v) (ht : Touch P w w') (hb : ¬ P b) : OneB w' b v := h.block ht.size (ht.block b h.lt hb)
theorem oneB_box (w : World) (v : Value) (t : TypeId) : OneB (w.alloc (.cells #[v] t)) w.heap.size v := ⟨by simp, by simp⟩

/-- A row of instructions that may be written. -/
structure PCells (w : World) (g n : Nat) : Prop where
  lt : g < w.heap.size
  cells : ∃ F, Cells w g 0 (n * 3) F
theorem PCells.below {w w' : World} {g n : Nat} (h : PCells w g n) (hb : Below w.heap.size w w') : PCells w' g n := by
  obtain ⟨h1, F, h2⟩ := h
  exact ⟨Nat.lt_of_lt_of_le h1 hb.size, F, h2.block hb.size (hb.block g h1)⟩
theorem PCells.touch {w w' : World} {g n : Nat} {P : Nat → Prop} (h : PCells w g n) (ht : Touch P w w') (hb : ¬ P g) : PCells w' g n := by
  obtain ⟨h1, F, h2⟩ := h
  exact ⟨Nat.lt_of_lt_of_le h1 ht.size, F, h2.block ht.size (ht.block g h1 hb)⟩

end Go.Proofs.YthbigpnaepbhjaaDoor.Vp
