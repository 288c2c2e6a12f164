/-
  What is left of a space without a name: lists; boxes.
-/
import Derived.Test.YtpbpbjcnbhejgaaDoorWoBase
import Derived.Test.YtpbpbjcnbhejgaaDoorFdFind
namespace Go.Proofs.YtpbpbjcnbhejgaaDoor.Vp
open Go.RowKit

def keepS (f : Nat → Source) (t : ByteArray) (k : Nat) : List Source := ((List.range k).map f).filter fun x => !(x.name.toList == t.toList)
def keepT (f : Nat → Target) (t : ByteArray) (k : Nat) : List Target := ((List.range k).map f).filter fun x => !(x.name.toList == t.toList)
theorem keepS_same {f : Nat → Source} {t : ByteArray} {k : Nat} (h : ((f k).name.toList == t.toList) = true) : keepS f t (k + 1) = keepS f t k := by
  simp only [keepS, List.range_succ, List.map_append, List.filter_append]
  simp [h]
theorem keepS_more {f : Nat → Source} {t : ByteArray} {k : Nat} (h : ((f k).name.toList == t.toList) = false) : keepS f t (k + 1) = keepS f t k ++ [f k] := by
  simp only [keepS, List.range_succ, List.map_append, List.filter_append]
  simp [h]
theorem keepT_same {f : Nat → Target} {t : ByteArray} {k : Nat} (h : ((f k).name.toList == t.toList) = true) : keepT f t (k + 1) = keepT f t k := by
  simp only [keepT, List.range_succ, List.map_append, List.filter_append]
  simp [h]
theorem keepT_more {f : Nat → Target} {t : ByteArray} {k : Nat} (h : ((f k).name.toList == t.toList) = false) : keepT f t (k + 1) = keepT f t k ++ [f k] := by
  simp only [keepT, List.range_succ, List.map_append, List.filter_append]
  simp [h]
theorem keepS_len (f : Nat → Source) (t : ByteArray) (k : Nat) : (keepS f t k).length ≤ k := by
  have := List.length_filter_le (fun x : Source => !(x.name.toList == t.toList)) ((List.range k).map f)
  simpa [keepS] using this
theorem keepT_len (f : Nat → Target) (t : ByteArray) (k : Nat) : (keepT f t k).length ≤ k := by
  have := List.length_filter_le (fun x : Target => !(x.name.toList == t.toList)) ((List.range k).map f)
  simpa [keepT] using this

theorem own_some {w : World} {base size n : Nat} {e : TypeId} {v : Value} {xs : List Value} (h : w.ownsRow base e size v n xs) (hn : 0 < n) : ∃ g cap, v = .slice (some ⟨g, 0, none⟩) n cap := by
  rcases h.2 with ⟨_, h0⟩ | ⟨g, cap, cur, rfl, _⟩
  · omega
  · exact ⟨g, cap, rfl⟩
theorem own_slice {w : World} {base size n : Nat} {e : TypeId} {v : Value} {xs : List Value} (h : w.ownsRow base e size v n xs) : ∃ a cap, v = .slice a n cap := by
  rcases h.2 with ⟨rfl, rfl⟩ | ⟨g, cap, cur, rfl, _⟩
  · exact ⟨_, _, rfl⟩
  · exact ⟨_, _, rfl⟩
theorem two_new (w : World) (x y : Value) (t : TypeId) : ∀ j u, [x, y][j]? = some u → (w.alloc (.cells #[x, y] t)).cell? ((⟨w.heap.size, 0, none⟩ : Addr).add j) = some u := by
  intro j u hj
  rw [addr_add, Nat.zero_add]
  match j, hj with
  | 0, hj => simp at hj; subst hj; simp
  | 1, hj => simp at hj; subst hj; simp

/-- A target, the block and the room of its action. -/
abbrev TR := Target × Nat × Nat
def tgtV (r : TR) : List Value := [.string r.1.name, .slice (some ⟨r.2.1, 0, none⟩) r.1.actN r.2.2]
/-- An owned row of targets, each action a row of its own. -/
structure TRow (w : World) (base : Nat) (v : Value) (R : List TR) : Prop where
  own : w.ownsRow base 78 2 v R.length (R.flatMap tgtV)
  act : ∀ r ∈ R, RowIns w r.2.1 0 r.1.actN r.1.act ∧ (∃ F, Cells w r.2.1 0 (r.1.actN * 3) F) ∧ TypeAt w r.2.1 114 ∧ base ≤ r.2.1
  up : R.Pairwise fun a b => a.2.1 ≠ b.2.1
theorem TypeAt.block {w w' : World} {g : Nat} {e : TypeId} (h : TypeAt w g e) (hb : w'.heap[g]? = w.heap[g]?) : TypeAt w' g e := by
  obtain ⟨c, hc⟩ := h
  exact ⟨c, hb.trans hc⟩
theorem RowIns.block {w w' : World} {g off n : Nat} {f : Nat → Ins} (h : RowIns w g off n f) (hz : w.heap.size ≤ w'.heap.size) (hb : w'.heap[g]? = w.heap[g]?) : RowIns w' g off n f := by
  refine ⟨Nat.lt_of_lt_of_le h.1 hz, fun i hi => ?_⟩
  obtain ⟨h0, h1, h2⟩ := h.2 i hi
  exact ⟨(World.cell?_of_block (a := ⟨g, _, none⟩) hb).trans h0, (World.cell?_of_block (a := ⟨g, _, none⟩) hb).trans h1, (World.cell?_of_block (a := ⟨g, _, none⟩) hb).trans h2⟩
theorem Cells.block {w w' : World} {b off m : Nat} {F : Nat → Value} (h : Cells w b off m F) (hz : w.heap.size ≤ w'.heap.size) (e : w'.heap[b]? = w.heap[b]?) : Cells w' b off m F :=
  ⟨Nat.lt_of_lt_of_le h.1 hz, fun j hj => ⟨(World.cell?_of_block (a := ⟨b, off + j, none⟩) e).trans (h.2 j hj).1, (World.frozen?_of_block (a := ⟨b, off + j, none⟩) e).trans (h.2 j hj).2⟩⟩
theorem TRow.below {w w' : World} {base B : Nat} {v : Value} {R : List TR} (h : TRow w base v R) (hb : Below B w w') (hB : w.heap.size ≤ B) : TRow w' base v R := by
  refine ⟨own_below h.own hb hB, fun r hr => ?_, h.up⟩
  obtain ⟨h1, ⟨F, h2⟩, h3, h4⟩ := h.act r hr
  have e := hb.block r.2.1 (Nat.lt_of_lt_of_le h1.1 hB)
  exact ⟨h1.block hb.size e, ⟨F, h2.block hb.size e⟩, h3.block e, h4⟩
theorem TRow.set {w : World} {base X j : Nat} {v : Value} {R : List TR} (h : TRow w base v R) (hX : X < base) (u : Value) : TRow (w.setCell ⟨X, j, none⟩ u) base v R := by
  refine ⟨own_set h.own hX u, fun r hr => ?_, h.up⟩
  obtain ⟨h1, ⟨F, h2⟩, h3, h4⟩ := h.act r hr
  have e : (w.setCell ⟨X, j, none⟩ u).heap[r.2.1]? = w.heap[r.2.1]? := Below.heap_setCell _ _ _ _ (by simp; omega)
  exact ⟨h1.block (by simp) e, ⟨F, h2.block (by simp) e⟩, h3.block e, h4⟩
theorem tRow_nil (w : World) (base : Nat) : TRow w base (.slice none 0 0) [] := ⟨World.ownsRow_nil _ _ _ _, fun r hr => absurd hr (by simp), List.Pairwise.nil⟩
theorem TRow.type {w : World} {base : Nat} {v : Value} {R : List TR} (h : TRow w base v R) : ∀ k, v.ownBlock = some k → TypeAt w k 78 := by
  intro k hk
  rcases h.own.2 with ⟨rfl, _⟩ | ⟨g, cap, cur, rfl, _, hg, _⟩
  · simp [Value.ownBlock] at hk
  · simp [Value.ownBlock] at hk
    subst hk
    exact ⟨cur, hg⟩
/-- One more, behind an append. -/
theorem TRow.more {w w1 w2 : World} {base g c : Nat} {v v' : Value} {R : List TR} {x : Target} (h : TRow w base v R) (hb : Below w.heap.size w w1) (hg : w.heap.size ≤ g) (hbase : base ≤ g)
    (hO : w1.ownsRow base 114 3 (.slice (some ⟨g, 0, none⟩) x.actN c) x.actN (insL x.act x.actN)) (hown : w2.ownsRow base 78 2 v' (R.length + 1) (R.flatMap tgtV ++ tgtV (x, g, c))) (hgr : w1.grownBy w2 v.ownBlock) : TRow w2 base v' (R ++ [(x, g, c)]) := by
  have hne : ∀ k, TypeAt w1 k 114 → some k ≠ v.ownBlock := fun k hk e => by
    have ht := (h.below hb (Nat.le_refl _)).type k e.symm
    exact type_ne hk ht (by decide) rfl
  have one : ∀ r ∈ R, r.2.1 < w.heap.size := fun r hr => (h.act r hr).1.1
  refine ⟨by simpa using hown, fun r hr => ?_, ?_⟩
  · rcases List.mem_append.1 hr with hr | hr
    · obtain ⟨h1, ⟨F, h2⟩, h3, h4⟩ := (h.below hb (Nat.le_refl _)).act r hr
      have e := hgr.block r.2.1 h1.1 (hne _ h3)
      exact ⟨h1.block hgr.size e, ⟨F, h2.block hgr.size e⟩, h3.block e, h4⟩
    · simp at hr
      subst hr
      obtain ⟨h1, F, h2⟩ := own_ins hO
      have h3 := own_type hO
      have e := hgr.block g h1.1 (hne _ h3)
      exact ⟨h1.block hgr.size e, ⟨F, h2.block hgr.size e⟩, h3.block e, hbase⟩
  · rw [List.pairwise_append]
    refine ⟨h.up, by simp, fun a ha b hb' => ?_⟩
    simp at hb'
    subst hb'
    have := one a ha
    show a.2.1 ≠ g
    omega

theorem own_apart {w : World} {b0 b1 s0 s1 n0 n1 : Nat} {e0 e1 : TypeId} {v0 v1 : Value} {x0 x1 : List Value} (h0 : w.ownsRow b0 e0 s0 v0 n0 x0) (h1 : w.ownsRow b1 e1 s1 v1 n1 x1) (hne : e0 ≠ e1) : v0.ownBlock = none ∨ v0.ownBlock ≠ v1.ownBlock := by
  rcases h0.2 with ⟨rfl, _⟩ | ⟨g, cap, cur, rfl, _, hg, _⟩
  · exact .inl rfl
  · right
    rcases h1.2 with ⟨rfl, _⟩ | ⟨g', cap', cur', rfl, _, hg', _⟩
    · simp [Value.ownBlock]
    · simp only [Value.ownBlock, ne_eq, Option.some.injEq]
      exact type_ne ⟨cur, hg⟩ ⟨cur', hg'⟩ hne
/-- Three boxes: the argument, the answer, what is made. -/
structure Boxes (w : World) (h : Nat) (p0 p1 v0 v1 : Value) : Prop where
  lt : h + 2 < w.heap.size
  a0 : w.cell? ⟨h, 0, none⟩ = some p0
  a1 : w.cell? ⟨h, 1, none⟩ = some p1
  r0 : w.cell? ⟨h + 1, 0, none⟩ = some (.slice none 0 0) ∧ w.frozen? ⟨h + 1, 0, none⟩ = false
  r1 : w.cell? ⟨h + 1, 1, none⟩ = some (.slice none 0 0) ∧ w.frozen? ⟨h + 1, 1, none⟩ = false
  o0 : w.cell? ⟨h + 1 + 1, 0, none⟩ = some v0 ∧ w.frozen? ⟨h + 1 + 1, 0, none⟩ = false
  o1 : w.cell? ⟨h + 1 + 1, 1, none⟩ = some v1 ∧ w.frozen? ⟨h + 1 + 1, 1, none⟩ = false
theorem Boxes.below {w w' : World} {h B : Nat} {p0 p1 v0 v1 : Value} (b : Boxes w h p0 p1 v0 v1) (hb : Below B w w') (hB : h + 3 ≤ B) : Boxes w' h p0 p1 v0 v1 := by
  have c : ∀ k o, k < B → w'.cell? ⟨k, o, none⟩ = w.cell? ⟨k, o, none⟩ := fun k o hk => hb.cell (p := ⟨k, o, none⟩) hk
  have f : ∀ k o, k < B → w'.frozen? ⟨k, o, none⟩ = w.frozen? ⟨k, o, none⟩ := fun k o hk => hb.frozen (p := ⟨k, o, none⟩) hk
  exact ⟨Nat.lt_of_lt_of_le b.lt hb.size, (c _ _ (by omega)).trans b.a0, (c _ _ (by omega)).trans b.a1, ⟨(c _ _ (by omega)).trans b.r0.1, (f _ _ (by omega)).trans b.r0.2⟩, ⟨(c _ _ (by omega)).trans b.r1.1, (f _ _ (by omega)).trans b.r1.2⟩, ⟨(c _ _ (by omega)).trans b.o0.1, (f _ _ (by omega)).trans b.o0.2⟩, ⟨(c _ _ (by omega)).trans b.o1.1, (f _ _ (by omega)).trans b.o1.2⟩⟩
theorem Boxes.set0 {w : World} {h : Nat} {p0 p1 v0 v1 : Value} (b : Boxes w h p0 p1 v0 v1) (u : Value) : Boxes (w.setCell ⟨h + 1 + 1, 0, none⟩ u) h p0 p1 u v1 := by
  have e : ∀ k o, k ≠ h + 1 + 1 → (w.setCell ⟨h + 1 + 1, 0, none⟩ u).cell? ⟨k, o, none⟩ = w.cell? ⟨k, o, none⟩ := fun k o hk => cell_far _ _ _ _ (by simpa using fun e => hk e.symm)
  exact ⟨by simpa using b.lt, (e _ _ (by omega)).trans b.a0, (e _ _ (by omega)).trans b.a1, ⟨(e _ _ (by omega)).trans b.r0.1, by simpa using b.r0.2⟩, ⟨(e _ _ (by omega)).trans b.r1.1, by simpa using b.r1.2⟩, ⟨World.cell?_setCell_same' _ _ _ (by rw [b.o0.1]; rfl), by simpa using b.o0.2⟩, ⟨(World.cell?_setCell_other _ _ _ _ (by simp)).trans b.o1.1, by simpa using b.o1.2⟩⟩
theorem Boxes.set1 {w : World} {h : Nat} {p0 p1 v0 v1 : Value} (b : Boxes w h p0 p1 v0 v1) (u : Value) : Boxes (w.setCell ⟨h + 1 + 1, 1, none⟩ u) h p0 p1 v0 u := by
  have e : ∀ k o, k ≠ h + 1 + 1 → (w.setCell ⟨h + 1 + 1, 1, none⟩ u).cell? ⟨k, o, none⟩ = w.cell? ⟨k, o, none⟩ := fun k o hk => cell_far _ _ _ _ (by simpa using fun e => hk e.symm)
  exact ⟨by simpa using b.lt, (e _ _ (by omega)).trans b.a0, (e _ _ (by omega)).trans b.a1, ⟨(e _ _ (by omega)).trans b.r0.1, by simpa using b.r0.2⟩, ⟨(e _ _ (by omega)).trans b.r1.1, by simpa using b.r1.2⟩, ⟨(World.cell?_setCell_other _ _ _ _ (by simp)).trans b.o0.1, by simpa using b.o0.2⟩, ⟨World.cell?_setCell_same' _ _ _ (by rw [b.o1.1]; rfl), by simpa using b.o1.2⟩⟩
theorem boxes_new (w : World) (p0 p1 : Value) (t : TypeId) : Boxes (((w.alloc (.cells #[p0, p1] t)).alloc (.cells #[.slice none 0 0, .slice none 0 0] t)).alloc (.cells #[.slice none 0 0, .slice none 0 0] t)) w.heap.size p0 p1 (.slice none 0 0) (.slice none 0 0) := by
  have A : Below (w.heap.size + 1) (w.alloc (.cells #[p0, p1] t)) (((w.alloc (.cells #[p0, p1] t)).alloc (.cells #[.slice none 0 0, .slice none 0 0] t)).alloc (.cells #[.slice none 0 0, .slice none 0 0] t)) := ((Below.refl _ _).alloc (by simp) _).alloc (by simp) _
  have C : Below (w.heap.size + 1 + 1) ((w.alloc (.cells #[p0, p1] t)).alloc (.cells #[.slice none 0 0, .slice none 0 0] t)) (((w.alloc (.cells #[p0, p1] t)).alloc (.cells #[.slice none 0 0, .slice none 0 0] t)).alloc (.cells #[.slice none 0 0, .slice none 0 0] t)) := (Below.refl _ _).alloc (by simp) _
  have hz : (w.alloc (.cells #[p0, p1] t)).heap.size = w.heap.size + 1 := by simp
  have hy : ((w.alloc (.cells #[p0, p1] t)).alloc (.cells #[.slice none 0 0, .slice none 0 0] t)).heap.size = w.heap.size + 1 + 1 := by simp
  refine ⟨by simp, ?_, ?_, ⟨?_, ?_⟩, ⟨?_, ?_⟩, ⟨?_, ?_⟩, ⟨?_, ?_⟩⟩
  · exact (A.cell (p := ⟨w.heap.size, 0, none⟩) (Nat.lt_succ_self _)).trans (by simp)
  · exact (A.cell (p := ⟨w.heap.size, 1, none⟩) (Nat.lt_succ_self _)).trans (by simp)
  · refine (C.cell (p := ⟨w.heap.size + 1, 0, none⟩) (Nat.lt_succ_self _)).trans ?_
    rw [← hz]
    simp
  · refine (C.frozen (p := ⟨w.heap.size + 1, 0, none⟩) (Nat.lt_succ_self _)).trans ?_
    rw [← hz]
    simp
  · refine (C.cell (p := ⟨w.heap.size + 1, 1, none⟩) (Nat.lt_succ_self _)).trans ?_
    rw [← hz]
    simp
  · refine (C.frozen (p := ⟨w.heap.size + 1, 1, none⟩) (Nat.lt_succ_self _)).trans ?_
    rw [← hz]
    simp
  all_goals
    rw [← hy]
    clear A C hz hy
    generalize (w.alloc (.cells #[p0, p1] t)).alloc (.cells #[.slice none 0 0, .slice none 0 0] t) = W
    simp

end Go.Proofs.YtpbpbjcnbhejgaaDoor.Vp
