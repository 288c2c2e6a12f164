import Derived.Test.YtkophfgkcijjkaaGreatDoorZO
import Derived.Test.YtkophfgkcijjkaaGreatDoorZX
namespace Go.Proofs.YtkophfgkcijjkaaGreatDoor.Vp
open Go.RowKit
def keepS (f : Nat → Source) (t : ByteArray) (k : Nat) : List Source := ((List.range k).map f).filter fun x => !(x.name.toList == t.toList)
def keepT (f : Nat → Target) (t : ByteArray) (k : Nat) : List Target := ((List.range k).map f).filter fun x => !(x.name.toList == t.toList)
theorem keepS_same {f : Nat → Source} {t : ByteArray} {k : Nat} (h : ((f k).name.toList == t.toList) = true) : keepS f t (k + 1) = keepS f t k := by
  simp only [keepS, List.range_succ, List.map_append, List.filter_append]
  simp [h]
theorem keepS_more {f : Nat → Source} {t : ByteArray} {k : Nat} (h : ((f k).name.toList == t.toList) = false) : keepS f t (k + 1) = keepS f t k ++ [f k] := by
  simp only [keepS, List.range_succ, List.map_append, List.filter_append]
  simp [h]
theorem keepT_same {f : Nat → Target} {t : ByteArray} {k : Nat} (h : ((f k).name.toList == t.toList) = true) : keepT f t (k + 1) = keepT f t k := by
  simp only [keepT, List.range_succ, List.map_append, List.filter_append]
  simp [h]
theorem keepT_more {f : Nat → Target} {t : ByteArray} {k : Nat} (h : ((f k).name.toList == t.toList) = false) : keepT f t (k + 1) = keepT f t k ++ [f k] := by
  simp only [keepT, List.range_succ, List.map_append, List.filter_append]
  simp [h]
theorem keepS_len (f : Nat → Source) (t : ByteArray) (k : Nat) : (keepS f t k).length ≤ k := by
  have := List.length_filter_le (fun x : Source => !(x.name.toList == t.toList)) ((List.range k).map f)
  simpa [keepS] using this
theorem keepT_len (f : Nat → Target) (t : ByteArray) (k : Nat) : (keepT f t k).length ≤ k := by
  have := List.length_filter_le (fun x : Target => !(x.name.toList == t.toList)) ((List.range k).map f)
  simpa [keepT] using this
theorem own_some {w : World} {base size n : Nat} {e : TypeId} {v : Value} {xs : List Value} (h : w.ownsRow base e size v n xs) (hn : 0 < n) : ∃ g cap, v = .slice (some ⟨g, 0, none⟩) n cap := by
  rcases h.2 with ⟨_, h0⟩ | ⟨g, cap, cur, rfl, _⟩
  · omega
  · exact ⟨g, cap, rfl⟩
theorem own_slice {w : World} {base size n : Nat} {e : TypeId} {v : Value} {xs : List Value} (h : w.ownsRow base e size v n xs) : ∃ a cap, v = .slice a n cap := by
  rcases h.2 with ⟨rfl, rfl⟩ | ⟨g, cap, cur, rfl, _⟩
  · exact ⟨_, _, rfl⟩
  · exact ⟨_, _, rfl⟩
theorem two_new (w : World) (x y : Value) (t : TypeId) : ∀ j u, [x, y][j]? = some u → (w.alloc (.cells #[x, y] t)).cell? ((⟨w.heap.size, 0, none⟩ : Addr).add j) = some u := by
  intro j u hj
  rw [addr_add, Nat.zero_add]
  match j, hj with
  | 0, hj => simp at hj; subst hj; simp
  | 1, hj => simp at hj; subst hj; simp
abbrev TR := Target × Nat × Nat
def tgtV (r : TR) : List Value := [.string r.1.name, .slice (some ⟨r.2.1, 0, none⟩) r.1.actN r.2.2]
structure TRow (w : World) (base : Nat) (v : Value) (R : List TR) : Prop where
  own : w.ownsRow base 104 2 v R.length (R.flatMap tgtV)
  act : ∀ r ∈ R, RowIns w r.2.1 0 r.1.actN r.1.act ∧ (∃ F, Cells w r.2.1 0 (r.1.actN * 3) F) ∧ TypeAt w r.2.1 176 ∧ base ≤ r.2.1
  up : R.Pairwise fun a b => a.2.1 ≠ b.2.1
theorem TypeAt.block {w w' : World} {g : Nat} {e : TypeId} (h : TypeAt w g e) (hb : w'.heap[g]? = w.heap[g]?) : TypeAt w' g e := by
  obtain ⟨c, hc⟩ := h
  exact ⟨c, hb.trans hc⟩
theorem RowIns.block {w w' : World} {g off n : Nat} {f : Nat → Ins} (h : RowIns w g off n f) (hz : w.heap.size ≤ w'.heap.size) (hb : w'.heap[g]? = w.heap[g]?) : RowIns w' g off n f := by
  refine ⟨Nat.lt_of_lt_of_le h.1 hz, fun i hi => ?_⟩
  obtain ⟨h0, h1, h2⟩ := h.2 i hi
  exact ⟨(World.cell?_of_block (a := ⟨g, _, none⟩) hb).trans h0, (World.cell?_of_block (a := ⟨g, _, none⟩) hb).trans h1, (World.cell?_of_block (a := ⟨g, _, none⟩) hb).trans h2⟩
theorem Cells.block {w w' : World} {b off m : Nat} {F : Nat → Value} (h : Cells w b off m F) (hz : w.heap.size ≤ w'.heap.size) (e : w'.heap[b]? = w.heap[b]?) : Cells w' b off m F :=
  ⟨Nat.lt_of_lt_of_le h.1 hz, fun j hj => ⟨(World.cell?_of_block (a := ⟨b, off + j, none⟩) e).trans (h.2 j hj).1, (World.frozen?_of_block (a := ⟨b, off + j, none⟩) e).trans (h.2 j hj).2⟩⟩
theorem TRow.below {w w' : World} {base B : Nat} {v : Value} {R : List TR} (h : TRow w base v R) (hb : Below B w w') (hB : w.heap.size ≤ B) : TRow w' base v R := by
  refine ⟨own_below h.own hb hB, fun r hr => ?_, h.up⟩
  obtain ⟨h1, ⟨F, h2⟩, h3, h4⟩ := h.act r hr
  have e := hb.block r.2.1 (Nat.lt_of_lt_of_le h1.1 hB)
  exact ⟨h1.block hb.size e, ⟨F, h2.block hb.size e⟩, h3.block e, h4⟩
theorem TRow.set {w : World} {base X j : Nat} {v : Value} {R : List TR} (h : TRow w base v R) (hX : X < base) (u : Value) : TRow (w.setCell ⟨X, j, none⟩ u) base v R := by
  refine ⟨own_set h.own hX u, fun r hr => ?_, h.up⟩
  obtain ⟨h1, ⟨F, h2⟩, h3, h4⟩ := h.act r hr
  have e : (w.setCell ⟨X, j, none⟩ u).heap[r.2.1]? = w.heap[r.2.1]? := Below.heap_setCell _ _ _ _ (by simp; omega)
  exact ⟨h1.block (by simp) e, ⟨F, h2.block (by simp) e⟩, h3.block e, h4⟩
theorem tRow_nil (w : World) (base : Nat) : TRow w base (.slice none 0 0) [] := ⟨World.ownsRow_nil _ _ _ _, fun r hr => absurd hr (by simp), List.Pairwise.nil⟩
theorem TRow.type {w : World} {base : Nat} {v : Value} {R : List TR} (h : TRow w base v R) : ∀ k, v.ownBlock = some k → TypeAt w k 104 := by
  intro k hk
  rcases h.own.2 with ⟨rfl, _⟩ | ⟨g, cap, cur, rfl, _, hg, _⟩
  · simp [Value.ownBlock] at hk
  · simp [Value.ownBlock] at hk
    subst hk
    exact ⟨cur, hg⟩
theorem TRow.more {w w1 w2 : World} {base g c : Nat} {v v' : Value} {R : List TR} {x : Target} (h : TRow w base v R) (hb : Below w.heap.size w w1) (hg : w.heap.size ≤ g) (hbase : base ≤ g)
    (hO : w1.ownsRow base 176 3 (.slice (some ⟨g, 0, none⟩) x.actN c) x.actN (insL x.act x.actN)) (hown : w2.ownsRow base 104 2 v' (R.length + 1) (R.flatMap tgtV ++ tgtV (x, g, c))) (hgr : w1.grownBy w2 v.ownBlock) : TRow w2 base v' (R ++ [(x, g, c)]) := by
  have hne : ∀ k, TypeAt w1 k 176 → some k ≠ v.ownBlock := fun k hk e => by
    have ht := (h.below hb (Nat.le_refl _)).type k e.symm
    exact type_ne hk ht (by decide) rfl
  have one : ∀ r ∈ R, r.2.1 < w.heap.size := fun r hr => (h.act r hr).1.1
  refine ⟨by simpa using hown, fun r hr => ?_, ?_⟩
  · rcases List.mem_append.1 hr with hr | hr
    · obtain ⟨h1, ⟨F, h2⟩, h3, h4⟩ := (h.below hb (Nat.le_refl _)).act r hr
      have e := hgr.block r.2.1 h1.1 (hne _ h3)
      exact ⟨h1.block hgr.size e, ⟨F, h2.block hgr.size e⟩, h3.block e, h4⟩
    · simp at hr
      subst hr
      obtain ⟨h1, F, h2⟩ := own_ins hO
      have h3 := own_type hO
      have e := hgr.block g h1.1 (hne _ h3)
      exact ⟨h1.block hgr.size e, ⟨F, h2.block hgr.size e⟩, h3.block e, hbase⟩
  · rw [List.pairwise_append]
    refine ⟨h.up, by simp, fun a ha b hb' => ?_⟩
    simp at hb'
    subst hb'
    have := one a ha
    show a.2.1 ≠ g
    omega
theorem own_apart {w : World} {b0 b1 s0 s1 n0 n1 : Nat} {e0 e1 : TypeId} {v0 v1 : Value} {x0 x1 : List Value} (h0 : w.ownsRow b0 e0 s0 v0 n0 x0) (h1 : w.ownsRow b1 e1 s1 v1 n1 x1) (hne : e0 ≠ e1) : v0.ownBlock = none ∨ v0.ownBlock ≠ v1.ownBlock := by
  rcases h0.2 with ⟨rfl, _⟩ | ⟨g, cap, cur, rfl, _, hg, _⟩
  · exact .inl rfl
  · right
    rcases h1.2 with ⟨rfl, _⟩ | ⟨g', cap', cur', rfl, _, hg', _⟩
    · simp [Value.ownBlock]
    · simp only [Value.ownBlock, ne_eq, Option.some.injEq]
      exact type_ne ⟨cur, hg⟩ ⟨cur', hg'⟩ hne
structure Boxes (w : World) (h : Nat) (p0 p1 v0 v1 : Value) : Prop where
  lt : h + 2 < w.heap.size
  a0 : w.cell? ⟨h, 0, none⟩ = some p0
  a1 : w.cell? ⟨h, 1, none⟩ = some p1
  r0 : w.cell? ⟨h + 1, 0, none⟩ = some (.slice none 0 0) ∧ w.frozen? ⟨h + 1, 0, none⟩ = false
  r1 : w.cell? ⟨h + 1, 1, none⟩ = some (.slice none 0 0) ∧ w.frozen? ⟨h + 1, 1, none⟩ = false
  o0 : w.cell? ⟨h + 1 + 1, 0, none⟩ = some v0 ∧ w.frozen? ⟨h + 1 + 1, 0, none⟩ = false
  o1 : w.cell? ⟨h + 1 + 1, 1, none⟩ = some v1 ∧ w.frozen? ⟨h + 1 + 1, 1, none⟩ = false
theorem Boxes.below {w w' : World} {h B : Nat} {p0 p1 v0 v1 : Value} (b : Boxes w h p0 p1 v0 v1) (hb : Below B w w') (hB : h + 3 ≤ B) : Boxes w' h p0 p1 v0 v1 := by
  have c : ∀ k o, k < B → w'.cell? ⟨k, o, none⟩ = w.cell? ⟨k, o, none⟩ := fun k o hk => hb.cell (p := ⟨k, o, none⟩) hk
  have f : ∀ k o, k < B → w'.frozen? ⟨k, o, none⟩ = w.frozen? ⟨k, o, none⟩ := fun k o hk => hb.frozen (p := ⟨k, o, none⟩) hk
  exact ⟨Nat.lt_of_lt_of_le b.lt hb.size, (c _ _ (by omega)).trans b.a0, (c _ _ (by omega)).trans b.a1, ⟨(c _ _ (by omega)).trans b.r0.1, (f _ _ (by omega)).trans b.r0.2⟩, ⟨(c _ _ (by omega)).trans b.r1.1, (f _ _ (by omega)).trans b.r1.2⟩, ⟨(c _ _ (by omega)).trans b.o0.1, (f _ _ (by omega)).trans b.o0.2⟩, ⟨(c _ _ (by omega)).trans b.o1.1, (f _ _ (by omega)).trans b.o1.2⟩⟩
theorem Boxes.set0 {w : World} {h : Nat} {p0 p1 v0 v1 : Value} (b : Boxes w h p0 p1 v0 v1) (u : Value) : Boxes (w.setCell ⟨h + 1 + 1, 0, none⟩ u) h p0 p1 u v1 := by
  have e : ∀ k o, k ≠ h + 1 + 1 → (w.setCell ⟨h + 1 + 1, 0, none⟩ u).cell? ⟨k, o, none⟩ = w.cell? ⟨k, o, none⟩ := fun k o hk => cell_far _ _ _ _ (by simpa using fun e => hk e.symm)
  exact ⟨by simpa using b.lt, (e _ _ (by omega)).trans b.a0, (e _ _ (by omega)).trans b.a1, ⟨(e _ _ (by omega)).trans b.r0.1, by simpa using b.r0.2⟩, ⟨(e _ _ (by omega)).trans b.r1.1, by simpa using b.r1.2⟩, ⟨World.cell?_setCell_same' _ _ _ (by rw [b.o0.1]; rfl), by simpa using b.o0.2⟩, ⟨(World.cell?_setCell_other _ _ _ _ (by simp)).trans b.o1.1, by simpa using b.o1.2⟩⟩
theorem Boxes.set1 {w : World} {h : Nat} {p0 p1 v0 v1 : Value} (b : Boxes w h p0 p1 v0 v1) (u : Value) : Boxes (w.setCell ⟨h + 1 + 1, 1, none⟩ u) h p0 p1 v0 u := by
  have e : ∀ k o, k ≠ h + 1 + 1 → (w.setCell ⟨h + 1 + 1, 1, none⟩ u).cell? ⟨k, o, none⟩ = w.cell? ⟨k, o, none⟩ := fun k o hk => cell_far _ _ _ _ (by simpa using fun e => hk e.symm)
  exact ⟨by simpa using b.lt, (e _ _ (by omega)).trans b.a0, (e _ _ (by omega)).trans b.a1, ⟨(e _ _ (by omega)).trans b.r0.1, by simpa using b.r0.2⟩, ⟨(e _ _ (by omega)).trans b.r1.1, by simpa using b.r1.2⟩, ⟨(World.cell?_setCell_other _ _ _ _ (by simp)).trans b.o0.1, by simpa using b.o0.2⟩, ⟨World.cell?_setCell_same' _ _ _ (by rw [b.o1.1]; rfl), by simpa using b.o1.2⟩⟩
theorem boxes_new (w : World) (p0 p1 : Value) (t : TypeId) : Boxes (((w.alloc (.cells #[p0, p1] t)).alloc (.cells #[.slice none 0 0, .slice none 0 0] t)).alloc (.cells #[.slice none 0 0, .slice none 0 0] t)) w.heap.size p0 p1 (.slice none 0 0) (.slice none 0 0) := by
  have A : Below (w.heap.size + 1) (w.alloc (.cells #[p0, p1] t)) (((w.alloc (.cells #[p0, p1] t)).alloc (.cells #[.slice none 0 0, .slice none 0 0] t)).alloc (.cells #[.slice none 0 0, .slice none 0 0] t)) := ((Below.refl _ _).alloc (by simp) _).alloc (by simp) _
  have C : Below (w.heap.size + 1 + 1) ((w.alloc (.cells #[p0, p1] t)).alloc (.cells #[.slice none 0 0, .slice none 0 0] t)) (((w.alloc (.cells #[p0, p1] t)).alloc (.cells #[.slice none 0 0, .slice none 0 0] t)).alloc (.cells #[.slice none 0 0, .slice none 0 0] t)) := (Below.refl _ _).alloc (by simp) _
  have hz : (w.alloc (.cells #[p0, p1] t)).heap.size = w.heap.size + 1 := by simp
  have hy : ((w.alloc (.cells #[p0, p1] t)).alloc (.cells #[.slice none 0 0, .slice none 0 0] t)).heap.size = w.heap.size + 1 + 1 := by simp
  refine ⟨by simp, ?_, ?_, ⟨?_, ?_⟩, ⟨?_, ?_⟩, ⟨?_, ?_⟩, ⟨?_, ?_⟩⟩
  · exact (A.cell (p := ⟨w.heap.size, 0, none⟩) (Nat.lt_succ_self _)).trans (by simp)
  · exact (A.cell (p := ⟨w.heap.size, 1, none⟩) (Nat.lt_succ_self _)).trans (by simp)
  · refine (C.cell (p := ⟨w.heap.size + 1, 0, none⟩) (Nat.lt_succ_self _)).trans ?_
    rw [← hz]
    simp
  · refine (C.frozen (p := ⟨w.heap.size + 1, 0, none⟩) (Nat.lt_succ_self _)).trans ?_
    rw [← hz]
    simp
  · refine (C.cell (p := ⟨w.heap.size + 1, 1, none⟩) (Nat.lt_succ_self _)).trans ?_
    rw [← hz]
    simp
  · refine (C.frozen (p := ⟨w.heap.size + 1, 1, none⟩) (Nat.lt_succ_self _)).trans ?_
    rw [← hz]
    simp
  all_goals
    rw [← hy]
    clear A C hz hy
    generalize (w.alloc (.cells #[p0, p1] t)).alloc (.cells #[.slice none 0 0, .slice none 0 0] t) = W
    simp
end Go.Proofs.YtkophfgkcijjkaaGreatDoor.Vp
namespace Go.Proofs.YtkophfgkcijjkaaGreatDoor.Vp
open Go.RowKit
def dropC (n0 : Nat) (f0 : Nat → Source) (n1 : Nat) (f1 : Nat → Target) (t : ByteArray) : Int :=
  if checkC n0 f0 n1 f1 ≠ 0 then 1 else if nameOk t = false then 2 else if (isIn (nm0 f0) n0 t || isIn (nm1 f1) n1 t) = false then 4 else 0
def dropS (n0 : Nat) (f0 : Nat → Source) (n1 : Nat) (f1 : Nat → Target) (t : ByteArray) : List Source := if dropC n0 f0 n1 f1 t = 0 then keepS f0 t n0 else []
def dropT (n0 : Nat) (f0 : Nat → Source) (n1 : Nat) (f1 : Nat → Target) (t : ByteArray) : List Target := if dropC n0 f0 n1 f1 t = 0 then keepT f1 t n1 else []
theorem anyTo_none {p : Nat → Bool} {n i : Nat} (h : anyTo p n = false) (hi : i < n) : p i = false := by
  cases e : p i with
  | false => rfl
  | true => rw [anyTo_true hi e] at h; cases h
theorem check_zero {n0 : Nat} {f0 : Nat → Source} {n1 : Nat} {f1 : Nat → Target} (h : checkC n0 f0 n1 f1 = 0) : ascTo (nm0 f0) n0 = true ∧ ascTo (nm1 f1) n1 = true ∧ ∀ i, i < n1 → 1 ≤ (f1 i).actN := by
  unfold checkC at h
  split at h; · omega
  split at h; · omega
  split at h; · omega
  split at h; · omega
  split at h; · omega
  split at h; · omega
  split at h; · omega
  split at h; · omega
  rename_i h3 h4 _ _ h7
  refine ⟨by simpa using h3, by simpa using h4, fun i hi => ?_⟩
  have h8 := anyTo_none (by simpa using h7) hi
  have h9 : valid (f1 i).act (f1 i).actN = true := by simpa [wrongA] using h8
  have := (valid_parts h9).2.1
  omega
theorem tRow_mono {w : World} {base base' : Nat} {v : Value} {R : List TR} (h : TRow w base v R) (hb : base' ≤ base) : TRow w base' v R := by
  refine ⟨own_mono h.own hb, fun r hr => ?_, h.up⟩
  obtain ⟨h1, h2, h3, h4⟩ := h.act r hr
  exact ⟨h1, h2, h3, by omega⟩
structure Pair (w : World) (h : Nat) (p0 p1 : Value) : Prop where
  lt : h + 1 < w.heap.size
  a0 : w.cell? ⟨h, 0, none⟩ = some p0
  a1 : w.cell? ⟨h, 1, none⟩ = some p1
  r0 : w.cell? ⟨h + 1, 0, none⟩ = some (.slice none 0 0) ∧ w.frozen? ⟨h + 1, 0, none⟩ = false
  r1 : w.cell? ⟨h + 1, 1, none⟩ = some (.slice none 0 0) ∧ w.frozen? ⟨h + 1, 1, none⟩ = false
theorem Pair.lt' {w : World} {h : Nat} {p0 p1 : Value} (b : Pair w h p0 p1) : h + 2 ≤ w.heap.size := b.lt
theorem Pair.below {w w' : World} {h B : Nat} {p0 p1 : Value} (b : Pair w h p0 p1) (hb : Below B w w') (hB : h + 2 ≤ B) : Pair w' h p0 p1 := by
  have c : ∀ k o, k < B → w'.cell? ⟨k, o, none⟩ = w.cell? ⟨k, o, none⟩ := fun k o hk => hb.cell (p := ⟨k, o, none⟩) hk
  have f : ∀ k o, k < B → w'.frozen? ⟨k, o, none⟩ = w.frozen? ⟨k, o, none⟩ := fun k o hk => hb.frozen (p := ⟨k, o, none⟩) hk
  exact ⟨Nat.lt_of_lt_of_le b.lt hb.size, (c _ _ (by omega)).trans b.a0, (c _ _ (by omega)).trans b.a1, ⟨(c _ _ (by omega)).trans b.r0.1, (f _ _ (by omega)).trans b.r0.2⟩, ⟨(c _ _ (by omega)).trans b.r1.1, (f _ _ (by omega)).trans b.r1.2⟩⟩
theorem pair_new (w : World) (p0 p1 : Value) (t : TypeId) : Pair ((w.alloc (.cells #[p0, p1] t)).alloc (.cells #[.slice none 0 0, .slice none 0 0] t)) w.heap.size p0 p1 := by
  have A : Below (w.heap.size + 1) (w.alloc (.cells #[p0, p1] t)) ((w.alloc (.cells #[p0, p1] t)).alloc (.cells #[.slice none 0 0, .slice none 0 0] t)) := (Below.refl _ _).alloc (by simp) _
  have hz : (w.alloc (.cells #[p0, p1] t)).heap.size = w.heap.size + 1 := by simp
  refine ⟨by simp, (A.cell (p := ⟨w.heap.size, 0, none⟩) (Nat.lt_succ_self _)).trans (by simp), (A.cell (p := ⟨w.heap.size, 1, none⟩) (Nat.lt_succ_self _)).trans (by simp), ⟨?_, ?_⟩, ⟨?_, ?_⟩⟩
  all_goals
    rw [← hz]
    clear A hz
    generalize w.alloc (.cells #[p0, p1] t) = W
    simp
set_option maxHeartbeats 1000000 in
theorem l2Source_row (b off n0 c0 : Nat) (a1 : Option Addr) (n1 c1 : Nat) (f0 : Nat → Source) (t : ByteArray) (w : World) (hn0 : (n0 : Int) ≤ 1048576) (hv0 : RowSource w b off n0 f0) :
    Calls Tryz.prog 84 #[.agg #[.slice (some ⟨b, off, none⟩) n0 c0, .slice a1 n1 c1], .string t] w fun e w' => ∃ r : Int, e = .returned (.int .i64 r) ∧ decide (0 ≤ r) = isIn (nm0 f0) n0 t ∧ Below w.heap.size w w' := by
  have A0 := hide ((Below.refl w.heap.size w).alloc (Nat.le_refl _) (.cells #[.slice (some ⟨b, off, none⟩) n0 c0, .slice a1 n1 c1] 26))
  have V0 := hide (hv0.below A0.out (Nat.le_refl _))
  have k1 : (w.alloc (.cells #[.slice (some ⟨b, off, none⟩) n0 c0, .slice a1 n1 c1] 26)).cell? ⟨w.heap.size, 0, none⟩ = some (.slice (some ⟨b, off, none⟩) n0 c0) := by simp
  clear hv0
  go_enter Tryz.func84, Tryz.ntmps84
  go_wp2
  generalize w.alloc (.cells #[.slice (some ⟨b, off, none⟩) n0 c0, .slice a1 n1 c1] 26) = W at A0 V0 k1 ⊢
  go_loop [5] (fun i => ∃ k : Nat, k ≤ n0 ∧ i = .int .i64 k ∧ Hid (isIn (nm0 f0) k t = false)) (fun i => n0 - (intOf i).toNat)
  case atStart => exact ⟨0, by omega, rfl, rfl⟩
  case round =>
    obtain ⟨k, hk, rfl, HK⟩ := hrel
    by_cases hlt : k < n0
    · obtain ⟨d0, d1⟩ := V0.out.2 k hlt
      cases hb : ((f0 k).name.toList == t.toList) with
      | true =>
        have HB := hide hb
        go_wp2
        go_ret
        exact ⟨k, rfl, by rw [isIn_true (g := nm0 f0) hlt HB.out]; simp, A0.out⟩
      | false =>
        have HB := hide hb
        go_wp2
        exact ⟨⟨k + 1, by omega, by go_num, by show isIn (nm0 f0) (k + 1) t = false; rw [isIn_succ, HK.out]; exact HB.out⟩, by simp [intOf]; omega⟩
    · have e : k = n0 := by omega
      subst e
      go_wp2
      go_ret
      exact ⟨-1, rfl, by rw [HK.out]; rfl, A0.out⟩
set_option maxHeartbeats 1000000 in
theorem l2Source_nil (a0 : Option Addr) (c0 : Nat) (a1 : Option Addr) (n1 c1 : Nat) (g : Nat → ByteArray) (t : ByteArray) (w : World) :
    Calls Tryz.prog 84 #[.agg #[.slice a0 0 c0, .slice a1 n1 c1], .string t] w fun e w' => ∃ r : Int, e = .returned (.int .i64 r) ∧ decide (0 ≤ r) = isIn g 0 t ∧ Below w.heap.size w w' := by
  have A0 := hide ((Below.refl w.heap.size w).alloc (Nat.le_refl _) (.cells #[.slice a0 0 c0, .slice a1 n1 c1] 26))
  go_enter Tryz.func84, Tryz.ntmps84
  go_wp2
  go_loop [5] (fun i => i = .int .i64 0) (fun _ => 0)
  case atStart => rfl
  case round =>
    subst hrel
    go_wp2
    go_ret
    exact ⟨-1, rfl, by rw [isIn_zero]; rfl, A0.out⟩
theorem l2Source_any (a0 : Option Addr) (n0 c0 : Nat) (a1 : Option Addr) (n1 c1 : Nat) (f0 : Nat → Source) (t : ByteArray) (w : World) (hn0 : (n0 : Int) ≤ 1048576) (hv0 : SlSource w a0 n0 f0) :
    Calls Tryz.prog 84 #[.agg #[.slice a0 n0 c0, .slice a1 n1 c1], .string t] w fun e w' => ∃ r : Int, e = .returned (.int .i64 r) ∧ decide (0 ≤ r) = isIn (nm0 f0) n0 t ∧ Below w.heap.size w w' := by
  rcases hv0 with rfl | ⟨b, off, rfl, hr⟩
  · exact l2Source_nil a0 c0 a1 n1 c1 (nm0 f0) t w
  · exact l2Source_row b off n0 c0 a1 n1 c1 f0 t w hn0 hr
end Go.Proofs.YtkophfgkcijjkaaGreatDoor.Vp
namespace Go.Proofs.YtkophfgkcijjkaaGreatDoor.Vp
open Go.RowKit
def dfS : Source := ⟨⟨#[]⟩, ⟨#[]⟩⟩
def dfT : Target := ⟨⟨#[]⟩, 0, fun _ => ⟨0, ⟨#[]⟩, 0⟩⟩
def dfR : TR := (dfT, 0, 0)
def srcF (L : List Source) (i : Nat) : Source := L.getD i dfS
def tgtF (L : List Target) (i : Nat) : Target := L.getD i dfT
theorem own_src {w : World} {base c : Nat} {a : Option Addr} {L : List Source} (h : w.ownsRow base 100 2 (.slice a L.length c) L.length (L.flatMap srcV)) : SlSource w a L.length (srcF L) := by
  by_cases hn : L.length = 0
  · exact .inl hn
  · obtain ⟨g, c', e⟩ := own_some h (by omega)
    simp at e
    obtain ⟨rfl, rfl⟩ := e
    refine .inr ⟨g, 0, rfl, (own_lt h).2, fun i hi => ?_⟩
    have hx : L[i]? = some (srcF L i) := by rw [srcF, List.getD_eq_getElem?_getD, List.getElem?_eq_getElem hi]; rfl
    refine ⟨?_, ?_⟩
    · have := (own_cell h (j := i * 2) (u := .string (srcF L i).name) (by have := flat_at srcV 2 (fun _ => rfl) L i 0 (by omega) _ hx; simpa [srcV] using this)).1
      rwa [show 0 + i * 2 = i * 2 by omega]
    · have := (own_cell h (j := i * 2 + 1) (u := .string (srcF L i).text) (by have := flat_at srcV 2 (fun _ => rfl) L i 1 (by omega) _ hx; simpa [srcV] using this)).1
      rwa [show 0 + i * 2 + 1 = i * 2 + 1 by omega]
theorem trow_at {R : List TR} {i : Nat} (hi : i < R.length) : ∃ r, R[i]? = some r ∧ r ∈ R := ⟨R[i], List.getElem?_eq_getElem hi, List.getElem_mem hi⟩
theorem trow_tgt {w : World} {base c : Nat} {a : Option Addr} {R : List TR} (h : TRow w base (.slice a R.length c) R) : SlTarget w a R.length (tgtF (R.map (·.1))) := by
  by_cases hn : R.length = 0
  · exact .inl hn
  · obtain ⟨g, c', e⟩ := own_some h.own (by omega)
    simp at e
    obtain ⟨rfl, rfl⟩ := e
    refine .inr ⟨g, 0, rfl, (own_lt h.own).2, fun i hi => ?_⟩
    obtain ⟨r, hr, hm⟩ := trow_at hi
    have hx : tgtF (R.map (·.1)) i = r.1 := by rw [tgtF, List.getD_eq_getElem?_getD, List.getElem?_map, hr]; rfl
    rw [hx]
    obtain ⟨h1, _, _, _⟩ := h.act r hm
    refine ⟨?_, some ⟨r.2.1, 0, none⟩, r.2.2, ?_, h1.sl⟩
    · have := (own_cell h.own (j := i * 2) (u := .string r.1.name) (by have := flat_at tgtV 2 (fun _ => rfl) R i 0 (by omega) _ hr; simpa [tgtV] using this)).1
      rwa [show 0 + i * 2 = i * 2 by omega]
    · have := (own_cell h.own (j := i * 2 + 1) (u := .slice (some ⟨r.2.1, 0, none⟩) r.1.actN r.2.2) (by have := flat_at tgtV 2 (fun _ => rfl) R i 1 (by omega) _ hr; simpa [tgtV] using this)).1
      rwa [show 0 + i * 2 + 1 = i * 2 + 1 by omega]
theorem own_cells {w : World} {base size n g cap : Nat} {e : TypeId} {xs : List Value} (h : w.ownsRow base e size (.slice (some ⟨g, 0, none⟩) n cap) n xs) : ∃ F, Cells w g 0 (n * size) F ∧ ∀ j, j < n * size → xs[j]? = some (F j) := by
  refine ⟨fun j => xs[j]?.getD undef, ⟨(own_lt h).2, fun j hj => ?_⟩, fun j hj => ?_⟩
  · have hl : j < xs.length := by rw [h.1]; exact hj
    have := own_cell h (j := j) (u := xs[j]) (by rw [List.getElem?_eq_getElem hl])
    show w.cell? ⟨g, 0 + j, none⟩ = some (xs[j]?.getD undef) ∧ _
    rw [Nat.zero_add, List.getElem?_eq_getElem hl]
    exact this
  · have hl : j < xs.length := by rw [h.1]; exact hj
    show xs[j]? = some (xs[j]?.getD undef)
    rw [List.getElem?_eq_getElem hl]
    rfl
theorem scells_own {w : World} {base c0 c1 : Nat} {a0 a1 : Option Addr} {L : List Source} {R : List TR} (hO : w.ownsRow base 100 2 (.slice a0 L.length c0) L.length (L.flatMap srcV)) (hR : TRow w base (.slice a1 R.length c1) R) (hf : ∀ r ∈ R, r.1.actN ≤ 1048576) : SCells w a0 L.length a1 R.length (fun k => base ≤ k ∧ k < w.heap.size) := by
  refine ⟨?_, ?_⟩
  · by_cases hn : L.length = 0
    · exact .inl hn
    · obtain ⟨g, c', e⟩ := own_some hO (by omega)
      simp at e
      obtain ⟨rfl, rfl⟩ := e
      obtain ⟨F, hF, _⟩ := own_cells hO
      exact .inr ⟨g, rfl, own_lt hO, F, hF⟩
  · by_cases hn : R.length = 0
    · exact .inl hn
    · obtain ⟨g, c', e⟩ := own_some hR.own (by omega)
      simp at e
      obtain ⟨rfl, rfl⟩ := e
      obtain ⟨F, hF, hx⟩ := own_cells hR.own
      have hB : ∀ i, i < R.length → ∃ r, R[i]? = some r ∧ r ∈ R := fun i hi => trow_at hi
      have hget : ∀ i r, R[i]? = some r → (R.getD i dfR) = r := fun i r h => by rw [List.getD_eq_getElem?_getD, h]; rfl
      refine .inr ⟨g, fun i => (R.getD i dfR).2.1, fun i => (R.getD i dfR).1.actN, rfl, ⟨⟨F, hF, fun i hi => ?_⟩, fun i hi => ?_, fun i hi => ?_, fun i j hi hj hij => ?_⟩, own_lt hR.own, fun i hi => ?_, fun i hi => ?_, fun S hS hn0 => ⟨?_, fun i hi => ?_⟩⟩
      · obtain ⟨r, hr, hm⟩ := hB i hi
        have h1 := flat_at tgtV 2 (fun _ => rfl) R i 1 (by omega) _ hr
        have h2 := hx (i * 2 + 1) (by omega)
        rw [h2] at h1
        simp [tgtV] at h1
        exact ⟨r.2.2, by rw [h1, hget i r hr]⟩
      · obtain ⟨r, hr, hm⟩ := hB i hi
        obtain ⟨_, ⟨G, hG⟩, _, _⟩ := hR.act r hm
        try dsimp only
        rw [hget i r hr]
        exact ⟨G, hG⟩
      · obtain ⟨r, hr, hm⟩ := hB i hi
        obtain ⟨_, _, h3, _⟩ := hR.act r hm
        try dsimp only
        rw [hget i r hr]
        exact type_ne h3 (own_type hR.own) (by decide)
      · obtain ⟨r, hr, _⟩ := hB i hi
        obtain ⟨q, hq, _⟩ := hB j hj
        try dsimp only
        rw [hget i r hr, hget j q hq]
        have hp := List.pairwise_iff_getElem.1 hR.up
        have er : R[i] = r := by rw [List.getElem?_eq_getElem hi] at hr; simpa using hr
        have eq : R[j] = q := by rw [List.getElem?_eq_getElem hj] at hq; simpa using hq
        rcases Nat.lt_or_gt_of_ne hij with h | h
        · have := hp i j hi hj h
          rw [er, eq] at this
          omega
        · have := hp j i hj hi h
          rw [er, eq] at this
          omega
      · obtain ⟨r, hr, hm⟩ := hB i hi
        obtain ⟨h1, _, _, h4⟩ := hR.act r hm
        try dsimp only
        rw [hget i r hr]
        exact ⟨h4, h1.1⟩
      · obtain ⟨r, hr, hm⟩ := hB i hi
        try dsimp only
        rw [hget i r hr]
        exact hf r hm
      · subst hS
        exact type_ne (own_type hR.own) (own_type hO) (by decide)
      · subst hS
        obtain ⟨r, hr, hm⟩ := hB i hi
        obtain ⟨_, _, h3, _⟩ := hR.act r hm
        try dsimp only
        rw [hget i r hr]
        exact type_ne h3 (own_type hO) (by decide)
structure Held (w : World) (base N : Nat) (v0 v1 : Value) (L : List Source) (R : List TR) : Prop where
  own : w.ownsRow base 100 2 v0 L.length (L.flatMap srcV)
  row : TRow w base v1 R
  u0 : ∀ k, v0.ownBlock = some k → k < N
  u1 : ∀ k, v1.ownBlock = some k → k < N
  u2 : ∀ r ∈ R, r.2.1 < N
theorem Held.below {w w' : World} {base N : Nat} {v0 v1 : Value} {L : List Source} {R : List TR} (h : Held w base N v0 v1 L R) (hb : Below w.heap.size w w') : Held w' base N v0 v1 L R :=
  ⟨own_below h.own hb (Nat.le_refl _), h.row.below hb (Nat.le_refl _), h.u0, h.u1, h.u2⟩
theorem Held.src {w : World} {base N n c : Nat} {a : Option Addr} {v1 : Value} {L : List Source} {R : List TR} (h : Held w base N (.slice a n c) v1 L R) (hn : n = L.length) : SlSource w a n (srcF L) := by
  subst hn
  exact own_src h.own
theorem Held.tgt {w : World} {base N n c : Nat} {a : Option Addr} {v0 : Value} {L : List Source} {LT : List Target} {R : List TR} (h : Held w base N v0 (.slice a n c) L R) (hn : n = LT.length) (hM : R.map (·.1) = LT) : SlTarget w a n (tgtF LT) := by
  subst hM
  have e : n = R.length := by rw [hn]; simp
  subst e
  exact trow_tgt h.row
theorem Held.cells {w : World} {base N n0 c0 n1 c1 : Nat} {a0 a1 : Option Addr} {L : List Source} {R : List TR} (h : Held w base N (.slice a0 n0 c0) (.slice a1 n1 c1) L R) (h0 : n0 = L.length) (h1 : n1 = R.length) (hf : ∀ r ∈ R, r.1.actN ≤ 1048576) : SCells w a0 n0 a1 n1 (fun k => base ≤ k ∧ k < N) := by
  subst h0 h1
  obtain ⟨s, t⟩ := scells_own h.own h.row hf
  refine ⟨?_, ?_⟩
  · rcases s with s | ⟨S, rfl, hp, r⟩
    · exact .inl s
    · exact .inr ⟨S, rfl, ⟨hp.1, h.u0 S rfl⟩, r⟩
  · rcases t with t | ⟨T, B, m, rfl, hT, hp, hB, hm, r⟩
    · exact .inl t
    · refine .inr ⟨T, B, m, rfl, hT, ⟨hp.1, h.u1 T rfl⟩, fun i hi => ⟨(hB i hi).1, ?_⟩, hm, r⟩
      obtain ⟨F, hF, hs⟩ := hT.row
      obtain ⟨cap, hcap⟩ := hs i hi
      obtain ⟨r', hr', hmem⟩ := trow_at (R := R) (i := i) hi
      have h2 := flat_at tgtV 2 (fun _ => rfl) R i 1 (by omega) _ hr'
      have h3 := (own_cell h.row.own (j := i * 2 + 1) (u := .slice (some ⟨r'.2.1, 0, none⟩) r'.1.actN r'.2.2) (by simpa [tgtV] using h2)).1
      have h4 := (hF.at (i * 2 + 1) (i * 2 + 1) (by omega) (by omega)).1
      rw [h3, hcap] at h4
      simp at h4
      rw [← h4.1]
      exact h.u2 r' hmem
end Go.Proofs.YtkophfgkcijjkaaGreatDoor.Vp
namespace Go.Proofs.YtkophfgkcijjkaaGreatDoor.Vp
open Go.RowKit
set_option maxRecDepth 100000 in
set_option maxHeartbeats 8000000 in
theorem l2Without_any (a0 : Option Addr) (n0 c0 : Nat) (f0 : Nat → Source) (a1 : Option Addr) (n1 c1 : Nat) (f1 : Nat → Target) (t : ByteArray) (w : World) (hn0 : (n0 : Int) ≤ 1048576) (hn1 : (n1 : Int) ≤ 1048576) (hv0 : SlSource w a0 n0 f0) (hv1 : SlTarget w a1 n1 f1) (hfit : ∀ i, i < n1 → FitsTarget (f1 i)) :
    Calls Tryz.prog 62 #[.agg #[.slice a0 n0 c0, .slice a1 n1 c1], .string t] w fun e w' => ∃ v0 v1 R, e = .returned (.agg #[v0, v1]) ∧ w'.ownsRow (w.heap.size + 3) 100 2 v0 (keepS f0 t n0).length ((keepS f0 t n0).flatMap srcV) ∧ TRow w' (w.heap.size + 3) v1 R ∧ R.map (·.1) = keepT f1 t n1 ∧ Below w.heap.size w w' := by
  have V0 := hide hv0
  have V1 := hide hv1
  have HF := hide hfit
  clear hv0 hv1 hfit
  obtain ⟨i0', hi, hy0, hy1, hy2⟩ := info_parts infoSource
  obtain ⟨i1', hj, hz0, hz1, hz2⟩ := info_parts infoTarget
  have A0 := hide ((((Below.refl w.heap.size w).alloc (Nat.le_refl _) (.cells #[.slice a0 n0 c0, .slice a1 n1 c1] 26)).alloc (by simp) (.cells #[.slice none 0 0, .slice none 0 0] 26)).alloc (by simp; omega) (.cells #[.slice none 0 0, .slice none 0 0] 26))
  have X0 := hide (boxes_new w (.slice a0 n0 c0) (.slice a1 n1 c1) 26)
  go_enter Tryz.func62, Tryz.ntmps62
  go_wp2
  generalize ((w.alloc (.cells #[.slice a0 n0 c0, .slice a1 n1 c1] 26)).alloc (.cells #[.slice none 0 0, .slice none 0 0] 26)).alloc (.cells #[.slice none 0 0, .slice none 0 0] 26) = W at A0 X0 ⊢
  go_loopw [6] (fun i wr => ∃ (k : Nat) (v0 : Value), k ≤ n0 ∧ i = .int .i64 k ∧ Hid (Boxes wr w.heap.size (.slice a0 n0 c0) (.slice a1 n1 c1) v0 (.slice none 0 0)) ∧ Hid (wr.ownsRow (w.heap.size + 3) 100 2 v0 (keepS f0 t k).length ((keepS f0 t k).flatMap srcV)) ∧ Hid (Below w.heap.size w wr)) (fun i _ => n0 - (intOf i).toNat)
  case atStart => exact ⟨0, _, by omega, rfl, X0.out, World.ownsRow_nil _ _ _ _, A0.out⟩
  case round =>
    obtain ⟨k, v0, hk, rfl, BX, OW, HB⟩ := hrel
    have hlt3 := BX.out.lt
    by_cases hlt : k < n0
    · obtain ⟨b, off, rfl, hr⟩ := V0.out.resolve_left (by omega)
      obtain ⟨d0, d1⟩ := (hr.2 k hlt).below HB.out hr.1
      clear hr
      have hll := keepS_len f0 t k
      have k0 := BX.out.a0
      cases hq : ((f0 k).name.toList == t.toList) with
      | true =>
        have HQ := hide hq
        go_wp2
        exact ⟨⟨k + 1, v0, by omega, by go_num, BX.out, by show World.ownsRow _ _ _ _ _ _ _; rw [keepS_same HQ.out]; exact OW.out, HB.out⟩, by simp [intOf]; omega⟩
      | false =>
        have HQ := hide hq
        obtain ⟨x0, y0⟩ := BX.out.o0
        have D1 := hide ((Below.refl (w.heap.size + 3) wr).drew.alloc (by simp; omega) (.cells #[.string (f0 k).name, .string (f0 k).text] 100))
        go_wp2_with fail
        go_region_law (first
          | (refine step_append_own rfl (.tmp 25) (.tmp 31) 23 rfl (w.heap.size + 3) 100 i0' (.agg #[.string ⟨#[]⟩, .string ⟨#[]⟩]) 2 32 Tryz.underlying23 hi hy0 hy1 hy2 rfl (by decide) v0 (keepS f0 t k).length ((keepS f0 t k).flatMap srcV) (by simp [Act.eval]) (OW.out.drew.alloc _) ⟨wr.heap.size, 0, none⟩ 1 1 (srcV (f0 k)) (by simp [Act.eval]) rfl (two_new wr.drew _ _ _) (by simp [srcV, Value.oneCell']) (by unfold maxLen; omega) (by omega) (by first | (simp; done) | (simp; omega)) ?_; intro v' w2 hown hgrow hnil; obtain ⟨gs, cs, rfl⟩ := own_some hown (by omega); have O2 := hide hown; have B2 := hide (Below.grown D1.out hgrow (by first | (simp; done) | (simp; omega)) (fun j e => (OW.out.lt j e).1)); obtain ⟨x2, y2⟩ := (BX.out.below B2.out (Nat.le_refl _)).o0; clear hown hgrow hnil))
        all_goals
          clear x0 y0 k0
          go_wp2
          exact ⟨⟨k + 1, _, by omega, by go_num, (BX.out.below B2.out (Nat.le_refl _)).set0 _, by show World.ownsRow _ _ _ _ _ _ _; rw [keepS_more HQ.out, List.length_append, List.flatMap_append]; simpa using own_set O2.out (by omega) _, (HB.out.trans (B2.out.mono (by omega))).setCell (by simp; omega) _⟩, by simp [intOf]; omega⟩
    · have e : n0 = k := by omega
      subst e
      have k0 := BX.out.a0
      have k1 := BX.out.a1
      go_wp2
      clear k0 k1 hlt hk
      generalize wr = W1 at BX OW HB hlt3 ⊢
      go_loopw [7] (fun i wr => ∃ (k : Nat) (v1 : Value) (R : List TR), k ≤ n1 ∧ i = .int .i64 k ∧ Hid (Boxes wr w.heap.size (.slice a0 n0 c0) (.slice a1 n1 c1) v0 v1) ∧ Hid (wr.ownsRow (w.heap.size + 3) 100 2 v0 (keepS f0 t n0).length ((keepS f0 t n0).flatMap srcV)) ∧ Hid (TRow wr (w.heap.size + 3) v1 R) ∧ Hid (R.map (·.1) = keepT f1 t k) ∧ Hid (Below w.heap.size w wr)) (fun i _ => n1 - (intOf i).toNat)
      case atStart => exact ⟨0, _, [], by omega, rfl, BX.out, OW.out, tRow_nil _ _, rfl, HB.out⟩
      case round =>
        clear BX OW HB
        obtain ⟨k, v1, R, hk, rfl, BX, OS, T0, HM, HB⟩ := hrel
        have hlt4 := BX.out.lt
        by_cases hlt : k < n1
        · obtain ⟨b, off, rfl, hr⟩ := V1.out.resolve_left (by omega)
          obtain ⟨d0, ka, kc, d1, hx⟩ := (hr.2 k hlt).below HB.out (Nat.le_refl _) hr.1
          have HX := hide hx
          have hbl := hr.1
          clear hr hx
          have hRl : R.length ≤ 1048576 := by
            have h1 := congrArg List.length HM.out
            have h2 := keepT_len f1 t k
            simp at h1
            omega
          have hft : ((f1 k).actN : Int) ≤ 1048576 := by have := HF.out k hlt; unfold FitsTarget at this; omega
          have k1 := BX.out.a1
          have hbh : ¬ b = w.heap.size + 1 + 1 := by omega
          have hbh2 : ¬ w.heap.size + 1 + 1 = b := by omega
          have hbw : b < wr.heap.size := Nat.lt_of_lt_of_le hbl HB.out.size
          cases hq : ((f1 k).name.toList == t.toList) with
          | true =>
            have HQ := hide hq
            go_wp2
            exact ⟨⟨k + 1, v1, R, by omega, by go_num, BX.out, OS.out, T0.out, by show _ = keepT f1 t (k + 1); rw [keepT_same HQ.out]; exact HM.out, HB.out⟩, by simp [intOf]; omega⟩
          | false =>
            have HQ := hide hq
            obtain ⟨x1, y1⟩ := BX.out.o1
            have D1 := hide (Below.refl wr.heap.size wr).drew
            go_wp2_with fail
            go_region_law (first
              | (go_simp; go_at_call 80; refine (l2Program_any ka (f1 k).actN kc (f1 k).act _ hft (HX.out.below D1.out (Nat.le_refl _))).mono ?_; rintro e wC ⟨g, c, rfl, hO, hB⟩; have DC := hide (D1.out.trans (hB.mono (by simp))); have tc0 := (DC.out.cell (p := ⟨b, off + k * 2, none⟩) hbw).trans d0; have tc1 := (DC.out.cell (p := ⟨b, off + k * 2 + 1, none⟩) hbw).trans d1; have hgl := (own_lt hO).1; have OC := hide (own_mono hO (base' := w.heap.size + 3) (by simp; omega)); have hgl2 : wr.heap.size ≤ g := (by simpa using hgl); obtain ⟨xC, yC⟩ := (BX.out.below DC.out (by omega)).o1; have kC := (BX.out.below DC.out (by omega)).a1; have hzC : w.heap.size + 1 + 1 < wC.heap.size := (by have := (BX.out.below DC.out (by omega)).lt; omega); have hyC : w.heap.size < wC.heap.size := (by omega); have hxC : b < wC.heap.size := (by have := DC.out.size; omega); clear hB hO hgl)
              | (refine step_append_own rfl (.tmp 50) (.tmp 65) 24 rfl (w.heap.size + 3) 104 i1' (.agg #[.string ⟨#[]⟩, .slice none 0 0]) 2 40 Tryz.underlying24 hj hz0 hz1 hz2 rfl (by decide) v1 R.length (R.flatMap tgtV) (by simp [Act.eval]) ((T0.out.below DC.out (Nat.le_refl _)).own.alloc _) ⟨wC.heap.size, 0, none⟩ 1 1 (tgtV (f1 k, g, c)) (by simp [Act.eval]) rfl (two_new wC _ _ _) (by simp [tgtV, Value.oneCell']) (by unfold maxLen; omega) (by omega) (by first | (simp; done) | (simp; omega) | (have := DC.out.size; simp; omega)) ?_; intro v' w2 hown hgrow hnil; obtain ⟨gs, cs, rfl⟩ := own_some hown (by omega); have T2 := hide (T0.out.more (x := f1 k) (g := g) (c := c) (DC.out.alloc DC.out.size _) hgl2 (by omega) (OC.out.alloc _) hown hgrow); have E2 := hide (Below.grown ((DC.out.mono (show w.heap.size + 3 ≤ wr.heap.size by omega)).alloc (by have := DC.out.size; omega) _) hgrow (by have := DC.out.size; simp; omega) (fun j e => (T0.out.own.lt j e).1)); obtain ⟨x2, y2⟩ := (BX.out.below E2.out (Nat.le_refl _)).o1; have OS2 := hide ((own_below OS.out (DC.out.alloc DC.out.size _) (Nat.le_refl _)).kept hgrow (own_apart (own_below OS.out (DC.out.alloc DC.out.size (.cells #[.string (f1 k).name, .slice (some ⟨g, 0, none⟩) (f1 k).actN c] 104)) (Nat.le_refl _)) ((T0.out.below DC.out (Nat.le_refl _)).own.alloc _) (by decide))); clear hown hgrow hnil))
            all_goals
              clear tc0 tc1 xC yC x1 y1 k1 kC d0 d1
              go_wp2
              exact ⟨⟨k + 1, _, R ++ [(f1 k, g, c)], by omega, by go_num, (BX.out.below E2.out (Nat.le_refl _)).set1 _, own_set OS2.out (by omega) _, T2.out.set (by omega) _, by show _ = keepT f1 t (k + 1); rw [keepT_more HQ.out, List.map_append, HM.out]; rfl, (HB.out.trans (E2.out.mono (by omega))).setCell (by simp; omega) _⟩, by simp [intOf]; omega⟩
        · have e : n1 = k := by omega
          subst e
          have k1 := BX.out.a1
          obtain ⟨sa, sc, rfl⟩ := own_slice OS.out
          obtain ⟨ta, tc, rfl⟩ := own_slice T0.out.own
          obtain ⟨r0, q0⟩ := BX.out.r0
          obtain ⟨r1, q1⟩ := BX.out.r1
          obtain ⟨m0, _⟩ := BX.out.o0
          obtain ⟨m1, _⟩ := BX.out.o1
          go_wp2
          exact bodyPost_ret (v := .agg #[.slice sa _ sc, .slice ta _ tc]) (by simp [results, Tryz.results62, go_sem, r0, r1]) rfl ⟨_, _, R, rfl, own_set (own_set OS.out (by omega) _) (by omega) _, (T0.out.set (by omega) _).set (by omega) _, HM.out, (HB.out.setCell (by simp) _).setCell (by simp) _⟩
end Go.Proofs.YtkophfgkcijjkaaGreatDoor.Vp
namespace Go.Proofs.YtkophfgkcijjkaaGreatDoor.Vp
open Go.RowKit
theorem cmp_pos : ∀ a b : List UInt8, decide (0 < Lib.compareBytes a b) = Op.bytesLess b a
  | [], [] => by simp [Lib.compareBytes, Op.bytesLess]
  | [], _ :: _ => by simp [Lib.compareBytes, Op.bytesLess]
  | _ :: _, [] => by simp [Lib.compareBytes, Op.bytesLess]
  | a :: x, b :: y => by
    have ih := cmp_pos x y
    rw [Lib.compareBytes, Op.bytesLess, ← ih]
    by_cases h1 : a < b
    · have h3 : ¬ b = a := fun e => by subst e; exact (UInt8.lt_irrefl _ h1)
      have h4 : ¬ b < a := fun h => UInt8.lt_irrefl _ (UInt8.lt_trans h1 h)
      simp [h1, h3, h4]
    · rw [if_neg h1]
      by_cases h2 : b < a
      · simp [h2]
      · have h3 : a = b := UInt8.le_antisymm (UInt8.not_lt.1 h2) (UInt8.not_lt.1 h1)
        subst h3
        simp [h1]
theorem tless_yes {a b : ByteArray} (h : tless b a = true) : tless a b = false ∧ (a.toList == b.toList) = false := by
  have h1 := cmp_neg a.data.toList b.data.toList
  have h2 := cmp_zero a.data.toList b.data.toList
  have h3 := cmp_pos a.data.toList b.data.toList
  simp only [tless, ByteArray.toList_eq] at h ⊢
  rw [← h1, ← h2]
  rw [← h3] at h
  simp at h ⊢
  omega
theorem tless_no {a b : ByteArray} (h : tless b a = false) : tless a b = true ∨ (tless a b = false ∧ (a.toList == b.toList) = true) := by
  have h1 := cmp_neg a.data.toList b.data.toList
  have h2 := cmp_zero a.data.toList b.data.toList
  have h3 := cmp_pos a.data.toList b.data.toList
  simp only [tless, ByteArray.toList_eq] at h ⊢
  rw [← h1, ← h2]
  rw [← h3] at h
  simp only [decide_eq_false_iff_not, decide_eq_true_eq] at h ⊢
  omega
structure TwoF (w : World) (b : Nat) (v0 v1 : Value) : Prop where
  lt : b < w.heap.size
  c0 : w.cell? ⟨b, 0, none⟩ = some v0
  c1 : w.cell? ⟨b, 1, none⟩ = some v1
  z0 : w.frozen? ⟨b, 0, none⟩ = false
  z1 : w.frozen? ⟨b, 1, none⟩ = false
theorem twoF_box (w : World) (v0 v1 : Value) (t : TypeId) : TwoF (w.alloc (.cells #[v0, v1] t)) w.heap.size v0 v1 := ⟨by simp, by simp, by simp, by simp, by simp⟩
def doneTo (L : List Source) (t : ByteArray) : Nat → Bool
  | 0 => false
  | k + 1 => doneTo L t k || tless t (srcF L k).name
def insTo (L : List Source) (x : Source) (t : ByteArray) : Nat → List Source
  | 0 => []
  | k + 1 => if doneTo L t k = false ∧ tless t (srcF L k).name = true then insTo L x t k ++ [x] ++ [srcF L k] else insTo L x t k ++ [srcF L k]
def insF (L : List Source) (x : Source) (t : ByteArray) : List Source := if doneTo L t L.length = true then insTo L x t L.length else insTo L x t L.length ++ [x]
theorem insTo_len (L : List Source) (x : Source) (t : ByteArray) (k : Nat) : (insTo L x t k).length ≤ k + 1 ∧ (doneTo L t k = false → (insTo L x t k).length = k) := by
  induction k with
  | zero => simp [insTo]
  | succ j ih =>
    simp only [insTo, doneTo]
    cases hd : doneTo L t j with
    | false =>
      have h1 := ih.2 hd
      cases hl : tless t (srcF L j).name with
      | true => simp [h1]
      | false => simp [h1]
    | true =>
      have h1 := ih.1
      simp
      omega
def putC (n0 : Nat) (f0 : Nat → Source) (n1 : Nat) (f1 : Nat → Target) (t tx : ByteArray) : Int :=
  if checkC n0 f0 n1 f1 ≠ 0 then 1 else if nameOk t = false ∨ 2000 < (tx.size : Int) then 2 else if 200 ≤ (keepS f0 t n0).length + (keepT f1 t n1).length then 3 else 0
def putS (n0 : Nat) (f0 : Nat → Source) (n1 : Nat) (f1 : Nat → Target) (t tx : ByteArray) : List Source := if putC n0 f0 n1 f1 t tx = 0 then insF (keepS f0 t n0) ⟨t, tx⟩ t else []
def putT (n0 : Nat) (f0 : Nat → Source) (n1 : Nat) (f1 : Nat → Target) (t tx : ByteArray) : List Target := if putC n0 f0 n1 f1 t tx = 0 then keepT f1 t n1 else []
end Go.Proofs.YtkophfgkcijjkaaGreatDoor.Vp
namespace Go.Proofs.YtkophfgkcijjkaaGreatDoor.Vp
open Go.RowKit
theorem srcF_at {L : List Source} {i : Nat} (h : i < L.length) : srcF L i = L[i] := by
  rw [srcF, List.getD_eq_getElem?_getD, List.getElem?_eq_getElem h]; rfl
theorem ascTo_of {g : Nat → ByteArray} {n : Nat} (h : ∀ i j, i < j → j < n → tless (g i) (g j) = true) : ascTo g n = true := by
  induction n with
  | zero => rfl
  | succ k ih =>
    have h1 := ih (fun i j hij hj => h i j hij (by omega))
    cases k with
    | zero => rfl
    | succ m =>
      show (ascTo g (m + 1) && _) = true
      rw [h1]
      exact h m (m + 1) (by omega) (by omega)
theorem keepS_asc {f : Nat → Source} {n : Nat} (t : ByteArray) (h : ascTo (nm0 f) n = true) : ascTo (nm0 (srcF (keepS f t n))) (keepS f t n).length = true := by
  have hp : ((List.range n).map f).Pairwise fun a b => tless a.name b.name = true := by
    rw [List.pairwise_map]
    refine List.Pairwise.imp_of_mem ?_ List.pairwise_lt_range
    intro a b _ hb hab
    exact asc_lt h hab (List.mem_range.1 hb)
  have hq : (keepS f t n).Pairwise fun a b => tless a.name b.name = true := hp.filter _
  refine ascTo_of fun i j hij hj => ?_
  have hi : i < (keepS f t n).length := by omega
  show tless (srcF (keepS f t n) i).name (srcF (keepS f t n) j).name = true
  rw [srcF_at hi, srcF_at hj]
  exact List.pairwise_iff_getElem.1 hq i j hi hj hij
theorem keepS_not {f : Nat → Source} {n : Nat} {t : ByteArray} : ∀ y ∈ keepS f t n, (y.name.toList == t.toList) = false := by
  intro y hy
  simpa using (List.mem_filter.1 hy).2
theorem ins_before {L : List Source} {x : Source} {t : ByteArray} {i : Nat} (hi : i ≤ L.length) (h1 : ∀ m, m < i → tless (nm0 (srcF L) m) t = true) : ∀ k, k ≤ i → doneTo L t k = false ∧ insTo L x t k = L.take k
  | 0, _ => ⟨rfl, rfl⟩
  | k + 1, hk => by
    obtain ⟨ih1, ih2⟩ := ins_before (x := x) hi h1 k (by omega)
    have h3 : tless t (srcF L k).name = false := (tless_yes (h1 k (by omega))).1
    refine ⟨?_, ?_⟩
    · show (doneTo L t k || tless t (srcF L k).name) = false
      rw [ih1, h3]; rfl
    · show (if _ then _ else _) = _
      rw [if_neg (by rw [h3]; simp), ih2, srcF_at (by omega)]
      exact List.take_append_getElem (by omega)
theorem ins_behind {L : List Source} {x : Source} {t : ByteArray} {i : Nat} (hi : i ≤ L.length) (h1 : ∀ m, m < i → tless (nm0 (srcF L) m) t = true) (h2 : ∀ m, i ≤ m → m < L.length → tless (nm0 (srcF L) m) t = false) (h3 : ∀ y ∈ L, (y.name.toList == t.toList) = false) :
    ∀ d, i + d + 1 ≤ L.length → doneTo L t (i + d + 1) = true ∧ insTo L x t (i + d + 1) = L.take i ++ x :: (L.drop i).take (d + 1)
  | 0, hd => by
    obtain ⟨a1, a2⟩ := ins_before (x := x) hi h1 i (Nat.le_refl _)
    have hlt : i < L.length := by omega
    have h4 : tless t (srcF L i).name = true := by
      cases h : tless t (srcF L i).name with
      | true => rfl
      | false =>
        rcases tless_no h with h5 | ⟨_, h5⟩
        · have := h2 i (Nat.le_refl _) hlt
          rw [show nm0 (srcF L) i = (srcF L i).name from rfl, h5] at this
          cases this
        · rw [srcF_at hlt, h3 _ (List.getElem_mem hlt)] at h5
          cases h5
    refine ⟨?_, ?_⟩
    · show (doneTo L t i || tless t (srcF L i).name) = true
      rw [h4]; simp
    · show (if _ then _ else _) = _
      have e : (L.drop i).take (0 + 1) = [L[i]] := by rw [List.drop_eq_getElem_cons hlt]; rfl
      rw [if_pos ⟨a1, h4⟩, a2, srcF_at hlt, e]
      simp
  | d + 1, hd => by
    obtain ⟨a1, a2⟩ := ins_behind (x := x) hi h1 h2 h3 d (by omega)
    refine ⟨?_, ?_⟩
    · show (doneTo L t (i + d + 1) || _) = true
      rw [a1]; rfl
    · show (if _ then _ else _) = _
      rw [if_neg (by rw [show i + (d + 1) = i + d + 1 from rfl, a1]; simp)]
      show insTo L x t (i + d + 1) ++ [srcF L (i + d + 1)] = _
      have hl : d + 1 < (L.drop i).length := by rw [List.length_drop]; omega
      rw [a2, srcF_at (by omega), ← List.take_append_getElem hl, List.getElem_drop]
      simp [Nat.add_assoc]
theorem insF_at {L : List Source} {x : Source} {t : ByteArray} {i : Nat} (hi : i ≤ L.length) (h1 : ∀ m, m < i → tless (nm0 (srcF L) m) t = true) (h2 : ∀ m, i ≤ m → m < L.length → tless (nm0 (srcF L) m) t = false) (h3 : ∀ y ∈ L, (y.name.toList == t.toList) = false) :
    insF L x t = L.take i ++ x :: L.drop i := by
  by_cases hl : i = L.length
  · subst hl
    obtain ⟨a1, a2⟩ := ins_before (x := x) hi h1 L.length (Nat.le_refl _)
    unfold insF
    rw [if_neg (by rw [a1]; simp), a2]
    simp
  · obtain ⟨d, hd⟩ : ∃ d, L.length = i + d + 1 := ⟨L.length - i - 1, by omega⟩
    obtain ⟨a1, a2⟩ := ins_behind (x := x) hi h1 h2 h3 d (by omega)
    unfold insF
    have e : (L.drop i).take (d + 1) = L.drop i := List.take_of_length_le (by rw [List.length_drop]; omega)
    rw [hd, if_pos a1, a2, e]
theorem take_flat (L : List Source) : ∀ i, (L.flatMap srcV).take (i * 2) = (L.take i).flatMap srcV ∧ (L.flatMap srcV).drop (i * 2) = (L.drop i).flatMap srcV := by
  induction L with
  | nil => intro i; simp
  | cons a l ih =>
    intro i
    cases i with
    | zero => simp
    | succ j =>
      obtain ⟨h1, h2⟩ := ih j
      have e : (j + 1) * 2 = j * 2 + 2 := by omega
      simp [e, srcV, h1, h2]
end Go.Proofs.YtkophfgkcijjkaaGreatDoor.Vp
namespace Go.Proofs.YtkophfgkcijjkaaGreatDoor.Vp
open Go.RowKit
set_option maxRecDepth 100000 in
set_option maxHeartbeats 8000000 in
theorem without_any (a0 : Option Addr) (n0 c0 : Nat) (f0 : Nat → Source) (a1 : Option Addr) (n1 c1 : Nat) (f1 : Nat → Target) (t : ByteArray) (w : World) (hn0 : (n0 : Int) ≤ 1048576) (hn1 : (n1 : Int) ≤ 1048576) (hv0 : SlSource w a0 n0 f0) (hv1 : SlTarget w a1 n1 f1) (hfit : ∀ i, i < n1 → FitsTarget (f1 i)) (hpos : ∀ i, i < n1 → 1 ≤ (f1 i).actN) :
    Calls Tryz.prog 83 #[.agg #[.slice a0 n0 c0, .slice a1 n1 c1], .string t] w fun e w' => ∃ v0 v1 R, e = .returned (.agg #[v0, v1]) ∧ w'.ownsRow (w.heap.size + 3) 100 2 v0 (keepS f0 t n0).length ((keepS f0 t n0).flatMap srcV) ∧ TRow w' (w.heap.size + 3) v1 R ∧ R.map (·.1) = keepT f1 t n1 ∧ Below w.heap.size w w' := by
  have V0 := hide hv0
  have V1 := hide hv1
  have HF := hide hfit
  have HP := hide hpos
  clear hv0 hv1 hfit hpos
  obtain ⟨i0', hi, hy0, hy1, hy2⟩ := info_parts infoSource
  obtain ⟨i1', hj, hz0, hz1, hz2⟩ := info_parts infoTarget
  have A0 := hide ((((Below.refl w.heap.size w).alloc (Nat.le_refl _) (.cells #[.slice a0 n0 c0, .slice a1 n1 c1] 26)).alloc (by simp) (.cells #[.slice none 0 0, .slice none 0 0] 26)).alloc (by simp; omega) (.cells #[.slice none 0 0, .slice none 0 0] 26))
  have X0 := hide (boxes_new w (.slice a0 n0 c0) (.slice a1 n1 c1) 26)
  go_enter Tryz.func83, Tryz.ntmps83
  go_wp2
  generalize ((w.alloc (.cells #[.slice a0 n0 c0, .slice a1 n1 c1] 26)).alloc (.cells #[.slice none 0 0, .slice none 0 0] 26)).alloc (.cells #[.slice none 0 0, .slice none 0 0] 26) = W at A0 X0 ⊢
  go_loopw [13] (fun i wr => ∃ (k : Nat) (v0 : Value), k ≤ n0 ∧ i = .int .i64 k ∧ Hid (Boxes wr w.heap.size (.slice a0 n0 c0) (.slice a1 n1 c1) v0 (.slice none 0 0)) ∧ Hid (wr.ownsRow (w.heap.size + 3) 100 2 v0 (keepS f0 t k).length ((keepS f0 t k).flatMap srcV)) ∧ Hid (Below w.heap.size w wr)) (fun i _ => n0 - (intOf i).toNat)
  case atStart => exact ⟨0, _, by omega, rfl, X0.out, World.ownsRow_nil _ _ _ _, A0.out⟩
  case round =>
    obtain ⟨k, v0, hk, rfl, BX, OW, HB⟩ := hrel
    have hlt3 := BX.out.lt
    by_cases hlt : k < n0
    · obtain ⟨b, off, rfl, hr⟩ := V0.out.resolve_left (by omega)
      obtain ⟨d0, d1⟩ := (hr.2 k hlt).below HB.out hr.1
      clear hr
      have hll := keepS_len f0 t k
      cases hq : ((f0 k).name.toList == t.toList) with
      | true =>
        have HQ := hide hq
        have B1 := hide (HB.out.alloc HB.out.size (.cells #[.string (f0 k).name, .string (f0 k).text] 100))
        have D1 := hide ((Below.refl wr.heap.size wr).alloc (Nat.le_refl _) (.cells #[.string (f0 k).name, .string (f0 k).text] 100))
        go_wp2
        exact ⟨⟨k + 1, v0, by omega, by go_num, BX.out.below D1.out (by omega), by show World.ownsRow _ _ _ _ _ _ _; rw [keepS_same HQ.out]; exact OW.out.alloc _, B1.out⟩, by simp [intOf]; omega⟩
      | false =>
        have HQ := hide hq
        obtain ⟨x0, y0⟩ := BX.out.o0
        have D1 := hide (((Below.refl (w.heap.size + 3) wr).alloc (by omega) (.cells #[.string (f0 k).name, .string (f0 k).text] 100)).alloc (by simp; omega) (.cells #[.string (f0 k).name, .string (f0 k).text] 100))
        go_wp2_with (at_builtin; refine wpList_append_own _ rfl (.tmp 22) (.tmp 24) 23 rfl (w.heap.size + 3) 100 i0' (.agg #[.string ⟨#[]⟩, .string ⟨#[]⟩]) 2 32 Tryz.underlying23 hi hy0 hy1 hy2 rfl (by decide) v0 (keepS f0 t k).length ((keepS f0 t k).flatMap srcV) (by simp [Act.eval]) ((OW.out.alloc _).alloc _) ⟨wr.heap.size + 1, 0, none⟩ 1 1 (srcV (f0 k)) (by simp [Act.eval]) rfl (by rw [show wr.heap.size + 1 = (wr.alloc (.cells #[.string (f0 k).name, .string (f0 k).text] 100)).heap.size by simp]; exact two_new _ _ _ _) (by simp [srcV, Value.oneCell']) (by unfold maxLen; omega) (by omega) (by first | (simp; done) | (simp; omega)) ?_; intro v' w2 hown hgrow hnil; obtain ⟨gs, cs, rfl⟩ := own_some hown (by omega); have O2 := hide hown; have B2 := hide (Below.grown D1.out hgrow (by first | (simp; done) | (simp; omega)) (fun j e => (OW.out.lt j e).1)); obtain ⟨x2, y2⟩ := (BX.out.below B2.out (Nat.le_refl _)).o0; clear hown hgrow hnil)
        exact ⟨⟨k + 1, _, by omega, by go_num, (BX.out.below B2.out (Nat.le_refl _)).set0 _, by show World.ownsRow _ _ _ _ _ _ _; rw [keepS_more HQ.out, List.length_append, List.flatMap_append]; simpa using own_set O2.out (by omega) _, (HB.out.trans (B2.out.mono (by omega))).setCell (by simp; omega) _⟩, by simp [intOf]; omega⟩
    · have e : n0 = k := by omega
      subst e
      have k1 := BX.out.a1
      go_wp2
      clear k1 hlt hk
      generalize wr = W1 at BX OW HB hlt3 ⊢
      go_loopw [31] (fun i wr => ∃ (k : Nat) (v1 : Value) (R : List TR), k ≤ n1 ∧ i = .int .i64 k ∧ Hid (Boxes wr w.heap.size (.slice a0 n0 c0) (.slice a1 n1 c1) v0 v1) ∧ Hid (wr.ownsRow (w.heap.size + 3) 100 2 v0 (keepS f0 t n0).length ((keepS f0 t n0).flatMap srcV)) ∧ Hid (TRow wr (w.heap.size + 3) v1 R) ∧ Hid (R.map (·.1) = keepT f1 t k) ∧ Hid (Below w.heap.size w wr)) (fun i _ => n1 - (intOf i).toNat)
      case atStart => exact ⟨0, _, [], by omega, rfl, BX.out, OW.out, tRow_nil _ _, rfl, HB.out⟩
      case round =>
        clear BX OW HB
        obtain ⟨k, v1, R, hk, rfl, BX, OS, T0, HM, HB⟩ := hrel
        have hlt4 := BX.out.lt
        by_cases hlt : k < n1
        · obtain ⟨b, off, rfl, hr⟩ := V1.out.resolve_left (by omega)
          obtain ⟨d0, ka, kc, d1, hx⟩ := (hr.2 k hlt).below HB.out (Nat.le_refl _) hr.1
          obtain ⟨rb, ro, rfl, hrow⟩ := hx.resolve_left (by have := HP.out k hlt; omega)
          have HX := hide hrow
          clear hr hx hrow
          have hRl : R.length ≤ 1048576 := by
            have h1 := congrArg List.length HM.out
            have h2 := keepT_len f1 t k
            simp at h1
            omega
          have hft : ((f1 k).actN : Int) ≤ 1048576 := by have := HF.out k hlt; unfold FitsTarget at this; omega
          cases hq : ((f1 k).name.toList == t.toList) with
          | true =>
            have HQ := hide hq
            have D1 := hide ((Below.refl wr.heap.size wr).alloc (Nat.le_refl _) (.cells #[.string (f1 k).name, .slice (some ⟨rb, ro, none⟩) (f1 k).actN kc] 104))
            go_wp2
            exact ⟨⟨k + 1, v1, R, by omega, by go_num, BX.out.below D1.out (by omega), OS.out.alloc _, T0.out.below D1.out (Nat.le_refl _), by show _ = keepT f1 t (k + 1); rw [keepT_same HQ.out]; exact HM.out, HB.out.trans (D1.out.mono HB.out.size)⟩, by simp [intOf]; omega⟩
          | false =>
            have HQ := hide hq
            obtain ⟨x1, y1⟩ := BX.out.o1
            have D1 := hide ((Below.refl wr.heap.size wr).alloc (Nat.le_refl _) (.cells #[.string (f1 k).name, .slice (some ⟨rb, ro, none⟩) (f1 k).actN kc] 104)).drew
            have tb0 : (wr.alloc (.cells #[.string (f1 k).name, .slice (some ⟨rb, ro, none⟩) (f1 k).actN kc] 104)).cell? ⟨wr.heap.size, 0, none⟩ = some (.string (f1 k).name) := by simp
            have tb1 : (wr.alloc (.cells #[.string (f1 k).name, .slice (some ⟨rb, ro, none⟩) (f1 k).actN kc] 104)).cell? ⟨wr.heap.size, 1, none⟩ = some (.slice (some ⟨rb, ro, none⟩) (f1 k).actN kc) := by simp
            go_wp2_with fail
            go_region_law (first
              | (go_simp; go_at_call 78; refine (copyProgram_row rb ro (f1 k).actN kc (f1 k).act _ hft (HX.out.below D1.out (Nat.le_refl _))).mono ?_; rintro e wC ⟨g, c, rfl, hO, hB⟩; have hB' : Hid (Below (wr.heap.size + 1) (wr.alloc (.cells #[.string (f1 k).name, .slice (some ⟨rb, ro, none⟩) (f1 k).actN kc] 104)) wC) := ⟨hB.os, hB.tape, hB.output, by simpa using hB.size, fun i hi => hB.block i (by simpa using hi)⟩; have tc0 := (hB'.out.cell (p := ⟨wr.heap.size, 0, none⟩) (Nat.lt_succ_self _)).trans tb0; have tc1 := (hB'.out.cell (p := ⟨wr.heap.size, 1, none⟩) (Nat.lt_succ_self _)).trans tb1; have DC := hide (D1.out.trans (hB.mono (by simp))); have hgl := (own_lt hO).1; have OC := hide (own_mono hO (base' := w.heap.size + 3) (by simp; omega)); have hgl2 : wr.heap.size ≤ g := (by simp at hgl; omega); obtain ⟨xC, yC⟩ := (BX.out.below DC.out (by omega)).o1; have hzC : w.heap.size + 1 + 1 < wC.heap.size := (by have := (BX.out.below DC.out (by omega)).lt; omega); have hyC : wr.heap.size < wC.heap.size := (by have := hB'.out.size; simp at this; omega); clear hB hB' hO hgl)
              | (refine step_append_own rfl (.tmp 40) (.tmp 47) 24 rfl (w.heap.size + 3) 104 i1' (.agg #[.string ⟨#[]⟩, .slice none 0 0]) 2 40 Tryz.underlying24 hj hz0 hz1 hz2 rfl (by decide) v1 R.length (R.flatMap tgtV) (by simp [Act.eval]) ((T0.out.below DC.out (Nat.le_refl _)).own.alloc _) ⟨wC.heap.size, 0, none⟩ 1 1 (tgtV (f1 k, g, c)) (by simp [Act.eval]) rfl (two_new wC _ _ _) (by simp [tgtV, Value.oneCell']) (by unfold maxLen; omega) (by omega) (by first | (simp; done) | (simp; omega) | (have := DC.out.size; simp; omega)) ?_; intro v' w2 hown hgrow hnil; obtain ⟨gs, cs, rfl⟩ := own_some hown (by omega); have T2 := hide (T0.out.more (x := f1 k) (g := g) (c := c) (DC.out.alloc DC.out.size _) hgl2 (by omega) (OC.out.alloc _) hown hgrow); have E2 := hide (Below.grown ((DC.out.mono (show w.heap.size + 3 ≤ wr.heap.size by omega)).alloc (by have := DC.out.size; omega) _) hgrow (by have := DC.out.size; simp; omega) (fun j e => (T0.out.own.lt j e).1)); obtain ⟨x2, y2⟩ := (BX.out.below E2.out (Nat.le_refl _)).o1; have OS2 := hide ((own_below OS.out (DC.out.alloc DC.out.size _) (Nat.le_refl _)).kept hgrow (own_apart (own_below OS.out (DC.out.alloc DC.out.size (.cells #[.string (f1 k).name, .slice (some ⟨g, 0, none⟩) (f1 k).actN c] 104)) (Nat.le_refl _)) ((T0.out.below DC.out (Nat.le_refl _)).own.alloc _) (by decide))); clear hown hgrow hnil))
            all_goals
              clear tb0 tb1 tc0 tc1 xC yC x1 y1
              go_wp2
              exact ⟨⟨k + 1, _, R ++ [(f1 k, g, c)], by omega, by go_num, (BX.out.below E2.out (Nat.le_refl _)).set1 _, own_set OS2.out (by omega) _, T2.out.set (by omega) _, by show _ = keepT f1 t (k + 1); rw [keepT_more HQ.out, List.map_append, HM.out]; rfl, (HB.out.trans (E2.out.mono (by omega))).setCell (by simp; omega) _⟩, by simp [intOf]; omega⟩
        · have e : n1 = k := by omega
          subst e
          obtain ⟨sa, sc, rfl⟩ := own_slice OS.out
          obtain ⟨ta, tc, rfl⟩ := own_slice T0.out.own
          obtain ⟨r0, q0⟩ := BX.out.r0
          obtain ⟨r1, q1⟩ := BX.out.r1
          obtain ⟨m0, _⟩ := BX.out.o0
          obtain ⟨m1, _⟩ := BX.out.o1
          go_wp2
          exact bodyPost_ret (v := .agg #[.slice sa _ sc, .slice ta _ tc]) (by simp [results, Tryz.results83, go_sem, r0, r1]) rfl ⟨_, _, R, rfl, own_set (own_set OS.out (by omega) _) (by omega) _, (T0.out.set (by omega) _).set (by omega) _, HM.out, (HB.out.setCell (by simp) _).setCell (by simp) _⟩
end Go.Proofs.YtkophfgkcijjkaaGreatDoor.Vp
namespace Go.Proofs.YtkophfgkcijjkaaGreatDoor.Vp
open Go.RowKit
def roomC (n0 : Nat) (f0 : Nat → Source) (n1 : Nat) (f1 : Nat → Target) (t : ByteArray) (rt : Bool) : Int :=
  if checkC n0 f0 n1 f1 ≠ 0 then 1 else if nameOk t = false ∨ rt = false then 2 else if 200 ≤ (keepS f0 t n0).length + (keepT f1 t n1).length then 3 else 0
def roomS (n0 : Nat) (f0 : Nat → Source) (n1 : Nat) (f1 : Nat → Target) (t : ByteArray) (rt : Bool) : List Source := if roomC n0 f0 n1 f1 t rt = 0 then keepS f0 t n0 else []
def roomT (n0 : Nat) (f0 : Nat → Source) (n1 : Nat) (f1 : Nat → Target) (t : ByteArray) (rt : Bool) : List Target := if roomC n0 f0 n1 f1 t rt = 0 then keepT f1 t n1 else []
theorem check_few {n0 : Nat} {f0 : Nat → Source} {n1 : Nat} {f1 : Nat → Target} (h : checkC n0 f0 n1 f1 = 0) : n0 + n1 ≤ 200 := by
  unfold checkC at h
  split at h
  · omega
  · omega
set_option maxRecDepth 100000 in
set_option maxHeartbeats 4000000 in
theorem roomFor_any (a0 : Option Addr) (n0 c0 : Nat) (f0 : Nat → Source) (a1 : Option Addr) (n1 c1 : Nat) (f1 : Nat → Target) (t : ByteArray) (rt : Bool) (w : World) (hn0 : (n0 : Int) ≤ 1048576) (hn1 : (n1 : Int) ≤ 1048576) (hv0 : SlSource w a0 n0 f0) (hv1 : SlTarget w a1 n1 f1) (hfit : ∀ i, i < n1 → FitsTarget (f1 i)) (hT : Tab w) :
    Calls Tryz.prog 57 #[.agg #[.slice a0 n0 c0, .slice a1 n1 c1], .string t, .bool rt] w fun e w' => ∃ v0 v1 R, e = .returned (.tuple #[.agg #[v0, v1], .int .i64 (roomC n0 f0 n1 f1 t rt)]) ∧ w'.ownsRow w.heap.size 100 2 v0 (roomS n0 f0 n1 f1 t rt).length ((roomS n0 f0 n1 f1 t rt).flatMap srcV) ∧ TRow w' w.heap.size v1 R ∧ R.map (·.1) = roomT n0 f0 n1 f1 t rt ∧ Below w.heap.size w w' := by
  have V0 := hide hv0
  have V1 := hide hv1
  have HF := hide hfit
  have HT := hide hT
  clear hv0 hv1 hfit hT
  obtain ⟨C, hC⟩ : ∃ C, C = checkC n0 f0 n1 f1 := ⟨_, rfl⟩
  obtain ⟨D, hD⟩ : ∃ D, D = roomC n0 f0 n1 f1 t rt := ⟨_, rfl⟩
  obtain ⟨LS, hLS⟩ : ∃ LS, LS = roomS n0 f0 n1 f1 t rt := ⟨_, rfl⟩
  obtain ⟨LT, hLT⟩ : ∃ LT, LT = roomT n0 f0 n1 f1 t rt := ⟨_, rfl⟩
  rw [← hD, ← hLS, ← hLT]
  have HC := hide hC
  have HD := hide (hD.trans (by unfold roomC; rw [← hC]))
  have HLS := hide (hLS.trans (by unfold roomS; rw [← hD]))
  have HLT := hide (hLT.trans (by unfold roomT; rw [← hD]))
  clear hC hD hLS hLT
  have A0 := hide (((Below.refl w.heap.size w).alloc (Nat.le_refl _) (.cells #[.slice a0 n0 c0, .slice a1 n1 c1] 26)).alloc (by simp) (.cells #[.slice none 0 0, .slice none 0 0] 26))
  have X0 := hide (pair_new w (.slice a0 n0 c0) (.slice a1 n1 c1) 26)
  go_enter Tryz.func57, Tryz.ntmps57
  go_wp2_with fail
  generalize (w.alloc (.cells #[.slice a0 n0 c0, .slice a1 n1 c1] 26)).alloc (.cells #[.slice none 0 0, .slice none 0 0] 26) = W at A0 X0 ⊢
  refine (implCheck_any a0 n0 c0 f0 a1 n1 c1 f1 _ hn0 hn1 (V0.out.below A0.out (Nat.le_refl _)) (V1.out.below A0.out (Nat.le_refl _)) HF.out (HT.out.below A0.out HT.out.1)).mono ?_
  rintro e w1 ⟨rfl, hB⟩
  rw [← HC.out]
  have X1 := hide (X0.out.below hB X0.out.lt')
  have B1 := hide (A0.out.trans (hB.mono A0.out.size))
  clear hB A0 X0
  by_cases hc : C = 0
  case neg =>
    have hd := HD.out
    rw [if_pos hc] at hd
    have hls := HLS.out
    rw [if_neg (by omega)] at hls
    have hlt := HLT.out
    rw [if_neg (by omega)] at hlt
    subst hd hls hlt
    have hc' : (C == 0) = false := by simpa using hc
    obtain ⟨r0, q0⟩ := X1.out.r0
    obtain ⟨r1, q1⟩ := X1.out.r1
    go_wp2
    exact bodyPost_ret (v := .tuple #[.agg #[.slice none 0 0, .slice none 0 0], .int .i64 1]) (by simp [results, Tryz.results57, go_sem, r0, r1]) rfl ⟨_, _, [], rfl, World.ownsRow_nil _ _ _ _, tRow_nil _ _, rfl, (B1.out.setCell (by simp) _).setCell (by simp) _⟩
  subst hc
  have hz := check_zero HC.out.symm
  have HZ := hide hz
  have hfew := check_few HC.out.symm
  clear hz HC
  have hd1 := HD.out
  rw [if_neg (by omega)] at hd1
  have HD1 := hide hd1
  clear hd1 HD
  go_wp2_with fail
  refine (isName_any t _).mono ?_
  rintro e w2 ⟨rfl, hB⟩
  have X2 := hide (X1.out.below hB X1.out.lt')
  have B2 := hide (B1.out.trans (hB.mono B1.out.size))
  clear hB X1 B1
  by_cases hcode : nameOk t = false ∨ rt = false
  · have hd := HD1.out
    rw [if_pos hcode] at hd
    have hls := HLS.out
    rw [if_neg (by omega)] at hls
    have hlt := HLT.out
    rw [if_neg (by omega)] at hlt
    subst hd hls hlt
    obtain ⟨r0, q0⟩ := X2.out.r0
    obtain ⟨r1, q1⟩ := X2.out.r1
    cases hn : nameOk t with
    | false =>
      clear hcode
      go_wp2
      exact bodyPost_ret (v := .tuple #[.agg #[.slice none 0 0, .slice none 0 0], .int .i64 2]) (by simp [results, Tryz.results57, go_sem, r0, r1]) rfl ⟨_, _, [], rfl, World.ownsRow_nil _ _ _ _, tRow_nil _ _, rfl, (B2.out.setCell (by simp) _).setCell (by simp) _⟩
    | true =>
      have hbig : rt = false := hcode.resolve_left (by simp [hn])
      subst hbig
      clear hcode
      go_wp2
      exact bodyPost_ret (v := .tuple #[.agg #[.slice none 0 0, .slice none 0 0], .int .i64 2]) (by simp [results, Tryz.results57, go_sem, r0, r1]) rfl ⟨_, _, [], rfl, World.ownsRow_nil _ _ _ _, tRow_nil _ _, rfl, (B2.out.setCell (by simp) _).setCell (by simp) _⟩
  have hd2 := HD1.out
  rw [if_neg hcode] at hd2
  have HD2 := hide hd2
  have hn : nameOk t = true := by
    cases h : nameOk t with
    | true => rfl
    | false => exact absurd (.inl h) hcode
  have hbig : rt = true := by
    cases rt with
    | true => rfl
    | false => exact absurd (.inr rfl) hcode
  subst hbig
  clear hd2 HD1 hcode
  have k0 := X2.out.a0
  have k1 := X2.out.a1
  rw [hn]
  go_wp2_with fail
  refine (without_any a0 n0 c0 f0 a1 n1 c1 f1 t _ hn0 hn1 (V0.out.below B2.out (Nat.le_refl _)) (V1.out.below B2.out (Nat.le_refl _)) HF.out HZ.out.2.2).mono ?_
  rintro e w3 ⟨v0, v1, R, rfl, hO, hR, hM, hB⟩
  have hlt2 := X2.out.lt
  have X3 := hide (X2.out.below hB X2.out.lt')
  have B3 := hide (B2.out.trans (hB.mono B2.out.size))
  obtain ⟨sa, sc, rfl⟩ := own_slice hO
  obtain ⟨ta, tc, rfl⟩ := own_slice hR.own
  have eR : R.length = (keepT f1 t n1).length := by rw [← hM]; simp
  have hl0 := keepS_len f0 t n0
  have hl1 := keepT_len f1 t n1
  obtain ⟨L, hL⟩ : ∃ L, L = keepS f0 t n0 := ⟨_, rfl⟩
  obtain ⟨K, hK⟩ : ∃ K, K = keepT f1 t n1 := ⟨_, rfl⟩
  rw [← hL] at hO hl0 ⊢
  rw [← hK] at hM hl1 eR
  have hd3 := HD2.out
  rw [← hL, ← hK] at hd3
  have hls := HLS.out
  rw [← hL] at hls
  have hlt := HLT.out
  rw [← hK] at hlt
  have ER := hide eR
  have hlr : R.length ≤ n1 := by omega
  clear HD2 HLS HLT hL hK hB k0 k1 hn X2 B2 eR
  have HM := hide hM
  have O3 := hide hO
  have T3 := hide hR
  have hll : (L.length : Int) ≤ 1048576 := by omega
  have hlr' : (R.length : Int) ≤ 1048576 := by omega
  clear hO hR hM
  have DB := hide ((Below.refl w3.heap.size w3).alloc (Nat.le_refl _) (.cells #[.slice sa L.length sc, .slice ta R.length tc] 26))
  have K8 := hide (twoF_box w3 (.slice sa L.length sc) (.slice ta R.length tc) 26)
  have X4 := hide (X3.out.below DB.out X3.out.lt')
  have B4 := hide (B3.out.trans (DB.out.mono B3.out.size))
  have O4 := hide (own_below O3.out DB.out (Nat.le_refl _))
  have T4 := hide (T3.out.below DB.out (Nat.le_refl _))
  have hx8 : w.heap.size + 1 < w3.heap.size := X3.out.lt
  clear O3 T3 X3 B3 DB
  go_wp2_with fail
  generalize w3.alloc (.cells #[.slice sa L.length sc, .slice ta R.length tc] 26) = w4 at K8 X4 B4 O4 T4 ⊢
  generalize w3.heap.size = X at K8 hx8 ⊢
  refine (things_any sa ta L.length sc R.length tc _ hll hlr').mono ?_
  rintro e w5 ⟨rfl, hB⟩
  have X5 := hide (X4.out.below hB X4.out.lt')
  have B5 := hide (B4.out.trans (hB.mono B4.out.size))
  have O5 := hide (own_below O4.out hB (Nat.le_refl _))
  have T5 := hide (T4.out.below hB (Nat.le_refl _))
  have c8 := (hB.cell (p := ⟨X, 0, none⟩) K8.out.lt).trans K8.out.c0
  have c9 := (hB.cell (p := ⟨X, 1, none⟩) K8.out.lt).trans K8.out.c1
  clear hB X4 B4 O4 T4 K8
  obtain ⟨r0, q0⟩ := X5.out.r0
  obtain ⟨r1, q1⟩ := X5.out.r1
  by_cases hc3 : (L.length : Int) + R.length = 200
  · rw [if_pos (by have := ER.out; omega)] at hd3
    rw [if_neg (by omega)] at hls hlt
    subst hd3 hls hlt
    rw [hc3]
    clear c8 c9
    go_wp2
    exact bodyPost_ret (v := .tuple #[.agg #[.slice none 0 0, .slice none 0 0], .int .i64 3]) (by simp [results, Tryz.results57, go_sem, r0, r1]) rfl ⟨_, _, [], rfl, World.ownsRow_nil _ _ _ _, tRow_nil _ _, rfl, (B5.out.setCell (by simp) _).setCell (by simp) _⟩
  have hc4 : ((L.length : Int) + R.length == 200) = false := by simpa using hc3
  rw [if_neg (by have := ER.out; omega)] at hd3
  rw [if_pos hd3] at hls hlt
  subst hd3 hls hlt
  have O6 := hide (own_mono (own_set (own_set (R := w.heap.size + 1) (j := 0) O5.out (by omega) (.slice sa LS.length sc)) (R := w.heap.size + 1) (j := 1) (by omega) (.slice ta R.length tc)) (base' := w.heap.size) (by omega))
  have T6 := hide (tRow_mono ((T5.out.set (X := w.heap.size + 1) (j := 0) (by omega) (.slice sa LS.length sc)).set (X := w.heap.size + 1) (j := 1) (by omega) (.slice ta R.length tc)) (base' := w.heap.size) (by omega))
  clear O5 T5
  go_wp2
  exact bodyPost_ret (v := .tuple #[.agg #[.slice sa LS.length sc, .slice ta R.length tc], .int .i64 0]) (by simp [results, Tryz.results57, go_sem, r0, r1]) rfl ⟨_, _, R, rfl, O6.out, T6.out, HM.out, (B5.out.setCell (by simp) _).setCell (by simp) _⟩
end Go.Proofs.YtkophfgkcijjkaaGreatDoor.Vp
namespace Go.Proofs.YtkophfgkcijjkaaGreatDoor.Vp
open Go.RowKit
def doneG (g : Nat → ByteArray) (t : ByteArray) : Nat → Bool
  | 0 => false
  | k + 1 => doneG g t k || tless t (g k)
def insG {α : Type} (g : Nat → ByteArray) (F : Nat → α) (x : α) (t : ByteArray) : Nat → List α
  | 0 => []
  | k + 1 => if doneG g t k = false ∧ tless t (g k) = true then insG g F x t k ++ [x] ++ [F k] else insG g F x t k ++ [F k]
def finG {α : Type} (g : Nat → ByteArray) (F : Nat → α) (x : α) (t : ByteArray) (n : Nat) : List α := if doneG g t n = true then insG g F x t n else insG g F x t n ++ [x]
theorem insG_len {α : Type} (g : Nat → ByteArray) (F : Nat → α) (x : α) (t : ByteArray) (k : Nat) : (insG g F x t k).length ≤ k + 1 ∧ (doneG g t k = false → (insG g F x t k).length = k) := by
  induction k with
  | zero => simp [insG]
  | succ j ih =>
    simp only [insG, doneG]
    cases hd : doneG g t j with
    | false =>
      have h1 := ih.2 hd
      cases hl : tless t (g j) with
      | true => simp [h1]
      | false => simp [h1]
    | true =>
      have h1 := ih.1
      simp
      omega
theorem insG_map {α β : Type} (p : α → β) (g : Nat → ByteArray) (F : Nat → α) (x : α) (t : ByteArray) (k : Nat) : (insG g F x t k).map p = insG g (fun i => p (F i)) (p x) t k := by
  induction k with
  | zero => rfl
  | succ j ih =>
    simp only [insG]
    split <;> simp [ih]
theorem finG_map {α β : Type} (p : α → β) (g : Nat → ByteArray) (F : Nat → α) (x : α) (t : ByteArray) (n : Nat) : (finG g F x t n).map p = finG g (fun i => p (F i)) (p x) t n := by
  unfold finG
  split
  · exact insG_map p g F x t n
  · rw [List.map_append, insG_map]; rfl
theorem insG_before {α : Type} {g : Nat → ByteArray} {L : List α} {d x : α} {t : ByteArray} {i : Nat} (hi : i ≤ L.length) (h1 : ∀ m, m < i → tless (g m) t = true) : ∀ k, k ≤ i → doneG g t k = false ∧ insG g (fun j => L.getD j d) x t k = L.take k
  | 0, _ => ⟨rfl, rfl⟩
  | k + 1, hk => by
    obtain ⟨ih1, ih2⟩ := insG_before (d := d) (x := x) hi h1 k (by omega)
    have h3 : tless t (g k) = false := (tless_yes (h1 k (by omega))).1
    have e : L.getD k d = L[k]'(by omega) := by rw [List.getD_eq_getElem?_getD, List.getElem?_eq_getElem (by omega)]; rfl
    refine ⟨?_, ?_⟩
    · show (doneG g t k || tless t (g k)) = false
      rw [ih1, h3]; rfl
    · show (if _ then _ else _) = _
      rw [if_neg (by rw [h3]; simp), ih2]
      show L.take k ++ [L.getD k d] = _
      rw [e]
      exact List.take_append_getElem (by omega)
theorem insG_behind {α : Type} {g : Nat → ByteArray} {L : List α} {d x : α} {t : ByteArray} {i : Nat} (hi : i ≤ L.length) (h1 : ∀ m, m < i → tless (g m) t = true) (h2 : ∀ m, i ≤ m → m < L.length → tless (g m) t = false) (h3 : ∀ m, m < L.length → ((g m).toList == t.toList) = false) :
    ∀ e, i + e + 1 ≤ L.length → doneG g t (i + e + 1) = true ∧ insG g (fun j => L.getD j d) x t (i + e + 1) = L.take i ++ x :: (L.drop i).take (e + 1)
  | 0, hd => by
    obtain ⟨a1, a2⟩ := insG_before (d := d) (x := x) hi h1 i (Nat.le_refl _)
    have hlt : i < L.length := by omega
    have h4 : tless t (g i) = true := by
      cases h : tless t (g i) with
      | true => rfl
      | false =>
        rcases tless_no h with h5 | ⟨_, h5⟩
        · have := h2 i (Nat.le_refl _) hlt
          rw [h5] at this
          cases this
        · rw [h3 _ hlt] at h5
          cases h5
    have e : L.getD i d = L[i] := by rw [List.getD_eq_getElem?_getD, List.getElem?_eq_getElem hlt]; rfl
    refine ⟨?_, ?_⟩
    · show (doneG g t i || tless t (g i)) = true
      rw [h4]; simp
    · show (if _ then _ else _) = _
      have e2 : (L.drop i).take (0 + 1) = [L[i]] := by rw [List.drop_eq_getElem_cons hlt]; rfl
      rw [if_pos ⟨a1, h4⟩, a2]
      show L.take i ++ [x] ++ [L.getD i d] = _
      rw [e, e2]
      simp
  | k + 1, hd => by
    obtain ⟨a1, a2⟩ := insG_behind (d := d) (x := x) hi h1 h2 h3 k (by omega)
    have hl : k + 1 < (L.drop i).length := by rw [List.length_drop]; omega
    have e : L.getD (i + k + 1) d = L[i + k + 1]'(by omega) := by rw [List.getD_eq_getElem?_getD, List.getElem?_eq_getElem (by omega)]; rfl
    refine ⟨?_, ?_⟩
    · show (doneG g t (i + k + 1) || _) = true
      rw [a1]; rfl
    · show (if _ then _ else _) = _
      rw [if_neg (by rw [show i + (k + 1) = i + k + 1 from rfl, a1]; simp)]
      show insG g (fun j => L.getD j d) x t (i + k + 1) ++ [L.getD (i + k + 1) d] = _
      rw [a2, e, ← List.take_append_getElem hl, List.getElem_drop]
      simp [Nat.add_assoc]
theorem finG_at {α : Type} {g : Nat → ByteArray} {L : List α} {d x : α} {t : ByteArray} {i : Nat} (hi : i ≤ L.length) (h1 : ∀ m, m < i → tless (g m) t = true) (h2 : ∀ m, i ≤ m → m < L.length → tless (g m) t = false) (h3 : ∀ m, m < L.length → ((g m).toList == t.toList) = false) :
    finG g (fun j => L.getD j d) x t L.length = L.take i ++ x :: L.drop i := by
  by_cases hl : i = L.length
  · subst hl
    obtain ⟨a1, a2⟩ := insG_before (d := d) (x := x) hi h1 L.length (Nat.le_refl _)
    unfold finG
    rw [if_neg (by rw [a1]; simp), a2]
    simp
  · obtain ⟨k, hk⟩ : ∃ k, L.length = i + k + 1 := ⟨L.length - i - 1, by omega⟩
    obtain ⟨a1, a2⟩ := insG_behind (d := d) (x := x) hi h1 h2 h3 k (by omega)
    unfold finG
    have e : (L.drop i).take (k + 1) = L.drop i := List.take_of_length_le (by rw [List.length_drop]; omega)
    rw [hk, if_pos a1, a2, e]
theorem tgtF_at {L : List Target} {i : Nat} (h : i < L.length) : tgtF L i = L[i] := by
  rw [tgtF, List.getD_eq_getElem?_getD, List.getElem?_eq_getElem h]; rfl
theorem ascTo_of' {g : Nat → ByteArray} {n : Nat} (h : ∀ i j, i < j → j < n → tless (g i) (g j) = true) : ascTo g n = true := by
  induction n with
  | zero => rfl
  | succ k ih =>
    have h1 := ih (fun i j hij hj => h i j hij (by omega))
    cases k with
    | zero => rfl
    | succ m =>
      show (ascTo g (m + 1) && _) = true
      rw [h1]
      exact h m (m + 1) (by omega) (by omega)
theorem keepT_asc {f : Nat → Target} {n : Nat} (t : ByteArray) (h : ascTo (nm1 f) n = true) : ascTo (nm1 (tgtF (keepT f t n))) (keepT f t n).length = true := by
  have hp : ((List.range n).map f).Pairwise fun a b => tless a.name b.name = true := by
    rw [List.pairwise_map]
    refine List.Pairwise.imp_of_mem ?_ List.pairwise_lt_range
    intro a b _ hb hab
    exact asc_lt h hab (List.mem_range.1 hb)
  have hq : (keepT f t n).Pairwise fun a b => tless a.name b.name = true := hp.filter _
  refine ascTo_of' fun i j hij hj => ?_
  have hi : i < (keepT f t n).length := by omega
  show tless (tgtF (keepT f t n) i).name (tgtF (keepT f t n) j).name = true
  rw [tgtF_at hi, tgtF_at hj]
  exact List.pairwise_iff_getElem.1 hq i j hi hj hij
theorem keepT_not {f : Nat → Target} {n : Nat} {t : ByteArray} : ∀ m, m < (keepT f t n).length → ((nm1 (tgtF (keepT f t n)) m).toList == t.toList) = false := by
  intro m hm
  show ((tgtF (keepT f t n) m).name.toList == t.toList) = false
  rw [tgtF_at hm]
  simpa using (List.mem_filter.1 (List.getElem_mem hm)).2
def insT (K : List Target) (x : Target) (t : ByteArray) : List Target := finG (nm1 (tgtF K)) (fun j => K.getD j dfT) x t K.length
theorem take_flatT (L : List TR) : ∀ i, (L.flatMap tgtV).take (i * 2) = (L.take i).flatMap tgtV ∧ (L.flatMap tgtV).drop (i * 2) = (L.drop i).flatMap tgtV := by
  induction L with
  | nil => intro i; simp
  | cons a l ih =>
    intro i
    cases i with
    | zero => simp
    | succ j =>
      obtain ⟨h1, h2⟩ := ih j
      have e : (j + 1) * 2 = j * 2 + 2 := by omega
      simp [e, tgtV, h1, h2]
end Go.Proofs.YtkophfgkcijjkaaGreatDoor.Vp
namespace Go.Proofs.YtkophfgkcijjkaaGreatDoor.Vp
open Go.RowKit
set_option maxRecDepth 100000 in
set_option maxHeartbeats 4000000 in
theorem implDrop_any (a0 : Option Addr) (n0 c0 : Nat) (f0 : Nat → Source) (a1 : Option Addr) (n1 c1 : Nat) (f1 : Nat → Target) (t : ByteArray) (w : World) (hn0 : (n0 : Int) ≤ 1048576) (hn1 : (n1 : Int) ≤ 1048576) (hv0 : SlSource w a0 n0 f0) (hv1 : SlTarget w a1 n1 f1) (hfit : ∀ i, i < n1 → FitsTarget (f1 i)) (hT : Tab w) :
    Calls Tryz.prog 18 #[.agg #[.slice a0 n0 c0, .slice a1 n1 c1], .string t] w fun e w' => ∃ v0 v1 R, e = .returned (.tuple #[.agg #[v0, v1], .int .i64 (dropC n0 f0 n1 f1 t)]) ∧ w'.ownsRow w.heap.size 100 2 v0 (dropS n0 f0 n1 f1 t).length ((dropS n0 f0 n1 f1 t).flatMap srcV) ∧ TRow w' w.heap.size v1 R ∧ R.map (·.1) = dropT n0 f0 n1 f1 t ∧ Below w.heap.size w w' := by
  have V0 := hide hv0
  have V1 := hide hv1
  have HF := hide hfit
  have HT := hide hT
  clear hv0 hv1 hfit hT
  obtain ⟨C, hC⟩ : ∃ C, C = checkC n0 f0 n1 f1 := ⟨_, rfl⟩
  obtain ⟨D, hD⟩ : ∃ D, D = dropC n0 f0 n1 f1 t := ⟨_, rfl⟩
  obtain ⟨LS, hLS⟩ : ∃ LS, LS = dropS n0 f0 n1 f1 t := ⟨_, rfl⟩
  obtain ⟨LT, hLT⟩ : ∃ LT, LT = dropT n0 f0 n1 f1 t := ⟨_, rfl⟩
  rw [← hD, ← hLS, ← hLT]
  have HC := hide hC
  have HD := hide (hD.trans (by unfold dropC; rw [← hC]))
  have HLS := hide (hLS.trans (by unfold dropS; rw [← hD]))
  have HLT := hide (hLT.trans (by unfold dropT; rw [← hD]))
  clear hC hD hLS hLT
  have A0 := hide (((Below.refl w.heap.size w).alloc (Nat.le_refl _) (.cells #[.slice a0 n0 c0, .slice a1 n1 c1] 26)).alloc (by simp) (.cells #[.slice none 0 0, .slice none 0 0] 26))
  have X0 := hide (pair_new w (.slice a0 n0 c0) (.slice a1 n1 c1) 26)
  go_enter Tryz.func18, Tryz.ntmps18
  go_wp2_with fail
  generalize (w.alloc (.cells #[.slice a0 n0 c0, .slice a1 n1 c1] 26)).alloc (.cells #[.slice none 0 0, .slice none 0 0] 26) = W at A0 X0 ⊢
  refine (implCheck_any a0 n0 c0 f0 a1 n1 c1 f1 _ hn0 hn1 (V0.out.below A0.out (Nat.le_refl _)) (V1.out.below A0.out (Nat.le_refl _)) HF.out (HT.out.below A0.out HT.out.1)).mono ?_
  rintro e w1 ⟨rfl, hB⟩
  rw [← HC.out]
  have X1 := hide (X0.out.below hB X0.out.lt')
  have B1 := hide (A0.out.trans (hB.mono A0.out.size))
  clear hB A0 X0
  by_cases hc : C = 0
  case neg =>
    have hd := HD.out
    rw [if_pos hc] at hd
    have hls := HLS.out
    rw [if_neg (by omega)] at hls
    have hlt := HLT.out
    rw [if_neg (by omega)] at hlt
    subst hd hls hlt
    have hc' : (C == 0) = false := by simpa using hc
    obtain ⟨r0, q0⟩ := X1.out.r0
    obtain ⟨r1, q1⟩ := X1.out.r1
    go_wp2
    exact bodyPost_ret (v := .tuple #[.agg #[.slice none 0 0, .slice none 0 0], .int .i64 1]) (by simp [results, Tryz.results18, go_sem, r0, r1]) rfl ⟨_, _, [], rfl, World.ownsRow_nil _ _ _ _, tRow_nil _ _, rfl, (B1.out.setCell (by simp) _).setCell (by simp) _⟩
  subst hc
  have hz := check_zero HC.out.symm
  have HZ := hide hz
  clear hz HC
  have hd1 := HD.out
  rw [if_neg (by omega)] at hd1
  have HD1 := hide hd1
  clear hd1 HD
  go_wp2_with fail
  refine (isName_any t _).mono ?_
  rintro e w2 ⟨rfl, hB⟩
  have X2 := hide (X1.out.below hB X1.out.lt')
  have B2 := hide (B1.out.trans (hB.mono B1.out.size))
  clear hB X1 B1
  cases hn : nameOk t with
  | false =>
    have hd := HD1.out
    rw [if_pos hn] at hd
    have hls := HLS.out
    rw [if_neg (by omega)] at hls
    have hlt := HLT.out
    rw [if_neg (by omega)] at hlt
    subst hd hls hlt
    clear hn
    obtain ⟨r0, q0⟩ := X2.out.r0
    obtain ⟨r1, q1⟩ := X2.out.r1
    go_wp2
    exact bodyPost_ret (v := .tuple #[.agg #[.slice none 0 0, .slice none 0 0], .int .i64 2]) (by simp [results, Tryz.results18, go_sem, r0, r1]) rfl ⟨_, _, [], rfl, World.ownsRow_nil _ _ _ _, tRow_nil _ _, rfl, (B2.out.setCell (by simp) _).setCell (by simp) _⟩
  | true =>
    have hd2 := HD1.out
    rw [if_neg (by simp [hn])] at hd2
    have HD2 := hide hd2
    clear hd2 HD1 hn
    have k0 := X2.out.a0
    have k1 := X2.out.a1
    go_wp2_with fail
    refine (has_any a0 n0 c0 f0 a1 n1 c1 f1 t _ hn0 hn1 (V0.out.below B2.out (Nat.le_refl _)) (V1.out.below B2.out (Nat.le_refl _)) HZ.out.1 HZ.out.2.1).mono ?_
    rintro e w3 ⟨rfl, hB⟩
    have X3 := hide (X2.out.below hB X2.out.lt')
    have B3 := hide (B2.out.trans (hB.mono B2.out.size))
    clear hB X2 B2 k0 k1
    have k0 := X3.out.a0
    have k1 := X3.out.a1
    cases hi : (isIn (nm0 f0) n0 t || isIn (nm1 f1) n1 t) with
    | false =>
      have hd := HD2.out
      rw [if_pos hi] at hd
      have hls := HLS.out
      rw [if_neg (by omega)] at hls
      have hlt := HLT.out
      rw [if_neg (by omega)] at hlt
      subst hd hls hlt
      obtain ⟨r0, q0⟩ := X3.out.r0
      obtain ⟨r1, q1⟩ := X3.out.r1
      go_wp2
      exact bodyPost_ret (v := .tuple #[.agg #[.slice none 0 0, .slice none 0 0], .int .i64 4]) (by simp [results, Tryz.results18, go_sem, r0, r1]) rfl ⟨_, _, [], rfl, World.ownsRow_nil _ _ _ _, tRow_nil _ _, rfl, (B3.out.setCell (by simp) _).setCell (by simp) _⟩
    | true =>
      have hd := HD2.out
      rw [if_neg (by simp [hi])] at hd
      have hls := HLS.out
      rw [if_pos hd] at hls
      have hlt := HLT.out
      rw [if_pos hd] at hlt
      subst hd hls hlt
      go_wp2_with fail
      refine (without_any a0 n0 c0 f0 a1 n1 c1 f1 t _ hn0 hn1 (V0.out.below B3.out (Nat.le_refl _)) (V1.out.below B3.out (Nat.le_refl _)) HF.out HZ.out.2.2).mono ?_
      rintro e w4 ⟨v0, v1, R, rfl, hO, hR, hM, hB⟩
      have X4 := hide (X3.out.below hB X3.out.lt')
      have hlt4 := X3.out.lt
      have B4 := hide (B3.out.trans (hB.mono B3.out.size))
      obtain ⟨sa, sc, rfl⟩ := own_slice hO
      obtain ⟨ta, tc, rfl⟩ := own_slice hR.own
      have O4 := hide (own_mono (own_set (own_set (R := w.heap.size + 1) (j := 0) hO (by omega) (.slice sa (keepS f0 t n0).length sc)) (R := w.heap.size + 1) (j := 1) (by omega) (.slice ta R.length tc)) (base' := w.heap.size) (by omega))
      have T4 := hide (tRow_mono ((hR.set (X := w.heap.size + 1) (j := 0) (by omega) (.slice sa (keepS f0 t n0).length sc)).set (X := w.heap.size + 1) (j := 1) (by omega) (.slice ta R.length tc)) (base' := w.heap.size) (by omega))
      have HM := hide hM
      clear hO hR hB hM k0 k1
      obtain ⟨r0, q0⟩ := X4.out.r0
      obtain ⟨r1, q1⟩ := X4.out.r1
      go_wp2
      exact bodyPost_ret (v := .tuple #[.agg #[.slice sa (keepS f0 t n0).length sc, .slice ta R.length tc], .int .i64 0]) (by simp [results, Tryz.results18, go_sem, r0, r1]) rfl ⟨_, _, R, rfl, O4.out, T4.out, HM.out, (B4.out.setCell (by simp) _).setCell (by simp) _⟩
end Go.Proofs.YtkophfgkcijjkaaGreatDoor.Vp
namespace Go.Proofs.YtkophfgkcijjkaaGreatDoor.Vp
open Go.RowKit
set_option maxRecDepth 100000 in
set_option maxHeartbeats 4000000 in
theorem specDrop_any (a0 : Option Addr) (n0 c0 : Nat) (f0 : Nat → Source) (a1 : Option Addr) (n1 c1 : Nat) (f1 : Nat → Target) (t : ByteArray) (w : World) (hn0 : (n0 : Int) ≤ 1048576) (hn1 : (n1 : Int) ≤ 1048576) (hv0 : SlSource w a0 n0 f0) (hv1 : SlTarget w a1 n1 f1) (hfit : ∀ i, i < n1 → FitsTarget (f1 i)) (hs : ∀ i, i < n1 → ∀ j, j < (f1 i).actN → ((f1 i).act j).s.size ≤ maxLen) :
    Calls Tryz.prog 19 #[.agg #[.slice a0 n0 c0, .slice a1 n1 c1], .string t] w fun e w' => ∃ v0 v1 R, e = .returned (.tuple #[.agg #[v0, v1], .int .i64 (dropC n0 f0 n1 f1 t)]) ∧ w'.ownsRow w.heap.size 100 2 v0 (dropS n0 f0 n1 f1 t).length ((dropS n0 f0 n1 f1 t).flatMap srcV) ∧ TRow w' w.heap.size v1 R ∧ R.map (·.1) = dropT n0 f0 n1 f1 t ∧ Below w.heap.size w w' := by
  have V0 := hide hv0
  have V1 := hide hv1
  have HF := hide hfit
  have HS := hide hs
  clear hv0 hv1 hfit hs
  obtain ⟨C, hC⟩ : ∃ C, C = checkC n0 f0 n1 f1 := ⟨_, rfl⟩
  obtain ⟨D, hD⟩ : ∃ D, D = dropC n0 f0 n1 f1 t := ⟨_, rfl⟩
  obtain ⟨LS, hLS⟩ : ∃ LS, LS = dropS n0 f0 n1 f1 t := ⟨_, rfl⟩
  obtain ⟨LT, hLT⟩ : ∃ LT, LT = dropT n0 f0 n1 f1 t := ⟨_, rfl⟩
  rw [← hD, ← hLS, ← hLT]
  have HC := hide hC
  have HD := hide (hD.trans (by unfold dropC; rw [← hC]))
  have HLS := hide (hLS.trans (by unfold dropS; rw [← hD]))
  have HLT := hide (hLT.trans (by unfold dropT; rw [← hD]))
  clear hC hD hLS hLT
  have A0 := hide (((Below.refl w.heap.size w).alloc (Nat.le_refl _) (.cells #[.slice a0 n0 c0, .slice a1 n1 c1] 26)).alloc (by simp) (.cells #[.slice none 0 0, .slice none 0 0] 26))
  have X0 := hide (pair_new w (.slice a0 n0 c0) (.slice a1 n1 c1) 26)
  go_enter Tryz.func19, Tryz.ntmps19
  go_wp2_with fail
  generalize (w.alloc (.cells #[.slice a0 n0 c0, .slice a1 n1 c1] 26)).alloc (.cells #[.slice none 0 0, .slice none 0 0] 26) = W at A0 X0 ⊢
  refine (specCheck_any a0 n0 c0 f0 a1 n1 c1 f1 _ hn0 hn1 (V0.out.below A0.out (Nat.le_refl _)) (V1.out.below A0.out (Nat.le_refl _)) HF.out HS.out).mono ?_
  rintro e w1 ⟨rfl, hB⟩
  rw [← HC.out]
  have X1 := hide (X0.out.below hB X0.out.lt')
  have B1 := hide (A0.out.trans (hB.mono A0.out.size))
  clear hB A0 X0
  by_cases hc : C = 0
  case neg =>
    have hd := HD.out
    rw [if_pos hc] at hd
    have hls := HLS.out
    rw [if_neg (by omega)] at hls
    have hlt := HLT.out
    rw [if_neg (by omega)] at hlt
    subst hd hls hlt
    have hc' : (C == 0) = false := by simpa using hc
    obtain ⟨r0, q0⟩ := X1.out.r0
    obtain ⟨r1, q1⟩ := X1.out.r1
    go_wp2
    exact bodyPost_ret (v := .tuple #[.agg #[.slice none 0 0, .slice none 0 0], .int .i64 1]) (by simp [results, Tryz.results19, go_sem, r0, r1]) rfl ⟨_, _, [], rfl, World.ownsRow_nil _ _ _ _, tRow_nil _ _, rfl, (B1.out.setCell (by simp) _).setCell (by simp) _⟩
  subst hc
  have hz := check_zero HC.out.symm
  have HZ := hide hz
  clear hz HC
  have hd1 := HD.out
  rw [if_neg (by omega)] at hd1
  have HD1 := hide hd1
  clear hd1 HD
  go_wp2_with fail
  refine (l1NameOk_any t _).mono ?_
  rintro e w2 ⟨rfl, hB⟩
  have X2 := hide (X1.out.below hB X1.out.lt')
  have B2 := hide (B1.out.trans (hB.mono B1.out.size))
  clear hB X1 B1
  cases hn : nameOk t with
  | false =>
    have hd := HD1.out
    rw [if_pos hn] at hd
    have hls := HLS.out
    rw [if_neg (by omega)] at hls
    have hlt := HLT.out
    rw [if_neg (by omega)] at hlt
    subst hd hls hlt
    clear hn
    obtain ⟨r0, q0⟩ := X2.out.r0
    obtain ⟨r1, q1⟩ := X2.out.r1
    go_wp2
    exact bodyPost_ret (v := .tuple #[.agg #[.slice none 0 0, .slice none 0 0], .int .i64 2]) (by simp [results, Tryz.results19, go_sem, r0, r1]) rfl ⟨_, _, [], rfl, World.ownsRow_nil _ _ _ _, tRow_nil _ _, rfl, (B2.out.setCell (by simp) _).setCell (by simp) _⟩
  | true =>
    have hd2 := HD1.out
    rw [if_neg (by simp [hn])] at hd2
    have HD2 := hide hd2
    clear hd2 HD1 hn
    have k0 := X2.out.a0
    have k1 := X2.out.a1
    go_wp2_with fail
    refine (l2Source_any a0 n0 c0 a1 n1 c1 f0 t _ hn0 (V0.out.below B2.out (Nat.le_refl _))).mono ?_
    rintro e wS ⟨r, rfl, hds, hB⟩
    have XS := hide (X2.out.below hB X2.out.lt')
    have BS := hide (B2.out.trans (hB.mono B2.out.size))
    clear hB X2 B2 k0 k1
    have k0 := XS.out.a0
    have k1 := XS.out.a1
    by_cases hr : r < 0
    · have HI0 : Hid (isIn (nm0 f0) n0 t = false) := by show _ = false; rw [← hds]; simpa using hr
      clear hds
      go_wp2_with fail
      refine (l2Target_any a0 n0 c0 a1 n1 c1 f1 t _ hn1 (V1.out.below BS.out (Nat.le_refl _))).mono ?_
      rintro e w3 ⟨q, rfl, hdt, hB⟩
      have X3 := hide (XS.out.below hB XS.out.lt')
      have B3 := hide (BS.out.trans (hB.mono BS.out.size))
      clear hB XS BS k0 k1
      have k0 := X3.out.a0
      have k1 := X3.out.a1
      by_cases hq : q < 0
      · have hi : (isIn (nm0 f0) n0 t || isIn (nm1 f1) n1 t) = false := by rw [HI0.out, ← hdt]; simpa using hq
        clear hdt
        have hd := HD2.out
        rw [if_pos hi] at hd
        have hls := HLS.out
        rw [if_neg (by omega)] at hls
        have hlt := HLT.out
        rw [if_neg (by omega)] at hlt
        subst hd hls hlt
        obtain ⟨r0, q0⟩ := X3.out.r0
        obtain ⟨r1, q1⟩ := X3.out.r1
        go_wp2
        exact bodyPost_ret (v := .tuple #[.agg #[.slice none 0 0, .slice none 0 0], .int .i64 4]) (by simp [results, Tryz.results19, go_sem, r0, r1]) rfl ⟨_, _, [], rfl, World.ownsRow_nil _ _ _ _, tRow_nil _ _, rfl, (B3.out.setCell (by simp) _).setCell (by simp) _⟩
      · have hi : (isIn (nm0 f0) n0 t || isIn (nm1 f1) n1 t) = true := by rw [HI0.out, ← hdt]; simpa using hq
        clear hdt
        have hd := HD2.out
        rw [if_neg (by simp [hi])] at hd
        have hls := HLS.out
        rw [if_pos hd] at hls
        have hlt := HLT.out
        rw [if_pos hd] at hlt
        subst hd hls hlt
        go_wp2_with fail
        refine (l2Without_any a0 n0 c0 f0 a1 n1 c1 f1 t _ hn0 hn1 (V0.out.below B3.out (Nat.le_refl _)) (V1.out.below B3.out (Nat.le_refl _)) HF.out).mono ?_
        rintro e w4 ⟨v0, v1, R, rfl, hO, hR, hM, hB⟩
        have X4 := hide (X3.out.below hB X3.out.lt')
        have hlt4 := X3.out.lt
        have B4 := hide (B3.out.trans (hB.mono B3.out.size))
        obtain ⟨sa, sc, rfl⟩ := own_slice hO
        obtain ⟨ta, tc, rfl⟩ := own_slice hR.own
        have O4 := hide (own_mono (own_set (own_set (R := w.heap.size + 1) (j := 0) hO (by omega) (.slice sa (keepS f0 t n0).length sc)) (R := w.heap.size + 1) (j := 1) (by omega) (.slice ta R.length tc)) (base' := w.heap.size) (by omega))
        have T4 := hide (tRow_mono ((hR.set (X := w.heap.size + 1) (j := 0) (by omega) (.slice sa (keepS f0 t n0).length sc)).set (X := w.heap.size + 1) (j := 1) (by omega) (.slice ta R.length tc)) (base' := w.heap.size) (by omega))
        have HM := hide hM
        clear hO hR hB hM k0 k1
        obtain ⟨r0, q0⟩ := X4.out.r0
        obtain ⟨r1, q1⟩ := X4.out.r1
        go_wp2
        exact bodyPost_ret (v := .tuple #[.agg #[.slice sa (keepS f0 t n0).length sc, .slice ta R.length tc], .int .i64 0]) (by simp [results, Tryz.results19, go_sem, r0, r1]) rfl ⟨_, _, R, rfl, O4.out, T4.out, HM.out, (B4.out.setCell (by simp) _).setCell (by simp) _⟩
    · have hi : (isIn (nm0 f0) n0 t || isIn (nm1 f1) n1 t) = true := by rw [← hds]; have : decide (0 ≤ r) = true := decide_eq_true (by omega); rw [this]; rfl
      clear hds
      have X3 := XS
      have B3 := BS
      have hd := HD2.out
      rw [if_neg (by simp [hi])] at hd
      have hls := HLS.out
      rw [if_pos hd] at hls
      have hlt := HLT.out
      rw [if_pos hd] at hlt
      subst hd hls hlt
      go_wp2_with fail
      refine (l2Without_any a0 n0 c0 f0 a1 n1 c1 f1 t _ hn0 hn1 (V0.out.below B3.out (Nat.le_refl _)) (V1.out.below B3.out (Nat.le_refl _)) HF.out).mono ?_
      rintro e w4 ⟨v0, v1, R, rfl, hO, hR, hM, hB⟩
      have X4 := hide (X3.out.below hB X3.out.lt')
      have hlt4 := X3.out.lt
      have B4 := hide (B3.out.trans (hB.mono B3.out.size))
      obtain ⟨sa, sc, rfl⟩ := own_slice hO
      obtain ⟨ta, tc, rfl⟩ := own_slice hR.own
      have O4 := hide (own_mono (own_set (own_set (R := w.heap.size + 1) (j := 0) hO (by omega) (.slice sa (keepS f0 t n0).length sc)) (R := w.heap.size + 1) (j := 1) (by omega) (.slice ta R.length tc)) (base' := w.heap.size) (by omega))
      have T4 := hide (tRow_mono ((hR.set (X := w.heap.size + 1) (j := 0) (by omega) (.slice sa (keepS f0 t n0).length sc)).set (X := w.heap.size + 1) (j := 1) (by omega) (.slice ta R.length tc)) (base' := w.heap.size) (by omega))
      have HM := hide hM
      clear hO hR hB hM k0 k1
      obtain ⟨r0, q0⟩ := X4.out.r0
      obtain ⟨r1, q1⟩ := X4.out.r1
      go_wp2
      exact bodyPost_ret (v := .tuple #[.agg #[.slice sa (keepS f0 t n0).length sc, .slice ta R.length tc], .int .i64 0]) (by simp [results, Tryz.results19, go_sem, r0, r1]) rfl ⟨_, _, R, rfl, O4.out, T4.out, HM.out, (B4.out.setCell (by simp) _).setCell (by simp) _⟩
end Go.Proofs.YtkophfgkcijjkaaGreatDoor.Vp
