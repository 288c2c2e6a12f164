/-
  PutTarget: the box of what roomFor gives.
-/
import Derived.Test.YtpbpbjcnbhejgaaDoorPtKit
namespace Go.Proofs.YtpbpbjcnbhejgaaDoor.Vp
open Go.RowKit

/-- A new box that holds nothing yet. -/
structure BoxZ (w : World) (X : Nat) : Prop where
  lt : X < w.heap.size
  z0 : w.frozen? ⟨X, 0, none⟩ = false
  z1 : w.frozen? ⟨X, 1, none⟩ = false
  c0 : w.cell? ⟨X, 0, none⟩ = some (.slice none 0 0)
  c1 : w.cell? ⟨X, 1, none⟩ = some (.slice none 0 0)
  ty : TypeAt w X 42
theorem boxZ_new (w : World) : BoxZ (w.alloc (.cells #[.slice none 0 0, .slice none 0 0] 42)) w.heap.size := ⟨by simp, by simp, by simp, by simp, by simp, type_box _ _ _⟩
theorem BoxZ.below {w w' : World} {X B : Nat} (h : BoxZ w X) (hb : Below B w w') (hB : X < B) : BoxZ w' X :=
  ⟨Nat.lt_of_lt_of_le h.lt hb.size, (hb.frozen (p := ⟨X, 0, none⟩) hB).trans h.z0, (hb.frozen (p := ⟨X, 1, none⟩) hB).trans h.z1, (hb.cell (p := ⟨X, 0, none⟩) hB).trans h.c0, (hb.cell (p := ⟨X, 1, none⟩) hB).trans h.c1, h.ty.block (hb.block X hB)⟩
/-- What roomFor gave, in a box. -/
structure RoomBox (W wx : World) (X : Nat) (p q : Value) (L : List Source) (R : List TR) : Prop where
  two : TwoF wx X p q
  ty : TypeAt wx X 42
  ge : W.heap.size ≤ X
  src : wx.ownsRow W.heap.size 76 2 p L.length (L.flatMap srcV)
  tgt : TRow wx W.heap.size q R
  below : Below W.heap.size W wx
theorem room_last {W w2 : World} {base : Nat} {p q : Value} {L : List Source} {R : List TR} (hO : w2.ownsRow base 76 2 p L.length (L.flatMap srcV)) (hR : TRow w2 base q R) (hb : W.heap.size ≤ base) (hB : Below W.heap.size W w2) : RoomBox W (w2.alloc (.cells #[p, q] 42)) w2.heap.size p q L R :=
  have D : Below w2.heap.size w2 (w2.alloc (.cells #[p, q] 42)) := (Below.refl _ _).alloc (Nat.le_refl _) _
  ⟨twoF_box _ _ _ _, type_box _ _ _, hB.size, own_mono (own_below hO D (Nat.le_refl _)) hb, tRow_mono (hR.below D (Nat.le_refl _)) hb, hB.trans (D.mono hB.size)⟩
theorem TypeAt.set {w : World} {X g j : Nat} {e : TypeId} (h : TypeAt w X e) (u : Value) : TypeAt (w.setCell ⟨g, j, none⟩ u) X e := by
  obtain ⟨c, hc⟩ := h
  by_cases hg : X = g
  · subst hg
    refine ⟨c.setIfInBounds j u, ?_⟩
    unfold World.setCell
    simp only [Array.getElem?_modify, if_true, hc]
    rfl
  · exact ⟨c, (Below.heap_setCell _ _ _ _ (by simpa using hg)).trans hc⟩
theorem room_set {W w2 : World} {base X : Nat} {p q : Value} {L : List Source} {R : List TR} (hO : w2.ownsRow base 76 2 p L.length (L.flatMap srcV)) (hR : TRow w2 base q R) (hb : W.heap.size ≤ base) (hB : Below W.heap.size W w2) (hX : W.heap.size ≤ X) (hZ : BoxZ w2 X) : RoomBox W ((w2.setCell ⟨X, 0, none⟩ p).setCell ⟨X, 1, none⟩ q) X p q L R := by
  have t1 : TypeAt (w2.setCell ⟨X, 0, none⟩ p) X 42 := hZ.ty.set p
  refine ⟨⟨by simpa using hZ.lt, ?_, ?_, by simpa using hZ.z0, by simpa using hZ.z1⟩, t1.set q, hX, own_mono (own_setT (own_setT hO hZ.ty (by decide) p) t1 (by decide) q) hb, tRow_mono ((hR.setT hZ.ty p).setT t1 q) hb, (hB.setCell hX _).setCell hX _⟩
  · rw [World.cell?_setCell_other _ _ _ _ (by simp)]
    exact World.cell?_setCell_same' _ _ _ (by rw [hZ.c0]; rfl)
  · exact World.cell?_setCell_same' _ _ _ (by rw [World.cell?_setCell_other _ _ _ _ (by simp), hZ.c1]; rfl)

/-- A target put into a row of targets whose list is new. -/
theorem tRow_ins {w : World} {base : Nat} {v : Value} {A B : List TR} {x : TR} (ha : ∀ r ∈ A ++ B, RowIns w r.2.1 0 r.1.actN r.1.act ∧ (∃ F, Cells w r.2.1 0 (r.1.actN * 3) F) ∧ TypeAt w r.2.1 114 ∧ base ≤ r.2.1) (hu : (A ++ B).Pairwise fun a b => a.2.1 ≠ b.2.1) (hx : RowIns w x.2.1 0 x.1.actN x.1.act ∧ (∃ F, Cells w x.2.1 0 (x.1.actN * 3) F) ∧ TypeAt w x.2.1 114 ∧ base ≤ x.2.1)
    (hne : ∀ r ∈ A ++ B, r.2.1 ≠ x.2.1) (hown : w.ownsRow base 78 2 v (A ++ x :: B).length ((A ++ x :: B).flatMap tgtV)) : TRow w base v (A ++ x :: B) := by
  refine ⟨hown, fun r hr => ?_, ?_⟩
  · rcases List.mem_append.1 hr with hr | hr
    · exact ha r (List.mem_append.2 (.inl hr))
    · rcases List.mem_cons.1 hr with rfl | hr
      · exact hx
      · exact ha r (List.mem_append.2 (.inr hr))
  · have hu := List.pairwise_append.1 hu
    refine List.pairwise_append.2 ⟨hu.1, List.pairwise_cons.2 ⟨fun b hb e => hne b (List.mem_append.2 (.inr hb)) e.symm, hu.2.1⟩, fun a ha b hb => ?_⟩
    rcases List.mem_cons.1 hb with rfl | hb
    · exact hne a (List.mem_append.2 (.inl ha))
    · exact hu.2.2 a ha b hb
/-- Behind copyProgram, the new target's box, slices.Insert and the store. -/
theorem room_ins {W w3 wC wI : World} {X i m g c tc : Nat} {ta : Option Addr} {p v' : Value} {L : List Source} {R : List TR} {t : ByteArray} {fp : Nat → Ins} (RB : RoomBox W w3 X p (.slice ta R.length tc) L R) (hi : i ≤ R.length) (hBC : Below w3.heap.size w3 wC) (hOC : wC.ownsRow w3.heap.size 114 3 (.slice (some ⟨g, 0, none⟩) m c) m (insL fp m))
    (hI : wI.ownsRow W.heap.size 78 2 v' (R.length + 1) ((R.flatMap tgtV).take (i * 2) ++ [.string t, .slice (some ⟨g, 0, none⟩) m c] ++ (R.flatMap tgtV).drop (i * 2)))
    (hg : (wC.alloc (.cells #[.string t, .slice (some ⟨g, 0, none⟩) m c] 78)).grownBy wI (Value.slice ta R.length tc).ownBlock) :
    RoomBox W (wI.setCell ⟨X, 1, none⟩ v') X p v' L (R.take i ++ (⟨t, m, fp⟩, g, c) :: R.drop i) := by
  have D4 : Below w3.heap.size w3 (wC.alloc (.cells #[.string t, .slice (some ⟨g, 0, none⟩) m c] 78)) := hBC.alloc hBC.size _
  have OC4 := hOC.alloc (.cells #[.string t, .slice (some ⟨g, 0, none⟩) m c] 78)
  generalize wC.alloc (.cells #[.string t, .slice (some ⟨g, 0, none⟩) m c] 78) = w4 at D4 OC4 hg
  have T4 := RB.tgt.below D4 (Nat.le_refl _)
  have S4 := own_below RB.src D4 (Nat.le_refl _)
  have Y4 : TypeAt w4 X 42 := RB.ty.block (D4.block X RB.two.lt)
  have hX4 : X < w4.heap.size := Nat.lt_of_lt_of_le RB.two.lt D4.size
  have rows : ∀ k, (Value.slice ta R.length tc).ownBlock = some k → TypeAt w4 k 78 := own_ty T4.own
  have keep : ∀ k e, TypeAt w4 k e → e ≠ 78 → k < w4.heap.size → wI.heap[k]? = w4.heap[k]? := fun k e hk hne hlt => hg.block k hlt (fun e1 => ty_ne hk (rows k e1.symm) hne rfl)
  have hXb := keep X _ Y4 (by decide) hX4
  have YI : TypeAt wI X 42 := Y4.block hXb
  have hX3 : wI.heap[X]? = w3.heap[X]? := hXb.trans (D4.block X RB.two.lt)
  have SI : wI.ownsRow W.heap.size 76 2 p L.length (L.flatMap srcV) := S4.kept hg (own_apart S4 T4.own (by decide))
  have act : ∀ r : TR, RowIns w4 r.2.1 0 r.1.actN r.1.act ∧ (∃ F, Cells w4 r.2.1 0 (r.1.actN * 3) F) ∧ TypeAt w4 r.2.1 114 ∧ W.heap.size ≤ r.2.1 → RowIns wI r.2.1 0 r.1.actN r.1.act ∧ (∃ F, Cells wI r.2.1 0 (r.1.actN * 3) F) ∧ TypeAt wI r.2.1 114 ∧ W.heap.size ≤ r.2.1 := by
    rintro r ⟨h1, ⟨F, h2⟩, h3, h4⟩
    have e := keep r.2.1 _ h3 (by decide) h1.1
    exact ⟨h1.block hg.size e, ⟨F, h2.block hg.size e⟩, h3.block e, h4⟩
  have hW3 : W.heap.size ≤ w3.heap.size := RB.below.size
  have hgl := (own_lt hOC).1
  have eR : R.take i ++ R.drop i = R := List.take_append_drop i R
  have TI : TRow wI W.heap.size v' (R.take i ++ ((⟨t, m, fp⟩, g, c) : TR) :: R.drop i) := by
    refine tRow_ins ?_ ?_ ?_ ?_ ?_
    · rw [eR]
      exact fun r hr => act r (T4.act r hr)
    · rw [eR]
      exact T4.up
    · exact act (⟨t, m, fp⟩, g, c) (own_act (x := ⟨t, m, fp⟩) (own_mono OC4 hW3))
    · rw [eR]
      intro r hr
      have := (RB.tgt.act r hr).1.1
      show r.2.1 ≠ g
      omega
    · have e1 : (R.take i ++ ((⟨t, m, fp⟩, g, c) : TR) :: R.drop i).length = R.length + 1 := by simp; omega
      have e2 : (R.take i ++ ((⟨t, m, fp⟩, g, c) : TR) :: R.drop i).flatMap tgtV = (R.flatMap tgtV).take (i * 2) ++ [.string t, .slice (some ⟨g, 0, none⟩) m c] ++ (R.flatMap tgtV).drop (i * 2) := by rw [(take_flatT R i).1, (take_flatT R i).2]; simp [tgtV]
      rw [e1, e2]
      exact hI
  refine ⟨⟨?_, ?_, ?_, ?_, ?_⟩, YI.set v', RB.ge, own_setT SI YI (by decide) v', TI.setT YI v', ?_⟩
  · simpa using Nat.lt_of_lt_of_le hX4 hg.size
  · rw [World.cell?_setCell_other _ _ _ _ (by simp)]
    exact (World.cell?_of_block (a := ⟨X, 0, none⟩) hX3).trans RB.two.c0
  · exact World.cell?_setCell_same' _ _ _ (by rw [(World.cell?_of_block (a := ⟨X, 1, none⟩) hX3).trans RB.two.c1]; rfl)
  · simpa using (World.frozen?_of_block (a := ⟨X, 0, none⟩) hX3).trans RB.two.z0
  · simpa using (World.frozen?_of_block (a := ⟨X, 1, none⟩) hX3).trans RB.two.z1
  · exact (Below.grown (RB.below.trans (D4.mono hW3)) hg (Nat.le_trans hW3 D4.size) (fun j e => (T4.own.lt j e).1)).setCell RB.ge _
theorem insT_at {K : List Target} {R : List TR} {t : ByteArray} {x : TR} {i : Nat} (hK : R.map (fun r : TR => r.1) = K) (hi : i ≤ R.length) (h1 : ∀ m, m < i → tless (nm1 (tgtF K) m) t = true) (h2 : ∀ m, i ≤ m → m < R.length → tless (nm1 (tgtF K) m) t = false) (h3 : ∀ m, m < K.length → ((nm1 (tgtF K) m).toList == t.toList) = false) : (R.take i ++ x :: R.drop i).map (fun r : TR => r.1) = insT K x.1 t := by
  have hl : K.length = R.length := by rw [← hK]; simp
  unfold insT
  rw [finG_at (i := i) (by omega) h1 (fun m a b => h2 m a (by omega)) h3, ← hK]
  simp

theorem RoomBox.on {W wx wy : World} {X : Nat} {p q : Value} {L : List Source} {R : List TR} (h : RoomBox W wx X p q L R) (hb : Below wx.heap.size wx wy) : RoomBox W wy X p q L R := by
  have e := hb.block X h.two.lt
  exact ⟨⟨Nat.lt_of_lt_of_le h.two.lt hb.size, (World.cell?_of_block (a := ⟨X, 0, none⟩) e).trans h.two.c0, (World.cell?_of_block (a := ⟨X, 1, none⟩) e).trans h.two.c1, (World.frozen?_of_block (a := ⟨X, 0, none⟩) e).trans h.two.z0, (World.frozen?_of_block (a := ⟨X, 1, none⟩) e).trans h.two.z1⟩, h.ty.block e, h.ge, own_below h.src hb (Nat.le_refl _), h.tgt.below hb (Nat.le_refl _), h.below.trans (hb.mono h.below.size)⟩
theorem room_same {W w3 w4 wI : World} {X tc : Nat} {ta : Option Addr} {p : Value} {L : List Source} {R : List TR} (RB : RoomBox W w3 X p (.slice ta R.length tc) L R) (D4 : Below w3.heap.size w3 w4) (hg : w4.grownBy wI (Value.slice ta R.length tc).ownBlock) : wI.heap[X]? = w3.heap[X]? := by
  have Y4 : TypeAt w4 X 42 := RB.ty.block (D4.block X RB.two.lt)
  exact (hg.block X (Nat.lt_of_lt_of_le RB.two.lt D4.size) (fun e1 => ty_ne Y4 (own_ty (RB.tgt.below D4 (Nat.le_refl _)).own X e1.symm) (by decide) rfl)).trans (D4.block X RB.two.lt)

end Go.Proofs.YtpbpbjcnbhejgaaDoor.Vp
