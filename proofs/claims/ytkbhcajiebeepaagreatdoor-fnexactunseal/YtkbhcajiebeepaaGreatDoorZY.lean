/-
  Put together of: RaRow, RaRd, RaRdS.
-/
import Derived.Test.YtkbhcajiebeepaaGreatDoorZT
import Derived.Test.YtkbhcajiebeepaaGreatDoorZX
import Derived.Test.YtkbhcajiebeepaaGreatDoorZC
import Derived.Maps.AppendAt
import Derived.Test.YtkbhcajiebeepaaGreatDoorZB

/-
  ReadAccount: the last deed of a row grows.
-/
namespace Go.Proofs.YtkbhcajiebeepaaGreatDoor.Vp
open Go.RowKit Go.Proofs.YtkbhcajiebeepaaGreatDoor.Ca

theorem own_setAt {w : World} {base size n g cap j : Nat} {e : TypeId} {xs : List Value} (h : w.ownsRow base e size (.slice (some ⟨g, 0, none⟩) n cap) n xs) (u : Value) : (w.setCell ⟨g, j, none⟩ u).ownsRow base e size (.slice (some ⟨g, 0, none⟩) n cap) n (xs.set j u) := by
  refine ⟨by rw [List.length_set]; exact h.1, ?_⟩
  rcases h.2 with ⟨hv, h0⟩ | ⟨g', cap', cur, hv, hb, hg, h1, h2, h3, h4⟩
  · simp at hv
  · simp only [Value.slice.injEq, Option.some.injEq, Addr.mk.injEq] at hv
    obtain ⟨⟨rfl, -⟩, -, rfl⟩ := hv
    refine .inr ⟨g, cap, cur.setIfInBounds j u, rfl, hb, ?_, h1, h2, by simpa using h3, ?_⟩
    · simp [World.setCell, Array.getElem?_modify, hg]
    · rw [Array.toList_setIfInBounds, List.take_set, h4]
theorem own_setOff {w : World} {base size n b : Nat} {e e' : TypeId} {v : Value} {xs : List Value} (h : w.ownsRow base e size v n xs) (hb : OfTy w b e') (hne : e' ≠ e) (j : Nat) (u : Value) : (w.setCell ⟨b, j, none⟩ u).ownsRow base e size v n xs :=
  cu_blk h fun k _ ht => Below.heap_setCell _ _ _ _ fun q => hb.ne (Ne.symm hne) ((show k = b from q) ▸ ht)
theorem insL_doA (d : Deed) (x : Ins) : insL (d.doA x).act (d.doA x).actN = insL d.act d.actN ++ insV x := by
  show ((List.range (d.actN + 1)).map _).flatMap insV = _
  rw [List.range_succ, List.map_append, List.flatMap_append]
  congr 1
  · unfold insL
    congr 1
    refine List.map_congr_left fun i hi => ?_
    have := List.mem_range.1 hi
    show (if i = d.actN then x else d.act i) = d.act i
    rw [if_neg (by omega)]
  · simp [Deed.doA]
theorem lnkL_lkA (d : Deed) (x : Link) : lnkL (d.lkA x).links (d.lkA x).linksN = lnkL d.links d.linksN ++ lnkV x := by
  show ((List.range (d.linksN + 1)).map _).flatMap lnkV = _
  rw [List.range_succ, List.map_append, List.flatMap_append]
  congr 1
  · unfold lnkL
    congr 1
    refine List.map_congr_left fun i hi => ?_
    have := List.mem_range.1 hi
    show (if i = d.linksN then x else d.links i) = d.links i
    rw [if_neg (by omega)]
  · simp [Deed.lkA]
theorem dd_last (R : List DR) (r r' : DR) (j : Nat) (u : Value) (hj : j < 6) (e : ddV r' = (ddV r).set j u) : (R ++ [r']).flatMap ddV = ((R ++ [r]).flatMap ddV).set (R.length * 6 + j) u := by
  have hl : (R.flatMap ddV).length = R.length * 6 := flat_len ddV 6 (fun _ => rfl) R
  rw [List.flatMap_append, List.flatMap_append, List.set_append_right _ _ (by omega), hl, Nat.add_sub_cancel_left]
  simp [e]
theorem pair_last {R : List DR} {r r' : DR} (h : (R ++ [r]).Pairwise fun a b => Apt a.2.1 b.2.1 ∧ Apt a.2.2 b.2.2) (k : ∀ a ∈ R, Apt a.2.1 r.2.1 ∧ Apt a.2.2 r.2.2 → Apt a.2.1 r'.2.1 ∧ Apt a.2.2 r'.2.2) : (R ++ [r']).Pairwise fun a b => Apt a.2.1 b.2.1 ∧ Apt a.2.2 b.2.2 := by
  rw [List.pairwise_append] at h ⊢
  refine ⟨h.1, List.pairwise_singleton _ _, fun a ha b hb => ?_⟩
  rw [List.mem_singleton.1 hb]
  exact k a ha (h.2.2 a ha r (by simp))
theorem apt_new {w : World} {base size n : Nat} {e : TypeId} {a v v' : Value} {xs : List Value} (h : w.ownsRow base e size a n xs) (hA : Apt a v) (hat : v'.ownBlock = v.ownBlock ∨ v'.ownBlock = some w.heap.size) : Apt a v' := by
  rcases hA with h0 | h0
  · exact .inl h0
  · rcases hat with h1 | h1
    · exact .inr (by rw [h1]; exact h0)
    · refine .inr fun e => ?_
      have := (h.lt w.heap.size (e.trans h1)).2
      omega
/-- An instruction more in the last deed. -/
theorem DRow.moreA {w w2 : World} {base g c : Nat} {R : List DR} {r : DR} {x : Ins} {v' : Value} (h : DRow w base (.slice (some ⟨g, 0, none⟩) (R.length + 1) c) (R ++ [r])) (hown : w2.ownsRow base 54 3 v' (r.1.actN + 1) (insL r.1.act r.1.actN ++ insV x)) (hG : w.grownBy w2 r.2.1.ownBlock) (hat : v'.ownBlock = r.2.1.ownBlock ∨ v'.ownBlock = some w.heap.size) :
    DRow (w2.setCell ⟨g, R.length * 6 + 4, none⟩ v') base (.slice (some ⟨g, 0, none⟩) (R.length + 1) c) (R ++ [(r.1.doA x, v', r.2.2)]) := by
  have hl : (R ++ [r]).length = R.length + 1 := by simp
  have ho := h.own
  rw [hl] at ho
  have tg : OfTy w g 51 := cu_ty ho g rfl
  have hr := h.sub r (by simp)
  have keep : ∀ k, k < w.heap.size → ¬ r.2.1.ownBlock = some k → w2.heap[k]? = w.heap[k]? := fun k hk hn => hG.block k hk (fun e => hn e.symm)
  have kty : ∀ k e, OfTy w k e → e ≠ 54 → w2.heap[k]? = w.heap[k]? := fun k e ht hne => keep k (by obtain ⟨c', z, hk⟩ := ht; exact (Array.getElem?_eq_some_iff.1 hk).1) fun q => ht.ne (Ne.symm hne) (cu_ty hr.act k q)
  have tg2 : OfTy w2 g 51 := tg.eq (kty g _ tg (by decide))
  have ho2 : w2.ownsRow base 51 6 (.slice (some ⟨g, 0, none⟩) (R.length + 1) c) (R.length + 1) ((R ++ [r]).flatMap ddV) := cu_blk ho fun k _ ht => kty k _ ht (by decide)
  refine ⟨?_, fun a ha => ?_, pair_last h.up fun a ha hA => ⟨apt_new (h.sub a (by simp [ha])).act hA.1 hat, hA.2⟩⟩
  · rw [show (R ++ [(r.1.doA x, v', r.2.2)]).length = R.length + 1 by simp, dd_last R r (r.1.doA x, v', r.2.2) 4 v' (by omega) rfl]
    exact own_setAt ho2 v'
  · rcases List.mem_append.1 ha with ha | ha
    · have hs := h.sub a (by simp [ha])
      have hA := (List.pairwise_append.1 h.up).2.2 a ha r (by simp)
      refine ⟨own_setOff (cu_blk hs.act fun k hk ht => keep k (hs.act.lt k hk).2 fun q => ?_) tg2 (by decide) _ _, own_setOff (cu_blk hs.lnk fun k _ ht => kty k _ ht (by decide)) tg2 (by decide) _ _⟩
      rcases hA.1 with h0 | h0
      · rw [h0] at hk; cases hk
      · exact h0 (hk.trans q.symm)
    · rw [List.mem_singleton.1 ha]
      refine ⟨own_setOff (v := v') (n := r.1.actN + 1) ?_ tg2 (by decide) _ _, own_setOff (v := r.2.2) (n := r.1.linksN) (cu_blk hr.lnk fun k _ ht => kty k _ ht (by decide)) tg2 (by decide) _ _⟩
      show w2.ownsRow base 54 3 v' (r.1.actN + 1) (insL (r.1.doA x).act (r.1.doA x).actN)
      rw [insL_doA]
      exact hown
/-- A link more in the last deed. -/
theorem DRow.moreL {w w2 : World} {base g c : Nat} {R : List DR} {r : DR} {x : Link} {v' : Value} (h : DRow w base (.slice (some ⟨g, 0, none⟩) (R.length + 1) c) (R ++ [r])) (hown : w2.ownsRow base 58 4 v' (r.1.linksN + 1) (lnkL r.1.links r.1.linksN ++ lnkV x)) (hG : w.grownBy w2 r.2.2.ownBlock) (hat : v'.ownBlock = r.2.2.ownBlock ∨ v'.ownBlock = some w.heap.size) :
    DRow (w2.setCell ⟨g, R.length * 6 + 5, none⟩ v') base (.slice (some ⟨g, 0, none⟩) (R.length + 1) c) (R ++ [(r.1.lkA x, r.2.1, v')]) := by
  have hl : (R ++ [r]).length = R.length + 1 := by simp
  have ho := h.own
  rw [hl] at ho
  have tg : OfTy w g 51 := cu_ty ho g rfl
  have hr := h.sub r (by simp)
  have keep : ∀ k, k < w.heap.size → ¬ r.2.2.ownBlock = some k → w2.heap[k]? = w.heap[k]? := fun k hk hn => hG.block k hk (fun e => hn e.symm)
  have kty : ∀ k e, OfTy w k e → e ≠ 58 → w2.heap[k]? = w.heap[k]? := fun k e ht hne => keep k (by obtain ⟨c', z, hk⟩ := ht; exact (Array.getElem?_eq_some_iff.1 hk).1) fun q => ht.ne (Ne.symm hne) (cu_ty hr.lnk k q)
  have tg2 : OfTy w2 g 51 := tg.eq (kty g _ tg (by decide))
  have ho2 : w2.ownsRow base 51 6 (.slice (some ⟨g, 0, none⟩) (R.length + 1) c) (R.length + 1) ((R ++ [r]).flatMap ddV) := cu_blk ho fun k _ ht => kty k _ ht (by decide)
  refine ⟨?_, fun a ha => ?_, pair_last h.up fun a ha hA => ⟨hA.1, apt_new (h.sub a (by simp [ha])).lnk hA.2 hat⟩⟩
  · rw [show (R ++ [(r.1.lkA x, r.2.1, v')]).length = R.length + 1 by simp, dd_last R r (r.1.lkA x, r.2.1, v') 5 v' (by omega) rfl]
    exact own_setAt ho2 v'
  · rcases List.mem_append.1 ha with ha | ha
    · have hs := h.sub a (by simp [ha])
      have hA := (List.pairwise_append.1 h.up).2.2 a ha r (by simp)
      refine ⟨own_setOff (cu_blk hs.act fun k _ ht => kty k _ ht (by decide)) tg2 (by decide) _ _, own_setOff (cu_blk hs.lnk fun k hk ht => keep k (hs.lnk.lt k hk).2 fun q => ?_) tg2 (by decide) _ _⟩
      rcases hA.2 with h0 | h0
      · rw [h0] at hk; cases hk
      · exact h0 (hk.trans q.symm)
    · rw [List.mem_singleton.1 ha]
      refine ⟨own_setOff (v := r.2.1) (n := r.1.actN) (cu_blk hr.act fun k _ ht => kty k _ ht (by decide)) tg2 (by decide) _ _, own_setOff (v := v') (n := r.1.linksN + 1) ?_ tg2 (by decide) _ _⟩
      show w2.ownsRow base 58 4 v' (r.1.linksN + 1) (lnkL (r.1.lkA x).links (r.1.lkA x).linksN)
      rw [lnkL_lkA]
      exact hown

end Go.Proofs.YtkbhcajiebeepaaGreatDoor.Vp

/-
  ReadAccount: the reader: a box with a row of deeds.
-/
namespace Go.Proofs.YtkbhcajiebeepaaGreatDoor.Vp
open Go.RowKit Go.Proofs.YtkbhcajiebeepaaGreatDoor.Ca

/-- Of one of the three types of a row's blocks. -/
def Of3 (w : World) (k : Nat) : Prop := OfTy w k 54 ∨ OfTy w k 58 ∨ OfTy w k 51
theorem Of3.of_eq {w w' : World} {k : Nat} (h : Of3 w' k) (hb : w'.heap[k]? = w.heap[k]?) : Of3 w k := h.imp (fun h => h.of_eq hb) (fun h => h.imp (fun h => h.of_eq hb) (fun h => h.of_eq hb))
/-- What the reader's methods may change: its box b, rows from base on. -/
structure KR (b base : Nat) (w w' : World) : Prop where
  os : w'.os = w.os
  tape : w'.tape = w.tape
  output : w'.output = w.output
  size : w.heap.size ≤ w'.heap.size
  keep : ∀ k, k < w.heap.size → k ≠ b → (k < base ∨ ¬ Of3 w k) → w'.heap[k]? = w.heap[k]?
theorem KR.refl (b base : Nat) (w : World) : KR b base w w := ⟨rfl, rfl, rfl, Nat.le_refl _, fun _ _ _ _ => rfl⟩
theorem KR.trans {b base : Nat} {u v w : World} (h : KR b base u v) (k : KR b base v w) : KR b base u w :=
  ⟨k.os.trans h.os, k.tape.trans h.tape, k.output.trans h.output, Nat.le_trans h.size k.size, fun i hi hb hp => by
    have e := h.keep i hi hb hp
    exact (k.keep i (Nat.lt_of_lt_of_le hi h.size) hb (hp.imp id fun hn ht => hn (ht.of_eq e))).trans e⟩
theorem KR.of_below {b base B : Nat} {w w' : World} (h : Below B w w') (hB : w.heap.size ≤ B) : KR b base w w' := ⟨h.os, h.tape, h.output, h.size, fun k hk _ _ => h.block k (by omega)⟩
theorem KR.of_grown {b base : Nat} {w w' : World} {row : Option Nat} (h : w.grownBy w' row) (hr : ∀ k, row = some k → base ≤ k ∧ Of3 w k) : KR b base w w' :=
  ⟨h.os, h.tape, h.output, h.size, fun k hk _ hp => h.block k hk (fun e => by
    obtain ⟨h1, h2⟩ := hr k e.symm
    rcases hp with hp | hp
    · omega
    · exact hp h2)⟩
theorem KR.box {b base : Nat} (w : World) (j : Nat) (v : Value) : KR b base w (w.setCell ⟨b, j, none⟩ v) :=
  ⟨rfl, rfl, rfl, by simp [World.setCell], fun k _ hb _ => Below.heap_setCell _ _ _ _ hb⟩
theorem KR.cell {b base g : Nat} (w : World) (hg : base ≤ g) (ht : Of3 w g) (j : Nat) (v : Value) : KR b base w (w.setCell ⟨g, j, none⟩ v) :=
  ⟨rfl, rfl, rfl, by simp [World.setCell], fun k _ _ hp => Below.heap_setCell _ _ _ _ (fun e => by
    have e : k = g := e
    subst e
    rcases hp with hp | hp
    · omega
    · exact hp ht)⟩
theorem KR.below {b base n : Nat} {w w' : World} (h : KR b base w w') (hb : n ≤ b) (hn : n ≤ base) (hz : n ≤ w.heap.size) : Below n w w' := ⟨h.os, h.tape, h.output, h.size, fun k hk => h.keep k (by omega) (by omega) (.inl (by omega))⟩
theorem KR.bdx {b base bx : Nat} {w w' : World} (h : KR b base w w') (hx : bx ≠ b) (hl : bx < w.heap.size) (ht : OfTy w bx 9) (hb : IsCells w b) : Bdx bx w w' :=
  ⟨h.size, h.keep bx hl hx (.inr fun h3 => by
    rcases h3 with h3 | h3 | h3
    · exact ht.ne (by decide) h3
    · exact ht.ne (by decide) h3
    · exact ht.ne (by decide) h3), fun k hk hc => h.keep k hk (fun e => hc (e ▸ hb)) (.inr fun h3 => hc (by
    rcases h3 with ⟨c, z, h3⟩ | ⟨c, z, h3⟩ | ⟨c, z, h3⟩ <;> exact ⟨_, _, _, h3⟩))⟩

/-- The reader's box. -/
def RdB (w : World) (b : Nat) (v : Value) : Prop := w.heap[b]? = some (.cells #[v] 64 (0, 0))
theorem RdB.lt {w : World} {b : Nat} {v : Value} (h : RdB w b v) : b < w.heap.size := (Array.getElem?_eq_some_iff.1 h).1
theorem RdB.c0 {w : World} {b : Nat} {v : Value} (h : RdB w b v) : w.cell? ⟨b, 0, none⟩ = some v := by rw [Lib.cell_of_heap h]; rfl
theorem RdB.fz {w : World} {b : Nat} {v : Value} (h : RdB w b v) : w.frozen? ⟨b, 0, none⟩ = false := Lib.frozen_of_heap h 0
theorem RdB.set {w : World} {b : Nat} {v : Value} (h : RdB w b v) (v' : Value) : RdB (w.setCell ⟨b, 0, none⟩ v') b v' := by
  unfold RdB at *
  simp [World.setCell, Array.getElem?_modify, h]
theorem RdB.not3 {w : World} {b : Nat} {v : Value} (h : RdB w b v) : ¬ Of3 w b := fun h3 => by
  have ht : OfTy w b 64 := ⟨_, _, h⟩
  rcases h3 with h3 | h3 | h3
  · exact ht.ne (by decide) h3
  · exact ht.ne (by decide) h3
  · exact ht.ne (by decide) h3
structure RSt (w : World) (b base : Nat) (v : Value) (R : List DR) : Prop where
  box : RdB w b v
  row : DRow w base v R
  lt : b < base
  le : base ≤ w.heap.size
theorem RSt.below {w w' : World} {b base : Nat} {v : Value} {R : List DR} (h : RSt w b base v R) (hb : Below w.heap.size w w') : RSt w' b base v R :=
  ⟨(hb.block b h.box.lt).trans h.box, h.row.below hb (Nat.le_refl _), h.lt, Nat.le_trans h.le hb.size⟩
theorem six_at (w : World) (a b c d e f : Value) (t : TypeId) : ∀ j u, [a, b, c, d, e, f][j]? = some u → (w.alloc (.cells #[a, b, c, d, e, f] t)).cell? ((⟨w.heap.size, 0, none⟩ : Addr).add j) = some u := by
  intro j u hj
  rw [addr_add, Nat.zero_add]
  exact box1 w _ t w.heap.size j u rfl (by simpa using hj)
/-- A deed more. -/
theorem RSt.deed {w w1 w2 : World} {b base : Nat} {v v' : Value} {R : List DR} {name text : ByteArray} {kind code : Int} {cs : Array Value} {ty : TypeId} (h : RSt w b base v R) (hB : Below w.heap.size w w1)
    (hown : w2.ownsRow base 51 6 v' (R.length + 1) (R.flatMap ddV ++ [.string name, .int .i64 kind, .int .i64 code, .string text, .slice none 0 0, .slice none 0 0])) (hG : (w1.alloc (.cells cs ty)).grownBy w2 v.ownBlock) :
    RSt (w2.setCell ⟨b, 0, none⟩ v') b base v' (R ++ [(newDeed name kind code text, .slice none 0 0, .slice none 0 0)]) ∧ KR b base w (w2.setCell ⟨b, 0, none⟩ v') ∧ RdB w2 b v := by
  have hA := hB.alloc hB.size (.cells cs ty)
  have h1 := h.below hA
  have hS : DSub (w1.alloc (.cells cs ty)) w.heap.size (newDeed name kind code text, .slice none 0 0, .slice none 0 0) := ⟨World.ownsRow_nil _ _ _ _, World.ownsRow_nil _ _ _ _⟩
  have hD : DRow w2 base v' (R ++ [(newDeed name kind code text, .slice none 0 0, .slice none 0 0)]) := DRow.more h.row h1.row h.le hS hown hG
  have hne : some b ≠ v.ownBlock := fun e => by
    have := (h.row.own.lt b e.symm).1
    have := h.lt
    omega
  have hb2 : RdB w2 b v := (hG.block b h1.box.lt hne).trans h1.box
  have hz : w.heap.size ≤ w2.heap.size := Nat.le_trans hA.size hG.size
  refine ⟨⟨hb2.set v', hD.set (e := 0) (.inl h.lt) v', h.lt, by have := h.le; simp; omega⟩, ?_, hb2⟩
  refine ((KR.of_below hA (Nat.le_refl _)).trans (KR.of_grown hG fun k hk => ?_)).trans (KR.box w2 0 v')
  exact ⟨(h.row.own.lt k hk).1, .inr (.inr (cu_ty h1.row.own k hk))⟩
/-- An instruction more in the last deed. -/
theorem RSt.moreA {w w1 w2 : World} {b base g c : Nat} {R : List DR} {r : DR} {x : Ins} {v' : Value} {cs : Array Value} {ty : TypeId} (h : RSt w b base (.slice (some ⟨g, 0, none⟩) (R.length + 1) c) (R ++ [r])) (hB : Below w.heap.size w w1)
    (hown : w2.ownsRow base 54 3 v' (r.1.actN + 1) (insL r.1.act r.1.actN ++ insV x)) (hG : (w1.alloc (.cells cs ty)).grownBy w2 r.2.1.ownBlock) (hat : v'.ownBlock = r.2.1.ownBlock ∨ v'.ownBlock = some (w1.alloc (.cells cs ty)).heap.size) :
    RSt (w2.setCell ⟨g, R.length * 6 + 4, none⟩ v') b base (.slice (some ⟨g, 0, none⟩) (R.length + 1) c) (R ++ [(r.1.doA x, v', r.2.2)]) ∧ KR b base w (w2.setCell ⟨g, R.length * 6 + 4, none⟩ v') ∧ w2.cell? ⟨g, R.length * 6 + 4, none⟩ = some r.2.1 ∧ w2.frozen? ⟨g, R.length * 6 + 4, none⟩ = false ∧ g < w2.heap.size := by
  have hA := hB.alloc hB.size (.cells cs ty)
  have h1 := h.below hA
  have hl : (R ++ [r]).length = R.length + 1 := by simp
  have ho := h1.row.own
  rw [hl] at ho
  have tg := cu_ty ho g rfl
  have hr := h1.row.sub r (by simp)
  have hgl := (ho.lt g rfl)
  have hD := DRow.moreA (x := x) h1.row hown hG hat
  have hne : some b ≠ r.2.1.ownBlock := fun e => by
    have := (hr.act.lt b e.symm).1
    have := h.lt
    omega
  have hgn : some g ≠ r.2.1.ownBlock := fun e => tg.ne (by decide) (cu_ty hr.act g e.symm)
  have hb2 : RdB w2 b (.slice (some ⟨g, 0, none⟩) (R.length + 1) c) := (hG.block b h1.box.lt hne).trans h1.box
  have eg : w2.heap[g]? = (w1.alloc (.cells cs ty)).heap[g]? := hG.block g hgl.2 hgn
  have hz : w.heap.size ≤ w2.heap.size := Nat.le_trans hA.size hG.size
  have hbg : b ≠ g := by have := h.lt; omega
  have cell := drow_cell (by rw [hl]; exact ho) (i := R.length) (r := r) (by simp) 4 (by omega) (u := r.2.1) rfl
  have tg2 : OfTy w2 g 51 := tg.eq eg
  refine ⟨⟨?_, hD, h.lt, by have := h.le; simp; omega⟩, ?_, (World.cell?_of_block (a := ⟨g, _, none⟩) eg).trans cell.1, (World.frozen?_of_block (a := ⟨g, _, none⟩) eg).trans cell.2, Nat.lt_of_lt_of_le hgl.2 hG.size⟩
  · exact (Below.heap_setCell _ _ _ _ hbg).trans hb2
  · refine ((KR.of_below hA (Nat.le_refl _)).trans (KR.of_grown hG fun k hk => ?_)).trans (KR.cell w2 hgl.1 (.inr (.inr tg2)) _ _)
    exact ⟨(hr.act.lt k hk).1, .inl (cu_ty hr.act k hk)⟩
/-- A link more in the last deed. -/
theorem RSt.moreL {w w1 w2 : World} {b base g c : Nat} {R : List DR} {r : DR} {x : Link} {v' : Value} {cs : Array Value} {ty : TypeId} (h : RSt w b base (.slice (some ⟨g, 0, none⟩) (R.length + 1) c) (R ++ [r])) (hB : Below w.heap.size w w1)
    (hown : w2.ownsRow base 58 4 v' (r.1.linksN + 1) (lnkL r.1.links r.1.linksN ++ lnkV x)) (hG : (w1.alloc (.cells cs ty)).grownBy w2 r.2.2.ownBlock) (hat : v'.ownBlock = r.2.2.ownBlock ∨ v'.ownBlock = some (w1.alloc (.cells cs ty)).heap.size) :
    RSt (w2.setCell ⟨g, R.length * 6 + 5, none⟩ v') b base (.slice (some ⟨g, 0, none⟩) (R.length + 1) c) (R ++ [(r.1.lkA x, r.2.1, v')]) ∧ KR b base w (w2.setCell ⟨g, R.length * 6 + 5, none⟩ v') ∧ w2.cell? ⟨g, R.length * 6 + 5, none⟩ = some r.2.2 ∧ w2.frozen? ⟨g, R.length * 6 + 5, none⟩ = false ∧ g < w2.heap.size := by
  have hA := hB.alloc hB.size (.cells cs ty)
  have h1 := h.below hA
  have hl : (R ++ [r]).length = R.length + 1 := by simp
  have ho := h1.row.own
  rw [hl] at ho
  have tg := cu_ty ho g rfl
  have hr := h1.row.sub r (by simp)
  have hgl := (ho.lt g rfl)
  have hD := DRow.moreL (x := x) h1.row hown hG hat
  have hne : some b ≠ r.2.2.ownBlock := fun e => by
    have := (hr.lnk.lt b e.symm).1
    have := h.lt
    omega
  have hgn : some g ≠ r.2.2.ownBlock := fun e => tg.ne (by decide) (cu_ty hr.lnk g e.symm)
  have hb2 : RdB w2 b (.slice (some ⟨g, 0, none⟩) (R.length + 1) c) := (hG.block b h1.box.lt hne).trans h1.box
  have eg : w2.heap[g]? = (w1.alloc (.cells cs ty)).heap[g]? := hG.block g hgl.2 hgn
  have hz : w.heap.size ≤ w2.heap.size := Nat.le_trans hA.size hG.size
  have hbg : b ≠ g := by have := h.lt; omega
  have cell := drow_cell (by rw [hl]; exact ho) (i := R.length) (r := r) (by simp) 5 (by omega) (u := r.2.2) rfl
  have tg2 : OfTy w2 g 51 := tg.eq eg
  refine ⟨⟨?_, hD, h.lt, by have := h.le; simp; omega⟩, ?_, (World.cell?_of_block (a := ⟨g, _, none⟩) eg).trans cell.1, (World.frozen?_of_block (a := ⟨g, _, none⟩) eg).trans cell.2, Nat.lt_of_lt_of_le hgl.2 hG.size⟩
  · exact (Below.heap_setCell _ _ _ _ hbg).trans hb2
  · refine ((KR.of_below hA (Nat.le_refl _)).trans (KR.of_grown hG fun k hk => ?_)).trans (KR.cell w2 hgl.1 (.inr (.inr tg2)) _ _)
    exact ⟨(hr.lnk.lt k hk).1, .inr (.inl (cu_ty hr.lnk k hk))⟩

end Go.Proofs.YtkbhcajiebeepaaGreatDoor.Vp

/-
  ReadAccount, spec: the account: a box with a row of deeds. As RaRd.
-/
namespace Go.Proofs.YtkbhcajiebeepaaGreatDoor.Vp
open Go.RowKit Go.Proofs.YtkbhcajiebeepaaGreatDoor.Ca

/-- The account's box. -/
def AcB (w : World) (b : Nat) (v : Value) : Prop := w.heap[b]? = some (.cells #[v] 24 (0, 0))
theorem AcB.lt {w : World} {b : Nat} {v : Value} (h : AcB w b v) : b < w.heap.size := (Array.getElem?_eq_some_iff.1 h).1
theorem AcB.c0 {w : World} {b : Nat} {v : Value} (h : AcB w b v) : w.cell? ⟨b, 0, none⟩ = some v := by rw [Lib.cell_of_heap h]; rfl
theorem AcB.fz {w : World} {b : Nat} {v : Value} (h : AcB w b v) : w.frozen? ⟨b, 0, none⟩ = false := Lib.frozen_of_heap h 0
theorem AcB.set {w : World} {b : Nat} {v : Value} (h : AcB w b v) (v' : Value) : AcB (w.setCell ⟨b, 0, none⟩ v') b v' := by
  unfold AcB at *
  simp [World.setCell, Array.getElem?_modify, h]
theorem AcB.not3 {w : World} {b : Nat} {v : Value} (h : AcB w b v) : ¬ Of3 w b := fun h3 => by
  have ht : OfTy w b 24 := ⟨_, _, h⟩
  rcases h3 with h3 | h3 | h3
  · exact ht.ne (by decide) h3
  · exact ht.ne (by decide) h3
  · exact ht.ne (by decide) h3
structure ASt (w : World) (b base : Nat) (v : Value) (R : List DR) : Prop where
  box : AcB w b v
  row : DRow w base v R
  lt : b < base
  le : base ≤ w.heap.size
theorem ASt.below {w w' : World} {b base : Nat} {v : Value} {R : List DR} (h : ASt w b base v R) (hb : Below w.heap.size w w') : ASt w' b base v R :=
  ⟨(hb.block b h.box.lt).trans h.box, h.row.below hb (Nat.le_refl _), h.lt, Nat.le_trans h.le hb.size⟩
/-- A deed more. -/
theorem ASt.deed {w w1 w2 : World} {b base : Nat} {v v' : Value} {R : List DR} {name text : ByteArray} {kind code : Int} {cs : Array Value} {ty : TypeId} (h : ASt w b base v R) (hB : Below w.heap.size w w1)
    (hown : w2.ownsRow base 51 6 v' (R.length + 1) (R.flatMap ddV ++ [.string name, .int .i64 kind, .int .i64 code, .string text, .slice none 0 0, .slice none 0 0])) (hG : (w1.alloc (.cells cs ty)).grownBy w2 v.ownBlock) :
    ASt (w2.setCell ⟨b, 0, none⟩ v') b base v' (R ++ [(newDeed name kind code text, .slice none 0 0, .slice none 0 0)]) ∧ KR b base w (w2.setCell ⟨b, 0, none⟩ v') ∧ AcB w2 b v := by
  have hA := hB.alloc hB.size (.cells cs ty)
  have h1 := h.below hA
  have hS : DSub (w1.alloc (.cells cs ty)) w.heap.size (newDeed name kind code text, .slice none 0 0, .slice none 0 0) := ⟨World.ownsRow_nil _ _ _ _, World.ownsRow_nil _ _ _ _⟩
  have hD : DRow w2 base v' (R ++ [(newDeed name kind code text, .slice none 0 0, .slice none 0 0)]) := DRow.more h.row h1.row h.le hS hown hG
  have hne : some b ≠ v.ownBlock := fun e => by
    have := (h.row.own.lt b e.symm).1
    have := h.lt
    omega
  have hb2 : AcB w2 b v := (hG.block b h1.box.lt hne).trans h1.box
  have hz : w.heap.size ≤ w2.heap.size := Nat.le_trans hA.size hG.size
  refine ⟨⟨hb2.set v', hD.set (e := 0) (.inl h.lt) v', h.lt, by have := h.le; simp; omega⟩, ?_, hb2⟩
  refine ((KR.of_below hA (Nat.le_refl _)).trans (KR.of_grown hG fun k hk => ?_)).trans (KR.box w2 0 v')
  exact ⟨(h.row.own.lt k hk).1, .inr (.inr (cu_ty h1.row.own k hk))⟩
/-- An instruction more in the last deed. -/
theorem ASt.moreA {w w1 w2 : World} {b base g c : Nat} {R : List DR} {r : DR} {x : Ins} {v' : Value} {cs : Array Value} {ty : TypeId} (h : ASt w b base (.slice (some ⟨g, 0, none⟩) (R.length + 1) c) (R ++ [r])) (hB : Below w.heap.size w w1)
    (hown : w2.ownsRow base 54 3 v' (r.1.actN + 1) (insL r.1.act r.1.actN ++ insV x)) (hG : (w1.alloc (.cells cs ty)).grownBy w2 r.2.1.ownBlock) (hat : v'.ownBlock = r.2.1.ownBlock ∨ v'.ownBlock = some (w1.alloc (.cells cs ty)).heap.size) :
    ASt (w2.setCell ⟨g, R.length * 6 + 4, none⟩ v') b base (.slice (some ⟨g, 0, none⟩) (R.length + 1) c) (R ++ [(r.1.doA x, v', r.2.2)]) ∧ KR b base w (w2.setCell ⟨g, R.length * 6 + 4, none⟩ v') ∧ w2.cell? ⟨g, R.length * 6 + 4, none⟩ = some r.2.1 ∧ w2.frozen? ⟨g, R.length * 6 + 4, none⟩ = false ∧ g < w2.heap.size ∧ AcB w2 b (.slice (some ⟨g, 0, none⟩) (R.length + 1) c) := by
  have hA := hB.alloc hB.size (.cells cs ty)
  have h1 := h.below hA
  have hl : (R ++ [r]).length = R.length + 1 := by simp
  have ho := h1.row.own
  rw [hl] at ho
  have tg := cu_ty ho g rfl
  have hr := h1.row.sub r (by simp)
  have hgl := (ho.lt g rfl)
  have hD := DRow.moreA (x := x) h1.row hown hG hat
  have hne : some b ≠ r.2.1.ownBlock := fun e => by
    have := (hr.act.lt b e.symm).1
    have := h.lt
    omega
  have hgn : some g ≠ r.2.1.ownBlock := fun e => tg.ne (by decide) (cu_ty hr.act g e.symm)
  have hb2 : AcB w2 b (.slice (some ⟨g, 0, none⟩) (R.length + 1) c) := (hG.block b h1.box.lt hne).trans h1.box
  have eg : w2.heap[g]? = (w1.alloc (.cells cs ty)).heap[g]? := hG.block g hgl.2 hgn
  have hz : w.heap.size ≤ w2.heap.size := Nat.le_trans hA.size hG.size
  have hbg : b ≠ g := by have := h.lt; omega
  have cell := drow_cell (by rw [hl]; exact ho) (i := R.length) (r := r) (by simp) 4 (by omega) (u := r.2.1) rfl
  have tg2 : OfTy w2 g 51 := tg.eq eg
  refine ⟨⟨?_, hD, h.lt, by have := h.le; simp; omega⟩, ?_, (World.cell?_of_block (a := ⟨g, _, none⟩) eg).trans cell.1, (World.frozen?_of_block (a := ⟨g, _, none⟩) eg).trans cell.2, Nat.lt_of_lt_of_le hgl.2 hG.size, hb2⟩
  · exact (Below.heap_setCell _ _ _ _ hbg).trans hb2
  · refine ((KR.of_below hA (Nat.le_refl _)).trans (KR.of_grown hG fun k hk => ?_)).trans (KR.cell w2 hgl.1 (.inr (.inr tg2)) _ _)
    exact ⟨(hr.act.lt k hk).1, .inl (cu_ty hr.act k hk)⟩
/-- A link more in the last deed. -/
theorem ASt.moreL {w w1 w2 : World} {b base g c : Nat} {R : List DR} {r : DR} {x : Link} {v' : Value} {cs : Array Value} {ty : TypeId} (h : ASt w b base (.slice (some ⟨g, 0, none⟩) (R.length + 1) c) (R ++ [r])) (hB : Below w.heap.size w w1)
    (hown : w2.ownsRow base 58 4 v' (r.1.linksN + 1) (lnkL r.1.links r.1.linksN ++ lnkV x)) (hG : (w1.alloc (.cells cs ty)).grownBy w2 r.2.2.ownBlock) (hat : v'.ownBlock = r.2.2.ownBlock ∨ v'.ownBlock = some (w1.alloc (.cells cs ty)).heap.size) :
    ASt (w2.setCell ⟨g, R.length * 6 + 5, none⟩ v') b base (.slice (some ⟨g, 0, none⟩) (R.length + 1) c) (R ++ [(r.1.lkA x, r.2.1, v')]) ∧ KR b base w (w2.setCell ⟨g, R.length * 6 + 5, none⟩ v') ∧ w2.cell? ⟨g, R.length * 6 + 5, none⟩ = some r.2.2 ∧ w2.frozen? ⟨g, R.length * 6 + 5, none⟩ = false ∧ g < w2.heap.size ∧ AcB w2 b (.slice (some ⟨g, 0, none⟩) (R.length + 1) c) := by
  have hA := hB.alloc hB.size (.cells cs ty)
  have h1 := h.below hA
  have hl : (R ++ [r]).length = R.length + 1 := by simp
  have ho := h1.row.own
  rw [hl] at ho
  have tg := cu_ty ho g rfl
  have hr := h1.row.sub r (by simp)
  have hgl := (ho.lt g rfl)
  have hD := DRow.moreL (x := x) h1.row hown hG hat
  have hne : some b ≠ r.2.2.ownBlock := fun e => by
    have := (hr.lnk.lt b e.symm).1
    have := h.lt
    omega
  have hgn : some g ≠ r.2.2.ownBlock := fun e => tg.ne (by decide) (cu_ty hr.lnk g e.symm)
  have hb2 : AcB w2 b (.slice (some ⟨g, 0, none⟩) (R.length + 1) c) := (hG.block b h1.box.lt hne).trans h1.box
  have eg : w2.heap[g]? = (w1.alloc (.cells cs ty)).heap[g]? := hG.block g hgl.2 hgn
  have hz : w.heap.size ≤ w2.heap.size := Nat.le_trans hA.size hG.size
  have hbg : b ≠ g := by have := h.lt; omega
  have cell := drow_cell (by rw [hl]; exact ho) (i := R.length) (r := r) (by simp) 5 (by omega) (u := r.2.2) rfl
  have tg2 : OfTy w2 g 51 := tg.eq eg
  refine ⟨⟨?_, hD, h.lt, by have := h.le; simp; omega⟩, ?_, (World.cell?_of_block (a := ⟨g, _, none⟩) eg).trans cell.1, (World.frozen?_of_block (a := ⟨g, _, none⟩) eg).trans cell.2, Nat.lt_of_lt_of_le hgl.2 hG.size, hb2⟩
  · exact (Below.heap_setCell _ _ _ _ hbg).trans hb2
  · refine ((KR.of_below hA (Nat.le_refl _)).trans (KR.of_grown hG fun k hk => ?_)).trans (KR.cell w2 hgl.1 (.inr (.inr tg2)) _ _)
    exact ⟨(hr.lnk.lt k hk).1, .inr (.inl (cu_ty hr.lnk k hk))⟩

end Go.Proofs.YtkbhcajiebeepaaGreatDoor.Vp
