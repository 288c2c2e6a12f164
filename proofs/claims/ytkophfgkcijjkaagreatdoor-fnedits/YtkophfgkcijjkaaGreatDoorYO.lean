import Derived.Test.YtkophfgkcijjkaaGreatDoorYG
import Derived.Test.YtkophfgkcijjkaaGreatDoorZM
import Derived.Test.YtkophfgkcijjkaaGreatDoorZO
namespace Go.Proofs.YtkophfgkcijjkaaGreatDoor.Vp
open Go.RowKit
structure KX (B : Nat) (X : Nat → Prop) (w w' : World) : Prop where
  below : Below B w w'
  blk : ∀ i cs t fz, w.heap[i]? = some (.cells cs t fz) → t ≠ 9 → t ≠ 135 → t ≠ 192 → ¬ X i → w'.heap[i]? = w.heap[i]?
def XN : Nat → Prop := fun _ => False
theorem heap_lt {w : World} {i : Nat} {o : Obj} (h : w.heap[i]? = some o) : i < w.heap.size := by
  rcases Nat.lt_or_ge i w.heap.size with h' | h'
  · exact h'
  · rw [Array.getElem?_eq_none h'] at h; cases h
theorem KX.refl (B : Nat) (X : Nat → Prop) (w : World) : KX B X w w := ⟨Below.refl _ _, fun _ _ _ _ _ _ _ _ _ => rfl⟩
theorem KX.trans {B : Nat} {X Y : Nat → Prop} {w w' w'' : World} (h : KX B X w w') (k : KX B Y w' w'') (hXY : ∀ i, i < w.heap.size → Y i → X i) : KX B X w w'' :=
  ⟨h.below.trans k.below, fun i cs t fz hi h1 h2 h3 hX => by
    have e := h.blk i cs t fz hi h1 h2 h3 hX
    rw [← e]
    exact k.blk i cs t fz (e.trans hi) h1 h2 h3 fun hy => hX (hXY i (heap_lt hi) hy)⟩
theorem KX.to {B : Nat} {w w' w'' : World} {X : Nat → Prop} (h : KX B X w w') (k : KX B XN w' w'') : KX B X w w'' := h.trans k fun _ _ h => h.elim
theorem KX.weak {B : Nat} {w w' : World} {X : Nat → Prop} (h : KX B XN w w') : KX B X w w' := ⟨h.below, fun i cs t fz hi h1 h2 h3 _ => h.blk i cs t fz hi h1 h2 h3 fun h => h.elim⟩
theorem KX.of_below {B C : Nat} {X : Nat → Prop} {w w' : World} (h : Below C w w') (hC : w.heap.size ≤ C) (hB : B ≤ w.heap.size) : KX B X w w' :=
  ⟨h.mono (Nat.le_trans hB hC), fun i _ _ _ hi _ _ _ _ => h.block i (Nat.lt_of_lt_of_le (heap_lt hi) hC)⟩
theorem KX.of_only {B b : Nat} {X : Nat → Prop} {w w' : World} (h : Only b w w') (hX : X b) (hB : B ≤ w.heap.size) (hb : B ≤ b) : KX B X w w' :=
  ⟨h.below hb hB, fun i _ _ _ hi _ _ _ hx => h.block i (heap_lt hi) fun e => hx (e ▸ hX)⟩
theorem KX.of_grown {B : Nat} {X : Nat → Prop} {row : Option Nat} {w w' : World} (h : w.grownBy w' row) (hB : B ≤ w.heap.size) (hr : ∀ j, row = some j → B ≤ j ∧ (X j ∨ ∀ cs t fz, w.heap[j]? = some (.cells cs t fz) → t = 9 ∨ t = 135 ∨ t = 192)) : KX B X w w' := by
  refine ⟨⟨h.os, h.tape, h.output, h.size, fun k hk => h.block k (Nat.lt_of_lt_of_le hk hB) fun e => ?_⟩, fun i cs t fz hi h1 h2 h3 hX => h.block i (heap_lt hi) fun e => ?_⟩
  · have := (hr k e.symm).1
    omega
  · rcases (hr i e.symm).2 with hx | hx
    · exact hX hx
    · rcases hx cs t fz hi with e | e | e
      · exact h1 e
      · exact h2 e
      · exact h3 e
theorem heap_setCell_at {w : World} {b j : Nat} {cs : Array Value} {t : TypeId} (h : w.heap[b]? = some (.cells cs t (0, 0))) (v : Value) : (w.setCell ⟨b, j, none⟩ v).heap[b]? = some (.cells (cs.setIfInBounds j v) t (0, 0)) := by
  simp only [World.setCell, Array.getElem?_modify, if_pos, h, Option.map_some]
  rfl
theorem KX.setCell {B : Nat} {X : Nat → Prop} (w : World) {b j : Nat} (hb : B ≤ b) (hx : X b ∨ ∀ cs t fz, w.heap[b]? = some (.cells cs t fz) → t = 9 ∨ t = 135 ∨ t = 192) (v : Value) : KX B X w (w.setCell ⟨b, j, none⟩ v) := by
  refine ⟨(Below.refl B w).setCell hb v, fun i cs t fz hi h1 h2 h3 hX => ?_⟩
  refine Below.heap_setCell _ _ _ _ fun e => ?_
  simp at e
  subst e
  rcases hx with hx | hx
  · exact hX hx
  · rcases hx cs t fz hi with e | e | e
    · exact h1 e
    · exact h2 e
    · exact h3 e
def MkBox (w : World) (mb : Nat) (s0 s1 : Value) (mp : Nat) (mk md : Value) : Prop := w.heap[mb]? = some (.cells #[s0, s1, .map (some mp), mk, md] 192 (0, 0))
theorem MkBox.facts {w : World} {mb mp : Nat} {s0 s1 mk md : Value} (h : MkBox w mb s0 s1 mp mk md) : mb < w.heap.size ∧ w.cell? ⟨mb, 0, none⟩ = some s0 ∧ w.cell? ⟨mb, 1, none⟩ = some s1 ∧ w.cell? ⟨mb, 2, none⟩ = some (.map (some mp)) ∧ w.cell? ⟨mb, 3, none⟩ = some mk ∧ w.cell? ⟨mb, 4, none⟩ = some md ∧ ∀ j, w.frozen? ⟨mb, j, none⟩ = false := by
  unfold MkBox at h
  refine ⟨heap_lt h, ?_, ?_, ?_, ?_, ?_, fun j => ?_⟩
  all_goals simp [World.cell?, World.frozen?, h]
theorem MkBox.set3 {w : World} {mb mp : Nat} {s0 s1 mk md : Value} (h : MkBox w mb s0 s1 mp mk md) (v : Value) : MkBox (w.setCell ⟨mb, 3, none⟩ v) mb s0 s1 mp v md := heap_setCell_at h v
theorem MkBox.set4 {w : World} {mb mp : Nat} {s0 s1 mk md : Value} (h : MkBox w mb s0 s1 mp mk md) (v : Value) : MkBox (w.setCell ⟨mb, 4, none⟩ v) mb s0 s1 mp mk v := heap_setCell_at h v
theorem MkBox.blk {w w' : World} {mb mp : Nat} {s0 s1 mk md : Value} (h : MkBox w mb s0 s1 mp mk md) (hb : w'.heap[mb]? = w.heap[mb]?) : MkBox w' mb s0 s1 mp mk md := hb.trans h
def strV (L : List ByteArray) : List Value := L.map .string
def ptrV (G : ByteArray → Nat) (made : List Ent) : List Value := made.map fun x => .pointer (some ⟨G x.name, 0, none⟩)
def tieV (G : ByteArray → Nat) (l : Lk) : List Value := [.string l.name, .bool l.ask, .bool l.has, .int .i64 0, .pointer (if l.ask = true then some ⟨G l.name, 0, none⟩ else none)]
def tiesV (G : ByteArray → Nat) (ls : List Lk) : List Value := ls.flatMap (tieV G)
theorem tiesV_add (G : ByteArray → Nat) (ls : List Lk) (l : Lk) : tiesV G (ls ++ [l]) = tiesV G ls ++ tieV G l := by simp [tiesV]
theorem tiesV_congr {G G' : ByteArray → Nat} {ls : List Lk} (h : ∀ l ∈ ls, l.ask = true → G' l.name = G l.name) : tiesV G' ls = tiesV G ls := by
  induction ls with
  | nil => rfl
  | cons l ls ih =>
    have e : tieV G' l = tieV G l := by
      unfold tieV
      cases ha : l.ask with
      | false => rfl
      | true => rw [h l List.mem_cons_self ha]
    have := ih fun l hl => h l (List.mem_cons_of_mem _ hl)
    simp only [tiesV, List.flatMap_cons] at this ⊢
    rw [e, this]
def markF (G : ByteArray → Nat) (making : List ByteArray) (made : List Ent) (s : List UInt8) : Option Value :=
  match made.find? (fun e => e.name.toList == s) with
  | some e => some (.agg #[.int .i64 0, .pointer (some ⟨G e.name, 0, none⟩)])
  | none => (making.findIdx? fun x => x.toList == s).map fun (i : Nat) => .agg #[.int .i64 (i : Int), .pointer none]
def EntBlk (w : World) (b : Nat) (nm : ByteArray) (kind code : Int) (text : ByteArray) (act ties : Value) (place : Int) : Prop :=
  w.heap[b]? = some (.cells #[.string nm, .int .i64 kind, .int .i64 code, .string text, act, .slice none 0 0, ties, .int .i64 place] 138 (0, 0))
def ActOk (w0 : World) (S : Spc) (kind : Int) (tg : Nat) (act : Value) : Prop :=
  if kind = 3 then tg < S.n1 ∧ ∃ a cap, act = .slice a (S.f1 tg).actN cap ∧ SlIns w0 a (S.f1 tg).actN (S.f1 tg).act else act = .slice none 0 0
structure EntAt (w0 : World) (S : Spc) (G : ByteArray → Nat) (w : World) (b : Nat) (v : Value) (x : Ent) : Prop where
  blk : ∃ act, EntBlk w b x.name x.kind x.code x.text act v 0 ∧ ActOk w0 S x.kind x.tg act
  ge : w0.heap.size ≤ b
  row : w.ownsRow w0.heap.size 214 5 v x.looks.length (tiesV G x.looks)
theorem own_blk {w w' : World} {base size n : Nat} {e : TypeId} {v : Value} {xs : List Value} (h : w.ownsRow base e size v n xs) (hb : ∀ k, v.ownBlock = some k → w'.heap[k]? = w.heap[k]?) : w'.ownsRow base e size v n xs := by
  obtain ⟨h1, h2 | ⟨g, cap, cur, rfl, h3, h4, h5⟩⟩ := h
  · exact ⟨h1, .inl h2⟩
  · exact ⟨h1, .inr ⟨g, cap, cur, rfl, h3, (hb g rfl).trans h4, h5⟩⟩
theorem own_cellsM {w : World} {base size n : Nat} {e : TypeId} {v : Value} {xs : List Value} (h : w.ownsRow base e size v n xs) : ∀ k, v.ownBlock = some k → base ≤ k ∧ k < w.heap.size ∧ ∃ cs, w.heap[k]? = some (.cells cs e (0, 0)) := by
  intro k hk
  obtain ⟨h1, ⟨rfl, _⟩ | ⟨g, cap, cur, rfl, h3, h4, h5⟩⟩ := h
  · cases hk
  · cases hk
    exact ⟨h3, heap_lt h4, cur, h4⟩
theorem EntAt.kx {w0 w w' : World} {S : Spc} {G : ByteArray → Nat} {b : Nat} {v : Value} {x : Ent} {X : Nat → Prop} {B : Nat} (h : EntAt w0 S G w b v x) (hk : KX B X w w') (h1 : ¬ X b) (h2 : ∀ k, v.ownBlock = some k → ¬ X k) : EntAt w0 S G w' b v x := by
  obtain ⟨⟨act, hb, ha⟩, hg, hr⟩ := h
  refine ⟨⟨act, (hk.blk b _ _ _ hb (by decide) (by decide) (by decide) h1).trans hb, ha⟩, hg, own_blk hr fun k hk2 => ?_⟩
  obtain ⟨_, _, cs, hc⟩ := own_cellsM hr k hk2
  exact hk.blk k _ _ _ hc (by decide) (by decide) (by decide) (h2 k hk2)
structure MIg (w0 : World) (S : Spc) (mb mp : Nat) (s0 s1 : Value) (w : World) (cnt : Nat) (F : List UInt8 → Option Value) (nk : Nat) (ks : List Value) (np : Nat) (ps : List Value) (made : List Ent) (G : ByteArray → Nat) (V : ByteArray → Value) (mk md : Value) : Prop where
  bel : Below w0.heap.size w0 w
  mbB : w0.heap.size ≤ mb
  mpB : w0.heap.size ≤ mp
  box : MkBox w mb s0 s1 mp mk md
  rmk : w.ownsRow w0.heap.size 9 1 mk nk ks
  rmd : w.ownsRow w0.heap.size 135 1 md np ps
  map : MapN w mp cnt F
  ents : ∀ x ∈ made, EntAt w0 S G w (G x.name) (V x.name) x
  dist : made.Pairwise fun x y => G x.name ≠ G y.name
abbrev MI (w0 : World) (S : Spc) (mb mp : Nat) (s0 s1 : Value) (w : World) (mm making : List ByteArray) (made : List Ent) (G : ByteArray → Nat) (V : ByteArray → Value) (mk md : Value) : Prop :=
  MIg w0 S mb mp s0 s1 w (2 * made.length + mm.length) (markF G mm made) making.length (strV making) made.length (ptrV G made) made G V mk md
section
variable {w0 w w' : World} {S : Spc} {mb mp : Nat} {s0 s1 mk md : Value} {cnt nk np : Nat} {F : List UInt8 → Option Value} {ks ps : List Value} {made : List Ent} {G : ByteArray → Nat} {V : ByteArray → Value}
theorem MIg.lt (h : MIg w0 S mb mp s0 s1 w cnt F nk ks np ps made G V mk md) : w0.heap.size ≤ w.heap.size := h.bel.size
theorem MIg.below {C : Nat} (h : MIg w0 S mb mp s0 s1 w cnt F nk ks np ps made G V mk md) (hb : Below C w w') (hC : w.heap.size ≤ C) : MIg w0 S mb mp s0 s1 w' cnt F nk ks np ps made G V mk md :=
  have hk : KX w0.heap.size XN w w' := KX.of_below hb hC h.lt
  have hbl : ∀ i o, w.heap[i]? = some o → w'.heap[i]? = w.heap[i]? := fun i o hi => hb.block i (Nat.lt_of_lt_of_le (heap_lt hi) hC)
  ⟨h.bel.trans hk.below, h.mbB, h.mpB, h.box.blk (hbl _ _ h.box), own_below h.rmk hb hC, own_below h.rmd hb hC, h.map.blk (by obtain ⟨es, c, hm⟩ := h.map.isMap; exact hbl _ _ hm), fun x hx => (h.ents x hx).kx hk (fun h => h) (fun _ _ h => h), h.dist⟩
theorem MIg.kx {X : Nat → Prop} (h : MIg w0 S mb mp s0 s1 w cnt F nk ks np ps made G V mk md) (hk : KX w0.heap.size X w w') (hall : ∀ i o, w.heap[i]? = some o → ¬ X i → w'.heap[i]? = w.heap[i]?) (h1 : ¬ X mb) (h2 : ¬ X mp) (h3 : ∀ k, mk.ownBlock = some k → ¬ X k) (h4 : ∀ k, md.ownBlock = some k → ¬ X k) (h5 : ∀ x ∈ made, ¬ X (G x.name) ∧ ∀ k, (V x.name).ownBlock = some k → ¬ X k) : MIg w0 S mb mp s0 s1 w' cnt F nk ks np ps made G V mk md :=
  ⟨h.bel.trans hk.below, h.mbB, h.mpB, h.box.blk (hall _ _ h.box h1), own_blk h.rmk (fun k hk2 => by obtain ⟨_, _, cs, hc⟩ := own_cellsM h.rmk k hk2; exact hall _ _ hc (h3 k hk2)), own_blk h.rmd (fun k hk2 => by obtain ⟨_, _, cs, hc⟩ := own_cellsM h.rmd k hk2; exact hall _ _ hc (h4 k hk2)), h.map.blk (by obtain ⟨es, c, hm⟩ := h.map.isMap; exact hall _ _ hm h2), fun x hx => (h.ents x hx).kx hk (h5 x hx).1 (h5 x hx).2, h.dist⟩
theorem MIg.mapped {cnt' : Nat} {F' : List UInt8 → Option Value} (h : MIg w0 S mb mp s0 s1 w cnt F nk ks np ps made G V mk md) (hg : w.grownBy w' (some mp)) (hm : MapN w' mp cnt' F') : MIg w0 S mb mp s0 s1 w' cnt' F' nk ks np ps made G V mk md ∧ KX w0.heap.size XN w w' := by
  obtain ⟨es, c, hmap⟩ := h.map.isMap
  have hk : KX w0.heap.size XN w w' := KX.of_grown hg h.lt fun j hj => by
    cases hj
    exact ⟨h.mpB, .inr fun cs t fz hc => by rw [hmap] at hc; cases hc⟩
  have hbl : ∀ (i : Nat) (cs : Array Value) (t : TypeId) (fz : Nat × Nat), w.heap[i]? = some (Obj.cells cs t fz) → w'.heap[i]? = w.heap[i]? := fun i cs t fz hi => hg.block i (heap_lt hi) fun e => by
    cases e
    rw [hmap] at hi
    cases hi
  exact ⟨⟨h.bel.trans hk.below, h.mbB, h.mpB, h.box.blk (hbl _ _ _ _ h.box), own_blk h.rmk (fun k hk2 => by obtain ⟨_, _, cs, hc⟩ := own_cellsM h.rmk k hk2; exact hbl _ _ _ _ hc), own_blk h.rmd (fun k hk2 => by obtain ⟨_, _, cs, hc⟩ := own_cellsM h.rmd k hk2; exact hbl _ _ _ _ hc), hm, fun x hx => (h.ents x hx).kx hk (fun h => h) (fun _ _ h => h), h.dist⟩, hk⟩
theorem own_other {w : World} {base size n b : Nat} {e : TypeId} {v : Value} {xs : List Value} (h : w.ownsRow base e size v n xs) (hb : v.ownBlock ≠ some b) (j : Nat) (u : Value) : (w.setCell ⟨b, j, none⟩ u).ownsRow base e size v n xs :=
  own_blk h fun k hk => Below.heap_setCell _ _ _ _ fun e => hb (by rw [hk]; exact congrArg some e)
theorem two_types {w : World} {b : Nat} {cs cs' : Array Value} {t t' : TypeId} {f f' : Nat × Nat} (h : w.heap[b]? = some (.cells cs t f)) (h' : w.heap[b]? = some (.cells cs' t' f')) : t = t' := by
  rw [h] at h'
  simp only [Option.some.injEq, Obj.cells.injEq] at h'
  exact h'.2.1
theorem MIg.mked {nk' : Nat} {ks' : List Value} {v : Value} (h : MIg w0 S mb mp s0 s1 w cnt F nk ks np ps made G V mk md) (hg : w.grownBy w' mk.ownBlock) (hr : w'.ownsRow w0.heap.size 9 1 v nk' ks') : MIg w0 S mb mp s0 s1 (w'.setCell ⟨mb, 3, none⟩ v) cnt F nk' ks' np ps made G V v md ∧ KX w0.heap.size XN w (w'.setCell ⟨mb, 3, none⟩ v) := by
  have hmk := own_cellsM h.rmk
  have hk : KX w0.heap.size XN w w' := KX.of_grown hg h.lt fun j hj => by
    obtain ⟨h1, _, cs, h2⟩ := hmk j hj
    exact ⟨h1, .inr fun cs t fz hc => .inl (two_types hc h2)⟩
  have hbl : ∀ (i : Nat) (o : Obj), w.heap[i]? = some o → (∀ cs, o ≠ Obj.cells cs 9 (0, 0)) → w'.heap[i]? = w.heap[i]? := fun i o hi ho => hg.block i (heap_lt hi) fun e => by
    obtain ⟨_, _, cs, h2⟩ := hmk i e.symm
    rw [hi] at h2
    cases h2
    exact ho cs rfl
  have hbox : MkBox w' mb s0 s1 mp mk md := h.box.blk (hbl _ _ h.box (fun cs e => by cases e))
  have hmp : MapN w' mp cnt F := h.map.blk (by obtain ⟨es, c, hm⟩ := h.map.isMap; exact hbl _ _ hm (fun cs e => by cases e))
  have hmd : w'.ownsRow w0.heap.size 135 1 md np ps := own_blk h.rmd fun k hk2 => by obtain ⟨_, _, cs, hc⟩ := own_cellsM h.rmd k hk2; exact hbl _ _ hc (fun cs e => by cases e)
  have hk2 : KX w0.heap.size XN w' (w'.setCell ⟨mb, 3, none⟩ v) := KX.setCell w' h.mbB (.inr fun cs t fz hc => .inr (.inr (two_types hc hbox))) v
  refine ⟨⟨h.bel.trans (hk.to hk2).below, h.mbB, h.mpB, hbox.set3 v, own_other hr (fun e => ?_) _ _, own_other hmd (fun e => ?_) _ _, hmp.blk (Below.heap_setCell _ _ _ _ fun e => ?_), fun x hx => (h.ents x hx).kx (hk.to hk2) (fun h => h) (fun _ _ h => h), h.dist⟩, hk.to hk2⟩
  · obtain ⟨_, _, cs, hc⟩ := own_cellsM hr mb e
    exact absurd (two_types hc hbox) (by decide)
  · obtain ⟨_, _, cs, hc⟩ := own_cellsM hmd mb e
    exact absurd (two_types hc hbox) (by decide)
  · obtain ⟨es, c, hm⟩ := hmp.isMap
    simp at e
    rw [e, hbox] at hm
    cases hm
theorem MIg.mded {np' : Nat} {ps' : List Value} {v : Value} (h : MIg w0 S mb mp s0 s1 w cnt F nk ks np ps made G V mk md) (hg : w.grownBy w' md.ownBlock) (hr : w'.ownsRow w0.heap.size 135 1 v np' ps') : MIg w0 S mb mp s0 s1 (w'.setCell ⟨mb, 4, none⟩ v) cnt F nk ks np' ps' made G V mk v ∧ KX w0.heap.size XN w (w'.setCell ⟨mb, 4, none⟩ v) := by
  have hmk := own_cellsM h.rmd
  have hk : KX w0.heap.size XN w w' := KX.of_grown hg h.lt fun j hj => by
    obtain ⟨h1, _, cs, h2⟩ := hmk j hj
    exact ⟨h1, .inr fun cs t fz hc => .inr (.inl (two_types hc h2))⟩
  have hbl : ∀ (i : Nat) (o : Obj), w.heap[i]? = some o → (∀ cs, o ≠ Obj.cells cs 135 (0, 0)) → w'.heap[i]? = w.heap[i]? := fun i o hi ho => hg.block i (heap_lt hi) fun e => by
    obtain ⟨_, _, cs, h2⟩ := hmk i e.symm
    rw [hi] at h2
    cases h2
    exact ho cs rfl
  have hbox : MkBox w' mb s0 s1 mp mk md := h.box.blk (hbl _ _ h.box (fun cs e => by cases e))
  have hmp : MapN w' mp cnt F := h.map.blk (by obtain ⟨es, c, hm⟩ := h.map.isMap; exact hbl _ _ hm (fun cs e => by cases e))
  have hmd : w'.ownsRow w0.heap.size 9 1 mk nk ks := own_blk h.rmk fun k hk2 => by obtain ⟨_, _, cs, hc⟩ := own_cellsM h.rmk k hk2; exact hbl _ _ hc (fun cs e => by cases e)
  have hk2 : KX w0.heap.size XN w' (w'.setCell ⟨mb, 4, none⟩ v) := KX.setCell w' h.mbB (.inr fun cs t fz hc => .inr (.inr (two_types hc hbox))) v
  refine ⟨⟨h.bel.trans (hk.to hk2).below, h.mbB, h.mpB, hbox.set4 v, own_other hmd (fun e => ?_) _ _, own_other hr (fun e => ?_) _ _, hmp.blk (Below.heap_setCell _ _ _ _ fun e => ?_), fun x hx => (h.ents x hx).kx (hk.to hk2) (fun h => h) (fun _ _ h => h), h.dist⟩, hk.to hk2⟩
  · obtain ⟨_, _, cs, hc⟩ := own_cellsM hmd mb e
    exact absurd (two_types hc hbox) (by decide)
  · obtain ⟨_, _, cs, hc⟩ := own_cellsM hr mb e
    exact absurd (two_types hc hbox) (by decide)
  · obtain ⟨es, c, hm⟩ := hmp.isMap
    simp at e
    rw [e, hbox] at hm
    cases hm
end
structure EU (w0 : World) (S : Spc) (w : World) (eb : Nat) (nm : ByteArray) (tg : Nat) (G : ByteArray → Nat) (ls : List Lk) (v : Value) (made : List Ent) (V : ByteArray → Value) : Prop where
  blk : ∃ a cap, EntBlk w eb nm 3 0 ⟨#[]⟩ (.slice a (S.f1 tg).actN cap) v 0 ∧ SlIns w0 a (S.f1 tg).actN (S.f1 tg).act
  ge : w0.heap.size ≤ eb
  row : w.ownsRow w0.heap.size 214 5 v ls.length (tiesV G ls)
  free : ∀ x ∈ made, G x.name ≠ eb
  apart : ∀ x ∈ made, ∀ k, v.ownBlock = some k → (V x.name).ownBlock ≠ some k
  asked : ∀ l ∈ ls, l.ask = true → ∃ x ∈ made, x.name = l.name
end Go.Proofs.YtkophfgkcijjkaaGreatDoor.Vp
