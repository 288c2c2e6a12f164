/-
  spec: the listing of a deed.
-/
import Derived.Test.YtolpgafkojlkoabDoorCaSpec1
import Derived.Test.YtolpgafkojlkoabDoorDOne
namespace Go.Proofs.YtolpgafkojlkoabDoor.Vp
open Go.RowKit

def ccomb (f : Nat → Deed) (d : Int) (x : Nat × Nat) : Int := if (f x.1).kind = 3 ∧ 60 ≤ x.2 ∧ (d < 0 ∨ (x.1 : Int) < d) then (x.1 : Int) else d
/-- The first place of those that are too deep, as the listing goes on. -/
def deepTo (f : Nat → Deed) (d : Int) : List (Nat × Nat) → Int
  | [] => d
  | x :: xs => deepTo f (ccomb f d x) xs
theorem deepTo_append (f : Nat → Deed) (d : Int) (xs ys : List (Nat × Nat)) : deepTo f d (xs ++ ys) = deepTo f (deepTo f d xs) ys := by
  induction xs generalizing d with
  | nil => rfl
  | cons x xs ih => simp only [List.cons_append, deepTo]; exact ih _
theorem ccomb_comm (f : Nat → Deed) (d : Int) (x y : Nat × Nat) : ccomb f (ccomb f d x) y = ccomb f (ccomb f d y) x := by
  unfold ccomb
  by_cases hx : (f x.1).kind = 3 ∧ 60 ≤ x.2
  · by_cases hy : (f y.1).kind = 3 ∧ 60 ≤ y.2
    · simp only [hx.1, hx.2, hy.1, hy.2, true_and]
      (repeat' split) <;> omega
    · have e : ∀ z : Prop, ¬ ((f y.1).kind = 3 ∧ 60 ≤ y.2 ∧ z) := fun z h => hy ⟨h.1, h.2.1⟩
      rw [if_neg (e _), if_neg (e _)]
  · have e : ∀ z : Prop, ¬ ((f x.1).kind = 3 ∧ 60 ≤ x.2 ∧ z) := fun z h => hx ⟨h.1, h.2.1⟩
    rw [if_neg (e _), if_neg (e _)]
theorem deepTo_comb (f : Nat → Deed) (d : Int) (x : Nat × Nat) (xs : List (Nat × Nat)) : deepTo f (ccomb f d x) xs = ccomb f (deepTo f d xs) x := by
  induction xs generalizing d with
  | nil => rfl
  | cons y ys ih =>
    simp only [deepTo]
    rw [ccomb_comm, ih]

def TyAt (w : World) (g : Nat) (e : TypeId) : Prop := ∃ cur, w.heap[g]? = some (.cells cur e (0, 0))
/-- All that holds no integers lies as it lay, but for the box H and the row M. -/
structure Kpt (H M : Nat) (W W' : World) : Prop where
  size : W.heap.size ≤ W'.heap.size
  keep : ∀ k e, TyAt W k e → e ≠ 3 → k ≠ H → k ≠ M → W'.heap[k]? = W.heap[k]?
theorem Kpt.refl (H M : Nat) (W : World) : Kpt H M W W := ⟨Nat.le_refl _, fun _ _ _ _ _ _ => rfl⟩
theorem Kpt.trans {H M : Nat} {A B C : World} (h : Kpt H M A B) (k : Kpt H M B C) : Kpt H M A C :=
  ⟨Nat.le_trans h.size k.size, fun i e hi he h1 h2 => by
    have e1 := h.keep i e hi he h1 h2
    obtain ⟨c, hc⟩ := hi
    exact (k.keep i e ⟨c, e1.trans hc⟩ he h1 h2).trans e1⟩
theorem Kpt.of_below {H M : Nat} {W W' : World} (h : Below W.heap.size W W') : Kpt H M W W' :=
  ⟨h.size, fun k e hk _ _ _ => by obtain ⟨c, hc⟩ := hk; exact h.block k (Array.getElem?_eq_some_iff.1 hc).1⟩
theorem Kpt.setCell {H M j : Nat} (W : World) (g : Nat) (hg : g = H ∨ g = M) (v : Value) : Kpt H M W (W.setCell ⟨g, j, none⟩ v) :=
  ⟨by simp, fun k _ _ _ h1 h2 => Below.heap_setCell _ _ _ _ (by show k ≠ g; omega)⟩
/-- The box of a listing at H: the account, the row of the listed at M, the order, the first that is too deep. -/
structure SLs (w0 W : World) (n1 b off n cap H M : Nat) (s : Nat → Bool) (ov : Value) (ord : List Nat) (dp : Int) : Prop where
  c0 : W.cell? ⟨H, 0, none⟩ = some (.slice (some ⟨b, off, none⟩) n cap)
  c1 : W.cell? ⟨H, 1, none⟩ = some (.slice (some ⟨M, 0, none⟩) n n)
  c2 : W.cell? ⟨H, 2, none⟩ = some ov ∧ W.frozen? ⟨H, 2, none⟩ = false
  c3 : W.cell? ⟨H, 3, none⟩ = some (.int .i64 dp) ∧ W.frozen? ⟨H, 3, none⟩ = false
  row : ∀ q, q < n → W.cell? ⟨M, q, none⟩ = some (.bool (s q)) ∧ W.frozen? ⟨M, q, none⟩ = false
  ord : W.ownsRow n1 3 1 ov ord.length (ord.map fun q : Nat => Value.int .i64 (q : Int))
  low : Below w0.heap.size w0 W
  hH : w0.heap.size ≤ H ∧ H < n1
  hM : w0.heap.size ≤ M ∧ M < n1
  ne : H ≠ M
  hz : n1 ≤ W.heap.size
theorem SLs.blocks {w0 W W' : World} {n1 b off n cap H M : Nat} {s : Nat → Bool} {ov ov' : Value} {ord ord' : List Nat} {dp : Int} (h : SLs w0 W n1 b off n cap H M s ov ord dp) (hz : W.heap.size ≤ W'.heap.size) (eH : W'.heap[H]? = W.heap[H]?) (eM : W'.heap[M]? = W.heap[M]?) (hl : Below w0.heap.size w0 W') (hv : ov' = ov) (ho : W'.ownsRow n1 3 1 ov ord'.length (ord'.map fun q : Nat => Value.int .i64 (q : Int))) : SLs w0 W' n1 b off n cap H M s ov' ord' dp := by
  subst hv
  have c : ∀ o, W'.cell? ⟨H, o, none⟩ = W.cell? ⟨H, o, none⟩ := fun o => World.cell?_of_block (a := ⟨H, o, none⟩) eH
  have z : ∀ o, W'.frozen? ⟨H, o, none⟩ = W.frozen? ⟨H, o, none⟩ := fun o => World.frozen?_of_block (a := ⟨H, o, none⟩) eH
  exact ⟨(c 0).trans h.c0, (c 1).trans h.c1, ⟨(c 2).trans h.c2.1, (z 2).trans h.c2.2⟩, ⟨(c 3).trans h.c3.1, (z 3).trans h.c3.2⟩, fun q hq => ⟨(World.cell?_of_block (a := ⟨M, q, none⟩) eM).trans (h.row q hq).1, (World.frozen?_of_block (a := ⟨M, q, none⟩) eM).trans (h.row q hq).2⟩, ho, hl, h.hH, h.hM, h.ne, Nat.le_trans h.hz hz⟩
theorem SLs.below {w0 W W' : World} {n1 b off n cap H M : Nat} {s : Nat → Bool} {ov : Value} {ord : List Nat} {dp : Int} (h : SLs w0 W n1 b off n cap H M s ov ord dp) (hb : Below W.heap.size W W') : SLs w0 W' n1 b off n cap H M s ov ord dp :=
  h.blocks hb.size (hb.block H (by have := h.hH; have := h.hz; omega)) (hb.block M (by have := h.hM; have := h.hz; omega)) (h.low.trans (hb.mono h.low.size)) rfl (own_below h.ord hb (Nat.le_refl _))
theorem own_far' {w : World} {base e' n R j : Nat} {e : TypeId} {v : Value} {xs : List Value} (h : w.ownsRow base e e' v n xs) (hR : R < base) (u : Value) : (w.setCell ⟨R, j, none⟩ u).ownsRow base e e' v n xs := by
  refine h.kept (row := some R) ⟨rfl, rfl, rfl, by simp [World.setCell], fun k _ hne => Below.heap_setCell _ _ _ _ (by simpa using hne)⟩ ?_
  cases hv : v.ownBlock with
  | none => exact .inl rfl
  | some k => exact .inr fun e1 => by have := (h.lt k hv).1; cases e1; omega
theorem SLs.mark {w0 W : World} {n1 b off n cap H M p : Nat} {s : Nat → Bool} {ov : Value} {ord : List Nat} {dp : Int} (h : SLs w0 W n1 b off n cap H M s ov ord dp) (hp : p < n) : SLs w0 (W.setCell ⟨M, p, none⟩ (.bool true)) n1 b off n cap H M (put s p) ov ord dp := by
  have c : ∀ o, (W.setCell ⟨M, p, none⟩ (.bool true)).cell? ⟨H, o, none⟩ = W.cell? ⟨H, o, none⟩ := fun o => World.cell?_setCell_other _ _ _ _ (by first | (simp; done) | (simp; exact fun e => absurd e.symm h.ne) | (simp; exact fun e => absurd e h.ne) | (simp; omega))
  refine ⟨(c 0).trans h.c0, (c 1).trans h.c1, ⟨(c 2).trans h.c2.1, by simpa using h.c2.2⟩, ⟨(c 3).trans h.c3.1, by simpa using h.c3.2⟩, fun q hq => ⟨?_, by simpa using (h.row q hq).2⟩, own_far' h.ord h.hM.2 _, h.low.setCell h.hM.1 _, h.hH, h.hM, h.ne, by simpa using h.hz⟩
  by_cases e : q = p
  · subst e
    rw [World.cell?_setCell_same' _ _ _ (by rw [(h.row q hq).1]; rfl)]
    simp [put]
  · rw [World.cell?_setCell_other _ _ _ _ (by first | (simp; done) | (simp; exact fun e => absurd e.symm h.ne) | (simp; exact fun e => absurd e h.ne) | (simp; omega)), (h.row q hq).1]
    simp [put, e]
theorem SLs.deep {w0 W : World} {n1 b off n cap H M : Nat} {s : Nat → Bool} {ov : Value} {ord : List Nat} {dp : Int} (h : SLs w0 W n1 b off n cap H M s ov ord dp) (v : Int) : SLs w0 (W.setCell ⟨H, 3, none⟩ (.int .i64 v)) n1 b off n cap H M s ov ord v := by
  have c : ∀ o, o ≠ 3 → (W.setCell ⟨H, 3, none⟩ (.int .i64 v)).cell? ⟨H, o, none⟩ = W.cell? ⟨H, o, none⟩ := fun o ho => World.cell?_setCell_other _ _ _ _ (by first | (simp; done) | (simp; exact fun e => absurd e.symm h.ne) | (simp; exact fun e => absurd e h.ne) | (simp; omega))
  refine ⟨(c 0 (by omega)).trans h.c0, (c 1 (by omega)).trans h.c1, ⟨(c 2 (by omega)).trans h.c2.1, by simpa using h.c2.2⟩, ⟨World.cell?_setCell_same' _ _ _ (by rw [h.c3.1]; rfl), by simpa using h.c3.2⟩, fun q hq => ⟨(World.cell?_setCell_other _ _ _ _ (by first | (simp; done) | (simp; exact fun e => absurd e.symm h.ne) | (simp; exact fun e => absurd e h.ne) | (simp; omega))).trans (h.row q hq).1, by simpa using (h.row q hq).2⟩, own_far' h.ord h.hH.2 _, h.low.setCell h.hH.1 _, h.hH, h.hM, h.ne, by simpa using h.hz⟩
theorem SLs.order {w0 W : World} {n1 b off n cap H M : Nat} {s : Nat → Bool} {ov v : Value} {ord ord' : List Nat} {dp : Int} (h : SLs w0 W n1 b off n cap H M s ov ord dp) (ho : W.ownsRow n1 3 1 v ord'.length (ord'.map fun q : Nat => Value.int .i64 (q : Int))) : SLs w0 (W.setCell ⟨H, 2, none⟩ v) n1 b off n cap H M s v ord' dp := by
  have c : ∀ o, o ≠ 2 → (W.setCell ⟨H, 2, none⟩ v).cell? ⟨H, o, none⟩ = W.cell? ⟨H, o, none⟩ := fun o ho => World.cell?_setCell_other _ _ _ _ (by first | (simp; done) | (simp; exact fun e => absurd e.symm h.ne) | (simp; exact fun e => absurd e h.ne) | (simp; omega))
  refine ⟨(c 0 (by omega)).trans h.c0, (c 1 (by omega)).trans h.c1, ⟨World.cell?_setCell_same' _ _ _ (by rw [h.c2.1]; rfl), by simpa using h.c2.2⟩, ⟨(c 3 (by omega)).trans h.c3.1, by simpa using h.c3.2⟩, fun q hq => ⟨(World.cell?_setCell_other _ _ _ _ (by first | (simp; done) | (simp; exact fun e => absurd e.symm h.ne) | (simp; exact fun e => absurd e h.ne) | (simp; omega))).trans (h.row q hq).1, by simpa using (h.row q hq).2⟩, own_far' ho h.hH.2 _, h.low.setCell h.hH.1 _, h.hH, h.hM, h.ne, by simpa using h.hz⟩

end Go.Proofs.YtolpgafkojlkoabDoor.Vp
