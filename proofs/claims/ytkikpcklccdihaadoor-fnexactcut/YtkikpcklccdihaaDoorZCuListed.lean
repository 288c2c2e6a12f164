/-
  impl: listed.
-/
import Derived.Test.YtkikpcklccdihaaDoorZCaSeq
import Derived.Test.YtkikpcklccdihaaDoorZCuMoved
import Derived.Test.YtkikpcklccdihaaDoorZCuRound
import Derived.Deep.RegionHeld3
namespace Go.Proofs.YtkikpcklccdihaaDoor.Vp
open Go.RowKit Go.Shelf Go.Proofs.YtkikpcklccdihaaDoor.Ca

attribute [local go_sem] Oper.semAt_some

theorem infoInt2 : (Tryd.prog.info? 3).map (fun i => (i.zero, i.size, i.bytes)) = some (some (.int .i64 0), 1, 8) := by kernel_rfl
def zerosInt (n : Nat) : Array Value := madeCells (Value.int .i64 0).cells n
theorem mkInt (n : Nat) (hn : n ≤ 1048576) (w : World) : (Instr.makeSlice 41 (.int .i64 (n : Int)) (.int .i64 (n : Int))).run Tryd.prog w = .ok (.slice (some ⟨w.heap.size, 0, none⟩) n n) (w.alloc (.cells (zerosInt n) 3)) := by
  obtain ⟨i, hi, hz⟩ := Option.map_eq_some_iff.1 infoInt2
  simp only [Prod.mk.injEq] at hz
  obtain ⟨h1, h2, h3⟩ := hz
  have h := run_make (P := Tryd.prog) w 41 3 i _ Tryd.underlying41 hi h1 .i64 .i64 n n (by omega) (Int.le_refl _) (by rw [h3]; omega) (by omega)
  rw [h2] at h
  simpa [zerosInt] using h
theorem zerosInt_at (n q : Nat) (h : q < n) : (zerosInt n)[q]? = some (.int .i64 0) := by
  unfold zerosInt madeCells
  simp [Value.cells, h, Nat.mod_one]
theorem cell_I (W : World) (n q : Nat) (h : q < n) : (W.alloc (.cells (zerosInt n) 3)).cell? ⟨W.heap.size, q, none⟩ = some (.int .i64 0) ∧ (W.alloc (.cells (zerosInt n) 3)).frozen? ⟨W.heap.size, q, none⟩ = false := by
  have e := heap_alloc_new W (.cells (zerosInt n) 3)
  refine ⟨?_, ?_⟩
  · rw [cell_of_row _ _ _ _ _ _ e]
    exact zerosInt_at n q h
  · unfold World.frozen?
    rw [e]
    simp
theorem li_one (W : World) (v : Value) (t : TypeId) : (W.alloc (.cells #[v] t)).cell? ⟨W.heap.size, 0, none⟩ = some v ∧ (W.alloc (.cells #[v] t)).frozen? ⟨W.heap.size, 0, none⟩ = false := by
  constructor <;> simp

/-- The boxes of listed: the account, the answer, the row of places, its box, what is made, what the iterator has caught. -/
structure LiB (W : World) (h n : Nat) (v vo : Value) (pl : Nat → Int) : Prop where
  size : h + 6 ≤ W.heap.size
  a : W.cell? ⟨h, 0, none⟩ = some v
  r : W.cell? ⟨h + 1, 0, none⟩ = some (.slice none 0 0) ∧ W.frozen? ⟨h + 1, 0, none⟩ = false
  row : ∀ q, q < n → W.cell? ⟨h + 2, q, none⟩ = some (.int .i64 (pl q)) ∧ W.frozen? ⟨h + 2, q, none⟩ = false
  pb : W.cell? ⟨h + 3, 0, none⟩ = some (.slice (some ⟨h + 2, 0, none⟩) n n)
  o : W.cell? ⟨h + 4, 0, none⟩ = some vo ∧ W.frozen? ⟨h + 4, 0, none⟩ = false
  c : W.cell? ⟨h + 5, 0, none⟩ = some v
theorem li_new (w : World) (n : Nat) (v : Value) (t u : TypeId) : LiB ((((((w.alloc (.cells #[v] t)).alloc (.cells #[.slice none 0 0] t)).alloc (.cells (zerosInt n) 3)).alloc (.cells #[.slice (some ⟨w.heap.size + 2, 0, none⟩) n n] u)).alloc (.cells #[.slice none 0 0] t)).alloc (.cells #[v] t)) w.heap.size n v (.slice none 0 0) (fun _ => 0) := by
  obtain ⟨w1, e1⟩ : ∃ w1, w.alloc (.cells #[v] t) = w1 := ⟨_, rfl⟩
  obtain ⟨w2, e2⟩ : ∃ w2, w1.alloc (.cells #[.slice none 0 0] t) = w2 := ⟨_, rfl⟩
  obtain ⟨w3, e3⟩ : ∃ w3, w2.alloc (.cells (zerosInt n) 3) = w3 := ⟨_, rfl⟩
  obtain ⟨w4, e4⟩ : ∃ w4, w3.alloc (.cells #[.slice (some ⟨w.heap.size + 2, 0, none⟩) n n] u) = w4 := ⟨_, rfl⟩
  obtain ⟨w5, e5⟩ : ∃ w5, w4.alloc (.cells #[.slice none 0 0] t) = w5 := ⟨_, rfl⟩
  obtain ⟨w6, e6⟩ : ∃ w6, w5.alloc (.cells #[v] t) = w6 := ⟨_, rfl⟩
  rw [e1, e2, e3, e4, e5, e6]
  have z1 : w1.heap.size = w.heap.size + 1 := by rw [← e1]; simp
  have z2 : w2.heap.size = w.heap.size + 2 := by rw [← e2]; simp; omega
  have z3 : w3.heap.size = w.heap.size + 3 := by rw [← e3]; simp; omega
  have z4 : w4.heap.size = w.heap.size + 4 := by rw [← e4]; simp; omega
  have z5 : w5.heap.size = w.heap.size + 5 := by rw [← e5]; simp; omega
  have z6 : w6.heap.size = w.heap.size + 6 := by rw [← e6]; simp; omega
  have b56 : Below w5.heap.size w5 w6 := by rw [← e6]; exact (Below.refl _ _).alloc (Nat.le_refl _) _
  have b46 : Below w4.heap.size w4 w6 := (by rw [← e5]; exact (Below.refl _ _).alloc (Nat.le_refl _) _ : Below w4.heap.size w4 w5).trans (b56.mono (by omega))
  have b36 : Below w3.heap.size w3 w6 := (by rw [← e4]; exact (Below.refl _ _).alloc (Nat.le_refl _) _ : Below w3.heap.size w3 w4).trans (b46.mono (by omega))
  have b26 : Below w2.heap.size w2 w6 := (by rw [← e3]; exact (Below.refl _ _).alloc (Nat.le_refl _) _ : Below w2.heap.size w2 w3).trans (b36.mono (by omega))
  have b16 : Below w1.heap.size w1 w6 := (by rw [← e2]; exact (Below.refl _ _).alloc (Nat.le_refl _) _ : Below w1.heap.size w1 w2).trans (b26.mono (by omega))
  have n1 := li_one w v t
  have n2 := li_one w1 (.slice none 0 0) t
  have n4 := li_one w3 (.slice (some ⟨w.heap.size + 2, 0, none⟩) n n) u
  have n5 := li_one w4 (.slice none 0 0) t
  have n6 := li_one w5 v t
  rw [e1] at n1
  rw [e2, z1] at n2
  rw [e4, z3] at n4
  rw [e5, z4] at n5
  rw [e6, z5] at n6
  refine ⟨by omega, (b16.cell (p := ⟨w.heap.size, 0, none⟩) (by show w.heap.size < _; omega)).trans n1.1, ⟨(b26.cell (p := ⟨w.heap.size + 1, 0, none⟩) (by show w.heap.size + 1 < _; omega)).trans n2.1, (b26.frozen (p := ⟨w.heap.size + 1, 0, none⟩) (by show w.heap.size + 1 < _; omega)).trans n2.2⟩, fun q hq => ?_, (b46.cell (p := ⟨w.heap.size + 3, 0, none⟩) (by show w.heap.size + 3 < _; omega)).trans n4.1, ⟨(b56.cell (p := ⟨w.heap.size + 4, 0, none⟩) (by show w.heap.size + 4 < _; omega)).trans n5.1, (b56.frozen (p := ⟨w.heap.size + 4, 0, none⟩) (by show w.heap.size + 4 < _; omega)).trans n5.2⟩, n6.1⟩
  have n3 := cell_I w2 n q hq
  rw [e3, z2] at n3
  exact ⟨(b36.cell (p := ⟨w.heap.size + 2, q, none⟩) (by show w.heap.size + 2 < _; omega)).trans n3.1, (b36.frozen (p := ⟨w.heap.size + 2, q, none⟩) (by show w.heap.size + 2 < _; omega)).trans n3.2⟩
theorem LiB.below {W W' : World} {h n B : Nat} {v vo : Value} {pl : Nat → Int} (b : LiB W h n v vo pl) (hb : Below B W W') (hB : h + 6 ≤ B) : LiB W' h n v vo pl := by
  have c : ∀ k o, k < B → W'.cell? ⟨k, o, none⟩ = W.cell? ⟨k, o, none⟩ := fun k o hk => hb.cell (p := ⟨k, o, none⟩) hk
  have f : ∀ k o, k < B → W'.frozen? ⟨k, o, none⟩ = W.frozen? ⟨k, o, none⟩ := fun k o hk => hb.frozen (p := ⟨k, o, none⟩) hk
  exact ⟨Nat.le_trans b.size hb.size, (c _ _ (by omega)).trans b.a, ⟨(c _ _ (by omega)).trans b.r.1, (f _ _ (by omega)).trans b.r.2⟩, fun q hq => ⟨(c _ _ (by omega)).trans (b.row q hq).1, (f _ _ (by omega)).trans (b.row q hq).2⟩, (c _ _ (by omega)).trans b.pb, ⟨(c _ _ (by omega)).trans b.o.1, (f _ _ (by omega)).trans b.o.2⟩, (c _ _ (by omega)).trans b.c⟩
theorem LiB.place {W : World} {h n q0 : Nat} {v vo : Value} {pl : Nat → Int} (b : LiB W h n v vo pl) (hq0 : q0 < n) (x : Int) : LiB (W.setCell ⟨h + 2, q0, none⟩ (.int .i64 x)) h n v vo (fun q => if q = q0 then x else pl q) := by
  have c : ∀ k o, k ≠ h + 2 → (W.setCell ⟨h + 2, q0, none⟩ (.int .i64 x)).cell? ⟨k, o, none⟩ = W.cell? ⟨k, o, none⟩ := fun k o hk => cell_far _ _ _ _ (by simpa using fun e => hk e.symm)
  refine ⟨by simpa using b.size, (c _ _ (by omega)).trans b.a, ⟨(c _ _ (by omega)).trans b.r.1, by simpa using b.r.2⟩, fun q hq => ⟨?_, by simpa using (b.row q hq).2⟩, (c _ _ (by omega)).trans b.pb, ⟨(c _ _ (by omega)).trans b.o.1, by simpa using b.o.2⟩, (c _ _ (by omega)).trans b.c⟩
  by_cases e : q = q0
  · subst e
    rw [if_pos rfl]
    exact World.cell?_setCell_same' _ _ _ (by rw [(b.row q hq).1]; rfl)
  · rw [if_neg e, World.cell?_setCell_other _ _ _ _ (by simp)]
    exact (b.row q hq).1
theorem LiB.out {W : World} {h n : Nat} {v vo : Value} {pl : Nat → Int} (b : LiB W h n v vo pl) (u : Value) : LiB (W.setCell ⟨h + 4, 0, none⟩ u) h n v u pl := by
  have c : ∀ k o, k ≠ h + 4 → (W.setCell ⟨h + 4, 0, none⟩ u).cell? ⟨k, o, none⟩ = W.cell? ⟨k, o, none⟩ := fun k o hk => cell_far _ _ _ _ (by simpa using fun e => hk e.symm)
  exact ⟨by simpa using b.size, (c _ _ (by omega)).trans b.a, ⟨(c _ _ (by omega)).trans b.r.1, by simpa using b.r.2⟩, fun q hq => ⟨(c _ _ (by omega)).trans (b.row q hq).1, by simpa using (b.row q hq).2⟩, (c _ _ (by omega)).trans b.pb, ⟨World.cell?_setCell_same' _ _ _ (by rw [b.o.1]; rfl), by simpa using b.o.2⟩, (c _ _ (by omega)).trans b.c⟩

/-- Where a place stands in a list, 0 if it does not. -/
def plOf (pre : List Nat) (q : Nat) : Int := if q ∈ pre then ((pre.idxOf q : Nat) : Int) else 0
theorem plOf_more {pre : List Nat} {x : Nat} (h : x ∉ pre) : plOf (pre ++ [x]) = fun q => if q = x then (pre.length : Int) else plOf pre q := by
  funext q
  unfold plOf
  by_cases e : q = x
  · subst e
    rw [if_pos (by simp), if_pos rfl, List.idxOf_append, if_neg h]
    simp
  · rw [if_neg e]
    by_cases hq : q ∈ pre
    · rw [if_pos (by simp [hq]), if_pos hq, List.idxOf_append, if_pos hq]
    · rw [if_neg (by simp [hq, e]), if_neg hq]

/-- What the region reads: the account's box, the box of the places, the cells of the deed. -/
def ListS (h b off n cap q b0 o0 e0 b1 o1 e1 : Nat) (x : Deed) (W : World) : Prop :=
  W.cell? ⟨h, 0, none⟩ = some (.slice (some ⟨b, off, none⟩) n cap) ∧ W.cell? ⟨h + 3, 0, none⟩ = some (.slice (some ⟨h + 2, 0, none⟩) n n) ∧ W.cell? ⟨b, off + q * 6, none⟩ = some (.string x.name) ∧ W.cell? ⟨b, off + q * 6 + 1, none⟩ = some (.int .i64 x.kind) ∧ W.cell? ⟨b, off + q * 6 + 2, none⟩ = some (.int .i64 x.code) ∧ W.cell? ⟨b, off + q * 6 + 3, none⟩ = some (.string x.text) ∧ W.cell? ⟨b, off + q * 6 + 4, none⟩ = some (.slice (some ⟨b0, o0, none⟩) x.actN e0) ∧ W.cell? ⟨b, off + q * 6 + 5, none⟩ = some (.slice (some ⟨b1, o1, none⟩) x.linksN e1)
theorem ListS.below {h b off n cap q b0 o0 e0 b1 o1 e1 B : Nat} {x : Deed} {W W' : World} (s : ListS h b off n cap q b0 o0 e0 b1 o1 e1 x W) (hb : Below B W W') (h1 : h + 3 < B) (h2 : b < B) : ListS h b off n cap q b0 o0 e0 b1 o1 e1 x W' := by
  obtain ⟨s0, s1, s2, s3, s4, s5, s6, s7⟩ := s
  exact ⟨(hb.cell (p := ⟨h, _, none⟩) (by show h < B; omega)).trans s0, (hb.cell (p := ⟨h + 3, _, none⟩) h1).trans s1, (hb.cell (p := ⟨b, _, none⟩) h2).trans s2, (hb.cell (p := ⟨b, _, none⟩) h2).trans s3, (hb.cell (p := ⟨b, _, none⟩) h2).trans s4, (hb.cell (p := ⟨b, _, none⟩) h2).trans s5, (hb.cell (p := ⟨b, _, none⟩) h2).trans s6, (hb.cell (p := ⟨b, _, none⟩) h2).trans s7⟩
theorem ListS.set {h b off n cap q b0 o0 e0 b1 o1 e1 : Nat} {x : Deed} {W : World} (s : ListS h b off n cap q b0 o0 e0 b1 o1 e1 x W) (h2 : b < h) (v : Value) : ListS h b off n cap q b0 o0 e0 b1 o1 e1 x (W.setCell ⟨h + 4, 0, none⟩ v) := by
  obtain ⟨s0, s1, s2, s3, s4, s5, s6, s7⟩ := s
  have c : ∀ k o, k ≠ h + 4 → (W.setCell ⟨h + 4, 0, none⟩ v).cell? ⟨k, o, none⟩ = W.cell? ⟨k, o, none⟩ := fun k o hk => cell_far _ _ _ _ (by simpa using fun e => hk e.symm)
  exact ⟨(c _ _ (by omega)).trans s0, (c _ _ (by omega)).trans s1, (c _ _ (by omega)).trans s2, (c _ _ (by omega)).trans s3, (c _ _ (by omega)).trans s4, (c _ _ (by omega)).trans s5, (c _ _ (by omega)).trans s6, (c _ _ (by omega)).trans s7⟩
theorem six_cells (w : World) (v0 v1 v2 v3 v4 v5 : Value) (t : TypeId) : ∀ j u, [v0, v1, v2, v3, v4, v5][j]? = some u → (w.alloc (.cells #[v0, v1, v2, v3, v4, v5] t)).cell? ((⟨w.heap.size, 0, none⟩ : Addr).add j) = some u := by
  intro j u hu
  have hj : j < 6 := by have := (List.getElem?_eq_some_iff.1 hu).1; simpa using this
  have h := six_new w v0 v1 v2 v3 v4 v5 t
  rw [addr_add, Nat.zero_add]
  rcases (show j = 0 ∨ j = 1 ∨ j = 2 ∨ j = 3 ∨ j = 4 ∨ j = 5 by omega) with rfl | rfl | rfl | rfl | rfl | rfl
  all_goals simp only [List.getElem?_cons_zero, List.getElem?_cons_succ, Option.some.injEq] at hu; subst hu
  · exact h.c0.1
  · exact h.c1.1
  · exact h.c2.1
  · exact h.c3.1
  · exact h.c4.1
  · exact h.c5.1
/-- What stands behind the append and the store. -/
theorem listed_end {w W1 W2 W4 W5 : World} {n N : Nat} {v vo v' : Value} {R : List DR} {r : DR} {pl : Nat → Int} (hN : w.heap.size + 6 ≤ N) (h2 : w.heap.size + 6 ≤ W2.heap.size) (U4 : Upd2 49 w.heap.size N W1 W4) (B4 : Below w.heap.size w W4) (K4 : LiB W4 w.heap.size n v vo pl) (D2 : DRow W2 (w.heap.size + 6) vo R) (D4 : DRow W4 (w.heap.size + 6) vo R) (G4 : DSub W4 W2.heap.size r)
    (hown : W5.ownsRow (w.heap.size + 6) 49 6 v' (R.length + 1) (R.flatMap ddV ++ ddV r)) (hgr : W4.grownBy W5 vo.ownBlock) : Below (w.heap.size + 6) W4 W5 ∧ LiB W5 w.heap.size n v vo pl ∧ Upd2 49 w.heap.size N W1 (W5.setCell ⟨w.heap.size + 4, 0, none⟩ v') ∧ LiB (W5.setCell ⟨w.heap.size + 4, 0, none⟩ v') w.heap.size n v v' pl ∧ DRow (W5.setCell ⟨w.heap.size + 4, 0, none⟩ v') (w.heap.size + 6) v' (R ++ [r]) ∧ Below w.heap.size w (W5.setCell ⟨w.heap.size + 4, 0, none⟩ v') := by
  have E5 : Below (w.heap.size + 6) W4 W5 := Below.grown (Below.refl _ _) hgr (by have := K4.size; omega) (fun j e => (D4.own.lt j e).1)
  have L5 := K4.below E5 (Nat.le_refl _)
  have D5 := D2.more D4 h2 G4 hown hgr
  have U5 : Upd2 49 w.heap.size N W4 W5 := ⟨E5.os, E5.tape, E5.output, E5.size, fun k hk ho => by
    rcases ho with ho | ⟨_, ho⟩
    · exact E5.block k (by omega)
    · exact hgr.block k hk (fun e => ho (cu_ty D4.own k e.symm))⟩
  exact ⟨E5, L5, (U4.trans U5).trans (Upd2.setCell W5 (p := ⟨w.heap.size + 4, 0, none⟩) (by show w.heap.size ≤ w.heap.size + 4; omega) (.inl (by show w.heap.size + 4 < N; omega)) v'), L5.out v', D5.set (e := 0) (.inl (by show w.heap.size + 4 < w.heap.size + 6; omega)) v', (B4.trans (E5.mono (by omega))).setCell (by show w.heap.size ≤ w.heap.size + 4; omega) v'⟩
theorem plOf_in {pr L : List Nat} {q y : Nat} (hp : pr ++ [q] <+: L) (hy : y ∈ pr) : plOf (pr ++ [q]) y = ((L.idxOf y : Nat) : Int) := by
  obtain ⟨t, rfl⟩ := hp
  have hm : y ∈ pr ++ [q] := List.mem_append_left _ hy
  unfold plOf
  rw [if_pos hm, List.idxOf_append, List.idxOf_append, if_pos hy, if_pos hm, List.idxOf_append, if_pos hy]

set_option maxRecDepth 100000 in
set_option maxHeartbeats 4000000 in
theorem listed_any (b off n cap : Nat) (f : Nat → Deed) (w : World) (hA : Ahead f n) (hn1 : 1 ≤ n) (hn : (n : Int) ≤ 400) (hf : RowDeedS w b off n f) (hlk : ∀ p, p < n → (f p).linksN ≤ 200) (hfit : ∀ p, p < n → FitsDeed (f p)) :
    Calls Tryd.prog 20 #[.agg #[.slice (some ⟨b, off, none⟩) n cap]] w fun e w' => ∃ a c R, e = .returned (.agg #[.slice a R.length c]) ∧ DRow w' (w.heap.size + 6) (.slice a R.length c) R ∧ R.map (·.1) = cutRaw f (n - 1) ∧ Below w.heap.size w w' := by
  refine (callsIn_wide (n := 3)).1 ?_
  have HF := hide hf
  have HA := hide hA
  have HLK := hide hlk
  have HFT := hide hfit
  clear hf hA hlk hfit
  have A00 := ((((((Below.refl w.heap.size w).alloc (Nat.le_refl _) (.cells #[.slice (some ⟨b, off, none⟩) n cap] 28)).alloc (by simp) (.cells #[.slice none 0 0] 28)).alloc (by simp; omega) (.cells (zerosInt n) 3)).alloc (by simp; omega) (.cells #[.slice (some ⟨w.heap.size + 2, 0, none⟩) n n] 41)).alloc (by simp; omega) (.cells #[.slice none 0 0] 28)).alloc (by simp; omega) (.cells #[.slice (some ⟨b, off, none⟩) n cap] 28)
  have A0 := hide A00
  clear A00
  have O0 := hide (li_new w n (.slice (some ⟨b, off, none⟩) n cap) 28 41)
  have hmk := fun w => mkInt n (by omega) w
  refine callsIn_of_wp_marks Tryd.func20 rfl trivial ?_ rfl
  simp only [Tryd.ntmps20, List.size_toArray, List.length_cons, List.length_nil, Nat.reduceAdd, Nat.reduceSub, Array.replicate_succ, Array.replicate_zero, List.push_toArray, List.append_toArray, List.nil_append, List.cons_append]
  gi_wp2_with (refine ⟨trivial, ?_⟩; gi_at_call 30; refine (listing_in _ _ _).mono ?_; rintro e w' ⟨rfl, rfl⟩)
  generalize (((((w.alloc (.cells #[.slice (some ⟨b, off, none⟩) n cap] 28)).alloc (.cells #[.slice none 0 0] 28)).alloc (.cells (zerosInt n) 3)).alloc (.cells #[.slice (some ⟨w.heap.size + 2, 0, none⟩) n n] 41)).alloc (.cells #[.slice none 0 0] 28)).alloc (.cells #[.slice (some ⟨b, off, none⟩) n cap] 28) = W at A0 O0 ⊢
  obtain ⟨p0, hp0⟩ : ∃ p0, n = p0 + 1 := ⟨n - 1, by omega⟩
  obtain ⟨L, hL⟩ : ∃ L, L = (listing f n).map fun z => z.1 := ⟨_, rfl⟩
  have HLC : Hid (L = cutL f (n - 1)) := by
    show L = _
    rw [hL, hp0]
    exact cutL_listing p0
  have HGD : Hid (GoodL f [] L) := by
    show GoodL f [] L
    rw [HLC.out]
    exact cutL_good HA.out (by omega)
  have HLL := hide hL
  clear hL hp0 hmk
  have hsz := O0.out.size
  refine wpIn_rangeFunc_T2 (T := 49) (B := 4) (F := Fence.wide) rfl (by omega) (gf := 47) (lb := #[.pointer (some ⟨w.heap.size + 5, 0, none⟩)]) rfl trivial (enters_of Tryd.func47 (by kernel_rfl) rfl) (base := w.heap.size) (by omega)
    (listing_seq2 (T := 49) ⟨by decide, by decide⟩ w b off n cap (w.heap.size + 5) (3 - 1) f W HA.out hn1 hn HF.out.row HLK.out A0.out O0.out.c (by omega)) (Below.refl _ _) (fun _ => rfl)
    (fun pre Wx => ∃ vo R, Hid (LiB Wx w.heap.size n (.slice (some ⟨b, off, none⟩) n cap) vo (plOf (pre.map fun z => z.1))) ∧ Hid (DRow Wx (w.heap.size + 6) vo R) ∧ Hid (R.map (·.1) = (pre.map fun z => z.1).map (mv f L)) ∧ Hid (Below w.heap.size w Wx))
    (fun _ _ _ => False)
    (fun s A C h hB => by
      obtain ⟨vo, R, h1, h2, h3, h4⟩ := h
      exact ⟨vo, R, h1.out.below hB.low (by omega), h2.out.itr hB, h3, h4.out.trans (hB.low.mono (by omega))⟩)
    (fun _ _ _ _ h _ => h.elim)
    ⟨.slice none 0 0, [], O0.out, dRow_nil _ _, rfl, A0.out⟩
    (fun x => { tmps := #[.agg #[.slice (some ⟨b, off, none⟩) n cap], .pointer (some ⟨w.heap.size, 0, none⟩), .pointer (some ⟨w.heap.size + 1, 0, none⟩), .pointer (some ⟨w.heap.size + 3, 0, none⟩), .pointer (some ⟨w.heap.size + 4, 0, none⟩), .int .i64 (x.1 : Int), .pointer (some ⟨w.heap.size, 0, none⟩), .slice (some ⟨b, off, none⟩) n cap, .int .i64 (n : Int), .slice (some ⟨w.heap.size + 2, 0, none⟩) n n, .agg #[.slice (some ⟨b, off, none⟩) n cap], .func (.func 47) #[] #[.pointer (some ⟨w.heap.size + 5, 0, none⟩)], .int .i64 (x.1 : Int), .int .i64 (x.2 : Int), undef, undef, undef, undef, undef, undef, undef, undef, undef, undef, undef, undef, undef, undef, undef, undef, undef, undef, undef], defers := [] }) ?assign ?body ?done ?stop
  case assign =>
    intro l x W K hK
    gi_wp2
    exact hK
  case stop =>
    rintro D0 c pre W1 hD hpre h hK
    exact h.elim
  case done =>
    rintro D0 ys W1 hD rfl ⟨vo, R, LB, DB, HM, HB⟩ hK
    obtain ⟨ao, co, rfl⟩ := cu_slice DB.out.own
    obtain ⟨hr, hrf⟩ := LB.out.r
    have ho := LB.out.o.1
    have K1 := hide ((KeepsOthers.setCell W1 ⟨w.heap.size + 1, 0, none⟩ (.slice ao R.length co)).same D0 _ hK rfl)
    have B1 := hide (HB.out.setCell (p := ⟨w.heap.size + 1, 0, none⟩) (by show _ ≤ _ + 1; omega) (.slice ao R.length co))
    have C1 := hide (World.cell?_setCell_same' W1 ⟨w.heap.size + 1, 0, none⟩ (.slice ao R.length co) (by rw [hr]; rfl))
    have D1 := hide (DB.out.set (p := ⟨w.heap.size + 1, 0, none⟩) (e := 0) (.inl (by show w.heap.size + 1 < w.heap.size + 6; omega)) (.slice ao R.length co))
    gi_wp2
    refine ⟨by simp, .inl ⟨_, _, rfl, run_takeDeferred K1.out, ?_⟩⟩
    have P1 : Itr 4 W.heap.size (W1.setCell ⟨w.heap.size + 1, 0, none⟩ (.slice ao R.length co)) _ := Itr.putObj (W1.setCell ⟨w.heap.size + 1, 0, none⟩ (.slice ao R.length co)) hD (Array.getElem?_eq_some_iff.1 K1.out).1 (fun c e z h => by have := K1.out.symm.trans h; cases this) (.deferred none)
    have c := (P1.low.cell (p := ⟨w.heap.size + 1, 0, none⟩) (by show w.heap.size + 1 < W.heap.size; omega)).trans C1.out
    refine ⟨.agg #[.slice ao R.length co], by simp [results, Tryd.results20, go_sem, c], ao, co, R, rfl, D1.out.itr P1, ?_, B1.out.trans (P1.low.mono (by omega))⟩
    rw [HM.out, ← HLL.out, HLC.out]
    rfl
  case body =>
    rintro l pre ⟨q, dd⟩ W1 ⟨hox, hpre⟩ ⟨vo, R, LB, DB, HM, HB⟩ hz
    dsimp only at hox
    have hpx : Hid (q ∉ pre.map (fun z => z.1) ∧ ∀ i, i < (f q).linksN → ((f q).links i).ask = true → ((f q).links i).at_.toNat ∈ pre.map (fun z => z.1)) := by
      obtain ⟨t, ht⟩ := hpre
      have := goodL_at (p := pre.map fun z => z.1) (x := q) (q := t.map fun z => z.1) HGD.out (by rw [HLL.out, ← ht]; simp)
      rw [List.nil_append] at this
      exact this
    have hpl : Hid ((pre.map fun z => z.1) ++ [q] <+: L) := by
      obtain ⟨t, ht⟩ := hpre
      exact ⟨t.map fun z => z.1, by rw [HLL.out, ← ht]; simp⟩
    generalize hP : pre.map (fun z => z.1) = pr at LB HM hpx hpl
    have HPE := hide hP
    clear hP hpre
    have hRl : R.length = pr.length := by have := congrArg List.length HM.out; simpa using this
    have hpn : pr.length + 1 ≤ 400 := by
      have h1 := hpl.out.length_le
      have h2 := (cutL_len HA.out (show n - 1 < n by omega)).1
      rw [← HLC.out] at h2
      simp at h1
      omega
    have HRL := hide hRl
    have hR4 : (R.length : Int) ≤ 400 := by omega
    clear hRl hpn
    obtain ⟨ao, co, rfl⟩ := cu_slice DB.out.own
    have hq0 : (0 : Int) ≤ (q : Int) := by omega
    have hqn : (q : Int) < n := by omega
    obtain ⟨r0, z0⟩ := LB.out.row q hox
    obtain ⟨o0, y0⟩ := LB.out.o
    have pb0 := LB.out.pb
    have L2 : Hid (LiB (W1.setCell ⟨w.heap.size + 2, q, none⟩ (.int .i64 (R.length : Int))) w.heap.size n (.slice (some ⟨b, off, none⟩) n cap) (.slice ao R.length co) (plOf (pr ++ [q]))) := by
      show LiB _ _ _ _ _ _
      rw [plOf_more hpx.out.1, ← HRL.out]
      exact LB.out.place hox _
    have D2 := hide (DB.out.set (p := ⟨w.heap.size + 2, q, none⟩) (e := 0) (.inl (by show w.heap.size + 2 < w.heap.size + 6; omega)) (.int .i64 (R.length : Int)))
    have B2 := hide (HB.out.setCell (p := ⟨w.heap.size + 2, q, none⟩) (by show w.heap.size ≤ w.heap.size + 2; omega) (.int .i64 (R.length : Int)))
    have U2 := hide (Upd2.setCell (T := 49) (base := w.heap.size) (n₀ := W.heap.size) W1 (p := ⟨w.heap.size + 2, q, none⟩) (by show w.heap.size ≤ w.heap.size + 2; omega) (.inl (by show w.heap.size + 2 < W.heap.size; omega)) (.int .i64 (R.length : Int)))
    gi_wp2_with fail
    generalize W1.setCell ⟨w.heap.size + 2, q, none⟩ (.int .i64 (R.length : Int)) = W2 at L2 D2 B2 U2 ⊢
    clear r0 z0 o0 y0 pb0 LB DB HB
    obtain ⟨c0, c1, c2, c3, ⟨b0, o0, e0, c4, h4⟩, ⟨b1, o1, e1, c5, h5⟩⟩ := (HF.out.below B2.out (Nat.le_refl _)).2 q hox
    have ca := L2.out.a
    have cp := L2.out.pb
    obtain ⟨co1, co2⟩ := L2.out.o
    have hb0 : w.heap.size + 2 < W2.heap.size := by have := L2.out.size; omega
    have hb6 : w.heap.size + 6 ≤ W2.heap.size := L2.out.size
    have hbw : b < w.heap.size := HF.out.1
    have HPL : Hid (∀ j, j < (f q).linksN → ((f q).links j).ask = true → 0 ≤ ((f q).links j).at_ ∧ ((f q).links j).at_.toNat < n ∧ W2.drew.cell? ⟨w.heap.size + 2, ((f q).links j).at_.toNat, none⟩ = some (.int .i64 ((L.idxOf ((f q).links j).at_.toNat : Nat) : Int))) := by
      intro j hj ha
      obtain ⟨ha1, ha2⟩ := HA.out q hox j hj ha
      refine ⟨ha2, by omega, ?_⟩
      rw [← plOf_in hpl.out (hpx.out.2 j hj ha)]
      exact (L2.out.row _ (by omega)).1
    have H4 : Hid (RowIns W2.drew b0 o0 (f q).actN (f q).act) := h4.below (Below.refl W2.heap.size W2).drew (Nat.le_refl _)
    have H5 : Hid (RowLink W2.drew b1 o1 (f q).linksN (f q).links) := h5.below (Below.refl W2.heap.size W2).drew (Nat.le_refl _)
    obtain ⟨i1, hi, hy0, hy1, hy2⟩ := info_parts infoDeed
    have hS0 : ListS w.heap.size b off n cap q b0 o0 e0 b1 o1 e1 (f q) W2.drew := ⟨ca, cp, c0, c1, c2, c3, c4, c5⟩
    clear h4 h5 ca cp c0 c1 c2 c3 c4 c5
    refine wpIn_region_round (ListS w.heap.size b off n cap q b0 o0 e0 b1 o1 e1 (f q)) (by kernel_rfl) (by kernel_rfl) (by rintro ⟨a, w, h⟩; exact h) ?_
    -- REGION
    refine wpAnyH_take (i := 0) (oi := { dst := some 20, op := Op.fieldAddr 28 (Operand.tmp 4) 0, type := 0, pos := "l7_keep.go:36", after := #[], guard := none }) (v := ?_) rfl (by kernel_rfl) (by kernel_rfl) (by kernel_rfl) (fun _ _ _ h => h) (Or.inl ⟨by rfl, ?_⟩) hS0 ?_
    rotate_left
    · (intro w hSw; obtain ⟨s0, s1, s2, s3, s4, s5, s6, s7⟩ := hSw; go_simp)
      (try with_reducible rfl)
    (try simp only [Act.put, List.setIfInBounds_toArray, List.set_cons_zero, List.set_cons_succ])
    refine wpAnyH_take (i := 2) (oi := { dst := some 22, op := Op.fieldAddr 28 (Operand.tmp 1) 0, type := 0, pos := "l7_keep.go:36", after := #[], guard := none }) (v := ?_) rfl (by kernel_rfl) (by kernel_rfl) (by kernel_rfl) (fun _ _ _ h => h) (Or.inl ⟨by rfl, ?_⟩) hS0 ?_
    rotate_left
    · (intro w hSw; obtain ⟨s0, s1, s2, s3, s4, s5, s6, s7⟩ := hSw; go_simp)
      (try with_reducible rfl)
    (try simp only [Act.put, List.setIfInBounds_toArray, List.set_cons_zero, List.set_cons_succ])
    refine wpAnyH_take (i := 3) (oi := { dst := some 23, op := Op.load 26 (Operand.tmp 22), type := 26, pos := "l7_keep.go:36", after := #[{ on := 2, ground := Ground.data }], guard := none }) (v := ?_) rfl (by kernel_rfl) (by kernel_rfl) (by kernel_rfl) (fun _ _ _ h => h) (Or.inl ⟨by rfl, ?_⟩) hS0 ?_
    rotate_left
    · (intro w hSw; obtain ⟨s0, s1, s2, s3, s4, s5, s6, s7⟩ := hSw; go_simp)
      (try with_reducible rfl)
    (try simp only [Act.put, List.setIfInBounds_toArray, List.set_cons_zero, List.set_cons_succ])
    refine wpAnyH_take (i := 4) (oi := { dst := some 24, op := Op.move (Operand.tmp 5), type := 3, pos := "l7_keep.go:36", after := #[], guard := none }) (v := ?_) rfl (by kernel_rfl) (by kernel_rfl) (by kernel_rfl) (fun _ _ _ h => h) (Or.inl ⟨by rfl, ?_⟩) hS0 ?_
    rotate_left
    · (intro w hSw; obtain ⟨s0, s1, s2, s3, s4, s5, s6, s7⟩ := hSw; go_simp)
      (try with_reducible rfl)
    (try simp only [Act.put, List.setIfInBounds_toArray, List.set_cons_zero, List.set_cons_succ])
    refine wpAnyH_take (i := 5) (oi := { dst := some 25, op := Op.indexAddr 26 (Operand.tmp 23) (Operand.tmp 24), type := 0, pos := "l7_keep.go:36", after := #[{ on := 3, ground := Ground.data }, { on := 4, ground := Ground.data }], guard := none }) (v := ?_) rfl (by kernel_rfl) (by kernel_rfl) (by kernel_rfl) (fun _ _ _ h => h) (Or.inl ⟨by rfl, ?_⟩) hS0 ?_
    rotate_left
    · (intro w hSw; obtain ⟨s0, s1, s2, s3, s4, s5, s6, s7⟩ := hSw; go_simp)
      (try with_reducible rfl)
    (try simp only [Act.put, List.setIfInBounds_toArray, List.set_cons_zero, List.set_cons_succ])
    refine wpAnyH_take (i := 6) (oi := { dst := some 26, op := Op.load 49 (Operand.tmp 25), type := 49, pos := "l7_keep.go:36", after := #[{ on := 5, ground := Ground.data }], guard := none }) (v := ?_) rfl (by kernel_rfl) (by kernel_rfl) (by kernel_rfl) (fun _ _ _ h => h) (Or.inl ⟨by rfl, ?_⟩) hS0 ?_
    rotate_left
    · (intro w hSw; obtain ⟨s0, s1, s2, s3, s4, s5, s6, s7⟩ := hSw; go_simp)
      (try with_reducible rfl)
    (try simp only [Act.put, List.setIfInBounds_toArray, List.set_cons_zero, List.set_cons_succ])
    refine wpAnyH_take (i := 7) (oi := { dst := some 27, op := Op.load 41 (Operand.tmp 3), type := 41, pos := "l7_keep.go:36", after := #[], guard := none }) (v := ?_) rfl (by kernel_rfl) (by kernel_rfl) (by kernel_rfl) (fun _ _ _ h => h) (Or.inl ⟨by rfl, ?_⟩) hS0 ?_
    rotate_left
    · (intro w hSw; obtain ⟨s0, s1, s2, s3, s4, s5, s6, s7⟩ := hSw; go_simp)
      (try with_reducible rfl)
    (try simp only [Act.put, List.setIfInBounds_toArray, List.set_cons_zero, List.set_cons_succ])
    refine wpAnyH_ready (rs := [1, 8]) (by kernel_rfl) (by simp) ?_
    refine AllReadyH.cons (o := { dst := some 21, op := Op.load 26 (Operand.tmp 20), type := 26, pos := "l7_keep.go:36", after := #[{ on := 0, ground := Ground.data }], guard := none }) rfl (fun K hK => ?_) ?_
    · go_simp
      refine hK.out _ _ hS0 (fun hHeld => ?_)
      clear hK K hHeld
      (try simp only [Act.put, List.setIfInBounds_toArray, List.set_cons_zero, List.set_cons_succ])
      refine wpAnyH_ready (rs := [8]) (by kernel_rfl) (by simp) ?_
      refine AllReadyH.cons (o := { dst := some 28, op := Op.call { callee := Callee.value (Operand.func 31), args := #[Operand.tmp 26, Operand.tmp 27], argTypes := #[49, 41] }, type := 49, pos := "l7_keep.go:36", after := #[{ on := 6, ground := Ground.data }, { on := 7, ground := Ground.data }], guard := none }) rfl (fun K hK => ?_) ?_
      · go_simp
        refine (moved_any (f q) b0 o0 e0 b1 o1 e1 (w.heap.size + 2) n n L W2.drew (HFT.out q hox) H4.out H5.out hb0 HPL.out).mono ?_
        rintro e W3 ⟨a4, d4, a5, d5, rfl, hDS, hB3⟩
        have E3 : Below W2.heap.size W2 W3 := ((Below.refl W2.heap.size W2).drew).trans hB3
        have E4 := E3.alloc E3.size (.cells #[.string (f q).name, .int .i64 (f q).kind, .int .i64 (f q).code, .string (f q).text, .slice a4 (f q).actN d4, .slice a5 (f q).linksN d5] 49)
        have F4 : Below W3.heap.size W3 (W3.alloc (.cells #[.string (f q).name, .int .i64 (f q).kind, .int .i64 (f q).code, .string (f q).text, .slice a4 (f q).actN d4, .slice a5 (f q).linksN d5] 49)) := (Below.refl W3.heap.size W3).alloc (Nat.le_refl _) _
        have hS3 := hS0.below hB3 (by show w.heap.size + 3 < W2.heap.size; omega) (by show b < W2.heap.size; omega)
        have hS4 := hS3.below F4 (by have := E3.size; omega) (by have := E3.size; omega)
        obtain ⟨co3, _⟩ := (L2.out.below E3 hb6).o
        obtain ⟨co4, cz4⟩ := (L2.out.below E4 hb6).o
        have K4 := hide (L2.out.below E4 hb6)
        have D4 := hide (D2.out.below E4 (Nat.le_refl _))
        have G4 := hide (hDS.below F4 (Nat.le_refl _))
        have B4 := hide (B2.out.trans (E4.mono B2.out.size))
        have U4 := hide (U2.out.trans (Upd2.of_below E4 (Nat.le_refl _)))
        have Z4 : w.heap.size + 6 ≤ (W3.alloc (.cells #[.string (f q).name, .int .i64 (f q).kind, .int .i64 (f q).code, .string (f q).text, .slice a4 (f q).actN d4, .slice a5 (f q).linksN d5] 49)).heap.size := Nat.le_trans hb6 E4.size
        have N4 := hide (six_cells W3 (.string (f q).name) (.int .i64 (f q).kind) (.int .i64 (f q).code) (.string (f q).text) (.slice a4 (f q).actN d4) (.slice a5 (f q).linksN d5) 49)
        clear hDS hB3 E3 E4 F4
        refine hK.out _ _ hS3 (fun hHeld => ?_)
        clear hK K hHeld
        (try simp only [Act.put, List.setIfInBounds_toArray, List.set_cons_zero, List.set_cons_succ])
        refine wpAnyH_ready (rs := [9]) (by kernel_rfl) (by simp) ?_
        refine AllReadyH.cons (o := { dst := some 29, op := Op.buildSlice 26 1 #[(0, Operand.tmp 28)], type := 26, pos := "l7_keep.go:36", after := #[{ on := 8, ground := Ground.data }], guard := none }) rfl (fun K hK => ?_) ?_
        · go_simp
          refine hK.out _ _ hS4 (fun hHeld => ?_)
          clear hK K hHeld
          (try simp only [Act.put, List.setIfInBounds_toArray, List.set_cons_zero, List.set_cons_succ])
          refine wpAnyH_ready (rs := [10]) (by kernel_rfl) (by simp) ?_
          refine AllReadyH.cons (o := { dst := some 30, op := Op.call { callee := Callee.builtin Builtin.append, args := #[Operand.tmp 21, Operand.tmp 29], argTypes := #[26, 26] }, type := 26, pos := "l7_keep.go:36", after := #[{ on := 1, ground := Ground.data }, { on := 9, ground := Ground.data }, { on := 8, ground := Ground.chain }], guard := none }) rfl (fun K hK => ?_) ?_
          · refine step_append_own rfl (.tmp 21) (.tmp 29) 26 rfl (w.heap.size + 6) 49 i1 (.agg #[.string ⟨#[]⟩, .int .i64 0, .int .i64 0, .string ⟨#[]⟩, .slice none 0 0, .slice none 0 0]) 6 96 Tryd.underlying26 hi hy0 hy1 hy2 rfl (by decide) (.slice ao R.length co) R.length (R.flatMap ddV) (by simp [Act.eval]) D4.out.own ⟨W3.heap.size, 0, none⟩ 1 1 (ddV (mv f L q, .slice a4 (f q).actN d4, .slice a5 (f q).linksN d5)) (by simp [Act.eval]) rfl N4.out (by simp [ddV, Value.oneCell']) (by unfold maxLen; omega) (by omega) (by omega) ?_
            intro v' W5 hown hgrow _
            obtain ⟨gs, cs, rfl⟩ := cu_some hown (by omega)
            obtain ⟨E5, L5, U6, L6, D6, B6⟩ := listed_end hsz hb6 U4.out B4.out K4.out D2.out D4.out G4.out hown hgrow
            obtain ⟨co5, cz5⟩ := L5.o
            have hS5 := hS4.below E5 (by omega) (by omega)
            have hS6 := hS5.set hbw (.slice (some ⟨gs, 0, none⟩) (R.length + 1) cs)
            have HU6 := hide U6
            have HL6 := hide L6
            have HD6 := hide D6
            have HB6 := hide B6
            clear hown hgrow U6 L6 D6 B6 E5 L5
            refine hK.out _ _ hS5 (fun hHeld => ?_)
            clear hK K hHeld
            (try simp only [Act.put, List.setIfInBounds_toArray, List.set_cons_zero, List.set_cons_succ])
            refine wpAnyH_ready (rs := [11]) (by kernel_rfl) (by simp) ?_
            refine AllReadyH.cons (o := { dst := some 31, op := Op.fieldAddr 28 (Operand.tmp 4) 0, type := 0, pos := "l7_keep.go:36", after := #[{ on := 0, ground := Ground.phase }, { on := 1, ground := Ground.phase }, { on := 2, ground := Ground.phase }, { on := 3, ground := Ground.phase }, { on := 4, ground := Ground.phase }, { on := 5, ground := Ground.phase }, { on := 6, ground := Ground.phase }, { on := 7, ground := Ground.phase }, { on := 8, ground := Ground.phase }, { on := 9, ground := Ground.phase }, { on := 10, ground := Ground.phase }], guard := none }) rfl (fun K hK => ?_) ?_
            · go_simp
              refine hK.out _ _ hS5 (fun hHeld => ?_)
              clear hK K hHeld
              (try simp only [Act.put, List.setIfInBounds_toArray, List.set_cons_zero, List.set_cons_succ])
              refine wpAnyH_ready (rs := [12]) (by kernel_rfl) (by simp) ?_
              refine AllReadyH.cons (o := { dst := none, op := Op.store 26 (Operand.tmp 31) (Operand.tmp 30), type := 0, pos := "l7_keep.go:36", after := #[{ on := 11, ground := Ground.data }, { on := 10, ground := Ground.data }, { on := 10, ground := Ground.chain }, { on := 0, ground := Ground.phase }, { on := 1, ground := Ground.phase }, { on := 2, ground := Ground.phase }, { on := 3, ground := Ground.phase }, { on := 4, ground := Ground.phase }, { on := 5, ground := Ground.phase }, { on := 6, ground := Ground.phase }, { on := 7, ground := Ground.phase }, { on := 8, ground := Ground.phase }, { on := 9, ground := Ground.phase }, { on := 10, ground := Ground.phase }], guard := none }) rfl (fun K hK => ?_) ?_
              · go_simp
                refine hK.out _ _ hS6 (fun hHeld => ?_)
                clear hK K hHeld
                (try simp only [Act.put, List.setIfInBounds_toArray, List.set_cons_zero, List.set_cons_succ])
                refine wpAnyH_done (by kernel_rfl) ?_ _
                refine ⟨HU6.out, .slice (some ⟨gs, 0, none⟩) (R.length + 1) cs, R ++ [(mv f L q, .slice a4 (f q).actN d4, .slice a5 (f q).linksN d5)], ?_, ?_, ?_, HB6.out⟩
                · rw [List.map_append, HPE.out]; exact HL6.out
                · exact HD6.out
                · show _ = _; rw [List.map_append, List.map_append, List.map_append, HPE.out, HM.out]; rfl
              · exact AllReadyH.nil
            · exact AllReadyH.nil
          · exact AllReadyH.nil
        · exact AllReadyH.nil
      · exact AllReadyH.nil
    · refine AllReadyH.cons (o := { dst := some 28, op := Op.call { callee := Callee.value (Operand.func 31), args := #[Operand.tmp 26, Operand.tmp 27], argTypes := #[49, 41] }, type := 49, pos := "l7_keep.go:36", after := #[{ on := 6, ground := Ground.data }, { on := 7, ground := Ground.data }], guard := none }) rfl (fun K hK => ?_) ?_
      · go_simp
        refine (moved_any (f q) b0 o0 e0 b1 o1 e1 (w.heap.size + 2) n n L W2.drew (HFT.out q hox) H4.out H5.out hb0 HPL.out).mono ?_
        rintro e W3 ⟨a4, d4, a5, d5, rfl, hDS, hB3⟩
        have E3 : Below W2.heap.size W2 W3 := ((Below.refl W2.heap.size W2).drew).trans hB3
        have E4 := E3.alloc E3.size (.cells #[.string (f q).name, .int .i64 (f q).kind, .int .i64 (f q).code, .string (f q).text, .slice a4 (f q).actN d4, .slice a5 (f q).linksN d5] 49)
        have F4 : Below W3.heap.size W3 (W3.alloc (.cells #[.string (f q).name, .int .i64 (f q).kind, .int .i64 (f q).code, .string (f q).text, .slice a4 (f q).actN d4, .slice a5 (f q).linksN d5] 49)) := (Below.refl W3.heap.size W3).alloc (Nat.le_refl _) _
        have hS3 := hS0.below hB3 (by show w.heap.size + 3 < W2.heap.size; omega) (by show b < W2.heap.size; omega)
        have hS4 := hS3.below F4 (by have := E3.size; omega) (by have := E3.size; omega)
        obtain ⟨co3, _⟩ := (L2.out.below E3 hb6).o
        obtain ⟨co4, cz4⟩ := (L2.out.below E4 hb6).o
        have K4 := hide (L2.out.below E4 hb6)
        have D4 := hide (D2.out.below E4 (Nat.le_refl _))
        have G4 := hide (hDS.below F4 (Nat.le_refl _))
        have B4 := hide (B2.out.trans (E4.mono B2.out.size))
        have U4 := hide (U2.out.trans (Upd2.of_below E4 (Nat.le_refl _)))
        have Z4 : w.heap.size + 6 ≤ (W3.alloc (.cells #[.string (f q).name, .int .i64 (f q).kind, .int .i64 (f q).code, .string (f q).text, .slice a4 (f q).actN d4, .slice a5 (f q).linksN d5] 49)).heap.size := Nat.le_trans hb6 E4.size
        have N4 := hide (six_cells W3 (.string (f q).name) (.int .i64 (f q).kind) (.int .i64 (f q).code) (.string (f q).text) (.slice a4 (f q).actN d4) (.slice a5 (f q).linksN d5) 49)
        clear hDS hB3 E3 E4 F4
        refine hK.out _ _ hS3 (fun hHeld => ?_)
        clear hK K hHeld
        (try simp only [Act.put, List.setIfInBounds_toArray, List.set_cons_zero, List.set_cons_succ])
        refine wpAnyH_ready (rs := [1, 9]) (by kernel_rfl) (by simp) ?_
        refine AllReadyH.cons (o := { dst := some 21, op := Op.load 26 (Operand.tmp 20), type := 26, pos := "l7_keep.go:36", after := #[{ on := 0, ground := Ground.data }], guard := none }) rfl (fun K hK => ?_) ?_
        · go_simp
          refine hK.out _ _ hS3 (fun hHeld => ?_)
          clear hK K hHeld
          (try simp only [Act.put, List.setIfInBounds_toArray, List.set_cons_zero, List.set_cons_succ])
          refine wpAnyH_ready (rs := [9]) (by kernel_rfl) (by simp) ?_
          refine AllReadyH.cons (o := { dst := some 29, op := Op.buildSlice 26 1 #[(0, Operand.tmp 28)], type := 26, pos := "l7_keep.go:36", after := #[{ on := 8, ground := Ground.data }], guard := none }) rfl (fun K hK => ?_) ?_
          · go_simp
            refine hK.out _ _ hS4 (fun hHeld => ?_)
            clear hK K hHeld
            (try simp only [Act.put, List.setIfInBounds_toArray, List.set_cons_zero, List.set_cons_succ])
            refine wpAnyH_ready (rs := [10]) (by kernel_rfl) (by simp) ?_
            refine AllReadyH.cons (o := { dst := some 30, op := Op.call { callee := Callee.builtin Builtin.append, args := #[Operand.tmp 21, Operand.tmp 29], argTypes := #[26, 26] }, type := 26, pos := "l7_keep.go:36", after := #[{ on := 1, ground := Ground.data }, { on := 9, ground := Ground.data }, { on := 8, ground := Ground.chain }], guard := none }) rfl (fun K hK => ?_) ?_
            · refine step_append_own rfl (.tmp 21) (.tmp 29) 26 rfl (w.heap.size + 6) 49 i1 (.agg #[.string ⟨#[]⟩, .int .i64 0, .int .i64 0, .string ⟨#[]⟩, .slice none 0 0, .slice none 0 0]) 6 96 Tryd.underlying26 hi hy0 hy1 hy2 rfl (by decide) (.slice ao R.length co) R.length (R.flatMap ddV) (by simp [Act.eval]) D4.out.own ⟨W3.heap.size, 0, none⟩ 1 1 (ddV (mv f L q, .slice a4 (f q).actN d4, .slice a5 (f q).linksN d5)) (by simp [Act.eval]) rfl N4.out (by simp [ddV, Value.oneCell']) (by unfold maxLen; omega) (by omega) (by omega) ?_
              intro v' W5 hown hgrow _
              obtain ⟨gs, cs, rfl⟩ := cu_some hown (by omega)
              obtain ⟨E5, L5, U6, L6, D6, B6⟩ := listed_end hsz hb6 U4.out B4.out K4.out D2.out D4.out G4.out hown hgrow
              obtain ⟨co5, cz5⟩ := L5.o
              have hS5 := hS4.below E5 (by omega) (by omega)
              have hS6 := hS5.set hbw (.slice (some ⟨gs, 0, none⟩) (R.length + 1) cs)
              have HU6 := hide U6
              have HL6 := hide L6
              have HD6 := hide D6
              have HB6 := hide B6
              clear hown hgrow U6 L6 D6 B6 E5 L5
              refine hK.out _ _ hS5 (fun hHeld => ?_)
              clear hK K hHeld
              (try simp only [Act.put, List.setIfInBounds_toArray, List.set_cons_zero, List.set_cons_succ])
              refine wpAnyH_ready (rs := [11]) (by kernel_rfl) (by simp) ?_
              refine AllReadyH.cons (o := { dst := some 31, op := Op.fieldAddr 28 (Operand.tmp 4) 0, type := 0, pos := "l7_keep.go:36", after := #[{ on := 0, ground := Ground.phase }, { on := 1, ground := Ground.phase }, { on := 2, ground := Ground.phase }, { on := 3, ground := Ground.phase }, { on := 4, ground := Ground.phase }, { on := 5, ground := Ground.phase }, { on := 6, ground := Ground.phase }, { on := 7, ground := Ground.phase }, { on := 8, ground := Ground.phase }, { on := 9, ground := Ground.phase }, { on := 10, ground := Ground.phase }], guard := none }) rfl (fun K hK => ?_) ?_
              · go_simp
                refine hK.out _ _ hS5 (fun hHeld => ?_)
                clear hK K hHeld
                (try simp only [Act.put, List.setIfInBounds_toArray, List.set_cons_zero, List.set_cons_succ])
                refine wpAnyH_ready (rs := [12]) (by kernel_rfl) (by simp) ?_
                refine AllReadyH.cons (o := { dst := none, op := Op.store 26 (Operand.tmp 31) (Operand.tmp 30), type := 0, pos := "l7_keep.go:36", after := #[{ on := 11, ground := Ground.data }, { on := 10, ground := Ground.data }, { on := 10, ground := Ground.chain }, { on := 0, ground := Ground.phase }, { on := 1, ground := Ground.phase }, { on := 2, ground := Ground.phase }, { on := 3, ground := Ground.phase }, { on := 4, ground := Ground.phase }, { on := 5, ground := Ground.phase }, { on := 6, ground := Ground.phase }, { on := 7, ground := Ground.phase }, { on := 8, ground := Ground.phase }, { on := 9, ground := Ground.phase }, { on := 10, ground := Ground.phase }], guard := none }) rfl (fun K hK => ?_) ?_
                · go_simp
                  refine hK.out _ _ hS6 (fun hHeld => ?_)
                  clear hK K hHeld
                  (try simp only [Act.put, List.setIfInBounds_toArray, List.set_cons_zero, List.set_cons_succ])
                  refine wpAnyH_done (by kernel_rfl) ?_ _
                  refine ⟨HU6.out, .slice (some ⟨gs, 0, none⟩) (R.length + 1) cs, R ++ [(mv f L q, .slice a4 (f q).actN d4, .slice a5 (f q).linksN d5)], ?_, ?_, ?_, HB6.out⟩
                  · rw [List.map_append, HPE.out]; exact HL6.out
                  · exact HD6.out
                  · show _ = _; rw [List.map_append, List.map_append, List.map_append, HPE.out, HM.out]; rfl
                · exact AllReadyH.nil
              · exact AllReadyH.nil
            · exact AllReadyH.nil
          · exact AllReadyH.nil
        · refine AllReadyH.cons (o := { dst := some 29, op := Op.buildSlice 26 1 #[(0, Operand.tmp 28)], type := 26, pos := "l7_keep.go:36", after := #[{ on := 8, ground := Ground.data }], guard := none }) rfl (fun K hK => ?_) ?_
          · go_simp
            refine hK.out _ _ hS4 (fun hHeld => ?_)
            clear hK K hHeld
            (try simp only [Act.put, List.setIfInBounds_toArray, List.set_cons_zero, List.set_cons_succ])
            refine wpAnyH_ready (rs := [1]) (by kernel_rfl) (by simp) ?_
            refine AllReadyH.cons (o := { dst := some 21, op := Op.load 26 (Operand.tmp 20), type := 26, pos := "l7_keep.go:36", after := #[{ on := 0, ground := Ground.data }], guard := none }) rfl (fun K hK => ?_) ?_
            · go_simp
              refine hK.out _ _ hS4 (fun hHeld => ?_)
              clear hK K hHeld
              (try simp only [Act.put, List.setIfInBounds_toArray, List.set_cons_zero, List.set_cons_succ])
              refine wpAnyH_ready (rs := [10]) (by kernel_rfl) (by simp) ?_
              refine AllReadyH.cons (o := { dst := some 30, op := Op.call { callee := Callee.builtin Builtin.append, args := #[Operand.tmp 21, Operand.tmp 29], argTypes := #[26, 26] }, type := 26, pos := "l7_keep.go:36", after := #[{ on := 1, ground := Ground.data }, { on := 9, ground := Ground.data }, { on := 8, ground := Ground.chain }], guard := none }) rfl (fun K hK => ?_) ?_
              · refine step_append_own rfl (.tmp 21) (.tmp 29) 26 rfl (w.heap.size + 6) 49 i1 (.agg #[.string ⟨#[]⟩, .int .i64 0, .int .i64 0, .string ⟨#[]⟩, .slice none 0 0, .slice none 0 0]) 6 96 Tryd.underlying26 hi hy0 hy1 hy2 rfl (by decide) (.slice ao R.length co) R.length (R.flatMap ddV) (by simp [Act.eval]) D4.out.own ⟨W3.heap.size, 0, none⟩ 1 1 (ddV (mv f L q, .slice a4 (f q).actN d4, .slice a5 (f q).linksN d5)) (by simp [Act.eval]) rfl N4.out (by simp [ddV, Value.oneCell']) (by unfold maxLen; omega) (by omega) (by omega) ?_
                intro v' W5 hown hgrow _
                obtain ⟨gs, cs, rfl⟩ := cu_some hown (by omega)
                obtain ⟨E5, L5, U6, L6, D6, B6⟩ := listed_end hsz hb6 U4.out B4.out K4.out D2.out D4.out G4.out hown hgrow
                obtain ⟨co5, cz5⟩ := L5.o
                have hS5 := hS4.below E5 (by omega) (by omega)
                have hS6 := hS5.set hbw (.slice (some ⟨gs, 0, none⟩) (R.length + 1) cs)
                have HU6 := hide U6
                have HL6 := hide L6
                have HD6 := hide D6
                have HB6 := hide B6
                clear hown hgrow U6 L6 D6 B6 E5 L5
                refine hK.out _ _ hS5 (fun hHeld => ?_)
                clear hK K hHeld
                (try simp only [Act.put, List.setIfInBounds_toArray, List.set_cons_zero, List.set_cons_succ])
                refine wpAnyH_ready (rs := [11]) (by kernel_rfl) (by simp) ?_
                refine AllReadyH.cons (o := { dst := some 31, op := Op.fieldAddr 28 (Operand.tmp 4) 0, type := 0, pos := "l7_keep.go:36", after := #[{ on := 0, ground := Ground.phase }, { on := 1, ground := Ground.phase }, { on := 2, ground := Ground.phase }, { on := 3, ground := Ground.phase }, { on := 4, ground := Ground.phase }, { on := 5, ground := Ground.phase }, { on := 6, ground := Ground.phase }, { on := 7, ground := Ground.phase }, { on := 8, ground := Ground.phase }, { on := 9, ground := Ground.phase }, { on := 10, ground := Ground.phase }], guard := none }) rfl (fun K hK => ?_) ?_
                · go_simp
                  refine hK.out _ _ hS5 (fun hHeld => ?_)
                  clear hK K hHeld
                  (try simp only [Act.put, List.setIfInBounds_toArray, List.set_cons_zero, List.set_cons_succ])
                  refine wpAnyH_ready (rs := [12]) (by kernel_rfl) (by simp) ?_
                  refine AllReadyH.cons (o := { dst := none, op := Op.store 26 (Operand.tmp 31) (Operand.tmp 30), type := 0, pos := "l7_keep.go:36", after := #[{ on := 11, ground := Ground.data }, { on := 10, ground := Ground.data }, { on := 10, ground := Ground.chain }, { on := 0, ground := Ground.phase }, { on := 1, ground := Ground.phase }, { on := 2, ground := Ground.phase }, { on := 3, ground := Ground.phase }, { on := 4, ground := Ground.phase }, { on := 5, ground := Ground.phase }, { on := 6, ground := Ground.phase }, { on := 7, ground := Ground.phase }, { on := 8, ground := Ground.phase }, { on := 9, ground := Ground.phase }, { on := 10, ground := Ground.phase }], guard := none }) rfl (fun K hK => ?_) ?_
                  · go_simp
                    refine hK.out _ _ hS6 (fun hHeld => ?_)
                    clear hK K hHeld
                    (try simp only [Act.put, List.setIfInBounds_toArray, List.set_cons_zero, List.set_cons_succ])
                    refine wpAnyH_done (by kernel_rfl) ?_ _
                    refine ⟨HU6.out, .slice (some ⟨gs, 0, none⟩) (R.length + 1) cs, R ++ [(mv f L q, .slice a4 (f q).actN d4, .slice a5 (f q).linksN d5)], ?_, ?_, ?_, HB6.out⟩
                    · rw [List.map_append, HPE.out]; exact HL6.out
                    · exact HD6.out
                    · show _ = _; rw [List.map_append, List.map_append, List.map_append, HPE.out, HM.out]; rfl
                  · exact AllReadyH.nil
                · exact AllReadyH.nil
              · exact AllReadyH.nil
            · exact AllReadyH.nil
          · exact AllReadyH.nil
      · exact AllReadyH.nil

end Go.Proofs.YtkikpcklccdihaaDoor.Vp
