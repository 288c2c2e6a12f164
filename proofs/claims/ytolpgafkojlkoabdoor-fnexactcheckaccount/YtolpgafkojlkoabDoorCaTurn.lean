/-
  impl: outOfTurn, tooDeep.
-/
import Derived.Test.YtolpgafkojlkoabDoorCaSeq
namespace Go.Proofs.YtolpgafkojlkoabDoor.Vp
open Go.RowKit Go.Shelf Go.Proofs.YtolpgafkojlkoabDoor.Ca

attribute [local go_sem] Oper.semAt_some

theorem offAt_more {i : Nat} {pre : List (Nat × Nat)} {x : Nat × Nat} (h : offAt i pre = -1) : offAt i (pre ++ [x]) = if x.1 = i + pre.length then -1 else ((i + pre.length : Nat) : Int) := by
  induction pre generalizing i with
  | nil => simp [offAt]
  | cons y ys ih =>
    simp only [offAt, List.cons_append] at h ⊢
    split at h
    · rename_i e
      rw [if_pos e, ih h]
      simp only [List.length_cons]
      have : i + 1 + ys.length = i + (ys.length + 1) := by omega
      rw [this]
    · omega
theorem offAt_prefix {i : Nat} {pre xs : List (Nat × Nat)} (hp : pre <+: xs) (h : offAt i pre ≠ -1) : offAt i xs = offAt i pre := by
  induction pre generalizing i xs with
  | nil => exact absurd rfl h
  | cons y ys ih =>
    obtain ⟨t, rfl⟩ := hp
    simp only [offAt, List.cons_append] at h ⊢
    split
    · rename_i e
      rw [if_pos e] at h
      exact ih (List.prefix_append _ _) h
    · rfl
theorem deepAt_more {f : Nat → Deed} {pre : List (Nat × Nat)} {x : Nat × Nat} (h : deepAt f pre = -1) : deepAt f (pre ++ [x]) = if (f x.1).kind = 3 ∧ 60 ≤ x.2 then (x.1 : Int) else -1 := by
  induction pre with
  | nil => simp [deepAt]
  | cons y ys ih =>
    simp only [deepAt, List.cons_append] at h ⊢
    split at h
    · omega
    · rename_i e
      rw [if_neg e, ih h]
theorem deepAt_prefix {f : Nat → Deed} {pre xs : List (Nat × Nat)} (hp : pre <+: xs) (h : deepAt f pre ≠ -1) : deepAt f xs = deepAt f pre := by
  induction pre generalizing xs with
  | nil => exact absurd rfl h
  | cons y ys ih =>
    obtain ⟨t, rfl⟩ := hp
    simp only [deepAt, List.cons_append] at h ⊢
    split
    · rfl
    · rename_i e
      rw [if_neg e] at h
      exact ih (List.prefix_append _ _) h

/-- The boxes of outOfTurn: the account, the answer, the turn, what the iterator has caught. -/
structure TurnB (W : World) (h : Nat) (v : Value) : Prop where
  size : W.heap.size = h + 4
  r : W.cell? ⟨h + 1, 0, none⟩ = some (.int .i64 0) ∧ W.frozen? ⟨h + 1, 0, none⟩ = false
  t : W.cell? ⟨h + 1 + 1, 0, none⟩ = some (.int .i64 0) ∧ W.frozen? ⟨h + 1 + 1, 0, none⟩ = false
  a : W.cell? ⟨h + 1 + 1 + 1, 0, none⟩ = some v
  a0 : W.cell? ⟨h, 0, none⟩ = some v
theorem turn_boxes (w : World) (v : Value) (t u : TypeId) : TurnB ((((w.alloc (.cells #[v] t)).alloc (.cells #[.int .i64 0] u)).alloc (.cells #[.int .i64 0] u)).alloc (.cells #[v] t)) w.heap.size v := by
  have hz1 : (w.alloc (.cells #[v] t)).heap.size = w.heap.size + 1 := by simp
  have hz2 : ((w.alloc (.cells #[v] t)).alloc (.cells #[.int .i64 0] u)).heap.size = w.heap.size + 1 + 1 := by simp
  have hz3 : (((w.alloc (.cells #[v] t)).alloc (.cells #[.int .i64 0] u)).alloc (.cells #[.int .i64 0] u)).heap.size = w.heap.size + 1 + 1 + 1 := by simp
  have D0 : Below (w.heap.size + 1) (w.alloc (.cells #[v] t)) ((((w.alloc (.cells #[v] t)).alloc (.cells #[.int .i64 0] u)).alloc (.cells #[.int .i64 0] u)).alloc (.cells #[v] t)) := (((Below.refl _ _).alloc (by omega) _).alloc (by omega) _).alloc (by omega) _
  have D1 : Below (w.heap.size + 1 + 1) ((w.alloc (.cells #[v] t)).alloc (.cells #[.int .i64 0] u)) ((((w.alloc (.cells #[v] t)).alloc (.cells #[.int .i64 0] u)).alloc (.cells #[.int .i64 0] u)).alloc (.cells #[v] t)) := ((Below.refl _ _).alloc (by omega) _).alloc (by omega) _
  have D2 : Below (w.heap.size + 1 + 1 + 1) (((w.alloc (.cells #[v] t)).alloc (.cells #[.int .i64 0] u)).alloc (.cells #[.int .i64 0] u)) ((((w.alloc (.cells #[v] t)).alloc (.cells #[.int .i64 0] u)).alloc (.cells #[.int .i64 0] u)).alloc (.cells #[v] t)) := (Below.refl _ _).alloc (by omega) _
  refine ⟨by simp, ⟨?_, ?_⟩, ⟨?_, ?_⟩, ?_, (D0.cell (p := ⟨w.heap.size, 0, none⟩) (Nat.lt_succ_self _)).trans (by simp)⟩
  · refine (D1.cell (p := ⟨w.heap.size + 1, 0, none⟩) (Nat.lt_succ_self _)).trans ?_
    rw [← hz1]
    clear D0 D1 D2 hz1 hz2 hz3
    generalize w.alloc (.cells #[v] t) = W
    simp
  · refine (D1.frozen (p := ⟨w.heap.size + 1, 0, none⟩) (Nat.lt_succ_self _)).trans ?_
    rw [← hz1]
    clear D0 D1 D2 hz1 hz2 hz3
    generalize w.alloc (.cells #[v] t) = W
    simp
  · refine (D2.cell (p := ⟨w.heap.size + 1 + 1, 0, none⟩) (Nat.lt_succ_self _)).trans ?_
    rw [← hz2]
    clear D0 D1 D2 hz1 hz2 hz3
    generalize (w.alloc (.cells #[v] t)).alloc (.cells #[.int .i64 0] u) = W
    simp
  · refine (D2.frozen (p := ⟨w.heap.size + 1 + 1, 0, none⟩) (Nat.lt_succ_self _)).trans ?_
    rw [← hz2]
    clear D0 D1 D2 hz1 hz2 hz3
    generalize (w.alloc (.cells #[v] t)).alloc (.cells #[.int .i64 0] u) = W
    simp
  · rw [← hz3]
    clear D0 D1 D2 hz1 hz2 hz3
    generalize ((w.alloc (.cells #[v] t)).alloc (.cells #[.int .i64 0] u)).alloc (.cells #[.int .i64 0] u) = W
    simp

set_option maxRecDepth 100000 in
set_option maxHeartbeats 4000000 in
theorem outOfTurn_any (b off n cap : Nat) (f : Nat → Deed) (w : World) (hA : Ahead f n) (hn1 : 1 ≤ n) (hn : (n : Int) ≤ 400) (hf : RowDeed w b off n f) (hlk : ∀ p, p < n → (f p).linksN ≤ 200) (hlen : (listing f n).length ≤ 400) :
    Calls Tryd.prog 15 #[.agg #[.slice (some ⟨b, off, none⟩) n cap]] w fun e w' => e = .returned (.int .i64 (offAt 0 (listing f n))) ∧ Below w.heap.size w w' := by
  refine (callsIn_wide (n := 3)).1 ?_
  have HF := hide hf
  have HA := hide hA
  have HLK := hide hlk
  clear hf hA hlk
  have A00 := ((((Below.refl w.heap.size w).alloc (Nat.le_refl _) (.cells #[.slice (some ⟨b, off, none⟩) n cap] 30)).alloc (by simp) (.cells #[.int .i64 0] 3)).alloc (by simp; omega) (.cells #[.int .i64 0] 3)).alloc (by simp; omega) (.cells #[.slice (some ⟨b, off, none⟩) n cap] 30)
  have A0 := hide A00
  clear A00
  have O0 := hide (turn_boxes w (.slice (some ⟨b, off, none⟩) n cap) 30 3)
  refine callsIn_of_wp_marks Tryd.func15 rfl trivial ?_ rfl
  simp only [Tryd.ntmps15, List.size_toArray, List.length_cons, List.length_nil, Nat.reduceAdd, Nat.reduceSub, Array.replicate_succ, Array.replicate_zero, List.push_toArray, List.append_toArray, List.nil_append, List.cons_append]
  gi_wp2_with (refine ⟨trivial, ?_⟩; gi_at_call 25; refine (listing_in _ _ _).mono ?_; rintro e w' ⟨rfl, rfl⟩)
  generalize World.alloc (World.alloc (World.alloc (World.alloc w _) _) _) _ = W at A0 O0 ⊢
  have hsz := O0.size
  obtain ⟨tr1, tr2⟩ := O0.r
  obtain ⟨tt1, tt2⟩ := O0.t
  refine wpIn_rangeFunc_T (F := Fence.wide) rfl (by omega) (gf := 36) (lb := #[.pointer (some ⟨w.heap.size + 1 + 1 + 1, 0, none⟩)]) rfl trivial (enters_of Tryd.func36 (by kernel_rfl) rfl) (base := w.heap.size) (by omega)
    (listing_seq w b off n cap (w.heap.size + 1 + 1 + 1) (3 - 1) f W HA hn1 hn HF HLK A0 O0.a (by omega)) (Below.refl _ _) (fun _ => rfl)
    (fun pre Wx => Wx.cell? ⟨w.heap.size + 1 + 1, 0, none⟩ = some (.int .i64 (pre.length : Int)) ∧ Wx.frozen? ⟨w.heap.size + 1 + 1, 0, none⟩ = false ∧ Wx.cell? ⟨w.heap.size + 1, 0, none⟩ = some (.int .i64 0) ∧ Wx.frozen? ⟨w.heap.size + 1, 0, none⟩ = false ∧ Hid (offAt 0 pre = -1) ∧ Hid (Below w.heap.size w Wx))
    (fun c pre Wx => c = .ret ∧ Wx.cell? ⟨w.heap.size + 1, 0, none⟩ = some (.int .i64 (offAt 0 pre)) ∧ Hid (offAt 0 pre ≠ -1) ∧ Hid (Below w.heap.size w Wx))
    (fun s A B h hB => ⟨(hB.cell (p := ⟨w.heap.size + 1 + 1, 0, none⟩) (by show w.heap.size + 1 + 1 < W.heap.size; omega)).trans h.1, (hB.frozen (p := ⟨w.heap.size + 1 + 1, 0, none⟩) (by show w.heap.size + 1 + 1 < W.heap.size; omega)).trans h.2.1, (hB.cell (p := ⟨w.heap.size + 1, 0, none⟩) (by show w.heap.size + 1 < W.heap.size; omega)).trans h.2.2.1, (hB.frozen (p := ⟨w.heap.size + 1, 0, none⟩) (by show w.heap.size + 1 < W.heap.size; omega)).trans h.2.2.2.1, h.2.2.2.2.1, h.2.2.2.2.2.trans (hB.mono (by omega))⟩)
    (fun c s A B h hB => ⟨h.1, (hB.cell (p := ⟨w.heap.size + 1, 0, none⟩) (by show w.heap.size + 1 < W.heap.size; omega)).trans h.2.1, h.2.2.1, h.2.2.2.trans (hB.mono (by omega))⟩)
    ⟨tt1, tt2, tr1, tr2, rfl, A0⟩
    (fun x => { tmps := #[.agg #[.slice (some ⟨b, off, none⟩) n cap], .pointer (some ⟨w.heap.size, 0, none⟩), .pointer (some ⟨w.heap.size + 1, 0, none⟩), .pointer (some ⟨w.heap.size + 1 + 1, 0, none⟩), .int .i64 (x.1 : Int), .agg #[.slice (some ⟨b, off, none⟩) n cap], .func (.func 36) #[] #[.pointer (some ⟨w.heap.size + 1 + 1 + 1, 0, none⟩)], .int .i64 (x.1 : Int), .int .i64 (x.2 : Int), undef, undef, undef, undef, undef, undef], defers := [] }) ?assign ?body ?done ?stop
  case assign =>
    intro l x W K hK
    gi_wp2
    exact hK
  case body =>
    rintro l pre x W1 _ ⟨hc, hf, hr, hrf, HO, HB⟩ hlt hz
    clear tr1 tr2 tt1 tt2
    have hpl : (pre.length : Int) ≤ 1048576 := by omega
    by_cases hx : (x.1 : Int) = (pre.length : Int)
    · have ho : offAt 0 (pre ++ [x]) = -1 := by rw [offAt_more HO.out, if_pos (by omega)]
      have HO1 := hide ho
      clear ho
      have U1 := hide (Upd.setCell (P := fun k => w.heap.size ≤ k ∧ k < W.heap.size) W1 (p := ⟨w.heap.size + 1 + 1, 0, none⟩) ⟨by show _ ≤ _ + 1 + 1; omega, by show _ + 1 + 1 < _; omega⟩ (.int .i64 ((pre.length : Int) + 1)))
      have B1 := hide (HB.setCell (p := ⟨w.heap.size + 1 + 1, 0, none⟩) (by show _ ≤ _ + 1 + 1; omega) (.int .i64 ((pre.length : Int) + 1)))
      have c1 : (W1.setCell ⟨w.heap.size + 1 + 1, 0, none⟩ (.int .i64 ((pre.length : Int) + 1))).cell? ⟨w.heap.size + 1 + 1, 0, none⟩ = some (.int .i64 ((pre ++ [x]).length : Int)) := by
        rw [World.cell?_setCell_same' _ _ _ (by rw [hc]; rfl)]
        simp
      have c2 : (W1.setCell ⟨w.heap.size + 1 + 1, 0, none⟩ (.int .i64 ((pre.length : Int) + 1))).cell? ⟨w.heap.size + 1, 0, none⟩ = some (.int .i64 0) := by
        rw [World.cell?_setCell_other _ _ _ _ (by simp)]
        exact hr
      have C1 := hide c1
      have C2 := hide c2
      clear c1 c2
      gi_wp2
      exact ⟨U1, C1, by simpa using hf, C2, by simpa using hrf, HO1, B1⟩
    · have ho : offAt 0 (pre ++ [x]) = (pre.length : Int) := by rw [offAt_more HO.out, if_neg (by omega)]; simp
      have HO1 := hide ho
      clear ho
      have U1 := hide (Upd.setCell (P := fun k => w.heap.size ≤ k ∧ k < W.heap.size) W1 (p := ⟨w.heap.size + 1, 0, none⟩) ⟨by show _ ≤ _ + 1; omega, by show _ + 1 < _; omega⟩ (.int .i64 (pre.length : Int)))
      have B1 := hide (HB.setCell (p := ⟨w.heap.size + 1, 0, none⟩) (by show _ ≤ _ + 1; omega) (.int .i64 (pre.length : Int)))
      have C1 := hide (World.cell?_setCell_same' W1 ⟨w.heap.size + 1, 0, none⟩ (.int .i64 (pre.length : Int)) (by rw [hr]; rfl))
      gi_wp2
      exact ⟨U1, rfl, by rw [HO1.out]; exact C1, by show _ ≠ _; rw [HO1.out]; omega, B1⟩
  case done =>
    rintro D0 ys W1 hD rfl ⟨_, _, hr, hrf, HO, HB⟩ hK
    have K1 := hide ((KeepsOthers.setCell W1 ⟨w.heap.size + 1, 0, none⟩ (.int .i64 (-1))).same D0 _ hK rfl)
    have B1 := hide (HB.setCell (p := ⟨w.heap.size + 1, 0, none⟩) (by show _ ≤ _ + 1; omega) (.int .i64 (-1)))
    have C1 := hide (World.cell?_setCell_same' W1 ⟨w.heap.size + 1, 0, none⟩ (.int .i64 (-1)) (by rw [hr]; rfl))
    gi_wp2
    refine ⟨by simp, .inl ⟨_, _, rfl, run_takeDeferred K1, ?_⟩⟩
    have P1 := below_putObj (n := W.heap.size) (W1.setCell ⟨w.heap.size + 1, 0, none⟩ (.int .i64 (-1))) hD (Array.getElem?_eq_some_iff.1 K1).1 (.deferred none)
    have c := (P1.cell (p := ⟨w.heap.size + 1, 0, none⟩) (by show w.heap.size + 1 < W.heap.size; omega)).trans C1
    exact ⟨.int .i64 (-1), by simp [results, Tryd.results15, go_sem, c], by rw [HO.out], B1.trans (P1.mono (by omega))⟩
  case stop =>
    rintro D0 c pre W1 hD hpre ⟨rfl, hr, HO, HB⟩ hK
    gi_wp2
    refine ⟨by simp, .inl ⟨_, _, rfl, run_takeDeferred hK, ?_⟩⟩
    have P1 := below_putObj (n := W.heap.size) W1 hD (Array.getElem?_eq_some_iff.1 hK).1 (.deferred none)
    have c := (P1.cell (p := ⟨w.heap.size + 1, 0, none⟩) (by show w.heap.size + 1 < W.heap.size; omega)).trans hr
    exact ⟨.int .i64 (offAt 0 pre), by simp [results, Tryd.results15, go_sem, c], by rw [offAt_prefix hpre HO.out], HB.trans (P1.mono (by omega))⟩

/-- The boxes of tooDeep: the account, the answer, what the iterator has caught. -/
structure DeepB (W : World) (h : Nat) (v : Value) : Prop where
  size : W.heap.size = h + 3
  r : W.cell? ⟨h + 1, 0, none⟩ = some (.int .i64 0) ∧ W.frozen? ⟨h + 1, 0, none⟩ = false
  a : W.cell? ⟨h + 1 + 1, 0, none⟩ = some v
  a0 : W.cell? ⟨h, 0, none⟩ = some v
theorem deep_boxes (w : World) (v : Value) (t u : TypeId) : DeepB (((w.alloc (.cells #[v] t)).alloc (.cells #[.int .i64 0] u)).alloc (.cells #[v] t)) w.heap.size v := by
  have hz1 : (w.alloc (.cells #[v] t)).heap.size = w.heap.size + 1 := by simp
  have hz2 : ((w.alloc (.cells #[v] t)).alloc (.cells #[.int .i64 0] u)).heap.size = w.heap.size + 1 + 1 := by simp
  have D0 : Below (w.heap.size + 1) (w.alloc (.cells #[v] t)) (((w.alloc (.cells #[v] t)).alloc (.cells #[.int .i64 0] u)).alloc (.cells #[v] t)) := ((Below.refl _ _).alloc (by omega) _).alloc (by omega) _
  have D1 : Below (w.heap.size + 1 + 1) ((w.alloc (.cells #[v] t)).alloc (.cells #[.int .i64 0] u)) (((w.alloc (.cells #[v] t)).alloc (.cells #[.int .i64 0] u)).alloc (.cells #[v] t)) := (Below.refl _ _).alloc (by omega) _
  refine ⟨by simp, ⟨?_, ?_⟩, ?_, (D0.cell (p := ⟨w.heap.size, 0, none⟩) (Nat.lt_succ_self _)).trans (by simp)⟩
  · refine (D1.cell (p := ⟨w.heap.size + 1, 0, none⟩) (Nat.lt_succ_self _)).trans ?_
    rw [← hz1]
    clear D0 D1 hz1 hz2
    generalize w.alloc (.cells #[v] t) = W
    simp
  · refine (D1.frozen (p := ⟨w.heap.size + 1, 0, none⟩) (Nat.lt_succ_self _)).trans ?_
    rw [← hz1]
    clear D0 D1 hz1 hz2
    generalize w.alloc (.cells #[v] t) = W
    simp
  · rw [← hz2]
    clear D0 D1 hz1 hz2
    generalize (w.alloc (.cells #[v] t)).alloc (.cells #[.int .i64 0] u) = W
    simp

set_option maxRecDepth 100000 in
set_option maxHeartbeats 4000000 in
theorem tooDeep_any (b off n cap : Nat) (f : Nat → Deed) (w : World) (hA : Ahead f n) (hn1 : 1 ≤ n) (hn : (n : Int) ≤ 400) (hf : RowDeed w b off n f) (hlk : ∀ p, p < n → (f p).linksN ≤ 200) :
    Calls Tryd.prog 16 #[.agg #[.slice (some ⟨b, off, none⟩) n cap]] w fun e w' => e = .returned (.int .i64 (deepAt f (listing f n))) ∧ Below w.heap.size w w' := by
  refine (callsIn_wide (n := 3)).1 ?_
  have HF := hide hf
  have HA := hide hA
  have HLK := hide hlk
  clear hf hA hlk
  obtain ⟨W, hwW⟩ : ∃ W : World, ((w.alloc (.cells #[.slice (some ⟨b, off, none⟩) n cap] 30)).alloc (.cells #[.int .i64 0] 3)).alloc (.cells #[.slice (some ⟨b, off, none⟩) n cap] 30) = W := ⟨_, rfl⟩
  obtain ⟨A00, -, -, -, -⟩ := nb3 hwW
  replace A00 := A00.out
  have HWW := hide hwW
  clear hwW
  have A0 := hide A00
  clear A00
  have O0 := hide (deep_boxes w (.slice (some ⟨b, off, none⟩) n cap) 30 3)
  refine callsIn_of_wp_marks Tryd.func16 rfl trivial ?_ rfl
  simp only [Tryd.ntmps16, List.size_toArray, List.length_cons, List.length_nil, Nat.reduceAdd, Nat.reduceSub, Array.replicate_succ, Array.replicate_zero, List.push_toArray, List.append_toArray, List.nil_append, List.cons_append]
  gi_wp2_with (refine ⟨trivial, ?_⟩; gi_at_call 25; refine (listing_in _ _ _).mono ?_; rintro e w' ⟨rfl, rfl⟩)
  rw [HWW.out] at O0 ⊢
  clear HWW
  have hsz := O0.size
  obtain ⟨tr1, tr2⟩ := O0.r
  have ta := O0.a0
  refine wpIn_rangeFunc_T (F := Fence.wide) rfl (by omega) (gf := 36) (lb := #[.pointer (some ⟨w.heap.size + 1 + 1, 0, none⟩)]) rfl trivial (enters_of Tryd.func36 (by kernel_rfl) rfl) (base := w.heap.size) (by omega)
    (listing_seq w b off n cap (w.heap.size + 1 + 1) (3 - 1) f W HA hn1 hn HF HLK A0 O0.a (by omega)) (Below.refl _ _) (fun _ => rfl)
    (fun pre Wx => Wx.cell? ⟨w.heap.size, 0, none⟩ = some (.slice (some ⟨b, off, none⟩) n cap) ∧ Wx.cell? ⟨w.heap.size + 1, 0, none⟩ = some (.int .i64 0) ∧ Wx.frozen? ⟨w.heap.size + 1, 0, none⟩ = false ∧ Hid (deepAt f pre = -1) ∧ Hid (Below w.heap.size w Wx))
    (fun c pre Wx => c = .ret ∧ Wx.cell? ⟨w.heap.size + 1, 0, none⟩ = some (.int .i64 (deepAt f pre)) ∧ Hid (deepAt f pre ≠ -1) ∧ Hid (Below w.heap.size w Wx))
    (fun s A B h hB => ⟨(hB.cell (p := ⟨w.heap.size, 0, none⟩) (by show w.heap.size < W.heap.size; omega)).trans h.1, (hB.cell (p := ⟨w.heap.size + 1, 0, none⟩) (by show w.heap.size + 1 < W.heap.size; omega)).trans h.2.1, (hB.frozen (p := ⟨w.heap.size + 1, 0, none⟩) (by show w.heap.size + 1 < W.heap.size; omega)).trans h.2.2.1, h.2.2.2.1, h.2.2.2.2.trans (hB.mono (by omega))⟩)
    (fun c s A B h hB => ⟨h.1, (hB.cell (p := ⟨w.heap.size + 1, 0, none⟩) (by show w.heap.size + 1 < W.heap.size; omega)).trans h.2.1, h.2.2.1, h.2.2.2.trans (hB.mono (by omega))⟩)
    ⟨ta, tr1, tr2, rfl, A0⟩
    (fun x => { tmps := #[.agg #[.slice (some ⟨b, off, none⟩) n cap], .pointer (some ⟨w.heap.size, 0, none⟩), .pointer (some ⟨w.heap.size + 1, 0, none⟩), .int .i64 (x.1 : Int), .int .i64 (x.2 : Int), .agg #[.slice (some ⟨b, off, none⟩) n cap], .func (.func 36) #[] #[.pointer (some ⟨w.heap.size + 1 + 1, 0, none⟩)], .int .i64 (x.1 : Int), .int .i64 (x.2 : Int), undef, undef, undef, undef, undef, undef, undef, undef, undef, undef, undef, undef], defers := [] }) ?assign ?body ?done ?stop
  case assign =>
    intro l x W K hK
    gi_wp2
    exact hK
  case body =>
    rintro l pre x W1 hox ⟨ha, hr, hrf, HO, HB⟩ hlt hz
    clear tr1 tr2 ta
    obtain ⟨_, p1, _⟩ := (HF.below HB (Nat.le_refl _)).2 x.1 hox
    have hx0 : (0 : Int) ≤ (x.1 : Int) := by omega
    have hxn : (x.1 : Int) < n := by omega
    have HM := hide (deepAt_more (x := x) HO)
    have U1 := hide (Upd.setCell (P := fun k => w.heap.size ≤ k ∧ k < W.heap.size) W1 (p := ⟨w.heap.size + 1, 0, none⟩) ⟨by show _ ≤ _ + 1; omega, by show _ + 1 < _; omega⟩ (.int .i64 (x.1 : Int)))
    have B1 := hide (HB.setCell (p := ⟨w.heap.size + 1, 0, none⟩) (by show _ ≤ _ + 1; omega) (.int .i64 (x.1 : Int)))
    have C1 := hide (World.cell?_setCell_same' W1 ⟨w.heap.size + 1, 0, none⟩ (.int .i64 (x.1 : Int)) (by rw [hr]; rfl))
    cases h3 : ((f x.1).kind == 3) with
    | false =>
      have HM1 : Hid (deepAt f (pre ++ [x]) = -1) := by show _ = _; rw [HM.out, if_neg (by intro h; rw [h.1] at h3; simp at h3)]
      gi_wp2
      exact ⟨Upd.refl _ _, ha, hr, hrf, HM1, HB⟩
    | true =>
      by_cases h6 : (60 : Int) ≤ (x.2 : Int)
      · have HM1 : Hid (deepAt f (pre ++ [x]) = (x.1 : Int)) := by show _ = _; rw [HM.out, if_pos ⟨by simpa using h3, by omega⟩]
        gi_wp2
        exact ⟨U1, rfl, by rw [HM1.out]; exact C1, by show _ ≠ _; rw [HM1.out]; omega, B1⟩
      · have HM1 : Hid (deepAt f (pre ++ [x]) = -1) := by show _ = _; rw [HM.out, if_neg (by intro h; omega)]
        gi_wp2
        exact ⟨Upd.refl _ _, ha, hr, hrf, HM1, HB⟩
  case done =>
    rintro D0 ys W1 hD rfl ⟨_, hr, hrf, HO, HB⟩ hK
    have K1 := hide ((KeepsOthers.setCell W1 ⟨w.heap.size + 1, 0, none⟩ (.int .i64 (-1))).same D0 _ hK rfl)
    have B1 := hide (HB.setCell (p := ⟨w.heap.size + 1, 0, none⟩) (by show _ ≤ _ + 1; omega) (.int .i64 (-1)))
    have C1 := hide (World.cell?_setCell_same' W1 ⟨w.heap.size + 1, 0, none⟩ (.int .i64 (-1)) (by rw [hr]; rfl))
    gi_wp2
    refine ⟨by simp, .inl ⟨_, _, rfl, run_takeDeferred K1, ?_⟩⟩
    have P1 := below_putObj (n := W.heap.size) (W1.setCell ⟨w.heap.size + 1, 0, none⟩ (.int .i64 (-1))) hD (Array.getElem?_eq_some_iff.1 K1).1 (.deferred none)
    have c := (P1.cell (p := ⟨w.heap.size + 1, 0, none⟩) (by show w.heap.size + 1 < W.heap.size; omega)).trans C1
    exact ⟨.int .i64 (-1), by simp [results, Tryd.results16, go_sem, c], by rw [HO.out], B1.trans (P1.mono (by omega))⟩
  case stop =>
    rintro D0 c pre W1 hD hpre ⟨rfl, hr, HO, HB⟩ hK
    gi_wp2
    refine ⟨by simp, .inl ⟨_, _, rfl, run_takeDeferred hK, ?_⟩⟩
    have P1 := below_putObj (n := W.heap.size) W1 hD (Array.getElem?_eq_some_iff.1 hK).1 (.deferred none)
    have c := (P1.cell (p := ⟨w.heap.size + 1, 0, none⟩) (by show w.heap.size + 1 < W.heap.size; omega)).trans hr
    exact ⟨.int .i64 (deepAt f pre), by simp [results, Tryd.results16, go_sem, c], by rw [deepAt_prefix hpre HO.out], HB.trans (P1.mono (by omega))⟩

end Go.Proofs.YtolpgafkojlkoabDoor.Vp
