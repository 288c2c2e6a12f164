/-
  slices.Insert at targets. Written by tools/ins_t.py out of InBase, InRoom, InGrow.
-/
import Derived.Test.YthbigpnaepbhjaaDoorZInGrow
namespace Go.Proofs.YthbigpnaepbhjaaDoor.Vp
open Go.RowKit

set_option maxRecDepth 100000 in
set_option maxHeartbeats 4000000 in
theorem insertTarget_end (base : Nat) (v : Value) (n : Nat) (xs : List Value) (vb : Nat) (p q : Value) (hp1 : p.oneCell' = true) (hq1 : q.oneCell' = true) (w : World) (hn : (n : Int) ≤ 1048576) (hown : w.ownsRow base 72 2 v n xs) (hx : w.heap[vb]? = some (.cells #[p, q] 72 (0, 0))) (hbase : base ≤ w.heap.size) :
    Calls Tryd.prog 43 #[v, .int .i64 n, .slice (some ⟨vb, 0, none⟩) 1 1] w fun e w' => ∃ v', e = .returned v' ∧ w'.ownsRow base 72 2 v' (n + 1) (xs ++ [p, q]) ∧ w.grownBy w' v.ownBlock := by
  obtain ⟨i0, hi, hz0, hz1, hz2⟩ := info_parts infoTarget
  have OW := hide hown
  have HX := hide hx
  have HB := hide hbase
  clear hx hbase
  rcases hown.2 with ⟨rfl, rfl⟩ | ⟨g, cap, cur, rfl, -, -, hc1, hc2, -, -⟩
  · clear hown
    go_enter Tryd.func43, Tryd.ntmps43
    go_wp2_with (at_builtin; (refine wpList_append_own _ rfl (.tmp 23) (.tmp 24) 28 rfl base 72 i0 (.agg #[.string ⟨#[]⟩, .slice none 0 0]) 2 40 Tryd.underlying28 hi hz0 hz1 hz2 rfl (by decide) (.slice none 0 0) 0 xs (by simp [Act.eval]) OW.out ⟨vb, 0, none⟩ 1 1 [p, q] (by simp [Act.eval]) rfl (two_at HX.out) (by simp [hp1, hq1]) (by unfold maxLen; omega) (by omega) HB.out ?_; intro v' w' ho hgr _; have O2 := hide ho; have G2 := hide hgr; clear ho hgr))
    go_ret
    exact ⟨_, rfl, O2.out, G2.out⟩
  · clear hown
    have hc3 : cap ≤ 9223372036854775807 := by unfold maxLen at hc2; omega
    go_enter Tryd.func43, Tryd.ntmps43
    go_wp2_with (at_builtin; (refine wpList_append_own _ rfl (.tmp 23) (.tmp 24) 28 rfl base 72 i0 (.agg #[.string ⟨#[]⟩, .slice none 0 0]) 2 40 Tryd.underlying28 hi hz0 hz1 hz2 rfl (by decide) (.slice (some ⟨g, 0, none⟩) n cap) n xs (by simp [Act.eval]) OW.out ⟨vb, 0, none⟩ 1 1 [p, q] (by simp [Act.eval]) rfl (two_at HX.out) (by simp [hp1, hq1]) (by unfold maxLen; omega) (by omega) HB.out ?_; intro v' w' ho hgr _; have O2 := hide ho; have G2 := hide hgr; clear ho hgr))
    all_goals (go_ret; exact ⟨_, rfl, O2.out, G2.out⟩)

set_option maxRecDepth 100000 in
set_option maxHeartbeats 4000000 in
theorem insertTarget_room (g n cap i : Nat) (cur : Array Value) (xs : List Value) (vb : Nat) (p q : Value) (hp1 : p.oneCell' = true) (hq1 : q.oneCell' = true) (w : World) (hn : (n : Int) ≤ 1048576) (hi : i < n) (hr : n + 1 ≤ cap) (hcap : cap ≤ 9223372036854775807)
    (hg : w.heap[g]? = some (.cells cur 72 (0, 0))) (hcs : cur.size = cap * 2) (htk : cur.toList.take (n * 2) = xs) (hxl : xs.length = n * 2) (h1 : ∀ u ∈ xs, u.oneCell' = true) (hx : w.heap[vb]? = some (.cells #[p, q] 72 (0, 0))) (hne : vb ≠ g) :
    Calls Tryd.prog 43 #[.slice (some ⟨g, 0, none⟩) n cap, .int .i64 i, .slice (some ⟨vb, 0, none⟩) 1 1] w fun e w' => e = .returned (.slice (some ⟨g, 0, none⟩) (n + 1) cap) ∧ ∃ A : Array Value, w'.heap[g]? = some (.cells A 72 (0, 0)) ∧ A.size = cap * 2 ∧ A.toList.take ((n + 1) * 2) = xs.take (i * 2) ++ [p, q] ++ xs.drop (i * 2) ∧ w.grownBy w' (some g) := by
  have hz2 : ¬ ((i : Int) = (n : Int)) := by omega
  have hsz : (Tryd.prog.info? 72).map (·.size) = some 2 := by
    obtain ⟨i0, hi0, h0, h1, h2⟩ := info_parts infoTarget
    rw [hi0]; simp [h1]
  have hzw : ∀ w, (Go.sizeOf 72).run Tryd.prog w = .ok 2 w := by
    obtain ⟨i0, hi0, h0, h1, h2⟩ := info_parts infoTarget
    intro w
    simp [Go.sizeOf, typeInfo, hi0, h1]
  have hov : ∀ lb cb, (callFunc 73 #[.slice (some ⟨vb, 0, none⟩) 1 1, .slice (some ⟨g, (i + 1) * 2, none⟩) lb cb]).run Tryd.prog w = .ok (.value (.bool false)) w := fun lb cb => by
    rw [run_callFunc_extern Tryd.func73 (by kernel_rfl) (by kernel_rfl) (by kernel_rfl) (e := Extern.SlicesOverlaps.overlaps #[28, 28] #[4]) (by kernel_rfl),
      Lib.run_overlaps_apart w 28 4 72 Tryd.underlying28 2 hzw ⟨vb, 0, none⟩ ⟨g, (i + 1) * 2, none⟩ 1 1 lb cb hne 72 72 2 cur.size (by simp [World.shape?, hx]) (by simp [World.shape?, hg]) (by omega) (by simp [World.frozen?, hx]) (by simp [World.frozen?, hx])]
    rfl
  have hdl : (xs.drop (i * 2)).length = (n - i) * 2 := by rw [List.length_drop, hxl]; omega
  obtain ⟨hL1, hL2, hL3⟩ := room_list p q htk hxl (Nat.le_of_lt hi) (by rw [Array.length_toList]; omega)
  obtain ⟨A1, hA1⟩ : ∃ A1, A1 = cur.toList.take (i * 2 + 2) ++ xs.drop (i * 2) ++ cur.toList.drop (i * 2 + 2 + (xs.drop (i * 2)).length) := ⟨_, rfl⟩
  rw [← hA1] at hL1 hL2 hL3
  obtain ⟨A2, hA2⟩ : ∃ A2, A2 = A1.take (i * 2) ++ [p, q] ++ A1.drop (i * 2 + 2) := ⟨_, rfl⟩
  rw [← hA2] at hL1 hL2
  have hsrc : ∀ j v, (xs.drop (i * 2))[j]? = some v → w.drew.cell? ((⟨g, i * 2, none⟩ : Addr).add j) = some v := fun j v hj => by
    rw [Addr.add_lit]
    have e : w.cell? ⟨g, i * 2 + j, none⟩ = cur[i * 2 + j]? := by simp [World.cell?, hg]
    refine e.trans ?_
    rw [List.getElem?_drop, ← htk, List.getElem?_take] at hj
    split at hj
    · rw [← Array.getElem?_toList]; exact hj
    · cases hj
  have hcp1 : ∀ ty dc sc, (Builtin.copy_ #[28, 28] ty #[.slice (some ⟨g, (i + 1) * 2, none⟩) (n - i) dc, .slice (some ⟨g, i * 2, none⟩) (n + 1 - i) sc]).run Tryd.prog w.drew = .ok (goInt (Nat.min (n + 1 - i) (n - i))) (w.drew.setRow g A1.toArray) := fun ty dc sc => by
    rw [hA1, show (i + 1) * 2 = i * 2 + 2 by omega]
    exact run_copy_wide w.drew _ _ ty 72 g (i * 2 + 2) _ dc ⟨g, i * 2, none⟩ _ sc 2 cur 72 (xs.drop (i * 2)) Tryd.underlying28 hsz hg (by rw [hdl]; congr 1; simp only [Nat.min_def]; split <;> omega) hsrc (by rw [hdl]; omega) (fun v hv => h1 v (List.mem_of_mem_drop hv))
  have hg1 : (w.drew.setRow g A1.toArray).heap[g]? = some (.cells A1.toArray 72 (0, 0)) := setRow_heap w.drew g cur _ _ _ hg
  have hx1 : (w.drew.setRow g A1.toArray).heap[vb]? = some (.cells #[p, q] 72 (0, 0)) := (setRow_other w.drew g vb _ hne).trans hx
  have hA1l : A1.toArray.size = cur.size := by rw [List.size_toArray, hL3, Array.length_toList]
  obtain ⟨W1, hW1⟩ : ∃ W1, W1 = w.drew.setRow g A1.toArray := ⟨_, rfl⟩
  rw [← hW1] at hcp1 hg1 hx1
  have hcp2 : ∀ (W : World), W.heap = W1.heap → ∀ ty dc, (Builtin.copy_ #[28, 28] ty #[.slice (some ⟨g, i * 2, none⟩) (n + 1 - i) dc, .slice (some ⟨vb, 0, none⟩) 1 1]).run Tryd.prog W = .ok (goInt (Nat.min 1 (n + 1 - i))) (W.setRow g A2.toArray) := fun W hW ty dc => by
    rw [hA2]
    exact run_copy_wide W _ _ ty 72 g (i * 2) _ dc ⟨vb, 0, none⟩ _ 1 2 A1.toArray 72 [p, q] Tryd.underlying28 hsz (by rw [hW]; exact hg1) (by simp only [List.length_cons, List.length_nil, Nat.min_def]; split <;> omega) (two_at (by rw [hW]; exact hx1)) (by simp only [List.length_cons, List.length_nil]; rw [hA1l, hcs]; omega) (by simp [hp1, hq1])
  have hw1 : IntKind.i64.wrap ((i : Int) + 1) = (i : Int) + 1 := by rw [IntKind.wrap_i64]; omega
  have hw2 : IntKind.i64.wrap ((n : Int) + 1) = (n : Int) + 1 := by rw [IntKind.wrap_i64]; omega
  have hroom : ¬ ((cap : Int) < (n : Int) + 1) := by omega
  have hb1 : (0 : Int) ≤ (i : Int) + 1 := by omega
  have htn : ((i : Int) + 1).toNat = i + 1 := by omega
  have hin : i ≤ n := by omega
  have hb2 : ¬ (cap = i + 1) := by omega
  have hb3 : (i : Int) ≤ (n : Int) + 1 := by omega
  have hb4 : ¬ (cap = i) := by omega
  have HF : Hid (∀ W : World, W.heap = (W1.setRow g A2.toArray).heap → W.os = w.os → W.tape = w.tape → W.output = w.output → ∃ A : Array Value, W.heap[g]? = some (.cells A 72 (0, 0)) ∧ A.size = cap * 2 ∧ A.toList.take ((n + 1) * 2) = xs.take (i * 2) ++ [p, q] ++ xs.drop (i * 2) ∧ w.grownBy W (some g)) := fun W hW o1 o2 o3 => by
    refine ⟨A2.toArray, by rw [hW]; exact setRow_heap W1 g A1.toArray _ _ _ hg1, by rw [List.size_toArray, hL2, Array.length_toList, hcs], by simpa using hL1, o1, o2, o3, ?_, fun k hk he => ?_⟩
    · rw [hW, hW1, setRow_size, setRow_size]; exact Nat.le_refl _
    · have hkg : k ≠ g := fun e => he (by rw [e])
      rw [hW, setRow_other _ _ _ _ hkg, hW1, setRow_other _ _ _ _ hkg]
      rfl
  have eo : W1.os = w.os ∧ W1.tape = w.tape ∧ W1.output = w.output := by subst hW1; exact ⟨rfl, rfl, rfl⟩
  have EO := hide eo
  clear hg hx htk hxl hcs hA1 hA2 hsrc hdl hL1 hL2 hL3 hg1 hx1 hA1l hW1 h1 hsz hzw eo
  go_enter Tryd.func43, Tryd.ntmps43
  go_wp2_with (simp only [hov])
  go_region_law (refine step_copy_runI rfl _ _ 28 28 rfl _ _ (by simp [Act.eval, Act.put]) (by simp [Act.eval, Act.put]) (hcp1 _ _ _) ?_)
  go_wp2_with (at_builtin; refine wpList_copy_runI _ rfl _ _ 28 28 rfl _ _ rfl rfl (hcp2 _ rfl _ _) ?_)
  go_ret
  exact ⟨rfl, HF.out _ rfl EO.out.1 EO.out.2.1 EO.out.2.2⟩

set_option maxRecDepth 100000 in
set_option maxHeartbeats 4000000 in
theorem insertTarget_grow (g n cap i : Nat) (cur : Array Value) (xs : List Value) (vb : Nat) (p q : Value) (hp1 : p.oneCell' = true) (hq1 : q.oneCell' = true) (w : World) (hn : (n : Int) ≤ 1048576) (hi : i < n) (hnc : n ≤ cap) (hr : cap < n + 1)
    (hg : w.heap[g]? = some (.cells cur 72 (0, 0))) (htk : cur.toList.take (n * 2) = xs) (hxl : xs.length = n * 2) (h1 : ∀ u ∈ xs, u.oneCell' = true) (hx : w.heap[vb]? = some (.cells #[p, q] 72 (0, 0))) :
    Calls Tryd.prog 43 #[.slice (some ⟨g, 0, none⟩) n cap, .int .i64 i, .slice (some ⟨vb, 0, none⟩) 1 1] w fun e w' => ∃ G, n + 1 ≤ G ∧ G ≤ maxLen ∧ e = .returned (.slice (some ⟨w.heap.size, 0, none⟩) (n + 1) G) ∧ ∃ A : Array Value, w'.heap[w.heap.size]? = some (.cells A 72 (0, 0)) ∧ A.size = G * 2 ∧ A.toList.take ((n + 1) * 2) = xs.take (i * 2) ++ [p, q] ++ xs.drop (i * 2) ∧ w.grownBy w' none := by
  obtain ⟨i0, hi0, hz0, hzs, hzb⟩ := info_parts infoTarget
  have hz2 : ¬ ((i : Int) = (n : Int)) := by omega
  have hz3 : (cap : Int) < (n : Int) + 1 := by omega
  have hsz : (Tryd.prog.info? 72).map (·.size) = some 2 := by rw [hi0]; simp [hzs]
  have hgw : g < w.heap.size := (Array.getElem?_eq_some_iff.1 hg).1
  have hvw : vb < w.heap.size := (Array.getElem?_eq_some_iff.1 hx).1
  have hkk : (n : Int) + 1 - (i : Int) = ((n + 1 - i : Nat) : Int) := by omega
  have hik : i + (n + 1 - i) = n + 1 := by omega
  have hcell : ∀ j v, xs[j]? = some v → w.cell? ⟨g, j, none⟩ = some v := fun j v hj => by
    have e : w.cell? ⟨g, j, none⟩ = cur[j]? := by simp [World.cell?, hg]
    rw [e]
    rw [← htk, List.getElem?_take] at hj
    split at hj
    · rw [← Array.getElem?_toList]; exact hj
    · cases hj
  have hold : (Builtin.firstCells i0.size i (.slice (some ⟨g, 0, none⟩) i cap)).run Tryd.prog w.drew = .ok (xs.take (i * 2)).toArray w.drew := by
    rw [hzs]
    exact run_firstCells_some w.drew 2 i ⟨g, 0, none⟩ i cap (xs.take (i * 2)) (by rw [List.length_take]; omega) (fun j v hj => by
      rw [Addr.add_lit, Nat.zero_add]
      rw [List.getElem?_take] at hj
      split at hj
      · exact hcell j v hj
      · cases hj)
  obtain ⟨G, hG⟩ : ∃ G, G = grownCap w (n + 1) cap 72 := ⟨_, rfl⟩
  obtain ⟨ZS, hZS⟩ : ∃ ZS : Array Value, ZS = Builtin.zeroCells (Value.agg #[.string ⟨#[]⟩, .slice none 0 0]).cells (n + 1 - i) ++ Builtin.zeroCells (Value.agg #[.string ⟨#[]⟩, .slice none 0 0]).cells (G - (n + 1)) := ⟨_, rfl⟩
  have hGn : n + 1 ≤ G := by rw [hG]; exact grownCap_ge w _ _ _
  have hGm : G ≤ maxLen := by rw [hG]; exact grownCap_le_maxLen w (n + 1) cap 72 (by unfold maxLen; omega)
  have hG63 : G ≤ 9223372036854775807 := by unfold maxLen at hGm; omega
  have hZl : ZS.size = (G - i) * 2 := by
    rw [hZS]
    simp [Builtin.zeroCells, Value.cells]
    omega
  have hrz : ∀ ty, (Builtin.append_ #[28, 3] ty #[.slice (some ⟨g, 0, none⟩) i cap, .int .i64 ((n : Int) + 1 - (i : Int))]).run Tryd.prog w =
      .ok (.slice (some ⟨w.heap.size, 0, none⟩) (n + 1) G) (w.drew.alloc (.cells (xs.take (i * 2) ++ ZS.toList).toArray 72)) := fun ty => by
    have h := Lib.run_append_grow_zeros w 28 3 ty 72 i0 _ .i64 .i64 Tryd.underlying28 Tryd.underlying3 hi0 hz0 (some ⟨g, 0, none⟩) i cap (xs.take (i * 2)) hold (n + 1 - i) (by omega) (by omega) (by omega) (by omega) (by rw [hzb]; omega) (by rw [hzb, hik]; exact growslice_fits hr (by omega))
    rw [hik, ← hG] at h
    rw [hkk, h]
    have e : (xs.take (i * 2)).toArray ++ Builtin.zeroCells (Value.agg #[.string ⟨#[]⟩, .slice none 0 0]).cells (n + 1 - i) ++ Builtin.zeroCells (Value.agg #[.string ⟨#[]⟩, .slice none 0 0]).cells (G - (n + 1)) = (xs.take (i * 2) ++ ZS.toList).toArray := by
      rw [hZS]
      apply Array.ext'
      simp
    rw [e]
  obtain ⟨hL1, hL2, hL3⟩ := grow_list (zs := ZS.toList) p q hxl (Nat.le_of_lt hi) (by rw [Array.length_toList, hZl]; omega)
  have hRl : (xs.take (i * 2) ++ ZS.toList).length = G * 2 := by
    have hz' : ZS.toList.length = (G - i) * 2 := by rw [Array.length_toList, hZl]
    rw [List.length_append, List.length_take, hz', hxl]; omega
  obtain ⟨R, hR⟩ : ∃ R, R = xs.take (i * 2) ++ ZS.toList := ⟨_, rfl⟩
  rw [← hR] at hL1 hL2 hL3 hrz hRl
  obtain ⟨A1, hA1⟩ : ∃ A1, A1 = R.take (i * 2) ++ [p, q] ++ R.drop (i * 2 + 2) := ⟨_, rfl⟩
  rw [← hA1] at hL1 hL2 hL3
  obtain ⟨A2, hA2⟩ : ∃ A2, A2 = A1.take (i * 2 + 2) ++ xs.drop (i * 2) ++ A1.drop (i * 2 + 2 + (xs.drop (i * 2)).length) := ⟨_, rfl⟩
  rw [← hA2] at hL1 hL2
  obtain ⟨W1, hW1⟩ : ∃ W1, W1 = w.drew.alloc (.cells R.toArray 72) := ⟨_, rfl⟩
  have hN : W1.heap[w.heap.size]? = some (.cells R.toArray 72 (0, 0)) := by rw [hW1]; exact heap_alloc_new w.drew _
  have hO : ∀ k, k < w.heap.size → W1.heap[k]? = w.heap[k]? := fun k hk => by rw [hW1]; exact heap_alloc_old w.drew _ hk
  have hdl : (xs.drop (i * 2)).length = (n - i) * 2 := by rw [List.length_drop, hxl]; omega
  have hA1l : A1.toArray.size = G * 2 := by rw [List.size_toArray, hL3, hRl]
  have hcpA : ∀ (W : World), W.heap = W1.heap → ∀ ty dc, (Builtin.copy_ #[28, 28] ty #[.slice (some ⟨w.heap.size, i * 2, none⟩) (n + 1 - i) dc, .slice (some ⟨vb, 0, none⟩) 1 1]).run Tryd.prog W = .ok (goInt (Nat.min 1 (n + 1 - i))) (W.setRow w.heap.size A1.toArray) := fun W hW ty dc => by
    rw [hA1]
    exact run_copy_wide W _ _ ty 72 w.heap.size (i * 2) _ dc ⟨vb, 0, none⟩ _ 1 2 R.toArray 72 [p, q] Tryd.underlying28 hsz (by rw [hW]; exact hN) (by simp only [List.length_cons, List.length_nil, Nat.min_def]; split <;> omega) (two_at (by rw [hW, hO vb hvw]; exact hx)) (by simp only [List.length_cons, List.length_nil]; rw [List.size_toArray, hRl]; omega) (by simp [hp1, hq1])
  have hN1 : (W1.setRow w.heap.size A1.toArray).heap[w.heap.size]? = some (.cells A1.toArray 72 (0, 0)) := setRow_heap W1 _ _ _ _ _ hN
  have hO1 : ∀ k, k < w.heap.size → (W1.setRow w.heap.size A1.toArray).heap[k]? = w.heap[k]? := fun k hk => (setRow_other _ _ _ _ (by omega)).trans (hO k hk)
  have hcpB : ∀ (W : World), W.heap = (W1.setRow w.heap.size A1.toArray).heap → ∀ ty dc sc, (Builtin.copy_ #[28, 28] ty #[.slice (some ⟨w.heap.size, (i + 1) * 2, none⟩) (n - i) dc, .slice (some ⟨g, i * 2, none⟩) (n - i) sc]).run Tryd.prog W = .ok (goInt (Nat.min (n - i) (n - i))) (W.setRow w.heap.size A2.toArray) := fun W hW ty dc sc => by
    rw [hA2, show (i + 1) * 2 = i * 2 + 2 by omega]
    exact run_copy_wide W _ _ ty 72 w.heap.size (i * 2 + 2) _ dc ⟨g, i * 2, none⟩ _ sc 2 A1.toArray 72 (xs.drop (i * 2)) Tryd.underlying28 hsz (by rw [hW]; exact hN1) (by rw [hdl]; congr 1; simp only [Nat.min_def]; split <;> omega)
      (fun j v hj => by
        rw [Addr.add_lit]
        have e : W.cell? ⟨g, i * 2 + j, none⟩ = w.cell? ⟨g, i * 2 + j, none⟩ := World.cell?_of_block (by rw [hW]; exact hO1 g hgw)
        rw [e]
        exact hcell _ v (by rwa [List.getElem?_drop] at hj))
      (by rw [hdl, hA1l]; omega) (fun v hv => h1 v (List.mem_of_mem_drop hv))
  have HF : Hid (∀ W : World, W.heap = ((W1.setRow w.heap.size A1.toArray).setRow w.heap.size A2.toArray).heap → W.os = w.os → W.tape = w.tape → W.output = w.output → ∃ A : Array Value, W.heap[w.heap.size]? = some (.cells A 72 (0, 0)) ∧ A.size = G * 2 ∧ A.toList.take ((n + 1) * 2) = xs.take (i * 2) ++ [p, q] ++ xs.drop (i * 2) ∧ w.grownBy W none) := fun W hW o1 o2 o3 => by
    refine ⟨A2.toArray, by rw [hW]; exact setRow_heap _ _ _ _ _ _ hN1, by rw [List.size_toArray, hL2, hRl], by simpa using hL1, o1, o2, o3, ?_, fun k hk _ => ?_⟩
    · rw [hW, hW1, setRow_size, setRow_size]; simp
    · rw [hW, setRow_other _ _ _ _ (by omega)]
      exact hO1 k hk
  have hw1 : IntKind.i64.wrap ((i : Int) + 1) = (i : Int) + 1 := by rw [IntKind.wrap_i64]; omega
  have hw2 : IntKind.i64.wrap ((n : Int) + 1) = (n : Int) + 1 := by rw [IntKind.wrap_i64]; omega
  have hw3 : IntKind.i64.wrap ((n : Int) + 1 - (i : Int)) = (n : Int) + 1 - (i : Int) := by rw [IntKind.wrap_i64]; omega
  have hb1 : (0 : Int) ≤ (i : Int) + 1 := by omega
  have htn : ((i : Int) + 1).toNat = i + 1 := by omega
  have hin : i ≤ n := by omega
  have hb3 : (i : Int) ≤ (n : Int) := by omega
  have hGi : ¬ (G = i) := by omega
  have hGim : ¬ (G = i + 1) := by omega
  have hci : ¬ (cap = i) := by omega
  have HGn := hide hGn
  have HGm := hide hGm
  subst hW1
  have hE1 : ((w.alloc (.cells R.toArray 72)).drew).heap = (w.drew.alloc (.cells R.toArray 72)).heap := rfl
  have HE1 := hide hE1
  clear hE1
  clear hg hx htk hxl hA1 hA2 hdl hL1 hL2 hL3 hN hO hN1 hO1 hA1l h1 hsz hcell hold hG hZS hZl hRl hR hkk hik hi0 hz0 hzs hzb hGm hgw hvw
  go_enter Tryd.func43, Tryd.ntmps43
  go_wp2_with (first
    | (at_builtin; refine Lib.wpList_append_run _ rfl _ _ _ _ rfl _ _ rfl rfl _ _ (hrz _) ?_)
    | (simp only [hcpA _ HE1.out]))
  generalize hW2 : (w.alloc (.cells R.toArray 72)).drew.setRow w.heap.size A1.toArray = W2
  have H2 : Hid (W2.heap = ((w.drew.alloc (.cells R.toArray 72)).setRow w.heap.size A1.toArray).heap ∧ W2.os = w.os ∧ W2.tape = w.tape ∧ W2.output = w.output) := by subst hW2; exact ⟨rfl, rfl, rfl, rfl⟩
  have hb : ∀ ty dc sc, (Builtin.copy_ #[28, 28] ty #[.slice (some ⟨w.heap.size, (i + 1) * 2, none⟩) (n - i) dc, .slice (some ⟨g, i * 2, none⟩) (n - i) sc]).run Tryd.prog W2.drew = .ok (goInt (Nat.min (n - i) (n - i))) (W2.drew.setRow w.heap.size A2.toArray) := fun ty dc sc => hcpB W2.drew H2.out.1 ty dc sc
  clear hW2 hcpA hcpB hrz HE1
  go_region_law (refine step_copy_runI rfl _ _ 28 28 rfl _ _ (by simp [Act.eval, Act.put]) (by simp [Act.eval, Act.put]) (hb _ _ _) ?_)
  go_wp2
  go_ret
  exact ⟨G, HGn.out, HGm.out, rfl, HF.out _ (congrArg (fun h => (World.setRow { w with heap := h } w.heap.size A2.toArray).heap) H2.out.1) H2.out.2.1 H2.out.2.2.1 H2.out.2.2.2⟩

theorem insertTarget_own (base : Nat) (v : Value) (n i : Nat) (xs : List Value) (vb : Nat) (p q : Value) (hp1 : p.oneCell' = true) (hq1 : q.oneCell' = true) (w : World) (hn : (n : Int) ≤ 1048576) (hi : i ≤ n) (hown : w.ownsRow base 72 2 v n xs) (h1 : ∀ u ∈ xs, u.oneCell' = true) (hx : w.heap[vb]? = some (.cells #[p, q] 72 (0, 0))) (hne : v.ownBlock ≠ some vb) (hbase : base ≤ w.heap.size) :
    Calls Tryd.prog 43 #[v, .int .i64 i, .slice (some ⟨vb, 0, none⟩) 1 1] w fun e w' => ∃ v', e = .returned v' ∧ w'.ownsRow base 72 2 v' (n + 1) (xs.take (i * 2) ++ [p, q] ++ xs.drop (i * 2)) ∧ w.grownBy w' v.ownBlock := by
  have hxl := hown.1
  have hl : (xs.take (i * 2) ++ [p, q] ++ xs.drop (i * 2)).length = (n + 1) * 2 := by
    simp only [List.length_append, List.length_take, List.length_drop, List.length_cons, List.length_nil, hxl]
    omega
  by_cases hin : i = n
  · subst hin
    have e1 : xs.take (i * 2) = xs := List.take_of_length_le (by omega)
    have e2 : xs.drop (i * 2) = [] := List.drop_eq_nil_of_le (by omega)
    rw [e1, e2, List.append_nil]
    exact insertTarget_end base v i xs vb p q hp1 hq1 w hn hown hx hbase
  · rcases hown.2 with ⟨rfl, rfl⟩ | ⟨g, cap, cur, rfl, hb, hg, hc1, hc2, hc3, hc4⟩
    · omega
    · by_cases hr : n + 1 ≤ cap
      · refine (insertTarget_room g n cap i cur xs vb p q hp1 hq1 w hn (by omega) hr (by unfold maxLen at hc2; omega) hg hc3 hc4 hxl h1 hx (fun e => hne (by rw [e]; rfl))).mono ?_
        rintro e w' ⟨rfl, A, hA, hs, ht, hgr⟩
        exact ⟨_, rfl, ⟨hl, .inr ⟨g, cap, A, rfl, hb, hA, hr, hc2, hs, ht⟩⟩, hgr⟩
      · refine (insertTarget_grow g n cap i cur xs vb p q hp1 hq1 w hn (by omega) hc1 (by omega) hg hc4 hxl h1 hx).mono ?_
        rintro e w' ⟨G, hG1, hG2, rfl, A, hA, hs, ht, hgr⟩
        exact ⟨_, rfl, ⟨hl, .inr ⟨w.heap.size, G, A, rfl, hbase, hA, hG1, hG2, hs, ht⟩⟩, grown_some hgr _⟩

end Go.Proofs.YthbigpnaepbhjaaDoor.Vp
