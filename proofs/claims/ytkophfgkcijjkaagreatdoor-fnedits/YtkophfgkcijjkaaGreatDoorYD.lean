import Derived.Test.YtkophfgkcijjkaaGreatDoorZZ
import Derived.Shelf.Spec.SlicesInsert
import Derived.Laws.CopyRow
import Derived.Lib.AppendZerosOnto
namespace Go.Proofs.YtkophfgkcijjkaaGreatDoor.Vp
open Go.RowKit
theorem run_copy_wide {P : Program} (w : World) (dT sT ty elem : TypeId) (g o dLen dCap : Nat) (a : Addr) (sLen sCap size : Nat) (cur : Array Value) (t : TypeId) (cs : List Value)
    (hu : P.underlying dT = some (.slice elem)) (hs : (P.info? elem).map (·.size) = some size)
    (hg : w.heap[g]? = some (.cells cur t (0, 0))) (hn : cs.length = Nat.min sLen dLen * size)
    (hsrc : ∀ j v, cs[j]? = some v → w.cell? (a.add j) = some v) (hfit : o + cs.length ≤ cur.size) (h1 : ∀ v ∈ cs, v.oneCell' = true) :
    (Builtin.copy_ #[dT, sT] ty #[.slice (some ⟨g, o, none⟩) dLen dCap, .slice (some a) sLen sCap]).run P w =
      .ok (goInt (Nat.min sLen dLen)) (w.setRow g (cur.toList.take o ++ cs ++ cur.toList.drop (o + cs.length)).toArray) := by
  have hl := run_loadCells_list (P := P) w a cs hsrc
  have hst := run_storeCells_at P g o t cs 0 cur w hg (by simpa using hfit) h1
  cases hq : P.info? elem with
  | none => simp [hq] at hs
  | some i =>
    have hi : i.size = size := by simpa [hq] using hs
    simp [Builtin.copy_, run_underlying hu, Builtin.lenOf, Builtin.firstCells, sizeOf, typeInfo, hq, hi, ← hn, hl, hst]
theorem two_at {w : World} {vb : Nat} {p q : Value} {e : TypeId} (hx : w.heap[vb]? = some (.cells #[p, q] e (0, 0))) : ∀ j u, [p, q][j]? = some u → w.cell? ((⟨vb, 0, none⟩ : Addr).add j) = some u := by
  intro j u hj
  rw [Addr.add_lit, Nat.zero_add]
  have e : w.cell? ⟨vb, j, none⟩ = #[p, q][j]? := by simp [World.cell?, hx]
  rw [e, ← hj]
  simp
set_option maxRecDepth 100000 in
set_option maxHeartbeats 4000000 in
theorem insertSource_end (base : Nat) (v : Value) (n : Nat) (xs : List Value) (vb : Nat) (p q : ByteArray) (w : World) (hn : (n : Int) ≤ 1048576) (hown : w.ownsRow base 100 2 v n xs) (hx : w.heap[vb]? = some (.cells #[.string p, .string q] 100 (0, 0))) (hbase : base ≤ w.heap.size) :
    Calls Tryz.prog 59 #[v, .int .i64 n, .slice (some ⟨vb, 0, none⟩) 1 1] w fun e w' => ∃ v', e = .returned v' ∧ w'.ownsRow base 100 2 v' (n + 1) (xs ++ [.string p, .string q]) ∧ w.grownBy w' v.ownBlock := by
  obtain ⟨i0, hi, hz0, hz1, hz2⟩ := info_parts infoSource
  have OW := hide hown
  have HX := hide hx
  have HB := hide hbase
  clear hx hbase
  rcases hown.2 with ⟨rfl, rfl⟩ | ⟨g, cap, cur, rfl, -, -, hc1, hc2, -, -⟩
  · clear hown
    go_enter Tryz.func59, Tryz.ntmps59
    go_wp2_with (at_builtin; (refine wpList_append_own _ rfl (.tmp 23) (.tmp 24) 23 rfl base 100 i0 (.agg #[.string ⟨#[]⟩, .string ⟨#[]⟩]) 2 32 Tryz.underlying23 hi hz0 hz1 hz2 rfl (by decide) (.slice none 0 0) 0 xs (by simp [Act.eval]) OW.out ⟨vb, 0, none⟩ 1 1 [.string p, .string q] (by simp [Act.eval]) rfl (two_at HX.out) (by simp [Value.oneCell']) (by unfold maxLen; omega) (by omega) HB.out ?_; intro v' w' ho hgr _; have O2 := hide ho; have G2 := hide hgr; clear ho hgr))
    go_ret
    exact ⟨_, rfl, O2.out, G2.out⟩
  · clear hown
    have hc3 : cap ≤ 9223372036854775807 := by unfold maxLen at hc2; omega
    go_enter Tryz.func59, Tryz.ntmps59
    go_wp2_with (at_builtin; (refine wpList_append_own _ rfl (.tmp 23) (.tmp 24) 23 rfl base 100 i0 (.agg #[.string ⟨#[]⟩, .string ⟨#[]⟩]) 2 32 Tryz.underlying23 hi hz0 hz1 hz2 rfl (by decide) (.slice (some ⟨g, 0, none⟩) n cap) n xs (by simp [Act.eval]) OW.out ⟨vb, 0, none⟩ 1 1 [.string p, .string q] (by simp [Act.eval]) rfl (two_at HX.out) (by simp [Value.oneCell']) (by unfold maxLen; omega) (by omega) HB.out ?_; intro v' w' ho hgr _; have O2 := hide ho; have G2 := hide hgr; clear ho hgr))
    all_goals (go_ret; exact ⟨_, rfl, O2.out, G2.out⟩)
end Go.Proofs.YtkophfgkcijjkaaGreatDoor.Vp
namespace Go.Proofs.YtkophfgkcijjkaaGreatDoor.Vp
open Go.RowKit
theorem room_list {cur xs : List Value} {n i : Nat} (p q : Value) (ht : cur.take (n * 2) = xs) (hxl : xs.length = n * 2) (hi : i ≤ n) (hl : n * 2 + 2 ≤ cur.length) :
    let A1 := cur.take (i * 2 + 2) ++ xs.drop (i * 2) ++ cur.drop (i * 2 + 2 + (xs.drop (i * 2)).length)
    (A1.take (i * 2) ++ [p, q] ++ A1.drop (i * 2 + 2)).take ((n + 1) * 2) = xs.take (i * 2) ++ [p, q] ++ xs.drop (i * 2) ∧ (A1.take (i * 2) ++ [p, q] ++ A1.drop (i * 2 + 2)).length = cur.length ∧ A1.length = cur.length := by
  intro A1
  have h1 : A1.take (i * 2) = xs.take (i * 2) := by
    show List.take _ (cur.take (i * 2 + 2) ++ xs.drop (i * 2) ++ _) = _
    rw [List.append_assoc, List.take_append_of_le_length (by rw [List.length_take]; omega), List.take_take, ← ht, List.take_take]
    congr 1
    omega
  have h2 : A1.drop (i * 2 + 2) = xs.drop (i * 2) ++ cur.drop (i * 2 + 2 + (xs.drop (i * 2)).length) := by
    show List.drop _ (cur.take (i * 2 + 2) ++ xs.drop (i * 2) ++ _) = _
    rw [List.append_assoc]
    have e : i * 2 + 2 = (cur.take (i * 2 + 2)).length := by rw [List.length_take]; omega
    conv => lhs; arg 1; rw [e]
    rw [List.drop_left]
  have hd : (xs.drop (i * 2)).length = n * 2 - i * 2 := by rw [List.length_drop, hxl]
  have htk : (xs.take (i * 2)).length = i * 2 := by rw [List.length_take]; omega
  refine ⟨?_, ?_, ?_⟩
  · rw [h1, h2, ← List.append_assoc]
    have e : (n + 1) * 2 = (xs.take (i * 2) ++ [p, q] ++ xs.drop (i * 2)).length := by simp only [List.length_append, htk, hd, List.length_cons, List.length_nil]; omega
    rw [e, List.take_left]
  · rw [h1, h2]
    simp only [List.length_append, htk, hd, List.length_cons, List.length_nil, List.length_drop]
    omega
  · show (cur.take (i * 2 + 2) ++ xs.drop (i * 2) ++ _).length = _
    simp only [List.length_append, hd, List.length_take, List.length_drop]
    omega
set_option maxRecDepth 100000 in
set_option maxHeartbeats 4000000 in
theorem insertSource_room (g n cap i : Nat) (cur : Array Value) (xs : List Value) (vb : Nat) (p q : ByteArray) (w : World) (hn : (n : Int) ≤ 1048576) (hi : i < n) (hr : n + 1 ≤ cap) (hcap : cap ≤ 9223372036854775807)
    (hg : w.heap[g]? = some (.cells cur 100 (0, 0))) (hcs : cur.size = cap * 2) (htk : cur.toList.take (n * 2) = xs) (hxl : xs.length = n * 2) (h1 : ∀ u ∈ xs, u.oneCell' = true) (hx : w.heap[vb]? = some (.cells #[.string p, .string q] 100 (0, 0))) (hne : vb ≠ g) :
    Calls Tryz.prog 59 #[.slice (some ⟨g, 0, none⟩) n cap, .int .i64 i, .slice (some ⟨vb, 0, none⟩) 1 1] w fun e w' => e = .returned (.slice (some ⟨g, 0, none⟩) (n + 1) cap) ∧ ∃ A : Array Value, w'.heap[g]? = some (.cells A 100 (0, 0)) ∧ A.size = cap * 2 ∧ A.toList.take ((n + 1) * 2) = xs.take (i * 2) ++ [.string p, .string q] ++ xs.drop (i * 2) ∧ w.grownBy w' (some g) := by
  have hz2 : ¬ ((i : Int) = (n : Int)) := by omega
  have hsz : (Tryz.prog.info? 100).map (·.size) = some 2 := by
    obtain ⟨i0, hi0, h0, h1, h2⟩ := info_parts infoSource
    rw [hi0]; simp [h1]
  have hzw : ∀ w, (Go.sizeOf 100).run Tryz.prog w = .ok 2 w := by
    obtain ⟨i0, hi0, h0, h1, h2⟩ := info_parts infoSource
    intro w
    simp [Go.sizeOf, typeInfo, hi0, h1]
  have hov : ∀ lb cb, (callFunc 135 #[.slice (some ⟨vb, 0, none⟩) 1 1, .slice (some ⟨g, (i + 1) * 2, none⟩) lb cb]).run Tryz.prog w = .ok (.value (.bool false)) w := fun lb cb => by
    rw [run_callFunc_extern Tryz.func135 (by kernel_rfl) (by kernel_rfl) (by kernel_rfl) (e := Extern.SlicesOverlaps.overlaps #[23, 23] #[4]) (by kernel_rfl),
      Lib.run_overlaps_apart w 23 4 100 Tryz.underlying23 2 hzw ⟨vb, 0, none⟩ ⟨g, (i + 1) * 2, none⟩ 1 1 lb cb hne 100 100 2 cur.size (by simp [World.shape?, hx]) (by simp [World.shape?, hg]) (by omega) (by simp [World.frozen?, hx]) (by simp [World.frozen?, hx])]
    rfl
  have hdl : (xs.drop (i * 2)).length = (n - i) * 2 := by rw [List.length_drop, hxl]; omega
  obtain ⟨hL1, hL2, hL3⟩ := room_list (.string p) (.string q) htk hxl (Nat.le_of_lt hi) (by rw [Array.length_toList]; omega)
  obtain ⟨A1, hA1⟩ : ∃ A1, A1 = cur.toList.take (i * 2 + 2) ++ xs.drop (i * 2) ++ cur.toList.drop (i * 2 + 2 + (xs.drop (i * 2)).length) := ⟨_, rfl⟩
  rw [← hA1] at hL1 hL2 hL3
  obtain ⟨A2, hA2⟩ : ∃ A2, A2 = A1.take (i * 2) ++ [.string p, .string q] ++ A1.drop (i * 2 + 2) := ⟨_, rfl⟩
  rw [← hA2] at hL1 hL2
  have hsrc : ∀ j v, (xs.drop (i * 2))[j]? = some v → w.drew.cell? ((⟨g, i * 2, none⟩ : Addr).add j) = some v := fun j v hj => by
    rw [Addr.add_lit]
    have e : w.cell? ⟨g, i * 2 + j, none⟩ = cur[i * 2 + j]? := by simp [World.cell?, hg]
    refine e.trans ?_
    rw [List.getElem?_drop, ← htk, List.getElem?_take] at hj
    split at hj
    · rw [← Array.getElem?_toList]; exact hj
    · cases hj
  have hcp1 : ∀ ty dc sc, (Builtin.copy_ #[23, 23] ty #[.slice (some ⟨g, (i + 1) * 2, none⟩) (n - i) dc, .slice (some ⟨g, i * 2, none⟩) (n + 1 - i) sc]).run Tryz.prog w.drew = .ok (goInt (Nat.min (n + 1 - i) (n - i))) (w.drew.setRow g A1.toArray) := fun ty dc sc => by
    rw [hA1, show (i + 1) * 2 = i * 2 + 2 by omega]
    exact run_copy_wide w.drew _ _ ty 100 g (i * 2 + 2) _ dc ⟨g, i * 2, none⟩ _ sc 2 cur 100 (xs.drop (i * 2)) Tryz.underlying23 hsz hg (by rw [hdl]; congr 1; simp only [Nat.min_def]; split <;> omega) hsrc (by rw [hdl]; omega) (fun v hv => h1 v (List.mem_of_mem_drop hv))
  have hg1 : (w.drew.setRow g A1.toArray).heap[g]? = some (.cells A1.toArray 100 (0, 0)) := setRow_heap w.drew g cur _ _ _ hg
  have hx1 : (w.drew.setRow g A1.toArray).heap[vb]? = some (.cells #[.string p, .string q] 100 (0, 0)) := (setRow_other w.drew g vb _ hne).trans hx
  have hA1l : A1.toArray.size = cur.size := by rw [List.size_toArray, hL3, Array.length_toList]
  obtain ⟨W1, hW1⟩ : ∃ W1, W1 = w.drew.setRow g A1.toArray := ⟨_, rfl⟩
  rw [← hW1] at hcp1 hg1 hx1
  have hcp2 : ∀ (W : World), W.heap = W1.heap → ∀ ty dc, (Builtin.copy_ #[23, 23] ty #[.slice (some ⟨g, i * 2, none⟩) (n + 1 - i) dc, .slice (some ⟨vb, 0, none⟩) 1 1]).run Tryz.prog W = .ok (goInt (Nat.min 1 (n + 1 - i))) (W.setRow g A2.toArray) := fun W hW ty dc => by
    rw [hA2]
    exact run_copy_wide W _ _ ty 100 g (i * 2) _ dc ⟨vb, 0, none⟩ _ 1 2 A1.toArray 100 [.string p, .string q] Tryz.underlying23 hsz (by rw [hW]; exact hg1) (by simp only [List.length_cons, List.length_nil, Nat.min_def]; split <;> omega) (two_at (by rw [hW]; exact hx1)) (by simp only [List.length_cons, List.length_nil]; rw [hA1l, hcs]; omega) (by simp [Value.oneCell'])
  have hw1 : IntKind.i64.wrap ((i : Int) + 1) = (i : Int) + 1 := by rw [IntKind.wrap_i64]; omega
  have hw2 : IntKind.i64.wrap ((n : Int) + 1) = (n : Int) + 1 := by rw [IntKind.wrap_i64]; omega
  have hroom : ¬ ((cap : Int) < (n : Int) + 1) := by omega
  have hb1 : (0 : Int) ≤ (i : Int) + 1 := by omega
  have htn : ((i : Int) + 1).toNat = i + 1 := by omega
  have hin : i ≤ n := by omega
  have hb2 : ¬ (cap = i + 1) := by omega
  have hb3 : (i : Int) ≤ (n : Int) + 1 := by omega
  have hb4 : ¬ (cap = i) := by omega
  have HF : Hid (∀ W : World, W.heap = (W1.setRow g A2.toArray).heap → W.os = w.os → W.tape = w.tape → W.output = w.output → ∃ A : Array Value, W.heap[g]? = some (.cells A 100 (0, 0)) ∧ A.size = cap * 2 ∧ A.toList.take ((n + 1) * 2) = xs.take (i * 2) ++ [.string p, .string q] ++ xs.drop (i * 2) ∧ w.grownBy W (some g)) := fun W hW o1 o2 o3 => by
    refine ⟨A2.toArray, by rw [hW]; exact setRow_heap W1 g A1.toArray _ _ _ hg1, by rw [List.size_toArray, hL2, Array.length_toList, hcs], by simpa using hL1, o1, o2, o3, ?_, fun k hk he => ?_⟩
    · rw [hW, hW1, setRow_size, setRow_size]; exact Nat.le_refl _
    · have hkg : k ≠ g := fun e => he (by rw [e])
      rw [hW, setRow_other _ _ _ _ hkg, hW1, setRow_other _ _ _ _ hkg]
      rfl
  have eo : W1.os = w.os ∧ W1.tape = w.tape ∧ W1.output = w.output := by subst hW1; exact ⟨rfl, rfl, rfl⟩
  have EO := hide eo
  clear hg hx htk hxl hcs hA1 hA2 hsrc hdl hL1 hL2 hL3 hg1 hx1 hA1l hW1 h1 hsz hzw eo
  go_enter Tryz.func59, Tryz.ntmps59
  go_wp2_with (simp only [hov])
  go_region_law (refine step_copy_runI rfl _ _ 23 23 rfl _ _ (by simp [Act.eval, Act.put]) (by simp [Act.eval, Act.put]) (hcp1 _ _ _) ?_)
  go_wp2_with (at_builtin; refine wpList_copy_runI _ rfl _ _ 23 23 rfl _ _ rfl rfl (hcp2 _ rfl _ _) ?_)
  go_ret
  exact ⟨rfl, HF.out _ rfl EO.out.1 EO.out.2.1 EO.out.2.2⟩
end Go.Proofs.YtkophfgkcijjkaaGreatDoor.Vp
namespace Go.Proofs.YtkophfgkcijjkaaGreatDoor.Vp
open Go.RowKit
theorem grow_list {xs zs : List Value} {n i : Nat} (p q : Value) (hxl : xs.length = n * 2) (hi : i ≤ n) (hz : (n + 1 - i) * 2 ≤ zs.length) :
    let R := xs.take (i * 2) ++ zs
    let A1 := R.take (i * 2) ++ [p, q] ++ R.drop (i * 2 + 2)
    let A2 := A1.take (i * 2 + 2) ++ xs.drop (i * 2) ++ A1.drop (i * 2 + 2 + (xs.drop (i * 2)).length)
    A2.take ((n + 1) * 2) = xs.take (i * 2) ++ [p, q] ++ xs.drop (i * 2) ∧ A2.length = R.length ∧ A1.length = R.length := by
  intro R A1 A2
  have hd : (xs.drop (i * 2)).length = n * 2 - i * 2 := by rw [List.length_drop, hxl]
  have htk : (xs.take (i * 2)).length = i * 2 := by rw [List.length_take]; omega
  have hR : R.length = i * 2 + zs.length := by show (xs.take (i * 2) ++ zs).length = _; rw [List.length_append, htk]
  have h1 : R.take (i * 2) = xs.take (i * 2) := by
    show (xs.take (i * 2) ++ zs).take (i * 2) = _
    conv => lhs; arg 1; rw [← htk]
    rw [List.take_left]
  have hA1 : A1.length = R.length := by
    show (R.take (i * 2) ++ [p, q] ++ R.drop (i * 2 + 2)).length = _
    simp only [List.length_append, List.length_take, List.length_drop, List.length_cons, List.length_nil, hR]
    omega
  have h2 : A1.take (i * 2 + 2) = xs.take (i * 2) ++ [p, q] := by
    show (R.take (i * 2) ++ [p, q] ++ R.drop (i * 2 + 2)).take _ = _
    rw [h1]
    have e : i * 2 + 2 = (xs.take (i * 2) ++ [p, q]).length := by simp only [List.length_append, htk, List.length_cons, List.length_nil]
    conv => lhs; arg 1; rw [e]
    rw [List.take_left]
  refine ⟨?_, ?_, hA1⟩
  · show (A1.take (i * 2 + 2) ++ xs.drop (i * 2) ++ A1.drop _).take _ = _
    rw [h2]
    have e : (n + 1) * 2 = (xs.take (i * 2) ++ [p, q] ++ xs.drop (i * 2)).length := by simp only [List.length_append, htk, hd, List.length_cons, List.length_nil]; omega
    rw [e, List.take_left]
  · show (A1.take (i * 2 + 2) ++ xs.drop (i * 2) ++ A1.drop _).length = _
    rw [h2]
    simp only [List.length_append, htk, hd, List.length_cons, List.length_nil, List.length_drop, hA1, hR]
    omega
set_option maxRecDepth 100000 in
set_option maxHeartbeats 4000000 in
theorem insertSource_grow (g n cap i : Nat) (cur : Array Value) (xs : List Value) (vb : Nat) (p q : ByteArray) (w : World) (hn : (n : Int) ≤ 1048576) (hi : i < n) (hnc : n ≤ cap) (hr : cap < n + 1)
    (hg : w.heap[g]? = some (.cells cur 100 (0, 0))) (htk : cur.toList.take (n * 2) = xs) (hxl : xs.length = n * 2) (h1 : ∀ u ∈ xs, u.oneCell' = true) (hx : w.heap[vb]? = some (.cells #[.string p, .string q] 100 (0, 0))) :
    Calls Tryz.prog 59 #[.slice (some ⟨g, 0, none⟩) n cap, .int .i64 i, .slice (some ⟨vb, 0, none⟩) 1 1] w fun e w' => ∃ G, n + 1 ≤ G ∧ G ≤ maxLen ∧ e = .returned (.slice (some ⟨w.heap.size, 0, none⟩) (n + 1) G) ∧ ∃ A : Array Value, w'.heap[w.heap.size]? = some (.cells A 100 (0, 0)) ∧ A.size = G * 2 ∧ A.toList.take ((n + 1) * 2) = xs.take (i * 2) ++ [.string p, .string q] ++ xs.drop (i * 2) ∧ w.grownBy w' none := by
  obtain ⟨i0, hi0, hz0, hzs, hzb⟩ := info_parts infoSource
  have hz2 : ¬ ((i : Int) = (n : Int)) := by omega
  have hz3 : (cap : Int) < (n : Int) + 1 := by omega
  have hsz : (Tryz.prog.info? 100).map (·.size) = some 2 := by rw [hi0]; simp [hzs]
  have hgw : g < w.heap.size := (Array.getElem?_eq_some_iff.1 hg).1
  have hvw : vb < w.heap.size := (Array.getElem?_eq_some_iff.1 hx).1
  have hkk : (n : Int) + 1 - (i : Int) = ((n + 1 - i : Nat) : Int) := by omega
  have hik : i + (n + 1 - i) = n + 1 := by omega
  have hcell : ∀ j v, xs[j]? = some v → w.cell? ⟨g, j, none⟩ = some v := fun j v hj => by
    have e : w.cell? ⟨g, j, none⟩ = cur[j]? := by simp [World.cell?, hg]
    rw [e]
    rw [← htk, List.getElem?_take] at hj
    split at hj
    · rw [← Array.getElem?_toList]; exact hj
    · cases hj
  have hold : (Builtin.firstCells i0.size i (.slice (some ⟨g, 0, none⟩) i cap)).run Tryz.prog w.drew = .ok (xs.take (i * 2)).toArray w.drew := by
    rw [hzs]
    exact run_firstCells_some w.drew 2 i ⟨g, 0, none⟩ i cap (xs.take (i * 2)) (by rw [List.length_take]; omega) (fun j v hj => by
      rw [Addr.add_lit, Nat.zero_add]
      rw [List.getElem?_take] at hj
      split at hj
      · exact hcell j v hj
      · cases hj)
  obtain ⟨G, hG⟩ : ∃ G, G = grownCap w (n + 1) cap 100 := ⟨_, rfl⟩
  obtain ⟨ZS, hZS⟩ : ∃ ZS : Array Value, ZS = Builtin.zeroCells (Value.agg #[.string ⟨#[]⟩, .string ⟨#[]⟩]).cells (n + 1 - i) ++ Builtin.zeroCells (Value.agg #[.string ⟨#[]⟩, .string ⟨#[]⟩]).cells (G - (n + 1)) := ⟨_, rfl⟩
  have hGn : n + 1 ≤ G := by rw [hG]; exact grownCap_ge w _ _ _
  have hGm : G ≤ maxLen := by rw [hG]; exact grownCap_le_maxLen w (n + 1) cap 100 (by unfold maxLen; omega)
  have hG63 : G ≤ 9223372036854775807 := by unfold maxLen at hGm; omega
  have hZl : ZS.size = (G - i) * 2 := by
    rw [hZS]
    simp [Builtin.zeroCells, Value.cells]
    omega
  have hrz : ∀ ty, (Builtin.append_ #[23, 3] ty #[.slice (some ⟨g, 0, none⟩) i cap, .int .i64 ((n : Int) + 1 - (i : Int))]).run Tryz.prog w =
      .ok (.slice (some ⟨w.heap.size, 0, none⟩) (n + 1) G) (w.drew.alloc (.cells (xs.take (i * 2) ++ ZS.toList).toArray 100)) := fun ty => by
    have h := Lib.run_append_grow_zeros w 23 3 ty 100 i0 _ .i64 .i64 Tryz.underlying23 Tryz.underlying3 hi0 hz0 (some ⟨g, 0, none⟩) i cap (xs.take (i * 2)) hold (n + 1 - i) (by omega) (by omega) (by omega) (by omega) (by rw [hzb]; omega) (by rw [hzb, hik]; exact growslice_fits hr (by omega))
    rw [hik, ← hG] at h
    rw [hkk, h]
    have e : (xs.take (i * 2)).toArray ++ Builtin.zeroCells (Value.agg #[.string ⟨#[]⟩, .string ⟨#[]⟩]).cells (n + 1 - i) ++ Builtin.zeroCells (Value.agg #[.string ⟨#[]⟩, .string ⟨#[]⟩]).cells (G - (n + 1)) = (xs.take (i * 2) ++ ZS.toList).toArray := by
      rw [hZS]
      apply Array.ext'
      simp
    rw [e]
  obtain ⟨hL1, hL2, hL3⟩ := grow_list (zs := ZS.toList) (.string p) (.string q) hxl (Nat.le_of_lt hi) (by rw [Array.length_toList, hZl]; omega)
  have hRl : (xs.take (i * 2) ++ ZS.toList).length = G * 2 := by
    have hz' : ZS.toList.length = (G - i) * 2 := by rw [Array.length_toList, hZl]
    rw [List.length_append, List.length_take, hz', hxl]; omega
  obtain ⟨R, hR⟩ : ∃ R, R = xs.take (i * 2) ++ ZS.toList := ⟨_, rfl⟩
  rw [← hR] at hL1 hL2 hL3 hrz hRl
  obtain ⟨A1, hA1⟩ : ∃ A1, A1 = R.take (i * 2) ++ [.string p, .string q] ++ R.drop (i * 2 + 2) := ⟨_, rfl⟩
  rw [← hA1] at hL1 hL2 hL3
  obtain ⟨A2, hA2⟩ : ∃ A2, A2 = A1.take (i * 2 + 2) ++ xs.drop (i * 2) ++ A1.drop (i * 2 + 2 + (xs.drop (i * 2)).length) := ⟨_, rfl⟩
  rw [← hA2] at hL1 hL2
  obtain ⟨W1, hW1⟩ : ∃ W1, W1 = w.drew.alloc (.cells R.toArray 100) := ⟨_, rfl⟩
  have hN : W1.heap[w.heap.size]? = some (.cells R.toArray 100 (0, 0)) := by rw [hW1]; exact heap_alloc_new w.drew _
  have hO : ∀ k, k < w.heap.size → W1.heap[k]? = w.heap[k]? := fun k hk => by rw [hW1]; exact heap_alloc_old w.drew _ hk
  have hdl : (xs.drop (i * 2)).length = (n - i) * 2 := by rw [List.length_drop, hxl]; omega
  have hA1l : A1.toArray.size = G * 2 := by rw [List.size_toArray, hL3, hRl]
  have hcpA : ∀ (W : World), W.heap = W1.heap → ∀ ty dc, (Builtin.copy_ #[23, 23] ty #[.slice (some ⟨w.heap.size, i * 2, none⟩) (n + 1 - i) dc, .slice (some ⟨vb, 0, none⟩) 1 1]).run Tryz.prog W = .ok (goInt (Nat.min 1 (n + 1 - i))) (W.setRow w.heap.size A1.toArray) := fun W hW ty dc => by
    rw [hA1]
    exact run_copy_wide W _ _ ty 100 w.heap.size (i * 2) _ dc ⟨vb, 0, none⟩ _ 1 2 R.toArray 100 [.string p, .string q] Tryz.underlying23 hsz (by rw [hW]; exact hN) (by simp only [List.length_cons, List.length_nil, Nat.min_def]; split <;> omega) (two_at (by rw [hW, hO vb hvw]; exact hx)) (by simp only [List.length_cons, List.length_nil]; rw [List.size_toArray, hRl]; omega) (by simp [Value.oneCell'])
  have hN1 : (W1.setRow w.heap.size A1.toArray).heap[w.heap.size]? = some (.cells A1.toArray 100 (0, 0)) := setRow_heap W1 _ _ _ _ _ hN
  have hO1 : ∀ k, k < w.heap.size → (W1.setRow w.heap.size A1.toArray).heap[k]? = w.heap[k]? := fun k hk => (setRow_other _ _ _ _ (by omega)).trans (hO k hk)
  have hcpB : ∀ (W : World), W.heap = (W1.setRow w.heap.size A1.toArray).heap → ∀ ty dc sc, (Builtin.copy_ #[23, 23] ty #[.slice (some ⟨w.heap.size, (i + 1) * 2, none⟩) (n - i) dc, .slice (some ⟨g, i * 2, none⟩) (n - i) sc]).run Tryz.prog W = .ok (goInt (Nat.min (n - i) (n - i))) (W.setRow w.heap.size A2.toArray) := fun W hW ty dc sc => by
    rw [hA2, show (i + 1) * 2 = i * 2 + 2 by omega]
    exact run_copy_wide W _ _ ty 100 w.heap.size (i * 2 + 2) _ dc ⟨g, i * 2, none⟩ _ sc 2 A1.toArray 100 (xs.drop (i * 2)) Tryz.underlying23 hsz (by rw [hW]; exact hN1) (by rw [hdl]; congr 1; simp only [Nat.min_def]; split <;> omega)
      (fun j v hj => by
        rw [Addr.add_lit]
        have e : W.cell? ⟨g, i * 2 + j, none⟩ = w.cell? ⟨g, i * 2 + j, none⟩ := World.cell?_of_block (by rw [hW]; exact hO1 g hgw)
        rw [e]
        exact hcell _ v (by rwa [List.getElem?_drop] at hj))
      (by rw [hdl, hA1l]; omega) (fun v hv => h1 v (List.mem_of_mem_drop hv))
  have HF : Hid (∀ W : World, W.heap = ((W1.setRow w.heap.size A1.toArray).setRow w.heap.size A2.toArray).heap → W.os = w.os → W.tape = w.tape → W.output = w.output → ∃ A : Array Value, W.heap[w.heap.size]? = some (.cells A 100 (0, 0)) ∧ A.size = G * 2 ∧ A.toList.take ((n + 1) * 2) = xs.take (i * 2) ++ [.string p, .string q] ++ xs.drop (i * 2) ∧ w.grownBy W none) := fun W hW o1 o2 o3 => by
    refine ⟨A2.toArray, by rw [hW]; exact setRow_heap _ _ _ _ _ _ hN1, by rw [List.size_toArray, hL2, hRl], by simpa using hL1, o1, o2, o3, ?_, fun k hk _ => ?_⟩
    · rw [hW, hW1, setRow_size, setRow_size]; simp
    · rw [hW, setRow_other _ _ _ _ (by omega)]
      exact hO1 k hk
  have hw1 : IntKind.i64.wrap ((i : Int) + 1) = (i : Int) + 1 := by rw [IntKind.wrap_i64]; omega
  have hw2 : IntKind.i64.wrap ((n : Int) + 1) = (n : Int) + 1 := by rw [IntKind.wrap_i64]; omega
  have hw3 : IntKind.i64.wrap ((n : Int) + 1 - (i : Int)) = (n : Int) + 1 - (i : Int) := by rw [IntKind.wrap_i64]; omega
  have hb1 : (0 : Int) ≤ (i : Int) + 1 := by omega
  have htn : ((i : Int) + 1).toNat = i + 1 := by omega
  have hin : i ≤ n := by omega
  have hb3 : (i : Int) ≤ (n : Int) := by omega
  have hGi : ¬ (G = i) := by omega
  have hGim : ¬ (G = i + 1) := by omega
  have hci : ¬ (cap = i) := by omega
  have HGn := hide hGn
  have HGm := hide hGm
  subst hW1
  have hE1 : ((w.alloc (.cells R.toArray 100)).drew).heap = (w.drew.alloc (.cells R.toArray 100)).heap := rfl
  have HE1 := hide hE1
  clear hE1
  clear hg hx htk hxl hA1 hA2 hdl hL1 hL2 hL3 hN hO hN1 hO1 hA1l h1 hsz hcell hold hG hZS hZl hRl hR hkk hik hi0 hz0 hzs hzb hGm hgw hvw
  go_enter Tryz.func59, Tryz.ntmps59
  go_wp2_with (first
    | (at_builtin; refine Lib.wpList_append_run _ rfl _ _ _ _ rfl _ _ rfl rfl _ _ (hrz _) ?_)
    | (simp only [hcpA _ HE1.out]))
  generalize hW2 : (w.alloc (.cells R.toArray 100)).drew.setRow w.heap.size A1.toArray = W2
  have H2 : Hid (W2.heap = ((w.drew.alloc (.cells R.toArray 100)).setRow w.heap.size A1.toArray).heap ∧ W2.os = w.os ∧ W2.tape = w.tape ∧ W2.output = w.output) := by subst hW2; exact ⟨rfl, rfl, rfl, rfl⟩
  have hb : ∀ ty dc sc, (Builtin.copy_ #[23, 23] ty #[.slice (some ⟨w.heap.size, (i + 1) * 2, none⟩) (n - i) dc, .slice (some ⟨g, i * 2, none⟩) (n - i) sc]).run Tryz.prog W2.drew = .ok (goInt (Nat.min (n - i) (n - i))) (W2.drew.setRow w.heap.size A2.toArray) := fun ty dc sc => hcpB W2.drew H2.out.1 ty dc sc
  clear hW2 hcpA hcpB hrz HE1
  go_region_law (refine step_copy_runI rfl _ _ 23 23 rfl _ _ (by simp [Act.eval, Act.put]) (by simp [Act.eval, Act.put]) (hb _ _ _) ?_)
  go_wp2
  go_ret
  exact ⟨G, HGn.out, HGm.out, rfl, HF.out _ (congrArg (fun h => (World.setRow { w with heap := h } w.heap.size A2.toArray).heap) H2.out.1) H2.out.2.1 H2.out.2.2.1 H2.out.2.2.2⟩
theorem grown_some {w w' : World} (h : w.grownBy w' none) (r : Option Nat) : w.grownBy w' r := ⟨h.os, h.tape, h.output, h.size, fun k hk _ => h.block k hk (by simp)⟩
theorem insertSource_own (base : Nat) (v : Value) (n i : Nat) (xs : List Value) (vb : Nat) (p q : ByteArray) (w : World) (hn : (n : Int) ≤ 1048576) (hi : i ≤ n) (hown : w.ownsRow base 100 2 v n xs) (h1 : ∀ u ∈ xs, u.oneCell' = true) (hx : w.heap[vb]? = some (.cells #[.string p, .string q] 100 (0, 0))) (hne : v.ownBlock ≠ some vb) (hbase : base ≤ w.heap.size) :
    Calls Tryz.prog 59 #[v, .int .i64 i, .slice (some ⟨vb, 0, none⟩) 1 1] w fun e w' => ∃ v', e = .returned v' ∧ w'.ownsRow base 100 2 v' (n + 1) (xs.take (i * 2) ++ [.string p, .string q] ++ xs.drop (i * 2)) ∧ w.grownBy w' v.ownBlock := by
  have hxl := hown.1
  have hl : (xs.take (i * 2) ++ [Value.string p, Value.string q] ++ xs.drop (i * 2)).length = (n + 1) * 2 := by
    simp only [List.length_append, List.length_take, List.length_drop, List.length_cons, List.length_nil, hxl]
    omega
  by_cases hin : i = n
  · subst hin
    have e1 : xs.take (i * 2) = xs := List.take_of_length_le (by omega)
    have e2 : xs.drop (i * 2) = [] := List.drop_eq_nil_of_le (by omega)
    rw [e1, e2, List.append_nil]
    exact insertSource_end base v i xs vb p q w hn hown hx hbase
  · rcases hown.2 with ⟨rfl, rfl⟩ | ⟨g, cap, cur, rfl, hb, hg, hc1, hc2, hc3, hc4⟩
    · omega
    · by_cases hr : n + 1 ≤ cap
      · refine (insertSource_room g n cap i cur xs vb p q w hn (by omega) hr (by unfold maxLen at hc2; omega) hg hc3 hc4 hxl h1 hx (fun e => hne (by rw [e]; rfl))).mono ?_
        rintro e w' ⟨rfl, A, hA, hs, ht, hgr⟩
        exact ⟨_, rfl, ⟨hl, .inr ⟨g, cap, A, rfl, hb, hA, hr, hc2, hs, ht⟩⟩, hgr⟩
      · refine (insertSource_grow g n cap i cur xs vb p q w hn (by omega) hc1 (by omega) hg hc4 hxl h1 hx).mono ?_
        rintro e w' ⟨G, hG1, hG2, rfl, A, hA, hs, ht, hgr⟩
        exact ⟨_, rfl, ⟨hl, .inr ⟨w.heap.size, G, A, rfl, hbase, hA, hG1, hG2, hs, ht⟩⟩, grown_some hgr _⟩
end Go.Proofs.YtkophfgkcijjkaaGreatDoor.Vp
namespace Go.Proofs.YtkophfgkcijjkaaGreatDoor.Vp
open Go.RowKit
theorem room_put (n0 : Nat) (f0 : Nat → Source) (n1 : Nat) (f1 : Nat → Target) (t tx : ByteArray) (rt : Bool) (h : rt = decide ((tx.size : Int) ≤ 2000)) : putC n0 f0 n1 f1 t tx = roomC n0 f0 n1 f1 t rt := by
  subst h
  unfold roomC putC
  have e : (nameOk t = false ∨ 2000 < (tx.size : Int)) = (nameOk t = false ∨ decide ((tx.size : Int) ≤ 2000) = false) := by simp
  simp only [e]
theorem put_zero {n0 : Nat} {f0 : Nat → Source} {n1 : Nat} {f1 : Nat → Target} {t tx : ByteArray} (h : putC n0 f0 n1 f1 t tx = 0) : checkC n0 f0 n1 f1 = 0 := by
  unfold putC at h
  split at h
  · omega
  · rename_i h1
    exact Decidable.not_not.1 h1
theorem ty_ne {w : World} {g h : Nat} {e e' : TypeId} (h1 : TypeAt w g e) (h2 : TypeAt w h e') (hne : e ≠ e') : g ≠ h := by
  rintro rfl
  obtain ⟨c, hc⟩ := h1
  obtain ⟨d, hd⟩ := h2
  rw [hc] at hd
  simp at hd
  exact hne hd.2
theorem own_ty {w : World} {base size n : Nat} {e : TypeId} {v : Value} {xs : List Value} (h : w.ownsRow base e size v n xs) : ∀ k, v.ownBlock = some k → TypeAt w k e := by
  intro k hk
  rcases h.2 with ⟨rfl, _⟩ | ⟨g, cap, cur, rfl, _, hg, _⟩
  · cases hk
  · cases hk
    exact ⟨cur, hg⟩
theorem TypeAt.grown {w w' : World} {X : Nat} {e e' : TypeId} {row : Option Nat} (h : TypeAt w X e) (hg : w.grownBy w' row) (hr : ∀ k, row = some k → TypeAt w k e') (hne : e ≠ e') : TypeAt w' X e := by
  have hlt : X < w.heap.size := by obtain ⟨c, hc⟩ := h; exact (Array.getElem?_eq_some_iff.1 hc).1
  exact h.block (hg.block X hlt (fun e1 => ty_ne h (hr X e1.symm) hne rfl))
theorem TRow.grown {w w' : World} {base : Nat} {v : Value} {R : List TR} {row : Option Nat} (h : TRow w base v R) (hg : w.grownBy w' row) (hr : ∀ k, row = some k → TypeAt w k 100) : TRow w' base v R := by
  refine ⟨h.own.kept hg ?_, fun r hr' => ?_, h.up⟩
  · cases hv : v.ownBlock with
    | none => exact .inl rfl
    | some k => exact .inr fun e => ty_ne (h.type k hv) (hr k e.symm) (by decide) rfl
  · obtain ⟨h1, ⟨F, h2⟩, h3, h4⟩ := h.act r hr'
    have e := hg.block r.2.1 h1.1 (fun e1 => ty_ne h3 (hr _ e1.symm) (by decide) rfl)
    exact ⟨h1.block hg.size e, ⟨F, h2.block hg.size e⟩, h3.block e, h4⟩
theorem grown_set (w : World) (X j : Nat) (u : Value) : w.grownBy (w.setCell ⟨X, j, none⟩ u) (some X) := ⟨rfl, rfl, rfl, by simp [World.setCell], fun k _ hne => Below.heap_setCell _ _ _ _ (by simpa using hne)⟩
theorem own_setT {w : World} {base size n X j : Nat} {e e' : TypeId} {v : Value} {xs : List Value} (h : w.ownsRow base e size v n xs) (hX : TypeAt w X e') (hne : e ≠ e') (u : Value) : (w.setCell ⟨X, j, none⟩ u).ownsRow base e size v n xs := by
  refine h.kept (grown_set w X j u) ?_
  cases hv : v.ownBlock with
  | none => exact .inl rfl
  | some k => exact .inr fun e1 => by cases e1; exact ty_ne (own_ty h _ hv) hX hne rfl
theorem TRow.setT {w : World} {base X j : Nat} {v : Value} {R : List TR} (h : TRow w base v R) (hX : TypeAt w X 26) (u : Value) : TRow (w.setCell ⟨X, j, none⟩ u) base v R := by
  refine ⟨own_setT h.own hX (by decide) u, fun r hr => ?_, h.up⟩
  obtain ⟨h1, ⟨F, h2⟩, h3, h4⟩ := h.act r hr
  have e : (w.setCell ⟨X, j, none⟩ u).heap[r.2.1]? = w.heap[r.2.1]? := Below.heap_setCell _ _ _ _ (by show r.2.1 ≠ X; exact ty_ne h3 hX (by decide))
  exact ⟨h1.block (by simp) e, ⟨F, h2.block (by simp) e⟩, h3.block e, h4⟩
theorem type_box (w : World) (c : Array Value) (e : TypeId) : TypeAt (w.alloc (.cells c e)) w.heap.size e := ⟨c, heap_alloc_new w _⟩
set_option maxRecDepth 100000 in
set_option maxHeartbeats 4000000 in
theorem implPutS_any (a0 : Option Addr) (n0 c0 : Nat) (f0 : Nat → Source) (a1 : Option Addr) (n1 c1 : Nat) (f1 : Nat → Target) (t tx : ByteArray) (w : World) (hn0 : (n0 : Int) ≤ 1048576) (hn1 : (n1 : Int) ≤ 1048576) (hv0 : SlSource w a0 n0 f0) (hv1 : SlTarget w a1 n1 f1) (hfit : ∀ i, i < n1 → FitsTarget (f1 i)) (hT : Tab w) :
    Calls Tryz.prog 10 #[.agg #[.slice a0 n0 c0, .slice a1 n1 c1], .string t, .string tx] w fun e w' => ∃ v0 v1 R, e = .returned (.tuple #[.agg #[v0, v1], .int .i64 (putC n0 f0 n1 f1 t tx)]) ∧ w'.ownsRow w.heap.size 100 2 v0 (putS n0 f0 n1 f1 t tx).length ((putS n0 f0 n1 f1 t tx).flatMap srcV) ∧ TRow w' w.heap.size v1 R ∧ R.map (·.1) = putT n0 f0 n1 f1 t tx ∧ Below w.heap.size w w' := by
  have V0 := hide hv0
  have V1 := hide hv1
  have HF := hide hfit
  have HT := hide hT
  clear hv0 hv1 hfit hT
  obtain ⟨D, hD⟩ : ∃ D, D = putC n0 f0 n1 f1 t tx := ⟨_, rfl⟩
  obtain ⟨LS, hLS⟩ : ∃ LS, LS = putS n0 f0 n1 f1 t tx := ⟨_, rfl⟩
  obtain ⟨LT, hLT⟩ : ∃ LT, LT = putT n0 f0 n1 f1 t tx := ⟨_, rfl⟩
  rw [← hD, ← hLS, ← hLT]
  have HLS := hide (hLS.trans (by unfold putS; rw [← hD]))
  have HLT := hide (hLT.trans (by unfold putT; rw [← hD]))
  have HD := hide hD
  clear hD hLS hLT
  have A0 := hide (((Below.refl w.heap.size w).alloc (Nat.le_refl _) (.cells #[.slice a0 n0 c0, .slice a1 n1 c1] 26)).alloc (by simp) (.cells #[.slice none 0 0, .slice none 0 0] 26))
  have X0 := hide (pair_new w (.slice a0 n0 c0) (.slice a1 n1 c1) 26)
  go_enter Tryz.func10, Tryz.ntmps10
  go_wp2_with fail
  generalize (w.alloc (.cells #[.slice a0 n0 c0, .slice a1 n1 c1] 26)).alloc (.cells #[.slice none 0 0, .slice none 0 0] 26) = W at A0 X0 ⊢
  generalize hrt : decide ((tx.size : Int) ≤ 2000) = rt
  refine (roomFor_any a0 n0 c0 f0 a1 n1 c1 f1 t rt _ hn0 hn1 (V0.out.below A0.out (Nat.le_refl _)) (V1.out.below A0.out (Nat.le_refl _)) HF.out (HT.out.below A0.out HT.out.1)).mono ?_
  rintro e w1 ⟨v0, v1, R, rfl, hO, hR, hM, hB⟩
  have hrc : roomC n0 f0 n1 f1 t rt = D := by rw [HD.out]; exact (room_put n0 f0 n1 f1 t tx rt hrt.symm).symm
  rw [hrc]
  unfold roomS at hO
  unfold roomT at hM
  rw [hrc] at hO hM
  have hltW := X0.out.lt
  have hW1 : W.heap.size ≤ w1.heap.size := hB.size
  have X1 := hide (X0.out.below hB X0.out.lt')
  have B1 := hide (A0.out.trans (hB.mono A0.out.size))
  clear hB A0 X0 hrc hrt
  obtain ⟨sa, sc, rfl⟩ := own_slice hO
  obtain ⟨ta, tc, rfl⟩ := own_slice hR.own
  by_cases hc : D = 0
  case neg =>
    rw [if_neg hc] at hO hM
    have hls := HLS.out
    rw [if_neg hc] at hls
    have hlt := HLT.out
    rw [if_neg hc] at hlt
    subst hls hlt
    have hc' : (D == 0) = false := by simpa using hc
    have hx8 : w.heap.size + 1 < w1.heap.size := X1.out.lt
    obtain ⟨r0, q0⟩ := X1.out.r0
    obtain ⟨r1, q1⟩ := X1.out.r1
    clear hO hR hM
    rw [if_neg hc]
    go_wp2
    exact bodyPost_ret (v := .tuple #[.agg #[.slice none 0 0, .slice none 0 0], .int .i64 D]) (by simp [results, Tryz.results10, go_sem, r0, r1, hx8]) rfl ⟨_, _, [], rfl, World.ownsRow_nil _ _ _ _, tRow_nil _ _, rfl, ((B1.out.setCell (by simp) _).setCell (by simp) _).alloc (by have := B1.out.size; simp; omega) _⟩
  subst hc
  rw [if_pos rfl] at hO hM
  rw [if_pos rfl]
  have hls := HLS.out
  rw [if_pos rfl] at hls
  have hlt := HLT.out
  rw [if_pos rfl] at hlt
  have hz := check_zero (put_zero HD.out.symm)
  have hfew := check_few (put_zero HD.out.symm)
  have HA := hide (keepS_asc t hz.1)
  have HN := hide (keepS_not (f := f0) (n := n0) (t := t))
  have eR : R.length = (keepT f1 t n1).length := by rw [← hM]; simp
  have hl0 := keepS_len f0 t n0
  have hl1 := keepT_len f1 t n1
  obtain ⟨L, hL⟩ : ∃ L, L = keepS f0 t n0 := ⟨_, rfl⟩
  rw [← hL] at hO hl0 hls HA HN ⊢
  rw [← hlt] at hM
  have hlr : (R.length : Int) ≤ 1048576 := by omega
  have hll : (L.length : Int) ≤ 1048576 := by omega
  have HLS2 := hide hls
  have HM := hide hM
  have O1 := hide hO
  have T1 := hide hR
  have hx8 : w.heap.size + 1 < w1.heap.size := X1.out.lt
  have DB := hide ((Below.refl w1.heap.size w1).alloc (Nat.le_refl _) (.cells #[.slice sa L.length sc, .slice ta R.length tc] 26))
  have K2 := hide (twoF_box w1 (.slice sa L.length sc) (.slice ta R.length tc) 26)
  have Y2 := hide (type_box w1 #[.slice sa L.length sc, .slice ta R.length tc] 26)
  have HW2 := hide (Nat.le_trans hW1 DB.out.size)
  have X2 := hide (X1.out.below DB.out X1.out.lt')
  have B2 := hide (B1.out.trans (DB.out.mono B1.out.size))
  have O2 := hide (own_below O1.out DB.out (Nat.le_refl _))
  have T2 := hide (T1.out.below DB.out (Nat.le_refl _))
  clear hW1 HLS HLT HD hls hlt hz hfew eR hl0 hl1 hL hM hO hR DB X1 B1 O1 T1
  go_wp2_with fail
  generalize w1.alloc (.cells #[.slice sa L.length sc, .slice ta R.length tc] 26) = w2 at K2 Y2 HW2 X2 B2 O2 T2 ⊢
  generalize w1.heap.size = X at K2 Y2 hx8 ⊢
  refine (findSource_any sa L.length sc ta R.length tc (srcF L) t _ hll (own_src O2.out) HA.out).mono ?_
  rintro e w3 ⟨i, rfl, hi, hp1, hp2, hB⟩
  have hW3 : W.heap.size ≤ w3.heap.size := Nat.le_trans HW2.out hB.size
  have X3 := hide (X2.out.below hB X2.out.lt')
  have B3 := hide (B2.out.trans (hB.mono B2.out.size))
  have O3 := hide (own_below O2.out hB (Nat.le_refl _))
  have T3 := hide (T2.out.below hB (Nat.le_refl _))
  have hX3 : X < w3.heap.size := Nat.lt_of_lt_of_le K2.out.lt hB.size
  have Y3 := hide (Y2.out.block (hB.block X K2.out.lt))
  have c8 := (hB.cell (p := ⟨X, 0, none⟩) K2.out.lt).trans K2.out.c0
  have c9 := (hB.cell (p := ⟨X, 1, none⟩) K2.out.lt).trans K2.out.c1
  have y8 := (hB.frozen (p := ⟨X, 0, none⟩) K2.out.lt).trans K2.out.z0
  have HI : Hid (LS = L.take i ++ ⟨t, tx⟩ :: L.drop i) := HLS2.out.trans (insF_at hi hp1 hp2 HN.out)
  clear hB X2 B2 O2 T2 K2 Y2 HLS2 HN HA hp1 hp2
  go_wp2_with fail
  have hz4 : (w3.alloc (.cells #[.string t, .string tx] 100)).heap.size = w3.heap.size + 1 := by simp
  have hx4 : (w3.alloc (.cells #[.string t, .string tx] 100)).heap[w3.heap.size]? = some (.cells #[.string t, .string tx] 100 (0, 0)) := heap_alloc_new w3 _
  have E4 := hide ((Below.refl w3.heap.size w3).alloc (Nat.le_refl _) (.cells #[.string t, .string tx] 100))
  have X4 := hide (X3.out.below E4.out X3.out.lt')
  have B4 := hide (B3.out.trans (E4.out.mono B3.out.size))
  have O4 := hide (own_below O3.out E4.out (Nat.le_refl _))
  have T4 := hide (T3.out.below E4.out (Nat.le_refl _))
  have Y4 := hide (Y3.out.block (E4.out.block X hX3))
  have d8 := (E4.out.cell (p := ⟨X, 0, none⟩) hX3).trans c8
  have d9 := (E4.out.cell (p := ⟨X, 1, none⟩) hX3).trans c9
  have u8 := (E4.out.frozen (p := ⟨X, 0, none⟩) hX3).trans y8
  have hne : (Value.slice sa L.length sc).ownBlock ≠ some w3.heap.size := fun e => by have := (O3.out.lt _ e).2; omega
  have hbase : W.heap.size ≤ w3.heap.size + 1 := by
    have := hz4
    omega
  generalize w3.alloc (.cells #[.string t, .string tx] 100) = w4 at hz4 hx4 E4 X4 B4 O4 T4 Y4 d8 d9 u8 ⊢
  refine (insertSource_own W.heap.size (.slice sa L.length sc) L.length i (L.flatMap srcV) w3.heap.size t tx _ hll hi O4.out (by intro u hu; simp only [List.mem_flatMap, srcV] at hu; obtain ⟨a, _, ha⟩ := hu; simp at ha; rcases ha with rfl | rfl <;> rfl) hx4 hne (by omega)).mono ?_
  rintro e w5 ⟨v', rfl, hO5, hg5⟩
  have rows := own_ty O4.out
  have G5 := hide (Below.grown (Below.refl W.heap.size w4) hg5 (by omega) (fun j e => (O4.out.lt j e).1))
  have T5 := hide (T4.out.grown hg5 rows)
  have Y5 := hide (Y4.out.grown hg5 rows (by decide))
  have hXb : w5.heap[X]? = w4.heap[X]? := hg5.block X (by omega) (fun e1 => ty_ne Y4.out (rows X e1.symm) (by decide) rfl)
  have f8 := (World.cell?_of_block (a := ⟨X, 0, none⟩) hXb).trans d8
  have f9 := (World.cell?_of_block (a := ⟨X, 1, none⟩) hXb).trans d9
  have g8 := (World.frozen?_of_block (a := ⟨X, 0, none⟩) hXb).trans u8
  have X5 := hide (X4.out.below G5.out hltW)
  have B5 := hide (B4.out.trans (G5.out.mono (by omega)))
  obtain ⟨g', c', rfl⟩ := own_some hO5 (by omega)
  have O5 : Hid (w5.ownsRow W.heap.size 100 2 (.slice (some ⟨g', 0, none⟩) (L.length + 1) c') LS.length (LS.flatMap srcV)) := by
    show World.ownsRow _ _ _ _ _ _ _
    have e1 : LS.length = L.length + 1 := by rw [HI.out]; simp; omega
    have e2 : LS.flatMap srcV = (L.flatMap srcV).take (i * 2) ++ [.string t, .string tx] ++ (L.flatMap srcV).drop (i * 2) := by rw [HI.out, (take_flat L i).1, (take_flat L i).2]; simp [srcV]
    rw [e1, e2]
    exact hO5
  have O6 := hide (own_mono (own_set (own_set (R := w.heap.size + 1) (j := 0) (own_setT (j := 0) O5.out Y5.out (by decide) (.slice (some ⟨g', 0, none⟩) (L.length + 1) c')) (by omega) (.slice (some ⟨g', 0, none⟩) (L.length + 1) c')) (R := w.heap.size + 1) (j := 1) (by omega) (.slice ta R.length tc)) (base' := w.heap.size) (by omega))
  have T6 := hide (tRow_mono (((T5.out.setT (j := 0) Y5.out (.slice (some ⟨g', 0, none⟩) (L.length + 1) c')).set (X := w.heap.size + 1) (j := 0) (by omega) (.slice (some ⟨g', 0, none⟩) (L.length + 1) c')).set (X := w.heap.size + 1) (j := 1) (by omega) (.slice ta R.length tc)) (base' := w.heap.size) (by omega))
  obtain ⟨r0, q0⟩ := X5.out.r0
  obtain ⟨r1, q1⟩ := X5.out.r1
  clear hO5 hg5 rows G5 T5 Y5 hXb X4 B4 O4 T4 Y4 d8 d9 u8 hx4 c8 c9 y8 O5 E4 hne X3 B3 O3 T3 Y3 HI
  go_wp2
  exact bodyPost_ret (v := .tuple #[.agg #[.slice (some ⟨g', 0, none⟩) (L.length + 1) c', .slice ta R.length tc], .int .i64 0]) (by simp [results, Tryz.results10, go_sem, r0, r1]) rfl ⟨_, _, R, rfl, O6.out, T6.out, HM.out, ((B5.out.setCell (by simp; omega) _).setCell (by simp) _).setCell (by simp) _⟩
end Go.Proofs.YtkophfgkcijjkaaGreatDoor.Vp
namespace Go.Proofs.YtkophfgkcijjkaaGreatDoor.Vp
open Go.RowKit
set_option maxRecDepth 100000 in
set_option maxHeartbeats 4000000 in
theorem insertTarget_end (base : Nat) (v : Value) (n : Nat) (xs : List Value) (vb : Nat) (p q : Value) (hp1 : p.oneCell' = true) (hq1 : q.oneCell' = true) (w : World) (hn : (n : Int) ≤ 1048576) (hown : w.ownsRow base 104 2 v n xs) (hx : w.heap[vb]? = some (.cells #[p, q] 104 (0, 0))) (hbase : base ≤ w.heap.size) :
    Calls Tryz.prog 77 #[v, .int .i64 n, .slice (some ⟨vb, 0, none⟩) 1 1] w fun e w' => ∃ v', e = .returned v' ∧ w'.ownsRow base 104 2 v' (n + 1) (xs ++ [p, q]) ∧ w.grownBy w' v.ownBlock := by
  obtain ⟨i0, hi, hz0, hz1, hz2⟩ := info_parts infoTarget
  have OW := hide hown
  have HX := hide hx
  have HB := hide hbase
  clear hx hbase
  rcases hown.2 with ⟨rfl, rfl⟩ | ⟨g, cap, cur, rfl, -, -, hc1, hc2, -, -⟩
  · clear hown
    go_enter Tryz.func77, Tryz.ntmps77
    go_wp2_with (at_builtin; (refine wpList_append_own _ rfl (.tmp 23) (.tmp 24) 24 rfl base 104 i0 (.agg #[.string ⟨#[]⟩, .slice none 0 0]) 2 40 Tryz.underlying24 hi hz0 hz1 hz2 rfl (by decide) (.slice none 0 0) 0 xs (by simp [Act.eval]) OW.out ⟨vb, 0, none⟩ 1 1 [p, q] (by simp [Act.eval]) rfl (two_at HX.out) (by simp [hp1, hq1]) (by unfold maxLen; omega) (by omega) HB.out ?_; intro v' w' ho hgr _; have O2 := hide ho; have G2 := hide hgr; clear ho hgr))
    go_ret
    exact ⟨_, rfl, O2.out, G2.out⟩
  · clear hown
    have hc3 : cap ≤ 9223372036854775807 := by unfold maxLen at hc2; omega
    go_enter Tryz.func77, Tryz.ntmps77
    go_wp2_with (at_builtin; (refine wpList_append_own _ rfl (.tmp 23) (.tmp 24) 24 rfl base 104 i0 (.agg #[.string ⟨#[]⟩, .slice none 0 0]) 2 40 Tryz.underlying24 hi hz0 hz1 hz2 rfl (by decide) (.slice (some ⟨g, 0, none⟩) n cap) n xs (by simp [Act.eval]) OW.out ⟨vb, 0, none⟩ 1 1 [p, q] (by simp [Act.eval]) rfl (two_at HX.out) (by simp [hp1, hq1]) (by unfold maxLen; omega) (by omega) HB.out ?_; intro v' w' ho hgr _; have O2 := hide ho; have G2 := hide hgr; clear ho hgr))
    all_goals (go_ret; exact ⟨_, rfl, O2.out, G2.out⟩)
set_option maxRecDepth 100000 in
set_option maxHeartbeats 4000000 in
theorem insertTarget_room (g n cap i : Nat) (cur : Array Value) (xs : List Value) (vb : Nat) (p q : Value) (hp1 : p.oneCell' = true) (hq1 : q.oneCell' = true) (w : World) (hn : (n : Int) ≤ 1048576) (hi : i < n) (hr : n + 1 ≤ cap) (hcap : cap ≤ 9223372036854775807)
    (hg : w.heap[g]? = some (.cells cur 104 (0, 0))) (hcs : cur.size = cap * 2) (htk : cur.toList.take (n * 2) = xs) (hxl : xs.length = n * 2) (h1 : ∀ u ∈ xs, u.oneCell' = true) (hx : w.heap[vb]? = some (.cells #[p, q] 104 (0, 0))) (hne : vb ≠ g) :
    Calls Tryz.prog 77 #[.slice (some ⟨g, 0, none⟩) n cap, .int .i64 i, .slice (some ⟨vb, 0, none⟩) 1 1] w fun e w' => e = .returned (.slice (some ⟨g, 0, none⟩) (n + 1) cap) ∧ ∃ A : Array Value, w'.heap[g]? = some (.cells A 104 (0, 0)) ∧ A.size = cap * 2 ∧ A.toList.take ((n + 1) * 2) = xs.take (i * 2) ++ [p, q] ++ xs.drop (i * 2) ∧ w.grownBy w' (some g) := by
  have hz2 : ¬ ((i : Int) = (n : Int)) := by omega
  have hsz : (Tryz.prog.info? 104).map (·.size) = some 2 := by
    obtain ⟨i0, hi0, h0, h1, h2⟩ := info_parts infoTarget
    rw [hi0]; simp [h1]
  have hzw : ∀ w, (Go.sizeOf 104).run Tryz.prog w = .ok 2 w := by
    obtain ⟨i0, hi0, h0, h1, h2⟩ := info_parts infoTarget
    intro w
    simp [Go.sizeOf, typeInfo, hi0, h1]
  have hov : ∀ lb cb, (callFunc 149 #[.slice (some ⟨vb, 0, none⟩) 1 1, .slice (some ⟨g, (i + 1) * 2, none⟩) lb cb]).run Tryz.prog w = .ok (.value (.bool false)) w := fun lb cb => by
    rw [run_callFunc_extern Tryz.func149 (by kernel_rfl) (by kernel_rfl) (by kernel_rfl) (e := Extern.SlicesOverlaps.overlaps #[24, 24] #[4]) (by kernel_rfl),
      Lib.run_overlaps_apart w 24 4 104 Tryz.underlying24 2 hzw ⟨vb, 0, none⟩ ⟨g, (i + 1) * 2, none⟩ 1 1 lb cb hne 104 104 2 cur.size (by simp [World.shape?, hx]) (by simp [World.shape?, hg]) (by omega) (by simp [World.frozen?, hx]) (by simp [World.frozen?, hx])]
    rfl
  have hdl : (xs.drop (i * 2)).length = (n - i) * 2 := by rw [List.length_drop, hxl]; omega
  obtain ⟨hL1, hL2, hL3⟩ := room_list p q htk hxl (Nat.le_of_lt hi) (by rw [Array.length_toList]; omega)
  obtain ⟨A1, hA1⟩ : ∃ A1, A1 = cur.toList.take (i * 2 + 2) ++ xs.drop (i * 2) ++ cur.toList.drop (i * 2 + 2 + (xs.drop (i * 2)).length) := ⟨_, rfl⟩
  rw [← hA1] at hL1 hL2 hL3
  obtain ⟨A2, hA2⟩ : ∃ A2, A2 = A1.take (i * 2) ++ [p, q] ++ A1.drop (i * 2 + 2) := ⟨_, rfl⟩
  rw [← hA2] at hL1 hL2
  have hsrc : ∀ j v, (xs.drop (i * 2))[j]? = some v → w.drew.cell? ((⟨g, i * 2, none⟩ : Addr).add j) = some v := fun j v hj => by
    rw [Addr.add_lit]
    have e : w.cell? ⟨g, i * 2 + j, none⟩ = cur[i * 2 + j]? := by simp [World.cell?, hg]
    refine e.trans ?_
    rw [List.getElem?_drop, ← htk, List.getElem?_take] at hj
    split at hj
    · rw [← Array.getElem?_toList]; exact hj
    · cases hj
  have hcp1 : ∀ ty dc sc, (Builtin.copy_ #[24, 24] ty #[.slice (some ⟨g, (i + 1) * 2, none⟩) (n - i) dc, .slice (some ⟨g, i * 2, none⟩) (n + 1 - i) sc]).run Tryz.prog w.drew = .ok (goInt (Nat.min (n + 1 - i) (n - i))) (w.drew.setRow g A1.toArray) := fun ty dc sc => by
    rw [hA1, show (i + 1) * 2 = i * 2 + 2 by omega]
    exact run_copy_wide w.drew _ _ ty 104 g (i * 2 + 2) _ dc ⟨g, i * 2, none⟩ _ sc 2 cur 104 (xs.drop (i * 2)) Tryz.underlying24 hsz hg (by rw [hdl]; congr 1; simp only [Nat.min_def]; split <;> omega) hsrc (by rw [hdl]; omega) (fun v hv => h1 v (List.mem_of_mem_drop hv))
  have hg1 : (w.drew.setRow g A1.toArray).heap[g]? = some (.cells A1.toArray 104 (0, 0)) := setRow_heap w.drew g cur _ _ _ hg
  have hx1 : (w.drew.setRow g A1.toArray).heap[vb]? = some (.cells #[p, q] 104 (0, 0)) := (setRow_other w.drew g vb _ hne).trans hx
  have hA1l : A1.toArray.size = cur.size := by rw [List.size_toArray, hL3, Array.length_toList]
  obtain ⟨W1, hW1⟩ : ∃ W1, W1 = w.drew.setRow g A1.toArray := ⟨_, rfl⟩
  rw [← hW1] at hcp1 hg1 hx1
  have hcp2 : ∀ (W : World), W.heap = W1.heap → ∀ ty dc, (Builtin.copy_ #[24, 24] ty #[.slice (some ⟨g, i * 2, none⟩) (n + 1 - i) dc, .slice (some ⟨vb, 0, none⟩) 1 1]).run Tryz.prog W = .ok (goInt (Nat.min 1 (n + 1 - i))) (W.setRow g A2.toArray) := fun W hW ty dc => by
    rw [hA2]
    exact run_copy_wide W _ _ ty 104 g (i * 2) _ dc ⟨vb, 0, none⟩ _ 1 2 A1.toArray 104 [p, q] Tryz.underlying24 hsz (by rw [hW]; exact hg1) (by simp only [List.length_cons, List.length_nil, Nat.min_def]; split <;> omega) (two_at (by rw [hW]; exact hx1)) (by simp only [List.length_cons, List.length_nil]; rw [hA1l, hcs]; omega) (by simp [hp1, hq1])
  have hw1 : IntKind.i64.wrap ((i : Int) + 1) = (i : Int) + 1 := by rw [IntKind.wrap_i64]; omega
  have hw2 : IntKind.i64.wrap ((n : Int) + 1) = (n : Int) + 1 := by rw [IntKind.wrap_i64]; omega
  have hroom : ¬ ((cap : Int) < (n : Int) + 1) := by omega
  have hb1 : (0 : Int) ≤ (i : Int) + 1 := by omega
  have htn : ((i : Int) + 1).toNat = i + 1 := by omega
  have hin : i ≤ n := by omega
  have hb2 : ¬ (cap = i + 1) := by omega
  have hb3 : (i : Int) ≤ (n : Int) + 1 := by omega
  have hb4 : ¬ (cap = i) := by omega
  have HF : Hid (∀ W : World, W.heap = (W1.setRow g A2.toArray).heap → W.os = w.os → W.tape = w.tape → W.output = w.output → ∃ A : Array Value, W.heap[g]? = some (.cells A 104 (0, 0)) ∧ A.size = cap * 2 ∧ A.toList.take ((n + 1) * 2) = xs.take (i * 2) ++ [p, q] ++ xs.drop (i * 2) ∧ w.grownBy W (some g)) := fun W hW o1 o2 o3 => by
    refine ⟨A2.toArray, by rw [hW]; exact setRow_heap W1 g A1.toArray _ _ _ hg1, by rw [List.size_toArray, hL2, Array.length_toList, hcs], by simpa using hL1, o1, o2, o3, ?_, fun k hk he => ?_⟩
    · rw [hW, hW1, setRow_size, setRow_size]; exact Nat.le_refl _
    · have hkg : k ≠ g := fun e => he (by rw [e])
      rw [hW, setRow_other _ _ _ _ hkg, hW1, setRow_other _ _ _ _ hkg]
      rfl
  have eo : W1.os = w.os ∧ W1.tape = w.tape ∧ W1.output = w.output := by subst hW1; exact ⟨rfl, rfl, rfl⟩
  have EO := hide eo
  clear hg hx htk hxl hcs hA1 hA2 hsrc hdl hL1 hL2 hL3 hg1 hx1 hA1l hW1 h1 hsz hzw eo
  go_enter Tryz.func77, Tryz.ntmps77
  go_wp2_with (simp only [hov])
  go_region_law (refine step_copy_runI rfl _ _ 24 24 rfl _ _ (by simp [Act.eval, Act.put]) (by simp [Act.eval, Act.put]) (hcp1 _ _ _) ?_)
  go_wp2_with (at_builtin; refine wpList_copy_runI _ rfl _ _ 24 24 rfl _ _ rfl rfl (hcp2 _ rfl _ _) ?_)
  go_ret
  exact ⟨rfl, HF.out _ rfl EO.out.1 EO.out.2.1 EO.out.2.2⟩
set_option maxRecDepth 100000 in
set_option maxHeartbeats 4000000 in
theorem insertTarget_grow (g n cap i : Nat) (cur : Array Value) (xs : List Value) (vb : Nat) (p q : Value) (hp1 : p.oneCell' = true) (hq1 : q.oneCell' = true) (w : World) (hn : (n : Int) ≤ 1048576) (hi : i < n) (hnc : n ≤ cap) (hr : cap < n + 1)
    (hg : w.heap[g]? = some (.cells cur 104 (0, 0))) (htk : cur.toList.take (n * 2) = xs) (hxl : xs.length = n * 2) (h1 : ∀ u ∈ xs, u.oneCell' = true) (hx : w.heap[vb]? = some (.cells #[p, q] 104 (0, 0))) :
    Calls Tryz.prog 77 #[.slice (some ⟨g, 0, none⟩) n cap, .int .i64 i, .slice (some ⟨vb, 0, none⟩) 1 1] w fun e w' => ∃ G, n + 1 ≤ G ∧ G ≤ maxLen ∧ e = .returned (.slice (some ⟨w.heap.size, 0, none⟩) (n + 1) G) ∧ ∃ A : Array Value, w'.heap[w.heap.size]? = some (.cells A 104 (0, 0)) ∧ A.size = G * 2 ∧ A.toList.take ((n + 1) * 2) = xs.take (i * 2) ++ [p, q] ++ xs.drop (i * 2) ∧ w.grownBy w' none := by
  obtain ⟨i0, hi0, hz0, hzs, hzb⟩ := info_parts infoTarget
  have hz2 : ¬ ((i : Int) = (n : Int)) := by omega
  have hz3 : (cap : Int) < (n : Int) + 1 := by omega
  have hsz : (Tryz.prog.info? 104).map (·.size) = some 2 := by rw [hi0]; simp [hzs]
  have hgw : g < w.heap.size := (Array.getElem?_eq_some_iff.1 hg).1
  have hvw : vb < w.heap.size := (Array.getElem?_eq_some_iff.1 hx).1
  have hkk : (n : Int) + 1 - (i : Int) = ((n + 1 - i : Nat) : Int) := by omega
  have hik : i + (n + 1 - i) = n + 1 := by omega
  have hcell : ∀ j v, xs[j]? = some v → w.cell? ⟨g, j, none⟩ = some v := fun j v hj => by
    have e : w.cell? ⟨g, j, none⟩ = cur[j]? := by simp [World.cell?, hg]
    rw [e]
    rw [← htk, List.getElem?_take] at hj
    split at hj
    · rw [← Array.getElem?_toList]; exact hj
    · cases hj
  have hold : (Builtin.firstCells i0.size i (.slice (some ⟨g, 0, none⟩) i cap)).run Tryz.prog w.drew = .ok (xs.take (i * 2)).toArray w.drew := by
    rw [hzs]
    exact run_firstCells_some w.drew 2 i ⟨g, 0, none⟩ i cap (xs.take (i * 2)) (by rw [List.length_take]; omega) (fun j v hj => by
      rw [Addr.add_lit, Nat.zero_add]
      rw [List.getElem?_take] at hj
      split at hj
      · exact hcell j v hj
      · cases hj)
  obtain ⟨G, hG⟩ : ∃ G, G = grownCap w (n + 1) cap 104 := ⟨_, rfl⟩
  obtain ⟨ZS, hZS⟩ : ∃ ZS : Array Value, ZS = Builtin.zeroCells (Value.agg #[.string ⟨#[]⟩, .slice none 0 0]).cells (n + 1 - i) ++ Builtin.zeroCells (Value.agg #[.string ⟨#[]⟩, .slice none 0 0]).cells (G - (n + 1)) := ⟨_, rfl⟩
  have hGn : n + 1 ≤ G := by rw [hG]; exact grownCap_ge w _ _ _
  have hGm : G ≤ maxLen := by rw [hG]; exact grownCap_le_maxLen w (n + 1) cap 104 (by unfold maxLen; omega)
  have hG63 : G ≤ 9223372036854775807 := by unfold maxLen at hGm; omega
  have hZl : ZS.size = (G - i) * 2 := by
    rw [hZS]
    simp [Builtin.zeroCells, Value.cells]
    omega
  have hrz : ∀ ty, (Builtin.append_ #[24, 3] ty #[.slice (some ⟨g, 0, none⟩) i cap, .int .i64 ((n : Int) + 1 - (i : Int))]).run Tryz.prog w =
      .ok (.slice (some ⟨w.heap.size, 0, none⟩) (n + 1) G) (w.drew.alloc (.cells (xs.take (i * 2) ++ ZS.toList).toArray 104)) := fun ty => by
    have h := Lib.run_append_grow_zeros w 24 3 ty 104 i0 _ .i64 .i64 Tryz.underlying24 Tryz.underlying3 hi0 hz0 (some ⟨g, 0, none⟩) i cap (xs.take (i * 2)) hold (n + 1 - i) (by omega) (by omega) (by omega) (by omega) (by rw [hzb]; omega) (by rw [hzb, hik]; exact growslice_fits hr (by omega))
    rw [hik, ← hG] at h
    rw [hkk, h]
    have e : (xs.take (i * 2)).toArray ++ Builtin.zeroCells (Value.agg #[.string ⟨#[]⟩, .slice none 0 0]).cells (n + 1 - i) ++ Builtin.zeroCells (Value.agg #[.string ⟨#[]⟩, .slice none 0 0]).cells (G - (n + 1)) = (xs.take (i * 2) ++ ZS.toList).toArray := by
      rw [hZS]
      apply Array.ext'
      simp
    rw [e]
  obtain ⟨hL1, hL2, hL3⟩ := grow_list (zs := ZS.toList) p q hxl (Nat.le_of_lt hi) (by rw [Array.length_toList, hZl]; omega)
  have hRl : (xs.take (i * 2) ++ ZS.toList).length = G * 2 := by
    have hz' : ZS.toList.length = (G - i) * 2 := by rw [Array.length_toList, hZl]
    rw [List.length_append, List.length_take, hz', hxl]; omega
  obtain ⟨R, hR⟩ : ∃ R, R = xs.take (i * 2) ++ ZS.toList := ⟨_, rfl⟩
  rw [← hR] at hL1 hL2 hL3 hrz hRl
  obtain ⟨A1, hA1⟩ : ∃ A1, A1 = R.take (i * 2) ++ [p, q] ++ R.drop (i * 2 + 2) := ⟨_, rfl⟩
  rw [← hA1] at hL1 hL2 hL3
  obtain ⟨A2, hA2⟩ : ∃ A2, A2 = A1.take (i * 2 + 2) ++ xs.drop (i * 2) ++ A1.drop (i * 2 + 2 + (xs.drop (i * 2)).length) := ⟨_, rfl⟩
  rw [← hA2] at hL1 hL2
  obtain ⟨W1, hW1⟩ : ∃ W1, W1 = w.drew.alloc (.cells R.toArray 104) := ⟨_, rfl⟩
  have hN : W1.heap[w.heap.size]? = some (.cells R.toArray 104 (0, 0)) := by rw [hW1]; exact heap_alloc_new w.drew _
  have hO : ∀ k, k < w.heap.size → W1.heap[k]? = w.heap[k]? := fun k hk => by rw [hW1]; exact heap_alloc_old w.drew _ hk
  have hdl : (xs.drop (i * 2)).length = (n - i) * 2 := by rw [List.length_drop, hxl]; omega
  have hA1l : A1.toArray.size = G * 2 := by rw [List.size_toArray, hL3, hRl]
  have hcpA : ∀ (W : World), W.heap = W1.heap → ∀ ty dc, (Builtin.copy_ #[24, 24] ty #[.slice (some ⟨w.heap.size, i * 2, none⟩) (n + 1 - i) dc, .slice (some ⟨vb, 0, none⟩) 1 1]).run Tryz.prog W = .ok (goInt (Nat.min 1 (n + 1 - i))) (W.setRow w.heap.size A1.toArray) := fun W hW ty dc => by
    rw [hA1]
    exact run_copy_wide W _ _ ty 104 w.heap.size (i * 2) _ dc ⟨vb, 0, none⟩ _ 1 2 R.toArray 104 [p, q] Tryz.underlying24 hsz (by rw [hW]; exact hN) (by simp only [List.length_cons, List.length_nil, Nat.min_def]; split <;> omega) (two_at (by rw [hW, hO vb hvw]; exact hx)) (by simp only [List.length_cons, List.length_nil]; rw [List.size_toArray, hRl]; omega) (by simp [hp1, hq1])
  have hN1 : (W1.setRow w.heap.size A1.toArray).heap[w.heap.size]? = some (.cells A1.toArray 104 (0, 0)) := setRow_heap W1 _ _ _ _ _ hN
  have hO1 : ∀ k, k < w.heap.size → (W1.setRow w.heap.size A1.toArray).heap[k]? = w.heap[k]? := fun k hk => (setRow_other _ _ _ _ (by omega)).trans (hO k hk)
  have hcpB : ∀ (W : World), W.heap = (W1.setRow w.heap.size A1.toArray).heap → ∀ ty dc sc, (Builtin.copy_ #[24, 24] ty #[.slice (some ⟨w.heap.size, (i + 1) * 2, none⟩) (n - i) dc, .slice (some ⟨g, i * 2, none⟩) (n - i) sc]).run Tryz.prog W = .ok (goInt (Nat.min (n - i) (n - i))) (W.setRow w.heap.size A2.toArray) := fun W hW ty dc sc => by
    rw [hA2, show (i + 1) * 2 = i * 2 + 2 by omega]
    exact run_copy_wide W _ _ ty 104 w.heap.size (i * 2 + 2) _ dc ⟨g, i * 2, none⟩ _ sc 2 A1.toArray 104 (xs.drop (i * 2)) Tryz.underlying24 hsz (by rw [hW]; exact hN1) (by rw [hdl]; congr 1; simp only [Nat.min_def]; split <;> omega)
      (fun j v hj => by
        rw [Addr.add_lit]
        have e : W.cell? ⟨g, i * 2 + j, none⟩ = w.cell? ⟨g, i * 2 + j, none⟩ := World.cell?_of_block (by rw [hW]; exact hO1 g hgw)
        rw [e]
        exact hcell _ v (by rwa [List.getElem?_drop] at hj))
      (by rw [hdl, hA1l]; omega) (fun v hv => h1 v (List.mem_of_mem_drop hv))
  have HF : Hid (∀ W : World, W.heap = ((W1.setRow w.heap.size A1.toArray).setRow w.heap.size A2.toArray).heap → W.os = w.os → W.tape = w.tape → W.output = w.output → ∃ A : Array Value, W.heap[w.heap.size]? = some (.cells A 104 (0, 0)) ∧ A.size = G * 2 ∧ A.toList.take ((n + 1) * 2) = xs.take (i * 2) ++ [p, q] ++ xs.drop (i * 2) ∧ w.grownBy W none) := fun W hW o1 o2 o3 => by
    refine ⟨A2.toArray, by rw [hW]; exact setRow_heap _ _ _ _ _ _ hN1, by rw [List.size_toArray, hL2, hRl], by simpa using hL1, o1, o2, o3, ?_, fun k hk _ => ?_⟩
    · rw [hW, hW1, setRow_size, setRow_size]; simp
    · rw [hW, setRow_other _ _ _ _ (by omega)]
      exact hO1 k hk
  have hw1 : IntKind.i64.wrap ((i : Int) + 1) = (i : Int) + 1 := by rw [IntKind.wrap_i64]; omega
  have hw2 : IntKind.i64.wrap ((n : Int) + 1) = (n : Int) + 1 := by rw [IntKind.wrap_i64]; omega
  have hw3 : IntKind.i64.wrap ((n : Int) + 1 - (i : Int)) = (n : Int) + 1 - (i : Int) := by rw [IntKind.wrap_i64]; omega
  have hb1 : (0 : Int) ≤ (i : Int) + 1 := by omega
  have htn : ((i : Int) + 1).toNat = i + 1 := by omega
  have hin : i ≤ n := by omega
  have hb3 : (i : Int) ≤ (n : Int) := by omega
  have hGi : ¬ (G = i) := by omega
  have hGim : ¬ (G = i + 1) := by omega
  have hci : ¬ (cap = i) := by omega
  have HGn := hide hGn
  have HGm := hide hGm
  subst hW1
  have hE1 : ((w.alloc (.cells R.toArray 104)).drew).heap = (w.drew.alloc (.cells R.toArray 104)).heap := rfl
  have HE1 := hide hE1
  clear hE1
  clear hg hx htk hxl hA1 hA2 hdl hL1 hL2 hL3 hN hO hN1 hO1 hA1l h1 hsz hcell hold hG hZS hZl hRl hR hkk hik hi0 hz0 hzs hzb hGm hgw hvw
  go_enter Tryz.func77, Tryz.ntmps77
  go_wp2_with (first
    | (at_builtin; refine Lib.wpList_append_run _ rfl _ _ _ _ rfl _ _ rfl rfl _ _ (hrz _) ?_)
    | (simp only [hcpA _ HE1.out]))
  generalize hW2 : (w.alloc (.cells R.toArray 104)).drew.setRow w.heap.size A1.toArray = W2
  have H2 : Hid (W2.heap = ((w.drew.alloc (.cells R.toArray 104)).setRow w.heap.size A1.toArray).heap ∧ W2.os = w.os ∧ W2.tape = w.tape ∧ W2.output = w.output) := by subst hW2; exact ⟨rfl, rfl, rfl, rfl⟩
  have hb : ∀ ty dc sc, (Builtin.copy_ #[24, 24] ty #[.slice (some ⟨w.heap.size, (i + 1) * 2, none⟩) (n - i) dc, .slice (some ⟨g, i * 2, none⟩) (n - i) sc]).run Tryz.prog W2.drew = .ok (goInt (Nat.min (n - i) (n - i))) (W2.drew.setRow w.heap.size A2.toArray) := fun ty dc sc => hcpB W2.drew H2.out.1 ty dc sc
  clear hW2 hcpA hcpB hrz HE1
  go_region_law (refine step_copy_runI rfl _ _ 24 24 rfl _ _ (by simp [Act.eval, Act.put]) (by simp [Act.eval, Act.put]) (hb _ _ _) ?_)
  go_wp2
  go_ret
  exact ⟨G, HGn.out, HGm.out, rfl, HF.out _ (congrArg (fun h => (World.setRow { w with heap := h } w.heap.size A2.toArray).heap) H2.out.1) H2.out.2.1 H2.out.2.2.1 H2.out.2.2.2⟩
theorem insertTarget_own (base : Nat) (v : Value) (n i : Nat) (xs : List Value) (vb : Nat) (p q : Value) (hp1 : p.oneCell' = true) (hq1 : q.oneCell' = true) (w : World) (hn : (n : Int) ≤ 1048576) (hi : i ≤ n) (hown : w.ownsRow base 104 2 v n xs) (h1 : ∀ u ∈ xs, u.oneCell' = true) (hx : w.heap[vb]? = some (.cells #[p, q] 104 (0, 0))) (hne : v.ownBlock ≠ some vb) (hbase : base ≤ w.heap.size) :
    Calls Tryz.prog 77 #[v, .int .i64 i, .slice (some ⟨vb, 0, none⟩) 1 1] w fun e w' => ∃ v', e = .returned v' ∧ w'.ownsRow base 104 2 v' (n + 1) (xs.take (i * 2) ++ [p, q] ++ xs.drop (i * 2)) ∧ w.grownBy w' v.ownBlock := by
  have hxl := hown.1
  have hl : (xs.take (i * 2) ++ [p, q] ++ xs.drop (i * 2)).length = (n + 1) * 2 := by
    simp only [List.length_append, List.length_take, List.length_drop, List.length_cons, List.length_nil, hxl]
    omega
  by_cases hin : i = n
  · subst hin
    have e1 : xs.take (i * 2) = xs := List.take_of_length_le (by omega)
    have e2 : xs.drop (i * 2) = [] := List.drop_eq_nil_of_le (by omega)
    rw [e1, e2, List.append_nil]
    exact insertTarget_end base v i xs vb p q hp1 hq1 w hn hown hx hbase
  · rcases hown.2 with ⟨rfl, rfl⟩ | ⟨g, cap, cur, rfl, hb, hg, hc1, hc2, hc3, hc4⟩
    · omega
    · by_cases hr : n + 1 ≤ cap
      · refine (insertTarget_room g n cap i cur xs vb p q hp1 hq1 w hn (by omega) hr (by unfold maxLen at hc2; omega) hg hc3 hc4 hxl h1 hx (fun e => hne (by rw [e]; rfl))).mono ?_
        rintro e w' ⟨rfl, A, hA, hs, ht, hgr⟩
        exact ⟨_, rfl, ⟨hl, .inr ⟨g, cap, A, rfl, hb, hA, hr, hc2, hs, ht⟩⟩, hgr⟩
      · refine (insertTarget_grow g n cap i cur xs vb p q hp1 hq1 w hn (by omega) hc1 (by omega) hg hc4 hxl h1 hx).mono ?_
        rintro e w' ⟨G, hG1, hG2, rfl, A, hA, hs, ht, hgr⟩
        exact ⟨_, rfl, ⟨hl, .inr ⟨w.heap.size, G, A, rfl, hbase, hA, hG1, hG2, hs, ht⟩⟩, grown_some hgr _⟩
end Go.Proofs.YtkophfgkcijjkaaGreatDoor.Vp
namespace Go.Proofs.YtkophfgkcijjkaaGreatDoor.Vp
open Go.RowKit
def putTS (n0 : Nat) (f0 : Nat → Source) (n1 : Nat) (f1 : Nat → Target) (t : ByteArray) (m : Nat) (fp : Nat → Ins) : List Source := if roomC n0 f0 n1 f1 t (valid fp m) = 0 then keepS f0 t n0 else []
def putTT (n0 : Nat) (f0 : Nat → Source) (n1 : Nat) (f1 : Nat → Target) (t : ByteArray) (m : Nat) (fp : Nat → Ins) : List Target := if roomC n0 f0 n1 f1 t (valid fp m) = 0 then insT (keepT f1 t n1) ⟨t, m, fp⟩ t else []
structure Trio (w : World) (h : Nat) (p0 p1 p2 : Value) : Prop where
  lt : h + 2 < w.heap.size
  a0 : w.cell? ⟨h, 0, none⟩ = some p0
  a1 : w.cell? ⟨h, 1, none⟩ = some p1
  b0 : w.cell? ⟨h + 1, 0, none⟩ = some p2
  r0 : w.cell? ⟨h + 2, 0, none⟩ = some (.slice none 0 0) ∧ w.frozen? ⟨h + 2, 0, none⟩ = false
  r1 : w.cell? ⟨h + 2, 1, none⟩ = some (.slice none 0 0) ∧ w.frozen? ⟨h + 2, 1, none⟩ = false
theorem Trio.below {w w' : World} {h B : Nat} {p0 p1 p2 : Value} (b : Trio w h p0 p1 p2) (hb : Below B w w') (hB : h + 3 ≤ B) : Trio w' h p0 p1 p2 := by
  have c : ∀ k o, k < B → w'.cell? ⟨k, o, none⟩ = w.cell? ⟨k, o, none⟩ := fun k o hk => hb.cell (p := ⟨k, o, none⟩) hk
  have f : ∀ k o, k < B → w'.frozen? ⟨k, o, none⟩ = w.frozen? ⟨k, o, none⟩ := fun k o hk => hb.frozen (p := ⟨k, o, none⟩) hk
  exact ⟨Nat.lt_of_lt_of_le b.lt hb.size, (c _ _ (by omega)).trans b.a0, (c _ _ (by omega)).trans b.a1, (c _ _ (by omega)).trans b.b0, ⟨(c _ _ (by omega)).trans b.r0.1, (f _ _ (by omega)).trans b.r0.2⟩, ⟨(c _ _ (by omega)).trans b.r1.1, (f _ _ (by omega)).trans b.r1.2⟩⟩
theorem trio_new (w : World) (p0 p1 p2 : Value) (t u : TypeId) : Trio (((w.alloc (.cells #[p0, p1] t)).alloc (.cells #[p2] u)).alloc (.cells #[.slice none 0 0, .slice none 0 0] t)) w.heap.size p0 p1 p2 := by
  have A1 : Below (w.heap.size + 1) (w.alloc (.cells #[p0, p1] t)) ((w.alloc (.cells #[p0, p1] t)).alloc (.cells #[p2] u)) := (Below.refl _ _).alloc (by simp) _
  have A2 : Below (w.heap.size + 2) ((w.alloc (.cells #[p0, p1] t)).alloc (.cells #[p2] u)) (((w.alloc (.cells #[p0, p1] t)).alloc (.cells #[p2] u)).alloc (.cells #[.slice none 0 0, .slice none 0 0] t)) := (Below.refl _ _).alloc (by simp) _
  have hz : (w.alloc (.cells #[p0, p1] t)).heap.size = w.heap.size + 1 := by simp
  have hz2 : ((w.alloc (.cells #[p0, p1] t)).alloc (.cells #[p2] u)).heap.size = w.heap.size + 2 := by simp
  refine ⟨by simp, ?_, ?_, ?_, ⟨?_, ?_⟩, ⟨?_, ?_⟩⟩
  · exact (A2.cell (p := ⟨w.heap.size, 0, none⟩) (by simp)).trans ((A1.cell (p := ⟨w.heap.size, 0, none⟩) (by simp)).trans (by simp))
  · exact (A2.cell (p := ⟨w.heap.size, 1, none⟩) (by simp)).trans ((A1.cell (p := ⟨w.heap.size, 1, none⟩) (by simp)).trans (by simp))
  · refine (A2.cell (p := ⟨w.heap.size + 1, 0, none⟩) (by simp)).trans ?_
    rw [← hz]
    clear A1 A2 hz hz2
    generalize w.alloc (.cells #[p0, p1] t) = W
    simp
  all_goals
    rw [← hz2]
    clear A1 A2 hz hz2
    generalize (w.alloc (.cells #[p0, p1] t)).alloc (.cells #[p2] u) = W
    simp
theorem append_none {P : Program} {w : World} (base : Nat) (t ty e : TypeId) (i : TypeInfo) (z : Value) (size bytes : Nat) (ht : P.underlying t = some (.slice e)) (hi : P.info? e = some i) (hz : i.zero = some z)
    (hsize : i.size = size) (hby : i.bytes = bytes) (hzs : z.cells.size = size)
    (b : Nat) (a : Addr) (c : Nat) (news : List Value) (hl : news.length = 1 * size) (hnews : ∀ j u, news[j]? = some u → w.cell? (a.add j) = some u)
    (hbytes : 1 * bytes ≤ 140737488355328) (hbase : base ≤ w.heap.size) :
    ∃ v' w', (Builtin.append_ #[t, t] ty #[.slice (some ⟨b, 0, none⟩) 0 0, .slice (some a) 1 c]).run P w = .ok v' w' ∧ w'.ownsRow base e size v' 1 news ∧ Below base w w' := by
  subst hsize hby
  have hr := run_append_grow (P := P) w t ty e i z ht hi hz ⟨b, 0, none⟩ 0 0 [] (by simp) (by intro j v hj; simp at hj) a 1 c news hl hnews (by omega) (by omega) (growslice_fits (by omega) (by simpa using hbytes))
  have hge := grownCap_ge w (0 + 1) 0 e
  have hcm : grownCap w (0 + 1) 0 e ≤ maxLen := grownCap_le_maxLen w (0 + 1) 0 e (by unfold maxLen; omega)
  refine ⟨_, _, hr, ⟨by simpa using hl, .inr ⟨w.heap.size, _, _, rfl, hbase, heap_alloc_new w.drew _, hge, hcm, ?_, ?_⟩⟩, rfl, rfl, rfl, by simp, fun k hk => heap_alloc_old w.drew _ (Nat.lt_of_lt_of_le hk hbase)⟩
  · simp only [Array.size_append, List.size_toArray, size_zeroCells, hzs, hl, List.length_nil, Nat.zero_add, ← Nat.add_mul]
    congr 1
    have := hge
    simp only [Nat.zero_add] at this
    omega
  · simp only [Array.toList_append, List.nil_append]
    rw [← hl]
    exact List.take_left
theorem wpList_append_z {P : Program} {w : World} {ops : Array Oper} {rest : List Oper} {o : Oper} {a : Act} {Q : Exit → Act → World → Prop} (hgd : o.guard = none) (s x : Operand) (t : TypeId)
    (ho : o.op = .call { callee := .builtin .append, args := #[s, x], argTypes := #[t, t] })
    (base : Nat) (e : TypeId) (i : TypeInfo) (z : Value) (size bytes : Nat) (ht : P.underlying t = some (.slice e)) (hi : P.info? e = some i) (hz : i.zero = some z)
    (hsize : i.size = size) (hby : i.bytes = bytes) (hzs : z.cells.size = size) (hsz : 0 < size)
    (v : Value) (n : Nat) (xs : List Value) (hs : a.eval s = v) (hown : w.ownsRow base e size v n xs ∨ ∃ b, v = .slice (some ⟨b, 0, none⟩) 0 0 ∧ n = 0 ∧ xs = [])
    (ad : Addr) (c : Nat) (news : List Value) (hx : a.eval x = .slice (some ad) 1 c) (hl : news.length = 1 * size) (hnews : ∀ j u, news[j]? = some u → w.cell? (ad.add j) = some u) (h1 : ∀ u ∈ news, u.oneCell' = true)
    (h63 : n + 1 ≤ maxLen) (hbytes : (n + 1) * bytes ≤ 140737488355328) (hbase : base ≤ w.heap.size)
    (h : ∀ v' w', w'.ownsRow base e size v' (n + 1) (xs ++ news) → Below base w w' → wpList P ops Q rest (a.put o.dst v') w') : wpList P ops Q (o :: rest) a w := by
  rcases hown with hown | ⟨b, rfl, rfl, rfl⟩
  · exact wpList_append_own w hgd s x t ho base e i z size bytes ht hi hz hsize hby hzs hsz v n xs hs hown ad 1 c news hx hl hnews h1 h63 hbytes hbase fun v' w' h2 h3 _ => h v' w' h2 (Below.grown (Below.refl base w) h3 hbase (fun j e => (hown.lt j e).1))
  · obtain ⟨v', w', hr, h2, h3⟩ := append_none (w := w) base t o.type e i z size bytes ht hi hz hsize hby hzs b ad c news hl hnews (by omega) hbase
    exact Lib.wpList_append_run w hgd s x t t ho _ _ hs hx v' w' hr (h v' w' (by simpa using h2) h3)
theorem insG_split {α : Type} (g : Nat → ByteArray) (F : Nat → α) (x : α) (t : ByteArray) (k : Nat) : (doneG g t k = false → insG g F x t k = (List.range k).map F) ∧ (doneG g t k = true → ∃ A B, (List.range k).map F = A ++ B ∧ insG g F x t k = A ++ x :: B) := by
  induction k with
  | zero => simp [insG, doneG]
  | succ j ih =>
    have e : (List.range (j + 1)).map F = (List.range j).map F ++ [F j] := by rw [List.range_succ, List.map_append]; rfl
    rw [e]
    simp only [insG, doneG]
    cases hd : doneG g t j with
    | false =>
      have h1 := ih.1 hd
      cases hl : tless t (g j) with
      | true => simpa [h1] using ⟨(List.range j).map F, [F j], rfl, by simp⟩
      | false => simp [h1]
    | true =>
      obtain ⟨A, B, h1, h2⟩ := ih.2 hd
      simp only [Bool.true_or, Bool.true_eq_false, false_and, if_false, true_implies, false_implies, true_and]
      exact ⟨A, B ++ [F j], by rw [h1]; simp, by rw [h2]; simp⟩
theorem finG_split {α : Type} (g : Nat → ByteArray) (F : Nat → α) (x : α) (t : ByteArray) (n : Nat) : ∃ A B, (List.range n).map F = A ++ B ∧ finG g F x t n = A ++ x :: B := by
  obtain ⟨h1, h2⟩ := insG_split g F x t n
  unfold finG
  cases hd : doneG g t n with
  | true => simpa using h2 hd
  | false => exact ⟨(List.range n).map F, [], by simp, by simp [h1 hd]⟩
theorem range_getD {α : Type} (R : List α) (d : α) : (List.range R.length).map (fun j => R.getD j d) = R := by
  apply List.ext_getElem
  · simp
  · intro i h1 h2
    simp at h1
    simp [List.getD_eq_getElem?_getD, h1]
theorem map_getD {α β : Type} (p : α → β) (R : List α) (d : α) (j : Nat) : p (R.getD j d) = (R.map p).getD j (p d) := by
  simp [List.getD_eq_getElem?_getD]
theorem tRow_put {w : World} {base : Nat} {v0 v : Value} {A B : List TR} {x : TR} (h : TRow w base v0 (A ++ B)) (hx : RowIns w x.2.1 0 x.1.actN x.1.act ∧ (∃ F, Cells w x.2.1 0 (x.1.actN * 3) F) ∧ TypeAt w x.2.1 176 ∧ base ≤ x.2.1)
    (hne : ∀ r ∈ A ++ B, r.2.1 ≠ x.2.1) (hown : w.ownsRow base 104 2 v (A ++ x :: B).length ((A ++ x :: B).flatMap tgtV)) : TRow w base v (A ++ x :: B) := by
  refine ⟨hown, fun r hr => ?_, ?_⟩
  · rcases List.mem_append.1 hr with hr | hr
    · exact h.act r (List.mem_append.2 (.inl hr))
    · rcases List.mem_cons.1 hr with rfl | hr
      · exact hx
      · exact h.act r (List.mem_append.2 (.inr hr))
  · have hu := List.pairwise_append.1 h.up
    refine List.pairwise_append.2 ⟨hu.1, List.pairwise_cons.2 ⟨fun b hb e => hne b (List.mem_append.2 (.inr hb)) e.symm, hu.2.1⟩, fun a ha b hb => ?_⟩
    rcases List.mem_cons.1 hb with rfl | hb
    · exact hne a (List.mem_append.2 (.inl ha))
    · exact hu.2.2 a ha b hb
theorem insG_ne {α : Type} {g : Nat → ByteArray} {F : Nat → α} {x : α} {t : ByteArray} {k : Nat} (h : doneG g t k = true) : (insG g F x t k).length ≠ 0 := by
  obtain ⟨A, B, _, h2⟩ := (insG_split g F x t k).2 h
  rw [h2]
  simp
theorem trow_cells {w : World} {base c : Nat} {a : Option Addr} {R : List TR} (h : TRow w base (.slice a R.length c) R) (hn : 0 < R.length) : ∃ b off, a = some ⟨b, off, none⟩ ∧ b < w.heap.size ∧ ∀ i, i < R.length → w.cell? ⟨b, off + i * 2, none⟩ = some (.string (R.getD i dfR).1.name) ∧ w.cell? ⟨b, off + i * 2 + 1, none⟩ = some (.slice (some ⟨(R.getD i dfR).2.1, 0, none⟩) (R.getD i dfR).1.actN (R.getD i dfR).2.2) := by
  obtain ⟨g, c', e⟩ := own_some h.own hn
  simp at e
  obtain ⟨rfl, rfl⟩ := e
  refine ⟨g, 0, rfl, (own_lt h.own).2, fun i hi => ?_⟩
  have hr : R[i]? = some (R.getD i dfR) := by rw [List.getD_eq_getElem?_getD, List.getElem?_eq_getElem hi]; rfl
  generalize R.getD i dfR = r at hr
  refine ⟨?_, ?_⟩
  · have := (own_cell h.own (j := i * 2) (u := .string r.1.name) (by have := flat_at tgtV 2 (fun _ => rfl) R i 0 (by omega) _ hr; simpa [tgtV] using this)).1
    rwa [show 0 + i * 2 = i * 2 by omega]
  · have := (own_cell h.own (j := i * 2 + 1) (u := .slice (some ⟨r.2.1, 0, none⟩) r.1.actN r.2.2) (by have := flat_at tgtV 2 (fun _ => rfl) R i 1 (by omega) _ hr; simpa [tgtV] using this)).1
    rwa [show 0 + i * 2 + 1 = i * 2 + 1 by omega]
def finR (R : List TR) (x : TR) (t : ByteArray) : List TR := finG (nm1 (tgtF (R.map fun r : TR => r.1))) (fun j => R.getD j dfR) x t R.length
theorem nm_getD (R : List TR) (j : Nat) : nm1 (tgtF (R.map fun r : TR => r.1)) j = (R.getD j dfR).1.name := by
  exact congrArg Target.name (map_getD (fun r : TR => r.1) R dfR j).symm
theorem finR_map (R : List TR) (x : TR) (t : ByteArray) : (finR R x t).map (fun r : TR => r.1) = insT (R.map fun r : TR => r.1) x.1 t := by
  unfold finR insT
  rw [finG_map, List.length_map]
  congr 1
  funext j
  exact map_getD (fun r : TR => r.1) R dfR j
theorem tRow_fin {w : World} {base : Nat} {v0 v : Value} {R : List TR} {x : TR} {t : ByteArray} (h : TRow w base v0 R) (hx : RowIns w x.2.1 0 x.1.actN x.1.act ∧ (∃ F, Cells w x.2.1 0 (x.1.actN * 3) F) ∧ TypeAt w x.2.1 176 ∧ base ≤ x.2.1)
    (hne : ∀ r ∈ R, r.2.1 ≠ x.2.1) (hown : w.ownsRow base 104 2 v (finR R x t).length ((finR R x t).flatMap tgtV)) : TRow w base v (finR R x t) := by
  obtain ⟨A, B, h1, h2⟩ := finG_split (nm1 (tgtF (R.map fun r : TR => r.1))) (fun j => R.getD j dfR) x t R.length
  rw [range_getD] at h1
  unfold finR at hown ⊢
  rw [h2] at hown ⊢
  subst h1
  exact tRow_put h hx hne hown
theorem own_act {w : World} {base g c : Nat} {x : Target} (h : w.ownsRow base 176 3 (.slice (some ⟨g, 0, none⟩) x.actN c) x.actN (insL x.act x.actN)) : RowIns w g 0 x.actN x.act ∧ (∃ F, Cells w g 0 (x.actN * 3) F) ∧ TypeAt w g 176 ∧ base ≤ g := by
  obtain ⟨h1, h2⟩ := own_ins h
  exact ⟨h1, h2, own_type h, (own_lt h).1⟩
structure BoxZ (w : World) (X : Nat) : Prop where
  lt : X < w.heap.size
  z0 : w.frozen? ⟨X, 0, none⟩ = false
  z1 : w.frozen? ⟨X, 1, none⟩ = false
  c0 : w.cell? ⟨X, 0, none⟩ = some (.slice none 0 0)
  c1 : w.cell? ⟨X, 1, none⟩ = some (.slice none 0 0)
  ty : TypeAt w X 26
theorem boxZ_new (w : World) : BoxZ (w.alloc (.cells #[.slice none 0 0, .slice none 0 0] 26)) w.heap.size := ⟨by simp, by simp, by simp, by simp, by simp, type_box _ _ _⟩
theorem BoxZ.below {w w' : World} {X B : Nat} (h : BoxZ w X) (hb : Below B w w') (hB : X < B) : BoxZ w' X :=
  ⟨Nat.lt_of_lt_of_le h.lt hb.size, (hb.frozen (p := ⟨X, 0, none⟩) hB).trans h.z0, (hb.frozen (p := ⟨X, 1, none⟩) hB).trans h.z1, (hb.cell (p := ⟨X, 0, none⟩) hB).trans h.c0, (hb.cell (p := ⟨X, 1, none⟩) hB).trans h.c1, h.ty.block (hb.block X hB)⟩
structure RoomBox (W wx : World) (X : Nat) (p q : Value) (L : List Source) (R : List TR) : Prop where
  two : TwoF wx X p q
  ty : TypeAt wx X 26
  ge : W.heap.size ≤ X
  src : wx.ownsRow W.heap.size 100 2 p L.length (L.flatMap srcV)
  tgt : TRow wx W.heap.size q R
  below : Below W.heap.size W wx
theorem room_last {W w2 : World} {base : Nat} {p q : Value} {L : List Source} {R : List TR} (hO : w2.ownsRow base 100 2 p L.length (L.flatMap srcV)) (hR : TRow w2 base q R) (hb : W.heap.size ≤ base) (hB : Below W.heap.size W w2) : RoomBox W (w2.alloc (.cells #[p, q] 26)) w2.heap.size p q L R :=
  have D : Below w2.heap.size w2 (w2.alloc (.cells #[p, q] 26)) := (Below.refl _ _).alloc (Nat.le_refl _) _
  ⟨twoF_box _ _ _ _, type_box _ _ _, hB.size, own_mono (own_below hO D (Nat.le_refl _)) hb, tRow_mono (hR.below D (Nat.le_refl _)) hb, hB.trans (D.mono hB.size)⟩
theorem TypeAt.set {w : World} {X g j : Nat} {e : TypeId} (h : TypeAt w X e) (u : Value) : TypeAt (w.setCell ⟨g, j, none⟩ u) X e := by
  obtain ⟨c, hc⟩ := h
  by_cases hg : X = g
  · subst hg
    refine ⟨c.setIfInBounds j u, ?_⟩
    unfold World.setCell
    simp only [Array.getElem?_modify, if_true, hc]
    rfl
  · exact ⟨c, (Below.heap_setCell _ _ _ _ (by simpa using hg)).trans hc⟩
theorem room_set {W w2 : World} {base X : Nat} {p q : Value} {L : List Source} {R : List TR} (hO : w2.ownsRow base 100 2 p L.length (L.flatMap srcV)) (hR : TRow w2 base q R) (hb : W.heap.size ≤ base) (hB : Below W.heap.size W w2) (hX : W.heap.size ≤ X) (hZ : BoxZ w2 X) : RoomBox W ((w2.setCell ⟨X, 0, none⟩ p).setCell ⟨X, 1, none⟩ q) X p q L R := by
  have t1 : TypeAt (w2.setCell ⟨X, 0, none⟩ p) X 26 := hZ.ty.set p
  refine ⟨⟨by simpa using hZ.lt, ?_, ?_, by simpa using hZ.z0, by simpa using hZ.z1⟩, t1.set q, hX, own_mono (own_setT (own_setT hO hZ.ty (by decide) p) t1 (by decide) q) hb, tRow_mono ((hR.setT hZ.ty p).setT t1 q) hb, (hB.setCell hX _).setCell hX _⟩
  · rw [World.cell?_setCell_other _ _ _ _ (by simp)]
    exact World.cell?_setCell_same' _ _ _ (by rw [hZ.c0]; rfl)
  · exact World.cell?_setCell_same' _ _ _ (by rw [World.cell?_setCell_other _ _ _ _ (by simp), hZ.c1]; rfl)
theorem tRow_ins {w : World} {base : Nat} {v : Value} {A B : List TR} {x : TR} (ha : ∀ r ∈ A ++ B, RowIns w r.2.1 0 r.1.actN r.1.act ∧ (∃ F, Cells w r.2.1 0 (r.1.actN * 3) F) ∧ TypeAt w r.2.1 176 ∧ base ≤ r.2.1) (hu : (A ++ B).Pairwise fun a b => a.2.1 ≠ b.2.1) (hx : RowIns w x.2.1 0 x.1.actN x.1.act ∧ (∃ F, Cells w x.2.1 0 (x.1.actN * 3) F) ∧ TypeAt w x.2.1 176 ∧ base ≤ x.2.1)
    (hne : ∀ r ∈ A ++ B, r.2.1 ≠ x.2.1) (hown : w.ownsRow base 104 2 v (A ++ x :: B).length ((A ++ x :: B).flatMap tgtV)) : TRow w base v (A ++ x :: B) := by
  refine ⟨hown, fun r hr => ?_, ?_⟩
  · rcases List.mem_append.1 hr with hr | hr
    · exact ha r (List.mem_append.2 (.inl hr))
    · rcases List.mem_cons.1 hr with rfl | hr
      · exact hx
      · exact ha r (List.mem_append.2 (.inr hr))
  · have hu := List.pairwise_append.1 hu
    refine List.pairwise_append.2 ⟨hu.1, List.pairwise_cons.2 ⟨fun b hb e => hne b (List.mem_append.2 (.inr hb)) e.symm, hu.2.1⟩, fun a ha b hb => ?_⟩
    rcases List.mem_cons.1 hb with rfl | hb
    · exact hne a (List.mem_append.2 (.inl ha))
    · exact hu.2.2 a ha b hb
theorem room_ins {W w3 wC wI : World} {X i m g c tc : Nat} {ta : Option Addr} {p v' : Value} {L : List Source} {R : List TR} {t : ByteArray} {fp : Nat → Ins} (RB : RoomBox W w3 X p (.slice ta R.length tc) L R) (hi : i ≤ R.length) (hBC : Below w3.heap.size w3 wC) (hOC : wC.ownsRow w3.heap.size 176 3 (.slice (some ⟨g, 0, none⟩) m c) m (insL fp m))
    (hI : wI.ownsRow W.heap.size 104 2 v' (R.length + 1) ((R.flatMap tgtV).take (i * 2) ++ [.string t, .slice (some ⟨g, 0, none⟩) m c] ++ (R.flatMap tgtV).drop (i * 2)))
    (hg : (wC.alloc (.cells #[.string t, .slice (some ⟨g, 0, none⟩) m c] 104)).grownBy wI (Value.slice ta R.length tc).ownBlock) :
    RoomBox W (wI.setCell ⟨X, 1, none⟩ v') X p v' L (R.take i ++ (⟨t, m, fp⟩, g, c) :: R.drop i) := by
  have D4 : Below w3.heap.size w3 (wC.alloc (.cells #[.string t, .slice (some ⟨g, 0, none⟩) m c] 104)) := hBC.alloc hBC.size _
  have OC4 := hOC.alloc (.cells #[.string t, .slice (some ⟨g, 0, none⟩) m c] 104)
  generalize wC.alloc (.cells #[.string t, .slice (some ⟨g, 0, none⟩) m c] 104) = w4 at D4 OC4 hg
  have T4 := RB.tgt.below D4 (Nat.le_refl _)
  have S4 := own_below RB.src D4 (Nat.le_refl _)
  have Y4 : TypeAt w4 X 26 := RB.ty.block (D4.block X RB.two.lt)
  have hX4 : X < w4.heap.size := Nat.lt_of_lt_of_le RB.two.lt D4.size
  have rows : ∀ k, (Value.slice ta R.length tc).ownBlock = some k → TypeAt w4 k 104 := own_ty T4.own
  have keep : ∀ k e, TypeAt w4 k e → e ≠ 104 → k < w4.heap.size → wI.heap[k]? = w4.heap[k]? := fun k e hk hne hlt => hg.block k hlt (fun e1 => ty_ne hk (rows k e1.symm) hne rfl)
  have hXb := keep X _ Y4 (by decide) hX4
  have YI : TypeAt wI X 26 := Y4.block hXb
  have hX3 : wI.heap[X]? = w3.heap[X]? := hXb.trans (D4.block X RB.two.lt)
  have SI : wI.ownsRow W.heap.size 100 2 p L.length (L.flatMap srcV) := S4.kept hg (own_apart S4 T4.own (by decide))
  have act : ∀ r : TR, RowIns w4 r.2.1 0 r.1.actN r.1.act ∧ (∃ F, Cells w4 r.2.1 0 (r.1.actN * 3) F) ∧ TypeAt w4 r.2.1 176 ∧ W.heap.size ≤ r.2.1 → RowIns wI r.2.1 0 r.1.actN r.1.act ∧ (∃ F, Cells wI r.2.1 0 (r.1.actN * 3) F) ∧ TypeAt wI r.2.1 176 ∧ W.heap.size ≤ r.2.1 := by
    rintro r ⟨h1, ⟨F, h2⟩, h3, h4⟩
    have e := keep r.2.1 _ h3 (by decide) h1.1
    exact ⟨h1.block hg.size e, ⟨F, h2.block hg.size e⟩, h3.block e, h4⟩
  have hW3 : W.heap.size ≤ w3.heap.size := RB.below.size
  have hgl := (own_lt hOC).1
  have eR : R.take i ++ R.drop i = R := List.take_append_drop i R
  have TI : TRow wI W.heap.size v' (R.take i ++ ((⟨t, m, fp⟩, g, c) : TR) :: R.drop i) := by
    refine tRow_ins ?_ ?_ ?_ ?_ ?_
    · rw [eR]
      exact fun r hr => act r (T4.act r hr)
    · rw [eR]
      exact T4.up
    · exact act (⟨t, m, fp⟩, g, c) (own_act (x := ⟨t, m, fp⟩) (own_mono OC4 hW3))
    · rw [eR]
      intro r hr
      have := (RB.tgt.act r hr).1.1
      show r.2.1 ≠ g
      omega
    · have e1 : (R.take i ++ ((⟨t, m, fp⟩, g, c) : TR) :: R.drop i).length = R.length + 1 := by simp; omega
      have e2 : (R.take i ++ ((⟨t, m, fp⟩, g, c) : TR) :: R.drop i).flatMap tgtV = (R.flatMap tgtV).take (i * 2) ++ [.string t, .slice (some ⟨g, 0, none⟩) m c] ++ (R.flatMap tgtV).drop (i * 2) := by rw [(take_flatT R i).1, (take_flatT R i).2]; simp [tgtV]
      rw [e1, e2]
      exact hI
  refine ⟨⟨?_, ?_, ?_, ?_, ?_⟩, YI.set v', RB.ge, own_setT SI YI (by decide) v', TI.setT YI v', ?_⟩
  · simpa using Nat.lt_of_lt_of_le hX4 hg.size
  · rw [World.cell?_setCell_other _ _ _ _ (by simp)]
    exact (World.cell?_of_block (a := ⟨X, 0, none⟩) hX3).trans RB.two.c0
  · exact World.cell?_setCell_same' _ _ _ (by rw [(World.cell?_of_block (a := ⟨X, 1, none⟩) hX3).trans RB.two.c1]; rfl)
  · simpa using (World.frozen?_of_block (a := ⟨X, 0, none⟩) hX3).trans RB.two.z0
  · simpa using (World.frozen?_of_block (a := ⟨X, 1, none⟩) hX3).trans RB.two.z1
  · exact (Below.grown (RB.below.trans (D4.mono hW3)) hg (Nat.le_trans hW3 D4.size) (fun j e => (T4.own.lt j e).1)).setCell RB.ge _
theorem insT_at {K : List Target} {R : List TR} {t : ByteArray} {x : TR} {i : Nat} (hK : R.map (fun r : TR => r.1) = K) (hi : i ≤ R.length) (h1 : ∀ m, m < i → tless (nm1 (tgtF K) m) t = true) (h2 : ∀ m, i ≤ m → m < R.length → tless (nm1 (tgtF K) m) t = false) (h3 : ∀ m, m < K.length → ((nm1 (tgtF K) m).toList == t.toList) = false) : (R.take i ++ x :: R.drop i).map (fun r : TR => r.1) = insT K x.1 t := by
  have hl : K.length = R.length := by rw [← hK]; simp
  unfold insT
  rw [finG_at (i := i) (by omega) h1 (fun m a b => h2 m a (by omega)) h3, ← hK]
  simp
theorem RoomBox.on {W wx wy : World} {X : Nat} {p q : Value} {L : List Source} {R : List TR} (h : RoomBox W wx X p q L R) (hb : Below wx.heap.size wx wy) : RoomBox W wy X p q L R := by
  have e := hb.block X h.two.lt
  exact ⟨⟨Nat.lt_of_lt_of_le h.two.lt hb.size, (World.cell?_of_block (a := ⟨X, 0, none⟩) e).trans h.two.c0, (World.cell?_of_block (a := ⟨X, 1, none⟩) e).trans h.two.c1, (World.frozen?_of_block (a := ⟨X, 0, none⟩) e).trans h.two.z0, (World.frozen?_of_block (a := ⟨X, 1, none⟩) e).trans h.two.z1⟩, h.ty.block e, h.ge, own_below h.src hb (Nat.le_refl _), h.tgt.below hb (Nat.le_refl _), h.below.trans (hb.mono h.below.size)⟩
theorem room_same {W w3 w4 wI : World} {X tc : Nat} {ta : Option Addr} {p : Value} {L : List Source} {R : List TR} (RB : RoomBox W w3 X p (.slice ta R.length tc) L R) (D4 : Below w3.heap.size w3 w4) (hg : w4.grownBy wI (Value.slice ta R.length tc).ownBlock) : wI.heap[X]? = w3.heap[X]? := by
  have Y4 : TypeAt w4 X 26 := RB.ty.block (D4.block X RB.two.lt)
  exact (hg.block X (Nat.lt_of_lt_of_le RB.two.lt D4.size) (fun e1 => ty_ne Y4 (own_ty (RB.tgt.below D4 (Nat.le_refl _)).own X e1.symm) (by decide) rfl)).trans (D4.block X RB.two.lt)
structure OneB (w : World) (b : Nat) (v : Value) : Prop where
  lt : b < w.heap.size
  c0 : w.cell? ⟨b, 0, none⟩ = some v
theorem OneB.block {w w' : World} {b : Nat} {v : Value} (h : OneB w b v) (hz : w.heap.size ≤ w'.heap.size) (hb : w'.heap[b]? = w.heap[b]?) : OneB w' b v :=
  ⟨Nat.lt_of_lt_of_le h.lt hz, (World.cell?_of_block (a := ⟨b, 0, none⟩) hb).trans h.c0⟩
theorem OneB.below {w w' : World} {b : Nat} {v : Value} (h : OneB w b v) (hb : Below w.heap.size w w') : OneB w' b v := h.block hb.size (hb.block b h.lt)
structure PCells (w : World) (g n : Nat) : Prop where
  lt : g < w.heap.size
  cells : ∃ F, Cells w g 0 (n * 3) F
theorem PCells.below {w w' : World} {g n : Nat} (h : PCells w g n) (hb : Below w.heap.size w w') : PCells w' g n := by
  obtain ⟨h1, F, h2⟩ := h
  exact ⟨Nat.lt_of_lt_of_le h1 hb.size, F, h2.block hb.size (hb.block g h1)⟩
end Go.Proofs.YtkophfgkcijjkaaGreatDoor.Vp
