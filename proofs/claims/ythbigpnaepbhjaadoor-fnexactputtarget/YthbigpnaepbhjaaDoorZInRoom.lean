/-
  slices.Insert at elements of two cells: in place.
-/
import Derived.Test.YthbigpnaepbhjaaDoorZInBase
namespace Go.Proofs.YthbigpnaepbhjaaDoor.Vp
open Go.RowKit

theorem room_list {cur xs : List Value} {n i : Nat} (p q : Value) (ht : cur.take (n * 2) = xs) (hxl : xs.length = n * 2) (hi : i ≤ n) (hl : n * 2 + 2 ≤ cur.length) :
    let A1 := cur.take (i * 2 + 2) ++ xs.drop (i * 2) ++ cur.drop (i * 2 + 2 + (xs.drop (i * 2)).length)
    (A1.take (i * 2) ++ [p, q] ++ A1.drop (i * 2 + 2)).take ((n + 1) * 2) = xs.take (i * 2) ++ [p, q] ++ xs.drop (i * 2) ∧ (A1.take (i * 2) ++ [p, q] ++ A1.drop (i * 2 + 2)).length = cur.length ∧ A1.length = cur.length := by
  intro A1
  have h1 : A1.take (i * 2) = xs.take (i * 2) := by
    show List.take _ (cur.take (i * 2 + 2) ++ xs.drop (i * 2) ++ _) = _
    rw [List.append_assoc, List.take_append_of_le_length (by rw [List.length_take]; omega), List.take_take, ← ht, List.take_take]
    congr 1
    omega
  have h2 : A1.drop (i * 2 + 2) = xs.drop (i * 2) ++ cur.drop (i * 2 + 2 + (xs.drop (i * 2)).length) := by
    show List.drop _ (cur.take (i * 2 + 2) ++ xs.drop (i * 2) ++ _) = _
    rw [List.append_assoc]
    have e : i * 2 + 2 = (cur.take (i * 2 + 2)).length := by rw [List.length_take]; omega
    conv => lhs; arg 1; rw [e]
    rw [List.drop_left]
  have hd : (xs.drop (i * 2)).length = n * 2 - i * 2 := by rw [List.length_drop, hxl]
  have htk : (xs.take (i * 2)).length = i * 2 := by rw [List.length_take]; omega
  refine ⟨?_, ?_, ?_⟩
  · rw [h1, h2, ← List.append_assoc]
    have e : (n + 1) * 2 = (xs.take (i * 2) ++ [p, q] ++ xs.drop (i * 2)).length := by simp only [List.length_append, htk, hd, List.length_cons, List.length_nil]; omega
    rw [e, List.take_left]
  · rw [h1, h2]
    simp only [List.length_append, htk, hd, List.length_cons, List.length_nil, List.length_drop]
    omega
  · show (cur.take (i * 2 + 2) ++ xs.drop (i * 2) ++ _).length = _
    simp only [List.length_append, hd, List.length_take, List.length_drop]
    omega

set_option maxRecDepth 100000 in
set_option maxHeartbeats 4000000 in
theorem insertSource_room (g n cap i : Nat) (cur : Array Value) (xs : List Value) (vb : Nat) (p q : ByteArray) (w : World) (hn : (n : Int) ≤ 1048576) (hi : i < n) (hr : n + 1 ≤ cap) (hcap : cap ≤ 9223372036854775807)
    (hg : w.heap[g]? = some (.cells cur 57 (0, 0))) (hcs : cur.size = cap * 2) (htk : cur.toList.take (n * 2) = xs) (hxl : xs.length = n * 2) (h1 : ∀ u ∈ xs, u.oneCell' = true) (hx : w.heap[vb]? = some (.cells #[.string p, .string q] 57 (0, 0))) (hne : vb ≠ g) :
    Calls Tryd.prog 30 #[.slice (some ⟨g, 0, none⟩) n cap, .int .i64 i, .slice (some ⟨vb, 0, none⟩) 1 1] w fun e w' => e = .returned (.slice (some ⟨g, 0, none⟩) (n + 1) cap) ∧ ∃ A : Array Value, w'.heap[g]? = some (.cells A 57 (0, 0)) ∧ A.size = cap * 2 ∧ A.toList.take ((n + 1) * 2) = xs.take (i * 2) ++ [.string p, .string q] ++ xs.drop (i * 2) ∧ w.grownBy w' (some g) := by
  have hz2 : ¬ ((i : Int) = (n : Int)) := by omega
  have hsz : (Tryd.prog.info? 57).map (·.size) = some 2 := by
    obtain ⟨i0, hi0, h0, h1, h2⟩ := info_parts infoSource
    rw [hi0]; simp [h1]
  have hzw : ∀ w, (Go.sizeOf 57).run Tryd.prog w = .ok 2 w := by
    obtain ⟨i0, hi0, h0, h1, h2⟩ := info_parts infoSource
    intro w
    simp [Go.sizeOf, typeInfo, hi0, h1]
  have hov : ∀ lb cb, (callFunc 61 #[.slice (some ⟨vb, 0, none⟩) 1 1, .slice (some ⟨g, (i + 1) * 2, none⟩) lb cb]).run Tryd.prog w = .ok (.value (.bool false)) w := fun lb cb => by
    rw [run_callFunc_extern Tryd.func61 (by kernel_rfl) (by kernel_rfl) (by kernel_rfl) (e := Extern.SlicesOverlaps.overlaps #[27, 27] #[4]) (by kernel_rfl),
      Lib.run_overlaps_apart w 27 4 57 Tryd.underlying27 2 hzw ⟨vb, 0, none⟩ ⟨g, (i + 1) * 2, none⟩ 1 1 lb cb hne 57 57 2 cur.size (by simp [World.shape?, hx]) (by simp [World.shape?, hg]) (by omega) (by simp [World.frozen?, hx]) (by simp [World.frozen?, hx])]
    rfl
  have hdl : (xs.drop (i * 2)).length = (n - i) * 2 := by rw [List.length_drop, hxl]; omega
  obtain ⟨hL1, hL2, hL3⟩ := room_list (.string p) (.string q) htk hxl (Nat.le_of_lt hi) (by rw [Array.length_toList]; omega)
  obtain ⟨A1, hA1⟩ : ∃ A1, A1 = cur.toList.take (i * 2 + 2) ++ xs.drop (i * 2) ++ cur.toList.drop (i * 2 + 2 + (xs.drop (i * 2)).length) := ⟨_, rfl⟩
  rw [← hA1] at hL1 hL2 hL3
  obtain ⟨A2, hA2⟩ : ∃ A2, A2 = A1.take (i * 2) ++ [.string p, .string q] ++ A1.drop (i * 2 + 2) := ⟨_, rfl⟩
  rw [← hA2] at hL1 hL2
  have hsrc : ∀ j v, (xs.drop (i * 2))[j]? = some v → w.drew.cell? ((⟨g, i * 2, none⟩ : Addr).add j) = some v := fun j v hj => by
    rw [Addr.add_lit]
    have e : w.cell? ⟨g, i * 2 + j, none⟩ = cur[i * 2 + j]? := by simp [World.cell?, hg]
    refine e.trans ?_
    rw [List.getElem?_drop, ← htk, List.getElem?_take] at hj
    split at hj
    · rw [← Array.getElem?_toList]; exact hj
    · cases hj
  have hcp1 : ∀ ty dc sc, (Builtin.copy_ #[27, 27] ty #[.slice (some ⟨g, (i + 1) * 2, none⟩) (n - i) dc, .slice (some ⟨g, i * 2, none⟩) (n + 1 - i) sc]).run Tryd.prog w.drew = .ok (goInt (Nat.min (n + 1 - i) (n - i))) (w.drew.setRow g A1.toArray) := fun ty dc sc => by
    rw [hA1, show (i + 1) * 2 = i * 2 + 2 by omega]
    exact run_copy_wide w.drew _ _ ty 57 g (i * 2 + 2) _ dc ⟨g, i * 2, none⟩ _ sc 2 cur 57 (xs.drop (i * 2)) Tryd.underlying27 hsz hg (by rw [hdl]; congr 1; simp only [Nat.min_def]; split <;> omega) hsrc (by rw [hdl]; omega) (fun v hv => h1 v (List.mem_of_mem_drop hv))
  have hg1 : (w.drew.setRow g A1.toArray).heap[g]? = some (.cells A1.toArray 57 (0, 0)) := setRow_heap w.drew g cur _ _ _ hg
  have hx1 : (w.drew.setRow g A1.toArray).heap[vb]? = some (.cells #[.string p, .string q] 57 (0, 0)) := (setRow_other w.drew g vb _ hne).trans hx
  have hA1l : A1.toArray.size = cur.size := by rw [List.size_toArray, hL3, Array.length_toList]
  obtain ⟨W1, hW1⟩ : ∃ W1, W1 = w.drew.setRow g A1.toArray := ⟨_, rfl⟩
  rw [← hW1] at hcp1 hg1 hx1
  have hcp2 : ∀ (W : World), W.heap = W1.heap → ∀ ty dc, (Builtin.copy_ #[27, 27] ty #[.slice (some ⟨g, i * 2, none⟩) (n + 1 - i) dc, .slice (some ⟨vb, 0, none⟩) 1 1]).run Tryd.prog W = .ok (goInt (Nat.min 1 (n + 1 - i))) (W.setRow g A2.toArray) := fun W hW ty dc => by
    rw [hA2]
    exact run_copy_wide W _ _ ty 57 g (i * 2) _ dc ⟨vb, 0, none⟩ _ 1 2 A1.toArray 57 [.string p, .string q] Tryd.underlying27 hsz (by rw [hW]; exact hg1) (by simp only [List.length_cons, List.length_nil, Nat.min_def]; split <;> omega) (two_at (by rw [hW]; exact hx1)) (by simp only [List.length_cons, List.length_nil]; rw [hA1l, hcs]; omega) (by simp [Value.oneCell'])
  have hw1 : IntKind.i64.wrap ((i : Int) + 1) = (i : Int) + 1 := by rw [IntKind.wrap_i64]; omega
  have hw2 : IntKind.i64.wrap ((n : Int) + 1) = (n : Int) + 1 := by rw [IntKind.wrap_i64]; omega
  have hroom : ¬ ((cap : Int) < (n : Int) + 1) := by omega
  have hb1 : (0 : Int) ≤ (i : Int) + 1 := by omega
  have htn : ((i : Int) + 1).toNat = i + 1 := by omega
  have hin : i ≤ n := by omega
  have hb2 : ¬ (cap = i + 1) := by omega
  have hb3 : (i : Int) ≤ (n : Int) + 1 := by omega
  have hb4 : ¬ (cap = i) := by omega
  have HF : Hid (∀ W : World, W.heap = (W1.setRow g A2.toArray).heap → W.os = w.os → W.tape = w.tape → W.output = w.output → ∃ A : Array Value, W.heap[g]? = some (.cells A 57 (0, 0)) ∧ A.size = cap * 2 ∧ A.toList.take ((n + 1) * 2) = xs.take (i * 2) ++ [.string p, .string q] ++ xs.drop (i * 2) ∧ w.grownBy W (some g)) := fun W hW o1 o2 o3 => by
    refine ⟨A2.toArray, by rw [hW]; exact setRow_heap W1 g A1.toArray _ _ _ hg1, by rw [List.size_toArray, hL2, Array.length_toList, hcs], by simpa using hL1, o1, o2, o3, ?_, fun k hk he => ?_⟩
    · rw [hW, hW1, setRow_size, setRow_size]; exact Nat.le_refl _
    · have hkg : k ≠ g := fun e => he (by rw [e])
      rw [hW, setRow_other _ _ _ _ hkg, hW1, setRow_other _ _ _ _ hkg]
      rfl
  have eo : W1.os = w.os ∧ W1.tape = w.tape ∧ W1.output = w.output := by subst hW1; exact ⟨rfl, rfl, rfl⟩
  have EO := hide eo
  clear hg hx htk hxl hcs hA1 hA2 hsrc hdl hL1 hL2 hL3 hg1 hx1 hA1l hW1 h1 hsz hzw eo
  go_enter Tryd.func30, Tryd.ntmps30
  go_wp2_with (simp only [hov])
  go_region_law (refine step_copy_runI rfl _ _ 27 27 rfl _ _ (by simp [Act.eval, Act.put]) (by simp [Act.eval, Act.put]) (hcp1 _ _ _) ?_)
  go_wp2_with (at_builtin; refine wpList_copy_runI _ rfl _ _ 27 27 rfl _ _ rfl rfl (hcp2 _ rfl _ _) ?_)
  go_ret
  exact ⟨rfl, HF.out _ rfl EO.out.1 EO.out.2.1 EO.out.2.2⟩

end Go.Proofs.YthbigpnaepbhjaaDoor.Vp
