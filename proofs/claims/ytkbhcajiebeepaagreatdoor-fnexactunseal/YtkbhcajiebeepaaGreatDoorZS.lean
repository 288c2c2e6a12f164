/-
  Put together of: FoMark.
-/
import Derived.Test.YtkbhcajiebeepaaGreatDoorZM
import Derived.Deep.AppendSrc
import Derived.Deep.Upon
import Derived.Lib.ConvBytes
import Derived.Lib.BufferMore

/-
  A row of bytes that may bear the mark of a conversion from a string (one place behind its last cell); append to it.
-/
namespace Go.Proofs.YtkbhcajiebeepaaGreatDoor.Vp
open Go.RowKit

def MB (w : World) (base : Nat) (v : Value) (l : List UInt8) : Prop :=
  ∃ g cap cur fz, v = .slice (some ⟨g, 0, none⟩) l.length cap ∧ base ≤ g ∧ w.heap[g]? = some (.cells cur 5 fz) ∧ (fz = (0, 0) ∨ fz = (cap, cap + 1)) ∧ l.length ≤ cap ∧ cap ≤ maxLen ∧ cur.size = cap ∧ ∀ j : Nat, j < l.length → cur[j]? = (Lib.byteCells l)[j]?
theorem MB.below {w w' : World} {base B : Nat} {v : Value} {l : List UInt8} (h : MB w base v l) (hb : Below B w w') (hB : w.heap.size ≤ B) : MB w' base v l := by
  obtain ⟨g, cap, cur, fz, h1, h2, h3, r⟩ := h
  exact ⟨g, cap, cur, fz, h1, h2, by rw [hb.block g (Nat.lt_of_lt_of_le (Array.getElem?_eq_some_iff.1 h3).1 hB)]; exact h3, r⟩
theorem MB.lt {w : World} {base : Nat} {v : Value} {l : List UInt8} (h : MB w base v l) : ∀ k, v.ownBlock = some k → base ≤ k ∧ k < w.heap.size := by
  obtain ⟨g, cap, cur, fz, rfl, h2, h3, r⟩ := h
  intro k hk
  simp [Value.ownBlock] at hk
  subst hk
  exact ⟨h2, (Array.getElem?_eq_some_iff.1 h3).1⟩

theorem setCells_at (g : Nat) (t : TypeId) (fz : Nat × Nat) : ∀ (vs : List Value) (o : Nat) (cur : Array Value) (w : World), w.heap[g]? = some (.cells cur t fz) → o + vs.length ≤ cur.size →
    ∃ cur', (w.setCells g o vs).heap[g]? = some (.cells cur' t fz) ∧ cur'.size = cur.size ∧ (∀ j, j < o → cur'[j]? = cur[j]?) ∧ ∀ j, j < vs.length → cur'[o + j]? = vs[j]?
  | [], o, cur, w, hg, _ => ⟨cur, hg, rfl, fun _ _ => rfl, fun j hj => absurd hj (Nat.not_lt_zero _)⟩
  | v :: r, o, cur, w, hg, hl => by
    simp only [List.length_cons] at hl
    obtain ⟨cur', h1, h2, h3, h4⟩ := setCells_at g t fz r (o + 1) (cur.setIfInBounds o v) (w.setCell ⟨g, o, none⟩ v) (Lib.heap_setCell_same hg v) (by simp; omega)
    refine ⟨cur', h1, by simpa using h2, fun j hj => ?_, fun j hj => ?_⟩
    · rw [h3 j (by omega)]
      simp [Array.getElem?_setIfInBounds]
      omega
    · cases j with
      | zero =>
        rw [Nat.add_zero, h3 o (by omega)]
        simp [Array.getElem?_setIfInBounds]
        omega
      | succ j =>
        simp only [List.length_cons] at hj
        have := h4 j (by omega)
        rw [show o + (j + 1) = o + 1 + j by omega, this]
        simp
theorem setCells_rest (g : Nat) : ∀ (vs : List Value) (o : Nat) (w : World), (w.setCells g o vs).os = w.os ∧ (w.setCells g o vs).tape = w.tape ∧ (w.setCells g o vs).output = w.output ∧ (w.setCells g o vs).heap.size = w.heap.size
  | [], _, _ => ⟨rfl, rfl, rfl, rfl⟩
  | v :: r, o, w => by
    obtain ⟨h1, h2, h3, h4⟩ := setCells_rest g r (o + 1) (w.setCell ⟨g, o, none⟩ v)
    exact ⟨h1, h2, h3, by rw [show (w.setCells g o (v :: r)).heap.size = ((w.setCell ⟨g, o, none⟩ v).setCells g (o + 1) r).heap.size from rfl, h4]; simp⟩

theorem run_mb (w : World) (base : Nat) (ty tx : TypeId) (v : Value) (l : List UInt8) (h : MB w base v l) (x : Value) (l2 : List UInt8) (hs : Src Tryz.prog 1 tx x l2.length (Lib.byteCells l2) w) (hb : l.length + l2.length ≤ 140737488355328) (hbase : base ≤ w.heap.size) :
    ∃ v' w', (Builtin.append_ #[60, tx] ty #[v, x]).run Tryz.prog w = .ok v' w' ∧ MB w' base v' (l ++ l2) ∧ w.grownBy w' v.ownBlock := by
  obtain ⟨i, hi, hz0, hz1, hz2⟩ := info_parts info5
  obtain ⟨g, cap, cur, fz, rfl, hbg, hg, hfz, hlc, hcm, hcs, hcells⟩ := h
  have hbl := Lib.byteCells_length l
  have hbl2 := Lib.byteCells_length l2
  have happ : Lib.byteCells (l ++ l2) = Lib.byteCells l ++ Lib.byteCells l2 := by simp [Lib.byteCells]
  by_cases hroom : l.length + l2.length ≤ cap
  · have hc : ∀ j, j < (Lib.byteCells l2).length → (w.cell? ⟨g, 0 + l.length * i.size + j, none⟩).isSome = true := by
      intro j hj
      rw [hz1]
      have : l.length + j < cur.size := by omega
      simp [World.cell?, hg, this]
    have hf : ∀ j, j < (Lib.byteCells l2).length → w.frozen? ⟨g, 0 + l.length * i.size + j, none⟩ = false := by
      intro j hj
      rw [hz1]
      rcases hfz with rfl | rfl
      · simp [World.frozen?, hg]
      · simp [World.frozen?, hg]
        omega
    have hr := run_append_room_src (P := Tryz.prog) w 60 tx ty 5 i Tryz.underlying60 hi g 0 l.length cap x l2.length (Lib.byteCells l2) (by rw [hz1]; exact hs) hroom hc hf
    have eo : 0 + l.length * i.size = l.length := by rw [hz1]; omega
    rw [eo] at hr
    obtain ⟨cur', k1, k2, k3, k4⟩ := setCells_at g 5 fz (Lib.byteCells l2) l.length cur w hg (by omega)
    obtain ⟨r1, r2, r3, r4⟩ := setCells_rest g (Lib.byteCells l2) l.length w
    refine ⟨_, _, hr, ⟨g, cap, cur', fz, by rw [List.length_append], hbg, k1, hfz, by rw [List.length_append]; exact hroom, hcm, by omega, fun j hj => ?_⟩, ⟨r1, r2, r3, by omega, fun k hk hne => World.heap_setCells_other w g l.length (Lib.byteCells l2) hk (fun e => hne (by simp [Value.ownBlock, e]))⟩⟩
    rw [happ]
    rw [List.length_append] at hj
    by_cases hj2 : j < l.length
    · rw [k3 j hj2, hcells j hj2, List.getElem?_append_left (by omega)]
    · have := k4 (j - l.length) (by omega)
      rw [show l.length + (j - l.length) = j by omega] at this
      rw [this, List.getElem?_append_right (by omega), hbl]
  · have holds : ∀ j u, (Lib.byteCells l)[j]? = some u → w.drew.cell? ((⟨g, 0, none⟩ : Addr).add j) = some u := by
      intro j u hu
      have hj : j < l.length := by
        rcases Nat.lt_or_ge j l.length with h' | h'
        · exact h'
        · rw [List.getElem?_eq_none (by omega)] at hu; cases hu
      have h1 := hcells j hj
      rw [hu] at h1
      have hg' : w.drew.heap[g]? = some (.cells cur 5 fz) := hg
      have hadd : (⟨g, 0, none⟩ : Addr).add j = ⟨g, j, none⟩ := by unfold Addr.add; split <;> simp_all
      rw [hadd]
      simp only [World.cell?, hg']
      exact h1
    have hold := run_firstCells_some (P := Tryz.prog) w.drew i.size l.length ⟨g, 0, none⟩ l.length cap (Lib.byteCells l) (by rw [hz1, hbl]; omega) holds
    have hm : l.length + l2.length ≤ maxLen := by unfold maxLen; omega
    have hr := run_append_grow_src (P := Tryz.prog) w 60 tx ty 5 i (.int .u8 0) Tryz.underlying60 hi hz0 (some ⟨g, 0, none⟩) l.length cap (Lib.byteCells l) hold x l2.length (Lib.byteCells l2) (by rw [hz1]; exact hs) (by omega) (by omega) (by rw [hz2]; exact growslice_fits (by omega) (by omega))
    refine ⟨_, _, hr, ⟨w.heap.size, _, _, (0, 0), by rw [List.length_append], hbase, heap_alloc_new w.drew _, .inl rfl, by rw [List.length_append]; exact grownCap_ge w _ cap _, grownCap_le_maxLen w _ cap _ hm, ?_, fun j hj => ?_⟩, ⟨rfl, rfl, rfl, by simp, fun k hk _ => Lib.alloc_old w.drew _ k hk⟩⟩
    · have hz3 : (Value.int IntKind.u8 0).cells.size = 1 := rfl
      have hge := grownCap_ge w (l.length + l2.length) cap 5
      simp only [Array.size_append, List.size_toArray, List.length_append, size_zeroCells, hz3, hbl, hbl2]
      omega
    · rw [happ]
      rw [List.length_append] at hj
      rw [Array.getElem?_append_left (by simp; omega)]
      simp

theorem wp_mb_str {ops : Array Oper} {rest : List Oper} {o : Oper} {a : Act} {Q : Exit → Act → World → Prop} {w : World} (hgd : o.guard = none) (sl x : Operand)
    (ho : o.op = .call { callee := .builtin .append, args := #[sl, x], argTypes := #[60, 9] }) (base : Nat) (v : Value) (l : List UInt8) (hs : a.eval sl = v) (hown : MB w base v l)
    (s : ByteArray) (hx : a.eval x = .string s) (hb : l.length + s.size ≤ 140737488355328) (hbase : base ≤ w.heap.size)
    (h : ∀ v' w', MB w' base v' (l ++ s.data.toList) → w.grownBy w' v.ownBlock → wpList Tryz.prog ops Q rest (a.put o.dst v') w') : wpList Tryz.prog ops Q (o :: rest) a w := by
  refine wpList_plain hgd fun K hK => ?_
  have hsrc : Src Tryz.prog 1 9 (.string s) s.data.toList.length (Lib.byteCells s.data.toList) w := by
    have h1 := Src.ofString (P := Tryz.prog) w (tx := 9) Tryz.underlying9 s
    have e : s.data.toList.length = s.size := by simp
    rw [e]
    exact h1
  obtain ⟨v', w', hr, h2, h3⟩ := run_mb w base o.type 9 v l hown (.string s) s.data.toList hsrc (by have e : s.data.toList.length = s.size := (by simp); omega) hbase
  unfold Oper.wp execOp
  simp only [ho, resolve, invoke, builtin, Sem.run_bind, Sem.run_pure, Result.andThen_ok, List.map_toArray, List.map_cons, List.map_nil, hs, hx, hr]
  exact hK _ _ (h v' w' h2 h3)
theorem wp_mb {ops : Array Oper} {rest : List Oper} {o : Oper} {a : Act} {Q : Exit → Act → World → Prop} {w : World} (hgd : o.guard = none) (sl x : Operand)
    (ho : o.op = .call { callee := .builtin .append, args := #[sl, x], argTypes := #[60, 60] }) (base : Nat) (v : Value) (l : List UInt8) (hs : a.eval sl = v) (hown : MB w base v l)
    (ad : Addr) (c : Nat) (l2 : List UInt8) (hx : a.eval x = .slice (some ad) l2.length c) (hcells : ∀ j u, (Lib.byteCells l2)[j]? = some u → w.cell? (ad.add j) = some u) (hb : l.length + l2.length ≤ 140737488355328) (hbase : base ≤ w.heap.size)
    (h : ∀ v' w', MB w' base v' (l ++ l2) → w.grownBy w' v.ownBlock → wpList Tryz.prog ops Q rest (a.put o.dst v') w') : wpList Tryz.prog ops Q (o :: rest) a w := by
  refine wpList_plain hgd fun K hK => ?_
  have hsrc : Src Tryz.prog 1 60 (.slice (some ad) l2.length c) l2.length (Lib.byteCells l2) w := Src.ofSlice (P := Tryz.prog) w Tryz.underlying60 ad l2.length c (Lib.byteCells l2) (by rw [Lib.byteCells_length]; omega) hcells (by simp [Lib.byteCells, Value.oneCell'])
  obtain ⟨v', w', hr, h2, h3⟩ := run_mb w base o.type 60 v l hown (.slice (some ad) l2.length c) l2 hsrc hb hbase
  unfold Oper.wp execOp
  simp only [ho, resolve, invoke, builtin, Sem.run_bind, Sem.run_pure, Result.andThen_ok, List.map_toArray, List.map_cons, List.map_nil, hs, hx, hr]
  exact hK _ _ (h v' w' h2 h3)

end Go.Proofs.YtkbhcajiebeepaaGreatDoor.Vp
