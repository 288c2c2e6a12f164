import Derived.Test.YtkophfgkcijjkaaGreatDoorZL
import Derived.Test.YtkophfgkcijjkaaGreatDoorZQ
import Derived.Test.YtkophfgkcijjkaaGreatDoorZF
namespace Go.Proofs.YtkophfgkcijjkaaGreatDoor.Vp
open Go.RowKit
theorem res_ins1 {fn : Func} {p : Tmp} (h : fn.results = #[.cell p 176]) (tmps : Array Value) (w : World) (g : Nat) (x y z : Value) (hp : tmps.getD p undef = .pointer (some ⟨g, 0, none⟩)) (hC : CI w g x y z) :
    (results fn tmps).run Tryz.prog w = .ok (.agg #[x, y, z]) w :=
  results_cell_row h tmps w g 176 #[x, y, z] (0, 0) _ hp hC Tryz.underlying176 rfl sizeIns
set_option maxRecDepth 100000 in
set_option maxHeartbeats 1000000 in
theorem l1Lit_any (s : ByteArray) (w : World) : Calls Tryz.prog 128 #[.string s] w fun e w' => e = .returned (.agg #[.int .i64 1, .string s, .int .i64 0]) ∧ Below w.heap.size w w' := by
  go_enter Tryz.func128, Tryz.ntmps128
  go_wp2
  try simp only [Exit.inBlock, Exit.then]
  refine bodyPost_ret (res_ins1 rfl _ _ w.heap.size _ _ _ rfl (CI.new w _ _ _)) rfl ?_
  exact ⟨rfl, (Below.refl _ _).alloc (Nat.le_refl _) _⟩
set_option maxRecDepth 100000 in
set_option maxHeartbeats 1000000 in
theorem l1Op_any (op : Int) (w : World) : Calls Tryz.prog 129 #[.int .i64 op] w fun e w' => e = .returned (.agg #[.int .i64 op, .string ⟨#[]⟩, .int .i64 0]) ∧ Below w.heap.size w w' := by
  go_enter Tryz.func129, Tryz.ntmps129
  go_wp2
  try simp only [Exit.inBlock, Exit.then]
  refine bodyPost_ret (res_ins1 rfl _ _ w.heap.size _ _ _ rfl (CI.new w _ _ _)) rfl ?_
  exact ⟨rfl, (Below.refl _ _).alloc (Nat.le_refl _) _⟩
set_option maxRecDepth 100000 in
set_option maxHeartbeats 1000000 in
theorem l1OpN_any (op n : Int) (w : World) : Calls Tryz.prog 184 #[.int .i64 op, .int .i64 n] w fun e w' => e = .returned (.agg #[.int .i64 op, .string ⟨#[]⟩, .int .i64 n]) ∧ Below w.heap.size w w' := by
  go_enter Tryz.func184, Tryz.ntmps184
  go_wp2
  try simp only [Exit.inBlock, Exit.then]
  refine bodyPost_ret (res_ins1 rfl _ _ w.heap.size _ _ _ rfl (CI.new w _ _ _)) rfl ?_
  exact ⟨rfl, (Below.refl _ _).alloc (Nat.le_refl _) _⟩
set_option maxRecDepth 100000 in
set_option maxHeartbeats 1000000 in
theorem l1Small_any (n : Int) (w : World) : Calls Tryz.prog 214 #[.int .i64 n] w fun e w' => e = .returned (.int .i64 (if 200 < n then 200 else n)) ∧ w' = w := by
  by_cases h : 200 < n
  · rw [if_pos h]
    go_enter Tryz.func214, Tryz.ntmps214
    go_wp2
    go_ret
    exact ⟨rfl, rfl⟩
  · rw [if_neg h]
    go_enter Tryz.func214, Tryz.ntmps214
    go_wp2
    go_ret
    exact ⟨rfl, rfl⟩
set_option maxRecDepth 100000 in
set_option maxHeartbeats 2000000 in
theorem l1Name_any (R p : Nat) (w : World) (hR : Rd w R p) (hp : (p : Int) ≤ 90000) :
    Calls Tryz.prog 50 #[.pointer (some ⟨R, 0, none⟩)] w fun e w' => ∃ t : ByteArray, e = .returned (.string t) ∧ t.size ≤ 30 ∧ Rd w' R (p + 1) ∧ Only R w w' := by
  have HR := hide hR
  clear hR
  go_enter Tryz.func50, Tryz.ntmps50
  go_wp2_with fail
  refine (pick_any R p 16 _ HR.out (by omega) (by omega) (by omega)).mono ?_
  rintro e w1 ⟨z, rfl, hz0, hz1, hR1, hO1⟩
  have R1 := hide hR1
  have O1 := hide hO1
  clear hR1 hO1
  by_cases h6 : z < 6
  · rcases (show z = 0 ∨ z = 1 ∨ z = 2 ∨ z = 3 ∨ z = 4 ∨ z = 5 by omega) with rfl | rfl | rfl | rfl | rfl | rfl
    all_goals
      go_wp2
      go_ret
      exact ⟨_, rfl, by decide, R1.out, O1.out⟩
  · by_cases h14 : z < 14
    · obtain ⟨m, rfl⟩ : ∃ m : Nat, z = (m : Int) + 6 := ⟨(z - 6).toNat, by omega⟩
      have hm : m ≤ 7 := by omega
      have DC := hide (fun V => l1Dec_any m (by omega) V)
      have hd := dec_len m (by omega)
      go_wp2_with fail
      refine (DC.out _).mono ?_
      rintro e w2 ⟨rfl, hB2⟩
      have R2 := hide (R1.out.below hB2 (Nat.le_refl _))
      have O2 := hide (O1.out.trans (Only.of_below hB2))
      clear hB2
      go_wp2
      go_ret
      exact ⟨_, rfl, by rw [ByteArray.size_append]; show 1 + (Lib.decDigits m).length ≤ 30; omega, R2.out, O2.out⟩
    · go_wp2
      go_ret
      exact ⟨_, rfl, by decide, R1.out, O1.out⟩
end Go.Proofs.YtkophfgkcijjkaaGreatDoor.Vp
namespace Go.Proofs.YtkophfgkcijjkaaGreatDoor.Vp
open Go.RowKit
theorem infoInsF : ∃ i, Tryz.prog.info? 176 = some i ∧ i.zero = some (.agg #[.int .i64 0, .string ⟨#[]⟩, .int .i64 0]) ∧ i.size = 3 ∧ i.bytes = 32 := by
  obtain ⟨i, hi, hz⟩ := Option.map_eq_some_iff.1 infoIns
  simp only [Prod.mk.injEq] at hz
  exact ⟨i, hi, hz⟩
def IR (w : World) (base g c : Nat) (L : List I3) : Prop := w.ownsRow base 176 3 (.slice (some ⟨g, 0, none⟩) L.length c) L.length (i3L L)
theorem IR.below {w w' : World} {base g c B : Nat} {L : List I3} (h : IR w base g c L) (hb : Below B w w') (hB : w.heap.size ≤ B) : IR w' base g c L := own_below h hb hB
theorem IR.lt {w : World} {base g c : Nat} {L : List I3} (h : IR w base g c L) : base ≤ g ∧ g < w.heap.size := World.ownsRow.lt h g rfl
theorem IR.only {w w' : World} {base g c R : Nat} {L : List I3} (h : IR w base g c L) (ho : Only R w w') (hR : R < base) : IR w' base g c L := own_only h ho hR
theorem IR.lit (w : World) : IR (w.alloc (.cells #[] 176)) w.heap.size w.heap.size 0 [] :=
  ⟨by simp [i3L], .inr ⟨w.heap.size, 0, #[], rfl, Nat.le_refl _, heap_alloc_new w _, Nat.le_refl _, by unfold maxLen; omega, by simp, by simp [i3L]⟩⟩
theorem i3L_app (L M : List I3) : i3L (L ++ M) = i3L L ++ i3L M := by simp [i3L]
theorem i3L_one (L : List I3) : ∀ u ∈ i3L L, u.oneCell' = true := by
  intro u hu
  simp only [i3L, List.mem_flatMap, i3V] at hu
  obtain ⟨x, _, hx⟩ := hu
  simp at hx
  rcases hx with rfl | rfl | rfl <;> simp [Value.oneCell']
theorem addr_addF (b off j : Nat) : (⟨b, off, none⟩ : Addr).add j = ⟨b, off + j, none⟩ := by
  unfold Addr.add
  split <;> simp_all
theorem new_cells (w : World) (cs : Array Value) (t : TypeId) : ∀ j u, cs.toList[j]? = some u → (w.alloc (.cells cs t)).cell? ((⟨w.heap.size, 0, none⟩ : Addr).add j) = some u := by
  intro j u hj
  rw [addr_addF, Nat.zero_add]
  exact box1 w cs t w.heap.size j u rfl (by simpa using hj)
theorem IR.news {w : World} {base g c : Nat} {L : List I3} (h : IR w base g c L) : ∀ j u, (i3L L)[j]? = some u → w.cell? ((⟨g, 0, none⟩ : Addr).add j) = some u := fun j u hu => World.ownsRow.cells h (g := g) rfl j u hu
theorem wp_appI {ops : Array Oper} {rest : List Oper} {o : Oper} {a : Act} {Q : Exit → Act → World → Prop} {w : World} (hgd : o.guard = none) (s x : Operand)
    (ho : o.op = .call { callee := .builtin .append, args := #[s, x], argTypes := #[29, 29] }) (base g c : Nat) (L : List I3) (hs : a.eval s = .slice (some ⟨g, 0, none⟩) L.length c) (hown : IR w base g c L)
    (ad : Addr) (m d : Nat) (M : List I3) (hx : a.eval x = .slice (some ad) m d) (hm : m = M.length) (hne : M ≠ []) (hnews : ∀ j u, (i3L M)[j]? = some u → w.cell? (ad.add j) = some u) (hlen : L.length + M.length ≤ 100000) (hb : base ≤ w.heap.size)
    (h : ∀ g' c' w', IR w' base g' c' (L ++ M) → w.grownBy w' (some g) → wpList Tryz.prog ops Q rest (a.put o.dst (.slice (some ⟨g', 0, none⟩) (L ++ M).length c')) w') : wpList Tryz.prog ops Q (o :: rest) a w := by
  obtain ⟨i0, hi, hy0, hy1, hy2⟩ := infoInsF
  subst hm
  refine wpList_append_own _ hgd s x 29 ho base 176 i0 (.agg #[.int .i64 0, .string ⟨#[]⟩, .int .i64 0]) 3 32 Tryz.underlying29 hi hy0 hy1 hy2 rfl (by decide) _ L.length (i3L L) hs hown ad M.length d (i3L M) hx (i3L_len M) hnews (i3L_one M) (by unfold maxLen; omega) (by omega) hb ?_
  intro v' w' hw hg _
  have hp : 0 < M.length := List.length_pos_iff.2 hne
  have hv : ∃ g' c', v' = .slice (some ⟨g', 0, none⟩) (L.length + M.length) c' := by
    rcases hw.2 with ⟨_, h0⟩ | ⟨g', cap, cur, hv, _⟩
    · omega
    · exact ⟨g', cap, hv⟩
  obtain ⟨g', c', rfl⟩ := hv
  have e : (L ++ M).length = L.length + M.length := List.length_append
  rw [← e] at hw ⊢
  rw [← i3L_app] at hw
  exact h g' c' w' hw hg
def DI (w : World) (R q n : Nat) (e : Ending) (w' : World) : Prop := ∃ (L : List I3) (g c : Nat), e = .returned (.slice (some ⟨g, 0, none⟩) L.length c) ∧ IR w' w.heap.size g c L ∧ L ≠ [] ∧ L.length ≤ n ∧ (∀ i ∈ L, i.2.1.length ≤ 5000) ∧ ∃ q' : Nat, q' ≤ q ∧ Rd w' R q' ∧ Only R w w'
end Go.Proofs.YtkophfgkcijjkaaGreatDoor.Vp
namespace Go.Proofs.YtkophfgkcijjkaaGreatDoor.Vp
open Go.RowKit
theorem i3L_setN : ∀ (L : List I3) (i : Nat) (n : Int) (x : I3), L[i]? = some x → i3L (L.set i (x.1, x.2.1, n)) = (i3L L).set (i * 3 + 2) (.int .i64 n)
  | [], i, n, x, h => by simp at h
  | y :: L, 0, n, x, h => by
    simp at h
    subst h
    rfl
  | y :: L, i + 1, n, x, h => by
    simp at h
    have ih := i3L_setN L i n x h
    have hl : (i3V y).length = 3 := rfl
    rw [List.set_cons_succ]
    show i3V y ++ i3L (L.set i (x.1, x.2.1, n)) = (i3V y ++ i3L L).set ((i + 1) * 3 + 2) (.int .i64 n)
    rw [ih, List.set_append_right _ _ (by rw [hl]; omega), hl, show (i + 1) * 3 + 2 - 3 = i * 3 + 2 by omega]
theorem IR.setN {w : World} {base g c : Nat} {L : List I3} (h : IR w base g c L) {i : Nat} (hi : i < L.length) (n : Int) :
    ∃ L', L'.length = L.length ∧ ((∀ x ∈ L, x.2.1.length ≤ 5000) → ∀ x ∈ L', x.2.1.length ≤ 5000) ∧ IR (w.setCell ⟨g, i * 3 + 2, none⟩ (.int .i64 n)) base g c L' := by
  have hx : L[i]? = some L[i] := List.getElem?_eq_getElem hi
  refine ⟨L.set i (L[i].1, L[i].2.1, n), List.length_set, fun hT x hm => ?_, ?_⟩
  · rcases List.mem_or_eq_of_mem_set hm with h1 | h1
    · exact hT x h1
    · rw [h1]
      exact hT L[i] (List.getElem_mem hi)
  · unfold IR
    rw [List.length_set, i3L_setN L i n L[i] hx]
    refine ⟨by rw [List.length_set]; exact h.1, ?_⟩
    rcases h.2 with ⟨hv, h0⟩ | ⟨g', cap, cur, hv, hb, hg, h1, h2, h3, h4⟩
    · simp at hv
    · simp only [Value.slice.injEq, Option.some.injEq, Addr.mk.injEq] at hv
      obtain ⟨⟨rfl, -⟩, -, rfl⟩ := hv
      refine .inr ⟨g, c, cur.setIfInBounds (i * 3 + 2) (.int .i64 n), rfl, hb, ?_, h1, h2, by simpa using h3, ?_⟩
      · simp [World.setCell, Array.getElem?_modify, hg]
      · rw [Array.toList_setIfInBounds, List.take_set, h4]
theorem IR.cellN {w : World} {base g c : Nat} {L : List I3} (h : IR w base g c L) {i : Nat} (hi : i < L.length) : (∃ v, w.cell? ⟨g, i * 3 + 2, none⟩ = some (.int .i64 v)) ∧ w.frozen? ⟨g, i * 3 + 2, none⟩ = false := by
  have hx : L[i]? = some L[i] := List.getElem?_eq_getElem hi
  have key : ∀ (L : List I3) (i : Nat) (x : I3), L[i]? = some x → (i3L L)[i * 3 + 2]? = some (.int .i64 x.2.2) := by
    intro L
    induction L with
    | nil => intro i x h; simp at h
    | cons y L ih =>
      intro i x h
      cases i with
      | zero => simp at h; subst h; rfl
      | succ i =>
        simp at h
        have hl : (i3V y).length = 3 := rfl
        show (i3V y ++ i3L L)[(i + 1) * 3 + 2]? = _
        rw [List.getElem?_append_right (by rw [hl]; omega), hl, show (i + 1) * 3 + 2 - 3 = i * 3 + 2 by omega]
        exact ih i x h
  have hc := World.ownsRow.cells h (g := g) rfl _ _ (key L i L[i] hx)
  rw [addr_addF, Nat.zero_add] at hc
  refine ⟨⟨_, hc⟩, ?_⟩
  rcases h.2 with ⟨hv, _⟩ | ⟨g', cap, cur, hv, _, hg, _⟩
  · simp at hv
  · simp only [Value.slice.injEq, Option.some.injEq, Addr.mk.injEq] at hv
    obtain ⟨⟨rfl, -⟩, -, rfl⟩ := hv
    exact Lib.frozen_of_heap hg _
end Go.Proofs.YtkophfgkcijjkaaGreatDoor.Vp
