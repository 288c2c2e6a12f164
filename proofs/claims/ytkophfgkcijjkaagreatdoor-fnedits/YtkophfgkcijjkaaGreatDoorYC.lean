import Derived.Test.YtkophfgkcijjkaaGreatDoorYB
import Derived.Deep.WholeRow
namespace Go.Proofs.YtkophfgkcijjkaaGreatDoor.Vp
open Go.RowKit
def m0 : Mst := { S := fun _ => ⟨#[]⟩, size := 0, place := 0, steps := 0, looks := 0, t := noTurn }
def mach0 (cv : Value) : Array Value := (Array.range 61).map (m0.F cv)
theorem built0 (a : Option Addr) (n cap : Nat) : Tryz.prog.built 147 [(1, .slice a n cap)] = some (mach0 (.slice a n cap)) := by kernel_rfl
theorem infoM : (Tryz.prog.info? 147).map (·.size) = some 61 := by kernel_rfl
theorem mach0_size (cv : Value) : (mach0 cv).size = 61 := by simp [mach0]
theorem mach0_at (cv : Value) (j : Nat) (h : j < 61) : (mach0 cv)[j]? = some (m0.F cv j) := by simp [mach0, h]
theorem mach0_one (a : Option Addr) (n cap : Nat) : (mach0 (.slice a n cap)).all (·.oneCell') = true := by kernel_rfl
theorem mach0_is (w : World) (a : Option Addr) (n cap : Nat) : MAt (w.alloc (.cells (mach0 (.slice a n cap)) 147)) w.heap.size (.slice a n cap) m0 := by
  refine ⟨by simp, fun j hj => ⟨?_, ?_⟩⟩
  · rw [World.cell?_alloc_new]
    exact mach0_at _ j hj
  · simp
theorem build_is {P : Program} {ops : Array Oper} {rest : List Oper} {o : Oper} {a : Act} {w : World} {Q : Exit → Act → World → Prop} (hg : o.guard = none) (t : TypeId) (parts : Array (Nat × Operand)) (ho : o.op = .build t parts)
    (l : List (Nat × Value)) (cells : Array Value) (hl : (parts.map fun (i, x) => (i, a.eval x)).toList = l) (hb : P.built t l = some cells) (h : wpList P ops Q rest (a.put o.dst (.agg cells)) w) : wpList P ops Q (o :: rest) a w := by
  refine wpList_build hg t parts ho (by rw [hl, hb]; rfl) ?_
  rw [hl, hb]
  exact h
end Go.Proofs.YtkophfgkcijjkaaGreatDoor.Vp
namespace Go.Proofs.YtkophfgkcijjkaaGreatDoor.Vp
open Go.RowKit
theorem Pow.lt {w : World} (h : Pow w) : 2 < w.heap.size := by
  have hc := World.var?_cell gPow h 0
  rcases Nat.lt_or_ge 2 w.heap.size with h' | h'
  · exact h'
  · simp [World.cell?, Array.getElem?_eq_none h', Lib.pow10Tab] at hc
theorem Sim.push {m : Mst} {p st l : Nat} {s : List ByteArray} (hS : Sim m p st l s) (x : ByteArray) (hx : x.size ≤ 2000) (hl : s.length < 50) : Sim { m with t := noTurn, S := upd m.S m.size x, size := m.size + 1 } p st l (x :: s) :=
  ⟨by rw [hS.size]; exact hS.rep.push x, by simp [hS.size], by simp; omega, hS.hpl, hS.hst, hS.hlk, fun z hz => by
    rcases List.mem_cons.1 hz with rfl | hz
    · exact hx
    · exact hS.le z hz, hS.pl, hS.st, hS.lk⟩
theorem flagT_size (b : Bool) : (flagT b).size ≤ 2000 := by cases b <;> decide
def Six (w : World) (g : Nat) : Prop := g < w.heap.size ∧ ∀ j, j < 6 → ∃ v, w.cell? ⟨g, j, none⟩ = some v ∧ w.frozen? ⟨g, j, none⟩ = false
theorem Six.below {w w1 : World} {g B : Nat} (h : Six w g) (hB : Below B w w1) (hg : g < B) : Six w1 g := ⟨Nat.lt_of_lt_of_le h.1 hB.size, fun j hj => by
  obtain ⟨v, h1, h2⟩ := h.2 j hj
  exact ⟨v, (hB.cell (p := ⟨g, j, none⟩) hg).trans h1, (hB.frozen (p := ⟨g, j, none⟩) hg).trans h2⟩⟩
theorem Six.only {w w1 : World} {g b : Nat} (h : Six w g) (hB : Only b w w1) (hg : g ≠ b) : Six w1 g := ⟨Nat.lt_of_lt_of_le h.1 hB.size, fun j hj => by
  obtain ⟨v, h1, h2⟩ := h.2 j hj
  exact ⟨v, (hB.cell g j h.1 hg).trans h1, (hB.frozen g j h.1 hg).trans h2⟩⟩
theorem six_new (w : World) (v0 v1 v2 v3 v4 v5 : Value) (t : TypeId) : Six (w.alloc (.cells #[v0, v1, v2, v3, v4, v5] t)) w.heap.size := ⟨by simp, fun j hj => by
  rcases (show j = 0 ∨ j = 1 ∨ j = 2 ∨ j = 3 ∨ j = 4 ∨ j = 5 by omega) with rfl | rfl | rfl | rfl | rfl | rfl
  all_goals exact ⟨_, by simp; rfl, by simp⟩⟩
def Goes (f : Nat → Ins) (cnt : Nat) (m : Mst) (H : Halt) : Prop := (m.t = noTurn ∧ ∃ p k l s, Sim m p k l s ∧ runP f cnt (2001 - k) p k l s = some H) ∨ Stands m H
end Go.Proofs.YtkophfgkcijjkaaGreatDoor.Vp
namespace Go.Proofs.YtkophfgkcijjkaaGreatDoor.Vp
open Go.RowKit
theorem goes_all {f : Nat → Ins} {cnt : Nat} {m : Mst} {p st l : Nat} {s : List ByteArray} (ht : m.t = noTurn) (hS : Sim m p st l s) : ∃ H, Goes f cnt m H ∧ looksOf l H ∧ ∀ y n, contP f cnt y n H = nextP f cnt y n (2001 - st) p st l s := by
  obtain ⟨H, hH⟩ := runP_some f cnt (2001 - st) p st l s hS.st (by have := hS.st; omega)
  exact ⟨H, .inl ⟨ht, p, st, l, s, hS, hH⟩, (next_run f cnt (fun _ => ⟨false, 0, ⟨#[]⟩⟩) 0 _ p st l s H hS.st rfl hH).2, fun y n => (next_run f cnt y n _ p st l s H hS.st rfl hH).1.symm⟩
theorem answer_step (b : Nat) (cv : Value) (f : Nat → Ins) (cnt : Nat) (m : Mst) (a : Bool) (nm : ByteArray) (s : List ByteArray) (p st l : Nat) (r : Reply) (w : World) (hM : MAt w b cv m) (hSt : Stands m (.inr (a, nm, s, p, st, l))) (hl : 1 ≤ l) (hr : r.text.size ≤ 2000) :
    Calls Tryz.prog 107 #[.pointer (some ⟨b, 0, none⟩), .agg #[.bool r.has, .int .i64 r.code, .string r.text]] w fun e w' => e = .returned (.tuple #[]) ∧ ∃ m' H', MAt w' b cv m' ∧ Goes f cnt m' H' ∧ looksOf l H' ∧ (∀ y n, l ≤ n → y (l - 1) = r → contP f cnt y n (.inr (a, nm, s, p, st, l)) = contP f cnt y n H') ∧ Only b w w' := by
  obtain ⟨ht, hS, hnm, hs⟩ := hSt
  have ha : m.t.ask = a := by rw [ht]
  have hn2 : m.t.name = nm := by rw [ht]
  have hz : m.size < 50 := by rw [hS.size]; exact hs
  cases a with
  | false =>
    refine (answer_has b cv m r.has r.code r.text w hM ha hz).mono ?_
    rintro e w' ⟨rfl, hM', hO⟩
    obtain ⟨H', g1, g2, g3⟩ := goes_all (f := f) (cnt := cnt) (m := { m with t := noTurn, S := upd m.S m.size (flagT r.has), size := m.size + 1 }) rfl (hS.push (flagT r.has) (flagT_size _) hs)
    refine ⟨rfl, _, H', hM', g1, g2, fun y n hn hy => ?_, hO⟩
    rw [g3 y n]
    simp only [contP, hy]
    rw [if_neg (by omega), if_pos trivial]
  | true =>
    by_cases h1 : r.has = false
    · rw [h1]
      refine (answer_missing b cv m r.code r.text w hM ha).mono ?_
      rintro e w' ⟨rfl, hM', hO⟩
      refine ⟨rfl, _, .inl (4, nm, st), hM', .inr ?_, trivial, fun y n hn hy => ?_, hO⟩
      · show ansT m 4 = _
        simp only [ansT, hn2, hS.hst]
      · simp only [contP, hy]
        rw [if_neg (by omega)]
        simp [h1]
    · have h1' : r.has = true := by simpa using h1
      by_cases h2 : r.code = 0
      · rw [h1', h2]
        refine (answer_ask b cv m r.text w hM ha hz).mono ?_
        rintro e w' ⟨rfl, hM', hO⟩
        obtain ⟨H', g1, g2, g3⟩ := goes_all (f := f) (cnt := cnt) (m := { m with t := noTurn, S := upd m.S m.size r.text, size := m.size + 1 }) rfl (hS.push r.text hr hs)
        refine ⟨rfl, _, H', hM', g1, g2, fun y n hn hy => ?_, hO⟩
        rw [g3 y n]
        simp only [contP, hy]
        rw [if_neg (by omega)]
        simp [h1', h2]
      · rw [h1']
        refine (answer_below b cv m r.code r.text w hM ha (by simpa using h2)).mono ?_
        rintro e w' ⟨rfl, hM', hO⟩
        refine ⟨rfl, _, .inl (5, nm, st), hM', .inr ?_, trivial, fun y n hn hy => ?_, hO⟩
        · show ansT m 5 = _
          simp only [ansT, hn2, hS.hst]
        · simp only [contP, hy]
          rw [if_neg (by omega)]
          simp [h1', h2]
set_option maxRecDepth 100000 in
set_option maxHeartbeats 4000000 in
theorem goOn_start (b pb po cnt cap : Nat) (f : Nat → Ins) (m : Mst) (H : Halt) (r : Reply) (w : World) (hM : MAt w b (.slice (some ⟨pb, po, none⟩) cnt cap) m) (hE : Env w b pb po cnt f) (hn : m.t.name = ⟨#[]⟩) (hc : cnt ≤ 200) (hok : okTo f cnt = true) (hG : Goes f cnt m H) :
    Calls Tryz.prog 272 #[.agg #[.bool r.has, .int .i64 r.code, .string r.text], .pointer (some ⟨b, 0, none⟩)] w fun e w' => ∃ m', e = .returned m'.t.v ∧ MAt w' b (.slice (some ⟨pb, po, none⟩) cnt cap) m' ∧ Stands m' H ∧ Only b w w' := by
  have hlt := hM.lt
  have HM0 := hide ((hM.al (.cells #[.bool r.has, .int .i64 r.code, .string r.text] 75)).al (.cells #[.bool false, .int .i64 0, .string ⟨#[]⟩, .bool false, .string ⟨#[]⟩, .int .i64 0] 70))
  have HO0 := hide (((Only.refl b w).al (.cells #[.bool r.has, .int .i64 r.code, .string r.text] 75)).al (.cells #[.bool false, .int .i64 0, .string ⟨#[]⟩, .bool false, .string ⟨#[]⟩, .int .i64 0] 70))
  have hx0 := six_new (w.alloc (.cells #[.bool r.has, .int .i64 r.code, .string r.text] 75)) (.bool false) (.int .i64 0) (.string ⟨#[]⟩) (.bool false) (.string ⟨#[]⟩) (.int .i64 0) 70
  rw [show (w.alloc (.cells #[.bool r.has, .int .i64 r.code, .string r.text] 75)).heap.size = w.heap.size + 1 by simp] at hx0
  have X0 := hide hx0
  have HE := hide hE
  have HG := hide hG
  obtain ⟨⟨c5, z5⟩, ⟨c6, z6⟩, ⟨c7, z7⟩, ⟨c8, z8⟩, ⟨c9, z9⟩, c10, z10⟩ := HM0.out.turn
  rw [hn] at c9
  clear hM hE hG hx0 c5 z5 c6 z6 c7 z7 c8 z8 z9 c10 z10
  go_enter Tryz.func272, Tryz.ntmps272
  go_wp2_with fail
  clear c9
  generalize ((w.alloc (.cells #[.bool r.has, .int .i64 r.code, .string r.text] 75)).alloc (.cells #[.bool false, .int .i64 0, .string ⟨#[]⟩, .bool false, .string ⟨#[]⟩, .int .i64 0] 70)) = W0 at HM0 HO0 X0 ⊢
  have hb0 : b < W0.heap.size := HM0.out.lt
  refine (run_all b pb po cnt cap f m H _ HM0.out (HE.out.only hlt HO0.out) hc hok HG.out).mono ?_
  rintro e w3 ⟨m2, rfl, hM2, hSt, hO2⟩
  have HO3 := hide hO2
  clear hO2
  have HX := hide (X0.out.only HO3.out (by omega))
  have hx3 : w.heap.size + 1 < w3.heap.size := HX.out.1
  have HMM := hide hM2
  have HSS := hide hSt
  have HOO := hide (HO0.out.trans HO3.out)
  clear hM2 hSt
  obtain ⟨v0, q0, y0⟩ := HX.out.2 0 (by omega)
  obtain ⟨v1, q1, y1⟩ := HX.out.2 1 (by omega)
  obtain ⟨v2, q2, y2⟩ := HX.out.2 2 (by omega)
  obtain ⟨v3, q3, y3⟩ := HX.out.2 3 (by omega)
  obtain ⟨v4, q4, y4⟩ := HX.out.2 4 (by omega)
  obtain ⟨v5, q5, y5⟩ := HX.out.2 5 (by omega)
  have hne : w.heap.size + 1 ≠ b := by omega
  have MM := hide ((((((HMM.out.other (w.heap.size + 1) 0 (.bool m2.t.over) hne).other (w.heap.size + 1) 1 (.int .i64 m2.t.code) hne).other (w.heap.size + 1) 2 (.string m2.t.text) hne).other (w.heap.size + 1) 3 (.bool m2.t.ask) hne).other (w.heap.size + 1) 4 (.string m2.t.name) hne).other (w.heap.size + 1) 5 (.int .i64 m2.t.steps) hne)
  have OO := hide ((((((HOO.out.setNew (w.heap.size + 1) 0 (.bool m2.t.over) (by omega)).setNew (w.heap.size + 1) 1 (.int .i64 m2.t.code) (by omega)).setNew (w.heap.size + 1) 2 (.string m2.t.text) (by omega)).setNew (w.heap.size + 1) 3 (.bool m2.t.ask) (by omega)).setNew (w.heap.size + 1) 4 (.string m2.t.name) (by omega)).setNew (w.heap.size + 1) 5 (.int .i64 m2.t.steps) (by omega))
  simp only [Turn.v]
  go_wp2
  exact bodyPost_ret (v := m2.t.v) (by simp [results, Tryz.results272, go_sem, Turn.v, q0, q1, q2, q3, q4, q5]) rfl ⟨m2, rfl, MM.out, HSS.out, OO.out⟩
set_option maxRecDepth 100000 in
set_option maxHeartbeats 4000000 in
theorem goOn_look (b pb po cnt cap : Nat) (f : Nat → Ins) (m : Mst) (a : Bool) (nm : ByteArray) (s : List ByteArray) (p st l : Nat) (r : Reply) (w : World) (hM : MAt w b (.slice (some ⟨pb, po, none⟩) cnt cap) m) (hE : Env w b pb po cnt f) (hS : Stands m (.inr (a, nm, s, p, st, l))) (hl : 1 ≤ l) (hr : r.text.size ≤ 2000) (hc : cnt ≤ 200) (hok : okTo f cnt = true) :
    Calls Tryz.prog 272 #[.agg #[.bool r.has, .int .i64 r.code, .string r.text], .pointer (some ⟨b, 0, none⟩)] w fun e w' => ∃ m' H', e = .returned m'.t.v ∧ MAt w' b (.slice (some ⟨pb, po, none⟩) cnt cap) m' ∧ Stands m' H' ∧ looksOf l H' ∧ (∀ y n, l ≤ n → y (l - 1) = r → contP f cnt y n (.inr (a, nm, s, p, st, l)) = contP f cnt y n H') ∧ Only b w w' := by
  have hlt := hM.lt
  have HM0 := hide ((hM.al (.cells #[.bool r.has, .int .i64 r.code, .string r.text] 75)).al (.cells #[.bool false, .int .i64 0, .string ⟨#[]⟩, .bool false, .string ⟨#[]⟩, .int .i64 0] 70))
  have HO0 := hide (((Only.refl b w).al (.cells #[.bool r.has, .int .i64 r.code, .string r.text] 75)).al (.cells #[.bool false, .int .i64 0, .string ⟨#[]⟩, .bool false, .string ⟨#[]⟩, .int .i64 0] 70))
  have hx0 := six_new (w.alloc (.cells #[.bool r.has, .int .i64 r.code, .string r.text] 75)) (.bool false) (.int .i64 0) (.string ⟨#[]⟩) (.bool false) (.string ⟨#[]⟩) (.int .i64 0) 70
  rw [show (w.alloc (.cells #[.bool r.has, .int .i64 r.code, .string r.text] 75)).heap.size = w.heap.size + 1 by simp] at hx0
  have X0 := hide hx0
  have HE := hide hE
  have HS := hide hS
  have hnm : m.t.name = nm := by have := hS.1; rw [this]
  have hne : nm.toList.isEmpty = false := by
    have hn := hS.2.2.1
    have h0 : ¬ nm.size = 0 := by
      simp only [nameOk, Bool.and_eq_true, decide_eq_true_eq] at hn
      omega
    have := toList_ne h0
    cases h : nm.toList with
    | nil => exact absurd h this
    | cons _ _ => rfl
  obtain ⟨⟨c5, z5⟩, ⟨c6, z6⟩, ⟨c7, z7⟩, ⟨c8, z8⟩, ⟨c9, z9⟩, c10, z10⟩ := HM0.out.turn
  rw [hnm] at c9
  clear hM hE hS hx0 hnm c5 z5 c6 z6 c7 z7 c8 z8 z9 c10 z10
  go_enter Tryz.func272, Tryz.ntmps272
  go_wp2_with fail
  clear c9 hne
  generalize ((w.alloc (.cells #[.bool r.has, .int .i64 r.code, .string r.text] 75)).alloc (.cells #[.bool false, .int .i64 0, .string ⟨#[]⟩, .bool false, .string ⟨#[]⟩, .int .i64 0] 70)) = W0 at HM0 HO0 X0 ⊢
  have hb0 : b < W0.heap.size := HM0.out.lt
  refine (answer_step b (.slice (some ⟨pb, po, none⟩) cnt cap) f cnt m a nm s p st l r _ HM0.out HS.out hl hr).mono ?_
  rintro e w1 ⟨rfl, m1, H', hM1, hG1, hL1, hC1, hO1⟩
  have HM1 := hide hM1
  have HG1 := hide hG1
  have HL1 := hide hL1
  have HC1 := hide hC1
  have HO1 := hide hO1
  clear hM1 hG1 hL1 hC1 hO1
  go_wp2_with fail
  refine (run_all b pb po cnt cap f m1 H' _ HM1.out (HE.out.only hlt (HO0.out.trans HO1.out)) hc hok HG1.out).mono ?_
  rintro e w3 ⟨m2, rfl, hM2, hSt, hO2⟩
  have HO3 := hide (HO1.out.trans hO2)
  clear hO2
  have HX := hide (X0.out.only HO3.out (by omega))
  have hx3 : w.heap.size + 1 < w3.heap.size := HX.out.1
  have HMM := hide hM2
  have HSS := hide hSt
  have HOO := hide (HO0.out.trans HO3.out)
  clear hM2 hSt
  obtain ⟨v0, q0, y0⟩ := HX.out.2 0 (by omega)
  obtain ⟨v1, q1, y1⟩ := HX.out.2 1 (by omega)
  obtain ⟨v2, q2, y2⟩ := HX.out.2 2 (by omega)
  obtain ⟨v3, q3, y3⟩ := HX.out.2 3 (by omega)
  obtain ⟨v4, q4, y4⟩ := HX.out.2 4 (by omega)
  obtain ⟨v5, q5, y5⟩ := HX.out.2 5 (by omega)
  have hne : w.heap.size + 1 ≠ b := by omega
  have MM := hide ((((((HMM.out.other (w.heap.size + 1) 0 (.bool m2.t.over) hne).other (w.heap.size + 1) 1 (.int .i64 m2.t.code) hne).other (w.heap.size + 1) 2 (.string m2.t.text) hne).other (w.heap.size + 1) 3 (.bool m2.t.ask) hne).other (w.heap.size + 1) 4 (.string m2.t.name) hne).other (w.heap.size + 1) 5 (.int .i64 m2.t.steps) hne)
  have OO := hide ((((((HOO.out.setNew (w.heap.size + 1) 0 (.bool m2.t.over) (by omega)).setNew (w.heap.size + 1) 1 (.int .i64 m2.t.code) (by omega)).setNew (w.heap.size + 1) 2 (.string m2.t.text) (by omega)).setNew (w.heap.size + 1) 3 (.bool m2.t.ask) (by omega)).setNew (w.heap.size + 1) 4 (.string m2.t.name) (by omega)).setNew (w.heap.size + 1) 5 (.int .i64 m2.t.steps) (by omega))
  simp only [Turn.v]
  go_wp2
  exact bodyPost_ret (v := m2.t.v) (by simp [results, Tryz.results272, go_sem, Turn.v, q0, q1, q2, q3, q4, q5]) rfl ⟨m2, H', rfl, MM.out, HSS.out, HL1.out, HC1.out, OO.out⟩
end Go.Proofs.YtkophfgkcijjkaaGreatDoor.Vp
namespace Go.Proofs.YtkophfgkcijjkaaGreatDoor.Vp
open Go.RowKit
theorem stands_turn {f : Nat → Ins} {cnt i : Nat} {y : Nat → Reply} {m : Mst} {H : Halt} (hS : Stands m H) (hL : looksOf i H) : contP f cnt y i H = m.t := by
  rcases H with ⟨c, x, k⟩ | ⟨a, nm, s, p, k, l⟩
  · exact (show m.t = ⟨true, c, x, false, ⟨#[]⟩, k⟩ from hS).symm
  · have el : l = i + 1 := hL
    subst el
    simp only [contP, Nat.add_sub_cancel]
    rw [if_pos (Nat.le_refl _)]
    exact hS.1.symm
theorem stands_look {m : Mst} {H : Halt} (hS : Stands m H) (ho : m.t.over = false) : ∃ a nm s p k l, H = .inr (a, nm, s, p, k, l) := by
  rcases H with ⟨c, x, k⟩ | ⟨a, nm, s, p, k, l⟩
  · have : m.t = ⟨true, c, x, false, ⟨#[]⟩, k⟩ := hS
    rw [this] at ho
    simp at ho
  · exact ⟨a, nm, s, p, k, l, rfl⟩
def TurnBox (w : World) (g : Nat) (t : Turn) : Prop := g < w.heap.size ∧ (w.cell? ⟨g, 0, none⟩ = some (.bool t.over) ∧ w.cell? ⟨g, 1, none⟩ = some (.int .i64 t.code) ∧ w.cell? ⟨g, 2, none⟩ = some (.string t.text) ∧ w.cell? ⟨g, 3, none⟩ = some (.bool t.ask) ∧ w.cell? ⟨g, 4, none⟩ = some (.string t.name) ∧ w.cell? ⟨g, 5, none⟩ = some (.int .i64 t.steps)) ∧ ∀ j, w.frozen? ⟨g, j, none⟩ = false
theorem TurnBox.below {w w' : World} {g B : Nat} {t : Turn} (h : TurnBox w g t) (hb : Below B w w') (hB : g < B) : TurnBox w' g t := by
  obtain ⟨h1, ⟨c0, c1, c2, c3, c4, c5⟩, hz⟩ := h
  exact ⟨Nat.lt_of_lt_of_le h1 hb.size, ⟨(hb.cell (p := ⟨g, _, none⟩) hB).trans c0, (hb.cell (p := ⟨g, _, none⟩) hB).trans c1, (hb.cell (p := ⟨g, _, none⟩) hB).trans c2, (hb.cell (p := ⟨g, _, none⟩) hB).trans c3, (hb.cell (p := ⟨g, _, none⟩) hB).trans c4, (hb.cell (p := ⟨g, _, none⟩) hB).trans c5⟩, fun j => (hb.frozen (p := ⟨g, j, none⟩) hB).trans (hz j)⟩
theorem TurnBox.only {w w' : World} {g b : Nat} {t : Turn} (h : TurnBox w g t) (ho : Only b w w') (hg : g ≠ b) : TurnBox w' g t := by
  obtain ⟨h1, ⟨c0, c1, c2, c3, c4, c5⟩, hz⟩ := h
  exact ⟨Nat.lt_of_lt_of_le h1 ho.size, ⟨(ho.cell g _ h1 hg).trans c0, (ho.cell g _ h1 hg).trans c1, (ho.cell g _ h1 hg).trans c2, (ho.cell g _ h1 hg).trans c3, (ho.cell g _ h1 hg).trans c4, (ho.cell g _ h1 hg).trans c5⟩, fun j => (ho.frozen g j h1 hg).trans (hz j)⟩
theorem TurnBox.six {w : World} {g : Nat} {t : Turn} (h : TurnBox w g t) : Six w g := by
  obtain ⟨h1, ⟨c0, c1, c2, c3, c4, c5⟩, hz⟩ := h
  refine ⟨h1, fun j hj => ?_⟩
  rcases (show j = 0 ∨ j = 1 ∨ j = 2 ∨ j = 3 ∨ j = 4 ∨ j = 5 by omega) with rfl | rfl | rfl | rfl | rfl | rfl
  · exact ⟨_, c0, hz _⟩
  · exact ⟨_, c1, hz _⟩
  · exact ⟨_, c2, hz _⟩
  · exact ⟨_, c3, hz _⟩
  · exact ⟨_, c4, hz _⟩
  · exact ⟨_, c5, hz _⟩
def putTurn (w : World) (g : Nat) (t : Turn) : World := (((((w.setCell ⟨g, 0, none⟩ (.bool t.over)).setCell ⟨g, 1, none⟩ (.int .i64 t.code)).setCell ⟨g, 2, none⟩ (.string t.text)).setCell ⟨g, 3, none⟩ (.bool t.ask)).setCell ⟨g, 4, none⟩ (.string t.name)).setCell ⟨g, 5, none⟩ (.int .i64 t.steps)
theorem set_only {w : World} {g : Nat} (t : Turn) : Only g w (putTurn w g t) := bset (bset (bset (bset (bset (bset (Only.refl g w) 0 _) 1 _) 2 _) 3 _) 4 _) 5 _
theorem MAt.boxed {w : World} {b : Nat} {cv : Value} {m : Mst} (h : MAt w b cv m) {g : Nat} (hg : g ≠ b) (t : Turn) : MAt (putTurn w g t) b cv m :=
  (((((h.other g 0 (.bool t.over) hg).other g 1 (.int .i64 t.code) hg).other g 2 (.string t.text) hg).other g 3 (.bool t.ask) hg).other g 4 (.string t.name) hg).other g 5 (.int .i64 t.steps) hg
end Go.Proofs.YtkophfgkcijjkaaGreatDoor.Vp
