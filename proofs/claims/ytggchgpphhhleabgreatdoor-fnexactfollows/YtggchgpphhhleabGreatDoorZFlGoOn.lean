/-
  impl: a run that goes on: begin, its closure.
-/
import Derived.Test.YtggchgpphhhleabGreatDoorZQ
namespace Go.Proofs.YtggchgpphhhleabGreatDoor.Vp
open Go.RowKit

theorem goes_all {f : Nat → Ins} {cnt : Nat} {m : Mst} {p st l : Nat} {s : List ByteArray} (ht : m.t = noTurn) (hS : Sim m p st l s) : ∃ H, Goes f cnt m H ∧ looksOf l H ∧ ∀ y n, contP f cnt y n H = nextP f cnt y n (2001 - st) p st l s := by
  obtain ⟨H, hH⟩ := runP_some f cnt (2001 - st) p st l s hS.st (by have := hS.st; omega)
  exact ⟨H, .inl ⟨ht, p, st, l, s, hS, hH⟩, (next_run f cnt (fun _ => ⟨false, 0, ⟨#[]⟩⟩) 0 _ p st l s H hS.st rfl hH).2, fun y n => (next_run f cnt y n _ p st l s H hS.st rfl hH).1.symm⟩

theorem answer_step (b : Nat) (cv : Value) (f : Nat → Ins) (cnt : Nat) (m : Mst) (a : Bool) (nm : ByteArray) (s : List ByteArray) (p st l : Nat) (r : Reply) (w : World) (hM : MAt w b cv m) (hSt : Stands m (.look a nm s p st l)) (hl : 1 ≤ l) (hr : r.text.size ≤ 2000) :
    Calls Tryz.prog 208 #[.pointer (some ⟨b, 0, none⟩), .agg #[.bool r.has, .int .i64 r.code, .string r.text]] w fun e w' => e = .returned (.tuple #[]) ∧ ∃ m' H', MAt w' b cv m' ∧ Goes f cnt m' H' ∧ looksOf l H' ∧ (∀ y n, l ≤ n → y (l - 1) = r → contP f cnt y n (.look a nm s p st l) = contP f cnt y n H') ∧ Only b w w' := by
  obtain ⟨ht, hS, hnm, hs⟩ := hSt
  have ha : m.t.ask = a := by rw [ht]
  have hn2 : m.t.name = nm := by rw [ht]
  have hz : m.size < 50 := by rw [hS.size]; exact hs
  cases a with
  | false =>
    refine (answer_has b cv m r.has r.code r.text w hM ha hz).mono ?_
    rintro e w' ⟨rfl, hM', hO⟩
    obtain ⟨H', g1, g2, g3⟩ := goes_all (f := f) (cnt := cnt) (m := { m with t := noTurn, S := upd m.S m.size (flagT r.has), size := m.size + 1 }) rfl (hS.push (flagT r.has) (flagT_size _) hs)
    refine ⟨rfl, _, H', hM', g1, g2, fun y n hn hy => ?_, hO⟩
    rw [g3 y n]
    simp only [contP, hy]
    rw [if_neg (by omega), if_pos trivial]
  | true =>
    by_cases h1 : r.has = false
    · rw [h1]
      refine (answer_missing b cv m r.code r.text w hM ha).mono ?_
      rintro e w' ⟨rfl, hM', hO⟩
      refine ⟨rfl, _, .over 4 nm st, hM', .inr ?_, trivial, fun y n hn hy => ?_, hO⟩
      · show ansT m 4 = _
        simp only [ansT, hn2, hS.hst]
      · simp only [contP, hy]
        rw [if_neg (by omega)]
        simp [h1]
    · have h1' : r.has = true := by simpa using h1
      by_cases h2 : r.code = 0
      · rw [h1', h2]
        refine (answer_ask b cv m r.text w hM ha hz).mono ?_
        rintro e w' ⟨rfl, hM', hO⟩
        obtain ⟨H', g1, g2, g3⟩ := goes_all (f := f) (cnt := cnt) (m := { m with t := noTurn, S := upd m.S m.size r.text, size := m.size + 1 }) rfl (hS.push r.text hr hs)
        refine ⟨rfl, _, H', hM', g1, g2, fun y n hn hy => ?_, hO⟩
        rw [g3 y n]
        simp only [contP, hy]
        rw [if_neg (by omega)]
        simp [h1', h2]
      · rw [h1']
        refine (answer_below b cv m r.code r.text w hM ha (by simpa using h2)).mono ?_
        rintro e w' ⟨rfl, hM', hO⟩
        refine ⟨rfl, _, .over 5 nm st, hM', .inr ?_, trivial, fun y n hn hy => ?_, hO⟩
        · show ansT m 5 = _
          simp only [ansT, hn2, hS.hst]
        · simp only [contP, hy]
          rw [if_neg (by omega)]
          simp [h1', h2]

set_option maxRecDepth 100000 in
set_option maxHeartbeats 4000000 in
theorem begin_any (pb po cnt cap : Nat) (w : World) :
    Calls Tryz.prog 144 #[.agg #[.slice (some ⟨pb, po, none⟩) cnt cap]] w fun e w' => ∃ b, e = .returned (.func (.func 207) #[] #[.pointer (some ⟨b, 0, none⟩)]) ∧ w.heap.size ≤ b ∧ MAt w' b (.slice (some ⟨pb, po, none⟩) cnt cap) m0 ∧ Below w.heap.size w w' := by
  have A0 := hide ((Below.refl w.heap.size w).alloc (Nat.le_refl _) (.cells #[.slice (some ⟨pb, po, none⟩) cnt cap] 58))
  have k0 : (w.alloc (.cells #[.slice (some ⟨pb, po, none⟩) cnt cap] 58)).cell? ⟨w.heap.size, 0, none⟩ = some (.slice (some ⟨pb, po, none⟩) cnt cap) := by simp
  have z0 : (w.alloc (.cells #[.slice (some ⟨pb, po, none⟩) cnt cap] 58)).heap.size = w.heap.size + 1 := by simp
  have HM0 := hide (mach0_is (w.alloc (.cells #[.slice (some ⟨pb, po, none⟩) cnt cap] 58)) (some ⟨pb, po, none⟩) cnt cap)
  have HM1 := hide (by have := HM0.out; rw [z0] at this; exact this)
  have A1 := hide (A0.out.alloc A0.out.size (.cells (mach0 (.slice (some ⟨pb, po, none⟩) cnt cap)) 283))
  go_enter Tryz.func144, Tryz.ntmps144
  go_wp2_with (first
    | (refine build_is rfl 283 #[(1, .tmp 5)] rfl [(1, .slice (some ⟨pb, po, none⟩) cnt cap)] (mach0 (.slice (some ⟨pb, po, none⟩) cnt cap)) (by simp [Act.eval]) (built0 _ _ _) ?_)
    | (refine wpList_store_row rfl 283 (.tmp 3) (.tmp 6) rfl (w.heap.size + 1) (mach0 (.slice (some ⟨pb, po, none⟩) cnt cap)) rfl rfl _ _ (by rw [← z0]; exact heap_alloc_last _ _) (infoM.trans (by rw [mach0_size])) (by rw [mach0_size]; rfl) (mach0_one _ _ _) ?_; rw [← z0, World.setRow_alloc_new])
    | fail)
  go_ret
  exact ⟨_, rfl, by first | (simp; done) | (simp; omega), HM1.out, A1.out⟩

set_option maxRecDepth 100000 in
set_option maxHeartbeats 4000000 in
theorem goOn_start (b pb po cnt cap : Nat) (f : Nat → Ins) (m : Mst) (H : Halt) (r : Reply) (w : World) (hM : MAt w b (.slice (some ⟨pb, po, none⟩) cnt cap) m) (hE : Env w b pb po cnt f) (hn : m.t.name = ⟨#[]⟩) (hc : cnt ≤ 200) (hok : okTo f cnt = true) (hG : Goes f cnt m H) :
    Calls Tryz.prog 207 #[.agg #[.bool r.has, .int .i64 r.code, .string r.text], .pointer (some ⟨b, 0, none⟩)] w fun e w' => ∃ m', e = .returned m'.t.v ∧ MAt w' b (.slice (some ⟨pb, po, none⟩) cnt cap) m' ∧ Stands m' H ∧ Only b w w' := by
  have hlt := hM.lt
  have HM0 := hide ((hM.al (.cells #[.bool r.has, .int .i64 r.code, .string r.text] 140)).al (.cells #[.bool false, .int .i64 0, .string ⟨#[]⟩, .bool false, .string ⟨#[]⟩, .int .i64 0] 137))
  have HO0 := hide (((Only.refl b w).al (.cells #[.bool r.has, .int .i64 r.code, .string r.text] 140)).al (.cells #[.bool false, .int .i64 0, .string ⟨#[]⟩, .bool false, .string ⟨#[]⟩, .int .i64 0] 137))
  have hx0 := six_new (w.alloc (.cells #[.bool r.has, .int .i64 r.code, .string r.text] 140)) (.bool false) (.int .i64 0) (.string ⟨#[]⟩) (.bool false) (.string ⟨#[]⟩) (.int .i64 0) 137
  rw [show (w.alloc (.cells #[.bool r.has, .int .i64 r.code, .string r.text] 140)).heap.size = w.heap.size + 1 by simp] at hx0
  have X0 := hide hx0
  have HE := hide hE
  have HG := hide hG
  obtain ⟨⟨c5, z5⟩, ⟨c6, z6⟩, ⟨c7, z7⟩, ⟨c8, z8⟩, ⟨c9, z9⟩, c10, z10⟩ := HM0.out.turn
  rw [hn] at c9
  clear hM hE hG hx0 c5 z5 c6 z6 c7 z7 c8 z8 z9 c10 z10
  go_enter Tryz.func207, Tryz.ntmps207
  go_wp2_with fail
  clear c9
  generalize ((w.alloc (.cells #[.bool r.has, .int .i64 r.code, .string r.text] 140)).alloc (.cells #[.bool false, .int .i64 0, .string ⟨#[]⟩, .bool false, .string ⟨#[]⟩, .int .i64 0] 137)) = W0 at HM0 HO0 X0 ⊢
  have hb0 : b < W0.heap.size := HM0.out.lt
  refine (run_all b pb po cnt cap f m H _ HM0.out (HE.out.only hlt HO0.out) hc hok HG.out).mono ?_
  rintro e w3 ⟨m2, rfl, hM2, hSt, hO2⟩
  have HO3 := hide hO2
  clear hO2
  have HX := hide (X0.out.only HO3.out (by omega))
  have hx3 : w.heap.size + 1 < w3.heap.size := HX.out.1
  have HMM := hide hM2
  have HSS := hide hSt
  have HOO := hide (HO0.out.trans HO3.out)
  clear hM2 hSt
  obtain ⟨v0, q0, y0⟩ := HX.out.2 0 (by omega)
  obtain ⟨v1, q1, y1⟩ := HX.out.2 1 (by omega)
  obtain ⟨v2, q2, y2⟩ := HX.out.2 2 (by omega)
  obtain ⟨v3, q3, y3⟩ := HX.out.2 3 (by omega)
  obtain ⟨v4, q4, y4⟩ := HX.out.2 4 (by omega)
  obtain ⟨v5, q5, y5⟩ := HX.out.2 5 (by omega)
  have hne : w.heap.size + 1 ≠ b := by omega
  have MM := hide ((((((HMM.out.other (w.heap.size + 1) 0 (.bool m2.t.over) hne).other (w.heap.size + 1) 1 (.int .i64 m2.t.code) hne).other (w.heap.size + 1) 2 (.string m2.t.text) hne).other (w.heap.size + 1) 3 (.bool m2.t.ask) hne).other (w.heap.size + 1) 4 (.string m2.t.name) hne).other (w.heap.size + 1) 5 (.int .i64 m2.t.steps) hne)
  have OO := hide ((((((HOO.out.setNew (w.heap.size + 1) 0 (.bool m2.t.over) (by omega)).setNew (w.heap.size + 1) 1 (.int .i64 m2.t.code) (by omega)).setNew (w.heap.size + 1) 2 (.string m2.t.text) (by omega)).setNew (w.heap.size + 1) 3 (.bool m2.t.ask) (by omega)).setNew (w.heap.size + 1) 4 (.string m2.t.name) (by omega)).setNew (w.heap.size + 1) 5 (.int .i64 m2.t.steps) (by omega))
  simp only [Turn.v]
  go_wp2
  exact bodyPost_ret (v := m2.t.v) (by simp [results, Tryz.results207, go_sem, Turn.v, q0, q1, q2, q3, q4, q5]) rfl ⟨m2, rfl, MM.out, HSS.out, OO.out⟩

set_option maxRecDepth 100000 in
set_option maxHeartbeats 4000000 in
theorem goOn_look (b pb po cnt cap : Nat) (f : Nat → Ins) (m : Mst) (a : Bool) (nm : ByteArray) (s : List ByteArray) (p st l : Nat) (r : Reply) (w : World) (hM : MAt w b (.slice (some ⟨pb, po, none⟩) cnt cap) m) (hE : Env w b pb po cnt f) (hS : Stands m (.look a nm s p st l)) (hl : 1 ≤ l) (hr : r.text.size ≤ 2000) (hc : cnt ≤ 200) (hok : okTo f cnt = true) :
    Calls Tryz.prog 207 #[.agg #[.bool r.has, .int .i64 r.code, .string r.text], .pointer (some ⟨b, 0, none⟩)] w fun e w' => ∃ m' H', e = .returned m'.t.v ∧ MAt w' b (.slice (some ⟨pb, po, none⟩) cnt cap) m' ∧ Stands m' H' ∧ looksOf l H' ∧ (∀ y n, l ≤ n → y (l - 1) = r → contP f cnt y n (.look a nm s p st l) = contP f cnt y n H') ∧ Only b w w' := by
  have hlt := hM.lt
  have HM0 := hide ((hM.al (.cells #[.bool r.has, .int .i64 r.code, .string r.text] 140)).al (.cells #[.bool false, .int .i64 0, .string ⟨#[]⟩, .bool false, .string ⟨#[]⟩, .int .i64 0] 137))
  have HO0 := hide (((Only.refl b w).al (.cells #[.bool r.has, .int .i64 r.code, .string r.text] 140)).al (.cells #[.bool false, .int .i64 0, .string ⟨#[]⟩, .bool false, .string ⟨#[]⟩, .int .i64 0] 137))
  have hx0 := six_new (w.alloc (.cells #[.bool r.has, .int .i64 r.code, .string r.text] 140)) (.bool false) (.int .i64 0) (.string ⟨#[]⟩) (.bool false) (.string ⟨#[]⟩) (.int .i64 0) 137
  rw [show (w.alloc (.cells #[.bool r.has, .int .i64 r.code, .string r.text] 140)).heap.size = w.heap.size + 1 by simp] at hx0
  have X0 := hide hx0
  have HE := hide hE
  have HS := hide hS
  have hnm : m.t.name = nm := by have := hS.1; rw [this]
  have hne : nm.toList.isEmpty = false := by
    have hn := hS.2.2.1
    have h0 : ¬ nm.size = 0 := by
      simp only [nameOk, Bool.and_eq_true, decide_eq_true_eq] at hn
      omega
    have := toList_ne h0
    cases h : nm.toList with
    | nil => exact absurd h this
    | cons _ _ => rfl
  obtain ⟨⟨c5, z5⟩, ⟨c6, z6⟩, ⟨c7, z7⟩, ⟨c8, z8⟩, ⟨c9, z9⟩, c10, z10⟩ := HM0.out.turn
  rw [hnm] at c9
  clear hM hE hS hx0 hnm c5 z5 c6 z6 c7 z7 c8 z8 z9 c10 z10
  go_enter Tryz.func207, Tryz.ntmps207
  go_wp2_with fail
  clear c9 hne
  generalize ((w.alloc (.cells #[.bool r.has, .int .i64 r.code, .string r.text] 140)).alloc (.cells #[.bool false, .int .i64 0, .string ⟨#[]⟩, .bool false, .string ⟨#[]⟩, .int .i64 0] 137)) = W0 at HM0 HO0 X0 ⊢
  have hb0 : b < W0.heap.size := HM0.out.lt
  refine (answer_step b (.slice (some ⟨pb, po, none⟩) cnt cap) f cnt m a nm s p st l r _ HM0.out HS.out hl hr).mono ?_
  rintro e w1 ⟨rfl, m1, H', hM1, hG1, hL1, hC1, hO1⟩
  have HM1 := hide hM1
  have HG1 := hide hG1
  have HL1 := hide hL1
  have HC1 := hide hC1
  have HO1 := hide hO1
  clear hM1 hG1 hL1 hC1 hO1
  go_wp2_with fail
  refine (run_all b pb po cnt cap f m1 H' _ HM1.out (HE.out.only hlt (HO0.out.trans HO1.out)) hc hok HG1.out).mono ?_
  rintro e w3 ⟨m2, rfl, hM2, hSt, hO2⟩
  have HO3 := hide (HO1.out.trans hO2)
  clear hO2
  have HX := hide (X0.out.only HO3.out (by omega))
  have hx3 : w.heap.size + 1 < w3.heap.size := HX.out.1
  have HMM := hide hM2
  have HSS := hide hSt
  have HOO := hide (HO0.out.trans HO3.out)
  clear hM2 hSt
  obtain ⟨v0, q0, y0⟩ := HX.out.2 0 (by omega)
  obtain ⟨v1, q1, y1⟩ := HX.out.2 1 (by omega)
  obtain ⟨v2, q2, y2⟩ := HX.out.2 2 (by omega)
  obtain ⟨v3, q3, y3⟩ := HX.out.2 3 (by omega)
  obtain ⟨v4, q4, y4⟩ := HX.out.2 4 (by omega)
  obtain ⟨v5, q5, y5⟩ := HX.out.2 5 (by omega)
  have hne : w.heap.size + 1 ≠ b := by omega
  have MM := hide ((((((HMM.out.other (w.heap.size + 1) 0 (.bool m2.t.over) hne).other (w.heap.size + 1) 1 (.int .i64 m2.t.code) hne).other (w.heap.size + 1) 2 (.string m2.t.text) hne).other (w.heap.size + 1) 3 (.bool m2.t.ask) hne).other (w.heap.size + 1) 4 (.string m2.t.name) hne).other (w.heap.size + 1) 5 (.int .i64 m2.t.steps) hne)
  have OO := hide ((((((HOO.out.setNew (w.heap.size + 1) 0 (.bool m2.t.over) (by omega)).setNew (w.heap.size + 1) 1 (.int .i64 m2.t.code) (by omega)).setNew (w.heap.size + 1) 2 (.string m2.t.text) (by omega)).setNew (w.heap.size + 1) 3 (.bool m2.t.ask) (by omega)).setNew (w.heap.size + 1) 4 (.string m2.t.name) (by omega)).setNew (w.heap.size + 1) 5 (.int .i64 m2.t.steps) (by omega))
  simp only [Turn.v]
  go_wp2
  exact bodyPost_ret (v := m2.t.v) (by simp [results, Tryz.results207, go_sem, Turn.v, q0, q1, q2, q3, q4, q5]) rfl ⟨m2, H', rfl, MM.out, HSS.out, HL1.out, HC1.out, OO.out⟩

end Go.Proofs.YtggchgpphhhleabGreatDoor.Vp
