/-
  step: one instruction begun.
-/
import Derived.Test.YtoaokmdhbagniaaDoorNxPerf
namespace Go.Proofs.YtoaokmdhbagniaaDoor.Vp
open Go.RowKit

def bearsP (op : Nat) (stk : List ByteArray) : Bool := decide (takesOf op ≤ stk.length ∧ stk.length - takesOf op + putsOf op ≤ 50)
def stepP (f : Nat → Ins) (cnt place steps looks : Nat) (stk : List ByteArray) : Res :=
  if cnt ≤ place then .over 2 (decT place) else if steps = 2000 then .over 3 ⟨#[]⟩ else
    if bearsP (f place).op.toNat stk = false then .over 2 (decT place) else performP (f place).op.toNat (f place).n.toNat (f place).s place looks stk
def stepN (cnt place steps : Nat) : Nat := if cnt ≤ place then steps else if steps = 2000 then steps else steps + 1

theorem MAt.qN {w : World} {b : Nat} {cv : Value} {m : Mst} (h : MAt w b cv m) (n : Nat) : MAt (w.drewN n) b cv m := h.bel (below_drewN (Below.refl _ _) n)
theorem Only.qN {b : Nat} {u w : World} (h : Only b u w) (n : Nat) : Only b u (w.drewN n) := h.bel (below_drewN (Below.refl _ _) n)
theorem perform_any (b : Nat) (cv : Value) (m : Mst) (op n here looks : Nat) (t : ByteArray) (stk : List ByteArray) (w : World) (hM : MAt w b cv m) (hR : Rep m.S stk) (hz : m.size = stk.length) (hl : stk.length ≤ 50) (hp : m.place = here + 1)
    (hle : ∀ x ∈ stk, x.size ≤ 2000) (hn : n ≤ 2000) (hh : here ≤ 2000) (hP : Pow w) (hPb : 1 < b) (hlk : m.looks = looks) (hl2 : looks ≤ 200) (h1 : 1 ≤ op) (h15 : op ≤ 15) (hb : bearsP op stk = true) :
    Calls Tryd.prog 107 #[.pointer (some ⟨b, 0, none⟩), .agg #[.int .i64 op, .string t, .int .i64 n], .int .i64 here] w fun e w' => e = .returned (.tuple #[]) ∧ (∃ m', MAt w' b cv m' ∧ After m m' (performP op n t here looks stk)) ∧ Only b w w' := by
  simp only [bearsP, decide_eq_true_eq] at hb
  obtain ⟨hb1, hb2⟩ := hb
  rcases (show op = 1 ∨ op = 2 ∨ op = 3 ∨ op = 4 ∨ op = 5 ∨ op = 6 ∨ op = 7 ∨ op = 8 ∨ op = 9 ∨ op = 10 ∨ op = 11 ∨ op = 12 ∨ op = 13 ∨ op = 14 ∨ op = 15 by omega) with rfl | rfl | rfl | rfl | rfl | rfl | rfl | rfl | rfl | rfl | rfl | rfl | rfl | rfl | rfl
  all_goals simp only [takesOf, putsOf] at hb1 hb2
  · exact perf1 b cv m n here t stk w hM hR hz hl hp (by simp at hb2; omega)
  · match stk, hb1 with
    | x :: y :: r, _ => exact perf2 b cv m n here t x y r w hM hR hz hl hp hh hP hPb (hle x (by simp)) (hle y (by simp))
  · match stk, hb1 with
    | x :: r, _ => exact perf3 b cv m n here t x r w hM hR hz hl hp (hle x (by simp))
  · match stk, hb1 with
    | x :: r, _ => exact perf4 b cv m n here t x r w hM hR hz hl hp (hle x (by simp))
  · match stk, hb1 with
    | x :: r, _ => exact perf5 b cv m n here t x r w hM hR hz hl hp (hle x (by simp)) hn
  · match stk, hb1 with
    | x :: y :: r, _ => exact perf6 b cv m n here t x y r w hM hR hz hl hp
  · match stk, hb1 with
    | x :: r, _ => exact perf7 b cv m n here t x r w hM hR hz hl hp (by simp at hb2; omega)
  · match stk, hb1 with
    | x :: y :: r, _ => exact perf8 b cv m n here t x y r w hM hR hz hl hp
  · match stk, hb1 with
    | x :: r, _ => exact perf9 b cv m n here t x r w hM hR hz hl hp
  · exact perf10 b cv m n here t stk w hM hR hz
  · match stk, hb1 with
    | x :: r, _ => exact perf11 b cv m n here t x r w hM hR hz hl hp
  · match stk, hb1 with
    | x :: r, _ => exact perf12 b cv m n here t x r w hM hR hz hl hh hP hPb looks hlk hl2
  · match stk, hb1 with
    | x :: r, _ => exact perf13 b cv m n here t x r w hM hR hz hl hh hP hPb looks hlk hl2
  · match stk, hb1 with
    | x :: r, _ => exact perf14 b cv m n here t x r w hM hR hz hl
  · match stk, hb1 with
    | x :: r, _ => exact perf15 b cv m n here t x r w hM hR hz hl

theorem bears_is (b : Nat) (cv : Value) (m : Mst) (op : Nat) (stk : List ByteArray) (w : World) (hM : MAt w b cv m) (hT : Tab2 w) (h1 : 1 ≤ op) (h2 : op ≤ 15) (hz : m.size = stk.length) (hl : stk.length ≤ 50) :
    Calls Tryd.prog 106 #[.pointer (some ⟨b, 0, none⟩), .int .i64 op] w fun e w' => e = .returned (.bool (bearsP op stk)) ∧ Below w.heap.size w w' := by
  have := bears_any b cv m op w hM hT (by omega) (by omega) (by omega)
  rw [hz] at this
  exact this

/-- What lies round the machine in block b: the program's row, the tables. -/
structure Env (w : World) (b pb po cnt : Nat) (f : Nat → Ins) : Prop where
  row : RowIns w pb po cnt f
  tab : Tab2 w
  pow : Pow w
  pbb : pb < b
  tbb : 0 < b
  pwb : 1 < b
theorem Env.below {w w' : World} {b pb po cnt : Nat} {f : Nat → Ins} (h : Env w b pb po cnt f) (hb : Below b w w') : Env w' b pb po cnt f :=
  ⟨⟨Nat.lt_of_lt_of_le h.row.1 hb.size, fun i hi => (h.row.2 i hi).below hb h.pbb⟩, h.tab.below hb h.tbb, h.pow.low hb h.pwb, h.pbb, h.tbb, h.pwb⟩
theorem Env.only {w w' : World} {b pb po cnt : Nat} {f : Nat → Ins} (h : Env w b pb po cnt f) (hl : b < w.heap.size) (hb : Only b w w') : Env w' b pb po cnt f := h.below (hb.below (Nat.le_refl _) (Nat.le_of_lt hl))

/-- The machine holds this state. -/
structure Sim (m : Mst) (place steps looks : Nat) (stk : List ByteArray) : Prop where
  rep : Rep m.S stk
  size : m.size = stk.length
  len : stk.length ≤ 50
  hpl : m.place = place
  hst : m.steps = steps
  hlk : m.looks = looks
  le : ∀ x ∈ stk, x.size ≤ 2000
  pl : place ≤ 2000
  st : steps ≤ 2000
  lk : looks ≤ 200

set_option maxHeartbeats 2000000 in
theorem step_any (b pb po cnt cap place steps looks : Nat) (f : Nat → Ins) (m : Mst) (stk : List ByteArray) (w : World) (hM : MAt w b (.slice (some ⟨pb, po, none⟩) cnt cap) m) (hS : Sim m place steps looks stk) (hE : Env w b pb po cnt f) (hok : okTo f cnt = true) :
    Calls Tryd.prog 93 #[.pointer (some ⟨b, 0, none⟩)] w fun e w' => e = .returned (.tuple #[]) ∧
      (∃ m', MAt w' b (.slice (some ⟨pb, po, none⟩) cnt cap) m' ∧ After { m with steps := stepN cnt place steps, place := place + 1 } m' (stepP f cnt place steps looks stk)) ∧ Only b w w' := by
  have HM := hide hM
  have HE := hide hE
  have HS := hide hS
  have hlt := hM.lt
  have hpl := hS.pl
  have hst := hS.st
  obtain ⟨c1, z1⟩ := hM.fld 51 (.slice (some ⟨pb, po, none⟩) cnt cap) (by omega) (by simp [Mst.F])
  obtain ⟨c2, z2⟩ := hM.fld 52 (.int .i64 place) (by omega) (by simp [Mst.F, hS.hpl])
  obtain ⟨c3, z3⟩ := hM.fld 53 (.int .i64 steps) (by omega) (by simp [Mst.F, hS.hst])
  clear hM hE hS
  by_cases h1 : cnt ≤ place
  · have e1 : stepP f cnt place steps looks stk = .over 2 (decT place) := by simp [stepP, h1]
    have e2 : stepN cnt place steps = steps := by simp [stepN, h1]
    rw [e1, e2]
    clear e1 e2
    go_enter Tryd.func93, Tryd.ntmps93
    go_wp2_with fail
    go_quiet (fail)
    have HM0 := hide (HM.out.qN nq)
    have HE0 := hide (HE.out.only hlt ((Only.refl b w).qN nq))
    have HO0 := hide ((Only.refl b w).qN nq)
    clear c1 z1 c2 z2 c3 z3
    generalize w.drewN nq = W at HM0 HE0 HO0 ⊢
    obtain ⟨c2, z2⟩ := HM0.out.fld 52 (.int .i64 place) (by omega) (by simp [Mst.F, HS.out.hpl])
    obtain ⟨c3, z3⟩ := HM0.out.fld 53 (.int .i64 steps) (by omega) (by simp [Mst.F, HS.out.hst])
    go_wp2_with fail
    refine (stick_any b _ m place _ HM0.out hpl HE0.out.pow).mono ?_
    rintro e w1 ⟨rfl, hM1, hB1⟩
    have HM1 := hide hM1
    have HB1 := hide (HO0.out.trans hB1)
    clear hM1 hB1
    go_wp2
    refine ret0 rfl rfl ?_
    exact ⟨rfl, ⟨_, HM1.out, HS.out.hst, by rw [HS.out.hst]⟩, HB1.out⟩
  · have h1' : (place : Int) < cnt := by omega
    by_cases h2 : steps = 2000
    · have e1 : stepP f cnt place steps looks stk = .over 3 ⟨#[]⟩ := by simp [stepP, h1, h2]
      have e2 : stepN cnt place steps = steps := by simp [stepN, h1, h2]
      rw [e1, e2]
      clear e1 e2
      have h2' : ((steps : Int) == 2000) = true := by simp; omega
      go_enter Tryd.func93, Tryd.ntmps93
      go_wp2_with fail
      go_quiet (fail)
      have HM0 := hide (HM.out.qN nq)
      have HE0 := hide (HE.out.only hlt ((Only.refl b w).qN nq))
      have HO0 := hide ((Only.refl b w).qN nq)
      clear c1 z1 c2 z2 c3 z3
      generalize w.drewN nq = W at HM0 HE0 HO0 ⊢
      obtain ⟨c2, z2⟩ := HM0.out.fld 52 (.int .i64 place) (by omega) (by simp [Mst.F, HS.out.hpl])
      obtain ⟨c3, z3⟩ := HM0.out.fld 53 (.int .i64 steps) (by omega) (by simp [Mst.F, HS.out.hst])
      go_wp2_with fail
      refine (end_any b _ m _ _ _ HM0.out).mono ?_
      rintro e w1 ⟨rfl, hM1, hB1⟩
      have HM1 := hide hM1
      have HB1 := hide (HO0.out.trans hB1)
      clear hM1 hB1
      go_wp2
      refine ret0 rfl rfl ?_
      exact ⟨rfl, ⟨_, HM1.out, HS.out.hst, by rw [HS.out.hst]⟩, HB1.out⟩
    · have h2' : ((steps : Int) == 2000) = false := by simp; omega
      have e2 : stepN cnt place steps = steps + 1 := by simp [stepN, h1, h2]
      have hi := ok_at hok (show place < cnt by omega)
      simp only [insOk, decide_eq_true_eq] at hi
      obtain ⟨i1, i2, i3, i4, i5⟩ := hi
      obtain ⟨op, hop⟩ := Int.eq_ofNat_of_zero_le (show 0 ≤ (f place).op by omega)
      obtain ⟨n, hn⟩ := Int.eq_ofNat_of_zero_le i4
      have e1 : stepP f cnt place steps looks stk = if bearsP op stk = false then .over 2 (decT place) else performP op n (f place).s place looks stk := by
        simp only [stepP, h1, h2, if_false, hop, hn, Int.toNat_natCast]
      rw [e1, e2]
      obtain ⟨R, hR⟩ : ∃ R : Res, R = (if bearsP op stk = false then .over 2 (decT place) else performP op n (f place).s place looks stk) := ⟨_, rfl⟩
      rw [← hR]
      have HQ := hide hR
      clear hR
      have hmt : mostN (f place).op ≤ 2000 := by unfold mostN; split <;> (try split) <;> omega
      have hn2 : n ≤ 2000 := by omega
      have ho1 : 1 ≤ op := by omega
      have ho2 : op ≤ 15 := by omega
      have HA : Hid (AtIns w pb po place (f place)) := HE.out.row.2 place (by omega)
      clear e1 e2 hmt i1 i2 i3 i4 i5
      go_enter Tryd.func93, Tryd.ntmps93
      go_wp2_with fail
      go_quiet (fail)
      have HM0 := hide (HM.out.qN nq)
      have HE0 := hide (HE.out.only hlt ((Only.refl b w).qN nq))
      have HO0 := hide ((Only.refl b w).qN nq)
      clear c1 z1 c2 z2 c3 z3
      generalize w.drewN nq = W at HM0 HE0 HO0 ⊢
      obtain ⟨c2, z2⟩ := HM0.out.fld 52 (.int .i64 place) (by omega) (by simp [Mst.F, HS.out.hpl])
      obtain ⟨c3, z3⟩ := HM0.out.fld 53 (.int .i64 steps) (by omega) (by simp [Mst.F, HS.out.hst])
      obtain ⟨c1, z1⟩ := HM0.out.fld 51 (.slice (some ⟨pb, po, none⟩) cnt cap) (by omega) (by simp [Mst.F])
      go_wp2_with fail
      have HM1 := hide ((HM0.out.setSteps ((steps : Int) + 1)).setPlace ((place : Int) + 1))
      have HO1 := hide (bset (bset HO0.out 53 (.int .i64 ((steps : Int) + 1))) 52 (.int .i64 ((place : Int) + 1)))
      clear c1 z1 c2 z2 c3 z3 HM0 HO0 HE0
      generalize (W.setCell ⟨b, 53, none⟩ (.int .i64 ((steps : Int) + 1))).setCell ⟨b, 52, none⟩ (.int .i64 ((place : Int) + 1)) = V at HM1 HO1 ⊢
      have HE1 := hide (HE.out.only hlt HO1.out)
      obtain ⟨c1, z1⟩ := HM1.out.fld 51 (.slice (some ⟨pb, po, none⟩) cnt cap) (by omega) (by simp [Mst.F])
      obtain ⟨a0, a1, a2⟩ := HE1.out.row.2 place (by omega)
      rw [hop] at a0
      rw [hn] at a2
      obtain ⟨MM, hMM⟩ : ∃ MM : Mst, MM = { m with steps := (steps : Int) + 1, place := (place : Int) + 1 } := ⟨_, rfl⟩
      rw [← hMM] at HM1
      have k1 : MM.size = stk.length := by rw [hMM]; exact HS.out.size
      have HMM := hide hMM
      have hll := HS.out.len
      clear hMM
      go_region_with (go_at_call 106; refine (bears_is b (.slice (some ⟨pb, po, none⟩) cnt cap) MM op stk _ ?_ ?_ ho1 ho2 k1 hll).mono ?_; (first | exact HM1.out | exact HM1.out.drew | exact HM1.out.drew.drew); (first | exact HE1.out.tab | exact (HE1.out.below (Below.refl _ _).drew).tab); rintro e w1 ⟨rfl, hB1⟩; have HM2 : Hid (MAt w1 b (.slice (some ⟨pb, po, none⟩) cnt cap) MM) := MAt.bel (by first | exact HM1.out | exact HM1.out.drew | exact HM1.out.drew.drew) hB1; have HO2 : Hid (Only b w w1) := Only.bel (by repeat (first | exact HO1.out | apply Only.drew)) hB1; clear hB1)
      all_goals
        have HE2 := hide (HE.out.only hlt HO2.out)
        obtain ⟨g1, y1⟩ := HM2.out.fld 51 (.slice (some ⟨pb, po, none⟩) cnt cap) (by omega) (by simp [Mst.F])
        obtain ⟨b0, b1, b2⟩ := HE2.out.row.2 place (by omega)
        rw [hop] at b0
        rw [hn] at b2
        clear c1 z1 a0 a1 a2 HM1 HO1
        have hlt1 := HM2.out.lt
        cases hbr : bearsP op stk with
        | false =>
          rw [if_pos hbr] at HQ
          go_wp2_with fail
          refine (stick_any b _ MM place _ HM2.out hpl HE2.out.pow).mono ?_
          rintro e w2 ⟨rfl, hM3, hB3⟩
          have HM3 := hide hM3
          have HO3 := hide (HO2.out.trans hB3)
          clear hM3 hB3
          go_wp2
          refine ret0 rfl rfl ?_
          refine ⟨rfl, ⟨_, HM3.out, ?_⟩, HO3.out⟩
          rw [HMM.out, HQ.out]
          exact ⟨by simp, by simp⟩
        | true =>
          rw [if_neg (by simp [hbr])] at HQ
          go_wp2_with fail
          refine (perform_any b (.slice (some ⟨pb, po, none⟩) cnt cap) MM op n place looks (f place).s stk _ ?_ ?_ k1 hll ?_ ?_ hn2 hpl ?_ ?_ ?_ ?_ ho1 ho2 hbr).mono ?_
          · exact HM2.out
          · rw [HMM.out]; exact HS.out.rep
          · rw [HMM.out]
          · exact HS.out.le
          · exact HE2.out.pow
          · exact HE2.out.pwb
          · rw [HMM.out]; exact HS.out.hlk
          · exact HS.out.lk
          rintro e w2 ⟨rfl, hM3, hB3⟩
          have HM3 := hide hM3
          have HO3 := hide (HO2.out.trans hB3)
          clear hM3 hB3
          go_wp2
          refine end0 rfl rfl ?_
          obtain ⟨m', h1, h2⟩ := HM3.out
          refine ⟨rfl, ⟨m', h1, ?_⟩, HO3.out⟩
          rw [HQ.out]
          rw [HMM.out] at h2
          exact h2

end Go.Proofs.YtoaokmdhbagniaaDoor.Vp
