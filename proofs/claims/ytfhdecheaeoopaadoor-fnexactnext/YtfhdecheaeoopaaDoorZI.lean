/-
  Put together of: NxRun, NxNext, NxRepP, NxAns.
-/
import Derived.Test.YtfhdecheaeoopaaDoorZH
import Derived.Deep.LoopGhost
import Derived.Test.YtfhdecheaeoopaaDoorZA

/-
  run: to the run's end or to its next look.
-/
namespace Go.Proofs.YtfhdecheaeoopaaDoor.Vp
open Go.RowKit

theorem wordL_length (l : List UInt8) (n : Nat) : (wordL l n).length ≤ l.length := by
  induction n generalizing l with
  | zero =>
    rw [wordL]
    have h1 := dropWhile_length l isGap
    have h2 : ((l.dropWhile isGap).takeWhile (fun c => !isGap c)).length ≤ (l.dropWhile isGap).length := (List.takeWhile_sublist _).length_le
    omega
  | succ n ih =>
    rw [wordL]
    split
    · simp
    · have h1 := dropWhile_length l isGap
      have h2 := dropWhile_length (l.dropWhile isGap) (fun c => !isGap c)
      have h3 := ih ((l.dropWhile isGap).dropWhile (fun c => !isGap c))
      omega
theorem wordT_size (s : ByteArray) (n : Nat) : (wordT s n).size ≤ s.size := wordL_length s.data.toList n

/-- What an instruction leaves: texts and places within their bounds. -/
def Fine (res : Res) (looks : Nat) : Prop := match res with
  | .inl (stk, p) => stk.length ≤ 50 ∧ (∀ x ∈ stk, x.size ≤ 2000) ∧ p ≤ 2000
  | .inr (.inl (_, _)) => True
  | .inr (.inr (_, name, stk)) => stk.length < 50 ∧ (∀ x ∈ stk, x.size ≤ 2000) ∧ nameOk name = true ∧ looks < 200
theorem performP_fine (op n here looks : Nat) (t : ByteArray) (stk : List ByteArray) (hl : stk.length ≤ 50) (hle : ∀ x ∈ stk, x.size ≤ 2000) (ht : t.size ≤ 2000) (hn : n ≤ 2000) (hh : here < 2000) (hlk : looks ≤ 200) (h1 : 1 ≤ op) (h15 : op ≤ 15) (hb : bearsP op stk = true) : Fine (performP op n t here looks stk) looks := by
  have lookFine : ∀ ask a r, stk = a :: r → Fine (lookP ask a r here looks) looks := by
    intro ask a r e
    subst e
    simp only [List.length_cons] at hl
    unfold lookP
    split
    · trivial
    · rename_i h1
      split
      · trivial
      · rename_i h2
        exact ⟨by omega, fun x hx => hle x (by simp [hx]), by simpa using h1, by omega⟩
  simp only [bearsP, decide_eq_true_eq] at hb
  obtain ⟨hb1, hb2⟩ := hb
  rcases (show op = 1 ∨ op = 2 ∨ op = 3 ∨ op = 4 ∨ op = 5 ∨ op = 6 ∨ op = 7 ∨ op = 8 ∨ op = 9 ∨ op = 10 ∨ op = 11 ∨ op = 12 ∨ op = 13 ∨ op = 14 ∨ op = 15 by omega) with rfl | rfl | rfl | rfl | rfl | rfl | rfl | rfl | rfl | rfl | rfl | rfl | rfl | rfl | rfl
  all_goals simp only [takesOf, putsOf] at hb1 hb2
  · refine ⟨by simp at hb2 ⊢; omega, fun x hx => ?_, by omega⟩
    rcases List.mem_cons.1 hx with rfl | hx
    · exact ht
    · exact hle x hx
  · match stk, hb1 with
    | x :: y :: r, _ =>
      show Fine (if y.size + x.size ≤ 2000 then _ else _) _
      split
      · refine ⟨by simp at hl ⊢; omega, fun z hz => ?_, by omega⟩
        rcases List.mem_cons.1 hz with rfl | hz
        · simp; omega
        · exact hle z (by simp [hz])
      · trivial
  · match stk, hb1 with
    | x :: r, _ =>
      refine ⟨hl, fun z hz => ?_, by omega⟩
      have hx := hle x (by simp)
      rcases List.mem_cons.1 hz with rfl | hz
      · split
        · simp; omega
        · exact hx
      · exact hle z (by simp [hz])
  · match stk, hb1 with
    | x :: r, _ =>
      refine ⟨hl, fun z hz => ?_, by omega⟩
      have hx := hle x (by simp)
      rcases List.mem_cons.1 hz with rfl | hz
      · split
        · simp; omega
        · decide
      · exact hle z (by simp [hz])
  · match stk, hb1 with
    | x :: r, _ =>
      refine ⟨hl, fun z hz => ?_, by omega⟩
      rcases List.mem_cons.1 hz with rfl | hz
      · exact Nat.le_trans (wordT_size _ _) (hle x (by simp))
      · exact hle z (by simp [hz])
  · match stk, hb1 with
    | x :: y :: r, _ =>
      refine ⟨by simp at hl ⊢; omega, fun z hz => ?_, by omega⟩
      rcases List.mem_cons.1 hz with rfl | hz
      · unfold flagT
        split <;> decide
      · exact hle z (by simp [hz])
  · match stk, hb1 with
    | x :: r, _ =>
      refine ⟨by simp at hb2 ⊢; omega, fun z hz => ?_, by omega⟩
      rcases List.mem_cons.1 hz with rfl | hz
      · exact hle _ (by simp)
      · exact hle z hz
  · match stk, hb1 with
    | x :: y :: r, _ =>
      refine ⟨hl, fun z hz => ?_, by omega⟩
      simp only [List.mem_cons] at hz
      exact hle z (by simp only [List.mem_cons]; rcases hz with h | h | h <;> simp [h])
  · match stk, hb1 with
    | x :: r, _ => exact ⟨by simp at hl; omega, fun z hz => hle z (by simp [hz]), by omega⟩
  · exact ⟨hl, hle, hn⟩
  · match stk, hb1 with
    | x :: r, _ =>
      refine ⟨by simp at hl; omega, fun z hz => hle z (by simp [hz]), ?_⟩
      split <;> omega
  · match stk, hb1 with
    | x :: r, _ => exact lookFine true x r rfl
  · match stk, hb1 with
    | x :: r, _ => exact lookFine false x r rfl
  · match stk, hb1 with
    | x :: r, _ => trivial
  · match stk, hb1 with
    | x :: r, _ => trivial
theorem stepP_fine {f : Nat → Ins} {cnt place steps looks : Nat} {stk : List ByteArray} {m : Mst} (hS : Sim m place steps looks stk) (hok : okTo f cnt = true) (hc : cnt ≤ 200) : Fine (stepP f cnt place steps looks stk) looks := by
  unfold stepP
  split
  · trivial
  · rename_i h1
    split
    · trivial
    · split
      · trivial
      · rename_i h3
        have hi := ok_at hok (show place < cnt by omega)
        simp only [insOk, decide_eq_true_eq] at hi
        obtain ⟨i1, i2, i3, i4, i5⟩ := hi
        have hmt : mostN (f place).op ≤ 2000 := by unfold mostN; split <;> (try split) <;> omega
        have hmt2 : mostText (f place).op ≤ 2000 := by unfold mostText; split <;> omega
        exact performP_fine _ _ _ _ _ _ hS.len hS.le (by omega) (by omega) (by omega) hS.lk (by omega) (by omega) (by simpa using h3)

abbrev Halt := (Int × ByteArray × Nat) ⊕ (Bool × ByteArray × List ByteArray × Nat × Nat × Nat)
def runP (f : Nat → Ins) (cnt : Nat) : Nat → Nat → Nat → Nat → List ByteArray → Option Halt
  | 0, _, _, _, _ => none
  | k + 1, place, steps, looks, stk => match stepP f cnt place steps looks stk with
    | .inr (.inl (c, x)) => some (.inl (c, x, (stepN cnt place steps)))
    | .inr (.inr (a, nm, s)) => some (.inr (a, nm, s, (place + 1), (stepN cnt place steps), (looks + 1)))
    | .inl (s, p) => runP f cnt k p (stepN cnt place steps) looks s
theorem stepP_go {f : Nat → Ins} {cnt place steps looks : Nat} {stk s : List ByteArray} {p : Nat} (h : stepP f cnt place steps looks stk = .inl (s, p)) : stepN cnt place steps = steps + 1 ∧ steps ≠ 2000 := by
  unfold stepP at h
  unfold stepN
  split at h
  · cases h
  · split at h
    · cases h
    · rename_i h1 h2
      rw [if_neg h1, if_neg h2]
      exact ⟨rfl, h2⟩
theorem runP_some (f : Nat → Ins) (cnt : Nat) (k : Nat) : ∀ place steps looks stk, steps ≤ 2000 → 2001 ≤ k + steps → ∃ h, runP f cnt k place steps looks stk = some h := by
  induction k with
  | zero => intro _ _ _ _ h1 h2; omega
  | succ k ih =>
    intro place steps looks stk h1 h2
    rw [runP]
    rcases hr : stepP f cnt place steps looks stk with ⟨s, p⟩ | ⟨c, x⟩ | ⟨a, nm, s⟩
    · obtain ⟨e1, e2⟩ := stepP_go hr
      simp only [e1]
      exact ih _ _ _ _ (by omega) (by omega)
    · exact ⟨_, rfl⟩
    · exact ⟨_, rfl⟩
/-- The machine stands where the run halts. -/
def Stands (m : Mst) : Halt → Prop
  | .inl (c, x, k) => m.t = ⟨true, c, x, false, ⟨#[]⟩, k⟩
  | .inr (a, nm, s, p, k, l) => m.t = ⟨false, 0, ⟨#[]⟩, a, nm, k⟩ ∧ Sim m p k l s ∧ nameOk nm = true ∧ s.length < 50

set_option maxHeartbeats 2000000 in
theorem run_all (b pb po cnt cap : Nat) (f : Nat → Ins) (m : Mst) (H : Halt) (w : World) (hM : MAt w b (.slice (some ⟨pb, po, none⟩) cnt cap) m) (hE : Env w b pb po cnt f) (hc : cnt ≤ 200) (hok : okTo f cnt = true)
    (hH : (m.t = noTurn ∧ ∃ p k l s, Sim m p k l s ∧ runP f cnt (2001 - k) p k l s = some H) ∨ Stands m H) :
    Calls Tryd.prog 21 #[.pointer (some ⟨b, 0, none⟩)] w fun e w' => ∃ m', e = .returned m'.t.v ∧ MAt w' b (.slice (some ⟨pb, po, none⟩) cnt cap) m' ∧ Stands m' H ∧ Only b w w' := by
  have HM := hide hM
  have HE := hide hE
  have HH := hide hH
  have hlt := hM.lt
  clear hM hE hH
  have HM0 := hide (HM.out.al (.cells #[.bool false, .int .i64 0, .string ⟨#[]⟩, .bool false, .string ⟨#[]⟩, .int .i64 0] 29))
  have hw0 : w.heap.size < (w.alloc (.cells #[.bool false, .int .i64 0, .string ⟨#[]⟩, .bool false, .string ⟨#[]⟩, .int .i64 0] 29)).heap.size := by simp
  have HW0 := hide ((Only.refl b w).al (.cells #[.bool false, .int .i64 0, .string ⟨#[]⟩, .bool false, .string ⟨#[]⟩, .int .i64 0] 29))
  have hr0 : ∀ j, j < 6 → ∃ v, (w.alloc (.cells #[.bool false, .int .i64 0, .string ⟨#[]⟩, .bool false, .string ⟨#[]⟩, .int .i64 0] 29)).cell? ⟨w.heap.size, j, none⟩ = some v ∧ (w.alloc (.cells #[.bool false, .int .i64 0, .string ⟨#[]⟩, .bool false, .string ⟨#[]⟩, .int .i64 0] 29)).frozen? ⟨w.heap.size, j, none⟩ = false := by
    intro j hj
    rcases (show j = 0 ∨ j = 1 ∨ j = 2 ∨ j = 3 ∨ j = 4 ∨ j = 5 by omega) with rfl | rfl | rfl | rfl | rfl | rfl
    all_goals exact ⟨_, by simp; rfl, by simp⟩
  have HR0 := hide hr0
  clear hr0
  go_enter Tryd.func21, Tryd.ntmps21
  go_wp2
  generalize w.alloc (.cells #[.bool false, .int .i64 0, .string ⟨#[]⟩, .bool false, .string ⟨#[]⟩, .int .i64 0] 29) = w0 at HM0 hw0 HW0 HR0 ⊢
  go_loopg [] 2002 (fun g wr => ∃ m', MAt wr b (.slice (some ⟨pb, po, none⟩) cnt cap) m' ∧ Only b w0 wr ∧ ((m'.t = noTurn ∧ ∃ p k l s, Sim m' p k l s ∧ runP f cnt (2001 - k) p k l s = some H ∧ 2002 - k ≤ g) ∨ Stands m' H))
  case atStart =>
    refine ⟨m, HM0.out, Only.refl _ _, ?_⟩
    rcases HH.out with ⟨h1, p, k, l, s, h2, h3⟩ | h
    · exact .inl ⟨h1, p, k, l, s, h2, h3, by omega⟩
    · exact .inr h
  case round =>
    obtain ⟨m', hM, hO, hc2⟩ := hrel
    have HM1 := hide hM
    have HO1 := hide hO
    obtain ⟨⟨c5, z5⟩, ⟨c6, z6⟩, ⟨c7, z7⟩, ⟨c8, z8⟩, ⟨c9, z9⟩, c10, z10⟩ := hM.turn
    clear hM hO
    rcases hc2 with ⟨ht, p, k, l, s, hS, hr, hg⟩ | hst
    · have HS1 := hide hS
      have HR1 := hide hr
      have hk := hS.st
      rw [ht] at c5 c6 c7 c8 c9 c10
      simp only [noTurn] at c5 c6 c7 c8 c9 c10
      have HT1 := hide ht
      clear hS hr ht
      go_wp2_with fail
      refine (step_any b pb po cnt cap p k l f m' s _ HM1.out HS1.out (HE.out.only hlt (HW0.out.trans HO1.out)) hok).mono ?_
      rintro e w1 ⟨rfl, ⟨m2, hM2, hA⟩, hB2⟩
      have HM2 := hide hM2
      have HA := hide hA
      have HO2 := hide (HO1.out.trans hB2)
      clear hM2 hA hB2 c5 c6 c7 c8 c9 c10 z5 z6 z7 z8 z9 z10
      obtain ⟨g, rfl⟩ : ∃ g, gk = g + 1 := ⟨gk - 1, by omega⟩
      go_wp2
      go_roundg g
      case measure => omega
      case rel =>
        refine ⟨m2, HM2.out, HO2.out, ?_⟩
        have hR := HR1.out
        have hF := stepP_fine HS1.out hok hc
        obtain ⟨j, hj⟩ : ∃ j, 2001 - k = j + 1 := ⟨2000 - k, by omega⟩
        rw [hj, runP] at hR
        have hA := HA.out
        rcases hst : stepP f cnt p k l s with ⟨s2, p2⟩ | ⟨c, x⟩ | ⟨a, nm, s2⟩
        · rw [hst] at hR hA hF
          obtain ⟨e1, e2⟩ := stepP_go hst
          obtain ⟨a1, a2, a3, a4, a5, a6⟩ := hA
          obtain ⟨f1, f2, f3⟩ := hF
          simp only [e1] at hR a1
          refine .inl ⟨by rw [a6]; exact HT1.out, p2, k + 1, l, s2, ⟨a2, a3, f1, a4, a1, by rw [a5]; exact HS1.out.hlk, f2, f3, by omega, HS1.out.lk⟩, ?_, by omega⟩
          rw [show 2001 - (k + 1) = j by omega]
          exact hR
        · rw [hst] at hR hA hF
          simp only [Option.some.injEq] at hR
          subst hR
          exact .inr hA.2
        · rw [hst] at hR hA hF
          simp only [Option.some.injEq] at hR
          subst hR
          obtain ⟨a1, a2, a3, a4, a5, a6⟩ := hA
          obtain ⟨f1, f2, f3, f4⟩ := hF
          have hN : stepN cnt p k ≤ 2000 ∧ p + 1 ≤ 2000 := by
            unfold stepP at hst
            unfold stepN
            split at hst
            · cases hst
            · split at hst
              · cases hst
              · rename_i h1 h2
                rw [if_neg h1, if_neg h2]
                omega
          exact .inr ⟨a6, ⟨a2, a3, by omega, by rw [a4]; simp, a1, by rw [a5]; show m'.looks + 1 = _; rw [HS1.out.hlk]; simp, f2, hN.2, hN.1, by omega⟩, f3, f1⟩
    · have HST := hide hst
      rcases H with ⟨c, x, k⟩ | ⟨a, nm, s2, p2, k2, l2⟩
      · have ht : m'.t = ⟨true, c, x, false, ⟨#[]⟩, k⟩ := hst
        rw [ht] at c5 c6 c7 c8 c9 c10
        obtain ⟨v0, q0, y0⟩ := HR0.out 0 (by omega)
        obtain ⟨v1, q1, y1⟩ := HR0.out 1 (by omega)
        obtain ⟨v2, q2, y2⟩ := HR0.out 2 (by omega)
        obtain ⟨v3, q3, y3⟩ := HR0.out 3 (by omega)
        obtain ⟨v4, q4, y4⟩ := HR0.out 4 (by omega)
        obtain ⟨v5, q5, y5⟩ := HR0.out 5 (by omega)
        rw [← HO1.out.cell w.heap.size _ hw0 (by omega)] at q0 q1 q2 q3 q4 q5
        rw [← HO1.out.frozen w.heap.size _ hw0 (by omega)] at y0 y1 y2 y3 y4 y5
        go_wp2
        refine bodyPost_ret (v := m'.t.v) (by rw [ht]; simp [results, Tryd.results21, go_sem, Turn.v, q0, q1, q2, q3, q4, q5]) rfl ?_
        refine ⟨m', rfl, ?_, HST.out, ?_⟩
        · exact (((((HM1.out.other _ _ _ (by omega)).other _ _ _ (by omega)).other _ _ _ (by omega)).other _ _ _ (by omega)).other _ _ _ (by omega)).other _ _ _ (by omega)
        · exact ((((((HW0.out.trans HO1.out).setNew _ _ _ (Nat.le_refl _)).setNew _ _ _ (Nat.le_refl _)).setNew _ _ _ (Nat.le_refl _)).setNew _ _ _ (Nat.le_refl _)).setNew _ _ _ (Nat.le_refl _)).setNew _ _ _ (Nat.le_refl _)
      · obtain ⟨ht, hS, hn, hl⟩ := hst
        rw [ht] at c5 c6 c7 c8 c9 c10
        have hne : nm.toList.isEmpty = false := by
          have h0 : ¬ nm.size = 0 := by
            simp only [nameOk, Bool.and_eq_true, decide_eq_true_eq] at hn
            omega
          have := toList_ne h0
          cases h : nm.toList with
          | nil => exact absurd h this
          | cons _ _ => rfl
        clear hS hn hl
        obtain ⟨v0, q0, y0⟩ := HR0.out 0 (by omega)
        obtain ⟨v1, q1, y1⟩ := HR0.out 1 (by omega)
        obtain ⟨v2, q2, y2⟩ := HR0.out 2 (by omega)
        obtain ⟨v3, q3, y3⟩ := HR0.out 3 (by omega)
        obtain ⟨v4, q4, y4⟩ := HR0.out 4 (by omega)
        obtain ⟨v5, q5, y5⟩ := HR0.out 5 (by omega)
        rw [← HO1.out.cell w.heap.size _ hw0 (by omega)] at q0 q1 q2 q3 q4 q5
        rw [← HO1.out.frozen w.heap.size _ hw0 (by omega)] at y0 y1 y2 y3 y4 y5
        go_wp2
        refine bodyPost_ret (v := m'.t.v) (by rw [ht]; simp [results, Tryd.results21, go_sem, Turn.v, q0, q1, q2, q3, q4, q5]) rfl ?_
        refine ⟨m', rfl, ?_, HST.out, ?_⟩
        · exact (((((HM1.out.other _ _ _ (by omega)).other _ _ _ (by omega)).other _ _ _ (by omega)).other _ _ _ (by omega)).other _ _ _ (by omega)).other _ _ _ (by omega)
        · exact ((((((HW0.out.trans HO1.out).setNew _ _ _ (Nat.le_refl _)).setNew _ _ _ (Nat.le_refl _)).setNew _ _ _ (Nat.le_refl _)).setNew _ _ _ (Nat.le_refl _)).setNew _ _ _ (Nat.le_refl _)).setNew _ _ _ (Nat.le_refl _)
theorem run_any (b pb po cnt cap place steps looks : Nat) (f : Nat → Ins) (m : Mst) (stk : List ByteArray) (H : Halt) (w : World) (hM : MAt w b (.slice (some ⟨pb, po, none⟩) cnt cap) m) (hS : Sim m place steps looks stk) (ht : m.t = noTurn) (hE : Env w b pb po cnt f) (hc : cnt ≤ 200) (hok : okTo f cnt = true) (hH : runP f cnt (2001 - steps) place steps looks stk = some H) :
    Calls Tryd.prog 21 #[.pointer (some ⟨b, 0, none⟩)] w fun e w' => ∃ m', e = .returned m'.t.v ∧ MAt w' b (.slice (some ⟨pb, po, none⟩) cnt cap) m' ∧ Stands m' H ∧ Only b w w' :=
  run_all b pb po cnt cap f m H w hM hE hc hok (.inl ⟨ht, place, steps, looks, stk, hS, hH⟩)

end Go.Proofs.YtfhdecheaeoopaaDoor.Vp

/-
  Next, told without a machine: step by step, and look by look.
-/
namespace Go.Proofs.YtfhdecheaeoopaaDoor.Vp
open Go.RowKit

def endT (c : Int) (x : ByteArray) (k : Nat) : Turn := ⟨true, c, x, false, ⟨#[]⟩, k⟩
def waitT (a : Bool) (nm : ByteArray) (k : Nat) : Turn := ⟨false, 0, ⟨#[]⟩, a, nm, k⟩
def nextP (f : Nat → Ins) (cnt : Nat) (y : Nat → Reply) (n : Nat) : Nat → Nat → Nat → Nat → List ByteArray → Turn
  | 0, _, _, _, _ => noTurn
  | k + 1, place, steps, looks, stk => match stepP f cnt place steps looks stk with
    | .inr (.inl (c, x)) => endT c x (stepN cnt place steps)
    | .inl (s, p) => nextP f cnt y n k p (stepN cnt place steps) looks s
    | .inr (.inr (a, nm, s)) => if n ≤ looks then waitT a nm (stepN cnt place steps)
        else if a = false then nextP f cnt y n k (place + 1) (stepN cnt place steps) (looks + 1) (flagT (y looks).has :: s)
        else if (y looks).has = false then endT 4 nm (stepN cnt place steps)
        else if (y looks).code = 0 then nextP f cnt y n k (place + 1) (stepN cnt place steps) (looks + 1) ((y looks).text :: s)
        else endT 5 nm (stepN cnt place steps)
/-- How a run goes on where it halts; l looks have been, that at which it halts counted. -/
def contP (f : Nat → Ins) (cnt : Nat) (y : Nat → Reply) (n : Nat) : Halt → Turn
  | .inl (c, x, k) => endT c x k
  | .inr (a, nm, s, p, k, l) => if n ≤ l - 1 then waitT a nm k
      else if a = false then nextP f cnt y n (2001 - k) p k l (flagT (y (l - 1)).has :: s)
      else if (y (l - 1)).has = false then endT 4 nm k
      else if (y (l - 1)).code = 0 then nextP f cnt y n (2001 - k) p k l ((y (l - 1)).text :: s)
      else endT 5 nm k
def looksOf (looks : Nat) : Halt → Prop
  | .inl (_, _, _) => True
  | .inr (_, _, _, _, _, l) => l = looks + 1
theorem stepP_look {f : Nat → Ins} {cnt place steps looks : Nat} {stk s : List ByteArray} {a : Bool} {nm : ByteArray} (h : stepP f cnt place steps looks stk = .inr (.inr (a, nm, s))) : stepN cnt place steps = steps + 1 ∧ steps ≠ 2000 := by
  unfold stepP at h
  unfold stepN
  split at h
  · cases h
  · split at h
    · cases h
    · rename_i h1 h2
      rw [if_neg h1, if_neg h2]
      exact ⟨rfl, h2⟩
theorem next_run (f : Nat → Ins) (cnt : Nat) (y : Nat → Reply) (n : Nat) (k : Nat) : ∀ place steps looks stk H, steps ≤ 2000 → 2001 - steps = k → runP f cnt k place steps looks stk = some H →
    nextP f cnt y n k place steps looks stk = contP f cnt y n H ∧ looksOf looks H := by
  induction k with
  | zero => intro _ _ _ _ _ h1 h2; omega
  | succ k ih =>
    intro place steps looks stk H h1 h2 hr
    rw [runP] at hr
    rw [nextP]
    rcases hs : stepP f cnt place steps looks stk with ⟨s, p⟩ | ⟨c, x⟩ | ⟨a, nm, s⟩
    · obtain ⟨e1, e2⟩ := stepP_go hs
      rw [hs] at hr
      simp only [e1] at hr ⊢
      exact ih _ _ _ _ _ (by omega) (by omega) hr
    · rw [hs] at hr
      simp only [Option.some.injEq] at hr
      subst hr
      exact ⟨rfl, trivial⟩
    · obtain ⟨e1, e2⟩ := stepP_look hs
      rw [hs] at hr
      simp only [Option.some.injEq] at hr
      subst hr
      simp only [contP, e1, Nat.add_sub_cancel, show 2001 - (steps + 1) = k by omega]
      exact ⟨trivial, rfl⟩
end Go.Proofs.YtfhdecheaeoopaaDoor.Vp

/-
  Replies that are valid.
-/
namespace Go.Proofs.YtfhdecheaeoopaaDoor.Vp
open Go.RowKit

def replyOk (r : Reply) : Bool := decide (r.text.size ≤ 2000 ∧ 0 ≤ r.code ∧ r.code ≤ 7)
def repliesTo (y : Nat → Reply) : Nat → Bool
  | 0 => true
  | k + 1 => repliesTo y k && replyOk (y k)
theorem repliesTo_mono {y : Nat → Reply} {k n : Nat} (h : k ≤ n) (hn : repliesTo y n = true) : repliesTo y k = true := by
  induction n with
  | zero => obtain rfl : k = 0 := by omega
            exact hn
  | succ m ih =>
    by_cases e : k = m + 1
    · subst e; exact hn
    · simp only [repliesTo, Bool.and_eq_true] at hn
      exact ih (by omega) hn.1
theorem repliesTo_false {y : Nat → Reply} {k n : Nat} (h : k < n) (hk : replyOk (y k) = false) : repliesTo y n = false := by
  cases e : repliesTo y n with
  | false => rfl
  | true =>
    have h2 := repliesTo_mono (show k + 1 ≤ n by omega) e
    simp [repliesTo, hk] at h2
theorem reply_at {y : Nat → Reply} {k n : Nat} (h : repliesTo y n = true) (hk : k < n) : (y k).text.size ≤ 2000 ∧ 0 ≤ (y k).code ∧ (y k).code ≤ 7 := by
  have := repliesTo_mono (show k + 1 ≤ n by omega) h
  simp only [repliesTo, Bool.and_eq_true, replyOk, decide_eq_true_eq] at this
  exact this.2

end Go.Proofs.YtfhdecheaeoopaaDoor.Vp

/-
  impl: answer. Written by tools/ans.py.
-/
namespace Go.Proofs.YtfhdecheaeoopaaDoor.Vp
open Go.RowKit

theorem box2 (w W1 : World) (cs : Array Value) (ty : TypeId) (T : Obj) (j : Nat) (v : Value) (hz : W1.heap.size = w.heap.size) (hv : cs[j]? = some v) : ((W1.alloc (.cells cs ty)).alloc T).cell? ⟨w.heap.size, j, none⟩ = some v := by
  rw [← hz, ((Below.refl (W1.alloc (.cells cs ty)).heap.size _).alloc (Nat.le_refl _) T).cell (p := ⟨W1.heap.size, j, none⟩) (by simp)]
  simp [hv]
def ansT (m : Mst) (c : Int) : Turn := ⟨true, c, m.t.name, false, ⟨#[]⟩, m.steps⟩

set_option maxHeartbeats 2000000 in
theorem answer_has (b : Nat) (cv : Value) (m : Mst) (x : Bool) (c : Int) (t : ByteArray) (w : World) (hM : MAt w b cv m) (ha : m.t.ask = false) (hs : m.size < 50) :
    Calls Tryd.prog 22 #[.pointer (some ⟨b, 0, none⟩), .agg #[.bool x, .int .i64 c, .string t]] w fun e w' => e = .returned (.tuple #[]) ∧
      MAt w' b cv { m with t := noTurn, S := upd m.S m.size (flagT x), size := m.size + 1 } ∧ Only b w w' := by
  have HM := hide hM
  have hlt := hM.lt
  obtain ⟨⟨c5, z5⟩, ⟨c6, z6⟩, ⟨c7, z7⟩, ⟨c8, z8⟩, ⟨c9, z9⟩, c10, z10⟩ := hM.turn
  rw [ha] at c8
  have HM1 : Hid (MAt ((((((((w.setCell ⟨b, 55, none⟩ (.bool false)).setCell ⟨b, 56, none⟩ (.int .i64 0)).setCell ⟨b, 57, none⟩ (.string ⟨#[]⟩)).setCell ⟨b, 58, none⟩ (.bool false)).setCell ⟨b, 59, none⟩ (.string ⟨#[]⟩)).setCell ⟨b, 60, none⟩ (.int .i64 0)).alloc (.cells #[.bool x, .int .i64 c, .string t] 46)).alloc (.cells #[.bool m.t.over, .int .i64 m.t.code, .string m.t.text, .bool false, .string m.t.name, .int .i64 m.t.steps] 29)) b cv { m with t := noTurn }) := hide (((HM.out.setTurn noTurn).al _).al _)
  have HO1 : Hid (Only b w ((((((((w.setCell ⟨b, 55, none⟩ (.bool false)).setCell ⟨b, 56, none⟩ (.int .i64 0)).setCell ⟨b, 57, none⟩ (.string ⟨#[]⟩)).setCell ⟨b, 58, none⟩ (.bool false)).setCell ⟨b, 59, none⟩ (.string ⟨#[]⟩)).setCell ⟨b, 60, none⟩ (.int .i64 0)).alloc (.cells #[.bool x, .int .i64 c, .string t] 46)).alloc (.cells #[.bool m.t.over, .int .i64 m.t.code, .string m.t.text, .bool false, .string m.t.name, .int .i64 m.t.steps] 29))) := hide (((bset6 (Only.refl b w) noTurn).al _).al _)
  have q0 : ((((((((w.setCell ⟨b, 55, none⟩ (.bool false)).setCell ⟨b, 56, none⟩ (.int .i64 0)).setCell ⟨b, 57, none⟩ (.string ⟨#[]⟩)).setCell ⟨b, 58, none⟩ (.bool false)).setCell ⟨b, 59, none⟩ (.string ⟨#[]⟩)).setCell ⟨b, 60, none⟩ (.int .i64 0)).alloc (.cells #[.bool x, .int .i64 c, .string t] 46)).alloc (.cells #[.bool m.t.over, .int .i64 m.t.code, .string m.t.text, .bool false, .string m.t.name, .int .i64 m.t.steps] 29)).cell? ⟨w.heap.size, 0, none⟩ = some (.bool x) := box2 w _ _ _ _ _ _ (by simp) rfl
  clear hM
  go_enter Tryd.func22, Tryd.ntmps22
  go_wp2_with fail
  clear c5 c6 c7 c8 c9 c10 z5 z6 z7 z8 z9 z10
  generalize ((((((((w.setCell ⟨b, 55, none⟩ (.bool false)).setCell ⟨b, 56, none⟩ (.int .i64 0)).setCell ⟨b, 57, none⟩ (.string ⟨#[]⟩)).setCell ⟨b, 58, none⟩ (.bool false)).setCell ⟨b, 59, none⟩ (.string ⟨#[]⟩)).setCell ⟨b, 60, none⟩ (.int .i64 0)).alloc (.cells #[.bool x, .int .i64 c, .string t] 46)).alloc (.cells #[.bool m.t.over, .int .i64 m.t.code, .string m.t.text, .bool false, .string m.t.name, .int .i64 m.t.steps] 29)) = W at HM1 HO1 q0 ⊢
  go_region_with (first | (go_at_call 36; refine (truth_any _ _).mono ?_; rintro e w1 ⟨rfl, hw1⟩; subst hw1) | (go_at_call 35; refine (put_any b cv { m with t := noTurn } _ _ ?_ hs).mono ?_; (first | exact HM1.out | exact HM1.out.drew | exact HM1.out.drew.drew); rintro e w2 ⟨rfl, hM2, hB2⟩; have HM2 := hide hM2; have HO2 : Hid (Only b w w2) := Only.trans (by repeat (first | exact HO1.out | apply Only.drew)) hB2; clear hM2 hB2))
  all_goals
    go_wp2
    refine end0 rfl rfl ?_
    exact ⟨rfl, HM2.out, HO2.out⟩

set_option maxHeartbeats 2000000 in
theorem answer_ask (b : Nat) (cv : Value) (m : Mst)  (t : ByteArray) (w : World) (hM : MAt w b cv m) (ha : m.t.ask = true) (hs : m.size < 50) :
    Calls Tryd.prog 22 #[.pointer (some ⟨b, 0, none⟩), .agg #[.bool true, .int .i64 0, .string t]] w fun e w' => e = .returned (.tuple #[]) ∧
      MAt w' b cv { m with t := noTurn, S := upd m.S m.size t, size := m.size + 1 } ∧ Only b w w' := by
  have HM := hide hM
  have hlt := hM.lt
  obtain ⟨⟨c5, z5⟩, ⟨c6, z6⟩, ⟨c7, z7⟩, ⟨c8, z8⟩, ⟨c9, z9⟩, c10, z10⟩ := hM.turn
  rw [ha] at c8
  have HM1 : Hid (MAt ((((((((w.setCell ⟨b, 55, none⟩ (.bool false)).setCell ⟨b, 56, none⟩ (.int .i64 0)).setCell ⟨b, 57, none⟩ (.string ⟨#[]⟩)).setCell ⟨b, 58, none⟩ (.bool false)).setCell ⟨b, 59, none⟩ (.string ⟨#[]⟩)).setCell ⟨b, 60, none⟩ (.int .i64 0)).alloc (.cells #[.bool true, .int .i64 0, .string t] 46)).alloc (.cells #[.bool m.t.over, .int .i64 m.t.code, .string m.t.text, .bool true, .string m.t.name, .int .i64 m.t.steps] 29)) b cv { m with t := noTurn }) := hide (((HM.out.setTurn noTurn).al _).al _)
  have HO1 : Hid (Only b w ((((((((w.setCell ⟨b, 55, none⟩ (.bool false)).setCell ⟨b, 56, none⟩ (.int .i64 0)).setCell ⟨b, 57, none⟩ (.string ⟨#[]⟩)).setCell ⟨b, 58, none⟩ (.bool false)).setCell ⟨b, 59, none⟩ (.string ⟨#[]⟩)).setCell ⟨b, 60, none⟩ (.int .i64 0)).alloc (.cells #[.bool true, .int .i64 0, .string t] 46)).alloc (.cells #[.bool m.t.over, .int .i64 m.t.code, .string m.t.text, .bool true, .string m.t.name, .int .i64 m.t.steps] 29))) := hide (((bset6 (Only.refl b w) noTurn).al _).al _)
  have q2 : ((((((((w.setCell ⟨b, 55, none⟩ (.bool false)).setCell ⟨b, 56, none⟩ (.int .i64 0)).setCell ⟨b, 57, none⟩ (.string ⟨#[]⟩)).setCell ⟨b, 58, none⟩ (.bool false)).setCell ⟨b, 59, none⟩ (.string ⟨#[]⟩)).setCell ⟨b, 60, none⟩ (.int .i64 0)).alloc (.cells #[.bool true, .int .i64 0, .string t] 46)).alloc (.cells #[.bool m.t.over, .int .i64 m.t.code, .string m.t.text, .bool true, .string m.t.name, .int .i64 m.t.steps] 29)).cell? ⟨w.heap.size, 2, none⟩ = some (.string t) := box2 w _ _ _ _ _ _ (by simp) rfl
  clear hM
  go_enter Tryd.func22, Tryd.ntmps22
  go_wp2_with fail
  clear c5 c6 c7 c8 c9 c10 z5 z6 z7 z8 z9 z10
  generalize ((((((((w.setCell ⟨b, 55, none⟩ (.bool false)).setCell ⟨b, 56, none⟩ (.int .i64 0)).setCell ⟨b, 57, none⟩ (.string ⟨#[]⟩)).setCell ⟨b, 58, none⟩ (.bool false)).setCell ⟨b, 59, none⟩ (.string ⟨#[]⟩)).setCell ⟨b, 60, none⟩ (.int .i64 0)).alloc (.cells #[.bool true, .int .i64 0, .string t] 46)).alloc (.cells #[.bool m.t.over, .int .i64 m.t.code, .string m.t.text, .bool true, .string m.t.name, .int .i64 m.t.steps] 29)) = W at HM1 HO1 q2 ⊢
  go_region_with (go_at_call 35; refine (put_any b cv { m with t := noTurn } _ _ ?_ hs).mono ?_; (first | exact HM1.out | exact HM1.out.drew | exact HM1.out.drew.drew); rintro e w2 ⟨rfl, hM2, hB2⟩; have HM2 := hide hM2; have HO2 : Hid (Only b w w2) := Only.trans (by repeat (first | exact HO1.out | apply Only.drew)) hB2; clear hM2 hB2)
  all_goals
    go_wp2
    refine end0 rfl rfl ?_
    exact ⟨rfl, HM2.out, HO2.out⟩

set_option maxHeartbeats 2000000 in
theorem answer_missing (b : Nat) (cv : Value) (m : Mst) (c : Int) (t : ByteArray) (w : World) (hM : MAt w b cv m) (ha : m.t.ask = true) :
    Calls Tryd.prog 22 #[.pointer (some ⟨b, 0, none⟩), .agg #[.bool false, .int .i64 c, .string t]] w fun e w' => e = .returned (.tuple #[]) ∧
      MAt w' b cv { m with t := ansT m 4 } ∧ Only b w w' := by
  have HM := hide hM
  have hlt := hM.lt
  obtain ⟨⟨c5, z5⟩, ⟨c6, z6⟩, ⟨c7, z7⟩, ⟨c8, z8⟩, ⟨c9, z9⟩, c10, z10⟩ := hM.turn
  rw [ha] at c8
  have HM1 : Hid (MAt ((((((((w.setCell ⟨b, 55, none⟩ (.bool false)).setCell ⟨b, 56, none⟩ (.int .i64 0)).setCell ⟨b, 57, none⟩ (.string ⟨#[]⟩)).setCell ⟨b, 58, none⟩ (.bool false)).setCell ⟨b, 59, none⟩ (.string ⟨#[]⟩)).setCell ⟨b, 60, none⟩ (.int .i64 0)).alloc (.cells #[.bool false, .int .i64 c, .string t] 46)).alloc (.cells #[.bool m.t.over, .int .i64 m.t.code, .string m.t.text, .bool true, .string m.t.name, .int .i64 m.t.steps] 29)) b cv { m with t := noTurn }) := hide (((HM.out.setTurn noTurn).al _).al _)
  have HO1 : Hid (Only b w ((((((((w.setCell ⟨b, 55, none⟩ (.bool false)).setCell ⟨b, 56, none⟩ (.int .i64 0)).setCell ⟨b, 57, none⟩ (.string ⟨#[]⟩)).setCell ⟨b, 58, none⟩ (.bool false)).setCell ⟨b, 59, none⟩ (.string ⟨#[]⟩)).setCell ⟨b, 60, none⟩ (.int .i64 0)).alloc (.cells #[.bool false, .int .i64 c, .string t] 46)).alloc (.cells #[.bool m.t.over, .int .i64 m.t.code, .string m.t.text, .bool true, .string m.t.name, .int .i64 m.t.steps] 29))) := hide (((bset6 (Only.refl b w) noTurn).al _).al _)
  clear hM
  go_enter Tryd.func22, Tryd.ntmps22
  go_wp2_with fail
  clear c5 c6 c7 c8 c9 c10 z5 z6 z7 z8 z9 z10
  generalize ((((((((w.setCell ⟨b, 55, none⟩ (.bool false)).setCell ⟨b, 56, none⟩ (.int .i64 0)).setCell ⟨b, 57, none⟩ (.string ⟨#[]⟩)).setCell ⟨b, 58, none⟩ (.bool false)).setCell ⟨b, 59, none⟩ (.string ⟨#[]⟩)).setCell ⟨b, 60, none⟩ (.int .i64 0)).alloc (.cells #[.bool false, .int .i64 c, .string t] 46)).alloc (.cells #[.bool m.t.over, .int .i64 m.t.code, .string m.t.text, .bool true, .string m.t.name, .int .i64 m.t.steps] 29)) = W at HM1 HO1  ⊢
  refine (end_any b cv { m with t := noTurn } _ _ _ HM1.out).mono ?_
  rintro e w2 ⟨rfl, hM2, hB2⟩
  have HM2 := hide hM2
  have HO2 : Hid (Only b w w2) := HO1.out.trans hB2
  clear hM2 hB2
  all_goals
    go_wp2
    refine end0 rfl rfl ?_
    exact ⟨rfl, HM2.out, HO2.out⟩

set_option maxHeartbeats 2000000 in
theorem answer_below (b : Nat) (cv : Value) (m : Mst) (c : Int) (t : ByteArray) (w : World) (hM : MAt w b cv m) (ha : m.t.ask = true) (hc : (c == 0) = false) :
    Calls Tryd.prog 22 #[.pointer (some ⟨b, 0, none⟩), .agg #[.bool true, .int .i64 c, .string t]] w fun e w' => e = .returned (.tuple #[]) ∧
      MAt w' b cv { m with t := ansT m 5 } ∧ Only b w w' := by
  have HM := hide hM
  have hlt := hM.lt
  obtain ⟨⟨c5, z5⟩, ⟨c6, z6⟩, ⟨c7, z7⟩, ⟨c8, z8⟩, ⟨c9, z9⟩, c10, z10⟩ := hM.turn
  rw [ha] at c8
  have HM1 : Hid (MAt ((((((((w.setCell ⟨b, 55, none⟩ (.bool false)).setCell ⟨b, 56, none⟩ (.int .i64 0)).setCell ⟨b, 57, none⟩ (.string ⟨#[]⟩)).setCell ⟨b, 58, none⟩ (.bool false)).setCell ⟨b, 59, none⟩ (.string ⟨#[]⟩)).setCell ⟨b, 60, none⟩ (.int .i64 0)).alloc (.cells #[.bool true, .int .i64 c, .string t] 46)).alloc (.cells #[.bool m.t.over, .int .i64 m.t.code, .string m.t.text, .bool true, .string m.t.name, .int .i64 m.t.steps] 29)) b cv { m with t := noTurn }) := hide (((HM.out.setTurn noTurn).al _).al _)
  have HO1 : Hid (Only b w ((((((((w.setCell ⟨b, 55, none⟩ (.bool false)).setCell ⟨b, 56, none⟩ (.int .i64 0)).setCell ⟨b, 57, none⟩ (.string ⟨#[]⟩)).setCell ⟨b, 58, none⟩ (.bool false)).setCell ⟨b, 59, none⟩ (.string ⟨#[]⟩)).setCell ⟨b, 60, none⟩ (.int .i64 0)).alloc (.cells #[.bool true, .int .i64 c, .string t] 46)).alloc (.cells #[.bool m.t.over, .int .i64 m.t.code, .string m.t.text, .bool true, .string m.t.name, .int .i64 m.t.steps] 29))) := hide (((bset6 (Only.refl b w) noTurn).al _).al _)
  clear hM
  go_enter Tryd.func22, Tryd.ntmps22
  go_wp2_with fail
  clear c5 c6 c7 c8 c9 c10 z5 z6 z7 z8 z9 z10
  generalize ((((((((w.setCell ⟨b, 55, none⟩ (.bool false)).setCell ⟨b, 56, none⟩ (.int .i64 0)).setCell ⟨b, 57, none⟩ (.string ⟨#[]⟩)).setCell ⟨b, 58, none⟩ (.bool false)).setCell ⟨b, 59, none⟩ (.string ⟨#[]⟩)).setCell ⟨b, 60, none⟩ (.int .i64 0)).alloc (.cells #[.bool true, .int .i64 c, .string t] 46)).alloc (.cells #[.bool m.t.over, .int .i64 m.t.code, .string m.t.text, .bool true, .string m.t.name, .int .i64 m.t.steps] 29)) = W at HM1 HO1  ⊢
  refine (end_any b cv { m with t := noTurn } _ _ _ HM1.out).mono ?_
  rintro e w2 ⟨rfl, hM2, hB2⟩
  have HM2 := hide hM2
  have HO2 : Hid (Only b w w2) := HO1.out.trans hB2
  clear hM2 hB2
  all_goals
    go_wp2
    refine end0 rfl rfl ?_
    exact ⟨rfl, HM2.out, HO2.out⟩

end Go.Proofs.YtfhdecheaeoopaaDoor.Vp
