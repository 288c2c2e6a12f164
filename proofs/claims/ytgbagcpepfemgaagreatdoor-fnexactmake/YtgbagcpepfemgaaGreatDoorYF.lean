import Derived.Test.YtgbagcpepfemgaaGreatDoorYE
import Derived.Deep.LoopGhost
namespace Go.Proofs.YtgbagcpepfemgaaGreatDoor.Vp
open Go.RowKit
def SoNext (f : Nat → Ins) (cnt : Nat) (y : Nat → Reply) (n : Nat) (T : Turn) (st : Nat) : SO → Prop
  | .over c x k => T = endT c x k
  | .wait a nm k => T = waitT a nm k
  | .go p k l s => k = st + 1 ∧ k ≤ 2000 ∧ nextP f cnt y n (2001 - k) p k l s = T ∧ p ≤ 2000 ∧ l ≤ 200 ∧ s.length ≤ 50 ∧ ∀ x ∈ s, x.size ≤ 2000
theorem stepP_fine2 {f : Nat → Ins} {cnt place steps looks : Nat} {stk : List ByteArray} (hl : stk.length ≤ 50) (hle : ∀ x ∈ stk, x.size ≤ 2000) (hlk : looks ≤ 200) (hok : okTo f cnt = true) (hc : cnt ≤ 200) : Fine (stepP f cnt place steps looks stk) looks := by
  unfold stepP
  split
  · trivial
  · rename_i h1
    split
    · trivial
    · split
      · trivial
      · rename_i h3
        have hi := ok_at hok (show place < cnt by omega)
        simp only [insOk, decide_eq_true_eq] at hi
        obtain ⟨i1, i2, i3, i4, i5⟩ := hi
        have hmt : mostN (f place).op ≤ 2000 := by unfold mostN; split <;> (try split) <;> omega
        have hmt2 : mostText (f place).op ≤ 2000 := by unfold mostText; split <;> omega
        exact performP_fine _ _ _ _ _ _ hl hle (by omega) (by omega) (by omega) hlk (by omega) (by omega) (by simpa using h3)
theorem stepP_place {f : Nat → Ins} {cnt place steps looks : Nat} {stk : List ByteArray} {a : Bool} {nm : ByteArray} {s : List ByteArray} (h : stepP f cnt place steps looks stk = .look a nm s) : place < cnt := by
  unfold stepP at h
  split at h
  · cases h
  · omega
theorem so_next {f : Nat → Ins} {cnt : Nat} {y : Nat → Reply} {n : Nat} {T : Turn} {p st l : Nat} {s : List ByteArray} (hst : st ≤ 2000) (hl : l ≤ 200) (hs : s.length ≤ 50) (hle : ∀ x ∈ s, x.size ≤ 2000) (hok : okTo f cnt = true) (hc : cnt ≤ 200) (hr : repliesTo y n = true)
    (hT : nextP f cnt y n (2001 - st) p st l s = T) : SoNext f cnt y n T st (sstepP f cnt y n p st l s) := by
  obtain ⟨j, hj⟩ : ∃ j, 2001 - st = j + 1 := ⟨2000 - st, by omega⟩
  rw [hj, nextP] at hT
  have hF := stepP_fine2 (place := p) (steps := st) hs hle hl hok hc
  unfold sstepP
  cases h : stepP f cnt p st l s with
  | over c x =>
    rw [h] at hT
    exact hT.symm
  | go s' p' =>
    rw [h] at hT hF
    obtain ⟨e1, e2⟩ := stepP_go h
    obtain ⟨f1, f2, f3⟩ := hF
    simp only [e1] at hT ⊢
    exact ⟨rfl, by omega, by rw [show 2001 - (st + 1) = j by omega]; exact hT, f3, hl, f1, f2⟩
  | look a nm s' =>
    rw [h] at hT hF
    obtain ⟨e1, e2⟩ := stepP_look h
    obtain ⟨f1, f2, f3, f4⟩ := hF
    have hp := stepP_place h
    simp only [e1] at hT ⊢
    simp only [soOf, afterLook]
    by_cases h1 : n ≤ l
    · rw [if_pos h1] at hT ⊢
      exact hT.symm
    · rw [if_neg h1] at hT ⊢
      by_cases h2 : a = false
      · rw [if_pos h2] at hT ⊢
        refine ⟨rfl, by omega, by rw [show 2001 - (st + 1) = j by omega]; exact hT, by omega, by omega, by simp; omega, fun x hx => ?_⟩
        rcases List.mem_cons.1 hx with rfl | hx
        · exact flagT_size _
        · exact f2 x hx
      · rw [if_neg h2] at hT ⊢
        by_cases h3 : (y l).has = false
        · rw [if_pos h3] at hT ⊢
          exact hT.symm
        · rw [if_neg h3] at hT ⊢
          by_cases h4 : (y l).code = 0
          · rw [if_pos h4] at hT ⊢
            refine ⟨rfl, by omega, by rw [show 2001 - (st + 1) = j by omega]; exact hT, by omega, by omega, by simp; omega, fun x hx => ?_⟩
            rcases List.mem_cons.1 hx with rfl | hx
            · exact (reply_at hr (show l < n by omega)).1
            · exact f2 x hx
          · rw [if_neg h4] at hT ⊢
            exact hT.symm
theorem Ten.put {w : World} {g : Nat} {v0 v1 v2 v3 v4 v5 v6 v7 v8 v9 : Value} (h : Ten w g v0 v1 v2 v3 v4 v5 v6 v7 v8 v9) (u0 u1 u2 u3 u4 u5 u6 u7 u8 u9 : Value) : Ten ((((((((((w.setCell ⟨g, 0, none⟩ u0).setCell ⟨g, 1, none⟩ u1).setCell ⟨g, 2, none⟩ u2).setCell ⟨g, 3, none⟩ u3).setCell ⟨g, 4, none⟩ u4).setCell ⟨g, 5, none⟩ u5).setCell ⟨g, 6, none⟩ u6).setCell ⟨g, 7, none⟩ u7).setCell ⟨g, 8, none⟩ u8).setCell ⟨g, 9, none⟩ u9) g u0 u1 u2 u3 u4 u5 u6 u7 u8 u9 :=
  (((((((((h.set0 u0).set1 u1).set2 u2).set3 u3).set4 u4).set5 u5).set6 u6).set7 u7).set8 u8).set9 u9
theorem only_ten {g : Nat} {u w : World} (h : Only g u w) (u0 u1 u2 u3 u4 u5 u6 u7 u8 u9 : Value) : Only g u ((((((((((w.setCell ⟨g, 0, none⟩ u0).setCell ⟨g, 1, none⟩ u1).setCell ⟨g, 2, none⟩ u2).setCell ⟨g, 3, none⟩ u3).setCell ⟨g, 4, none⟩ u4).setCell ⟨g, 5, none⟩ u5).setCell ⟨g, 6, none⟩ u6).setCell ⟨g, 7, none⟩ u7).setCell ⟨g, 8, none⟩ u8).setCell ⟨g, 9, none⟩ u9) :=
  bset (bset (bset (bset (bset (bset (bset (bset (bset (bset h 0 u0) 1 u1) 2 u2) 3 u3) 4 u4) 5 u5) 6 u6) 7 u7) 8 u8) 9 u9
def Stands2 (w : World) (g base : Nat) (f : Nat → Ins) (cnt : Nat) (y : Nat → Reply) (n : Nat) (T : Turn) (k : Nat) : Prop :=
  (∃ p st l s a cap, Ten w g (.int .i64 (p : Nat)) (.slice a (List.length s) cap) (.int .i64 (st : Nat)) (.int .i64 (l : Nat)) (.bool false) (.int .i64 0) (.string ⟨#[]⟩) (.bool false) (.string ⟨#[]⟩) (.bool false) ∧ w.ownsRow base 9 1 (.slice a s.length cap) s.length (strs s) ∧
    st ≤ 2000 ∧ nextP f cnt y n (2001 - st) p st l s = T ∧ p ≤ 2000 ∧ l ≤ 200 ∧ s.length ≤ 50 ∧ (∀ x ∈ s, x.size ≤ 2000) ∧ 2002 - st ≤ k) ∨
  (∃ at_ sv lk c x, ∃ st : Nat, Ten w g at_ sv (.int .i64 st) lk (.bool true) (.int .i64 c) (.string x) (.bool false) (.string ⟨#[]⟩) (.bool false) ∧ T = endT c x st) ∨
  (∃ at_ sv lk a nm, ∃ st : Nat, Ten w g at_ sv (.int .i64 st) lk (.bool false) (.int .i64 0) (.string ⟨#[]⟩) (.bool a) (.string nm) (.bool true) ∧ T = waitT a nm st)
end Go.Proofs.YtgbagcpepfemgaaGreatDoor.Vp
namespace Go.Proofs.YtgbagcpepfemgaaGreatDoor.Vp
open Go.RowKit
theorem ten_low {w : World} {base n cap : Nat} {e : TypeId} {a : Option Addr} {xs : List Value} (h : w.ownsRow base e 1 (.slice a n cap) n xs) {k : Nat} (hk : k < base) (v0 v1 v2 v3 v4 v5 v6 v7 v8 v9 : Value) : World.ownsRow ((((((((((w.setCell ⟨k, 0, none⟩ v0).setCell ⟨k, 1, none⟩ v1).setCell ⟨k, 2, none⟩ v2).setCell ⟨k, 3, none⟩ v3).setCell ⟨k, 4, none⟩ v4).setCell ⟨k, 5, none⟩ v5).setCell ⟨k, 6, none⟩ v6).setCell ⟨k, 7, none⟩ v7).setCell ⟨k, 8, none⟩ v8).setCell ⟨k, 9, none⟩ v9) base e 1 (.slice a n cap) n xs := by
  have s : ∀ {w : World} (j : Nat) (u : Value), w.ownsRow base e 1 (.slice a n cap) n xs → (w.setCell ⟨k, j, none⟩ u).ownsRow base e 1 (.slice a n cap) n xs := fun j u h => ownsRow_setCell_below h (a := ⟨k, j, none⟩) hk u
  exact s 9 v9 (s 8 v8 (s 7 v7 (s 6 v6 (s 5 v5 (s 4 v4 (s 3 v3 (s 2 v2 (s 1 v1 (s 0 v0 h)))))))))
set_option maxHeartbeats 2000000 in
theorem specNext_no1 (pb po cnt cap n cap2 : Nat) (a2 : Option Addr) (f : Nat → Ins) (w : World) (hn : cnt ≤ 1048576) (hv : valid f cnt = false) (hP : RowIns w pb po cnt f) (hs : ∀ i, i < cnt → (f i).s.size ≤ maxLen) :
    Calls Tryz.prog 88 #[.agg #[.slice (some ⟨pb, po, none⟩) cnt cap], .slice a2 n cap2] w fun e w' => e = .returned badT.v ∧ Below w.heap.size w w' := by
  have HP := hide hP
  have A0 := hide ((((Below.refl w.heap.size w).alloc (Nat.le_refl _) (.cells #[.slice (some ⟨pb, po, none⟩) cnt cap] 73))).alloc (by simp) (.cells #[.bool false, .int .i64 0, .string ⟨#[]⟩, .bool false, .string ⟨#[]⟩, .int .i64 0] 155))
  have hx0 := six_new (w.alloc (.cells #[.slice (some ⟨pb, po, none⟩) cnt cap] 73)) (.bool false) (.int .i64 0) (.string ⟨#[]⟩) (.bool false) (.string ⟨#[]⟩) (.int .i64 0) 155
  rw [show (w.alloc (.cells #[.slice (some ⟨pb, po, none⟩) cnt cap] 73)).heap.size = w.heap.size + 1 by simp] at hx0
  have X0 := hide hx0
  have IV := fun w' h1 h2 => specValid_row pb po cnt cap f w' hn h1 h2 hs
  rw [hv] at IV
  have HIV := hide IV
  clear hx0 IV hP hs hv
  go_enter Tryz.func88, Tryz.ntmps88
  go_wp2_with fail
  have P1 := hide (HP.out.below A0.out (Nat.le_refl _))
  refine (HIV.out _ P1.out.1 P1.out.2).mono ?_
  rintro e w1 ⟨rfl, hB1⟩
  have HX := hide (X0.out.below hB1 (by simp))
  have B1 := hide (A0.out.trans (hB1.mono (by simp; omega)))
  clear hB1 A0 X0 P1
  obtain ⟨v0, q0, y0⟩ := HX.out.2 0 (by omega)
  obtain ⟨v1, q1, y1⟩ := HX.out.2 1 (by omega)
  obtain ⟨v2, q2, y2⟩ := HX.out.2 2 (by omega)
  obtain ⟨v3, q3, y3⟩ := HX.out.2 3 (by omega)
  obtain ⟨v4, q4, y4⟩ := HX.out.2 4 (by omega)
  obtain ⟨v5, q5, y5⟩ := HX.out.2 5 (by omega)
  go_wp2
  refine bodyPost_ret (v := badT.v) (by simp [results, Tryz.results88, go_sem, Turn.v, badT, q0, q1, q2, q3, q4, q5]) rfl ⟨rfl, six_set B1.out (by omega) _ _ _ _ _ _⟩
set_option maxHeartbeats 2000000 in
theorem specNext_no2 (pb po cnt cap n cap2 : Nat) (a2 : Option Addr) (f : Nat → Ins) (w : World) (hn : cnt ≤ 1048576) (hv : valid f cnt = true) (hP : RowIns w pb po cnt f) (hs : ∀ i, i < cnt → (f i).s.size ≤ maxLen) (hn2 : 200 < (n : Int)) :
    Calls Tryz.prog 88 #[.agg #[.slice (some ⟨pb, po, none⟩) cnt cap], .slice a2 n cap2] w fun e w' => e = .returned badT.v ∧ Below w.heap.size w w' := by
  have HP := hide hP
  have A0 := hide ((((Below.refl w.heap.size w).alloc (Nat.le_refl _) (.cells #[.slice (some ⟨pb, po, none⟩) cnt cap] 73))).alloc (by simp) (.cells #[.bool false, .int .i64 0, .string ⟨#[]⟩, .bool false, .string ⟨#[]⟩, .int .i64 0] 155))
  have hx0 := six_new (w.alloc (.cells #[.slice (some ⟨pb, po, none⟩) cnt cap] 73)) (.bool false) (.int .i64 0) (.string ⟨#[]⟩) (.bool false) (.string ⟨#[]⟩) (.int .i64 0) 155
  rw [show (w.alloc (.cells #[.slice (some ⟨pb, po, none⟩) cnt cap] 73)).heap.size = w.heap.size + 1 by simp] at hx0
  have X0 := hide hx0
  have IV := fun w' h1 h2 => specValid_row pb po cnt cap f w' hn h1 h2 hs
  rw [hv] at IV
  have HIV := hide IV
  clear hx0 IV hP hs hv
  go_enter Tryz.func88, Tryz.ntmps88
  go_wp2_with fail
  have P1 := hide (HP.out.below A0.out (Nat.le_refl _))
  refine (HIV.out _ P1.out.1 P1.out.2).mono ?_
  rintro e w1 ⟨rfl, hB1⟩
  have HX := hide (X0.out.below hB1 (by simp))
  have B1 := hide (A0.out.trans (hB1.mono (by simp; omega)))
  clear hB1 A0 X0 P1
  obtain ⟨v0, q0, y0⟩ := HX.out.2 0 (by omega)
  obtain ⟨v1, q1, y1⟩ := HX.out.2 1 (by omega)
  obtain ⟨v2, q2, y2⟩ := HX.out.2 2 (by omega)
  obtain ⟨v3, q3, y3⟩ := HX.out.2 3 (by omega)
  obtain ⟨v4, q4, y4⟩ := HX.out.2 4 (by omega)
  obtain ⟨v5, q5, y5⟩ := HX.out.2 5 (by omega)
  go_wp2
  refine bodyPost_ret (v := badT.v) (by simp [results, Tryz.results88, go_sem, Turn.v, badT, q0, q1, q2, q3, q4, q5]) rfl ⟨rfl, six_set B1.out (by omega) _ _ _ _ _ _⟩
set_option maxHeartbeats 4000000 in
theorem specNext_ok (pb po cnt cap b2 o2 n cap2 : Nat) (f : Nat → Ins) (y : Nat → Reply) (w : World) (hn : cnt ≤ 1048576) (hv : valid f cnt = true) (hn2 : (n : Int) ≤ 200) (hP : RowIns w pb po cnt f) (hY : RowReply w b2 o2 n y) (hs : ∀ i, i < cnt → (f i).s.size ≤ maxLen) (T : Turn) (hT : T = if repliesTo y n = false then badT else nextP f cnt y n 2001 0 0 0 []) :
    Calls Tryz.prog 88 #[.agg #[.slice (some ⟨pb, po, none⟩) cnt cap], .slice (some ⟨b2, o2, none⟩) n cap2] w fun e w' => e = .returned T.v ∧ Below w.heap.size w w' := by
  have HV := hide (valid_parts hv).1
  have hc2 : cnt ≤ 200 := by have := (valid_parts hv).2.2; omega
  have HY := hide hY
  have HT := hide hT
  clear hY hT
  have HP := hide hP
  have A0 := hide ((((Below.refl w.heap.size w).alloc (Nat.le_refl _) (.cells #[.slice (some ⟨pb, po, none⟩) cnt cap] 73))).alloc (by simp) (.cells #[.bool false, .int .i64 0, .string ⟨#[]⟩, .bool false, .string ⟨#[]⟩, .int .i64 0] 155))
  have hx0 := six_new (w.alloc (.cells #[.slice (some ⟨pb, po, none⟩) cnt cap] 73)) (.bool false) (.int .i64 0) (.string ⟨#[]⟩) (.bool false) (.string ⟨#[]⟩) (.int .i64 0) 155
  rw [show (w.alloc (.cells #[.slice (some ⟨pb, po, none⟩) cnt cap] 73)).heap.size = w.heap.size + 1 by simp] at hx0
  have X0 := hide hx0
  have IV := fun w' h1 h2 => specValid_row pb po cnt cap f w' hn h1 h2 hs
  rw [hv] at IV
  have HIV := hide IV
  clear hx0 IV hP hs hv
  go_enter Tryz.func88, Tryz.ntmps88
  go_wp2_with fail
  have P1 := hide (HP.out.below A0.out (Nat.le_refl _))
  refine (HIV.out _ P1.out.1 P1.out.2).mono ?_
  rintro e w1 ⟨rfl, hB1⟩
  have c1 : w1.cell? ⟨w.heap.size, 0, none⟩ = some (.slice (some ⟨pb, po, none⟩) cnt cap) := (hB1.cell (p := ⟨w.heap.size, 0, none⟩) (by simp; omega)).trans (by simp)
  have HX := hide (X0.out.below hB1 (by simp))
  have B1 := hide (A0.out.trans (hB1.mono (by simp; omega)))
  have z1 : w.heap.size + 1 < w1.heap.size := HX.out.1
  clear hB1 A0 X0 P1
  have HY1 := hide (HY.out.below B1.out (Nat.le_refl _))
  go_wp2_with fail
  go_loopw [5] (fun i wr => ∃ j : Nat, j ≤ n ∧ i = .int .i64 j ∧ Hid (repliesTo y j = true) ∧ Below w1.heap.size w1 wr) (fun i _ => n - (intOf i).toNat)
  case atStart => exact ⟨0, by omega, rfl, rfl, Below.refl _ _⟩
  case round =>
    obtain ⟨j, hj, rfl, HK, hB⟩ := hrel
    have HX2 := hide (HX.out.below hB HX.out.1)
    have HB := hide (B1.out.trans (hB.mono B1.out.size))
    have cp : wr.cell? ⟨w.heap.size, 0, none⟩ = some (.slice (some ⟨pb, po, none⟩) cnt cap) := (hB.cell (p := ⟨w.heap.size, 0, none⟩) (by simp; omega)).trans c1
    have zr : w.heap.size + 1 < wr.heap.size := HX2.out.1
    have HBw := hide hB
    clear hB
    by_cases hlt : j < n
    · obtain ⟨d0, d1, d2⟩ := (HY.out.below HB.out (Nat.le_refl _)).2 j hlt
      obtain ⟨v0, q0, y0⟩ := HX2.out.2 0 (by omega)
      obtain ⟨v1, q1, y1⟩ := HX2.out.2 1 (by omega)
      obtain ⟨v2, q2, y2⟩ := HX2.out.2 2 (by omega)
      obtain ⟨v3, q3, y3⟩ := HX2.out.2 3 (by omega)
      obtain ⟨v4, q4, y4⟩ := HX2.out.2 4 (by omega)
      obtain ⟨v5, q5, y5⟩ := HX2.out.2 5 (by omega)
      by_cases g1 : ((y j).text.size : Int) ≤ 2000
      · by_cases g2 : 0 ≤ (y j).code
        · by_cases g3 : (y j).code ≤ 7
          · go_wp2
            refine ⟨⟨j + 1, by omega, by go_num, ?_, ?_⟩, by simp [intOf]; omega⟩
            · show repliesTo y (j + 1) = true
              simp only [repliesTo, HK.out, replyOk, Bool.true_and, decide_eq_true_eq]
              omega
            · exact HBw.out
          · go_wp2
            have eT : T = badT := by rw [HT.out, if_pos (repliesTo_false hlt (by simp only [replyOk, decide_eq_false_iff_not]; omega))]
            refine bodyPost_ret (v := badT.v) (by simp [results, Tryz.results88, go_sem, Turn.v, badT, q0, q1, q2, q3, q4, q5]) rfl ⟨by rw [eT], six_set HB.out (by omega) _ _ _ _ _ _⟩
        · go_wp2
          have eT : T = badT := by rw [HT.out, if_pos (repliesTo_false hlt (by simp only [replyOk, decide_eq_false_iff_not]; omega))]
          refine bodyPost_ret (v := badT.v) (by simp [results, Tryz.results88, go_sem, Turn.v, badT, q0, q1, q2, q3, q4, q5]) rfl ⟨by rw [eT], six_set HB.out (by omega) _ _ _ _ _ _⟩
      · go_wp2
        have eT : T = badT := by rw [HT.out, if_pos (repliesTo_false hlt (by simp only [replyOk, decide_eq_false_iff_not]; omega))]
        refine bodyPost_ret (v := badT.v) (by simp [results, Tryz.results88, go_sem, Turn.v, badT, q0, q1, q2, q3, q4, q5]) rfl ⟨by rw [eT], six_set HB.out (by omega) _ _ _ _ _ _⟩
    · have e : j = n := by omega
      subst e
      have eT : T = nextP f cnt y j 2001 0 0 0 [] := by rw [HT.out, if_neg (by simp [HK.out])]
      have ET := hide eT
      clear eT HT HY1
      have RN := hide (ten_new wr (.int .i64 0) (.slice none 0 0) (.int .i64 0) (.int .i64 0) (.bool false) (.int .i64 0) (.string ⟨#[]⟩) (.bool false) (.string ⟨#[]⟩) (.bool false) 172 wr.heap.size rfl)
      have A2 := hide ((Below.refl wr.heap.size wr).alloc (Nat.le_refl _) (.cells #[.int .i64 0, .slice none 0 0, .int .i64 0, .int .i64 0, .bool false, .int .i64 0, .string ⟨#[]⟩, .bool false, .string ⟨#[]⟩, .bool false] 172))
      have XN := hide (HX2.out.below A2.out HX2.out.1)
      have BN := hide (HB.out.trans (A2.out.mono HB.out.size))
      have cN := (A2.out.cell (p := ⟨w.heap.size, 0, none⟩) (by simp; omega)).trans cp
      have hrb : wr.heap.size < (wr.alloc (.cells #[.int .i64 0, .slice none 0 0, .int .i64 0, .int .i64 0, .bool false, .int .i64 0, .string ⟨#[]⟩, .bool false, .string ⟨#[]⟩, .bool false] 172)).heap.size := by simp
      go_wp2_with fail
      clear c1 cp
      generalize wr.alloc (.cells #[.int .i64 0, .slice none 0 0, .int .i64 0, .int .i64 0, .bool false, .int .i64 0, .string ⟨#[]⟩, .bool false, .string ⟨#[]⟩, .bool false] 172) = W2 at RN XN BN cN hrb ⊢
      generalize wr.heap.size = rb at RN zr hrb ⊢
      have hyb : b2 < rb := Nat.lt_of_lt_of_le HY.out.1 (by omega)
      have hpb : pb < rb := Nat.lt_of_lt_of_le HP.out.1 (by omega)
      have S0 : Hid (Stands2 W2 rb W2.heap.size f cnt y j T 2002) := .inl ⟨0, 0, 0, [], none, 0, RN.out, World.ownsRow_nil _ _ _ _, by omega, ET.out.symm, by omega, by omega, by simp, by simp, by omega⟩
      have PN := hide (HP.out.below BN.out (Nat.le_refl _))
      have YN := hide (HY.out.below BN.out (Nat.le_refl _))
      clear RN ET HX2 HB HBw hlt HX B1 HP HY
      go_loopg [] 2002 (fun g wr => Stands2 wr rb W2.heap.size f cnt y j T g ∧ Only rb W2 wr)
      case atStart => exact ⟨S0.out, Only.refl _ _⟩
      case round =>
        obtain ⟨hst, hO⟩ := hrel
        have HO := hide hO
        have cw : wr.cell? ⟨w.heap.size, 0, none⟩ = some (.slice (some ⟨pb, po, none⟩) cnt cap) := (hO.cell w.heap.size 0 (by omega) (by omega)).trans cN
        have hbr : rb < wr.heap.size := Nat.lt_of_lt_of_le hrb hO.size
        have hLo := hide (hO.below (Nat.le_refl rb) (Nat.le_of_lt hrb))
        have BW := hide (BN.out.trans (hO.below (show w.heap.size ≤ rb by omega) (by omega)))
        have XW := hide (XN.out.only hO (by omega))
        have zw : w.heap.size + 1 < wr.heap.size := XW.out.1
        clear hO
        rcases hst with ⟨p, st, l, s, a, cap', hT10, hown, k1, k2, k3, k4, k5, k6, k7⟩ | ⟨at_, sv, lk, c, x, st, hT10, hE⟩ | ⟨at_, sv, lk, a, nm, st, hT10, hE⟩
        · have T10 := hide hT10
          have OW := hide hown
          have HSo := hide (so_next k1 k4 k5 k6 HV.out hc2 HK.out k2)
          have K6 := hide k6
          have PW : Hid (RowIns wr pb po cnt f) := ⟨Nat.lt_of_lt_of_le PN.out.1 HO.out.size, fun i hi => (PN.out.2 i hi).below hLo.out hpb⟩
          have YW : Hid (RowReply wr b2 o2 j y) := ⟨Nat.lt_of_lt_of_le YN.out.1 HO.out.size, fun i hi => (YN.out.2 i hi).below hLo.out hyb⟩
          obtain ⟨chl, ⟨c0, f0⟩, ⟨c1, f1⟩, ⟨c2, f2⟩, ⟨c3, f3⟩, ⟨c4, f4⟩, ⟨c5, f5⟩, ⟨c6, f6⟩, ⟨c7, f7⟩, ⟨c8, f8⟩, c9, f9⟩ := hT10
          clear hown k2 k6
          go_wp2_with fail
          refine (l1Step_any pb po cnt cap p st l f a s cap' b2 o2 j cap2 W2.heap.size y _ PW.out YW.out OW.out k3 k1 k4 k5 K6.out HV.out).mono ?_
          rintro e w3 ⟨v, rfl, hso, hB3⟩
          have T3 := hide (T10.out.below hB3 hbr)
          have O3 := hide (HO.out.bel hB3)
          clear chl c0 f0 c1 f1 c2 f2 c3 f3 c4 f4 c5 f5 c6 f6 c7 f7 c8 f8 c9 f9
          clear hB3
          have hNx := HSo.out
          obtain ⟨g, rfl⟩ : ∃ g, gk = g + 1 := ⟨gk - 1, by omega⟩
          generalize sstepP f cnt y j p st l s = so at hso hNx
          cases so with
          | go p' st' l' s' =>
            obtain ⟨a', c', rfl, ho'⟩ := hso
            obtain ⟨m1, m2, m3, m4, m5, m6, m7⟩ := hNx
            have OE := hide ho'
            have M3 := hide m3
            have M7 := hide m7
            have M1 := hide m1
            clear ho' m3 m7 m1
            obtain ⟨ehl, ⟨e0, u0⟩, ⟨e1, u1⟩, ⟨e2, u2⟩, ⟨e3, u3⟩, ⟨e4, u4⟩, ⟨e5, u5⟩, ⟨e6, u6⟩, ⟨e7, u7⟩, ⟨e8, u8⟩, e9, u9⟩ := T3.out
            go_wp2
            go_roundg g
            case measure => omega
            case rel => exact ⟨.inl ⟨p', st', l', s', a', c', T3.out.put _ _ _ _ _ _ _ _ _ _, own_mono (ten_low OE.out hbr _ _ _ _ _ _ _ _ _ _) HO.out.size, m2, M3.out, m4, m5, m6, M7.out, by have := M1.out; omega⟩, only_ten O3.out _ _ _ _ _ _ _ _ _ _⟩
          | over c x k =>
            obtain ⟨at_, a', n', c', lk, rfl⟩ := hso
            have hE : T = endT c x k := hNx
            have HE := hide hE
            clear hE hNx
            obtain ⟨ehl, ⟨e0, u0⟩, ⟨e1, u1⟩, ⟨e2, u2⟩, ⟨e3, u3⟩, ⟨e4, u4⟩, ⟨e5, u5⟩, ⟨e6, u6⟩, ⟨e7, u7⟩, ⟨e8, u8⟩, e9, u9⟩ := T3.out
            go_wp2
            go_roundg g
            case measure => omega
            case rel => exact ⟨.inr (.inl ⟨_, _, _, _, _, _, T3.out.put _ _ _ _ _ _ _ _ _ _, HE.out⟩), only_ten O3.out _ _ _ _ _ _ _ _ _ _⟩
          | wait a1 nm k =>
            obtain ⟨at_, a', n', c', lk, rfl⟩ := hso
            have hE : T = waitT a1 nm k := hNx
            have HE := hide hE
            clear hE hNx
            obtain ⟨ehl, ⟨e0, u0⟩, ⟨e1, u1⟩, ⟨e2, u2⟩, ⟨e3, u3⟩, ⟨e4, u4⟩, ⟨e5, u5⟩, ⟨e6, u6⟩, ⟨e7, u7⟩, ⟨e8, u8⟩, e9, u9⟩ := T3.out
            go_wp2
            go_roundg g
            case measure => omega
            case rel => exact ⟨.inr (.inr ⟨_, _, _, _, _, _, T3.out.put _ _ _ _ _ _ _ _ _ _, HE.out⟩), only_ten O3.out _ _ _ _ _ _ _ _ _ _⟩
        · have HE := hide hE
          obtain ⟨chl, ⟨c0, f0⟩, ⟨c1, f1⟩, ⟨c2, f2⟩, ⟨c3, f3⟩, ⟨c4, f4⟩, ⟨c5, f5⟩, ⟨c6, f6⟩, ⟨c7, f7⟩, ⟨c8, f8⟩, c9, f9⟩ := hT10
          obtain ⟨v0, q0, y0⟩ := XW.out.2 0 (by omega)
          obtain ⟨v1, q1, y1⟩ := XW.out.2 1 (by omega)
          obtain ⟨v2, q2, y2⟩ := XW.out.2 2 (by omega)
          obtain ⟨v3, q3, y3⟩ := XW.out.2 3 (by omega)
          obtain ⟨v4, q4, y4⟩ := XW.out.2 4 (by omega)
          obtain ⟨v5, q5, y5⟩ := XW.out.2 5 (by omega)
          clear hE
          go_wp2
          refine bodyPost_ret (v := T.v) (by rw [HE.out]; simp [results, Tryz.results88, go_sem, Turn.v, endT, q0, q1, q2, q3, q4, q5]) rfl ⟨rfl, six_set BW.out (by omega) _ _ _ _ _ _⟩
        · have HE := hide hE
          obtain ⟨chl, ⟨c0, f0⟩, ⟨c1, f1⟩, ⟨c2, f2⟩, ⟨c3, f3⟩, ⟨c4, f4⟩, ⟨c5, f5⟩, ⟨c6, f6⟩, ⟨c7, f7⟩, ⟨c8, f8⟩, c9, f9⟩ := hT10
          obtain ⟨v0, q0, y0⟩ := XW.out.2 0 (by omega)
          obtain ⟨v1, q1, y1⟩ := XW.out.2 1 (by omega)
          obtain ⟨v2, q2, y2⟩ := XW.out.2 2 (by omega)
          obtain ⟨v3, q3, y3⟩ := XW.out.2 3 (by omega)
          obtain ⟨v4, q4, y4⟩ := XW.out.2 4 (by omega)
          obtain ⟨v5, q5, y5⟩ := XW.out.2 5 (by omega)
          clear hE
          go_wp2
          refine bodyPost_ret (v := T.v) (by rw [HE.out]; simp [results, Tryz.results88, go_sem, Turn.v, waitT, q0, q1, q2, q3, q4, q5]) rfl ⟨rfl, six_set BW.out (by omega) _ _ _ _ _ _⟩
theorem specNext_any (pb po cnt cap b2 o2 n cap2 : Nat) (f : Nat → Ins) (y : Nat → Reply) (w : World) (hn : cnt ≤ 1048576) (hP : RowIns w pb po cnt f) (hY : RowReply w b2 o2 n y) (hs : ∀ i, i < cnt → (f i).s.size ≤ maxLen) :
    Calls Tryz.prog 88 #[.agg #[.slice (some ⟨pb, po, none⟩) cnt cap], .slice (some ⟨b2, o2, none⟩) n cap2] w fun e w' => e = .returned (nextA f cnt y n).v ∧ Below w.heap.size w w' := by
  unfold nextA
  by_cases h1 : valid f cnt = false
  · rw [if_pos h1]
    exact specNext_no1 pb po cnt cap n cap2 _ f w hn h1 hP hs
  · have h1' : valid f cnt = true := by simpa using h1
    rw [if_neg h1]
    by_cases h2 : 200 < n
    · rw [if_pos h2]
      exact specNext_no2 pb po cnt cap n cap2 _ f w hn h1' hP hs (by omega)
    · rw [if_neg h2]
      exact specNext_ok pb po cnt cap b2 o2 n cap2 f y w hn h1' (by omega) hP hY hs _ rfl
end Go.Proofs.YtgbagcpepfemgaaGreatDoor.Vp
