/-
  Put together of: RaWith, RaRead, RaSpecP.
-/
import Derived.Test.YtkbhcajiebeepaaGreatDoorYP
import Derived.Test.YtkbhcajiebeepaaGreatDoorYM
import Derived.Test.YtkbhcajiebeepaaGreatDoorZG
import Derived.BigQuiet
import Derived.Test.YtkbhcajiebeepaaGreatDoorYL
import Derived.Test.YtkbhcajiebeepaaGreatDoorZP
import Derived.Test.YtkbhcajiebeepaaGreatDoorZX

/-
  ReadAccount: a line within a target. Written by tools/rawith.py.
-/
namespace Go.Proofs.YtkbhcajiebeepaaGreatDoor.Vp
open Go.RowKit Go.Proofs.YtkbhcajiebeepaaGreatDoor.Ca

theorem three_at (w : World) (x y z : Value) (t : TypeId) : ∀ j u, [x, y, z][j]? = some u → (w.alloc (.cells #[x, y, z] t)).cell? ((⟨w.heap.size, 0, none⟩ : Addr).add j) = some u := by
  intro j u hj
  rw [addr_add, Nat.zero_add]
  exact box1 w _ t w.heap.size j u rfl (by simpa using hj)
theorem four_at (w : World) (x y z v : Value) (t : TypeId) : ∀ j u, [x, y, z, v][j]? = some u → (w.alloc (.cells #[x, y, z, v] t)).cell? ((⟨w.heap.size, 0, none⟩ : Addr).add j) = some u := by
  intro j u hj
  rw [addr_add, Nat.zero_add]
  exact box1 w _ t w.heap.size j u rfl (by simpa using hj)
/-- A block of one link. -/
def LBk (w : World) (g : Nat) (cs : Array Value) : Prop := w.heap[g]? = some (.cells cs 58 (0, 0))
theorem LBk.lt {w : World} {g : Nat} {cs : Array Value} (h : LBk w g cs) : g < w.heap.size := (Array.getElem?_eq_some_iff.1 h).1
theorem LBk.at {w : World} {g : Nat} {cs : Array Value} (h : LBk w g cs) (j : Nat) {u : Value} (hu : cs[j]? = some u) : w.cell? ⟨g, j, none⟩ = some u := by rw [Lib.cell_of_heap h]; exact hu
theorem LBk.fz {w : World} {g : Nat} {cs : Array Value} (h : LBk w g cs) (j : Nat) : w.frozen? ⟨g, j, none⟩ = false := Lib.frozen_of_heap h j
theorem LBk.below {w w' : World} {g B : Nat} {cs : Array Value} (h : LBk w g cs) (hb : Below B w w') (hB : g < B) : LBk w' g cs := (hb.block g hB).trans h
theorem LBk.set {w : World} {g : Nat} {cs : Array Value} (h : LBk w g cs) (j : Nat) (v : Value) : LBk (w.setCell ⟨g, j, none⟩ v) g (cs.setIfInBounds j v) := by
  unfold LBk at *
  simp [World.setCell, Array.getElem?_modify, h]
theorem readL_ok {s : List UInt8} {i : I3} (h : readL s = some i) : insOk i.1 i.2.1.length i.2.2 = true := (readL_is h).1

set_option maxRecDepth 100000 in
set_option maxHeartbeats 4000000 in
theorem within_do (b base g c : Nat) (R : List DR) (r : DR) (rest : ByteArray) (w : World) (hS : RSt w b base (.slice (some ⟨g, 0, none⟩) (R.length + 1) c) (R ++ [r])) (hn : (R.length : Int) ≤ 400000) (hr : rest.size ≤ 400000) (hk : (r.1.actN : Int) ≤ 400000) (hL : Lay w) :
    Calls Tryz.prog 59 #[.pointer (some ⟨b, 0, none⟩), .string ⟨#[100, 111]⟩, .string rest] w fun e w' => KR b base w w' ∧ ((∃ i v', readL rest.data.toList = some i ∧ e = .returned .nilIface ∧ RSt w' b base (.slice (some ⟨g, 0, none⟩) (R.length + 1) c) (R ++ [(r.1.doA ⟨i.1, ⟨i.2.1.toArray⟩, i.2.2⟩, v', r.2.2)])) ∨ (readL rest.data.toList = none ∧ ∃ ty p, e = .returned (.iface ty p))) := by
  have CU := hide (fun V => cut1_any rest 32 V (by unfold maxLen; omega))
  have S0 := hide hS
  have hcl := cutC_len 32 rest.data.toList
  rw [size_toL] at hcl
  have L0 := hide (fun V (hV : Below w.heap.size w V) => hL.below hV (Nat.le_refl _))
  have RI := hide (fun V (hV : Below w.heap.size w V) => readIns_any rest V (by omega) (L0.out V hV))
  generalize readL rest.data.toList = rd at RI ⊢
  generalize cutC 32 rest.data.toList = P at CU hcl
  obtain ⟨nm, rs, sp⟩ := P
  dsimp only at CU hcl
  clear hS hL
  obtain ⟨i1, hi, hy0, hy1, hy2⟩ := info_parts infoIns
  have r0 := S0.out.box.c0
  have r2 := S0.out.box.lt
  have q0 : ¬ ((R.length : Int) + 1 = 0) := by omega
  have q1 : (0 : Int) ≤ (R.length : Int) := by omega
  have q2 : (R.length : Int) < (R.length : Int) + 1 := by omega
  have q3 : (R.length : Int) + 1 - 1 = (R.length : Int) := by omega
  go_enter Tryz.func59, Tryz.ntmps59
  go_upto_region 3 with fail
  go_quiet (fail)
  have B0 := below_drewN (Below.refl w.heap.size w) nq
  generalize w.drewN nq = W0 at B0 ⊢
  go_wp2_with fail
  refine (CU.out _).mono ?_
  rintro e w1 ⟨rfl, m, rfl⟩
  have B1 := B0.trans ((below_drewN (Below.refl W0.heap.size W0) m).mono B0.size)
  generalize W0.drewN m = W1 at B1 ⊢
  clear r0 r2 q0 q1 q2 q3 B0 CU
  have HDB := hide B1.size
  have HA := hide (B1.alloc B1.size (.cells #[.string ⟨nm.toArray⟩, .bool false, .bool false, .int .i64 0] 58))
  have LK : Hid (LBk (W1.alloc (.cells #[.string ⟨nm.toArray⟩, .bool false, .bool false, .int .i64 0] 58)) W1.heap.size #[.string ⟨nm.toArray⟩, .bool false, .bool false, .int .i64 0]) := heap_alloc_new W1 _
  clear B1
  go_upto_region 7 with fail
  generalize W1.alloc (.cells #[.string ⟨nm.toArray⟩, .bool false, .bool false, .int .i64 0] 58) = W2 at HA LK ⊢
  generalize W1.heap.size = lB at LK HDB ⊢
  have HA3 := hide (HA.out.alloc HA.out.size (.cells #[.int .i64 0, .string ⟨#[]⟩, .int .i64 0] 54))
  have CK : Hid (CI (W2.alloc (.cells #[.int .i64 0, .string ⟨#[]⟩, .int .i64 0] 54)) W2.heap.size (.int .i64 0) (.string ⟨#[]⟩) (.int .i64 0)) := heap_alloc_new W2 _
  have HIB := hide HA.out.size
  go_upto_region 12 with fail
  generalize W2.alloc (.cells #[.int .i64 0, .string ⟨#[]⟩, .int .i64 0] 54) = W3 at HA3 CK ⊢
  generalize W2.heap.size = iB at CK HIB ⊢
  clear HA LK HDB
  go_wp2_with fail
  refine (RI.out W3 HA3.out).mono ?_
  rintro e w4 ⟨hR, hB4⟩
  have HA4 := hide (HA3.out.trans (hB4.mono HA3.out.size))
  have C4 := hide (CK.out.below hB4 CK.out.lt)
  clear hB4 RI HA3 CK
  have hiB : w.heap.size ≤ iB := HIB.out
  have c0 := C4.out.c0
  have c1 := C4.out.c1
  have c2 := C4.out.c2
  have f0 := C4.out.fz 0
  have f1 := C4.out.fz 1
  have f2 := C4.out.fz 2
  have cl := C4.out.lt
  cases rd with
  | none =>
    obtain ⟨ty, p, rfl⟩ := hR
    have HA5 := hide (((HA4.out.setCell (p := ⟨iB, 0, none⟩) hiB (.int .i64 0)).setCell (p := ⟨iB, 1, none⟩) hiB (.string ⟨#[]⟩)).setCell (p := ⟨iB, 2, none⟩) hiB (.int .i64 0))
    go_wp2
    go_ret
    first
      | exact ⟨KR.of_below HA5.out (Nat.le_refl _), .inr ⟨rfl, ty, p, rfl⟩⟩
      | exact ⟨KR.of_below HA5.out (Nat.le_refl _), ty, p, rfl⟩
  | some i =>
    obtain ⟨op, tx, n⟩ := i
    have hR : e = .returned (.tuple #[.agg #[.int .i64 op, .string ⟨tx.toArray⟩, .int .i64 n], .nilIface]) := hR
    subst hR
    have C5 := hide (C4.out.all (.int .i64 op) (.string ⟨tx.toArray⟩) (.int .i64 n))
    have HA := hide (((HA4.out.setCell (p := ⟨iB, 0, none⟩) hiB (.int .i64 op)).setCell (p := ⟨iB, 1, none⟩) hiB (.string ⟨tx.toArray⟩)).setCell (p := ⟨iB, 2, none⟩) hiB (.int .i64 n))
    go_upto_region 15 with fail
    generalize ((w4.setCell ⟨iB, 0, none⟩ (.int .i64 op)).setCell ⟨iB, 1, none⟩ (.string ⟨tx.toArray⟩)).setCell ⟨iB, 2, none⟩ (.int .i64 n) = W5 at C5 HA ⊢
    clear c0 c1 c2 f0 f1 f2 cl C4 HA4
    have c0 := C5.out.c0
    have c1 := C5.out.c1
    have c2 := C5.out.c2
    have cl := C5.out.lt
    have S1 := hide (S0.out.below HA.out)
    have K1 : Hid (KR b base w W5) := KR.of_below HA.out (Nat.le_refl _)
    have hl : (R ++ [r]).length = R.length + 1 := by simp
    have cell := drow_cell (by rw [hl]; have := S1.out.row.own; rw [hl] at this; exact this) (i := R.length) (r := r) (by simp) 4 (by omega) (u := r.2.1) rfl
    have m0 := cell.1
    have hgl := S1.out.row.own.lt g rfl
    have hgl2 := hgl.2
    have hle := S1.out.le
    have U1 := hide (S1.out.row.sub r (by simp)).act
    obtain ⟨av, cv, hav⟩ := cu_slice U1.out
    have HAV := hide hav
    rw [hav] at m0
    clear cell hgl hav hl
    go_region_law (first
      | (refine step_append_own_at rfl (.tmp 63) (.tmp 65) 46 rfl base 54 i1 (.agg #[.int .i64 0, .string ⟨#[]⟩, .int .i64 0]) 3 32 Tryz.underlying46 hi hy0 hy1 hy2 rfl (by decide) (.slice av r.1.actN cv) r.1.actN (insL r.1.act r.1.actN) (by simp [Act.eval]) (by rw [← HAV.out]; first | exact U1.out.alloc _ | exact U1.out.drew.alloc _ | exact U1.out.drew.drew.alloc _) ⟨W5.heap.size, 0, none⟩ 1 1 [.int .i64 op, .string ⟨tx.toArray⟩, .int .i64 n] (by simp [Act.eval]) rfl (by first | exact three_at W5 _ _ _ _ | exact three_at W5.drew _ _ _ _ | exact three_at W5.drew.drew _ _ _ _) (by simp [Value.oneCell']) (by unfold maxLen; omega) (by omega) (by simp; omega) ?_; intro v6 w6 hown hgrow hat; rw [← HAV.out] at hgrow hat; (first | have Z6 := hide (S1.out.moreA (x := ⟨op, ⟨tx.toArray⟩, n⟩) (Below.refl _ W5) hown hgrow hat) | have Z6 := hide (S1.out.moreA (x := ⟨op, ⟨tx.toArray⟩, n⟩) (Below.refl _ W5).drew hown hgrow hat) | have Z6 := hide (S1.out.moreA (x := ⟨op, ⟨tx.toArray⟩, n⟩) (Below.refl _ W5).drew.drew hown hgrow hat)); obtain ⟨a6, c6, rfl⟩ := cu_slice hown; have k0 := Z6.out.2.2.1; have k1 := Z6.out.2.2.2.1; have k2 := Z6.out.2.2.2.2; rw [HAV.out] at k0; clear hown hgrow hat))
    all_goals
      go_simp
      go_wp2
      go_ret
      exact ⟨K1.out.trans Z6.out.2.1, .inl ⟨(op, tx, n), _, rfl, rfl, Z6.out.1⟩⟩

set_option maxRecDepth 100000 in
set_option maxHeartbeats 4000000 in
theorem within_ask (b base g c : Nat) (R : List DR) (r : DR) (rest : ByteArray) (w : World) (hS : RSt w b base (.slice (some ⟨g, 0, none⟩) (R.length + 1) c) (R ++ [r])) (hn : (R.length : Int) ≤ 400000) (hr : rest.size ≤ 400000) (hk : (r.1.linksN : Int) ≤ 400000) (hL : Lay w) :
    Calls Tryz.prog 59 #[.pointer (some ⟨b, 0, none⟩), .string ⟨#[97, 115, 107]⟩, .string rest] w fun e w' => KR b base w w' ∧ ((∃ n v', IsNum (cutC 32 rest.data.toList).2.1 n ∧ e = .returned .nilIface ∧ RSt w' b base (.slice (some ⟨g, 0, none⟩) (R.length + 1) c) (R ++ [(r.1.lkA ⟨⟨(cutC 32 rest.data.toList).1.toArray⟩, true, false, n⟩, r.2.1, v')])) ∨ ((∀ n, ¬ IsNum (cutC 32 rest.data.toList).2.1 n) ∧ ∃ ty p, e = .returned (.iface ty p))) := by
  have CU := hide (fun V => cut1_any rest 32 V (by unfold maxLen; omega))
  have S0 := hide hS
  have hcl := cutC_len 32 rest.data.toList
  rw [size_toL] at hcl
  have L0 := hide (fun V (hV : Below w.heap.size w V) => hL.below hV (Nat.le_refl _))
  generalize cutC 32 rest.data.toList = P at CU hcl ⊢
  obtain ⟨nm, rs, sp⟩ := P
  dsimp only at CU hcl ⊢
  clear hS hL
  obtain ⟨i1, hi, hy0, hy1, hy2⟩ := info_parts infoLink
  have r0 := S0.out.box.c0
  have r2 := S0.out.box.lt
  have q0 : ¬ ((R.length : Int) + 1 = 0) := by omega
  have q1 : (0 : Int) ≤ (R.length : Int) := by omega
  have q2 : (R.length : Int) < (R.length : Int) + 1 := by omega
  have q3 : (R.length : Int) + 1 - 1 = (R.length : Int) := by omega
  go_enter Tryz.func59, Tryz.ntmps59
  go_upto_region 3 with fail
  go_quiet (fail)
  have B0 := below_drewN (Below.refl w.heap.size w) nq
  generalize w.drewN nq = W0 at B0 ⊢
  go_wp2_with fail
  refine (CU.out _).mono ?_
  rintro e w1 ⟨rfl, m, rfl⟩
  have B1 := B0.trans ((below_drewN (Below.refl W0.heap.size W0) m).mono B0.size)
  generalize W0.drewN m = W1 at B1 ⊢
  clear r0 r2 q0 q1 q2 q3 B0 CU
  have HDB := hide B1.size
  have HA := hide (B1.alloc B1.size (.cells #[.string ⟨nm.toArray⟩, .bool false, .bool false, .int .i64 0] 58))
  have LK : Hid (LBk (W1.alloc (.cells #[.string ⟨nm.toArray⟩, .bool false, .bool false, .int .i64 0] 58)) W1.heap.size #[.string ⟨nm.toArray⟩, .bool false, .bool false, .int .i64 0]) := heap_alloc_new W1 _
  clear B1
  go_upto_region 7 with fail
  generalize W1.alloc (.cells #[.string ⟨nm.toArray⟩, .bool false, .bool false, .int .i64 0] 58) = W2 at HA LK ⊢
  generalize W1.heap.size = lB at LK HDB ⊢
  have N2 := hide (readNumber_any ⟨rs.toArray⟩ W2 (by show rs.length ≤ _; omega) (L0.out W2 HA.out).sy (L0.out W2 HA.out).ra (L0.out W2 HA.out).n (L0.out W2 HA.out).pw)
  dsimp only [NumAll] at N2
  go_wp2_with fail
  refine N2.out.mono ?_
  rintro e w3 ⟨hN, hB3⟩
  have HA3 := hide (HA.out.trans (hB3.mono HA.out.size))
  have L3 := hide (LK.out.below hB3 LK.out.lt)
  clear hB3 N2 HA LK
  have hlB : w.heap.size ≤ lB := HDB.out
  have c3 := L3.out.at 3 rfl
  have f3 := L3.out.fz 3
  have cl := L3.out.lt
  rcases hN with ⟨n, hN, rfl⟩ | ⟨hno, ty, p, rfl⟩
  · have L4 := hide (L3.out.set 3 (.int .i64 n))
    have HA4 := hide (HA3.out.setCell (p := ⟨lB, 3, none⟩) hlB (.int .i64 n))
    have HN := hide hN
    clear hN
    go_upto_region 19 with fail
    generalize w3.setCell ⟨lB, 3, none⟩ (.int .i64 n) = W4 at L4 HA4 ⊢
    clear c3 f3 cl L3 HA3
    have c1 := L4.out.at 1 rfl
    have f1 := L4.out.fz 1
    have cl := L4.out.lt
    have L5 := hide (L4.out.set 1 (.bool true))
    have HA5 := hide (HA4.out.setCell (p := ⟨lB, 1, none⟩) hlB (.bool true))
    go_upto_region 20 with fail
    generalize W4.setCell ⟨lB, 1, none⟩ (.bool true) = W5 at L5 HA5 ⊢
    clear c1 f1 cl L4 HA4
    have c1 := L5.out.at 1 rfl
    have c2 := L5.out.at 2 rfl
    have f2 := L5.out.fz 2
    have cl := L5.out.lt
    have LK := hide (L5.out.set 2 (.bool false))
    have HA := hide (HA5.out.setCell (p := ⟨lB, 2, none⟩) hlB (.bool false))
    go_upto_region 21 with fail
    generalize W5.setCell ⟨lB, 2, none⟩ (.bool false) = W6 at LK HA ⊢
    clear c1 c2 f2 cl L5 HA5
    have l0 := LK.out.at 0 rfl
    have l1 := LK.out.at 1 rfl
    have l2 := LK.out.at 2 rfl
    have l3 := LK.out.at 3 rfl
    have fl := LK.out.lt
    have S1 := hide (S0.out.below HA.out)
    have K1 : Hid (KR b base w W6) := KR.of_below HA.out (Nat.le_refl _)
    have hl : (R ++ [r]).length = R.length + 1 := by simp
    have cell := drow_cell (by rw [hl]; have := S1.out.row.own; rw [hl] at this; exact this) (i := R.length) (r := r) (by simp) 5 (by omega) (u := r.2.2) rfl
    have m0 := cell.1
    have hgl := S1.out.row.own.lt g rfl
    have hgl2 := hgl.2
    have hle := S1.out.le
    have U1 := hide (S1.out.row.sub r (by simp)).lnk
    obtain ⟨av, cv, hav⟩ := cu_slice U1.out
    have HAV := hide hav
    rw [hav] at m0
    clear cell hgl hav hl
    go_region_law (first
      | (refine step_append_own_at rfl (.tmp 93) (.tmp 95) 49 rfl base 58 i1 (.agg #[.string ⟨#[]⟩, .bool false, .bool false, .int .i64 0]) 4 32 Tryz.underlying49 hi hy0 hy1 hy2 rfl (by decide) (.slice av r.1.linksN cv) r.1.linksN (lnkL r.1.links r.1.linksN) (by simp [Act.eval]) (by rw [← HAV.out]; first | exact U1.out.alloc _ | exact U1.out.drew.alloc _ | exact U1.out.drew.drew.alloc _) ⟨W6.heap.size, 0, none⟩ 1 1 [.string ⟨nm.toArray⟩, .bool true, .bool false, .int .i64 n] (by simp [Act.eval]) rfl (by first | exact four_at W6 _ _ _ _ _ | exact four_at W6.drew _ _ _ _ _ | exact four_at W6.drew.drew _ _ _ _ _) (by simp [Value.oneCell']) (by unfold maxLen; omega) (by omega) (by simp; omega) ?_; intro v6 w6 hown hgrow hat; rw [← HAV.out] at hgrow hat; (first | have Z6 := hide (S1.out.moreL (x := ⟨⟨nm.toArray⟩, true, false, n⟩) (Below.refl _ W6) hown hgrow hat) | have Z6 := hide (S1.out.moreL (x := ⟨⟨nm.toArray⟩, true, false, n⟩) (Below.refl _ W6).drew hown hgrow hat) | have Z6 := hide (S1.out.moreL (x := ⟨⟨nm.toArray⟩, true, false, n⟩) (Below.refl _ W6).drew.drew hown hgrow hat)); obtain ⟨a6, c6, rfl⟩ := cu_slice hown; have k0 := Z6.out.2.2.1; have k1 := Z6.out.2.2.2.1; have k2 := Z6.out.2.2.2.2; rw [HAV.out] at k0; clear hown hgrow hat))
    all_goals
      go_simp
      go_wp2
      go_ret
      exact ⟨K1.out.trans Z6.out.2.1, .inl ⟨n, _, HN.out, rfl, Z6.out.1⟩⟩
  · have HA4 := hide (HA3.out.setCell (p := ⟨lB, 3, none⟩) hlB (.int .i64 0))
    go_wp2
    go_ret
    exact ⟨KR.of_below HA4.out (Nat.le_refl _), .inr ⟨hno, ty, p, rfl⟩⟩

set_option maxRecDepth 100000 in
set_option maxHeartbeats 4000000 in
theorem within_has (b base g c : Nat) (R : List DR) (r : DR) (rest : ByteArray) (w : World) (hS : RSt w b base (.slice (some ⟨g, 0, none⟩) (R.length + 1) c) (R ++ [r])) (hn : (R.length : Int) ≤ 400000) (hr : rest.size ≤ 400000) (hk : (r.1.linksN : Int) ≤ 400000) :
    Calls Tryz.prog 59 #[.pointer (some ⟨b, 0, none⟩), .string ⟨#[104, 97, 115]⟩, .string rest] w fun e w' => KR b base w w' ∧ (∃ v', e = .returned .nilIface ∧ RSt w' b base (.slice (some ⟨g, 0, none⟩) (R.length + 1) c) (R ++ [(r.1.lkA ⟨⟨(cutC 32 rest.data.toList).1.toArray⟩, false, (cutC 32 rest.data.toList).2.1 == [49], 0⟩, r.2.1, v')])) := by
  have CU := hide (fun V => cut1_any rest 32 V (by unfold maxLen; omega))
  have S0 := hide hS
  have hcl := cutC_len 32 rest.data.toList
  rw [size_toL] at hcl
  generalize cutC 32 rest.data.toList = P at CU hcl ⊢
  obtain ⟨nm, rs, sp⟩ := P
  dsimp only at CU hcl ⊢
  obtain ⟨hb, hhb⟩ : ∃ hb : Bool, hb = (rs == [49]) := ⟨_, rfl⟩
  rw [← hhb]
  have HHB := hide hhb
  clear hhb
  clear hS
  obtain ⟨i1, hi, hy0, hy1, hy2⟩ := info_parts infoLink
  have r0 := S0.out.box.c0
  have r2 := S0.out.box.lt
  have q0 : ¬ ((R.length : Int) + 1 = 0) := by omega
  have q1 : (0 : Int) ≤ (R.length : Int) := by omega
  have q2 : (R.length : Int) < (R.length : Int) + 1 := by omega
  have q3 : (R.length : Int) + 1 - 1 = (R.length : Int) := by omega
  go_enter Tryz.func59, Tryz.ntmps59
  go_upto_region 3 with fail
  go_quiet (fail)
  have B0 := below_drewN (Below.refl w.heap.size w) nq
  generalize w.drewN nq = W0 at B0 ⊢
  go_wp2_with fail
  refine (CU.out _).mono ?_
  rintro e w1 ⟨rfl, m, rfl⟩
  have B1 := B0.trans ((below_drewN (Below.refl W0.heap.size W0) m).mono B0.size)
  generalize W0.drewN m = W1 at B1 ⊢
  clear r0 r2 q0 q1 q2 q3 B0 CU
  have HDB := hide B1.size
  have HA := hide (B1.alloc B1.size (.cells #[.string ⟨nm.toArray⟩, .bool false, .bool false, .int .i64 0] 58))
  have LK : Hid (LBk (W1.alloc (.cells #[.string ⟨nm.toArray⟩, .bool false, .bool false, .int .i64 0] 58)) W1.heap.size #[.string ⟨nm.toArray⟩, .bool false, .bool false, .int .i64 0]) := heap_alloc_new W1 _
  clear B1
  go_upto_region 7 with fail
  generalize W1.alloc (.cells #[.string ⟨nm.toArray⟩, .bool false, .bool false, .int .i64 0] 58) = W2 at HA LK ⊢
  generalize W1.heap.size = lB at LK HDB ⊢
  have hlB : w.heap.size ≤ lB := HDB.out
  have c1 := LK.out.at 1 rfl
  have c2 := LK.out.at 2 rfl
  have f2 := LK.out.fz 2
  have cl := LK.out.lt
  have L3 := hide (LK.out.set 2 (.bool hb))
  have HA3 := hide (HA.out.setCell (p := ⟨lB, 2, none⟩) hlB (.bool hb))
  go_wp2_with fail
  refine (truth_any true _).mono ?_
  rintro e V ⟨rfl, hV⟩
  rw [hV]
  clear hV
  go_upto_region 21 with fail
  rw [← HHB.out]
  generalize W2.setCell ⟨lB, 2, none⟩ (.bool hb) = W6 at L3 HA3 ⊢
  clear c1 c2 f2 cl LK HA
  have LK := L3
  have HA := HA3
  clear L3 HA3
  have l0 := LK.out.at 0 rfl
  have l1 := LK.out.at 1 rfl
  have l2 := LK.out.at 2 rfl
  have l3 := LK.out.at 3 rfl
  have fl := LK.out.lt
  have S1 := hide (S0.out.below HA.out)
  have K1 : Hid (KR b base w W6) := KR.of_below HA.out (Nat.le_refl _)
  have hl : (R ++ [r]).length = R.length + 1 := by simp
  have cell := drow_cell (by rw [hl]; have := S1.out.row.own; rw [hl] at this; exact this) (i := R.length) (r := r) (by simp) 5 (by omega) (u := r.2.2) rfl
  have m0 := cell.1
  have hgl := S1.out.row.own.lt g rfl
  have hgl2 := hgl.2
  have hle := S1.out.le
  have U1 := hide (S1.out.row.sub r (by simp)).lnk
  obtain ⟨av, cv, hav⟩ := cu_slice U1.out
  have HAV := hide hav
  rw [hav] at m0
  clear cell hgl hav hl
  go_region_law (first
    | (refine step_append_own_at rfl (.tmp 93) (.tmp 95) 49 rfl base 58 i1 (.agg #[.string ⟨#[]⟩, .bool false, .bool false, .int .i64 0]) 4 32 Tryz.underlying49 hi hy0 hy1 hy2 rfl (by decide) (.slice av r.1.linksN cv) r.1.linksN (lnkL r.1.links r.1.linksN) (by simp [Act.eval]) (by rw [← HAV.out]; first | exact U1.out.alloc _ | exact U1.out.drew.alloc _ | exact U1.out.drew.drew.alloc _) ⟨W6.heap.size, 0, none⟩ 1 1 [.string ⟨nm.toArray⟩, .bool false, .bool hb, .int .i64 0] (by simp [Act.eval]) rfl (by first | exact four_at W6 _ _ _ _ _ | exact four_at W6.drew _ _ _ _ _ | exact four_at W6.drew.drew _ _ _ _ _) (by simp [Value.oneCell']) (by unfold maxLen; omega) (by omega) (by simp; omega) ?_; intro v6 w6 hown hgrow hat; rw [← HAV.out] at hgrow hat; (first | have Z6 := hide (S1.out.moreL (x := ⟨⟨nm.toArray⟩, false, hb, 0⟩) (Below.refl _ W6) hown hgrow hat) | have Z6 := hide (S1.out.moreL (x := ⟨⟨nm.toArray⟩, false, hb, 0⟩) (Below.refl _ W6).drew hown hgrow hat) | have Z6 := hide (S1.out.moreL (x := ⟨⟨nm.toArray⟩, false, hb, 0⟩) (Below.refl _ W6).drew.drew hown hgrow hat)); obtain ⟨a6, c6, rfl⟩ := cu_slice hown; have k0 := Z6.out.2.2.1; have k1 := Z6.out.2.2.2.1; have k2 := Z6.out.2.2.2.2; rw [HAV.out] at k0; clear hown hgrow hat))
  all_goals
    go_simp
    go_wp2
    go_ret
    exact ⟨K1.out.trans Z6.out.2.1, _, rfl, Z6.out.1⟩

end Go.Proofs.YtkbhcajiebeepaaGreatDoor.Vp

/-
  ReadAccount: a line is read. Written by tools/raread.py.
-/
namespace Go.Proofs.YtkbhcajiebeepaaGreatDoor.Vp
open Go.RowKit Go.Proofs.YtkbhcajiebeepaaGreatDoor.Ca

theorem gw_same {D G : List Deed} {S W rest : List UInt8} (h : GW D S W rest G) (e : W = wAcc ∨ W = wEnd) : G = D := by
  rcases h with ⟨_, rfl, rfl, rfl⟩ | ⟨_, rfl, rfl, rfl⟩ | ⟨_, _, _, rfl, rfl, rfl⟩ | ⟨_, rfl, rfl, rfl⟩ | ⟨_, _, _, _, _, _, rfl, rfl, rfl⟩ | ⟨_, _, _, _, rfl, rfl, rfl⟩ | ⟨_, _, _, _, _, _, rfl, rfl, rfl⟩ | ⟨_, _, _, rfl, rfl, rfl⟩ <;> first | rfl | (rcases e with e | e <;> exact absurd e (by decide))
theorem gw_src {D G : List Deed} {S W rest : List UInt8} (h : GW D S W rest G) (e : W = wSrc) : ∃ t, OkD 1 rest 0 t ∧ G = D ++ [newDeed ⟨(cutC 32 rest).1.toArray⟩ 1 0 ⟨t.toArray⟩] := by
  rcases h with ⟨_, rfl, rfl, rfl⟩ | ⟨_, rfl, rfl, rfl⟩ | ⟨_, _, _, rfl, rfl, rfl⟩ | ⟨_, rfl, rfl, rfl⟩ | ⟨_, _, _, _, _, _, rfl, rfl, rfl⟩ | ⟨_, _, _, _, rfl, rfl, rfl⟩ | ⟨_, _, _, _, _, _, rfl, rfl, rfl⟩ | ⟨_, _, _, rfl, rfl, rfl⟩ <;> first | exact absurd e (by decide) | exact ⟨_, by assumption, rfl⟩
theorem gw_non {D G : List Deed} {S W rest : List UInt8} (h : GW D S W rest G) (e : W = wNon) : G = D ++ [newDeed ⟨(cutC 32 rest).1.toArray⟩ 2 0 ⟨#[]⟩] := by
  rcases h with ⟨_, rfl, rfl, rfl⟩ | ⟨_, rfl, rfl, rfl⟩ | ⟨_, _, _, rfl, rfl, rfl⟩ | ⟨_, rfl, rfl, rfl⟩ | ⟨_, _, _, _, _, _, rfl, rfl, rfl⟩ | ⟨_, _, _, _, rfl, rfl, rfl⟩ | ⟨_, _, _, _, _, _, rfl, rfl, rfl⟩ | ⟨_, _, _, rfl, rfl, rfl⟩ <;> first | exact absurd e (by decide) | rfl
theorem gw_tgt {D G : List Deed} {S W rest : List UInt8} (h : GW D S W rest G) (e : W = wTgt) : ∃ n t, OkD 3 rest n t ∧ G = D ++ [newDeed ⟨(cutC 32 rest).1.toArray⟩ 3 n ⟨t.toArray⟩] := by
  rcases h with ⟨_, rfl, rfl, rfl⟩ | ⟨_, rfl, rfl, rfl⟩ | ⟨_, _, _, rfl, rfl, rfl⟩ | ⟨_, rfl, rfl, rfl⟩ | ⟨_, _, _, _, _, _, rfl, rfl, rfl⟩ | ⟨_, _, _, _, rfl, rfl, rfl⟩ | ⟨_, _, _, _, _, _, rfl, rfl, rfl⟩ | ⟨_, _, _, rfl, rfl, rfl⟩ <;> first | exact absurd e (by decide) | exact ⟨_, _, by assumption, rfl⟩
theorem gw_do {D G : List Deed} {S W rest : List UInt8} (h : GW D S W rest G) (e : W = wDo) : ∃ D0 d i, D = D0 ++ [d] ∧ readL rest = some i ∧ G = D0 ++ [d.doA ⟨i.1, ⟨i.2.1.toArray⟩, i.2.2⟩] := by
  rcases h with ⟨_, rfl, rfl, rfl⟩ | ⟨_, rfl, rfl, rfl⟩ | ⟨_, _, _, rfl, rfl, rfl⟩ | ⟨_, rfl, rfl, rfl⟩ | ⟨_, _, _, _, _, _, rfl, rfl, rfl⟩ | ⟨_, _, _, _, rfl, rfl, rfl⟩ | ⟨_, _, _, _, _, _, rfl, rfl, rfl⟩ | ⟨_, _, _, rfl, rfl, rfl⟩ <;> first | exact absurd e (by decide) | exact ⟨_, _, _, rfl, by assumption, rfl⟩
theorem gw_ask {D G : List Deed} {S W rest : List UInt8} (h : GW D S W rest G) (e : W = wAsk) : ∃ D0 d n, D = D0 ++ [d] ∧ IsNum (cutC 32 rest).2.1 n ∧ G = D0 ++ [d.lkA ⟨⟨(cutC 32 rest).1.toArray⟩, true, false, n⟩] := by
  rcases h with ⟨_, rfl, rfl, rfl⟩ | ⟨_, rfl, rfl, rfl⟩ | ⟨_, _, _, rfl, rfl, rfl⟩ | ⟨_, rfl, rfl, rfl⟩ | ⟨_, _, _, _, _, _, rfl, rfl, rfl⟩ | ⟨_, _, _, _, rfl, rfl, rfl⟩ | ⟨_, _, _, _, _, _, rfl, rfl, rfl⟩ | ⟨_, _, _, rfl, rfl, rfl⟩ <;> first | exact absurd e (by decide) | exact ⟨_, _, _, rfl, by assumption, rfl⟩
theorem gw_has {D G : List Deed} {S W rest : List UInt8} (h : GW D S W rest G) (e : W = wHas) : ∃ D0 d, D = D0 ++ [d] ∧ G = D0 ++ [d.lkA ⟨⟨(cutC 32 rest).1.toArray⟩, false, (cutC 32 rest).2.1 == [49], 0⟩] := by
  rcases h with ⟨_, rfl, rfl, rfl⟩ | ⟨_, rfl, rfl, rfl⟩ | ⟨_, _, _, rfl, rfl, rfl⟩ | ⟨_, rfl, rfl, rfl⟩ | ⟨_, _, _, _, _, _, rfl, rfl, rfl⟩ | ⟨_, _, _, _, rfl, rfl, rfl⟩ | ⟨_, _, _, _, _, _, rfl, rfl, rfl⟩ | ⟨_, _, _, rfl, rfl, rfl⟩ <;> first | exact absurd e (by decide) | exact ⟨_, _, rfl, rfl⟩
theorem gw_word {D G : List Deed} {S W rest : List UInt8} (h : GW D S W rest G) : W = wAcc ∨ W = wEnd ∨ W = wSrc ∨ W = wNon ∨ W = wTgt ∨ W = wDo ∨ W = wAsk ∨ W = wHas := by
  rcases h with ⟨_, rfl, rfl, rfl⟩ | ⟨_, rfl, rfl, rfl⟩ | ⟨_, _, _, rfl, rfl, rfl⟩ | ⟨_, rfl, rfl, rfl⟩ | ⟨_, _, _, _, _, _, rfl, rfl, rfl⟩ | ⟨_, _, _, _, rfl, rfl, rfl⟩ | ⟨_, _, _, _, _, _, rfl, rfl, rfl⟩ | ⟨_, _, _, rfl, rfl, rfl⟩ <;> simp

theorem nil_or_last {α : Type} (R : List α) : R = [] ∨ ∃ R0 r, R = R0 ++ [r] := by
  rcases List.eq_nil_or_concat R with h | ⟨x, y, h⟩
  · exact .inl h
  · exact .inr ⟨x, y, by rw [h, List.concat_eq_append]⟩
/-- What reading a line does. -/
def LnPost (w : World) (b base k : Nat) (R : List DR) (S : List UInt8) (e : Ending) (w' : World) : Prop :=
  KR b base w w' ∧ ((∃ a' c' R', e = .returned .nilIface ∧ RSt w' b base (.slice a' R'.length c') R' ∧ SzD (k + 1) (R'.map (·.1)) ∧ ∀ G, Good (R.map (·.1)) S G → R'.map (·.1) = G) ∨ ((∀ G, ¬ Good (R.map (·.1)) S G) ∧ ∃ ty p, e = .returned (.iface ty p)))

set_option maxRecDepth 100000 in
set_option maxHeartbeats 2000000 in
theorem within_none (b base : Nat) (a : Option Addr) (c : Nat) (wd rest : ByteArray) (w : World) (hS : RSt w b base (.slice a 0 c) []) (hE : EV w 1) :
    Calls Tryz.prog 59 #[.pointer (some ⟨b, 0, none⟩), .string wd, .string rest] w fun e w' => KR b base w w' ∧ ∃ ty p, e = .returned (.iface ty p) := by
  have r0 := hS.box.c0
  have r2 := hS.box.lt
  obtain ⟨hz, ty, p, he⟩ := hE
  clear hS
  go_enter Tryz.func59, Tryz.ntmps59
  go_wp2
  go_ret
  exact ⟨KR.refl _ _ _, ty, p, rfl⟩

set_option maxRecDepth 100000 in
set_option maxHeartbeats 4000000 in
theorem line_acc (b base k : Nat) (a : Option Addr) (c : Nat) (R : List DR) (line : ByteArray) (w : World) (hS : RSt w b base (.slice a R.length c) R) (hZ : SzD k (R.map (·.1))) (hk : k ≤ 310000) (hl : line.size ≤ 300000) (hL : Lay w) (hE : EV w 1) (hw : (cutC 32 line.data.toList).1 = [97, 99, 99, 111, 117, 110, 116]) :
    Calls Tryz.prog 30 #[.pointer (some ⟨b, 0, none⟩), .string line] w fun e w' => LnPost w b base k R line.data.toList e w' := by
  have CU := hide (fun V => cut1_any line 32 V (by unfold maxLen; omega))
  have GC := hide (fun G (h : Good (R.map (·.1)) line.data.toList G) => good_cut h)
  have S0 := hide hS
  have L0 := hide hL
  have HK := hide hk
  have E0 := hide hE
  have Z0 := hide hZ
  have hRn : R.length ≤ k := by have := hZ.1; simpa using this
  have hcl := cutC_len 32 line.data.toList
  rw [size_toL] at hcl
  unfold LnPost
  generalize line.data.toList = S at CU GC hcl hw ⊢
  generalize cutC 32 S = P at CU GC hcl hw
  obtain ⟨wd, rs, sp⟩ := P
  dsimp only at CU GC hcl hw
  clear hS hL hE hZ
  subst hw
  go_enter Tryz.func30, Tryz.ntmps30
  go_wp2_with fail
  refine (CU.out _).mono ?_
  rintro e w1 ⟨rfl, m, rfl⟩
  have B1 := hide (below_drewN (Below.refl w.heap.size w) m)
  generalize w.drewN m = V at B1 ⊢
  have S1 := hide (S0.out.below B1.out)
  have L1 := hide (L0.out.below B1.out (Nat.le_refl _))
  have E1 := hide (E0.out.below B1.out E0.out.1)
  have K1 : Hid (KR b base w V) := KR.of_below B1.out (Nat.le_refl _)
  clear CU
  go_wp2
  go_ret
  exact ⟨K1.out, .inl ⟨a, c, R, rfl, S1.out, Z0.out.up (Nat.le_succ _), fun G h => (gw_same (GC.out G h) (by simp)).symm⟩⟩

set_option maxRecDepth 100000 in
set_option maxHeartbeats 4000000 in
theorem line_end (b base k : Nat) (a : Option Addr) (c : Nat) (R : List DR) (line : ByteArray) (w : World) (hS : RSt w b base (.slice a R.length c) R) (hZ : SzD k (R.map (·.1))) (hk : k ≤ 310000) (hl : line.size ≤ 300000) (hL : Lay w) (hE : EV w 1) (hw : (cutC 32 line.data.toList).1 = [101, 110, 100]) :
    Calls Tryz.prog 30 #[.pointer (some ⟨b, 0, none⟩), .string line] w fun e w' => LnPost w b base k R line.data.toList e w' := by
  have CU := hide (fun V => cut1_any line 32 V (by unfold maxLen; omega))
  have GC := hide (fun G (h : Good (R.map (·.1)) line.data.toList G) => good_cut h)
  have S0 := hide hS
  have L0 := hide hL
  have HK := hide hk
  have E0 := hide hE
  have Z0 := hide hZ
  have hRn : R.length ≤ k := by have := hZ.1; simpa using this
  have hcl := cutC_len 32 line.data.toList
  rw [size_toL] at hcl
  unfold LnPost
  generalize line.data.toList = S at CU GC hcl hw ⊢
  generalize cutC 32 S = P at CU GC hcl hw
  obtain ⟨wd, rs, sp⟩ := P
  dsimp only at CU GC hcl hw
  clear hS hL hE hZ
  subst hw
  go_enter Tryz.func30, Tryz.ntmps30
  go_wp2_with fail
  refine (CU.out _).mono ?_
  rintro e w1 ⟨rfl, m, rfl⟩
  have B1 := hide (below_drewN (Below.refl w.heap.size w) m)
  generalize w.drewN m = V at B1 ⊢
  have S1 := hide (S0.out.below B1.out)
  have L1 := hide (L0.out.below B1.out (Nat.le_refl _))
  have E1 := hide (E0.out.below B1.out E0.out.1)
  have K1 : Hid (KR b base w V) := KR.of_below B1.out (Nat.le_refl _)
  clear CU
  go_wp2
  go_ret
  exact ⟨K1.out, .inl ⟨a, c, R, rfl, S1.out, Z0.out.up (Nat.le_succ _), fun G h => (gw_same (GC.out G h) (by simp)).symm⟩⟩

set_option maxRecDepth 100000 in
set_option maxHeartbeats 4000000 in
theorem line_src (b base k : Nat) (a : Option Addr) (c : Nat) (R : List DR) (line : ByteArray) (w : World) (hS : RSt w b base (.slice a R.length c) R) (hZ : SzD k (R.map (·.1))) (hk : k ≤ 310000) (hl : line.size ≤ 300000) (hL : Lay w) (hE : EV w 1) (hw : (cutC 32 line.data.toList).1 = [115, 111, 117, 114, 99, 101]) :
    Calls Tryz.prog 30 #[.pointer (some ⟨b, 0, none⟩), .string line] w fun e w' => LnPost w b base k R line.data.toList e w' := by
  have CU := hide (fun V => cut1_any line 32 V (by unfold maxLen; omega))
  have GC := hide (fun G (h : Good (R.map (·.1)) line.data.toList G) => good_cut h)
  have S0 := hide hS
  have L0 := hide hL
  have HK := hide hk
  have E0 := hide hE
  have Z0 := hide hZ
  have hRn : R.length ≤ k := by have := hZ.1; simpa using this
  have hcl := cutC_len 32 line.data.toList
  rw [size_toL] at hcl
  unfold LnPost
  generalize line.data.toList = S at CU GC hcl hw ⊢
  generalize cutC 32 S = P at CU GC hcl hw
  obtain ⟨wd, rs, sp⟩ := P
  dsimp only at CU GC hcl hw
  clear hS hL hE hZ
  subst hw
  go_enter Tryz.func30, Tryz.ntmps30
  go_wp2_with fail
  refine (CU.out _).mono ?_
  rintro e w1 ⟨rfl, m, rfl⟩
  have B1 := hide (below_drewN (Below.refl w.heap.size w) m)
  generalize w.drewN m = V at B1 ⊢
  have S1 := hide (S0.out.below B1.out)
  have L1 := hide (L0.out.below B1.out (Nat.le_refl _))
  have E1 := hide (E0.out.below B1.out E0.out.1)
  have K1 : Hid (KR b base w V) := KR.of_below B1.out (Nat.le_refl _)
  clear CU
  go_wp2_with fail
  refine (deed1_any b base a c R ⟨rs.toArray⟩ V S1.out (by omega) (by show rs.length ≤ 400000; omega) L1.out).mono ?_
  rintro e w2 ⟨hK, hP⟩
  have K2 := hide (K1.out.trans hK)
  have hcl2 := cutC_len 32 rs
  rcases hP with ⟨n, t, a', c', R', hok, rfl, hR', hm⟩ | ⟨hno, ty, p, rfl⟩
  · have OK := hide (show OkD 1 rs n t from hok)
    have R2 := hide hR'
    have hm : R'.map (·.1) = R.map (·.1) ++ [newDeed ⟨(cutC 32 rs).1.toArray⟩ 1 n ⟨t.toArray⟩] := hm
    have HM := hide hm
    have ht : t.length ≤ 300000 := by
      have hok : OkD 1 rs n t := hok
      unfold OkD at hok
      rw [if_neg (by decide), if_pos rfl] at hok
      have h1 := quoteB_len t
      rw [← hok.2] at h1
      omega
    clear hok hR' hm hK
    go_wp2
    go_ret
    refine ⟨K2.out, .inl ⟨a', c', R', rfl, R2.out, ?_, fun G h => ?_⟩⟩
    · rw [HM.out]
      exact Z0.out.new _ _ _ _ (by show (cutC 32 rs).1.toArray.size ≤ 300000; rw [List.size_toArray]; omega) (by show t.toArray.size ≤ 300000; rw [List.size_toArray]; exact ht)
    · rw [HM.out]
      obtain ⟨t', h1, h2⟩ := gw_src (GC.out G h) rfl
      obtain ⟨h3, h4⟩ := okD_one OK.out h1
      rw [h2, h3, h4]
  · have hno : ∀ n t, ¬ OkD 1 rs n t := hno
    clear hK
    go_wp2
    go_ret
    refine ⟨K2.out, .inr ⟨fun G h => ?_, ty, p, rfl⟩⟩
    obtain ⟨t', h1, _⟩ := gw_src (GC.out G h) rfl
    exact hno _ _ h1

set_option maxRecDepth 100000 in
set_option maxHeartbeats 4000000 in
theorem line_non (b base k : Nat) (a : Option Addr) (c : Nat) (R : List DR) (line : ByteArray) (w : World) (hS : RSt w b base (.slice a R.length c) R) (hZ : SzD k (R.map (·.1))) (hk : k ≤ 310000) (hl : line.size ≤ 300000) (hL : Lay w) (hE : EV w 1) (hw : (cutC 32 line.data.toList).1 = [110, 111, 110, 101]) :
    Calls Tryz.prog 30 #[.pointer (some ⟨b, 0, none⟩), .string line] w fun e w' => LnPost w b base k R line.data.toList e w' := by
  have CU := hide (fun V => cut1_any line 32 V (by unfold maxLen; omega))
  have GC := hide (fun G (h : Good (R.map (·.1)) line.data.toList G) => good_cut h)
  have S0 := hide hS
  have L0 := hide hL
  have HK := hide hk
  have E0 := hide hE
  have Z0 := hide hZ
  have hRn : R.length ≤ k := by have := hZ.1; simpa using this
  have hcl := cutC_len 32 line.data.toList
  rw [size_toL] at hcl
  unfold LnPost
  generalize line.data.toList = S at CU GC hcl hw ⊢
  generalize cutC 32 S = P at CU GC hcl hw
  obtain ⟨wd, rs, sp⟩ := P
  dsimp only at CU GC hcl hw
  clear hS hL hE hZ
  subst hw
  go_enter Tryz.func30, Tryz.ntmps30
  go_wp2_with fail
  refine (CU.out _).mono ?_
  rintro e w1 ⟨rfl, m, rfl⟩
  have B1 := hide (below_drewN (Below.refl w.heap.size w) m)
  generalize w.drewN m = V at B1 ⊢
  have S1 := hide (S0.out.below B1.out)
  have L1 := hide (L0.out.below B1.out (Nat.le_refl _))
  have E1 := hide (E0.out.below B1.out E0.out.1)
  have K1 : Hid (KR b base w V) := KR.of_below B1.out (Nat.le_refl _)
  clear CU
  go_wp2_with fail
  refine (deed2_any b base a c R ⟨rs.toArray⟩ V S1.out (by omega) (by show rs.length ≤ 400000; omega)).mono ?_
  rintro e w2 ⟨hK, hP⟩
  have K2 := hide (K1.out.trans hK)
  have hcl2 := cutC_len 32 rs
  rcases hP with ⟨n, t, a', c', R', hok, rfl, hR', hm⟩ | ⟨hno, ty, p, rfl⟩
  · have OK := hide (show OkD 2 rs n t from hok)
    have R2 := hide hR'
    have hm : R'.map (·.1) = R.map (·.1) ++ [newDeed ⟨(cutC 32 rs).1.toArray⟩ 2 n ⟨t.toArray⟩] := hm
    have HM := hide hm
    have ht : t.length ≤ 300000 := by
      have hok : OkD 2 rs n t := hok
      unfold OkD at hok
      rw [if_neg (by decide), if_neg (by decide)] at hok
      rw [hok.2]
      exact Nat.zero_le _
    clear hok hR' hm hK
    go_wp2
    go_ret
    refine ⟨K2.out, .inl ⟨a', c', R', rfl, R2.out, ?_, fun G h => ?_⟩⟩
    · rw [HM.out]
      exact Z0.out.new _ _ _ _ (by show (cutC 32 rs).1.toArray.size ≤ 300000; rw [List.size_toArray]; omega) (by show t.toArray.size ≤ 300000; rw [List.size_toArray]; exact ht)
    · rw [HM.out]
      have h2 := gw_non (GC.out G h) rfl
      obtain ⟨h3, h4⟩ := okD_one OK.out (show OkD 2 rs 0 [] from ⟨rfl, rfl⟩)
      rw [h2, h3, h4]
  · have hno : ∀ n t, ¬ OkD 2 rs n t := hno
    clear hK
    go_wp2
    go_ret
    refine ⟨K2.out, .inr ⟨fun G h => ?_, ty, p, rfl⟩⟩
    exact hno 0 [] ⟨rfl, rfl⟩

set_option maxRecDepth 100000 in
set_option maxHeartbeats 4000000 in
theorem line_tgt (b base k : Nat) (a : Option Addr) (c : Nat) (R : List DR) (line : ByteArray) (w : World) (hS : RSt w b base (.slice a R.length c) R) (hZ : SzD k (R.map (·.1))) (hk : k ≤ 310000) (hl : line.size ≤ 300000) (hL : Lay w) (hE : EV w 1) (hw : (cutC 32 line.data.toList).1 = [116, 97, 114, 103, 101, 116]) :
    Calls Tryz.prog 30 #[.pointer (some ⟨b, 0, none⟩), .string line] w fun e w' => LnPost w b base k R line.data.toList e w' := by
  have CU := hide (fun V => cut1_any line 32 V (by unfold maxLen; omega))
  have GC := hide (fun G (h : Good (R.map (·.1)) line.data.toList G) => good_cut h)
  have S0 := hide hS
  have L0 := hide hL
  have HK := hide hk
  have E0 := hide hE
  have Z0 := hide hZ
  have hRn : R.length ≤ k := by have := hZ.1; simpa using this
  have hcl := cutC_len 32 line.data.toList
  rw [size_toL] at hcl
  unfold LnPost
  generalize line.data.toList = S at CU GC hcl hw ⊢
  generalize cutC 32 S = P at CU GC hcl hw
  obtain ⟨wd, rs, sp⟩ := P
  dsimp only at CU GC hcl hw
  clear hS hL hE hZ
  subst hw
  go_enter Tryz.func30, Tryz.ntmps30
  go_wp2_with fail
  refine (CU.out _).mono ?_
  rintro e w1 ⟨rfl, m, rfl⟩
  have B1 := hide (below_drewN (Below.refl w.heap.size w) m)
  generalize w.drewN m = V at B1 ⊢
  have S1 := hide (S0.out.below B1.out)
  have L1 := hide (L0.out.below B1.out (Nat.le_refl _))
  have E1 := hide (E0.out.below B1.out E0.out.1)
  have K1 : Hid (KR b base w V) := KR.of_below B1.out (Nat.le_refl _)
  clear CU
  go_wp2_with fail
  refine (deed3_any b base a c R ⟨rs.toArray⟩ V S1.out (by omega) (by show rs.length ≤ 400000; omega) L1.out).mono ?_
  rintro e w2 ⟨hK, hP⟩
  have K2 := hide (K1.out.trans hK)
  have hcl2 := cutC_len 32 rs
  rcases hP with ⟨n, t, a', c', R', hok, rfl, hR', hm⟩ | ⟨hno, ty, p, rfl⟩
  · have OK := hide (show OkD 3 rs n t from hok)
    have R2 := hide hR'
    have hm : R'.map (·.1) = R.map (·.1) ++ [newDeed ⟨(cutC 32 rs).1.toArray⟩ 3 n ⟨t.toArray⟩] := hm
    have HM := hide hm
    have ht : t.length ≤ 300000 := by
      have hok : OkD 3 rs n t := hok
      unfold OkD at hok
      rw [if_pos rfl] at hok
      have h1 := quoteB_len t
      have h2 := cutC_len 32 (cutC 32 rs).2.1
      rw [← hok.2] at h1
      omega
    clear hok hR' hm hK
    go_wp2
    go_ret
    refine ⟨K2.out, .inl ⟨a', c', R', rfl, R2.out, ?_, fun G h => ?_⟩⟩
    · rw [HM.out]
      exact Z0.out.new _ _ _ _ (by show (cutC 32 rs).1.toArray.size ≤ 300000; rw [List.size_toArray]; omega) (by show t.toArray.size ≤ 300000; rw [List.size_toArray]; exact ht)
    · rw [HM.out]
      obtain ⟨n', t', h1, h2⟩ := gw_tgt (GC.out G h) rfl
      obtain ⟨h3, h4⟩ := okD_one OK.out h1
      rw [h2, h3, h4]
  · have hno : ∀ n t, ¬ OkD 3 rs n t := hno
    clear hK
    go_wp2
    go_ret
    refine ⟨K2.out, .inr ⟨fun G h => ?_, ty, p, rfl⟩⟩
    obtain ⟨n', t', h1, _⟩ := gw_tgt (GC.out G h) rfl
    exact hno _ _ h1

set_option maxRecDepth 100000 in
set_option maxHeartbeats 4000000 in
theorem line_do (b base k : Nat) (a : Option Addr) (c : Nat) (R : List DR) (line : ByteArray) (w : World) (hS : RSt w b base (.slice a R.length c) R) (hZ : SzD k (R.map (·.1))) (hk : k ≤ 310000) (hl : line.size ≤ 300000) (hL : Lay w) (hE : EV w 1) (hw : (cutC 32 line.data.toList).1 = [100, 111]) :
    Calls Tryz.prog 30 #[.pointer (some ⟨b, 0, none⟩), .string line] w fun e w' => LnPost w b base k R line.data.toList e w' := by
  have CU := hide (fun V => cut1_any line 32 V (by unfold maxLen; omega))
  have GC := hide (fun G (h : Good (R.map (·.1)) line.data.toList G) => good_cut h)
  have S0 := hide hS
  have L0 := hide hL
  have HK := hide hk
  have E0 := hide hE
  have Z0 := hide hZ
  have hRn : R.length ≤ k := by have := hZ.1; simpa using this
  have hcl := cutC_len 32 line.data.toList
  rw [size_toL] at hcl
  unfold LnPost
  generalize line.data.toList = S at CU GC hcl hw ⊢
  generalize cutC 32 S = P at CU GC hcl hw
  obtain ⟨wd, rs, sp⟩ := P
  dsimp only at CU GC hcl hw
  clear hS hL hE hZ
  subst hw
  go_enter Tryz.func30, Tryz.ntmps30
  go_wp2_with fail
  refine (CU.out _).mono ?_
  rintro e w1 ⟨rfl, m, rfl⟩
  have B1 := hide (below_drewN (Below.refl w.heap.size w) m)
  generalize w.drewN m = V at B1 ⊢
  have S1 := hide (S0.out.below B1.out)
  have L1 := hide (L0.out.below B1.out (Nat.le_refl _))
  have E1 := hide (E0.out.below B1.out E0.out.1)
  have K1 : Hid (KR b base w V) := KR.of_below B1.out (Nat.le_refl _)
  clear CU
  rcases nil_or_last R with rfl | ⟨R0, r, rfl⟩
  · go_wp2_with fail
    refine (within_none b base a c ⟨#[100, 111]⟩ ⟨rs.toArray⟩ V S1.out E1.out).mono ?_
    rintro e w2 ⟨hK, ty, p, rfl⟩
    have K2 := hide (K1.out.trans hK)
    clear hK
    go_wp2
    go_ret
    refine ⟨K2.out, .inr ⟨fun G h => ?_, ty, p, rfl⟩⟩
    obtain ⟨D0, d, i, h1, _⟩ := gw_do (GC.out G h) rfl
    simp at h1
  · have hl1 : (R0 ++ [r]).length = R0.length + 1 := by simp
    obtain ⟨g, c2, hgc⟩ := cu_some S1.out.row.own (by rw [hl1]; omega)
    cases hgc
    have S2 : Hid (RSt V b base (.slice (some ⟨g, 0, none⟩) (R0.length + 1) c) (R0 ++ [r])) := by
      have := S1.out
      rw [hl1] at this
      exact this
    have hr := Z0.out.2 r.1 (by simp)
    have hra := hr.a
    have hcl2 := cutC_len 32 rs
    rw [hl1] at hRn
    clear hr S1
    go_wp2_with fail
    refine (within_do b base g c R0 r ⟨rs.toArray⟩ V S2.out (by omega) (by show rs.length ≤ 400000; omega) (by omega) L1.out).mono ?_
    rintro e w2 ⟨hK, hP⟩
    have K2 := hide (K1.out.trans hK)
    rcases hP with ⟨i, v', hi, rfl, hR2⟩ | ⟨hno, ty, p, rfl⟩
    · have HI := hide (show readL rs = some i from hi)
      have hti : i.2.1.length ≤ 300000 := by
        have h1 := ins_of (readL_ok (show readL rs = some i from hi))
        have h2 : mostText i.1 ≤ 2000 := by unfold mostText; split <;> omega
        omega
      clear hi
      have R2 := hide hR2
      clear hR2 hK
      go_wp2
      go_ret
      refine ⟨K2.out, .inl ⟨_, _, _, rfl, R2.out.len (by simp), ?_, fun G h => ?_⟩⟩
      · have hz := Z0.out
        rw [List.map_append, List.map_cons, List.map_nil] at hz ⊢
        exact hz.doA _ (by show i.2.1.toArray.size ≤ 300000; rw [List.size_toArray]; exact hti)
      · obtain ⟨D0, d, i', h1, h2, h3⟩ := gw_do (GC.out G h) rfl
        rw [List.map_append, List.map_cons, List.map_nil] at h1 ⊢
        obtain ⟨rfl, h4⟩ := List.append_inj' h1 rfl
        cases h4
        rw [HI.out] at h2
        cases h2
        rw [h3]
    · have hno : readL rs = none := hno
      clear hK
      go_wp2
      go_ret
      refine ⟨K2.out, .inr ⟨fun G h => ?_, ty, p, rfl⟩⟩
      obtain ⟨D0, d, i', _, h2, _⟩ := gw_do (GC.out G h) rfl
      rw [hno] at h2
      cases h2

set_option maxRecDepth 100000 in
set_option maxHeartbeats 4000000 in
theorem line_ask (b base k : Nat) (a : Option Addr) (c : Nat) (R : List DR) (line : ByteArray) (w : World) (hS : RSt w b base (.slice a R.length c) R) (hZ : SzD k (R.map (·.1))) (hk : k ≤ 310000) (hl : line.size ≤ 300000) (hL : Lay w) (hE : EV w 1) (hw : (cutC 32 line.data.toList).1 = [97, 115, 107]) :
    Calls Tryz.prog 30 #[.pointer (some ⟨b, 0, none⟩), .string line] w fun e w' => LnPost w b base k R line.data.toList e w' := by
  have CU := hide (fun V => cut1_any line 32 V (by unfold maxLen; omega))
  have GC := hide (fun G (h : Good (R.map (·.1)) line.data.toList G) => good_cut h)
  have S0 := hide hS
  have L0 := hide hL
  have HK := hide hk
  have E0 := hide hE
  have Z0 := hide hZ
  have hRn : R.length ≤ k := by have := hZ.1; simpa using this
  have hcl := cutC_len 32 line.data.toList
  rw [size_toL] at hcl
  unfold LnPost
  generalize line.data.toList = S at CU GC hcl hw ⊢
  generalize cutC 32 S = P at CU GC hcl hw
  obtain ⟨wd, rs, sp⟩ := P
  dsimp only at CU GC hcl hw
  clear hS hL hE hZ
  subst hw
  go_enter Tryz.func30, Tryz.ntmps30
  go_wp2_with fail
  refine (CU.out _).mono ?_
  rintro e w1 ⟨rfl, m, rfl⟩
  have B1 := hide (below_drewN (Below.refl w.heap.size w) m)
  generalize w.drewN m = V at B1 ⊢
  have S1 := hide (S0.out.below B1.out)
  have L1 := hide (L0.out.below B1.out (Nat.le_refl _))
  have E1 := hide (E0.out.below B1.out E0.out.1)
  have K1 : Hid (KR b base w V) := KR.of_below B1.out (Nat.le_refl _)
  clear CU
  rcases nil_or_last R with rfl | ⟨R0, r, rfl⟩
  · go_wp2_with fail
    refine (within_none b base a c ⟨#[97, 115, 107]⟩ ⟨rs.toArray⟩ V S1.out E1.out).mono ?_
    rintro e w2 ⟨hK, ty, p, rfl⟩
    have K2 := hide (K1.out.trans hK)
    clear hK
    go_wp2
    go_ret
    refine ⟨K2.out, .inr ⟨fun G h => ?_, ty, p, rfl⟩⟩
    obtain ⟨D0, d, n, h1, _⟩ := gw_ask (GC.out G h) rfl
    simp at h1
  · have hl1 : (R0 ++ [r]).length = R0.length + 1 := by simp
    obtain ⟨g, c2, hgc⟩ := cu_some S1.out.row.own (by rw [hl1]; omega)
    cases hgc
    have S2 : Hid (RSt V b base (.slice (some ⟨g, 0, none⟩) (R0.length + 1) c) (R0 ++ [r])) := by
      have := S1.out
      rw [hl1] at this
      exact this
    have hr := Z0.out.2 r.1 (by simp)
    have hra := hr.l
    have hcl2 := cutC_len 32 rs
    rw [hl1] at hRn
    clear hr S1
    go_wp2_with fail
    refine (within_ask b base g c R0 r ⟨rs.toArray⟩ V S2.out (by omega) (by show rs.length ≤ 400000; omega) (by omega) L1.out).mono ?_
    rintro e w2 ⟨hK, hP⟩
    have K2 := hide (K1.out.trans hK)
    rcases hP with ⟨n, v', hi, rfl, hR2⟩ | ⟨hno, ty, p, rfl⟩
    · have HI := hide (show IsNum (cutC 32 rs).2.1 n from hi)
      clear hi
      have R2 := hide hR2
      clear hR2 hK
      go_wp2
      go_ret
      refine ⟨K2.out, .inl ⟨_, _, _, rfl, R2.out.len (by simp), ?_, fun G h => ?_⟩⟩
      · have hz := Z0.out
        rw [List.map_append, List.map_cons, List.map_nil] at hz ⊢
        exact hz.lkA _ (by show (cutC 32 rs).1.toArray.size ≤ 300000; rw [List.size_toArray]; omega)
      · obtain ⟨D0, d, n', h1, h2, h3⟩ := gw_ask (GC.out G h) rfl
        rw [List.map_append, List.map_cons, List.map_nil] at h1 ⊢
        obtain ⟨rfl, h4⟩ := List.append_inj' h1 rfl
        cases h4
        rw [h3, isNum_one h2 HI.out]
    · have hno : ∀ n, ¬ IsNum (cutC 32 rs).2.1 n := hno
      clear hK
      go_wp2
      go_ret
      refine ⟨K2.out, .inr ⟨fun G h => ?_, ty, p, rfl⟩⟩
      obtain ⟨D0, d, n', _, h2, _⟩ := gw_ask (GC.out G h) rfl
      exact hno _ h2

set_option maxRecDepth 100000 in
set_option maxHeartbeats 4000000 in
theorem line_has (b base k : Nat) (a : Option Addr) (c : Nat) (R : List DR) (line : ByteArray) (w : World) (hS : RSt w b base (.slice a R.length c) R) (hZ : SzD k (R.map (·.1))) (hk : k ≤ 310000) (hl : line.size ≤ 300000) (hL : Lay w) (hE : EV w 1) (hw : (cutC 32 line.data.toList).1 = [104, 97, 115]) :
    Calls Tryz.prog 30 #[.pointer (some ⟨b, 0, none⟩), .string line] w fun e w' => LnPost w b base k R line.data.toList e w' := by
  have CU := hide (fun V => cut1_any line 32 V (by unfold maxLen; omega))
  have GC := hide (fun G (h : Good (R.map (·.1)) line.data.toList G) => good_cut h)
  have S0 := hide hS
  have L0 := hide hL
  have HK := hide hk
  have E0 := hide hE
  have Z0 := hide hZ
  have hRn : R.length ≤ k := by have := hZ.1; simpa using this
  have hcl := cutC_len 32 line.data.toList
  rw [size_toL] at hcl
  unfold LnPost
  generalize line.data.toList = S at CU GC hcl hw ⊢
  generalize cutC 32 S = P at CU GC hcl hw
  obtain ⟨wd, rs, sp⟩ := P
  dsimp only at CU GC hcl hw
  clear hS hL hE hZ
  subst hw
  go_enter Tryz.func30, Tryz.ntmps30
  go_wp2_with fail
  refine (CU.out _).mono ?_
  rintro e w1 ⟨rfl, m, rfl⟩
  have B1 := hide (below_drewN (Below.refl w.heap.size w) m)
  generalize w.drewN m = V at B1 ⊢
  have S1 := hide (S0.out.below B1.out)
  have L1 := hide (L0.out.below B1.out (Nat.le_refl _))
  have E1 := hide (E0.out.below B1.out E0.out.1)
  have K1 : Hid (KR b base w V) := KR.of_below B1.out (Nat.le_refl _)
  clear CU
  rcases nil_or_last R with rfl | ⟨R0, r, rfl⟩
  · go_wp2_with fail
    refine (within_none b base a c ⟨#[104, 97, 115]⟩ ⟨rs.toArray⟩ V S1.out E1.out).mono ?_
    rintro e w2 ⟨hK, ty, p, rfl⟩
    have K2 := hide (K1.out.trans hK)
    clear hK
    go_wp2
    go_ret
    refine ⟨K2.out, .inr ⟨fun G h => ?_, ty, p, rfl⟩⟩
    obtain ⟨D0, d, h1, _⟩ := gw_has (GC.out G h) rfl
    simp at h1
  · have hl1 : (R0 ++ [r]).length = R0.length + 1 := by simp
    obtain ⟨g, c2, hgc⟩ := cu_some S1.out.row.own (by rw [hl1]; omega)
    cases hgc
    have S2 : Hid (RSt V b base (.slice (some ⟨g, 0, none⟩) (R0.length + 1) c) (R0 ++ [r])) := by
      have := S1.out
      rw [hl1] at this
      exact this
    have hr := Z0.out.2 r.1 (by simp)
    have hra := hr.l
    have hcl2 := cutC_len 32 rs
    rw [hl1] at hRn
    clear hr S1
    go_wp2_with fail
    refine (within_has b base g c R0 r ⟨rs.toArray⟩ V S2.out (by omega) (by show rs.length ≤ 400000; omega) (by omega)).mono ?_
    rintro e w2 ⟨hK, v', rfl, hR2⟩
    have K2 := hide (K1.out.trans hK)
    have R2 := hide hR2
    clear hR2 hK
    go_wp2
    go_ret
    refine ⟨K2.out, .inl ⟨_, _, _, rfl, R2.out.len (by simp), ?_, fun G h => ?_⟩⟩
    · have hz := Z0.out
      rw [List.map_append, List.map_cons, List.map_nil] at hz ⊢
      exact hz.lkA _ (by show (cutC 32 rs).1.toArray.size ≤ 300000; rw [List.size_toArray]; omega)
    · obtain ⟨D0, d, h1, h3⟩ := gw_has (GC.out G h) rfl
      rw [List.map_append, List.map_cons, List.map_nil] at h1 ⊢
      obtain ⟨rfl, h4⟩ := List.append_inj' h1 rfl
      cases h4
      rw [h3]

set_option maxRecDepth 100000 in
set_option maxHeartbeats 4000000 in
theorem line_other (b base k : Nat) (a : Option Addr) (c : Nat) (R : List DR) (line : ByteArray) (w : World) (hS : RSt w b base (.slice a R.length c) R) (hZ : SzD k (R.map (·.1))) (hk : k ≤ 310000) (hl : line.size ≤ 300000) (hL : Lay w) (hE : EV w 1) (hw : ¬ ((cutC 32 line.data.toList).1 = wAcc ∨ (cutC 32 line.data.toList).1 = wEnd ∨ (cutC 32 line.data.toList).1 = wSrc ∨ (cutC 32 line.data.toList).1 = wNon ∨ (cutC 32 line.data.toList).1 = wTgt ∨ (cutC 32 line.data.toList).1 = wDo ∨ (cutC 32 line.data.toList).1 = wAsk ∨ (cutC 32 line.data.toList).1 = wHas)) :
    Calls Tryz.prog 30 #[.pointer (some ⟨b, 0, none⟩), .string line] w fun e w' => LnPost w b base k R line.data.toList e w' := by
  have CU := hide (fun V => cut1_any line 32 V (by unfold maxLen; omega))
  have GC := hide (fun G (h : Good (R.map (·.1)) line.data.toList G) => good_cut h)
  have S0 := hide hS
  have L0 := hide hL
  have HK := hide hk
  have E0 := hide hE
  have Z0 := hide hZ
  have hRn : R.length ≤ k := by have := hZ.1; simpa using this
  have hcl := cutC_len 32 line.data.toList
  rw [size_toL] at hcl
  unfold LnPost
  generalize line.data.toList = S at CU GC hcl hw ⊢
  generalize cutC 32 S = P at CU GC hcl hw
  obtain ⟨wd, rs, sp⟩ := P
  dsimp only at CU GC hcl hw
  clear hS hL hE hZ
  have HW := hide hw
  simp only [not_or] at hw
  obtain ⟨n1, n2, n3, n4, n5, n6, n7, n8⟩ := hw
  have m1 : (wd == [97, 99, 99, 111, 117, 110, 116]) = false := by simpa using n1
  have m2 : (wd == [101, 110, 100]) = false := by simpa using n2
  have m3 : (wd == [115, 111, 117, 114, 99, 101]) = false := by simpa using n3
  have m4 : (wd == [110, 111, 110, 101]) = false := by simpa using n4
  have m5 : (wd == [116, 97, 114, 103, 101, 116]) = false := by simpa using n5
  have m6 : (wd == [100, 111]) = false := by simpa using n6
  have m7 : (wd == [97, 115, 107]) = false := by simpa using n7
  have m8 : (wd == [104, 97, 115]) = false := by simpa using n8
  go_enter Tryz.func30, Tryz.ntmps30
  go_wp2_with fail
  refine (CU.out _).mono ?_
  rintro e w1 ⟨rfl, m, rfl⟩
  have B1 := hide (below_drewN (Below.refl w.heap.size w) m)
  generalize w.drewN m = V at B1 ⊢
  have S1 := hide (S0.out.below B1.out)
  have L1 := hide (L0.out.below B1.out (Nat.le_refl _))
  have E1 := hide (E0.out.below B1.out E0.out.1)
  have K1 : Hid (KR b base w V) := KR.of_below B1.out (Nat.le_refl _)
  clear CU
  obtain ⟨hz, ty, p, he⟩ := L1.out.wd
  go_wp2
  go_ret
  exact ⟨K1.out, .inr ⟨fun G h => HW.out (gw_word (GC.out G h)), ty, p, rfl⟩⟩

theorem readLine_any (b base k : Nat) (a : Option Addr) (c : Nat) (R : List DR) (line : ByteArray) (w : World) (hS : RSt w b base (.slice a R.length c) R) (hZ : SzD k (R.map (·.1))) (hk : k ≤ 310000) (hl : line.size ≤ 300000) (hL : Lay w) (hE : EV w 1) :
    Calls Tryz.prog 30 #[.pointer (some ⟨b, 0, none⟩), .string line] w fun e w' => LnPost w b base k R line.data.toList e w' := by
  by_cases h1 : (cutC 32 line.data.toList).1 = wAcc
  · exact line_acc b base k a c R line w hS hZ hk hl hL hE h1
  by_cases h2 : (cutC 32 line.data.toList).1 = wEnd
  · exact line_end b base k a c R line w hS hZ hk hl hL hE h2
  by_cases h3 : (cutC 32 line.data.toList).1 = wSrc
  · exact line_src b base k a c R line w hS hZ hk hl hL hE h3
  by_cases h4 : (cutC 32 line.data.toList).1 = wNon
  · exact line_non b base k a c R line w hS hZ hk hl hL hE h4
  by_cases h5 : (cutC 32 line.data.toList).1 = wTgt
  · exact line_tgt b base k a c R line w hS hZ hk hl hL hE h5
  by_cases h6 : (cutC 32 line.data.toList).1 = wDo
  · exact line_do b base k a c R line w hS hZ hk hl hL hE h6
  by_cases h7 : (cutC 32 line.data.toList).1 = wAsk
  · exact line_ask b base k a c R line w hS hZ hk hl hL hE h7
  by_cases h8 : (cutC 32 line.data.toList).1 = wHas
  · exact line_has b base k a c R line w hS hZ hk hl hL hE h8
  exact line_other b base k a c R line w hS hZ hk hl hL hE (by simp only [not_or]; exact ⟨h1, h2, h3, h4, h5, h6, h7, h8⟩)


end Go.Proofs.YtkbhcajiebeepaaGreatDoor.Vp

/-
  ReadAccount, spec, pure: the words of a line.
-/
namespace Go.Proofs.YtkbhcajiebeepaaGreatDoor.Vp
open Go.RowKit

theorem cutC_flag {c : UInt8} {s : List UInt8} (h : (cutC c s).2.2 = false) : cutC c s = (s, [], false) := by
  have h1 := cutC_inv c s
  rw [if_neg (by rw [h]; simp)] at h1
  have h2 : c ∉ s := by rw [h1.2]; exact h1.1
  exact cutC_no h2
theorem cutN_head (n : Nat) (s : List UInt8) (x y : List UInt8) (b : Bool) (h : cutC 32 s = (x, y, b)) (hn : 0 < n) : (b = true ∧ cutN n s = x :: cutN (n - 1) y) ∨ (b = false ∧ cutN n s = [x] ∧ y = []) := by
  obtain ⟨m, rfl⟩ : ∃ m, n = m + 1 := ⟨n - 1, by omega⟩
  cases b with
  | true =>
    refine .inl ⟨rfl, ?_⟩
    rw [cutN, h, if_pos rfl]
    rfl
  | false =>
    have hf := cutC_flag (c := 32) (s := s) (by rw [h])
    rw [h] at hf
    cases hf
    refine .inr ⟨rfl, ?_, rfl⟩
    rw [cutN, h, if_neg (by simp)]
theorem words_one (n : Nat) (hn : 0 < n) (s : List UInt8) : ∃ tl, cutN n s = (cutC 32 s).1 :: tl := by
  rcases cutN_head n s _ _ _ rfl hn with ⟨_, h⟩ | ⟨_, h, _⟩
  · exact ⟨_, h⟩
  · exact ⟨_, h⟩
theorem words_two (n : Nat) (hn : 2 ≤ n) (s : List UInt8) (X : List (List UInt8)) : ∃ tl, cutN n s ++ [] :: X = (cutC 32 s).1 :: (cutC 32 (cutC 32 s).2.1).1 :: tl := by
  rcases cutN_head n s _ _ _ rfl (by omega) with ⟨_, h⟩ | ⟨_, h, h2⟩
  · obtain ⟨tl, h3⟩ := words_one (n - 1) (by omega) (cutC 32 s).2.1
    exact ⟨tl ++ [] :: X, by rw [h, h3]; rfl⟩
  · rw [h, h2]
    exact ⟨X, rfl⟩
theorem words_src (s : List UInt8) : ∃ tl, cutN 2 s ++ [[], []] = (cutC 32 s).1 :: (cutC 32 (cutC 32 s).2.1).1 :: (cutC 32 (cutC 32 s).2.1).2.1 :: tl := by
  rcases cutN_head 2 s _ _ _ rfl (by omega) with ⟨_, h⟩ | ⟨_, h, h2⟩
  · rcases cutN_head 1 (cutC 32 s).2.1 _ _ _ rfl (by omega) with ⟨_, h3⟩ | ⟨_, h3, h4⟩
    · exact ⟨[[], []], by rw [h, show cutN (2 - 1) (cutC 32 s).2.1 = _ from h3]; rfl⟩
    · exact ⟨[[]], by rw [h, show cutN (2 - 1) (cutC 32 s).2.1 = _ from h3, h4]; rfl⟩
  · rw [h, h2]
    exact ⟨[], rfl⟩
theorem words_three (s : List UInt8) (X : List (List UInt8)) : ∃ tl, cutN 3 s ++ [] :: [] :: X = (cutC 32 s).1 :: (cutC 32 (cutC 32 s).2.1).1 :: (cutC 32 (cutC 32 (cutC 32 s).2.1).2.1).1 :: tl := by
  rcases cutN_head 3 s _ _ _ rfl (by omega) with ⟨_, h⟩ | ⟨_, h, h2⟩
  · obtain ⟨tl, h3⟩ := words_two 2 (by omega) (cutC 32 s).2.1 ([] :: X)
    exact ⟨tl, by rw [h, List.cons_append, show cutN (3 - 1) (cutC 32 s).2.1 = cutN 2 (cutC 32 s).2.1 from rfl, h3]⟩
  · rw [h, h2]
    exact ⟨X, rfl⟩
theorem words_tgt (s : List UInt8) : ∃ tl, cutN 3 s ++ [[], [], []] = (cutC 32 s).1 :: (cutC 32 (cutC 32 s).2.1).1 :: (cutC 32 (cutC 32 (cutC 32 s).2.1).2.1).1 :: (cutC 32 (cutC 32 (cutC 32 s).2.1).2.1).2.1 :: tl := by
  rcases cutN_head 3 s _ _ _ rfl (by omega) with ⟨_, h⟩ | ⟨_, h, h2⟩
  · obtain ⟨tl, h3⟩ := words_src (cutC 32 s).2.1
    refine ⟨tl ++ [[]], ?_⟩
    rw [h, show cutN (3 - 1) (cutC 32 s).2.1 = cutN 2 (cutC 32 s).2.1 from rfl, show ([[], [], []] : List (List UInt8)) = [[], []] ++ [[]] from rfl, List.cons_append, ← List.append_assoc, h3]
    rfl
  · rw [h, h2]
    exact ⟨[], rfl⟩
theorem loosU_quote (t : List UInt8) : loosU (innerL (quoteB t)) = t := by rw [innerL_quote, loosU_enc]
theorem num_dec {s : List UInt8} {n : Int} (h : IsNum s n) (h0 : 0 ≤ n) (h1 : n ≤ 2000) : numL 0 (s.take 6) = n ∧ (32 : UInt8) ∉ s := by
  have e := h.1
  rw [← dec_itoa h0] at e
  rw [e, numL6 n.toNat (by omega)]
  exact ⟨by omega, dec_no32 _⟩
theorem gw_tgtB {D G : List Deed} {S W rest : List UInt8} (h : GW D S W rest G) (e : W = wTgt) : ∃ n t, OkD 3 rest n t ∧ 0 ≤ n ∧ n ≤ 5 ∧ G = D ++ [newDeed ⟨(cutC 32 rest).1.toArray⟩ 3 n ⟨t.toArray⟩] := by
  rcases h with ⟨_, rfl, rfl, rfl⟩ | ⟨_, rfl, rfl, rfl⟩ | ⟨_, _, _, rfl, rfl, rfl⟩ | ⟨_, rfl, rfl, rfl⟩ | ⟨_, _, _, _, _, _, rfl, rfl, rfl⟩ | ⟨_, _, _, _, rfl, rfl, rfl⟩ | ⟨_, _, _, _, _, _, rfl, rfl, rfl⟩ | ⟨_, _, _, rfl, rfl, rfl⟩ <;> first | exact absurd e (by decide) | exact ⟨_, _, by assumption, by assumption, by assumption, rfl⟩
theorem gw_askB {D G : List Deed} {S W rest : List UInt8} (h : GW D S W rest G) (e : W = wAsk) : ∃ D0 d n, D = D0 ++ [d] ∧ IsNum (cutC 32 rest).2.1 n ∧ 0 ≤ n ∧ n ≤ 400 ∧ G = D0 ++ [d.lkA ⟨⟨(cutC 32 rest).1.toArray⟩, true, false, n⟩] := by
  rcases h with ⟨_, rfl, rfl, rfl⟩ | ⟨_, rfl, rfl, rfl⟩ | ⟨_, _, _, rfl, rfl, rfl⟩ | ⟨_, rfl, rfl, rfl⟩ | ⟨_, _, _, _, _, _, rfl, rfl, rfl⟩ | ⟨_, _, _, _, rfl, rfl, rfl⟩ | ⟨_, _, _, _, _, _, rfl, rfl, rfl⟩ | ⟨_, _, _, rfl, rfl, rfl⟩ <;> first | exact absurd e (by decide) | exact ⟨_, _, _, rfl, by assumption, by assumption, by assumption, rfl⟩
theorem gw_hasB {D G : List Deed} {S W rest : List UInt8} (h : GW D S W rest G) (e : W = wHas) : ∃ D0 d, D = D0 ++ [d] ∧ (32 : UInt8) ∉ (cutC 32 rest).2.1 ∧ G = D0 ++ [d.lkA ⟨⟨(cutC 32 rest).1.toArray⟩, false, (cutC 32 rest).2.1 == [49], 0⟩] := by
  rcases h with ⟨_, rfl, rfl, rfl⟩ | ⟨_, rfl, rfl, rfl⟩ | ⟨_, _, _, rfl, rfl, rfl⟩ | ⟨_, rfl, rfl, rfl⟩ | ⟨_, _, _, _, _, _, rfl, rfl, rfl⟩ | ⟨_, _, _, _, rfl, rfl, rfl⟩ | ⟨_, _, _, _, _, _, rfl, rfl, rfl⟩ | ⟨_, _, _, rfl, rfl, rfl⟩ <;> first | exact absurd e (by decide) | exact ⟨_, _, rfl, by assumption, rfl⟩
theorem gs_src {D G : List Deed} {S : List UInt8} (h : Good D S G) (e : (cutC 32 S).1 = wSrc) : G = D ++ [newDeed ⟨(cutC 32 (cutC 32 S).2.1).1.toArray⟩ 1 0 ⟨(loosU (innerL (cutC 32 (cutC 32 S).2.1).2.1)).toArray⟩] := by
  obtain ⟨t, ⟨_, h1⟩, h2⟩ := gw_src (good_cut h) e
  rw [h2, h1, loosU_quote]
theorem gs_non {D G : List Deed} {S : List UInt8} (h : Good D S G) (e : (cutC 32 S).1 = wNon) : G = D ++ [newDeed ⟨(cutC 32 (cutC 32 S).2.1).1.toArray⟩ 2 0 ⟨#[]⟩] := gw_non (good_cut h) e
theorem gs_tgt {D G : List Deed} {S : List UInt8} (h : Good D S G) (e : (cutC 32 S).1 = wTgt) : G = D ++ [newDeed ⟨(cutC 32 (cutC 32 S).2.1).1.toArray⟩ 3 (numL 0 ((cutC 32 (cutC 32 (cutC 32 S).2.1).2.1).1.take 6)) ⟨(loosU (innerL (cutC 32 (cutC 32 (cutC 32 S).2.1).2.1).2.1)).toArray⟩] := by
  obtain ⟨n, t, hok, h0, h5, h2⟩ := gw_tgtB (good_cut h) e
  unfold OkD at hok
  rw [if_pos rfl] at hok
  rw [h2, hok.2, loosU_quote, (num_dec hok.1 h0 (by omega)).1]
/-- What is read, or nothing. -/
def insOf (o : Option I3) : Ins := match o with
  | some i => ⟨i.1, ⟨i.2.1.toArray⟩, i.2.2⟩
  | none => noIns
theorem gs_do {D G : List Deed} {S : List UInt8} (h : Good D S G) (e : (cutC 32 S).1 = wDo) : ∃ D0 d, D = D0 ++ [d] ∧ 3 < S.length ∧ G = D0 ++ [d.doA (insOf (readL (S.drop 3)))] := by
  obtain ⟨D0, d, i, h1, h2, h3⟩ := gw_do (good_cut h) e
  have hne : (cutC 32 S).2.1 ≠ [] := fun hq => by
    have hk := readL_is h2
    have := line_ne hk.1
    rw [← hk.2, hq] at this
    exact this rfl
  have hS := (cutC_inv 32 S).2
  have hf : (cutC 32 S).2.2 = true := by
    cases hb : (cutC 32 S).2.2 with
    | true => rfl
    | false =>
      have := cutC_flag hb
      exact absurd (congrArg (fun z => z.2.1) this) hne
  rw [if_pos hf, e] at hS
  have hd : S.drop 3 = (cutC 32 S).2.1 := by
    have h4 := congrArg (List.drop 3) hS
    exact h4
  refine ⟨D0, d, h1, ?_, ?_⟩
  · have h5 := congrArg List.length hS
    have h6 := List.length_pos_iff.2 hne
    simp only [List.length_append, List.length_cons, List.length_nil] at h5
    omega
  · rw [hd, h2]
    exact h3
theorem gs_ask {D G : List Deed} {S : List UInt8} (h : Good D S G) (e : (cutC 32 S).1 = wAsk) : ∃ D0 d, D = D0 ++ [d] ∧ G = D0 ++ [d.lkA ⟨⟨(cutC 32 (cutC 32 S).2.1).1.toArray⟩, true, false, numL 0 ((cutC 32 (cutC 32 (cutC 32 S).2.1).2.1).1.take 6)⟩] := by
  obtain ⟨D0, d, n, h1, hn, h0, h4, h2⟩ := gw_askB (good_cut h) e
  obtain ⟨h5, h6⟩ := num_dec hn h0 (by omega)
  refine ⟨D0, d, h1, ?_⟩
  rw [h2, cutC_no h6, h5]
theorem gs_has {D G : List Deed} {S : List UInt8} (h : Good D S G) (e : (cutC 32 S).1 = wHas) : ∃ D0 d, D = D0 ++ [d] ∧ G = D0 ++ [d.lkA ⟨⟨(cutC 32 (cutC 32 S).2.1).1.toArray⟩, false, (cutC 32 (cutC 32 (cutC 32 S).2.1).2.1).1 == [49], 0⟩] := by
  obtain ⟨D0, d, h1, h6, h2⟩ := gw_hasB (good_cut h) e
  refine ⟨D0, d, h1, ?_⟩
  rw [h2, cutC_no h6]
theorem gs_other {D G : List Deed} {S : List UInt8} (h : Good D S G) (n3 : ¬ (cutC 32 S).1 = wSrc) (n4 : ¬ (cutC 32 S).1 = wNon) (n5 : ¬ (cutC 32 S).1 = wTgt) (n6 : ¬ (cutC 32 S).1 = wDo) (n7 : ¬ (cutC 32 S).1 = wAsk) (n8 : ¬ (cutC 32 S).1 = wHas) : G = D := by
  have hg := good_cut h
  rcases gw_word hg with h1 | h1 | h1 | h1 | h1 | h1 | h1 | h1
  · exact gw_same hg (.inl h1)
  · exact gw_same hg (.inr h1)
  · exact absurd h1 n3
  · exact absurd h1 n4
  · exact absurd h1 n5
  · exact absurd h1 n6
  · exact absurd h1 n7
  · exact absurd h1 n8
/-- A line on. -/
theorem step_tL {D D' E : List Deed} {l : List UInt8} {ls : List (List UInt8)} (h1 : l = [] → D' = D) (h2 : ∀ G, Good D l G → D' = G) (h : GoodAll D (tL (l :: ls)) E) : GoodAll D' (tL ls) E := by
  cases ls with
  | nil =>
    by_cases hl : l = []
    · rw [h1 hl]
      subst hl
      exact h
    · rw [tL_last hl] at h
      obtain ⟨G, h3, h4⟩ := h
      rw [h2 G h3]
      exact h4
  | cons l' ls =>
    obtain ⟨G, h3, h4⟩ := h
    rw [h2 G h3]
    exact h4

end Go.Proofs.YtkbhcajiebeepaaGreatDoor.Vp
