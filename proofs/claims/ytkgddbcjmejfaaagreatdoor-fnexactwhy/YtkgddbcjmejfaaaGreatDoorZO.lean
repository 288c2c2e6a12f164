/-
  Put together of: WhSpec1.
-/
import Derived.Test.YtkgddbcjmejfaaaGreatDoorZM
import Derived.Test.YtkgddbcjmejfaaaGreatDoorZF
import Derived.Deep.RegionHeld3

/-
  spec: l5There, l5Agree.
-/
namespace Go.Proofs.YtkgddbcjmejfaaaGreatDoor.Vp
open Go.RowKit

def thereK (k : Int) : Bool := k == 1 || k == 3 || k == 4
set_option maxRecDepth 100000 in
set_option maxHeartbeats 4000000 in
theorem l5There_any (k : Int) (v1 : ByteArray) (a : Option Addr) (m c : Nat) (w : World) :
    Calls Tryz.prog 47 #[.agg #[.int .i64 k, .string v1, .slice a m c]] w fun e w' => e = .returned (.bool (thereK k)) ∧ Below w.heap.size w w' := by
  have A0 := hide ((Below.refl w.heap.size w).alloc (Nat.le_refl _) (.cells #[.int .i64 k, .string v1, .slice a m c] 69))
  have k0 : (w.alloc (.cells #[.int .i64 k, .string v1, .slice a m c] 69)).cell? ⟨w.heap.size, 0, none⟩ = some (.int .i64 k) := by simp
  obtain ⟨r, hr⟩ : ∃ r, r = thereK k := ⟨_, rfl⟩
  rw [← hr]
  have HR := hide hr
  clear hr
  go_enter Tryz.func47, Tryz.ntmps47
  cases h1 : (k == 1) with
  | true =>
    obtain rfl : r = true := by rw [HR.out, thereK, h1]; rfl
    go_wp2
    go_ret
    exact ⟨rfl, A0.out⟩
  | false =>
    cases h3 : (k == 3) with
    | true =>
      obtain rfl : r = true := by rw [HR.out, thereK, h1, h3]; rfl
      go_wp2
      go_ret
      exact ⟨rfl, A0.out⟩
    | false =>
      obtain rfl : r = (k == 4) := by rw [HR.out, thereK, h1, h3]; rfl
      go_wp2
      go_ret
      exact ⟨rfl, A0.out⟩

/-- Two boxes of three cells. -/
structure Thr (w : World) (b : Nat) (v0 v1 v2 : Value) : Prop where
  lt : b < w.heap.size
  c0 : w.cell? ⟨b, 0, none⟩ = some v0
  c1 : w.cell? ⟨b, 1, none⟩ = some v1
  c2 : w.cell? ⟨b, 2, none⟩ = some v2
theorem Thr.below {w w' : World} {b B : Nat} {v0 v1 v2 : Value} (h : Thr w b v0 v1 v2) (hb : Below B w w') (hB : b < B) : Thr w' b v0 v1 v2 :=
  ⟨Nat.lt_of_lt_of_le h.lt hb.size, (hb.cell (p := ⟨b, 0, none⟩) hB).trans h.c0, (hb.cell (p := ⟨b, 1, none⟩) hB).trans h.c1, (hb.cell (p := ⟨b, 2, none⟩) hB).trans h.c2⟩
theorem thr_new (w : World) (v0 v1 v2 : Value) (t : TypeId) : Thr (w.alloc (.cells #[v0, v1, v2] t)) w.heap.size v0 v1 v2 := ⟨by simp, by simp, by simp, by simp⟩
theorem thr_two (w : World) (v0 v1 v2 u0 u1 u2 : Value) (t : TypeId) : Thr ((w.alloc (.cells #[v0, v1, v2] t)).alloc (.cells #[u0, u1, u2] t)) w.heap.size v0 v1 v2 ∧ Thr ((w.alloc (.cells #[v0, v1, v2] t)).alloc (.cells #[u0, u1, u2] t)) (w.heap.size + 1) u0 u1 u2 := by
  have hz : (w.alloc (.cells #[v0, v1, v2] t)).heap.size = w.heap.size + 1 := by simp
  refine ⟨(thr_new w v0 v1 v2 t).below ((Below.refl (w.heap.size + 1) _).alloc (by omega) _) (Nat.lt_succ_self _), ?_⟩
  have := thr_new (w.alloc (.cells #[v0, v1, v2] t)) u0 u1 u2 t
  rw [hz] at this
  exact this

set_option maxRecDepth 100000 in
set_option maxHeartbeats 4000000 in
theorem l5Agree_any (x y : Tl) (a : Option Addr) (c : Nat) (a' : Option Addr) (c' : Nat) (w : World) (hx : x.actN ≤ 1048576) (hy : y.actN ≤ 1048576) (hf : SlIns w a x.actN x.act) (hg : SlIns w a' y.actN y.act) :
    Calls Tryz.prog 33 #[.agg #[.int .i64 x.kind, .string x.text, .slice a x.actN c], .agg #[.int .i64 y.kind, .string y.text, .slice a' y.actN c']] w fun e w' => e = .returned (.bool (agreeB x y)) ∧ Below w.heap.size w w' := by
  have A0 := hide (((Below.refl w.heap.size w).alloc (Nat.le_refl _) (.cells #[.int .i64 x.kind, .string x.text, .slice a x.actN c] 69)).alloc (by simp) (.cells #[.int .i64 y.kind, .string y.text, .slice a' y.actN c'] 69))
  have TT := thr_two w (.int .i64 x.kind) (.string x.text) (.slice a x.actN c) (.int .i64 y.kind) (.string y.text) (.slice a' y.actN c') 69
  have X0 := hide TT.1
  have Y0 := hide TT.2
  have HF := hide hf
  have HG := hide hg
  clear hf hg TT
  obtain ⟨r, hr⟩ : ∃ r, r = agreeB x y := ⟨_, rfl⟩
  rw [← hr]
  have HR := hide hr
  clear hr
  go_enter Tryz.func33, Tryz.ntmps33
  go_wp2_with fail
  generalize (w.alloc (.cells #[.int .i64 x.kind, .string x.text, .slice a x.actN c] 69)).alloc (.cells #[.int .i64 y.kind, .string y.text, .slice a' y.actN c'] 69) = W at A0 X0 Y0 ⊢
  have hw1 := X0.out.lt
  have hw2 := Y0.out.lt
  have SK : Hid (∀ V, Below W.heap.size W V → V.cell? ⟨w.heap.size, 0, none⟩ = some (.int .i64 x.kind) ∧ V.cell? ⟨w.heap.size, 1, none⟩ = some (.string x.text) ∧ V.cell? ⟨w.heap.size, 2, none⟩ = some (.slice a x.actN c) ∧ V.cell? ⟨w.heap.size + 1, 0, none⟩ = some (.int .i64 y.kind) ∧ V.cell? ⟨w.heap.size + 1, 1, none⟩ = some (.string y.text) ∧ V.cell? ⟨w.heap.size + 1, 2, none⟩ = some (.slice a' y.actN c')) := fun V hV => ⟨(X0.out.below hV hw1).c0, (X0.out.below hV hw1).c1, (X0.out.below hV hw1).c2, (Y0.out.below hV hw2).c0, (Y0.out.below hV hw2).c1, (Y0.out.below hV hw2).c2⟩
  go_region_held3 (fun V => V.cell? ⟨w.heap.size, 0, none⟩ = some (.int .i64 x.kind) ∧ V.cell? ⟨w.heap.size, 1, none⟩ = some (.string x.text) ∧ V.cell? ⟨w.heap.size, 2, none⟩ = some (.slice a x.actN c) ∧ V.cell? ⟨w.heap.size + 1, 0, none⟩ = some (.int .i64 y.kind) ∧ V.cell? ⟨w.heap.size + 1, 1, none⟩ = some (.string y.text) ∧ V.cell? ⟨w.heap.size + 1, 2, none⟩ = some (.slice a' y.actN c')) (first | exact SK.out _ (Below.refl _ _) | exact SK.out _ (Below.refl _ _).drew | exact SK.out _ B1.out | exact SK.out _ B2.out)
    (first
    | (go_at_call 47; refine (l5There_any _ _ _ _ _ _).mono ?_; rintro e w1 ⟨rfl, hB⟩; first | (have B2 : Hid (Below W.heap.size W w1) := B1.out.trans (hB.mono B1.out.size); clear hB) | (have B1 : Hid (Below W.heap.size W w1) := ⟨hB.os, hB.tape, hB.output, hB.size, hB.block⟩; clear hB)))
  obtain ⟨c0, c1, c2, d0, d1, d2⟩ := SK.out w1 B2.out
  have B3 := hide (A0.out.trans (B2.out.mono A0.out.size))
  have F3 := hide (HF.out.below B3.out (Nat.le_refl _))
  have G3 := hide (HG.out.below B3.out (Nat.le_refl _))
  have HRR : Hid (r = if (thereK x.kind != thereK y.kind) = true then false else if (decide (3 < x.kind) || decide (3 < y.kind) || !thereK x.kind) = true then true else x.kind == y.kind && x.text.toList == y.text.toList && codeB x.act y.act x.actN y.actN) := HR.out
  clear HR SK B1 B2 X0 Y0 A0 HF HG hw1 hw2
  generalize hA : (thereK x.kind) = tx at HRR ⊢
  generalize (thereK y.kind) = ty at HRR ⊢
  have HAA := hide hA
  clear hA
  by_cases hty : tx = ty
  · subst hty
    have HR2 : Hid (r = if (decide (3 < x.kind) || decide (3 < y.kind) || !tx) = true then true else x.kind == y.kind && x.text.toList == y.text.toList && codeB x.act y.act x.actN y.actN) := by show r = _; rw [HRR.out]; simp
    clear HRR
    have hbb : (tx == tx) = true := by cases tx <;> rfl
    by_cases h3 : (3 : Int) < x.kind
    · obtain rfl : r = true := by rw [HR2.out]; simp [h3]
      go_simp
      go_wp2
      go_ret
      exact ⟨rfl, B3.out⟩
    · by_cases h4 : (3 : Int) < y.kind
      · obtain rfl : r = true := by rw [HR2.out]; simp [h4]
        go_simp
        go_wp2
        go_ret
        exact ⟨rfl, B3.out⟩
      · have HR3 : Hid (r = if tx = false then true else x.kind == y.kind && x.text.toList == y.text.toList && codeB x.act y.act x.actN y.actN) := by show r = _; rw [HR2.out]; simp [h3, h4]
        clear HR2
        go_simp
        go_wp2_with fail
        refine (l5There_any _ _ _ _ _ _).mono ?_
        rintro e w5 ⟨rfl, hB5⟩
        rw [HAA.out]
        have l1 := World.block_lt_of_cell? _ _ c0
        have l2 := World.block_lt_of_cell? _ _ d0
        have B5 := hide (B3.out.trans (hB5.mono B3.out.size))
        have F5 := hide (F3.out.below hB5 (Nat.le_refl _))
        have G5 := hide (G3.out.below hB5 (Nat.le_refl _))
        have e0 := (hB5.cell (p := ⟨w.heap.size, 0, none⟩) l1).trans c0
        have e1 := (hB5.cell (p := ⟨w.heap.size, 1, none⟩) l1).trans c1
        have e2 := (hB5.cell (p := ⟨w.heap.size, 2, none⟩) l1).trans c2
        have f0 := (hB5.cell (p := ⟨w.heap.size + 1, 0, none⟩) l2).trans d0
        have f1 := (hB5.cell (p := ⟨w.heap.size + 1, 1, none⟩) l2).trans d1
        have f2 := (hB5.cell (p := ⟨w.heap.size + 1, 2, none⟩) l2).trans d2
        clear hB5 c0 c1 c2 d0 d1 d2 l1 l2 HAA hbb B3 F3 G3
        cases tx with
        | false =>
          obtain rfl : r = true := by rw [HR3.out, if_pos rfl]
          go_wp2
          go_ret
          exact ⟨rfl, B5.out⟩
        | true =>
          have HR4 : Hid (r = (x.kind == y.kind && x.text.toList == y.text.toList && codeB x.act y.act x.actN y.actN)) := by show r = _; rw [HR3.out, if_neg (by simp)]
          clear HR3
          cases hk : (x.kind == y.kind) with
          | false =>
            obtain rfl : r = false := by rw [HR4.out, hk]; rfl
            go_wp2
            go_ret
            exact ⟨rfl, B5.out⟩
          | true =>
            cases ht : (x.text.toList == y.text.toList) with
            | false =>
              obtain rfl : r = false := by rw [HR4.out, hk, ht]; rfl
              go_wp2
              go_ret
              exact ⟨rfl, B5.out⟩
            | true =>
              obtain rfl : r = codeB x.act y.act x.actN y.actN := by rw [HR4.out, hk, ht]; rfl
              clear HR4
              go_wp2_with fail
              refine (l4Same_any a x.actN c x.act a' y.actN c' y.act _ hx hy F5.out G5.out).mono ?_
              rintro e w6 ⟨rfl, hB6⟩
              have B6 := hide (B5.out.trans (hB6.mono B5.out.size))
              clear hB6
              go_wp2
              go_ret
              exact ⟨rfl, B6.out⟩
  · obtain rfl : r = false := by rw [HRR.out]; simp [hty]
    have hbb : (tx == ty) = false := by simpa using hty
    go_simp
    go_wp2
    go_ret
    exact ⟨rfl, B3.out⟩

end Go.Proofs.YtkgddbcjmejfaaaGreatDoor.Vp
