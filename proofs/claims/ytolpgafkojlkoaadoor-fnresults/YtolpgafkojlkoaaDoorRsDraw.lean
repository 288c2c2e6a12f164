/-
  The draws: l1Open, pick.
-/
import Derived.Test.YtolpgafkojlkoaaDoorDOnly
import Derived.Test.YtolpgafkojlkoaaDoorDOne
import Derived.Laws.BitsAllLaws
namespace Go.Proofs.YtolpgafkojlkoaaDoor.Vp
open Go.RowKit

theorem i64_xor_nat (a b : Nat) (ha : a < 4611686018427387904) (hb : b < 4611686018427387904) : ∃ x : Nat, bits .xor .i64 (a : Int) (b : Int) = x ∧ x < 4611686018427387904 := by
  have hx : a ^^^ b < 2 ^ 62 := Nat.xor_lt_two_pow (by omega) (by omega)
  refine ⟨a ^^^ b, ?_, by omega⟩
  show IntKind.i64.wrap ((BitVec.ofInt 64 (a : Int) ^^^ BitVec.ofInt 64 (b : Int)).toNat : Int) = _
  have e : ∀ x : Nat, x < 4611686018427387904 → (BitVec.ofInt 64 (x : Int)).toNat = x := fun x h => by
    rw [BitVec.toNat_ofInt]
    omega
  rw [BitVec.toNat_xor, e a ha, e b hb, IntKind.wrap_i64]
  omega

/-- A row of n bytes, in a block that is not R. -/
def SlByte (w : World) (R : Nat) (a : Option Addr) (n : Nat) : Prop := n = 0 ∨ ∃ b off, a = some ⟨b, off, none⟩ ∧ b < R ∧ b < w.heap.size ∧ ∀ i, i < n → ∃ u : Nat, u < 256 ∧ w.cell? ⟨b, off + i, none⟩ = some (.int .u8 u)
theorem SlByte.only {w w' : World} {R n : Nat} {a : Option Addr} (h : SlByte w R a n) (ho : Only R w w') : SlByte w' R a n := by
  rcases h with h | ⟨b, off, e, hb, hl, hc⟩
  · exact .inl h
  · refine .inr ⟨b, off, e, hb, Nat.lt_of_lt_of_le hl ho.size, fun i hi => ?_⟩
    obtain ⟨u, hu, hcell⟩ := hc i hi
    exact ⟨u, hu, (ho.cell b _ hl (by omega)).trans hcell⟩
/-- A reader in block R, at place p. -/
def Rd (w : World) (R p : Nat) : Prop := ∃ a n cap, R < w.heap.size ∧ n ≤ 2000 ∧ w.cell? ⟨R, 0, none⟩ = some (.slice a n cap) ∧ (w.cell? ⟨R, 1, none⟩ = some (.int .i64 p) ∧ w.frozen? ⟨R, 1, none⟩ = false) ∧ SlByte w R a n
theorem Rd.lt {w : World} {R p : Nat} (h : Rd w R p) : R < w.heap.size := by obtain ⟨_, _, _, h, _⟩ := h; exact h
theorem Rd.below {w w' : World} {B R p : Nat} (h : Rd w R p) (hb : Below B w w') (hB : w.heap.size ≤ B) : Rd w' R p := by
  obtain ⟨a, n, cap, hl, hn, h0, ⟨h1, h2⟩, hS⟩ := h
  refine ⟨a, n, cap, Nat.lt_of_lt_of_le hl hb.size, hn, (hb.cell (p := ⟨R, 0, none⟩) (Nat.lt_of_lt_of_le hl hB)).trans h0, ⟨(hb.cell (p := ⟨R, 1, none⟩) (Nat.lt_of_lt_of_le hl hB)).trans h1, (hb.frozen (p := ⟨R, 1, none⟩) (Nat.lt_of_lt_of_le hl hB)).trans h2⟩, ?_⟩
  exact hS.only (Only.of_below (hb.mono hB))
theorem Rd.low {w w' : World} {B R p : Nat} (h : Rd w R p) (hb : Below B w w') (hB : R < B) : Rd w' R p := by
  obtain ⟨a, n, cap, hl, hn, h0, ⟨h1, h2⟩, hS⟩ := h
  refine ⟨a, n, cap, Nat.lt_of_lt_of_le hl hb.size, hn, (hb.cell (p := ⟨R, 0, none⟩) hB).trans h0, ⟨(hb.cell (p := ⟨R, 1, none⟩) hB).trans h1, (hb.frozen (p := ⟨R, 1, none⟩) hB).trans h2⟩, ?_⟩
  rcases hS with h | ⟨b, off, e, hbR, hbl, hc⟩
  · exact .inl h
  · refine .inr ⟨b, off, e, hbR, Nat.lt_of_lt_of_le hbl hb.size, fun i hi => ?_⟩
    obtain ⟨u, hu, hcell⟩ := hc i hi
    exact ⟨u, hu, (hb.cell (p := ⟨b, _, none⟩) (Nat.lt_trans hbR hB)).trans hcell⟩
theorem Only.then {R : Nat} {u v w : World} (h : Only R u v) (k : Below u.heap.size v w) : Only R u w :=
  ⟨k.os.trans h.os, k.tape.trans h.tape, k.output.trans h.output, Nat.le_trans h.size k.size, fun i hi ho => (k.block i hi).trans (h.block i hi ho), fun cs t fz hb => let ⟨cs1, h1⟩ := h.ty cs t fz hb; ⟨cs1, (k.block R (heap_in hb)).trans h1⟩⟩
theorem Rd.step {w : World} {R p : Nat} (h : Rd w R p) : Rd (w.setCell ⟨R, 1, none⟩ (.int .i64 ((p : Int) + 1))) R (p + 1) := by
  obtain ⟨a, n, cap, hl, hn, h0, ⟨h1, h2⟩, hS⟩ := h
  refine ⟨a, n, cap, by simpa using hl, hn, (World.cell?_setCell_other _ _ _ _ (by simp)).trans h0, ⟨?_, by simpa using h2⟩, hS.only (bset (Only.refl R w) 1 _)⟩
  rw [World.cell?_setCell_same' _ _ _ (by rw [h1]; rfl)]
  rfl

set_option maxHeartbeats 1000000 in
theorem pick_nil (R p : Nat) (m : Int) (a : Option Addr) (cap : Nat) (w : World) (h0 : w.cell? ⟨R, 0, none⟩ = some (.slice a 0 cap)) (h1 : w.cell? ⟨R, 1, none⟩ = some (.int .i64 p)) (h2 : w.frozen? ⟨R, 1, none⟩ = false) (hp : (p : Int) ≤ 100000) (hm : 1 ≤ m) :
    Calls Tryd.prog 36 #[.pointer (some ⟨R, 0, none⟩), .int .i64 m] w fun e w' => e = .returned (.int .i64 0) ∧ w' = w.setCell ⟨R, 1, none⟩ (.int .i64 ((p : Int) + 1)) := by
  go_enter Tryd.func36, Tryd.ntmps36
  go_wp2
  go_ret
  exact ⟨rfl, rfl⟩

set_option maxHeartbeats 1000000 in
theorem pick_in (R p : Nat) (m : Int) (b off n cap u : Nat) (w : World) (h0 : w.cell? ⟨R, 0, none⟩ = some (.slice (some ⟨b, off, none⟩) n cap)) (h1 : w.cell? ⟨R, 1, none⟩ = some (.int .i64 p)) (h2 : w.frozen? ⟨R, 1, none⟩ = false) (hp : (p : Int) ≤ 100000) (hm : 1 ≤ m) (hm2 : m ≤ 1000000)
    (hlt : p < n) (hb : b < R) (hu : u < 256) (hc : w.cell? ⟨b, off + p, none⟩ = some (.int .u8 u)) :
    Calls Tryd.prog 36 #[.pointer (some ⟨R, 0, none⟩), .int .i64 m] w fun e w' => ∃ z : Int, e = .returned (.int .i64 z) ∧ 0 ≤ z ∧ z < m ∧ w' = w.setCell ⟨R, 1, none⟩ (.int .i64 ((p : Int) + 1)) := by
  have hc' : (w.setCell ⟨R, 1, none⟩ (.int .i64 ((p : Int) + 1))).cell? ⟨b, off + p, none⟩ = some (.int .u8 u) := (cell_far _ _ _ _ (by simp; omega)).trans hc
  obtain ⟨z, hz, hz0, hz1⟩ : ∃ z : Int, (u : Int).tmod m = z ∧ 0 ≤ z ∧ z < m := ⟨_, rfl, Int.tmod_nonneg _ (by omega), Int.tmod_lt_of_pos _ (by omega)⟩
  have hm0 : ¬ m = 0 := by omega
  have hq : (decide (m < 1) || ((n : Int) == 0)) = false := by simp; omega
  clear hc
  go_enter Tryd.func36, Tryd.ntmps36
  go_wp2
  go_ret
  exact ⟨z, rfl, hz0, hz1, rfl⟩

set_option maxHeartbeats 2000000 in
theorem pick_out (R p : Nat) (m : Int) (b off n cap u v : Nat) (w : World) (h0 : w.cell? ⟨R, 0, none⟩ = some (.slice (some ⟨b, off, none⟩) n cap)) (h1 : w.cell? ⟨R, 1, none⟩ = some (.int .i64 p)) (h2 : w.frozen? ⟨R, 1, none⟩ = false) (hp : (p : Int) ≤ 100000) (hm : 1 ≤ m) (hm2 : m ≤ 1000000)
    (hlt : ¬ p < n) (hn1 : 1 ≤ n) (hn : n ≤ 2000) (hb : b < R) (hu : u < 256) (hv : v < 256) (hc : w.cell? ⟨b, off + p % n, none⟩ = some (.int .u8 u)) (hd : w.cell? ⟨b, off + (p * 7 + 3) % n, none⟩ = some (.int .u8 v)) :
    Calls Tryd.prog 36 #[.pointer (some ⟨R, 0, none⟩), .int .i64 m] w fun e w' => ∃ z : Int, e = .returned (.int .i64 z) ∧ 0 ≤ z ∧ z < m ∧ Below (w.setCell ⟨R, 1, none⟩ (.int .i64 ((p : Int) + 1))).heap.size (w.setCell ⟨R, 1, none⟩ (.int .i64 ((p : Int) + 1))) w' := by
  obtain ⟨i, hi⟩ : ∃ i, i = p % n := ⟨_, rfl⟩
  obtain ⟨j, hj⟩ : ∃ j, j = (p * 7 + 3) % n := ⟨_, rfl⟩
  obtain ⟨d, hd'⟩ : ∃ d, d = p / n := ⟨_, rfl⟩
  have hi2 : i < n := by rw [hi]; exact Nat.mod_lt _ (by omega)
  have hj2 : j < n := by rw [hj]; exact Nat.mod_lt _ (by omega)
  have hd2 : d ≤ p := by rw [hd']; exact Nat.div_le_self _ _
  have e1 : (p : Int).tmod n = i := by rw [hi]; rfl
  have e2 : ((p : Int) * 7 + 3).tmod n = j := by rw [hj]; rfl
  have e3 : (p : Int) / n = d := by rw [hd']; rfl
  rw [← hi] at hc
  rw [← hj] at hd
  have hc' : (w.setCell ⟨R, 1, none⟩ (.int .i64 ((p : Int) + 1))).cell? ⟨b, off + i, none⟩ = some (.int .u8 u) := (cell_far _ _ _ _ (by simp; omega)).trans hc
  have hdd : (w.setCell ⟨R, 1, none⟩ (.int .i64 ((p : Int) + 1))).cell? ⟨b, off + j, none⟩ = some (.int .u8 v) := (cell_far _ _ _ _ (by simp; omega)).trans hd
  have g0 : (w.setCell ⟨R, 1, none⟩ (.int .i64 ((p : Int) + 1))).cell? ⟨R, 0, none⟩ = some (.slice (some ⟨b, off, none⟩) n cap) := (World.cell?_setCell_other _ _ _ _ (by simp)).trans h0
  obtain ⟨x, hx, hx2⟩ : ∃ x : Nat, (u : Int) * 131 + v * 1117 + p * 29 + d * 53 = x ∧ x < 1000000000000 := ⟨u * 131 + v * 1117 + p * 29 + d * 53, by omega, by omega⟩
  obtain ⟨y, hy, hy2⟩ := i64_xor_nat x (x / 64) (by omega) (by omega)
  rw [show ((x / 64 : Nat) : Int) = (x : Int) / 64 from rfl] at hy
  obtain ⟨z, hz, hz0, hz1⟩ : ∃ z : Int, (y : Int).tmod m = z ∧ 0 ≤ z ∧ z < m := ⟨_, rfl, Int.tmod_nonneg _ (by omega), Int.tmod_lt_of_pos _ (by omega)⟩
  have hm0 : ¬ m = 0 := by omega
  have hq : (decide (m < 1) || ((n : Int) == 0)) = false := by simp; omega
  have hn0 : ¬ (n : Int) = 0 := by omega
  have hge : (n : Int) ≤ p := by omega
  have HX := hide hx
  have HY := hide hy
  have HZ := hide hz
  clear hi hj hc hd hx hy hz hd'
  go_enter Tryd.func36, Tryd.ntmps36
  go_wp2_with fail
  go_quiet (fail)
  have B1 := hide (below_drewN (Below.refl (w.setCell ⟨R, 1, none⟩ (.int .i64 ((p : Int) + 1))).heap.size (w.setCell ⟨R, 1, none⟩ (.int .i64 ((p : Int) + 1)))) nq)
  rw [HX.out]
  clear hc' hdd g0
  generalize (w.setCell ⟨R, 1, none⟩ (.int .i64 ((p : Int) + 1))).drewN nq = W at B1 ⊢
  have hy := HY.out
  have hz := HZ.out
  go_wp2
  go_ret
  exact ⟨z, rfl, hz0, hz1, B1⟩

theorem pick_any (R p : Nat) (m : Int) (w : World) (hR : Rd w R p) (hp : (p : Int) ≤ 100000) (hm : 1 ≤ m) (hm2 : m ≤ 1000000) :
    Calls Tryd.prog 36 #[.pointer (some ⟨R, 0, none⟩), .int .i64 m] w fun e w' => ∃ z : Int, e = .returned (.int .i64 z) ∧ 0 ≤ z ∧ z < m ∧ Rd w' R (p + 1) ∧ Only R w w' := by
  have hR' := hR
  have hst := hR.step
  have hon : Only R w (w.setCell ⟨R, 1, none⟩ (.int .i64 ((p : Int) + 1))) := bset (Only.refl R w) 1 _
  obtain ⟨a, n, cap, hl, hn, h0, ⟨h1, h2⟩, hS⟩ := hR
  by_cases hz : n = 0
  · subst hz
    exact (pick_nil R p m a cap w h0 h1 h2 hp hm).mono fun e w' ⟨he, hw⟩ => ⟨0, he, by omega, by omega, by rw [hw]; exact hst, by rw [hw]; exact hon⟩
  · rcases hS with h | ⟨b, off, rfl, hb, hbl, hc⟩
    · exact absurd h hz
    · by_cases hlt : p < n
      · obtain ⟨u, hu, hcell⟩ := hc p hlt
        exact (pick_in R p m b off n cap u w h0 h1 h2 hp hm hm2 hlt hb hu hcell).mono fun e w' ⟨z, he, hz0, hz1, hw⟩ => ⟨z, he, hz0, hz1, by rw [hw]; exact hst, by rw [hw]; exact hon⟩
      · obtain ⟨u, hu, hcell⟩ := hc (p % n) (Nat.mod_lt _ (by omega))
        obtain ⟨v, hv, hcell2⟩ := hc ((p * 7 + 3) % n) (Nat.mod_lt _ (by omega))
        exact (pick_out R p m b off n cap u v w h0 h1 h2 hp hm hm2 hlt (by omega) hn hb hu hv hcell hcell2).mono fun e w' ⟨z, he, hz0, hz1, hB⟩ => ⟨z, he, hz0, hz1, hst.below hB (Nat.le_refl _), hon.trans (Only.of_below hB)⟩

/-- The argument: a row of bytes. -/
def ByteSl (w : World) (a : Option Addr) (n : Nat) : Prop := n = 0 ∨ ∃ b off, a = some ⟨b, off, none⟩ ∧ b < w.heap.size ∧ ∀ i, i < n → ∃ u : Nat, u < 256 ∧ w.cell? ⟨b, off + i, none⟩ = some (.int .u8 u)
theorem ByteSl.below {w w' : World} {B n : Nat} {a : Option Addr} (h : ByteSl w a n) (hb : Below B w w') (hB : w.heap.size ≤ B) : ByteSl w' a n := by
  rcases h with h | ⟨b, off, e, hl, hc⟩
  · exact .inl h
  · refine .inr ⟨b, off, e, Nat.lt_of_lt_of_le hl hb.size, fun i hi => ?_⟩
    obtain ⟨u, hu, hcell⟩ := hc i hi
    exact ⟨u, hu, (hb.cell (p := ⟨b, _, none⟩) (Nat.lt_of_lt_of_le hl hB)).trans hcell⟩
theorem rd_new {w : World} {a : Option Addr} {n k cap : Nat} (h : ByteSl w a n) (hk : k ≤ n) (hk2 : k ≤ 2000) (t : TypeId) : Rd (w.alloc (.cells #[.slice a k cap, .int .i64 0] t)) w.heap.size 0 := by
  refine ⟨a, k, cap, by simp, hk2, by simp, ⟨by simp, by simp⟩, ?_⟩
  rcases h with h | ⟨b, off, e, hl, hc⟩
  · exact .inl (by omega)
  · refine .inr ⟨b, off, e, hl, by simp; omega, fun i hi => ?_⟩
    obtain ⟨u, hu, hcell⟩ := hc i (by omega)
    exact ⟨u, hu, (((Below.refl w.heap.size w).alloc (Nat.le_refl _) _).cell (p := ⟨b, _, none⟩) hl).trans hcell⟩

set_option maxHeartbeats 1000000 in
theorem l1Open_row (b off n cap : Nat) (w : World) (hn : (n : Int) ≤ 1048576) (hc : n ≤ cap) (hS : ByteSl w (some ⟨b, off, none⟩) n) :
    Calls Tryd.prog 35 #[.slice (some ⟨b, off, none⟩) n cap] w fun e w' => ∃ R, e = .returned (.pointer (some ⟨R, 0, none⟩)) ∧ w.heap.size ≤ R ∧ Rd w' R 0 ∧ Below w.heap.size w w' := by
  have HS := hide hS
  clear hS
  by_cases h : (2000 : Int) < n
  all_goals
    go_enter Tryd.func35, Tryd.ntmps35
    go_wp2
    go_ret
    first
      | exact ⟨_, rfl, Nat.le_refl _, rd_new HS (k := 2000) (by omega) (by omega) _, (Below.refl _ _).alloc (Nat.le_refl _) _⟩
      | exact ⟨_, rfl, Nat.le_refl _, rd_new HS (k := n) (by omega) (by omega) _, (Below.refl _ _).alloc (Nat.le_refl _) _⟩
set_option maxHeartbeats 1000000 in
theorem l1Open_nil (a : Option Addr) (cap : Nat) (w : World) :
    Calls Tryd.prog 35 #[.slice a 0 cap] w fun e w' => ∃ R, e = .returned (.pointer (some ⟨R, 0, none⟩)) ∧ w.heap.size ≤ R ∧ Rd w' R 0 ∧ Below w.heap.size w w' := by
  have HS : Hid (ByteSl w a 0) := .inl rfl
  go_enter Tryd.func35, Tryd.ntmps35
  go_wp2
  go_ret
  exact ⟨_, rfl, Nat.le_refl _, rd_new HS (k := 0) (by omega) (by omega) _, (Below.refl _ _).alloc (Nat.le_refl _) _⟩
theorem l1Open_any (a : Option Addr) (n cap : Nat) (w : World) (hn : (n : Int) ≤ 1048576) (hc : n ≤ cap) (hS : ByteSl w a n) :
    Calls Tryd.prog 35 #[.slice a n cap] w fun e w' => ∃ R, e = .returned (.pointer (some ⟨R, 0, none⟩)) ∧ w.heap.size ≤ R ∧ Rd w' R 0 ∧ Below w.heap.size w w' := by
  have hS' := hS
  rcases hS with rfl | ⟨b, off, rfl, _, _⟩
  · exact l1Open_nil a cap w
  · exact l1Open_row b off n cap w hn hc hS'

set_option maxHeartbeats 1000000 in
/-- A text n times: no longer than n of them. -/
theorem l1Many_any (s : ByteArray) (n : Nat) (w : World) (h : s.size * n ≤ 4000) (hn : (n : Int) ≤ 4000) :
    Calls Tryd.prog 38 #[.string s, .int .i64 n] w fun e w' => ∃ t : ByteArray, e = .returned (.string t) ∧ t.size ≤ s.size * n ∧ w' = w := by
  have H := hide h
  clear h
  go_enter Tryd.func38, Tryd.ntmps38
  go_wp2
  go_loop [0, 1, 5] (fun sv nv ov => ∃ (x : ByteArray) (k : Nat) (o : ByteArray), sv = .string x ∧ nv = .int .i64 k ∧ ov = .string o ∧ (k : Int) ≤ 4000 ∧ Hid (o.size + x.size * k ≤ s.size * n)) (fun _ nv _ => (intOf nv).toNat)
  case atStart => exact ⟨s, n, ⟨#[]⟩, rfl, rfl, rfl, hn, by show 0 + s.size * n ≤ _; omega⟩
  case round =>
    obtain ⟨x, k, o, rfl, rfl, rfl, hk, HI⟩ := hrel
    by_cases hz : (k : Int) = 0
    · obtain rfl : k = 0 := by omega
      have ho : o.size ≤ s.size * n := by have := HI.out; omega
      have HO := hide ho
      clear ho
      go_wp2
      go_ret
      exact ⟨o, rfl, HO, rfl⟩
    · have hpos : 0 < (k : Int) := by omega
      have hx1 : x.size ≤ x.size * k := Nat.le_mul_of_pos_right _ (by omega)
      have hx2 : (x.size : Int) ≤ 4000 := by have := HI.out; have := H.out; omega
      have ho2 : (o.size : Int) ≤ 4000 := by have := HI.out; have := H.out; omega
      have q5 : (k : Int).tmod 2 = (k : Int) % 2 := Int.tmod_eq_emod_of_nonneg (by omega)
      have hsz : (x ++ x).size = x.size + x.size := by simp
      have hoz : (o ++ x).size = o.size + x.size := by simp
      have hdiv : (x.size + x.size) * (k / 2) + x.size * (k % 2) = x.size * k := by
        rw [show x.size * k = x.size * (2 * (k / 2) + k % 2) by rw [Nat.div_add_mod]]
        rw [Nat.mul_add, ← Nat.mul_assoc, Nat.mul_two]
      have HD := hide hdiv
      clear hdiv hx1
      by_cases hodd : (k : Int) % 2 = 1
      · have HO : Hid (k % 2 = 1) := by show k % 2 = 1; omega
        go_wp2
        refine ⟨⟨x ++ x, k / 2, o ++ x, rfl, by go_num, rfl, by omega, ?_⟩, by simp [intOf]; omega⟩
        show (o ++ x).size + (x ++ x).size * (k / 2) ≤ s.size * n
        have := HI.out
        have hd := HD.out
        rw [HO.out, Nat.mul_one] at hd
        rw [hsz, hoz]
        omega
      · have HO : Hid (k % 2 = 0) := by show k % 2 = 0; omega
        go_wp2
        refine ⟨⟨x ++ x, k / 2, o, rfl, by go_num, rfl, by omega, ?_⟩, by simp [intOf]; omega⟩
        show o.size + (x ++ x).size * (k / 2) ≤ s.size * n
        have := HI.out
        have hd := HD.out
        rw [HO.out, Nat.mul_zero] at hd
        rw [hsz]
        omega

end Go.Proofs.YtolpgafkojlkoaaDoor.Vp
