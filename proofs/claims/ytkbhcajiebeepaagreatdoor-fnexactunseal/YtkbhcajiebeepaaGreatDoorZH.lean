/-
  Put together of: DMark, DMark2, MIns, MLink, MTouch, MDeedA, MDeed, MAcc, HIns, HLink, HDeed.
-/
import Derived.Test.YtkbhcajiebeepaaGreatDoorZD
import Derived.Lib.ItoaNum
import Derived.Lib.ItoaLen
import Derived.Lib.ItoaMem

/-
  markText: a mark's text; what marking leaves.
-/
namespace Go.Proofs.YtkbhcajiebeepaaGreatDoor.Vp
open Go.RowKit

/-- The text of a mark. -/
def mkT (k : Int) : ByteArray := ⟨(109 :: Lib.decDigits k.toNat).toArray⟩
/-- A decimal digit. -/
def mdig (n : Nat) : UInt8 := UInt8.ofNat (48 + n)
theorem mdigit (n : Nat) (h : n < 10) : (48 + (n : Int)) = (mdig n).toNat := by
  unfold mdig
  rw [UInt8.toNat_ofNat']
  omega
theorem mconv_one (x : Int) (b : UInt8) (h : x = b.toNat) (w : World) (g : Nat) (hc : w.cell? ⟨g, 0, none⟩ = some (.int .u8 x)) : (convert 60 9 (.slice (some ⟨g, 0, none⟩) 1 1)).run Tryz.prog w = .ok (.string ⟨#[b]⟩) w := by
  refine run_convert_bytes_back _ 60 9 5 ⟨g, 0, none⟩ 1 [b] Tryz.underlying60 Tryz.underlying5 Tryz.underlying9 ?_
  intro j hj
  obtain rfl : j = 0 := by simpa using hj
  simp [Addr.add, hc, h]
/-- The digits, none for 0. -/
def mdec (m : Nat) : List UInt8 := if m = 0 then [] else Lib.decDigits m
theorem mdec_snoc {m : Nat} (h : 0 < m) : mdec m = mdec (m / 10) ++ [mdig (m % 10)] := by
  unfold mdec
  rw [if_neg (by omega)]
  by_cases h1 : m < 10
  · rw [Lib.decDigits_one h1, if_pos (by omega), show m % 10 = m by omega]
    rfl
  · rw [Lib.decDigits, dif_neg h1, if_neg (by omega)]
    rfl
theorem dec_len64 (n : Nat) (h : n ≤ 9223372036854775807) : (Lib.decDigits n).length ≤ 21 := by rw [← Lib.itoa_nonneg]; exact Lib.itoa_length_le _ (by omega) (by omega)

theorem cat_one (b : UInt8) (l : List UInt8) : (⟨#[b]⟩ : ByteArray) ++ ⟨l.toArray⟩ = ⟨(b :: l).toArray⟩ := by
  apply ByteArray.ext
  simp

set_option maxHeartbeats 1000000 in
theorem markText_any (n : Nat) (w : World) (h1 : 1 ≤ n) (h2 : n ≤ 9223372036854775807) :
    Calls Tryz.prog 39 #[.int .i64 n] w fun e w' => e = .returned (.string (mkT n)) ∧ Below w.heap.size w w' := by
  have HL := hide (dec_len64 n h2)
  have hp : decide ((n : Int) ≤ 0) = false := by simp; omega
  have hp2 : 0 < (n : Int) := by omega
  go_enter Tryz.func39, Tryz.ntmps39
  go_wp2
  go_loopw [0, 3] (fun i v wr => ∃ (m : Nat) (l : List UInt8), i = .int .i64 m ∧ m ≤ n ∧ v = .string ⟨l.toArray⟩ ∧ Hid (Lib.decDigits n = mdec m ++ l) ∧ Below w.heap.size w wr) (fun i _ _ => (intOf i).toNat)
  case atStart => exact ⟨n, [], rfl, Nat.le_refl _, rfl, by show Lib.decDigits n = mdec n ++ []; simp [mdec]; intro h; omega, Below.refl _ _⟩
  case round =>
    obtain ⟨m, l, rfl, hm, rfl, hd, hB⟩ := hrel
    have HB := hide hB
    have hsz : w.heap.size ≤ wr.heap.size := hB.size
    clear hB
    have hll : l.length ≤ 21 := by
      have h3 := HL.out
      rw [hd.out, List.length_append] at h3
      omega
    by_cases hlt : 0 < m
    · have hlt' : 0 < (m : Int) := by omega
      have hcv := mconv_one (48 + (m : Int) % 10) (mdig (m % 10)) (by have := mdigit (m % 10) (by omega); omega)
      go_wp2
      exact ⟨⟨m / 10, mdig (m % 10) :: l, by rw [Int.natCast_ediv]; rfl, by omega, by rw [cat_one], by
        show Lib.decDigits n = mdec (m / 10) ++ (mdig (m % 10) :: l)
        rw [hd.out, mdec_snoc hlt, List.append_assoc]
        rfl, HB.out.alloc hsz _⟩, by simp [intOf]; omega⟩
    · have e : m = 0 := by omega
      subst e
      go_wp2
      all_goals go_ret
      refine ⟨ret_str ?_, HB.out⟩
      have hl : l = Lib.decDigits n := by
        have h3 := hd.out
        simpa [mdec] using h3.symm
      rw [hl]
      apply ByteArray.ext
      simp [mkT]

theorem markText_int (x : Int) (w : World) (h1 : 1 ≤ x) (h2 : x ≤ 9223372036854775807) :
    Calls Tryz.prog 39 #[.int .i64 x] w fun e w' => e = .returned (.string (mkT x)) ∧ Below w.heap.size w w' := by
  obtain ⟨n, rfl⟩ := Int.eq_ofNat_of_zero_le (show 0 ≤ x by omega)
  exact markText_any n w (by omega) (by omega)

/-- Blocks outside lo .. hi - 1 stand as they stood. -/
structure Within (lo hi : Nat) (w w' : World) : Prop where
  os : w'.os = w.os
  tape : w'.tape = w.tape
  output : w'.output = w.output
  size : w.heap.size ≤ w'.heap.size
  block : ∀ k, k < w.heap.size → k < lo ∨ hi ≤ k → w'.heap[k]? = w.heap[k]?
theorem Within.refl (lo hi : Nat) (w : World) : Within lo hi w w := ⟨rfl, rfl, rfl, Nat.le_refl _, fun _ _ _ => rfl⟩
theorem Within.trans {lo hi : Nat} {a b c : World} (h : Within lo hi a b) (k : Within lo hi b c) : Within lo hi a c :=
  ⟨k.os.trans h.os, k.tape.trans h.tape, k.output.trans h.output, Nat.le_trans h.size k.size, fun i hi ho => (k.block i (Nat.lt_of_lt_of_le hi h.size) ho).trans (h.block i hi ho)⟩
theorem Within.of_below {lo hi B : Nat} {w w' : World} (h : Below B w w') (hB : w.heap.size ≤ B) : Within lo hi w w' :=
  ⟨h.os, h.tape, h.output, h.size, fun i hi _ => h.block i (Nat.lt_of_lt_of_le hi hB)⟩
theorem Within.below {lo hi B : Nat} {a w w' : World} (h : Within lo hi a w) (hb : Below B w w') (hB : w.heap.size ≤ B) : Within lo hi a w' := h.trans (Within.of_below hb hB)
theorem Within.setCell {lo hi : Nat} {a w : World} (h : Within lo hi a w) {p : Addr} (h1 : lo ≤ p.block) (h2 : p.block < hi) (v : Value) : Within lo hi a (w.setCell p v) :=
  h.trans ⟨rfl, rfl, rfl, by simp [World.setCell], fun k _ ho => Below.heap_setCell _ _ _ _ (by omega)⟩
theorem Within.mono {lo hi lo' hi' : Nat} {w w' : World} (h : Within lo hi w w') (h1 : lo' ≤ lo) (h2 : hi ≤ hi') : Within lo' hi' w w' :=
  ⟨h.os, h.tape, h.output, h.size, fun k hk ho => h.block k hk (by omega)⟩
theorem Within.toBelow {lo hi : Nat} {w w' : World} (h : Within lo hi w w') (hl : lo ≤ w.heap.size) : Below lo w w' :=
  ⟨h.os, h.tape, h.output, h.size, fun k hk => h.block k (by omega) (.inl hk)⟩

/-- The m cells from off on in block b: they are there, none frozen. -/
def Cells (w : World) (b off m : Nat) (F : Nat → Value) : Prop := b < w.heap.size ∧ ∀ j, j < m → w.cell? ⟨b, off + j, none⟩ = some (F j) ∧ w.frozen? ⟨b, off + j, none⟩ = false
theorem Cells.below {w w' : World} {B b off m : Nat} {F : Nat → Value} (h : Cells w b off m F) (hb : Below B w w') (hB : b < B) : Cells w' b off m F :=
  ⟨Nat.lt_of_lt_of_le h.1 hb.size, fun j hj => ⟨(hb.cell (p := ⟨b, _, none⟩) hB).trans (h.2 j hj).1, (hb.frozen (p := ⟨b, _, none⟩) hB).trans (h.2 j hj).2⟩⟩
theorem Cells.set {w : World} {b off m : Nat} {F : Nat → Value} (h : Cells w b off m F) (j : Nat) (hj : j < m) (v : Value) : Cells (w.setCell ⟨b, off + j, none⟩ v) b off m (fun x => if x = j then v else F x) := by
  refine ⟨by simpa using h.1, fun x hx => ⟨?_, ?_⟩⟩
  · by_cases e : x = j
    · subst e
      exact (World.cell?_setCell_same' _ _ _ (by rw [(h.2 x hx).1]; rfl)).trans (by simp)
    · have hne : (⟨b, off + j, none⟩ : Addr) ≠ ⟨b, off + x, none⟩ := by
        intro q
        exact e (by simpa using q.symm)
      exact (World.cell?_setCell_other _ _ _ _ hne).trans ((h.2 x hx).1.trans (by simp [e]))
  · have := (h.2 x hx).2
    simpa using this
theorem Cells.congr {w : World} {b off m : Nat} {F G : Nat → Value} (h : Cells w b off m F) (e : ∀ j, j < m → F j = G j) : Cells w b off m G :=
  ⟨h.1, fun j hj => by rw [← e j hj]; exact h.2 j hj⟩

end Go.Proofs.YtkbhcajiebeepaaGreatDoor.Vp

/-
  Cells that are written.
-/
namespace Go.Proofs.YtkbhcajiebeepaaGreatDoor.Vp
open Go.RowKit

theorem Cells.at {w : World} {b off m : Nat} {F : Nat → Value} (h : Cells w b off m F) (x j : Nat) (hx : x = off + j) (hj : j < m) : w.cell? ⟨b, x, none⟩ = some (F j) ∧ w.frozen? ⟨b, x, none⟩ = false := by
  subst hx
  exact h.2 j hj
theorem Cells.setAt {w : World} {b off m : Nat} {F : Nat → Value} (h : Cells w b off m F) (x j : Nat) (hx : x = off + j) (hj : j < m) (v : Value) : Cells (w.setCell ⟨b, x, none⟩ v) b off m (fun y => if y = j then v else F y) := by
  subst hx
  exact h.set j hj v
theorem Cells.within {w w' : World} {b off m lo hi : Nat} {F : Nat → Value} (h : Cells w b off m F) (hw : Within lo hi w w') (hb : b < lo ∨ hi ≤ b) : Cells w' b off m F := by
  have e := hw.block b h.1 hb
  exact ⟨Nat.lt_of_lt_of_le h.1 hw.size, fun j hj => ⟨(World.cell?_of_block (a := ⟨b, off + j, none⟩) e).trans (h.2 j hj).1, (World.frozen?_of_block (a := ⟨b, off + j, none⟩) e).trans (h.2 j hj).2⟩⟩

end Go.Proofs.YtkbhcajiebeepaaGreatDoor.Vp

/-
  Marks of Ins. Written by tools/mark2.py.
-/
namespace Go.Proofs.YtkbhcajiebeepaaGreatDoor.Vp
open Go.RowKit

/-- What cell j of a marked row holds. -/
def markIns (k0 : Nat) (j : Nat) : Value := if j % 3 = 0 then .int .i64 ((k0 : Int) + j) else if j % 3 = 1 then .string (mkT ((k0 : Int) + j)) else .int .i64 ((k0 : Int) + j)
theorem markIns_0 {k0 k q : Nat} (h : q = k0 + k * 3) : markIns k0 (k * 3) = .int .i64 ((q : Int)) := by
  have e : (k0 : Int) + ((k * 3 : Nat) : Int) = (q : Int) := by omega
  unfold markIns
  rw [if_pos (by omega), e]
theorem markIns_1 {k0 k q : Nat} (h : q = k0 + k * 3) : markIns k0 (k * 3 + 1) = .string (mkT ((q : Int) + 1)) := by
  have e : (k0 : Int) + ((k * 3 + 1 : Nat) : Int) = (q : Int) + 1 := by omega
  unfold markIns
  rw [if_neg (by omega), if_pos (by omega), e]
theorem markIns_2 {k0 k q : Nat} (h : q = k0 + k * 3) : markIns k0 (k * 3 + 2) = .int .i64 ((q : Int) + 1 + 1) := by
  have e : (k0 : Int) + ((k * 3 + 2 : Nat) : Int) = (q : Int) + 1 + 1 := by omega
  unfold markIns
  rw [if_neg (by omega), if_neg (by omega), e]

set_option maxRecDepth 100000 in
set_option maxHeartbeats 4000000 in
theorem markInsS_row (b off n cap k0 : Nat) (F : Nat → Value) (w : World) (hn : (n : Int) ≤ 1048576) (h1 : 1 ≤ (k0 : Int)) (h2 : (k0 : Int) ≤ 1152921504606846976) (hC : Cells w b off (n * 3) F) :
    Calls Tryz.prog 40 #[.slice (some ⟨b, off, none⟩) n cap, .int .i64 k0] w fun e w' => e = .returned (.int .i64 ((k0 + n * 3 : Nat) : Int)) ∧ Cells w' b off (n * 3) (markIns k0) ∧ Within b (b + 1) w w' := by
  have HC := hide hC
  clear hC
  go_enter Tryz.func40, Tryz.ntmps40
  go_wp2
  go_loopw [1, 5] (fun v i wr => ∃ (k q : Nat) (F : Nat → Value), k ≤ n ∧ Hid (q = k0 + k * 3) ∧ i = .int .i64 k ∧ v = .int .i64 q ∧ Hid (Cells wr b off (n * 3) F) ∧ Hid (∀ j, j < k * 3 → F j = markIns k0 j) ∧ Hid (Within b (b + 1) w wr)) (fun _ i _ => n - (intOf i).toNat)
  case atStart => exact ⟨0, k0, F, by omega, by show k0 = _; omega, rfl, rfl, HC.out, fun j hj => by omega, Within.refl _ _ _⟩
  case round =>
    obtain ⟨k, q, F, hk, HQ, rfl, rfl, HC0, HM, HW0⟩ := hrel
    have hq1 : 1 ≤ (q : Int) := by have := HQ.out; omega
    have hq2 : (q : Int) ≤ 1152921504610000000 := by have := HQ.out; omega
    by_cases hlt : k < n
    · have hkk : k * 3 + 3 ≤ n * 3 := by omega
      obtain ⟨c0, z0⟩ := HC0.out.at (off + k * 3) (k * 3) (by omega) (by omega)
      obtain ⟨c1, z1⟩ := HC0.out.at (off + k * 3 + 1) (k * 3 + 1) (by omega) (by omega)
      obtain ⟨c2, z2⟩ := HC0.out.at (off + k * 3 + 2) (k * 3 + 2) (by omega) (by omega)
      have HS0 := hide (HC0.out.setAt (off + k * 3) (k * 3) (by omega) (by omega) (.int .i64 ((q : Int))))
      have HX0 := hide (HW0.out.setCell (p := ⟨b, off + k * 3, none⟩) (Nat.le_refl _) (Nat.lt_succ_self _) (.int .i64 ((q : Int))))
      go_wp2_with fail
      clear c0 z0 c1 z1 c2 z2
      generalize (wr.setCell ⟨b, off + k * 3, none⟩ (.int .i64 ((q : Int)))) = v1 at HS0 HX0 ⊢
      refine (markText_int ((q : Int) + 1) _ (by omega) (by omega)).mono ?_
      rintro e w1 ⟨rfl, hB⟩
      have HC1 := hide (HS0.out.below hB HS0.out.1)
      have HW1 := hide (HX0.out.below hB (Nat.le_refl _))
      clear hB 
      obtain ⟨c1, z1⟩ := HC1.out.at (off + k * 3 + 1) (k * 3 + 1) (by omega) (by omega)
      obtain ⟨c2, z2⟩ := HC1.out.at (off + k * 3 + 2) (k * 3 + 2) (by omega) (by omega)
      have HS1 := hide (HC1.out.setAt (off + k * 3 + 1) (k * 3 + 1) (by omega) (by omega) (.string (mkT ((q : Int) + 1))))
      have HX1 := hide (HW1.out.setCell (p := ⟨b, off + k * 3 + 1, none⟩) (Nat.le_refl _) (Nat.lt_succ_self _) (.string (mkT ((q : Int) + 1))))
      have HS2 := hide (HS1.out.setAt (off + k * 3 + 2) (k * 3 + 2) (by omega) (by omega) (.int .i64 ((q : Int) + 2)))
      have HX2 := hide (HX1.out.setCell (p := ⟨b, off + k * 3 + 2, none⟩) (Nat.le_refl _) (Nat.lt_succ_self _) (.int .i64 ((q : Int) + 2)))
      go_wp2
      refine ⟨⟨k + 1, q + 3, _, by omega, by show q + 3 = k0 + (k + 1) * 3; have := HQ.out; omega, by go_num, by go_num, HS2.out, ?_, HX2.out⟩, by simp [intOf]; omega⟩
      intro j hj
      rcases (show j < k * 3 ∨ j = k * 3 ∨ j = k * 3 + 1 ∨ j = k * 3 + 2 by omega) with h | rfl | rfl | rfl
      · rw [if_neg (by omega), if_neg (by omega), if_neg (by omega), HM.out j h]
      · rw [if_neg (by omega), if_neg (by omega), if_pos rfl, markIns_0 HQ.out]
      · rw [if_neg (by omega), if_pos rfl, markIns_1 HQ.out]
      · rw [if_pos rfl, markIns_2 HQ.out]
        rw [show (q : Int) + 2 = (q : Int) + 1 + 1 by omega]
    · have e : k = n := by omega
      subst e
      have hv : (q : Int) = ((k0 + k * 3 : Nat) : Int) := by rw [HQ.out]
      have HV := hide hv
      clear hv
      go_wp2
      go_ret
      exact ⟨by show Ending.returned (.int .i64 (q : Int)) = _; rw [HV.out], HC0.out.congr HM.out, HW0.out⟩

set_option maxHeartbeats 1000000 in
theorem markInsS_nil (a : Option Addr) (cap k0 : Nat) (w : World) : Calls Tryz.prog 40 #[.slice a 0 cap, .int .i64 k0] w fun e w' => e = .returned (.int .i64 (k0 : Int)) ∧ w' = w := by
  go_enter Tryz.func40, Tryz.ntmps40
  go_wp2
  go_loop [1, 5] (fun v i => v = .int .i64 k0 ∧ i = .int .i64 0) (fun _ _ => 0)
  case atStart => exact ⟨rfl, rfl⟩
  case round =>
    obtain ⟨rfl, rfl⟩ := hrel
    go_wp2
    go_ret
    exact ⟨rfl, rfl⟩

end Go.Proofs.YtkbhcajiebeepaaGreatDoor.Vp

/-
  Marks of links.
-/
namespace Go.Proofs.YtkbhcajiebeepaaGreatDoor.Vp
open Go.RowKit

/-- What cell j of a marked row holds. -/
def markLink (k0 : Nat) (j : Nat) : Value := if j % 4 = 0 then .string (mkT ((k0 : Int) + j)) else if j % 4 = 3 then .int .i64 ((k0 : Int) + j) else .bool (decide (((k0 : Int) + j) % 3 = 0))
theorem markLink_0 {k0 k q : Nat} (h : q = k0 + k * 4) : markLink k0 (k * 4) = .string (mkT (q : Int)) := by
  have e : (k0 : Int) + ((k * 4 : Nat) : Int) = (q : Int) := by omega
  unfold markLink
  rw [if_pos (by omega), e]
theorem markLink_1 {k0 k q : Nat} (h : q = k0 + k * 4) : markLink k0 (k * 4 + 1) = .bool (decide (((q : Int) + 1) % 3 = 0)) := by
  have e : (k0 : Int) + ((k * 4 + 1 : Nat) : Int) = (q : Int) + 1 := by omega
  unfold markLink
  rw [if_neg (by omega), if_neg (by omega), e]
theorem markLink_2 {k0 k q : Nat} (h : q = k0 + k * 4) : markLink k0 (k * 4 + 2) = .bool (decide (((q : Int) + 2) % 3 = 0)) := by
  have e : (k0 : Int) + ((k * 4 + 2 : Nat) : Int) = (q : Int) + 2 := by omega
  unfold markLink
  rw [if_neg (by omega), if_neg (by omega), e]
theorem markLink_3 {k0 k q : Nat} (h : q = k0 + k * 4) : markLink k0 (k * 4 + 3) = .int .i64 ((q : Int) + 3) := by
  have e : (k0 : Int) + ((k * 4 + 3 : Nat) : Int) = (q : Int) + 3 := by omega
  unfold markLink
  rw [if_neg (by omega), if_pos (by omega), e]

set_option maxRecDepth 100000 in
set_option maxHeartbeats 4000000 in
theorem markLinkS_row (b off n cap k0 : Nat) (F : Nat → Value) (w : World) (hn : (n : Int) ≤ 1048576) (h1 : 1 ≤ (k0 : Int)) (h2 : (k0 : Int) ≤ 1152921504606846976) (hC : Cells w b off (n * 4) F) :
    Calls Tryz.prog 41 #[.slice (some ⟨b, off, none⟩) n cap, .int .i64 k0] w fun e w' => e = .returned (.int .i64 ((k0 + n * 4 : Nat) : Int)) ∧ Cells w' b off (n * 4) (markLink k0) ∧ Within b (b + 1) w w' := by
  have HC := hide hC
  clear hC
  go_enter Tryz.func41, Tryz.ntmps41
  go_wp2
  go_loopw [1, 5] (fun v i wr => ∃ (k q : Nat) (F : Nat → Value), k ≤ n ∧ Hid (q = k0 + k * 4) ∧ i = .int .i64 k ∧ v = .int .i64 q ∧ Hid (Cells wr b off (n * 4) F) ∧ Hid (∀ j, j < k * 4 → F j = markLink k0 j) ∧ Hid (Within b (b + 1) w wr)) (fun _ i _ => n - (intOf i).toNat)
  case atStart => exact ⟨0, k0, F, by omega, by show k0 = _; omega, rfl, rfl, HC.out, fun j hj => by omega, Within.refl _ _ _⟩
  case round =>
    obtain ⟨k, q, F, hk, HQ, rfl, rfl, HC0, HM, HW0⟩ := hrel
    have hq1 : 1 ≤ (q : Int) := by have := HQ.out; omega
    have hq2 : (q : Int) ≤ 1152921504620000000 := by have := HQ.out; omega
    by_cases hlt : k < n
    · have hkk : k * 4 + 4 ≤ n * 4 := by omega
      go_wp2_with fail
      refine (markText_int (q : Int) _ (by omega) (by omega)).mono ?_
      rintro e w1 ⟨rfl, hB⟩
      have HC1 := hide (HC0.out.below hB HC0.out.1)
      have HW1 := hide (HW0.out.below hB (Nat.le_refl _))
      clear hB
      obtain ⟨c0, z0⟩ := HC1.out.at (off + k * 4) (k * 4) (by omega) (by omega)
      obtain ⟨c1, z1⟩ := HC1.out.at (off + k * 4 + 1) (k * 4 + 1) (by omega) (by omega)
      obtain ⟨c2, z2⟩ := HC1.out.at (off + k * 4 + 2) (k * 4 + 2) (by omega) (by omega)
      obtain ⟨c3, z3⟩ := HC1.out.at (off + k * 4 + 3) (k * 4 + 3) (by omega) (by omega)
      go_wp2
      refine ⟨⟨k + 1, q + 4, _, by omega, by show q + 4 = k0 + (k + 1) * 4; have := HQ.out; omega, by go_num, by go_num, (((HC1.out.setAt (off + k * 4) (k * 4) (by omega) (by omega) _).setAt (off + k * 4 + 1) (k * 4 + 1) (by omega) (by omega) _).setAt (off + k * 4 + 2) (k * 4 + 2) (by omega) (by omega) _).setAt (off + k * 4 + 3) (k * 4 + 3) (by omega) (by omega) _, ?_, (((HW1.out.setCell (p := ⟨b, off + k * 4, none⟩) (Nat.le_refl _) (Nat.lt_succ_self _) _).setCell (p := ⟨b, off + k * 4 + 1, none⟩) (Nat.le_refl _) (Nat.lt_succ_self _) _).setCell (p := ⟨b, off + k * 4 + 2, none⟩) (Nat.le_refl _) (Nat.lt_succ_self _) _).setCell (p := ⟨b, off + k * 4 + 3, none⟩) (Nat.le_refl _) (Nat.lt_succ_self _) _⟩, by simp [intOf]; omega⟩
      intro j hj
      rcases (show j < k * 4 ∨ j = k * 4 ∨ j = k * 4 + 1 ∨ j = k * 4 + 2 ∨ j = k * 4 + 3 by omega) with h | rfl | rfl | rfl | rfl
      · rw [if_neg (by omega), if_neg (by omega), if_neg (by omega), if_neg (by omega), HM.out j h]
      · rw [if_neg (by omega), if_neg (by omega), if_neg (by omega), if_pos rfl, markLink_0 HQ.out]
      · rw [if_neg (by omega), if_neg (by omega), if_pos rfl, markLink_1 HQ.out]
        rfl
      · rw [if_neg (by omega), if_pos rfl, markLink_2 HQ.out]
        rfl
      · rw [if_pos rfl, markLink_3 HQ.out, show (q : Int) + 1 + 1 + 1 = (q : Int) + 3 by omega]
    · have e : k = n := by omega
      subst e
      have hv : (q : Int) = ((k0 + k * 4 : Nat) : Int) := by rw [HQ.out]
      have HV := hide hv
      clear hv
      go_wp2
      go_ret
      exact ⟨by show Ending.returned (.int .i64 (q : Int)) = _; rw [HV.out], HC0.out.congr HM.out, HW0.out⟩

set_option maxHeartbeats 1000000 in
theorem markLinkS_nil (a : Option Addr) (cap k0 : Nat) (w : World) : Calls Tryz.prog 41 #[.slice a 0 cap, .int .i64 k0] w fun e w' => e = .returned (.int .i64 (k0 : Int)) ∧ w' = w := by
  go_enter Tryz.func41, Tryz.ntmps41
  go_wp2
  go_loop [1, 5] (fun v i => v = .int .i64 k0 ∧ i = .int .i64 0) (fun _ _ => 0)
  case atStart => exact ⟨rfl, rfl⟩
  case round =>
    obtain ⟨rfl, rfl⟩ := hrel
    go_wp2
    go_ret
    exact ⟨rfl, rfl⟩

end Go.Proofs.YtkbhcajiebeepaaGreatDoor.Vp

/-
  What marking leaves.
-/
namespace Go.Proofs.YtkbhcajiebeepaaGreatDoor.Vp
open Go.RowKit

/-- Blocks that are none of P's stand as they stood. -/
structure Touch (P : Nat → Prop) (w w' : World) : Prop where
  os : w'.os = w.os
  tape : w'.tape = w.tape
  output : w'.output = w.output
  size : w.heap.size ≤ w'.heap.size
  block : ∀ k, k < w.heap.size → ¬ P k → w'.heap[k]? = w.heap[k]?
theorem Touch.refl (P : Nat → Prop) (w : World) : Touch P w w := ⟨rfl, rfl, rfl, Nat.le_refl _, fun _ _ _ => rfl⟩
theorem Touch.trans {P : Nat → Prop} {a b c : World} (h : Touch P a b) (k : Touch P b c) : Touch P a c :=
  ⟨k.os.trans h.os, k.tape.trans h.tape, k.output.trans h.output, Nat.le_trans h.size k.size, fun i hi ho => (k.block i (Nat.lt_of_lt_of_le hi h.size) ho).trans (h.block i hi ho)⟩
theorem Touch.of_below {P : Nat → Prop} {B : Nat} {w w' : World} (h : Below B w w') (hB : w.heap.size ≤ B) : Touch P w w' :=
  ⟨h.os, h.tape, h.output, h.size, fun i hi _ => h.block i (Nat.lt_of_lt_of_le hi hB)⟩
theorem Touch.below {P : Nat → Prop} {B : Nat} {a w w' : World} (h : Touch P a w) (hb : Below B w w') (hB : w.heap.size ≤ B) : Touch P a w' := h.trans (Touch.of_below hb hB)
theorem Touch.setCell {P : Nat → Prop} {a w : World} (h : Touch P a w) {p : Addr} (hp : P p.block) (v : Value) : Touch P a (w.setCell p v) :=
  h.trans ⟨rfl, rfl, rfl, by simp [World.setCell], fun k _ ho => Below.heap_setCell _ _ _ _ (fun e => ho (e ▸ hp))⟩
theorem Touch.of_within {P : Nat → Prop} {b : Nat} {w w' : World} (h : Within b (b + 1) w w') (hb : P b) : Touch P w w' :=
  ⟨h.os, h.tape, h.output, h.size, fun k hk ho => h.block k hk (by rcases Nat.lt_trichotomy k b with c | c | c; exact .inl c; exact absurd (c ▸ hb) ho; exact .inr c)⟩
theorem Touch.mono {P Q : Nat → Prop} {w w' : World} (h : Touch P w w') (hPQ : ∀ k, P k → Q k) : Touch Q w w' :=
  ⟨h.os, h.tape, h.output, h.size, fun k hk ho => h.block k hk (fun hp => ho (hPQ k hp))⟩
theorem Cells.touch {w w' : World} {b off m : Nat} {F : Nat → Value} {P : Nat → Prop} (h : Cells w b off m F) (hw : Touch P w w') (hb : ¬ P b) : Cells w' b off m F := by
  have e := hw.block b h.1 hb
  exact ⟨Nat.lt_of_lt_of_le h.1 hw.size, fun j hj => ⟨(World.cell?_of_block (a := ⟨b, off + j, none⟩) e).trans (h.2 j hj).1, (World.frozen?_of_block (a := ⟨b, off + j, none⟩) e).trans (h.2 j hj).2⟩⟩

/-- A row of m cells, or none. -/
def Room (w : World) (p : Option Addr) (n b m : Nat) : Prop := n = 0 ∨ (p = some ⟨b, 0, none⟩ ∧ ∃ G, Cells w b 0 m G)
theorem Touch.toBelow {P : Nat → Prop} {w w' : World} {B : Nat} (h : Touch P w w') (hP : ∀ x, P x → B ≤ x) (hB : B ≤ w.heap.size) : Below B w w' :=
  ⟨h.os, h.tape, h.output, h.size, fun k hk => h.block k (by omega) (fun hp => by have := hP k hp; omega)⟩
theorem Touch.cell {P : Nat → Prop} {w w' : World} (h : Touch P w w') {p : Addr} (hl : p.block < w.heap.size) (hp : ¬ P p.block) : w'.cell? p = w.cell? p := World.cell?_of_block (h.block p.block hl hp)

end Go.Proofs.YtkbhcajiebeepaaGreatDoor.Vp

/-
  Marks of deeds and accounts.
-/
namespace Go.Proofs.YtkbhcajiebeepaaGreatDoor.Vp
open Go.RowKit

/-- The mark of deed i's name. -/
def dAt (a l : Nat → Nat) (k0 : Nat) : Nat → Nat
  | 0 => k0
  | i + 1 => dAt a l k0 i + 4 + a i * 3 + l i * 4
theorem dAt_le {a l : Nat → Nat} {k0 n : Nat} (ha : ∀ i, i < n → a i ≤ 1048576) (hl : ∀ i, i < n → l i ≤ 1048576) : dAt a l k0 n ≤ k0 + n * 7340036 := by
  induction n with
  | zero => simp [dAt]
  | succ j ih =>
    have h1 := ih (fun i hi => ha i (by omega)) (fun i hi => hl i (by omega))
    have h2 := ha j (by omega)
    have h3 := hl j (by omega)
    simp only [dAt]
    omega
theorem dAt_ge {a l : Nat → Nat} {k0 n : Nat} : k0 ≤ dAt a l k0 n := by
  induction n with
  | zero => exact Nat.le_refl _
  | succ j ih =>
    simp only [dAt]
    omega

theorem markInsS_sl (p : Option Addr) (n cap k0 b : Nat) (w : World) (hn : (n : Int) ≤ 1048576) (h1 : 1 ≤ (k0 : Int)) (h2 : (k0 : Int) ≤ 1152921504606846976) (h : Room w p n b (n * 3)) :
    Calls Tryz.prog 40 #[.slice p n cap, .int .i64 k0] w fun e w' => e = .returned (.int .i64 ((k0 + n * 3 : Nat) : Int)) ∧ (n = 0 ∨ Cells w' b 0 (n * 3) (markIns k0)) ∧ Touch (fun x => n ≠ 0 ∧ x = b) w w' := by
  by_cases hz : n = 0
  · subst hz
    exact (markInsS_nil p cap k0 w).mono fun e w' ⟨a, b⟩ => ⟨by simpa using a, .inl rfl, by rw [b]; exact Touch.refl _ _⟩
  · obtain ⟨rfl, G, hG⟩ := h.resolve_left hz
    exact (markInsS_row b 0 n cap k0 G w hn h1 h2 hG).mono fun e w' ⟨x, y, z⟩ => ⟨x, .inr y, Touch.of_within z ⟨hz, rfl⟩⟩
theorem markLinkS_sl (p : Option Addr) (n cap k0 b : Nat) (w : World) (hn : (n : Int) ≤ 1048576) (h1 : 1 ≤ (k0 : Int)) (h2 : (k0 : Int) ≤ 1152921504606846976) (h : Room w p n b (n * 4)) :
    Calls Tryz.prog 41 #[.slice p n cap, .int .i64 k0] w fun e w' => e = .returned (.int .i64 ((k0 + n * 4 : Nat) : Int)) ∧ (n = 0 ∨ Cells w' b 0 (n * 4) (markLink k0)) ∧ Touch (fun x => n ≠ 0 ∧ x = b) w w' := by
  by_cases hz : n = 0
  · subst hz
    exact (markLinkS_nil p cap k0 w).mono fun e w' ⟨a, b⟩ => ⟨by simpa using a, .inl rfl, by rw [b]; exact Touch.refl _ _⟩
  · obtain ⟨rfl, G, hG⟩ := h.resolve_left hz
    exact (markLinkS_row b 0 n cap k0 G w hn h1 h2 hG).mono fun e w' ⟨x, y, z⟩ => ⟨x, .inr y, Touch.of_within z ⟨hz, rfl⟩⟩

/-- What is fixed of n deeds in block T: their rows of instructions (A, a) and of links (L, l); all apart. -/
structure DPlan (T n : Nat) (A L a l : Nat → Nat) : Prop where
  fit : ∀ i, i < n → a i ≤ 1048576 ∧ l i ≤ 1048576
  apart : ∀ i, i < n → (a i ≠ 0 → A i ≠ T) ∧ (l i ≠ 0 → L i ≠ T)
  each : ∀ i j, i < n → j < n → i ≠ j → (a i ≠ 0 → a j ≠ 0 → A i ≠ A j) ∧ (l i ≠ 0 → l j ≠ 0 → L i ≠ L j)
  cross : ∀ i j, i < n → j < n → a i ≠ 0 → l j ≠ 0 → A i ≠ L j
/-- The blocks of the plan. -/
def DBlk (T n : Nat) (A L a l : Nat → Nat) (x : Nat) : Prop := x = T ∨ ∃ i, i < n ∧ ((a i ≠ 0 ∧ x = A i) ∨ (l i ≠ 0 ∧ x = L i))
/-- Cells of n deeds in block T. -/
structure DCells (w : World) (T n : Nat) (A L a l : Nat → Nat) : Prop where
  row : ∃ F, Cells w T 0 (n * 6) F ∧ ∀ i, i < n → (∃ p cap, F (i * 6 + 4) = .slice p (a i) cap ∧ (a i ≠ 0 → p = some ⟨A i, 0, none⟩)) ∧ ∃ p cap, F (i * 6 + 5) = .slice p (l i) cap ∧ (l i ≠ 0 → p = some ⟨L i, 0, none⟩)
  act : ∀ i, i < n → a i ≠ 0 → ∃ G, Cells w (A i) 0 (a i * 3) G
  lnk : ∀ i, i < n → l i ≠ 0 → ∃ G, Cells w (L i) 0 (l i * 4) G
/-- .. marked from k0 on. -/
structure DMarked (w : World) (T n : Nat) (A L a l : Nat → Nat) (k0 : Nat) : Prop where
  row : ∃ F, Cells w T 0 (n * 6) F ∧ ∀ i, i < n → F (i * 6) = .string (mkT ((dAt a l k0 i : Nat) : Int)) ∧ F (i * 6 + 1) = .int .i64 ((dAt a l k0 i + 1 : Nat) : Int) ∧ F (i * 6 + 2) = .int .i64 ((dAt a l k0 i + 2 : Nat) : Int) ∧ F (i * 6 + 3) = .string (mkT ((dAt a l k0 i + 3 : Nat) : Int)) ∧ (∃ p cap, F (i * 6 + 4) = .slice p (a i) cap ∧ (a i ≠ 0 → p = some ⟨A i, 0, none⟩)) ∧ ∃ p cap, F (i * 6 + 5) = .slice p (l i) cap ∧ (l i ≠ 0 → p = some ⟨L i, 0, none⟩)
  act : ∀ i, i < n → a i ≠ 0 → Cells w (A i) 0 (a i * 3) (markIns (dAt a l k0 i + 4))
  lnk : ∀ i, i < n → l i ≠ 0 → Cells w (L i) 0 (l i * 4) (markLink (dAt a l k0 i + 4 + a i * 3))
theorem DMarked.below {w w' : World} {T n k0 Z : Nat} {A L a l : Nat → Nat} (h : DMarked w T n A L a l k0) (hb : Below Z w w') (hZ : w.heap.size ≤ Z) : DMarked w' T n A L a l k0 := by
  obtain ⟨⟨F, hF, h1⟩, h2, h3⟩ := h
  exact ⟨⟨F, hF.below hb (Nat.lt_of_lt_of_le hF.1 hZ), h1⟩, fun i hi hz => (h2 i hi hz).below hb (Nat.lt_of_lt_of_le (h2 i hi hz).1 hZ), fun i hi hz => (h3 i hi hz).below hb (Nat.lt_of_lt_of_le (h3 i hi hz).1 hZ)⟩
theorem DCells.below {w w' : World} {T n Z : Nat} {A L a l : Nat → Nat} (h : DCells w T n A L a l) (hb : Below Z w w') (hZ : w.heap.size ≤ Z) : DCells w' T n A L a l := by
  obtain ⟨⟨F, hF, h1⟩, h2, h3⟩ := h
  refine ⟨⟨F, hF.below hb (Nat.lt_of_lt_of_le hF.1 hZ), h1⟩, fun i hi hz => ?_, fun i hi hz => ?_⟩
  · obtain ⟨G, hG⟩ := h2 i hi hz
    exact ⟨G, hG.below hb (Nat.lt_of_lt_of_le hG.1 hZ)⟩
  · obtain ⟨G, hG⟩ := h3 i hi hz
    exact ⟨G, hG.below hb (Nat.lt_of_lt_of_le hG.1 hZ)⟩

/-- What stands behind k of n deeds; the rows of instructions from ka on and those of links from kl on are still as they were. -/
structure DPart (w : World) (T n k ka kl k0 : Nat) (A L a l : Nat → Nat) (F : Nat → Value) : Prop where
  row : Cells w T 0 (n * 6) F
  sl : ∀ i, i < n → (∃ p cap, F (i * 6 + 4) = .slice p (a i) cap ∧ (a i ≠ 0 → p = some ⟨A i, 0, none⟩)) ∧ ∃ p cap, F (i * 6 + 5) = .slice p (l i) cap ∧ (l i ≠ 0 → p = some ⟨L i, 0, none⟩)
  mrk : ∀ i, i < k → F (i * 6) = .string (mkT ((dAt a l k0 i : Nat) : Int)) ∧ F (i * 6 + 1) = .int .i64 ((dAt a l k0 i + 1 : Nat) : Int) ∧ F (i * 6 + 2) = .int .i64 ((dAt a l k0 i + 2 : Nat) : Int) ∧ F (i * 6 + 3) = .string (mkT ((dAt a l k0 i + 3 : Nat) : Int))
  actM : ∀ i, i < k → a i ≠ 0 → Cells w (A i) 0 (a i * 3) (markIns (dAt a l k0 i + 4))
  lnkM : ∀ i, i < k → l i ≠ 0 → Cells w (L i) 0 (l i * 4) (markLink (dAt a l k0 i + 4 + a i * 3))
  act : ∀ i, ka ≤ i → i < n → a i ≠ 0 → ∃ G, Cells w (A i) 0 (a i * 3) G
  lnk : ∀ i, kl ≤ i → i < n → l i ≠ 0 → ∃ G, Cells w (L i) 0 (l i * 4) G
theorem DPart.move {w w' : World} {T n k ka kl k0 : Nat} {A L a l : Nat → Nat} {F F' : Nat → Value} (h : DPart w T n k ka kl k0 A L a l F) (hr : Cells w' T 0 (n * 6) F') (hs : ∀ i, i < n → F' (i * 6 + 4) = F (i * 6 + 4) ∧ F' (i * 6 + 5) = F (i * 6 + 5)) (hm : ∀ i, i < k → ∀ j, j < 4 → F' (i * 6 + j) = F (i * 6 + j)) {Q : Nat → Prop} (ht : Touch Q w w') (hA : ∀ i, i < n → (i < k ∨ ka ≤ i) → a i ≠ 0 → ¬ Q (A i)) (hL : ∀ i, i < n → (i < k ∨ kl ≤ i) → l i ≠ 0 → ¬ Q (L i)) (hk : k ≤ n) : DPart w' T n k ka kl k0 A L a l F' := by
  refine ⟨hr, fun i hi => ?_, fun i hi => ?_, fun i hi hz => (h.actM i hi hz).touch ht (hA i (by omega) (.inl hi) hz), fun i hi hz => (h.lnkM i hi hz).touch ht (hL i (by omega) (.inl hi) hz), fun i h1 h2 hz => ?_, fun i h1 h2 hz => ?_⟩
  · rw [(hs i hi).1, (hs i hi).2]
    exact h.sl i hi
  · have e0 : F' (i * 6) = F (i * 6) := hm i hi 0 (by omega)
    rw [e0, hm i hi 1 (by omega), hm i hi 2 (by omega), hm i hi 3 (by omega)]
    exact h.mrk i hi
  · obtain ⟨G, hG⟩ := h.act i h1 h2 hz
    exact ⟨G, hG.touch ht (hA i h2 (.inr h1) hz)⟩
  · obtain ⟨G, hG⟩ := h.lnk i h1 h2 hz
    exact ⟨G, hG.touch ht (hL i h2 (.inr h1) hz)⟩
theorem DPart.below {w w' : World} {T n k ka kl k0 Z : Nat} {A L a l : Nat → Nat} {F : Nat → Value} (h : DPart w T n k ka kl k0 A L a l F) (hb : Below Z w w') (hZ : w.heap.size ≤ Z) (hk : k ≤ n) : DPart w' T n k ka kl k0 A L a l F :=
  h.move (h.row.below hb (Nat.lt_of_lt_of_le h.row.1 hZ)) (fun _ _ => ⟨rfl, rfl⟩) (fun _ _ _ _ => rfl) (Q := fun _ => False) (Touch.of_below hb hZ) (fun _ _ _ _ h => h) (fun _ _ _ _ h => h) hk
/-- A mark in cell j of deed k. -/
theorem DPart.setCell {w : World} {T n k ka kl k0 : Nat} {A L a l : Nat → Nat} {F : Nat → Value} (h : DPart w T n k ka kl k0 A L a l F) (hP : DPlan T n A L a l) (hk : k < n) (x j : Nat) (hx : x = 0 + (k * 6 + j)) (hj : j < 4) (v : Value) : DPart (w.setCell ⟨T, x, none⟩ v) T n k ka kl k0 A L a l (fun y => if y = k * 6 + j then v else F y) := by
  have hr := h.row.setAt x (k * 6 + j) hx (by omega) v
  refine h.move hr (fun i hi => ⟨?_, ?_⟩) (fun i hi y hy => ?_) (Q := fun y => y = T) ((Touch.refl (fun y => y = T) w).setCell (p := ⟨T, x, none⟩) rfl v) (fun i hi _ hz => (hP.apart i hi).1 hz) (fun i hi _ hz => (hP.apart i hi).2 hz) (by omega)
  · exact if_neg (by omega)
  · exact if_neg (by omega)
  · exact if_neg (by omega)
/-- The row of instructions of deed k is marked. -/
theorem DPart.acted {w w' : World} {T n k k0 : Nat} {A L a l : Nat → Nat} {F : Nat → Value} (h : DPart w T n k k k k0 A L a l F) (hP : DPlan T n A L a l) (hk : k < n) (ht : Touch (fun x => a k ≠ 0 ∧ x = A k) w w') : DPart w' T n k (k + 1) k k0 A L a l F := by
  have h' : DPart w T n k (k + 1) k k0 A L a l F := ⟨h.row, h.sl, h.mrk, h.actM, h.lnkM, fun i hi => h.act i (by omega), h.lnk⟩
  refine h'.move (h.row.touch ht fun e => (hP.apart k hk).1 e.1 e.2.symm) (fun _ _ => ⟨rfl, rfl⟩) (fun _ _ _ _ => rfl) ht (fun i hi h1 hz e => ?_) (fun i hi h1 hz e => hP.cross k i hk hi e.1 hz e.2.symm) (by omega)
  exact (hP.each i k hi hk (by omega)).1 hz e.1 e.2
/-- .. and its links. -/
theorem DPart.linked {w w' : World} {T n k k0 q : Nat} {A L a l : Nat → Nat} {F : Nat → Value} (h : DPart w T n k (k + 1) k k0 A L a l F) (hP : DPlan T n A L a l) (hk : k < n) (ht : Touch (fun x => l k ≠ 0 ∧ x = L k) w w') (hq : q = dAt a l k0 k)
    (hA : a k = 0 ∨ Cells w (A k) 0 (a k * 3) (markIns (q + 4))) (hL : l k = 0 ∨ Cells w' (L k) 0 (l k * 4) (markLink (q + 4 + a k * 3)))
    (e0 : F (k * 6) = .string (mkT (q : Int))) (e1 : F (k * 6 + 1) = .int .i64 ((q : Int) + 1)) (e2 : F (k * 6 + 2) = .int .i64 ((q : Int) + 1 + 1)) (e3 : F (k * 6 + 3) = .string (mkT ((q : Int) + 1 + 1 + 1))) : DPart w' T n (k + 1) (k + 1) (k + 1) k0 A L a l F := by
  have h' : DPart w T n k (k + 1) (k + 1) k0 A L a l F := ⟨h.row, h.sl, h.mrk, h.actM, h.lnkM, h.act, fun i hi => h.lnk i (by omega)⟩
  have h2 : DPart w' T n k (k + 1) (k + 1) k0 A L a l F := by
    refine h'.move (h.row.touch ht fun e => (hP.apart k hk).2 e.1 e.2.symm) (fun _ _ => ⟨rfl, rfl⟩) (fun _ _ _ _ => rfl) ht (fun i hi h1 hz e => hP.cross i k hi hk hz e.1 e.2) (fun i hi h1 hz e => ?_) (by omega)
    exact (hP.each i k hi hk (by omega)).2 hz e.1 e.2
  subst hq
  refine ⟨h2.row, h2.sl, fun i hi => ?_, fun i hi hz => ?_, fun i hi hz => ?_, h2.act, h2.lnk⟩
  · by_cases e : i = k
    · subst e
      exact ⟨e0, e1, e2, e3⟩
    · exact h2.mrk i (by omega)
  · by_cases e : i = k
    · subst e
      exact (hA.resolve_left hz).touch ht fun e => hP.cross i i hk hk hz e.1 e.2
    · exact h2.actM i (by omega) hz
  · by_cases e : i = k
    · subst e
      exact hL.resolve_left hz
    · exact h2.lnkM i (by omega) hz

end Go.Proofs.YtkbhcajiebeepaaGreatDoor.Vp

/-
  Marks of deeds and accounts: the walk.
-/
namespace Go.Proofs.YtkbhcajiebeepaaGreatDoor.Vp
open Go.RowKit

set_option maxRecDepth 100000 in
set_option maxHeartbeats 8000000 in
theorem markDeedS_row (T n cap k0 : Nat) (A L a l : Nat → Nat) (w : World) (hn : (n : Int) ≤ 1048576) (h1 : 1 ≤ (k0 : Int)) (h2 : (k0 : Int) ≤ 1125899906842624) (hP : DPlan T n A L a l) (hC : DCells w T n A L a l) :
    Calls Tryz.prog 17 #[.slice (some ⟨T, 0, none⟩) n cap, .int .i64 k0] w fun e w' => e = .returned (.int .i64 ((dAt a l k0 n : Nat) : Int)) ∧ DMarked w' T n A L a l k0 ∧ Touch (DBlk T n A L a l) w w' := by
  have HC := hide hC
  have HP := hide hP
  clear hC hP
  go_enter Tryz.func17, Tryz.ntmps17
  go_wp2
  go_loopw [1, 5] (fun v i wr => ∃ (k q : Nat) (F : Nat → Value), k ≤ n ∧ Hid (q = dAt a l k0 k) ∧ i = .int .i64 k ∧ v = .int .i64 q ∧ Hid (DPart wr T n k k k k0 A L a l F) ∧ Hid (Touch (DBlk T n A L a l) w wr)) (fun _ i _ => n - (intOf i).toNat)
  case atStart =>
    obtain ⟨⟨F, hF, hs⟩, ha, hl⟩ := HC.out
    exact ⟨0, k0, F, by omega, rfl, rfl, rfl, ⟨hF, hs, fun i hi => absurd hi (Nat.not_lt_zero _), fun i hi => absurd hi (Nat.not_lt_zero _), fun i hi => absurd hi (Nat.not_lt_zero _), fun i _ hi => ha i hi, fun i _ hi => hl i hi⟩, Touch.refl _ _⟩
  case round =>
    obtain ⟨k, q, F, hk, HQ, rfl, rfl, HD, HW⟩ := hrel
    have hq1 : 1 ≤ (q : Int) := by have := HQ.out; have := dAt_ge (a := a) (l := l) (k0 := k0) (n := k); omega
    have hq2 : (q : Int) ≤ 1152921504600000000 := by have := HQ.out; have := dAt_le (a := a) (l := l) (k0 := k0) (n := k) (fun i hi => (HP.out.fit i (by omega)).1) (fun i hi => (HP.out.fit i (by omega)).2); omega
    by_cases hlt : k < n
    · have hkk : k * 6 + 6 ≤ n * 6 := by omega
      obtain ⟨hak, hlk⟩ := HP.out.fit k hlt
      obtain ⟨⟨pa, ca, hpa, ea⟩, pl, cl, hpl, el⟩ := HD.out.sl k hlt
      have EA := hide ea
      have EL := hide el
      clear ea el
      obtain ⟨c0, z0⟩ := HD.out.row.at (k * 6) (k * 6) (by omega) (by omega)
      go_wp2_with fail
      refine (markText_int (q : Int) _ (by omega) (by omega)).mono ?_
      rintro e w1 ⟨rfl, hB1⟩
      have D1 := hide (HD.out.below hB1 (Nat.le_refl _) hk)
      have W1 := hide (HW.out.below hB1 (Nat.le_refl _))
      clear hB1 c0 z0
      obtain ⟨c0, z0⟩ := D1.out.row.at (k * 6) (k * 6) (by omega) (by omega)
      obtain ⟨c1, z1⟩ := D1.out.row.at (k * 6 + 1) (k * 6 + 1) (by omega) (by omega)
      obtain ⟨c2, z2⟩ := D1.out.row.at (k * 6 + 2) (k * 6 + 2) (by omega) (by omega)
      obtain ⟨c3, z3⟩ := D1.out.row.at (k * 6 + 3) (k * 6 + 3) (by omega) (by omega)
      have S1 := hide (((D1.out.setCell HP.out hlt (k * 6) 0 (by omega) (by omega) (.string (mkT (q : Int)))).setCell HP.out hlt (k * 6 + 1) 1 (by omega) (by omega) (.int .i64 ((q : Int) + 1))).setCell HP.out hlt (k * 6 + 2) 2 (by omega) (by omega) (.int .i64 ((q : Int) + 1 + 1)))
      have X1 := hide (((W1.out.setCell (p := ⟨T, k * 6, none⟩) (.inl rfl) (.string (mkT (q : Int)))).setCell (p := ⟨T, k * 6 + 1, none⟩) (.inl rfl) (.int .i64 ((q : Int) + 1))).setCell (p := ⟨T, k * 6 + 2, none⟩) (.inl rfl) (.int .i64 ((q : Int) + 1 + 1)))
      go_wp2_with fail
      generalize ((w1.setCell ⟨T, k * 6, none⟩ (.string (mkT (q : Int)))).setCell ⟨T, k * 6 + 1, none⟩ (.int .i64 ((q : Int) + 1))).setCell ⟨T, k * 6 + 2, none⟩ (.int .i64 ((q : Int) + 1 + 1)) = v1 at S1 X1 ⊢
      clear D1 W1 c0 z0 c1 z1 c2 z2 c3 z3
      refine (markText_int ((q : Int) + 1 + 1 + 1) _ (by omega) (by omega)).mono ?_
      rintro e w2 ⟨rfl, hB2⟩
      have D2 := hide (S1.out.below hB2 (Nat.le_refl _) hk)
      have W2 := hide (X1.out.below hB2 (Nat.le_refl _))
      clear hB2 S1 X1
      obtain ⟨c3, z3⟩ := D2.out.row.at (k * 6 + 3) (k * 6 + 3) (by omega) (by omega)
      have S2 := hide (D2.out.setCell HP.out hlt (k * 6 + 3) 3 (by omega) (by omega) (.string (mkT ((q : Int) + 1 + 1 + 1))))
      have X2 := hide (W2.out.setCell (p := ⟨T, k * 6 + 3, none⟩) (.inl rfl) (.string (mkT ((q : Int) + 1 + 1 + 1))))
      have c4 : (w2.setCell ⟨T, k * 6 + 3, none⟩ (.string (mkT ((q : Int) + 1 + 1 + 1)))).cell? ⟨T, k * 6 + 4, none⟩ = some (.slice pa (a k) ca) := by
        have := (S2.out.row.at (k * 6 + 4) (k * 6 + 4) (by omega) (by omega)).1
        rw [if_neg (by omega), if_neg (by omega), if_neg (by omega), if_neg (by omega), hpa] at this
        exact this
      go_wp2_with fail
      generalize w2.setCell ⟨T, k * 6 + 3, none⟩ (.string (mkT ((q : Int) + 1 + 1 + 1))) = v2 at S2 X2 c4 ⊢
      clear D2 W2 c3 z3
      first | rw [show (q : Int) + 1 + 1 + 1 + 1 = ((q + 4 : Nat) : Int) by omega] | rw [show (q : Int) + 4 = ((q + 4 : Nat) : Int) by omega]
      refine (markInsS_sl pa (a k) ca (q + 4) (A k) _ (by omega) (by omega) (by omega) (by by_cases hz : a k = 0; exact .inl hz; exact .inr ⟨EA.out hz, S2.out.act k (Nat.le_refl _) hlt hz⟩)).mono ?_
      rintro e w3 ⟨rfl, hM3, hT3⟩
      have D3 := hide (S2.out.acted HP.out hlt hT3)
      have W3 := hide (X2.out.trans (hT3.mono fun x hx => .inr ⟨k, hlt, .inl hx⟩))
      have M3 := hide hM3
      clear hM3 hT3 S2 X2 c4
      have c5 : w3.cell? ⟨T, k * 6 + 5, none⟩ = some (.slice pl (l k) cl) := by
        have := (D3.out.row.at (k * 6 + 5) (k * 6 + 5) (by omega) (by omega)).1
        rw [if_neg (by omega), if_neg (by omega), if_neg (by omega), if_neg (by omega), hpl] at this
        exact this
      go_wp2_with fail
      refine (markLinkS_sl pl (l k) cl (q + 4 + a k * 3) (L k) _ (by omega) (by omega) (by omega) (by by_cases hz : l k = 0; exact .inl hz; exact .inr ⟨EL.out hz, D3.out.lnk k (Nat.le_refl _) hlt hz⟩)).mono ?_
      rintro e w4 ⟨rfl, hM4, hT4⟩
      have D4 := hide (D3.out.linked HP.out hlt hT4 HQ.out M3.out hM4 (by rw [if_neg (by omega), if_neg (by omega), if_neg (by omega)]; exact if_pos rfl) (by rw [if_neg (by omega), if_neg (by omega), if_pos rfl]) (by rw [if_neg (by omega), if_pos rfl]) (by rw [if_pos rfl]))
      have W4 := hide (W3.out.trans (hT4.mono fun x hx => .inr ⟨k, hlt, .inr hx⟩))
      have HE : Hid (q + 4 + a k * 3 + l k * 4 = dAt a l k0 (k + 1)) := by show _ = dAt a l k0 k + 4 + a k * 3 + l k * 4; rw [HQ.out]
      clear hM4 hT4 D3 W3 M3 c5 hpa hpl
      go_wp2
      exact ⟨⟨k + 1, q + 4 + a k * 3 + l k * 4, _, by omega, HE.out, by go_num, rfl, D4.out, W4.out⟩, by simp [intOf]; omega⟩
    · have e : k = n := by omega
      subst e
      have HV : Hid ((q : Int) = ((dAt a l k0 k : Nat) : Int)) := by show (q : Int) = _; rw [HQ.out]
      go_wp2
      go_ret
      exact ⟨by show Ending.returned (.int .i64 (q : Int)) = _; rw [HV.out], ⟨⟨F, HD.out.row, fun i hi => ⟨(HD.out.mrk i hi).1, (HD.out.mrk i hi).2.1, (HD.out.mrk i hi).2.2.1, (HD.out.mrk i hi).2.2.2, (HD.out.sl i hi).1, (HD.out.sl i hi).2⟩⟩, HD.out.actM, HD.out.lnkM⟩, HW.out⟩

end Go.Proofs.YtkbhcajiebeepaaGreatDoor.Vp

/-
  Marks of accounts.
-/
namespace Go.Proofs.YtkbhcajiebeepaaGreatDoor.Vp
open Go.RowKit

set_option maxRecDepth 100000 in
set_option maxHeartbeats 4000000 in
theorem markAccount_row (T n cap k0 : Nat) (A L a l : Nat → Nat) (w : World) (hn : (n : Int) ≤ 1048576) (h1 : 1 ≤ (k0 : Int)) (h2 : (k0 : Int) ≤ 1125899906842624) (hP : DPlan T n A L a l) (hC : DCells w T n A L a l) :
    Calls Tryz.prog 8 #[.agg #[.slice (some ⟨T, 0, none⟩) n cap], .int .i64 k0] w fun e w' => e = .returned (.int .i64 ((dAt a l k0 n : Nat) : Int)) ∧ DMarked w' T n A L a l k0 ∧ Touch (DBlk T n A L a l) w w' := by
  have A0 := hide ((Below.refl w.heap.size w).alloc (Nat.le_refl _) (.cells #[.slice (some ⟨T, 0, none⟩) n cap] 24))
  have HC := hide (hC.below A0.out (Nat.le_refl _))
  have HP := hide hP
  clear hC hP
  go_enter Tryz.func8, Tryz.ntmps8
  go_wp2_with fail
  refine (markDeedS_row T n cap k0 A L a l _ hn h1 h2 HP.out HC.out).mono ?_
  rintro e w1 ⟨rfl, hM, hT⟩
  have M1 := hide hM
  have T1 := hide ((Touch.of_below A0.out (Nat.le_refl _)).trans hT)
  clear hM hT
  go_wp2
  go_ret
  exact ⟨rfl, M1.out, T1.out⟩

end Go.Proofs.YtkbhcajiebeepaaGreatDoor.Vp

/-
  Marks of Ins, read again. Written by tools/mark2.py.
-/
namespace Go.Proofs.YtkbhcajiebeepaaGreatDoor.Vp
open Go.RowKit

set_option maxHeartbeats 1000000 in
theorem heldInsS_nil (a : Option Addr) (cap k0 : Nat) (w : World) : Calls Tryz.prog 42 #[.slice a 0 cap, .int .i64 k0] w fun e w' => e = .returned (.int .i64 (k0 : Int)) ∧ w' = w := by
  go_enter Tryz.func42, Tryz.ntmps42
  go_wp2
  go_loop [1, 5] (fun v i => v = .int .i64 k0 ∧ i = .int .i64 0) (fun _ _ => 0)
  case atStart => exact ⟨rfl, rfl⟩
  case round =>
    obtain ⟨rfl, rfl⟩ := hrel
    go_wp2
    go_ret
    exact ⟨rfl, rfl⟩

set_option maxRecDepth 100000 in
set_option maxHeartbeats 4000000 in
theorem heldInsS_row (b off n cap k0 : Nat) (w : World) (hn : (n : Int) ≤ 1048576) (h1 : 1 ≤ (k0 : Int)) (h2 : (k0 : Int) ≤ 1152921504606846976) (hC : Cells w b off (n * 3) (markIns k0)) :
    Calls Tryz.prog 42 #[.slice (some ⟨b, off, none⟩) n cap, .int .i64 k0] w fun e w' => e = .returned (.int .i64 ((k0 + n * 3 : Nat) : Int)) ∧ Below w.heap.size w w' := by
  have HC := hide hC
  have hb : b < w.heap.size := hC.1
  clear hC
  go_enter Tryz.func42, Tryz.ntmps42
  go_wp2
  go_loopw [1, 5] (fun v i wr => ∃ k q : Nat, k ≤ n ∧ Hid (q = k0 + k * 3) ∧ i = .int .i64 k ∧ v = .int .i64 q ∧ Hid (Below w.heap.size w wr)) (fun _ i _ => n - (intOf i).toNat)
  case atStart => exact ⟨0, k0, by omega, by show k0 = _; omega, rfl, rfl, Below.refl _ _⟩
  case round =>
    obtain ⟨k, q, hk, HQ, rfl, rfl, HB0⟩ := hrel
    have hq1 : 1 ≤ (q : Int) := by have := HQ.out; omega
    have hq2 : (q : Int) ≤ 1152921504610000000 := by have := HQ.out; omega
    have hb0 : b < wr.heap.size := Nat.lt_of_lt_of_le hb HB0.out.size
    have H0 := hide (HC.out.below HB0.out hb)
    by_cases hlt : k < n
    · have hkk : k * 3 + 3 ≤ n * 3 := by omega
      have c0 : wr.cell? ⟨b, off + k * 3, none⟩ = some (.int .i64 ((q : Int))) := by have := (H0.out.at (off + k * 3) (k * 3) (by omega) (by omega)).1; rw [markIns_0 HQ.out] at this; exact this
      have c1 : wr.cell? ⟨b, off + k * 3 + 1, none⟩ = some (.string (mkT ((q : Int) + 1))) := by have := (H0.out.at (off + k * 3 + 1) (k * 3 + 1) (by omega) (by omega)).1; rw [markIns_1 HQ.out] at this; exact this
      have c2 : wr.cell? ⟨b, off + k * 3 + 2, none⟩ = some (.int .i64 ((q : Int) + 2)) := by have := (H0.out.at (off + k * 3 + 2) (k * 3 + 2) (by omega) (by omega)).1; rw [markIns_2 HQ.out] at this; rw [show (q : Int) + 1 + 1 = (q : Int) + 2 by omega] at this; exact this
      go_wp2_with fail
      go_region_with (go_at_call 39; refine (markText_int ((q : Int) + 1) _ (by omega) (by omega)).mono ?_; rintro e w1 ⟨rfl, hB⟩; have D1 : Hid (Below wr.heap.size wr w1) := ⟨hB.os, hB.tape, hB.output, hB.size, hB.block⟩; have HB1 := hide (HB0.out.trans (D1.out.mono HB0.out.size)); have H1 := hide (H0.out.below D1.out hb0); have hb1 : b < w1.heap.size := Nat.lt_of_lt_of_le hb0 D1.out.size; have d1_1 := (D1.out.cell (p := ⟨b, off + k * 3 + 1, none⟩) hb0).trans c1; clear hB D1)
      all_goals
        clear c0 c1 c2 d1_1
        have c2 : w1.cell? ⟨b, off + k * 3 + 2, none⟩ = some (.int .i64 ((q : Int) + 2)) := by have := (H1.out.at (off + k * 3 + 2) (k * 3 + 2) (by omega) (by omega)).1; rw [markIns_2 HQ.out] at this; rw [show (q : Int) + 1 + 1 = (q : Int) + 2 by omega] at this; exact this
        go_wp2
        exact ⟨⟨k + 1, q + 3, by omega, by show q + 3 = k0 + (k + 1) * 3; have := HQ.out; omega, by go_num, by go_num, HB1.out⟩, by simp [intOf]; omega⟩
    · have e : k = n := by omega
      subst e
      have hv : (q : Int) = ((k0 + k * 3 : Nat) : Int) := by rw [HQ.out]
      have HV := hide hv
      clear hv
      go_wp2
      go_ret
      exact ⟨by show Ending.returned (.int .i64 (q : Int)) = _; rw [HV.out], HB0.out⟩

end Go.Proofs.YtkbhcajiebeepaaGreatDoor.Vp

/-
  Marks of links, read again.
-/
namespace Go.Proofs.YtkbhcajiebeepaaGreatDoor.Vp
open Go.RowKit

set_option maxHeartbeats 1000000 in
theorem heldLinkS_nil (a : Option Addr) (cap k0 : Nat) (w : World) : Calls Tryz.prog 43 #[.slice a 0 cap, .int .i64 k0] w fun e w' => e = .returned (.int .i64 (k0 : Int)) ∧ w' = w := by
  go_enter Tryz.func43, Tryz.ntmps43
  go_wp2
  go_loop [1, 5] (fun v i => v = .int .i64 k0 ∧ i = .int .i64 0) (fun _ _ => 0)
  case atStart => exact ⟨rfl, rfl⟩
  case round =>
    obtain ⟨rfl, rfl⟩ := hrel
    go_wp2
    go_ret
    exact ⟨rfl, rfl⟩

set_option maxRecDepth 100000 in
set_option maxHeartbeats 4000000 in
theorem heldLinkS_row (b off n cap k0 : Nat) (w : World) (hn : (n : Int) ≤ 1048576) (h1 : 1 ≤ (k0 : Int)) (h2 : (k0 : Int) ≤ 1152921504606846976) (hC : Cells w b off (n * 4) (markLink k0)) :
    Calls Tryz.prog 43 #[.slice (some ⟨b, off, none⟩) n cap, .int .i64 k0] w fun e w' => e = .returned (.int .i64 ((k0 + n * 4 : Nat) : Int)) ∧ Below w.heap.size w w' := by
  have HC := hide hC
  have hb : b < w.heap.size := hC.1
  clear hC
  go_enter Tryz.func43, Tryz.ntmps43
  go_wp2
  go_loopw [1, 5] (fun v i wr => ∃ k q : Nat, k ≤ n ∧ Hid (q = k0 + k * 4) ∧ i = .int .i64 k ∧ v = .int .i64 q ∧ Hid (Below w.heap.size w wr)) (fun _ i _ => n - (intOf i).toNat)
  case atStart => exact ⟨0, k0, by omega, by show k0 = _; omega, rfl, rfl, Below.refl _ _⟩
  case round =>
    obtain ⟨k, q, hk, HQ, rfl, rfl, HB0⟩ := hrel
    have hq1 : 1 ≤ (q : Int) := by have := HQ.out; omega
    have hq2 : (q : Int) ≤ 1152921504620000000 := by have := HQ.out; omega
    have hb0 : b < wr.heap.size := Nat.lt_of_lt_of_le hb HB0.out.size
    have H0 := hide (HC.out.below HB0.out hb)
    by_cases hlt : k < n
    · have hkk : k * 4 + 4 ≤ n * 4 := by omega
      have c0 : wr.cell? ⟨b, off + k * 4, none⟩ = some (.string (mkT ((q : Int)))) := by have := (H0.out.at (off + k * 4) (k * 4) (by omega) (by omega)).1; rw [markLink_0 HQ.out] at this; exact this
      go_wp2_with fail
      go_region_with (go_at_call 39; refine (markText_int ((q : Int)) _ (by omega) (by omega)).mono ?_; rintro e w1 ⟨rfl, hB⟩; have D1 : Hid (Below wr.heap.size wr w1) := ⟨hB.os, hB.tape, hB.output, hB.size, hB.block⟩; have HB1 := hide (HB0.out.trans (D1.out.mono HB0.out.size)); have H1 := hide (H0.out.below D1.out hb0); have d1_0 := (D1.out.cell (p := ⟨b, off + k * 4, none⟩) hb0).trans c0; clear hB D1)
      all_goals
        clear c0 d1_0
        have c1 : w1.cell? ⟨b, off + k * 4 + 1, none⟩ = some (.bool (decide (((q : Int) + 1) % 3 = 0))) := by have := (H1.out.at (off + k * 4 + 1) (k * 4 + 1) (by omega) (by omega)).1; rw [markLink_1 HQ.out] at this; exact this
        have c2 : w1.cell? ⟨b, off + k * 4 + 2, none⟩ = some (.bool (decide (((q : Int) + 2) % 3 = 0))) := by have := (H1.out.at (off + k * 4 + 2) (k * 4 + 2) (by omega) (by omega)).1; rw [markLink_2 HQ.out] at this; exact this
        have c3 : w1.cell? ⟨b, off + k * 4 + 3, none⟩ = some (.int .i64 ((q : Int) + 3)) := by have := (H1.out.at (off + k * 4 + 3) (k * 4 + 3) (by omega) (by omega)).1; rw [markLink_3 HQ.out] at this; exact this
        rcases (show ((q : Int) + 1) % 3 = 0 ∧ ((q : Int) + 2) % 3 = 1 ∧ ((q : Int) + 1 + 1) % 3 = 1 ∨ ((q : Int) + 1) % 3 = 1 ∧ ((q : Int) + 2) % 3 = 2 ∧ ((q : Int) + 1 + 1) % 3 = 2 ∨ ((q : Int) + 1) % 3 = 2 ∧ ((q : Int) + 2) % 3 = 0 ∧ ((q : Int) + 1 + 1) % 3 = 0 by omega) with ⟨m1, m2, m3⟩ | ⟨m1, m2, m3⟩ | ⟨m1, m2, m3⟩
        all_goals
          rw [m1] at c1
          rw [m2] at c2
          simp only [decide_true, show ((1 : Int) = 0) = False from by decide, show ((2 : Int) = 0) = False from by decide, decide_false] at c1 c2
          go_wp2
          exact ⟨⟨k + 1, q + 4, by omega, by show q + 4 = k0 + (k + 1) * 4; have := HQ.out; omega, by go_num, by go_num, HB1.out⟩, by simp [intOf]; omega⟩
    · have e : k = n := by omega
      subst e
      have hv : (q : Int) = ((k0 + k * 4 : Nat) : Int) := by rw [HQ.out]
      have HV := hide hv
      clear hv
      go_wp2
      go_ret
      exact ⟨by show Ending.returned (.int .i64 (q : Int)) = _; rw [HV.out], HB0.out⟩

end Go.Proofs.YtkbhcajiebeepaaGreatDoor.Vp

/-
  Marks of deeds and accounts, read again.
-/
namespace Go.Proofs.YtkbhcajiebeepaaGreatDoor.Vp
open Go.RowKit

theorem heldInsS_sl (p : Option Addr) (n cap k0 b : Nat) (w : World) (hn : (n : Int) ≤ 1048576) (h1 : 1 ≤ (k0 : Int)) (h2 : (k0 : Int) ≤ 1152921504606846976) (h : n = 0 ∨ (p = some ⟨b, 0, none⟩ ∧ Cells w b 0 (n * 3) (markIns k0))) :
    Calls Tryz.prog 42 #[.slice p n cap, .int .i64 k0] w fun e w' => e = .returned (.int .i64 ((k0 + n * 3 : Nat) : Int)) ∧ Below w.heap.size w w' := by
  by_cases hz : n = 0
  · subst hz
    exact (heldInsS_nil p cap k0 w).mono fun e w' ⟨a, b⟩ => ⟨by simpa using a, by rw [b]; exact Below.refl _ _⟩
  · obtain ⟨rfl, hG⟩ := h.resolve_left hz
    exact heldInsS_row b 0 n cap k0 w hn h1 h2 hG
theorem heldLinkS_sl (p : Option Addr) (n cap k0 b : Nat) (w : World) (hn : (n : Int) ≤ 1048576) (h1 : 1 ≤ (k0 : Int)) (h2 : (k0 : Int) ≤ 1152921504606846976) (h : n = 0 ∨ (p = some ⟨b, 0, none⟩ ∧ Cells w b 0 (n * 4) (markLink k0))) :
    Calls Tryz.prog 43 #[.slice p n cap, .int .i64 k0] w fun e w' => e = .returned (.int .i64 ((k0 + n * 4 : Nat) : Int)) ∧ Below w.heap.size w w' := by
  by_cases hz : n = 0
  · subst hz
    exact (heldLinkS_nil p cap k0 w).mono fun e w' ⟨a, b⟩ => ⟨by simpa using a, by rw [b]; exact Below.refl _ _⟩
  · obtain ⟨rfl, hG⟩ := h.resolve_left hz
    exact heldLinkS_row b 0 n cap k0 w hn h1 h2 hG

set_option maxRecDepth 100000 in
set_option maxHeartbeats 8000000 in
theorem heldDeedS_row (T n cap k0 : Nat) (A L a l : Nat → Nat) (w : World) (hn : (n : Int) ≤ 1048576) (h1 : 1 ≤ (k0 : Int)) (h2 : (k0 : Int) ≤ 1125899906842624) (hP : DPlan T n A L a l) (hC : DMarked w T n A L a l k0) :
    Calls Tryz.prog 18 #[.slice (some ⟨T, 0, none⟩) n cap, .int .i64 k0] w fun e w' => e = .returned (.int .i64 ((dAt a l k0 n : Nat) : Int)) ∧ Below w.heap.size w w' := by
  have HC := hide hC
  have HP := hide hP
  clear hC hP
  go_enter Tryz.func18, Tryz.ntmps18
  go_wp2
  go_loopw [1, 5] (fun v i wr => ∃ (k q : Nat), k ≤ n ∧ Hid (q = dAt a l k0 k) ∧ i = .int .i64 k ∧ v = .int .i64 q ∧ Hid (Below w.heap.size w wr)) (fun _ i _ => n - (intOf i).toNat)
  case atStart => exact ⟨0, k0, by omega, rfl, rfl, rfl, Below.refl _ _⟩
  case round =>
    obtain ⟨k, q, hk, HQ, rfl, rfl, HB⟩ := hrel
    have hq1 : 1 ≤ (q : Int) := by have := HQ.out; have := dAt_ge (a := a) (l := l) (k0 := k0) (n := k); omega
    have hq2 : (q : Int) ≤ 1152921504600000000 := by have := HQ.out; have := dAt_le (a := a) (l := l) (k0 := k0) (n := k) (fun i hi => (HP.out.fit i (by omega)).1) (fun i hi => (HP.out.fit i (by omega)).2); omega
    by_cases hlt : k < n
    · have hkk : k * 6 + 6 ≤ n * 6 := by omega
      obtain ⟨hak, hlk⟩ := HP.out.fit k hlt
      have M0 := hide (HC.out.below HB.out (Nat.le_refl _))
      have cs : ∀ (W : World), DMarked W T n A L a l k0 → T < W.heap.size ∧ W.cell? ⟨T, k * 6, none⟩ = some (.string (mkT (q : Int))) ∧ W.cell? ⟨T, k * 6 + 1, none⟩ = some (.int .i64 ((q : Int) + 1)) ∧ W.cell? ⟨T, k * 6 + 2, none⟩ = some (.int .i64 ((q : Int) + 1 + 1)) ∧ W.cell? ⟨T, k * 6 + 3, none⟩ = some (.string (mkT ((q : Int) + 1 + 1 + 1))) ∧ (∃ p c, W.cell? ⟨T, k * 6 + 4, none⟩ = some (.slice p (a k) c) ∧ (a k ≠ 0 → p = some ⟨A k, 0, none⟩)) ∧ ∃ p c, W.cell? ⟨T, k * 6 + 5, none⟩ = some (.slice p (l k) c) ∧ (l k ≠ 0 → p = some ⟨L k, 0, none⟩) := by
        rintro W ⟨⟨F, hF, hM⟩, _, _⟩
        obtain ⟨e0, e1, e2, e3, ⟨p4, d4, e4, g4⟩, p5, d5, e5, g5⟩ := hM k hlt
        rw [← HQ.out] at e0 e1 e2 e3
        refine ⟨hF.1, ?_, ?_, ?_, ?_, ⟨p4, d4, ?_, g4⟩, p5, d5, ?_, g5⟩
        · rw [(hF.at (k * 6) (k * 6) (by omega) (by omega)).1, e0]
        · rw [(hF.at (k * 6 + 1) (k * 6 + 1) (by omega) (by omega)).1, e1, show ((q + 1 : Nat) : Int) = (q : Int) + 1 by omega]
        · rw [(hF.at (k * 6 + 2) (k * 6 + 2) (by omega) (by omega)).1, e2, show ((q + 2 : Nat) : Int) = (q : Int) + 1 + 1 by omega]
        · rw [(hF.at (k * 6 + 3) (k * 6 + 3) (by omega) (by omega)).1, e3, show ((q + 3 : Nat) : Int) = (q : Int) + 1 + 1 + 1 by omega]
        · rw [(hF.at (k * 6 + 4) (k * 6 + 4) (by omega) (by omega)).1, e4]
        · rw [(hF.at (k * 6 + 5) (k * 6 + 5) (by omega) (by omega)).1, e5]
      have CS := hide cs
      clear cs
      obtain ⟨hT0, c0, c1, c2, c3, -, -⟩ := CS.out wr M0.out
      go_wp2_with fail
      go_region_with (go_at_call 39; refine (markText_int ((q : Int)) _ (by omega) (by omega)).mono ?_; rintro e w1 ⟨rfl, hB⟩; have D1 : Hid (Below wr.heap.size wr w1) := ⟨hB.os, hB.tape, hB.output, hB.size, hB.block⟩; have HB1 := hide (HB.out.trans (D1.out.mono HB.out.size)); have d1_0 := (D1.out.cell (p := ⟨T, k * 6, none⟩) hT0).trans c0; clear hB D1)
      all_goals
        clear c0 c1 c2 c3 d1_0 hT0
        have M1 := hide (HC.out.below HB1.out (Nat.le_refl _))
        obtain ⟨hT1, -, c1, c2, c3, -, -⟩ := CS.out w1 M1.out
        have c3' := c3
        go_wp2_with fail
        go_region_with (go_at_call 39; refine (markText_int ((q : Int) + 1 + 1 + 1) _ (by omega) (by omega)).mono ?_; rintro e w2 ⟨rfl, hB⟩; have D2 : Hid (Below w1.heap.size w1 w2) := ⟨hB.os, hB.tape, hB.output, hB.size, hB.block⟩; have HB2 := hide (HB1.out.trans (D2.out.mono HB1.out.size)); have d1_3 := (D2.out.cell (p := ⟨T, k * 6 + 3, none⟩) hT1).trans c3'; clear hB D2)
        all_goals
          clear c1 c2 c3 c3' d1_3 hT1
          have M2 := hide (HC.out.below HB2.out (Nat.le_refl _))
          obtain ⟨hT2, -, -, -, -, ⟨p4, d4, c4, g4⟩, -⟩ := CS.out w2 M2.out
          have G4 := hide g4
          clear g4
          go_wp2_with fail
          first | rw [show (q : Int) + 1 + 1 + 1 + 1 = ((q + 4 : Nat) : Int) by omega] | rw [show (q : Int) + 4 = ((q + 4 : Nat) : Int) by omega]
          refine (heldInsS_sl p4 (a k) d4 (q + 4) (A k) _ (by omega) (by omega) (by omega) (by by_cases hz : a k = 0; exact .inl hz; exact .inr ⟨G4.out hz, by have := M2.out.act k hlt hz; rw [← HQ.out] at this; exact this⟩)).mono ?_
          rintro e w3 ⟨rfl, hB3⟩
          have HB3 := hide (HB2.out.trans (hB3.mono HB2.out.size))
          clear hB3 c4 hT2
          have M3 := hide (HC.out.below HB3.out (Nat.le_refl _))
          obtain ⟨hT3, -, -, -, -, -, p5, d5, c5, g5⟩ := CS.out w3 M3.out
          have G5 := hide g5
          clear g5
          have hp3 : ¬ ((q + 4 + a k * 3 : Nat) : Int) < 0 := by omega
          go_wp2_with fail
          refine (heldLinkS_sl p5 (l k) d5 (q + 4 + a k * 3) (L k) _ (by omega) (by omega) (by omega) (by by_cases hz : l k = 0; exact .inl hz; exact .inr ⟨G5.out hz, by have := M3.out.lnk k hlt hz; rw [← HQ.out] at this; exact this⟩)).mono ?_
          rintro e w4 ⟨rfl, hB4⟩
          have HB4 := hide (HB3.out.trans (hB4.mono HB3.out.size))
          have HE : Hid (q + 4 + a k * 3 + l k * 4 = dAt a l k0 (k + 1)) := by show _ = dAt a l k0 k + 4 + a k * 3 + l k * 4; rw [HQ.out]
          clear hB4 c5 hT3
          have hp4 : ¬ ((q + 4 + a k * 3 + l k * 4 : Nat) : Int) < 0 := by omega
          go_wp2
          exact ⟨⟨k + 1, q + 4 + a k * 3 + l k * 4, by omega, HE.out, by go_num, rfl, HB4.out⟩, by simp [intOf]; omega⟩
    · have e : k = n := by omega
      subst e
      have HV : Hid ((q : Int) = ((dAt a l k0 k : Nat) : Int)) := by show (q : Int) = _; rw [HQ.out]
      go_wp2
      go_ret
      exact ⟨by show Ending.returned (.int .i64 (q : Int)) = _; rw [HV.out], HB.out⟩

set_option maxRecDepth 100000 in
set_option maxHeartbeats 4000000 in
theorem heldAccount_row (T n cap k0 : Nat) (A L a l : Nat → Nat) (w : World) (hn : (n : Int) ≤ 1048576) (h1 : 1 ≤ (k0 : Int)) (h2 : (k0 : Int) ≤ 1125899906842624) (hP : DPlan T n A L a l) (hC : DMarked w T n A L a l k0) :
    Calls Tryz.prog 9 #[.agg #[.slice (some ⟨T, 0, none⟩) n cap], .int .i64 k0] w fun e w' => e = .returned (.int .i64 ((dAt a l k0 n : Nat) : Int)) ∧ Below w.heap.size w w' := by
  have A0 := hide ((Below.refl w.heap.size w).alloc (Nat.le_refl _) (.cells #[.slice (some ⟨T, 0, none⟩) n cap] 24))
  have HC := hide (hC.below A0.out (Nat.le_refl _))
  have HP := hide hP
  clear hC hP
  go_enter Tryz.func9, Tryz.ntmps9
  go_wp2_with fail
  refine (heldDeedS_row T n cap k0 A L a l _ hn h1 h2 HP.out HC.out).mono ?_
  rintro e w1 ⟨rfl, hB⟩
  have B1 := hide (A0.out.trans (hB.mono A0.out.size))
  have hp3 : ¬ ((dAt a l k0 n : Nat) : Int) < 0 := by omega
  clear hB
  go_wp2
  go_ret
  exact ⟨rfl, B1.out⟩

set_option maxHeartbeats 1000000 in
theorem heldDeedS_nil (a : Option Addr) (cap k0 : Nat) (w : World) : Calls Tryz.prog 18 #[.slice a 0 cap, .int .i64 k0] w fun e w' => e = .returned (.int .i64 (k0 : Int)) ∧ w' = w := by
  go_enter Tryz.func18, Tryz.ntmps18
  go_wp2
  go_loop [1, 5] (fun v i => v = .int .i64 k0 ∧ i = .int .i64 0) (fun _ _ => 0)
  case atStart => exact ⟨rfl, rfl⟩
  case round =>
    obtain ⟨rfl, rfl⟩ := hrel
    go_wp2
    go_ret
    exact ⟨rfl, rfl⟩
set_option maxHeartbeats 1000000 in
theorem markDeedS_nil (a : Option Addr) (cap k0 : Nat) (w : World) : Calls Tryz.prog 17 #[.slice a 0 cap, .int .i64 k0] w fun e w' => e = .returned (.int .i64 (k0 : Int)) ∧ w' = w := by
  go_enter Tryz.func17, Tryz.ntmps17
  go_wp2
  go_loop [1, 5] (fun v i => v = .int .i64 k0 ∧ i = .int .i64 0) (fun _ _ => 0)
  case atStart => exact ⟨rfl, rfl⟩
  case round =>
    obtain ⟨rfl, rfl⟩ := hrel
    go_wp2
    go_ret
    exact ⟨rfl, rfl⟩
set_option maxRecDepth 100000 in
set_option maxHeartbeats 1000000 in
theorem markAccount_nil (a : Option Addr) (cap k0 : Nat) (w : World) : Calls Tryz.prog 8 #[.agg #[.slice a 0 cap], .int .i64 k0] w fun e w' => e = .returned (.int .i64 (k0 : Int)) ∧ Below w.heap.size w w' := by
  have A0 := hide ((Below.refl w.heap.size w).alloc (Nat.le_refl _) (.cells #[.slice a 0 cap] 24))
  go_enter Tryz.func8, Tryz.ntmps8
  go_wp2_with fail
  refine (markDeedS_nil a cap k0 _).mono ?_
  rintro e w1 ⟨rfl, rfl⟩
  go_wp2
  go_ret
  exact ⟨rfl, A0.out⟩
set_option maxRecDepth 100000 in
set_option maxHeartbeats 1000000 in
theorem heldAccount_nil (a : Option Addr) (cap k0 : Nat) (w : World) : Calls Tryz.prog 9 #[.agg #[.slice a 0 cap], .int .i64 k0] w fun e w' => e = .returned (.int .i64 (k0 : Int)) ∧ Below w.heap.size w w' := by
  have A0 := hide ((Below.refl w.heap.size w).alloc (Nat.le_refl _) (.cells #[.slice a 0 cap] 24))
  go_enter Tryz.func9, Tryz.ntmps9
  go_wp2_with fail
  refine (heldDeedS_nil a cap k0 _).mono ?_
  rintro e w1 ⟨rfl, rfl⟩
  have hp3 : ¬ (k0 : Int) < 0 := by omega
  go_wp2
  go_ret
  exact ⟨rfl, A0.out⟩

end Go.Proofs.YtkbhcajiebeepaaGreatDoor.Vp
