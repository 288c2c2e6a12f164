/-
  Put together of: DMark, DMark2, MStr, MTouch, DOwnP, DOwnA, MIns, MLink.
-/
import Derived.Test.YtkgddbcjmejfaaaDoorZC
import Derived.Lib.ItoaNum
import Derived.Lib.ItoaLen
import Derived.Lib.ItoaMem
import Derived.Test.YtkgddbcjmejfaaaDoorZD

/-
  markText: a mark's text; what marking leaves.
-/
namespace Go.Proofs.YtkgddbcjmejfaaaDoor.Vp
open Go.RowKit

/-- The text of a mark. -/
def mkT (k : Int) : ByteArray := ⟨(109 :: Lib.decDigits k.toNat).toArray⟩
/-- A decimal digit. -/
def mdig (n : Nat) : UInt8 := UInt8.ofNat (48 + n)
theorem mdigit (n : Nat) (h : n < 10) : (48 + (n : Int)) = (mdig n).toNat := by
  unfold mdig
  rw [UInt8.toNat_ofNat']
  omega
theorem mconv_one (x : Int) (b : UInt8) (h : x = b.toNat) (w : World) (g : Nat) (hc : w.cell? ⟨g, 0, none⟩ = some (.int .u8 x)) : (convert 92 9 (.slice (some ⟨g, 0, none⟩) 1 1)).run Tryd.prog w = .ok (.string ⟨#[b]⟩) w := by
  refine run_convert_bytes_back _ 92 9 5 ⟨g, 0, none⟩ 1 [b] Tryd.underlying92 Tryd.underlying5 Tryd.underlying9 ?_
  intro j hj
  obtain rfl : j = 0 := by simpa using hj
  simp [Addr.add, hc, h]
/-- The digits, none for 0. -/
def mdec (m : Nat) : List UInt8 := if m = 0 then [] else Lib.decDigits m
theorem mdec_snoc {m : Nat} (h : 0 < m) : mdec m = mdec (m / 10) ++ [mdig (m % 10)] := by
  unfold mdec
  rw [if_neg (by omega)]
  by_cases h1 : m < 10
  · rw [Lib.decDigits_one h1, if_pos (by omega), show m % 10 = m by omega]
    rfl
  · rw [Lib.decDigits, dif_neg h1, if_neg (by omega)]
    rfl
theorem dec_len64 (n : Nat) (h : n ≤ 9223372036854775807) : (Lib.decDigits n).length ≤ 21 := by rw [← Lib.itoa_nonneg]; exact Lib.itoa_length_le _ (by omega) (by omega)

theorem cat_one (b : UInt8) (l : List UInt8) : (⟨#[b]⟩ : ByteArray) ++ ⟨l.toArray⟩ = ⟨(b :: l).toArray⟩ := by
  apply ByteArray.ext
  simp

set_option maxHeartbeats 1000000 in
theorem markText_any (n : Nat) (w : World) (h1 : 1 ≤ n) (h2 : n ≤ 9223372036854775807) :
    Calls Tryd.prog 38 #[.int .i64 n] w fun e w' => e = .returned (.string (mkT n)) ∧ Below w.heap.size w w' := by
  have HL := hide (dec_len64 n h2)
  have hp : decide ((n : Int) ≤ 0) = false := by simp; omega
  have hp2 : 0 < (n : Int) := by omega
  go_enter Tryd.func38, Tryd.ntmps38
  go_wp2
  go_loopw [0, 3] (fun i v wr => ∃ (m : Nat) (l : List UInt8), i = .int .i64 m ∧ m ≤ n ∧ v = .string ⟨l.toArray⟩ ∧ Hid (Lib.decDigits n = mdec m ++ l) ∧ Below w.heap.size w wr) (fun i _ _ => (intOf i).toNat)
  case atStart => exact ⟨n, [], rfl, Nat.le_refl _, rfl, by show Lib.decDigits n = mdec n ++ []; simp [mdec]; intro h; omega, Below.refl _ _⟩
  case round =>
    obtain ⟨m, l, rfl, hm, rfl, hd, hB⟩ := hrel
    have HB := hide hB
    have hsz : w.heap.size ≤ wr.heap.size := hB.size
    clear hB
    have hll : l.length ≤ 21 := by
      have h3 := HL.out
      rw [hd.out, List.length_append] at h3
      omega
    by_cases hlt : 0 < m
    · have hlt' : 0 < (m : Int) := by omega
      have hcv := mconv_one (48 + (m : Int) % 10) (mdig (m % 10)) (by have := mdigit (m % 10) (by omega); omega)
      go_wp2
      exact ⟨⟨m / 10, mdig (m % 10) :: l, by rw [Int.natCast_ediv]; rfl, by omega, by rw [cat_one], by
        show Lib.decDigits n = mdec (m / 10) ++ (mdig (m % 10) :: l)
        rw [hd.out, mdec_snoc hlt, List.append_assoc]
        rfl, HB.out.alloc hsz _⟩, by simp [intOf]; omega⟩
    · have e : m = 0 := by omega
      subst e
      go_wp2
      all_goals go_ret
      refine ⟨ret_str ?_, HB.out⟩
      have hl : l = Lib.decDigits n := by
        have h3 := hd.out
        simpa [mdec] using h3.symm
      rw [hl]
      apply ByteArray.ext
      simp [mkT]

theorem markText_int (x : Int) (w : World) (h1 : 1 ≤ x) (h2 : x ≤ 9223372036854775807) :
    Calls Tryd.prog 38 #[.int .i64 x] w fun e w' => e = .returned (.string (mkT x)) ∧ Below w.heap.size w w' := by
  obtain ⟨n, rfl⟩ := Int.eq_ofNat_of_zero_le (show 0 ≤ x by omega)
  exact markText_any n w (by omega) (by omega)

/-- Blocks outside lo .. hi - 1 stand as they stood. -/
structure Within (lo hi : Nat) (w w' : World) : Prop where
  os : w'.os = w.os
  tape : w'.tape = w.tape
  output : w'.output = w.output
  size : w.heap.size ≤ w'.heap.size
  block : ∀ k, k < w.heap.size → k < lo ∨ hi ≤ k → w'.heap[k]? = w.heap[k]?
theorem Within.refl (lo hi : Nat) (w : World) : Within lo hi w w := ⟨rfl, rfl, rfl, Nat.le_refl _, fun _ _ _ => rfl⟩
theorem Within.trans {lo hi : Nat} {a b c : World} (h : Within lo hi a b) (k : Within lo hi b c) : Within lo hi a c :=
  ⟨k.os.trans h.os, k.tape.trans h.tape, k.output.trans h.output, Nat.le_trans h.size k.size, fun i hi ho => (k.block i (Nat.lt_of_lt_of_le hi h.size) ho).trans (h.block i hi ho)⟩
theorem Within.of_below {lo hi B : Nat} {w w' : World} (h : Below B w w') (hB : w.heap.size ≤ B) : Within lo hi w w' :=
  ⟨h.os, h.tape, h.output, h.size, fun i hi _ => h.block i (Nat.lt_of_lt_of_le hi hB)⟩
theorem Within.below {lo hi B : Nat} {a w w' : World} (h : Within lo hi a w) (hb : Below B w w') (hB : w.heap.size ≤ B) : Within lo hi a w' := h.trans (Within.of_below hb hB)
theorem Within.setCell {lo hi : Nat} {a w : World} (h : Within lo hi a w) {p : Addr} (h1 : lo ≤ p.block) (h2 : p.block < hi) (v : Value) : Within lo hi a (w.setCell p v) :=
  h.trans ⟨rfl, rfl, rfl, by simp [World.setCell], fun k _ ho => Below.heap_setCell _ _ _ _ (by omega)⟩
theorem Within.mono {lo hi lo' hi' : Nat} {w w' : World} (h : Within lo hi w w') (h1 : lo' ≤ lo) (h2 : hi ≤ hi') : Within lo' hi' w w' :=
  ⟨h.os, h.tape, h.output, h.size, fun k hk ho => h.block k hk (by omega)⟩
theorem Within.toBelow {lo hi : Nat} {w w' : World} (h : Within lo hi w w') (hl : lo ≤ w.heap.size) : Below lo w w' :=
  ⟨h.os, h.tape, h.output, h.size, fun k hk => h.block k (by omega) (.inl hk)⟩

/-- The m cells from off on in block b: they are there, none frozen. -/
def Cells (w : World) (b off m : Nat) (F : Nat → Value) : Prop := b < w.heap.size ∧ ∀ j, j < m → w.cell? ⟨b, off + j, none⟩ = some (F j) ∧ w.frozen? ⟨b, off + j, none⟩ = false
theorem Cells.below {w w' : World} {B b off m : Nat} {F : Nat → Value} (h : Cells w b off m F) (hb : Below B w w') (hB : b < B) : Cells w' b off m F :=
  ⟨Nat.lt_of_lt_of_le h.1 hb.size, fun j hj => ⟨(hb.cell (p := ⟨b, _, none⟩) hB).trans (h.2 j hj).1, (hb.frozen (p := ⟨b, _, none⟩) hB).trans (h.2 j hj).2⟩⟩
theorem Cells.set {w : World} {b off m : Nat} {F : Nat → Value} (h : Cells w b off m F) (j : Nat) (hj : j < m) (v : Value) : Cells (w.setCell ⟨b, off + j, none⟩ v) b off m (fun x => if x = j then v else F x) := by
  refine ⟨by simpa using h.1, fun x hx => ⟨?_, ?_⟩⟩
  · by_cases e : x = j
    · subst e
      exact (World.cell?_setCell_same' _ _ _ (by rw [(h.2 x hx).1]; rfl)).trans (by simp)
    · have hne : (⟨b, off + j, none⟩ : Addr) ≠ ⟨b, off + x, none⟩ := by
        intro q
        exact e (by simpa using q.symm)
      exact (World.cell?_setCell_other _ _ _ _ hne).trans ((h.2 x hx).1.trans (by simp [e]))
  · have := (h.2 x hx).2
    simpa using this
theorem Cells.congr {w : World} {b off m : Nat} {F G : Nat → Value} (h : Cells w b off m F) (e : ∀ j, j < m → F j = G j) : Cells w b off m G :=
  ⟨h.1, fun j hj => by rw [← e j hj]; exact h.2 j hj⟩

end Go.Proofs.YtkgddbcjmejfaaaDoor.Vp

/-
  Cells that are written.
-/
namespace Go.Proofs.YtkgddbcjmejfaaaDoor.Vp
open Go.RowKit

theorem Cells.at {w : World} {b off m : Nat} {F : Nat → Value} (h : Cells w b off m F) (x j : Nat) (hx : x = off + j) (hj : j < m) : w.cell? ⟨b, x, none⟩ = some (F j) ∧ w.frozen? ⟨b, x, none⟩ = false := by
  subst hx
  exact h.2 j hj
theorem Cells.setAt {w : World} {b off m : Nat} {F : Nat → Value} (h : Cells w b off m F) (x j : Nat) (hx : x = off + j) (hj : j < m) (v : Value) : Cells (w.setCell ⟨b, x, none⟩ v) b off m (fun y => if y = j then v else F y) := by
  subst hx
  exact h.set j hj v
theorem Cells.within {w w' : World} {b off m lo hi : Nat} {F : Nat → Value} (h : Cells w b off m F) (hw : Within lo hi w w') (hb : b < lo ∨ hi ≤ b) : Cells w' b off m F := by
  have e := hw.block b h.1 hb
  exact ⟨Nat.lt_of_lt_of_le h.1 hw.size, fun j hj => ⟨(World.cell?_of_block (a := ⟨b, off + j, none⟩) e).trans (h.2 j hj).1, (World.frozen?_of_block (a := ⟨b, off + j, none⟩) e).trans (h.2 j hj).2⟩⟩

end Go.Proofs.YtkgddbcjmejfaaaDoor.Vp

/-
  Marks of a row of texts.
-/
namespace Go.Proofs.YtkgddbcjmejfaaaDoor.Vp
open Go.RowKit

/-- What cell j of a marked row of texts holds. -/
def markStr (k0 : Nat) (j : Nat) : Value := .string (mkT ((k0 : Int) + j))
theorem markStr_at {k0 k q : Nat} (h : q = k0 + k) : markStr k0 k = .string (mkT (q : Int)) := by
  have e : (k0 : Int) + (k : Int) = (q : Int) := by omega
  unfold markStr
  rw [e]

set_option maxRecDepth 100000 in
set_option maxHeartbeats 4000000 in
theorem markStringS_row (b off n cap k0 : Nat) (F : Nat → Value) (w : World) (hn : (n : Int) ≤ 1048576) (h1 : 1 ≤ (k0 : Int)) (h2 : (k0 : Int) ≤ 1152921504606846976) (hC : Cells w b off n F) :
    Calls Tryd.prog 14 #[.slice (some ⟨b, off, none⟩) n cap, .int .i64 k0] w fun e w' => e = .returned (.int .i64 ((k0 + n : Nat) : Int)) ∧ Cells w' b off n (markStr k0) ∧ Within b (b + 1) w w' := by
  have HC := hide hC
  clear hC
  go_enter Tryd.func14, Tryd.ntmps14
  go_wp2
  go_loopw [1, 5] (fun v i wr => ∃ (k q : Nat) (F : Nat → Value), k ≤ n ∧ Hid (q = k0 + k) ∧ i = .int .i64 k ∧ v = .int .i64 q ∧ Hid (Cells wr b off n F) ∧ Hid (∀ j, j < k → F j = markStr k0 j) ∧ Hid (Within b (b + 1) w wr)) (fun _ i _ => n - (intOf i).toNat)
  case atStart => exact ⟨0, k0, F, by omega, by show k0 = _; omega, rfl, rfl, HC.out, fun j hj => by omega, Within.refl _ _ _⟩
  case round =>
    obtain ⟨k, q, F, hk, HQ, rfl, rfl, HC0, HM, HW0⟩ := hrel
    have hq1 : 1 ≤ (q : Int) := by have := HQ.out; omega
    have hq2 : (q : Int) ≤ 1152921504610000000 := by have := HQ.out; omega
    by_cases hlt : k < n
    · obtain ⟨c0, z0⟩ := HC0.out.at (off + k) k (by omega) (by omega)
      go_wp2_with fail
      refine (markText_int (q : Int) _ (by omega) (by omega)).mono ?_
      rintro e w1 ⟨rfl, hB⟩
      have HC1 := hide (HC0.out.below hB HC0.out.1)
      have HW1 := hide (HW0.out.below hB (Nat.le_refl _))
      clear hB c0 z0
      obtain ⟨c1, z1⟩ := HC1.out.at (off + k) k (by omega) (by omega)
      have HS1 := hide (HC1.out.setAt (off + k) k (by omega) (by omega) (.string (mkT (q : Int))))
      have HX1 := hide (HW1.out.setCell (p := ⟨b, off + k, none⟩) (Nat.le_refl _) (Nat.lt_succ_self _) (.string (mkT (q : Int))))
      go_wp2
      refine ⟨⟨k + 1, q + 1, _, by omega, by show q + 1 = k0 + (k + 1); have := HQ.out; omega, by go_num, by go_num, HS1.out, ?_, HX1.out⟩, by simp [intOf]; omega⟩
      intro j hj
      rcases (show j < k ∨ j = k by omega) with h | rfl
      · rw [if_neg (by omega), HM.out j h]
      · rw [if_pos rfl, markStr_at HQ.out]
    · have e : k = n := by omega
      subst e
      have hv : (q : Int) = ((k0 + k : Nat) : Int) := by rw [HQ.out]
      have HV := hide hv
      clear hv
      go_wp2
      go_ret
      exact ⟨by show Ending.returned (.int .i64 (q : Int)) = _; rw [HV.out], HC0.out.congr HM.out, HW0.out⟩

set_option maxHeartbeats 1000000 in
theorem markStringS_nil (a : Option Addr) (cap k0 : Nat) (w : World) : Calls Tryd.prog 14 #[.slice a 0 cap, .int .i64 k0] w fun e w' => e = .returned (.int .i64 (k0 : Int)) ∧ w' = w := by
  go_enter Tryd.func14, Tryd.ntmps14
  go_wp2
  go_loop [1, 5] (fun v i => v = .int .i64 k0 ∧ i = .int .i64 0) (fun _ _ => 0)
  case atStart => exact ⟨rfl, rfl⟩
  case round =>
    obtain ⟨rfl, rfl⟩ := hrel
    go_wp2
    go_ret
    exact ⟨rfl, rfl⟩
set_option maxHeartbeats 1000000 in
theorem heldStringS_nil (a : Option Addr) (cap k0 : Nat) (w : World) : Calls Tryd.prog 15 #[.slice a 0 cap, .int .i64 k0] w fun e w' => e = .returned (.int .i64 (k0 : Int)) ∧ w' = w := by
  go_enter Tryd.func15, Tryd.ntmps15
  go_wp2
  go_loop [1, 5] (fun v i => v = .int .i64 k0 ∧ i = .int .i64 0) (fun _ _ => 0)
  case atStart => exact ⟨rfl, rfl⟩
  case round =>
    obtain ⟨rfl, rfl⟩ := hrel
    go_wp2
    go_ret
    exact ⟨rfl, rfl⟩

set_option maxRecDepth 100000 in
set_option maxHeartbeats 4000000 in
theorem heldStringS_row (b off n cap k0 : Nat) (w : World) (hn : (n : Int) ≤ 1048576) (h1 : 1 ≤ (k0 : Int)) (h2 : (k0 : Int) ≤ 1152921504606846976) (hC : Cells w b off n (markStr k0)) :
    Calls Tryd.prog 15 #[.slice (some ⟨b, off, none⟩) n cap, .int .i64 k0] w fun e w' => e = .returned (.int .i64 ((k0 + n : Nat) : Int)) ∧ Below w.heap.size w w' := by
  have HC := hide hC
  have hb : b < w.heap.size := hC.1
  clear hC
  go_enter Tryd.func15, Tryd.ntmps15
  go_wp2
  go_loopw [1, 5] (fun v i wr => ∃ k q : Nat, k ≤ n ∧ Hid (q = k0 + k) ∧ i = .int .i64 k ∧ v = .int .i64 q ∧ Hid (Below w.heap.size w wr)) (fun _ i _ => n - (intOf i).toNat)
  case atStart => exact ⟨0, k0, by omega, by show k0 = _; omega, rfl, rfl, Below.refl _ _⟩
  case round =>
    obtain ⟨k, q, hk, HQ, rfl, rfl, HB0⟩ := hrel
    have hq1 : 1 ≤ (q : Int) := by have := HQ.out; omega
    have hq2 : (q : Int) ≤ 1152921504610000000 := by have := HQ.out; omega
    have hb0 : b < wr.heap.size := Nat.lt_of_lt_of_le hb HB0.out.size
    have H0 := hide (HC.out.below HB0.out hb)
    by_cases hlt : k < n
    · have c0 : wr.cell? ⟨b, off + k, none⟩ = some (.string (mkT (q : Int))) := by have := (H0.out.at (off + k) k (by omega) (by omega)).1; rw [markStr_at HQ.out] at this; exact this
      go_wp2_with fail
      go_region_with (go_at_call 38; refine (markText_int (q : Int) _ (by omega) (by omega)).mono ?_; rintro e w1 ⟨rfl, hB⟩; have D1 : Hid (Below wr.heap.size wr w1) := ⟨hB.os, hB.tape, hB.output, hB.size, hB.block⟩; have HB1 := hide (HB0.out.trans (D1.out.mono HB0.out.size)); have H1 := hide (H0.out.below D1.out hb0); have hb1 : b < w1.heap.size := Nat.lt_of_lt_of_le hb0 D1.out.size; have c1 : w1.cell? ⟨b, off + k, none⟩ = some (.string (mkT (q : Int))) := (D1.out.cell (p := ⟨b, off + k, none⟩) hb0).trans c0; clear hB)
      all_goals
        go_wp2
        exact ⟨⟨k + 1, q + 1, by omega, by show q + 1 = k0 + (k + 1); have := HQ.out; omega, by go_num, by go_num, HB1.out⟩, by simp [intOf]; omega⟩
    · have e : k = n := by omega
      subst e
      have hv : (q : Int) = ((k0 + k : Nat) : Int) := by rw [HQ.out]
      have HV := hide hv
      clear hv
      go_wp2
      go_ret
      exact ⟨by show Ending.returned (.int .i64 (q : Int)) = _; rw [HV.out], HB0.out⟩

end Go.Proofs.YtkgddbcjmejfaaaDoor.Vp

/-
  What marking leaves.
-/
namespace Go.Proofs.YtkgddbcjmejfaaaDoor.Vp
open Go.RowKit

/-- Blocks that are none of P's stand as they stood. -/
structure Touch (P : Nat → Prop) (w w' : World) : Prop where
  os : w'.os = w.os
  tape : w'.tape = w.tape
  output : w'.output = w.output
  size : w.heap.size ≤ w'.heap.size
  block : ∀ k, k < w.heap.size → ¬ P k → w'.heap[k]? = w.heap[k]?
theorem Touch.refl (P : Nat → Prop) (w : World) : Touch P w w := ⟨rfl, rfl, rfl, Nat.le_refl _, fun _ _ _ => rfl⟩
theorem Touch.trans {P : Nat → Prop} {a b c : World} (h : Touch P a b) (k : Touch P b c) : Touch P a c :=
  ⟨k.os.trans h.os, k.tape.trans h.tape, k.output.trans h.output, Nat.le_trans h.size k.size, fun i hi ho => (k.block i (Nat.lt_of_lt_of_le hi h.size) ho).trans (h.block i hi ho)⟩
theorem Touch.of_below {P : Nat → Prop} {B : Nat} {w w' : World} (h : Below B w w') (hB : w.heap.size ≤ B) : Touch P w w' :=
  ⟨h.os, h.tape, h.output, h.size, fun i hi _ => h.block i (Nat.lt_of_lt_of_le hi hB)⟩
theorem Touch.below {P : Nat → Prop} {B : Nat} {a w w' : World} (h : Touch P a w) (hb : Below B w w') (hB : w.heap.size ≤ B) : Touch P a w' := h.trans (Touch.of_below hb hB)
theorem Touch.setCell {P : Nat → Prop} {a w : World} (h : Touch P a w) {p : Addr} (hp : P p.block) (v : Value) : Touch P a (w.setCell p v) :=
  h.trans ⟨rfl, rfl, rfl, by simp [World.setCell], fun k _ ho => Below.heap_setCell _ _ _ _ (fun e => ho (e ▸ hp))⟩
theorem Touch.of_within {P : Nat → Prop} {b : Nat} {w w' : World} (h : Within b (b + 1) w w') (hb : P b) : Touch P w w' :=
  ⟨h.os, h.tape, h.output, h.size, fun k hk ho => h.block k hk (by rcases Nat.lt_trichotomy k b with c | c | c; exact .inl c; exact absurd (c ▸ hb) ho; exact .inr c)⟩
theorem Touch.mono {P Q : Nat → Prop} {w w' : World} (h : Touch P w w') (hPQ : ∀ k, P k → Q k) : Touch Q w w' :=
  ⟨h.os, h.tape, h.output, h.size, fun k hk ho => h.block k hk (fun hp => ho (hPQ k hp))⟩
theorem Cells.touch {w w' : World} {b off m : Nat} {F : Nat → Value} {P : Nat → Prop} (h : Cells w b off m F) (hw : Touch P w w') (hb : ¬ P b) : Cells w' b off m F := by
  have e := hw.block b h.1 hb
  exact ⟨Nat.lt_of_lt_of_le h.1 hw.size, fun j hj => ⟨(World.cell?_of_block (a := ⟨b, off + j, none⟩) e).trans (h.2 j hj).1, (World.frozen?_of_block (a := ⟨b, off + j, none⟩) e).trans (h.2 j hj).2⟩⟩

/-- A row of m cells, or none. -/
def Room (w : World) (p : Option Addr) (n b m : Nat) : Prop := n = 0 ∨ (p = some ⟨b, 0, none⟩ ∧ ∃ G, Cells w b 0 m G)
theorem Touch.toBelow {P : Nat → Prop} {w w' : World} {B : Nat} (h : Touch P w w') (hP : ∀ x, P x → B ≤ x) (hB : B ≤ w.heap.size) : Below B w w' :=
  ⟨h.os, h.tape, h.output, h.size, fun k hk => h.block k (by omega) (fun hp => by have := hP k hp; omega)⟩
theorem Touch.cell {P : Nat → Prop} {w w' : World} (h : Touch P w w') {p : Addr} (hl : p.block < w.heap.size) (hp : ¬ P p.block) : w'.cell? p = w.cell? p := World.cell?_of_block (h.block p.block hl hp)

end Go.Proofs.YtkgddbcjmejfaaaDoor.Vp

/-
  The copies of programs once more, with what they own. Written by tools/own.py.
-/
namespace Go.Proofs.YtkgddbcjmejfaaaDoor.Vp
open Go.RowKit

theorem cells_of_row {w : World} {b n : Nat} {t : TypeId} {F : Nat → Value} (h : w.rowIs b t n F) : Cells w b 0 n F :=
  ⟨h.lt, fun j hj => by rw [Nat.zero_add]; exact ⟨h.cell hj, h.frozen j⟩⟩
theorem OwnIns.lt {w : World} {g n k : Nat} {f : Nat → Ins} (h : OwnIns w g n k f) : g < w.heap.size := by
  obtain ⟨F, hr, _⟩ := h
  exact hr.lt
theorem OwnIns.setOther {w : World} {g n k : Nat} {f : Nat → Ins} (h : OwnIns w g n k f) (p : Addr) (hp : p.block ≠ g) (v : Value) : OwnIns (w.setCell p v) g n k f := by
  obtain ⟨F, hr, hF⟩ := h
  exact ⟨F, hr.setOther (fun e => hp e.symm) v, hF⟩
theorem OwnIns.kept {w w' : World} {g n k : Nat} {f : Nat → Ins} {B : Nat} (h : OwnIns w g n k f) (hb : Below B w w') (hB : w.heap.size ≤ B) : OwnIns w' g n k f := h.below hb (Nat.lt_of_lt_of_le h.lt hB)
theorem OwnIns.cells {w : World} {g n : Nat} {f : Nat → Ins} (h : OwnIns w g n n f) : ∃ F, Cells w g 0 (n * 3) F := by
  obtain ⟨F, hr, _⟩ := h
  exact ⟨F, cells_of_row hr⟩

set_option maxHeartbeats 1000000 in
theorem toInsS_rowO (b off n cap : Nat) (f : Nat → Ins) (w : World) (hn : n ≤ 1048576) (hb : b < w.heap.size) (hf : ∀ i, i < n → AtIns w b off i (f i)) :
    Calls Tryd.prog 75 #[.slice (some ⟨b, off, none⟩) n cap] w fun e w' => ∃ g, e = .returned (.slice (some ⟨g, 0, none⟩) n n) ∧ OwnIns w' g n n f ∧ w.heap.size ≤ g ∧ Below w.heap.size w w' := by
  have HF := hide hf
  clear hf
  have hmk := mkIns n hn
  go_enter Tryd.func75, Tryd.ntmps75
  go_wp2
  clear hmk
  go_loopw [4] (fun i wr => ∃ k : Nat, k ≤ n ∧ i = .int .i64 k ∧ OwnIns wr w.heap.size n k f ∧ Below w.heap.size w wr) (fun i _ => n - (intOf i).toNat)
  case atStart => exact ⟨0, by omega, rfl, ownIns_start w n f, (Below.refl _ _).alloc (Nat.le_refl _) _⟩
  case round =>
    obtain ⟨k, hk, rfl, hO, hB⟩ := hrel
    have HO := hide hO
    by_cases hlt : k < n
    · obtain ⟨c0, c1, c2⟩ := (HF.out k hlt).below hB hb
      clear hO
      go_wp2_with fail
      refine (toIns_any _ _ _ _).mono ?_
      rintro e w1 ⟨rfl, hB1⟩
      have HO1 : Hid (OwnIns w1 w.heap.size n k f) := HO.out.below hB1 (by obtain ⟨F, hr, _⟩ := HO.out; exact hr.lt)
      obtain ⟨F, hr, _⟩ := HO1.out
      have d0 := hr.cell (i := k * 3) (by omega)
      have z0 := hr.frozen (k * 3)
      have d1 := hr.cell (i := k * 3 + 1) (by omega)
      have z1 := hr.frozen (k * 3 + 1)
      have d2 := hr.cell (i := k * 3 + 2) (by omega)
      have z2 := hr.frozen (k * 3 + 2)
      clear hr c0 c1 c2
      go_wp2
      exact ⟨⟨k + 1, by omega, by go_num, HO1.out.step, (((hB.trans (hB1.mono hB.size)).setCell (Nat.le_refl _) _).setCell (Nat.le_refl _) _).setCell (Nat.le_refl _) _⟩, by simp [intOf]; omega⟩
    · have e : k = n := by omega
      subst e
      clear hO
      go_wp2
      go_ret
      exact ⟨_, rfl, HO.out, Nat.le_refl _, hB⟩

set_option maxHeartbeats 1000000 in
theorem toInsS_nilO (a : Option Addr) (cap : Nat) (f : Nat → Ins) (w : World) :
    Calls Tryd.prog 75 #[.slice a 0 cap] w fun e w' => ∃ g, e = .returned (.slice (some ⟨g, 0, none⟩) 0 0) ∧ OwnIns w' g 0 0 f ∧ w.heap.size ≤ g ∧ Below w.heap.size w w' := by
  have hmk : ∀ w : World, (Instr.makeSlice 53 (.int .i64 0) (.int .i64 0)).run Tryd.prog w = .ok (.slice (some ⟨w.heap.size, 0, none⟩) 0 0) (w.alloc (.cells (zerosIns 0) 111)) := fun w => mkIns 0 (by omega) w
  go_enter Tryd.func75, Tryd.ntmps75
  go_wp2
  clear hmk
  go_loop [4] (fun i => i = .int .i64 0) (fun _ => 0)
  case atStart => rfl
  case round =>
    subst hrel
    go_wp2
    go_ret
    exact ⟨_, rfl, ownIns_start w 0 f, Nat.le_refl _, (Below.refl _ _).alloc (Nat.le_refl _) _⟩

theorem toInsS_anyO (a : Option Addr) (n cap : Nat) (f : Nat → Ins) (w : World) (hn : n ≤ 1048576) (hv : SlIns w a n f) :
    Calls Tryd.prog 75 #[.slice a n cap] w fun e w' => ∃ g, e = .returned (.slice (some ⟨g, 0, none⟩) n n) ∧ OwnIns w' g n n f ∧ w.heap.size ≤ g ∧ Below w.heap.size w w' := by
  rcases hv with rfl | ⟨b, off, rfl, hl, hc⟩
  · exact toInsS_nilO a cap f w
  · exact toInsS_rowO b off n cap f w hn hl hc

set_option maxHeartbeats 1000000 in
theorem toProgram_anyO (a : Option Addr) (n cap : Nat) (f : Nat → Ins) (w : World) (hn : n ≤ 1048576) (hv : SlIns w a n f) :
    Calls Tryd.prog 58 #[.agg #[.slice a n cap]] w fun e w' => ∃ g, e = .returned (.agg #[.slice (some ⟨g, 0, none⟩) n n]) ∧ OwnIns w' g n n f ∧ w.heap.size ≤ g ∧ Below w.heap.size w w' := by
  have HV := hide hv
  clear hv
  go_enter Tryd.func58, Tryd.ntmps58
  go_wp2_with fail
  refine (toInsS_anyO a n cap f _ hn (HV.out.below ((((Below.refl _ _).alloc (Nat.le_refl _) _).alloc (by simp) _).alloc (by simp; omega) _) (Nat.le_refl _))).mono ?_
  rintro e w' ⟨g, rfl, hv', hg, hB⟩
  have HV' := hide hv'
  have HB := hide hB
  obtain ⟨hc, hz⟩ := bcell hB
  clear hv' hB
  simp at hg
  go_wp2
  refine bodyPost_ret (v := .agg #[.slice (some ⟨g, 0, none⟩) n n]) (by simp [results, Tryd.results58, go_sem, hc]) rfl ⟨g, rfl, (HV'.out.setOther _ (by simp; omega) _).setOther _ (by simp; omega) _, by omega, ?_⟩
  exact ((((((Below.refl _ _).alloc (Nat.le_refl _) _).alloc (by simp) _).alloc (by simp; omega) _).trans (HB.out.mono (by simp; omega))).setCell (by simp; omega) _).setCell (by simp) _

end Go.Proofs.YtkgddbcjmejfaaaDoor.Vp

/-
  The copies of links, deeds, accounts once more, with what they own. Written by tools/own.py.
-/
namespace Go.Proofs.YtkgddbcjmejfaaaDoor.Vp
open Go.RowKit

theorem OwnLink.lt {w : World} {g n k : Nat} {f : Nat → Link} (h : OwnLink w g n k f) : g < w.heap.size := by
  obtain ⟨F, hr, _⟩ := h
  exact hr.lt
theorem OwnLink.setOther {w : World} {g n k : Nat} {f : Nat → Link} (h : OwnLink w g n k f) (p : Addr) (hp : p.block ≠ g) (v : Value) : OwnLink (w.setCell p v) g n k f := by
  obtain ⟨F, hr, hF⟩ := h
  exact ⟨F, hr.setOther (fun e => hp e.symm) v, hF⟩
theorem OwnLink.kept {w w' : World} {g n k : Nat} {f : Nat → Link} {B : Nat} (h : OwnLink w g n k f) (hb : Below B w w') (hB : w.heap.size ≤ B) : OwnLink w' g n k f := h.below hb (Nat.lt_of_lt_of_le h.lt hB)
theorem OwnLink.cells {w : World} {g n : Nat} {f : Nat → Link} (h : OwnLink w g n n f) : ∃ F, Cells w g 0 (n * 4) F := by
  obtain ⟨F, hr, _⟩ := h
  exact ⟨F, cells_of_row hr⟩
theorem rows_apart {w : World} {g n m : Nat} {s t : TypeId} {F G : Nat → Value} (h1 : w.rowIs g s n F) (h2 : w.rowIs g t m G) (hne : s ≠ t) : False := by
  obtain ⟨cs, hc, _⟩ := h1
  obtain ⟨ds, hd, _⟩ := h2
  rw [hc] at hd
  simp at hd
  exact hne hd.2
theorem ins_link {w : World} {g h n m k j : Nat} {f : Nat → Ins} {l : Nat → Link} (h1 : OwnIns w g n k f) (h2 : OwnLink w h m j l) : g ≠ h := by
  rintro rfl
  obtain ⟨F, hr, _⟩ := h1
  obtain ⟨G, hs, _⟩ := h2
  exact rows_apart hr hs (by decide)

set_option maxHeartbeats 1000000 in
theorem toLinkS_rowO (b off n cap : Nat) (f : Nat → Link) (w : World) (hn : n ≤ 1048576) (hb : b < w.heap.size) (hf : ∀ i, i < n → AtLink w b off i (f i)) :
    Calls Tryd.prog 59 #[.slice (some ⟨b, off, none⟩) n cap] w fun e w' => ∃ g, e = .returned (.slice (some ⟨g, 0, none⟩) n n) ∧ OwnLink w' g n n f ∧ w.heap.size ≤ g ∧ Below w.heap.size w w' := by
  have HF := hide hf
  clear hf
  have hmk := mkLink n hn
  go_enter Tryd.func59, Tryd.ntmps59
  go_wp2
  clear hmk
  go_loopw [4] (fun i wr => ∃ k : Nat, k ≤ n ∧ i = .int .i64 k ∧ OwnLink wr w.heap.size n k f ∧ Below w.heap.size w wr) (fun i _ => n - (intOf i).toNat)
  case atStart => exact ⟨0, by omega, rfl, ownLink_start w n f, (Below.refl _ _).alloc (Nat.le_refl _) _⟩
  case round =>
    obtain ⟨k, hk, rfl, hO, hB⟩ := hrel
    have HO := hide hO
    by_cases hlt : k < n
    · obtain ⟨c0, c1, c2, c3⟩ := (HF.out k hlt).below hB hb
      clear hO
      go_wp2_with fail
      refine (toLink_any _ _ _ _ _).mono ?_
      rintro e w1 ⟨rfl, hB1⟩
      have HO1 : Hid (OwnLink w1 w.heap.size n k f) := HO.out.below hB1 (by obtain ⟨F, hr, _⟩ := HO.out; exact hr.lt)
      obtain ⟨F, hr, _⟩ := HO1.out
      have d0 := hr.cell (i := k * 4) (by omega)
      have z0 := hr.frozen (k * 4)
      have d1 := hr.cell (i := k * 4 + 1) (by omega)
      have z1 := hr.frozen (k * 4 + 1)
      have d2 := hr.cell (i := k * 4 + 2) (by omega)
      have z2 := hr.frozen (k * 4 + 2)
      have d3 := hr.cell (i := k * 4 + 3) (by omega)
      have z3 := hr.frozen (k * 4 + 3)
      clear hr c0 c1 c2 c3
      go_wp2
      exact ⟨⟨k + 1, by omega, by go_num, HO1.out.step, ((((hB.trans (hB1.mono hB.size)).setCell (Nat.le_refl _) _).setCell (Nat.le_refl _) _).setCell (Nat.le_refl _) _).setCell (Nat.le_refl _) _⟩, by simp [intOf]; omega⟩
    · have e : k = n := by omega
      subst e
      clear hO
      go_wp2
      go_ret
      exact ⟨_, rfl, HO.out, Nat.le_refl _, hB⟩

set_option maxHeartbeats 1000000 in
theorem toLinkS_nilO (a : Option Addr) (cap : Nat) (f : Nat → Link) (w : World) :
    Calls Tryd.prog 59 #[.slice a 0 cap] w fun e w' => ∃ g, e = .returned (.slice (some ⟨g, 0, none⟩) 0 0) ∧ OwnLink w' g 0 0 f ∧ w.heap.size ≤ g ∧ Below w.heap.size w w' := by
  have hmk : ∀ w : World, (Instr.makeSlice 56 (.int .i64 0) (.int .i64 0)).run Tryd.prog w = .ok (.slice (some ⟨w.heap.size, 0, none⟩) 0 0) (w.alloc (.cells (zerosLink 0) 60)) := fun w => mkLink 0 (by omega) w
  go_enter Tryd.func59, Tryd.ntmps59
  go_wp2
  clear hmk
  go_loop [4] (fun i => i = .int .i64 0) (fun _ => 0)
  case atStart => rfl
  case round =>
    subst hrel
    go_wp2
    go_ret
    exact ⟨_, rfl, ownLink_start w 0 f, Nat.le_refl _, (Below.refl _ _).alloc (Nat.le_refl _) _⟩

theorem toLinkS_anyO (a : Option Addr) (n cap : Nat) (f : Nat → Link) (w : World) (hn : n ≤ 1048576) (hv : SlLink w a n f) :
    Calls Tryd.prog 59 #[.slice a n cap] w fun e w' => ∃ g, e = .returned (.slice (some ⟨g, 0, none⟩) n n) ∧ OwnLink w' g n n f ∧ w.heap.size ≤ g ∧ Below w.heap.size w w' := by
  rcases hv with rfl | ⟨b, off, rfl, hl, hc⟩
  · exact toLinkS_nilO a cap f w
  · exact toLinkS_rowO b off n cap f w hn hl hc

set_option maxHeartbeats 2000000 in
theorem toDeed_anyO (x : Deed) (a0 : Option Addr) (cap0 : Nat) (a1 : Option Addr) (cap1 : Nat) (w : World) (hfit : FitsDeed x) (hv0 : SlIns w a0 x.actN x.act) (hv1 : SlLink w a1 x.linksN x.links) :
    Calls Tryd.prog 45 #[.agg #[.string x.name, .int .i64 x.kind, .int .i64 x.code, .string x.text, .slice a0 x.actN cap0, .slice a1 x.linksN cap1]] w fun e w' => ∃ g0 g1, e = .returned (.agg #[.string x.name, .int .i64 x.kind, .int .i64 x.code, .string x.text, .slice (some ⟨g0, 0, none⟩) x.actN x.actN, .slice (some ⟨g1, 0, none⟩) x.linksN x.linksN]) ∧ OwnIns w' g0 x.actN x.actN x.act ∧ w.heap.size ≤ g0 ∧ OwnLink w' g1 x.linksN x.linksN x.links ∧ w.heap.size ≤ g1 ∧ Below w.heap.size w w' := by
  have V0 := hide hv0
  have V1 := hide hv1
  clear hv0 hv1
  have hfit := hide hfit
  have A0 : Hid (Below w.heap.size w (((w.alloc (.cells #[.string x.name, .int .i64 x.kind, .int .i64 x.code, .string x.text, .slice a0 x.actN cap0, .slice a1 x.linksN cap1] 80)).alloc (.cells #[.string ⟨#[]⟩, .int .i64 0, .int .i64 0, .string ⟨#[]⟩, .slice none 0 0, .slice none 0 0] 58)).alloc (.cells #[.string x.name, .int .i64 x.kind, .int .i64 x.code, .string x.text, .slice none 0 0, .slice none 0 0] 58))) := (((Below.refl _ _).alloc (Nat.le_refl _) _).alloc (by simp) _).alloc (by first | (simp; omega) | simp) _
  go_enter Tryd.func45, Tryd.ntmps45
  go_wp2_with fail
  refine (toProgram_anyO a0 x.actN cap0 x.act _ hfit.out.1 (V0.out.below A0.out (Nat.le_refl _))).mono ?_
  rintro e w1 ⟨g0, rfl, hR0, hg0, hB1⟩
  have R0 := hide hR0
  obtain ⟨hc1, hz1⟩ := bcell hB1
  have B1 := hide (A0.out.trans (hB1.mono A0.out.size))
  have hs1 : w.heap.size + 1 + 1 < w1.heap.size := by have := hB1.size; simp at this; omega
  have hu1 : w.heap.size + 1 < w1.heap.size := by omega
  have ht1 : w.heap.size < w1.heap.size := by omega
  have D1 := hide hB1
  clear hR0 hB1
  simp at hg0
  go_wp2_with fail
  have A1 := hide (B1.out.setCell (p := ⟨w.heap.size + 1 + 1, 4, none⟩) (by first | (simp; omega) | simp) (.slice (some ⟨g0, 0, none⟩) x.actN x.actN))
  refine (toLinkS_anyO a1 x.linksN cap1 x.links _ hfit.out.2 (V1.out.below A1.out (Nat.le_refl _))).mono ?_
  rintro e w2 ⟨g1, rfl, hR1, hg1, hB2⟩
  have R1 := hide hR1
  obtain ⟨hc2, hz2⟩ := bcell hB2
  have B2 := hide (A1.out.trans (hB2.mono A1.out.size))
  have hs2 : w.heap.size + 1 + 1 < w2.heap.size := by have := hB2.size; simp at this; omega
  have hu2 : w.heap.size + 1 < w2.heap.size := by omega
  have ht2 : w.heap.size < w2.heap.size := by omega
  have D2 := hide hB2
  clear hR1 hB2
  simp at hg1
  have q0 : w2.cell? ⟨w.heap.size + 1, 0, none⟩ = some (.string ⟨#[]⟩) := by
    rw [D2.out.cell (p := ⟨w.heap.size + 1, 0, none⟩) (by first | (simp; omega) | simp), cell_far _ _ _ _ (by simp)]
    rw [D1.out.cell (p := ⟨w.heap.size + 1, 0, none⟩) (by first | (simp; omega) | simp)]
    simp [go_sem]
  have q1 : w2.cell? ⟨w.heap.size + 1, 1, none⟩ = some (.int .i64 0) := by
    rw [D2.out.cell (p := ⟨w.heap.size + 1, 1, none⟩) (by first | (simp; omega) | simp), cell_far _ _ _ _ (by simp)]
    rw [D1.out.cell (p := ⟨w.heap.size + 1, 1, none⟩) (by first | (simp; omega) | simp)]
    simp [go_sem]
  have q2 : w2.cell? ⟨w.heap.size + 1, 2, none⟩ = some (.int .i64 0) := by
    rw [D2.out.cell (p := ⟨w.heap.size + 1, 2, none⟩) (by first | (simp; omega) | simp), cell_far _ _ _ _ (by simp)]
    rw [D1.out.cell (p := ⟨w.heap.size + 1, 2, none⟩) (by first | (simp; omega) | simp)]
    simp [go_sem]
  have q3 : w2.cell? ⟨w.heap.size + 1, 3, none⟩ = some (.string ⟨#[]⟩) := by
    rw [D2.out.cell (p := ⟨w.heap.size + 1, 3, none⟩) (by first | (simp; omega) | simp), cell_far _ _ _ _ (by simp)]
    rw [D1.out.cell (p := ⟨w.heap.size + 1, 3, none⟩) (by first | (simp; omega) | simp)]
    simp [go_sem]
  have q4 : w2.cell? ⟨w.heap.size + 1, 4, none⟩ = some (.slice none 0 0) := by
    rw [D2.out.cell (p := ⟨w.heap.size + 1, 4, none⟩) (by first | (simp; omega) | simp), cell_far _ _ _ _ (by simp)]
    rw [D1.out.cell (p := ⟨w.heap.size + 1, 4, none⟩) (by first | (simp; omega) | simp)]
    simp [go_sem]
  have q5 : w2.cell? ⟨w.heap.size + 1, 5, none⟩ = some (.slice none 0 0) := by
    rw [D2.out.cell (p := ⟨w.heap.size + 1, 5, none⟩) (by first | (simp; omega) | simp), cell_far _ _ _ _ (by simp)]
    rw [D1.out.cell (p := ⟨w.heap.size + 1, 5, none⟩) (by first | (simp; omega) | simp)]
    simp [go_sem]
  go_wp2
  exact bodyPost_ret (v := .agg #[.string x.name, .int .i64 x.kind, .int .i64 x.code, .string x.text, .slice (some ⟨g0, 0, none⟩) x.actN x.actN, .slice (some ⟨g1, 0, none⟩) x.linksN x.linksN]) (by simp [results, Tryd.results45, go_sem, q0, q1, q2, q3, q4, q5]) rfl ⟨g0, g1, rfl, ((((((((R0.out.setOther _ (by first | (simp; omega) | simp) _).kept D2.out (Nat.le_refl _)).setOther _ (by first | (simp; omega) | simp) _).setOther _ (by first | (simp; omega) | simp) _).setOther _ (by first | (simp; omega) | simp) _).setOther _ (by first | (simp; omega) | simp) _).setOther _ (by first | (simp; omega) | simp) _).setOther _ (by first | (simp; omega) | simp) _).setOther _ (by first | (simp; omega) | simp) _, by omega, (((((((R1.out).setOther _ (by first | (simp; omega) | simp) _).setOther _ (by first | (simp; omega) | simp) _).setOther _ (by first | (simp; omega) | simp) _).setOther _ (by first | (simp; omega) | simp) _).setOther _ (by first | (simp; omega) | simp) _).setOther _ (by first | (simp; omega) | simp) _).setOther _ (by first | (simp; omega) | simp) _, by omega, (((((((B2.out).setCell (by first | (simp; omega) | simp) _).setCell (by first | (simp; omega) | simp) _).setCell (by first | (simp; omega) | simp) _).setCell (by first | (simp; omega) | simp) _).setCell (by first | (simp; omega) | simp) _).setCell (by first | (simp; omega) | simp) _).setCell (by first | (simp; omega) | simp) _⟩

/-- Block g is a row of n elements' cells; the first k are those of f, their slices rows of blocks behind g. -/
def OwnDeed2 (w : World) (g n k N : Nat) (f : Nat → Deed) : Prop :=
  ∃ (F : Nat → Value) (G0 G1 : Nat → Nat), w.rowIs g 58 (n * 6) F ∧ (∀ i j, i < j → j < k → G0 i < G0 j ∧ G1 i < G1 j) ∧ (∀ i, i < k → G0 i < N ∧ G1 i < N) ∧ ∀ i, i < k → F (i * 6) = .string (f i).name ∧ F (i * 6 + 1) = .int .i64 (f i).kind ∧ F (i * 6 + 2) = .int .i64 (f i).code ∧ F (i * 6 + 3) = .string (f i).text ∧ (F (i * 6 + 4) = .slice (some ⟨G0 i, 0, none⟩) (f i).actN (f i).actN ∧ OwnIns w (G0 i) (f i).actN (f i).actN (f i).act ∧ g < G0 i) ∧ (F (i * 6 + 5) = .slice (some ⟨G1 i, 0, none⟩) (f i).linksN (f i).linksN ∧ OwnLink w (G1 i) (f i).linksN (f i).linksN (f i).links ∧ g < G1 i)
theorem OwnDeed2.lt {w : World} {g n k N : Nat} {f : Nat → Deed} (h : OwnDeed2 w g n k N f) : g < w.heap.size := by
  obtain ⟨F, G0, G1, hr, _⟩ := h
  exact hr.lt
theorem ownDeed2_start (w : World) (n N : Nat) (f : Nat → Deed) : OwnDeed2 (w.alloc (.cells (zerosDeed n) 58)) w.heap.size n 0 N f := by
  have hz : (zerosDeed n).size = n * 6 := size_madeCells _ _
  have h := World.rowIs_alloc w (zerosDeed n) 58 (fun i => (zerosDeed n)[i]?.getD undef) (fun i hi => by rw [Array.getElem?_eq_getElem hi]; rfl)
  rw [hz] at h
  exact ⟨_, fun _ => 0, fun _ => 0, h, fun i j _ hj => absurd hj (Nat.not_lt_zero _), fun i hi => absurd hi (Nat.not_lt_zero _), fun i hi => absurd hi (Nat.not_lt_zero _)⟩
theorem OwnDeed2.step {w : World} {g n k N g0 g1 : Nat} {f : Nat → Deed} (h : OwnDeed2 w g n k N f) (R0 : OwnIns w g0 (f k).actN (f k).actN (f k).act) (hg0 : g < g0) (R1 : OwnLink w g1 (f k).linksN (f k).linksN (f k).links) (hg1 : g < g1) (hN0 : N ≤ g0) (hN1 : N ≤ g1) {M : Nat} (hM0 : g0 < M) (hM1 : g1 < M) :
    OwnDeed2 ((((((w.setCell ⟨g, k * 6, none⟩ (.string (f k).name)).setCell ⟨g, k * 6 + 1, none⟩ (.int .i64 (f k).kind)).setCell ⟨g, k * 6 + 2, none⟩ (.int .i64 (f k).code)).setCell ⟨g, k * 6 + 3, none⟩ (.string (f k).text)).setCell ⟨g, k * 6 + 4, none⟩ (.slice (some ⟨g0, 0, none⟩) (f k).actN (f k).actN)).setCell ⟨g, k * 6 + 5, none⟩ (.slice (some ⟨g1, 0, none⟩) (f k).linksN (f k).linksN)) g n (k + 1) M f := by
  obtain ⟨F, G0, G1, hr, ha, hN, hF⟩ := h
  refine ⟨_, fun i => if i = k then g0 else G0 i, fun i => if i = k then g1 else G1 i, ((((((hr.set _ _).set _ _).set _ _).set _ _).set _ _).set _ _), fun i j hij hj => ?_, fun i hi => ?_, fun i hi => ?_⟩
  · dsimp only
    rw [if_neg (show ¬ i = k by omega), if_neg (show ¬ i = k by omega)]
    by_cases e : j = k
    · rw [if_pos e, if_pos e]
      have := hN i (by omega)
      omega
    · rw [if_neg e, if_neg e]
      exact ha i j hij (by omega)
  · dsimp only
    by_cases e : i = k
    · rw [if_pos e, if_pos e]
      omega
    · rw [if_neg e, if_neg e]
      have := hN i (by omega)
      omega
  by_cases e : i = k
  · subst e
    exact ⟨by simp, by simp, by simp, by simp, ⟨by simp, by dsimp only; rw [if_pos rfl]; exact ((((((R0).setOther _ (by first | (simp; omega) | simp) _).setOther _ (by first | (simp; omega) | simp) _).setOther _ (by first | (simp; omega) | simp) _).setOther _ (by first | (simp; omega) | simp) _).setOther _ (by first | (simp; omega) | simp) _).setOther _ (by first | (simp; omega) | simp) _, by dsimp only; rw [if_pos rfl]; exact hg0⟩, ⟨by simp, by dsimp only; rw [if_pos rfl]; exact ((((((R1).setOther _ (by first | (simp; omega) | simp) _).setOther _ (by first | (simp; omega) | simp) _).setOther _ (by first | (simp; omega) | simp) _).setOther _ (by first | (simp; omega) | simp) _).setOther _ (by first | (simp; omega) | simp) _).setOther _ (by first | (simp; omega) | simp) _, by dsimp only; rw [if_pos rfl]; exact hg1⟩⟩
  · obtain ⟨p0, p1, p2, p3, ⟨s0, r0, u0⟩, ⟨s1, r1, u1⟩⟩ := hF i (by omega)
    refine ⟨?_, ?_, ?_, ?_, ?_, ?_⟩
    · show (if _ then _ else if _ then _ else if _ then _ else if _ then _ else if _ then _ else if _ then _ else _) = _
      rw [if_neg (by omega), if_neg (by omega), if_neg (by omega), if_neg (by omega), if_neg (by omega), if_neg (by omega), p0]
    · show (if _ then _ else if _ then _ else if _ then _ else if _ then _ else if _ then _ else if _ then _ else _) = _
      rw [if_neg (by omega), if_neg (by omega), if_neg (by omega), if_neg (by omega), if_neg (by omega), if_neg (by omega), p1]
    · show (if _ then _ else if _ then _ else if _ then _ else if _ then _ else if _ then _ else if _ then _ else _) = _
      rw [if_neg (by omega), if_neg (by omega), if_neg (by omega), if_neg (by omega), if_neg (by omega), if_neg (by omega), p2]
    · show (if _ then _ else if _ then _ else if _ then _ else if _ then _ else if _ then _ else if _ then _ else _) = _
      rw [if_neg (by omega), if_neg (by omega), if_neg (by omega), if_neg (by omega), if_neg (by omega), if_neg (by omega), p3]
    · dsimp only
      rw [if_neg e]
      refine ⟨?_, ((((((r0).setOther _ (by first | (simp; omega) | simp) _).setOther _ (by first | (simp; omega) | simp) _).setOther _ (by first | (simp; omega) | simp) _).setOther _ (by first | (simp; omega) | simp) _).setOther _ (by first | (simp; omega) | simp) _).setOther _ (by first | (simp; omega) | simp) _, u0⟩
      show (if _ then _ else if _ then _ else if _ then _ else if _ then _ else if _ then _ else if _ then _ else _) = _
      rw [if_neg (by omega), if_neg (by omega), if_neg (by omega), if_neg (by omega), if_neg (by omega), if_neg (by omega), s0]
    · dsimp only
      rw [if_neg e]
      refine ⟨?_, ((((((r1).setOther _ (by first | (simp; omega) | simp) _).setOther _ (by first | (simp; omega) | simp) _).setOther _ (by first | (simp; omega) | simp) _).setOther _ (by first | (simp; omega) | simp) _).setOther _ (by first | (simp; omega) | simp) _).setOther _ (by first | (simp; omega) | simp) _, u1⟩
      show (if _ then _ else if _ then _ else if _ then _ else if _ then _ else if _ then _ else if _ then _ else _) = _
      rw [if_neg (by omega), if_neg (by omega), if_neg (by omega), if_neg (by omega), if_neg (by omega), if_neg (by omega), s1]
theorem OwnDeed2.below {w w' : World} {g n k N : Nat} {f : Nat → Deed} {B : Nat} (h : OwnDeed2 w g n k N f) (hb : Below B w w') (hB : w.heap.size ≤ B) : OwnDeed2 w' g n k N f := by
  have hl := h.lt
  obtain ⟨F, G0, G1, hr, ha, hN, hF⟩ := h
  refine ⟨F, G0, G1, hr.of_block (hb.block g (Nat.lt_of_lt_of_le hl hB)), ha, hN, fun i hi => ?_⟩
  obtain ⟨p0, p1, p2, p3, ⟨s0, r0, u0⟩, ⟨s1, r1, u1⟩⟩ := hF i hi
  exact ⟨p0, p1, p2, p3, ⟨s0, r0.kept hb hB, u0⟩, ⟨s1, r1.kept hb hB, u1⟩⟩
theorem OwnDeed2.setOther {w : World} {g n k N : Nat} {f : Nat → Deed} (h : OwnDeed2 w g n k N f) (p : Addr) (hp : p.block < g) (v : Value) : OwnDeed2 (w.setCell p v) g n k N f := by
  obtain ⟨F, G0, G1, hr, ha, hN, hF⟩ := h
  refine ⟨F, G0, G1, hr.setOther (by omega) v, ha, hN, fun i hi => ?_⟩
  obtain ⟨p0, p1, p2, p3, ⟨s0, r0, u0⟩, ⟨s1, r1, u1⟩⟩ := hF i hi
  exact ⟨p0, p1, p2, p3, ⟨s0, r0.setOther p (by omega) v, u0⟩, ⟨s1, r1.setOther p (by omega) v, u1⟩⟩
theorem OwnDeed2.row {w : World} {g n N : Nat} {f : Nat → Deed} (h : OwnDeed2 w g n n N f) : RowDeed w g 0 n f := by
  obtain ⟨F, G0, G1, hr, ha, hN, hF⟩ := h
  refine ⟨hr.lt, fun i hi => ?_⟩
  obtain ⟨p0, p1, p2, p3, ⟨s0, r0, u0⟩, ⟨s1, r1, u1⟩⟩ := hF i hi
  refine ⟨?_, ?_, ?_, ?_, ?_, ?_⟩
  · rw [Nat.zero_add, hr.cell (by omega), p0]
  · rw [Nat.zero_add, hr.cell (by omega), p1]
  · rw [Nat.zero_add, hr.cell (by omega), p2]
  · rw [Nat.zero_add, hr.cell (by omega), p3]
  · exact ⟨_, _, by rw [Nat.zero_add, hr.cell (by omega), s0], r0.row.sl⟩
  · exact ⟨_, _, by rw [Nat.zero_add, hr.cell (by omega), s1], r1.row.sl⟩

theorem OwnDeed2.up {w : World} {g n k N : Nat} {f : Nat → Deed} (h : OwnDeed2 w g n k N f) {M : Nat} (hN : N ≤ M) : OwnDeed2 w g n k M f := by
  obtain ⟨F, G0, G1, hr, ha, hb, hF⟩ := h
  exact ⟨F, G0, G1, hr, ha, fun i hi => ⟨Nat.lt_of_lt_of_le (hb i hi).1 hN, Nat.lt_of_lt_of_le (hb i hi).2 hN⟩, hF⟩
theorem OwnDeed2.old {w : World} {g n k N : Nat} {f : Nat → Deed} (h : OwnDeed2 w g n k N f) : OwnDeed w g n k f := by
  obtain ⟨F, G0, G1, hr, ha, hN, hF⟩ := h
  refine ⟨F, G0, G1, hr, fun i hi => ?_⟩
  obtain ⟨p0, p1, p2, p3, ⟨s0, r0, u0⟩, ⟨s1, r1, u1⟩⟩ := hF i hi
  exact ⟨p0, p1, p2, p3, ⟨s0, r0.row, u0⟩, ⟨s1, r1.row, u1⟩⟩


set_option maxHeartbeats 2000000 in
theorem toDeedS_rowO (b off n cap : Nat) (f : Nat → Deed) (w : World) (hn : n ≤ 1048576) (hf : RowDeed w b off n f) (hm : ∀ i, i < n → FitsDeed (f i)) :
    Calls Tryd.prog 32 #[.slice (some ⟨b, off, none⟩) n cap] w fun e w' => ∃ g, e = .returned (.slice (some ⟨g, 0, none⟩) n n) ∧ OwnDeed2 w' g n n w'.heap.size f ∧ w.heap.size ≤ g ∧ Below w.heap.size w w' := by
  have HF := hide hf
  have HM := hide hm
  clear hf hm
  have hmk := mkDeed n hn
  go_enter Tryd.func32, Tryd.ntmps32
  go_wp2
  clear hmk
  go_loopw [4] (fun i wr => ∃ k : Nat, k ≤ n ∧ i = .int .i64 k ∧ OwnDeed2 wr w.heap.size n k wr.heap.size f ∧ Below w.heap.size w wr) (fun i _ => n - (intOf i).toNat)
  case atStart => exact ⟨0, by omega, rfl, ownDeed2_start w n _ f, (Below.refl _ _).alloc (Nat.le_refl _) _⟩
  case round =>
    obtain ⟨k, hk, rfl, hO, hB⟩ := hrel
    have HO := hide hO
    have HB := hide hB
    have hsz : w.heap.size ≤ wr.heap.size := hB.size
    have hlo : w.heap.size < wr.heap.size := hO.lt
    clear hB
    by_cases hlt : k < n
    · obtain ⟨p0, p1, p2, p3, ⟨a0, cap0, s0, r0⟩, ⟨a1, cap1, s1, r1⟩⟩ := (HF.out.2 k hlt).below HB.out (Nat.le_refl _) HF.out.1
      have HR := hide (show SlIns wr a0 (f k).actN (f k).act ∧ SlLink wr a1 (f k).linksN (f k).links from ⟨r0, r1⟩)
      clear hO r0 r1
      go_wp2_with fail
      refine (toDeed_anyO (f k) a0 cap0 a1 cap1 _ (HM.out k hlt) HR.out.1 HR.out.2).mono ?_
      rintro e w1 ⟨g0, g1, rfl, hR0, hg0, hR1, hg1, hB1⟩
      have HO1 := hide (HO.out.below hB1 (Nat.le_refl _))
      have R0 := hide hR0
      have R1 := hide hR1
      have HB1 := hide (HB.out.trans (hB1.mono hsz))
      have hz1 := hide hB1.size
      clear hB1 hR0 hR1
      have hl0 := R0.out.lt
      have hl1 := R1.out.lt
      have hzz := hz1.out
      have ST := hide (HO1.out.step R0.out (by omega) R1.out (by omega) hg0 hg1 (M := ((((((w1.setCell ⟨w.heap.size, k * 6, none⟩ (.string (f k).name)).setCell ⟨w.heap.size, k * 6 + 1, none⟩ (.int .i64 (f k).kind)).setCell ⟨w.heap.size, k * 6 + 2, none⟩ (.int .i64 (f k).code)).setCell ⟨w.heap.size, k * 6 + 3, none⟩ (.string (f k).text)).setCell ⟨w.heap.size, k * 6 + 4, none⟩ (.slice (some ⟨g0, 0, none⟩) (f k).actN (f k).actN)).setCell ⟨w.heap.size, k * 6 + 5, none⟩ (.slice (some ⟨g1, 0, none⟩) (f k).linksN (f k).linksN)).heap.size) (by simp; omega) (by simp; omega))
      clear hzz hl0 hl1
      obtain ⟨F, G0, G1, hr, _⟩ := HO1.out
      have d0 := hr.cell (i := k * 6) (by omega)
      have z0 := hr.frozen (k * 6)
      have d1 := hr.cell (i := k * 6 + 1) (by omega)
      have z1 := hr.frozen (k * 6 + 1)
      have d2 := hr.cell (i := k * 6 + 2) (by omega)
      have z2 := hr.frozen (k * 6 + 2)
      have d3 := hr.cell (i := k * 6 + 3) (by omega)
      have z3 := hr.frozen (k * 6 + 3)
      have d4 := hr.cell (i := k * 6 + 4) (by omega)
      have z4 := hr.frozen (k * 6 + 4)
      have d5 := hr.cell (i := k * 6 + 5) (by omega)
      have z5 := hr.frozen (k * 6 + 5)
      clear hr p0 p1 p2 p3 s0 s1
      go_wp2
      exact ⟨⟨k + 1, by omega, by go_num, ST.out, ((((((HB1.out).setCell (Nat.le_refl _) _).setCell (Nat.le_refl _) _).setCell (Nat.le_refl _) _).setCell (Nat.le_refl _) _).setCell (Nat.le_refl _) _).setCell (Nat.le_refl _) _⟩, by simp [intOf]; omega⟩
    · have e : k = n := by omega
      subst e
      clear hO
      go_wp2
      go_ret
      exact ⟨_, rfl, HO.out, Nat.le_refl _, HB.out⟩

set_option maxHeartbeats 1000000 in
theorem toDeedS_nilO (a : Option Addr) (cap : Nat) (f : Nat → Deed) (w : World) :
    Calls Tryd.prog 32 #[.slice a 0 cap] w fun e w' => ∃ g, e = .returned (.slice (some ⟨g, 0, none⟩) 0 0) ∧ OwnDeed2 w' g 0 0 w'.heap.size f ∧ w.heap.size ≤ g ∧ Below w.heap.size w w' := by
  have hmk : ∀ w : World, (Instr.makeSlice 28 (.int .i64 0) (.int .i64 0)).run Tryd.prog w = .ok (.slice (some ⟨w.heap.size, 0, none⟩) 0 0) (w.alloc (.cells (zerosDeed 0) 58)) := fun w => mkDeed 0 (by omega) w
  go_enter Tryd.func32, Tryd.ntmps32
  go_wp2
  clear hmk
  go_loop [4] (fun i => i = .int .i64 0) (fun _ => 0)
  case atStart => rfl
  case round =>
    subst hrel
    go_wp2
    go_ret
    exact ⟨_, rfl, ownDeed2_start w 0 _ f, Nat.le_refl _, (Below.refl _ _).alloc (Nat.le_refl _) _⟩

theorem toDeedS_anyO (a : Option Addr) (n cap : Nat) (f : Nat → Deed) (w : World) (hn : n ≤ 1048576) (hv : SlDeed w a n f) (hm : ∀ i, i < n → FitsDeed (f i)) :
    Calls Tryd.prog 32 #[.slice a n cap] w fun e w' => ∃ g, e = .returned (.slice (some ⟨g, 0, none⟩) n n) ∧ OwnDeed2 w' g n n w'.heap.size f ∧ w.heap.size ≤ g ∧ Below w.heap.size w w' := by
  rcases hv with rfl | ⟨b, off, rfl, hr⟩
  · exact toDeedS_nilO a cap f w
  · exact toDeedS_rowO b off n cap f w hn hr hm

set_option maxHeartbeats 1000000 in
theorem toAccount_anyO (a : Option Addr) (n cap : Nat) (f : Nat → Deed) (w : World) (hn : n ≤ 1048576) (hv : SlDeed w a n f) (hm : ∀ i, i < n → FitsDeed (f i)) :
    Calls Tryd.prog 9 #[.agg #[.slice a n cap]] w fun e w' => ∃ g, e = .returned (.agg #[.slice (some ⟨g, 0, none⟩) n n]) ∧ OwnDeed2 w' g n n w'.heap.size f ∧ w.heap.size ≤ g ∧ Below w.heap.size w w' := by
  have HV := hide hv
  clear hv
  go_enter Tryd.func9, Tryd.ntmps9
  go_wp2_with fail
  refine (toDeedS_anyO a n cap f _ hn (HV.out.below ((((Below.refl _ _).alloc (Nat.le_refl _) _).alloc (by simp) _).alloc (by simp; omega) _) (Nat.le_refl _)) hm).mono ?_
  rintro e w' ⟨g, rfl, hv', hg, hB⟩
  have HV' := hide hv'
  have HB := hide hB
  obtain ⟨hc, hz⟩ := bcell hB
  clear hv' hB
  simp at hg
  go_wp2
  refine bodyPost_ret (v := .agg #[.slice (some ⟨g, 0, none⟩) n n]) (by simp [results, Tryd.results9, go_sem, hc]) rfl ⟨g, rfl, ((HV'.out.setOther _ (by simp; omega) _).setOther _ (by simp; omega) _).up (by simp), by omega, ?_⟩
  exact ((((((Below.refl _ _).alloc (Nat.le_refl _) _).alloc (by simp) _).alloc (by simp; omega) _).trans (HB.out.mono (by simp; omega))).setCell (by simp; omega) _).setCell (by simp) _

end Go.Proofs.YtkgddbcjmejfaaaDoor.Vp

/-
  Marks of Ins. Written by tools/mark2.py.
-/
namespace Go.Proofs.YtkgddbcjmejfaaaDoor.Vp
open Go.RowKit

/-- What cell j of a marked row holds. -/
def markIns (k0 : Nat) (j : Nat) : Value := if j % 3 = 0 then .int .i64 ((k0 : Int) + j) else if j % 3 = 1 then .string (mkT ((k0 : Int) + j)) else .int .i64 ((k0 : Int) + j)
theorem markIns_0 {k0 k q : Nat} (h : q = k0 + k * 3) : markIns k0 (k * 3) = .int .i64 ((q : Int)) := by
  have e : (k0 : Int) + ((k * 3 : Nat) : Int) = (q : Int) := by omega
  unfold markIns
  rw [if_pos (by omega), e]
theorem markIns_1 {k0 k q : Nat} (h : q = k0 + k * 3) : markIns k0 (k * 3 + 1) = .string (mkT ((q : Int) + 1)) := by
  have e : (k0 : Int) + ((k * 3 + 1 : Nat) : Int) = (q : Int) + 1 := by omega
  unfold markIns
  rw [if_neg (by omega), if_pos (by omega), e]
theorem markIns_2 {k0 k q : Nat} (h : q = k0 + k * 3) : markIns k0 (k * 3 + 2) = .int .i64 ((q : Int) + 1 + 1) := by
  have e : (k0 : Int) + ((k * 3 + 2 : Nat) : Int) = (q : Int) + 1 + 1 := by omega
  unfold markIns
  rw [if_neg (by omega), if_neg (by omega), e]

set_option maxRecDepth 100000 in
set_option maxHeartbeats 4000000 in
theorem markInsS_row (b off n cap k0 : Nat) (F : Nat → Value) (w : World) (hn : (n : Int) ≤ 1048576) (h1 : 1 ≤ (k0 : Int)) (h2 : (k0 : Int) ≤ 1152921504606846976) (hC : Cells w b off (n * 3) F) :
    Calls Tryd.prog 50 #[.slice (some ⟨b, off, none⟩) n cap, .int .i64 k0] w fun e w' => e = .returned (.int .i64 ((k0 + n * 3 : Nat) : Int)) ∧ Cells w' b off (n * 3) (markIns k0) ∧ Within b (b + 1) w w' := by
  have HC := hide hC
  clear hC
  go_enter Tryd.func50, Tryd.ntmps50
  go_wp2
  go_loopw [1, 5] (fun v i wr => ∃ (k q : Nat) (F : Nat → Value), k ≤ n ∧ Hid (q = k0 + k * 3) ∧ i = .int .i64 k ∧ v = .int .i64 q ∧ Hid (Cells wr b off (n * 3) F) ∧ Hid (∀ j, j < k * 3 → F j = markIns k0 j) ∧ Hid (Within b (b + 1) w wr)) (fun _ i _ => n - (intOf i).toNat)
  case atStart => exact ⟨0, k0, F, by omega, by show k0 = _; omega, rfl, rfl, HC.out, fun j hj => by omega, Within.refl _ _ _⟩
  case round =>
    obtain ⟨k, q, F, hk, HQ, rfl, rfl, HC0, HM, HW0⟩ := hrel
    have hq1 : 1 ≤ (q : Int) := by have := HQ.out; omega
    have hq2 : (q : Int) ≤ 1152921504610000000 := by have := HQ.out; omega
    by_cases hlt : k < n
    · have hkk : k * 3 + 3 ≤ n * 3 := by omega
      obtain ⟨c0, z0⟩ := HC0.out.at (off + k * 3) (k * 3) (by omega) (by omega)
      obtain ⟨c1, z1⟩ := HC0.out.at (off + k * 3 + 1) (k * 3 + 1) (by omega) (by omega)
      obtain ⟨c2, z2⟩ := HC0.out.at (off + k * 3 + 2) (k * 3 + 2) (by omega) (by omega)
      have HS0 := hide (HC0.out.setAt (off + k * 3) (k * 3) (by omega) (by omega) (.int .i64 ((q : Int))))
      have HX0 := hide (HW0.out.setCell (p := ⟨b, off + k * 3, none⟩) (Nat.le_refl _) (Nat.lt_succ_self _) (.int .i64 ((q : Int))))
      go_wp2_with fail
      clear c0 z0 c1 z1 c2 z2
      generalize (wr.setCell ⟨b, off + k * 3, none⟩ (.int .i64 ((q : Int)))) = v1 at HS0 HX0 ⊢
      refine (markText_int ((q : Int) + 1) _ (by omega) (by omega)).mono ?_
      rintro e w1 ⟨rfl, hB⟩
      have HC1 := hide (HS0.out.below hB HS0.out.1)
      have HW1 := hide (HX0.out.below hB (Nat.le_refl _))
      clear hB 
      obtain ⟨c1, z1⟩ := HC1.out.at (off + k * 3 + 1) (k * 3 + 1) (by omega) (by omega)
      obtain ⟨c2, z2⟩ := HC1.out.at (off + k * 3 + 2) (k * 3 + 2) (by omega) (by omega)
      have HS1 := hide (HC1.out.setAt (off + k * 3 + 1) (k * 3 + 1) (by omega) (by omega) (.string (mkT ((q : Int) + 1))))
      have HX1 := hide (HW1.out.setCell (p := ⟨b, off + k * 3 + 1, none⟩) (Nat.le_refl _) (Nat.lt_succ_self _) (.string (mkT ((q : Int) + 1))))
      have HS2 := hide (HS1.out.setAt (off + k * 3 + 2) (k * 3 + 2) (by omega) (by omega) (.int .i64 ((q : Int) + 2)))
      have HX2 := hide (HX1.out.setCell (p := ⟨b, off + k * 3 + 2, none⟩) (Nat.le_refl _) (Nat.lt_succ_self _) (.int .i64 ((q : Int) + 2)))
      go_wp2
      refine ⟨⟨k + 1, q + 3, _, by omega, by show q + 3 = k0 + (k + 1) * 3; have := HQ.out; omega, by go_num, by go_num, HS2.out, ?_, HX2.out⟩, by simp [intOf]; omega⟩
      intro j hj
      rcases (show j < k * 3 ∨ j = k * 3 ∨ j = k * 3 + 1 ∨ j = k * 3 + 2 by omega) with h | rfl | rfl | rfl
      · rw [if_neg (by omega), if_neg (by omega), if_neg (by omega), HM.out j h]
      · rw [if_neg (by omega), if_neg (by omega), if_pos rfl, markIns_0 HQ.out]
      · rw [if_neg (by omega), if_pos rfl, markIns_1 HQ.out]
      · rw [if_pos rfl, markIns_2 HQ.out]
        rw [show (q : Int) + 2 = (q : Int) + 1 + 1 by omega]
    · have e : k = n := by omega
      subst e
      have hv : (q : Int) = ((k0 + k * 3 : Nat) : Int) := by rw [HQ.out]
      have HV := hide hv
      clear hv
      go_wp2
      go_ret
      exact ⟨by show Ending.returned (.int .i64 (q : Int)) = _; rw [HV.out], HC0.out.congr HM.out, HW0.out⟩

set_option maxHeartbeats 1000000 in
theorem markInsS_nil (a : Option Addr) (cap k0 : Nat) (w : World) : Calls Tryd.prog 50 #[.slice a 0 cap, .int .i64 k0] w fun e w' => e = .returned (.int .i64 (k0 : Int)) ∧ w' = w := by
  go_enter Tryd.func50, Tryd.ntmps50
  go_wp2
  go_loop [1, 5] (fun v i => v = .int .i64 k0 ∧ i = .int .i64 0) (fun _ _ => 0)
  case atStart => exact ⟨rfl, rfl⟩
  case round =>
    obtain ⟨rfl, rfl⟩ := hrel
    go_wp2
    go_ret
    exact ⟨rfl, rfl⟩

end Go.Proofs.YtkgddbcjmejfaaaDoor.Vp

/-
  Marks of links.
-/
namespace Go.Proofs.YtkgddbcjmejfaaaDoor.Vp
open Go.RowKit

/-- What cell j of a marked row holds. -/
def markLink (k0 : Nat) (j : Nat) : Value := if j % 4 = 0 then .string (mkT ((k0 : Int) + j)) else if j % 4 = 3 then .int .i64 ((k0 : Int) + j) else .bool (decide (((k0 : Int) + j) % 3 = 0))
theorem markLink_0 {k0 k q : Nat} (h : q = k0 + k * 4) : markLink k0 (k * 4) = .string (mkT (q : Int)) := by
  have e : (k0 : Int) + ((k * 4 : Nat) : Int) = (q : Int) := by omega
  unfold markLink
  rw [if_pos (by omega), e]
theorem markLink_1 {k0 k q : Nat} (h : q = k0 + k * 4) : markLink k0 (k * 4 + 1) = .bool (decide (((q : Int) + 1) % 3 = 0)) := by
  have e : (k0 : Int) + ((k * 4 + 1 : Nat) : Int) = (q : Int) + 1 := by omega
  unfold markLink
  rw [if_neg (by omega), if_neg (by omega), e]
theorem markLink_2 {k0 k q : Nat} (h : q = k0 + k * 4) : markLink k0 (k * 4 + 2) = .bool (decide (((q : Int) + 2) % 3 = 0)) := by
  have e : (k0 : Int) + ((k * 4 + 2 : Nat) : Int) = (q : Int) + 2 := by omega
  unfold markLink
  rw [if_neg (by omega), if_neg (by omega), e]
theorem markLink_3 {k0 k q : Nat} (h : q = k0 + k * 4) : markLink k0 (k * 4 + 3) = .int .i64 ((q : Int) + 3) := by
  have e : (k0 : Int) + ((k * 4 + 3 : Nat) : Int) = (q : Int) + 3 := by omega
  unfold markLink
  rw [if_neg (by omega), if_pos (by omega), e]

set_option maxRecDepth 100000 in
set_option maxHeartbeats 4000000 in
theorem markLinkS_row (b off n cap k0 : Nat) (F : Nat → Value) (w : World) (hn : (n : Int) ≤ 1048576) (h1 : 1 ≤ (k0 : Int)) (h2 : (k0 : Int) ≤ 1152921504606846976) (hC : Cells w b off (n * 4) F) :
    Calls Tryd.prog 51 #[.slice (some ⟨b, off, none⟩) n cap, .int .i64 k0] w fun e w' => e = .returned (.int .i64 ((k0 + n * 4 : Nat) : Int)) ∧ Cells w' b off (n * 4) (markLink k0) ∧ Within b (b + 1) w w' := by
  have HC := hide hC
  clear hC
  go_enter Tryd.func51, Tryd.ntmps51
  go_wp2
  go_loopw [1, 5] (fun v i wr => ∃ (k q : Nat) (F : Nat → Value), k ≤ n ∧ Hid (q = k0 + k * 4) ∧ i = .int .i64 k ∧ v = .int .i64 q ∧ Hid (Cells wr b off (n * 4) F) ∧ Hid (∀ j, j < k * 4 → F j = markLink k0 j) ∧ Hid (Within b (b + 1) w wr)) (fun _ i _ => n - (intOf i).toNat)
  case atStart => exact ⟨0, k0, F, by omega, by show k0 = _; omega, rfl, rfl, HC.out, fun j hj => by omega, Within.refl _ _ _⟩
  case round =>
    obtain ⟨k, q, F, hk, HQ, rfl, rfl, HC0, HM, HW0⟩ := hrel
    have hq1 : 1 ≤ (q : Int) := by have := HQ.out; omega
    have hq2 : (q : Int) ≤ 1152921504620000000 := by have := HQ.out; omega
    by_cases hlt : k < n
    · have hkk : k * 4 + 4 ≤ n * 4 := by omega
      go_wp2_with fail
      refine (markText_int (q : Int) _ (by omega) (by omega)).mono ?_
      rintro e w1 ⟨rfl, hB⟩
      have HC1 := hide (HC0.out.below hB HC0.out.1)
      have HW1 := hide (HW0.out.below hB (Nat.le_refl _))
      clear hB
      obtain ⟨c0, z0⟩ := HC1.out.at (off + k * 4) (k * 4) (by omega) (by omega)
      obtain ⟨c1, z1⟩ := HC1.out.at (off + k * 4 + 1) (k * 4 + 1) (by omega) (by omega)
      obtain ⟨c2, z2⟩ := HC1.out.at (off + k * 4 + 2) (k * 4 + 2) (by omega) (by omega)
      obtain ⟨c3, z3⟩ := HC1.out.at (off + k * 4 + 3) (k * 4 + 3) (by omega) (by omega)
      go_wp2
      refine ⟨⟨k + 1, q + 4, _, by omega, by show q + 4 = k0 + (k + 1) * 4; have := HQ.out; omega, by go_num, by go_num, (((HC1.out.setAt (off + k * 4) (k * 4) (by omega) (by omega) _).setAt (off + k * 4 + 1) (k * 4 + 1) (by omega) (by omega) _).setAt (off + k * 4 + 2) (k * 4 + 2) (by omega) (by omega) _).setAt (off + k * 4 + 3) (k * 4 + 3) (by omega) (by omega) _, ?_, (((HW1.out.setCell (p := ⟨b, off + k * 4, none⟩) (Nat.le_refl _) (Nat.lt_succ_self _) _).setCell (p := ⟨b, off + k * 4 + 1, none⟩) (Nat.le_refl _) (Nat.lt_succ_self _) _).setCell (p := ⟨b, off + k * 4 + 2, none⟩) (Nat.le_refl _) (Nat.lt_succ_self _) _).setCell (p := ⟨b, off + k * 4 + 3, none⟩) (Nat.le_refl _) (Nat.lt_succ_self _) _⟩, by simp [intOf]; omega⟩
      intro j hj
      rcases (show j < k * 4 ∨ j = k * 4 ∨ j = k * 4 + 1 ∨ j = k * 4 + 2 ∨ j = k * 4 + 3 by omega) with h | rfl | rfl | rfl | rfl
      · rw [if_neg (by omega), if_neg (by omega), if_neg (by omega), if_neg (by omega), HM.out j h]
      · rw [if_neg (by omega), if_neg (by omega), if_neg (by omega), if_pos rfl, markLink_0 HQ.out]
      · rw [if_neg (by omega), if_neg (by omega), if_pos rfl, markLink_1 HQ.out]
        rfl
      · rw [if_neg (by omega), if_pos rfl, markLink_2 HQ.out]
        rfl
      · rw [if_pos rfl, markLink_3 HQ.out, show (q : Int) + 1 + 1 + 1 = (q : Int) + 3 by omega]
    · have e : k = n := by omega
      subst e
      have hv : (q : Int) = ((k0 + k * 4 : Nat) : Int) := by rw [HQ.out]
      have HV := hide hv
      clear hv
      go_wp2
      go_ret
      exact ⟨by show Ending.returned (.int .i64 (q : Int)) = _; rw [HV.out], HC0.out.congr HM.out, HW0.out⟩

set_option maxHeartbeats 1000000 in
theorem markLinkS_nil (a : Option Addr) (cap k0 : Nat) (w : World) : Calls Tryd.prog 51 #[.slice a 0 cap, .int .i64 k0] w fun e w' => e = .returned (.int .i64 (k0 : Int)) ∧ w' = w := by
  go_enter Tryd.func51, Tryd.ntmps51
  go_wp2
  go_loop [1, 5] (fun v i => v = .int .i64 k0 ∧ i = .int .i64 0) (fun _ _ => 0)
  case atStart => exact ⟨rfl, rfl⟩
  case round =>
    obtain ⟨rfl, rfl⟩ := hrel
    go_wp2
    go_ret
    exact ⟨rfl, rfl⟩

end Go.Proofs.YtkgddbcjmejfaaaDoor.Vp
