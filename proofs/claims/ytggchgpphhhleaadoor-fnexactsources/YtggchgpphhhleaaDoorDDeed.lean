/-
  Data: Deed: sizes, copies, comparisons; its cells hold slices. Written by tools/nest.py.
-/
import Derived.Test.YtggchgpphhhleaaDoorDIns
import Derived.Test.YtggchgpphhhleaaDoorDLink
import Derived.Test.YtggchgpphhhleaaDoorDProgram
namespace Go.Proofs.YtggchgpphhhleaaDoor.Vp
open Go.RowKit

structure Deed where
  name : ByteArray
  kind : Int
  code : Int
  text : ByteArray
  actN : Nat
  act : Nat → Ins
  linksN : Nat
  links : Nat → Link
/-- What each reading gives: no text is too long for an int, no slice. -/
def SizedDeed (x : Deed) : Prop := x.name.size ≤ maxLen ∧ x.text.size ≤ maxLen ∧ ((x.actN : Int) ≤ 9223372036854775807 ∧ ∀ j, j < x.actN → (x.act j).s.size ≤ maxLen) ∧ ((x.linksN : Int) ≤ 9223372036854775807 ∧ ∀ j, j < x.linksN → (x.links j).name.size ≤ maxLen)
/-- No slice is longer than what the law lets in. -/
def FitsDeed (x : Deed) : Prop := x.actN ≤ 1048576 ∧ x.linksN ≤ 1048576

/-- The cells of element i of a row that begins at off in block b. -/
def AtDeed (w : World) (b off i : Nat) (x : Deed) : Prop :=
  w.cell? ⟨b, off + i * 6, none⟩ = some (.string x.name) ∧ w.cell? ⟨b, off + i * 6 + 1, none⟩ = some (.int .i64 x.kind) ∧ w.cell? ⟨b, off + i * 6 + 2, none⟩ = some (.int .i64 x.code) ∧ w.cell? ⟨b, off + i * 6 + 3, none⟩ = some (.string x.text) ∧ (∃ a cap, w.cell? ⟨b, off + i * 6 + 4, none⟩ = some (.slice a x.actN cap) ∧ SlIns w a x.actN x.act) ∧ (∃ a cap, w.cell? ⟨b, off + i * 6 + 5, none⟩ = some (.slice a x.linksN cap) ∧ SlLink w a x.linksN x.links)
theorem AtDeed.below {w w' : World} {B b off i : Nat} {x : Deed} (h : AtDeed w b off i x) (hb : Below B w w') (hB : w.heap.size ≤ B) (hl : b < w.heap.size) : AtDeed w' b off i x := by
  obtain ⟨p0, p1, p2, p3, ⟨a0, cap0, s0, r0⟩, ⟨a1, cap1, s1, r1⟩⟩ := h
  refine ⟨(hb.cell (p := ⟨b, _, none⟩) (Nat.lt_of_lt_of_le hl hB)).trans p0, (hb.cell (p := ⟨b, _, none⟩) (Nat.lt_of_lt_of_le hl hB)).trans p1, (hb.cell (p := ⟨b, _, none⟩) (Nat.lt_of_lt_of_le hl hB)).trans p2, (hb.cell (p := ⟨b, _, none⟩) (Nat.lt_of_lt_of_le hl hB)).trans p3, ⟨a0, cap0, (hb.cell (p := ⟨b, _, none⟩) (Nat.lt_of_lt_of_le hl hB)).trans s0, r0.below hb hB⟩, ⟨a1, cap1, (hb.cell (p := ⟨b, _, none⟩) (Nat.lt_of_lt_of_le hl hB)).trans s1, r1.below hb hB⟩⟩
def RowDeed (w : World) (b off n : Nat) (f : Nat → Deed) : Prop := b < w.heap.size ∧ ∀ i, i < n → AtDeed w b off i (f i)
theorem RowDeed.below {w w' : World} {B b off n : Nat} {f : Nat → Deed} (h : RowDeed w b off n f) (hb : Below B w w') (hB : w.heap.size ≤ B) : RowDeed w' b off n f :=
  ⟨Nat.lt_of_lt_of_le h.1 hb.size, fun i hi => (h.2 i hi).below hb hB h.1⟩
def SlDeed (w : World) (a : Option Addr) (n : Nat) (f : Nat → Deed) : Prop := n = 0 ∨ ∃ b off, a = some ⟨b, off, none⟩ ∧ RowDeed w b off n f
theorem SlDeed.below {w w' : World} {B : Nat} {a : Option Addr} {n : Nat} {f : Nat → Deed} (h : SlDeed w a n f) (hb : Below B w w') (hB : w.heap.size ≤ B) : SlDeed w' a n f := by
  rcases h with h | ⟨b, off, hv, hr⟩
  · exact .inl h
  · exact .inr ⟨b, off, hv, hr.below hb hB⟩
theorem RowDeed.sl {w : World} {b off n : Nat} {f : Nat → Deed} (h : RowDeed w b off n f) : SlDeed w (some ⟨b, off, none⟩) n f := .inr ⟨b, off, rfl, h⟩

set_option maxHeartbeats 1000000 in
theorem szDeed_any (x : Deed) (a0 : Option Addr) (cap0 : Nat) (a1 : Option Addr) (cap1 : Nat) (left : Int) (w : World) (hz : SizedDeed x) (hv0 : SlIns w a0 x.actN x.act) (hv1 : SlLink w a1 x.linksN x.links) (l0 : 0 ≤ left) (l1 : left ≤ 1048576) :
    Calls Tryd.prog 52 #[.agg #[.string x.name, .int .i64 x.kind, .int .i64 x.code, .string x.text, .slice a0 x.actN cap0, .slice a1 x.linksN cap1], .int .i64 left] w fun e w' => ∃ r : Int, e = .returned (.int .i64 r) ∧ -1 ≤ r ∧ r ≤ left ∧ (0 ≤ r → FitsDeed x) ∧ Below w.heap.size w w' := by
  have V0 := hide hv0
  have V1 := hide hv1
  clear hv0 hv1
  have zname := hz.1
  have ztext := hz.2.1
  unfold maxLen at zname ztext
  have Sz := hide hz
  clear hz
  have B0 := hide ((Below.refl w.heap.size w).alloc (Nat.le_refl _) (.cells #[.string x.name, .int .i64 x.kind, .int .i64 x.code, .string x.text, .slice a0 x.actN cap0, .slice a1 x.linksN cap1] 89))
  go_enter Tryd.func52, Tryd.ntmps52
  go_wp2_with (first | (go_at_call 67; refine (szProgram_any a0 x.actN cap0 x.act _ _ ?_ ?_ (Sz.out.2.2).1.1 ?_ (Sz.out.2.2).1.2).mono ?_; omega; omega; exact V0.out.below B0.out (Nat.le_refl _); rintro e w1 ⟨r0, rfl, l0, m0, n0, hB0⟩; have B1 := hide (B0.out.trans (hB0.mono B0.out.size)); have bc0 := (bcell hB0).1; clear hB0) | (go_at_call 68; refine (szLinkS_any a1 x.linksN cap1 x.links _ _ ?_ ?_ (Sz.out.2.2).2.1 ?_ (Sz.out.2.2).2.2).mono ?_; omega; omega; exact V1.out.below B1.out (Nat.le_refl _); rintro e w2 ⟨r1, rfl, l1, m1, n1, hB1⟩; have B2 := hide (B1.out.trans (hB1.mono B1.out.size)); have bc1 := (bcell hB1).1; clear hB1))
  all_goals go_ret
  all_goals first
    | exact ⟨-1, rfl, by omega, by omega, fun _ => by omega, by first | exact B2.out | exact B1.out | exact B0.out⟩
    | exact ⟨_, rfl, by omega, by omega, fun _ => ⟨by have := n0 (by omega); omega, by have := n1 (by omega); omega⟩, B2.out⟩

set_option maxHeartbeats 400000 in
theorem szDeedS_big (a : Option Addr) (n cap : Nat) (left : Int) (w : World) (h0 : 0 ≤ left) (h1 : left ≤ 1048576) (hn : (n : Int) ≤ 9223372036854775807) (h : left < (n : Int)) :
    Calls Tryd.prog 32 #[.slice a n cap, .int .i64 left] w fun e w' => e = .returned (.int .i64 (-1)) ∧ w' = w := by
  go_enter Tryd.func32, Tryd.ntmps32
  go_wp2
  go_ret
  exact ⟨rfl, rfl⟩

set_option maxHeartbeats 1000000 in
theorem szDeedS_row (b off n cap : Nat) (f : Nat → Deed) (left : Int) (w : World) (h0 : (n : Int) ≤ left) (h1 : left ≤ 1048576) (hf : RowDeed w b off n f) (hs : ∀ i, i < n → SizedDeed (f i)) :
    Calls Tryd.prog 32 #[.slice (some ⟨b, off, none⟩) n cap, .int .i64 left] w fun e w' => ∃ r : Int, e = .returned (.int .i64 r) ∧ -1 ≤ r ∧ r ≤ left ∧ (0 ≤ r → ∀ i, i < n → FitsDeed (f i)) ∧ Below w.heap.size w w' := by
  have HF := hide hf
  have HS := hide hs
  clear hf hs
  go_enter Tryd.func32, Tryd.ntmps32
  go_wp2
  go_loopw [1, 5] (fun l i wr => ∃ k : Nat, ∃ r : Int, k ≤ n ∧ 0 ≤ r ∧ r ≤ left ∧ i = .int .i64 k ∧ l = .int .i64 r ∧ Hid (∀ i, i < k → FitsDeed (f i)) ∧ Below w.heap.size w wr) (fun _ i _ => n - (intOf i).toNat)
  case atStart => exact ⟨0, left - n, by omega, by omega, by omega, rfl, rfl, fun i hi => absurd hi (Nat.not_lt_zero _), Below.refl _ _⟩
  case round =>
    obtain ⟨k, r, hk, hr0, hr1, rfl, rfl, hfit, hB⟩ := hrel
    have HB := hide hB
    have hsz : w.heap.size ≤ wr.heap.size := hB.size
    clear hB
    by_cases hlt : k < n
    · obtain ⟨p0, p1, p2, p3, ⟨a0, cap0, s0, r0⟩, ⟨a1, cap1, s1, r1⟩⟩ := (HF.out.2 k hlt).below HB.out (Nat.le_refl _) HF.out.1
      have HR := hide (show SlIns wr a0 (f k).actN (f k).act ∧ SlLink wr a1 (f k).linksN (f k).links from ⟨r0, r1⟩)
      clear r0 r1
      go_wp2_with fail
      refine (szDeed_any (f k) a0 cap0 a1 cap1 _ _ (HS.out k hlt) HR.out.1 HR.out.2 (by omega) (by omega)).mono ?_
      rintro e w' ⟨r', rfl, hr2, hr3, hr4, hB'⟩
      have HR4 := hide hr4
      have HB' := hide (HB.out.trans (hB'.mono hsz))
      clear hr4 hB'
      go_wp2
      · go_ret
        exact ⟨-1, rfl, by omega, by omega, fun _ => by omega, HB'.out⟩
      · exact ⟨⟨k + 1, r', by omega, by omega, by omega, by go_num, rfl, fun i hi => by
          by_cases e : i = k
          · subst e; exact HR4.out (by omega)
          · exact hfit i (by omega), HB'.out⟩, by simp [intOf]; omega⟩
    · have e : k = n := by omega
      subst e
      go_wp2
      go_ret
      exact ⟨r, rfl, by omega, by omega, fun _ => hfit, HB.out⟩

set_option maxHeartbeats 400000 in
theorem szDeedS_nil (a : Option Addr) (cap : Nat) (left : Int) (w : World) (h0 : 0 ≤ left) (h1 : left ≤ 1048576) :
    Calls Tryd.prog 32 #[.slice a 0 cap, .int .i64 left] w fun e w' => e = .returned (.int .i64 left) ∧ w' = w := by
  go_enter Tryd.func32, Tryd.ntmps32
  go_wp2
  go_loop [1, 5] (fun l i => l = .int .i64 left ∧ i = .int .i64 0) (fun _ _ => 0)
  case atStart => exact ⟨by simp, rfl⟩
  case round =>
    obtain ⟨rfl, rfl⟩ := hrel
    go_wp2
    go_ret
    exact ⟨rfl, rfl⟩

theorem szDeedS_any (a : Option Addr) (n cap : Nat) (f : Nat → Deed) (left : Int) (w : World) (h0 : 0 ≤ left) (h1 : left ≤ 1048576) (hn : (n : Int) ≤ 9223372036854775807) (hv : SlDeed w a n f) (hs : ∀ i, i < n → SizedDeed (f i)) :
    Calls Tryd.prog 32 #[.slice a n cap, .int .i64 left] w fun e w' => ∃ r : Int, e = .returned (.int .i64 r) ∧ -1 ≤ r ∧ r ≤ left ∧ (0 ≤ r → (n : Int) ≤ left ∧ ∀ i, i < n → FitsDeed (f i)) ∧ Below w.heap.size w w' := by
  rcases hv with rfl | ⟨b, off, rfl, hr⟩
  · exact (szDeedS_nil a cap left w h0 h1).mono fun e w' ⟨a, b⟩ => ⟨_, a, by omega, by omega, fun _ => ⟨by omega, fun i hi => absurd hi (Nat.not_lt_zero _)⟩, by rw [b]; exact Below.refl _ _⟩
  · by_cases h : (n : Int) ≤ left
    · exact (szDeedS_row b off n cap f left w h h1 hr hs).mono fun e w' ⟨r, a, b, c, d, e⟩ => ⟨r, a, b, c, fun g => ⟨h, d g⟩, e⟩
    · exact (szDeedS_big _ n cap left w h0 h1 hn (by omega)).mono fun e w' ⟨a, b⟩ => ⟨_, a, by omega, by omega, fun _ => by omega, by rw [b]; exact Below.refl _ _⟩

set_option maxHeartbeats 2000000 in
theorem toDeed_any (x : Deed) (a0 : Option Addr) (cap0 : Nat) (a1 : Option Addr) (cap1 : Nat) (w : World) (hfit : FitsDeed x) (hv0 : SlIns w a0 x.actN x.act) (hv1 : SlLink w a1 x.linksN x.links) :
    Calls Tryd.prog 57 #[.agg #[.string x.name, .int .i64 x.kind, .int .i64 x.code, .string x.text, .slice a0 x.actN cap0, .slice a1 x.linksN cap1]] w fun e w' => ∃ g0 g1, e = .returned (.agg #[.string x.name, .int .i64 x.kind, .int .i64 x.code, .string x.text, .slice (some ⟨g0, 0, none⟩) x.actN x.actN, .slice (some ⟨g1, 0, none⟩) x.linksN x.linksN]) ∧ RowIns w' g0 0 x.actN x.act ∧ w.heap.size ≤ g0 ∧ RowLink w' g1 0 x.linksN x.links ∧ w.heap.size ≤ g1 ∧ Below w.heap.size w w' := by
  have V0 := hide hv0
  have V1 := hide hv1
  clear hv0 hv1
  have hfit := hide hfit
  have A0 : Hid (Below w.heap.size w (((w.alloc (.cells #[.string x.name, .int .i64 x.kind, .int .i64 x.code, .string x.text, .slice a0 x.actN cap0, .slice a1 x.linksN cap1] 89)).alloc (.cells #[.string ⟨#[]⟩, .int .i64 0, .int .i64 0, .string ⟨#[]⟩, .slice none 0 0, .slice none 0 0] 59)).alloc (.cells #[.string x.name, .int .i64 x.kind, .int .i64 x.code, .string x.text, .slice none 0 0, .slice none 0 0] 59))) := (((Below.refl _ _).alloc (Nat.le_refl _) _).alloc (by simp) _).alloc (by first | (simp; omega) | simp) _
  go_enter Tryd.func57, Tryd.ntmps57
  go_wp2_with fail
  refine (toProgram_any a0 x.actN cap0 x.act _ hfit.out.1 (V0.out.below A0.out (Nat.le_refl _))).mono ?_
  rintro e w1 ⟨g0, rfl, hR0, hg0, hB1⟩
  have R0 := hide hR0
  obtain ⟨hc1, hz1⟩ := bcell hB1
  have B1 := hide (A0.out.trans (hB1.mono A0.out.size))
  have hs1 : w.heap.size + 1 + 1 < w1.heap.size := by have := hB1.size; simp at this; omega
  have hu1 : w.heap.size + 1 < w1.heap.size := by omega
  have ht1 : w.heap.size < w1.heap.size := by omega
  have D1 := hide hB1
  clear hR0 hB1
  simp at hg0
  go_wp2_with fail
  have A1 := hide (B1.out.setCell (p := ⟨w.heap.size + 1 + 1, 4, none⟩) (by first | (simp; omega) | simp) (.slice (some ⟨g0, 0, none⟩) x.actN x.actN))
  refine (toLinkS_any a1 x.linksN cap1 x.links _ hfit.out.2 (V1.out.below A1.out (Nat.le_refl _))).mono ?_
  rintro e w2 ⟨g1, rfl, hR1, hg1, hB2⟩
  have R1 := hide hR1
  obtain ⟨hc2, hz2⟩ := bcell hB2
  have B2 := hide (A1.out.trans (hB2.mono A1.out.size))
  have hs2 : w.heap.size + 1 + 1 < w2.heap.size := by have := hB2.size; simp at this; omega
  have hu2 : w.heap.size + 1 < w2.heap.size := by omega
  have ht2 : w.heap.size < w2.heap.size := by omega
  have D2 := hide hB2
  clear hR1 hB2
  simp at hg1
  have q0 : w2.cell? ⟨w.heap.size + 1, 0, none⟩ = some (.string ⟨#[]⟩) := by
    rw [D2.out.cell (p := ⟨w.heap.size + 1, 0, none⟩) (by first | (simp; omega) | simp), cell_far _ _ _ _ (by simp)]
    rw [D1.out.cell (p := ⟨w.heap.size + 1, 0, none⟩) (by first | (simp; omega) | simp)]
    simp [go_sem]
  have q1 : w2.cell? ⟨w.heap.size + 1, 1, none⟩ = some (.int .i64 0) := by
    rw [D2.out.cell (p := ⟨w.heap.size + 1, 1, none⟩) (by first | (simp; omega) | simp), cell_far _ _ _ _ (by simp)]
    rw [D1.out.cell (p := ⟨w.heap.size + 1, 1, none⟩) (by first | (simp; omega) | simp)]
    simp [go_sem]
  have q2 : w2.cell? ⟨w.heap.size + 1, 2, none⟩ = some (.int .i64 0) := by
    rw [D2.out.cell (p := ⟨w.heap.size + 1, 2, none⟩) (by first | (simp; omega) | simp), cell_far _ _ _ _ (by simp)]
    rw [D1.out.cell (p := ⟨w.heap.size + 1, 2, none⟩) (by first | (simp; omega) | simp)]
    simp [go_sem]
  have q3 : w2.cell? ⟨w.heap.size + 1, 3, none⟩ = some (.string ⟨#[]⟩) := by
    rw [D2.out.cell (p := ⟨w.heap.size + 1, 3, none⟩) (by first | (simp; omega) | simp), cell_far _ _ _ _ (by simp)]
    rw [D1.out.cell (p := ⟨w.heap.size + 1, 3, none⟩) (by first | (simp; omega) | simp)]
    simp [go_sem]
  have q4 : w2.cell? ⟨w.heap.size + 1, 4, none⟩ = some (.slice none 0 0) := by
    rw [D2.out.cell (p := ⟨w.heap.size + 1, 4, none⟩) (by first | (simp; omega) | simp), cell_far _ _ _ _ (by simp)]
    rw [D1.out.cell (p := ⟨w.heap.size + 1, 4, none⟩) (by first | (simp; omega) | simp)]
    simp [go_sem]
  have q5 : w2.cell? ⟨w.heap.size + 1, 5, none⟩ = some (.slice none 0 0) := by
    rw [D2.out.cell (p := ⟨w.heap.size + 1, 5, none⟩) (by first | (simp; omega) | simp), cell_far _ _ _ _ (by simp)]
    rw [D1.out.cell (p := ⟨w.heap.size + 1, 5, none⟩) (by first | (simp; omega) | simp)]
    simp [go_sem]
  go_wp2
  exact bodyPost_ret (v := .agg #[.string x.name, .int .i64 x.kind, .int .i64 x.code, .string x.text, .slice (some ⟨g0, 0, none⟩) x.actN x.actN, .slice (some ⟨g1, 0, none⟩) x.linksN x.linksN]) (by simp [results, Tryd.results57, go_sem, q0, q1, q2, q3, q4, q5]) rfl ⟨g0, g1, rfl, ((((((((R0.out.setOther _ (by first | (simp; omega) | simp) _).below D2.out (Nat.le_refl _)).setOther _ (by first | (simp; omega) | simp) _).setOther _ (by first | (simp; omega) | simp) _).setOther _ (by first | (simp; omega) | simp) _).setOther _ (by first | (simp; omega) | simp) _).setOther _ (by first | (simp; omega) | simp) _).setOther _ (by first | (simp; omega) | simp) _).setOther _ (by first | (simp; omega) | simp) _, by omega, (((((((R1.out).setOther _ (by first | (simp; omega) | simp) _).setOther _ (by first | (simp; omega) | simp) _).setOther _ (by first | (simp; omega) | simp) _).setOther _ (by first | (simp; omega) | simp) _).setOther _ (by first | (simp; omega) | simp) _).setOther _ (by first | (simp; omega) | simp) _).setOther _ (by first | (simp; omega) | simp) _, by omega, (((((((B2.out).setCell (by first | (simp; omega) | simp) _).setCell (by first | (simp; omega) | simp) _).setCell (by first | (simp; omega) | simp) _).setCell (by first | (simp; omega) | simp) _).setCell (by first | (simp; omega) | simp) _).setCell (by first | (simp; omega) | simp) _).setCell (by first | (simp; omega) | simp) _⟩

theorem infoDeed : (Tryd.prog.info? 59).map (fun i => (i.zero, i.size, i.bytes)) = some (some (.agg #[.string ⟨#[]⟩, .int .i64 0, .int .i64 0, .string ⟨#[]⟩, .slice none 0 0, .slice none 0 0]), 6, 96) := by kernel_rfl
def zerosDeed (n : Nat) : Array Value := madeCells (Value.agg #[.string ⟨#[]⟩, .int .i64 0, .int .i64 0, .string ⟨#[]⟩, .slice none 0 0, .slice none 0 0]).cells (n * 6)
theorem mkDeed (n : Nat) (hn : n ≤ 1048576) (w : World) : (Instr.makeSlice 28 (.int .i64 (n : Int)) (.int .i64 (n : Int))).run Tryd.prog w = .ok (.slice (some ⟨w.heap.size, 0, none⟩) n n) (w.alloc (.cells (zerosDeed n) 59)) := by
  obtain ⟨i, hi, hz⟩ := Option.map_eq_some_iff.1 infoDeed
  simp only [Prod.mk.injEq] at hz
  obtain ⟨h1, h2, h3⟩ := hz
  have h := run_make (P := Tryd.prog) w 28 59 i _ Tryd.underlying28 hi h1 .i64 .i64 n n (by omega) (Int.le_refl _) (by rw [h3]; omega) (by omega)
  rw [h2] at h
  simpa [zerosDeed] using h

/-- Block g is a row of n elements' cells; the first k are those of f, their slices rows of blocks behind g. -/
def OwnDeed (w : World) (g n k : Nat) (f : Nat → Deed) : Prop :=
  ∃ (F : Nat → Value) (G0 G1 : Nat → Nat), w.rowIs g 59 (n * 6) F ∧ ∀ i, i < k → F (i * 6) = .string (f i).name ∧ F (i * 6 + 1) = .int .i64 (f i).kind ∧ F (i * 6 + 2) = .int .i64 (f i).code ∧ F (i * 6 + 3) = .string (f i).text ∧ (F (i * 6 + 4) = .slice (some ⟨G0 i, 0, none⟩) (f i).actN (f i).actN ∧ RowIns w (G0 i) 0 (f i).actN (f i).act ∧ g < G0 i) ∧ (F (i * 6 + 5) = .slice (some ⟨G1 i, 0, none⟩) (f i).linksN (f i).linksN ∧ RowLink w (G1 i) 0 (f i).linksN (f i).links ∧ g < G1 i)
theorem OwnDeed.lt {w : World} {g n k : Nat} {f : Nat → Deed} (h : OwnDeed w g n k f) : g < w.heap.size := by
  obtain ⟨F, G0, G1, hr, _⟩ := h
  exact hr.lt
theorem ownDeed_start (w : World) (n : Nat) (f : Nat → Deed) : OwnDeed (w.alloc (.cells (zerosDeed n) 59)) w.heap.size n 0 f := by
  have hz : (zerosDeed n).size = n * 6 := size_madeCells _ _
  have h := World.rowIs_alloc w (zerosDeed n) 59 (fun i => (zerosDeed n)[i]?.getD undef) (fun i hi => by rw [Array.getElem?_eq_getElem hi]; rfl)
  rw [hz] at h
  exact ⟨_, fun _ => 0, fun _ => 0, h, fun i hi => absurd hi (Nat.not_lt_zero _)⟩
theorem OwnDeed.step {w : World} {g n k g0 g1 : Nat} {f : Nat → Deed} (h : OwnDeed w g n k f) (R0 : RowIns w g0 0 (f k).actN (f k).act) (hg0 : g < g0) (R1 : RowLink w g1 0 (f k).linksN (f k).links) (hg1 : g < g1) :
    OwnDeed ((((((w.setCell ⟨g, k * 6, none⟩ (.string (f k).name)).setCell ⟨g, k * 6 + 1, none⟩ (.int .i64 (f k).kind)).setCell ⟨g, k * 6 + 2, none⟩ (.int .i64 (f k).code)).setCell ⟨g, k * 6 + 3, none⟩ (.string (f k).text)).setCell ⟨g, k * 6 + 4, none⟩ (.slice (some ⟨g0, 0, none⟩) (f k).actN (f k).actN)).setCell ⟨g, k * 6 + 5, none⟩ (.slice (some ⟨g1, 0, none⟩) (f k).linksN (f k).linksN)) g n (k + 1) f := by
  obtain ⟨F, G0, G1, hr, hF⟩ := h
  refine ⟨_, fun i => if i = k then g0 else G0 i, fun i => if i = k then g1 else G1 i, ((((((hr.set _ _).set _ _).set _ _).set _ _).set _ _).set _ _), fun i hi => ?_⟩
  by_cases e : i = k
  · subst e
    exact ⟨by simp, by simp, by simp, by simp, ⟨by simp, by dsimp only; rw [if_pos rfl]; exact ((((((R0).setOther _ (by first | (simp; omega) | simp) _).setOther _ (by first | (simp; omega) | simp) _).setOther _ (by first | (simp; omega) | simp) _).setOther _ (by first | (simp; omega) | simp) _).setOther _ (by first | (simp; omega) | simp) _).setOther _ (by first | (simp; omega) | simp) _, by dsimp only; rw [if_pos rfl]; exact hg0⟩, ⟨by simp, by dsimp only; rw [if_pos rfl]; exact ((((((R1).setOther _ (by first | (simp; omega) | simp) _).setOther _ (by first | (simp; omega) | simp) _).setOther _ (by first | (simp; omega) | simp) _).setOther _ (by first | (simp; omega) | simp) _).setOther _ (by first | (simp; omega) | simp) _).setOther _ (by first | (simp; omega) | simp) _, by dsimp only; rw [if_pos rfl]; exact hg1⟩⟩
  · obtain ⟨p0, p1, p2, p3, ⟨s0, r0, u0⟩, ⟨s1, r1, u1⟩⟩ := hF i (by omega)
    refine ⟨?_, ?_, ?_, ?_, ?_, ?_⟩
    · show (if _ then _ else if _ then _ else if _ then _ else if _ then _ else if _ then _ else if _ then _ else _) = _
      rw [if_neg (by omega), if_neg (by omega), if_neg (by omega), if_neg (by omega), if_neg (by omega), if_neg (by omega), p0]
    · show (if _ then _ else if _ then _ else if _ then _ else if _ then _ else if _ then _ else if _ then _ else _) = _
      rw [if_neg (by omega), if_neg (by omega), if_neg (by omega), if_neg (by omega), if_neg (by omega), if_neg (by omega), p1]
    · show (if _ then _ else if _ then _ else if _ then _ else if _ then _ else if _ then _ else if _ then _ else _) = _
      rw [if_neg (by omega), if_neg (by omega), if_neg (by omega), if_neg (by omega), if_neg (by omega), if_neg (by omega), p2]
    · show (if _ then _ else if _ then _ else if _ then _ else if _ then _ else if _ then _ else if _ then _ else _) = _
      rw [if_neg (by omega), if_neg (by omega), if_neg (by omega), if_neg (by omega), if_neg (by omega), if_neg (by omega), p3]
    · dsimp only
      rw [if_neg e]
      refine ⟨?_, ((((((r0).setOther _ (by first | (simp; omega) | simp) _).setOther _ (by first | (simp; omega) | simp) _).setOther _ (by first | (simp; omega) | simp) _).setOther _ (by first | (simp; omega) | simp) _).setOther _ (by first | (simp; omega) | simp) _).setOther _ (by first | (simp; omega) | simp) _, u0⟩
      show (if _ then _ else if _ then _ else if _ then _ else if _ then _ else if _ then _ else if _ then _ else _) = _
      rw [if_neg (by omega), if_neg (by omega), if_neg (by omega), if_neg (by omega), if_neg (by omega), if_neg (by omega), s0]
    · dsimp only
      rw [if_neg e]
      refine ⟨?_, ((((((r1).setOther _ (by first | (simp; omega) | simp) _).setOther _ (by first | (simp; omega) | simp) _).setOther _ (by first | (simp; omega) | simp) _).setOther _ (by first | (simp; omega) | simp) _).setOther _ (by first | (simp; omega) | simp) _).setOther _ (by first | (simp; omega) | simp) _, u1⟩
      show (if _ then _ else if _ then _ else if _ then _ else if _ then _ else if _ then _ else if _ then _ else _) = _
      rw [if_neg (by omega), if_neg (by omega), if_neg (by omega), if_neg (by omega), if_neg (by omega), if_neg (by omega), s1]
theorem OwnDeed.below {w w' : World} {g n k : Nat} {f : Nat → Deed} {B : Nat} (h : OwnDeed w g n k f) (hb : Below B w w') (hB : w.heap.size ≤ B) : OwnDeed w' g n k f := by
  have hl := h.lt
  obtain ⟨F, G0, G1, hr, hF⟩ := h
  refine ⟨F, G0, G1, hr.of_block (hb.block g (Nat.lt_of_lt_of_le hl hB)), fun i hi => ?_⟩
  obtain ⟨p0, p1, p2, p3, ⟨s0, r0, u0⟩, ⟨s1, r1, u1⟩⟩ := hF i hi
  exact ⟨p0, p1, p2, p3, ⟨s0, r0.below hb hB, u0⟩, ⟨s1, r1.below hb hB, u1⟩⟩
theorem OwnDeed.setOther {w : World} {g n k : Nat} {f : Nat → Deed} (h : OwnDeed w g n k f) (p : Addr) (hp : p.block < g) (v : Value) : OwnDeed (w.setCell p v) g n k f := by
  obtain ⟨F, G0, G1, hr, hF⟩ := h
  refine ⟨F, G0, G1, hr.setOther (by omega) v, fun i hi => ?_⟩
  obtain ⟨p0, p1, p2, p3, ⟨s0, r0, u0⟩, ⟨s1, r1, u1⟩⟩ := hF i hi
  exact ⟨p0, p1, p2, p3, ⟨s0, r0.setOther p (by omega) v, u0⟩, ⟨s1, r1.setOther p (by omega) v, u1⟩⟩
theorem OwnDeed.row {w : World} {g n : Nat} {f : Nat → Deed} (h : OwnDeed w g n n f) : RowDeed w g 0 n f := by
  obtain ⟨F, G0, G1, hr, hF⟩ := h
  refine ⟨hr.lt, fun i hi => ?_⟩
  obtain ⟨p0, p1, p2, p3, ⟨s0, r0, u0⟩, ⟨s1, r1, u1⟩⟩ := hF i hi
  refine ⟨?_, ?_, ?_, ?_, ?_, ?_⟩
  · rw [Nat.zero_add, hr.cell (by omega), p0]
  · rw [Nat.zero_add, hr.cell (by omega), p1]
  · rw [Nat.zero_add, hr.cell (by omega), p2]
  · rw [Nat.zero_add, hr.cell (by omega), p3]
  · exact ⟨_, _, by rw [Nat.zero_add, hr.cell (by omega), s0], r0.sl⟩
  · exact ⟨_, _, by rw [Nat.zero_add, hr.cell (by omega), s1], r1.sl⟩

set_option maxHeartbeats 2000000 in
theorem toDeedS_row (b off n cap : Nat) (f : Nat → Deed) (w : World) (hn : n ≤ 1048576) (hf : RowDeed w b off n f) (hm : ∀ i, i < n → FitsDeed (f i)) :
    Calls Tryd.prog 35 #[.slice (some ⟨b, off, none⟩) n cap] w fun e w' => ∃ g, e = .returned (.slice (some ⟨g, 0, none⟩) n n) ∧ OwnDeed w' g n n f ∧ w.heap.size ≤ g ∧ Below w.heap.size w w' := by
  have HF := hide hf
  have HM := hide hm
  clear hf hm
  have hmk := mkDeed n hn
  go_enter Tryd.func35, Tryd.ntmps35
  go_wp2
  clear hmk
  go_loopw [4] (fun i wr => ∃ k : Nat, k ≤ n ∧ i = .int .i64 k ∧ OwnDeed wr w.heap.size n k f ∧ Below w.heap.size w wr) (fun i _ => n - (intOf i).toNat)
  case atStart => exact ⟨0, by omega, rfl, ownDeed_start w n f, (Below.refl _ _).alloc (Nat.le_refl _) _⟩
  case round =>
    obtain ⟨k, hk, rfl, hO, hB⟩ := hrel
    have HO := hide hO
    have HB := hide hB
    have hsz : w.heap.size ≤ wr.heap.size := hB.size
    have hlo : w.heap.size < wr.heap.size := hO.lt
    clear hB
    by_cases hlt : k < n
    · obtain ⟨p0, p1, p2, p3, ⟨a0, cap0, s0, r0⟩, ⟨a1, cap1, s1, r1⟩⟩ := (HF.out.2 k hlt).below HB.out (Nat.le_refl _) HF.out.1
      have HR := hide (show SlIns wr a0 (f k).actN (f k).act ∧ SlLink wr a1 (f k).linksN (f k).links from ⟨r0, r1⟩)
      clear hO r0 r1
      go_wp2_with fail
      refine (toDeed_any (f k) a0 cap0 a1 cap1 _ (HM.out k hlt) HR.out.1 HR.out.2).mono ?_
      rintro e w1 ⟨g0, g1, rfl, hR0, hg0, hR1, hg1, hB1⟩
      have HO1 := hide (HO.out.below hB1 (Nat.le_refl _))
      have R0 := hide hR0
      have R1 := hide hR1
      have HB1 := hide (HB.out.trans (hB1.mono hsz))
      clear hB1 hR0 hR1
      obtain ⟨F, G0, G1, hr, _⟩ := HO1.out
      have d0 := hr.cell (i := k * 6) (by omega)
      have z0 := hr.frozen (k * 6)
      have d1 := hr.cell (i := k * 6 + 1) (by omega)
      have z1 := hr.frozen (k * 6 + 1)
      have d2 := hr.cell (i := k * 6 + 2) (by omega)
      have z2 := hr.frozen (k * 6 + 2)
      have d3 := hr.cell (i := k * 6 + 3) (by omega)
      have z3 := hr.frozen (k * 6 + 3)
      have d4 := hr.cell (i := k * 6 + 4) (by omega)
      have z4 := hr.frozen (k * 6 + 4)
      have d5 := hr.cell (i := k * 6 + 5) (by omega)
      have z5 := hr.frozen (k * 6 + 5)
      clear hr p0 p1 p2 p3 s0 s1
      go_wp2
      exact ⟨⟨k + 1, by omega, by go_num, HO1.out.step R0.out (by omega) R1.out (by omega), ((((((HB1.out).setCell (Nat.le_refl _) _).setCell (Nat.le_refl _) _).setCell (Nat.le_refl _) _).setCell (Nat.le_refl _) _).setCell (Nat.le_refl _) _).setCell (Nat.le_refl _) _⟩, by simp [intOf]; omega⟩
    · have e : k = n := by omega
      subst e
      clear hO
      go_wp2
      go_ret
      exact ⟨_, rfl, HO.out, Nat.le_refl _, HB.out⟩

set_option maxHeartbeats 1000000 in
theorem toDeedS_nil (a : Option Addr) (cap : Nat) (f : Nat → Deed) (w : World) :
    Calls Tryd.prog 35 #[.slice a 0 cap] w fun e w' => ∃ g, e = .returned (.slice (some ⟨g, 0, none⟩) 0 0) ∧ OwnDeed w' g 0 0 f ∧ w.heap.size ≤ g ∧ Below w.heap.size w w' := by
  have hmk : ∀ w : World, (Instr.makeSlice 28 (.int .i64 0) (.int .i64 0)).run Tryd.prog w = .ok (.slice (some ⟨w.heap.size, 0, none⟩) 0 0) (w.alloc (.cells (zerosDeed 0) 59)) := fun w => mkDeed 0 (by omega) w
  go_enter Tryd.func35, Tryd.ntmps35
  go_wp2
  clear hmk
  go_loop [4] (fun i => i = .int .i64 0) (fun _ => 0)
  case atStart => rfl
  case round =>
    subst hrel
    go_wp2
    go_ret
    exact ⟨_, rfl, ownDeed_start w 0 f, Nat.le_refl _, (Below.refl _ _).alloc (Nat.le_refl _) _⟩

theorem toDeedS_any (a : Option Addr) (n cap : Nat) (f : Nat → Deed) (w : World) (hn : n ≤ 1048576) (hv : SlDeed w a n f) (hm : ∀ i, i < n → FitsDeed (f i)) :
    Calls Tryd.prog 35 #[.slice a n cap] w fun e w' => ∃ g, e = .returned (.slice (some ⟨g, 0, none⟩) n n) ∧ OwnDeed w' g n n f ∧ w.heap.size ≤ g ∧ Below w.heap.size w w' := by
  rcases hv with rfl | ⟨b, off, rfl, hr⟩
  · exact toDeedS_nil a cap f w
  · exact toDeedS_row b off n cap f w hn hr hm

set_option maxHeartbeats 2000000 in
theorem eqDeed_any (x : Deed) (a0 : Option Addr) (cap0 : Nat) (a1 : Option Addr) (cap1 : Nat) (b0 : Option Addr) (dap0 : Nat) (b1 : Option Addr) (dap1 : Nat) (w : World) (hfit : FitsDeed x) (hv0 : SlIns w a0 x.actN x.act) (hv1 : SlLink w a1 x.linksN x.links) (hu0 : SlIns w b0 x.actN x.act) (hu1 : SlLink w b1 x.linksN x.links) :
    Calls Tryd.prog 60 #[.agg #[.string x.name, .int .i64 x.kind, .int .i64 x.code, .string x.text, .slice a0 x.actN cap0, .slice a1 x.linksN cap1], .agg #[.string x.name, .int .i64 x.kind, .int .i64 x.code, .string x.text, .slice b0 x.actN dap0, .slice b1 x.linksN dap1]] w fun e w' => e = .returned (.bool true) ∧ Below w.heap.size w w' := by
  have V0 := hide hv0
  have V1 := hide hv1
  clear hv0 hv1
  have U0 := hide hu0
  have U1 := hide hu1
  clear hu0 hu1
  have hfit := hide hfit
  have B0 : Hid (Below w.heap.size w ((w.alloc (.cells #[.string x.name, .int .i64 x.kind, .int .i64 x.code, .string x.text, .slice a0 x.actN cap0, .slice a1 x.linksN cap1] 59)).alloc (.cells #[.string x.name, .int .i64 x.kind, .int .i64 x.code, .string x.text, .slice b0 x.actN dap0, .slice b1 x.linksN dap1] 59))) := ((Below.refl _ _).alloc (Nat.le_refl _) _).alloc (by simp) _
  go_enter Tryd.func60, Tryd.ntmps60
  go_wp2_with fail
  refine (eqProgram_any a0 b0 cap0 dap0 x.actN x.act _ hfit.out.1 (V0.out.below B0.out (Nat.le_refl _)) (U0.out.below B0.out (Nat.le_refl _))).mono ?_
  rintro e w1 ⟨rfl, hB1⟩
  have bc1 := (bcell hB1).1
  have B1 := hide (B0.out.trans (hB1.mono B0.out.size))
  have hs1 : w.heap.size + 1 < w1.heap.size := by have := hB1.size; first | omega | (simp at this; omega)
  have ht1 : w.heap.size < w1.heap.size := by omega
  clear hB1
  go_wp2_with fail
  refine (eqLinkS_any a1 b1 cap1 dap1 x.linksN x.links _ hfit.out.2 (V1.out.below B1.out (Nat.le_refl _)) (U1.out.below B1.out (Nat.le_refl _))).mono ?_
  rintro e w2 ⟨rfl, hB2⟩
  have bc2 := (bcell hB2).1
  have B2 := hide (B1.out.trans (hB2.mono B1.out.size))
  have hs2 : w.heap.size + 1 < w2.heap.size := by have := hB2.size; first | omega | (simp at this; omega)
  have ht2 : w.heap.size < w2.heap.size := by omega
  clear hB2
  go_wp2
  go_ret
  exact ⟨rfl, B2.out⟩

set_option maxHeartbeats 2000000 in
theorem eqDeedS_row (b off cap b2 off2 cap2 n : Nat) (f : Nat → Deed) (w : World) (hn : n ≤ 1048576) (hf : RowDeed w b off n f) (hf2 : RowDeed w b2 off2 n f) (hm : ∀ i, i < n → FitsDeed (f i)) :
    Calls Tryd.prog 40 #[.slice (some ⟨b, off, none⟩) n cap, .slice (some ⟨b2, off2, none⟩) n cap2] w fun e w' => e = .returned (.bool true) ∧ Below w.heap.size w w' := by
  have HF := hide hf
  have HF2 := hide hf2
  have HM := hide hm
  clear hf hf2 hm
  go_enter Tryd.func40, Tryd.ntmps40
  go_wp2
  go_loopw [5] (fun i wr => ∃ k : Nat, k ≤ n ∧ i = .int .i64 k ∧ Below w.heap.size w wr) (fun i _ => n - (intOf i).toNat)
  case atStart => exact ⟨0, by omega, rfl, Below.refl _ _⟩
  case round =>
    obtain ⟨k, hk, rfl, hB⟩ := hrel
    have HB := hide hB
    have hsz : w.heap.size ≤ wr.heap.size := hB.size
    clear hB
    by_cases hlt : k < n
    · obtain ⟨p0, p1, p2, p3, ⟨a0, cap0, s0, r0⟩, ⟨a1, cap1, s1, r1⟩⟩ := (HF.out.2 k hlt).below HB.out (Nat.le_refl _) HF.out.1
      obtain ⟨q0, q1, q2, q3, ⟨b0, dap0, t0, v0⟩, ⟨b1, dap1, t1, v1⟩⟩ := (HF2.out.2 k hlt).below HB.out (Nat.le_refl _) HF2.out.1
      have HR := hide (show SlIns wr a0 (f k).actN (f k).act ∧ SlLink wr a1 (f k).linksN (f k).links from ⟨r0, r1⟩)
      have HR2 := hide (show SlIns wr b0 (f k).actN (f k).act ∧ SlLink wr b1 (f k).linksN (f k).links from ⟨v0, v1⟩)
      clear r0 r1 v0 v1
      go_wp2_with fail
      go_region_with (go_at_call 60; refine (eqDeed_any (f k) a0 cap0 a1 cap1 b0 dap0 b1 dap1 _ (HM.out k hlt) ?_ ?_ ?_ ?_).mono ?_; exact HR.out.1; exact HR.out.2; exact HR2.out.1; exact HR2.out.2; rintro e w' ⟨rfl, hB'⟩)
      all_goals
        go_wp2
        exact ⟨⟨k + 1, by omega, by go_num, Below.trans (by repeat (first | exact HB.out | apply Below.drew)) (hB'.mono hsz)⟩, by simp [intOf]; omega⟩
    · have e : k = n := by omega
      subst e
      go_wp2
      go_ret
      exact ⟨rfl, HB.out⟩

set_option maxHeartbeats 1000000 in
theorem eqDeedS_nil (a a2 : Option Addr) (cap cap2 : Nat) (w : World) :
    Calls Tryd.prog 40 #[.slice a 0 cap, .slice a2 0 cap2] w fun e w' => e = .returned (.bool true) ∧ w' = w := by
  go_enter Tryd.func40, Tryd.ntmps40
  go_wp2
  go_loop [5] (fun i => i = .int .i64 0) (fun _ => 0)
  case atStart => rfl
  case round =>
    subst hrel
    go_wp2
    go_ret
    exact ⟨rfl, rfl⟩

theorem eqDeedS_any (a a2 : Option Addr) (cap cap2 n : Nat) (f : Nat → Deed) (w : World) (hn : n ≤ 1048576) (h : SlDeed w a n f) (h2 : SlDeed w a2 n f) (hm : ∀ i, i < n → FitsDeed (f i)) :
    Calls Tryd.prog 40 #[.slice a n cap, .slice a2 n cap2] w fun e w' => e = .returned (.bool true) ∧ Below w.heap.size w w' := by
  by_cases hz : n = 0
  · subst hz
    exact (eqDeedS_nil a a2 cap cap2 w).mono fun _ _ ⟨a, b⟩ => ⟨a, by rw [b]; exact Below.refl _ _⟩
  · rcases h with h | ⟨b, off, rfl, hr⟩
    · exact absurd h hz
    · rcases h2 with h | ⟨b2, off2, rfl, hr2⟩
      · exact absurd h hz
      · exact eqDeedS_row b off cap b2 off2 cap2 n f w hn hr hr2 hm

end Go.Proofs.YtggchgpphhhleaaDoor.Vp
