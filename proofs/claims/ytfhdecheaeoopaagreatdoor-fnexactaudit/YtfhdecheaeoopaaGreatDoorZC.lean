/-
  Put together of: DDeedB, DAccountB, CaPure, VpSl, CaName, FlRep.
-/
import Derived.Test.YtfhdecheaeoopaaGreatDoorZB

/-
  Data: Deed: sizes, copies, comparisons; its cells hold slices. Written by tools/nest.py. Parted by tools/splitd.py.
-/
namespace Go.Proofs.YtfhdecheaeoopaaGreatDoor.Vp
open Go.RowKit

structure Deed where
  name : ByteArray
  kind : Int
  code : Int
  text : ByteArray
  actN : Nat
  act : Nat → Ins
  linksN : Nat
  links : Nat → Link
/-- What each reading gives: no text is too long for an int, no slice. -/
def SizedDeed (x : Deed) : Prop := x.name.size ≤ maxLen ∧ x.text.size ≤ maxLen ∧ ((x.actN : Int) ≤ 9223372036854775807 ∧ ∀ j, j < x.actN → (x.act j).s.size ≤ maxLen) ∧ ((x.linksN : Int) ≤ 9223372036854775807 ∧ ∀ j, j < x.linksN → (x.links j).name.size ≤ maxLen)
/-- No slice is longer than what the law lets in. -/
def FitsDeed (x : Deed) : Prop := x.actN ≤ 1048576 ∧ x.linksN ≤ 1048576

/-- The cells of element i of a row that begins at off in block b. -/
def AtDeed (w : World) (b off i : Nat) (x : Deed) : Prop :=
  w.cell? ⟨b, off + i * 6, none⟩ = some (.string x.name) ∧ w.cell? ⟨b, off + i * 6 + 1, none⟩ = some (.int .i64 x.kind) ∧ w.cell? ⟨b, off + i * 6 + 2, none⟩ = some (.int .i64 x.code) ∧ w.cell? ⟨b, off + i * 6 + 3, none⟩ = some (.string x.text) ∧ (∃ a cap, w.cell? ⟨b, off + i * 6 + 4, none⟩ = some (.slice a x.actN cap) ∧ SlIns w a x.actN x.act) ∧ (∃ a cap, w.cell? ⟨b, off + i * 6 + 5, none⟩ = some (.slice a x.linksN cap) ∧ SlLink w a x.linksN x.links)
theorem AtDeed.below {w w' : World} {B b off i : Nat} {x : Deed} (h : AtDeed w b off i x) (hb : Below B w w') (hB : w.heap.size ≤ B) (hl : b < w.heap.size) : AtDeed w' b off i x := by
  obtain ⟨p0, p1, p2, p3, ⟨a0, cap0, s0, r0⟩, ⟨a1, cap1, s1, r1⟩⟩ := h
  refine ⟨(hb.cell (p := ⟨b, _, none⟩) (Nat.lt_of_lt_of_le hl hB)).trans p0, (hb.cell (p := ⟨b, _, none⟩) (Nat.lt_of_lt_of_le hl hB)).trans p1, (hb.cell (p := ⟨b, _, none⟩) (Nat.lt_of_lt_of_le hl hB)).trans p2, (hb.cell (p := ⟨b, _, none⟩) (Nat.lt_of_lt_of_le hl hB)).trans p3, ⟨a0, cap0, (hb.cell (p := ⟨b, _, none⟩) (Nat.lt_of_lt_of_le hl hB)).trans s0, r0.below hb hB⟩, ⟨a1, cap1, (hb.cell (p := ⟨b, _, none⟩) (Nat.lt_of_lt_of_le hl hB)).trans s1, r1.below hb hB⟩⟩
def RowDeed (w : World) (b off n : Nat) (f : Nat → Deed) : Prop := b < w.heap.size ∧ ∀ i, i < n → AtDeed w b off i (f i)
theorem RowDeed.below {w w' : World} {B b off n : Nat} {f : Nat → Deed} (h : RowDeed w b off n f) (hb : Below B w w') (hB : w.heap.size ≤ B) : RowDeed w' b off n f :=
  ⟨Nat.lt_of_lt_of_le h.1 hb.size, fun i hi => (h.2 i hi).below hb hB h.1⟩
def SlDeed (w : World) (a : Option Addr) (n : Nat) (f : Nat → Deed) : Prop := n = 0 ∨ ∃ b off, a = some ⟨b, off, none⟩ ∧ RowDeed w b off n f
theorem SlDeed.below {w w' : World} {B : Nat} {a : Option Addr} {n : Nat} {f : Nat → Deed} (h : SlDeed w a n f) (hb : Below B w w') (hB : w.heap.size ≤ B) : SlDeed w' a n f := by
  rcases h with h | ⟨b, off, hv, hr⟩
  · exact .inl h
  · exact .inr ⟨b, off, hv, hr.below hb hB⟩
theorem RowDeed.sl {w : World} {b off n : Nat} {f : Nat → Deed} (h : RowDeed w b off n f) : SlDeed w (some ⟨b, off, none⟩) n f := .inr ⟨b, off, rfl, h⟩

theorem infoDeed : (Tryz.prog.info? 54).map (fun i => (i.zero, i.size, i.bytes)) = some (some (.agg #[.string ⟨#[]⟩, .int .i64 0, .int .i64 0, .string ⟨#[]⟩, .slice none 0 0, .slice none 0 0]), 6, 96) := by kernel_rfl
def zerosDeed (n : Nat) : Array Value := madeCells (Value.agg #[.string ⟨#[]⟩, .int .i64 0, .int .i64 0, .string ⟨#[]⟩, .slice none 0 0, .slice none 0 0]).cells (n * 6)
theorem mkDeed (n : Nat) (hn : n ≤ 1048576) (w : World) : (Instr.makeSlice 28 (.int .i64 (n : Int)) (.int .i64 (n : Int))).run Tryz.prog w = .ok (.slice (some ⟨w.heap.size, 0, none⟩) n n) (w.alloc (.cells (zerosDeed n) 54)) := by
  obtain ⟨i, hi, hz⟩ := Option.map_eq_some_iff.1 infoDeed
  simp only [Prod.mk.injEq] at hz
  obtain ⟨h1, h2, h3⟩ := hz
  have h := run_make (P := Tryz.prog) w 28 54 i _ Tryz.underlying28 hi h1 .i64 .i64 n n (by omega) (Int.le_refl _) (by rw [h3]; omega) (by omega)
  rw [h2] at h
  simpa [zerosDeed] using h

/-- Block g is a row of n elements' cells; the first k are those of f, their slices rows of blocks behind g. -/
def OwnDeed (w : World) (g n k : Nat) (f : Nat → Deed) : Prop :=
  ∃ (F : Nat → Value) (G0 G1 : Nat → Nat), w.rowIs g 54 (n * 6) F ∧ ∀ i, i < k → F (i * 6) = .string (f i).name ∧ F (i * 6 + 1) = .int .i64 (f i).kind ∧ F (i * 6 + 2) = .int .i64 (f i).code ∧ F (i * 6 + 3) = .string (f i).text ∧ (F (i * 6 + 4) = .slice (some ⟨G0 i, 0, none⟩) (f i).actN (f i).actN ∧ RowIns w (G0 i) 0 (f i).actN (f i).act ∧ g < G0 i) ∧ (F (i * 6 + 5) = .slice (some ⟨G1 i, 0, none⟩) (f i).linksN (f i).linksN ∧ RowLink w (G1 i) 0 (f i).linksN (f i).links ∧ g < G1 i)
theorem OwnDeed.lt {w : World} {g n k : Nat} {f : Nat → Deed} (h : OwnDeed w g n k f) : g < w.heap.size := by
  obtain ⟨F, G0, G1, hr, _⟩ := h
  exact hr.lt
theorem ownDeed_start (w : World) (n : Nat) (f : Nat → Deed) : OwnDeed (w.alloc (.cells (zerosDeed n) 54)) w.heap.size n 0 f := by
  have hz : (zerosDeed n).size = n * 6 := size_madeCells _ _
  have h := World.rowIs_alloc w (zerosDeed n) 54 (fun i => (zerosDeed n)[i]?.getD undef) (fun i hi => by rw [Array.getElem?_eq_getElem hi]; rfl)
  rw [hz] at h
  exact ⟨_, fun _ => 0, fun _ => 0, h, fun i hi => absurd hi (Nat.not_lt_zero _)⟩
theorem OwnDeed.step {w : World} {g n k g0 g1 : Nat} {f : Nat → Deed} (h : OwnDeed w g n k f) (R0 : RowIns w g0 0 (f k).actN (f k).act) (hg0 : g < g0) (R1 : RowLink w g1 0 (f k).linksN (f k).links) (hg1 : g < g1) :
    OwnDeed ((((((w.setCell ⟨g, k * 6, none⟩ (.string (f k).name)).setCell ⟨g, k * 6 + 1, none⟩ (.int .i64 (f k).kind)).setCell ⟨g, k * 6 + 2, none⟩ (.int .i64 (f k).code)).setCell ⟨g, k * 6 + 3, none⟩ (.string (f k).text)).setCell ⟨g, k * 6 + 4, none⟩ (.slice (some ⟨g0, 0, none⟩) (f k).actN (f k).actN)).setCell ⟨g, k * 6 + 5, none⟩ (.slice (some ⟨g1, 0, none⟩) (f k).linksN (f k).linksN)) g n (k + 1) f := by
  obtain ⟨F, G0, G1, hr, hF⟩ := h
  refine ⟨_, fun i => if i = k then g0 else G0 i, fun i => if i = k then g1 else G1 i, ((((((hr.set _ _).set _ _).set _ _).set _ _).set _ _).set _ _), fun i hi => ?_⟩
  by_cases e : i = k
  · subst e
    exact ⟨by simp, by simp, by simp, by simp, ⟨by simp, by dsimp only; rw [if_pos rfl]; exact ((((((R0).setOther _ (by first | (simp; omega) | simp) _).setOther _ (by first | (simp; omega) | simp) _).setOther _ (by first | (simp; omega) | simp) _).setOther _ (by first | (simp; omega) | simp) _).setOther _ (by first | (simp; omega) | simp) _).setOther _ (by first | (simp; omega) | simp) _, by dsimp only; rw [if_pos rfl]; exact hg0⟩, ⟨by simp, by dsimp only; rw [if_pos rfl]; exact ((((((R1).setOther _ (by first | (simp; omega) | simp) _).setOther _ (by first | (simp; omega) | simp) _).setOther _ (by first | (simp; omega) | simp) _).setOther _ (by first | (simp; omega) | simp) _).setOther _ (by first | (simp; omega) | simp) _).setOther _ (by first | (simp; omega) | simp) _, by dsimp only; rw [if_pos rfl]; exact hg1⟩⟩
  · obtain ⟨p0, p1, p2, p3, ⟨s0, r0, u0⟩, ⟨s1, r1, u1⟩⟩ := hF i (by omega)
    refine ⟨?_, ?_, ?_, ?_, ?_, ?_⟩
    · show (if _ then _ else if _ then _ else if _ then _ else if _ then _ else if _ then _ else if _ then _ else _) = _
      rw [if_neg (by omega), if_neg (by omega), if_neg (by omega), if_neg (by omega), if_neg (by omega), if_neg (by omega), p0]
    · show (if _ then _ else if _ then _ else if _ then _ else if _ then _ else if _ then _ else if _ then _ else _) = _
      rw [if_neg (by omega), if_neg (by omega), if_neg (by omega), if_neg (by omega), if_neg (by omega), if_neg (by omega), p1]
    · show (if _ then _ else if _ then _ else if _ then _ else if _ then _ else if _ then _ else if _ then _ else _) = _
      rw [if_neg (by omega), if_neg (by omega), if_neg (by omega), if_neg (by omega), if_neg (by omega), if_neg (by omega), p2]
    · show (if _ then _ else if _ then _ else if _ then _ else if _ then _ else if _ then _ else if _ then _ else _) = _
      rw [if_neg (by omega), if_neg (by omega), if_neg (by omega), if_neg (by omega), if_neg (by omega), if_neg (by omega), p3]
    · dsimp only
      rw [if_neg e]
      refine ⟨?_, ((((((r0).setOther _ (by first | (simp; omega) | simp) _).setOther _ (by first | (simp; omega) | simp) _).setOther _ (by first | (simp; omega) | simp) _).setOther _ (by first | (simp; omega) | simp) _).setOther _ (by first | (simp; omega) | simp) _).setOther _ (by first | (simp; omega) | simp) _, u0⟩
      show (if _ then _ else if _ then _ else if _ then _ else if _ then _ else if _ then _ else if _ then _ else _) = _
      rw [if_neg (by omega), if_neg (by omega), if_neg (by omega), if_neg (by omega), if_neg (by omega), if_neg (by omega), s0]
    · dsimp only
      rw [if_neg e]
      refine ⟨?_, ((((((r1).setOther _ (by first | (simp; omega) | simp) _).setOther _ (by first | (simp; omega) | simp) _).setOther _ (by first | (simp; omega) | simp) _).setOther _ (by first | (simp; omega) | simp) _).setOther _ (by first | (simp; omega) | simp) _).setOther _ (by first | (simp; omega) | simp) _, u1⟩
      show (if _ then _ else if _ then _ else if _ then _ else if _ then _ else if _ then _ else if _ then _ else _) = _
      rw [if_neg (by omega), if_neg (by omega), if_neg (by omega), if_neg (by omega), if_neg (by omega), if_neg (by omega), s1]
theorem OwnDeed.below {w w' : World} {g n k : Nat} {f : Nat → Deed} {B : Nat} (h : OwnDeed w g n k f) (hb : Below B w w') (hB : w.heap.size ≤ B) : OwnDeed w' g n k f := by
  have hl := h.lt
  obtain ⟨F, G0, G1, hr, hF⟩ := h
  refine ⟨F, G0, G1, hr.of_block (hb.block g (Nat.lt_of_lt_of_le hl hB)), fun i hi => ?_⟩
  obtain ⟨p0, p1, p2, p3, ⟨s0, r0, u0⟩, ⟨s1, r1, u1⟩⟩ := hF i hi
  exact ⟨p0, p1, p2, p3, ⟨s0, r0.below hb hB, u0⟩, ⟨s1, r1.below hb hB, u1⟩⟩
theorem OwnDeed.setOther {w : World} {g n k : Nat} {f : Nat → Deed} (h : OwnDeed w g n k f) (p : Addr) (hp : p.block < g) (v : Value) : OwnDeed (w.setCell p v) g n k f := by
  obtain ⟨F, G0, G1, hr, hF⟩ := h
  refine ⟨F, G0, G1, hr.setOther (by omega) v, fun i hi => ?_⟩
  obtain ⟨p0, p1, p2, p3, ⟨s0, r0, u0⟩, ⟨s1, r1, u1⟩⟩ := hF i hi
  exact ⟨p0, p1, p2, p3, ⟨s0, r0.setOther p (by omega) v, u0⟩, ⟨s1, r1.setOther p (by omega) v, u1⟩⟩
theorem OwnDeed.row {w : World} {g n : Nat} {f : Nat → Deed} (h : OwnDeed w g n n f) : RowDeed w g 0 n f := by
  obtain ⟨F, G0, G1, hr, hF⟩ := h
  refine ⟨hr.lt, fun i hi => ?_⟩
  obtain ⟨p0, p1, p2, p3, ⟨s0, r0, u0⟩, ⟨s1, r1, u1⟩⟩ := hF i hi
  refine ⟨?_, ?_, ?_, ?_, ?_, ?_⟩
  · rw [Nat.zero_add, hr.cell (by omega), p0]
  · rw [Nat.zero_add, hr.cell (by omega), p1]
  · rw [Nat.zero_add, hr.cell (by omega), p2]
  · rw [Nat.zero_add, hr.cell (by omega), p3]
  · exact ⟨_, _, by rw [Nat.zero_add, hr.cell (by omega), s0], r0.sl⟩
  · exact ⟨_, _, by rw [Nat.zero_add, hr.cell (by omega), s1], r1.sl⟩

set_option maxHeartbeats 2000000 in
theorem eqDeed_any (x : Deed) (a0 : Option Addr) (cap0 : Nat) (a1 : Option Addr) (cap1 : Nat) (b0 : Option Addr) (dap0 : Nat) (b1 : Option Addr) (dap1 : Nat) (w : World) (hfit : FitsDeed x) (hv0 : SlIns w a0 x.actN x.act) (hv1 : SlLink w a1 x.linksN x.links) (hu0 : SlIns w b0 x.actN x.act) (hu1 : SlLink w b1 x.linksN x.links) :
    Calls Tryz.prog 44 #[.agg #[.string x.name, .int .i64 x.kind, .int .i64 x.code, .string x.text, .slice a0 x.actN cap0, .slice a1 x.linksN cap1], .agg #[.string x.name, .int .i64 x.kind, .int .i64 x.code, .string x.text, .slice b0 x.actN dap0, .slice b1 x.linksN dap1]] w fun e w' => e = .returned (.bool true) ∧ Below w.heap.size w w' := by
  have V0 := hide hv0
  have V1 := hide hv1
  clear hv0 hv1
  have U0 := hide hu0
  have U1 := hide hu1
  clear hu0 hu1
  have hfit := hide hfit
  have B0 : Hid (Below w.heap.size w ((w.alloc (.cells #[.string x.name, .int .i64 x.kind, .int .i64 x.code, .string x.text, .slice a0 x.actN cap0, .slice a1 x.linksN cap1] 54)).alloc (.cells #[.string x.name, .int .i64 x.kind, .int .i64 x.code, .string x.text, .slice b0 x.actN dap0, .slice b1 x.linksN dap1] 54))) := ((Below.refl _ _).alloc (Nat.le_refl _) _).alloc (by simp) _
  go_enter Tryz.func44, Tryz.ntmps44
  go_wp2_with fail
  refine (eqProgram_any a0 b0 cap0 dap0 x.actN x.act _ hfit.out.1 (V0.out.below B0.out (Nat.le_refl _)) (U0.out.below B0.out (Nat.le_refl _))).mono ?_
  rintro e w1 ⟨rfl, hB1⟩
  have bc1 := (bcell hB1).1
  have B1 := hide (B0.out.trans (hB1.mono B0.out.size))
  have hs1 : w.heap.size + 1 < w1.heap.size := by have := hB1.size; first | omega | (simp at this; omega)
  have ht1 : w.heap.size < w1.heap.size := by omega
  clear hB1
  go_wp2_with fail
  refine (eqLinkS_any a1 b1 cap1 dap1 x.linksN x.links _ hfit.out.2 (V1.out.below B1.out (Nat.le_refl _)) (U1.out.below B1.out (Nat.le_refl _))).mono ?_
  rintro e w2 ⟨rfl, hB2⟩
  have bc2 := (bcell hB2).1
  have B2 := hide (B1.out.trans (hB2.mono B1.out.size))
  have hs2 : w.heap.size + 1 < w2.heap.size := by have := hB2.size; first | omega | (simp at this; omega)
  have ht2 : w.heap.size < w2.heap.size := by omega
  clear hB2
  go_wp2
  go_ret
  exact ⟨rfl, B2.out⟩

set_option maxHeartbeats 2000000 in
theorem eqDeedS_row (b off cap b2 off2 cap2 n : Nat) (f : Nat → Deed) (w : World) (hn : n ≤ 1048576) (hf : RowDeed w b off n f) (hf2 : RowDeed w b2 off2 n f) (hm : ∀ i, i < n → FitsDeed (f i)) :
    Calls Tryz.prog 23 #[.slice (some ⟨b, off, none⟩) n cap, .slice (some ⟨b2, off2, none⟩) n cap2] w fun e w' => e = .returned (.bool true) ∧ Below w.heap.size w w' := by
  have HF := hide hf
  have HF2 := hide hf2
  have HM := hide hm
  clear hf hf2 hm
  go_enter Tryz.func23, Tryz.ntmps23
  go_wp2
  go_loopw [5] (fun i wr => ∃ k : Nat, k ≤ n ∧ i = .int .i64 k ∧ Below w.heap.size w wr) (fun i _ => n - (intOf i).toNat)
  case atStart => exact ⟨0, by omega, rfl, Below.refl _ _⟩
  case round =>
    obtain ⟨k, hk, rfl, hB⟩ := hrel
    have HB := hide hB
    have hsz : w.heap.size ≤ wr.heap.size := hB.size
    clear hB
    by_cases hlt : k < n
    · obtain ⟨p0, p1, p2, p3, ⟨a0, cap0, s0, r0⟩, ⟨a1, cap1, s1, r1⟩⟩ := (HF.out.2 k hlt).below HB.out (Nat.le_refl _) HF.out.1
      obtain ⟨q0, q1, q2, q3, ⟨b0, dap0, t0, v0⟩, ⟨b1, dap1, t1, v1⟩⟩ := (HF2.out.2 k hlt).below HB.out (Nat.le_refl _) HF2.out.1
      have HR := hide (show SlIns wr a0 (f k).actN (f k).act ∧ SlLink wr a1 (f k).linksN (f k).links from ⟨r0, r1⟩)
      have HR2 := hide (show SlIns wr b0 (f k).actN (f k).act ∧ SlLink wr b1 (f k).linksN (f k).links from ⟨v0, v1⟩)
      clear r0 r1 v0 v1
      go_wp2_with fail
      go_region_with (go_at_call 44; refine (eqDeed_any (f k) a0 cap0 a1 cap1 b0 dap0 b1 dap1 _ (HM.out k hlt) ?_ ?_ ?_ ?_).mono ?_; exact HR.out.1; exact HR.out.2; exact HR2.out.1; exact HR2.out.2; rintro e w' ⟨rfl, hB'⟩)
      all_goals
        go_wp2
        exact ⟨⟨k + 1, by omega, by go_num, Below.trans (by repeat (first | exact HB.out | apply Below.drew)) (hB'.mono hsz)⟩, by simp [intOf]; omega⟩
    · have e : k = n := by omega
      subst e
      go_wp2
      go_ret
      exact ⟨rfl, HB.out⟩

set_option maxHeartbeats 1000000 in
theorem eqDeedS_nil (a a2 : Option Addr) (cap cap2 : Nat) (w : World) :
    Calls Tryz.prog 23 #[.slice a 0 cap, .slice a2 0 cap2] w fun e w' => e = .returned (.bool true) ∧ w' = w := by
  go_enter Tryz.func23, Tryz.ntmps23
  go_wp2
  go_loop [5] (fun i => i = .int .i64 0) (fun _ => 0)
  case atStart => rfl
  case round =>
    subst hrel
    go_wp2
    go_ret
    exact ⟨rfl, rfl⟩

theorem eqDeedS_any (a a2 : Option Addr) (cap cap2 n : Nat) (f : Nat → Deed) (w : World) (hn : n ≤ 1048576) (h : SlDeed w a n f) (h2 : SlDeed w a2 n f) (hm : ∀ i, i < n → FitsDeed (f i)) :
    Calls Tryz.prog 23 #[.slice a n cap, .slice a2 n cap2] w fun e w' => e = .returned (.bool true) ∧ Below w.heap.size w w' := by
  by_cases hz : n = 0
  · subst hz
    exact (eqDeedS_nil a a2 cap cap2 w).mono fun _ _ ⟨a, b⟩ => ⟨a, by rw [b]; exact Below.refl _ _⟩
  · rcases h with h | ⟨b, off, rfl, hr⟩
    · exact absurd h hz
    · rcases h2 with h | ⟨b2, off2, rfl, hr2⟩
      · exact absurd h hz
      · exact eqDeedS_row b off cap b2 off2 cap2 n f w hn hr hr2 hm

end Go.Proofs.YtfhdecheaeoopaaGreatDoor.Vp

/-
  Data: Account, a struct of one slice of Deed. Written by tools/wrap.py. Parted by tools/splitd.py.
-/
namespace Go.Proofs.YtfhdecheaeoopaaGreatDoor.Vp
open Go.RowKit

set_option maxHeartbeats 1000000 in
theorem eqAccount_any (a a2 : Option Addr) (cap cap2 n : Nat) (f : Nat → Deed) (w : World) (hn : n ≤ 1048576) (h : SlDeed w a n f) (h2 : SlDeed w a2 n f) (hm : ∀ i, i < n → FitsDeed (f i)) :
    Calls Tryz.prog 9 #[.agg #[.slice a n cap], .agg #[.slice a2 n cap2]] w fun e w' => e = .returned (.bool true) ∧ Below w.heap.size w w' := by
  have HF := hide h
  have HF2 := hide h2
  clear h h2
  go_enter Tryz.func9, Tryz.ntmps9
  go_wp2_with fail
  have hA := hide (((Below.refl w.heap.size w).alloc (Nat.le_refl _) (.cells #[.slice a n cap] 30)).alloc (by simp) (.cells #[.slice a2 n cap2] 30))
  refine (eqDeedS_any a a2 cap cap2 n f _ hn (HF.out.below hA.out (Nat.le_refl _)) (HF2.out.below hA.out (Nat.le_refl _)) hm).mono ?_
  rintro e w' ⟨rfl, hB⟩
  go_wp2
  go_ret
  exact ⟨rfl, hA.out.trans (hB.mono (by simp; omega))⟩

end Go.Proofs.YtfhdecheaeoopaaGreatDoor.Vp

/-
  CheckAccount: what it answers.
-/
namespace Go.Proofs.YtfhdecheaeoopaaGreatDoor.Vp
open Go.RowKit

def linkOk (f : Nat → Deed) (p : Nat) (l : Link) : Bool :=
  nameOk l.name && (if l.ask = true then !l.has && decide (0 ≤ l.at_) && decide (l.at_ < (p : Int)) && ((f l.at_.toNat).name.toList == l.name.toList) else decide (l.at_ = 0))
def linksOk (f : Nat → Deed) (p : Nat) (x : Deed) : Nat → Bool
  | 0 => true
  | k + 1 => linksOk f p x k && linkOk f p (x.links k)
def unmadeOk (x : Deed) : Bool := decide (x.code = 0) && decide (x.actN = 0) && decide (x.linksN = 0)
def targetOk (f : Nat → Deed) (p : Nat) (x : Deed) : Bool := decide (0 ≤ x.code) && decide (x.code ≤ 5) && valid x.act x.actN && decide (x.linksN ≤ 200) && linksOk f p x x.linksN
def kindOk (f : Nat → Deed) (p : Nat) (x : Deed) : Bool :=
  if x.kind = 1 then unmadeOk x else if x.kind = 2 then unmadeOk x && decide (x.text.size = 0) else if x.kind = 3 then targetOk f p x else false
def deedOk (f : Nat → Deed) (p : Nat) : Bool := nameOk (f p).name && decide ((f p).text.size ≤ 2000) && kindOk f p (f p)
def nameNew (f : Nat → Deed) (p : Nat) : Nat → Bool
  | 0 => true
  | k + 1 => nameNew f p k && !((f k).name.toList == (f p).name.toList)

/-- The first place below n that is not so, or -1. -/
def firstNo (g : Nat → Bool) : Nat → Int
  | 0 => -1
  | k + 1 => if firstNo g k = -1 then (if g k = true then -1 else k) else firstNo g k
theorem firstNo_all {g : Nat → Bool} {n : Nat} (h : ∀ i, i < n → g i = true) : firstNo g n = -1 := by
  induction n with
  | zero => rfl
  | succ k ih =>
    rw [firstNo, if_pos (ih fun i hi => h i (by omega)), if_pos (h k (by omega))]
theorem firstNo_at {g : Nat → Bool} {n i : Nat} (hi : i < n) (hg : g i = false) (h : ∀ j, j < i → g j = true) : firstNo g n = i := by
  induction n with
  | zero => omega
  | succ k ih =>
    rw [firstNo]
    by_cases e : i = k
    · subst e
      rw [if_pos (firstNo_all h), if_neg (by rw [hg]; simp)]
    · have := ih (by omega)
      rw [this, if_neg (by omega)]
theorem firstNo_ok {g : Nat → Bool} {n : Nat} (h : firstNo g n = -1) : ∀ i, i < n → g i = true := by
  induction n with
  | zero => intro i hi; omega
  | succ k ih =>
    rw [firstNo] at h
    split at h
    · rename_i h1
      intro i hi
      by_cases e : i = k
      · subst e
        cases hg : g i with
        | true => rfl
        | false => rw [hg] at h; simp at h
      · exact ih h1 i (by omega)
    · rename_i h1
      exact absurd h h1
theorem linksOk_at {f : Nat → Deed} {p : Nat} {x : Deed} {n : Nat} (h : linksOk f p x n = true) : ∀ i, i < n → linkOk f p (x.links i) = true := by
  induction n with
  | zero => intro i hi; omega
  | succ k ih =>
    simp only [linksOk, Bool.and_eq_true] at h
    intro i hi
    by_cases e : i = k
    · subst e; exact h.2
    · exact ih h.1 i (by omega)

/-- What the links of a deed list, one after the other. -/
def lks (go : Nat → Nat → (Nat → Bool) → (Nat → Bool) × List (Nat × Nat)) (x : Deed) (d : Nat) (s : Nat → Bool) : Nat → (Nat → Bool) × List (Nat × Nat)
  | 0 => (s, [])
  | j + 1 => if (x.links j).ask = true ∧ (lks go x d s j).1 (x.links j).at_.toNat = false then ((go (x.links j).at_.toNat (d + 1) (lks go x d s j).1).1, (lks go x d s j).2 ++ (go (x.links j).at_.toNat (d + 1) (lks go x d s j).1).2) else lks go x d s j
def put (s : Nat → Bool) (p : Nat) : Nat → Bool := fun q => q == p || s q
/-- A deed listed: the places that are listed then, and what was listed, each with the number of deeds around it. -/
def lst (f : Nat → Deed) : Nat → Nat → Nat → (Nat → Bool) → (Nat → Bool) × List (Nat × Nat)
  | 0, _, _, s => (s, [])
  | k + 1, p, d, s => (put (lks (lst f k) (f p) d s (f p).linksN).1 p, (lks (lst f k) (f p) d s (f p).linksN).2 ++ [(p, d)])
/-- The asks of a deed stand ahead of it. -/
def Ahead (f : Nat → Deed) (n : Nat) : Prop := ∀ p, p < n → ∀ i, i < (f p).linksN → ((f p).links i).ask = true → ((f p).links i).at_.toNat < p ∧ 0 ≤ ((f p).links i).at_
def cnt (s : Nat → Bool) : Nat → Nat
  | 0 => 0
  | k + 1 => cnt s k + (if s k = true then 1 else 0)
theorem cnt_le (s : Nat → Bool) (n : Nat) : cnt s n ≤ n := by
  induction n with
  | zero => simp [cnt]
  | succ k ih => rw [cnt]; split <;> omega
theorem cnt_congr {s s' : Nat → Bool} {n : Nat} (h : ∀ q, q < n → s q = s' q) : cnt s n = cnt s' n := by
  induction n with
  | zero => rfl
  | succ k ih => rw [cnt, cnt, ih fun q hq => h q (by omega), h k (by omega)]
theorem cnt_put {s : Nat → Bool} {p n : Nat} (hp : p < n) (h : s p = false) : cnt (put s p) n = cnt s n + 1 := by
  induction n with
  | zero => omega
  | succ k ih =>
    rw [cnt, cnt]
    by_cases e : p = k
    · subst e
      have h1 : cnt (put s p) p = cnt s p := cnt_congr fun q hq => by simp [put]; omega
      simp [h1, put, h]
    · have h1 : put s p k = s k := by simp [put]; omega
      rw [ih (by omega), h1]
      omega
/-- What a listing of p makes of the places: p is listed, none behind it is touched, each is listed once. -/
structure Lsd (n p d : Nat) (s : Nat → Bool) (r : (Nat → Bool) × List (Nat × Nat)) : Prop where
  far : ∀ q, p < q → r.1 q = s q
  old : ∀ q, s q = true → r.1 q = true
  num : cnt r.1 n = cnt s n + r.2.length
  last : ∃ o, r.2 = o ++ [(p, d)]
  le : ∀ x ∈ r.2, x.1 ≤ p
theorem lks_inv {f : Nat → Deed} {n k p d : Nat} {s : Nat → Bool} (hA : Ahead f n) (hp : p < n) (go : ∀ q d s, q < p → s q = false → Lsd n q d s (lst f k q d s)) :
    ∀ j, j ≤ (f p).linksN → (∀ q, p ≤ q → (lks (lst f k) (f p) d s j).1 q = s q) ∧ (∀ q, s q = true → (lks (lst f k) (f p) d s j).1 q = true) ∧ cnt (lks (lst f k) (f p) d s j).1 n = cnt s n + (lks (lst f k) (f p) d s j).2.length ∧ ∀ x ∈ (lks (lst f k) (f p) d s j).2, x.1 < p
  | 0, _ => ⟨fun _ _ => rfl, fun _ h => h, by simp [lks], by simp [lks]⟩
  | j + 1, hj => by
    obtain ⟨h1, h2, h3, h4⟩ := lks_inv (d := d) (s := s) hA hp go j (by omega)
    rw [lks]
    split
    · rename_i hc
      have ha := (hA p hp j (by omega) hc.1).1
      have g := go _ (d + 1) _ ha hc.2
      refine ⟨fun q hq => (g.far q (by omega)).trans (h1 q hq), fun q hq => g.old q (h2 q hq), ?_, fun x hx => ?_⟩
      · show cnt (lst f k _ (d + 1) _).1 n = _
        rw [g.num, h3, List.length_append]
        omega
      · rcases List.mem_append.1 hx with hx | hx
        · exact h4 x hx
        · have := g.le x hx
          omega
    · exact ⟨h1, h2, h3, h4⟩
theorem lst_inv {f : Nat → Deed} {n : Nat} (hA : Ahead f n) : ∀ k p d s, p < k → p < n → s p = false → Lsd n p d s (lst f k p d s)
  | 0, _, _, _, h, _, _ => absurd h (Nat.not_lt_zero _)
  | k + 1, p, d, s, hk, hn, hs => by
    obtain ⟨h1, h2, h3, h4⟩ := lks_inv (d := d) (s := s) hA hn (fun q d s hq hs => lst_inv hA k q d s (by omega) (by omega) hs) (f p).linksN (Nat.le_refl _)
    have hp := (h1 p (Nat.le_refl _)).trans hs
    refine ⟨fun q hq => ?_, fun q hq => ?_, ?_, ⟨_, rfl⟩, fun x hx => ?_⟩
    · show put _ p q = s q
      rw [put, h1 q (by omega)]
      simp; omega
    · show put _ p q = true
      rw [put, h2 q hq]
      simp
    · show cnt (put _ p) n = _
      rw [cnt_put hn hp, h3]
      simp [lst, List.length_append]
      omega
    · rcases List.mem_append.1 hx with hx | hx
      · exact Nat.le_of_lt (h4 x hx)
      · simp at hx
        subst hx
        exact Nat.le_refl _
/-- It hangs on no place behind. -/
theorem lst_put {f : Nat → Deed} {n : Nat} (hA : Ahead f n) : ∀ k p d s q, p < n → p < q → lst f k p d (put s q) = (put (lst f k p d s).1 q, (lst f k p d s).2)
  | 0, _, _, _, _, _, _ => rfl
  | k + 1, p, d, s, q, hn, hq => by
    have key : ∀ j, j ≤ (f p).linksN → lks (lst f k) (f p) d (put s q) j = (put (lks (lst f k) (f p) d s j).1 q, (lks (lst f k) (f p) d s j).2) := by
      intro j
      induction j with
      | zero => intro _; rfl
      | succ j ih =>
        intro hj
        have e := ih (by omega)
        rw [lks, lks, e]
        by_cases hk : ((f p).links j).ask = true
        · have ha := (hA p hn j (by omega) hk).1
          have e2 : put (lks (lst f k) (f p) d s j).1 q ((f p).links j).at_.toNat = (lks (lst f k) (f p) d s j).1 ((f p).links j).at_.toNat := by simp [put]; omega
          simp only [e2, hk, true_and]
          split
          · rw [lst_put hA k _ (d + 1) _ q (by omega) (by omega)]
          · rfl
        · rw [if_neg (fun h => hk h.1), if_neg (fun h => hk h.1)]
    have e := key (f p).linksN (Nat.le_refl _)
    rw [lst, lst, e]
    simp only [Prod.mk.injEq, and_true]
    funext x
    simp only [put]
    cases h1 : x == p <;> cases h2 : x == q <;> simp
def offAt : Nat → List (Nat × Nat) → Int
  | _, [] => -1
  | i, x :: xs => if x.1 = i then offAt (i + 1) xs else i
def deepAt (f : Nat → Deed) : List (Nat × Nat) → Int
  | [] => -1
  | x :: xs => if (f x.1).kind = 3 ∧ 60 ≤ x.2 then x.1 else deepAt f xs
def listing (f : Nat → Deed) (n : Nat) : List (Nat × Nat) := (lst f n (n - 1) 0 (fun _ => false)).2
/-- The code and the place. -/
def accC (f : Nat → Deed) (n : Nat) : Int × Int :=
  if n = 0 ∨ 400 < n then (1, 0) else
  if firstNo (deedOk f) n ≠ -1 then (2, firstNo (deedOk f) n) else
  if firstNo (fun p => nameNew f p p) n ≠ -1 then (3, firstNo (fun p => nameNew f p p) n) else
  if offAt 0 (listing f n) ≠ -1 then (4, offAt 0 (listing f n)) else
  if deepAt f (listing f n) ≠ -1 then (5, deepAt f (listing f n)) else (0, 0)
theorem ahead_of {f : Nat → Deed} {n : Nat} (h : firstNo (deedOk f) n = -1) : Ahead f n := by
  intro p hp i hi ha
  have h1 := firstNo_ok h p hp
  simp only [deedOk, Bool.and_eq_true, kindOk] at h1
  obtain ⟨_, h2⟩ := h1
  split at h2
  · simp [unmadeOk] at h2
    omega
  · split at h2
    · simp [unmadeOk] at h2
      omega
    · split at h2
      · simp only [targetOk, Bool.and_eq_true] at h2
        have h3 := linksOk_at h2.2 i hi
        simp only [linkOk, ha, if_true, Bool.and_eq_true, decide_eq_true_eq] at h3
        omega
      · cases h2

end Go.Proofs.YtfhdecheaeoopaaGreatDoor.Vp

/-
  ValidProgram of a program that may have no instruction.
-/
namespace Go.Proofs.YtfhdecheaeoopaaGreatDoor.Vp
open Go.RowKit

theorem valid_zero (f : Nat → Ins) : valid f 0 = false := by simp [valid]
theorem implValid_sl (a : Option Addr) (n cap : Nat) (f : Nat → Ins) (w : World) (hn : n ≤ 1048576) (hv : SlIns w a n f) (hT : Tab w) :
    Calls Tryz.prog 62 #[.agg #[.slice a n cap]] w fun e w' => e = .returned (.bool (valid f n)) ∧ Below w.heap.size w w' := by
  rcases hv with rfl | ⟨b, off, rfl, hr⟩
  · exact implValid_no a 0 cap f w (by omega) (by simp)
  · exact implValid_any b off n cap f w hn hr.1 hr.2 hT
set_option maxHeartbeats 1000000 in
theorem specValid_nil (a : Option Addr) (cap : Nat) (f : Nat → Ins) (w : World) : Calls Tryz.prog 48 #[.agg #[.slice a 0 cap]] w fun e w' => e = .returned (.bool (valid f 0)) ∧ Below w.heap.size w w' := by
  rw [valid_zero]
  have A0 := hide ((Below.refl w.heap.size w).alloc (Nat.le_refl _) (.cells #[.slice a 0 cap] 51))
  go_enter Tryz.func48, Tryz.ntmps48
  go_wp2
  go_loop [3] (fun i => i = .int .i64 0) (fun _ => 0)
  case atStart => rfl
  case round =>
    subst hrel
    go_wp2
    go_ret
    exact ⟨rfl, A0.out⟩
theorem specValid_sl (a : Option Addr) (n cap : Nat) (f : Nat → Ins) (w : World) (hn : n ≤ 1048576) (hv : SlIns w a n f) (hs : ∀ i, i < n → (f i).s.size ≤ maxLen) :
    Calls Tryz.prog 48 #[.agg #[.slice a n cap]] w fun e w' => e = .returned (.bool (valid f n)) ∧ Below w.heap.size w w' := by
  rcases hv with rfl | ⟨b, off, rfl, hr⟩
  · exact specValid_nil a cap f w
  · exact specValid_row b off n cap f w hn hr.1 hr.2 hs

end Go.Proofs.YtfhdecheaeoopaaGreatDoor.Vp

/-
  isName leaves the world as it is.
-/
namespace Go.Proofs.YtfhdecheaeoopaaGreatDoor.Vp
open Go.RowKit

set_option maxHeartbeats 1000000 in
theorem isName_same (s : ByteArray) (w : World) : Calls Tryz.prog 87 #[.string s] w fun e w' => e = .returned (.bool (nameOk s)) ∧ w' = w := by
  by_cases h1 : 1 ≤ (s.size : Int)
  · by_cases h2 : (s.size : Int) ≤ 60
    · have HV : Hid (nameOk s = nameTo s s.size) := by
        show nameOk s = nameTo s s.size
        unfold nameOk
        rw [show decide (1 ≤ s.size ∧ s.size ≤ 60) = true by simp; omega, Bool.true_and]
      go_enter Tryz.func87, Tryz.ntmps87
      go_wp2
      go_loopw [14] (fun i wr => ∃ k : Nat, k ≤ s.size ∧ i = .int .i64 k ∧ nameTo s k = true ∧ wr = w) (fun i _ => s.size - (intOf i).toNat)
      case atStart => exact ⟨0, by omega, rfl, rfl, rfl⟩
      case round =>
        obtain ⟨k, hk, rfl, hok, hB⟩ := hrel
        have HB := hide hB
        have HK := hide hok
        clear hB hok
        by_cases hlt : k < s.size
        · by_cases p1 : 33 ≤ (s[k].toNat : Int)
          · by_cases p2 : (s[k].toNat : Int) ≤ 126
            · go_wp2
              exact ⟨⟨k + 1, by omega, by go_num, by rw [nameTo_succ hlt, HK.out]; simp; omega, HB.out⟩, by simp [intOf]; omega⟩
            · go_wp2
              go_ret
              exact ⟨ret_bool (by rw [HV.out, nameTo_false hlt (by omega)]), HB.out⟩
          · go_wp2
            go_ret
            exact ⟨ret_bool (by rw [HV.out, nameTo_false hlt (by omega)]), HB.out⟩
        · have e : k = s.size := by omega
          subst e
          go_wp2
          go_ret
          exact ⟨ret_bool (by rw [HV.out, HK.out]), HB.out⟩
    · have e : nameOk s = false := by
        unfold nameOk
        rw [show decide (1 ≤ s.size ∧ s.size ≤ 60) = false by simp; omega, Bool.false_and]
      rw [e]
      clear e
      go_enter Tryz.func87, Tryz.ntmps87
      go_wp2
      go_ret
      exact ⟨rfl, rfl⟩
  · have e : nameOk s = false := by
      unfold nameOk
      rw [show decide (1 ≤ s.size ∧ s.size ≤ 60) = false by simp; omega, Bool.false_and]
    rw [e]
    clear e
    go_enter Tryz.func87, Tryz.ntmps87
    go_wp2
    go_ret
    exact ⟨rfl, rfl⟩

end Go.Proofs.YtfhdecheaeoopaaGreatDoor.Vp

/-
  impl: what a deed replies.
-/
namespace Go.Proofs.YtfhdecheaeoopaaGreatDoor.Vp
open Go.RowKit

set_option maxHeartbeats 1000000 in
theorem reply_any (x : Deed) (a0 : Option Addr) (cap0 : Nat) (a1 : Option Addr) (cap1 : Nat) (w : World) :
    Calls Tryz.prog 117 #[.agg #[.string x.name, .int .i64 x.kind, .int .i64 x.code, .string x.text, .slice a0 x.actN cap0, .slice a1 x.linksN cap1]] w fun e w' => e = .returned (.agg #[.bool (decide (¬ x.kind = 2)), .int .i64 x.code, .string x.text]) ∧ Below w.heap.size w w' := by
  have A0 := hide ((Below.refl w.heap.size w).alloc (Nat.le_refl _) (.cells #[.string x.name, .int .i64 x.kind, .int .i64 x.code, .string x.text, .slice a0 x.actN cap0, .slice a1 x.linksN cap1] 54))
  obtain ⟨r, hr⟩ : ∃ r, r = decide (¬ x.kind = 2) := ⟨_, rfl⟩
  rw [← hr]
  have HR := hide hr
  clear hr
  go_enter Tryz.func117, Tryz.ntmps117
  by_cases hk : x.kind = 2
  · obtain rfl : r = false := by rw [HR.out]; simp [hk]
    go_wp2
    exact bodyPost_ret (v := .agg #[.bool false, .int .i64 x.code, .string x.text]) (by simp [results, Tryz.results117, go_sem]) rfl ⟨rfl, by
      repeat (first | exact A0.out | exact Below.refl _ _ | refine Below.alloc ?_ (by first | (simp; done) | (simp; omega)) _)⟩
  · obtain rfl : r = true := by rw [HR.out]; simp [hk]
    go_wp2
    exact bodyPost_ret (v := .agg #[.bool true, .int .i64 x.code, .string x.text]) (by simp [results, Tryz.results117, go_sem, hk]) rfl ⟨rfl, by
      repeat (first | exact A0.out | exact Below.refl _ _ | refine Below.alloc ?_ (by first | (simp; done) | (simp; omega)) _)⟩

end Go.Proofs.YtfhdecheaeoopaaGreatDoor.Vp
