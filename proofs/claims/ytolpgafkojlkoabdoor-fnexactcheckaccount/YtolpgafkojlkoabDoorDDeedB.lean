/-
  Data: Deed: sizes, copies, comparisons; its cells hold slices. Written by tools/nest.py. Parted by tools/splitd.py.
-/
import Derived.Test.YtolpgafkojlkoabDoorDInsB
import Derived.Test.YtolpgafkojlkoabDoorDLinkB
import Derived.Test.YtolpgafkojlkoabDoorDProgramB
namespace Go.Proofs.YtolpgafkojlkoabDoor.Vp
open Go.RowKit

structure Deed where
  name : ByteArray
  kind : Int
  code : Int
  text : ByteArray
  actN : Nat
  act : Nat → Ins
  linksN : Nat
  links : Nat → Link
/-- What each reading gives: no text is too long for an int, no slice. -/
def SizedDeed (x : Deed) : Prop := x.name.size ≤ maxLen ∧ x.text.size ≤ maxLen ∧ ((x.actN : Int) ≤ 9223372036854775807 ∧ ∀ j, j < x.actN → (x.act j).s.size ≤ maxLen) ∧ ((x.linksN : Int) ≤ 9223372036854775807 ∧ ∀ j, j < x.linksN → (x.links j).name.size ≤ maxLen)
/-- No slice is longer than what the law lets in. -/
def FitsDeed (x : Deed) : Prop := x.actN ≤ 1048576 ∧ x.linksN ≤ 1048576

/-- The cells of element i of a row that begins at off in block b. -/
def AtDeed (w : World) (b off i : Nat) (x : Deed) : Prop :=
  w.cell? ⟨b, off + i * 6, none⟩ = some (.string x.name) ∧ w.cell? ⟨b, off + i * 6 + 1, none⟩ = some (.int .i64 x.kind) ∧ w.cell? ⟨b, off + i * 6 + 2, none⟩ = some (.int .i64 x.code) ∧ w.cell? ⟨b, off + i * 6 + 3, none⟩ = some (.string x.text) ∧ (∃ a cap, w.cell? ⟨b, off + i * 6 + 4, none⟩ = some (.slice a x.actN cap) ∧ SlIns w a x.actN x.act) ∧ (∃ a cap, w.cell? ⟨b, off + i * 6 + 5, none⟩ = some (.slice a x.linksN cap) ∧ SlLink w a x.linksN x.links)
theorem AtDeed.below {w w' : World} {B b off i : Nat} {x : Deed} (h : AtDeed w b off i x) (hb : Below B w w') (hB : w.heap.size ≤ B) (hl : b < w.heap.size) : AtDeed w' b off i x := by
  obtain ⟨p0, p1, p2, p3, ⟨a0, cap0, s0, r0⟩, ⟨a1, cap1, s1, r1⟩⟩ := h
  refine ⟨(hb.cell (p := ⟨b, _, none⟩) (Nat.lt_of_lt_of_le hl hB)).trans p0, (hb.cell (p := ⟨b, _, none⟩) (Nat.lt_of_lt_of_le hl hB)).trans p1, (hb.cell (p := ⟨b, _, none⟩) (Nat.lt_of_lt_of_le hl hB)).trans p2, (hb.cell (p := ⟨b, _, none⟩) (Nat.lt_of_lt_of_le hl hB)).trans p3, ⟨a0, cap0, (hb.cell (p := ⟨b, _, none⟩) (Nat.lt_of_lt_of_le hl hB)).trans s0, r0.below hb hB⟩, ⟨a1, cap1, (hb.cell (p := ⟨b, _, none⟩) (Nat.lt_of_lt_of_le hl hB)).trans s1, r1.below hb hB⟩⟩
def RowDeed (w : World) (b off n : Nat) (f : Nat → Deed) : Prop := b < w.heap.size ∧ ∀ i, i < n → AtDeed w b off i (f i)
theorem RowDeed.below {w w' : World} {B b off n : Nat} {f : Nat → Deed} (h : RowDeed w b off n f) (hb : Below B w w') (hB : w.heap.size ≤ B) : RowDeed w' b off n f :=
  ⟨Nat.lt_of_lt_of_le h.1 hb.size, fun i hi => (h.2 i hi).below hb hB h.1⟩
def SlDeed (w : World) (a : Option Addr) (n : Nat) (f : Nat → Deed) : Prop := n = 0 ∨ ∃ b off, a = some ⟨b, off, none⟩ ∧ RowDeed w b off n f
theorem SlDeed.below {w w' : World} {B : Nat} {a : Option Addr} {n : Nat} {f : Nat → Deed} (h : SlDeed w a n f) (hb : Below B w w') (hB : w.heap.size ≤ B) : SlDeed w' a n f := by
  rcases h with h | ⟨b, off, hv, hr⟩
  · exact .inl h
  · exact .inr ⟨b, off, hv, hr.below hb hB⟩
theorem RowDeed.sl {w : World} {b off n : Nat} {f : Nat → Deed} (h : RowDeed w b off n f) : SlDeed w (some ⟨b, off, none⟩) n f := .inr ⟨b, off, rfl, h⟩

theorem infoDeed : (Tryd.prog.info? 41).map (fun i => (i.zero, i.size, i.bytes)) = some (some (.agg #[.string ⟨#[]⟩, .int .i64 0, .int .i64 0, .string ⟨#[]⟩, .slice none 0 0, .slice none 0 0]), 6, 96) := by kernel_rfl
def zerosDeed (n : Nat) : Array Value := madeCells (Value.agg #[.string ⟨#[]⟩, .int .i64 0, .int .i64 0, .string ⟨#[]⟩, .slice none 0 0, .slice none 0 0]).cells (n * 6)
theorem mkDeed (n : Nat) (hn : n ≤ 1048576) (w : World) : (Instr.makeSlice 28 (.int .i64 (n : Int)) (.int .i64 (n : Int))).run Tryd.prog w = .ok (.slice (some ⟨w.heap.size, 0, none⟩) n n) (w.alloc (.cells (zerosDeed n) 41)) := by
  obtain ⟨i, hi, hz⟩ := Option.map_eq_some_iff.1 infoDeed
  simp only [Prod.mk.injEq] at hz
  obtain ⟨h1, h2, h3⟩ := hz
  have h := run_make (P := Tryd.prog) w 28 41 i _ Tryd.underlying28 hi h1 .i64 .i64 n n (by omega) (Int.le_refl _) (by rw [h3]; omega) (by omega)
  rw [h2] at h
  simpa [zerosDeed] using h

/-- Block g is a row of n elements' cells; the first k are those of f, their slices rows of blocks behind g. -/
def OwnDeed (w : World) (g n k : Nat) (f : Nat → Deed) : Prop :=
  ∃ (F : Nat → Value) (G0 G1 : Nat → Nat), w.rowIs g 41 (n * 6) F ∧ ∀ i, i < k → F (i * 6) = .string (f i).name ∧ F (i * 6 + 1) = .int .i64 (f i).kind ∧ F (i * 6 + 2) = .int .i64 (f i).code ∧ F (i * 6 + 3) = .string (f i).text ∧ (F (i * 6 + 4) = .slice (some ⟨G0 i, 0, none⟩) (f i).actN (f i).actN ∧ RowIns w (G0 i) 0 (f i).actN (f i).act ∧ g < G0 i) ∧ (F (i * 6 + 5) = .slice (some ⟨G1 i, 0, none⟩) (f i).linksN (f i).linksN ∧ RowLink w (G1 i) 0 (f i).linksN (f i).links ∧ g < G1 i)
theorem OwnDeed.lt {w : World} {g n k : Nat} {f : Nat → Deed} (h : OwnDeed w g n k f) : g < w.heap.size := by
  obtain ⟨F, G0, G1, hr, _⟩ := h
  exact hr.lt
theorem ownDeed_start (w : World) (n : Nat) (f : Nat → Deed) : OwnDeed (w.alloc (.cells (zerosDeed n) 41)) w.heap.size n 0 f := by
  have hz : (zerosDeed n).size = n * 6 := size_madeCells _ _
  have h := World.rowIs_alloc w (zerosDeed n) 41 (fun i => (zerosDeed n)[i]?.getD undef) (fun i hi => by rw [Array.getElem?_eq_getElem hi]; rfl)
  rw [hz] at h
  exact ⟨_, fun _ => 0, fun _ => 0, h, fun i hi => absurd hi (Nat.not_lt_zero _)⟩
theorem OwnDeed.step {w : World} {g n k g0 g1 : Nat} {f : Nat → Deed} (h : OwnDeed w g n k f) (R0 : RowIns w g0 0 (f k).actN (f k).act) (hg0 : g < g0) (R1 : RowLink w g1 0 (f k).linksN (f k).links) (hg1 : g < g1) :
    OwnDeed ((((((w.setCell ⟨g, k * 6, none⟩ (.string (f k).name)).setCell ⟨g, k * 6 + 1, none⟩ (.int .i64 (f k).kind)).setCell ⟨g, k * 6 + 2, none⟩ (.int .i64 (f k).code)).setCell ⟨g, k * 6 + 3, none⟩ (.string (f k).text)).setCell ⟨g, k * 6 + 4, none⟩ (.slice (some ⟨g0, 0, none⟩) (f k).actN (f k).actN)).setCell ⟨g, k * 6 + 5, none⟩ (.slice (some ⟨g1, 0, none⟩) (f k).linksN (f k).linksN)) g n (k + 1) f := by
  obtain ⟨F, G0, G1, hr, hF⟩ := h
  refine ⟨_, fun i => if i = k then g0 else G0 i, fun i => if i = k then g1 else G1 i, ((((((hr.set _ _).set _ _).set _ _).set _ _).set _ _).set _ _), fun i hi => ?_⟩
  by_cases e : i = k
  · subst e
    exact ⟨by simp, by simp, by simp, by simp, ⟨by simp, by dsimp only; rw [if_pos rfl]; exact ((((((R0).setOther _ (by first | (simp; omega) | simp) _).setOther _ (by first | (simp; omega) | simp) _).setOther _ (by first | (simp; omega) | simp) _).setOther _ (by first | (simp; omega) | simp) _).setOther _ (by first | (simp; omega) | simp) _).setOther _ (by first | (simp; omega) | simp) _, by dsimp only; rw [if_pos rfl]; exact hg0⟩, ⟨by simp, by dsimp only; rw [if_pos rfl]; exact ((((((R1).setOther _ (by first | (simp; omega) | simp) _).setOther _ (by first | (simp; omega) | simp) _).setOther _ (by first | (simp; omega) | simp) _).setOther _ (by first | (simp; omega) | simp) _).setOther _ (by first | (simp; omega) | simp) _).setOther _ (by first | (simp; omega) | simp) _, by dsimp only; rw [if_pos rfl]; exact hg1⟩⟩
  · obtain ⟨p0, p1, p2, p3, ⟨s0, r0, u0⟩, ⟨s1, r1, u1⟩⟩ := hF i (by omega)
    refine ⟨?_, ?_, ?_, ?_, ?_, ?_⟩
    · show (if _ then _ else if _ then _ else if _ then _ else if _ then _ else if _ then _ else if _ then _ else _) = _
      rw [if_neg (by omega), if_neg (by omega), if_neg (by omega), if_neg (by omega), if_neg (by omega), if_neg (by omega), p0]
    · show (if _ then _ else if _ then _ else if _ then _ else if _ then _ else if _ then _ else if _ then _ else _) = _
      rw [if_neg (by omega), if_neg (by omega), if_neg (by omega), if_neg (by omega), if_neg (by omega), if_neg (by omega), p1]
    · show (if _ then _ else if _ then _ else if _ then _ else if _ then _ else if _ then _ else if _ then _ else _) = _
      rw [if_neg (by omega), if_neg (by omega), if_neg (by omega), if_neg (by omega), if_neg (by omega), if_neg (by omega), p2]
    · show (if _ then _ else if _ then _ else if _ then _ else if _ then _ else if _ then _ else if _ then _ else _) = _
      rw [if_neg (by omega), if_neg (by omega), if_neg (by omega), if_neg (by omega), if_neg (by omega), if_neg (by omega), p3]
    · dsimp only
      rw [if_neg e]
      refine ⟨?_, ((((((r0).setOther _ (by first | (simp; omega) | simp) _).setOther _ (by first | (simp; omega) | simp) _).setOther _ (by first | (simp; omega) | simp) _).setOther _ (by first | (simp; omega) | simp) _).setOther _ (by first | (simp; omega) | simp) _).setOther _ (by first | (simp; omega) | simp) _, u0⟩
      show (if _ then _ else if _ then _ else if _ then _ else if _ then _ else if _ then _ else if _ then _ else _) = _
      rw [if_neg (by omega), if_neg (by omega), if_neg (by omega), if_neg (by omega), if_neg (by omega), if_neg (by omega), s0]
    · dsimp only
      rw [if_neg e]
      refine ⟨?_, ((((((r1).setOther _ (by first | (simp; omega) | simp) _).setOther _ (by first | (simp; omega) | simp) _).setOther _ (by first | (simp; omega) | simp) _).setOther _ (by first | (simp; omega) | simp) _).setOther _ (by first | (simp; omega) | simp) _).setOther _ (by first | (simp; omega) | simp) _, u1⟩
      show (if _ then _ else if _ then _ else if _ then _ else if _ then _ else if _ then _ else if _ then _ else _) = _
      rw [if_neg (by omega), if_neg (by omega), if_neg (by omega), if_neg (by omega), if_neg (by omega), if_neg (by omega), s1]
theorem OwnDeed.below {w w' : World} {g n k : Nat} {f : Nat → Deed} {B : Nat} (h : OwnDeed w g n k f) (hb : Below B w w') (hB : w.heap.size ≤ B) : OwnDeed w' g n k f := by
  have hl := h.lt
  obtain ⟨F, G0, G1, hr, hF⟩ := h
  refine ⟨F, G0, G1, hr.of_block (hb.block g (Nat.lt_of_lt_of_le hl hB)), fun i hi => ?_⟩
  obtain ⟨p0, p1, p2, p3, ⟨s0, r0, u0⟩, ⟨s1, r1, u1⟩⟩ := hF i hi
  exact ⟨p0, p1, p2, p3, ⟨s0, r0.below hb hB, u0⟩, ⟨s1, r1.below hb hB, u1⟩⟩
theorem OwnDeed.setOther {w : World} {g n k : Nat} {f : Nat → Deed} (h : OwnDeed w g n k f) (p : Addr) (hp : p.block < g) (v : Value) : OwnDeed (w.setCell p v) g n k f := by
  obtain ⟨F, G0, G1, hr, hF⟩ := h
  refine ⟨F, G0, G1, hr.setOther (by omega) v, fun i hi => ?_⟩
  obtain ⟨p0, p1, p2, p3, ⟨s0, r0, u0⟩, ⟨s1, r1, u1⟩⟩ := hF i hi
  exact ⟨p0, p1, p2, p3, ⟨s0, r0.setOther p (by omega) v, u0⟩, ⟨s1, r1.setOther p (by omega) v, u1⟩⟩
theorem OwnDeed.row {w : World} {g n : Nat} {f : Nat → Deed} (h : OwnDeed w g n n f) : RowDeed w g 0 n f := by
  obtain ⟨F, G0, G1, hr, hF⟩ := h
  refine ⟨hr.lt, fun i hi => ?_⟩
  obtain ⟨p0, p1, p2, p3, ⟨s0, r0, u0⟩, ⟨s1, r1, u1⟩⟩ := hF i hi
  refine ⟨?_, ?_, ?_, ?_, ?_, ?_⟩
  · rw [Nat.zero_add, hr.cell (by omega), p0]
  · rw [Nat.zero_add, hr.cell (by omega), p1]
  · rw [Nat.zero_add, hr.cell (by omega), p2]
  · rw [Nat.zero_add, hr.cell (by omega), p3]
  · exact ⟨_, _, by rw [Nat.zero_add, hr.cell (by omega), s0], r0.sl⟩
  · exact ⟨_, _, by rw [Nat.zero_add, hr.cell (by omega), s1], r1.sl⟩

set_option maxHeartbeats 2000000 in
theorem eqDeed_any (x : Deed) (a0 : Option Addr) (cap0 : Nat) (a1 : Option Addr) (cap1 : Nat) (b0 : Option Addr) (dap0 : Nat) (b1 : Option Addr) (dap1 : Nat) (w : World) (hfit : FitsDeed x) (hv0 : SlIns w a0 x.actN x.act) (hv1 : SlLink w a1 x.linksN x.links) (hu0 : SlIns w b0 x.actN x.act) (hu1 : SlLink w b1 x.linksN x.links) :
    Calls Tryd.prog 26 #[.agg #[.string x.name, .int .i64 x.kind, .int .i64 x.code, .string x.text, .slice a0 x.actN cap0, .slice a1 x.linksN cap1], .agg #[.string x.name, .int .i64 x.kind, .int .i64 x.code, .string x.text, .slice b0 x.actN dap0, .slice b1 x.linksN dap1]] w fun e w' => e = .returned (.bool true) ∧ Below w.heap.size w w' := by
  have V0 := hide hv0
  have V1 := hide hv1
  clear hv0 hv1
  have U0 := hide hu0
  have U1 := hide hu1
  clear hu0 hu1
  have hfit := hide hfit
  have B0 : Hid (Below w.heap.size w ((w.alloc (.cells #[.string x.name, .int .i64 x.kind, .int .i64 x.code, .string x.text, .slice a0 x.actN cap0, .slice a1 x.linksN cap1] 41)).alloc (.cells #[.string x.name, .int .i64 x.kind, .int .i64 x.code, .string x.text, .slice b0 x.actN dap0, .slice b1 x.linksN dap1] 41))) := ((Below.refl _ _).alloc (Nat.le_refl _) _).alloc (by simp) _
  go_enter Tryd.func26, Tryd.ntmps26
  go_wp2_with fail
  refine (eqProgram_any a0 b0 cap0 dap0 x.actN x.act _ hfit.1 (V0.below B0 (Nat.le_refl _)) (U0.below B0 (Nat.le_refl _))).mono ?_
  rintro e w1 ⟨rfl, hB1⟩
  have bc1 := (bcell hB1).1
  have B1 := hide (B0.trans (hB1.mono B0.size))
  have hs1 : w.heap.size + 1 < w1.heap.size := by have := hB1.size; first | omega | (simp at this; omega)
  have ht1 : w.heap.size < w1.heap.size := by omega
  clear hB1
  go_wp2_with fail
  refine (eqLinkS_any a1 b1 cap1 dap1 x.linksN x.links _ hfit.2 (V1.below B1 (Nat.le_refl _)) (U1.below B1 (Nat.le_refl _))).mono ?_
  rintro e w2 ⟨rfl, hB2⟩
  have bc2 := (bcell hB2).1
  have B2 := hide (B1.trans (hB2.mono B1.size))
  have hs2 : w.heap.size + 1 < w2.heap.size := by have := hB2.size; first | omega | (simp at this; omega)
  have ht2 : w.heap.size < w2.heap.size := by omega
  clear hB2
  go_wp2
  go_ret
  exact ⟨rfl, B2⟩

set_option maxHeartbeats 2000000 in
theorem eqDeedS_row (b off cap b2 off2 cap2 n : Nat) (f : Nat → Deed) (w : World) (hn : n ≤ 1048576) (hf : RowDeed w b off n f) (hf2 : RowDeed w b2 off2 n f) (hm : ∀ i, i < n → FitsDeed (f i)) :
    Calls Tryd.prog 17 #[.slice (some ⟨b, off, none⟩) n cap, .slice (some ⟨b2, off2, none⟩) n cap2] w fun e w' => e = .returned (.bool true) ∧ Below w.heap.size w w' := by
  have HF := hide hf
  have HF2 := hide hf2
  have HM := hide hm
  clear hf hf2 hm
  go_enter Tryd.func17, Tryd.ntmps17
  go_wp2
  go_loopw [5] (fun i wr => ∃ k : Nat, k ≤ n ∧ i = .int .i64 k ∧ Below w.heap.size w wr) (fun i _ => n - (intOf i).toNat)
  case atStart => exact ⟨0, by omega, rfl, Below.refl _ _⟩
  case round =>
    obtain ⟨k, hk, rfl, hB⟩ := hrel
    have HB := hide hB
    have hsz : w.heap.size ≤ wr.heap.size := hB.size
    clear hB
    by_cases hlt : k < n
    · obtain ⟨p0, p1, p2, p3, ⟨a0, cap0, s0, r0⟩, ⟨a1, cap1, s1, r1⟩⟩ := (HF.2 k hlt).below HB (Nat.le_refl _) HF.1
      obtain ⟨q0, q1, q2, q3, ⟨b0, dap0, t0, v0⟩, ⟨b1, dap1, t1, v1⟩⟩ := (HF2.2 k hlt).below HB (Nat.le_refl _) HF2.1
      have HR := hide (show SlIns wr a0 (f k).actN (f k).act ∧ SlLink wr a1 (f k).linksN (f k).links from ⟨r0, r1⟩)
      have HR2 := hide (show SlIns wr b0 (f k).actN (f k).act ∧ SlLink wr b1 (f k).linksN (f k).links from ⟨v0, v1⟩)
      clear r0 r1 v0 v1
      go_wp2_with fail
      go_region_with (go_at_call 26; refine (eqDeed_any (f k) a0 cap0 a1 cap1 b0 dap0 b1 dap1 _ (HM k hlt) ?_ ?_ ?_ ?_).mono ?_; exact HR.1; exact HR.2; exact HR2.1; exact HR2.2; rintro e w' ⟨rfl, hB'⟩)
      all_goals
        go_wp2
        exact ⟨⟨k + 1, by omega, by go_num, Below.trans (by repeat (first | exact HB | apply Below.drew)) (hB'.mono hsz)⟩, by simp [intOf]; omega⟩
    · have e : k = n := by omega
      subst e
      go_wp2
      go_ret
      exact ⟨rfl, HB⟩

set_option maxHeartbeats 1000000 in
theorem eqDeedS_nil (a a2 : Option Addr) (cap cap2 : Nat) (w : World) :
    Calls Tryd.prog 17 #[.slice a 0 cap, .slice a2 0 cap2] w fun e w' => e = .returned (.bool true) ∧ w' = w := by
  go_enter Tryd.func17, Tryd.ntmps17
  go_wp2
  go_loop [5] (fun i => i = .int .i64 0) (fun _ => 0)
  case atStart => rfl
  case round =>
    subst hrel
    go_wp2
    go_ret
    exact ⟨rfl, rfl⟩

theorem eqDeedS_any (a a2 : Option Addr) (cap cap2 n : Nat) (f : Nat → Deed) (w : World) (hn : n ≤ 1048576) (h : SlDeed w a n f) (h2 : SlDeed w a2 n f) (hm : ∀ i, i < n → FitsDeed (f i)) :
    Calls Tryd.prog 17 #[.slice a n cap, .slice a2 n cap2] w fun e w' => e = .returned (.bool true) ∧ Below w.heap.size w w' := by
  by_cases hz : n = 0
  · subst hz
    exact (eqDeedS_nil a a2 cap cap2 w).mono fun _ _ ⟨a, b⟩ => ⟨a, by rw [b]; exact Below.refl _ _⟩
  · rcases h with h | ⟨b, off, rfl, hr⟩
    · exact absurd h hz
    · rcases h2 with h | ⟨b2, off2, rfl, hr2⟩
      · exact absurd h hz
      · exact eqDeedS_row b off cap b2 off2 cap2 n f w hn hr hr2 hm

end Go.Proofs.YtolpgafkojlkoabDoor.Vp
