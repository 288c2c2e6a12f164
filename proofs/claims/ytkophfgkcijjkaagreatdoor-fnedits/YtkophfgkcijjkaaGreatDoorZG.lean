import Derived.Lib.ItoaNum
import Derived.Lib.ItoaLen
import Derived.Lib.ItoaMem
import Derived.Test.YtkophfgkcijjkaaGreatDoorZD
namespace Go.Proofs.YtkophfgkcijjkaaGreatDoor.Vp
open Go.RowKit
def mkT (k : Int) : ByteArray := ⟨(109 :: Lib.decDigits k.toNat).toArray⟩
structure Within (lo hi : Nat) (w w' : World) : Prop where
  os : w'.os = w.os
  tape : w'.tape = w.tape
  output : w'.output = w.output
  size : w.heap.size ≤ w'.heap.size
  block : ∀ k, k < w.heap.size → k < lo ∨ hi ≤ k → w'.heap[k]? = w.heap[k]?
theorem Within.refl (lo hi : Nat) (w : World) : Within lo hi w w := ⟨rfl, rfl, rfl, Nat.le_refl _, fun _ _ _ => rfl⟩
theorem Within.trans {lo hi : Nat} {a b c : World} (h : Within lo hi a b) (k : Within lo hi b c) : Within lo hi a c :=
  ⟨k.os.trans h.os, k.tape.trans h.tape, k.output.trans h.output, Nat.le_trans h.size k.size, fun i hi ho => (k.block i (Nat.lt_of_lt_of_le hi h.size) ho).trans (h.block i hi ho)⟩
theorem Within.of_below {lo hi B : Nat} {w w' : World} (h : Below B w w') (hB : w.heap.size ≤ B) : Within lo hi w w' :=
  ⟨h.os, h.tape, h.output, h.size, fun i hi _ => h.block i (Nat.lt_of_lt_of_le hi hB)⟩
theorem Within.below {lo hi B : Nat} {a w w' : World} (h : Within lo hi a w) (hb : Below B w w') (hB : w.heap.size ≤ B) : Within lo hi a w' := h.trans (Within.of_below hb hB)
theorem Within.setCell {lo hi : Nat} {a w : World} (h : Within lo hi a w) {p : Addr} (h1 : lo ≤ p.block) (h2 : p.block < hi) (v : Value) : Within lo hi a (w.setCell p v) :=
  h.trans ⟨rfl, rfl, rfl, by simp [World.setCell], fun k _ ho => Below.heap_setCell _ _ _ _ (by omega)⟩
theorem Within.mono {lo hi lo' hi' : Nat} {w w' : World} (h : Within lo hi w w') (h1 : lo' ≤ lo) (h2 : hi ≤ hi') : Within lo' hi' w w' :=
  ⟨h.os, h.tape, h.output, h.size, fun k hk ho => h.block k hk (by omega)⟩
def Cells (w : World) (b off m : Nat) (F : Nat → Value) : Prop := b < w.heap.size ∧ ∀ j, j < m → w.cell? ⟨b, off + j, none⟩ = some (F j) ∧ w.frozen? ⟨b, off + j, none⟩ = false
theorem Cells.below {w w' : World} {B b off m : Nat} {F : Nat → Value} (h : Cells w b off m F) (hb : Below B w w') (hB : b < B) : Cells w' b off m F :=
  ⟨Nat.lt_of_lt_of_le h.1 hb.size, fun j hj => ⟨(hb.cell (p := ⟨b, _, none⟩) hB).trans (h.2 j hj).1, (hb.frozen (p := ⟨b, _, none⟩) hB).trans (h.2 j hj).2⟩⟩
theorem Cells.set {w : World} {b off m : Nat} {F : Nat → Value} (h : Cells w b off m F) (j : Nat) (hj : j < m) (v : Value) : Cells (w.setCell ⟨b, off + j, none⟩ v) b off m (fun x => if x = j then v else F x) := by
  refine ⟨by simpa using h.1, fun x hx => ⟨?_, ?_⟩⟩
  · by_cases e : x = j
    · subst e
      exact (World.cell?_setCell_same' _ _ _ (by rw [(h.2 x hx).1]; rfl)).trans (by simp)
    · have hne : (⟨b, off + j, none⟩ : Addr) ≠ ⟨b, off + x, none⟩ := by
        intro q
        exact e (by simpa using q.symm)
      exact (World.cell?_setCell_other _ _ _ _ hne).trans ((h.2 x hx).1.trans (by simp [e]))
  · have := (h.2 x hx).2
    simpa using this
theorem Cells.congr {w : World} {b off m : Nat} {F G : Nat → Value} (h : Cells w b off m F) (e : ∀ j, j < m → F j = G j) : Cells w b off m G :=
  ⟨h.1, fun j hj => by rw [← e j hj]; exact h.2 j hj⟩
end Go.Proofs.YtkophfgkcijjkaaGreatDoor.Vp
namespace Go.Proofs.YtkophfgkcijjkaaGreatDoor.Vp
open Go.RowKit
theorem Cells.at {w : World} {b off m : Nat} {F : Nat → Value} (h : Cells w b off m F) (x j : Nat) (hx : x = off + j) (hj : j < m) : w.cell? ⟨b, x, none⟩ = some (F j) ∧ w.frozen? ⟨b, x, none⟩ = false := by
  subst hx
  exact h.2 j hj
end Go.Proofs.YtkophfgkcijjkaaGreatDoor.Vp
namespace Go.Proofs.YtkophfgkcijjkaaGreatDoor.Vp
open Go.RowKit
theorem cells_of_row {w : World} {b n : Nat} {t : TypeId} {F : Nat → Value} (h : w.rowIs b t n F) : Cells w b 0 n F :=
  ⟨h.lt, fun j hj => by rw [Nat.zero_add]; exact ⟨h.cell hj, h.frozen j⟩⟩
theorem OwnIns.lt {w : World} {g n k : Nat} {f : Nat → Ins} (h : OwnIns w g n k f) : g < w.heap.size := by
  obtain ⟨F, hr, _⟩ := h
  exact hr.lt
theorem OwnIns.setOther {w : World} {g n k : Nat} {f : Nat → Ins} (h : OwnIns w g n k f) (p : Addr) (hp : p.block ≠ g) (v : Value) : OwnIns (w.setCell p v) g n k f := by
  obtain ⟨F, hr, hF⟩ := h
  exact ⟨F, hr.setOther (fun e => hp e.symm) v, hF⟩
theorem OwnIns.kept {w w' : World} {g n k : Nat} {f : Nat → Ins} {B : Nat} (h : OwnIns w g n k f) (hb : Below B w w') (hB : w.heap.size ≤ B) : OwnIns w' g n k f := h.below hb (Nat.lt_of_lt_of_le h.lt hB)
theorem OwnIns.cells {w : World} {g n : Nat} {f : Nat → Ins} (h : OwnIns w g n n f) : ∃ F, Cells w g 0 (n * 3) F := by
  obtain ⟨F, hr, _⟩ := h
  exact ⟨F, cells_of_row hr⟩
end Go.Proofs.YtkophfgkcijjkaaGreatDoor.Vp
namespace Go.Proofs.YtkophfgkcijjkaaGreatDoor.Vp
open Go.RowKit
theorem OwnSource.lt {w : World} {g n k : Nat} {f : Nat → Source} (h : OwnSource w g n k f) : g < w.heap.size := by
  obtain ⟨F, hr, _⟩ := h
  exact hr.lt
theorem OwnSource.setOther {w : World} {g n k : Nat} {f : Nat → Source} (h : OwnSource w g n k f) (p : Addr) (hp : p.block ≠ g) (v : Value) : OwnSource (w.setCell p v) g n k f := by
  obtain ⟨F, hr, hF⟩ := h
  exact ⟨F, hr.setOther (fun e => hp e.symm) v, hF⟩
theorem OwnSource.kept {w w' : World} {g n k : Nat} {f : Nat → Source} {B : Nat} (h : OwnSource w g n k f) (hb : Below B w w') (hB : w.heap.size ≤ B) : OwnSource w' g n k f := h.below hb (Nat.lt_of_lt_of_le h.lt hB)
theorem OwnSource.cells {w : World} {g n : Nat} {f : Nat → Source} (h : OwnSource w g n n f) : ∃ F, Cells w g 0 (n * 2) F := by
  obtain ⟨F, hr, _⟩ := h
  exact ⟨F, cells_of_row hr⟩
def OwnTarget2 (w : World) (g n k N : Nat) (f : Nat → Target) : Prop :=
  ∃ (F : Nat → Value) (G0 : Nat → Nat), w.rowIs g 104 (n * 2) F ∧ (∀ i j, i < j → j < k → G0 i < G0 j) ∧ (∀ i, i < k → G0 i < N) ∧ ∀ i, i < k → F (i * 2) = .string (f i).name ∧ (F (i * 2 + 1) = .slice (some ⟨G0 i, 0, none⟩) (f i).actN (f i).actN ∧ OwnIns w (G0 i) (f i).actN (f i).actN (f i).act ∧ g < G0 i)
theorem OwnTarget2.lt {w : World} {g n k N : Nat} {f : Nat → Target} (h : OwnTarget2 w g n k N f) : g < w.heap.size := by
  obtain ⟨F, G0, hr, _⟩ := h
  exact hr.lt
theorem OwnTarget2.below {w w' : World} {g n k N : Nat} {f : Nat → Target} {B : Nat} (h : OwnTarget2 w g n k N f) (hb : Below B w w') (hB : w.heap.size ≤ B) : OwnTarget2 w' g n k N f := by
  have hl := h.lt
  obtain ⟨F, G0, hr, ha, hN, hF⟩ := h
  refine ⟨F, G0, hr.of_block (hb.block g (Nat.lt_of_lt_of_le hl hB)), ha, hN, fun i hi => ?_⟩
  obtain ⟨p0, ⟨s0, r0, u0⟩⟩ := hF i hi
  exact ⟨p0, ⟨s0, r0.kept hb hB, u0⟩⟩
theorem OwnTarget2.setOther {w : World} {g n k N : Nat} {f : Nat → Target} (h : OwnTarget2 w g n k N f) (p : Addr) (hp : p.block < g) (v : Value) : OwnTarget2 (w.setCell p v) g n k N f := by
  obtain ⟨F, G0, hr, ha, hN, hF⟩ := h
  refine ⟨F, G0, hr.setOther (by omega) v, ha, hN, fun i hi => ?_⟩
  obtain ⟨p0, ⟨s0, r0, u0⟩⟩ := hF i hi
  exact ⟨p0, ⟨s0, r0.setOther p (by omega) v, u0⟩⟩
theorem OwnTarget2.old {w : World} {g n k N : Nat} {f : Nat → Target} (h : OwnTarget2 w g n k N f) : OwnTarget w g n k f := by
  obtain ⟨F, G0, hr, ha, hN, hF⟩ := h
  refine ⟨F, G0, hr, fun i hi => ?_⟩
  obtain ⟨p0, ⟨s0, r0, u0⟩⟩ := hF i hi
  exact ⟨p0, ⟨s0, r0.row, u0⟩⟩
theorem OwnTarget2.row {w : World} {g n N : Nat} {f : Nat → Target} (h : OwnTarget2 w g n n N f) : RowTarget w g 0 n f := h.old.row
theorem OwnTarget2.step {w : World} {g n k g0 N : Nat} {f : Nat → Target} (h : OwnTarget2 w g n k N f) (R0 : OwnIns w g0 (f k).actN (f k).actN (f k).act) (hg0 : g < g0) (hN0 : N ≤ g0) :
    OwnTarget2 ((w.setCell ⟨g, k * 2, none⟩ (.string (f k).name)).setCell ⟨g, k * 2 + 1, none⟩ (.slice (some ⟨g0, 0, none⟩) (f k).actN (f k).actN)) g n (k + 1) (g0 + 1) f := by
  obtain ⟨F, G0, hr, ha, hN, hF⟩ := h
  refine ⟨_, fun i => if i = k then g0 else G0 i, ((hr.set _ _).set _ _), fun i j hij hj => ?_, fun i hi => ?_, fun i hi => ?_⟩
  · dsimp only
    rw [if_neg (show ¬ i = k by omega)]
    by_cases e : j = k
    · rw [if_pos e]
      have := hN i (by omega)
      omega
    · rw [if_neg e]
      exact ha i j hij (by omega)
  · dsimp only
    by_cases e : i = k
    · rw [if_pos e]
      omega
    · rw [if_neg e]
      have := hN i (by omega)
      omega
  · by_cases e : i = k
    · subst e
      exact ⟨by simp, ⟨by simp, by dsimp only; rw [if_pos rfl]; exact ((R0).setOther _ (by first | (simp; omega) | simp) _).setOther _ (by first | (simp; omega) | simp) _, by dsimp only; rw [if_pos rfl]; exact hg0⟩⟩
    · obtain ⟨p0, ⟨s0, r0, u0⟩⟩ := hF i (by omega)
      refine ⟨?_, ?_⟩
      · show (if _ then _ else if _ then _ else _) = _
        rw [if_neg (by omega), if_neg (by omega), p0]
      · dsimp only
        rw [if_neg e]
        refine ⟨?_, ((r0).setOther _ (by first | (simp; omega) | simp) _).setOther _ (by first | (simp; omega) | simp) _, u0⟩
        show (if _ then _ else if _ then _ else _) = _
        rw [if_neg (by omega), if_neg (by omega), s0]
end Go.Proofs.YtkophfgkcijjkaaGreatDoor.Vp
namespace Go.Proofs.YtkophfgkcijjkaaGreatDoor.Vp
open Go.RowKit
def markIns (k0 : Nat) (j : Nat) : Value := if j % 3 = 0 then .int .i64 ((k0 : Int) + j) else if j % 3 = 1 then .string (mkT ((k0 : Int) + j)) else .int .i64 ((k0 : Int) + j)
end Go.Proofs.YtkophfgkcijjkaaGreatDoor.Vp
namespace Go.Proofs.YtkophfgkcijjkaaGreatDoor.Vp
open Go.RowKit
end Go.Proofs.YtkophfgkcijjkaaGreatDoor.Vp
namespace Go.Proofs.YtkophfgkcijjkaaGreatDoor.Vp
open Go.RowKit
structure Touch (P : Nat → Prop) (w w' : World) : Prop where
  os : w'.os = w.os
  tape : w'.tape = w.tape
  output : w'.output = w.output
  size : w.heap.size ≤ w'.heap.size
  block : ∀ k, k < w.heap.size → ¬ P k → w'.heap[k]? = w.heap[k]?
theorem Touch.refl (P : Nat → Prop) (w : World) : Touch P w w := ⟨rfl, rfl, rfl, Nat.le_refl _, fun _ _ _ => rfl⟩
theorem Touch.trans {P : Nat → Prop} {a b c : World} (h : Touch P a b) (k : Touch P b c) : Touch P a c :=
  ⟨k.os.trans h.os, k.tape.trans h.tape, k.output.trans h.output, Nat.le_trans h.size k.size, fun i hi ho => (k.block i (Nat.lt_of_lt_of_le hi h.size) ho).trans (h.block i hi ho)⟩
theorem Touch.of_below {P : Nat → Prop} {B : Nat} {w w' : World} (h : Below B w w') (hB : w.heap.size ≤ B) : Touch P w w' :=
  ⟨h.os, h.tape, h.output, h.size, fun i hi _ => h.block i (Nat.lt_of_lt_of_le hi hB)⟩
theorem Touch.below {P : Nat → Prop} {B : Nat} {a w w' : World} (h : Touch P a w) (hb : Below B w w') (hB : w.heap.size ≤ B) : Touch P a w' := h.trans (Touch.of_below hb hB)
theorem Touch.setCell {P : Nat → Prop} {a w : World} (h : Touch P a w) {p : Addr} (hp : P p.block) (v : Value) : Touch P a (w.setCell p v) :=
  h.trans ⟨rfl, rfl, rfl, by simp [World.setCell], fun k _ ho => Below.heap_setCell _ _ _ _ (fun e => ho (e ▸ hp))⟩
theorem Touch.mono {P Q : Nat → Prop} {w w' : World} (h : Touch P w w') (hPQ : ∀ k, P k → Q k) : Touch Q w w' :=
  ⟨h.os, h.tape, h.output, h.size, fun k hk ho => h.block k hk (fun hp => ho (hPQ k hp))⟩
theorem Touch.cell {P : Nat → Prop} {w w' : World} (h : Touch P w w') {p : Addr} (hl : p.block < w.heap.size) (hp : ¬ P p.block) : w'.cell? p = w.cell? p := World.cell?_of_block (h.block p.block hl hp)
end Go.Proofs.YtkophfgkcijjkaaGreatDoor.Vp
namespace Go.Proofs.YtkophfgkcijjkaaGreatDoor.Vp
open Go.RowKit
def kAt (m : Nat → Nat) (k0 : Nat) : Nat → Nat
  | 0 => k0
  | i + 1 => kAt m k0 i + 1 + m i * 3
structure TCells (w : World) (T off n : Nat) (B m : Nat → Nat) : Prop where
  row : ∃ F, Cells w T off (n * 2) F ∧ ∀ i, i < n → ∃ cap, F (i * 2 + 1) = .slice (some ⟨B i, 0, none⟩) (m i) cap
  act : ∀ i, i < n → ∃ G, Cells w (B i) 0 (m i * 3) G
  apart : ∀ i, i < n → B i ≠ T
  each : ∀ i j, i < n → j < n → i ≠ j → B i ≠ B j
structure TMarked (w : World) (T off n : Nat) (B m : Nat → Nat) (k0 : Nat) : Prop where
  row : ∃ F, Cells w T off (n * 2) F ∧ ∀ i, i < n → F (i * 2) = .string (mkT ((kAt m k0 i : Nat) : Int)) ∧ ∃ cap, F (i * 2 + 1) = .slice (some ⟨B i, 0, none⟩) (m i) cap
  act : ∀ i, i < n → Cells w (B i) 0 (m i * 3) (markIns (kAt m k0 i + 1))
theorem TMarked.below {w w' : World} {T off n k0 Z : Nat} {B m : Nat → Nat} (h : TMarked w T off n B m k0) (hb : Below Z w w') (hZ : w.heap.size ≤ Z) : TMarked w' T off n B m k0 := by
  obtain ⟨⟨F, hF, h1⟩, h2⟩ := h
  exact ⟨⟨F, hF.below hb (Nat.lt_of_lt_of_le hF.1 hZ), h1⟩, fun i hi => (h2 i hi).below hb (Nat.lt_of_lt_of_le (h2 i hi).1 hZ)⟩
end Go.Proofs.YtkophfgkcijjkaaGreatDoor.Vp
namespace Go.Proofs.YtkophfgkcijjkaaGreatDoor.Vp
open Go.RowKit
def markSource (k0 : Nat) (j : Nat) : Value := if j % 2 = 0 then .string (mkT ((k0 : Int) + j)) else .string (mkT ((k0 : Int) + j))
end Go.Proofs.YtkophfgkcijjkaaGreatDoor.Vp
namespace Go.Proofs.YtkophfgkcijjkaaGreatDoor.Vp
open Go.RowKit
structure SCells (w : World) (a0 : Option Addr) (n0 : Nat) (a1 : Option Addr) (n1 : Nat) (P : Nat → Prop) : Prop where
  src : n0 = 0 ∨ ∃ S, a0 = some ⟨S, 0, none⟩ ∧ P S ∧ ∃ F, Cells w S 0 (n0 * 2) F
  tgt : n1 = 0 ∨ ∃ T B m, a1 = some ⟨T, 0, none⟩ ∧ TCells w T 0 n1 B m ∧ P T ∧ (∀ i, i < n1 → P (B i)) ∧ (∀ i, i < n1 → m i ≤ 1048576) ∧ ∀ S, a0 = some ⟨S, 0, none⟩ → n0 ≠ 0 → T ≠ S ∧ ∀ i, i < n1 → B i ≠ S
structure SMarked (w : World) (a0 : Option Addr) (n0 : Nat) (a1 : Option Addr) (n1 r : Nat) : Prop where
  src : n0 = 0 ∨ ∃ S, a0 = some ⟨S, 0, none⟩ ∧ Cells w S 0 (n0 * 2) (markSource 1)
  tgt : (n1 = 0 ∧ r = 1 + n0 * 2) ∨ ∃ T B m, a1 = some ⟨T, 0, none⟩ ∧ TMarked w T 0 n1 B m (1 + n0 * 2) ∧ (∀ i, i < n1 → m i ≤ 1048576) ∧ r = kAt m (1 + n0 * 2) n1
theorem TCells.below {w w' : World} {T off n Z : Nat} {B m : Nat → Nat} (h : TCells w T off n B m) (hb : Below Z w w') (hZ : w.heap.size ≤ Z) : TCells w' T off n B m := by
  obtain ⟨⟨F, hF, hs⟩, ha, h1, h2⟩ := h
  refine ⟨⟨F, hF.below hb (Nat.lt_of_lt_of_le hF.1 hZ), hs⟩, fun i hi => ?_, h1, h2⟩
  obtain ⟨G, hG⟩ := ha i hi
  exact ⟨G, hG.below hb (Nat.lt_of_lt_of_le hG.1 hZ)⟩
theorem TMarked.lt {w : World} {T off n k0 : Nat} {B m : Nat → Nat} (h : TMarked w T off n B m k0) : T < w.heap.size := by
  obtain ⟨⟨F, hF, _⟩, _⟩ := h
  exact hF.1
theorem SMarked.below {w w' : World} {a0 a1 : Option Addr} {n0 n1 r Z : Nat} (h : SMarked w a0 n0 a1 n1 r) (hb : Below Z w w') (hZ : w.heap.size ≤ Z) : SMarked w' a0 n0 a1 n1 r := by
  obtain ⟨h0, h1⟩ := h
  refine ⟨?_, ?_⟩
  · rcases h0 with h | ⟨S, e, hS⟩
    · exact .inl h
    · exact .inr ⟨S, e, hS.below hb (Nat.lt_of_lt_of_le hS.1 hZ)⟩
  · rcases h1 with h | ⟨T, B, m, e, hT, hm, hr⟩
    · exact .inl h
    · exact .inr ⟨T, B, m, e, hT.below hb hZ, hm, hr⟩
end Go.Proofs.YtkophfgkcijjkaaGreatDoor.Vp
namespace Go.Proofs.YtkophfgkcijjkaaGreatDoor.Vp
open Go.RowKit
structure Two (w : World) (b : Nat) (v0 v1 : Value) : Prop where
  lt : b < w.heap.size
  c0 : w.cell? ⟨b, 0, none⟩ = some v0
  c1 : w.cell? ⟨b, 1, none⟩ = some v1
theorem Two.block {w w' : World} {b : Nat} {v0 v1 : Value} (h : Two w b v0 v1) (hz : w.heap.size ≤ w'.heap.size) (hb : w'.heap[b]? = w.heap[b]?) : Two w' b v0 v1 :=
  ⟨Nat.lt_of_lt_of_le h.lt hz, (World.cell?_of_block (a := ⟨b, 0, none⟩) hb).trans h.c0, (World.cell?_of_block (a := ⟨b, 1, none⟩) hb).trans h.c1⟩
theorem Two.below {w w' : World} {b : Nat} {v0 v1 : Value} (h : Two w b v0 v1) (hb : Below w.heap.size w w') : Two w' b v0 v1 := h.block hb.size (hb.block b h.lt)
theorem SCells.below {w w' : World} {a0 a1 : Option Addr} {n0 n1 : Nat} {P : Nat → Prop} (h : SCells w a0 n0 a1 n1 P) (hb : Below w.heap.size w w') : SCells w' a0 n0 a1 n1 P := by
  obtain ⟨h0, h1⟩ := h
  refine ⟨?_, ?_⟩
  · rcases h0 with h | ⟨S, e, hp, F, hF⟩
    · exact .inl h
    · exact .inr ⟨S, e, hp, F, hF.below hb hF.1⟩
  · rcases h1 with h | ⟨T, B, m, e, hT, r⟩
    · exact .inl h
    · exact .inr ⟨T, B, m, e, hT.below hb (Nat.le_refl _), r⟩
end Go.Proofs.YtkophfgkcijjkaaGreatDoor.Vp
