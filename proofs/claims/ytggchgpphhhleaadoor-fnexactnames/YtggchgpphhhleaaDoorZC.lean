/-
  Put together of: CaLoop, CaList, CaSeq, CaTurn, CaCheck, CaSpec1, CaSpec2, CaSpec3, CaSpec4, CaSpec5.
-/
import Derived.RangeFuncKeeps
import Derived.RangeFuncFrom
import Derived.Test.YtggchgpphhhleaaDoorZB
import Derived.RangeFuncNested
import Derived.RangeFuncBound
import Derived.RangeFuncCalls
import Derived.RangeFuncLeaves
import Derived.Shelf.Abstract
import Derived.Shelf.RegionOpen
import Derived.WalkKit
import Derived.OwnWalkIn
import Derived.TacticsInMore
import Derived.LoopNIn
import Derived.LoopIn
import Derived.Sort.QuietIn
import Derived.Sort.BigQuietIn
import Derived.Sort.CutIn
import Derived.Deep.DeepCutAuto
import Derived.Deep.QuietTactic
import Derived.BigQuiet

/-
  A range over an iterator that keeps a state of its own in cells: what it lays since the loop began it may write; the body keeps its hands off it.
-/
namespace Go.Proofs.YtggchgpphhhleaaDoor.Ca
open Go.RowKit

/-- Of what lay there only blocks of P may have changed. -/
structure Upd (P : Nat → Prop) (w w' : World) : Prop where
  os : w'.os = w.os
  tape : w'.tape = w.tape
  output : w'.output = w.output
  size : w.heap.size ≤ w'.heap.size
  block : ∀ k, k < w.heap.size → ¬ P k → w'.heap[k]? = w.heap[k]?
theorem Upd.refl (P : Nat → Prop) (w : World) : Upd P w w := ⟨rfl, rfl, rfl, Nat.le_refl _, fun _ _ _ => rfl⟩
theorem Upd.trans {P : Nat → Prop} {a b c : World} (h : Upd P a b) (k : Upd P b c) : Upd P a c :=
  ⟨k.os.trans h.os, k.tape.trans h.tape, k.output.trans h.output, Nat.le_trans h.size k.size, fun i hi ho => (k.block i (Nat.lt_of_lt_of_le hi h.size) ho).trans (h.block i hi ho)⟩
theorem Upd.mono {P Q : Nat → Prop} {a b : World} (h : Upd P a b) (hPQ : ∀ k, P k → Q k) : Upd Q a b :=
  ⟨h.os, h.tape, h.output, h.size, fun i hi ho => h.block i hi (fun hp => ho (hPQ i hp))⟩
theorem Upd.of_below {P : Nat → Prop} {B : Nat} {w w' : World} (h : Below B w w') (hB : w.heap.size ≤ B) : Upd P w w' :=
  ⟨h.os, h.tape, h.output, h.size, fun i hi _ => h.block i (Nat.lt_of_lt_of_le hi hB)⟩
theorem Upd.below {P : Nat → Prop} {B : Nat} {w w' : World} (h : Upd P w w') (hP : ∀ k, P k → B ≤ k) (hB : B ≤ w.heap.size) : Below B w w' :=
  ⟨h.os, h.tape, h.output, h.size, fun k hk => h.block k (Nat.lt_of_lt_of_le hk hB) (fun hp => by have := hP k hp; omega)⟩
theorem Upd.setCell {P : Nat → Prop} (w : World) {p : Addr} (hp : P p.block) (v : Value) : Upd P w (w.setCell p v) :=
  ⟨rfl, rfl, rfl, by simp [World.setCell], fun k _ ho => Below.heap_setCell _ _ _ _ (fun e => ho (e ▸ hp))⟩
theorem Upd.putObj {P : Nat → Prop} (w : World) {l : Nat} (hp : P l) (o : Obj) : Upd P w (w.putObj l o) :=
  ⟨rfl, rfl, rfl, by simp, fun k _ ho => World.putObj_heap_other (fun e => ho (e ▸ hp))⟩
theorem below_putObj {n : Nat} (w : World) {l : Nat} (hn : n ≤ l) (hl : l < w.heap.size) (o : Obj) : Below n w (w.putObj l o) :=
  (Below.refl n w).grown (grownBy_putObj' w l o) (by omega) (fun k e => by cases e; exact hn)

def SeqT {α : Type} (F : Fence) (n : Nat) (P : Program) (g : Nat) (lb : Array Value) (encs : α → Array Value) (Ox : α → Prop) (base : Nat) (S Sp : List α → Prop) (N : Nat) (w : World) : Prop :=
  ∀ (l : Nat) (J Jx : List α → World → Prop) (W : World), Below w.heap.size w W → (∀ s A B, J s A → Below W.heap.size A B → J s B) → (∀ s A B, Jx s A → Below W.heap.size A B → Jx s B) →
    (∀ pre x W1, Ox x → J pre W1 → pre.length < N → W.heap.size ≤ W1.heap.size → YieldAt F (n - 1) P l (encs x) W1 fun e W' =>
      (e = .returned (.bool true) ∧ J (pre ++ [x]) W' ∧ Upd (fun k => base ≤ k ∧ k < W.heap.size) W1 W') ∨ (e = .returned (.bool false) ∧ Jx (pre ++ [x]) W')) →
    J [] W →
    CallsIn F n P g (#[.func (.yield l) #[] #[]] ++ lb) W fun e W' => (∃ v, e = .returned v) ∧ ((∃ xs, S xs ∧ J xs W') ∨ (∃ pre, Sp pre ∧ Jx pre W'))

def postT {α : Type} (base n₀ : Nat) (I : List α → World → Prop) (Ix : Code → List α → World → Prop) (xs : List α) (W : World) : Exit → Act → World → Prop
  | .normal, _, W' => Upd (fun k => base ≤ k ∧ k < n₀) W W' ∧ I xs W'
  | .ret, _, W' => Upd (fun k => base ≤ k ∧ k < n₀) W W' ∧ Ix .ret xs W'
  | .exit id, _, W' => Upd (fun k => base ≤ k ∧ k < n₀) W W' ∧ Ix (.exit id) xs W'
  | .goto t, _, W' => Upd (fun k => base ≤ k ∧ k < n₀) W W' ∧ Ix (.goto t) xs W'
  | .panic _, _, _ => False
  | .outgrown, _, _ => False

theorem wpIn_rangeFunc_T {F : Fence} {n : Nat} {P : Program} {α : Type} {g : Operand} {ps : Array Tmp} {assign body : Code} {Q : Exit → Act → World → Prop} {a : Act} {w : World}
    (hro : F.round = none) (h1 : 1 ≤ n) {gf : Nat} {lb : Array Value} (hg : a.eval g = .func (.func gf) #[] lb) (hFg : F.fn gf) (eg : ∀ args w, (callFunc gf args).run P w = .ok (.enter gf args) w)
    {encs : α → Array Value} {Ox : α → Prop} {base : Nat} {S Sp : List α → Prop} {N : Nat} {w0 : World} (hbase : base ≤ w.heap.size) (hseq : SeqT F (n - 1) P gf lb encs Ox base S Sp N w0) (hb0 : Below w0.heap.size w0 w) (hps : ∀ x, (encs x).size = ps.size)
    (I : List α → World → Prop) (Ix : Code → List α → World → Prop) (hI : ∀ s A B, I s A → Below w.heap.size A B → I s B) (hIx : ∀ c s A B, Ix c s A → Below w.heap.size A B → Ix c s B) (h0 : I [] w) (a₁ : α → Act)
    (hassign : ∀ (l : Nat) (x : α) (W : World) (K : Act → World → Prop), K (a₁ x) W →
      assign.wpIn (F.inRound l) (n - 1 - 1) P (Exit.then K (fun _ _ _ => False)) { tmps := (ps.zip (encs x)).foldl (fun t (p, v) => t.setIfInBounds p v) a.tmps, defers := [] } W)
    (hbody : ∀ (l : Nat) (pre : List α) (x : α) (W : World), Ox x → I pre W → pre.length < N → w.heap.size ≤ W.heap.size → body.wpIn (F.inRound l) (n - 1 - 1) P (postT base w.heap.size I Ix (pre ++ [x]) W) (a₁ x) W)
    (hdone : ∀ (D : Nat) (xs : List α) (W : World), w.heap.size ≤ D → S xs → I xs W → W.heap[D]? = some (.deferred (some [])) → Q .normal { a with defers := { target := .collected D, args := #[] } :: a.defers } W)
    (hstop : ∀ (D : Nat) (c : Code) (pre : List α) (W : World), w.heap.size ≤ D → Sp pre → Ix c pre W → W.heap[D]? = some (.deferred (some [])) → c.wpIn F n P Q { a with defers := { target := .collected D, args := #[] } :: a.defers } W) :
    (Code.rangeFunc g ps assign body).wpIn F n P Q a w := by
  refine wpIn_rangeFunc ?_
  intro fn hfn
  rw [hro]
  obtain ⟨rec, hrec⟩ : ∃ rec : LoopState → Option Code → Loop, rec = fun st pe => { state := st, pending := pe, fn, tmps := a.tmps, params := ps, assign, body, defers := w.heap.size } := ⟨_, rfl⟩
  obtain ⟨W1, hW1⟩ : ∃ W1, (w.alloc (.deferred (some []))).alloc (.loop (rec .ready none)) = W1 := ⟨_, rfl⟩
  have hs1 : W1.heap.size = w.heap.size + 2 := by rw [← hW1]; simp
  have hL1 : W1.heap[w.heap.size + 1]? = some (.loop (rec .ready none)) := by
    rw [← hW1]; have := World.alloc_heap_new (w.alloc (.deferred (some []))) (.loop (rec .ready none)); rwa [World.size_alloc] at this
  have hK1 : W1.heap[w.heap.size]? = some (.deferred (some [])) := by
    rw [← hW1]; exact (Below.heap_alloc _ _ _ (by simp)).trans (World.alloc_heap_new w _)
  have hB1 : Below w.heap.size w W1 := by rw [← hW1]; exact ((Below.refl _ w).alloc (Nat.le_refl _) _).alloc (by simp) _
  have hI1 : I [] W1 := hI _ _ _ h0 hB1
  have hb1 : Below w0.heap.size w0 W1 := hb0.trans (hB1.mono hb0.size)
  refine ⟨w.heap.size + 1, [{ target := .collected w.heap.size, args := #[] }], W1, { target := .fn (.func gf) lb, args := #[.func (.yield (w.heap.size + 1)) #[] #[]] }, W1, gf,
    #[.func (.yield (w.heap.size + 1)) #[] #[]] ++ lb, W1, ?_, ?_, ?_, ?_, fun _ => h1, ?_⟩
  · rw [← hW1, hrec]; exact run_enterLoop_outer _ _ _ _ _
  · simp only [resolve, hg]
    simp [go_sem]
  · intro f' hf'; simp [Target.leads] at hf'; subst hf'; exact hFg
  · simp [invoke, go_sem, eg]
  · refine (hseq (w.heap.size + 1)
      (fun pre W => I pre W ∧ W.heap[w.heap.size + 1]? = some (.loop (rec .ready none)) ∧ W.heap[w.heap.size]? = some (.deferred (some [])))
      (fun pre W => ∃ c, Ix c pre W ∧ W.heap[w.heap.size + 1]? = some (.loop (rec .done (some c))) ∧ W.heap[w.heap.size]? = some (.deferred (some [])))
      W1 hb1
      (fun s A B hs hB => ⟨hI s A B hs.1 (hB.mono (by omega)), (hB.block _ (by omega)).trans hs.2.1, (hB.block _ (by omega)).trans hs.2.2⟩)
      (fun s A B hs hB => by
        obtain ⟨c, hc, hl, hk⟩ := hs
        exact ⟨c, hIx c s A B hc (hB.mono (by omega)), (hB.block _ (by omega)).trans hl, (hB.block _ (by omega)).trans hk⟩)
      ?_ ⟨hI1, hL1, hK1⟩).mono ?_
    · -- one round
      rintro pre x W hox ⟨hi, hl, hk⟩ hlen _
      have hlt : w.heap.size + 1 < W.heap.size := (Array.getElem?_eq_some_iff.1 hl).1
      have hy := run_yield (P := P) (args := encs x) hl (by rw [hrec]; exact hps x)
      rw [hrec] at hy
      refine ⟨fn, _, assign, body, hy, roundIn_of_wpIn hfn (hassign _ x W _ ⟨_, run_beginRound hl (by rw [hrec]), ?_⟩)⟩
      have hl2 : (W.putObj (w.heap.size + 1) (.loop { rec .ready none with state := .busy })).heap[w.heap.size + 1]? = some (.loop { rec .ready none with state := .busy }) := World.putObj_heap_same hlt
      have hk2 : (W.putObj (w.heap.size + 1) (.loop { rec .ready none with state := .busy })).heap[w.heap.size]? = some (.deferred (some [])) := (World.putObj_heap_other (by omega)).trans hk
      have hw2 : Upd (fun k => base ≤ k ∧ k < W1.heap.size) W (W.putObj (w.heap.size + 1) (.loop { rec .ready none with state := .busy })) := Upd.putObj _ ⟨by omega, by omega⟩ _
      refine wpIn_mono (hbody _ pre x _ hox (hI _ _ _ hi (below_putObj _ (by omega) hlt _)) hlen (by simp; omega)) ?_
      have fin : ∀ (jump : Option Code) (W3 : World), Upd (fun k => base ≤ k ∧ k < w.heap.size) (W.putObj (w.heap.size + 1) (.loop { rec .ready none with state := .busy })) W3 →
          (Instr.endRound (w.heap.size + 1) jump).run P W3 = .ok (.bool jump.isNone) (W3.putObj (w.heap.size + 1) (.loop (rec (if jump.isNone then .ready else .done) jump))) ∧
          Below w.heap.size W3 (W3.putObj (w.heap.size + 1) (.loop (rec (if jump.isNone then .ready else .done) jump))) ∧
          (W3.putObj (w.heap.size + 1) (.loop (rec (if jump.isNone then .ready else .done) jump))).heap[w.heap.size + 1]? = some (.loop (rec (if jump.isNone then .ready else .done) jump)) ∧
          (W3.putObj (w.heap.size + 1) (.loop (rec (if jump.isNone then .ready else .done) jump))).heap[w.heap.size]? = some (.deferred (some [])) := fun jump W3 hk3 => by
        have hl3 := (hk3.block _ (by simpa using hlt) (by omega)).trans hl2
        have hk4 := (hk3.block _ (by simp; omega) (by omega)).trans hk2
        have hlt3 := (Array.getElem?_eq_some_iff.1 hl3).1
        have := run_endRound (P := P) jump hl3
        rw [hrec] at this ⊢
        exact ⟨this, below_putObj _ (by omega) hlt3 _, World.putObj_heap_same hlt3, (World.putObj_heap_other (by omega)).trans hk4⟩
      rintro e a3 W3 hp
      cases e with
      | normal =>
        obtain ⟨hk3, hi3⟩ := hp
        obtain ⟨hr, hb4, hl4, hk4⟩ := fin none W3 hk3
        exact ⟨_, _, hr, .inl ⟨rfl, ⟨hI _ _ _ hi3 hb4, hl4, hk4⟩, (hw2.trans (hk3.mono (fun k hk => ⟨hk.1, by omega⟩))).trans (Upd.putObj _ ⟨by omega, by omega⟩ _)⟩⟩
      | ret =>
        obtain ⟨hk3, hi3⟩ := hp
        obtain ⟨hr, hb4, hl4, hk4⟩ := fin (some .ret) W3 hk3
        exact ⟨_, _, hr, .inr ⟨rfl, .ret, hIx _ _ _ _ hi3 hb4, hl4, hk4⟩⟩
      | exit id =>
        obtain ⟨hk3, hi3⟩ := hp
        obtain ⟨hr, hb4, hl4, hk4⟩ := fin (some (.exit id)) W3 hk3
        exact ⟨_, _, hr, .inr ⟨rfl, .exit id, hIx _ _ _ _ hi3 hb4, hl4, hk4⟩⟩
      | goto t =>
        obtain ⟨hk3, hi3⟩ := hp
        obtain ⟨hr, hb4, hl4, hk4⟩ := fin (some (.goto t)) W3 hk3
        exact ⟨_, _, hr, .inr ⟨rfl, .goto t, hIx _ _ _ _ hi3 hb4, hl4, hk4⟩⟩
      | panic ch => exact hp.elim
      | outgrown => exact hp.elim
    · rintro e W2 ⟨⟨v, rfl⟩, (⟨xs, hS, hi, hl, hk⟩ | ⟨pre, hSp, c, hi, hl, hk⟩)⟩
      · exact ⟨none, _, by have := run_endLoop (P := P) hl (by rw [hrec]; simp); rw [hrec] at this; exact this, hdone _ xs _ (Nat.le_refl _) hS (hI _ _ _ hi (below_putObj _ (by omega) (Array.getElem?_eq_some_iff.1 hl).1 _)) ((World.putObj_heap_other (by omega)).trans hk)⟩
      · exact ⟨some c, _, by have := run_endLoop (P := P) hl (by rw [hrec]; simp); rw [hrec] at this; exact this, hstop _ c pre _ (Nat.le_refl _) hSp (hIx _ _ _ _ hi (below_putObj _ (by omega) (Array.getElem?_eq_some_iff.1 hl).1 _)) ((World.putObj_heap_other (by omega)).trans hk)⟩

end Go.Proofs.YtggchgpphhhleaaDoor.Ca

/-
  impl: the listing of a deed, by its own calls.
-/
namespace Go.Proofs.YtggchgpphhhleaaDoor.Vp
open Go.RowKit Go.Shelf Go.Proofs.YtggchgpphhhleaaDoor.Ca

attribute [local go_sem] Oper.semAt_some

/-- A listing under way: its box at L, the row of those that are listed at M; what lay there when it was asked for lies. -/
structure LSt (w0 W : World) (n1 b off n cap L M l : Nat) (s : Nat → Bool) : Prop where
  c0 : W.cell? ⟨L, 0, none⟩ = some (.slice (some ⟨b, off, none⟩) n cap)
  c1 : W.cell? ⟨L, 1, none⟩ = some (.slice (some ⟨M, 0, none⟩) n n)
  c2 : W.cell? ⟨L, 2, none⟩ = some (.func (.yield l) #[] #[])
  row : ∀ q, q < n → W.cell? ⟨M, q, none⟩ = some (.bool (s q)) ∧ W.frozen? ⟨M, q, none⟩ = false
  low : Below w0.heap.size w0 W
  hL : n1 ≤ L ∧ L < W.heap.size
  hM : n1 ≤ M ∧ M < W.heap.size
  ne : L ≠ M
  hb : w0.heap.size ≤ n1
theorem LSt.blocks {w0 W W' : World} {n1 b off n cap L M l : Nat} {s : Nat → Bool} (h : LSt w0 W n1 b off n cap L M l s) (hz : W.heap.size ≤ W'.heap.size) (eL : W'.heap[L]? = W.heap[L]?) (eM : W'.heap[M]? = W.heap[M]?) (hl : Below w0.heap.size w0 W') : LSt w0 W' n1 b off n cap L M l s := by
  have c : ∀ o, W'.cell? ⟨L, o, none⟩ = W.cell? ⟨L, o, none⟩ := fun o => World.cell?_of_block (a := ⟨L, o, none⟩) eL
  exact ⟨(c 0).trans h.c0, (c 1).trans h.c1, (c 2).trans h.c2, fun q hq => ⟨(World.cell?_of_block (a := ⟨M, q, none⟩) eM).trans (h.row q hq).1, (World.frozen?_of_block (a := ⟨M, q, none⟩) eM).trans (h.row q hq).2⟩, hl, ⟨h.hL.1, Nat.lt_of_lt_of_le h.hL.2 hz⟩, ⟨h.hM.1, Nat.lt_of_lt_of_le h.hM.2 hz⟩, h.ne, h.hb⟩
theorem LSt.below {w0 W W' : World} {n1 b off n cap L M l : Nat} {s : Nat → Bool} (h : LSt w0 W n1 b off n cap L M l s) (hb : Below W.heap.size W W') : LSt w0 W' n1 b off n cap L M l s :=
  h.blocks hb.size (hb.block L h.hL.2) (hb.block M h.hM.2) (h.low.trans (hb.mono h.low.size))
theorem LSt.upd {w0 W W' : World} {n1 b off n cap L M l : Nat} {s : Nat → Bool} (h : LSt w0 W n1 b off n cap L M l s) (hu : Upd (fun k => w0.heap.size ≤ k ∧ k < n1) W W') : LSt w0 W' n1 b off n cap L M l s :=
  h.blocks hu.size (hu.block L h.hL.2 (by have := h.hL.1; omega)) (hu.block M h.hM.2 (by have := h.hM.1; omega)) (h.low.trans (hu.below (fun k hk => hk.1) h.low.size))
theorem LSt.set {w0 W : World} {n1 b off n cap L M l p : Nat} {s : Nat → Bool} (h : LSt w0 W n1 b off n cap L M l s) (hp : p < n) : LSt w0 (W.setCell ⟨M, p, none⟩ (.bool true)) n1 b off n cap L M l (put s p) := by
  have c : ∀ o, (W.setCell ⟨M, p, none⟩ (.bool true)).cell? ⟨L, o, none⟩ = W.cell? ⟨L, o, none⟩ := fun o => World.cell?_setCell_other _ _ _ _ (by simp; exact fun e => absurd e.symm h.ne)
  refine ⟨(c 0).trans h.c0, (c 1).trans h.c1, (c 2).trans h.c2, fun q hq => ⟨?_, by simpa using (h.row q hq).2⟩, h.low.setCell (by have := h.hM.1; have := h.hb; show _ ≤ M; omega) _, by simpa using h.hL, by simpa using h.hM, h.ne, h.hb⟩
  by_cases e : q = p
  · subst e
    rw [World.cell?_setCell_same' _ _ _ (by rw [(h.row q hq).1]; rfl)]
    simp [put]
  · rw [World.cell?_setCell_other _ _ _ _ (by simp), (h.row q hq).1]
    simp [put, e]

theorem lks_prefix {go : Nat → Nat → (Nat → Bool) → (Nat → Bool) × List (Nat × Nat)} {x : Deed} {d : Nat} {s : Nat → Bool} {i m : Nat} (h : i ≤ m) : (lks go x d s i).2 <+: (lks go x d s m).2 := by
  induction m with
  | zero => obtain rfl : i = 0 := by omega
            exact List.prefix_rfl
  | succ k ih =>
    by_cases e : i = k + 1
    · subst e; exact List.prefix_rfl
    · refine (ih (by omega)).trans ?_
      rw [lks]
      split
      · exact List.prefix_append _ _
      · exact List.prefix_rfl

set_option maxRecDepth 100000 in
set_option maxHeartbeats 4000000 in
theorem list_in (w0 : World) (n1 b off n cap L M l N : Nat) (f : Nat → Deed) (J Jx : List (Nat × Nat) → World → Prop) (hA : Ahead f n) (hn : (n : Int) ≤ 400) (hf : RowDeed w0 b off n f) (hlk : ∀ p, p < n → (f p).linksN ≤ 200)
    (hJ : ∀ s A B, J s A → Below n1 A B → J s B) (hJx : ∀ s A B, Jx s A → Below n1 A B → Jx s B)
    (hY : ∀ m pre (x : Nat × Nat) W, x.1 < n → J pre W → pre.length < N → n1 ≤ W.heap.size → YieldAt Fence.wide m Tryd.prog l #[.int .i64 (x.1 : Int), .int .i64 (x.2 : Int)] W fun e W' =>
      (e = .returned (.bool true) ∧ J (pre ++ [x]) W' ∧ Upd (fun k => w0.heap.size ≤ k ∧ k < n1) W W') ∨ (e = .returned (.bool false) ∧ Jx (pre ++ [x]) W')) :
    ∀ (k p d : Nat) (s : Nat → Bool) (pre : List (Nat × Nat)) (W : World) (nn : Nat), p < k → p < n → d + p ≤ 1000 → LSt w0 W n1 b off n cap L M l s → s p = false → J pre W → pre.length + (lst f k p d s).2.length ≤ N →
      CallsIn Fence.wide nn Tryd.prog 77 #[.pointer (some ⟨L, 0, none⟩), .int .i64 (p : Int), .int .i64 (d : Int)] W fun e W' =>
        (e = .returned (.bool true) ∧ J (pre ++ (lst f k p d s).2) W' ∧ LSt w0 W' n1 b off n cap L M l (lst f k p d s).1) ∨ (e = .returned (.bool false) ∧ ∃ q, q <+: (lst f k p d s).2 ∧ Jx (pre ++ q) W') := by
  intro k
  induction k with
  | zero => intro p d s pre W nn h; omega
  | succ k ih =>
    intro p d s pre W nn hpk hpn hdp hS hs hJ0 hN
    have HS := hide hS
    have HJ0 := hide hJ0
    have HN := hide hN
    have HIH := hide ih
    have HY := hide hY
    have HJ := hide hJ
    have HJx := hide hJx
    have HA := hide hA
    have HF := hide hf
    obtain ⟨_, _, _, _, _, ⟨a1, cap1, p5', q5⟩⟩ := hf.2 p hpn
    have p5 := (hS.low.cell (p := ⟨b, off + p * 6 + 5, none⟩) hf.1).trans p5'
    obtain ⟨m, hm⟩ : ∃ m, m = (f p).linksN := ⟨_, rfl⟩
    have hm2 : m ≤ 200 := by rw [hm]; exact hlk p hpn
    rw [← hm] at p5 q5
    have HL := hide q5
    have HM := hide hm
    have e0 := hS.c0
    obtain ⟨K, hK⟩ : ∃ K, K = lks (lst f k) (f p) d s := ⟨_, rfl⟩
    have HLS : Hid (lst f (k + 1) p d s = (put (K m).1 p, (K m).2 ++ [(p, d)])) := by rw [hK, hm]; rfl
    have HK0 : Hid (K 0 = (s, [])) := by rw [hK]; rfl
    have HKS : Hid (∀ j, K (j + 1) = if ((f p).links j).ask = true ∧ (K j).1 ((f p).links j).at_.toNat = false then ((lst f k ((f p).links j).at_.toNat (d + 1) (K j).1).1, (K j).2 ++ (lst f k ((f p).links j).at_.toNat (d + 1) (K j).1).2) else K j) := fun j => by rw [hK]; rfl
    have HKP : Hid (∀ i, i ≤ m → (K i).2 <+: (K m).2) := fun i hi => by rw [hK]; exact lks_prefix hi
    clear hS hJ0 hN ih hY hJ hJx hA hf q5 hm hlk p5' hK
    refine callsIn_of_wp Tryd.func77 rfl trivial ?_ rfl
    simp only [Tryd.ntmps77, List.size_toArray, List.length_cons, List.length_nil, Nat.reduceAdd, Nat.reduceSub, Array.replicate_succ, Array.replicate_zero, List.push_toArray, List.append_toArray, List.nil_append, List.cons_append]
    gi_wp2
    clear e0 p5
    gi_loopw [18] (fun i wr => ∃ j : Nat, j ≤ m ∧ i = .int .i64 j ∧ Hid (LSt w0 wr n1 b off n cap L M l (K j).1) ∧ Hid (J (pre ++ (K j).2) wr)) (fun i _ => m - (intOf i).toNat)
    case atStart => exact ⟨0, by omega, rfl, by rw [HK0.out]; exact HS.out, by rw [HK0.out, List.append_nil]; exact HJ0.out⟩
    case round =>
      obtain ⟨j, hj, rfl, HSt, HJr⟩ := hrel
      by_cases hlt : j < m
      · obtain ⟨lb, lo, rfl, hrow⟩ := (HL.out.below HSt.out.low (Nat.le_refl _)).resolve_left (by omega)
        obtain ⟨d0, d1, d2, d3⟩ := hrow.2 j hlt
        clear hrow
        have hks := HKS.out j
        have hah := HA.out p hpn j (by have := HM.out; omega)
        generalize (f p).links j = x at d0 d1 d2 d3 hks hah
        have HKJ := hide hks
        clear hks
        have S1 := hide (HSt.out.below ((Below.refl _ _).alloc (Nat.le_refl _) (.cells #[.string x.name, .bool x.ask, .bool x.has, .int .i64 x.at_] 72)))
        have J1 := hide (HJ.out _ _ _ HJr.out (((Below.refl n1 wr).alloc (by have := HSt.out.hL; omega) (.cells #[.string x.name, .bool x.ask, .bool x.has, .int .i64 x.at_] 72))))
        have e1 : (wr.alloc (.cells #[.string x.name, .bool x.ask, .bool x.has, .int .i64 x.at_] 72)).cell? ⟨wr.heap.size, 1, none⟩ = some (.bool x.ask) := by simp
        have e3 : (wr.alloc (.cells #[.string x.name, .bool x.ask, .bool x.has, .int .i64 x.at_] 72)).cell? ⟨wr.heap.size, 3, none⟩ = some (.int .i64 x.at_) := by simp
        have HAH := hide hah
        clear hah
        gi_upto_region 4 with fail
        clear d0 d1 d2 d3
        generalize wr.alloc (.cells #[.string x.name, .bool x.ask, .bool x.has, .int .i64 x.at_] 72) = W1 at S1 J1 e1 e3 ⊢
        generalize wr.heap.size = X at e1 e3 ⊢
        cases hask : x.ask with
        | false =>
          have hk1 : K (j + 1) = K j := by rw [HKJ.out, if_neg (by rw [hask]; simp)]
          have HK1 := hide hk1
          clear hk1
          rw [hask] at e1
          have hfw : ∀ f, Fence.wide.fn f = True := fun _ => rfl
          gi_quiet (fail)
          have S2 := hide (S1.out.below (below_drewN (Below.refl W1.heap.size W1) nq))
          have J2 := hide (HJ.out _ _ _ J1.out (below_drewN (Below.refl n1 W1) nq))
          gi_wp2
          exact ⟨⟨j + 1, by omega, by go_num, by rw [HK1.out]; exact S2.out, by rw [HK1.out]; exact J2.out⟩, by simp [intOf]; omega⟩
        | true =>
          obtain ⟨q, hq⟩ : ∃ q : Nat, x.at_ = (q : Int) := ⟨x.at_.toNat, by have := (HAH.out hask).2; omega⟩
          have hqp : q < p := by have := (HAH.out hask).1; rw [hq] at this; simpa using this
          rw [hq] at e3
          rw [hask] at e1
          have f1 := S1.out.c1
          obtain ⟨f2, _⟩ := S1.out.row q (by omega)
          have hq0 : (0 : Int) ≤ q := by omega
          have hqn : (q : Int) < n := by omega
          have hfw : ∀ f, Fence.wide.fn f = True := fun _ => rfl
          cases hl : (K j).1 q with
          | true =>
            have hk1 : K (j + 1) = K j := by rw [HKJ.out, if_neg (by rw [hq]; simp [hl])]
            have HK1 := hide hk1
            clear hk1
            rw [hl] at f2
            gi_quiet (fail)
            have S2 := hide (S1.out.below (below_drewN (Below.refl W1.heap.size W1) nq))
            have J2 := hide (HJ.out _ _ _ J1.out (below_drewN (Below.refl n1 W1) nq))
            gi_wp2
            exact ⟨⟨j + 1, by omega, by go_num, by rw [HK1.out]; exact S2.out, by rw [HK1.out]; exact J2.out⟩, by simp [intOf]; omega⟩
          | false =>
            have hk1 : K (j + 1) = ((lst f k q (d + 1) (K j).1).1, (K j).2 ++ (lst f k q (d + 1) (K j).1).2) := by rw [HKJ.out, if_pos ⟨hask, by rw [hq]; simpa using hl⟩, hq]; simp
            have HK1 := hide hk1
            have hpf := HKP.out (j + 1) (by omega)
            rw [hk1] at hpf
            have HPF := hide hpf
            have ecast : ((d + 1 : Nat) : Int) = (d : Int) + 1 := by omega
            have HC : Hid (∀ W2 nn, LSt w0 W2 n1 b off n cap L M l (K j).1 → J (pre ++ (K j).2) W2 → CallsIn Fence.wide nn Tryd.prog 77 #[.pointer (some ⟨L, 0, none⟩), .int .i64 (q : Int), .int .i64 ((d : Int) + 1)] W2 fun e W' =>
                ∃ r : Bool, e = .returned (.bool r) ∧ Hid ((r = true ∧ J (pre ++ (K (j + 1)).2) W' ∧ LSt w0 W' n1 b off n cap L M l (K (j + 1)).1) ∨ (r = false ∧ ∃ q, q <+: (K m).2 ++ [(p, d)] ∧ Jx (pre ++ q) W'))) := by
              intro W2 nn h1 h2
              have hlen : (pre ++ (K j).2).length + (lst f k q (d + 1) (K j).1).2.length ≤ N := by
                have h3 := HN.out
                rw [HLS.out] at h3
                have h4 := HPF.out.length_le
                simp only [List.length_append, List.length_cons, List.length_nil] at h3 h4 ⊢
                omega
              have h := HIH.out q (d + 1) (K j).1 (pre ++ (K j).2) W2 nn (by omega) (by omega) (by omega) h1 hl h2 hlen
              rw [ecast] at h
              refine h.mono fun e W' h => ?_
              rcases h with ⟨he, hj, hs⟩ | ⟨he, q', hq', hx⟩
              · exact ⟨true, he, .inl ⟨rfl, by rw [HK1.out, ← List.append_assoc]; exact hj, by rw [HK1.out]; exact hs⟩⟩
              · refine ⟨false, he, .inr ⟨rfl, (K j).2 ++ q', ?_, by rw [← List.append_assoc]; exact hx⟩⟩
                obtain ⟨z, hz⟩ := hq'
                obtain ⟨y, hy⟩ := HPF.out
                exact ⟨z ++ y ++ [(p, d)], by rw [← hy, ← hz]; simp⟩
            have S1d := hide (S1.out.below ((Below.refl W1.heap.size W1).drew))
            have J1d := hide (HJ.out _ _ _ J1.out ((Below.refl n1 W1).drew))
            have hwr : IntKind.i64.wrap ((d : Int) + 1) = (d : Int) + 1 := by rw [IntKind.wrap_i64]; omega
            clear hk1 hpf
            rw [hl] at f2
            gi_region_with ((try refine ⟨fun h => (by cases h), ?_⟩); gi_at_call 77; refine (HC.out _ _ ?_ ?_).mono ?_; (first | exact S1d.out | exact S1.out); (first | exact J1d.out | exact J1.out); rintro e W3 ⟨r, rfl, H3⟩)
            all_goals
              cases r with
              | true =>
                have h3 := H3.out.resolve_right (fun h => by cases h.1)
                have S3 := hide h3.2.2
                have J3 := hide h3.2.1
                clear h3 H3
                gi_wp2
                exact ⟨⟨j + 1, by omega, by go_num, S3.out, J3.out⟩, by simp [intOf]; omega⟩
              | false =>
                have h3 := H3.out.resolve_left (fun h => by cases h.1)
                have X3 := hide h3.2
                clear h3 H3
                gi_wp2
                go_ret
                rw [HLS.out]
                exact .inr ⟨rfl, X3.out⟩
      · have e : m = j := by omega
        subst e
        have S2 := hide (HSt.out.set hpn)
        have J2 := hide (HJ.out _ _ _ HJr.out ((Below.refl n1 wr).setCell (p := ⟨M, p, none⟩) HSt.out.hM.1 (.bool true)))
        have hlen : (pre ++ (K m).2).length < N := by
          have h3 := HN.out
          rw [HLS.out] at h3
          simp only [List.length_append, List.length_cons, List.length_nil] at h3 ⊢
          omega
        have hYY := HY.out (nn - 1) (pre ++ (K m).2) (p, d) _ hpn J2.out hlen (by have := HSt.out.hL; simp; omega)
        obtain ⟨fn, tmps, assign, body, hy, hR⟩ := hYY
        dsimp only at hy
        have HR := hide hR
        clear hR
        have g1 := HSt.out.c1
        obtain ⟨g3, g4⟩ := HSt.out.row p hpn
        have g2 := S2.out.c2
        have hp0 : (0 : Int) ≤ p := by omega
        have hpn' : (p : Int) < n := by omega
        gi_wp2
        refine ⟨fun h => (by cases h), HR.out.mono ?_⟩
        rintro e W3 (⟨rfl, hJ3, hU3⟩ | ⟨rfl, hx3⟩)
        · have J3 := hide hJ3
          have S3 := hide (S2.out.upd hU3)
          clear hJ3 hU3
          gi_wp2
          go_ret
          rw [HLS.out]
          exact .inl ⟨rfl, by rw [← List.append_assoc]; exact J3.out, S3.out⟩
        · have X3 := hide hx3
          clear hx3
          gi_wp2
          go_ret
          rw [HLS.out]
          exact .inr ⟨rfl, _, List.prefix_rfl, by rw [← List.append_assoc]; exact X3.out⟩

end Go.Proofs.YtggchgpphhhleaaDoor.Vp

/-
  impl: listing: what is ranged over.
-/
namespace Go.Proofs.YtggchgpphhhleaaDoor.Vp
open Go.RowKit Go.Shelf Go.Proofs.YtggchgpphhhleaaDoor.Ca

attribute [local go_sem] Oper.semAt_some

theorem roundAny {F : Fence} (hd : F.depth = none) {m m' : Nat} {P : Program} {l : Nat} {f : FuncId} {tmps : Array Value} {assign body : Code} {w : World} {R : Ending → World → Prop}
    (h : RoundIn F m P l f tmps assign body w R) : RoundIn F m' P l f tmps assign body w R := ⟨h.1, fun c cs _ => h.2 c cs (fun d h => by rw [hd] at h; cases h)⟩
theorem yieldAny {F : Fence} (hd : F.depth = none) {m : Nat} (m' : Nat) {P : Program} {l : Nat} {args : Array Value} {W : World} {R : Ending → World → Prop} (h : YieldAt F m P l args W R) : YieldAt F m' P l args W R := by
  obtain ⟨fn, tmps, assign, body, hy, hR⟩ := h
  exact ⟨fn, tmps, assign, body, hy, roundAny hd hR⟩

theorem infoBool : (Tryd.prog.info? 4).map (fun i => (i.zero, i.size, i.bytes)) = some (some (.bool false), 1, 1) := by kernel_rfl
def zerosBool (n : Nat) : Array Value := madeCells (Value.bool false).cells n
theorem mkBool (n : Nat) (hn : n ≤ 1048576) (w : World) : (Instr.makeSlice 62 (.int .i64 (n : Int)) (.int .i64 (n : Int))).run Tryd.prog w = .ok (.slice (some ⟨w.heap.size, 0, none⟩) n n) (w.alloc (.cells (zerosBool n) 4)) := by
  obtain ⟨i, hi, hz⟩ := Option.map_eq_some_iff.1 infoBool
  simp only [Prod.mk.injEq] at hz
  obtain ⟨h1, h2, h3⟩ := hz
  have h := run_make (P := Tryd.prog) w 62 4 i _ Tryd.underlying62 hi h1 .i64 .i64 n n (by omega) (Int.le_refl _) (by rw [h3]; omega) (by omega)
  rw [h2] at h
  simpa [zerosBool] using h
theorem zerosBool_at (n q : Nat) (h : q < n) : (zerosBool n)[q]? = some (.bool false) := by
  unfold zerosBool madeCells
  simp [Value.cells, h, Nat.mod_one]
theorem cell_M (W : World) (n q : Nat) (h : q < n) : (W.alloc (.cells (zerosBool n) 4)).cell? ⟨W.heap.size, q, none⟩ = some (.bool false) ∧ (W.alloc (.cells (zerosBool n) 4)).frozen? ⟨W.heap.size, q, none⟩ = false := by
  have e := heap_alloc_new W (.cells (zerosBool n) 4)
  refine ⟨?_, ?_⟩
  · rw [cell_of_row _ _ _ _ _ _ e]
    exact zerosBool_at n q h
  · unfold World.frozen?
    rw [e]
    simp
theorem lst_new1 {w0 W : World} {b off n cap l : Nat} (hlow : Below w0.heap.size w0 W) : LSt w0 ((W.alloc (.cells (zerosBool n) 4)).alloc (.cells #[.slice (some ⟨b, off, none⟩) n cap, .slice (some ⟨W.heap.size, 0, none⟩) n n, .func (.yield l) #[] #[]] 117)).drew W.heap.size b off n cap (W.heap.size + 1) W.heap.size l (fun _ => false) := by
  have hz : (W.alloc (.cells (zerosBool n) 4)).heap.size = W.heap.size + 1 := by simp
  have D : Below (W.heap.size + 1) (W.alloc (.cells (zerosBool n) 4)) ((W.alloc (.cells (zerosBool n) 4)).alloc (.cells #[.slice (some ⟨b, off, none⟩) n cap, .slice (some ⟨W.heap.size, 0, none⟩) n n, .func (.yield l) #[] #[]] 117)).drew := ((Below.refl _ _).alloc (by omega) _).drew
  refine ⟨?_, ?_, ?_, fun q hq => ?_, ((hlow.alloc hlow.size _).alloc (by simp; have := hlow.size; omega) _).drew, by simp, by simp; omega, by omega, hlow.size⟩
  · simp
  · simp
  · simp
  · exact ⟨(D.cell (p := ⟨W.heap.size, q, none⟩) (Nat.lt_succ_self _)).trans (cell_M W n q hq).1, (D.frozen (p := ⟨W.heap.size, q, none⟩) (Nat.lt_succ_self _)).trans (cell_M W n q hq).2⟩
theorem lst_new2 {w0 W : World} {b off n cap l : Nat} (hlow : Below w0.heap.size w0 W) : LSt w0 ((W.alloc (.cells #[.slice (some ⟨b, off, none⟩) n cap, .slice (some ⟨W.heap.size + 1, 0, none⟩) n n, .func (.yield l) #[] #[]] 117)).alloc (.cells (zerosBool n) 4)).drew W.heap.size b off n cap W.heap.size (W.heap.size + 1) l (fun _ => false) := by
  have hz : (W.alloc (.cells #[.slice (some ⟨b, off, none⟩) n cap, .slice (some ⟨W.heap.size + 1, 0, none⟩) n n, .func (.yield l) #[] #[]] 117)).heap.size = W.heap.size + 1 := by simp
  have D : Below (W.heap.size + 1) (W.alloc (.cells #[.slice (some ⟨b, off, none⟩) n cap, .slice (some ⟨W.heap.size + 1, 0, none⟩) n n, .func (.yield l) #[] #[]] 117)) ((W.alloc (.cells #[.slice (some ⟨b, off, none⟩) n cap, .slice (some ⟨W.heap.size + 1, 0, none⟩) n n, .func (.yield l) #[] #[]] 117)).alloc (.cells (zerosBool n) 4)).drew := ((Below.refl _ _).alloc (by omega) _).drew
  refine ⟨(D.cell (p := ⟨W.heap.size, 0, none⟩) (Nat.lt_succ_self _)).trans (by simp), (D.cell (p := ⟨W.heap.size, 1, none⟩) (Nat.lt_succ_self _)).trans (by simp), (D.cell (p := ⟨W.heap.size, 2, none⟩) (Nat.lt_succ_self _)).trans (by simp), fun q hq => ?_, ((hlow.alloc hlow.size _).alloc (by simp; have := hlow.size; omega) _).drew, by simp; omega, by simp, by omega, hlow.size⟩
  have h := cell_M (W.alloc (.cells #[.slice (some ⟨b, off, none⟩) n cap, .slice (some ⟨W.heap.size + 1, 0, none⟩) n n, .func (.yield l) #[] #[]] 117)) n q hq
  rw [hz] at h
  exact h

/-- listing(a) hands over a function that has caught the box of a. -/
theorem listing_in (v : Value) (w : World) (nn : Nat) :
    CallsIn Fence.wide nn Tryd.prog 59 #[.agg #[v]] w fun e w' => e = .returned (.func (.func 76) #[] #[.pointer (some ⟨w.heap.size, 0, none⟩)]) ∧ w' = w.alloc (.cells #[v] 30) := by
  refine callsIn_of_wp Tryd.func59 rfl trivial ?_ rfl
  simp only [Tryd.ntmps59, List.size_toArray, List.length_cons, List.length_nil, Nat.reduceAdd, Nat.reduceSub, Array.replicate_succ, Array.replicate_zero, List.push_toArray, List.append_toArray, List.nil_append, List.cons_append]
  gi_wp2
  go_ret
  exact ⟨rfl, rfl⟩

set_option maxRecDepth 100000 in
set_option maxHeartbeats 4000000 in
theorem listing_seq (w0 : World) (b off n cap Bx nn : Nat) (f : Nat → Deed) (w : World) (hA : Ahead f n) (hn1 : 1 ≤ n) (hn : (n : Int) ≤ 400) (hf : RowDeed w0 b off n f) (hlk : ∀ p, p < n → (f p).linksN ≤ 200) (hlow : Below w0.heap.size w0 w) (hBx : w.cell? ⟨Bx, 0, none⟩ = some (.slice (some ⟨b, off, none⟩) n cap)) (hlt : Bx < w.heap.size) :
    SeqT Fence.wide nn Tryd.prog 76 #[.pointer (some ⟨Bx, 0, none⟩)] (fun x : Nat × Nat => #[Value.int .i64 (x.1 : Int), Value.int .i64 (x.2 : Int)]) (fun x => x.1 < n) w0.heap.size (fun xs => xs = listing f n) (fun pre => pre <+: listing f n) (listing f n).length w := by
  intro l J Jx W hW hJ hJx hY h0
  have hl := list_in w0 W.heap.size b off n cap
  have HLI := hide hl
  clear hl
  have hB := (hW.cell (p := ⟨Bx, 0, none⟩) hlt).trans hBx
  have hmk := fun w => mkBool n (by omega) w
  have hwb : IntKind.i64.wrap ((n : Int) - 1) = (n : Int) - 1 := by rw [IntKind.wrap_i64]; omega
  have HJ := hide hJ
  have HJx := hide hJx
  have HY := hide hY
  have H0 := hide h0
  have HA := hide hA
  have HF := hide hf
  have HLK := hide hlk
  have HLOW := hide (hlow.trans (hW.mono hlow.size))
  have hBl : Bx < W.heap.size := Nat.lt_of_lt_of_le hlt hW.size
  clear hJ hJx hY h0 hA hf hlk hlow hW hBx hlt
  refine callsIn_of_wp Tryd.func76 rfl trivial ?_ rfl
  simp only [Tryd.ntmps76, List.size_toArray, List.length_cons, List.length_nil, Nat.reduceAdd, Nat.reduceSub, Array.replicate_succ, Array.replicate_zero, List.push_toArray, List.append_toArray, List.nil_append, List.cons_append]
  have key : ∀ L M W2, LSt w0 W2 W.heap.size b off n cap L M l (fun _ => false) → Below W.heap.size W W2 → CallsIn Fence.wide (nn - 1) Tryd.prog 77 #[.pointer (some ⟨L, 0, none⟩), .int .i64 ((n : Int) - 1), .int .i64 0] W2 fun e W' =>
      ∃ r : Bool, e = .returned (.bool r) ∧ Hid ((∃ xs, xs = listing f n ∧ J xs W') ∨ (∃ pre, pre <+: listing f n ∧ Jx pre W')) := by
    intro L M W2 hS hB2
    have h := HLI.out L M l (listing f n).length f J Jx HA.out hn HF.out HLK.out HJ.out HJx.out (fun m pre x W1 h0 h1 h2 h3 => yieldAny rfl m (HY.out pre x W1 h0 h1 h2 h3)) n (n - 1) 0 (fun _ => false) [] W2 (nn - 1) (by omega) (by omega) (by omega) hS rfl (HJ.out _ _ _ H0.out hB2) (by simp [listing])
    rw [show ((n - 1 : Nat) : Int) = (n : Int) - 1 by omega] at h
    refine h.mono fun e W' h => ?_
    rcases h with ⟨he, hj, _⟩ | ⟨he, q, hq, hx⟩
    · exact ⟨true, he, .inl ⟨_, rfl, by simpa [listing] using hj⟩⟩
    · exact ⟨false, he, .inr ⟨q, hq, by simpa using hx⟩⟩
  have HKEY := hide key
  have D1 := hide (((Below.refl W.heap.size W).alloc (Nat.le_refl _) (.cells (zerosBool n) 4)).alloc (by simp) (.cells #[.slice (some ⟨b, off, none⟩) n cap, .slice (some ⟨W.heap.size, 0, none⟩) n n, .func (.yield l) #[] #[]] 117)).drew
  have D2 := hide (((Below.refl W.heap.size W).alloc (Nat.le_refl _) (.cells #[.slice (some ⟨b, off, none⟩) n cap, .slice (some ⟨W.heap.size + 1, 0, none⟩) n n, .func (.yield l) #[] #[]] 117)).alloc (by simp) (.cells (zerosBool n) 4)).drew
  have hfw : ∀ f, Fence.wide.fn f = True := fun _ => rfl
  clear key HLI HJ HJx HY H0 HA HF HLK
  gi_upto_region 0 with fail
  gi_cut [3] from 4 (fun s3 wx => ∃ L, s3 = .pointer (some ⟨L, 0, none⟩) ∧ Hid (∃ M, LSt w0 wx W.heap.size b off n cap L M l (fun _ => false)) ∧ Hid (Below W.heap.size W wx))
  case first =>
    have hsf := fun (w : World) (a : Addr) (m : Mode) => run_store Tryd.prog w a (.func (.yield l) #[] #[]) m rfl
    gi_region_with fail
    all_goals
      gi_wp2_with fail
      gi_meet
      first
        | exact ⟨W.heap.size + 1, rfl, ⟨W.heap.size, lst_new1 HLOW.out⟩, D1.out⟩
        | exact ⟨W.heap.size, rfl, ⟨W.heap.size + 1, lst_new2 HLOW.out⟩, D2.out⟩
  case rest =>
  obtain ⟨L, rfl, HS, HB⟩ := hcut
  have hB1 := (HB.out.cell (p := ⟨Bx, 0, none⟩) hBl).trans hB
  have HC : Hid (CallsIn Fence.wide (nn - 1) Tryd.prog 77 #[.pointer (some ⟨L, 0, none⟩), .int .i64 ((n : Int) - 1), .int .i64 0] wc fun e W' => ∃ r : Bool, e = .returned (.bool r) ∧ Hid ((∃ xs, xs = listing f n ∧ J xs W') ∨ (∃ pre, pre <+: listing f n ∧ Jx pre W'))) := by
    obtain ⟨M, hS⟩ := HS.out
    exact HKEY.out L M wc hS HB.out
  clear HKEY HS hmk HB HLOW D1 D2 hB
  gi_wp2_with ((try refine ⟨fun h => (by cases h), ?_⟩); gi_at_call 77; refine HC.out.mono ?_; rintro e W3 ⟨r, rfl, H3⟩)
  go_end0
  exact ⟨⟨_, rfl⟩, H3.out⟩

end Go.Proofs.YtggchgpphhhleaaDoor.Vp

/-
  impl: outOfTurn, tooDeep.
-/
namespace Go.Proofs.YtggchgpphhhleaaDoor.Vp
open Go.RowKit Go.Shelf Go.Proofs.YtggchgpphhhleaaDoor.Ca

attribute [local go_sem] Oper.semAt_some

theorem offAt_more {i : Nat} {pre : List (Nat × Nat)} {x : Nat × Nat} (h : offAt i pre = -1) : offAt i (pre ++ [x]) = if x.1 = i + pre.length then -1 else ((i + pre.length : Nat) : Int) := by
  induction pre generalizing i with
  | nil => simp [offAt]
  | cons y ys ih =>
    simp only [offAt, List.cons_append] at h ⊢
    split at h
    · rename_i e
      rw [if_pos e, ih h]
      simp only [List.length_cons]
      have : i + 1 + ys.length = i + (ys.length + 1) := by omega
      rw [this]
    · omega
theorem offAt_prefix {i : Nat} {pre xs : List (Nat × Nat)} (hp : pre <+: xs) (h : offAt i pre ≠ -1) : offAt i xs = offAt i pre := by
  induction pre generalizing i xs with
  | nil => exact absurd rfl h
  | cons y ys ih =>
    obtain ⟨t, rfl⟩ := hp
    simp only [offAt, List.cons_append] at h ⊢
    split
    · rename_i e
      rw [if_pos e] at h
      exact ih (List.prefix_append _ _) h
    · rfl
theorem deepAt_more {f : Nat → Deed} {pre : List (Nat × Nat)} {x : Nat × Nat} (h : deepAt f pre = -1) : deepAt f (pre ++ [x]) = if (f x.1).kind = 3 ∧ 60 ≤ x.2 then (x.1 : Int) else -1 := by
  induction pre with
  | nil => simp [deepAt]
  | cons y ys ih =>
    simp only [deepAt, List.cons_append] at h ⊢
    split at h
    · omega
    · rename_i e
      rw [if_neg e, ih h]
theorem deepAt_prefix {f : Nat → Deed} {pre xs : List (Nat × Nat)} (hp : pre <+: xs) (h : deepAt f pre ≠ -1) : deepAt f xs = deepAt f pre := by
  induction pre generalizing xs with
  | nil => exact absurd rfl h
  | cons y ys ih =>
    obtain ⟨t, rfl⟩ := hp
    simp only [deepAt, List.cons_append] at h ⊢
    split
    · rfl
    · rename_i e
      rw [if_neg e] at h
      exact ih (List.prefix_append _ _) h

/-- The boxes of outOfTurn: the account, the answer, the turn, what the iterator has caught. -/
structure TurnB (W : World) (h : Nat) (v : Value) : Prop where
  size : W.heap.size = h + 4
  r : W.cell? ⟨h + 1, 0, none⟩ = some (.int .i64 0) ∧ W.frozen? ⟨h + 1, 0, none⟩ = false
  t : W.cell? ⟨h + 1 + 1, 0, none⟩ = some (.int .i64 0) ∧ W.frozen? ⟨h + 1 + 1, 0, none⟩ = false
  a : W.cell? ⟨h + 1 + 1 + 1, 0, none⟩ = some v
  a0 : W.cell? ⟨h, 0, none⟩ = some v
theorem turn_boxes (w : World) (v : Value) (t u : TypeId) : TurnB ((((w.alloc (.cells #[v] t)).alloc (.cells #[.int .i64 0] u)).alloc (.cells #[.int .i64 0] u)).alloc (.cells #[v] t)) w.heap.size v := by
  have hz1 : (w.alloc (.cells #[v] t)).heap.size = w.heap.size + 1 := by simp
  have hz2 : ((w.alloc (.cells #[v] t)).alloc (.cells #[.int .i64 0] u)).heap.size = w.heap.size + 1 + 1 := by simp
  have hz3 : (((w.alloc (.cells #[v] t)).alloc (.cells #[.int .i64 0] u)).alloc (.cells #[.int .i64 0] u)).heap.size = w.heap.size + 1 + 1 + 1 := by simp
  have D0 : Below (w.heap.size + 1) (w.alloc (.cells #[v] t)) ((((w.alloc (.cells #[v] t)).alloc (.cells #[.int .i64 0] u)).alloc (.cells #[.int .i64 0] u)).alloc (.cells #[v] t)) := (((Below.refl _ _).alloc (by omega) _).alloc (by omega) _).alloc (by omega) _
  have D1 : Below (w.heap.size + 1 + 1) ((w.alloc (.cells #[v] t)).alloc (.cells #[.int .i64 0] u)) ((((w.alloc (.cells #[v] t)).alloc (.cells #[.int .i64 0] u)).alloc (.cells #[.int .i64 0] u)).alloc (.cells #[v] t)) := ((Below.refl _ _).alloc (by omega) _).alloc (by omega) _
  have D2 : Below (w.heap.size + 1 + 1 + 1) (((w.alloc (.cells #[v] t)).alloc (.cells #[.int .i64 0] u)).alloc (.cells #[.int .i64 0] u)) ((((w.alloc (.cells #[v] t)).alloc (.cells #[.int .i64 0] u)).alloc (.cells #[.int .i64 0] u)).alloc (.cells #[v] t)) := (Below.refl _ _).alloc (by omega) _
  refine ⟨by simp, ⟨?_, ?_⟩, ⟨?_, ?_⟩, ?_, (D0.cell (p := ⟨w.heap.size, 0, none⟩) (Nat.lt_succ_self _)).trans (by simp)⟩
  · refine (D1.cell (p := ⟨w.heap.size + 1, 0, none⟩) (Nat.lt_succ_self _)).trans ?_
    rw [← hz1]
    clear D0 D1 D2 hz1 hz2 hz3
    generalize w.alloc (.cells #[v] t) = W
    simp
  · refine (D1.frozen (p := ⟨w.heap.size + 1, 0, none⟩) (Nat.lt_succ_self _)).trans ?_
    rw [← hz1]
    clear D0 D1 D2 hz1 hz2 hz3
    generalize w.alloc (.cells #[v] t) = W
    simp
  · refine (D2.cell (p := ⟨w.heap.size + 1 + 1, 0, none⟩) (Nat.lt_succ_self _)).trans ?_
    rw [← hz2]
    clear D0 D1 D2 hz1 hz2 hz3
    generalize (w.alloc (.cells #[v] t)).alloc (.cells #[.int .i64 0] u) = W
    simp
  · refine (D2.frozen (p := ⟨w.heap.size + 1 + 1, 0, none⟩) (Nat.lt_succ_self _)).trans ?_
    rw [← hz2]
    clear D0 D1 D2 hz1 hz2 hz3
    generalize (w.alloc (.cells #[v] t)).alloc (.cells #[.int .i64 0] u) = W
    simp
  · rw [← hz3]
    clear D0 D1 D2 hz1 hz2 hz3
    generalize ((w.alloc (.cells #[v] t)).alloc (.cells #[.int .i64 0] u)).alloc (.cells #[.int .i64 0] u) = W
    simp

set_option maxRecDepth 100000 in
set_option maxHeartbeats 4000000 in
theorem outOfTurn_any (b off n cap : Nat) (f : Nat → Deed) (w : World) (hA : Ahead f n) (hn1 : 1 ≤ n) (hn : (n : Int) ≤ 400) (hf : RowDeed w b off n f) (hlk : ∀ p, p < n → (f p).linksN ≤ 200) (hlen : (listing f n).length ≤ 400) :
    Calls Tryd.prog 38 #[.agg #[.slice (some ⟨b, off, none⟩) n cap]] w fun e w' => e = .returned (.int .i64 (offAt 0 (listing f n))) ∧ Below w.heap.size w w' := by
  refine (callsIn_wide (n := 3)).1 ?_
  have HF := hide hf
  have HA := hide hA
  have HLK := hide hlk
  clear hf hA hlk
  have A00 := ((((Below.refl w.heap.size w).alloc (Nat.le_refl _) (.cells #[.slice (some ⟨b, off, none⟩) n cap] 30)).alloc (by simp) (.cells #[.int .i64 0] 3)).alloc (by simp; omega) (.cells #[.int .i64 0] 3)).alloc (by simp; omega) (.cells #[.slice (some ⟨b, off, none⟩) n cap] 30)
  have A0 := hide A00
  clear A00
  have O0 := hide (turn_boxes w (.slice (some ⟨b, off, none⟩) n cap) 30 3)
  refine callsIn_of_wp_marks Tryd.func38 rfl trivial ?_ rfl
  simp only [Tryd.ntmps38, List.size_toArray, List.length_cons, List.length_nil, Nat.reduceAdd, Nat.reduceSub, Array.replicate_succ, Array.replicate_zero, List.push_toArray, List.append_toArray, List.nil_append, List.cons_append]
  gi_wp2_with (refine ⟨trivial, ?_⟩; gi_at_call 59; refine (listing_in _ _ _).mono ?_; rintro e w' ⟨rfl, rfl⟩)
  generalize (((w.alloc (.cells #[.slice (some ⟨b, off, none⟩) n cap] 30)).alloc (.cells #[.int .i64 0] 3)).alloc (.cells #[.int .i64 0] 3)).alloc (.cells #[.slice (some ⟨b, off, none⟩) n cap] 30) = W at A0 O0 ⊢
  have hsz := O0.out.size
  obtain ⟨tr1, tr2⟩ := O0.out.r
  obtain ⟨tt1, tt2⟩ := O0.out.t
  refine wpIn_rangeFunc_T (F := Fence.wide) rfl (by omega) (gf := 76) (lb := #[.pointer (some ⟨w.heap.size + 1 + 1 + 1, 0, none⟩)]) rfl trivial (enters_of Tryd.func76 (by kernel_rfl) rfl) (base := w.heap.size) (by omega)
    (listing_seq w b off n cap (w.heap.size + 1 + 1 + 1) (3 - 1) f W HA.out hn1 hn HF.out HLK.out A0.out O0.out.a (by omega)) (Below.refl _ _) (fun _ => rfl)
    (fun pre Wx => Wx.cell? ⟨w.heap.size + 1 + 1, 0, none⟩ = some (.int .i64 (pre.length : Int)) ∧ Wx.frozen? ⟨w.heap.size + 1 + 1, 0, none⟩ = false ∧ Wx.cell? ⟨w.heap.size + 1, 0, none⟩ = some (.int .i64 0) ∧ Wx.frozen? ⟨w.heap.size + 1, 0, none⟩ = false ∧ Hid (offAt 0 pre = -1) ∧ Hid (Below w.heap.size w Wx))
    (fun c pre Wx => c = .ret ∧ Wx.cell? ⟨w.heap.size + 1, 0, none⟩ = some (.int .i64 (offAt 0 pre)) ∧ Hid (offAt 0 pre ≠ -1) ∧ Hid (Below w.heap.size w Wx))
    (fun s A B h hB => ⟨(hB.cell (p := ⟨w.heap.size + 1 + 1, 0, none⟩) (by show w.heap.size + 1 + 1 < W.heap.size; omega)).trans h.1, (hB.frozen (p := ⟨w.heap.size + 1 + 1, 0, none⟩) (by show w.heap.size + 1 + 1 < W.heap.size; omega)).trans h.2.1, (hB.cell (p := ⟨w.heap.size + 1, 0, none⟩) (by show w.heap.size + 1 < W.heap.size; omega)).trans h.2.2.1, (hB.frozen (p := ⟨w.heap.size + 1, 0, none⟩) (by show w.heap.size + 1 < W.heap.size; omega)).trans h.2.2.2.1, h.2.2.2.2.1, h.2.2.2.2.2.out.trans (hB.mono (by omega))⟩)
    (fun c s A B h hB => ⟨h.1, (hB.cell (p := ⟨w.heap.size + 1, 0, none⟩) (by show w.heap.size + 1 < W.heap.size; omega)).trans h.2.1, h.2.2.1, h.2.2.2.out.trans (hB.mono (by omega))⟩)
    ⟨tt1, tt2, tr1, tr2, rfl, A0.out⟩
    (fun x => { tmps := #[.agg #[.slice (some ⟨b, off, none⟩) n cap], .pointer (some ⟨w.heap.size, 0, none⟩), .pointer (some ⟨w.heap.size + 1, 0, none⟩), .pointer (some ⟨w.heap.size + 1 + 1, 0, none⟩), .int .i64 (x.1 : Int), .agg #[.slice (some ⟨b, off, none⟩) n cap], .func (.func 76) #[] #[.pointer (some ⟨w.heap.size + 1 + 1 + 1, 0, none⟩)], .int .i64 (x.1 : Int), .int .i64 (x.2 : Int), undef, undef, undef, undef, undef, undef], defers := [] }) ?assign ?body ?done ?stop
  case assign =>
    intro l x W K hK
    gi_wp2
    exact hK
  case body =>
    rintro l pre x W1 _ ⟨hc, hf, hr, hrf, HO, HB⟩ hlt hz
    clear tr1 tr2 tt1 tt2
    have hpl : (pre.length : Int) ≤ 1048576 := by omega
    by_cases hx : (x.1 : Int) = (pre.length : Int)
    · have ho : offAt 0 (pre ++ [x]) = -1 := by rw [offAt_more HO.out, if_pos (by omega)]
      have HO1 := hide ho
      clear ho
      have U1 := hide (Upd.setCell (P := fun k => w.heap.size ≤ k ∧ k < W.heap.size) W1 (p := ⟨w.heap.size + 1 + 1, 0, none⟩) ⟨by show _ ≤ _ + 1 + 1; omega, by show _ + 1 + 1 < _; omega⟩ (.int .i64 ((pre.length : Int) + 1)))
      have B1 := hide (HB.out.setCell (p := ⟨w.heap.size + 1 + 1, 0, none⟩) (by show _ ≤ _ + 1 + 1; omega) (.int .i64 ((pre.length : Int) + 1)))
      have c1 : (W1.setCell ⟨w.heap.size + 1 + 1, 0, none⟩ (.int .i64 ((pre.length : Int) + 1))).cell? ⟨w.heap.size + 1 + 1, 0, none⟩ = some (.int .i64 ((pre ++ [x]).length : Int)) := by
        rw [World.cell?_setCell_same' _ _ _ (by rw [hc]; rfl)]
        simp
      have c2 : (W1.setCell ⟨w.heap.size + 1 + 1, 0, none⟩ (.int .i64 ((pre.length : Int) + 1))).cell? ⟨w.heap.size + 1, 0, none⟩ = some (.int .i64 0) := by
        rw [World.cell?_setCell_other _ _ _ _ (by simp)]
        exact hr
      have C1 := hide c1
      have C2 := hide c2
      clear c1 c2
      gi_wp2
      exact ⟨U1.out, C1.out, by simpa using hf, C2.out, by simpa using hrf, HO1.out, B1.out⟩
    · have ho : offAt 0 (pre ++ [x]) = (pre.length : Int) := by rw [offAt_more HO.out, if_neg (by omega)]; simp
      have HO1 := hide ho
      clear ho
      have U1 := hide (Upd.setCell (P := fun k => w.heap.size ≤ k ∧ k < W.heap.size) W1 (p := ⟨w.heap.size + 1, 0, none⟩) ⟨by show _ ≤ _ + 1; omega, by show _ + 1 < _; omega⟩ (.int .i64 (pre.length : Int)))
      have B1 := hide (HB.out.setCell (p := ⟨w.heap.size + 1, 0, none⟩) (by show _ ≤ _ + 1; omega) (.int .i64 (pre.length : Int)))
      have C1 := hide (World.cell?_setCell_same' W1 ⟨w.heap.size + 1, 0, none⟩ (.int .i64 (pre.length : Int)) (by rw [hr]; rfl))
      gi_wp2
      exact ⟨U1.out, rfl, by rw [HO1.out]; exact C1.out, by show _ ≠ _; rw [HO1.out]; omega, B1.out⟩
  case done =>
    rintro D0 ys W1 hD rfl ⟨_, _, hr, hrf, HO, HB⟩ hK
    have K1 := hide ((KeepsOthers.setCell W1 ⟨w.heap.size + 1, 0, none⟩ (.int .i64 (-1))).same D0 _ hK rfl)
    have B1 := hide (HB.out.setCell (p := ⟨w.heap.size + 1, 0, none⟩) (by show _ ≤ _ + 1; omega) (.int .i64 (-1)))
    have C1 := hide (World.cell?_setCell_same' W1 ⟨w.heap.size + 1, 0, none⟩ (.int .i64 (-1)) (by rw [hr]; rfl))
    gi_wp2
    refine ⟨by simp, .inl ⟨_, _, rfl, run_takeDeferred K1.out, ?_⟩⟩
    have P1 := below_putObj (n := W.heap.size) (W1.setCell ⟨w.heap.size + 1, 0, none⟩ (.int .i64 (-1))) hD (Array.getElem?_eq_some_iff.1 K1.out).1 (.deferred none)
    have c := (P1.cell (p := ⟨w.heap.size + 1, 0, none⟩) (by show w.heap.size + 1 < W.heap.size; omega)).trans C1.out
    exact ⟨.int .i64 (-1), by simp [results, Tryd.results38, go_sem, c], by rw [HO.out], B1.out.trans (P1.mono (by omega))⟩
  case stop =>
    rintro D0 c pre W1 hD hpre ⟨rfl, hr, HO, HB⟩ hK
    gi_wp2
    refine ⟨by simp, .inl ⟨_, _, rfl, run_takeDeferred hK, ?_⟩⟩
    have P1 := below_putObj (n := W.heap.size) W1 hD (Array.getElem?_eq_some_iff.1 hK).1 (.deferred none)
    have c := (P1.cell (p := ⟨w.heap.size + 1, 0, none⟩) (by show w.heap.size + 1 < W.heap.size; omega)).trans hr
    exact ⟨.int .i64 (offAt 0 pre), by simp [results, Tryd.results38, go_sem, c], by rw [offAt_prefix hpre HO.out], HB.out.trans (P1.mono (by omega))⟩

/-- The boxes of tooDeep: the account, the answer, what the iterator has caught. -/
structure DeepB (W : World) (h : Nat) (v : Value) : Prop where
  size : W.heap.size = h + 3
  r : W.cell? ⟨h + 1, 0, none⟩ = some (.int .i64 0) ∧ W.frozen? ⟨h + 1, 0, none⟩ = false
  a : W.cell? ⟨h + 1 + 1, 0, none⟩ = some v
  a0 : W.cell? ⟨h, 0, none⟩ = some v
theorem deep_boxes (w : World) (v : Value) (t u : TypeId) : DeepB (((w.alloc (.cells #[v] t)).alloc (.cells #[.int .i64 0] u)).alloc (.cells #[v] t)) w.heap.size v := by
  have hz1 : (w.alloc (.cells #[v] t)).heap.size = w.heap.size + 1 := by simp
  have hz2 : ((w.alloc (.cells #[v] t)).alloc (.cells #[.int .i64 0] u)).heap.size = w.heap.size + 1 + 1 := by simp
  have D0 : Below (w.heap.size + 1) (w.alloc (.cells #[v] t)) (((w.alloc (.cells #[v] t)).alloc (.cells #[.int .i64 0] u)).alloc (.cells #[v] t)) := ((Below.refl _ _).alloc (by omega) _).alloc (by omega) _
  have D1 : Below (w.heap.size + 1 + 1) ((w.alloc (.cells #[v] t)).alloc (.cells #[.int .i64 0] u)) (((w.alloc (.cells #[v] t)).alloc (.cells #[.int .i64 0] u)).alloc (.cells #[v] t)) := (Below.refl _ _).alloc (by omega) _
  refine ⟨by simp, ⟨?_, ?_⟩, ?_, (D0.cell (p := ⟨w.heap.size, 0, none⟩) (Nat.lt_succ_self _)).trans (by simp)⟩
  · refine (D1.cell (p := ⟨w.heap.size + 1, 0, none⟩) (Nat.lt_succ_self _)).trans ?_
    rw [← hz1]
    clear D0 D1 hz1 hz2
    generalize w.alloc (.cells #[v] t) = W
    simp
  · refine (D1.frozen (p := ⟨w.heap.size + 1, 0, none⟩) (Nat.lt_succ_self _)).trans ?_
    rw [← hz1]
    clear D0 D1 hz1 hz2
    generalize w.alloc (.cells #[v] t) = W
    simp
  · rw [← hz2]
    clear D0 D1 hz1 hz2
    generalize (w.alloc (.cells #[v] t)).alloc (.cells #[.int .i64 0] u) = W
    simp

set_option maxRecDepth 100000 in
set_option maxHeartbeats 4000000 in
theorem tooDeep_any (b off n cap : Nat) (f : Nat → Deed) (w : World) (hA : Ahead f n) (hn1 : 1 ≤ n) (hn : (n : Int) ≤ 400) (hf : RowDeed w b off n f) (hlk : ∀ p, p < n → (f p).linksN ≤ 200) :
    Calls Tryd.prog 39 #[.agg #[.slice (some ⟨b, off, none⟩) n cap]] w fun e w' => e = .returned (.int .i64 (deepAt f (listing f n))) ∧ Below w.heap.size w w' := by
  refine (callsIn_wide (n := 3)).1 ?_
  have HF := hide hf
  have HA := hide hA
  have HLK := hide hlk
  clear hf hA hlk
  have A00 := (((Below.refl w.heap.size w).alloc (Nat.le_refl _) (.cells #[.slice (some ⟨b, off, none⟩) n cap] 30)).alloc (by simp) (.cells #[.int .i64 0] 3)).alloc (by simp; omega) (.cells #[.slice (some ⟨b, off, none⟩) n cap] 30)
  have A0 := hide A00
  clear A00
  have O0 := hide (deep_boxes w (.slice (some ⟨b, off, none⟩) n cap) 30 3)
  refine callsIn_of_wp_marks Tryd.func39 rfl trivial ?_ rfl
  simp only [Tryd.ntmps39, List.size_toArray, List.length_cons, List.length_nil, Nat.reduceAdd, Nat.reduceSub, Array.replicate_succ, Array.replicate_zero, List.push_toArray, List.append_toArray, List.nil_append, List.cons_append]
  gi_wp2_with (refine ⟨trivial, ?_⟩; gi_at_call 59; refine (listing_in _ _ _).mono ?_; rintro e w' ⟨rfl, rfl⟩)
  generalize ((w.alloc (.cells #[.slice (some ⟨b, off, none⟩) n cap] 30)).alloc (.cells #[.int .i64 0] 3)).alloc (.cells #[.slice (some ⟨b, off, none⟩) n cap] 30) = W at A0 O0 ⊢
  have hsz := O0.out.size
  obtain ⟨tr1, tr2⟩ := O0.out.r
  have ta := O0.out.a0
  refine wpIn_rangeFunc_T (F := Fence.wide) rfl (by omega) (gf := 76) (lb := #[.pointer (some ⟨w.heap.size + 1 + 1, 0, none⟩)]) rfl trivial (enters_of Tryd.func76 (by kernel_rfl) rfl) (base := w.heap.size) (by omega)
    (listing_seq w b off n cap (w.heap.size + 1 + 1) (3 - 1) f W HA.out hn1 hn HF.out HLK.out A0.out O0.out.a (by omega)) (Below.refl _ _) (fun _ => rfl)
    (fun pre Wx => Wx.cell? ⟨w.heap.size, 0, none⟩ = some (.slice (some ⟨b, off, none⟩) n cap) ∧ Wx.cell? ⟨w.heap.size + 1, 0, none⟩ = some (.int .i64 0) ∧ Wx.frozen? ⟨w.heap.size + 1, 0, none⟩ = false ∧ Hid (deepAt f pre = -1) ∧ Hid (Below w.heap.size w Wx))
    (fun c pre Wx => c = .ret ∧ Wx.cell? ⟨w.heap.size + 1, 0, none⟩ = some (.int .i64 (deepAt f pre)) ∧ Hid (deepAt f pre ≠ -1) ∧ Hid (Below w.heap.size w Wx))
    (fun s A B h hB => ⟨(hB.cell (p := ⟨w.heap.size, 0, none⟩) (by show w.heap.size < W.heap.size; omega)).trans h.1, (hB.cell (p := ⟨w.heap.size + 1, 0, none⟩) (by show w.heap.size + 1 < W.heap.size; omega)).trans h.2.1, (hB.frozen (p := ⟨w.heap.size + 1, 0, none⟩) (by show w.heap.size + 1 < W.heap.size; omega)).trans h.2.2.1, h.2.2.2.1, h.2.2.2.2.out.trans (hB.mono (by omega))⟩)
    (fun c s A B h hB => ⟨h.1, (hB.cell (p := ⟨w.heap.size + 1, 0, none⟩) (by show w.heap.size + 1 < W.heap.size; omega)).trans h.2.1, h.2.2.1, h.2.2.2.out.trans (hB.mono (by omega))⟩)
    ⟨ta, tr1, tr2, rfl, A0.out⟩
    (fun x => { tmps := #[.agg #[.slice (some ⟨b, off, none⟩) n cap], .pointer (some ⟨w.heap.size, 0, none⟩), .pointer (some ⟨w.heap.size + 1, 0, none⟩), .int .i64 (x.1 : Int), .int .i64 (x.2 : Int), .agg #[.slice (some ⟨b, off, none⟩) n cap], .func (.func 76) #[] #[.pointer (some ⟨w.heap.size + 1 + 1, 0, none⟩)], .int .i64 (x.1 : Int), .int .i64 (x.2 : Int), undef, undef, undef, undef, undef, undef, undef, undef, undef, undef, undef, undef], defers := [] }) ?assign ?body ?done ?stop
  case assign =>
    intro l x W K hK
    gi_wp2
    exact hK
  case body =>
    rintro l pre x W1 hox ⟨ha, hr, hrf, HO, HB⟩ hlt hz
    clear tr1 tr2 ta
    obtain ⟨_, p1, _⟩ := (HF.out.below HB.out (Nat.le_refl _)).2 x.1 hox
    have hx0 : (0 : Int) ≤ (x.1 : Int) := by omega
    have hxn : (x.1 : Int) < n := by omega
    have HM := hide (deepAt_more (x := x) HO.out)
    have U1 := hide (Upd.setCell (P := fun k => w.heap.size ≤ k ∧ k < W.heap.size) W1 (p := ⟨w.heap.size + 1, 0, none⟩) ⟨by show _ ≤ _ + 1; omega, by show _ + 1 < _; omega⟩ (.int .i64 (x.1 : Int)))
    have B1 := hide (HB.out.setCell (p := ⟨w.heap.size + 1, 0, none⟩) (by show _ ≤ _ + 1; omega) (.int .i64 (x.1 : Int)))
    have C1 := hide (World.cell?_setCell_same' W1 ⟨w.heap.size + 1, 0, none⟩ (.int .i64 (x.1 : Int)) (by rw [hr]; rfl))
    cases h3 : ((f x.1).kind == 3) with
    | false =>
      have HM1 : Hid (deepAt f (pre ++ [x]) = -1) := by show _ = _; rw [HM.out, if_neg (by intro h; rw [h.1] at h3; simp at h3)]
      gi_wp2
      exact ⟨Upd.refl _ _, ha, hr, hrf, HM1.out, HB.out⟩
    | true =>
      by_cases h6 : (60 : Int) ≤ (x.2 : Int)
      · have HM1 : Hid (deepAt f (pre ++ [x]) = (x.1 : Int)) := by show _ = _; rw [HM.out, if_pos ⟨by simpa using h3, by omega⟩]
        gi_wp2
        exact ⟨U1.out, rfl, by rw [HM1.out]; exact C1.out, by show _ ≠ _; rw [HM1.out]; omega, B1.out⟩
      · have HM1 : Hid (deepAt f (pre ++ [x]) = -1) := by show _ = _; rw [HM.out, if_neg (by intro h; omega)]
        gi_wp2
        exact ⟨Upd.refl _ _, ha, hr, hrf, HM1.out, HB.out⟩
  case done =>
    rintro D0 ys W1 hD rfl ⟨_, hr, hrf, HO, HB⟩ hK
    have K1 := hide ((KeepsOthers.setCell W1 ⟨w.heap.size + 1, 0, none⟩ (.int .i64 (-1))).same D0 _ hK rfl)
    have B1 := hide (HB.out.setCell (p := ⟨w.heap.size + 1, 0, none⟩) (by show _ ≤ _ + 1; omega) (.int .i64 (-1)))
    have C1 := hide (World.cell?_setCell_same' W1 ⟨w.heap.size + 1, 0, none⟩ (.int .i64 (-1)) (by rw [hr]; rfl))
    gi_wp2
    refine ⟨by simp, .inl ⟨_, _, rfl, run_takeDeferred K1.out, ?_⟩⟩
    have P1 := below_putObj (n := W.heap.size) (W1.setCell ⟨w.heap.size + 1, 0, none⟩ (.int .i64 (-1))) hD (Array.getElem?_eq_some_iff.1 K1.out).1 (.deferred none)
    have c := (P1.cell (p := ⟨w.heap.size + 1, 0, none⟩) (by show w.heap.size + 1 < W.heap.size; omega)).trans C1.out
    exact ⟨.int .i64 (-1), by simp [results, Tryd.results39, go_sem, c], by rw [HO.out], B1.out.trans (P1.mono (by omega))⟩
  case stop =>
    rintro D0 c pre W1 hD hpre ⟨rfl, hr, HO, HB⟩ hK
    gi_wp2
    refine ⟨by simp, .inl ⟨_, _, rfl, run_takeDeferred hK, ?_⟩⟩
    have P1 := below_putObj (n := W.heap.size) W1 hD (Array.getElem?_eq_some_iff.1 hK).1 (.deferred none)
    have c := (P1.cell (p := ⟨w.heap.size + 1, 0, none⟩) (by show w.heap.size + 1 < W.heap.size; omega)).trans hr
    exact ⟨.int .i64 (deepAt f pre), by simp [results, Tryd.results39, go_sem, c], by rw [deepAt_prefix hpre HO.out], HB.out.trans (P1.mono (by omega))⟩

end Go.Proofs.YtggchgpphhhleaaDoor.Vp

/-
  impl: CheckAccount.
-/
namespace Go.Proofs.YtggchgpphhhleaaDoor.Vp
open Go.RowKit

theorem firstNo_ge (g : Nat → Bool) (n : Nat) : firstNo g n = -1 ∨ 0 ≤ firstNo g n := by
  induction n with
  | zero => exact .inl rfl
  | succ k ih =>
    rw [firstNo]
    split
    · split
      · exact .inl rfl
      · exact .inr (by omega)
    · exact ih
theorem offAt_ge (i : Nat) (xs : List (Nat × Nat)) : offAt i xs = -1 ∨ 0 ≤ offAt i xs := by
  induction xs generalizing i with
  | nil => exact .inl rfl
  | cons x xs ih =>
    rw [offAt]
    split
    · exact ih _
    · exact .inr (by omega)
theorem deepAt_ge (f : Nat → Deed) (xs : List (Nat × Nat)) : deepAt f xs = -1 ∨ 0 ≤ deepAt f xs := by
  induction xs with
  | nil => exact .inl rfl
  | cons x xs ih =>
    rw [deepAt]
    split
    · exact .inr (by omega)
    · exact ih
theorem links_of {f : Nat → Deed} {n : Nat} (h : firstNo (deedOk f) n = -1) : ∀ p, p < n → (f p).linksN ≤ 200 := by
  intro p hp
  have h1 := firstNo_ok h p hp
  simp only [deedOk, Bool.and_eq_true, kindOk] at h1
  obtain ⟨_, h2⟩ := h1
  split at h2
  · simp [unmadeOk] at h2
    omega
  · split at h2
    · simp [unmadeOk] at h2
      omega
    · split at h2
      · simp only [targetOk, Bool.and_eq_true, decide_eq_true_eq] at h2
        omega
      · cases h2
theorem names_of {f : Nat → Deed} {n : Nat} (h : firstNo (deedOk f) n = -1) : ∀ p, p < n → (f p).name.size ≤ maxLen := by
  intro p hp
  have h1 := firstNo_ok h p hp
  simp only [deedOk, nameOk, Bool.and_eq_true, decide_eq_true_eq] at h1
  unfold maxLen
  omega
theorem listing_len {f : Nat → Deed} {n : Nat} (hA : Ahead f n) (hn : 1 ≤ n) : (listing f n).length ≤ n := by
  have h := (lst_inv hA n (n - 1) 0 (fun _ => false) (by omega) (by omega) rfl).num
  have h2 := cnt_le (lst f n (n - 1) 0 (fun _ => false)).1 n
  have h3 : ∀ k, cnt (fun _ => false) k = 0 := by
    intro k
    induction k with
    | zero => rfl
    | succ j ih => rw [cnt, ih]; rfl
  rw [h3] at h
  unfold listing
  omega

structure FourB (w : World) (b : Nat) (v0 v1 v2 v3 : Value) : Prop where
  lt : b < w.heap.size
  c0 : w.cell? ⟨b, 0, none⟩ = some v0
  c1 : w.cell? ⟨b, 1, none⟩ = some v1
  c2 : w.cell? ⟨b, 2, none⟩ = some v2
  c3 : w.cell? ⟨b, 3, none⟩ = some v3
theorem fun_box (w : World) (v0 v1 v2 v3 : Value) (t : TypeId) : FourB (w.alloc (.cells #[v0, v1, v2, v3] t)) w.heap.size v0 v1 v2 v3 := ⟨by simp, by simp, by simp, by simp, by simp⟩

set_option maxRecDepth 100000 in
set_option maxHeartbeats 4000000 in
theorem implAcc_any (a : Option Addr) (n cap : Nat) (f : Nat → Deed) (w : World) (hn : (n : Int) ≤ 1048576) (hv : SlDeed w a n f) (hcap : (n : Int) ≤ cap) (hfit : ∀ i, i < n → FitsDeed (f i)) (hT : Tab w) :
    Calls Tryd.prog 11 #[.agg #[.slice a n cap]] w fun e w' => e = .returned (.tuple #[.int .i64 (accC f n).1, .int .i64 (accC f n).2]) ∧ Below w.heap.size w w' := by
  have HV := hide hv
  have HM := hide hfit
  have HT := hide hT
  clear hv hfit hT
  have A0 := hide ((Below.refl w.heap.size w).alloc (Nat.le_refl _) (.cells #[.slice a n cap] 30))
  have k0 : (w.alloc (.cells #[.slice a n cap] 30)).cell? ⟨w.heap.size, 0, none⟩ = some (.slice a n cap) := by simp
  obtain ⟨c1, c2, hacc⟩ : ∃ c1 c2, accC f n = (c1, c2) := ⟨_, _, rfl⟩
  rw [hacc]
  have HC := hide hacc
  clear hacc
  by_cases h0 : (n : Int) = 0
  · have e1 : c1 = 1 ∧ c2 = 0 := by have := HC.out; unfold accC at this; rw [if_pos (.inl (by omega))] at this; simp only [Prod.mk.injEq] at this; omega
    clear HC
    obtain ⟨e1, e2⟩ := e1
    subst e1 e2
    obtain rfl : n = 0 := by omega
    go_enter Tryd.func11, Tryd.ntmps11
    go_wp2
    go_ret2
    exact ⟨rfl, A0.out⟩
  by_cases h4 : (400 : Int) < (n : Int)
  · have e1 : c1 = 1 ∧ c2 = 0 := by have := HC.out; unfold accC at this; rw [if_pos (.inr (by omega))] at this; simp only [Prod.mk.injEq] at this; omega
    clear HC
    obtain ⟨e1, e2⟩ := e1
    subst e1 e2
    have h0' : ((n : Int) == 0) = false := by simpa using h0
    go_enter Tryd.func11, Tryd.ntmps11
    go_wp2
    go_ret2
    exact ⟨rfl, A0.out⟩
  have HC1 : Hid ((if firstNo (deedOk f) n ≠ -1 then ((2 : Int), firstNo (deedOk f) n) else if firstNo (fun p => nameNew f p p) n ≠ -1 then (3, firstNo (fun p => nameNew f p p) n) else if offAt 0 (listing f n) ≠ -1 then (4, offAt 0 (listing f n)) else if deepAt f (listing f n) ≠ -1 then (5, deepAt f (listing f n)) else (0, 0)) = (c1, c2)) := by
    have := HC.out
    unfold accC at this
    rw [if_neg (by omega)] at this
    exact this
  clear HC
  obtain ⟨b, off, rfl, hrow⟩ := HV.out.resolve_left (by omega)
  have HR := hide hrow
  have h0' : ((n : Int) == 0) = false := by simpa using h0
  clear HV hrow
  have hn4 : (n : Int) ≤ 400 := by omega
  have B0 := hide (A0.out.alloc (by simp) (.cells #[.func (.func 36) #[] #[], .func (.func 37) #[] #[], .func (.func 38) #[] #[], .func (.func 39) #[] #[]] 66))
  go_enter Tryd.func11, Tryd.ntmps11
  go_wp2
  have hz1 : (w.alloc (.cells #[.slice (some ⟨b, off, none⟩) n cap] 30)).heap.size = w.heap.size + 1 := by simp
  have FB := hide (fun_box (w.alloc (.cells #[.slice (some ⟨b, off, none⟩) n cap] 30)) (.func (.func 36) #[] #[]) (.func (.func 37) #[] #[]) (.func (.func 38) #[] #[]) (.func (.func 39) #[] #[]) 66)
  rw [hz1] at FB
  have k1 := (((Below.refl (w.heap.size + 1) (w.alloc (.cells #[.slice (some ⟨b, off, none⟩) n cap] 30))).alloc (by omega) (.cells #[.func (.func 36) #[] #[], .func (.func 37) #[] #[], .func (.func 38) #[] #[], .func (.func 39) #[] #[]] 66)).cell (p := ⟨w.heap.size, 0, none⟩) (Nat.lt_succ_self _)).trans k0
  clear hz1 k0 A0
  generalize (w.alloc (.cells #[.slice (some ⟨b, off, none⟩) n cap] 30)).alloc (.cells #[.func (.func 36) #[] #[], .func (.func 37) #[] #[], .func (.func 38) #[] #[], .func (.func 39) #[] #[]] 66) = W at B0 FB k1 ⊢
  have hW0 : w.heap.size + 1 < W.heap.size := FB.out.lt
  go_loopw [21] (fun i wr => ∃ k : Nat, k ≤ 4 ∧ i = .int .i64 k ∧ Hid (1 ≤ k → firstNo (deedOk f) n = -1) ∧ Hid (2 ≤ k → firstNo (fun p => nameNew f p p) n = -1) ∧ Hid (3 ≤ k → offAt 0 (listing f n) = -1) ∧ Hid (4 ≤ k → deepAt f (listing f n) = -1) ∧ Hid (Below W.heap.size W wr)) (fun i _ => 4 - (intOf i).toNat)
  case atStart => exact ⟨0, by omega, rfl, fun h => by omega, fun h => by omega, fun h => by omega, fun h => by omega, Below.refl _ _⟩
  case round =>
    obtain ⟨k, hk, rfl, H1, H2, H3, H4, HB⟩ := hrel
    have k2 := (HB.out.cell (p := ⟨w.heap.size, 0, none⟩) (by show w.heap.size < _; omega)).trans k1
    have G0 := hide (B0.out.trans (HB.out.mono B0.out.size))
    by_cases hlt : k < 4
    · rcases (show k = 0 ∨ k = 1 ∨ k = 2 ∨ k = 3 by omega) with rfl | rfl | rfl | rfl
      · have d0 := (HB.out.cell (p := ⟨w.heap.size + 1, 0, none⟩) hW0).trans FB.out.c0
        have HX := hide (wrongDeed_any b off n cap f _ hn4 (HR.out.below G0.out (Nat.le_refl _)) hcap HM.out (HT.out.below G0.out HT.out.1))
        have HG := hide (firstNo_ge _ _ : firstNo (deedOk f) n = -1 ∨ 0 ≤ firstNo (deedOk f) n)
        obtain ⟨X, hX⟩ : ∃ X, X = firstNo (deedOk f) n := ⟨_, rfl⟩
        rw [← hX] at HX HG
        have HXX := hide hX
        clear hX
        go_wp2_with fail
        refine HX.out.mono ?_
        rintro e w2 ⟨rfl, hB⟩
        have G1 := hide (G0.out.trans (hB.mono G0.out.size))
        have H1B := hide (HB.out.trans (hB.mono HB.out.size))
        clear hB HX
        by_cases hx : X = -1
        · have HE : Hid (firstNo (deedOk f) n = -1) := HXX.out.symm.trans hx
          have hd : decide (0 ≤ X) = false := by rw [hx]; rfl
          clear hx
          go_wp2
          exact ⟨⟨0 + 1, by omega, by go_num, fun _ => HE.out, fun h => by omega, fun h => by omega, fun h => by omega, H1B.out⟩, by simp [intOf]⟩
        · have e1 : c1 = 2 ∧ c2 = X := by
            have := HC1.out
            rw [if_pos (by rw [← HXX.out]; exact hx), ← HXX.out] at this
            simp only [Prod.mk.injEq] at this
            omega
          have hge : 0 ≤ X := HG.out.resolve_left hx
          obtain ⟨e1, e2⟩ := e1
          clear HC1 hx HG
          subst e1 e2
          go_wp2
          go_ret2
          exact ⟨rfl, G1.out⟩
      · have d0 := (HB.out.cell (p := ⟨w.heap.size + 1, 1, none⟩) hW0).trans FB.out.c1
        have HX := hide (nameAgain_any b off n cap f _ hn4 (HR.out.below G0.out (Nat.le_refl _)) (names_of (H1.out (by omega))))
        have HG := hide (firstNo_ge _ _ : firstNo (fun p => nameNew f p p) n = -1 ∨ 0 ≤ firstNo (fun p => nameNew f p p) n)
        obtain ⟨X, hX⟩ : ∃ X, X = firstNo (fun p => nameNew f p p) n := ⟨_, rfl⟩
        rw [← hX] at HX HG
        have HXX := hide hX
        clear hX
        go_wp2_with fail
        refine HX.out.mono ?_
        rintro e w2 ⟨rfl, hB⟩
        have G1 := hide (G0.out.trans (hB.mono G0.out.size))
        have H1B := hide (HB.out.trans (hB.mono HB.out.size))
        clear hB HX
        by_cases hx : X = -1
        · have HE : Hid (firstNo (fun p => nameNew f p p) n = -1) := HXX.out.symm.trans hx
          have hd : decide (0 ≤ X) = false := by rw [hx]; rfl
          clear hx
          go_wp2
          exact ⟨⟨1 + 1, by omega, by go_num, fun _ => H1.out (by omega), fun _ => HE.out, fun h => by omega, fun h => by omega, H1B.out⟩, by simp [intOf]⟩
        · have e1 : c1 = 3 ∧ c2 = X := by
            have := HC1.out
            rw [if_neg (by rw [H1.out (by omega)]; simp), if_pos (by rw [← HXX.out]; exact hx), ← HXX.out] at this
            simp only [Prod.mk.injEq] at this
            omega
          have hge : 0 ≤ X := HG.out.resolve_left hx
          obtain ⟨e1, e2⟩ := e1
          clear HC1 hx HG
          subst e1 e2
          go_wp2
          go_ret2
          exact ⟨rfl, G1.out⟩
      · have d0 := (HB.out.cell (p := ⟨w.heap.size + 1, 2, none⟩) hW0).trans FB.out.c2
        have HX := hide (outOfTurn_any b off n cap f _ (ahead_of (H1.out (by omega))) (by omega) hn4 (HR.out.below G0.out (Nat.le_refl _)) (links_of (H1.out (by omega))) (by have := listing_len (ahead_of (H1.out (by omega))) (n := n) (by omega); omega))
        have HG := hide (offAt_ge _ _ : offAt 0 (listing f n) = -1 ∨ 0 ≤ offAt 0 (listing f n))
        obtain ⟨X, hX⟩ : ∃ X, X = offAt 0 (listing f n) := ⟨_, rfl⟩
        rw [← hX] at HX HG
        have HXX := hide hX
        clear hX
        go_wp2_with fail
        refine HX.out.mono ?_
        rintro e w2 ⟨rfl, hB⟩
        have G1 := hide (G0.out.trans (hB.mono G0.out.size))
        have H1B := hide (HB.out.trans (hB.mono HB.out.size))
        clear hB HX
        by_cases hx : X = -1
        · have HE : Hid (offAt 0 (listing f n) = -1) := HXX.out.symm.trans hx
          have hd : decide (0 ≤ X) = false := by rw [hx]; rfl
          clear hx
          go_wp2
          exact ⟨⟨2 + 1, by omega, by go_num, fun _ => H1.out (by omega), fun _ => H2.out (by omega), fun _ => HE.out, fun h => by omega, H1B.out⟩, by simp [intOf]⟩
        · have e1 : c1 = 4 ∧ c2 = X := by
            have := HC1.out
            rw [if_neg (by rw [H1.out (by omega)]; simp), if_neg (by rw [H2.out (by omega)]; simp), if_pos (by rw [← HXX.out]; exact hx), ← HXX.out] at this
            simp only [Prod.mk.injEq] at this
            omega
          have hge : 0 ≤ X := HG.out.resolve_left hx
          obtain ⟨e1, e2⟩ := e1
          clear HC1 hx HG
          subst e1 e2
          go_wp2
          go_ret2
          exact ⟨rfl, G1.out⟩
      · have d0 := (HB.out.cell (p := ⟨w.heap.size + 1, 3, none⟩) hW0).trans FB.out.c3
        have HX := hide (tooDeep_any b off n cap f _ (ahead_of (H1.out (by omega))) (by omega) hn4 (HR.out.below G0.out (Nat.le_refl _)) (links_of (H1.out (by omega))))
        have HG := hide (deepAt_ge _ _ : deepAt f (listing f n) = -1 ∨ 0 ≤ deepAt f (listing f n))
        obtain ⟨X, hX⟩ : ∃ X, X = deepAt f (listing f n) := ⟨_, rfl⟩
        rw [← hX] at HX HG
        have HXX := hide hX
        clear hX
        go_wp2_with fail
        refine HX.out.mono ?_
        rintro e w2 ⟨rfl, hB⟩
        have G1 := hide (G0.out.trans (hB.mono G0.out.size))
        have H1B := hide (HB.out.trans (hB.mono HB.out.size))
        clear hB HX
        by_cases hx : X = -1
        · have HE : Hid (deepAt f (listing f n) = -1) := HXX.out.symm.trans hx
          have hd : decide (0 ≤ X) = false := by rw [hx]; rfl
          clear hx
          go_wp2
          exact ⟨⟨3 + 1, by omega, by go_num, fun _ => H1.out (by omega), fun _ => H2.out (by omega), fun _ => H3.out (by omega), fun _ => HE.out, H1B.out⟩, by simp [intOf]⟩
        · have e1 : c1 = 5 ∧ c2 = X := by
            have := HC1.out
            rw [if_neg (by rw [H1.out (by omega)]; simp), if_neg (by rw [H2.out (by omega)]; simp), if_neg (by rw [H3.out (by omega)]; simp), if_pos (by rw [← HXX.out]; exact hx), ← HXX.out] at this
            simp only [Prod.mk.injEq] at this
            omega
          have hge : 0 ≤ X := HG.out.resolve_left hx
          obtain ⟨e1, e2⟩ := e1
          clear HC1 hx HG
          subst e1 e2
          go_wp2
          go_ret2
          exact ⟨rfl, G1.out⟩
    · obtain rfl : k = 4 := by omega
      have e1 : c1 = 0 ∧ c2 = 0 := by
        have := HC1.out
        rw [if_neg (by rw [H1.out (by omega)]; simp), if_neg (by rw [H2.out (by omega)]; simp), if_neg (by rw [H3.out (by omega)]; simp), if_neg (by rw [H4.out (by omega)]; simp)] at this
        simp only [Prod.mk.injEq] at this
        omega
      obtain ⟨e1, e2⟩ := e1
      clear HC1
      subst e1 e2
      go_wp2
      go_ret2
      exact ⟨rfl, G0.out⟩

end Go.Proofs.YtggchgpphhhleaaDoor.Vp

/-
  spec: what is a right deed.
-/
namespace Go.Proofs.YtggchgpphhhleaaDoor.Vp
open Go.RowKit

set_option maxRecDepth 100000 in
set_option maxHeartbeats 1000000 in
theorem sourceOk_any (x : Deed) (a0 : Option Addr) (cap0 : Nat) (a1 : Option Addr) (cap1 : Nat) (w : World) :
    Calls Tryd.prog 54 #[deedV x a0 cap0 a1 cap1] w fun e w' => e = .returned (.bool (decide (x.text.size ≤ 2000) && unmadeOk x)) ∧ Below w.heap.size w w' := by
  have A0 := hide ((Below.refl w.heap.size w).alloc (Nat.le_refl _) (.cells #[.string x.name, .int .i64 x.kind, .int .i64 x.code, .string x.text, .slice a0 x.actN cap0, .slice a1 x.linksN cap1] 59))
  obtain ⟨r, hr⟩ : ∃ r, r = (decide (x.text.size ≤ 2000) && unmadeOk x) := ⟨_, rfl⟩
  rw [← hr]
  have HR := hide hr
  clear hr
  go_enter Tryd.func54, Tryd.ntmps54
  cases h1 : (x.code == 0) with
  | false =>
    obtain rfl : r = false := by rw [HR.out]; simp at h1; simp [unmadeOk, h1]
    go_wp2
    go_ret
    exact ⟨rfl, A0.out⟩
  | true =>
    by_cases h4 : (x.text.size : Int) ≤ 2000
    · have h4' : decide (x.text.size ≤ 2000) = true := by simp; omega
      cases h2 : ((x.actN : Int) == 0) with
      | false =>
        obtain rfl : r = false := by rw [HR.out]; simp at h2; simp [unmadeOk]; omega
        go_wp2
        go_ret
        exact ⟨rfl, A0.out⟩
      | true =>
        cases h3 : ((x.linksN : Int) == 0) with
        | false =>
          obtain rfl : r = false := by rw [HR.out]; simp at h3; simp [unmadeOk]; omega
          go_wp2
          go_ret
          exact ⟨rfl, A0.out⟩
        | true =>
          obtain rfl : r = true := by rw [HR.out, h4']; simp at h1 h2 h3; simp [unmadeOk, h1, h2, h3]
          go_wp2
          go_ret
          exact ⟨rfl, A0.out⟩
    · obtain rfl : r = false := by rw [HR.out]; simp; omega
      go_wp2
      go_ret
      exact ⟨rfl, A0.out⟩

set_option maxRecDepth 100000 in
set_option maxHeartbeats 4000000 in
theorem l3TargetOk_any (b off n cap p : Nat) (f : Nat → Deed) (w : World) (hp : p < n) (hf : RowDeed w b off n f) (hfit : (f p).actN ≤ 1048576) (hsz : ∀ j, j < (f p).actN → ((f p).act j).s.size ≤ maxLen) :
    Calls Tryd.prog 55 #[.agg #[.slice (some ⟨b, off, none⟩) n cap], .int .i64 (p : Int)] w fun e w' => e = .returned (.bool (decide ((f p).text.size ≤ 2000) && targetOk f p (f p))) ∧ Below w.heap.size w w' := by
  have HF := hide hf
  have hb := hf.1
  obtain ⟨p0, p1, p2, p3, ⟨a0, cap0, p4, q4⟩, ⟨a1, cap1, p5, q5⟩⟩ := hf.2 p hp
  obtain ⟨x, hx⟩ : ∃ x, x = f p := ⟨_, rfl⟩
  rw [← hx] at p0 p1 p2 p3 p4 p5 q4 q5 hfit hsz ⊢
  have HX := hide hx
  have Q4 := hide q4
  have Q5 := hide q5
  have HZ := hide hsz
  clear hx q4 q5 hf hsz
  have A0 := hide (((Below.refl w.heap.size w).alloc (Nat.le_refl _) (.cells #[.slice (some ⟨b, off, none⟩) n cap] 30)).alloc (by simp) (.cells #[.string x.name, .int .i64 x.kind, .int .i64 x.code, .string x.text, .slice a0 x.actN cap0, .slice a1 x.linksN cap1] 59))
  have S0 := hide (sixB_new (w.alloc (.cells #[.slice (some ⟨b, off, none⟩) n cap] 30)) (.string x.name) (.int .i64 x.kind) (.int .i64 x.code) (.string x.text) (.slice a0 x.actN cap0) (.slice a1 x.linksN cap1) 59)
  have hz : (w.alloc (.cells #[.slice (some ⟨b, off, none⟩) n cap] 30)).heap.size = w.heap.size + 1 := by simp
  rw [hz] at S0
  have K0 : Hid (((w.alloc (.cells #[.slice (some ⟨b, off, none⟩) n cap] 30)).alloc (.cells #[.string x.name, .int .i64 x.kind, .int .i64 x.code, .string x.text, .slice a0 x.actN cap0, .slice a1 x.linksN cap1] 59)).cell? ⟨w.heap.size, 0, none⟩ = some (.slice (some ⟨b, off, none⟩) n cap)) := by
    show World.cell? _ _ = _
    simp
  clear hz
  obtain ⟨r, hr⟩ : ∃ r, r = (decide (x.text.size ≤ 2000) && targetOk f p x) := ⟨_, rfl⟩
  rw [← hr]
  have HR := hide hr
  clear hr
  have c2 := S0.out.c2
  have c3 := S0.out.c3
  have c4 := S0.out.c4
  have c5 := S0.out.c5
  by_cases g1 : 0 ≤ x.code
  case neg =>
    obtain rfl : r = false := by rw [HR.out]; simp [targetOk, g1]
    go_enter Tryd.func55, Tryd.ntmps55
    go_wp2
    go_ret
    exact ⟨rfl, A0.out⟩
  by_cases g2 : x.code ≤ 5
  case neg =>
    obtain rfl : r = false := by rw [HR.out]; simp [targetOk, g2]
    go_enter Tryd.func55, Tryd.ntmps55
    go_wp2
    go_ret
    exact ⟨rfl, A0.out⟩
  by_cases g3 : (x.text.size : Int) ≤ 2000
  case neg =>
    obtain rfl : r = false := by rw [HR.out]; simp; omega
    go_enter Tryd.func55, Tryd.ntmps55
    go_wp2
    go_ret
    exact ⟨rfl, A0.out⟩
  have g3' : decide (x.text.size ≤ 2000) = true := by simp; omega
  go_enter Tryd.func55, Tryd.ntmps55
  go_wp2_with fail
  generalize (w.alloc (.cells #[.slice (some ⟨b, off, none⟩) n cap] 30)).alloc (.cells #[.string x.name, .int .i64 x.kind, .int .i64 x.code, .string x.text, .slice a0 x.actN cap0, .slice a1 x.linksN cap1] 59) = W at A0 S0 K0 ⊢
  clear p0 p1 p2 p3 p4 p5
  refine (specValid_sl a0 x.actN cap0 x.act _ hfit (Q4.out.below A0.out (Nat.le_refl _)) HZ.out).mono ?_
  rintro e w1 ⟨he, hB⟩
  have B1 := hide (A0.out.trans (hB.mono A0.out.size))
  have S1 := hide (S0.out.below hB)
  have K1 := hide ((hB.cell (p := ⟨w.heap.size, 0, none⟩) (Nat.lt_of_succ_lt S0.out.lt)).trans K0.out)
  clear hB A0 S0 K0 c2 c3 c4 c5
  have c5 := S1.out.c5
  cases hv : valid x.act x.actN with
  | false =>
    rw [hv] at he
    subst he
    obtain rfl : r = false := by rw [HR.out]; simp [targetOk, hv]
    go_wp2
    go_ret
    exact ⟨rfl, B1.out⟩
  | true =>
  rw [hv] at he
  subst he
  have HR2 : Hid (r = (decide (x.linksN ≤ 200) && linksOk f p x x.linksN)) := by show r = _; rw [HR.out, g3']; simp [targetOk, hv, g1, g2]
  clear HR g3' hv
  by_cases hbig : (200 : Int) < (x.linksN : Int)
  · obtain rfl : r = false := by rw [HR2.out]; simp; omega
    go_wp2
    go_ret
    exact ⟨rfl, B1.out⟩
  have HR3 : Hid (r = linksOk f p x x.linksN) := by show r = _; rw [HR2.out, show decide (x.linksN ≤ 200) = true by simp; omega]; rfl
  clear HR2
  go_wp2
  have hlw1 : w.heap.size + 1 < w1.heap.size := S1.out.lt
  go_loopw [6] (fun i wr => ∃ k : Nat, k ≤ x.linksN ∧ i = .int .i64 k ∧ Hid (linksOk f p x k = true) ∧ Hid (Below w1.heap.size w1 wr)) (fun i _ => x.linksN - (intOf i).toNat)
  case atStart => exact ⟨0, by omega, rfl, rfl, Below.refl _ _⟩
  case round =>
    obtain ⟨k, hk, rfl, HK, HB⟩ := hrel
    have e5 := (HB.out.cell (p := ⟨w.heap.size + 1, 5, none⟩) hlw1).trans c5
    have G0 := hide (B1.out.trans (HB.out.mono B1.out.size))
    by_cases hlt : k < x.linksN
    · obtain ⟨lb, lo, rfl, hrow⟩ := (Q5.out.below G0.out (Nat.le_refl _)).resolve_left (by omega)
      have hxx := hrow.2 k hlt
      obtain ⟨l, hl⟩ : ∃ l, l = x.links k := ⟨_, rfl⟩
      rw [← hl] at hxx
      obtain ⟨d0, d1, d2, d3⟩ := hxx
      have HS : Hid (linksOk f p x (k + 1) = linkOk f p l) := by
        show (linksOk f p x k && linkOk f p (x.links k)) = _
        rw [HK.out, Bool.true_and, ← hl]
      clear hl hrow
      have G1 := hide (G0.out.alloc G0.out.size (.cells #[.string l.name, .bool l.ask, .bool l.has, .int .i64 l.at_] 72))
      have C1 := hide (HB.out.alloc HB.out.size (.cells #[.string l.name, .bool l.ask, .bool l.has, .int .i64 l.at_] 72))
      have e0 : (wr.alloc (.cells #[.string l.name, .bool l.ask, .bool l.has, .int .i64 l.at_] 72)).cell? ⟨wr.heap.size, 0, none⟩ = some (.string l.name) := by simp
      have e1 : (wr.alloc (.cells #[.string l.name, .bool l.ask, .bool l.has, .int .i64 l.at_] 72)).cell? ⟨wr.heap.size, 1, none⟩ = some (.bool l.ask) := by simp
      have e2 : (wr.alloc (.cells #[.string l.name, .bool l.ask, .bool l.has, .int .i64 l.at_] 72)).cell? ⟨wr.heap.size, 2, none⟩ = some (.bool l.has) := by simp
      have e3 : (wr.alloc (.cells #[.string l.name, .bool l.ask, .bool l.has, .int .i64 l.at_] 72)).cell? ⟨wr.heap.size, 3, none⟩ = some (.int .i64 l.at_) := by simp
      have hXl : wr.heap.size < (wr.alloc (.cells #[.string l.name, .bool l.ask, .bool l.has, .int .i64 l.at_] 72)).heap.size := by simp
      have kA := (C1.out.cell (p := ⟨w.heap.size, 0, none⟩) (by show w.heap.size < _; omega)).trans K1.out
      have hwA : w.heap.size < (wr.alloc (.cells #[.string l.name, .bool l.ask, .bool l.has, .int .i64 l.at_] 72)).heap.size := by have := C1.out.size; omega
      go_wp2_with fail
      clear d0 d1 d2 d3 e5
      generalize wr.alloc (.cells #[.string l.name, .bool l.ask, .bool l.has, .int .i64 l.at_] 72) = W1 at G1 C1 e0 e1 e2 e3 hXl kA hwA ⊢
      generalize wr.heap.size = X at e0 e1 e2 e3 hXl ⊢
      refine (l1NameOk_any l.name _).mono ?_
      rintro e w2 ⟨he, hB⟩
      have G2 := hide (G1.out.trans (hB.mono G1.out.size))
      have C2 := hide (C1.out.trans (hB.mono C1.out.size))
      have f0 := (hB.cell (p := ⟨X, 0, none⟩) hXl).trans e0
      have f1 := (hB.cell (p := ⟨X, 1, none⟩) hXl).trans e1
      have f2 := (hB.cell (p := ⟨X, 2, none⟩) hXl).trans e2
      have f3 := (hB.cell (p := ⟨X, 3, none⟩) hXl).trans e3
      have kB := (hB.cell (p := ⟨w.heap.size, 0, none⟩) hwA).trans kA
      have FR := hide (HF.out.below G2.out (Nat.le_refl _))
      clear hB e0 e1 e2 e3 kA G1 C1
      have HLT := hide hlt
      have no : linkOk f p l = false → r = false := fun h => by rw [HR3.out]; exact linksOk_no hlt (HS.out.trans h)
      have HNO := hide no
      clear no
      cases hnm : nameOk l.name with
      | false =>
        rw [hnm] at he
        subst he
        obtain rfl : r = false := HNO.out (by rw [linkOk_eq, hnm]; rfl)
        go_wp2
        go_ret
        exact ⟨rfl, G2.out⟩
      | true =>
      rw [hnm] at he
      subst he
      cases hask : l.ask with
      | false =>
        rw [hask] at f1
        cases h1 : (l.at_ == 0) with
        | false =>
          obtain rfl : r = false := HNO.out (by simp at h1; rw [linkOk_eq, hnm]; simp [linkAt, hask, h1])
          go_wp2
          go_ret
          exact ⟨rfl, G2.out⟩
        | true =>
          have HN : Hid (linksOk f p x (k + 1) = true) := HS.out.trans (by simp at h1; rw [linkOk_eq, hnm]; simp [linkAt, hask, h1])
          go_wp2_with fail
          go_quiet (fail)
          have C3 := hide (below_drewN C2.out nq)
          go_wp2
          exact ⟨⟨k + 1, by omega, by go_num, HN.out, C3.out⟩, by simp [intOf]; omega⟩
      | true =>
        rw [hask] at f1
        cases hhas : l.has with
        | true =>
          rw [hhas] at f2
          obtain rfl : r = false := HNO.out (by rw [linkOk_eq, hnm]; simp [linkAt, hask, hhas])
          go_wp2_with fail
          go_quiet (fail)
          have G3 := hide (below_drewN G2.out nq)
          go_wp2
          go_ret
          exact ⟨rfl, G3.out⟩
        | false =>
          rw [hhas] at f2
          by_cases g4 : 0 ≤ l.at_
          · by_cases g5 : l.at_ < (p : Int)
            · obtain ⟨q, hq⟩ : ∃ q : Nat, l.at_ = (q : Int) := ⟨l.at_.toNat, by omega⟩
              rw [hq] at f3 g5
              have hqn : q < n := by omega
              have d0 := (FR.out.2 q hqn).1
              have h5 : decide ((p : Int) ≤ (q : Int)) = false := by simp; omega
              have h5n : decide (p ≤ q) = false := by simp; omega
              have h6 : decide ((q : Int) < 0) = false := by simp
              have hq0 : (0 : Int) ≤ q := by omega
              have hqn' : (q : Int) < n := by omega
              have HLA : Hid (linkAt f p l = ((f q).name.toList == l.name.toList)) := by show linkAt f p l = _; simp [linkAt, hask, hhas, hq, g5]
              cases hr : ((f q).name.toList == l.name.toList) with
              | true =>
                have HN : Hid (linksOk f p x (k + 1) = true) := HS.out.trans (by rw [linkOk_eq, hnm, HLA.out, hr]; rfl)
                go_wp2_with fail
                go_quiet (fail)
                have C3 := hide (below_drewN C2.out nq)
                go_wp2
                exact ⟨⟨k + 1, by omega, by go_num, HN.out, C3.out⟩, by simp [intOf]; omega⟩
              | false =>
                obtain rfl : r = false := HNO.out (by rw [linkOk_eq, hnm, HLA.out, hr]; rfl)
                go_wp2_with fail
                go_quiet (fail)
                have G3 := hide (below_drewN G2.out nq)
                go_wp2
                go_ret
                exact ⟨rfl, G3.out⟩
            · obtain rfl : r = false := HNO.out (by rw [linkOk_eq, hnm]; simp [linkAt, hask, g5])
              have h5 : (p : Int) ≤ l.at_ := by omega
              have h6 : decide (l.at_ < 0) = false := by simpa using g4
              go_wp2_with fail
              go_quiet (fail)
              have G3 := hide (below_drewN G2.out nq)
              go_wp2
              go_ret
              exact ⟨rfl, G3.out⟩
          · obtain rfl : r = false := HNO.out (by rw [linkOk_eq, hnm]; simp [linkAt, hask, g4])
            have h6 : l.at_ < 0 := by omega
            go_wp2_with fail
            go_quiet (fail)
            have G3 := hide (below_drewN G2.out nq)
            go_wp2
            go_ret
            exact ⟨rfl, G3.out⟩
    · have e : x.linksN = k := by omega
      obtain rfl : r = true := by rw [HR3.out, e]; exact HK.out
      have h5 : ((k : Int) < (x.linksN : Int)) = False := by simp; omega
      go_wp2
      go_ret
      exact ⟨rfl, G0.out⟩

set_option maxRecDepth 100000 in
set_option maxHeartbeats 4000000 in
theorem l3DeedOk_any (b off n cap p : Nat) (f : Nat → Deed) (w : World) (hp : p < n) (hf : RowDeed w b off n f) (hfit : (f p).actN ≤ 1048576) (hsz : ∀ j, j < (f p).actN → ((f p).act j).s.size ≤ maxLen) :
    Calls Tryd.prog 33 #[.agg #[.slice (some ⟨b, off, none⟩) n cap], .int .i64 (p : Int)] w fun e w' => e = .returned (.bool (deedOk f p)) ∧ Below w.heap.size w w' := by
  have HTG := hide (fun w' (hb : Below w.heap.size w w') => l3TargetOk_any b off n cap p f w' hp (hf.below hb (Nat.le_refl _)) hfit hsz)
  obtain ⟨r, hr⟩ : ∃ r, r = deedOk f p := ⟨_, rfl⟩
  rw [← hr]
  have HR := hide hr
  clear hr
  have hb := hf.1
  obtain ⟨p0, p1, p2, p3, ⟨a0, cap0, p4, q4⟩, ⟨a1, cap1, p5, q5⟩⟩ := hf.2 p hp
  obtain ⟨x, hx⟩ : ∃ x, x = f p := ⟨_, rfl⟩
  rw [← hx] at p0 p1 p2 p3 p4 p5 q4 q5 hfit hsz HTG
  have HX := hide hx
  clear hx q4 q5 hf hsz hfit
  have A0 := hide (((Below.refl w.heap.size w).alloc (Nat.le_refl _) (.cells #[.slice (some ⟨b, off, none⟩) n cap] 30)).alloc (by simp) (.cells #[.string x.name, .int .i64 x.kind, .int .i64 x.code, .string x.text, .slice a0 x.actN cap0, .slice a1 x.linksN cap1] 59))
  have S0 := hide (sixB_new (w.alloc (.cells #[.slice (some ⟨b, off, none⟩) n cap] 30)) (.string x.name) (.int .i64 x.kind) (.int .i64 x.code) (.string x.text) (.slice a0 x.actN cap0) (.slice a1 x.linksN cap1) 59)
  have hz : (w.alloc (.cells #[.slice (some ⟨b, off, none⟩) n cap] 30)).heap.size = w.heap.size + 1 := by simp
  rw [hz] at S0
  have K0 : Hid (((w.alloc (.cells #[.slice (some ⟨b, off, none⟩) n cap] 30)).alloc (.cells #[.string x.name, .int .i64 x.kind, .int .i64 x.code, .string x.text, .slice a0 x.actN cap0, .slice a1 x.linksN cap1] 59)).cell? ⟨w.heap.size, 0, none⟩ = some (.slice (some ⟨b, off, none⟩) n cap)) := by
    show World.cell? _ _ = _
    simp
  clear hz
  go_enter Tryd.func33, Tryd.ntmps33
  go_wp2_with fail
  generalize (w.alloc (.cells #[.slice (some ⟨b, off, none⟩) n cap] 30)).alloc (.cells #[.string x.name, .int .i64 x.kind, .int .i64 x.code, .string x.text, .slice a0 x.actN cap0, .slice a1 x.linksN cap1] 59) = W at A0 S0 K0 ⊢
  clear p0 p1 p2 p3 p4 p5
  refine (l1NameOk_any x.name _).mono ?_
  rintro e w1 ⟨he, hB⟩
  have B1 := hide (A0.out.trans (hB.mono A0.out.size))
  have S1 := hide (S0.out.below hB)
  have K1 := hide ((hB.cell (p := ⟨w.heap.size, 0, none⟩) (Nat.lt_of_succ_lt S0.out.lt)).trans K0.out)
  clear hB A0 S0 K0
  cases hnm : nameOk x.name with
  | false =>
    rw [hnm] at he
    subst he
    obtain rfl : r = false := by rw [HR.out]; unfold deedOk; rw [← HX.out, hnm]; rfl
    go_wp2
    go_ret
    exact ⟨rfl, B1.out⟩
  | true =>
  rw [hnm] at he
  subst he
  have HK : Hid (r = (decide (x.text.size ≤ 2000) && kindOk f p x)) := by
    show r = _
    rw [HR.out]; unfold deedOk; rw [← HX.out, hnm]; rfl
  clear HR
  have c0 := S1.out.c0
  have c1 := S1.out.c1
  have c2 := S1.out.c2
  have c3 := S1.out.c3
  have c4 := S1.out.c4
  have c5 := S1.out.c5
  cases h1 : (x.kind == 1) with
  | true =>
    have hk : x.kind = 1 := by simpa using h1
    have HK1 : Hid ((decide (x.text.size ≤ 2000) && unmadeOk x) = r) := (HK.out.trans (by unfold kindOk; rw [if_pos hk])).symm
    clear hk
    go_wp2_with fail
    refine (sourceOk_any x a0 cap0 a1 cap1 _).mono ?_
    rintro e w2 ⟨rfl, hB⟩
    have B2 := hide (B1.out.trans (hB.mono B1.out.size))
    clear hB
    go_wp2
    go_ret
    exact ⟨ret_of HK1.out, B2.out⟩
  | false =>
  cases h2 : (x.kind == 2) with
  | true =>
    have hk : x.kind = 2 := by simpa using h2
    have HK1 : Hid (r = (unmadeOk x && decide (x.text.size = 0))) := HK.out.trans (by
      unfold kindOk
      rw [if_neg (by omega), if_pos hk]
      by_cases h : x.text.size = 0
      · simp [h]
      · simp [h])
    clear hk HK
    cases g1 : (x.code == 0) with
    | false =>
      obtain rfl : r = false := by rw [HK1.out]; simp at g1; simp [unmadeOk, g1]
      go_wp2
      go_ret
      exact ⟨rfl, B1.out⟩
    | true =>
    cases g2 : x.text.toList.isEmpty with
    | false =>
      obtain rfl : r = false := by rw [HK1.out, ← empty_size, g2]; simp
      go_wp2
      go_ret
      exact ⟨rfl, B1.out⟩
    | true =>
    cases g3 : ((x.actN : Int) == 0) with
    | false =>
      obtain rfl : r = false := by rw [HK1.out]; simp at g3; simp [unmadeOk]; omega
      go_wp2
      go_ret
      exact ⟨rfl, B1.out⟩
    | true =>
    cases g4 : ((x.linksN : Int) == 0) with
    | false =>
      obtain rfl : r = false := by rw [HK1.out]; simp at g4; simp [unmadeOk]; omega
      go_wp2
      go_ret
      exact ⟨rfl, B1.out⟩
    | true =>
      obtain rfl : r = true := by rw [HK1.out, ← empty_size, g2]; simp at g1 g3 g4; simp [unmadeOk, g1, g3, g4]
      go_wp2
      go_ret
      exact ⟨rfl, B1.out⟩
  | false =>
  cases h3 : (x.kind == 3) with
  | false =>
    obtain rfl : r = false := by rw [HK.out]; unfold kindOk; simp at h1 h2 h3; rw [if_neg h1, if_neg h2, if_neg h3]; simp
    go_wp2
    go_ret
    exact ⟨rfl, B1.out⟩
  | true =>
    have HK1 : Hid ((decide (x.text.size ≤ 2000) && targetOk f p x) = r) := (HK.out.trans (by unfold kindOk; simp at h1 h2 h3; rw [if_neg h1, if_neg h2, if_pos h3])).symm
    have k1 := K1.out
    have HTX := hide (HTG.out w1 B1.out)
    rw [HK1.out] at HTX
    clear HTG HK
    go_wp2_with fail
    refine HTX.out.mono ?_
    rintro e w2 ⟨rfl, hB⟩
    have B2 := hide (B1.out.trans (hB.mono B1.out.size))
    clear hB
    go_wp2
    go_ret
    exact ⟨rfl, B2.out⟩

end Go.Proofs.YtggchgpphhhleaaDoor.Vp

/-
  spec: the listing of a deed.
-/
namespace Go.Proofs.YtggchgpphhhleaaDoor.Vp
open Go.RowKit

def comb (f : Nat → Deed) (d : Int) (x : Nat × Nat) : Int := if (f x.1).kind = 3 ∧ 60 ≤ x.2 ∧ (d < 0 ∨ (x.1 : Int) < d) then (x.1 : Int) else d
/-- The first place of those that are too deep, as the listing goes on. -/
def deepTo (f : Nat → Deed) (d : Int) : List (Nat × Nat) → Int
  | [] => d
  | x :: xs => deepTo f (comb f d x) xs
theorem deepTo_append (f : Nat → Deed) (d : Int) (xs ys : List (Nat × Nat)) : deepTo f d (xs ++ ys) = deepTo f (deepTo f d xs) ys := by
  induction xs generalizing d with
  | nil => rfl
  | cons x xs ih => simp only [List.cons_append, deepTo]; exact ih _
theorem comb_comm (f : Nat → Deed) (d : Int) (x y : Nat × Nat) : comb f (comb f d x) y = comb f (comb f d y) x := by
  unfold comb
  by_cases hx : (f x.1).kind = 3 ∧ 60 ≤ x.2
  · by_cases hy : (f y.1).kind = 3 ∧ 60 ≤ y.2
    · simp only [hx.1, hx.2, hy.1, hy.2, true_and]
      (repeat' split) <;> omega
    · have e : ∀ z : Prop, ¬ ((f y.1).kind = 3 ∧ 60 ≤ y.2 ∧ z) := fun z h => hy ⟨h.1, h.2.1⟩
      rw [if_neg (e _), if_neg (e _)]
  · have e : ∀ z : Prop, ¬ ((f x.1).kind = 3 ∧ 60 ≤ x.2 ∧ z) := fun z h => hx ⟨h.1, h.2.1⟩
    rw [if_neg (e _), if_neg (e _)]
theorem deepTo_comb (f : Nat → Deed) (d : Int) (x : Nat × Nat) (xs : List (Nat × Nat)) : deepTo f (comb f d x) xs = comb f (deepTo f d xs) x := by
  induction xs generalizing d with
  | nil => rfl
  | cons y ys ih =>
    simp only [deepTo]
    rw [comb_comm, ih]

def TyAt (w : World) (g : Nat) (e : TypeId) : Prop := ∃ cur, w.heap[g]? = some (.cells cur e (0, 0))
/-- All that holds no integers lies as it lay, but for the box H and the row M. -/
structure Kpt (H M : Nat) (W W' : World) : Prop where
  size : W.heap.size ≤ W'.heap.size
  keep : ∀ k e, TyAt W k e → e ≠ 3 → k ≠ H → k ≠ M → W'.heap[k]? = W.heap[k]?
theorem Kpt.refl (H M : Nat) (W : World) : Kpt H M W W := ⟨Nat.le_refl _, fun _ _ _ _ _ _ => rfl⟩
theorem Kpt.trans {H M : Nat} {A B C : World} (h : Kpt H M A B) (k : Kpt H M B C) : Kpt H M A C :=
  ⟨Nat.le_trans h.size k.size, fun i e hi he h1 h2 => by
    have e1 := h.keep i e hi he h1 h2
    obtain ⟨c, hc⟩ := hi
    exact (k.keep i e ⟨c, e1.trans hc⟩ he h1 h2).trans e1⟩
theorem Kpt.of_below {H M : Nat} {W W' : World} (h : Below W.heap.size W W') : Kpt H M W W' :=
  ⟨h.size, fun k e hk _ _ _ => by obtain ⟨c, hc⟩ := hk; exact h.block k (Array.getElem?_eq_some_iff.1 hc).1⟩
theorem Kpt.setCell {H M j : Nat} (W : World) (g : Nat) (hg : g = H ∨ g = M) (v : Value) : Kpt H M W (W.setCell ⟨g, j, none⟩ v) :=
  ⟨by simp, fun k _ _ _ h1 h2 => Below.heap_setCell _ _ _ _ (by show k ≠ g; omega)⟩
/-- The box of a listing at H: the account, the row of the listed at M, the order, the first that is too deep. -/
structure SLs (w0 W : World) (n1 b off n cap H M : Nat) (s : Nat → Bool) (ov : Value) (ord : List Nat) (dp : Int) : Prop where
  c0 : W.cell? ⟨H, 0, none⟩ = some (.slice (some ⟨b, off, none⟩) n cap)
  c1 : W.cell? ⟨H, 1, none⟩ = some (.slice (some ⟨M, 0, none⟩) n n)
  c2 : W.cell? ⟨H, 2, none⟩ = some ov ∧ W.frozen? ⟨H, 2, none⟩ = false
  c3 : W.cell? ⟨H, 3, none⟩ = some (.int .i64 dp) ∧ W.frozen? ⟨H, 3, none⟩ = false
  row : ∀ q, q < n → W.cell? ⟨M, q, none⟩ = some (.bool (s q)) ∧ W.frozen? ⟨M, q, none⟩ = false
  ord : W.ownsRow n1 3 1 ov ord.length (ord.map fun q : Nat => Value.int .i64 (q : Int))
  low : Below w0.heap.size w0 W
  hH : w0.heap.size ≤ H ∧ H < n1
  hM : w0.heap.size ≤ M ∧ M < n1
  ne : H ≠ M
  hz : n1 ≤ W.heap.size
theorem SLs.blocks {w0 W W' : World} {n1 b off n cap H M : Nat} {s : Nat → Bool} {ov ov' : Value} {ord ord' : List Nat} {dp : Int} (h : SLs w0 W n1 b off n cap H M s ov ord dp) (hz : W.heap.size ≤ W'.heap.size) (eH : W'.heap[H]? = W.heap[H]?) (eM : W'.heap[M]? = W.heap[M]?) (hl : Below w0.heap.size w0 W') (hv : ov' = ov) (ho : W'.ownsRow n1 3 1 ov ord'.length (ord'.map fun q : Nat => Value.int .i64 (q : Int))) : SLs w0 W' n1 b off n cap H M s ov' ord' dp := by
  subst hv
  have c : ∀ o, W'.cell? ⟨H, o, none⟩ = W.cell? ⟨H, o, none⟩ := fun o => World.cell?_of_block (a := ⟨H, o, none⟩) eH
  have z : ∀ o, W'.frozen? ⟨H, o, none⟩ = W.frozen? ⟨H, o, none⟩ := fun o => World.frozen?_of_block (a := ⟨H, o, none⟩) eH
  exact ⟨(c 0).trans h.c0, (c 1).trans h.c1, ⟨(c 2).trans h.c2.1, (z 2).trans h.c2.2⟩, ⟨(c 3).trans h.c3.1, (z 3).trans h.c3.2⟩, fun q hq => ⟨(World.cell?_of_block (a := ⟨M, q, none⟩) eM).trans (h.row q hq).1, (World.frozen?_of_block (a := ⟨M, q, none⟩) eM).trans (h.row q hq).2⟩, ho, hl, h.hH, h.hM, h.ne, Nat.le_trans h.hz hz⟩
theorem SLs.below {w0 W W' : World} {n1 b off n cap H M : Nat} {s : Nat → Bool} {ov : Value} {ord : List Nat} {dp : Int} (h : SLs w0 W n1 b off n cap H M s ov ord dp) (hb : Below W.heap.size W W') : SLs w0 W' n1 b off n cap H M s ov ord dp :=
  h.blocks hb.size (hb.block H (by have := h.hH; have := h.hz; omega)) (hb.block M (by have := h.hM; have := h.hz; omega)) (h.low.trans (hb.mono h.low.size)) rfl (own_below h.ord hb (Nat.le_refl _))
theorem own_far' {w : World} {base e' n R j : Nat} {e : TypeId} {v : Value} {xs : List Value} (h : w.ownsRow base e e' v n xs) (hR : R < base) (u : Value) : (w.setCell ⟨R, j, none⟩ u).ownsRow base e e' v n xs := by
  refine h.kept (row := some R) ⟨rfl, rfl, rfl, by simp [World.setCell], fun k _ hne => Below.heap_setCell _ _ _ _ (by simpa using hne)⟩ ?_
  cases hv : v.ownBlock with
  | none => exact .inl rfl
  | some k => exact .inr fun e1 => by have := (h.lt k hv).1; cases e1; omega
theorem SLs.mark {w0 W : World} {n1 b off n cap H M p : Nat} {s : Nat → Bool} {ov : Value} {ord : List Nat} {dp : Int} (h : SLs w0 W n1 b off n cap H M s ov ord dp) (hp : p < n) : SLs w0 (W.setCell ⟨M, p, none⟩ (.bool true)) n1 b off n cap H M (put s p) ov ord dp := by
  have c : ∀ o, (W.setCell ⟨M, p, none⟩ (.bool true)).cell? ⟨H, o, none⟩ = W.cell? ⟨H, o, none⟩ := fun o => World.cell?_setCell_other _ _ _ _ (by first | (simp; done) | (simp; exact fun e => absurd e.symm h.ne) | (simp; exact fun e => absurd e h.ne) | (simp; omega))
  refine ⟨(c 0).trans h.c0, (c 1).trans h.c1, ⟨(c 2).trans h.c2.1, by simpa using h.c2.2⟩, ⟨(c 3).trans h.c3.1, by simpa using h.c3.2⟩, fun q hq => ⟨?_, by simpa using (h.row q hq).2⟩, own_far' h.ord h.hM.2 _, h.low.setCell h.hM.1 _, h.hH, h.hM, h.ne, by simpa using h.hz⟩
  by_cases e : q = p
  · subst e
    rw [World.cell?_setCell_same' _ _ _ (by rw [(h.row q hq).1]; rfl)]
    simp [put]
  · rw [World.cell?_setCell_other _ _ _ _ (by first | (simp; done) | (simp; exact fun e => absurd e.symm h.ne) | (simp; exact fun e => absurd e h.ne) | (simp; omega)), (h.row q hq).1]
    simp [put, e]
theorem SLs.deep {w0 W : World} {n1 b off n cap H M : Nat} {s : Nat → Bool} {ov : Value} {ord : List Nat} {dp : Int} (h : SLs w0 W n1 b off n cap H M s ov ord dp) (v : Int) : SLs w0 (W.setCell ⟨H, 3, none⟩ (.int .i64 v)) n1 b off n cap H M s ov ord v := by
  have c : ∀ o, o ≠ 3 → (W.setCell ⟨H, 3, none⟩ (.int .i64 v)).cell? ⟨H, o, none⟩ = W.cell? ⟨H, o, none⟩ := fun o ho => World.cell?_setCell_other _ _ _ _ (by first | (simp; done) | (simp; exact fun e => absurd e.symm h.ne) | (simp; exact fun e => absurd e h.ne) | (simp; omega))
  refine ⟨(c 0 (by omega)).trans h.c0, (c 1 (by omega)).trans h.c1, ⟨(c 2 (by omega)).trans h.c2.1, by simpa using h.c2.2⟩, ⟨World.cell?_setCell_same' _ _ _ (by rw [h.c3.1]; rfl), by simpa using h.c3.2⟩, fun q hq => ⟨(World.cell?_setCell_other _ _ _ _ (by first | (simp; done) | (simp; exact fun e => absurd e.symm h.ne) | (simp; exact fun e => absurd e h.ne) | (simp; omega))).trans (h.row q hq).1, by simpa using (h.row q hq).2⟩, own_far' h.ord h.hH.2 _, h.low.setCell h.hH.1 _, h.hH, h.hM, h.ne, by simpa using h.hz⟩
theorem SLs.order {w0 W : World} {n1 b off n cap H M : Nat} {s : Nat → Bool} {ov v : Value} {ord ord' : List Nat} {dp : Int} (h : SLs w0 W n1 b off n cap H M s ov ord dp) (ho : W.ownsRow n1 3 1 v ord'.length (ord'.map fun q : Nat => Value.int .i64 (q : Int))) : SLs w0 (W.setCell ⟨H, 2, none⟩ v) n1 b off n cap H M s v ord' dp := by
  have c : ∀ o, o ≠ 2 → (W.setCell ⟨H, 2, none⟩ v).cell? ⟨H, o, none⟩ = W.cell? ⟨H, o, none⟩ := fun o ho => World.cell?_setCell_other _ _ _ _ (by first | (simp; done) | (simp; exact fun e => absurd e.symm h.ne) | (simp; exact fun e => absurd e h.ne) | (simp; omega))
  refine ⟨(c 0 (by omega)).trans h.c0, (c 1 (by omega)).trans h.c1, ⟨World.cell?_setCell_same' _ _ _ (by rw [h.c2.1]; rfl), by simpa using h.c2.2⟩, ⟨(c 3 (by omega)).trans h.c3.1, by simpa using h.c3.2⟩, fun q hq => ⟨(World.cell?_setCell_other _ _ _ _ (by first | (simp; done) | (simp; exact fun e => absurd e.symm h.ne) | (simp; exact fun e => absurd e h.ne) | (simp; omega))).trans (h.row q hq).1, by simpa using (h.row q hq).2⟩, own_far' ho h.hH.2 _, h.low.setCell h.hH.1 _, h.hH, h.hM, h.ne, by simpa using h.hz⟩

end Go.Proofs.YtggchgpphhhleaaDoor.Vp

/-
  spec: the listing of a deed, by its own calls.
-/
namespace Go.Proofs.YtggchgpphhhleaaDoor.Vp
open Go.RowKit

theorem infoInt : (Tryd.prog.info? 3).map (fun i => (i.zero, i.size, i.bytes)) = some (some (.int .i64 0), 1, 8) := by kernel_rfl

theorem SixB.blk {w w' : World} {b : Nat} {v0 v1 v2 v3 v4 v5 : Value} (h : SixB w b v0 v1 v2 v3 v4 v5) (hz : w.heap.size ≤ w'.heap.size) (e : w'.heap[b]? = w.heap[b]?) : SixB w' b v0 v1 v2 v3 v4 v5 :=
  have c : ∀ o, w'.cell? ⟨b, o, none⟩ = w.cell? ⟨b, o, none⟩ := fun o => World.cell?_of_block (a := ⟨b, o, none⟩) e
  ⟨Nat.lt_of_lt_of_le h.lt hz, (c 0).trans h.c0, (c 1).trans h.c1, (c 2).trans h.c2, (c 3).trans h.c3, (c 4).trans h.c4, (c 5).trans h.c5⟩
theorem TyAt.blk {w w' : World} {g : Nat} {e : TypeId} (h : TyAt w g e) (hb : w'.heap[g]? = w.heap[g]?) : TyAt w' g e := by
  obtain ⟨c, hc⟩ := h
  exact ⟨c, hb.trans hc⟩

theorem Kpt.grown {H M base n : Nat} {W W' : World} {v : Value} {xs : List Value} (ho : W.ownsRow base 3 1 v n xs) (hg : W.grownBy W' v.ownBlock) : Kpt H M W W' := by
  refine ⟨hg.size, fun k e hk he _ _ => ?_⟩
  obtain ⟨c, hc⟩ := hk
  refine hg.block k (Array.getElem?_eq_some_iff.1 hc).1 (fun e1 => ?_)
  rcases ho.2 with ⟨rfl, _⟩ | ⟨g, cap, cur, rfl, _, hgg, _⟩
  · simp [Value.ownBlock] at e1
  · simp [Value.ownBlock] at e1
    subst e1
    rw [hgg] at hc
    simp at hc
    exact he hc.2.symm
theorem SLs.app {w0 W W' : World} {n1 b off n cap H M : Nat} {s : Nat → Bool} {ov v : Value} {ord ord' : List Nat} {dp : Int} (h : SLs w0 W n1 b off n cap H M s ov ord dp) (hz : W.heap.size ≤ W'.heap.size) (eH : W'.heap[H]? = W.heap[H]?) (eM : W'.heap[M]? = W.heap[M]?) (hl : Below w0.heap.size w0 W') (ho : W'.ownsRow n1 3 1 v ord'.length (ord'.map fun q : Nat => Value.int .i64 (q : Int))) : SLs w0 (W'.setCell ⟨H, 2, none⟩ v) n1 b off n cap H M s v ord' dp := by
  have c : ∀ o, W'.cell? ⟨H, o, none⟩ = W.cell? ⟨H, o, none⟩ := fun o => World.cell?_of_block (a := ⟨H, o, none⟩) eH
  have z : ∀ o, W'.frozen? ⟨H, o, none⟩ = W.frozen? ⟨H, o, none⟩ := fun o => World.frozen?_of_block (a := ⟨H, o, none⟩) eH
  have c' : ∀ o, o ≠ 2 → (W'.setCell ⟨H, 2, none⟩ v).cell? ⟨H, o, none⟩ = W'.cell? ⟨H, o, none⟩ := fun o ho => World.cell?_setCell_other _ _ _ _ (by first | (simp; done) | (simp; exact fun e => ho e.symm) | (simp; omega))
  refine ⟨(c' 0 (by omega)).trans ((c 0).trans h.c0), (c' 1 (by omega)).trans ((c 1).trans h.c1), ⟨World.cell?_setCell_same' _ _ _ (by rw [c 2, h.c2.1]; rfl), ?_⟩, ⟨(c' 3 (by omega)).trans ((c 3).trans h.c3.1), ?_⟩, fun q hq => ⟨(World.cell?_setCell_other _ _ _ _ (by first | (simp; done) | (simp; exact fun e => absurd e.symm h.ne) | (simp; exact fun e => absurd e h.ne) | (simp; omega))).trans ((World.cell?_of_block (a := ⟨M, q, none⟩) eM).trans (h.row q hq).1), ?_⟩, own_far' ho h.hH.2 _, hl.setCell h.hH.1 _, h.hH, h.hM, h.ne, by have := h.hz; simp; omega⟩
  · rw [World.frozen?_setCell]; exact (z 2).trans h.c2.2
  · rw [World.frozen?_setCell]; exact (z 3).trans h.c3.2
  · rw [World.frozen?_setCell]; exact (World.frozen?_of_block (a := ⟨M, q, none⟩) eM).trans (h.row q hq).2

set_option maxRecDepth 100000 in
set_option maxHeartbeats 8000000 in
theorem slist_any (w0 : World) (n1 b off n cap H M : Nat) (f : Nat → Deed) (hA : Ahead f n) (hn : (n : Int) ≤ 400) (hf : RowDeed w0 b off n f) (hlk : ∀ p, p < n → (f p).linksN ≤ 200) :
    ∀ (k p d : Nat) (s : Nat → Bool) (ov : Value) (ord : List Nat) (dp : Int) (W : World), p < k → p < n → d + p ≤ 1000 → SLs w0 W n1 b off n cap H M s ov ord dp → s p = false → ord.length + (lst f k p d s).2.length ≤ 1000 →
      Calls Tryd.prog 56 #[.pointer (some ⟨H, 0, none⟩), .int .i64 (p : Int), .int .i64 (d : Int)] W fun e W' => e = .returned (.tuple #[]) ∧ ∃ ov', SLs w0 W' n1 b off n cap H M (lst f k p d s).1 ov' (ord ++ (lst f k p d s).2.map (fun z : Nat × Nat => z.1)) (deepTo f dp (lst f k p d s).2) ∧ Kpt H M W W' := by
  intro k
  induction k with
  | zero => intro p d s ov ord dp W h; omega
  | succ k ih =>
    intro p d s ov ord dp W hpk hpn hdp hS hs hN
    have HS := hide hS
    have HN := hide hN
    have HIH := hide ih
    have HA := hide hA
    have HF := hide hf
    have HLK := hide hlk
    obtain ⟨i0', hii, hy0, hy1, hy2⟩ := info_parts infoInt
    obtain ⟨p0', p1', p2', p3', ⟨a0, cap0, p4', q4⟩, ⟨a1, cap1, p5', q5⟩⟩ := hf.2 p hpn
    have S1 := hide (hS.mark hpn)
    have hb := hf.1
    obtain ⟨x, hx⟩ : ∃ x, x = f p := ⟨_, rfl⟩
    rw [← hx] at p0' p1' p2' p3' p4' p5' q5
    have hm2 : x.linksN ≤ 200 := by rw [hx]; exact hlk p hpn
    have HL := hide q5
    have HX := hide hx
    have p0 := (S1.out.low.cell (p := ⟨b, off + p * 6, none⟩) hb).trans p0'
    have p1 := (S1.out.low.cell (p := ⟨b, off + p * 6 + 1, none⟩) hb).trans p1'
    have p2 := (S1.out.low.cell (p := ⟨b, off + p * 6 + 2, none⟩) hb).trans p2'
    have p3 := (S1.out.low.cell (p := ⟨b, off + p * 6 + 3, none⟩) hb).trans p3'
    have p4 := (S1.out.low.cell (p := ⟨b, off + p * 6 + 4, none⟩) hb).trans p4'
    have p5 := (S1.out.low.cell (p := ⟨b, off + p * 6 + 5, none⟩) hb).trans p5'
    obtain ⟨K, hK⟩ : ∃ K, K = lks (lst f k) (f p) d s := ⟨_, rfl⟩
    have HLS : Hid (lst f (k + 1) p d s = (put (K x.linksN).1 p, (K x.linksN).2 ++ [(p, d)])) := by rw [hK, hx]; rfl
    have HK0 : Hid (K 0 = (s, [])) := by rw [hK]; rfl
    have HKS : Hid (∀ j, K (j + 1) = if (x.links j).ask = true ∧ (K j).1 (x.links j).at_.toNat = false then ((lst f k (x.links j).at_.toNat (d + 1) (K j).1).1, (K j).2 ++ (lst f k (x.links j).at_.toNat (d + 1) (K j).1).2) else K j) := fun j => by rw [hK, hx]; rfl
    have HKP : Hid (∀ i, i ≤ x.linksN → (K i).2 <+: (K x.linksN).2) := fun i hi => by rw [hK]; exact lks_prefix hi
    have HTD : Hid (comb f dp (p, d) = if x.kind = 3 ∧ 60 ≤ d ∧ (dp < 0 ∨ (p : Int) < dp) then (p : Int) else dp) := by rw [hx]; rfl
    have hH1 : H < W.heap.size := by have := hS.hH; have := hS.hz; omega
    have hc1 := hS.c1
    obtain ⟨hr1, hr2⟩ := hS.row p hpn
    have hc0 := S1.out.c0
    have hp0 : (0 : Int) ≤ p := by omega
    have hpn' : (p : Int) < n := by omega
    have S2 := hide (S1.out.below ((Below.refl _ _).alloc (Nat.le_refl _) (.cells #[.string x.name, .int .i64 x.kind, .int .i64 x.code, .string x.text, .slice a0 x.actN cap0, .slice a1 x.linksN cap1] 59)))
    have D2 := hide (sixB_new (W.setCell ⟨M, p, none⟩ (.bool true)) (.string x.name) (.int .i64 x.kind) (.int .i64 x.code) (.string x.text) (.slice a0 x.actN cap0) (.slice a1 x.linksN cap1) 59)
    have Y2 : Hid (TyAt ((W.setCell ⟨M, p, none⟩ (.bool true)).alloc (.cells #[.string x.name, .int .i64 x.kind, .int .i64 x.code, .string x.text, .slice a0 x.actN cap0, .slice a1 x.linksN cap1] 59)) (W.setCell ⟨M, p, none⟩ (.bool true)).heap.size 59) := ⟨_, heap_alloc_new _ _⟩
    have KP2 := hide ((Kpt.setCell (H := H) (M := M) (j := p) W M (.inr rfl) (.bool true)).trans (Kpt.of_below ((Below.refl _ _).alloc (Nat.le_refl _) (.cells #[.string x.name, .int .i64 x.kind, .int .i64 x.code, .string x.text, .slice a0 x.actN cap0, .slice a1 x.linksN cap1] 59))))
    have hz1 : (W.setCell ⟨M, p, none⟩ (.bool true)).heap.size = W.heap.size := by simp
    rw [hz1] at D2 Y2
    clear hS hN ih hA hf hlk q4 q5 hx hK p0' p1' p2' p3' p4' p5' hs hz1 S1
    go_enter Tryd.func56, Tryd.ntmps56
    go_upto_region 2 with fail
    generalize (W.setCell ⟨M, p, none⟩ (.bool true)).alloc (.cells #[.string x.name, .int .i64 x.kind, .int .i64 x.code, .string x.text, .slice a0 x.actN cap0, .slice a1 x.linksN cap1] 59) = W2 at S2 D2 Y2 KP2 ⊢
    clear p0 p1 p2 p3 p4 p5 hc1 hr1 hr2 hc0
    obtain ⟨td, htd⟩ : ∃ td, td = decide (x.kind = 3 ∧ 60 ≤ d) := ⟨_, rfl⟩
    have HD := hide htd
    clear htd
    have c1 := D2.out.c1
    go_cut [28] (fun s28 wx => s28 = .bool td ∧ wx = W2)
    case first =>
      cases h3 : (x.kind == 3) with
      | false =>
        obtain rfl : td = false := by rw [HD.out]; simp at h3; simp [h3]
        go_wp2
        go_meet
        exact ⟨rfl, rfl⟩
      | true =>
        by_cases h6 : (60 : Int) ≤ (d : Int)
        · obtain rfl : td = true := by rw [HD.out]; simp at h3; simp [h3]; omega
          go_wp2
          go_meet
          exact ⟨by first | rfl | (simp; done) | (simp; omega), rfl⟩
        · obtain rfl : td = false := by rw [HD.out]; simp; omega
          go_wp2
          go_meet
          exact ⟨by first | rfl | (simp; done) | (simp; omega), rfl⟩
    case rest =>
    obtain ⟨rfl, rfl⟩ := hcut
    clear c1
    have hHD : H < W.heap.size := hH1
    go_upto_if 28 with fail
    go_cut [] (fun wx => Hid (SLs w0 wx n1 b off n cap H M (put s p) ov ord (comb f dp (p, d))) ∧ Hid (SixB wx W.heap.size (.string x.name) (.int .i64 x.kind) (.int .i64 x.code) (.string x.text) (.slice a0 x.actN cap0) (.slice a1 x.linksN cap1)) ∧ Hid (TyAt wx W.heap.size 59) ∧ Hid (Kpt H M W wx))
    case first =>
      cases td with
      | false =>
        have hc : comb f dp (p, d) = dp := by rw [HTD.out, if_neg (fun h => by have := HD.out; simp at this; have := this h.1; omega)]
        have S3 : Hid (SLs w0 wc n1 b off n cap H M (put s p) ov ord (comb f dp (p, d))) := by show SLs _ _ _ _ _ _ _ _ _ _ _ _ _; rw [hc]; exact S2.out
        clear hc
        go_wp2
        go_meet
        exact ⟨S3.out, D2.out, Y2.out, KP2.out⟩
      | true =>
        have htd : x.kind = 3 ∧ 60 ≤ d := by have := HD.out; simpa using this
        obtain ⟨e3, z3⟩ := S2.out.c3
        have HTD1 := hide htd
        clear htd
        have e4 : (wc.setCell ⟨H, 3, none⟩ (.int .i64 (p : Int))).heap[W.heap.size]? = wc.heap[W.heap.size]? := Below.heap_setCell _ _ _ _ (by show W.heap.size ≠ H; omega)
        have SP := hide (S2.out.deep (p : Int))
        have DP := hide (D2.out.blk (w' := wc.setCell ⟨H, 3, none⟩ (.int .i64 (p : Int))) (by simp) e4)
        have YP := hide (Y2.out.blk e4)
        have KPP := hide (KP2.out.trans (Kpt.setCell (H := H) (M := M) (j := 3) wc H (.inl rfl) (.int .i64 (p : Int))))
        clear e4
        by_cases g1 : dp < 0
        · have hc : comb f dp (p, d) = (p : Int) := by rw [HTD.out, if_pos ⟨HTD1.out.1, HTD1.out.2, .inl g1⟩]
          have S3 : Hid (SLs w0 (wc.setCell ⟨H, 3, none⟩ (.int .i64 (p : Int))) n1 b off n cap H M (put s p) ov ord (comb f dp (p, d))) := by show SLs _ _ _ _ _ _ _ _ _ _ _ _ _; rw [hc]; exact SP.out
          clear hc
          go_wp2
          go_meet
          exact ⟨S3.out, DP.out, YP.out, KPP.out⟩
        · by_cases g2 : (p : Int) < dp
          · have hc : comb f dp (p, d) = (p : Int) := by rw [HTD.out, if_pos ⟨HTD1.out.1, HTD1.out.2, .inr g2⟩]
            have S3 : Hid (SLs w0 (wc.setCell ⟨H, 3, none⟩ (.int .i64 (p : Int))) n1 b off n cap H M (put s p) ov ord (comb f dp (p, d))) := by show SLs _ _ _ _ _ _ _ _ _ _ _ _ _; rw [hc]; exact SP.out
            clear hc
            go_wp2
            go_meet
            exact ⟨S3.out, DP.out, YP.out, KPP.out⟩
          · have hc : comb f dp (p, d) = dp := by rw [HTD.out, if_neg (fun h => by have := h.2.2; omega)]
            have S3 : Hid (SLs w0 wc n1 b off n cap H M (put s p) ov ord (comb f dp (p, d))) := by show SLs _ _ _ _ _ _ _ _ _ _ _ _ _; rw [hc]; exact S2.out
            clear hc
            go_wp2
            go_meet
            exact ⟨S3.out, D2.out, Y2.out, KP2.out⟩
    case rest =>
    clear S2 D2 Y2 KP2
    obtain ⟨S2, D2, Y2, KP2⟩ := hcut
    obtain ⟨dp1, hdp1⟩ : ∃ dp1, dp1 = comb f dp (p, d) := ⟨_, rfl⟩
    rw [← hdp1] at S2
    have HDP1 := hide hdp1
    clear hdp1 HTD
    have HDP : Hid (dp1 = comb f dp (p, d)) := HDP1.out
    go_wp2
    go_loopw [7] (fun i wr => ∃ (j : Nat) (ov' : Value), j ≤ x.linksN ∧ i = .int .i64 j ∧ Hid (SLs w0 wr n1 b off n cap H M (put (K j).1 p) ov' (ord ++ (K j).2.map (fun z : Nat × Nat => z.1)) (deepTo f dp1 (K j).2)) ∧ Hid (SixB wr W.heap.size (.string x.name) (.int .i64 x.kind) (.int .i64 x.code) (.string x.text) (.slice a0 x.actN cap0) (.slice a1 x.linksN cap1)) ∧ Hid (TyAt wr W.heap.size 59) ∧ Hid (Kpt H M W wr)) (fun i _ => x.linksN - (intOf i).toNat)
    case atStart => exact ⟨0, ov, by omega, rfl, by rw [HK0.out]; simp only [List.map_nil, List.append_nil, deepTo]; exact S2.out, D2.out, Y2.out, KP2.out⟩
    case round =>
      clear S2 D2 Y2 KP2
      obtain ⟨j, ov', hj, rfl, S3, D3, Y3, KP3⟩ := hrel
      have e5 := D3.out.c5
      have hDl : W.heap.size < wr.heap.size := D3.out.lt
      by_cases hlt : j < x.linksN
      · obtain ⟨lb, lo, rfl, hrow⟩ := (HL.out.below S3.out.low (Nat.le_refl _)).resolve_left (by omega)
        obtain ⟨l0, l1, l2, l3⟩ := hrow.2 j hlt
        have hks := HKS.out j
        have hah : (x.links j).ask = true → (x.links j).at_.toNat < p ∧ 0 ≤ (x.links j).at_ := fun h => by
          have := HA.out p hpn j (by rw [← HX.out]; exact hlt)
          rw [← HX.out] at this
          exact this h
        generalize x.links j = y at l0 l1 l2 l3 hks hah
        have HKJ := hide hks
        have HAH := hide hah
        clear hks hah l0 l2 hrow
        cases hask : y.ask with
        | false =>
          rw [hask] at l1
          have hk1 : K (j + 1) = K j := by rw [HKJ.out, if_neg (by rw [hask]; simp)]
          have HK1 := hide hk1
          clear hk1
          go_wp2_with fail
          go_quiet (fail)
          have E := hide (below_drewN (Below.refl wr.heap.size wr) nq)
          have S4 := hide (S3.out.below E.out)
          have D4 := hide (D3.out.blk E.out.size (E.out.block _ hDl))
          have Y4 := hide (Y3.out.blk (E.out.block _ hDl))
          have KP4 := hide (KP3.out.trans (Kpt.of_below E.out))
          go_wp2
          exact ⟨⟨j + 1, ov', by omega, by go_num, by rw [HK1.out]; exact S4.out, D4.out, Y4.out, KP4.out⟩, by simp [intOf]; omega⟩
        | true =>
          rw [hask] at l1
          obtain ⟨q, hq⟩ : ∃ q : Nat, y.at_ = (q : Int) := ⟨y.at_.toNat, by have := (HAH.out hask).2; omega⟩
          have hqp : q < p := by have := (HAH.out hask).1; rw [hq] at this; simpa using this
          rw [hq] at l3
          have f1 := S3.out.c1
          obtain ⟨f2, _⟩ := S3.out.row q (by omega)
          have hpq : put (K j).1 p q = (K j).1 q := by simp [put]; omega
          rw [hpq] at f2
          have hq0 : (0 : Int) ≤ q := by omega
          have hqn : (q : Int) < n := by omega
          have HPQ := hide hpq
          clear hpq
          cases hl : (K j).1 q with
          | true =>
            rw [hl] at f2
            have hk1 : K (j + 1) = K j := by rw [HKJ.out, if_neg (by rw [hq]; simp [hl])]
            have HK1 := hide hk1
            clear hk1
            go_wp2_with fail
            go_quiet (fail)
            have E := hide (below_drewN (Below.refl wr.heap.size wr) nq)
            have S4 := hide (S3.out.below E.out)
            have D4 := hide (D3.out.blk E.out.size (E.out.block _ hDl))
            have Y4 := hide (Y3.out.blk (E.out.block _ hDl))
            have KP4 := hide (KP3.out.trans (Kpt.of_below E.out))
            go_wp2
            exact ⟨⟨j + 1, ov', by omega, by go_num, by rw [HK1.out]; exact S4.out, D4.out, Y4.out, KP4.out⟩, by simp [intOf]; omega⟩
          | false =>
            rw [hl] at f2
            have hk1 : K (j + 1) = ((lst f k q (d + 1) (K j).1).1, (K j).2 ++ (lst f k q (d + 1) (K j).1).2) := by rw [HKJ.out, if_pos ⟨hask, by rw [hq]; simpa using hl⟩, hq]; simp
            have HK1 := hide hk1
            have hpf := HKP.out (j + 1) (by omega)
            rw [hk1] at hpf
            have HPF := hide hpf
            have HL1 := hide hl
            clear hk1 hpf
            have ecast : ((d + 1 : Nat) : Int) = (d : Int) + 1 := by omega
            have HC : Hid (∀ W5, SLs w0 W5 n1 b off n cap H M (put (K j).1 p) ov' (ord ++ (K j).2.map (fun z : Nat × Nat => z.1)) (deepTo f dp1 (K j).2) → Calls Tryd.prog 56 #[.pointer (some ⟨H, 0, none⟩), .int .i64 (q : Int), .int .i64 ((d : Int) + 1)] W5 fun e W' => e = .returned (.tuple #[]) ∧ ∃ ov'', SLs w0 W' n1 b off n cap H M (put (K (j + 1)).1 p) ov'' (ord ++ (K (j + 1)).2.map (fun z : Nat × Nat => z.1)) (deepTo f dp1 (K (j + 1)).2) ∧ Kpt H M W5 W') := by
              intro W5 h5
              have hlp := lst_put HA.out k q (d + 1) (K j).1 p (by omega) hqp
              have hlen : (ord ++ (K j).2.map (fun z : Nat × Nat => z.1)).length + (lst f k q (d + 1) (put (K j).1 p)).2.length ≤ 1000 := by
                rw [hlp]
                have h3 := HN.out
                rw [HLS.out] at h3
                have h4 := HPF.out.length_le
                simp only [List.length_append, List.length_cons, List.length_nil, List.length_map] at h3 h4 ⊢
                omega
              have h := HIH.out q (d + 1) (put (K j).1 p) ov' (ord ++ (K j).2.map (fun z : Nat × Nat => z.1)) (deepTo f dp1 (K j).2) W5 (by omega) (by omega) (by omega) h5 (HPQ.out.trans HL1.out) hlen
              rw [ecast, hlp] at h
              refine h.mono fun e W' h => ?_
              obtain ⟨he, ov'', hs, hk⟩ := h
              refine ⟨he, ov'', ?_, hk⟩
              rw [HK1.out]
              simp only [List.map_append, deepTo_append, ← List.append_assoc]
              exact hs
            clear ecast
            go_wp2_with fail
            go_quiet (fail)
            have E := hide (below_drewN (Below.refl wr.heap.size wr) nq)
            have S4 := hide (S3.out.below E.out)
            have D4 := hide (D3.out.blk E.out.size (E.out.block _ hDl))
            have Y4 := hide (Y3.out.blk (E.out.block _ hDl))
            have KP4 := hide (KP3.out.trans (Kpt.of_below E.out))
            have g5 := D4.out.c5
            have l3' := (E.out.cell (p := ⟨lb, lo + j * 4 + 3, none⟩) (by have := (HL.out.below S3.out.low (Nat.le_refl _)); rcases this with h | ⟨b', o', hv, hr⟩; (omega); (cases hv; exact hr.1))).trans l3
            clear e5 f1 f2 l1 l3
            generalize wr.drewN nq = W5 at S4 D4 Y4 KP4 g5 l3' ⊢
            go_wp2_with fail
            refine (HC.out W5 S4.out).mono ?_
            rintro e W6 ⟨rfl, ov'', hs, hk⟩
            have S5 := hide hs
            have eD := hk.keep W.heap.size _ Y4.out (by decide) (by omega) (by have := HS.out.hM; have := HS.out.hz; omega)
            have D5 := hide (D4.out.blk hk.size eD)
            have Y5 := hide (Y4.out.blk eD)
            have KP5 := hide (KP4.out.trans hk)
            clear hs hk eD g5 l3'
            go_wp2
            exact ⟨⟨j + 1, ov'', by omega, by go_num, S5.out, D5.out, Y5.out, KP5.out⟩, by simp [intOf]; omega⟩
      · have e : j = x.linksN := by omega
        subst e
        obtain ⟨f2, z2⟩ := S3.out.c2
        obtain ⟨oa, oc, rfl⟩ : ∃ a c, ov' = .slice a (ord ++ (K x.linksN).2.map (fun z : Nat × Nat => z.1)).length c := by
          rcases S3.out.ord.2 with ⟨h1, h2⟩ | ⟨g, c, cur, h1, _⟩
          · exact ⟨none, 0, by rw [h1, h2]⟩
          · exact ⟨_, _, h1⟩
        have hlo : (ord ++ (K x.linksN).2.map (fun z : Nat × Nat => z.1)).length ≤ 1000 := by
          have h3 := HN.out
          rw [HLS.out] at h3
          simp only [List.length_append, List.length_cons, List.length_nil, List.length_map] at h3 ⊢
          omega
        generalize hO : ord ++ (K x.linksN).2.map (fun z : Nat × Nat => z.1) = O at S3 f2 hlo ⊢
        have HO := hide hO
        clear hO
        have hHw : H < wr.heap.size := by have := S3.out.hH; have := S3.out.hz; omega
        have hMw : M < wr.heap.size := by have := S3.out.hM; have := S3.out.hz; omega
        go_wp2_with (at_builtin; refine wpList_append_own _ rfl (.tmp 88) (.tmp 90) 43 rfl n1 3 i0' (.int .i64 0) 1 8 Tryd.underlying43 hii hy0 hy1 hy2 rfl (by decide) _ O.length (O.map fun q : Nat => Value.int .i64 (q : Int)) (by simp [Act.eval]) (S3.out.ord.alloc _) ⟨wr.heap.size, 0, none⟩ 1 1 [.int .i64 (p : Int)] (by simp [Act.eval]) rfl (cell_one_new _ _ _) (by simp [Value.oneCell']) (by unfold maxLen; omega) (by omega) (by have := S3.out.hz; simp; omega) ?_; intro vy wy hown hgrow hnil; have OW : Hid (wy.ownsRow n1 3 1 vy (O ++ [p]).length ((O ++ [p]).map fun q : Nat => Value.int .i64 (q : Int))) := (by show World.ownsRow _ _ _ _ _ _ _; rw [List.length_append, List.map_append]; exact hown); have GR := hide hgrow; have eH : wy.heap[H]? = wr.heap[H]? := (hgrow.block H (by simp; omega) (fun e => by have := (S3.out.ord.lt H e.symm).1; have := S3.out.hH.2; omega)).trans (heap_alloc_old _ _ hHw); have eM : wy.heap[M]? = wr.heap[M]? := (hgrow.block M (by simp; omega) (fun e => by have := (S3.out.ord.lt M e.symm).1; have := S3.out.hM.2; omega)).trans (heap_alloc_old _ _ hMw); have g2 := (World.cell?_of_block (a := ⟨H, 2, none⟩) eH).trans f2; have y2 := (World.frozen?_of_block (a := ⟨H, 2, none⟩) eH).trans z2; obtain ⟨gs, cs, rfl⟩ : ∃ g c, vy = .slice (some ⟨g, 0, none⟩) (O.length + 1) c := (by rcases hown.2 with ⟨_, h2⟩ | ⟨g, c, cur, h1, _⟩; (omega); exact ⟨g, c, h1⟩); have EH := hide eH; have EM := hide eM; clear hown hgrow hnil eH eM)
        have AL := (Below.refl wr.heap.size wr).alloc (Nat.le_refl _) (.cells #[.int .i64 (p : Int)] 3)
        have hsz : wr.heap.size ≤ wy.heap.size := Nat.le_trans AL.size GR.out.size
        have hlow : Below w0.heap.size w0 wy := Below.grown (S3.out.low.alloc S3.out.low.size (.cells #[.int .i64 (p : Int)] 3)) GR.out (by have := S3.out.low.size; simp; omega) (fun j e => by have := (S3.out.ord.lt j e).1; have := S3.out.hH; omega)
        have F1 := S3.out.app (v := .slice (some ⟨gs, 0, none⟩) (O.length + 1) cs) (ord' := O ++ [p]) hsz EH.out EM.out hlow OW.out
        have F2 := ((KP3.out.trans (Kpt.of_below AL)).trans (Kpt.grown (S3.out.ord.alloc (.cells #[.int .i64 (p : Int)] 3)) GR.out)).trans (Kpt.setCell (H := H) (M := M) (j := 2) wy H (.inl rfl) (.slice (some ⟨gs, 0, none⟩) (O.length + 1) cs))
        have hdd : deepTo f dp ((K x.linksN).2 ++ [(p, d)]) = deepTo f dp1 (K x.linksN).2 := by rw [deepTo_append, HDP.out, deepTo_comb]; rfl
        have hoo : ord ++ ((K x.linksN).2 ++ [(p, d)]).map (fun z : Nat × Nat => z.1) = O ++ [p] := by rw [List.map_append, ← List.append_assoc, HO.out]; rfl
        go_end0
        rw [HLS.out]
        refine ⟨rfl, .slice (some ⟨gs, 0, none⟩) (O.length + 1) cs, ?_, F2⟩
        show SLs w0 _ n1 b off n cap H M (put (K x.linksN).1 p) _ (ord ++ ((K x.linksN).2 ++ [(p, d)]).map (fun z : Nat × Nat => z.1)) (deepTo f dp ((K x.linksN).2 ++ [(p, d)]))
        rw [hdd, hoo]
        exact F1

end Go.Proofs.YtggchgpphhhleaaDoor.Vp

/-
  spec: l3Order; what the order tells.
-/
namespace Go.Proofs.YtggchgpphhhleaaDoor.Vp
open Go.RowKit

theorem offAt_all {L : List (Nat × Nat)} : ∀ {i : Nat}, (∀ j (h : j < L.length), (L[j]).1 = i + j) → offAt i L = -1 := by
  induction L with
  | nil => intro i _; rfl
  | cons x xs ih =>
    intro i h
    have h0 := h 0 (by simp)
    simp at h0
    rw [offAt, if_pos h0]
    refine ih fun j hj => ?_
    have := h (j + 1) (by simpa using hj)
    simp at this
    omega
theorem offAt_at {L : List (Nat × Nat)} : ∀ {i j : Nat} (hj : j < L.length), (∀ m (h : m < j), (L[m]).1 = i + m) → (L[j]).1 ≠ i + j → offAt i L = ((i + j : Nat) : Int) := by
  induction L with
  | nil => intro i j hj; simp at hj
  | cons x xs ih =>
    intro i j hj h hne
    cases j with
    | zero =>
      simp at hne
      rw [offAt, if_neg hne]
      simp
    | succ j =>
      have h0 := h 0 (by omega)
      simp at h0
      rw [offAt, if_pos h0, ih (i := i + 1) (j := j) (by simpa using hj) (fun m hm => ?_) (by simpa [Nat.add_assoc, Nat.add_comm 1 j] using hne)]
      · congr 1; omega
      · have := h (m + 1) (by omega)
        simp at this
        omega
theorem deepTo_stay {f : Nat → Deed} {d : Int} : ∀ {L : List (Nat × Nat)}, 0 ≤ d → (∀ x ∈ L, d ≤ (x.1 : Int)) → deepTo f d L = d
  | [], _, _ => rfl
  | x :: xs, h, hx => by
    have h1 : comb f d x = d := by
      unfold comb
      rw [if_neg (fun h2 => by have := hx x (by simp); omega)]
    rw [deepTo, h1]
    exact deepTo_stay h fun y hy => hx y (by simp [hy])
theorem deepTo_first {f : Nat → Deed} : ∀ {L : List (Nat × Nat)} {i : Nat}, (∀ j (h : j < L.length), (L[j]).1 = i + j) → deepTo f (-1) L = deepAt f L
  | [], _, _ => rfl
  | x :: xs, i, h => by
    have h0 := h 0 (by simp)
    simp at h0
    have hr : ∀ j (hj : j < xs.length), (xs[j]).1 = i + 1 + j := fun j hj => by
      have := h (j + 1) (by simpa using hj)
      simp at this
      omega
    rw [deepTo, deepAt]
    by_cases hd : (f x.1).kind = 3 ∧ 60 ≤ x.2
    · have h1 : comb f (-1) x = (x.1 : Int) := by unfold comb; rw [if_pos ⟨hd.1, hd.2, .inl (by omega)⟩]
      rw [if_pos hd, h1]
      refine deepTo_stay (by omega) fun y hy => ?_
      obtain ⟨j, hj, rfl⟩ := List.getElem_of_mem hy
      have := hr j hj
      omega
    · have h1 : comb f (-1) x = -1 := by unfold comb; rw [if_neg (fun h2 => hd ⟨h2.1, h2.2.1⟩)]
      rw [if_neg hd, h1]
      exact deepTo_first hr
theorem listing_last {f : Nat → Deed} {n : Nat} (hn : 1 ≤ n) : ∃ o, listing f n = o ++ [(n - 1, 0)] := by
  obtain ⟨k, rfl⟩ : ∃ k, n = k + 1 := ⟨n - 1, by omega⟩
  exact ⟨_, rfl⟩
theorem listing_full {f : Nat → Deed} {n : Nat} (hn : 1 ≤ n) (h : ∀ j (hj : j < (listing f n).length), ((listing f n)[j]).1 = j) : (listing f n).length = n := by
  obtain ⟨o, ho⟩ := listing_last (f := f) hn
  have hl : (listing f n).length = o.length + 1 := by rw [ho]; simp
  have := h o.length (by omega)
  simp only [ho] at this
  simp at this
  omega
theorem new_no {f : Nat → Deed} {p k m : Nat} (hk : k < m) (h : nameNew f p (k + 1) = false) : nameNew f p m = false := by
  induction m with
  | zero => omega
  | succ j ih =>
    by_cases e : k = j
    · subst e; exact h
    · rw [nameNew, ih (by omega)]; rfl

structure FourZ (w : World) (b : Nat) (v0 v1 v2 v3 : Value) : Prop where
  c0 : w.cell? ⟨b, 0, none⟩ = some v0
  c1 : w.cell? ⟨b, 1, none⟩ = some v1
  c2 : w.cell? ⟨b, 2, none⟩ = some v2
  c3 : w.cell? ⟨b, 3, none⟩ = some v3
  z2 : w.frozen? ⟨b, 2, none⟩ = false
  z3 : w.frozen? ⟨b, 3, none⟩ = false
theorem four_box (w : World) (v0 v1 v2 v3 : Value) (t : TypeId) : FourZ (w.alloc (.cells #[v0, v1, v2, v3] t)).drew w.heap.size v0 v1 v2 v3 := ⟨by simp, by simp, by simp, by simp, by simp, by simp⟩
theorem sls_new {w : World} {b off n cap : Nat} : SLs w (((w.alloc (.cells #[.slice (some ⟨b, off, none⟩) n cap] 30)).alloc (.cells (zerosBool n) 4)).alloc (.cells #[.slice (some ⟨b, off, none⟩) n cap, .slice (some ⟨w.heap.size + 1, 0, none⟩) n n, .slice none 0 0, .int .i64 (-1)] 64)).drew (w.heap.size + 1 + 1 + 1) b off n cap (w.heap.size + 1 + 1) (w.heap.size + 1) (fun _ => false) (.slice none 0 0) [] (-1) := by
  have hz1 : (w.alloc (.cells #[.slice (some ⟨b, off, none⟩) n cap] 30)).heap.size = w.heap.size + 1 := by simp
  have hz2 : ((w.alloc (.cells #[.slice (some ⟨b, off, none⟩) n cap] 30)).alloc (.cells (zerosBool n) 4)).heap.size = w.heap.size + 1 + 1 := by simp
  have A := (((Below.refl w.heap.size w).alloc (Nat.le_refl _) (.cells #[.slice (some ⟨b, off, none⟩) n cap] 30)).alloc (by simp) (.cells (zerosBool n) 4)).alloc (by simp; omega) (.cells #[.slice (some ⟨b, off, none⟩) n cap, .slice (some ⟨w.heap.size + 1, 0, none⟩) n n, .slice none 0 0, .int .i64 (-1)] 64)
  have D : Below (w.heap.size + 1 + 1) ((w.alloc (.cells #[.slice (some ⟨b, off, none⟩) n cap] 30)).alloc (.cells (zerosBool n) 4)) (((w.alloc (.cells #[.slice (some ⟨b, off, none⟩) n cap] 30)).alloc (.cells (zerosBool n) 4)).alloc (.cells #[.slice (some ⟨b, off, none⟩) n cap, .slice (some ⟨w.heap.size + 1, 0, none⟩) n n, .slice none 0 0, .int .i64 (-1)] 64)).drew := ((Below.refl _ _).alloc (by omega) _).drew
  have hM := fun q hq => cell_M (w.alloc (.cells #[.slice (some ⟨b, off, none⟩) n cap] 30)) n q hq
  rw [hz1] at hM
  have hB := four_box ((w.alloc (.cells #[.slice (some ⟨b, off, none⟩) n cap] 30)).alloc (.cells (zerosBool n) 4)) (.slice (some ⟨b, off, none⟩) n cap) (.slice (some ⟨w.heap.size + 1, 0, none⟩) n n) (.slice none 0 0) (.int .i64 (-1)) 64
  rw [hz2] at hB
  refine ⟨hB.c0, hB.c1, ⟨hB.c2, hB.z2⟩, ⟨hB.c3, hB.z3⟩, fun q hq => ⟨(D.cell (p := ⟨w.heap.size + 1, q, none⟩) (Nat.lt_succ_self _)).trans (hM q hq).1, (D.frozen (p := ⟨w.heap.size + 1, q, none⟩) (Nat.lt_succ_self _)).trans (hM q hq).2⟩, World.ownsRow_nil _ _ _ _, A.drew, by omega, by omega, by omega, ?_⟩
  simp

end Go.Proofs.YtggchgpphhhleaaDoor.Vp

/-
  spec: l3Order, CheckAccount.
-/
namespace Go.Proofs.YtggchgpphhhleaaDoor.Vp
open Go.RowKit

set_option maxRecDepth 100000 in
set_option maxHeartbeats 4000000 in
theorem l3Order_any (b off n cap : Nat) (f : Nat → Deed) (w : World) (hA : Ahead f n) (hn1 : 1 ≤ n) (hn : (n : Int) ≤ 400) (hf : RowDeed w b off n f) (hlk : ∀ p, p < n → (f p).linksN ≤ 200) :
    Calls Tryd.prog 34 #[.agg #[.slice (some ⟨b, off, none⟩) n cap], .int .i64 ((n : Int) - 1)] w fun e w' => ∃ H ov, e = .returned (.pointer (some ⟨H, 0, none⟩)) ∧ H < w'.heap.size ∧ w'.cell? ⟨H, 2, none⟩ = some ov ∧ w'.ownsRow w.heap.size 3 1 ov (listing f n).length ((listing f n).map fun z : Nat × Nat => Value.int .i64 (z.1 : Int)) ∧ w'.cell? ⟨H, 3, none⟩ = some (.int .i64 (deepTo f (-1) (listing f n))) ∧ Below w.heap.size w w' := by
  have k0 : (w.alloc (.cells #[.slice (some ⟨b, off, none⟩) n cap] 30)).cell? ⟨w.heap.size, 0, none⟩ = some (.slice (some ⟨b, off, none⟩) n cap) := by simp
  have hll := listing_len hA hn1
  have hC := slist_any w (w.heap.size + 1 + 1 + 1) b off n cap (w.heap.size + 1 + 1) (w.heap.size + 1) f hA hn hf hlk n (n - 1) 0 (fun _ => false) (.slice none 0 0) [] (-1) _ (by omega) (by omega) (by omega) sls_new rfl (by have := hll; unfold listing at this; simp; omega)
  rw [show ((n - 1 : Nat) : Int) = (n : Int) - 1 by omega] at hC
  have HC := hide hC
  have hmk := fun w => mkBool n (by omega) w
  clear hC hA hf hlk
  have HW : Hid (w.heap.size + 1 + 1 + 1 = (((w.alloc (.cells #[.slice (some ⟨b, off, none⟩) n cap] 30)).alloc (.cells (zerosBool n) 4)).alloc (.cells #[.slice (some ⟨b, off, none⟩) n cap, .slice (some ⟨w.heap.size + 1, 0, none⟩) n n, .slice none 0 0, .int .i64 (-1)] 64)).drew.heap.size) := by
    show _ = _
    simp
  go_enter Tryd.func34, Tryd.ntmps34
  go_wp2_with fail
  go_region_with fail
  all_goals
    clear hmk k0
    go_wp2_with fail
    refine HC.out.mono ?_
    rintro e w2 ⟨rfl, ov, hS, hK⟩
    have HS := hide hS
    clear hS hK
    go_wp2
    go_ret
    refine ⟨w.heap.size + 1 + 1, ov, rfl, ?_, HS.out.c2.1, ?_, HS.out.c3.1, HS.out.low⟩
    · have := HS.out.hz
      omega
    · have h := own_mono HS.out.ord (base' := w.heap.size) (by omega)
      simp only [List.nil_append, List.map_map, List.length_map] at h
      exact h

end Go.Proofs.YtggchgpphhhleaaDoor.Vp
