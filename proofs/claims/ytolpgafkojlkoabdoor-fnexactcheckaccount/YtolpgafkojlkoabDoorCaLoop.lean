/-
  A range over an iterator that keeps a state of its own in cells: what it lays since the loop began it may write; the body keeps its hands off it.
-/
import Derived.RangeFuncKeeps
import Derived.RangeFuncFrom
namespace Go.Proofs.YtolpgafkojlkoabDoor.Ca
open Go.RowKit

/-- Of what lay there only blocks of P may have changed. -/
structure Upd (P : Nat → Prop) (w w' : World) : Prop where
  os : w'.os = w.os
  tape : w'.tape = w.tape
  output : w'.output = w.output
  size : w.heap.size ≤ w'.heap.size
  block : ∀ k, k < w.heap.size → ¬ P k → w'.heap[k]? = w.heap[k]?
theorem Upd.refl (P : Nat → Prop) (w : World) : Upd P w w := ⟨rfl, rfl, rfl, Nat.le_refl _, fun _ _ _ => rfl⟩
theorem Upd.trans {P : Nat → Prop} {a b c : World} (h : Upd P a b) (k : Upd P b c) : Upd P a c :=
  ⟨k.os.trans h.os, k.tape.trans h.tape, k.output.trans h.output, Nat.le_trans h.size k.size, fun i hi ho => (k.block i (Nat.lt_of_lt_of_le hi h.size) ho).trans (h.block i hi ho)⟩
theorem Upd.mono {P Q : Nat → Prop} {a b : World} (h : Upd P a b) (hPQ : ∀ k, P k → Q k) : Upd Q a b :=
  ⟨h.os, h.tape, h.output, h.size, fun i hi ho => h.block i hi (fun hp => ho (hPQ i hp))⟩
theorem Upd.of_below {P : Nat → Prop} {B : Nat} {w w' : World} (h : Below B w w') (hB : w.heap.size ≤ B) : Upd P w w' :=
  ⟨h.os, h.tape, h.output, h.size, fun i hi _ => h.block i (Nat.lt_of_lt_of_le hi hB)⟩
theorem Upd.below {P : Nat → Prop} {B : Nat} {w w' : World} (h : Upd P w w') (hP : ∀ k, P k → B ≤ k) (hB : B ≤ w.heap.size) : Below B w w' :=
  ⟨h.os, h.tape, h.output, h.size, fun k hk => h.block k (Nat.lt_of_lt_of_le hk hB) (fun hp => by have := hP k hp; omega)⟩
theorem Upd.setCell {P : Nat → Prop} (w : World) {p : Addr} (hp : P p.block) (v : Value) : Upd P w (w.setCell p v) :=
  ⟨rfl, rfl, rfl, by simp [World.setCell], fun k _ ho => Below.heap_setCell _ _ _ _ (fun e => ho (e ▸ hp))⟩
theorem Upd.putObj {P : Nat → Prop} (w : World) {l : Nat} (hp : P l) (o : Obj) : Upd P w (w.putObj l o) :=
  ⟨rfl, rfl, rfl, by simp, fun k _ ho => World.putObj_heap_other (fun e => ho (e ▸ hp))⟩
theorem below_putObj {n : Nat} (w : World) {l : Nat} (hn : n ≤ l) (hl : l < w.heap.size) (o : Obj) : Below n w (w.putObj l o) :=
  (Below.refl n w).grown (grownBy_putObj' w l o) (by omega) (fun k e => by cases e; exact hn)

def SeqT {α : Type} (F : Fence) (n : Nat) (P : Program) (g : Nat) (lb : Array Value) (encs : α → Array Value) (Ox : α → Prop) (base : Nat) (S Sp : List α → Prop) (N : Nat) (w : World) : Prop :=
  ∀ (l : Nat) (J Jx : List α → World → Prop) (W : World), Below w.heap.size w W → (∀ s A B, J s A → Below W.heap.size A B → J s B) → (∀ s A B, Jx s A → Below W.heap.size A B → Jx s B) →
    (∀ pre x W1, Ox x → J pre W1 → pre.length < N → W.heap.size ≤ W1.heap.size → YieldAt F (n - 1) P l (encs x) W1 fun e W' =>
      (e = .returned (.bool true) ∧ J (pre ++ [x]) W' ∧ Upd (fun k => base ≤ k ∧ k < W.heap.size) W1 W') ∨ (e = .returned (.bool false) ∧ Jx (pre ++ [x]) W')) →
    J [] W →
    CallsIn F n P g (#[.func (.yield l) #[] #[]] ++ lb) W fun e W' => (∃ v, e = .returned v) ∧ ((∃ xs, S xs ∧ J xs W') ∨ (∃ pre, Sp pre ∧ Jx pre W'))

def postT {α : Type} (base n₀ : Nat) (I : List α → World → Prop) (Ix : Code → List α → World → Prop) (xs : List α) (W : World) : Exit → Act → World → Prop
  | .normal, _, W' => Upd (fun k => base ≤ k ∧ k < n₀) W W' ∧ I xs W'
  | .ret, _, W' => Upd (fun k => base ≤ k ∧ k < n₀) W W' ∧ Ix .ret xs W'
  | .exit id, _, W' => Upd (fun k => base ≤ k ∧ k < n₀) W W' ∧ Ix (.exit id) xs W'
  | .goto t, _, W' => Upd (fun k => base ≤ k ∧ k < n₀) W W' ∧ Ix (.goto t) xs W'
  | .panic _, _, _ => False
  | .outgrown, _, _ => False

theorem wpIn_rangeFunc_T {F : Fence} {n : Nat} {P : Program} {α : Type} {g : Operand} {ps : Array Tmp} {assign body : Code} {Q : Exit → Act → World → Prop} {a : Act} {w : World}
    (hro : F.round = none) (h1 : 1 ≤ n) {gf : Nat} {lb : Array Value} (hg : a.eval g = .func (.func gf) #[] lb) (hFg : F.fn gf) (eg : ∀ args w, (callFunc gf args).run P w = .ok (.enter gf args) w)
    {encs : α → Array Value} {Ox : α → Prop} {base : Nat} {S Sp : List α → Prop} {N : Nat} {w0 : World} (hbase : base ≤ w.heap.size) (hseq : SeqT F (n - 1) P gf lb encs Ox base S Sp N w0) (hb0 : Below w0.heap.size w0 w) (hps : ∀ x, (encs x).size = ps.size)
    (I : List α → World → Prop) (Ix : Code → List α → World → Prop) (hI : ∀ s A B, I s A → Below w.heap.size A B → I s B) (hIx : ∀ c s A B, Ix c s A → Below w.heap.size A B → Ix c s B) (h0 : I [] w) (a₁ : α → Act)
    (hassign : ∀ (l : Nat) (x : α) (W : World) (K : Act → World → Prop), K (a₁ x) W →
      assign.wpIn (F.inRound l) (n - 1 - 1) P (Exit.then K (fun _ _ _ => False)) { tmps := (ps.zip (encs x)).foldl (fun t (p, v) => t.setIfInBounds p v) a.tmps, defers := [] } W)
    (hbody : ∀ (l : Nat) (pre : List α) (x : α) (W : World), Ox x → I pre W → pre.length < N → w.heap.size ≤ W.heap.size → body.wpIn (F.inRound l) (n - 1 - 1) P (postT base w.heap.size I Ix (pre ++ [x]) W) (a₁ x) W)
    (hdone : ∀ (D : Nat) (xs : List α) (W : World), w.heap.size ≤ D → S xs → I xs W → W.heap[D]? = some (.deferred (some [])) → Q .normal { a with defers := { target := .collected D, args := #[] } :: a.defers } W)
    (hstop : ∀ (D : Nat) (c : Code) (pre : List α) (W : World), w.heap.size ≤ D → Sp pre → Ix c pre W → W.heap[D]? = some (.deferred (some [])) → c.wpIn F n P Q { a with defers := { target := .collected D, args := #[] } :: a.defers } W) :
    (Code.rangeFunc g ps assign body).wpIn F n P Q a w := by
  refine wpIn_rangeFunc ?_
  intro fn hfn
  rw [hro]
  obtain ⟨rec, hrec⟩ : ∃ rec : LoopState → Option Code → Loop, rec = fun st pe => { state := st, pending := pe, fn, tmps := a.tmps, params := ps, assign, body, defers := w.heap.size } := ⟨_, rfl⟩
  obtain ⟨W1, hW1⟩ : ∃ W1, (w.alloc (.deferred (some []))).alloc (.loop (rec .ready none)) = W1 := ⟨_, rfl⟩
  have hs1 : W1.heap.size = w.heap.size + 2 := by rw [← hW1]; simp
  have hL1 : W1.heap[w.heap.size + 1]? = some (.loop (rec .ready none)) := by
    rw [← hW1]; have := World.alloc_heap_new (w.alloc (.deferred (some []))) (.loop (rec .ready none)); rwa [World.size_alloc] at this
  have hK1 : W1.heap[w.heap.size]? = some (.deferred (some [])) := by
    rw [← hW1]; exact (Below.heap_alloc _ _ _ (by simp)).trans (World.alloc_heap_new w _)
  have hB1 : Below w.heap.size w W1 := by rw [← hW1]; exact ((Below.refl _ w).alloc (Nat.le_refl _) _).alloc (by simp) _
  have hI1 : I [] W1 := hI _ _ _ h0 hB1
  have hb1 : Below w0.heap.size w0 W1 := hb0.trans (hB1.mono hb0.size)
  refine ⟨w.heap.size + 1, [{ target := .collected w.heap.size, args := #[] }], W1, { target := .fn (.func gf) lb, args := #[.func (.yield (w.heap.size + 1)) #[] #[]] }, W1, gf,
    #[.func (.yield (w.heap.size + 1)) #[] #[]] ++ lb, W1, ?_, ?_, ?_, ?_, fun _ => h1, ?_⟩
  · rw [← hW1, hrec]; exact run_enterLoop_outer _ _ _ _ _
  · simp only [resolve, hg]
    simp [go_sem]
  · intro f' hf'; simp [Target.leads] at hf'; subst hf'; exact hFg
  · simp [invoke, go_sem, eg]
  · refine (hseq (w.heap.size + 1)
      (fun pre W => I pre W ∧ W.heap[w.heap.size + 1]? = some (.loop (rec .ready none)) ∧ W.heap[w.heap.size]? = some (.deferred (some [])))
      (fun pre W => ∃ c, Ix c pre W ∧ W.heap[w.heap.size + 1]? = some (.loop (rec .done (some c))) ∧ W.heap[w.heap.size]? = some (.deferred (some [])))
      W1 hb1
      (fun s A B hs hB => ⟨hI s A B hs.1 (hB.mono (by omega)), (hB.block _ (by omega)).trans hs.2.1, (hB.block _ (by omega)).trans hs.2.2⟩)
      (fun s A B hs hB => by
        obtain ⟨c, hc, hl, hk⟩ := hs
        exact ⟨c, hIx c s A B hc (hB.mono (by omega)), (hB.block _ (by omega)).trans hl, (hB.block _ (by omega)).trans hk⟩)
      ?_ ⟨hI1, hL1, hK1⟩).mono ?_
    · -- one round
      rintro pre x W hox ⟨hi, hl, hk⟩ hlen _
      have hlt : w.heap.size + 1 < W.heap.size := (Array.getElem?_eq_some_iff.1 hl).1
      have hy := run_yield (P := P) (args := encs x) hl (by rw [hrec]; exact hps x)
      rw [hrec] at hy
      refine ⟨fn, _, assign, body, hy, roundIn_of_wpIn hfn (hassign _ x W _ ⟨_, run_beginRound hl (by rw [hrec]), ?_⟩)⟩
      have hl2 : (W.putObj (w.heap.size + 1) (.loop { rec .ready none with state := .busy })).heap[w.heap.size + 1]? = some (.loop { rec .ready none with state := .busy }) := World.putObj_heap_same hlt
      have hk2 : (W.putObj (w.heap.size + 1) (.loop { rec .ready none with state := .busy })).heap[w.heap.size]? = some (.deferred (some [])) := (World.putObj_heap_other (by omega)).trans hk
      have hw2 : Upd (fun k => base ≤ k ∧ k < W1.heap.size) W (W.putObj (w.heap.size + 1) (.loop { rec .ready none with state := .busy })) := Upd.putObj _ ⟨by omega, by omega⟩ _
      refine wpIn_mono (hbody _ pre x _ hox (hI _ _ _ hi (below_putObj _ (by omega) hlt _)) hlen (by simp; omega)) ?_
      have fin : ∀ (jump : Option Code) (W3 : World), Upd (fun k => base ≤ k ∧ k < w.heap.size) (W.putObj (w.heap.size + 1) (.loop { rec .ready none with state := .busy })) W3 →
          (Instr.endRound (w.heap.size + 1) jump).run P W3 = .ok (.bool jump.isNone) (W3.putObj (w.heap.size + 1) (.loop (rec (if jump.isNone then .ready else .done) jump))) ∧
          Below w.heap.size W3 (W3.putObj (w.heap.size + 1) (.loop (rec (if jump.isNone then .ready else .done) jump))) ∧
          (W3.putObj (w.heap.size + 1) (.loop (rec (if jump.isNone then .ready else .done) jump))).heap[w.heap.size + 1]? = some (.loop (rec (if jump.isNone then .ready else .done) jump)) ∧
          (W3.putObj (w.heap.size + 1) (.loop (rec (if jump.isNone then .ready else .done) jump))).heap[w.heap.size]? = some (.deferred (some [])) := fun jump W3 hk3 => by
        have hl3 := (hk3.block _ (by simpa using hlt) (by omega)).trans hl2
        have hk4 := (hk3.block _ (by simp; omega) (by omega)).trans hk2
        have hlt3 := (Array.getElem?_eq_some_iff.1 hl3).1
        have := run_endRound (P := P) jump hl3
        rw [hrec] at this ⊢
        exact ⟨this, below_putObj _ (by omega) hlt3 _, World.putObj_heap_same hlt3, (World.putObj_heap_other (by omega)).trans hk4⟩
      rintro e a3 W3 hp
      cases e with
      | normal =>
        obtain ⟨hk3, hi3⟩ := hp
        obtain ⟨hr, hb4, hl4, hk4⟩ := fin none W3 hk3
        exact ⟨_, _, hr, .inl ⟨rfl, ⟨hI _ _ _ hi3 hb4, hl4, hk4⟩, (hw2.trans (hk3.mono (fun k hk => ⟨hk.1, by omega⟩))).trans (Upd.putObj _ ⟨by omega, by omega⟩ _)⟩⟩
      | ret =>
        obtain ⟨hk3, hi3⟩ := hp
        obtain ⟨hr, hb4, hl4, hk4⟩ := fin (some .ret) W3 hk3
        exact ⟨_, _, hr, .inr ⟨rfl, .ret, hIx _ _ _ _ hi3 hb4, hl4, hk4⟩⟩
      | exit id =>
        obtain ⟨hk3, hi3⟩ := hp
        obtain ⟨hr, hb4, hl4, hk4⟩ := fin (some (.exit id)) W3 hk3
        exact ⟨_, _, hr, .inr ⟨rfl, .exit id, hIx _ _ _ _ hi3 hb4, hl4, hk4⟩⟩
      | goto t =>
        obtain ⟨hk3, hi3⟩ := hp
        obtain ⟨hr, hb4, hl4, hk4⟩ := fin (some (.goto t)) W3 hk3
        exact ⟨_, _, hr, .inr ⟨rfl, .goto t, hIx _ _ _ _ hi3 hb4, hl4, hk4⟩⟩
      | panic ch => exact hp.elim
      | outgrown => exact hp.elim
    · rintro e W2 ⟨⟨v, rfl⟩, (⟨xs, hS, hi, hl, hk⟩ | ⟨pre, hSp, c, hi, hl, hk⟩)⟩
      · exact ⟨none, _, by have := run_endLoop (P := P) hl (by rw [hrec]; simp); rw [hrec] at this; exact this, hdone _ xs _ (Nat.le_refl _) hS (hI _ _ _ hi (below_putObj _ (by omega) (Array.getElem?_eq_some_iff.1 hl).1 _)) ((World.putObj_heap_other (by omega)).trans hk)⟩
      · exact ⟨some c, _, by have := run_endLoop (P := P) hl (by rw [hrec]; simp); rw [hrec] at this; exact this, hstop _ c pre _ (Nat.le_refl _) hSp (hIx _ _ _ _ hi (below_putObj _ (by omega) (Array.getElem?_eq_some_iff.1 hl).1 _)) ((World.putObj_heap_other (by omega)).trans hk)⟩


/-- A block of that type. -/
def OfTy (w : World) (k : Nat) (e : TypeId) : Prop := ∃ c z, w.heap[k]? = some (.cells c e z)
theorem OfTy.eq {w w' : World} {k : Nat} {e : TypeId} (h : OfTy w k e) (hb : w'.heap[k]? = w.heap[k]?) : OfTy w' k e := by
  obtain ⟨c, z, h⟩ := h
  exact ⟨c, z, hb.trans h⟩
theorem OfTy.ne {w : World} {k : Nat} {e e' : TypeId} (h : OfTy w k e) (hn : e' ≠ e) : ¬ OfTy w k e' := by
  obtain ⟨c, z, h⟩ := h
  rintro ⟨c', z', h'⟩
  rw [h] at h'
  cases h'
  exact hn rfl
theorem OfTy.set {w : World} {k : Nat} {e : TypeId} (h : OfTy w k e) (p : Addr) (v : Value) : OfTy (w.setCell p v) k e := by
  obtain ⟨c, z, h⟩ := h
  by_cases hp : p.block = k
  · subst hp
    have hlt := (Array.getElem?_eq_some_iff.1 h).1
    have he := (Array.getElem?_eq_some_iff.1 h).2
    exact ⟨if p.spot.isSome = true then c else c.setIfInBounds p.off v, z, by simp [World.setCell, Array.getElem?_modify, h]⟩
  · exact ⟨c, z, (Below.heap_setCell _ _ _ _ (fun e => hp e.symm)).trans h⟩
theorem OfTy.new (w : World) (c : Array Value) (e : TypeId) : OfTy (w.alloc (.cells c e)) w.heap.size e := ⟨c, _, World.alloc_heap_new w _⟩
/-- Nothing below base has changed, and of what lies from n₀ on only blocks of type T. -/
structure Upd2 (T : TypeId) (base n₀ : Nat) (w w' : World) : Prop where
  os : w'.os = w.os
  tape : w'.tape = w.tape
  output : w'.output = w.output
  size : w.heap.size ≤ w'.heap.size
  block : ∀ k, k < w.heap.size → (k < base ∨ (n₀ ≤ k ∧ ¬ OfTy w k T)) → w'.heap[k]? = w.heap[k]?
theorem Upd.two {base n₀ : Nat} {w w' : World} (h : Upd (fun k => base ≤ k ∧ k < n₀) w w') (T : TypeId) : Upd2 T base n₀ w w' := ⟨h.os, h.tape, h.output, h.size, fun k hk hp => h.block k hk (by omega)⟩
theorem OfTy.of_eq {w w' : World} {k : Nat} {e : TypeId} (h : OfTy w' k e) (hb : w'.heap[k]? = w.heap[k]?) : OfTy w k e := by
  obtain ⟨c, z, h⟩ := h
  exact ⟨c, z, hb.symm.trans h⟩
theorem Upd2.trans {T : TypeId} {base n₀ : Nat} {a b c : World} (h : Upd2 T base n₀ a b) (k : Upd2 T base n₀ b c) : Upd2 T base n₀ a c :=
  ⟨k.os.trans h.os, k.tape.trans h.tape, k.output.trans h.output, Nat.le_trans h.size k.size, fun i hi ho =>
    have e := h.block i hi ho
    (k.block i (Nat.lt_of_lt_of_le hi h.size) (ho.imp id fun ⟨x, y⟩ => ⟨x, fun t => y (t.of_eq e)⟩)).trans e⟩
theorem Upd2.mono {T : TypeId} {base n₀ m : Nat} {a b : World} (h : Upd2 T base n₀ a b) (hm : n₀ ≤ m) : Upd2 T base m a b :=
  ⟨h.os, h.tape, h.output, h.size, fun i hi ho => h.block i hi (ho.imp id fun ⟨x, y⟩ => ⟨by omega, y⟩)⟩
theorem Upd2.below {T : TypeId} {base n₀ : Nat} {a b : World} (h : Upd2 T base n₀ a b) (hb : base ≤ a.heap.size) : Below base a b := ⟨h.os, h.tape, h.output, h.size, fun k hk => h.block k (by omega) (.inl hk)⟩
theorem Upd2.of_below {T : TypeId} {base n₀ B : Nat} {w w' : World} (h : Below B w w') (hB : w.heap.size ≤ B) : Upd2 T base n₀ w w' :=
  ⟨h.os, h.tape, h.output, h.size, fun i hi _ => h.block i (Nat.lt_of_lt_of_le hi hB)⟩
theorem Upd2.setCell {T : TypeId} {base n₀ : Nat} (w : World) {p : Addr} (hp : base ≤ p.block) (ht : p.block < n₀ ∨ OfTy w p.block T) (v : Value) : Upd2 T base n₀ w (w.setCell p v) :=
  ⟨rfl, rfl, rfl, by simp [World.setCell], fun k _ ho => Below.heap_setCell _ _ _ _ (fun e => by
    subst e
    rcases ho with h | ⟨h, hn⟩
    · omega
    · exact hn (ht.resolve_left (by omega)))⟩
/-- What an iterator may do between two rounds: nothing to what lay below n, nothing to cells but those of type B. -/
structure Itr (B : TypeId) (n : Nat) (w w' : World) : Prop where
  low : Below n w w'
  keep : ∀ (k : Nat) (c : Array Value) (e : TypeId) (z : Nat × Nat), w.heap[k]? = some (Obj.cells c e z) → e ≠ B → w'.heap[k]? = w.heap[k]?
theorem Itr.refl (B : TypeId) (n : Nat) (w : World) : Itr B n w w := ⟨Below.refl _ _, fun _ _ _ _ _ _ => rfl⟩
theorem Itr.of_below {B : TypeId} {n m : Nat} {w w' : World} (h : Below m w w') (hm : w.heap.size ≤ m) (hn : n ≤ m) : Itr B n w w' :=
  ⟨h.mono hn, fun k _ _ _ hk _ => h.block k (Nat.lt_of_lt_of_le (Array.getElem?_eq_some_iff.1 hk).1 hm)⟩
theorem Itr.mono {B : TypeId} {n m : Nat} {w w' : World} (h : Itr B n w w') (hm : m ≤ n) : Itr B m w w' := ⟨h.low.mono hm, h.keep⟩
theorem Itr.setCell {B : TypeId} {n : Nat} (w : World) {p : Addr} (hn : n ≤ p.block) (ht : OfTy w p.block B) (v : Value) : Itr B n w (w.setCell p v) :=
  ⟨(Below.refl n w).setCell hn v, fun k c e z hk he => Below.heap_setCell _ _ _ _ (fun h => by
    obtain ⟨c', z', h'⟩ := ht
    rw [← h, hk] at h'
    cases h'
    exact he rfl)⟩
theorem Itr.putObj {B : TypeId} {n : Nat} (w : World) {l : Nat} (hn : n ≤ l) (hl : l < w.heap.size) (hc : ∀ (c : Array Value) (e : TypeId) (z : Nat × Nat), w.heap[l]? ≠ some (Obj.cells c e z)) (o : Obj) : Itr B n w (w.putObj l o) :=
  ⟨below_putObj w hn hl o, fun k c e z hk _ => World.putObj_heap_other (fun h => by subst h; exact hc _ _ _ hk)⟩

/-- As SeqT, where the body may write blocks of type T besides, and the iterator writes none of what the body has laid but blocks of type B. -/
def SeqT2 {α : Type} (T B : TypeId) (F : Fence) (n : Nat) (P : Program) (g : Nat) (lb : Array Value) (encs : α → Array Value) (Ox : List α → α → Prop) (base : Nat) (S Sp : List α → Prop) (w : World) : Prop :=
  ∀ (l : Nat) (J Jx : List α → World → Prop) (W : World), Below w.heap.size w W → (∀ s A C, J s A → Itr B W.heap.size A C → J s C) → (∀ s A C, Jx s A → Itr B W.heap.size A C → Jx s C) →
    (∀ pre x W1, Ox pre x → J pre W1 → W.heap.size ≤ W1.heap.size → YieldAt F (n - 1) P l (encs x) W1 fun e W' =>
      (e = .returned (.bool true) ∧ J (pre ++ [x]) W' ∧ Upd2 T base W.heap.size W1 W') ∨ (e = .returned (.bool false) ∧ Jx (pre ++ [x]) W')) →
    J [] W →
    CallsIn F n P g (#[.func (.yield l) #[] #[]] ++ lb) W fun e W' => (∃ v, e = .returned v) ∧ ((∃ xs, S xs ∧ J xs W') ∨ (∃ pre, Sp pre ∧ Jx pre W'))
theorem YieldAt.mono2 {F : Fence} {m : Nat} {P : Program} {l : Nat} {args : Array Value} {W : World} {R R' : Ending → World → Prop} (h : YieldAt F m P l args W R) (hR : ∀ e W', R e W' → R' e W') : YieldAt F m P l args W R' := by
  obtain ⟨fn, tmps, assign, body, hy, hr⟩ := h
  exact ⟨fn, tmps, assign, body, hy, hr.mono hR⟩
theorem SeqT2.plain {α : Type} {T B : TypeId} {F : Fence} {n : Nat} {P : Program} {g : Nat} {lb : Array Value} {encs : α → Array Value} {Ox : List α → α → Prop} {Ox' : α → Prop} {base : Nat} {S Sp : List α → Prop} {N : Nat} {w : World} (h : SeqT2 T B F n P g lb encs Ox base S Sp w) (hx : ∀ pre x, Ox pre x → Ox' x ∧ pre.length < N) : SeqT F n P g lb encs Ox' base S Sp N w :=
  fun l J Jx W hW hJ hJx hY h0 => h l J Jx W hW (fun s A C hs hi => hJ s A C hs hi.low) (fun s A C hs hi => hJx s A C hs hi.low) (fun pre x W1 h1 h2 h4 => YieldAt.mono2 (hY pre x W1 (hx pre x h1).1 h2 (hx pre x h1).2 h4) fun _ _ hr => hr.imp (fun ⟨a, b, c⟩ => ⟨a, b, c.two T⟩) id) h0

def postT2 {α : Type} (T : TypeId) (base n₀ : Nat) (I : List α → World → Prop) (Ix : Code → List α → World → Prop) (xs : List α) (W : World) : Exit → Act → World → Prop
  | .normal, _, W' => Upd2 T base n₀ W W' ∧ I xs W'
  | .ret, _, W' => Upd2 T base n₀ W W' ∧ Ix .ret xs W'
  | .exit id, _, W' => Upd2 T base n₀ W W' ∧ Ix (.exit id) xs W'
  | .goto t, _, W' => Upd2 T base n₀ W W' ∧ Ix (.goto t) xs W'
  | .panic _, _, _ => False
  | .outgrown, _, _ => False

theorem wpIn_rangeFunc_T2 {T B : TypeId} {F : Fence} {n : Nat} {P : Program} {α : Type} {g : Operand} {ps : Array Tmp} {assign body : Code} {Q : Exit → Act → World → Prop} {a : Act} {w : World}
    (hro : F.round = none) (h1 : 1 ≤ n) {gf : Nat} {lb : Array Value} (hg : a.eval g = .func (.func gf) #[] lb) (hFg : F.fn gf) (eg : ∀ args w, (callFunc gf args).run P w = .ok (.enter gf args) w)
    {encs : α → Array Value} {Ox : List α → α → Prop} {base : Nat} {S Sp : List α → Prop} {w0 : World} (hbase : base ≤ w.heap.size) (hseq : SeqT2 T B F (n - 1) P gf lb encs Ox base S Sp w0) (hb0 : Below w0.heap.size w0 w) (hps : ∀ x, (encs x).size = ps.size)
    (I : List α → World → Prop) (Ix : Code → List α → World → Prop) (hI : ∀ s A C, I s A → Itr B w.heap.size A C → I s C) (hIx : ∀ c s A C, Ix c s A → Itr B w.heap.size A C → Ix c s C) (h0 : I [] w) (a₁ : α → Act)
    (hassign : ∀ (l : Nat) (x : α) (W : World) (K : Act → World → Prop), K (a₁ x) W →
      assign.wpIn (F.inRound l) (n - 1 - 1) P (Exit.then K (fun _ _ _ => False)) { tmps := (ps.zip (encs x)).foldl (fun t (p, v) => t.setIfInBounds p v) a.tmps, defers := [] } W)
    (hbody : ∀ (l : Nat) (pre : List α) (x : α) (W : World), Ox pre x → I pre W → w.heap.size ≤ W.heap.size → body.wpIn (F.inRound l) (n - 1 - 1) P (postT2 T base w.heap.size I Ix (pre ++ [x]) W) (a₁ x) W)
    (hdone : ∀ (D : Nat) (xs : List α) (W : World), w.heap.size ≤ D → S xs → I xs W → W.heap[D]? = some (.deferred (some [])) → Q .normal { a with defers := { target := .collected D, args := #[] } :: a.defers } W)
    (hstop : ∀ (D : Nat) (c : Code) (pre : List α) (W : World), w.heap.size ≤ D → Sp pre → Ix c pre W → W.heap[D]? = some (.deferred (some [])) → c.wpIn F n P Q { a with defers := { target := .collected D, args := #[] } :: a.defers } W) :
    (Code.rangeFunc g ps assign body).wpIn F n P Q a w := by
  refine wpIn_rangeFunc ?_
  intro fn hfn
  rw [hro]
  obtain ⟨rec, hrec⟩ : ∃ rec : LoopState → Option Code → Loop, rec = fun st pe => { state := st, pending := pe, fn, tmps := a.tmps, params := ps, assign, body, defers := w.heap.size } := ⟨_, rfl⟩
  obtain ⟨W1, hW1⟩ : ∃ W1, (w.alloc (.deferred (some []))).alloc (.loop (rec .ready none)) = W1 := ⟨_, rfl⟩
  have hs1 : W1.heap.size = w.heap.size + 2 := by rw [← hW1]; simp
  have hL1 : W1.heap[w.heap.size + 1]? = some (.loop (rec .ready none)) := by
    rw [← hW1]; have := World.alloc_heap_new (w.alloc (.deferred (some []))) (.loop (rec .ready none)); rwa [World.size_alloc] at this
  have hK1 : W1.heap[w.heap.size]? = some (.deferred (some [])) := by
    rw [← hW1]; exact (Below.heap_alloc _ _ _ (by simp)).trans (World.alloc_heap_new w _)
  have hB1 : Below w.heap.size w W1 := by rw [← hW1]; exact ((Below.refl _ w).alloc (Nat.le_refl _) _).alloc (by simp) _
  have hI1 : I [] W1 := hI _ _ _ h0 (Itr.of_below hB1 (Nat.le_refl _) (Nat.le_refl _))
  have hb1 : Below w0.heap.size w0 W1 := hb0.trans (hB1.mono hb0.size)
  refine ⟨w.heap.size + 1, [{ target := .collected w.heap.size, args := #[] }], W1, { target := .fn (.func gf) lb, args := #[.func (.yield (w.heap.size + 1)) #[] #[]] }, W1, gf,
    #[.func (.yield (w.heap.size + 1)) #[] #[]] ++ lb, W1, ?_, ?_, ?_, ?_, fun _ => h1, ?_⟩
  · rw [← hW1, hrec]; exact run_enterLoop_outer _ _ _ _ _
  · simp only [resolve, hg]
    simp [go_sem]
  · intro f' hf'; simp [Target.leads] at hf'; subst hf'; exact hFg
  · simp [invoke, go_sem, eg]
  · refine (hseq (w.heap.size + 1)
      (fun pre W => I pre W ∧ W.heap[w.heap.size + 1]? = some (.loop (rec .ready none)) ∧ W.heap[w.heap.size]? = some (.deferred (some [])))
      (fun pre W => ∃ c, Ix c pre W ∧ W.heap[w.heap.size + 1]? = some (.loop (rec .done (some c))) ∧ W.heap[w.heap.size]? = some (.deferred (some [])))
      W1 hb1
      (fun s A C hs hB => ⟨hI s A C hs.1 (hB.mono (by omega)), (hB.low.block _ (by omega)).trans hs.2.1, (hB.low.block _ (by omega)).trans hs.2.2⟩)
      (fun s A C hs hB => by
        obtain ⟨c, hc, hl, hk⟩ := hs
        exact ⟨c, hIx c s A C hc (hB.mono (by omega)), (hB.low.block _ (by omega)).trans hl, (hB.low.block _ (by omega)).trans hk⟩)
      ?_ ⟨hI1, hL1, hK1⟩).mono ?_
    · -- one round
      rintro pre x W hox ⟨hi, hl, hk⟩ _
      have hlt : w.heap.size + 1 < W.heap.size := (Array.getElem?_eq_some_iff.1 hl).1
      have hy := run_yield (P := P) (args := encs x) hl (by rw [hrec]; exact hps x)
      rw [hrec] at hy
      refine ⟨fn, _, assign, body, hy, roundIn_of_wpIn hfn (hassign _ x W _ ⟨_, run_beginRound hl (by rw [hrec]), ?_⟩)⟩
      have hl2 : (W.putObj (w.heap.size + 1) (.loop { rec .ready none with state := .busy })).heap[w.heap.size + 1]? = some (.loop { rec .ready none with state := .busy }) := World.putObj_heap_same hlt
      have hk2 : (W.putObj (w.heap.size + 1) (.loop { rec .ready none with state := .busy })).heap[w.heap.size]? = some (.deferred (some [])) := (World.putObj_heap_other (by omega)).trans hk
      have hw2 : Upd2 T base W1.heap.size W (W.putObj (w.heap.size + 1) (.loop { rec .ready none with state := .busy })) := Upd.two (Upd.putObj _ ⟨by omega, by omega⟩ _) T
      refine wpIn_mono (hbody _ pre x _ hox (hI _ _ _ hi (Itr.putObj _ (by omega) hlt (fun c e z h => by rw [hl] at h; cases h) _)) (by simp; omega)) ?_
      have fin : ∀ (jump : Option Code) (W3 : World), Upd2 T base w.heap.size (W.putObj (w.heap.size + 1) (.loop { rec .ready none with state := .busy })) W3 →
          (Instr.endRound (w.heap.size + 1) jump).run P W3 = .ok (.bool jump.isNone) (W3.putObj (w.heap.size + 1) (.loop (rec (if jump.isNone then .ready else .done) jump))) ∧
          Itr B w.heap.size W3 (W3.putObj (w.heap.size + 1) (.loop (rec (if jump.isNone then .ready else .done) jump))) ∧
          (W3.putObj (w.heap.size + 1) (.loop (rec (if jump.isNone then .ready else .done) jump))).heap[w.heap.size + 1]? = some (.loop (rec (if jump.isNone then .ready else .done) jump)) ∧
          (W3.putObj (w.heap.size + 1) (.loop (rec (if jump.isNone then .ready else .done) jump))).heap[w.heap.size]? = some (.deferred (some [])) := fun jump W3 hk3 => by
        have hl3 := (hk3.block _ (by simpa using hlt) (.inr ⟨by omega, fun ⟨c, z, h⟩ => by rw [hl2] at h; cases h⟩)).trans hl2
        have hk4 := (hk3.block _ (by simp; omega) (.inr ⟨by omega, fun ⟨c, z, h⟩ => by rw [hk2] at h; cases h⟩)).trans hk2
        have hlt3 := (Array.getElem?_eq_some_iff.1 hl3).1
        have := run_endRound (P := P) jump hl3
        have hit : Itr B w.heap.size W3 (W3.putObj (w.heap.size + 1) (.loop (rec (if jump.isNone then .ready else .done) jump))) := Itr.putObj _ (by omega) hlt3 (fun c e z h => by rw [hl3] at h; cases h) _
        rw [hrec] at this hit ⊢
        exact ⟨this, hit, World.putObj_heap_same hlt3, (World.putObj_heap_other (by omega)).trans hk4⟩
      rintro e a3 W3 hp
      cases e with
      | normal =>
        obtain ⟨hk3, hi3⟩ := hp
        obtain ⟨hr, hb4, hl4, hk4⟩ := fin none W3 hk3
        exact ⟨_, _, hr, .inl ⟨rfl, ⟨hI _ _ _ hi3 hb4, hl4, hk4⟩, (hw2.trans (hk3.mono (by omega))).trans (Upd.two (Upd.putObj _ ⟨by omega, by omega⟩ _) T)⟩⟩
      | ret =>
        obtain ⟨hk3, hi3⟩ := hp
        obtain ⟨hr, hb4, hl4, hk4⟩ := fin (some .ret) W3 hk3
        exact ⟨_, _, hr, .inr ⟨rfl, .ret, hIx _ _ _ _ hi3 hb4, hl4, hk4⟩⟩
      | exit id =>
        obtain ⟨hk3, hi3⟩ := hp
        obtain ⟨hr, hb4, hl4, hk4⟩ := fin (some (.exit id)) W3 hk3
        exact ⟨_, _, hr, .inr ⟨rfl, .exit id, hIx _ _ _ _ hi3 hb4, hl4, hk4⟩⟩
      | goto t =>
        obtain ⟨hk3, hi3⟩ := hp
        obtain ⟨hr, hb4, hl4, hk4⟩ := fin (some (.goto t)) W3 hk3
        exact ⟨_, _, hr, .inr ⟨rfl, .goto t, hIx _ _ _ _ hi3 hb4, hl4, hk4⟩⟩
      | panic ch => exact hp.elim
      | outgrown => exact hp.elim
    · rintro e W2 ⟨⟨v, rfl⟩, (⟨xs, hS, hi, hl, hk⟩ | ⟨pre, hSp, c, hi, hl, hk⟩)⟩
      · exact ⟨none, _, by have := run_endLoop (P := P) hl (by rw [hrec]; simp); rw [hrec] at this; exact this, hdone _ xs _ (Nat.le_refl _) hS (hI _ _ _ hi (Itr.putObj _ (by omega) (Array.getElem?_eq_some_iff.1 hl).1 (fun c e z h => by rw [hl] at h; cases h) _)) ((World.putObj_heap_other (by omega)).trans hk)⟩
      · exact ⟨some c, _, by have := run_endLoop (P := P) hl (by rw [hrec]; simp); rw [hrec] at this; exact this, hstop _ c pre _ (Nat.le_refl _) hSp (hIx _ _ _ _ hi (Itr.putObj _ (by omega) (Array.getElem?_eq_some_iff.1 hl).1 (fun c e z h => by rw [hl] at h; cases h) _)) ((World.putObj_heap_other (by omega)).trans hk)⟩

end Go.Proofs.YtolpgafkojlkoabDoor.Ca
