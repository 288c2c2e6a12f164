/-
  FnProgram: a draw that answers a program: its reader, its result's block, its row.
-/
import Derived.Test.YtpefignfaooonaaGreatDoorZFpDeep
import Derived.Test.YtpefignfaooonaaGreatDoorZVpSpec
namespace Go.Proofs.YtpefignfaooonaaGreatDoor.Vp
open Go.RowKit

/-- The reader R at q, the result's block rb empty yet; else nothing that w had has changed. -/
def ST (w : World) (R rb : Nat) (W : World) (q : Nat) : Prop := Rd W R q ∧ Only R w W ∧ PB W rb (.slice none 0 0) ∧ R < w.heap.size ∧ w.heap.size ≤ rb
/-- And a row of instructions. -/
def SC (w : World) (R rb : Nat) (W : World) (q g c : Nat) (L : List I3) (n : Nat) : Prop := ST w R rb W q ∧ IR W (rb + 1) g c L ∧ L.length ≤ n ∧ ∀ i ∈ L, i.2.1.length ≤ 5000
theorem ST.rd {w W : World} {R rb q : Nat} (h : ST w R rb W q) : Rd W R q := h.1
theorem ST.lt {w W : World} {R rb q : Nat} (h : ST w R rb W q) : rb < W.heap.size := h.2.2.1.lt
theorem ST.low {w W W' : World} {R rb q : Nat} (h : ST w R rb W q) (hb : Below (rb + 1) W W') : ST w R rb W' q := by
  obtain ⟨h1, h2, h3, h4, h5⟩ := h
  exact ⟨h1.low hb (by omega), h2.then (hb.mono (by omega)), h3.below hb (by omega), h4, h5⟩
theorem ST.below {w W W' : World} {R rb q : Nat} (h : ST w R rb W q) (hb : Below W.heap.size W W') : ST w R rb W' q := h.low (hb.mono h.lt)
theorem PB.only {w w' : World} {b R : Nat} {v : Value} (h : PB w b v) (ho : Only R w w') (hR : b ≠ R) : PB w' b v := (ho.block b h.lt hR).trans h
theorem ST.only {w W W' : World} {R rb q q' : Nat} (h : ST w R rb W q) (ho : Only R W W') (hR : Rd W' R q') : ST w R rb W' q' := by
  obtain ⟨h1, h2, h3, h4, h5⟩ := h
  exact ⟨hR, h2.trans ho, h3.only ho (by omega), h4, h5⟩
theorem ST.new {w : World} {R q : Nat} (h : Rd w R q) : ST w R w.heap.size (w.alloc (.cells #[.slice none 0 0] 24)) q := by
  have A0 := (Below.refl w.heap.size w).alloc (Nat.le_refl _) (.cells #[.slice none 0 0] 24)
  exact ⟨h.below A0 (Nat.le_refl _), Only.of_below A0, heap_alloc_new w _, h.lt, Nat.le_refl _⟩
theorem SC.st {w W : World} {R rb q g c n : Nat} {L : List I3} (h : SC w R rb W q g c L n) : ST w R rb W q := h.1
theorem SC.ir {w W : World} {R rb q g c n : Nat} {L : List I3} (h : SC w R rb W q g c L n) : IR W (rb + 1) g c L := h.2.1
theorem SC.len {w W : World} {R rb q g c n : Nat} {L : List I3} (h : SC w R rb W q g c L n) : L.length ≤ n := h.2.2.1
theorem SC.below {w W W' : World} {R rb q g c n : Nat} {L : List I3} (h : SC w R rb W q g c L n) (hb : Below W.heap.size W W') : SC w R rb W' q g c L n :=
  ⟨h.1.below hb, h.2.1.below hb (Nat.le_refl _), h.2.2⟩
theorem SC.only {w W W' : World} {R rb q q' g c n : Nat} {L : List I3} (h : SC w R rb W q g c L n) (ho : Only R W W') (hR : Rd W' R q') : SC w R rb W' q' g c L n :=
  ⟨h.1.only ho hR, h.2.1.only ho (by have := h.1.2.2.2; omega), h.2.2⟩
theorem SC.di {w W W' : World} {R rb q q' g c n : Nat} {L : List I3} (h : ST w R rb W q) (hI : IR W' W.heap.size g c L) (hn : L.length ≤ n) (hT : ∀ i ∈ L, i.2.1.length ≤ 5000) (ho : Only R W W') (hR : Rd W' R q') : SC w R rb W' q' g c L n :=
  ⟨h.only ho hR, own_mono hI h.lt, hn, hT⟩
theorem SC.app {w W W' : World} {R rb q g c g' c' n n' : Nat} {L M : List I3} (cs : Array Value) (h : SC w R rb W q g c L n) (hI : IR W' (rb + 1) g' c' (L ++ M)) (hG : (W.alloc (.cells cs 41)).grownBy W' (some g)) (hn : n + M.length ≤ n') (hT : ∀ i ∈ M, i.2.1.length ≤ 5000) : SC w R rb W' q g' c' (L ++ M) n' := by
  have hl := h.1.lt
  have BG := Below.grown ((Below.refl (rb + 1) W).alloc hl (.cells cs 41)) hG (by simp; omega) (fun k e => by have := h.2.1.lt; simp at e; omega)
  refine ⟨h.1.low BG, hI, by rw [List.length_append]; have := h.len; omega, fun i hi => ?_⟩
  rcases List.mem_append.1 hi with hi | hi
  · exact h.2.2.2 i hi
  · exact hT i hi
/-- A row that is written down. -/
theorem IR.new (W : World) (base : Nat) (hb : base ≤ W.heap.size) (L : List I3) (cs : Array Value) (hc : cs.toList = i3L L) (n : Nat) (hn : n = L.length) (hm : n ≤ 100000) : IR (W.alloc (.cells cs 41)) base W.heap.size n L := by
  subst hn
  have hz : cs.size = L.length * 3 := by rw [← i3L_len, ← hc, Array.length_toList]
  refine ⟨i3L_len L, .inr ⟨W.heap.size, L.length, cs, rfl, hb, heap_alloc_new W _, Nat.le_refl _, by unfold maxLen; omega, hz, ?_⟩⟩
  rw [hc, List.take_of_length_le (by rw [i3L_len]; omega)]
theorem SC.lit {w W : World} {R rb q : Nat} (h : ST w R rb W q) (L : List I3) (cs : Array Value) (hc : cs.toList = i3L L) (n : Nat) (hn : n = L.length) (hm : n ≤ 100000) (hT : ∀ i ∈ L, i.2.1.length ≤ 5000) : SC w R rb (W.alloc (.cells cs 41)) q W.heap.size n L n :=
  ⟨h.below ((Below.refl _ _).alloc (Nat.le_refl _) _), IR.new W (rb + 1) h.lt L cs hc n hn hm, by omega, hT⟩
theorem SC.fin {w W : World} {R rb q g c n : Nat} {L : List I3} (h : SC w R rb W q g c L n) (v : Value) : PB (W.setCell ⟨rb, 0, none⟩ v) rb v ∧ IR (W.setCell ⟨rb, 0, none⟩ v) w.heap.size g c L ∧ L.length ≤ n ∧ (∀ i ∈ L, i.2.1.length ≤ 5000) ∧ Rd (W.setCell ⟨rb, 0, none⟩ v) R q ∧ Only R w (W.setCell ⟨rb, 0, none⟩ v) := by
  obtain ⟨⟨h1, h2, h3, h4, h5⟩, h6, h7, h8⟩ := h
  have B := (Below.refl w.heap.size W).setCell (p := ⟨rb, 0, none⟩) h5 v
  exact ⟨h3.set v, own_mono (own_setP h6 (by omega) v) (by omega), h7, h8, h1.low B h4, h2.then B⟩
/-- What a draw of a program answers. -/
def DP (w : World) (R q lo n : Nat) (e : Ending) (w' : World) : Prop := ∃ (L : List I3) (g c : Nat), e = .returned (.agg #[.slice (some ⟨g, 0, none⟩) L.length c]) ∧ IR w' w.heap.size g c L ∧ lo ≤ L.length ∧ L.length ≤ n ∧ (∀ i ∈ L, i.2.1.length ≤ 5000) ∧ ∃ q' : Nat, q' ≤ q ∧ Rd w' R q' ∧ Only R w w'
theorem res_prog1 {fn : Func} {p : Tmp} (h : fn.results = #[.cell p 24]) (tmps : Array Value) (w : World) (g : Nat) (v : Value) (hp : tmps.getD p undef = .pointer (some ⟨g, 0, none⟩)) (hC : PB w g v) :
    (results fn tmps).run Tryz.prog w = .ok (.agg #[v]) w :=
  results_cell_row h tmps w g 24 #[v] (0, 0) _ hp hC Tryz.underlying24 rfl sizeProgram
/-- Instructions by their place. -/
def fI (L : List I3) (i : Nat) : Ins := ⟨(L.getD i (0, [], 0)).1, ⟨(L.getD i (0, [], 0)).2.1.toArray⟩, (L.getD i (0, [], 0)).2.2⟩
theorem i3L_at : ∀ (L : List I3) (i : Nat), i < L.length → (i3L L)[i * 3]? = some (.int .i64 (fI L i).op) ∧ (i3L L)[i * 3 + 1]? = some (.string (fI L i).s) ∧ (i3L L)[i * 3 + 2]? = some (.int .i64 (fI L i).n)
  | [], i, h => by simp at h
  | x :: L, 0, _ => ⟨rfl, rfl, rfl⟩
  | x :: L, i + 1, h => by
    have ih := i3L_at L i (by simpa using h)
    have hl : (i3V x).length = 3 := rfl
    have e : ∀ k, (i3L (x :: L))[(i + 1) * 3 + k]? = (i3L L)[i * 3 + k]? := fun k => by
      show (i3V x ++ i3L L)[(i + 1) * 3 + k]? = _
      rw [List.getElem?_append_right (by rw [hl]; omega), hl, show (i + 1) * 3 + k - 3 = i * 3 + k by omega]
    have e0 := e 0
    rw [Nat.add_zero, Nat.add_zero] at e0
    rw [e0, e 1, e 2]
    exact ih
theorem IR.at {w : World} {base g c : Nat} {L : List I3} (h : IR w base g c L) : ∀ i, i < L.length → AtIns w g 0 i (fI L i) := by
  intro i hi
  obtain ⟨h0, h1, h2⟩ := i3L_at L i hi
  have c0 := h.news _ _ h0
  have c1 := h.news _ _ h1
  have c2 := h.news _ _ h2
  rw [addr_addF] at c0 c1 c2
  exact ⟨c0, c1, c2⟩
theorem fI_size {L : List I3} (hT : ∀ i ∈ L, i.2.1.length ≤ 5000) : ∀ i, i < L.length → (fI L i).s.size ≤ maxLen := by
  intro i hi
  have h := hT L[i] (List.getElem_mem hi)
  have e : L.getD i (0, [], 0) = L[i] := by simp [hi]
  show (L.getD i (0, [], 0)).2.1.toArray.size ≤ maxLen
  rw [e, List.size_toArray]
  unfold maxLen
  omega

end Go.Proofs.YtpefignfaooonaaGreatDoor.Vp
