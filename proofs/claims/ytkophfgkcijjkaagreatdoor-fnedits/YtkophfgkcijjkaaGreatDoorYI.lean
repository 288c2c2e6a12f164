import Derived.Test.YtkophfgkcijjkaaGreatDoorYH
import Derived.Test.YtkophfgkcijjkaaGreatDoorZU
namespace Go.Proofs.YtkophfgkcijjkaaGreatDoor.Vp
open Go.RowKit
set_option maxRecDepth 100000 in
set_option maxHeartbeats 4000000 in
theorem l1AnyProgram_any (R p : Nat) (w : World) (hR : Rd w R p) (hp : p ≤ 10000) :
    Calls Tryz.prog 56 #[.pointer (some ⟨R, 0, none⟩)] w fun e w' => DP w R (p + 1700) 0 201 e w' := by
  have HR := hide hR
  have hlow := hR.lt
  clear hR
  go_enter Tryz.func56, Tryz.ntmps56
  go_wp2_with fail
  have A0 := hide ((Below.refl w.heap.size w).alloc (Nat.le_refl _) (.cells #[.slice none 0 0] 31))
  have P0 : Hid (PB (w.alloc (.cells #[.slice none 0 0] 31)) w.heap.size (.slice none 0 0)) := heap_alloc_new w _
  have hz0 : (w.alloc (.cells #[.slice none 0 0] 31)).heap.size = w.heap.size + 1 := by simp
  generalize w.alloc (.cells #[.slice none 0 0] 31) = W0 at A0 P0 hz0 ⊢
  have O0 : Hid (Only R w W0) := Only.of_below A0.out
  refine (l1DrawProgram_any R p _ (HR.out.below A0.out (Nat.le_refl _)) (by omega)).mono ?_
  rintro e W2 ⟨L, g, c, rfl, hI, hlo, hL, hT, q, hq, hR, hO⟩
  have hs2 := hO.size
  have AL := (Below.refl W2.heap.size W2).alloc (Nat.le_refl _) (.cells #[.slice (some ⟨g, 0, none⟩) L.length c] 31)
  have R3 := hide (hR.below AL (Nat.le_refl _))
  have I3 := hide (hI.below AL (Nat.le_refl _))
  have P3 := hide (PB.below ((hO.block w.heap.size (by omega) (by omega)).trans P0.out : PB W2 w.heap.size (.slice none 0 0)) AL (by omega))
  have O3 := hide ((O0.out.trans hO).then (AL.mono (by omega)))
  have Q3 : Hid (PB (W2.alloc (.cells #[.slice (some ⟨g, 0, none⟩) L.length c] 31)) W2.heap.size (.slice (some ⟨g, 0, none⟩) L.length c)) := heap_alloc_new W2 _
  have HT := hide hT
  clear hI hR hO AL A0 P0 O0 hT
  go_wp2_with fail
  generalize W2.alloc (.cells #[.slice (some ⟨g, 0, none⟩) L.length c] 31) = W3 at R3 I3 P3 O3 Q3 ⊢
  refine (pick_any R _ 6 _ R3.out (by omega) (by omega) (by omega)).mono ?_
  rintro e W4 ⟨z, rfl, zz0, zz1, hR, hO⟩
  have R4 := hide hR
  have I4 := hide (I3.out.only hO (by omega))
  have P4 : Hid (PB W4 w.heap.size (.slice none 0 0)) := (hO.block w.heap.size P3.out.lt (by omega)).trans P3.out
  have Q4 : Hid (PB W4 W2.heap.size (.slice (some ⟨g, 0, none⟩) L.length c)) := (hO.block W2.heap.size Q3.out.lt (by omega)).trans Q3.out
  have O4 := hide (O3.out.trans hO)
  clear hR hO R3 I3 P3 Q3 O3
  have q0 := Q4.out.c0
  have ql := Q4.out.lt
  by_cases hz : z = 0
  · subst hz
    go_wp2_with fail
    refine (l1Spoil_any R (q + 1) g c L _ W0.heap.size R4.out (by omega) I4.out (by omega) (List.length_pos_iff.1 (by omega)) HT.out).mono ?_
    rintro e W5 ⟨M, g5, c5, rfl, hI, hlo5, hL5, hT5, q5, hq5, hR, hO⟩
    have P5 : PB W5 w.heap.size (.slice none 0 0) := (hO.block w.heap.size P4.out.lt (by omega)).trans P4.out
    have d0 := P5.c0
    have d1 := P5.fz 0
    have zl := P5.lt
    have I5 := hide (own_mono (own_set (own_mono hI (show w.heap.size + 1 ≤ W4.heap.size by omega)) (show w.heap.size < w.heap.size + 1 by omega) (j := 0) (.slice (some ⟨g5, 0, none⟩) M.length c5)) (show w.heap.size ≤ w.heap.size + 1 by omega))
    have F5 := hide (P5.set (.slice (some ⟨g5, 0, none⟩) M.length c5))
    have BE := hide ((Below.refl w.heap.size W5).setCell (p := ⟨w.heap.size, 0, none⟩) (Nat.le_refl _) (.slice (some ⟨g5, 0, none⟩) M.length c5))
    have R5 := hide (hR.low BE.out hlow)
    have O5 := hide ((O4.out.trans hO).then BE.out)
    have HT5 := hide hT5
    clear hI hR hO P5 hT5
    go_wp2
    try simp only [Exit.inBlock, Exit.then]
    refine bodyPost_ret (res_prog1 rfl _ _ w.heap.size _ rfl F5.out) rfl ?_
    exact ⟨M, g5, c5, rfl, I5.out, Nat.zero_le _, hL5, HT5.out, q5, by omega, R5.out, O5.out⟩
  · have d0 := P4.out.c0
    have d1 := P4.out.fz 0
    have zl := P4.out.lt
    have I5 := hide (own_mono (own_set (own_mono I4.out (show w.heap.size + 1 ≤ W0.heap.size by omega)) (show w.heap.size < w.heap.size + 1 by omega) (j := 0) (.slice (some ⟨g, 0, none⟩) L.length c)) (show w.heap.size ≤ w.heap.size + 1 by omega))
    have F5 := hide (P4.out.set (.slice (some ⟨g, 0, none⟩) L.length c))
    have BE := hide ((Below.refl w.heap.size W4).setCell (p := ⟨w.heap.size, 0, none⟩) (Nat.le_refl _) (.slice (some ⟨g, 0, none⟩) L.length c))
    have R5 := hide (R4.out.low BE.out hlow)
    have O5 := hide (O4.out.then BE.out)
    go_wp2
    try simp only [Exit.inBlock, Exit.then]
    refine bodyPost_ret (res_prog1 rfl _ _ w.heap.size _ rfl F5.out) rfl ?_
    exact ⟨L, g, c, rfl, I5.out, Nat.zero_le _, by omega, HT.out, _, by omega, R5.out, O5.out⟩
end Go.Proofs.YtkophfgkcijjkaaGreatDoor.Vp
namespace Go.Proofs.YtkophfgkcijjkaaGreatDoor.Vp
open Go.RowKit
structure PrG (base : Nat) (W : World) (RT : List TR) (b g c n : Nat) (f : Nat → Ins) : Prop where
  blk : PB W b (.slice (some ⟨g, 0, none⟩) n c)
  own : W.ownsRow base 176 3 (.slice (some ⟨g, 0, none⟩) n c) n (insL f n)
  new : ∀ r ∈ RT, r.2.1 ≠ g
  lo : base ≤ b
  num : 1 ≤ n ∧ n ≤ 200
  sz : ∀ j, j < n → (f j).s.size ≤ 5000
section
variable {W W' : World} {base R b g c n : Nat} {f : Nat → Ins} {RT : List TR}
theorem PrG.below (h : PrG base W RT b g c n f) {B : Nat} (hb : Below B W W') (hB : W.heap.size ≤ B) : PrG base W' RT b g c n f :=
  ⟨h.blk.below hb (Nat.lt_of_lt_of_le h.blk.lt hB), own_below h.own hb hB, h.new, h.lo, h.num, h.sz⟩
theorem PrG.only (h : PrG base W RT b g c n f) (ho : Only R W W') (hR : R < base) : PrG base W' RT b g c n f :=
  ⟨(ho.block b h.blk.lt (by have := h.lo; omega)).trans h.blk, own_only h.own ho hR, h.new, h.lo, h.num, h.sz⟩
theorem TRow.ltg {w : World} {base : Nat} {v : Value} {R : List TR} (h : TRow w base v R) : ∀ r ∈ R, r.2.1 < w.heap.size := fun r hr => (h.act r hr).1.1
theorem TRow.atk {w : World} {base c k : Nat} {a : Option Addr} {R : List TR} (h : TRow w base (.slice a R.length c) R) (hk : k < R.length) : ∃ (gt : Nat) (r : TR), a = some ⟨gt, 0, none⟩ ∧ gt < w.heap.size ∧ r ∈ R ∧ w.cell? ⟨gt, k * 2, none⟩ = some (.string r.1.name) ∧ w.cell? ⟨gt, k * 2 + 1, none⟩ = some (.slice (some ⟨r.2.1, 0, none⟩) r.1.actN r.2.2) ∧ SlIns w (some ⟨r.2.1, 0, none⟩) r.1.actN r.1.act := by
  obtain ⟨g, c', e⟩ := own_some h.own (by omega)
  simp at e
  obtain ⟨rfl, rfl⟩ := e
  obtain ⟨r, hr, hm⟩ := trow_at hk
  refine ⟨g, r, rfl, (own_lt h.own).2, hm, ?_, ?_, (h.act r hm).1.sl⟩
  · exact (own_cell h.own (j := k * 2) (u := .string r.1.name) (by have := flat_at tgtV 2 (fun _ => rfl) R k 0 (by omega) _ hr; simpa [tgtV] using this)).1
  · exact (own_cell h.own (j := k * 2 + 1) (u := .slice (some ⟨r.2.1, 0, none⟩) r.1.actN r.2.2) (by have := flat_at tgtV 2 (fun _ => rfl) R k 1 (by omega) _ hr; simpa [tgtV] using this)).1
theorem fI_size5 {L : List I3} (hT : ∀ i ∈ L, i.2.1.length ≤ 5000) : ∀ j, j < L.length → (insA L j).s.size ≤ 5000 := by
  intro j hj
  have e : insA L j = ⟨L[j].1, ⟨L[j].2.1.toArray⟩, L[j].2.2⟩ := by simp [insA, hj]
  rw [e]
  show L[j].2.1.toArray.size ≤ 5000
  simpa using hT _ (List.getElem_mem hj)
theorem prg_alloc {L : List I3} {lo : Nat} (hI : IR W lo g c L) (hlo : base ≤ lo) (hnew : ∀ r ∈ RT, r.2.1 < lo) (hl : base ≤ W.heap.size) (h1 : 1 ≤ L.length ∧ L.length ≤ 200) (hT : ∀ i ∈ L, i.2.1.length ≤ 5000) : PrG base (W.alloc (.cells #[.slice (some ⟨g, 0, none⟩) L.length c] 31)) RT W.heap.size g c L.length (insA L) := by
  have hg := hI.lt
  refine ⟨heap_alloc_new W _, ?_, fun r hr e => by have := hnew r hr; omega, hl, h1, fI_size5 hT⟩
  have h2 : W.ownsRow base 176 3 (.slice (some ⟨g, 0, none⟩) L.length c) L.length (insL (insA L) L.length) := by rw [← i3L_fI]; exact own_mono hI hlo
  exact own_below h2 ((Below.refl W.heap.size W).alloc (Nat.le_refl _) _) (Nat.le_refl _)
theorem PrG.put {g2 c2 n2 : Nat} {f2 : Nat → Ins} {lo : Nat} (h : PrG base W RT b g c n f) (hI : W.ownsRow lo 176 3 (.slice (some ⟨g2, 0, none⟩) n2 c2) n2 (insL f2 n2)) (hlo : base ≤ lo) (hnew : ∀ r ∈ RT, r.2.1 < lo) (h1 : 1 ≤ n2 ∧ n2 ≤ 200) (hT : ∀ j, j < n2 → (f2 j).s.size ≤ 5000) : PrG base (W.setCell ⟨b, 0, none⟩ (.slice (some ⟨g2, 0, none⟩) n2 c2)) RT b g2 c2 n2 f2 := by
  have hg := (World.ownsRow.lt hI g2 rfl).1
  refine ⟨h.blk.set _, ?_, fun r hr e => by have := hnew r hr; omega, h.lo, h1, hT⟩
  have hne : b ≠ g2 := by
    intro e
    subst e
    obtain ⟨cur, hg⟩ := own_type hI
    have := h.blk.symm.trans hg
    cases this
  refine own_mono ?_ hlo
  rcases hI with ⟨e1, h2 | ⟨g', cap, cur, e2, hb, hg', h3⟩⟩
  · exact ⟨e1, .inl h2⟩
  · refine ⟨e1, .inr ⟨g', cap, cur, e2, hb, ?_, h3⟩⟩
    cases e2
    exact (Below.heap_setCell W ⟨b, 0, none⟩ _ g2 (fun e => hne e.symm)).trans hg'
theorem SpB.putP {rb : Nat} {v0 v1 : Value} {LS : List Source} {v : Value} (h : SpB rb W v0 v1 LS RT) (hp : PB W b v) (hb : rb + 2 ≤ b) (u : Value) : SpB rb (W.setCell ⟨b, 0, none⟩ u) v0 v1 LS RT := by
  have far : ∀ k, k ≠ b → (W.setCell ⟨b, 0, none⟩ u).heap[k]? = W.heap[k]? := fun k hk => Below.heap_setCell W ⟨b, 0, none⟩ u k (by simpa using hk)
  have hsz : W.heap.size ≤ (W.setCell ⟨b, 0, none⟩ u).heap.size := by simp [World.setCell]
  have hne : ∀ k e, TypeAt W k e → e ≠ 31 → k ≠ b := by
    intro k e ⟨cur, hk⟩ he e2
    subst e2
    have := hp.symm.trans hk
    cases this
    exact he rfl
  have own2 : ∀ {e : TypeId} {size n : Nat} {x : Value} {xs : List Value}, W.ownsRow (rb + 2) e size x n xs → e ≠ 31 → (W.setCell ⟨b, 0, none⟩ u).ownsRow (rb + 2) e size x n xs := by
    intro e size n x xs ho he
    rcases ho with ⟨e1, h2 | ⟨g', cap, cur, e2, hb', hg', h3⟩⟩
    · exact ⟨e1, .inl h2⟩
    · exact ⟨e1, .inr ⟨g', cap, cur, e2, hb', (far g' (hne g' e ⟨cur, hg'⟩ he)).trans hg', h3⟩⟩
  refine ⟨(far rb (by omega)).trans h.res, (far (rb + 1) (by omega)).trans h.box, own2 h.src (by decide), own2 h.tgt.own (by decide), fun r hr => ?_, h.tgt.up⟩
  obtain ⟨h1, ⟨F, h2⟩, h3, h4⟩ := h.tgt.act r hr
  have e := far r.2.1 (hne r.2.1 176 h3 (by decide))
  exact ⟨h1.block hsz e, ⟨F, h2.block hsz e⟩, h3.block e, h4⟩
def sixI (nm tx : ByteArray) (z : Int) (i : Nat) : Ins := ([⟨1, nm, 0⟩, ⟨12, ⟨#[]⟩, 0⟩, ⟨1, tx, 0⟩, ⟨2, ⟨#[]⟩, 0⟩, ⟨3, ⟨#[]⟩, z⟩, ⟨15, ⟨#[]⟩, 0⟩] : List Ins).getD i ⟨0, ⟨#[]⟩, 0⟩
theorem sixI_size {nm tx : ByteArray} {z : Int} (h1 : nm.size ≤ 5000) (h2 : tx.size ≤ 5000) : ∀ j, j < 6 → (sixI nm tx z j).s.size ≤ 5000 := by
  have h0 : (⟨#[]⟩ : ByteArray).size ≤ 5000 := Nat.zero_le _
  intro j hj
  match j, hj with
  | 0, _ => exact h1
  | 1, _ => exact h0
  | 2, _ => exact h2
  | 3, _ => exact h0
  | 4, _ => exact h0
  | 5, _ => exact h0
  | k + 6, h => exact absurd h (by omega)
abbrev sixC (nm tx : ByteArray) (z : Int) : Array Value := #[.int .i64 1, .string nm, .int .i64 0, .int .i64 12, .string ⟨#[]⟩, .int .i64 0, .int .i64 1, .string tx, .int .i64 0, .int .i64 2, .string ⟨#[]⟩, .int .i64 0, .int .i64 3, .string ⟨#[]⟩, .int .i64 z, .int .i64 15, .string ⟨#[]⟩, .int .i64 0]
theorem PrG.six (h : PrG base W RT b g c n f) (hrt : ∀ r ∈ RT, r.2.1 < W.heap.size) (hl : base ≤ W.heap.size) (nm tx : ByteArray) (z : Int) (h1 : nm.size ≤ 5000) (h2 : tx.size ≤ 5000) : PrG base ((W.setCell ⟨b, 0, none⟩ (.slice (some ⟨W.heap.size, 0, none⟩) 6 6)).alloc (.cells (sixC nm tx z) 176)) RT b W.heap.size 6 6 (sixI nm tx z) := by
  have hz : (W.setCell ⟨b, 0, none⟩ (.slice (some ⟨W.heap.size, 0, none⟩) 6 6)).heap.size = W.heap.size := by simp
  have A := (Below.refl W.heap.size (W.setCell ⟨b, 0, none⟩ (.slice (some ⟨W.heap.size, 0, none⟩) 6 6))).alloc (by rw [hz]; exact Nat.le_refl _) (.cells (sixC nm tx z) 176)
  refine ⟨(h.blk.set _).below A h.blk.lt, ?_, fun r hr e => by have := hrt r hr; omega, h.lo, ⟨by omega, by omega⟩, sixI_size h1 h2⟩
  have h3 := heap_alloc_new (W.setCell ⟨b, 0, none⟩ (.slice (some ⟨W.heap.size, 0, none⟩) 6 6)) (.cells (sixC nm tx z) 176)
  rw [hz] at h3
  exact ⟨rfl, .inr ⟨W.heap.size, 6, sixC nm tx z, rfl, hl, h3, Nat.le_refl _, by unfold maxLen; omega, rfl, rfl⟩⟩
end
end Go.Proofs.YtkophfgkcijjkaaGreatDoor.Vp
namespace Go.Proofs.YtkophfgkcijjkaaGreatDoor.Vp
open Go.RowKit
theorem own_set_ty {w : World} {base size n X j : Nat} {e t : TypeId} {v : Value} {xs : List Value} {cs : Array Value} {fz : Nat × Nat} (h : w.ownsRow base e size v n xs) (hX : w.heap[X]? = some (.cells cs t fz)) (ht : t ≠ e) (u : Value) : (w.setCell ⟨X, j, none⟩ u).ownsRow base e size v n xs := by
  rcases h with ⟨e1, h2 | ⟨g, cap, cur, e2, hb, hg, h3⟩⟩
  · exact ⟨e1, .inl h2⟩
  · refine ⟨e1, .inr ⟨g, cap, cur, e2, hb, (Below.heap_setCell w ⟨X, j, none⟩ u g ?_).trans hg, h3⟩⟩
    intro e3
    obtain rfl : g = X := e3
    have := hX.symm.trans hg
    cases this
    exact ht rfl
theorem trow_set_ty {w : World} {base X j : Nat} {t : TypeId} {v : Value} {R : List TR} {cs : Array Value} {fz : Nat × Nat} (h : TRow w base v R) (hX : w.heap[X]? = some (.cells cs t fz)) (ht : t ≠ 104) (hi : t ≠ 176) (u : Value) : TRow (w.setCell ⟨X, j, none⟩ u) base v R := by
  refine ⟨own_set_ty h.own hX ht u, fun r hr => ?_, h.up⟩
  obtain ⟨h1, ⟨F, h2⟩, h3, h4⟩ := h.act r hr
  have e : (w.setCell ⟨X, j, none⟩ u).heap[r.2.1]? = w.heap[r.2.1]? := Below.heap_setCell w ⟨X, j, none⟩ u r.2.1 (by
    intro e3
    obtain rfl : r.2.1 = X := e3
    obtain ⟨cur, hc⟩ := h3
    have := hX.symm.trans hc
    cases this
    exact hi rfl)
  exact ⟨h1.block (by simp) e, ⟨F, h2.block (by simp) e⟩, h3.block e, h4⟩
theorem grown_other {w w' : World} {X : Nat} {v : Value} {e t : TypeId} {cs : Array Value} {fz : Nat × Nat} (hg : w.grownBy w' v.ownBlock) (hv : ∀ k, v.ownBlock = some k → TypeAt w k e) (hX : w.heap[X]? = some (.cells cs t fz)) (ht : t ≠ e) : w'.heap[X]? = some (.cells cs t fz) := by
  refine (hg.block X (heap_in hX) fun e1 => ?_).trans hX
  obtain ⟨cur, hc⟩ := hv X e1.symm
  have := hX.symm.trans hc
  cases this
  exact ht rfl
def GX (RT : List TR) : Prop := ∀ r ∈ RT, r.1.actN ≤ 300 ∧ ∀ j, j < r.1.actN → (r.1.act j).s.size ≤ 5000
theorem GX.add {RT : List TR} (h : GX RT) {r : TR} (h1 : r.1.actN ≤ 300) (h2 : ∀ j, j < r.1.actN → (r.1.act j).s.size ≤ 5000) : GX (RT ++ [r]) := by
  intro y hy
  rcases List.mem_append.1 hy with hy | hy
  · exact h y hy
  · rw [List.mem_singleton.1 hy]; exact ⟨h1, h2⟩
theorem gx_keep {f : Nat → Target} {t : ByteArray} {n : Nat} {R : List TR} (hM : R.map (·.1) = keepT f t n) (hf : ∀ i, i < n → (f i).actN ≤ 300 ∧ ∀ j, j < (f i).actN → ((f i).act j).s.size ≤ 5000) : GX R := by
  intro r hr
  have h1 : r.1 ∈ keepT f t n := by rw [← hM]; exact List.mem_map_of_mem hr
  have h2 := (List.mem_filter.1 h1).1
  obtain ⟨i, hi, e⟩ := List.mem_map.1 h2
  rw [← e]
  exact hf i (List.mem_range.1 hi)
theorem gn_keep {f : Nat → Target} {t : ByteArray} {n : Nat} {R : List TR} (hM : R.map (·.1) = keepT f t n) (hf : ∀ i, i < n → 1 ≤ (f i).actN ∧ (f i).actN ≤ 200) : ∀ r ∈ R, 1 ≤ r.1.actN ∧ r.1.actN ≤ 200 := by
  intro r hr
  have h1 : r.1 ∈ keepT f t n := by rw [← hM]; exact List.mem_map_of_mem hr
  have h2 := (List.mem_filter.1 h1).1
  obtain ⟨i, hi, e⟩ := List.mem_map.1 h2
  rw [← e]
  exact hf i (List.mem_range.1 hi)
theorem keepT_lenR {f : Nat → Target} {t : ByteArray} {n : Nat} {R : List TR} (hM : R.map (·.1) = keepT f t n) : R.length ≤ n := by
  have h1 : R.length = (keepT f t n).length := by rw [← hM, List.length_map]
  have := List.length_filter_le (fun x : Target => !(x.name.toList == t.toList)) ((List.range n).map f)
  rw [h1]
  simpa [keepT] using this
def lsI (L : List Ins) (i : Nat) : Ins := L.getD i ⟨0, ⟨#[]⟩, 0⟩
theorem lsI_size {L : List Ins} (h : ∀ x ∈ L, x.s.size ≤ 5000) : ∀ j, j < L.length → (lsI L j).s.size ≤ 5000 := by
  intro j hj
  have e : lsI L j = L[j] := by simp [lsI, hj]
  rw [e]
  exact h _ (List.getElem_mem hj)
theorem two_new2 {w : World} {z : Nat} (hz : w.heap.size = z) (x y : Value) (t : TypeId) : ∀ j u, [x, y][j]? = some u → (w.alloc (.cells #[x, y] t)).cell? ((⟨z, 0, none⟩ : Addr).add j) = some u := by
  subst hz
  exact two_new w x y t
def twoL : List Ins := [⟨1, ⟨#[107]⟩, 0⟩, ⟨15, ⟨#[]⟩, 0⟩]
def threeL (nx : ByteArray) : List Ins := [⟨1, nx, 0⟩, ⟨12, ⟨#[]⟩, 0⟩, ⟨15, ⟨#[]⟩, 0⟩]
theorem own_two (w : World) {base : Nat} (hb : base ≤ w.heap.size) : (w.alloc (.cells #[.int .i64 1, .string ⟨#[107]⟩, .int .i64 0, .int .i64 15, .string ⟨#[]⟩, .int .i64 0] 176)).ownsRow base 176 3 (.slice (some ⟨w.heap.size, 0, none⟩) 2 2) 2 (insL (lsI twoL) 2) :=
  ⟨rfl, .inr ⟨w.heap.size, 2, _, rfl, hb, heap_alloc_new w _, Nat.le_refl _, by unfold maxLen; omega, rfl, rfl⟩⟩
theorem own_three (w : World) (nx : ByteArray) {base : Nat} (hb : base ≤ w.heap.size) : (w.alloc (.cells #[.int .i64 1, .string nx, .int .i64 0, .int .i64 12, .string ⟨#[]⟩, .int .i64 0, .int .i64 15, .string ⟨#[]⟩, .int .i64 0] 176)).ownsRow base 176 3 (.slice (some ⟨w.heap.size, 0, none⟩) 3 3) 3 (insL (lsI (threeL nx)) 3) :=
  ⟨rfl, .inr ⟨w.heap.size, 3, _, rfl, hb, heap_alloc_new w _, Nat.le_refl _, by unfold maxLen; omega, rfl, rfl⟩⟩
theorem two_size : ∀ j, j < 2 → (lsI twoL j).s.size ≤ 5000 := lsI_size (L := twoL) (by decide)
theorem three_size {nx : ByteArray} (h : nx.size ≤ 5000) : ∀ j, j < 3 → (lsI (threeL nx) j).s.size ≤ 5000 := lsI_size (L := threeL nx) fun x hx => by
  simp only [threeL, List.mem_cons, List.not_mem_nil, or_false] at hx
  rcases hx with rfl | rfl | rfl
  · exact h
  · exact Nat.zero_le _
  · exact Nat.zero_le _
theorem own_store {w : World} {base size n g c j : Nat} {e : TypeId} {xs : List Value} (h : w.ownsRow base e size (.slice (some ⟨g, 0, none⟩) n c) n xs) (u : Value) : (w.setCell ⟨g, j, none⟩ u).ownsRow base e size (.slice (some ⟨g, 0, none⟩) n c) n (xs.set j u) := by
  rcases h with ⟨e1, ⟨h2, _⟩ | ⟨g', cap, cur, e2, hb, hg, h3, h4, h5, h6⟩⟩
  · cases h2
  · cases e2
    refine ⟨by rw [List.length_set]; exact e1, .inr ⟨g, c, cur.setIfInBounds j u, rfl, hb, heap_set_at hg u, h3, h4, by rw [Array.size_setIfInBounds]; exact h5, ?_⟩⟩
    rw [← h6, Array.toList_setIfInBounds, List.take_set]
theorem acts_set {w : World} {base gt j : Nat} {RT : List TR} (h : ∀ r ∈ RT, RowIns w r.2.1 0 r.1.actN r.1.act ∧ (∃ F, Cells w r.2.1 0 (r.1.actN * 3) F) ∧ TypeAt w r.2.1 176 ∧ base ≤ r.2.1) (ht : TypeAt w gt 104) (u : Value) : ∀ r ∈ RT, RowIns (w.setCell ⟨gt, j, none⟩ u) r.2.1 0 r.1.actN r.1.act ∧ (∃ F, Cells (w.setCell ⟨gt, j, none⟩ u) r.2.1 0 (r.1.actN * 3) F) ∧ TypeAt (w.setCell ⟨gt, j, none⟩ u) r.2.1 176 ∧ base ≤ r.2.1 := by
  intro r hr
  obtain ⟨h1, ⟨F, h2⟩, h3, h4⟩ := h r hr
  have e : (w.setCell ⟨gt, j, none⟩ u).heap[r.2.1]? = w.heap[r.2.1]? := Below.heap_setCell w ⟨gt, j, none⟩ u r.2.1 (by
    intro e3
    have e3 : r.2.1 = gt := e3
    exact type_ne h3 (e3 ▸ ht) (by decide) rfl)
  exact ⟨h1.block (by simp) e, ⟨F, h2.block (by simp) e⟩, h3.block e, h4⟩
theorem agr_set {base X j : Nat} {w : World} (hX : X < base) (u : Value) : Agr base w (w.setCell ⟨X, j, none⟩ u) :=
  ⟨by simp, fun k h1 _ => Below.heap_setCell w ⟨X, j, none⟩ u k (by intro e; have e : k = X := e; omega)⟩
abbrev TO := Target × Option Addr × Nat
def toV (r : TO) : List Value := [.string r.1.name, .slice r.2.1 r.1.actN r.2.2]
def upO (r : TR) : TO := (r.1, some ⟨r.2.1, 0, none⟩, r.2.2)
theorem upO_flat (RT : List TR) : RT.flatMap tgtV = (RT.map upO).flatMap toV := by
  rw [List.flatMap_map]
  rfl
theorem own_tgtO {w : World} {base c : Nat} {a : Option Addr} {L : List TO} (h : w.ownsRow base 104 2 (.slice a L.length c) L.length (L.flatMap toV)) (hs : ∀ r ∈ L, SlIns w r.2.1 r.1.actN r.1.act) : SlTarget w a L.length (tgtF (L.map (·.1))) := by
  by_cases hn : L.length = 0
  · exact .inl hn
  · obtain ⟨g, c', e⟩ := own_some h (by omega)
    simp at e
    obtain ⟨rfl, rfl⟩ := e
    refine .inr ⟨g, 0, rfl, (own_lt h).2, fun i hi => ?_⟩
    have hr : L[i]? = some L[i] := List.getElem?_eq_getElem hi
    have hx : tgtF (L.map (·.1)) i = L[i].1 := by simp [tgtF, hi]
    rw [hx]
    refine ⟨?_, L[i].2.1, L[i].2.2, ?_, hs _ (List.getElem_mem hi)⟩
    · have := (own_cell h (j := i * 2) (u := .string L[i].1.name) (by have := flat_at toV 2 (fun _ => rfl) L i 0 (by omega) _ hr; simpa [toV] using this)).1
      rwa [show 0 + i * 2 = i * 2 by omega]
    · have := (own_cell h (j := i * 2 + 1) (u := .slice L[i].2.1 L[i].1.actN L[i].2.2) (by have := flat_at toV 2 (fun _ => rfl) L i 1 (by omega) _ hr; simpa [toV] using this)).1
      rwa [show 0 + i * 2 + 1 = i * 2 + 1 by omega]
structure SpX (rr xb base : Nat) (W : World) (v0 v1 : Value) (LS : List Source) (RT : List TR) : Prop where
  res : W.heap[rr]? = some (.cells #[.slice none 0 0, .slice none 0 0] 26 (0, 0))
  box : W.heap[xb]? = some (.cells #[v0, v1] 26 (0, 0))
  lo : rr < base
  hi : base ≤ xb
  src : W.ownsRow base 100 2 v0 LS.length (LS.flatMap srcV)
  tgt : TRow W base v1 RT
section
variable {W W' : World} {R rr xb base : Nat} {v0 v1 : Value} {LS : List Source} {RT : List TR}
theorem SpX.lt (h : SpX rr xb base W v0 v1 LS RT) : xb < W.heap.size := heap_in h.box
theorem SpX.cells (h : SpX rr xb base W v0 v1 LS RT) : W.cell? ⟨xb, 0, none⟩ = some v0 ∧ W.cell? ⟨xb, 1, none⟩ = some v1 := by
  have hb := h.box
  refine ⟨?_, ?_⟩ <;> simp [World.cell?, hb]
theorem SpX.open (h : SpX rr xb base W v0 v1 LS RT) : W.frozen? ⟨xb, 0, none⟩ = false ∧ W.frozen? ⟨xb, 1, none⟩ = false := by
  have hb := h.box
  refine ⟨?_, ?_⟩ <;> simp [World.frozen?, hb]
theorem SpX.below (h : SpX rr xb base W v0 v1 LS RT) {B : Nat} (hb : Below B W W') (hB : W.heap.size ≤ B) : SpX rr xb base W' v0 v1 LS RT := by
  have hl := h.lt
  have := h.lo
  have := h.hi
  exact ⟨(hb.block rr (by omega)).trans h.res, (hb.block xb (by omega)).trans h.box, h.lo, h.hi, own_below h.src hb hB, h.tgt.below hb hB⟩
theorem SpX.only (h : SpX rr xb base W v0 v1 LS RT) (ho : Only R W W') (hR : R < rr) : SpX rr xb base W' v0 v1 LS RT := by
  have hl := h.lt
  have h1 := h.lo
  have h2 := h.hi
  exact ⟨(ho.block rr (by omega) (by omega)).trans h.res, (ho.block xb (by omega) (by omega)).trans h.box, h1, h2, own_only h.src ho (by omega), h.tgt.only ho (by omega)⟩
theorem SpX.addT {x : Target} {g c : Nat} {v' : Value} (h : SpX rr xb base W v0 v1 LS RT) (hd : ∀ r ∈ RT, r.2.1 ≠ g) (hO : W.ownsRow base 176 3 (.slice (some ⟨g, 0, none⟩) x.actN c) x.actN (insL x.act x.actN))
    (hown : W'.ownsRow base 104 2 v' (RT.length + 1) (RT.flatMap tgtV ++ tgtV (x, g, c))) (hg : W.grownBy W' v1.ownBlock) : SpX rr xb base (W'.setCell ⟨xb, 1, none⟩ v') v0 v' LS (RT ++ [(x, g, c)]) ∧ Below base W (W'.setCell ⟨xb, 1, none⟩ v') := by
  have hlt := h.lt
  have h1 := h.lo
  have h2 := h.hi
  have hb : base ≤ g := (hO.lt g rfl).1
  have B1 : Below base W W' := (Below.refl base W).grown hg (by omega) fun k hk => (h.tgt.own.lt k hk).1
  have B2 : Below base W (W'.setCell ⟨xb, 1, none⟩ v') := B1.setCell (p := ⟨xb, 1, none⟩) h2 v'
  have hx : W'.heap[xb]? = some (.cells #[v0, v1] 26 (0, 0)) := grown_other hg h.tgt.type h.box (by decide)
  refine ⟨⟨(B2.block rr h1).trans h.res, heap_set_at hx v', h1, h2, ?_, ?_⟩, B2⟩
  · refine own_set_ty (h.src.kept hg ?_) hx (by decide) v'
    cases hv : v0.ownBlock with
    | none => exact .inl rfl
    | some k => exact .inr fun e => type_ne (own_typeD h.src k hv) (h.tgt.type k e.symm) (by decide) rfl
  · exact trow_set_ty (h.tgt.more2 hd hb hO hown hg) hx (by decide) (by decide) v'
theorem SpX.addS {x : Source} {v' : Value} (h : SpX rr xb base W v0 v1 LS RT) (hown : W'.ownsRow base 100 2 v' (LS.length + 1) (LS.flatMap srcV ++ srcV x)) (hg : W.grownBy W' v0.ownBlock) : SpX rr xb base (W'.setCell ⟨xb, 0, none⟩ v') v' v1 (LS ++ [x]) RT ∧ Below base W (W'.setCell ⟨xb, 0, none⟩ v') := by
  have hlt := h.lt
  have h1 := h.lo
  have h2 := h.hi
  have B1 : Below base W W' := (Below.refl base W).grown hg (by omega) fun k hk => (h.src.lt k hk).1
  have B2 : Below base W (W'.setCell ⟨xb, 0, none⟩ v') := B1.setCell (p := ⟨xb, 0, none⟩) h2 v'
  have hx : W'.heap[xb]? = some (.cells #[v0, v1] 26 (0, 0)) := grown_other hg (own_typeD h.src) h.box (by decide)
  refine ⟨⟨(B2.block rr h1).trans h.res, heap_set_at hx v', h1, h2, ?_, ?_⟩, B2⟩
  · have h3 := own_set_ty hown hx (by decide) (j := 0) v'
    rw [List.length_append, List.flatMap_append]
    simpa using h3
  · exact trow_set_ty (trow_grown h.tgt hg fun k hk => own_typeD h.src k hk) hx (by decide) (by decide) v'
theorem TRow.mono {base base' : Nat} (h : TRow W base v1 RT) (hb : base' ≤ base) : TRow W base' v1 RT :=
  ⟨own_mono h.own hb, fun r hr => by obtain ⟨h1, h2, h3, h4⟩ := h.act r hr; exact ⟨h1, h2, h3, by omega⟩, h.up⟩
theorem spx_new {base' : Nat} (hr : W.heap[rr]? = some (.cells #[.slice none 0 0, .slice none 0 0] 26 (0, 0))) (hlo : rr < base) (hb : base ≤ base') (hz : base ≤ W.heap.size) (hs : W.ownsRow base' 100 2 v0 LS.length (LS.flatMap srcV)) (ht : TRow W base' v1 RT) : SpX rr W.heap.size base (W.alloc (.cells #[v0, v1] 26)) v0 v1 LS RT := by
  have A := (Below.refl W.heap.size W).alloc (Nat.le_refl _) (.cells #[v0, v1] 26)
  exact ⟨(A.block rr (heap_in hr)).trans hr, heap_alloc_new W _, hlo, hz, own_below (own_mono hs hb) A (Nat.le_refl _), (ht.mono hb).below A (Nat.le_refl _)⟩
theorem SpX.fin {a0 a1 : Option Addr} {n0 c0 n1 c1 : Nat} (h : SpX rr xb base W (.slice a0 n0 c0) (.slice a1 n1 c1) LS RT) (e0 : n0 = LS.length) (e1 : n1 = RT.length) (h0 : LS.length ≤ 300) (h1 : RT.length ≤ 300) (hG : GX RT) (u v : Value) : HSp base ((W.setCell ⟨rr, 0, none⟩ u).setCell ⟨rr, 1, none⟩ v) a0 n0 (srcF LS) a1 n1 (tgtF (RT.map (·.1))) :=
  hsp_of (own_set (own_set h.src h.lo u) h.lo v) e0 ((h.tgt.set h.lo u).set h.lo v) e1 h0 h1 hG
theorem SpX.addNil {nm : ByteArray} {a0 a1 : Option Addr} {c0 c1 : Nat} (h : SpX rr xb base W (.slice a0 LS.length c0) v1 LS RT) (hown : W'.ownsRow base 104 2 (.slice a1 (RT.length + 1) c1) (RT.length + 1) (RT.flatMap tgtV ++ [.string nm, .slice none 0 0])) (hg : W.grownBy W' v1.ownBlock) (h0 : LS.length ≤ 300) (h1 : RT.length ≤ 299) (hG : GX RT) :
    HSp base (W'.setCell ⟨xb, 1, none⟩ (.slice a1 (RT.length + 1) c1)) a0 LS.length (srcF LS) a1 (RT.length + 1) (tgtF (RT.map (·.1) ++ [⟨nm, 0, fun _ => ⟨0, ⟨#[]⟩, 0⟩⟩])) ∧ (W'.setCell ⟨xb, 1, none⟩ (.slice a1 (RT.length + 1) c1)).heap[xb]? = some (.cells #[.slice a0 LS.length c0, .slice a1 (RT.length + 1) c1] 26 (0, 0)) ∧ (W'.setCell ⟨xb, 1, none⟩ (.slice a1 (RT.length + 1) c1)).heap[rr]? = some (.cells #[.slice none 0 0, .slice none 0 0] 26 (0, 0)) ∧ Below base W (W'.setCell ⟨xb, 1, none⟩ (.slice a1 (RT.length + 1) c1)) := by
  have hlt := h.lt
  have k1 := h.lo
  have k2 := h.hi
  have B1 : Below base W W' := (Below.refl base W).grown hg (by omega) fun k hk => (h.tgt.own.lt k hk).1
  have B2 : Below base W (W'.setCell ⟨xb, 1, none⟩ (.slice a1 (RT.length + 1) c1)) := B1.setCell (p := ⟨xb, 1, none⟩) k2 _
  have hx : W'.heap[xb]? = some (.cells #[.slice a0 LS.length c0, v1] 26 (0, 0)) := grown_other hg h.tgt.type h.box (by decide)
  have hsrc : (W'.setCell ⟨xb, 1, none⟩ (.slice a1 (RT.length + 1) c1)).ownsRow base 100 2 (.slice a0 LS.length c0) LS.length (LS.flatMap srcV) := by
    refine own_set_ty (h.src.kept hg ?_) hx (by decide) _
    cases hv : (Value.slice a0 LS.length c0).ownBlock with
    | none => exact .inl rfl
    | some k => exact .inr fun e => type_ne (own_typeD h.src k hv) (h.tgt.type k e.symm) (by decide) rfl
  have hro := own_set_ty hown hx (by decide) (j := 1) (.slice a1 (RT.length + 1) c1)
  refine ⟨⟨fun V hV => ⟨own_src (own_agr hsrc hV), ?_⟩, h0, by omega, fun i hi => ?_⟩, heap_set_at hx _, (B2.block rr k1).trans h.res, B2⟩
  · have e1 : RT.length + 1 = (RT.map upO ++ [((⟨nm, 0, fun _ => ⟨0, ⟨#[]⟩, 0⟩⟩, none, 0) : TO)]).length := by simp
    have h3 := own_agr hro hV
    rw [upO_flat, show (RT.map upO).flatMap toV ++ [.string nm, .slice none 0 0] = (RT.map upO ++ [((⟨nm, 0, fun _ => ⟨0, ⟨#[]⟩, 0⟩⟩, none, 0) : TO)]).flatMap toV by rw [List.flatMap_append]; rfl, e1] at h3
    have h4 := own_tgtO h3 ?_
    · rw [e1]
      have e2 : (RT.map upO ++ [((⟨nm, 0, fun _ => ⟨0, ⟨#[]⟩, 0⟩⟩, none, 0) : TO)]).map (·.1) = RT.map (·.1) ++ [⟨nm, 0, fun _ => ⟨0, ⟨#[]⟩, 0⟩⟩] := by
        rw [List.map_append, List.map_map]
        rfl
      rw [← e2]
      exact h4
    · intro r hr
      rcases List.mem_append.1 hr with hr | hr
      · obtain ⟨y, hy, rfl⟩ := List.mem_map.1 hr
        obtain ⟨q1, _, q3, q4⟩ := h.tgt.act y hy
        have z1 := hg.block y.2.1 q1.1 (fun e => type_ne q3 (h.tgt.type _ e.symm) (by decide) rfl)
        have z2 := q1.block hg.size z1
        have z3 : RowIns (W'.setCell ⟨xb, 1, none⟩ (.slice a1 (RT.length + 1) c1)) y.2.1 0 y.1.actN y.1.act := by
          refine z2.block (by simp) (Below.heap_setCell W' ⟨xb, 1, none⟩ _ y.2.1 ?_)
          intro e3
          have e3 : y.2.1 = xb := e3
          obtain ⟨cur, hc⟩ := q3.block z1
          rw [e3] at hc
          have := hx.symm.trans hc
          cases this
        exact (z3.block hV.1 (hV.2 y.2.1 q4 z3.1)).sl
      · rw [List.mem_singleton.1 hr]
        exact .inl rfl
  · by_cases hi2 : i < RT.length
    · have e : tgtF (RT.map (·.1) ++ [⟨nm, 0, fun _ => ⟨0, ⟨#[]⟩, 0⟩⟩]) i = RT[i].1 := by simp [tgtF, List.getElem?_append, hi2]
      rw [e]
      exact hG _ (List.getElem_mem hi2)
    · have e : tgtF (RT.map (·.1) ++ [⟨nm, 0, fun _ => ⟨0, ⟨#[]⟩, 0⟩⟩]) i = ⟨nm, 0, fun _ => ⟨0, ⟨#[]⟩, 0⟩⟩ := by
        obtain rfl : i = RT.length := by omega
        simp [tgtF]
      rw [e]
      exact ⟨by show 0 ≤ 300; omega, fun j hj => absurd hj (Nat.not_lt_zero _)⟩
theorem SpX.setS {gs c0 j : Nat} {LS' : List Source} (h : SpX rr xb base W (.slice (some ⟨gs, 0, none⟩) LS.length c0) v1 LS RT) (u : Value) (he : LS'.length = LS.length) (hx : (LS.flatMap srcV).set j u = LS'.flatMap srcV) : SpX rr xb base (W.setCell ⟨gs, j, none⟩ u) (.slice (some ⟨gs, 0, none⟩) LS.length c0) v1 LS' RT ∧ Below base W (W.setCell ⟨gs, j, none⟩ u) := by
  have hb := (h.src.lt gs rfl).1
  obtain ⟨cur, hc⟩ := own_typeD h.src gs rfl
  have far : ∀ (X : Nat) cs, W.heap[X]? = some (.cells cs 26 (0, 0)) → (W.setCell ⟨gs, j, none⟩ u).heap[X]? = some (.cells cs 26 (0, 0)) := by
    intro X cs hX
    refine (Below.heap_setCell W ⟨gs, j, none⟩ u X ?_).trans hX
    intro e
    have e : X = gs := e
    subst e
    have := hX.symm.trans hc
    cases this
  refine ⟨⟨far _ _ h.res, far _ _ h.box, h.lo, h.hi, ?_, trow_set_ty h.tgt hc (by decide) (by decide) u⟩, (Below.refl base W).setCell (p := ⟨gs, j, none⟩) hb u⟩
  have h2 := own_store h.src (j := j) u
  rw [hx] at h2
  rw [he]
  exact h2
theorem hsp_raw {a0 a1 : Option Addr} {n0 c0 n1 c1 : Nat} {L : List TO} (hs : W.ownsRow base 100 2 (.slice a0 n0 c0) LS.length (LS.flatMap srcV)) (e0 : n0 = LS.length) (ht : W.ownsRow base 104 2 (.slice a1 n1 c1) n1 (L.flatMap toV)) (e1 : n1 = L.length) (h0 : LS.length ≤ 300) (h1 : L.length ≤ 300)
    (ha : ∀ r ∈ L, ∃ g, r.2.1 = some ⟨g, 0, none⟩ ∧ base ≤ g ∧ RowIns W g 0 r.1.actN r.1.act) (hf : ∀ r ∈ L, r.1.actN ≤ 300 ∧ ∀ j, j < r.1.actN → (r.1.act j).s.size ≤ 5000) : HSp base W a0 n0 (srcF LS) a1 n1 (tgtF (L.map (·.1))) := by
  subst e0 e1
  refine ⟨fun V hV => ⟨own_src (own_agr hs hV), own_tgtO (own_agr ht hV) fun r hr => ?_⟩, h0, h1, fun i hi => ?_⟩
  · obtain ⟨g, e, hb, hw⟩ := ha r hr
    rw [e]
    exact (hw.block hV.1 (hV.2 g hb hw.1)).sl
  · have e : tgtF (L.map (·.1)) i = L[i].1 := by simp [tgtF, hi]
    rw [e]
    exact hf _ (List.getElem_mem hi)
theorem own_some0 {base' size n c : Nat} {e : TypeId} {a : Option Addr} {xs : List Value} (h : W.ownsRow base' e size (.slice a n c) n xs) (hn : 0 < n) : ∃ g, a = some ⟨g, 0, none⟩ := by
  obtain ⟨g, c', e⟩ := own_some h hn
  simp at e
  exact ⟨g, e.1⟩
end
end Go.Proofs.YtkophfgkcijjkaaGreatDoor.Vp
namespace Go.Proofs.YtkophfgkcijjkaaGreatDoor.Vp
open Go.RowKit
def toI3 (f : Nat → Ins) (n : Nat) : List I3 := (List.range n).map fun i => ((f i).op, (f i).s.data.toList, (f i).n)
theorem toI3_len (f : Nat → Ins) (n : Nat) : (toI3 f n).length = n := by simp [toI3]
theorem toI3_ins (f : Nat → Ins) (n : Nat) : i3L (toI3 f n) = insL f n := by
  rw [i3L, toI3, insL, List.flatMap_map, List.flatMap_map]
  rfl
theorem l1Spoil_row (R p g c n : Nat) (f : Nat → Ins) (w : World) (hR : Rd w R p) (hp : p ≤ 20000) (hI : RowIns w g 0 n f) (hn : 1 ≤ n ∧ n ≤ 200) (hs : ∀ j, j < n → (f j).s.size ≤ 5000) :
    Calls Tryz.prog 131 #[.pointer (some ⟨R, 0, none⟩), .agg #[.slice (some ⟨g, 0, none⟩) n c]] w fun e w' => DP w R (p + 1000) 0 201 e w' := by
  have hl := toI3_len f n
  have h := l1Spoil_cells R p g c (toI3 f n) w hR hp hI.1 (by rw [toI3_ins]; exact row_ins hI) (by omega) (by intro e; rw [e] at hl; simp at hl; omega) (by
    intro i hi
    obtain ⟨j, hj, rfl⟩ := List.mem_map.1 hi
    have := hs j (List.mem_range.1 hj)
    simpa using this)
  rw [hl] at h
  exact h
theorem lit5_at {w : World} {b : Nat} {s0 s1 s2 s3 s4 : ByteArray} {t : TypeId} {fz : Nat × Nat} (h : w.heap[b]? = some (.cells #[.string s0, .string s1, .string s2, .string s3, .string s4] t fz)) (k : Nat) (hk : k < 5) : ∃ s, w.cell? ⟨b, k, none⟩ = some (.string s) := by
  match k, hk with
  | 0, _ => exact ⟨s0, by simp [World.cell?, h]⟩
  | 1, _ => exact ⟨s1, by simp [World.cell?, h]⟩
  | 2, _ => exact ⟨s2, by simp [World.cell?, h]⟩
  | 3, _ => exact ⟨s3, by simp [World.cell?, h]⟩
  | 4, _ => exact ⟨s4, by simp [World.cell?, h]⟩
  | j + 5, h5 => exact absurd h5 (by omega)
section
variable {W : World} {rr xb base : Nat} {LS : List Source} {RR : List TR}
theorem SpX.setA {gt c1 n1 g c n n0 c0 : Nat} {a0 : Option Addr} {f : Nat → Ins} {r0 : TR} (h : SpX rr xb base W (.slice a0 n0 c0) (.slice (some ⟨gt, 0, none⟩) n1 c1) LS (r0 :: RR)) (e0 : n0 = LS.length) (e1 : n1 = (r0 :: RR).length) (hw : RowIns W g 0 n f) (ht : TypeAt W g 176) (hb : base ≤ g) (hn : n ≤ 300) (hs : ∀ j, j < n → (f j).s.size ≤ 5000) (h0 : LS.length ≤ 300) (h1 : (r0 :: RR).length ≤ 300) (hG : GX (r0 :: RR)) :
    HSp base (W.setCell ⟨gt, 1, none⟩ (.slice (some ⟨g, 0, none⟩) n c)) a0 n0 (srcF LS) (some ⟨gt, 0, none⟩) n1 (tgtF ((((⟨r0.1.name, n, f⟩, some ⟨g, 0, none⟩, c) : TO) :: RR.map upO).map (·.1))) ∧ (W.setCell ⟨gt, 1, none⟩ (.slice (some ⟨g, 0, none⟩) n c)).heap[xb]? = some (.cells #[.slice a0 n0 c0, .slice (some ⟨gt, 0, none⟩) n1 c1] 26 (0, 0)) ∧ (W.setCell ⟨gt, 1, none⟩ (.slice (some ⟨g, 0, none⟩) n c)).heap[rr]? = some (.cells #[.slice none 0 0, .slice none 0 0] 26 (0, 0)) ∧ Below base W (W.setCell ⟨gt, 1, none⟩ (.slice (some ⟨g, 0, none⟩) n c)) := by
  have hto : W.ownsRow base 104 2 (.slice (some ⟨gt, 0, none⟩) n1 c1) n1 ((r0 :: RR).flatMap tgtV) := by
    have h2 := h.tgt.own
    rw [← e1] at h2
    exact h2
  have hgt := (hto.lt gt rfl).1
  have htt : TypeAt W gt 104 := h.tgt.type gt rfl
  obtain ⟨cur, hc⟩ := htt
  have far : ∀ (X : Nat) cs, W.heap[X]? = some (.cells cs 26 (0, 0)) → (W.setCell ⟨gt, 1, none⟩ (.slice (some ⟨g, 0, none⟩) n c)).heap[X]? = some (.cells cs 26 (0, 0)) := by
    intro X cs hX
    refine (Below.heap_setCell W ⟨gt, 1, none⟩ _ X ?_).trans hX
    intro e
    have e : X = gt := e
    subst e
    have := hX.symm.trans hc
    cases this
  refine ⟨?_, far _ _ h.box, far _ _ h.res, (Below.refl base W).setCell (p := ⟨gt, 1, none⟩) hgt _⟩
  refine hsp_raw (c1 := c1) (own_set_ty h.src hc (by decide) _) e0 ?_ (by rw [e1]; simp) h0 (by simpa using h1) ?_ ?_
  · have h2 := own_store hto (j := 1) (.slice (some ⟨g, 0, none⟩) n c)
    have e2 : ((r0 :: RR).flatMap tgtV).set 1 (.slice (some ⟨g, 0, none⟩) n c) = (((⟨r0.1.name, n, f⟩, some ⟨g, 0, none⟩, c) : TO) :: RR.map upO).flatMap toV := by
      rw [List.flatMap_cons, List.flatMap_cons, ← upO_flat]
      rfl
    rw [e2] at h2
    exact h2
  · intro r hr
    have farI : ∀ k, TypeAt W k 176 → (W.setCell ⟨gt, 1, none⟩ (.slice (some ⟨g, 0, none⟩) n c)).heap[k]? = W.heap[k]? := fun k hk => Below.heap_setCell W ⟨gt, 1, none⟩ _ k (by
      intro e3
      have e3 : k = gt := e3
      rw [e3] at hk
      exact type_ne hk (⟨cur, hc⟩ : TypeAt W gt 104) (by decide) rfl)
    rcases List.mem_cons.1 hr with rfl | hr
    · exact ⟨g, rfl, hb, hw.block (by simp) (farI g ht)⟩
    · obtain ⟨y, hy, rfl⟩ := List.mem_map.1 hr
      obtain ⟨q1, _, q3, q4⟩ := h.tgt.act y (List.mem_cons_of_mem _ hy)
      exact ⟨y.2.1, rfl, q4, q1.block (by simp) (farI _ q3)⟩
  · intro r hr
    rcases List.mem_cons.1 hr with rfl | hr
    · exact ⟨hn, hs⟩
    · obtain ⟨y, hy, rfl⟩ := List.mem_map.1 hr
      exact hG y (List.mem_cons_of_mem _ hy)
end
structure Sw (rr xb base : Nat) (W : World) (v0 : Value) (gt n1 c1 : Nat) (LS : List Source) (RT : List TR) (xs : List Value) : Prop where
  res : W.heap[rr]? = some (.cells #[.slice none 0 0, .slice none 0 0] 26 (0, 0))
  box : W.heap[xb]? = some (.cells #[v0, .slice (some ⟨gt, 0, none⟩) n1 c1] 26 (0, 0))
  src : W.ownsRow base 100 2 v0 LS.length (LS.flatMap srcV)
  own : W.ownsRow base 104 2 (.slice (some ⟨gt, 0, none⟩) n1 c1) n1 xs
  act : ∀ r ∈ RT, RowIns W r.2.1 0 r.1.actN r.1.act ∧ (∃ F, Cells W r.2.1 0 (r.1.actN * 3) F) ∧ TypeAt W r.2.1 176 ∧ base ≤ r.2.1
section
variable {W W' : World} {rr xb base gt n1 c1 : Nat} {v0 : Value} {LS : List Source} {RT : List TR} {xs : List Value}
theorem SpX.sw (h : SpX rr xb base W v0 (.slice (some ⟨gt, 0, none⟩) n1 c1) LS RT) (e1 : n1 = RT.length) : Sw rr xb base W v0 gt n1 c1 LS RT (RT.flatMap tgtV) :=
  ⟨h.res, h.box, h.src, by have h2 := h.tgt.own; rw [← e1] at h2; exact h2, h.tgt.act⟩
theorem Sw.set (h : Sw rr xb base W v0 gt n1 c1 LS RT xs) (j : Nat) (u : Value) : Sw rr xb base (W.setCell ⟨gt, j, none⟩ u) v0 gt n1 c1 LS RT (xs.set j u) := by
  have htt : TypeAt W gt 104 := own_typeD h.own gt rfl
  obtain ⟨cur, hc⟩ := htt
  have far : ∀ (X : Nat) cs, W.heap[X]? = some (.cells cs 26 (0, 0)) → (W.setCell ⟨gt, j, none⟩ u).heap[X]? = some (.cells cs 26 (0, 0)) := by
    intro X cs hX
    refine (Below.heap_setCell W ⟨gt, j, none⟩ _ X ?_).trans hX
    intro e
    have e : X = gt := e
    subst e
    have := hX.symm.trans hc
    cases this
  exact ⟨far _ _ h.res, far _ _ h.box, own_set_ty h.src hc (by decide) u, own_store h.own u, acts_set h.act ⟨cur, hc⟩ u⟩
theorem Sw.drew (h : Sw rr xb base W v0 gt n1 c1 LS RT xs) : Sw rr xb base W.drew v0 gt n1 c1 LS RT xs :=
  ⟨h.res, h.box, own_below h.src (Below.refl _ _).drew (Nat.le_refl _), own_below h.own (Below.refl _ _).drew (Nat.le_refl _), fun r hr => by
    obtain ⟨q1, ⟨F, q2⟩, q3, q4⟩ := h.act r hr
    exact ⟨q1.block (Nat.le_refl _) rfl, ⟨F, q2.block (Nat.le_refl _) rfl⟩, q3.block rfl, q4⟩⟩
theorem Sw.fin {a0 : Option Addr} {n0 c0 : Nat} (h : Sw rr xb base W (.slice a0 n0 c0) gt n1 c1 LS RT xs) (e0 : n0 = LS.length) {L : List TR} (hx : xs = (L.map upO).flatMap toV) (e1 : n1 = L.length) (h0 : LS.length ≤ 300) (h1 : L.length ≤ 300) (hL : ∀ r ∈ L, r ∈ RT) (hG : GX RT) : HSp base W a0 n0 (srcF LS) (some ⟨gt, 0, none⟩) n1 (tgtF ((L.map upO).map (·.1))) := by
  subst hx
  refine hsp_raw (c1 := c1) h.src e0 h.own (by rw [e1]; simp) h0 (by simpa using h1) (fun r hr => ?_) (fun r hr => ?_)
  · obtain ⟨y, hy, rfl⟩ := List.mem_map.1 hr
    obtain ⟨q1, _, q3, q4⟩ := h.act y (hL y hy)
    exact ⟨y.2.1, rfl, q4, q1⟩
  · obtain ⟨y, hy, rfl⟩ := List.mem_map.1 hr
    exact hG y (hL y hy)
end
end Go.Proofs.YtkophfgkcijjkaaGreatDoor.Vp
