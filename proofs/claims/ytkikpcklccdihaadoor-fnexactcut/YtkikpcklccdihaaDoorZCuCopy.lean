/-
  impl: moved: a deed in memory of its own, its asks led to the new places.
-/
import Derived.Test.YtkikpcklccdihaaDoorZCuRow
namespace Go.Proofs.YtkikpcklccdihaaDoor.Vp
open Go.RowKit Go.Proofs.YtkikpcklccdihaaDoor.Ca

/-- The cells of a deed whose slices are none of them nil. -/
def AtDeedS (w : World) (b off i : Nat) (x : Deed) : Prop :=
  w.cell? ⟨b, off + i * 6, none⟩ = some (.string x.name) ∧ w.cell? ⟨b, off + i * 6 + 1, none⟩ = some (.int .i64 x.kind) ∧ w.cell? ⟨b, off + i * 6 + 2, none⟩ = some (.int .i64 x.code) ∧ w.cell? ⟨b, off + i * 6 + 3, none⟩ = some (.string x.text) ∧ (∃ b0 o0 cap, w.cell? ⟨b, off + i * 6 + 4, none⟩ = some (.slice (some ⟨b0, o0, none⟩) x.actN cap) ∧ RowIns w b0 o0 x.actN x.act) ∧ (∃ b1 o1 cap, w.cell? ⟨b, off + i * 6 + 5, none⟩ = some (.slice (some ⟨b1, o1, none⟩) x.linksN cap) ∧ RowLink w b1 o1 x.linksN x.links)
def RowDeedS (w : World) (b off n : Nat) (f : Nat → Deed) : Prop := b < w.heap.size ∧ ∀ i, i < n → AtDeedS w b off i (f i)
theorem RowDeedS.row {w : World} {b off n : Nat} {f : Nat → Deed} (h : RowDeedS w b off n f) : RowDeed w b off n f := by
  refine ⟨h.1, fun i hi => ?_⟩
  obtain ⟨h0, h1, h2, h3, ⟨b0, o0, c0, h4, r0⟩, ⟨b1, o1, c1, h5, r1⟩⟩ := h.2 i hi
  exact ⟨h0, h1, h2, h3, ⟨_, c0, h4, .inr ⟨b0, o0, rfl, r0⟩⟩, ⟨_, c1, h5, .inr ⟨b1, o1, rfl, r1⟩⟩⟩
theorem RowDeedS.below {w w' : World} {B b off n : Nat} {f : Nat → Deed} (h : RowDeedS w b off n f) (hb : Below B w w') (hB : w.heap.size ≤ B) : RowDeedS w' b off n f := by
  have hl : b < B := Nat.lt_of_lt_of_le h.1 hB
  refine ⟨Nat.lt_of_lt_of_le h.1 hb.size, fun i hi => ?_⟩
  obtain ⟨h0, h1, h2, h3, ⟨b0, o0, c0, h4, r0⟩, ⟨b1, o1, c1, h5, r1⟩⟩ := h.2 i hi
  exact ⟨(hb.cell (p := ⟨b, _, none⟩) hl).trans h0, (hb.cell (p := ⟨b, _, none⟩) hl).trans h1, (hb.cell (p := ⟨b, _, none⟩) hl).trans h2, (hb.cell (p := ⟨b, _, none⟩) hl).trans h3, ⟨b0, o0, c0, (hb.cell (p := ⟨b, _, none⟩) hl).trans h4, r0.below hb hB⟩, ⟨b1, o1, c1, (hb.cell (p := ⟨b, _, none⟩) hl).trans h5, r1.below hb hB⟩⟩
theorem RowDeedS.le {w : World} {b off n m : Nat} {f : Nat → Deed} (h : RowDeedS w b off n f) (hm : m ≤ n) : RowDeedS w b off m f := ⟨h.1, fun i hi => h.2 i (by omega)⟩

set_option maxRecDepth 100000 in
set_option maxHeartbeats 2000000 in
theorem cloneLink_row (b off n cap : Nat) (f : Nat → Link) (w : World) (hn : (n : Int) ≤ 1048576) (hr : RowLink w b off n f) :
    Calls Tryd.prog 50 #[.slice (some ⟨b, off, none⟩) n cap] w fun e w' => ∃ g c, e = .returned (.slice (some ⟨g, 0, none⟩) n c) ∧ w'.ownsRow w.heap.size 51 4 (.slice (some ⟨g, 0, none⟩) n c) n (lnkL f n) ∧ Below w.heap.size w w' := by
  have A0 := hide ((Below.refl w.heap.size w).alloc (Nat.le_refl _) (.cells #[] 51))
  have HR := hide (hr.below A0.out (Nat.le_refl _))
  clear hr
  obtain ⟨i0', hi, hy0, hy1, hy2⟩ := info_parts infoLink
  have hnl : ∀ w : World, (binOp .eql 47 (.slice (some ⟨b, off, none⟩) n cap) (.slice none 0 0)).run Tryd.prog w = .ok (.bool false) w := fun w => Lib.run_eql_slice_nil w _ _ _ _ _ _ _ Tryd.underlying47
  go_enter Tryd.func50, Tryd.ntmps50
  go_wp2_with (at_builtin; refine wpList_append_own _ rfl (.tmp 5) (.tmp 6) 47 rfl w.heap.size 51 i0' (.agg #[.string ⟨#[]⟩, .bool false, .bool false, .int .i64 0]) 4 32 Tryd.underlying47 hi hy0 hy1 hy2 rfl (by decide) (.slice (some ⟨w.heap.size, 0, none⟩) 0 0) 0 [] (by simp [Act.eval]) (World.ownsRow_made w #[] 0 (Nat.le_refl _) (by unfold maxLen; omega) rfl) ⟨b, off, none⟩ n cap (lnkL f n) (by simp [Act.eval]) (linkL_len f n) (row_link HR.out) (linkL_one f n) (by unfold maxLen; omega) (by omega) (by simp) ?_; intro v' w2 hown hgrow hnil; simp only [Nat.zero_add, List.nil_append] at hown; have OW := hide hown; have HN := hide hnil; have B2 := hide (Below.grown A0.out hgrow (by simp) (fun j e => by simp [Value.ownBlock] at e; omega)); clear hown hgrow hnil)
  go_ret
  rcases OW.out.2 with ⟨rfl, _⟩ | ⟨g, c, cur, rfl, _⟩
  · have := HN.out.1 rfl
    simp at this
  · exact ⟨g, c, rfl, OW.out, B2.out⟩

/-- Links of which the first i lead to the new places. -/
def mvTo (L : List Nat) (f : Nat → Link) (i : Nat) : Nat → Link := fun j => if j < i then mvLink L (f j) else f j
theorem mvTo_zero (L : List Nat) (f : Nat → Link) : mvTo L f 0 = f := by
  funext j
  simp [mvTo]
theorem mvTo_all (L : List Nat) (f : Nat → Link) (n : Nat) : lnkL (mvTo L f n) n = lnkL (fun j => mvLink L (f j)) n := linkL_congr fun i hi => by simp [mvTo, hi]
theorem mvTo_same {L : List Nat} {f : Nat → Link} {i : Nat} (h : (f i).ask = false) : mvTo L f (i + 1) = mvTo L f i := by
  funext j
  unfold mvTo
  by_cases e : j = i
  · subst e
    rw [if_pos (by omega), if_neg (by omega), mvLink, if_neg (by rw [h]; simp)]
  · by_cases h1 : j < i
    · rw [if_pos (by omega), if_pos h1]
    · rw [if_neg (by omega), if_neg h1]
/-- One link's place written. -/
theorem own_setLink {w : World} {base n g cap i : Nat} {f : Nat → Link} (h : w.ownsRow base 51 4 (.slice (some ⟨g, 0, none⟩) n cap) n (lnkL f n)) (hi : i < n) (x : Int) : (w.setCell ⟨g, i * 4 + 3, none⟩ (.int .i64 x)).ownsRow base 51 4 (.slice (some ⟨g, 0, none⟩) n cap) n (lnkL (fun j => if j = i then { f j with at_ := x } else f j) n) := by
  refine ⟨linkL_len _ _, ?_⟩
  rcases h.2 with ⟨h1, _⟩ | ⟨g', cap', cur, hv, hb, hg, hc, hm, hs, ht⟩
  · cases h1
  · cases hv
    refine .inr ⟨g, cap, cur.setIfInBounds (i * 4 + 3) (.int .i64 x), rfl, hb, by simp [World.setCell, Array.getElem?_modify, hg], hc, hm, by simpa using hs, ?_⟩
    rw [Array.toList_setIfInBounds, List.take_set, ht]
    refine List.ext_getElem? fun j => ?_
    rw [List.getElem?_set]
    have hl := linkL_len f n
    by_cases hj : j < n * 4
    · have e : j = j / 4 * 4 + j % 4 := by omega
      have hq : j / 4 < n := by omega
      have hm4 : j % 4 < 4 := Nat.mod_lt _ (by omega)
      rw [e, linkL_at f hq _ hm4, linkL_at _ hq _ hm4]
      by_cases hji : i * 4 + 3 = j
      · have e1 : j / 4 = i := by omega
        have e2 : j % 4 = 3 := by omega
        rw [if_pos (by omega), if_pos (by omega), e1, e2]
        simp [lnkV]
      · rw [if_neg (by omega)]
        by_cases e1 : j / 4 = i
        · have : j % 4 = 0 ∨ j % 4 = 1 ∨ j % 4 = 2 := by omega
          rw [if_pos e1]
          rcases this with q | q | q <;> rw [q] <;> simp [lnkV]
        · rw [if_neg e1]
    · rw [if_neg (by omega), List.getElem?_eq_none (by omega), List.getElem?_eq_none (by rw [linkL_len]; omega)]
theorem mvTo_ask {L : List Nat} {f : Nat → Link} {i : Nat} (h : (f i).ask = true) : mvTo L f (i + 1) = fun j => if j = i then { mvTo L f i j with at_ := ((L.idxOf (f i).at_.toNat : Nat) : Int) } else mvTo L f i j := by
  funext j
  unfold mvTo
  by_cases e : j = i
  · subst e
    rw [if_pos (by omega), if_pos rfl, if_neg (by omega), mvLink, if_pos h]
  · rw [if_neg e]
    by_cases h1 : j < i
    · rw [if_pos (by omega), if_pos h1]
    · rw [if_neg (by omega), if_neg h1]

end Go.Proofs.YtkikpcklccdihaaDoor.Vp
