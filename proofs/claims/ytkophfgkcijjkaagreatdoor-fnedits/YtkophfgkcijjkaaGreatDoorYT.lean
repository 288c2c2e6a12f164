import Derived.Test.YtkophfgkcijjkaaGreatDoorYJ
import Derived.Test.YtkophfgkcijjkaaGreatDoorYM
import Derived.Test.YtkophfgkcijjkaaGreatDoorYD
namespace Go.Proofs.YtkophfgkcijjkaaGreatDoor.Vp
open Go.RowKit
def MSp (W : World) (a0 : Option Addr) (c0 : Nat) (a1 : Option Addr) (c1 : Nat) (LS : List Source) (LT : List Target) : Prop :=
  ∃ (base : Nat) (R : List TR), W.ownsRow base 100 2 (.slice a0 LS.length c0) LS.length (LS.flatMap srcV) ∧ TRow W base (.slice a1 R.length c1) R ∧ R.map (·.1) = LT
theorem msp_of {W : World} {base : Nat} {v0 v1 : Value} {LS : List Source} {R : List TR} {LT : List Target} (h0 : W.ownsRow base 100 2 v0 LS.length (LS.flatMap srcV)) (h1 : TRow W base v1 R) (h2 : R.map (·.1) = LT) :
    ∃ a0 c0 a1 c1, v0 = .slice a0 LS.length c0 ∧ v1 = .slice a1 LT.length c1 ∧ MSp W a0 c0 a1 c1 LS LT := by
  obtain ⟨a0, c0, rfl⟩ := own_slice h0
  obtain ⟨a1, c1, rfl⟩ := own_slice h1.own
  refine ⟨a0, c0, a1, c1, rfl, ?_, base, R, h0, h1, h2⟩
  rw [← h2, List.length_map]
theorem MSp.below {W V : World} {a0 a1 : Option Addr} {c0 c1 B : Nat} {LS : List Source} {LT : List Target} (h : MSp W a0 c0 a1 c1 LS LT) (hb : Below B W V) (hB : W.heap.size ≤ B) : MSp V a0 c0 a1 c1 LS LT := by
  obtain ⟨base, R, h0, h1, h2⟩ := h
  exact ⟨base, R, own_below h0 hb hB, h1.below hb hB, h2⟩
theorem MSp.s0 {W : World} {a0 a1 : Option Addr} {c0 c1 : Nat} {LS : List Source} {LT : List Target} (h : MSp W a0 c0 a1 c1 LS LT) : SlSource W a0 LS.length (srcF LS) := by
  obtain ⟨base, R, h0, h1, h2⟩ := h
  exact own_src h0
theorem MSp.s1 {W : World} {a0 a1 : Option Addr} {c0 c1 : Nat} {LS : List Source} {LT : List Target} (h : MSp W a0 c0 a1 c1 LS LT) : SlTarget W a1 LT.length (tgtF LT) := by
  obtain ⟨base, R, h0, h1, rfl⟩ := h
  have := trow_tgt h1
  rw [List.length_map]
  exact this
theorem MSp.rows {W : World} {a0 a1 : Option Addr} {c0 c1 : Nat} {LS : List Source} {LT : List Target} (h : MSp W a0 c0 a1 c1 LS LT) : ∀ i, i < LT.length → ∃ tb g c, a1 = some ⟨tb, 0, none⟩ ∧ tb < W.heap.size ∧ W.cell? ⟨tb, i * 2, none⟩ = some (.string (tgtF LT i).name) ∧ W.cell? ⟨tb, i * 2 + 1, none⟩ = some (.slice (some ⟨g, 0, none⟩) (tgtF LT i).actN c) ∧ RowIns W g 0 (tgtF LT i).actN (tgtF LT i).act := by
  obtain ⟨base, R, h0, h1, rfl⟩ := h
  intro i hi
  have hi' : i < R.length := by simpa using hi
  obtain ⟨b, off, hab, hlt, hc⟩ := trow_cells h1 (by omega)
  obtain ⟨g, c', e⟩ := own_some h1.own (by omega)
  simp at e
  obtain ⟨rfl, rfl⟩ := e
  simp at hab
  obtain ⟨rfl, rfl⟩ := hab
  obtain ⟨k1, k2⟩ := hc i hi'
  have et : tgtF (R.map (·.1)) i = R[i].1 := by simp [tgtF, hi']
  have eg : R.getD i dfR = R[i] := by simp [List.getD, hi']
  rw [eg] at k1 k2
  rw [et]
  simp only [Nat.zero_add] at k1 k2
  exact ⟨_, R[i].2.1, R[i].2.2, rfl, hlt, k1, k2, (h1.act _ (List.getElem_mem hi')).1⟩
structure Sml (LS : List Source) (LT : List Target) : Prop where
  n0 : LS.length ≤ 300
  n1 : LT.length ≤ 300
  act : ∀ i, i < LT.length → (tgtF LT i).actN ≤ 300 ∧ ∀ j, j < (tgtF LT i).actN → ((tgtF LT i).act j).s.size ≤ 5000
theorem Sml.fit {LS : List Source} {LT : List Target} (h : Sml LS LT) : ∀ i, i < LT.length → FitsTarget (tgtF LT i) := fun i hi => by
  have := (h.act i hi).1
  unfold FitsTarget
  omega
theorem Sml.lens {LS : List Source} {LT : List Target} (h : Sml LS LT) : ∀ i, i < LT.length → ∀ j, j < (tgtF LT i).actN → ((tgtF LT i).act j).s.size ≤ maxLen := fun i hi j hj => by
  have := (h.act i hi).2 j hj
  unfold maxLen
  omega
theorem sml_nil : Sml [] [] := ⟨by simp, by simp, fun i hi => absurd hi (by simp)⟩
theorem GoodL.sml {LS : List Source} {LT : List Target} (h : GoodL LS LT) : Sml LS LT := by
  have hf := h.few
  refine ⟨by omega, by omega, fun i hi => ?_⟩
  rw [tgtF_at hi]
  have hv := (h.tgt _ (List.getElem_mem hi)).2
  unfold wrongA at hv
  have hv' : valid LT[i].act LT[i].actN = true := by simpa using hv
  obtain ⟨h1, h2, h3⟩ := valid_parts hv'
  refine ⟨by omega, fun j hj => ?_⟩
  have hk := ok_at h1 hj
  unfold insOk at hk
  rw [decide_eq_true_eq] at hk
  have hm : mostText (LT[i].act j).op ≤ 2000 := by unfold mostText; split <;> omega
  omega
theorem wSpace_two {W : World} {a0 a1 b0 b1 : Option Addr} {c0 c1 d0 d1 : Nat} {LS : List Source} {LT : List Target} (h1 : MSp W a0 c0 a1 c1 LS LT) (h2 : MSp W b0 d0 b1 d1 LS LT) (hs : Sml LS LT) :
    Calls Tryz.prog 12 #[.agg #[.slice a0 LS.length c0, .slice a1 LT.length c1], .agg #[.slice b0 LS.length d0, .slice b1 LT.length d1]] W fun e w' => e = .returned (.bool true) ∧ Below W.heap.size W w' :=
  wSpace_same LS.length c0 LT.length c1 d0 d1 a0 a1 b0 b1 (srcF LS) (tgtF LT) W (by have := hs.n0; omega) (by have := hs.n1; omega) h1.s0 h2.s0 hs.fit h1.rows h2.rows
theorem putS_sml {n0 : Nat} {f0 : Nat → Source} {n1 : Nat} {f1 : Nat → Target} {t tx : ByteArray} : Sml (putS n0 f0 n1 f1 t tx) (putT n0 f0 n1 f1 t tx) := by
  by_cases h : putC n0 f0 n1 f1 t tx = 0
  · exact (put_made h).1.sml
  · rw [putS, putT, if_neg h, if_neg h]; exact sml_nil
theorem room_good {LS : List Source} {LT : List Target} {t : ByteArray} {m : Nat} {fp : Nat → Ins} (h : roomC LS.length (srcF LS) LT.length (tgtF LT) t (valid fp m) = 0) :
    nameOk t = true ∧ GoodL (putTS LS.length (srcF LS) LT.length (tgtF LT) t m fp) (putTT LS.length (srcF LS) LT.length (tgtF LT) t m fp) ∧ ∃ i : Nat, (putTT LS.length (srcF LS) LT.length (tgtF LT) t m fp)[i]? = some ⟨t, m, fp⟩ := by
  have h' := h
  unfold roomC at h'
  by_cases a1 : checkC LS.length (srcF LS) LT.length (tgtF LT) ≠ 0
  · rw [if_pos a1] at h'; cases h'
  rw [if_neg a1] at h'
  by_cases a2 : nameOk t = false ∨ valid fp m = false
  · rw [if_pos a2] at h'; cases h'
  rw [if_neg a2] at h'
  by_cases a3 : 200 ≤ (keepS (srcF LS) t LS.length).length + (keepT (tgtF LT) t LT.length).length
  · rw [if_pos a3] at h'; cases h'
  have hc : checkC LS.length (srcF LS) LT.length (tgtF LT) = 0 := by omega
  have hn : nameOk t = true := by rw [← Bool.not_eq_false]; exact fun e => a2 (.inl e)
  have hv : valid fp m = true := by rw [← Bool.not_eq_false]; exact fun e => a2 (.inr e)
  obtain ⟨g1, g2⟩ := good_putT (x := ⟨t, m, fp⟩) (t := t) (good_keep t hc) rfl (by omega) hn (by unfold wrongA; simp [hv]) keepS_not keepT_no
  have e0 : putTS LS.length (srcF LS) LT.length (tgtF LT) t m fp = keepS (srcF LS) t LS.length := by rw [putTS, if_pos h]
  have e1 : putTT LS.length (srcF LS) LT.length (tgtF LT) t m fp = insT (keepT (tgtF LT) t LT.length) ⟨t, m, fp⟩ t := by rw [putTT, if_pos h]
  rw [e0, e1]
  exact ⟨hn, g1, g2⟩
theorem room_sml {LS : List Source} {LT : List Target} {t : ByteArray} {m : Nat} {fp : Nat → Ins} : Sml (putTS LS.length (srcF LS) LT.length (tgtF LT) t m fp) (putTT LS.length (srcF LS) LT.length (tgtF LT) t m fp) := by
  by_cases h : roomC LS.length (srcF LS) LT.length (tgtF LT) t (valid fp m) = 0
  · exact (room_good h).2.1.sml
  · rw [putTS, putTT, if_neg h, if_neg h]; exact sml_nil
end Go.Proofs.YtkophfgkcijjkaaGreatDoor.Vp
