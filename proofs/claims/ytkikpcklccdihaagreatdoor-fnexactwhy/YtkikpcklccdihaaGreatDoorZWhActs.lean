/-
  Put together of: WhActs, WhNum.
-/
import Derived.Test.YtkikpcklccdihaaGreatDoorZWhPart
import Derived.Test.YtkikpcklccdihaaGreatDoorZAuIns
import Derived.Test.YtkikpcklccdihaaGreatDoorZDOne

/-
  Why, impl: the actions that are known under each name: number.
-/
namespace Go.Proofs.YtkikpcklccdihaaGreatDoor.Vp
open Go.RowKit Go.Maps

/-- An action. -/
abbrev KAct := Nat × (Nat → Ins)
def sameA (q p : KAct) : Bool := codeB q.2 p.2 q.1 p.1
/-- Its number among those that are known. -/
def numOf (ps : List KAct) (p : KAct) : Nat := ps.findIdx fun q => sameA q p
def kputL (ps : List KAct) (p : KAct) : List KAct := if numOf ps p < ps.length then ps else ps ++ [p]
def kput (K : List UInt8 → List KAct) (s0 : List UInt8) (p : KAct) : List UInt8 → List KAct := fun s => if s = s0 then kputL (K s) p else K s
theorem numOf_le (ps : List KAct) (p : KAct) : numOf ps p ≤ ps.length := List.findIdx_le_length
theorem numOf_here {ps : List KAct} {p q : KAct} {k : Nat} (hq : ps[k]? = some q) (hs : sameA q p = true) (hb : ∀ j r, j < k → ps[j]? = some r → sameA r p = false) : numOf ps p = k := by
  obtain ⟨hk, rfl⟩ := List.getElem?_eq_some_iff.1 hq
  refine (List.findIdx_eq hk).2 ⟨hs, fun j hj => ?_⟩
  exact hb j _ hj (List.getElem?_eq_getElem (by omega))
theorem numOf_none {ps : List KAct} {p : KAct} (hb : ∀ j r, j < ps.length → ps[j]? = some r → sameA r p = false) : numOf ps p = ps.length := by
  refine List.findIdx_eq_length_of_false fun q hq => ?_
  obtain ⟨j, hj, rfl⟩ := List.mem_iff_getElem.1 hq
  exact hb j _ hj (List.getElem?_eq_getElem hj)

/-- All but the map kb and rows of programs stands as it stood; below B all does. -/
structure KA (B kb : Nat) (w w' : World) : Prop where
  below : Below B w w'
  blk : ∀ i, i < w.heap.size → i ≠ kb → (∀ cs fz, w.heap[i]? ≠ some (.cells cs 45 fz)) → w'.heap[i]? = w.heap[i]?
theorem KA.refl (B kb : Nat) (w : World) : KA B kb w w := ⟨Below.refl _ _, fun _ _ _ _ => rfl⟩
theorem KA.trans {B kb : Nat} {w w' w'' : World} (h : KA B kb w w') (k : KA B kb w' w'') : KA B kb w w'' :=
  ⟨h.below.trans k.below, fun i hi hk hm => by
    have h1 := h.blk i hi hk hm
    rw [← h1]
    exact k.blk i (Nat.lt_of_lt_of_le hi h.below.size) hk (fun es c => by rw [h1]; exact hm es c)⟩
theorem KA.of_below {B kb C : Nat} {w w' : World} (h : Below C w w') (hC : w.heap.size ≤ C) (hB : B ≤ w.heap.size) : KA B kb w w' :=
  ⟨h.mono (Nat.le_trans hB hC), fun i hi _ _ => h.block i (Nat.lt_of_lt_of_le hi hC)⟩
theorem KA.of_grown {B kb : Nat} {row : Option Nat} {w w' : World} (h : w.grownBy w' row) (hB : B ≤ w.heap.size) (hr : ∀ j, row = some j → B ≤ j ∧ (j = kb ∨ ∃ cs fz, w.heap[j]? = some (.cells cs 45 fz))) : KA B kb w w' :=
  ⟨below_of_grown h hB (fun j hj => (hr j hj).1), fun i hi hk hm => h.block i hi (fun e => by
    rcases (hr i e.symm).2 with h1 | ⟨cs, fz, h1⟩
    · exact hk h1
    · exact hm cs fz h1)⟩
theorem KA.cell {B kb : Nat} {w w' : World} (h : KA B kb w w') {p : Addr} {cs : Array Value} {t : TypeId} {fz : Nat × Nat} (ht : t ≠ 45) (hb : w.heap[p.block]? = some (.cells cs t fz)) (hk : p.block ≠ kb) : w'.cell? p = w.cell? p := by
  have hlt : p.block < w.heap.size := (Array.getElem?_eq_some_iff.1 hb).1
  exact World.cell?_of_block (h.blk _ hlt hk fun cs fz e => by rw [hb] at e; simp at e; exact ht e.2.1)

/-- What is known, and where it lies. w0: ahead of it all. -/
structure ActsV (w0 w : World) (kb n : Nat) (V : List UInt8 → Value) (K : List UInt8 → List KAct) : Prop where
  map : MapN w kb n (fun s => if (K s).isEmpty = true then none else some (V s))
  ge : w0.heap.size ≤ kb
  row : ∀ s, ∃ cs, w.ownsRow w0.heap.size 45 1 (V s) (K s).length cs ∧ ∀ (i : Nat) (p : KAct), (K s)[i]? = some p → ∃ a c, cs[i]? = some (Value.slice a p.1 c) ∧ SlIns w0 a p.1 p.2 ∧ p.1 ≤ 1048576
  nil : ∀ s, (K s).isEmpty = true → V s = .slice none 0 0
  len : ∀ s, (K s).length ≤ n
  inj : ∀ s s' g, (V s).ownBlock = some g → (V s').ownBlock = some g → s = s'
def Acts (w0 w : World) (kb n : Nat) (K : List UInt8 → List KAct) : Prop := ∃ V, ActsV w0 w kb n V K
theorem wa_ty {w : World} {base size n : Nat} {e : TypeId} {v : Value} {xs : List Value} (h : w.ownsRow base e size v n xs) : ∀ k, v.ownBlock = some k → base ≤ k ∧ k < w.heap.size ∧ ∃ cs fz, w.heap[k]? = some (.cells cs e fz) := by
  intro k hk
  rcases h.2 with ⟨rfl, _⟩ | ⟨g, cap, cur, rfl, hb, hg, _⟩
  · simp [Value.ownBlock] at hk
  · simp [Value.ownBlock] at hk
    subst hk
    exact ⟨hb, (Array.getElem?_eq_some_iff.1 hg).1, cur, _, hg⟩
theorem wa_blk {w w' : World} {base size n : Nat} {e : TypeId} {v : Value} {xs : List Value} (h : w.ownsRow base e size v n xs) (hb : ∀ k, v.ownBlock = some k → w'.heap[k]? = w.heap[k]?) : w'.ownsRow base e size v n xs := by
  refine ⟨h.1, ?_⟩
  rcases h.2 with hn | ⟨g, cap, cur, rfl, hb', hgg, rest⟩
  · exact .inl hn
  · exact .inr ⟨g, cap, cur, rfl, hb', (hb g rfl).trans hgg, rest⟩
theorem wa_slice {w : World} {base size n : Nat} {e : TypeId} {v : Value} {xs : List Value} (h : w.ownsRow base e size v n xs) : ∃ a cap, v = .slice a n cap := by
  rcases h.2 with ⟨h1, h2⟩ | ⟨g, c, cur, h1, _⟩
  · exact ⟨none, 0, by rw [h1, h2]⟩
  · exact ⟨_, _, h1⟩
theorem acts_new (w : World) : Acts w (w.alloc (.map #[] 0)) w.heap.size 0 (fun _ => []) :=
  ⟨fun _ => .slice none 0 0, (mapN_new w).congr fun s => by simp, Nat.le_refl _, fun s => ⟨[], World.ownsRow_nil _ _ _ _, fun i p h => by simp at h⟩, fun _ _ => rfl, fun _ => Nat.le_refl _, fun _ _ _ h => by simp [Value.ownBlock] at h⟩
theorem ActsV.below {w0 w w' : World} {kb n B : Nat} {V : List UInt8 → Value} {K : List UInt8 → List KAct} (h : ActsV w0 w kb n V K) (hb : Below B w w') (hB : w.heap.size ≤ B) : ActsV w0 w' kb n V K :=
  ⟨h.map.blk (hb.block _ (Nat.lt_of_lt_of_le h.map.lt hB)), h.ge, fun s => by
    obtain ⟨cs, h1, h2⟩ := h.row s
    exact ⟨cs, own_below h1 hb hB, h2⟩, h.nil, h.len, h.inj⟩
theorem ActsV.km {w0 w w' : World} {lo kb n : Nat} {V : List UInt8 → Value} {K : List UInt8 → List KAct} (h : ActsV w0 w kb n V K) (hk : KM lo w w') (hkb : kb < lo) : ActsV w0 w' kb n V K :=
  ⟨h.map.blk (hk.below.block _ hkb), h.ge, fun s => by
    obtain ⟨cs, h1, h2⟩ := h.row s
    exact ⟨cs, wa_blk h1 (fun k hk' => by
      obtain ⟨_, h4, cs', fz, h5⟩ := wa_ty h1 k hk'
      exact hk.blk k h4 (fun es c e => by rw [h5] at e; cases e)), h2⟩, h.nil, h.len, h.inj⟩
theorem Acts.km {w0 w w' : World} {lo kb n : Nat} {K : List UInt8 → List KAct} (h : Acts w0 w kb n K) (hk : KM lo w w') (hkb : kb < lo) : Acts w0 w' kb n K := h.elim fun V hV => ⟨V, hV.km hk hkb⟩
theorem Acts.below {w0 w w' : World} {kb n B : Nat} {K : List UInt8 → List KAct} (h : Acts w0 w kb n K) (hb : Below B w w') (hB : w.heap.size ≤ B) : Acts w0 w' kb n K := h.elim fun V hV => ⟨V, hV.below hb hB⟩
theorem ActsV.mono {w0 w : World} {kb n n' : Nat} {V : List UInt8 → Value} {K : List UInt8 → List KAct} (h : ActsV w0 w kb n V K) (hn : n ≤ n') : ActsV w0 w kb n' V K :=
  ⟨h.map.mono hn, h.ge, h.row, h.nil, fun s => Nat.le_trans (h.len s) hn, h.inj⟩
theorem Acts.mono {w0 w : World} {kb n n' : Nat} {K : List UInt8 → List KAct} (h : Acts w0 w kb n K) (hn : n ≤ n') : Acts w0 w kb n' K := h.elim fun V hV => ⟨V, hV.mono hn⟩
theorem Acts.lt {w0 w : World} {kb n : Nat} {K : List UInt8 → List KAct} (h : Acts w0 w kb n K) : kb < w.heap.size := by obtain ⟨_, hV⟩ := h; exact hV.map.lt
theorem ActsV.look {w0 w : World} {kb n : Nat} {V : List UInt8 → Value} {K : List UInt8 → List KAct} (h : ActsV w0 w kb n V K) (s : List UInt8) : (if (K s).isEmpty = true then none else some (V s) : Option Value).getD (.slice none 0 0) = V s := by
  by_cases e : (K s).isEmpty = true
  · rw [if_pos e, h.nil s e]; rfl
  · rw [if_neg e]; rfl
theorem kput_same {K : List UInt8 → List KAct} {s : List UInt8} {p : KAct} (h : numOf (K s) p < (K s).length) : kput K s p = K := by
  funext s'
  unfold kput
  by_cases e : s' = s
  · rw [if_pos e, e, kputL, if_pos h]
  · rw [if_neg e]

/-- Behind an append. -/
theorem ActsV.put {w0 w w' : World} {kb n : Nat} {V : List UInt8 → Value} {K : List UInt8 → List KAct} {s0 : List UInt8} {p : KAct} {v' : Value} {cs : List Value} {a : Option Addr} {c : Nat} (h : ActsV w0 w kb n V K) (hnum : numOf (K s0) p = (K s0).length)
    (hm : MapN w' kb (n + 1) (fun s => if s = s0 then some v' else if (K s).isEmpty = true then none else some (V s)))
    (hcs : ∀ (i : Nat) (p : KAct), (K s0)[i]? = some p → ∃ a c, cs[i]? = some (Value.slice a p.1 c) ∧ SlIns w0 a p.1 p.2 ∧ p.1 ≤ 1048576) (hlen : cs.length = (K s0).length)
    (hown : w'.ownsRow w0.heap.size 45 1 v' ((K s0).length + 1) (cs ++ [.slice a p.1 c])) (hp : p.1 ≤ 1048576) (hI : SlIns w0 a p.1 p.2)
    (hkept : ∀ s, s ≠ s0 → ∀ g, (V s).ownBlock = some g → w'.heap[g]? = w.heap[g]?) (hat : ∀ g, v'.ownBlock = some g → (V s0).ownBlock = some g ∨ w.heap.size ≤ g) : Acts w0 w' kb (n + 1) (kput K s0 p) := by
  have hK0 : kput K s0 p s0 = K s0 ++ [p] := by unfold kput kputL; rw [if_pos rfl, if_neg (by omega)]
  have hKo : ∀ s, s ≠ s0 → kput K s0 p s = K s := fun s hs => by unfold kput; rw [if_neg hs]
  refine ⟨fun s => if s = s0 then v' else V s, hm.congr fun s => ?_, h.ge, fun s => ?_, fun s hs => ?_, fun s => ?_, fun s s' g h1 h2 => ?_⟩
  · by_cases e : s = s0
    · rw [e, hK0, if_pos rfl, if_neg (by simp), if_pos rfl]
    · rw [if_neg e, hKo s e, if_neg e]
  · by_cases e : s = s0
    · rw [e, hK0, if_pos rfl]
      refine ⟨cs ++ [.slice a p.1 c], by simpa using hown, fun i q hq => ?_⟩
      rcases Nat.lt_or_ge i (K s0).length with hi | hi
      · rw [List.getElem?_append_left hi] at hq
        obtain ⟨a', c', h1, h2⟩ := hcs i q hq
        exact ⟨a', c', by rw [List.getElem?_append_left (by omega)]; exact h1, h2⟩
      · rw [List.getElem?_append_right hi] at hq
        rw [List.getElem?_append_right (by omega), hlen]
        obtain ⟨j, hj⟩ : ∃ j, i - (K s0).length = j := ⟨_, rfl⟩
        rw [hj] at hq ⊢
        cases j with
        | zero =>
          simp at hq
          subst hq
          exact ⟨a, c, rfl, hI, hp⟩
        | succ j => simp at hq
    · rw [if_neg e, hKo s e]
      obtain ⟨cs', h1, h2⟩ := h.row s
      exact ⟨cs', wa_blk h1 (hkept s e), h2⟩
  · by_cases e : s = s0
    · rw [e, hK0] at hs
      simp at hs
    · rw [if_neg e]
      rw [hKo s e] at hs
      exact h.nil s hs
  · by_cases e : s = s0
    · rw [e, hK0]
      have := h.len s0
      simp
      omega
    · rw [hKo s e]
      have := h.len s
      omega
  · have hold : ∀ s, s ≠ s0 → ∀ g, (V s).ownBlock = some g → v'.ownBlock = some g → False := fun s hs g h1 h2 => by
      rcases hat g h2 with h3 | h3
      · exact hs (h.inj s s0 g h1 h3)
      · obtain ⟨_, h4, _⟩ := h.row s
        have := (wa_ty (h.row s).choose_spec.1 g h1).2.1
        omega
    by_cases e : s = s0 <;> by_cases e' : s' = s0
    · rw [e, e']
    · rw [if_pos e] at h1
      rw [if_neg e'] at h2
      exact (hold s' e' g h2 h1).elim
    · rw [if_neg e] at h1
      rw [if_pos e'] at h2
      exact (hold s e g h1 h2).elim
    · rw [if_neg e] at h1
      rw [if_neg e'] at h2
      exact h.inj s s' g h1 h2

theorem infoProg : (Tryz.prog.info? 45).map (fun i => (i.zero, i.size, i.bytes)) = some (some (.agg #[.slice none 0 0]), 1, 24) := by kernel_rfl
theorem zeroProgS (w : World) : (zeroValue 129).run Tryz.prog w = .ok (.slice none 0 0) w := by kernel_rfl

end Go.Proofs.YtkikpcklccdihaaGreatDoor.Vp

/-
  Why, impl: number.
-/
namespace Go.Proofs.YtkikpcklccdihaaGreatDoor.Vp
open Go.RowKit Go.Maps

set_option maxRecDepth 100000 in
set_option maxHeartbeats 4000000 in
theorem number_v (w0 : World) (kb n : Nat) (V : List UInt8 → Value) (K : List UInt8 → List KAct) (name : ByteArray) (p : KAct) (a : Option Addr) (c : Nat) (w : World) (hn : (n : Int) ≤ 1000000) (hsz : name.size ≤ maxLen) (hp : p.1 ≤ 1048576) (hb : Below w0.heap.size w0 w) (hI : SlIns w0 a p.1 p.2) (h : ActsV w0 w kb n V K) :
    Calls Tryz.prog 54 #[.map (some kb), .string name, .agg #[.slice a p.1 c]] w fun e w' => e = .returned (.int .i64 (numOf (K name.toList) p : Nat)) ∧ Acts w0 w' kb (n + 1) (kput K name.toList p) ∧ KA w0.heap.size kb w w' := by
  obtain ⟨i0, hi, hy0, hy1, hy2⟩ := info_parts infoProg
  have B0 := hide ((Below.refl w.heap.size w).alloc (Nat.le_refl _) (.cells #[.slice a p.1 c] 45))
  have H0 := hide (h.below B0.out (Nat.le_refl _))
  have C0 := hide (hb.trans (B0.out.mono hb.size))
  have X0 := hide (show (w.alloc (.cells #[.slice a p.1 c] 45)).cell? ⟨w.heap.size, 0, none⟩ = some (.slice a p.1 c) by simp [go_sem])
  have E0 := hide (show w.heap.size < (w.alloc (.cells #[.slice a p.1 c] 45)).heap.size by simp)
  have K0 := hide (KA.of_below (B := w0.heap.size) (kb := kb) B0.out (Nat.le_refl _) hb.size)
  obtain ⟨cs, hcs1, hcs2⟩ := H0.out.row name.toList
  obtain ⟨a0, c0, hv⟩ := wa_slice hcs1
  rw [hv] at hcs1
  obtain ⟨ps, hps⟩ : ∃ ps, K name.toList = ps := ⟨_, rfl⟩
  have HV := hide ((H0.out.look name.toList).trans (hv.trans (show Value.slice a0 (K name.toList).length c0 = .slice a0 ps.length c0 by rw [hps])))
  have HV2 := hide (hv.trans (show Value.slice a0 (K name.toList).length c0 = .slice a0 ps.length c0 by rw [hps]))
  have HO := hide hcs1
  have HC := hide hcs2
  have HL := hide (show cs.length = (K name.toList).length by have := hcs1.1; omega)
  have HI := hide hI
  have hln : ((K name.toList).length : Int) ≤ 1000000 := by have := h.len name.toList; omega
  have HN := hide (show n < maxLen by unfold maxLen; omega)
  clear h hcs1 hcs2 hv hb hI
  have hz := zeroProgS
  have HP := hide hps
  rw [hps] at HO HC hln HL
  clear hps
  go_enter Tryz.func54, Tryz.ntmps54
  go_wp2_with (first
    | (at_lookup; generalize w.alloc (.cells #[.slice a p.1 c] 45) = W at B0 H0 C0 X0 E0 K0 HO ⊢; generalize w.heap.size = bx at X0 E0 ⊢; refine wpN_lookup _ rfl _ _ 51 rfl 129 Tryz.underlying51 (hz _) kb n _ rfl H0.out.map name rfl hsz (.slice a0 ps.length c0) HV.out ?_)
    | go_in)
  go_loopw [13] (fun i wr => ∃ k : Nat, k ≤ ps.length ∧ i = .int .i64 k ∧ Hid (∀ j r, j < k → ps[j]? = some r → sameA r p = false) ∧ Hid (Below W.heap.size W wr)) (fun i _ => ps.length - (intOf i).toNat)
  case atStart => exact ⟨0, Nat.zero_le _, rfl, fun j r hj => absurd hj (Nat.not_lt_zero _), Below.refl _ _⟩
  case round =>
    obtain ⟨k, hk, rfl, HK, HB⟩ := hrel
    by_cases hlt : k < ps.length
    · obtain ⟨g, c1, e⟩ := own_form HO.out (by omega)
      cases e
      obtain ⟨q, hq⟩ : ∃ q, ps[k]? = some q := ⟨_, List.getElem?_eq_getElem hlt⟩
      obtain ⟨a1, c2, hc1, hI1, hq1⟩ := HC.out k q hq
      have hcell : wr.cell? ⟨g, k, none⟩ = some (.slice a1 q.1 c2) := by
        have h1 := HO.out.cells (g := g) rfl k _ hc1
        have ha : (⟨g, 0, none⟩ : Addr).add k = ⟨g, 0 + k, none⟩ := by unfold Addr.add; split <;> simp_all
        rw [ha, Nat.zero_add] at h1
        exact (HB.out.cell (p := ⟨g, k, none⟩) (wa_ty HO.out g rfl).2.1).trans h1
      have hbx : (wr.alloc (.cells #[.slice a1 q.1 c2] 45)).cell? ⟨bx, 0, none⟩ = some (.slice a p.1 c) := ((HB.out.alloc HB.out.size _).cell (p := ⟨bx, 0, none⟩) E0.out).trans X0.out
      have D1 := hide (C0.out.trans ((HB.out.alloc HB.out.size (.cells #[.slice a1 q.1 c2] 45)).mono C0.out.size))
      have I1 := hide hI1
      have Q1 := hide hq
      clear hI1 hc1 hq
      have hlt2 : (k : Int) < ps.length := by omega
      go_wp2_with (go_at_call 70; refine (equalIns_any a1 q.1 c2 q.2 a p.1 c p.2 _ hq1 hp (I1.out.below D1.out (Nat.le_refl _)) (HI.out.below D1.out (Nat.le_refl _))).mono ?_; rintro e w2 ⟨rfl, m, rfl⟩)
      · rename_i hs
        go_ret
        have hnum : numOf (K name.toList) p = k := by rw [HP.out]; exact numOf_here Q1.out hs HK.out
        have hBm := below_drewN (HB.out.alloc HB.out.size (.cells #[.slice a1 q.1 c2] 45)) m
        refine ⟨by rw [hnum]; rfl, ?_, K0.out.trans (KA.of_below hBm (Nat.le_refl _) C0.out.size)⟩
        rw [kput_same (by rw [hnum, HP.out]; exact hlt)]
        exact ⟨V, (H0.out.below hBm (Nat.le_refl _)).mono (Nat.le_succ n)⟩
      · rename_i hs
        have hBm := below_drewN (HB.out.alloc HB.out.size (.cells #[.slice a1 q.1 c2] 45)) m
        refine ⟨⟨k + 1, by omega, by go_num, fun j r hj hr => ?_, hBm⟩, by simp [intOf]; omega⟩
        by_cases e : j = k
        · subst e
          rw [Q1.out] at hr
          cases hr
          exact hs
        · exact HK.out j r (by omega) hr
    · obtain rfl : k = ps.length := by omega
      have A1 := hide (H0.out.below HB.out (Nat.le_refl _))
      have hbx : wr.cell? ⟨bx, 0, none⟩ = some (.slice a p.1 c) := (HB.out.cell (p := ⟨bx, 0, none⟩) E0.out).trans X0.out
      have O1 := hide ((own_below HO.out HB.out (Nat.le_refl _)).alloc (.cells #[.slice a p.1 c] 45))
      have A2 := hide (A1.out.below ((Below.refl wr.heap.size wr).alloc (Nat.le_refl _) (.cells #[.slice a p.1 c] 45)) (Nat.le_refl _))
      have D1 := hide (C0.out.trans (HB.out.mono C0.out.size))
      have hw0 : w0.heap.size ≤ (wr.alloc (.cells #[.slice a p.1 c] 45)).heap.size := by have := D1.out.size; simp; omega
      go_wp2_with (first
        | (at_lookup; refine wpN_lookup _ rfl _ _ 51 rfl 129 Tryz.underlying51 (hz _) kb n _ rfl A1.out.map name rfl hsz (.slice a0 ps.length c0) HV.out ?_)
        | (at_builtin; refine wpList_append_own_at _ rfl (.tmp 29) (.tmp 31) 129 rfl w0.heap.size 45 i0 (.agg #[.slice none 0 0]) 1 24 Tryz.underlying129 hi hy0 hy1 hy2 rfl (by decide) (.slice a0 ps.length c0) ps.length cs (by simp [Act.eval]) O1.out ⟨wr.heap.size, 0, none⟩ 1 1 [.slice a p.1 c] (by simp [Act.eval]) rfl (cell_one_new _ _ _) (by simp [Value.oneCell']) (by unfold maxLen; omega) (by omega) hw0 ?_; intro v' w2 hown' hgrow hnil hat; obtain ⟨a3, c3, rfl⟩ := wa_slice hown'; have O2 := hide hown'; have G2 := hide hgrow; have AT := hide hat; clear hown' hgrow hat hnil; have N2 := hide (A2.out.map.blk (G2.out.block kb A2.out.map.lt (fun e => by obtain ⟨_, _, cs', fz, h5⟩ := wa_ty O1.out kb e.symm; obtain ⟨es, cl, h6⟩ := A2.out.map.isMap; rw [h5] at h6; cases h6))))
        | (at_mapUpdate; refine wpN_update _ rfl _ _ _ 51 rfl 129 Tryz.underlying51 kb n _ rfl N2.out HN.out name (.slice a3 (ps.length + 1) c3) rfl rfl hsz ?_; intro w3 hM3 hg3; have M3 := hide hM3; have G3 := hide hg3; clear hM3 hg3)
        | (at_lookup; refine wpN_lookup _ rfl _ _ 51 rfl 129 Tryz.underlying51 (hz _) kb (n + 1) _ rfl M3.out name rfl hsz (.slice a3 (ps.length + 1) c3) (by rw [if_pos rfl]; rfl) ?_)
        | go_in)
      go_ret
      have hnum : numOf (K name.toList) p = (K name.toList).length := by rw [HP.out]; exact numOf_none HK.out
      have hkb := A2.out.map.lt
      have hV : ∀ g, (V name.toList).ownBlock = some g → (Value.slice a0 ps.length c0).ownBlock = some g := fun g hg => by rw [← HV2.out]; exact hg
      have hold : ∀ s g, (V s).ownBlock = some g → g < (wr.alloc (.cells #[.slice a p.1 c] 45)).heap.size ∧ g ≠ kb := fun s g hg => by
        obtain ⟨cs', h1, _⟩ := A2.out.row s
        obtain ⟨_, h3, cs'', fz, h4⟩ := wa_ty h1 g hg
        exact ⟨h3, fun e => by obtain ⟨es, cl, h6⟩ := A2.out.map.isMap; rw [← e, h4] at h6; cases h6⟩
      refine ⟨by rw [hnum, HP.out]; go_num, A2.out.put (v' := .slice a3 (ps.length + 1) c3) (cs := cs) (a := a) (c := c) hnum M3.out (by rw [HP.out]; exact HC.out) (by rw [HP.out]; exact HL.out) ?_ hp HI.out (fun s hs g hg => ?_) (fun g hg => ?_), K0.out.trans ((KA.of_below HB.out (Nat.le_refl _) C0.out.size).trans ((KA.of_below ((Below.refl wr.heap.size wr).alloc (Nat.le_refl _) _) (Nat.le_refl _) D1.out.size).trans ((KA.of_grown G2.out hw0 (fun j hj => ?_)).trans (KA.of_grown G3.out (Nat.le_trans hw0 G2.out.size) (fun j hj => ?_)))))⟩
      · rw [HP.out]
        refine wa_blk O2.out fun g hg => G3.out.block g (wa_ty O2.out g hg).2.1 (fun e => ?_)
        obtain ⟨_, _, cs', fz, h5⟩ := wa_ty O2.out g hg
        obtain ⟨es, cl, h6⟩ := N2.out.isMap
        cases e
        rw [h5] at h6
        cases h6
      · obtain ⟨h1, h2⟩ := hold s g hg
        rw [G3.out.block g (Nat.lt_of_lt_of_le h1 G2.out.size) (fun e => h2 (by cases e; rfl)), G2.out.block g h1 (fun e => hs (A2.out.inj _ _ g hg (by rw [HV2.out]; exact e.symm)))]
      · rcases AT.out with h | h
        · exact .inl (by rw [HV2.out, ← h]; exact hg)
        · rw [h] at hg
          cases hg
          exact .inr (Nat.le_refl _)
      · obtain ⟨h1, h2, cs', fz, h3⟩ := wa_ty O1.out j hj
        exact ⟨h1, .inr ⟨cs', fz, h3⟩⟩
      · cases hj
        exact ⟨A2.out.ge, .inl rfl⟩

theorem number_any (w0 : World) (kb n : Nat) (K : List UInt8 → List KAct) (name : ByteArray) (p : KAct) (a : Option Addr) (c : Nat) (w : World) (hn : (n : Int) ≤ 1000000) (hsz : name.size ≤ maxLen) (hp : p.1 ≤ 1048576) (hb : Below w0.heap.size w0 w) (hI : SlIns w0 a p.1 p.2) (h : Acts w0 w kb n K) :
    Calls Tryz.prog 54 #[.map (some kb), .string name, .agg #[.slice a p.1 c]] w fun e w' => e = .returned (.int .i64 (numOf (K name.toList) p : Nat)) ∧ Acts w0 w' kb (n + 1) (kput K name.toList p) ∧ KA w0.heap.size kb w w' := by
  obtain ⟨V, hV⟩ := h
  exact number_v w0 kb n V K name p a c w hn hsz hp hb hI hV

end Go.Proofs.YtkikpcklccdihaaGreatDoor.Vp
