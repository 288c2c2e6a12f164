/-
  Put together of: NmPure, NmPut.
-/
import Derived.Test.YtkikpcklccdihaaGreatDoorZB
import Derived.Sort.Walk0
import Derived.Sort.EncStr
import Derived.Test.YtkikpcklccdihaaGreatDoorZAcOk
import Derived.Test.YtkikpcklccdihaaGreatDoorZDOne
import Derived.Test.YtkikpcklccdihaaGreatDoorZDRowS

/-
  Names in order: a list that ascends, a name put into it once.
-/
namespace Go.Proofs.YtkikpcklccdihaaGreatDoor.Vp
open Go.RowKit

def lput : List (List UInt8) → List UInt8 → List (List UInt8)
  | [], x => [x]
  | y :: ys, x => if y < x then y :: lput ys x else if y = x then y :: ys else x :: y :: ys

theorem mem_lput (l : List (List UInt8)) (x z : List UInt8) : z ∈ lput l x ↔ z ∈ l ∨ z = x := by
  induction l with
  | nil => simp [lput]
  | cons y ys ih =>
    rw [lput]
    split
    · rw [List.mem_cons, ih, List.mem_cons, or_assoc]
    · split
      · rename_i e
        subst e
        simp only [List.mem_cons]
        constructor
        · exact fun h => .inl h
        · rintro (h | h)
          · exact h
          · exact .inl h
      · simp only [List.mem_cons]
        constructor
        · rintro (h | h | h)
          · exact .inr h
          · exact .inl (.inl h)
          · exact .inl (.inr h)
        · rintro ((h | h) | h)
          · exact .inr (.inl h)
          · exact .inr (.inr h)
          · exact .inl h

theorem text_lt_of {x y : List UInt8} (h1 : ¬ y < x) (h2 : y ≠ x) : x < y := by
  rcases List.le_total x y with h | h
  · exact Classical.byContradiction fun hc => h2 (List.le_antisymm hc h)
  · exact Classical.byContradiction fun hc => h2 (List.le_antisymm h h1)

theorem asc_lput {l : List (List UInt8)} (h : l.Pairwise (· < ·)) (x : List UInt8) : (lput l x).Pairwise (· < ·) := by
  induction l with
  | nil => simp [lput]
  | cons y ys ih =>
    obtain ⟨h1, h2⟩ := List.pairwise_cons.1 h
    rw [lput]
    split
    · rename_i hlt
      refine List.pairwise_cons.2 ⟨fun z hz => ?_, ih h2⟩
      rcases (mem_lput _ _ _).1 hz with hz | rfl
      · exact h1 z hz
      · exact hlt
    · split
      · exact h
      · rename_i hn he
        have hxy := text_lt_of hn he
        refine List.pairwise_cons.2 ⟨fun z hz => ?_, h⟩
        rcases List.mem_cons.1 hz with rfl | hz
        · exact hxy
        · exact List.lt_trans hxy (h1 z hz)

theorem asc_ext : ∀ {l m : List (List UInt8)}, l.Pairwise (· < ·) → m.Pairwise (· < ·) → (∀ z, z ∈ l ↔ z ∈ m) → l = m
  | [], [], _, _, _ => rfl
  | [], y :: ys, _, _, h => by have := (h y).2 (by simp); simp at this
  | x :: xs, [], _, _, h => by have := (h x).1 (by simp); simp at this
  | x :: xs, y :: ys, h1, h2, h => by
    obtain ⟨a1, a2⟩ := List.pairwise_cons.1 h1
    obtain ⟨b1, b2⟩ := List.pairwise_cons.1 h2
    have hxy : x = y := by
      rcases List.mem_cons.1 ((h x).1 (by simp)) with e | e
      · exact e
      · rcases List.mem_cons.1 ((h y).2 (by simp)) with e' | e'
        · exact e'.symm
        · exact absurd (List.lt_trans (b1 x e) (a1 y e')) (List.lt_irrefl _)
    subst hxy
    congr 1
    refine asc_ext a2 b2 fun z => ?_
    have hz := h z
    simp only [List.mem_cons] at hz
    constructor
    · intro hm
      rcases hz.1 (.inr hm) with e | e
      · subst e; exact absurd (a1 _ hm) (List.lt_irrefl _)
      · exact e
    · intro hm
      rcases hz.2 (.inr hm) with e | e
      · subst e; exact absurd (b1 _ hm) (List.lt_irrefl _)
      · exact e

theorem asc_sort {ss : List (List UInt8)} (h : ss.Nodup) : (ss.mergeSort (fun x y => decide (x ≤ y))).Pairwise (· < ·) := by
  have hs : (ss.mergeSort (fun x y => decide (x ≤ y))).Pairwise (fun x y => decide (x ≤ y) = true) :=
    List.pairwise_mergeSort (fun a b c hab hbc => by simp only [decide_eq_true_eq] at *; exact List.le_trans hab hbc) (fun a b => by simp only [Bool.or_eq_true, decide_eq_true_eq]; exact List.le_total a b) ss
  have hn : (ss.mergeSort (fun x y => decide (x ≤ y))).Nodup := (List.mergeSort_perm ss _).nodup_iff.2 h
  refine (hs.and hn).imp ?_
  rintro a b ⟨h1, h2⟩
  exact text_lt_of (by simpa using h1) (Ne.symm h2)

/-- the keys of a set, sorted, are any list that ascends and has the same names. -/
theorem sort_is {ss l : List (List UInt8)} (h : ss.Nodup) (hl : l.Pairwise (· < ·)) (hm : ∀ z, z ∈ ss ↔ z ∈ l) : ss.mergeSort (fun x y => decide (x ≤ y)) = l :=
  asc_ext (asc_sort h) hl fun z => by rw [← hm z]; exact (List.mergeSort_perm ss _).mem_iff

/-- where a name is put. -/
theorem lput_at : ∀ (l : List (List UInt8)) (x : List UInt8) (k : Nat), k ≤ l.length → (∀ j (h : j < l.length), j < k → l[j] < x) → (∀ h : k < l.length, ¬ l[k] < x) → lput l x = if l[k]? = some x then l else l.take k ++ x :: l.drop k
  | [], x, k, hk, _, _ => by simp at hk; subst hk; simp [lput]
  | y :: ys, x, 0, hk, h1, h2 => by
    have := h2 (by simp)
    simp only [List.getElem_cons_zero] at this
    rw [lput, if_neg this]
    simp
  | y :: ys, x, k + 1, hk, h1, h2 => by
    have h0 := h1 0 (by simp) (by omega)
    simp only [List.getElem_cons_zero] at h0
    rw [lput, if_pos h0, lput_at ys x k (by simpa using hk) (fun j h hj => by have := h1 (j + 1) (by simpa using h) (by omega); simpa using this) (fun h => by have := h2 (by simpa using h); simpa using this)]
    simp only [List.getElem?_cons_succ, List.take_succ_cons, List.drop_succ_cons]
    split <;> rfl

theorem lput_len (l : List (List UInt8)) (x : List UInt8) : (lput l x).length ≤ l.length + 1 := by
  induction l with
  | nil => simp [lput]
  | cons y ys ih =>
    rw [lput]
    split
    · simp only [List.length_cons]; omega
    · split <;> simp

end Go.Proofs.YtkikpcklccdihaaGreatDoor.Vp

/-
  spec: l5Put.
-/
namespace Go.Proofs.YtkikpcklccdihaaGreatDoor.Vp
open Go.RowKit Go.Sort

/-- a list of names as a function of the place. -/
def nmF (L : List (List UInt8)) (j : Nat) : ByteArray := ⟨(L.getD j []).toArray⟩
theorem nmF_at {L : List (List UInt8)} {j : Nat} (h : j < L.length) : (nmF L j).toList = L[j] := by
  simp [nmF, ByteArray.toList_eq, List.getD, h]
theorem nmF_enc {L : List (List UInt8)} {j : Nat} (h : j < L.length) : Value.string (nmF L j) = encStr L[j] := by
  simp [nmF, List.getD, h]
theorem nmF_data (x : ByteArray) : (⟨x.toList.toArray⟩ : ByteArray) = x := by
  rw [ByteArray.toList_eq]

theorem row_of_owns {w : World} {base g c : Nat} {L : List (List UInt8)} (h : w.ownsRow base 9 1 (.slice (some ⟨g, 0, none⟩) L.length c) L.length (L.map encStr)) : RowStr w g 0 L.length (nmF L) := by
  rcases h.2 with ⟨hv, h0⟩ | ⟨g', cap, cur, hv, hb, hg, hc1, hc2, hc3, hc4⟩
  · simp at hv
  · simp only [Value.slice.injEq, Option.some.injEq, Addr.mk.injEq] at hv
    obtain ⟨⟨rfl, -⟩, -, rfl⟩ := hv
    have hlt : g < w.heap.size := by
      rcases Nat.lt_or_ge g w.heap.size with h1 | h1
      · exact h1
      · rw [Array.getElem?_eq_none h1] at hg; simp at hg
    refine ⟨hlt, fun i hi => ?_⟩
    have e1 : w.cell? ⟨g, 0 + i, none⟩ = cur[i]? := by simp [World.cell?, hg]
    have e2 : (cur.toList.take (L.length * 1))[i]? = (L.map encStr)[i]? := by rw [hc4]
    rw [List.getElem?_take, if_pos (by omega), Array.getElem?_toList, List.getElem?_map, List.getElem?_eq_getElem hi] at e2
    rw [e1, e2, nmF_enc hi]
    rfl

theorem row_news {w : World} {b off n : Nat} {L : List (List UInt8)} (hR : RowStr w b off n (nmF L)) (hn : n = L.length) (k m : Nat) : ∀ j u, (((L.drop k).take m).map encStr)[j]? = some u → w.cell? ((⟨b, off + k, none⟩ : Addr).add j) = some u := by
  intro j u hj
  rw [List.getElem?_map, List.getElem?_take] at hj
  split at hj
  · rw [List.getElem?_drop] at hj
    rcases Nat.lt_or_ge (k + j) L.length with h1 | h1
    · rw [List.getElem?_eq_getElem h1] at hj
      have := hR.2 (k + j) (by omega)
      rw [nmF_enc h1] at this
      rw [Addr.add_lit, Nat.add_assoc, this]
      simpa using hj
    · rw [List.getElem?_eq_none h1] at hj
      simp at hj
  · simp at hj

theorem row_news' {w : World} {b off n cap : Nat} {L : List (List UInt8)} (hR : RowStr w b off n (nmF L)) (hn : n = L.length) (k : Nat) (hk : k ≤ n) (hc : (n : Int) ≤ cap) : ∀ j u, (((L.drop k).take (n - k)).map encStr)[j]? = some u → w.cell? ((⟨b, off + if cap = k then 0 else k, none⟩ : Addr).add j) = some u := by
  by_cases h : cap = k
  · have : n - k = 0 := by omega
    rw [this]
    intro j u hj
    simp at hj
  · rw [if_neg h]
    exact row_news hR hn k (n - k)

theorem enc_one (l : List (List UInt8)) : ∀ u ∈ l.map encStr, u.oneCell' = true := by
  intro u hu
  obtain ⟨x, -, rfl⟩ := List.mem_map.1 hu
  rfl

theorem infoStr : (Tryz.prog.info? 9).map (fun i => (i.zero, i.size, i.bytes)) = some (some (.string ⟨#[]⟩), 1, 16) := by kernel_rfl

theorem lput_here {L : List (List UInt8)} {x : List UInt8} {n k : Nat} (hL : n = L.length) (hk : k ≤ n) (hlo : ∀ j, j < k → (nmF L j).toList < x) (hhi : k < n → ¬ (nmF L k).toList < x) : lput L x = if L[k]? = some x then L else L.take k ++ x :: L.drop k :=
  lput_at L x k (by omega) (fun j h hj => by rw [← nmF_at h]; exact hlo j hj) (fun h => by rw [← nmF_at h]; exact hhi (by omega))

theorem lput_same {L : List (List UInt8)} {x : List UInt8} {n k : Nat} (hL : n = L.length) (hk : k < n) (hlo : ∀ j, j < k → (nmF L j).toList < x) (hhi : ¬ (nmF L k).toList < x) (he : (nmF L k).toList = x) : lput L x = L := by
  have hk' : k < L.length := by omega
  rw [lput_here hL (Nat.le_of_lt hk) hlo (fun _ => hhi), if_pos]
  rw [List.getElem?_eq_getElem hk', ← nmF_at hk', he]

theorem put_done {w : World} {base n k : Nat} {v : Value} {L : List (List UInt8)} {x : ByteArray} (h : w.ownsRow base 9 1 v (0 + k + 1 + (n - k)) ([] ++ (L.take k).map encStr ++ [.string x] ++ ((L.drop k).take (n - k)).map encStr)) (hL : n = L.length) (hk : k ≤ n)
    (hlo : ∀ j, j < k → (nmF L j).toList < x.toList) (hhi : k < n → ¬ (nmF L k).toList < x.toList ∧ (nmF L k).toList ≠ x.toList) :
    ∃ b' off' n' cap' : Nat, v = .slice (some ⟨b', off', none⟩) n' cap' ∧ n' = (lput L x.toList).length ∧ (n' : Int) ≤ cap' ∧ RowStr w b' off' n' (nmF (lput L x.toList)) := by
  rw [List.take_of_length_le (l := L.drop k) (by simp; omega)] at h
  have e : lput L x.toList = L.take k ++ x.toList :: L.drop k := by
    rw [lput_here hL hk hlo (fun h => (hhi h).1), if_neg]
    intro he
    rcases Nat.lt_or_ge k L.length with h1 | h1
    · rw [List.getElem?_eq_getElem h1, ← nmF_at h1] at he
      exact (hhi (by omega)).2 (by simpa using he)
    · rw [List.getElem?_eq_none h1] at he
      simp at he
  have el : (lput L x.toList).map encStr = [] ++ (L.take k).map encStr ++ [.string x] ++ (L.drop k).map encStr := by
    rw [e]
    simp [nmF_data]
  have en : 0 + k + 1 + (n - k) = (lput L x.toList).length := by
    rw [e]
    simp
    omega
  rw [en, ← el] at h
  have hp : 0 < (lput L x.toList).length := by omega
  obtain ⟨g, c, rfl⟩ := own_form h hp
  refine ⟨g, 0, _, c, rfl, rfl, ?_, row_of_owns h⟩
  rcases h.2 with ⟨hv, h0⟩ | ⟨g', cap, cur, hv, hb, hg, hc1, hc2, hc3, hc4⟩
  · simp at hv
  · simp only [Value.slice.injEq] at hv
    obtain ⟨-, -, rfl⟩ := hv
    omega

set_option maxRecDepth 100000 in
set_option maxHeartbeats 4000000 in
theorem l5Put_any (b off n cap : Nat) (L : List (List UInt8)) (x : ByteArray) (w : World) (hL : n = L.length) (hn : (n : Int) ≤ 1048576) (hcap : (n : Int) ≤ cap) (hR : RowStr w b off n (nmF L)) :
    Calls Tryz.prog 18 #[.slice (some ⟨b, off, none⟩) n cap, .string x] w fun e w' => ∃ b' off' n' cap' : Nat, e = .returned (.slice (some ⟨b', off', none⟩) n' cap') ∧ n' = (lput L x.toList).length ∧ (n' : Int) ≤ cap' ∧ RowStr w' b' off' n' (nmF (lput L x.toList)) ∧ Below w.heap.size w w' := by
  obtain ⟨i0, hi, hz0, hz1, hz2⟩ := info_parts infoStr
  have HR := hide hR
  have HL := hide hL
  clear hR hL
  go_enter Tryz.func18, Tryz.ntmps18
  go_wp2
  go_loop [5] (fun i => ∃ k : Nat, k ≤ n ∧ i = .int .i64 k ∧ Hid (∀ j, j < k → (nmF L j).toList < x.toList)) (fun i => n - (intOf i).toNat)
  case atStart => exact ⟨0, by omega, rfl, fun j hj => absurd hj (Nat.not_lt_zero _)⟩
  case round =>
    obtain ⟨k, hk, rfl, HK⟩ := hrel
    have hkc : (k : Int) ≤ cap := by omega
    by_cases hlt : k < n
    · have hck := HR.out.2 k hlt
      cases hb : Op.bytesLess (nmF L k).toList x.toList with
      | true =>
        go_wp2
        exact ⟨⟨k + 1, by omega, by go_num, fun j hj => by
          by_cases e : j = k
          · subst e; rw [bytesLess_eq] at hb; exact of_decide_eq_true hb
          · exact HK.out j (by omega)⟩, by simp [intOf]; omega⟩
      | false =>
        have hb' : ¬ (nmF L k).toList < x.toList := by rw [bytesLess_eq] at hb; exact of_decide_eq_false hb
        have HHb := hide hb'
        clear hb'
        cases he : ((nmF L k).toList == x.toList) with
        | true =>
          have ES := hide (lput_same HL.out hlt HK.out HHb.out (by simpa using he))
          go_wp2
          go_ret
          exact ⟨b, off, n, cap, rfl, by rw [ES.out]; exact HL.out, by omega, by rw [ES.out]; exact HR.out, Below.refl _ _⟩
        | false =>
          have HI := hide (show k < n → ¬ (nmF L k).toList < x.toList ∧ (nmF L k).toList ≠ x.toList from fun _ => ⟨HHb.out, by simpa using he⟩)
          clear HHb
          have O0 := hide (own_lit w 9 1)
          have B0 := hide ((Below.refl w.heap.size w).alloc (Nat.le_refl _) (.cells #[] 9))
          have N1 := hide (row_news (HR.out.below B0.out (Nat.le_refl _)) HL.out 0 k)
          go_wp2_with (at_builtin; refine wpList_append_own _ rfl (.tmp 34) (.tmp 37) 26 rfl w.heap.size 9 i0 (.string ⟨#[]⟩) 1 16 Tryz.underlying26 hi hz0 hz1 hz2 rfl (by decide) (.slice (some ⟨w.heap.size, 0, none⟩) 0 0) 0 [] (by simp [Act.eval]) O0.out ⟨b, off, none⟩ k cap ((L.take k).map encStr) (by simp [Act.eval]) (by have := HL.out; first | (simp; done) | (simp; omega)) (by simpa using N1.out) (enc_one _) (by unfold maxLen; omega) (by omega) (by simp) ?_; intro v1 w1 hown hgrow hnil; have O1 := hide hown; have B1 := hide (Below.grown B0.out hgrow (by simp) (fun j e => (O0.out.lt j e).1)); clear hown hgrow hnil N1 O0 B0)
          have R1 := hide (HR.out.below B1.out (Nat.le_refl _))
          have z1 := B1.out.size
          go_region_law (first
            | (refine step_append_own rfl (.tmp 39) (.tmp 41) 26 rfl w.heap.size 9 i0 (.string ⟨#[]⟩) 1 16 Tryz.underlying26 hi hz0 hz1 hz2 rfl (by decide) v1 (0 + k) ([] ++ (L.take k).map encStr) (by simp [Act.eval]) (by first | exact O1.out.alloc _ | exact O1.out.drew.alloc _ | exact O1.out.drew.drew.alloc _) ⟨w1.heap.size, 0, none⟩ 1 1 [.string x] (by simp [Act.eval]) rfl (by first | exact one_new w1 _ _ | exact one_new w1.drew _ _ | exact one_new w1.drew.drew _ _) (by simp [Value.oneCell']) (by unfold maxLen; omega) (by omega) (by first | (simp; done) | (simp; omega)) ?_; intro v2 w2 hown hgrow hnil; have O2 := hide hown; (first | have B2 := hide (Below.grown (B1.out.alloc z1 _) hgrow (by first | (simp; done) | (simp; omega)) (fun j e => (O1.out.lt j e).1)) | have B2 := hide (Below.grown (B1.out.drew.alloc (by simpa using z1) _) hgrow (by first | (simp; done) | (simp; omega)) (fun j e => (O1.out.lt j e).1))); have R2 := hide (HR.out.below B2.out (Nat.le_refl _)); have N2 := hide (row_news' R2.out HL.out k hk hcap); have z2 := B2.out.size; clear hown hgrow hnil)
            | (refine step_append_own rfl (.tmp 42) (.tmp 45) 26 rfl w.heap.size 9 i0 (.string ⟨#[]⟩) 1 16 Tryz.underlying26 hi hz0 hz1 hz2 rfl (by decide) v2 (0 + k + 1) ([] ++ (L.take k).map encStr ++ [.string x]) (by simp [Act.eval]) O2.out ⟨b, off + if cap = k then 0 else k, none⟩ (n - k) (cap - k) (((L.drop k).take (n - k)).map encStr) (by by_cases h : cap = k <;> simp [Act.eval, h]) (by have := HL.out; first | (simp; done) | (simp; omega)) N2.out (enc_one _) (by unfold maxLen; omega) (by omega) z2 ?_; intro v3 w3 hown hgrow hnil; have O3 := hide hown; have B3 := hide (Below.grown B2.out hgrow z2 (fun j e => (O2.out.lt j e).1)); clear hown hgrow hnil))
          all_goals go_wp2
          all_goals
            obtain ⟨b', off', n', cap', rfl, h1, h2, h3⟩ := put_done O3.out HL.out hk HK.out HI.out
            go_ret
            exact ⟨b', off', n', cap', rfl, h1, by omega, h3, B3.out⟩
    · obtain rfl : k = n := by omega
      have HI := hide (show k < k → ¬ (nmF L k).toList < x.toList ∧ (nmF L k).toList ≠ x.toList from fun h => absurd h (Nat.lt_irrefl _))
      have O0 := hide (own_lit w 9 1)
      have B0 := hide ((Below.refl w.heap.size w).alloc (Nat.le_refl _) (.cells #[] 9))
      have N1 := hide (row_news (HR.out.below B0.out (Nat.le_refl _)) HL.out 0 k)
      go_wp2_with (at_builtin; refine wpList_append_own _ rfl (.tmp 34) (.tmp 37) 26 rfl w.heap.size 9 i0 (.string ⟨#[]⟩) 1 16 Tryz.underlying26 hi hz0 hz1 hz2 rfl (by decide) (.slice (some ⟨w.heap.size, 0, none⟩) 0 0) 0 [] (by simp [Act.eval]) O0.out ⟨b, off, none⟩ k cap ((L.take k).map encStr) (by simp [Act.eval]) (by have := HL.out; first | (simp; done) | (simp; omega)) (by simpa using N1.out) (enc_one _) (by unfold maxLen; omega) (by omega) (by simp) ?_; intro v1 w1 hown hgrow hnil; have O1 := hide hown; have B1 := hide (Below.grown B0.out hgrow (by simp) (fun j e => (O0.out.lt j e).1)); clear hown hgrow hnil N1 O0 B0)
      have R1 := hide (HR.out.below B1.out (Nat.le_refl _))
      have z1 := B1.out.size
      go_region_law (first
        | (refine step_append_own rfl (.tmp 39) (.tmp 41) 26 rfl w.heap.size 9 i0 (.string ⟨#[]⟩) 1 16 Tryz.underlying26 hi hz0 hz1 hz2 rfl (by decide) v1 (0 + k) ([] ++ (L.take k).map encStr) (by simp [Act.eval]) (by first | exact O1.out.alloc _ | exact O1.out.drew.alloc _ | exact O1.out.drew.drew.alloc _) ⟨w1.heap.size, 0, none⟩ 1 1 [.string x] (by simp [Act.eval]) rfl (by first | exact one_new w1 _ _ | exact one_new w1.drew _ _ | exact one_new w1.drew.drew _ _) (by simp [Value.oneCell']) (by unfold maxLen; omega) (by omega) (by first | (simp; done) | (simp; omega)) ?_; intro v2 w2 hown hgrow hnil; have O2 := hide hown; (first | have B2 := hide (Below.grown (B1.out.alloc z1 _) hgrow (by first | (simp; done) | (simp; omega)) (fun j e => (O1.out.lt j e).1)) | have B2 := hide (Below.grown (B1.out.drew.alloc (by simpa using z1) _) hgrow (by first | (simp; done) | (simp; omega)) (fun j e => (O1.out.lt j e).1))); have R2 := hide (HR.out.below B2.out (Nat.le_refl _)); have N2 := hide (row_news' R2.out HL.out k hk hcap); have z2 := B2.out.size; clear hown hgrow hnil)
        | (refine step_append_own rfl (.tmp 42) (.tmp 45) 26 rfl w.heap.size 9 i0 (.string ⟨#[]⟩) 1 16 Tryz.underlying26 hi hz0 hz1 hz2 rfl (by decide) v2 (0 + k + 1) ([] ++ (L.take k).map encStr ++ [.string x]) (by simp [Act.eval]) O2.out ⟨b, off + if cap = k then 0 else k, none⟩ (k - k) (cap - k) (((L.drop k).take (k - k)).map encStr) (by by_cases h : cap = k <;> simp [Act.eval, h]) (by have := HL.out; first | (simp; done) | (simp; omega)) N2.out (enc_one _) (by unfold maxLen; omega) (by omega) z2 ?_; intro v3 w3 hown hgrow hnil; have O3 := hide hown; have B3 := hide (Below.grown B2.out hgrow z2 (fun j e => (O2.out.lt j e).1)); clear hown hgrow hnil))
      all_goals go_wp2
      all_goals
        obtain ⟨b', off', n', cap', rfl, h1, h2, h3⟩ := put_done O3.out HL.out hk HK.out HI.out
        go_ret
        exact ⟨b', off', n', cap', rfl, h1, by omega, h3, B3.out⟩

end Go.Proofs.YtkikpcklccdihaaGreatDoor.Vp
