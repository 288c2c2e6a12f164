/-
  Put together of: NmPut, NmList, NmPut2.
-/
import Derived.Test.YtkgddbcjmejfaaaDoorZF
import Derived.Test.YtkgddbcjmejfaaaDoorZJ
import Derived.Test.YtkgddbcjmejfaaaDoorZD

/-
  spec: l5Put.
-/
namespace Go.Proofs.YtkgddbcjmejfaaaDoor.Vp
open Go.RowKit Go.Sort

/-- a list of names as a function of the place. -/
def nmF (L : List (List UInt8)) (j : Nat) : ByteArray := ⟨(L.getD j []).toArray⟩
theorem nmF_at {L : List (List UInt8)} {j : Nat} (h : j < L.length) : (nmF L j).toList = L[j] := by
  simp [nmF, ByteArray.toList_eq, List.getD, h]
theorem nmF_enc {L : List (List UInt8)} {j : Nat} (h : j < L.length) : Value.string (nmF L j) = encStr L[j] := by
  simp [nmF, List.getD, h]
theorem nmF_data (x : ByteArray) : (⟨x.toList.toArray⟩ : ByteArray) = x := by
  rw [ByteArray.toList_eq]

theorem row_of_owns {w : World} {base g c : Nat} {L : List (List UInt8)} (h : w.ownsRow base 9 1 (.slice (some ⟨g, 0, none⟩) L.length c) L.length (L.map encStr)) : RowStr w g 0 L.length (nmF L) := by
  rcases h.2 with ⟨hv, h0⟩ | ⟨g', cap, cur, hv, hb, hg, hc1, hc2, hc3, hc4⟩
  · simp at hv
  · simp only [Value.slice.injEq, Option.some.injEq, Addr.mk.injEq] at hv
    obtain ⟨⟨rfl, -⟩, -, rfl⟩ := hv
    have hlt : g < w.heap.size := by
      rcases Nat.lt_or_ge g w.heap.size with h1 | h1
      · exact h1
      · rw [Array.getElem?_eq_none h1] at hg; simp at hg
    refine ⟨hlt, fun i hi => ?_⟩
    have e1 : w.cell? ⟨g, 0 + i, none⟩ = cur[i]? := by simp [World.cell?, hg]
    have e2 : (cur.toList.take (L.length * 1))[i]? = (L.map encStr)[i]? := by rw [hc4]
    rw [List.getElem?_take, if_pos (by omega), Array.getElem?_toList, List.getElem?_map, List.getElem?_eq_getElem hi] at e2
    rw [e1, e2, nmF_enc hi]
    rfl

theorem row_news {w : World} {b off n : Nat} {L : List (List UInt8)} (hR : RowStr w b off n (nmF L)) (hn : n = L.length) (k m : Nat) : ∀ j u, (((L.drop k).take m).map encStr)[j]? = some u → w.cell? ((⟨b, off + k, none⟩ : Addr).add j) = some u := by
  intro j u hj
  rw [List.getElem?_map, List.getElem?_take] at hj
  split at hj
  · rw [List.getElem?_drop] at hj
    rcases Nat.lt_or_ge (k + j) L.length with h1 | h1
    · rw [List.getElem?_eq_getElem h1] at hj
      have := hR.2 (k + j) (by omega)
      rw [nmF_enc h1] at this
      rw [Addr.add_lit, Nat.add_assoc, this]
      simpa using hj
    · rw [List.getElem?_eq_none h1] at hj
      simp at hj
  · simp at hj

theorem row_news' {w : World} {b off n cap : Nat} {L : List (List UInt8)} (hR : RowStr w b off n (nmF L)) (hn : n = L.length) (k : Nat) (hk : k ≤ n) (hc : (n : Int) ≤ cap) : ∀ j u, (((L.drop k).take (n - k)).map encStr)[j]? = some u → w.cell? ((⟨b, off + if cap = k then 0 else k, none⟩ : Addr).add j) = some u := by
  by_cases h : cap = k
  · have : n - k = 0 := by omega
    rw [this]
    intro j u hj
    simp at hj
  · rw [if_neg h]
    exact row_news hR hn k (n - k)

theorem enc_one (l : List (List UInt8)) : ∀ u ∈ l.map encStr, u.oneCell' = true := by
  intro u hu
  obtain ⟨x, -, rfl⟩ := List.mem_map.1 hu
  rfl

theorem infoStr : (Tryd.prog.info? 9).map (fun i => (i.zero, i.size, i.bytes)) = some (some (.string ⟨#[]⟩), 1, 16) := by kernel_rfl

theorem lput_here {L : List (List UInt8)} {x : List UInt8} {n k : Nat} (hL : n = L.length) (hk : k ≤ n) (hlo : ∀ j, j < k → (nmF L j).toList < x) (hhi : k < n → ¬ (nmF L k).toList < x) : lput L x = if L[k]? = some x then L else L.take k ++ x :: L.drop k :=
  lput_at L x k (by omega) (fun j h hj => by rw [← nmF_at h]; exact hlo j hj) (fun h => by rw [← nmF_at h]; exact hhi (by omega))

theorem lput_same {L : List (List UInt8)} {x : List UInt8} {n k : Nat} (hL : n = L.length) (hk : k < n) (hlo : ∀ j, j < k → (nmF L j).toList < x) (hhi : ¬ (nmF L k).toList < x) (he : (nmF L k).toList = x) : lput L x = L := by
  have hk' : k < L.length := by omega
  rw [lput_here hL (Nat.le_of_lt hk) hlo (fun _ => hhi), if_pos]
  rw [List.getElem?_eq_getElem hk', ← nmF_at hk', he]

theorem put_done {w : World} {base n k : Nat} {v : Value} {L : List (List UInt8)} {x : ByteArray} (h : w.ownsRow base 9 1 v (0 + k + 1 + (n - k)) ([] ++ (L.take k).map encStr ++ [.string x] ++ ((L.drop k).take (n - k)).map encStr)) (hL : n = L.length) (hk : k ≤ n)
    (hlo : ∀ j, j < k → (nmF L j).toList < x.toList) (hhi : k < n → ¬ (nmF L k).toList < x.toList ∧ (nmF L k).toList ≠ x.toList) :
    ∃ b' off' n' cap' : Nat, v = .slice (some ⟨b', off', none⟩) n' cap' ∧ n' = (lput L x.toList).length ∧ (n' : Int) ≤ cap' ∧ RowStr w b' off' n' (nmF (lput L x.toList)) := by
  rw [List.take_of_length_le (l := L.drop k) (by simp; omega)] at h
  have e : lput L x.toList = L.take k ++ x.toList :: L.drop k := by
    rw [lput_here hL hk hlo (fun h => (hhi h).1), if_neg]
    intro he
    rcases Nat.lt_or_ge k L.length with h1 | h1
    · rw [List.getElem?_eq_getElem h1, ← nmF_at h1] at he
      exact (hhi (by omega)).2 (by simpa using he)
    · rw [List.getElem?_eq_none h1] at he
      simp at he
  have el : (lput L x.toList).map encStr = [] ++ (L.take k).map encStr ++ [.string x] ++ (L.drop k).map encStr := by
    rw [e]
    simp [nmF_data]
  have en : 0 + k + 1 + (n - k) = (lput L x.toList).length := by
    rw [e]
    simp
    omega
  rw [en, ← el] at h
  have hp : 0 < (lput L x.toList).length := by omega
  obtain ⟨g, c, rfl⟩ := own_form h hp
  refine ⟨g, 0, _, c, rfl, rfl, ?_, row_of_owns h⟩
  rcases h.2 with ⟨hv, h0⟩ | ⟨g', cap, cur, hv, hb, hg, hc1, hc2, hc3, hc4⟩
  · simp at hv
  · simp only [Value.slice.injEq] at hv
    obtain ⟨-, -, rfl⟩ := hv
    omega

set_option maxRecDepth 100000 in
set_option maxHeartbeats 4000000 in
theorem l5Put_any (b off n cap : Nat) (L : List (List UInt8)) (x : ByteArray) (w : World) (hL : n = L.length) (hn : (n : Int) ≤ 1048576) (hcap : (n : Int) ≤ cap) (hR : RowStr w b off n (nmF L)) :
    Calls Tryd.prog 31 #[.slice (some ⟨b, off, none⟩) n cap, .string x] w fun e w' => ∃ b' off' n' cap' : Nat, e = .returned (.slice (some ⟨b', off', none⟩) n' cap') ∧ n' = (lput L x.toList).length ∧ (n' : Int) ≤ cap' ∧ RowStr w' b' off' n' (nmF (lput L x.toList)) ∧ Below w.heap.size w w' := by
  obtain ⟨i0, hi, hz0, hz1, hz2⟩ := info_parts infoStr
  have HR := hide hR
  have HL := hide hL
  clear hR hL
  go_enter Tryd.func31, Tryd.ntmps31
  go_wp2
  go_loop [5] (fun i => ∃ k : Nat, k ≤ n ∧ i = .int .i64 k ∧ Hid (∀ j, j < k → (nmF L j).toList < x.toList)) (fun i => n - (intOf i).toNat)
  case atStart => exact ⟨0, by omega, rfl, fun j hj => absurd hj (Nat.not_lt_zero _)⟩
  case round =>
    obtain ⟨k, hk, rfl, HK⟩ := hrel
    have hkc : (k : Int) ≤ cap := by omega
    by_cases hlt : k < n
    · have hck := HR.out.2 k hlt
      cases hb : Op.bytesLess (nmF L k).toList x.toList with
      | true =>
        go_wp2
        exact ⟨⟨k + 1, by omega, by go_num, fun j hj => by
          by_cases e : j = k
          · subst e; rw [bytesLess_eq] at hb; exact of_decide_eq_true hb
          · exact HK.out j (by omega)⟩, by simp [intOf]; omega⟩
      | false =>
        have hb' : ¬ (nmF L k).toList < x.toList := by rw [bytesLess_eq] at hb; exact of_decide_eq_false hb
        have HHb := hide hb'
        clear hb'
        cases he : ((nmF L k).toList == x.toList) with
        | true =>
          have ES := hide (lput_same HL.out hlt HK.out HHb.out (by simpa using he))
          go_wp2
          go_ret
          exact ⟨b, off, n, cap, rfl, by rw [ES.out]; exact HL.out, by omega, by rw [ES.out]; exact HR.out, Below.refl _ _⟩
        | false =>
          have HI := hide (show k < n → ¬ (nmF L k).toList < x.toList ∧ (nmF L k).toList ≠ x.toList from fun _ => ⟨HHb.out, by simpa using he⟩)
          clear HHb
          have O0 := hide (own_lit w 9 1)
          have B0 := hide ((Below.refl w.heap.size w).alloc (Nat.le_refl _) (.cells #[] 9))
          have N1 := hide (row_news (HR.out.below B0.out (Nat.le_refl _)) HL.out 0 k)
          go_wp2_with (at_builtin; refine wpList_append_own _ rfl (.tmp 34) (.tmp 37) 26 rfl w.heap.size 9 i0 (.string ⟨#[]⟩) 1 16 Tryd.underlying26 hi hz0 hz1 hz2 rfl (by decide) (.slice (some ⟨w.heap.size, 0, none⟩) 0 0) 0 [] (by simp [Act.eval]) O0.out ⟨b, off, none⟩ k cap ((L.take k).map encStr) (by simp [Act.eval]) (by have := HL.out; first | (simp; done) | (simp; omega)) (by simpa using N1.out) (enc_one _) (by unfold maxLen; omega) (by omega) (by simp) ?_; intro v1 w1 hown hgrow hnil; have O1 := hide hown; have B1 := hide (Below.grown B0.out hgrow (by simp) (fun j e => (O0.out.lt j e).1)); clear hown hgrow hnil N1 O0 B0)
          have R1 := hide (HR.out.below B1.out (Nat.le_refl _))
          have z1 := B1.out.size
          go_region_law (first
            | (refine step_append_own rfl (.tmp 39) (.tmp 41) 26 rfl w.heap.size 9 i0 (.string ⟨#[]⟩) 1 16 Tryd.underlying26 hi hz0 hz1 hz2 rfl (by decide) v1 (0 + k) ([] ++ (L.take k).map encStr) (by simp [Act.eval]) (by first | exact O1.out.alloc _ | exact O1.out.drew.alloc _ | exact O1.out.drew.drew.alloc _) ⟨w1.heap.size, 0, none⟩ 1 1 [.string x] (by simp [Act.eval]) rfl (by first | exact one_new w1 _ _ | exact one_new w1.drew _ _ | exact one_new w1.drew.drew _ _) (by simp [Value.oneCell']) (by unfold maxLen; omega) (by omega) (by first | (simp; done) | (simp; omega)) ?_; intro v2 w2 hown hgrow hnil; have O2 := hide hown; (first | have B2 := hide (Below.grown (B1.out.alloc z1 _) hgrow (by first | (simp; done) | (simp; omega)) (fun j e => (O1.out.lt j e).1)) | have B2 := hide (Below.grown (B1.out.drew.alloc (by simpa using z1) _) hgrow (by first | (simp; done) | (simp; omega)) (fun j e => (O1.out.lt j e).1))); have R2 := hide (HR.out.below B2.out (Nat.le_refl _)); have N2 := hide (row_news' R2.out HL.out k hk hcap); have z2 := B2.out.size; clear hown hgrow hnil)
            | (refine step_append_own rfl (.tmp 42) (.tmp 45) 26 rfl w.heap.size 9 i0 (.string ⟨#[]⟩) 1 16 Tryd.underlying26 hi hz0 hz1 hz2 rfl (by decide) v2 (0 + k + 1) ([] ++ (L.take k).map encStr ++ [.string x]) (by simp [Act.eval]) O2.out ⟨b, off + if cap = k then 0 else k, none⟩ (n - k) (cap - k) (((L.drop k).take (n - k)).map encStr) (by by_cases h : cap = k <;> simp [Act.eval, h]) (by have := HL.out; first | (simp; done) | (simp; omega)) N2.out (enc_one _) (by unfold maxLen; omega) (by omega) z2 ?_; intro v3 w3 hown hgrow hnil; have O3 := hide hown; have B3 := hide (Below.grown B2.out hgrow z2 (fun j e => (O2.out.lt j e).1)); clear hown hgrow hnil))
          all_goals go_wp2
          all_goals
            obtain ⟨b', off', n', cap', rfl, h1, h2, h3⟩ := put_done O3.out HL.out hk HK.out HI.out
            go_ret
            exact ⟨b', off', n', cap', rfl, h1, by omega, h3, B3.out⟩
    · obtain rfl : k = n := by omega
      have HI := hide (show k < k → ¬ (nmF L k).toList < x.toList ∧ (nmF L k).toList ≠ x.toList from fun h => absurd h (Nat.lt_irrefl _))
      have O0 := hide (own_lit w 9 1)
      have B0 := hide ((Below.refl w.heap.size w).alloc (Nat.le_refl _) (.cells #[] 9))
      have N1 := hide (row_news (HR.out.below B0.out (Nat.le_refl _)) HL.out 0 k)
      go_wp2_with (at_builtin; refine wpList_append_own _ rfl (.tmp 34) (.tmp 37) 26 rfl w.heap.size 9 i0 (.string ⟨#[]⟩) 1 16 Tryd.underlying26 hi hz0 hz1 hz2 rfl (by decide) (.slice (some ⟨w.heap.size, 0, none⟩) 0 0) 0 [] (by simp [Act.eval]) O0.out ⟨b, off, none⟩ k cap ((L.take k).map encStr) (by simp [Act.eval]) (by have := HL.out; first | (simp; done) | (simp; omega)) (by simpa using N1.out) (enc_one _) (by unfold maxLen; omega) (by omega) (by simp) ?_; intro v1 w1 hown hgrow hnil; have O1 := hide hown; have B1 := hide (Below.grown B0.out hgrow (by simp) (fun j e => (O0.out.lt j e).1)); clear hown hgrow hnil N1 O0 B0)
      have R1 := hide (HR.out.below B1.out (Nat.le_refl _))
      have z1 := B1.out.size
      go_region_law (first
        | (refine step_append_own rfl (.tmp 39) (.tmp 41) 26 rfl w.heap.size 9 i0 (.string ⟨#[]⟩) 1 16 Tryd.underlying26 hi hz0 hz1 hz2 rfl (by decide) v1 (0 + k) ([] ++ (L.take k).map encStr) (by simp [Act.eval]) (by first | exact O1.out.alloc _ | exact O1.out.drew.alloc _ | exact O1.out.drew.drew.alloc _) ⟨w1.heap.size, 0, none⟩ 1 1 [.string x] (by simp [Act.eval]) rfl (by first | exact one_new w1 _ _ | exact one_new w1.drew _ _ | exact one_new w1.drew.drew _ _) (by simp [Value.oneCell']) (by unfold maxLen; omega) (by omega) (by first | (simp; done) | (simp; omega)) ?_; intro v2 w2 hown hgrow hnil; have O2 := hide hown; (first | have B2 := hide (Below.grown (B1.out.alloc z1 _) hgrow (by first | (simp; done) | (simp; omega)) (fun j e => (O1.out.lt j e).1)) | have B2 := hide (Below.grown (B1.out.drew.alloc (by simpa using z1) _) hgrow (by first | (simp; done) | (simp; omega)) (fun j e => (O1.out.lt j e).1))); have R2 := hide (HR.out.below B2.out (Nat.le_refl _)); have N2 := hide (row_news' R2.out HL.out k hk hcap); have z2 := B2.out.size; clear hown hgrow hnil)
        | (refine step_append_own rfl (.tmp 42) (.tmp 45) 26 rfl w.heap.size 9 i0 (.string ⟨#[]⟩) 1 16 Tryd.underlying26 hi hz0 hz1 hz2 rfl (by decide) v2 (0 + k + 1) ([] ++ (L.take k).map encStr ++ [.string x]) (by simp [Act.eval]) O2.out ⟨b, off + if cap = k then 0 else k, none⟩ (k - k) (cap - k) (((L.drop k).take (k - k)).map encStr) (by by_cases h : cap = k <;> simp [Act.eval, h]) (by have := HL.out; first | (simp; done) | (simp; omega)) N2.out (enc_one _) (by unfold maxLen; omega) (by omega) z2 ?_; intro v3 w3 hown hgrow hnil; have O3 := hide hown; have B3 := hide (Below.grown B2.out hgrow z2 (fun j e => (O2.out.lt j e).1)); clear hown hgrow hnil))
      all_goals go_wp2
      all_goals
        obtain ⟨b', off', n', cap', rfl, h1, h2, h3⟩ := put_done O3.out HL.out hk HK.out HI.out
        go_ret
        exact ⟨b', off', n', cap', rfl, h1, by omega, h3, B3.out⟩

end Go.Proofs.YtkgddbcjmejfaaaDoor.Vp

/-
  What Names, Sources answer, as lists.
-/
namespace Go.Proofs.YtkgddbcjmejfaaaDoor.Vp
open Go.RowKit Go.Sort

/-- the sources among the first k deeds. -/
def srcL (f : Nat → Deed) : Nat → List (List UInt8)
  | 0 => []
  | k + 1 => if (f k).kind = 1 then lput (srcL f k) (f k).name.toList else srcL f k
theorem srcL_asc (f : Nat → Deed) (k : Nat) : (srcL f k).Pairwise (· < ·) := by
  induction k with
  | zero => exact List.Pairwise.nil
  | succ k ih =>
    rw [srcL]
    split
    · exact asc_lput ih _
    · exact ih
theorem srcL_len (f : Nat → Deed) (k : Nat) : (srcL f k).length ≤ k := by
  induction k with
  | zero => exact Nat.le_refl _
  | succ k ih =>
    rw [srcL]
    split
    · have := lput_len (srcL f k) (f k).name.toList
      omega
    · omega

/-- the names of a deed's links among the first j, put into a list. -/
def lnkL (acc : List (List UInt8)) (g : Nat → Link) : Nat → List (List UInt8)
  | 0 => acc
  | j + 1 => lput (lnkL acc g j) (g j).name.toList
theorem lnkL_asc {acc : List (List UInt8)} (h : acc.Pairwise (· < ·)) (g : Nat → Link) (j : Nat) : (lnkL acc g j).Pairwise (· < ·) := by
  induction j with
  | zero => exact h
  | succ j ih => exact asc_lput ih _
theorem lnkL_len (acc : List (List UInt8)) (g : Nat → Link) (j : Nat) : (lnkL acc g j).length ≤ acc.length + j := by
  induction j with
  | zero => exact Nat.le_refl _
  | succ j ih =>
    have := lput_len (lnkL acc g j) (g j).name.toList
    rw [lnkL]
    omega
/-- the names of the first k deeds. -/
def nameL (f : Nat → Deed) : Nat → List (List UInt8)
  | 0 => []
  | k + 1 => lnkL (lput (nameL f k) (f k).name.toList) (f k).links (f k).linksN
theorem nameL_asc (f : Nat → Deed) (k : Nat) : (nameL f k).Pairwise (· < ·) := by
  induction k with
  | zero => exact List.Pairwise.nil
  | succ k ih => exact lnkL_asc (asc_lput ih _) _ _
theorem nameL_len {f : Nat → Deed} {k : Nat} (h : ∀ p, p < k → (f p).linksN ≤ 200) : (nameL f k).length ≤ k * 201 := by
  induction k with
  | zero => exact Nat.le_refl _
  | succ k ih =>
    have h1 := ih fun p hp => h p (by omega)
    have h2 := lnkL_len (lput (nameL f k) (f k).name.toList) (f k).links (f k).linksN
    have h3 := lput_len (nameL f k) (f k).name.toList
    have h4 := h k (by omega)
    rw [nameL]
    omega

def srcs (f : Nat → Deed) (n : Nat) : List (List UInt8) := if accOk f n = true then srcL f n else []
def nams (f : Nat → Deed) (n : Nat) : List (List UInt8) := if accOk f n = true then nameL f n else []
theorem srcs_len (f : Nat → Deed) (n : Nat) : (srcs f n).length ≤ 1048576 := by
  unfold srcs
  split
  · rename_i h
    have h1 := accOk_n h
    have h2 := srcL_len f n
    omega
  · simp
theorem nams_len (f : Nat → Deed) (n : Nat) : (nams f n).length ≤ 1048576 := by
  unfold nams
  split
  · rename_i h
    have h1 := accOk_n h
    have h2 := nameL_len (f := f) (k := n) (accOk_links h)
    omega
  · simp

end Go.Proofs.YtkgddbcjmejfaaaDoor.Vp

/-
  spec: l5Put once more: its row is the old one, or new. Written by tools/nmput2.py.
-/
namespace Go.Proofs.YtkgddbcjmejfaaaDoor.Vp
open Go.RowKit Go.Sort

theorem put_doneN {w : World} {base n k : Nat} {v : Value} {L : List (List UInt8)} {x : ByteArray} (h : w.ownsRow base 9 1 v (0 + k + 1 + (n - k)) ([] ++ (L.take k).map encStr ++ [.string x] ++ ((L.drop k).take (n - k)).map encStr)) (hL : n = L.length) (hk : k ≤ n)
    (hlo : ∀ j, j < k → (nmF L j).toList < x.toList) (hhi : k < n → ¬ (nmF L k).toList < x.toList ∧ (nmF L k).toList ≠ x.toList) :
    ∃ b' off' n' cap' : Nat, v = .slice (some ⟨b', off', none⟩) n' cap' ∧ n' = (lput L x.toList).length ∧ (n' : Int) ≤ cap' ∧ RowStr w b' off' n' (nmF (lput L x.toList)) ∧ base ≤ b' := by
  rw [List.take_of_length_le (l := L.drop k) (by simp; omega)] at h
  have e : lput L x.toList = L.take k ++ x.toList :: L.drop k := by
    rw [lput_here hL hk hlo (fun h => (hhi h).1), if_neg]
    intro he
    rcases Nat.lt_or_ge k L.length with h1 | h1
    · rw [List.getElem?_eq_getElem h1, ← nmF_at h1] at he
      exact (hhi (by omega)).2 (by simpa using he)
    · rw [List.getElem?_eq_none h1] at he
      simp at he
  have el : (lput L x.toList).map encStr = [] ++ (L.take k).map encStr ++ [.string x] ++ (L.drop k).map encStr := by
    rw [e]
    simp [nmF_data]
  have en : 0 + k + 1 + (n - k) = (lput L x.toList).length := by
    rw [e]
    simp
    omega
  rw [en, ← el] at h
  have hp : 0 < (lput L x.toList).length := by omega
  obtain ⟨g, c, rfl⟩ := own_form h hp
  have hb : base ≤ g ∧ (lput L x.toList).length ≤ c := by
    rcases h.2 with ⟨hv, h0⟩ | ⟨g', cap, cur, hv, hb, hg, hc1, hc2, hc3, hc4⟩
    · simp at hv
    · simp only [Value.slice.injEq, Option.some.injEq, Addr.mk.injEq] at hv
      obtain ⟨⟨rfl, -⟩, -, rfl⟩ := hv
      exact ⟨hb, by omega⟩
  exact ⟨g, 0, _, c, rfl, rfl, by omega, row_of_owns h, hb.1⟩

set_option maxRecDepth 100000 in
set_option maxHeartbeats 4000000 in
theorem l5Put_new (b off n cap : Nat) (L : List (List UInt8)) (x : ByteArray) (w : World) (hL : n = L.length) (hn : (n : Int) ≤ 1048576) (hcap : (n : Int) ≤ cap) (hR : RowStr w b off n (nmF L)) :
    Calls Tryd.prog 31 #[.slice (some ⟨b, off, none⟩) n cap, .string x] w fun e w' => ∃ b' off' n' cap' : Nat, e = .returned (.slice (some ⟨b', off', none⟩) n' cap') ∧ n' = (lput L x.toList).length ∧ (n' : Int) ≤ cap' ∧ RowStr w' b' off' n' (nmF (lput L x.toList)) ∧ Below w.heap.size w w' ∧ (b' = b ∨ w.heap.size ≤ b') := by
  obtain ⟨i0, hi, hz0, hz1, hz2⟩ := info_parts infoStr
  have HR := hide hR
  have HL := hide hL
  clear hR hL
  go_enter Tryd.func31, Tryd.ntmps31
  go_wp2
  go_loop [5] (fun i => ∃ k : Nat, k ≤ n ∧ i = .int .i64 k ∧ Hid (∀ j, j < k → (nmF L j).toList < x.toList)) (fun i => n - (intOf i).toNat)
  case atStart => exact ⟨0, by omega, rfl, fun j hj => absurd hj (Nat.not_lt_zero _)⟩
  case round =>
    obtain ⟨k, hk, rfl, HK⟩ := hrel
    have hkc : (k : Int) ≤ cap := by omega
    by_cases hlt : k < n
    · have hck := HR.out.2 k hlt
      cases hb : Op.bytesLess (nmF L k).toList x.toList with
      | true =>
        go_wp2
        exact ⟨⟨k + 1, by omega, by go_num, fun j hj => by
          by_cases e : j = k
          · subst e; rw [bytesLess_eq] at hb; exact of_decide_eq_true hb
          · exact HK.out j (by omega)⟩, by simp [intOf]; omega⟩
      | false =>
        have hb' : ¬ (nmF L k).toList < x.toList := by rw [bytesLess_eq] at hb; exact of_decide_eq_false hb
        have HHb := hide hb'
        clear hb'
        cases he : ((nmF L k).toList == x.toList) with
        | true =>
          have ES := hide (lput_same HL.out hlt HK.out HHb.out (by simpa using he))
          go_wp2
          go_ret
          exact ⟨b, off, n, cap, rfl, by rw [ES.out]; exact HL.out, by omega, by rw [ES.out]; exact HR.out, Below.refl _ _, .inl rfl⟩
        | false =>
          have HI := hide (show k < n → ¬ (nmF L k).toList < x.toList ∧ (nmF L k).toList ≠ x.toList from fun _ => ⟨HHb.out, by simpa using he⟩)
          clear HHb
          have O0 := hide (own_lit w 9 1)
          have B0 := hide ((Below.refl w.heap.size w).alloc (Nat.le_refl _) (.cells #[] 9))
          have N1 := hide (row_news (HR.out.below B0.out (Nat.le_refl _)) HL.out 0 k)
          go_wp2_with (at_builtin; refine wpList_append_own _ rfl (.tmp 34) (.tmp 37) 26 rfl w.heap.size 9 i0 (.string ⟨#[]⟩) 1 16 Tryd.underlying26 hi hz0 hz1 hz2 rfl (by decide) (.slice (some ⟨w.heap.size, 0, none⟩) 0 0) 0 [] (by simp [Act.eval]) O0.out ⟨b, off, none⟩ k cap ((L.take k).map encStr) (by simp [Act.eval]) (by have := HL.out; first | (simp; done) | (simp; omega)) (by simpa using N1.out) (enc_one _) (by unfold maxLen; omega) (by omega) (by simp) ?_; intro v1 w1 hown hgrow hnil; have O1 := hide hown; have B1 := hide (Below.grown B0.out hgrow (by simp) (fun j e => (O0.out.lt j e).1)); clear hown hgrow hnil N1 O0 B0)
          have R1 := hide (HR.out.below B1.out (Nat.le_refl _))
          have z1 := B1.out.size
          go_region_law (first
            | (refine step_append_own rfl (.tmp 39) (.tmp 41) 26 rfl w.heap.size 9 i0 (.string ⟨#[]⟩) 1 16 Tryd.underlying26 hi hz0 hz1 hz2 rfl (by decide) v1 (0 + k) ([] ++ (L.take k).map encStr) (by simp [Act.eval]) (by first | exact O1.out.alloc _ | exact O1.out.drew.alloc _ | exact O1.out.drew.drew.alloc _) ⟨w1.heap.size, 0, none⟩ 1 1 [.string x] (by simp [Act.eval]) rfl (by first | exact one_new w1 _ _ | exact one_new w1.drew _ _ | exact one_new w1.drew.drew _ _) (by simp [Value.oneCell']) (by unfold maxLen; omega) (by omega) (by first | (simp; done) | (simp; omega)) ?_; intro v2 w2 hown hgrow hnil; have O2 := hide hown; (first | have B2 := hide (Below.grown (B1.out.alloc z1 _) hgrow (by first | (simp; done) | (simp; omega)) (fun j e => (O1.out.lt j e).1)) | have B2 := hide (Below.grown (B1.out.drew.alloc (by simpa using z1) _) hgrow (by first | (simp; done) | (simp; omega)) (fun j e => (O1.out.lt j e).1))); have R2 := hide (HR.out.below B2.out (Nat.le_refl _)); have N2 := hide (row_news' R2.out HL.out k hk hcap); have z2 := B2.out.size; clear hown hgrow hnil)
            | (refine step_append_own rfl (.tmp 42) (.tmp 45) 26 rfl w.heap.size 9 i0 (.string ⟨#[]⟩) 1 16 Tryd.underlying26 hi hz0 hz1 hz2 rfl (by decide) v2 (0 + k + 1) ([] ++ (L.take k).map encStr ++ [.string x]) (by simp [Act.eval]) O2.out ⟨b, off + if cap = k then 0 else k, none⟩ (n - k) (cap - k) (((L.drop k).take (n - k)).map encStr) (by by_cases h : cap = k <;> simp [Act.eval, h]) (by have := HL.out; first | (simp; done) | (simp; omega)) N2.out (enc_one _) (by unfold maxLen; omega) (by omega) z2 ?_; intro v3 w3 hown hgrow hnil; have O3 := hide hown; have B3 := hide (Below.grown B2.out hgrow z2 (fun j e => (O2.out.lt j e).1)); clear hown hgrow hnil))
          all_goals go_wp2
          all_goals
            obtain ⟨b', off', n', cap', rfl, h1, h2, h3, h4⟩ := put_doneN O3.out HL.out hk HK.out HI.out
            go_ret
            exact ⟨b', off', n', cap', rfl, h1, by omega, h3, B3.out, .inr h4⟩
    · obtain rfl : k = n := by omega
      have HI := hide (show k < k → ¬ (nmF L k).toList < x.toList ∧ (nmF L k).toList ≠ x.toList from fun h => absurd h (Nat.lt_irrefl _))
      have O0 := hide (own_lit w 9 1)
      have B0 := hide ((Below.refl w.heap.size w).alloc (Nat.le_refl _) (.cells #[] 9))
      have N1 := hide (row_news (HR.out.below B0.out (Nat.le_refl _)) HL.out 0 k)
      go_wp2_with (at_builtin; refine wpList_append_own _ rfl (.tmp 34) (.tmp 37) 26 rfl w.heap.size 9 i0 (.string ⟨#[]⟩) 1 16 Tryd.underlying26 hi hz0 hz1 hz2 rfl (by decide) (.slice (some ⟨w.heap.size, 0, none⟩) 0 0) 0 [] (by simp [Act.eval]) O0.out ⟨b, off, none⟩ k cap ((L.take k).map encStr) (by simp [Act.eval]) (by have := HL.out; first | (simp; done) | (simp; omega)) (by simpa using N1.out) (enc_one _) (by unfold maxLen; omega) (by omega) (by simp) ?_; intro v1 w1 hown hgrow hnil; have O1 := hide hown; have B1 := hide (Below.grown B0.out hgrow (by simp) (fun j e => (O0.out.lt j e).1)); clear hown hgrow hnil N1 O0 B0)
      have R1 := hide (HR.out.below B1.out (Nat.le_refl _))
      have z1 := B1.out.size
      go_region_law (first
        | (refine step_append_own rfl (.tmp 39) (.tmp 41) 26 rfl w.heap.size 9 i0 (.string ⟨#[]⟩) 1 16 Tryd.underlying26 hi hz0 hz1 hz2 rfl (by decide) v1 (0 + k) ([] ++ (L.take k).map encStr) (by simp [Act.eval]) (by first | exact O1.out.alloc _ | exact O1.out.drew.alloc _ | exact O1.out.drew.drew.alloc _) ⟨w1.heap.size, 0, none⟩ 1 1 [.string x] (by simp [Act.eval]) rfl (by first | exact one_new w1 _ _ | exact one_new w1.drew _ _ | exact one_new w1.drew.drew _ _) (by simp [Value.oneCell']) (by unfold maxLen; omega) (by omega) (by first | (simp; done) | (simp; omega)) ?_; intro v2 w2 hown hgrow hnil; have O2 := hide hown; (first | have B2 := hide (Below.grown (B1.out.alloc z1 _) hgrow (by first | (simp; done) | (simp; omega)) (fun j e => (O1.out.lt j e).1)) | have B2 := hide (Below.grown (B1.out.drew.alloc (by simpa using z1) _) hgrow (by first | (simp; done) | (simp; omega)) (fun j e => (O1.out.lt j e).1))); have R2 := hide (HR.out.below B2.out (Nat.le_refl _)); have N2 := hide (row_news' R2.out HL.out k hk hcap); have z2 := B2.out.size; clear hown hgrow hnil)
        | (refine step_append_own rfl (.tmp 42) (.tmp 45) 26 rfl w.heap.size 9 i0 (.string ⟨#[]⟩) 1 16 Tryd.underlying26 hi hz0 hz1 hz2 rfl (by decide) v2 (0 + k + 1) ([] ++ (L.take k).map encStr ++ [.string x]) (by simp [Act.eval]) O2.out ⟨b, off + if cap = k then 0 else k, none⟩ (k - k) (cap - k) (((L.drop k).take (k - k)).map encStr) (by by_cases h : cap = k <;> simp [Act.eval, h]) (by have := HL.out; first | (simp; done) | (simp; omega)) N2.out (enc_one _) (by unfold maxLen; omega) (by omega) z2 ?_; intro v3 w3 hown hgrow hnil; have O3 := hide hown; have B3 := hide (Below.grown B2.out hgrow z2 (fun j e => (O2.out.lt j e).1)); clear hown hgrow hnil))
      all_goals go_wp2
      all_goals
        obtain ⟨b', off', n', cap', rfl, h1, h2, h3, h4⟩ := put_doneN O3.out HL.out hk HK.out HI.out
        go_ret
        exact ⟨b', off', n', cap', rfl, h1, by omega, h3, B3.out, .inr h4⟩

end Go.Proofs.YtkgddbcjmejfaaaDoor.Vp
