/-
  Put together of: NxPl.
-/
import Derived.Test.YtfhdecheaeoopaaDoorZK

/-
  spec: l1Step: what it leans on.
-/
namespace Go.Proofs.YtfhdecheaeoopaaDoor.Vp
open Go.RowKit

theorem add0 (g j : Nat) : (⟨g, 0, none⟩ : Addr).add j = ⟨g, j, none⟩ := by
  unfold Addr.add
  split <;> simp_all
theorem own_top {w : World} {base g cap : Nat} {e : TypeId} {x : ByteArray} {r : List ByteArray} (h : w.ownsRow base e 1 (.slice (some ⟨g, 0, none⟩) (r.length + 1) cap) (r.length + 1) (strs (x :: r))) : w.cell? ⟨g, r.length, none⟩ = some (.string x) := by
  have := h.cells (g := g) rfl r.length (.string x) (by rw [strs_cons, List.getElem?_append_right (by simp)]; simp)
  rwa [add0] at this
theorem own_2nd {w : World} {base g cap : Nat} {e : TypeId} {x z : ByteArray} {r : List ByteArray} (h : w.ownsRow base e 1 (.slice (some ⟨g, 0, none⟩) (r.length + 2) cap) (r.length + 2) (strs (x :: z :: r))) : w.cell? ⟨g, r.length + 1, none⟩ = some (.string x) ∧ w.cell? ⟨g, r.length, none⟩ = some (.string z) := by
  have h1 := h.cells (g := g) rfl (r.length + 1) (.string x) (by rw [strs_cons, List.getElem?_append_right (by simp)]; simp)
  have h2 := h.cells (g := g) rfl r.length (.string z) (by rw [strs_cons, List.getElem?_append_left (by simp), strs_cons, List.getElem?_append_right (by simp)]; simp)
  rw [add0] at h1 h2
  exact ⟨h1, h2⟩
theorem own_cap {w : World} {base n cap : Nat} {e : TypeId} {g : Nat} {xs : List Value} (h : w.ownsRow base e 1 (.slice (some ⟨g, 0, none⟩) n cap) n xs) : n ≤ cap := by
  rcases h.2 with ⟨h0, _⟩ | ⟨g, c, cur, hv, _, _, hn, _⟩
  · simp at h0
  · simp at hv
    omega
theorem own_pre {w : World} {base g n cap : Nat} {e : TypeId} {r : List ByteArray} {xs : List Value} (h : w.ownsRow base e 1 (.slice (some ⟨g, 0, none⟩) n cap) n (strs r ++ xs)) : ∀ j u, (strs r)[j]? = some u → w.cell? ((⟨g, 0, none⟩ : Addr).add j) = some u := fun j u hu =>
  h.cells (g := g) rfl j u (by rw [List.getElem?_append_left (by obtain ⟨hj, _⟩ := List.getElem?_eq_some_iff.1 hu; exact hj)]; exact hu)
theorem own_form0 {w : World} {base n : Nat} {e : TypeId} {v : Value} {xs : List Value} (h : w.ownsRow base e 1 v n xs) (hv : v ≠ .slice none 0 0) : ∃ g cap, v = .slice (some ⟨g, 0, none⟩) n cap ∧ base ≤ g := by
  rcases h.2 with ⟨h0, _⟩ | ⟨g, cap, cur, hv, hg, _⟩
  · exact absurd h0 hv
  · exact ⟨g, cap, hv, hg⟩
theorem strs_one (r : List ByteArray) : ∀ u ∈ strs r, u.oneCell' = true := by
  intro u hu
  obtain ⟨x, _, rfl⟩ := List.mem_map.1 hu
  rfl
def lookSO (y : Nat → Reply) (n op : Nat) (pl nm : ByteArray) (s : List ByteArray) (p st l : Nat) : SO :=
  if nameOk nm = false then .inr (.inl (2, pl, st)) else if l = 200 then .inr (.inl (3, ⟨#[]⟩, st)) else afterLook y n ((op : Int) == 12) nm s p st l
theorem l1Look_any (op : Nat) (t : ByteArray) (k : Int) (p st l : Nat) (a : Option Addr) (cap : Nat) (s : List ByteArray) (nm pl : ByteArray) (b2 o2 n cap2 base : Nat) (y : Nat → Reply) (w : World)
    (hY : RowReply w b2 o2 n y) (hO : w.ownsRow base 9 1 (.slice a s.length cap) s.length (strs s)) (hb : base ≤ w.heap.size) (hop : op = 12 ∨ op = 13) (hl : l ≤ 200) (hs : s.length ≤ 50) :
    Calls Tryd.prog 30 #[.agg #[.int .i64 op, .string t, .int .i64 k], runV p (.slice a s.length cap) st l false 0 ⟨#[]⟩ false ⟨#[]⟩ false, .string nm, .string pl, .slice (some ⟨b2, o2, none⟩) n cap2] w fun e w' => ∃ v, e = .returned v ∧ SoIs w' base v (lookSO y n op pl nm s p st l) ∧ Below base w w' := by
  unfold lookSO
  by_cases h1 : nameOk nm = false
  · rw [if_pos h1]
    exact look_name op t k p st l a cap s nm pl b2 o2 n cap2 base y w hY hO hb h1
  · rw [if_neg h1]
    have h1 : nameOk nm = true := by simpa using h1
    by_cases h2 : l = 200
    · rw [if_pos h2]
      exact look_spent op t k p st l a cap s nm pl b2 o2 n cap2 base y w hY hO hb h1 (by simp; omega)
    · rw [if_neg h2]
      have h2 : ((l : Int) == 200) = false := by simp; omega
      unfold afterLook
      by_cases h3 : n ≤ l
      · rw [if_pos h3]
        exact look_wait op t k p st l a cap s nm pl b2 o2 n cap2 base y w hY hO hb h1 h2 (by omega)
      · rw [if_neg h3]
        rcases hop with rfl | rfl
        · rw [if_neg (by simp)]
          by_cases h4 : (y l).has = false
          · rw [if_pos h4]
            exact look_miss 12 t k p st l a cap s nm pl b2 o2 n cap2 base y w hY hO hb h1 h2 hl (by omega) (by simp) h4
          · rw [if_neg h4]
            have h4 : (y l).has = true := by simpa using h4
            by_cases h5 : (y l).code = 0
            · rw [if_pos h5]
              exact look_text 12 t k p st l a cap s nm pl b2 o2 n cap2 base y w hY hO hb h1 h2 hl (by omega) (by simp) h4 h5 hs
            · rw [if_neg h5]
              exact look_below 12 t k p st l a cap s nm pl b2 o2 n cap2 base y w hY hO hb h1 h2 hl (by omega) (by simp) h4 (by simpa using h5)
        · rw [if_pos (by simp)]
          exact look_has 13 t k p st l a cap s nm pl b2 o2 n cap2 base y w hY hO hb h1 h2 hl (by omega) (by simp) hs
theorem SoIs.form {w : World} {base : Nat} {v : Value} {r : SO} (h : SoIs w base v r) : ∃ (at_ : Int) (a : Option Addr) (n cap : Nat) (st lk : Int) (ov : Bool) (c : Int) (x : ByteArray) (ask : Bool) (nm : ByteArray) (wt : Bool), v = runV at_ (.slice a n cap) st lk ov c x ask nm wt := by
  rcases r with ⟨p, st, l, s⟩ | ⟨c, x, st⟩ | ⟨ask, nm, st⟩
  · obtain ⟨a, cap, e, _⟩ := h
    exact ⟨_, _, _, _, _, _, _, _, _, _, _, _, e⟩
  · obtain ⟨at_, a, n, cap, lk, e⟩ := h
    exact ⟨_, _, _, _, _, _, _, _, _, _, _, _, e⟩
  · obtain ⟨at_, a, n, cap, lk, e⟩ := h
    exact ⟨_, _, _, _, _, _, _, _, _, _, _, _, e⟩
theorem SoIs.set {w : World} {base : Nat} {v : Value} {r : SO} (h : SoIs w base v r) {k : Nat} (hk : k < base) (j : Nat) (u : Value) : SoIs (w.setCell ⟨k, j, none⟩ u) base v r := by
  rcases r with ⟨p, st, l, s⟩ | ⟨c, x, st⟩ | ⟨ask, nm, st⟩
  · obtain ⟨a, cap, e, ho⟩ := h
    exact ⟨a, cap, e, ownsRow_setCell_below ho (a := ⟨k, j, none⟩) hk u⟩
  · exact h
  · exact h
theorem SoIs.mono {w : World} {base base' : Nat} {v : Value} {r : SO} (h : SoIs w base v r) (hb : base' ≤ base) : SoIs w base' v r := h.kept (Below.refl _ _) hb
theorem ten_so {w : World} {base : Nat} {v : Value} {r : SO} (h : SoIs w base v r) {k : Nat} (hk : k < base) (v0 v1 v2 v3 v4 v5 v6 v7 v8 v9 : Value) : SoIs ((((((((((w.setCell ⟨k, 0, none⟩ v0).setCell ⟨k, 1, none⟩ v1).setCell ⟨k, 2, none⟩ v2).setCell ⟨k, 3, none⟩ v3).setCell ⟨k, 4, none⟩ v4).setCell ⟨k, 5, none⟩ v5).setCell ⟨k, 6, none⟩ v6).setCell ⟨k, 7, none⟩ v7).setCell ⟨k, 8, none⟩ v8).setCell ⟨k, 9, none⟩ v9) base v r :=
  (((((((((h.set hk 0 v0).set hk 1 v1).set hk 2 v2).set hk 3 v3).set hk 4 v4).set hk 5 v5).set hk 6 v6).set hk 7 v7).set hk 8 v8).set hk 9 v9
theorem plainL_len (op n : Nat) (t a b : ByteArray) (h1 : 1 ≤ op) (h11 : op ≤ 11) : (plainL op n t a b).length = putsOf op := by
  rcases (show op = 1 ∨ op = 2 ∨ op = 3 ∨ op = 4 ∨ op = 5 ∨ op = 6 ∨ op = 7 ∨ op = 8 ∨ op = 9 ∨ op = 10 ∨ op = 11 by omega) with rfl | rfl | rfl | rfl | rfl | rfl | rfl | rfl | rfl | rfl | rfl
  all_goals rfl
theorem puts_le {op j : Nat} (h1 : 1 ≤ op) (h11 : op ≤ 11) (h : j < putsOf op) : op ≤ 8 := by
  rcases (show op = 1 ∨ op = 2 ∨ op = 3 ∨ op = 4 ∨ op = 5 ∨ op = 6 ∨ op = 7 ∨ op = 8 ∨ op = 9 ∨ op = 10 ∨ op = 11 by omega) with rfl | rfl | rfl | rfl | rfl | rfl | rfl | rfl | rfl | rfl | rfl
  all_goals simp [putsOf] at h ⊢
theorem puts_two (op : Nat) : putsOf op ≤ 2 := by
  unfold putsOf
  split
  · omega
  · split <;> omega
def plainSO (PL : List ByteArray) (pl : ByteArray) (r : List ByteArray) (p st l : Nat) : SO := if PL.all (fun x => decide (x.size ≤ 2000)) then .inl (p, st, l, (PL.reverse ++ r)) else .inr (.inl (2, pl, st))
theorem take_next {PL : List ByteArray} {j : Nat} (h : j < PL.length) : (PL.take (j + 1)).map Value.string = (PL.take j).map Value.string ++ [.string (PL.getD j ⟨#[]⟩)] := by
  rw [List.take_add_one, List.map_append, List.getElem?_eq_getElem h]
  simp [h]
theorem strs_rev (PL r : List ByteArray) : strs (PL.reverse ++ r) = strs r ++ PL.map Value.string := by simp [strs]
theorem fits_no {PL : List ByteArray} {j : Nat} (h : j < PL.length) (hs : ¬ ((PL.getD j ⟨#[]⟩).size : Int) ≤ 2000) : PL.all (fun x => decide (x.size ≤ 2000)) = false := by
  simp only [List.all_eq_false]
  exact ⟨PL[j], List.getElem_mem h, by simp [h] at hs ⊢; omega⟩
theorem fits_yes {PL : List ByteArray} (h : ∀ i, i < PL.length → (PL.getD i ⟨#[]⟩).size ≤ 2000) : PL.all (fun x => decide (x.size ≤ 2000)) = true := by
  simp only [List.all_eq_true, decide_eq_true_eq]
  intro x hx
  obtain ⟨i, hi, rfl⟩ := List.mem_iff_getElem.1 hx
  have := h i hi
  simpa [hi] using this
def soOf (y : Nat → Reply) (n place st looks : Nat) : Res → SO
  | .inr (.inl (c, x)) => .inr (.inl (c, x, st))
  | .inl (s', p) => .inl (p, st, looks, s')
  | .inr (.inr (a, nm, s')) => afterLook y n a nm s' (place + 1) st looks
def sstepP (f : Nat → Ins) (cnt : Nat) (y : Nat → Reply) (n place steps looks : Nat) (s : List ByteArray) : SO := soOf y n place (stepN cnt place steps) looks (stepP f cnt place steps looks s)
theorem own_cases {w : World} {base n cap : Nat} {e : TypeId} {a : Option Addr} {xs : List Value} (h : w.ownsRow base e 1 (.slice a n cap) n xs) : (a = none ∧ n = 0 ∧ cap = 0) ∨ ∃ g, a = some ⟨g, 0, none⟩ := by
  rcases h.2 with ⟨h0, _⟩ | ⟨g, c, cur, hv, _⟩
  · simp only [Value.slice.injEq] at h0
    exact .inl h0
  · simp only [Value.slice.injEq] at hv
    exact .inr ⟨g, hv.1⟩
theorem fits_plain (op k : Nat) (t a b : ByteArray) (h1 : 1 ≤ op) (h11 : op ≤ 11) (h2 : op ≠ 2) (ht : t.size ≤ 2000) (ha : a.size ≤ 2000) (hb : b.size ≤ 2000) : (plainL op k t a b).all (fun x => decide (x.size ≤ 2000)) = true := by
  rcases (show op = 1 ∨ op = 3 ∨ op = 4 ∨ op = 5 ∨ op = 6 ∨ op = 7 ∨ op = 8 ∨ op = 9 ∨ op = 10 ∨ op = 11 by omega) with rfl | rfl | rfl | rfl | rfl | rfl | rfl | rfl | rfl | rfl
  · simp [plainL, ht]
  · simp only [plainL, List.all_cons, List.all_nil, Bool.and_true, decide_eq_true_eq]
    split
    · simp; omega
    · exact ha
  · simp only [plainL, List.all_cons, List.all_nil, Bool.and_true, decide_eq_true_eq]
    split
    · simp; omega
    · decide
  · simp only [plainL, List.all_cons, List.all_nil, Bool.and_true, decide_eq_true_eq]
    exact Nat.le_trans (wordT_size _ _) ha
  · simp only [plainL, List.all_cons, List.all_nil, Bool.and_true, decide_eq_true_eq]
    exact flagT_size _
  · simp [plainL, ha]
  · simp [plainL, ha, hb]
  · rfl
  · rfl
  · rfl
theorem plainSO_go (op k : Nat) (t a b pl : ByteArray) (r : List ByteArray) (p st l : Nat) (h1 : 1 ≤ op) (h11 : op ≤ 11) (h2 : op ≠ 2) (ht : t.size ≤ 2000) (ha : a.size ≤ 2000) (hb : b.size ≤ 2000) : plainSO (plainL op k t a b) pl r p st l = .inl (p, st, l, ((plainL op k t a b).reverse ++ r)) := by
  unfold plainSO
  rw [fits_plain op k t a b h1 h11 h2 ht ha hb]
  rfl
theorem cat_so (k : Nat) (t x z : ByteArray) (r : List ByteArray) (y : Nat → Reply) (n place st looks : Nat) : soOf y n place st looks (performP 2 k t place looks (x :: z :: r)) = plainSO (plainL 2 k t x z) (decT place) r (place + 1) st looks := by
  unfold plainSO
  simp only [performP, plainL, List.all_cons, List.all_nil, Bool.and_true, ByteArray.size_append]
  by_cases h : z.size + x.size ≤ 2000
  · rw [if_pos h, if_pos (by simpa using h)]
    rfl
  · rw [if_neg h, if_neg (by simpa using h)]
    rfl
theorem look_so (op : Nat) (y : Nat → Reply) (n place st looks : Nat) (x : ByteArray) (r : List ByteArray) (b : Bool) (hb : ((op : Int) == 12) = b) : soOf y n place st looks (lookP b x r place looks) = lookSO y n op (decT place) x r (place + 1) st looks := by
  unfold lookP lookSO
  rw [hb]
  by_cases h1 : nameOk x = false
  · rw [if_pos h1, if_pos h1]
    rfl
  · rw [if_neg h1, if_neg h1]
    by_cases h2 : looks = 200
    · rw [if_pos h2, if_pos h2]
      rfl
    · rw [if_neg h2, if_neg h2]
      rfl
theorem strs_app (l r : List ByteArray) : strs (l ++ r) = strs r ++ strs l := by simp [strs]
/-- What is taken off the stack first, and behind it. -/
def topA (op : Nat) (s : List ByteArray) : ByteArray := if 0 < takesOf op then s.getD 0 ⟨#[]⟩ else ⟨#[]⟩
def topB (op : Nat) (s : List ByteArray) : ByteArray := if 1 < takesOf op then s.getD 1 ⟨#[]⟩ else ⟨#[]⟩
/-- Where a plain one goes on. -/
def atOf (op k : Nat) (a : ByteArray) (place : Nat) : Nat := if op = 10 then k else if op = 11 ∧ (a.toList = [] ∨ (a.toList == [48]) = true) then k else place + 1
theorem at_k {op k place : Nat} {A : ByteArray} (h : op = 10 ∨ op = 11 ∧ A.toList.isEmpty = true ∨ op = 11 ∧ (A.toList == [48]) = true) : atOf op k A place = k := by
  unfold atOf
  rcases h with rfl | ⟨rfl, h⟩ | ⟨rfl, h⟩
  · rfl
  · rw [if_neg (by omega), if_pos ⟨rfl, .inl (List.isEmpty_iff.1 h)⟩]
  · rw [if_neg (by omega), if_pos ⟨rfl, .inr h⟩]
theorem op_ways (op : Nat) (A : ByteArray) (h : op ≤ 15) : op = 15 ∨ op = 14 ∨ op = 12 ∨ op = 13 ∨ op = 10 ∨ (op = 11 ∧ A.toList.isEmpty = true) ∨ (op = 11 ∧ A.toList.isEmpty = false ∧ (A.toList == [48]) = true) ∨ (op = 11 ∧ A.toList.isEmpty = false ∧ (A.toList == [48]) = false) ∨ op ≤ 9 := by
  by_cases e : op = 11
  · subst e
    cases A.toList.isEmpty <;> cases (A.toList == [48]) <;> simp
  · omega
theorem top_le {s : List ByteArray} (h : ∀ x ∈ s, x.size ≤ 2000) (op : Nat) : (topA op s).size ≤ 2000 ∧ (topB op s).size ≤ 2000 := by
  have g : ∀ j, (s.getD j ⟨#[]⟩).size ≤ 2000 := fun j => by
    rw [List.getD_eq_getElem?_getD]
    rcases hj : s[j]? with _ | x
    · exact Nat.zero_le _
    · exact h x (List.mem_of_getElem? hj)
  refine ⟨?_, ?_⟩
  · unfold topA
    split
    · exact g 0
    · exact Nat.zero_le _
  · unfold topB
    split
    · exact g 1
    · exact Nat.zero_le _
theorem so_plain (op k : Nat) (t : ByteArray) (s : List ByteArray) (y : Nat → Reply) (n place st looks : Nat) (h1 : 1 ≤ op) (h11 : op ≤ 11) (hb : takesOf op ≤ s.length) (ht : t.size ≤ 2000) (hle : ∀ x ∈ s, x.size ≤ 2000) :
    soOf y n place st looks (performP op k t place looks s) = plainSO (plainL op k t (topA op s) (topB op s)) (decT place) (s.drop (takesOf op)) (atOf op k (topA op s) place) st looks := by
  have hA := (top_le hle op).1
  have hB := (top_le hle op).2
  by_cases h2 : op = 2
  · subst h2
    match s, hb with
    | x :: z :: r, _ => exact cat_so k t x z r y n place st looks
  · rw [plainSO_go op k t _ _ _ _ _ _ _ h1 h11 h2 ht hA hB]
    rcases (show op = 1 ∨ op = 3 ∨ op = 4 ∨ op = 5 ∨ op = 6 ∨ op = 7 ∨ op = 8 ∨ op = 9 ∨ op = 10 ∨ op = 11 by omega) with rfl | rfl | rfl | rfl | rfl | rfl | rfl | rfl | rfl | rfl
    · rfl
    iterate 3
      · match s, hb with
        | x :: r, _ => rfl
    · match s, hb with
      | x :: z :: r, _ => rfl
    · match s, hb with
      | x :: r, _ => rfl
    · match s, hb with
      | x :: z :: r, _ => rfl
    · match s, hb with
      | x :: r, _ => rfl
    · rfl
    · match s, hb with
      | x :: r, _ =>
        show soOf y n place st looks (performP 11 k t place looks (x :: r)) = .inl (atOf 11 k x place, st, looks, r)
        simp only [performP, soOf, atOf, show ((11 : Nat) = 10) = False by simp, if_false, true_and]
theorem so_look (op k : Nat) (t : ByteArray) (s : List ByteArray) (y : Nat → Reply) (n place st looks : Nat) (h : op = 12 ∨ op = 13) (hb : takesOf op ≤ s.length) :
    soOf y n place st looks (performP op k t place looks s) = lookSO y n op (decT place) (topA op s) (s.drop (takesOf op)) (place + 1) st looks := by
  rcases h with rfl | rfl
  · match s, hb with
    | x :: r, _ => exact look_so 12 y n place st looks x r true rfl
  · match s, hb with
    | x :: r, _ => exact look_so 13 y n place st looks x r false rfl
theorem so_over (op k : Nat) (t : ByteArray) (s : List ByteArray) (y : Nat → Reply) (n place st looks : Nat) (h : op = 14 ∨ op = 15) (hb : takesOf op ≤ s.length) :
    soOf y n place st looks (performP op k t place looks s) = .inr (.inl (15 - (op : Int), topA op s, st)) := by
  rcases h with rfl | rfl
  · match s, hb with
    | x :: r, _ => rfl
  · match s, hb with
    | x :: r, _ => rfl

end Go.Proofs.YtfhdecheaeoopaaDoor.Vp
