/-
  Put together of: NxPl, FlPure, FlAns, FlReply, FlBox, FlReplay, FlRing.
-/
import Derived.Test.YtfhdecheaeoopaaGreatDoorZR
import Derived.Test.YtfhdecheaeoopaaGreatDoorZF
import Derived.Test.YtfhdecheaeoopaaGreatDoorZQ
import Derived.Test.YtfhdecheaeoopaaGreatDoorZC

/-
  spec: l1Step: what it leans on.
-/
namespace Go.Proofs.YtfhdecheaeoopaaGreatDoor.Vp
open Go.RowKit

theorem add0 (g j : Nat) : (⟨g, 0, none⟩ : Addr).add j = ⟨g, j, none⟩ := by
  unfold Addr.add
  split <;> simp_all
theorem own_top {w : World} {base g cap : Nat} {e : TypeId} {x : ByteArray} {r : List ByteArray} (h : w.ownsRow base e 1 (.slice (some ⟨g, 0, none⟩) (r.length + 1) cap) (r.length + 1) (strs (x :: r))) : w.cell? ⟨g, r.length, none⟩ = some (.string x) := by
  have := h.cells (g := g) rfl r.length (.string x) (by rw [strs_cons, List.getElem?_append_right (by simp)]; simp)
  rwa [add0] at this
theorem own_2nd {w : World} {base g cap : Nat} {e : TypeId} {x z : ByteArray} {r : List ByteArray} (h : w.ownsRow base e 1 (.slice (some ⟨g, 0, none⟩) (r.length + 2) cap) (r.length + 2) (strs (x :: z :: r))) : w.cell? ⟨g, r.length + 1, none⟩ = some (.string x) ∧ w.cell? ⟨g, r.length, none⟩ = some (.string z) := by
  have h1 := h.cells (g := g) rfl (r.length + 1) (.string x) (by rw [strs_cons, List.getElem?_append_right (by simp)]; simp)
  have h2 := h.cells (g := g) rfl r.length (.string z) (by rw [strs_cons, List.getElem?_append_left (by simp), strs_cons, List.getElem?_append_right (by simp)]; simp)
  rw [add0] at h1 h2
  exact ⟨h1, h2⟩
theorem own_cap {w : World} {base n cap : Nat} {e : TypeId} {g : Nat} {xs : List Value} (h : w.ownsRow base e 1 (.slice (some ⟨g, 0, none⟩) n cap) n xs) : n ≤ cap := by
  rcases h.2 with ⟨h0, _⟩ | ⟨g, c, cur, hv, _, _, hn, _⟩
  · simp at h0
  · simp at hv
    omega
theorem own_pre {w : World} {base g n cap : Nat} {e : TypeId} {r : List ByteArray} {xs : List Value} (h : w.ownsRow base e 1 (.slice (some ⟨g, 0, none⟩) n cap) n (strs r ++ xs)) : ∀ j u, (strs r)[j]? = some u → w.cell? ((⟨g, 0, none⟩ : Addr).add j) = some u := fun j u hu =>
  h.cells (g := g) rfl j u (by rw [List.getElem?_append_left (by obtain ⟨hj, _⟩ := List.getElem?_eq_some_iff.1 hu; exact hj)]; exact hu)
theorem own_form0 {w : World} {base n : Nat} {e : TypeId} {v : Value} {xs : List Value} (h : w.ownsRow base e 1 v n xs) (hv : v ≠ .slice none 0 0) : ∃ g cap, v = .slice (some ⟨g, 0, none⟩) n cap ∧ base ≤ g := by
  rcases h.2 with ⟨h0, _⟩ | ⟨g, cap, cur, hv, hg, _⟩
  · exact absurd h0 hv
  · exact ⟨g, cap, hv, hg⟩
theorem strs_one (r : List ByteArray) : ∀ u ∈ strs r, u.oneCell' = true := by
  intro u hu
  obtain ⟨x, _, rfl⟩ := List.mem_map.1 hu
  rfl
def lookSO (y : Nat → Reply) (n op : Nat) (pl nm : ByteArray) (s : List ByteArray) (p st l : Nat) : SO :=
  if nameOk nm = false then .inr (.inl (2, pl, st)) else if l = 200 then .inr (.inl (3, ⟨#[]⟩, st)) else afterLook y n ((op : Int) == 12) nm s p st l
theorem l1Look_any (op : Nat) (t : ByteArray) (k : Int) (p st l : Nat) (a : Option Addr) (cap : Nat) (s : List ByteArray) (nm pl : ByteArray) (b2 o2 n cap2 base : Nat) (y : Nat → Reply) (w : World)
    (hY : RowReply w b2 o2 n y) (hO : w.ownsRow base 9 1 (.slice a s.length cap) s.length (strs s)) (hb : base ≤ w.heap.size) (hop : op = 12 ∨ op = 13) (hl : l ≤ 200) (hs : s.length ≤ 50) :
    Calls Tryz.prog 108 #[.agg #[.int .i64 op, .string t, .int .i64 k], runV p (.slice a s.length cap) st l false 0 ⟨#[]⟩ false ⟨#[]⟩ false, .string nm, .string pl, .slice (some ⟨b2, o2, none⟩) n cap2] w fun e w' => ∃ v, e = .returned v ∧ SoIs w' base v (lookSO y n op pl nm s p st l) ∧ Below base w w' := by
  unfold lookSO
  by_cases h1 : nameOk nm = false
  · rw [if_pos h1]
    exact look_name op t k p st l a cap s nm pl b2 o2 n cap2 base y w hY hO hb h1
  · rw [if_neg h1]
    have h1 : nameOk nm = true := by simpa using h1
    by_cases h2 : l = 200
    · rw [if_pos h2]
      exact look_spent op t k p st l a cap s nm pl b2 o2 n cap2 base y w hY hO hb h1 (by simp; omega)
    · rw [if_neg h2]
      have h2 : ((l : Int) == 200) = false := by simp; omega
      unfold afterLook
      by_cases h3 : n ≤ l
      · rw [if_pos h3]
        exact look_wait op t k p st l a cap s nm pl b2 o2 n cap2 base y w hY hO hb h1 h2 (by omega)
      · rw [if_neg h3]
        rcases hop with rfl | rfl
        · rw [if_neg (by simp)]
          by_cases h4 : (y l).has = false
          · rw [if_pos h4]
            exact look_miss 12 t k p st l a cap s nm pl b2 o2 n cap2 base y w hY hO hb h1 h2 hl (by omega) (by simp) h4
          · rw [if_neg h4]
            have h4 : (y l).has = true := by simpa using h4
            by_cases h5 : (y l).code = 0
            · rw [if_pos h5]
              exact look_text 12 t k p st l a cap s nm pl b2 o2 n cap2 base y w hY hO hb h1 h2 hl (by omega) (by simp) h4 h5 hs
            · rw [if_neg h5]
              exact look_below 12 t k p st l a cap s nm pl b2 o2 n cap2 base y w hY hO hb h1 h2 hl (by omega) (by simp) h4 (by simpa using h5)
        · rw [if_pos (by simp)]
          exact look_has 13 t k p st l a cap s nm pl b2 o2 n cap2 base y w hY hO hb h1 h2 hl (by omega) (by simp) hs
theorem SoIs.form {w : World} {base : Nat} {v : Value} {r : SO} (h : SoIs w base v r) : ∃ (at_ : Int) (a : Option Addr) (n cap : Nat) (st lk : Int) (ov : Bool) (c : Int) (x : ByteArray) (ask : Bool) (nm : ByteArray) (wt : Bool), v = runV at_ (.slice a n cap) st lk ov c x ask nm wt := by
  rcases r with ⟨p, st, l, s⟩ | ⟨c, x, st⟩ | ⟨ask, nm, st⟩
  · obtain ⟨a, cap, e, _⟩ := h
    exact ⟨_, _, _, _, _, _, _, _, _, _, _, _, e⟩
  · obtain ⟨at_, a, n, cap, lk, e⟩ := h
    exact ⟨_, _, _, _, _, _, _, _, _, _, _, _, e⟩
  · obtain ⟨at_, a, n, cap, lk, e⟩ := h
    exact ⟨_, _, _, _, _, _, _, _, _, _, _, _, e⟩
theorem SoIs.set {w : World} {base : Nat} {v : Value} {r : SO} (h : SoIs w base v r) {k : Nat} (hk : k < base) (j : Nat) (u : Value) : SoIs (w.setCell ⟨k, j, none⟩ u) base v r := by
  rcases r with ⟨p, st, l, s⟩ | ⟨c, x, st⟩ | ⟨ask, nm, st⟩
  · obtain ⟨a, cap, e, ho⟩ := h
    exact ⟨a, cap, e, ownsRow_setCell_below ho (a := ⟨k, j, none⟩) hk u⟩
  · exact h
  · exact h
theorem SoIs.mono {w : World} {base base' : Nat} {v : Value} {r : SO} (h : SoIs w base v r) (hb : base' ≤ base) : SoIs w base' v r := h.kept (Below.refl _ _) hb
theorem ten_so {w : World} {base : Nat} {v : Value} {r : SO} (h : SoIs w base v r) {k : Nat} (hk : k < base) (v0 v1 v2 v3 v4 v5 v6 v7 v8 v9 : Value) : SoIs ((((((((((w.setCell ⟨k, 0, none⟩ v0).setCell ⟨k, 1, none⟩ v1).setCell ⟨k, 2, none⟩ v2).setCell ⟨k, 3, none⟩ v3).setCell ⟨k, 4, none⟩ v4).setCell ⟨k, 5, none⟩ v5).setCell ⟨k, 6, none⟩ v6).setCell ⟨k, 7, none⟩ v7).setCell ⟨k, 8, none⟩ v8).setCell ⟨k, 9, none⟩ v9) base v r :=
  (((((((((h.set hk 0 v0).set hk 1 v1).set hk 2 v2).set hk 3 v3).set hk 4 v4).set hk 5 v5).set hk 6 v6).set hk 7 v7).set hk 8 v8).set hk 9 v9
theorem plainL_len (op n : Nat) (t a b : ByteArray) (h1 : 1 ≤ op) (h11 : op ≤ 11) : (plainL op n t a b).length = putsOf op := by
  rcases (show op = 1 ∨ op = 2 ∨ op = 3 ∨ op = 4 ∨ op = 5 ∨ op = 6 ∨ op = 7 ∨ op = 8 ∨ op = 9 ∨ op = 10 ∨ op = 11 by omega) with rfl | rfl | rfl | rfl | rfl | rfl | rfl | rfl | rfl | rfl | rfl
  all_goals rfl
theorem puts_le {op j : Nat} (h1 : 1 ≤ op) (h11 : op ≤ 11) (h : j < putsOf op) : op ≤ 8 := by
  rcases (show op = 1 ∨ op = 2 ∨ op = 3 ∨ op = 4 ∨ op = 5 ∨ op = 6 ∨ op = 7 ∨ op = 8 ∨ op = 9 ∨ op = 10 ∨ op = 11 by omega) with rfl | rfl | rfl | rfl | rfl | rfl | rfl | rfl | rfl | rfl | rfl
  all_goals simp [putsOf] at h ⊢
theorem puts_two (op : Nat) : putsOf op ≤ 2 := by
  unfold putsOf
  split
  · omega
  · split <;> omega
def plainSO (PL : List ByteArray) (pl : ByteArray) (r : List ByteArray) (p st l : Nat) : SO := if PL.all (fun x => decide (x.size ≤ 2000)) then .inl (p, st, l, (PL.reverse ++ r)) else .inr (.inl (2, pl, st))
theorem take_next {PL : List ByteArray} {j : Nat} (h : j < PL.length) : (PL.take (j + 1)).map Value.string = (PL.take j).map Value.string ++ [.string (PL.getD j ⟨#[]⟩)] := by
  rw [List.take_add_one, List.map_append, List.getElem?_eq_getElem h]
  simp [h]
theorem strs_rev (PL r : List ByteArray) : strs (PL.reverse ++ r) = strs r ++ PL.map Value.string := by simp [strs]
theorem fits_no {PL : List ByteArray} {j : Nat} (h : j < PL.length) (hs : ¬ ((PL.getD j ⟨#[]⟩).size : Int) ≤ 2000) : PL.all (fun x => decide (x.size ≤ 2000)) = false := by
  simp only [List.all_eq_false]
  exact ⟨PL[j], List.getElem_mem h, by simp [h] at hs ⊢; omega⟩
theorem fits_yes {PL : List ByteArray} (h : ∀ i, i < PL.length → (PL.getD i ⟨#[]⟩).size ≤ 2000) : PL.all (fun x => decide (x.size ≤ 2000)) = true := by
  simp only [List.all_eq_true, decide_eq_true_eq]
  intro x hx
  obtain ⟨i, hi, rfl⟩ := List.mem_iff_getElem.1 hx
  have := h i hi
  simpa [hi] using this
def soOf (y : Nat → Reply) (n place st looks : Nat) : Res → SO
  | .inr (.inl (c, x)) => .inr (.inl (c, x, st))
  | .inl (s', p) => .inl (p, st, looks, s')
  | .inr (.inr (a, nm, s')) => afterLook y n a nm s' (place + 1) st looks
def sstepP (f : Nat → Ins) (cnt : Nat) (y : Nat → Reply) (n place steps looks : Nat) (s : List ByteArray) : SO := soOf y n place (stepN cnt place steps) looks (stepP f cnt place steps looks s)
theorem own_cases {w : World} {base n cap : Nat} {e : TypeId} {a : Option Addr} {xs : List Value} (h : w.ownsRow base e 1 (.slice a n cap) n xs) : (a = none ∧ n = 0 ∧ cap = 0) ∨ ∃ g, a = some ⟨g, 0, none⟩ := by
  rcases h.2 with ⟨h0, _⟩ | ⟨g, c, cur, hv, _⟩
  · simp only [Value.slice.injEq] at h0
    exact .inl h0
  · simp only [Value.slice.injEq] at hv
    exact .inr ⟨g, hv.1⟩
theorem fits_plain (op k : Nat) (t a b : ByteArray) (h1 : 1 ≤ op) (h11 : op ≤ 11) (h2 : op ≠ 2) (ht : t.size ≤ 2000) (ha : a.size ≤ 2000) (hb : b.size ≤ 2000) : (plainL op k t a b).all (fun x => decide (x.size ≤ 2000)) = true := by
  rcases (show op = 1 ∨ op = 3 ∨ op = 4 ∨ op = 5 ∨ op = 6 ∨ op = 7 ∨ op = 8 ∨ op = 9 ∨ op = 10 ∨ op = 11 by omega) with rfl | rfl | rfl | rfl | rfl | rfl | rfl | rfl | rfl | rfl
  · simp [plainL, ht]
  · simp only [plainL, List.all_cons, List.all_nil, Bool.and_true, decide_eq_true_eq]
    split
    · simp; omega
    · exact ha
  · simp only [plainL, List.all_cons, List.all_nil, Bool.and_true, decide_eq_true_eq]
    split
    · simp; omega
    · decide
  · simp only [plainL, List.all_cons, List.all_nil, Bool.and_true, decide_eq_true_eq]
    exact Nat.le_trans (wordT_size _ _) ha
  · simp only [plainL, List.all_cons, List.all_nil, Bool.and_true, decide_eq_true_eq]
    exact flagT_size _
  · simp [plainL, ha]
  · simp [plainL, ha, hb]
  · rfl
  · rfl
  · rfl
theorem plainSO_go (op k : Nat) (t a b pl : ByteArray) (r : List ByteArray) (p st l : Nat) (h1 : 1 ≤ op) (h11 : op ≤ 11) (h2 : op ≠ 2) (ht : t.size ≤ 2000) (ha : a.size ≤ 2000) (hb : b.size ≤ 2000) : plainSO (plainL op k t a b) pl r p st l = .inl (p, st, l, ((plainL op k t a b).reverse ++ r)) := by
  unfold plainSO
  rw [fits_plain op k t a b h1 h11 h2 ht ha hb]
  rfl
theorem cat_so (k : Nat) (t x z : ByteArray) (r : List ByteArray) (y : Nat → Reply) (n place st looks : Nat) : soOf y n place st looks (performP 2 k t place looks (x :: z :: r)) = plainSO (plainL 2 k t x z) (decT place) r (place + 1) st looks := by
  unfold plainSO
  simp only [performP, plainL, List.all_cons, List.all_nil, Bool.and_true, ByteArray.size_append]
  by_cases h : z.size + x.size ≤ 2000
  · rw [if_pos h, if_pos (by simpa using h)]
    rfl
  · rw [if_neg h, if_neg (by simpa using h)]
    rfl
theorem look_so (op : Nat) (y : Nat → Reply) (n place st looks : Nat) (x : ByteArray) (r : List ByteArray) (b : Bool) (hb : ((op : Int) == 12) = b) : soOf y n place st looks (lookP b x r place looks) = lookSO y n op (decT place) x r (place + 1) st looks := by
  unfold lookP lookSO
  rw [hb]
  by_cases h1 : nameOk x = false
  · rw [if_pos h1, if_pos h1]
    rfl
  · rw [if_neg h1, if_neg h1]
    by_cases h2 : looks = 200
    · rw [if_pos h2, if_pos h2]
      rfl
    · rw [if_neg h2, if_neg h2]
      rfl
theorem strs_app (l r : List ByteArray) : strs (l ++ r) = strs r ++ strs l := by simp [strs]
/-- What is taken off the stack first, and behind it. -/
def topA (op : Nat) (s : List ByteArray) : ByteArray := if 0 < takesOf op then s.getD 0 ⟨#[]⟩ else ⟨#[]⟩
def topB (op : Nat) (s : List ByteArray) : ByteArray := if 1 < takesOf op then s.getD 1 ⟨#[]⟩ else ⟨#[]⟩
/-- Where a plain one goes on. -/
def atOf (op k : Nat) (a : ByteArray) (place : Nat) : Nat := if op = 10 then k else if op = 11 ∧ (a.toList = [] ∨ (a.toList == [48]) = true) then k else place + 1
theorem at_k {op k place : Nat} {A : ByteArray} (h : op = 10 ∨ op = 11 ∧ A.toList.isEmpty = true ∨ op = 11 ∧ (A.toList == [48]) = true) : atOf op k A place = k := by
  unfold atOf
  rcases h with rfl | ⟨rfl, h⟩ | ⟨rfl, h⟩
  · rfl
  · rw [if_neg (by omega), if_pos ⟨rfl, .inl (List.isEmpty_iff.1 h)⟩]
  · rw [if_neg (by omega), if_pos ⟨rfl, .inr h⟩]
theorem op_ways (op : Nat) (A : ByteArray) (h : op ≤ 15) : op = 15 ∨ op = 14 ∨ op = 12 ∨ op = 13 ∨ op = 10 ∨ (op = 11 ∧ A.toList.isEmpty = true) ∨ (op = 11 ∧ A.toList.isEmpty = false ∧ (A.toList == [48]) = true) ∨ (op = 11 ∧ A.toList.isEmpty = false ∧ (A.toList == [48]) = false) ∨ op ≤ 9 := by
  by_cases e : op = 11
  · subst e
    cases A.toList.isEmpty <;> cases (A.toList == [48]) <;> simp
  · omega
theorem top_le {s : List ByteArray} (h : ∀ x ∈ s, x.size ≤ 2000) (op : Nat) : (topA op s).size ≤ 2000 ∧ (topB op s).size ≤ 2000 := by
  have g : ∀ j, (s.getD j ⟨#[]⟩).size ≤ 2000 := fun j => by
    rw [List.getD_eq_getElem?_getD]
    rcases hj : s[j]? with _ | x
    · exact Nat.zero_le _
    · exact h x (List.mem_of_getElem? hj)
  refine ⟨?_, ?_⟩
  · unfold topA
    split
    · exact g 0
    · exact Nat.zero_le _
  · unfold topB
    split
    · exact g 1
    · exact Nat.zero_le _
theorem so_plain (op k : Nat) (t : ByteArray) (s : List ByteArray) (y : Nat → Reply) (n place st looks : Nat) (h1 : 1 ≤ op) (h11 : op ≤ 11) (hb : takesOf op ≤ s.length) (ht : t.size ≤ 2000) (hle : ∀ x ∈ s, x.size ≤ 2000) :
    soOf y n place st looks (performP op k t place looks s) = plainSO (plainL op k t (topA op s) (topB op s)) (decT place) (s.drop (takesOf op)) (atOf op k (topA op s) place) st looks := by
  have hA := (top_le hle op).1
  have hB := (top_le hle op).2
  by_cases h2 : op = 2
  · subst h2
    match s, hb with
    | x :: z :: r, _ => exact cat_so k t x z r y n place st looks
  · rw [plainSO_go op k t _ _ _ _ _ _ _ h1 h11 h2 ht hA hB]
    rcases (show op = 1 ∨ op = 3 ∨ op = 4 ∨ op = 5 ∨ op = 6 ∨ op = 7 ∨ op = 8 ∨ op = 9 ∨ op = 10 ∨ op = 11 by omega) with rfl | rfl | rfl | rfl | rfl | rfl | rfl | rfl | rfl | rfl
    · rfl
    iterate 3
      · match s, hb with
        | x :: r, _ => rfl
    · match s, hb with
      | x :: z :: r, _ => rfl
    · match s, hb with
      | x :: r, _ => rfl
    · match s, hb with
      | x :: z :: r, _ => rfl
    · match s, hb with
      | x :: r, _ => rfl
    · rfl
    · match s, hb with
      | x :: r, _ =>
        show soOf y n place st looks (performP 11 k t place looks (x :: r)) = .inl (atOf 11 k x place, st, looks, r)
        simp only [performP, soOf, atOf, show ((11 : Nat) = 10) = False by simp, if_false, true_and]
theorem so_look (op k : Nat) (t : ByteArray) (s : List ByteArray) (y : Nat → Reply) (n place st looks : Nat) (h : op = 12 ∨ op = 13) (hb : takesOf op ≤ s.length) :
    soOf y n place st looks (performP op k t place looks s) = lookSO y n op (decT place) (topA op s) (s.drop (takesOf op)) (place + 1) st looks := by
  rcases h with rfl | rfl
  · match s, hb with
    | x :: r, _ => exact look_so 12 y n place st looks x r true rfl
  · match s, hb with
    | x :: r, _ => exact look_so 13 y n place st looks x r false rfl
theorem so_over (op k : Nat) (t : ByteArray) (s : List ByteArray) (y : Nat → Reply) (n place st looks : Nat) (h : op = 14 ∨ op = 15) (hb : takesOf op ≤ s.length) :
    soOf y n place st looks (performP op k t place looks s) = .inr (.inl (15 - (op : Int), topA op s, st)) := by
  rcases h with rfl | rfl
  · match s, hb with
    | x :: r, _ => rfl
  · match s, hb with
    | x :: r, _ => rfl

end Go.Proofs.YtfhdecheaeoopaaGreatDoor.Vp

/-
  What Follows answers.
-/
namespace Go.Proofs.YtfhdecheaeoopaaGreatDoor.Vp
open Go.RowKit

/-- what a link answers. -/
def ansR (f : Nat → Deed) (l : Link) : Reply :=
  if l.ask = true then
    (if (f l.at_.toNat).kind = 1 then ⟨true, 0, (f l.at_.toNat).text⟩ else if (f l.at_.toNat).kind = 3 then ⟨true, (f l.at_.toNat).code, (f l.at_.toNat).text⟩ else ⟨false, 0, ⟨#[]⟩⟩)
  else ⟨l.has, 0, ⟨#[]⟩⟩
def yOf (f : Nat → Deed) (p : Nat) (k : Nat) : Reply := ansR f ((f p).links k)
/-- where a target's run stands behind k replies. -/
def turnK (f : Nat → Deed) (p k : Nat) : Turn := nextP (f p).act (f p).actN (yOf f p) k 2001 0 0 0 []
/-- the run does not go on by link k. -/
def offK (f : Nat → Deed) (p k : Nat) : Bool := (turnK f p k).over || !((turnK f p k).name.toList == ((f p).links k).name.toList) || !((turnK f p k).ask == ((f p).links k).ask)
/-- the first link, from k on, by which it does not go on; j links are left. -/
def stopK (f : Nat → Deed) (p : Nat) : Nat → Nat → Nat
  | 0, k => k
  | j + 1, k => if offK f p k = true then k else stopK f p j (k + 1)
def stopAt (f : Nat → Deed) (p : Nat) : Nat := stopK f p (f p).linksN 0
def codeR (f : Nat → Deed) (p : Nat) : Int :=
  if stopAt f p < (f p).linksN then 4 else if (turnK f p (stopAt f p)).over = false then 4 else if (turnK f p (stopAt f p)).code = (f p).code ∧ (turnK f p (stopAt f p)).text.toList = (f p).text.toList then 0 else 5
def codeF (f : Nat → Deed) (p : Nat) : Int := if (f p).kind = 3 then codeR f p else 0
/-- the first deed with a code. -/
def folF (f : Nat → Deed) : Nat → Int × Int
  | 0 => (0, 0)
  | k + 1 => if (folF f k).1 = 0 then (if codeF f k = 0 then (0, 0) else (codeF f k, (k : Int))) else folF f k
def folC (f : Nat → Deed) (n : Nat) : Int × Int := if accOk f n = true then folF f n else (1, 0)

theorem stopK_le (f : Nat → Deed) (p : Nat) : ∀ j k, k ≤ stopK f p j k ∧ stopK f p j k ≤ k + j
  | 0, k => ⟨Nat.le_refl _, Nat.le_refl _⟩
  | j + 1, k => by
    rw [stopK]
    split
    · omega
    · have := stopK_le f p j (k + 1)
      omega
theorem stopK_go {f : Nat → Deed} {p j k : Nat} (h : offK f p k = false) : stopK f p (j + 1) k = stopK f p j (k + 1) := by
  rw [stopK, if_neg (by rw [h]; simp)]
theorem stopK_at {f : Nat → Deed} {p j k : Nat} (h : offK f p k = true) : stopK f p (j + 1) k = k := by
  rw [stopK, if_pos h]

theorem folF_first {f : Nat → Deed} {n k : Nat} (hk : k < n) (h0 : ∀ i, i < k → codeF f i = 0) (h : codeF f k ≠ 0) : folF f n = (codeF f k, (k : Int)) := by
  have hz : ∀ m, m ≤ k → folF f m = (0, 0) := by
    intro m hm
    induction m with
    | zero => rfl
    | succ m ih => rw [folF, ih (by omega), if_pos rfl, if_pos (h0 m (by omega))]
  induction n with
  | zero => omega
  | succ n ih =>
    rw [folF]
    by_cases e : k = n
    · subst e
      rw [hz k (Nat.le_refl _), if_pos rfl, if_neg h]
    · rw [ih (by omega), if_neg h]
theorem folF_none {f : Nat → Deed} {n : Nat} (h0 : ∀ i, i < n → codeF f i = 0) : folF f n = (0, 0) := by
  induction n with
  | zero => rfl
  | succ m ih => rw [folF, ih fun i hi => h0 i (by omega), if_pos rfl, if_pos (h0 m (by omega))]

/-- a valid account: each deed is one of the three kinds; a target's program is valid, its links are at most 200; what is not made has no code, what is none no text. -/
theorem accOk_deed {f : Nat → Deed} {n : Nat} (h : accOk f n = true) : ∀ p, p < n → (f p).text.size ≤ 2000 ∧ ((f p).kind = 1 ∧ (f p).code = 0 ∨ (f p).kind = 2 ∧ (f p).code = 0 ∧ (f p).text.size = 0 ∨ (f p).kind = 3 ∧ 0 ≤ (f p).code ∧ (f p).code ≤ 5 ∧ valid (f p).act (f p).actN = true ∧ (f p).linksN ≤ 200) := by
  intro p hp
  have h1 := firstNo_ok (accOk_n h).2.2 p hp
  simp only [deedOk, Bool.and_eq_true, kindOk, decide_eq_true_eq] at h1
  obtain ⟨⟨_, h0⟩, h2⟩ := h1
  refine ⟨h0, ?_⟩
  split at h2
  · rename_i hk
    simp only [unmadeOk, Bool.and_eq_true, decide_eq_true_eq] at h2
    exact .inl ⟨hk, h2.1.1⟩
  · split at h2
    · rename_i hk
      simp only [unmadeOk, Bool.and_eq_true, decide_eq_true_eq] at h2
      exact .inr (.inl ⟨hk, h2.1.1.1, h2.2⟩)
    · split at h2
      · rename_i hk
        simp only [targetOk, Bool.and_eq_true, decide_eq_true_eq] at h2
        exact .inr (.inr ⟨hk, h2.1.1.1.1, h2.1.1.1.2, h2.1.1.2, h2.1.2⟩)
      · simp at h2
/-- every reply is valid. -/
theorem ansR_ok {f : Nat → Deed} {n : Nat} (h : accOk f n = true) {l : Link} (hl : l.ask = true → l.at_.toNat < n) : replyOk (ansR f l) = true := by
  unfold ansR replyOk
  split
  · rename_i ha
    obtain ⟨h1, h2⟩ := accOk_deed h _ (hl ha)
    split
    · simp; omega
    · split
      · rename_i hk1 hk3
        rcases h2 with h2 | h2 | h2
        · omega
        · omega
        · simp; omega
      · exact decide_eq_true ⟨Nat.zero_le _, by decide, by decide⟩
  · exact decide_eq_true ⟨Nat.zero_le _, Int.le_refl _, show (0 : Int) ≤ 7 by decide⟩
theorem repliesTo_of {y : Nat → Reply} {k : Nat} (h : ∀ i, i < k → replyOk (y i) = true) : repliesTo y k = true := by
  induction k with
  | zero => rfl
  | succ k ih => rw [repliesTo, ih fun i hi => h i (by omega), h k (by omega)]; rfl
/-- what impl's replyOf gives is the same. -/
theorem ansR_impl {f : Nat → Deed} {n : Nat} (h : accOk f n = true) {l : Link} (ha : l.ask = true) (hl : l.at_.toNat < n) : ansR f l = ⟨decide (¬ (f l.at_.toNat).kind = 2), (f l.at_.toNat).code, (f l.at_.toNat).text⟩ := by
  obtain ⟨h1, h2⟩ := accOk_deed h _ hl
  unfold ansR
  rw [if_pos ha]
  rcases h2 with ⟨hk, hc⟩ | ⟨hk, hc, ht⟩ | ⟨hk, hc⟩
  · rw [if_pos hk, hk, hc]; rfl
  · rw [if_neg (by omega), if_neg (by omega), hk, hc]
    have : (f l.at_.toNat).text = ⟨#[]⟩ := ByteArray.ext (Array.eq_empty_of_size_eq_zero ht)
    rw [this]; rfl
  · rw [if_neg (by omega), if_pos hk, hk]; rfl

end Go.Proofs.YtfhdecheaeoopaaGreatDoor.Vp

/-
  spec: l4Answer.
-/
namespace Go.Proofs.YtfhdecheaeoopaaGreatDoor.Vp
open Go.RowKit

set_option maxRecDepth 100000 in
set_option maxHeartbeats 4000000 in
theorem l4Answer_any (bd offd n cap : Nat) (f : Nat → Deed) (l : Link) (w : World) (hrow : RowDeed w bd offd n f) (hl : l.ask = true → 0 ≤ l.at_ ∧ l.at_.toNat < n) :
    Calls Tryz.prog 40 #[.agg #[.slice (some ⟨bd, offd, none⟩) n cap], .agg #[.string l.name, .bool l.ask, .bool l.has, .int .i64 l.at_]] w fun e w' => e = .returned (.agg #[.bool (ansR f l).has, .int .i64 (ansR f l).code, .string (ansR f l).text]) ∧ Below w.heap.size w w' := by
  have HR := hide hrow
  have HL := hide hl
  have HN := hide (show ansR f l = if l.ask = true then (if (f l.at_.toNat).kind = 1 then ⟨true, 0, (f l.at_.toNat).text⟩ else if (f l.at_.toNat).kind = 3 then ⟨true, (f l.at_.toNat).code, (f l.at_.toNat).text⟩ else ⟨false, 0, ⟨#[]⟩⟩) else ⟨l.has, 0, ⟨#[]⟩⟩ from rfl)
  clear hrow hl
  obtain ⟨R, hR⟩ : ∃ R, R = ansR f l := ⟨_, rfl⟩
  rw [← hR] at HN ⊢
  clear hR
  obtain ⟨nm, ask, hs, at_⟩ := l
  dsimp only at HL HN ⊢
  have A0 := hide ((((Below.refl w.heap.size w).alloc (Nat.le_refl _) (.cells #[.slice (some ⟨bd, offd, none⟩) n cap] 30)).alloc (by simp) (.cells #[.string nm, .bool ask, .bool hs, .int .i64 at_] 70)).alloc (by simp; omega) (.cells #[.bool false, .int .i64 0, .string ⟨#[]⟩] 88))
  cases ask with
  | false =>
    obtain rfl : R = ⟨hs, 0, ⟨#[]⟩⟩ := by have := HN.out; simpa using this
    dsimp only
    go_enter Tryz.func40, Tryz.ntmps40
    go_wp2
    exact bodyPost_ret (v := .agg #[.bool hs, .int .i64 0, .string ⟨#[]⟩]) (by simp [results, Tryz.results40, go_sem]) rfl ⟨rfl, by
      repeat (first | exact Below.refl _ _ | refine Below.alloc ?_ (by first | (simp; done) | (simp; omega)) _)⟩
  | true =>
    obtain ⟨h1, h2⟩ := HL.out rfl
    obtain ⟨p, rfl⟩ := Int.eq_ofNat_of_zero_le h1
    have hp : p < n := by simpa using h2
    have HN2 := hide (show R = if (f p).kind = 1 then ⟨true, 0, (f p).text⟩ else if (f p).kind = 3 then ⟨true, (f p).code, (f p).text⟩ else ⟨false, 0, ⟨#[]⟩⟩ by have := HN.out; simpa using this)
    clear HN
    obtain ⟨p0, p1, p2, p3, ⟨a2, cap2, p4, q4⟩, ⟨a3, cap3, p5, q5⟩⟩ := (HR.out.below A0.out (Nat.le_refl _)).2 p hp
    clear q4 q5 HL
    have hpn : (p : Int) < n := by omega
    go_enter Tryz.func40, Tryz.ntmps40
    by_cases hk1 : (f p).kind = 1
    · obtain rfl : R = ⟨true, 0, (f p).text⟩ := by rw [HN2.out, if_pos hk1]
      go_wp2
      exact bodyPost_ret (v := .agg #[.bool true, .int .i64 0, .string (f p).text]) (by simp [results, Tryz.results40, go_sem]) rfl ⟨rfl, by
        repeat (first | exact Below.refl _ _ | refine Below.alloc ?_ (by first | (simp; done) | (simp; omega)) _)⟩
    · by_cases hk3 : (f p).kind = 3
      · obtain rfl : R = ⟨true, (f p).code, (f p).text⟩ := by rw [HN2.out, if_neg hk1, if_pos hk3]
        go_wp2
        exact bodyPost_ret (v := .agg #[.bool true, .int .i64 (f p).code, .string (f p).text]) (by simp [results, Tryz.results40, go_sem]) rfl ⟨rfl, by
          repeat (first | exact Below.refl _ _ | refine Below.alloc ?_ (by first | (simp; done) | (simp; omega)) _)⟩
      · obtain rfl : R = ⟨false, 0, ⟨#[]⟩⟩ := by rw [HN2.out, if_neg hk1, if_neg hk3]
        go_wp2
        exact bodyPost_ret (v := .agg #[.bool false, .int .i64 0, .string ⟨#[]⟩]) (by simp [results, Tryz.results40, go_sem]) rfl ⟨rfl, by
          repeat (first | exact Below.refl _ _ | refine Below.alloc ?_ (by first | (simp; done) | (simp; omega)) _)⟩

end Go.Proofs.YtfhdecheaeoopaaGreatDoor.Vp

/-
  impl: reply, replyOf.
-/
namespace Go.Proofs.YtfhdecheaeoopaaGreatDoor.Vp
open Go.RowKit

set_option maxRecDepth 100000 in
set_option maxHeartbeats 4000000 in
theorem replyOf_any (bd offd n cap : Nat) (f : Nat → Deed) (l : Link) (w : World) (hacc : accOk f n = true) (hrow : RowDeed w bd offd n f) (hl : l.ask = true → 0 ≤ l.at_ ∧ l.at_.toNat < n) :
    Calls Tryz.prog 83 #[.agg #[.slice (some ⟨bd, offd, none⟩) n cap], .agg #[.string l.name, .bool l.ask, .bool l.has, .int .i64 l.at_]] w fun e w' => e = .returned (.agg #[.bool (ansR f l).has, .int .i64 (ansR f l).code, .string (ansR f l).text]) ∧ Below w.heap.size w w' := by
  have HR := hide hrow
  have HA := hide (fun ha : l.ask = true => ansR_impl hacc ha (hl ha).2)
  have HL := hide hl
  have HN := hide (show l.ask = false → ansR f l = ⟨l.has, 0, ⟨#[]⟩⟩ from fun h => by unfold ansR; rw [if_neg (by rw [h]; simp)])
  clear hrow hacc hl
  obtain ⟨R, hR⟩ : ∃ R, R = ansR f l := ⟨_, rfl⟩
  rw [← hR] at HA HN ⊢
  clear hR
  obtain ⟨nm, ask, hs, at_⟩ := l
  dsimp only at HA HL HN ⊢
  have A0 := hide ((((Below.refl w.heap.size w).alloc (Nat.le_refl _) (.cells #[.slice (some ⟨bd, offd, none⟩) n cap] 30)).alloc (by simp) (.cells #[.string nm, .bool ask, .bool hs, .int .i64 at_] 70)).alloc (by simp; omega) (.cells #[.bool false, .int .i64 0, .string ⟨#[]⟩] 88))
  cases ask with
  | false =>
    obtain rfl : R = ⟨hs, 0, ⟨#[]⟩⟩ := HN.out rfl
    dsimp only
    go_enter Tryz.func83, Tryz.ntmps83
    go_wp2
    exact bodyPost_ret (v := .agg #[.bool hs, .int .i64 0, .string ⟨#[]⟩]) (by simp [results, Tryz.results83, go_sem]) rfl ⟨rfl, by
      repeat (first | exact Below.refl _ _ | refine Below.alloc ?_ (by first | (simp; done) | (simp; omega)) _)⟩
  | true =>
    obtain ⟨h1, h2⟩ := HL.out rfl
    obtain ⟨p, rfl⟩ := Int.eq_ofNat_of_zero_le h1
    have hp : p < n := by simpa using h2
    obtain rfl : R = ⟨decide (¬ (f p).kind = 2), (f p).code, (f p).text⟩ := by have := HA.out rfl; simpa using this
    dsimp only
    obtain ⟨p0, p1, p2, p3, ⟨a2, cap2, p4, q4⟩, ⟨a3, cap3, p5, q5⟩⟩ := (HR.out.below A0.out (Nat.le_refl _)).2 p hp
    clear q4 q5 HA HN HL
    have hpn : (p : Int) < n := by omega
    go_enter Tryz.func83, Tryz.ntmps83
    go_wp2_with fail
    clear p0 p1 p2 p3 p4 p5
    have z0 : (((w.alloc (.cells #[.slice (some ⟨bd, offd, none⟩) n cap] 30)).alloc (.cells #[.string nm, .bool true, .bool hs, .int .i64 (p : Int)] 70)).alloc (.cells #[.bool false, .int .i64 0, .string ⟨#[]⟩] 88)).heap.size = w.heap.size + 3 := by simp
    have c0 : (((w.alloc (.cells #[.slice (some ⟨bd, offd, none⟩) n cap] 30)).alloc (.cells #[.string nm, .bool true, .bool hs, .int .i64 (p : Int)] 70)).alloc (.cells #[.bool false, .int .i64 0, .string ⟨#[]⟩] 88)).cell? ⟨w.heap.size + 1 + 1, 0, none⟩ = some (.bool false) := by simp [go_sem]
    have y0 : (((w.alloc (.cells #[.slice (some ⟨bd, offd, none⟩) n cap] 30)).alloc (.cells #[.string nm, .bool true, .bool hs, .int .i64 (p : Int)] 70)).alloc (.cells #[.bool false, .int .i64 0, .string ⟨#[]⟩] 88)).frozen? ⟨w.heap.size + 1 + 1, 0, none⟩ = false := by simp [go_sem]
    have c1 : (((w.alloc (.cells #[.slice (some ⟨bd, offd, none⟩) n cap] 30)).alloc (.cells #[.string nm, .bool true, .bool hs, .int .i64 (p : Int)] 70)).alloc (.cells #[.bool false, .int .i64 0, .string ⟨#[]⟩] 88)).cell? ⟨w.heap.size + 1 + 1, 1, none⟩ = some (.int .i64 0) := by simp [go_sem]
    have y1 : (((w.alloc (.cells #[.slice (some ⟨bd, offd, none⟩) n cap] 30)).alloc (.cells #[.string nm, .bool true, .bool hs, .int .i64 (p : Int)] 70)).alloc (.cells #[.bool false, .int .i64 0, .string ⟨#[]⟩] 88)).frozen? ⟨w.heap.size + 1 + 1, 1, none⟩ = false := by simp [go_sem]
    have c2 : (((w.alloc (.cells #[.slice (some ⟨bd, offd, none⟩) n cap] 30)).alloc (.cells #[.string nm, .bool true, .bool hs, .int .i64 (p : Int)] 70)).alloc (.cells #[.bool false, .int .i64 0, .string ⟨#[]⟩] 88)).cell? ⟨w.heap.size + 1 + 1, 2, none⟩ = some (.string ⟨#[]⟩) := by simp [go_sem]
    have y2 : (((w.alloc (.cells #[.slice (some ⟨bd, offd, none⟩) n cap] 30)).alloc (.cells #[.string nm, .bool true, .bool hs, .int .i64 (p : Int)] 70)).alloc (.cells #[.bool false, .int .i64 0, .string ⟨#[]⟩] 88)).frozen? ⟨w.heap.size + 1 + 1, 2, none⟩ = false := by simp [go_sem]
    generalize ((w.alloc (.cells #[.slice (some ⟨bd, offd, none⟩) n cap] 30)).alloc (.cells #[.string nm, .bool true, .bool hs, .int .i64 (p : Int)] 70)).alloc (.cells #[.bool false, .int .i64 0, .string ⟨#[]⟩] 88) = W0 at A0 z0 c0 c1 c2 y0 y1 y2 ⊢
    refine (reply_any (f p) a2 cap2 a3 cap3 _).mono ?_
    rintro e w1 ⟨rfl, hB⟩
    have hlt : w.heap.size + 1 + 1 < W0.heap.size := by omega
    have d0 := (hB.cell (p := ⟨w.heap.size + 1 + 1, 0, none⟩) hlt).trans c0
    have d1 := (hB.cell (p := ⟨w.heap.size + 1 + 1, 1, none⟩) hlt).trans c1
    have d2 := (hB.cell (p := ⟨w.heap.size + 1 + 1, 2, none⟩) hlt).trans c2
    have e0 := (hB.frozen (p := ⟨w.heap.size + 1 + 1, 0, none⟩) hlt).trans y0
    have e1 := (hB.frozen (p := ⟨w.heap.size + 1 + 1, 1, none⟩) hlt).trans y1
    have e2 := (hB.frozen (p := ⟨w.heap.size + 1 + 1, 2, none⟩) hlt).trans y2
    have B1 := hide (A0.out.trans (hB.mono A0.out.size))
    have hz1 : w.heap.size + 1 + 1 < w1.heap.size := Nat.lt_of_lt_of_le hlt hB.size
    clear hB c0 c1 c2 y0 y1 y2
    go_wp2
    exact bodyPost_ret (v := .agg #[.bool (decide (¬ (f p).kind = 2)), .int .i64 (f p).code, .string (f p).text]) (by simp [results, Tryz.results83, go_sem, d0, d1, d2]) rfl ⟨rfl, ((B1.out.setCell (p := ⟨w.heap.size + 1 + 1, 0, none⟩) (by simp; omega) _).setCell (p := ⟨w.heap.size + 1 + 1, 1, none⟩) (by simp; omega) _).setCell (p := ⟨w.heap.size + 1 + 1, 2, none⟩) (by simp; omega) _⟩

end Go.Proofs.YtfhdecheaeoopaaGreatDoor.Vp

/-
  Turns in boxes.
-/

/-
  impl: replay.
-/
namespace Go.Proofs.YtfhdecheaeoopaaGreatDoor.Vp
open Go.RowKit

set_option maxRecDepth 100000 in
set_option maxHeartbeats 8000000 in
theorem replay_any (bd offd n cap : Nat) (f : Nat → Deed) (p pb po cap0 : Nat) (a1 : Option Addr) (cap1 : Nat) (w : World) (hacc : accOk f n = true) (hp : p < n) (hk : (f p).kind = 3) (hrow : RowDeed w bd offd n f) (hI : RowIns w pb po (f p).actN (f p).act) (hLk : SlLink w a1 (f p).linksN (f p).links) (hT2 : Tab2 w) (hPow : Pow w) :
    Calls Tryz.prog 43 #[.agg #[.slice (some ⟨bd, offd, none⟩) n cap], .agg #[.string (f p).name, .int .i64 (f p).kind, .int .i64 (f p).code, .string (f p).text, .slice (some ⟨pb, po, none⟩) (f p).actN cap0, .slice a1 (f p).linksN cap1]] w fun e w' => e = .returned (.tuple #[(turnK f p (stopAt f p)).v, .int .i64 (((f p).linksN : Int) - (stopAt f p : Int))]) ∧ Below w.heap.size w w' := by
  have hval : valid (f p).act (f p).actN = true ∧ (f p).linksN ≤ 200 := by
    rcases (accOk_deed hacc p hp).2 with h | h | h
    · omega
    · omega
    · exact ⟨h.2.2.2.1, h.2.2.2.2⟩
  obtain ⟨hv, hN⟩ := hval
  have hc2 : (f p).actN ≤ 200 := by have := (valid_parts hv).2.2; omega
  have HOK := hide (valid_parts hv).1
  have HACC := hide hacc
  have HASK := hide (fun j (hj : j < (f p).linksN) (ha : ((f p).links j).ask = true) => (⟨(accOk_ask hacc p hp j hj ha).1, Nat.lt_trans (accOk_ask hacc p hp j hj ha).2.1 hp⟩ : 0 ≤ ((f p).links j).at_ ∧ ((f p).links j).at_.toNat < n))
  have HROW := hide hrow
  have HI := hide hI
  have HLK := hide hLk
  have HT2 := hide hT2
  have HPOW := hide hPow
  have hib := hI.1
  have htb := hT2.1
  have hpwb := hPow.lt
  clear hacc hrow hI hLk hT2 hPow hv hk
  obtain ⟨R1, hR1⟩ : ∃ R1, R1 = turnK f p (stopAt f p) := ⟨_, rfl⟩
  obtain ⟨R2, hR2⟩ : ∃ R2, R2 = stopAt f p := ⟨_, rfl⟩
  rw [← hR1, ← hR2]
  have HR1 := hide hR1
  have HR2 := hide hR2
  clear hR1 hR2
  have AW := hide (show Below w.heap.size w (((w.alloc (.cells #[.slice (some ⟨bd, offd, none⟩) n cap] 30)).alloc (.cells #[.string (f p).name, .int .i64 (f p).kind, .int .i64 (f p).code, .string (f p).text, .slice (some ⟨pb, po, none⟩) (f p).actN cap0, .slice a1 (f p).linksN cap1] 54)).alloc (.cells #[.bool false, .int .i64 0, .string ⟨#[]⟩, .bool false, .string ⟨#[]⟩, .int .i64 0] 85)) from (((Below.refl w.heap.size w).alloc (Nat.le_refl _) (.cells #[.slice (some ⟨bd, offd, none⟩) n cap] 30)).alloc (by simp) (.cells #[.string (f p).name, .int .i64 (f p).kind, .int .i64 (f p).code, .string (f p).text, .slice (some ⟨pb, po, none⟩) (f p).actN cap0, .slice a1 (f p).linksN cap1] 54)).alloc (by simp; omega) (.cells #[.bool false, .int .i64 0, .string ⟨#[]⟩, .bool false, .string ⟨#[]⟩, .int .i64 0] 85))
  have zA : (((w.alloc (.cells #[.slice (some ⟨bd, offd, none⟩) n cap] 30)).alloc (.cells #[.string (f p).name, .int .i64 (f p).kind, .int .i64 (f p).code, .string (f p).text, .slice (some ⟨pb, po, none⟩) (f p).actN cap0, .slice a1 (f p).linksN cap1] 54)).alloc (.cells #[.bool false, .int .i64 0, .string ⟨#[]⟩, .bool false, .string ⟨#[]⟩, .int .i64 0] 85)).heap.size = w.heap.size + 3 := by simp
  have kA : (((w.alloc (.cells #[.slice (some ⟨bd, offd, none⟩) n cap] 30)).alloc (.cells #[.string (f p).name, .int .i64 (f p).kind, .int .i64 (f p).code, .string (f p).text, .slice (some ⟨pb, po, none⟩) (f p).actN cap0, .slice a1 (f p).linksN cap1] 54)).alloc (.cells #[.bool false, .int .i64 0, .string ⟨#[]⟩, .bool false, .string ⟨#[]⟩, .int .i64 0] 85)).cell? ⟨w.heap.size, 0, none⟩ = some (.slice (some ⟨bd, offd, none⟩) n cap) := by simp [go_sem]
  have kD4 : (((w.alloc (.cells #[.slice (some ⟨bd, offd, none⟩) n cap] 30)).alloc (.cells #[.string (f p).name, .int .i64 (f p).kind, .int .i64 (f p).code, .string (f p).text, .slice (some ⟨pb, po, none⟩) (f p).actN cap0, .slice a1 (f p).linksN cap1] 54)).alloc (.cells #[.bool false, .int .i64 0, .string ⟨#[]⟩, .bool false, .string ⟨#[]⟩, .int .i64 0] 85)).cell? ⟨w.heap.size + 1, 4, none⟩ = some (.slice (some ⟨pb, po, none⟩) (f p).actN cap0) := by simp [go_sem]
  have kD5 : (((w.alloc (.cells #[.slice (some ⟨bd, offd, none⟩) n cap] 30)).alloc (.cells #[.string (f p).name, .int .i64 (f p).kind, .int .i64 (f p).code, .string (f p).text, .slice (some ⟨pb, po, none⟩) (f p).actN cap0, .slice a1 (f p).linksN cap1] 54)).alloc (.cells #[.bool false, .int .i64 0, .string ⟨#[]⟩, .bool false, .string ⟨#[]⟩, .int .i64 0] 85)).cell? ⟨w.heap.size + 1, 5, none⟩ = some (.slice a1 (f p).linksN cap1) := by simp [go_sem]
  have XA := hide (by have h := six_new ((w.alloc (.cells #[.slice (some ⟨bd, offd, none⟩) n cap] 30)).alloc (.cells #[.string (f p).name, .int .i64 (f p).kind, .int .i64 (f p).code, .string (f p).text, .slice (some ⟨pb, po, none⟩) (f p).actN cap0, .slice a1 (f p).linksN cap1] 54)) (.bool false) (.int .i64 0) (.string ⟨#[]⟩) (.bool false) (.string ⟨#[]⟩) (.int .i64 0) 85; rw [show ((w.alloc (.cells #[.slice (some ⟨bd, offd, none⟩) n cap] 30)).alloc (.cells #[.string (f p).name, .int .i64 (f p).kind, .int .i64 (f p).code, .string (f p).text, .slice (some ⟨pb, po, none⟩) (f p).actN cap0, .slice a1 (f p).linksN cap1] 54)).heap.size = w.heap.size + 1 + 1 by simp] at h; exact h)
  have S0 : Sim m0 0 0 0 [] := ⟨trivial, rfl, by simp, rfl, rfl, rfl, by simp, by omega, by omega, by omega⟩
  obtain ⟨H0, hG0, hL0, hC0⟩ := goes_all (f := (f p).act) (cnt := (f p).actN) (m := m0) rfl S0
  have HG0 := hide hG0
  have HL0 := hide hL0
  have HC0 := hide hC0
  clear hG0 hL0 hC0 S0
  go_enter Tryz.func43, Tryz.ntmps43
  go_wp2_with fail
  generalize ((w.alloc (.cells #[.slice (some ⟨bd, offd, none⟩) n cap] 30)).alloc (.cells #[.string (f p).name, .int .i64 (f p).kind, .int .i64 (f p).code, .string (f p).text, .slice (some ⟨pb, po, none⟩) (f p).actN cap0, .slice a1 (f p).linksN cap1] 54)).alloc (.cells #[.bool false, .int .i64 0, .string ⟨#[]⟩, .bool false, .string ⟨#[]⟩, .int .i64 0] 85) = WA at AW zA kA kD4 kD5 XA ⊢
  refine (begin_any pb po (f p).actN cap0 _).mono ?_
  rintro e w1 ⟨b, rfl, hb, hM1, hB1⟩
  have HM1 := hide hM1
  have B1 : Hid (Below (w.heap.size + 3) WA w1) := by show Below _ _ _; rw [← zA]; exact hB1
  have hbl : w.heap.size + 3 ≤ b := by omega
  have hb1 : b < w1.heap.size := hM1.lt
  have BW1 := hide (AW.out.trans (B1.out.mono (by omega)))
  clear hM1 hB1 hb
  have HE1 : Hid (Env w1 b pb po (f p).actN (f p).act) := ⟨HI.out.below BW1.out (Nat.le_refl _), HT2.out.below BW1.out htb, HPOW.out.below BW1.out (Nat.le_refl _), by omega, by omega, by omega⟩
  go_wp2_with fail
  refine (goOn_start b pb po (f p).actN cap0 (f p).act m0 H0 ⟨false, 0, ⟨#[]⟩⟩ _ HM1.out HE1.out rfl hc2 HOK.out HG0.out).mono ?_
  rintro e w2 ⟨m1, rfl, hM2, hS2, hO2⟩
  have HM2 := hide hM2
  have HS2 := hide hS2
  have B2 := hide (B1.out.trans (hO2.below hbl (by have := B1.out.size; omega)))
  clear hM2 hS2 hO2 HM1 HE1
  simp only [Turn.v]
  have HM3 := hide (HM2.out.al (.cells #[.bool m1.t.over, .int .i64 m1.t.code, .string m1.t.text, .bool m1.t.ask, .string m1.t.name, .int .i64 m1.t.steps] 85))
  have TB0 := hide (turn_box w2 m1.t 85)
  have B3 := hide (B2.out.alloc (by have := B2.out.size; omega) (.cells #[.bool m1.t.over, .int .i64 m1.t.code, .string m1.t.text, .bool m1.t.ask, .string m1.t.name, .int .i64 m1.t.steps] 85))
  have d5 := (B3.out.cell (p := ⟨w.heap.size + 1, 5, none⟩) (show w.heap.size + 1 < w.heap.size + 3 by omega)).trans kD5
  have hg7 : w.heap.size + 3 ≤ w2.heap.size := by have := B2.out.size; omega
  have hbg : b < w2.heap.size := HM2.out.lt
  go_wp2
  clear d5 HM2 B2
  generalize w2.alloc (.cells #[.bool m1.t.over, .int .i64 m1.t.code, .string m1.t.text, .bool m1.t.ask, .string m1.t.name, .int .i64 m1.t.steps] 85) = W3 at HM3 TB0 B3 ⊢
  generalize w2.heap.size = g7 at TB0 hg7 hbg ⊢
  go_loopw [19] (fun i wr => ∃ (k : Nat) (m' : Mst) (H : Halt), k ≤ (f p).linksN ∧ i = .int .i64 k ∧ Hid (MAt wr b (.slice (some ⟨pb, po, none⟩) (f p).actN cap0) m') ∧ Hid (TurnBox wr g7 m'.t) ∧ Hid (Stands m' H) ∧ Hid (looksOf k H) ∧ Hid (∀ n, k ≤ n → contP (f p).act (f p).actN (yOf f p) n H = nextP (f p).act (f p).actN (yOf f p) n 2001 0 0 0 []) ∧ Hid (stopK f p ((f p).linksN - k) k = stopAt f p) ∧ Hid (Below (w.heap.size + 3) WA wr)) (fun i _ => (f p).linksN - (intOf i).toNat)
  case atStart => exact ⟨0, m1, H0, by omega, rfl, HM3.out, TB0.out, HS2.out, HL0.out, fun n _ => HC0.out (yOf f p) n, rfl, B3.out⟩
  case round =>
    obtain ⟨k, m', H, hkN, rfl, HM, TB, HS, HL, HC, HSK, BW⟩ := hrel
    have BWW := hide (AW.out.trans (BW.out.mono (by omega)))
    have HTK : Hid (m'.t = turnK f p k) := by show _ = _; rw [← stands_turn (f := (f p).act) (cnt := (f p).actN) (y := yOf f p) HS.out HL.out]; exact HC.out k (Nat.le_refl _)
    by_cases hlt : k < (f p).linksN
    · obtain ⟨bl, offl, rfl, hrl⟩ := (HLK.out.below BWW.out (Nat.le_refl _)).resolve_left (by omega)
      obtain ⟨r0, r1, r2, r3⟩ := hrl.2 k hlt
      obtain ⟨l, hl⟩ : ∃ l, (f p).links k = l := ⟨_, rfl⟩
      rw [hl] at r0 r1 r2 r3
      obtain ⟨nm, ask, hs, at_⟩ := l
      dsimp only at r0 r1 r2 r3
      have HLL := hide hl
      clear hrl hl
      obtain ⟨j0, hj0⟩ : ∃ j0, (f p).linksN - k = j0 + 1 := ⟨(f p).linksN - k - 1, by omega⟩
      have CL := hide (BW.out.alloc (by have := BW.out.size; omega) (.cells #[.string nm, .bool ask, .bool hs, .int .i64 at_] 70))
      have TL := hide (TB.out.below ((Below.refl wr.heap.size wr).alloc (Nat.le_refl _) (.cells #[.string nm, .bool ask, .bool hs, .int .i64 at_] 70)) TB.out.1)
      have ML := hide (HM.out.al (.cells #[.string nm, .bool ask, .bool hs, .int .i64 at_] 70))
      obtain ⟨tl, ⟨t0, t1, t2, t3, t4, t5⟩, tz⟩ := TL.out
      clear tz
      cases ho : m'.t.over with
      | true =>
        rw [ho] at t0
        have HOFF : Hid (offK f p k = true) := by show _ = _; unfold offK; rw [← HTK.out, HLL.out]; rw [ho]; rfl
        have HST : Hid (R2 = k) := by show _ = _; rw [HR2.out, ← HSK.out, hj0, stopK_at HOFF.out]
        have HRT : Hid (R1 = m'.t) := by show _ = _; rw [HR1.out, ← HR2.out, HST.out, HTK.out]
        have d5 := (CL.out.cell (p := ⟨w.heap.size + 1, 5, none⟩) (show w.heap.size + 1 < w.heap.size + 3 by omega)).trans kD5
        have CW := hide (AW.out.trans (CL.out.mono (by omega)))
        have SX := hide (XA.out.below CL.out (by omega))
        have hx := SX.out.1
        obtain ⟨v0, q0, y0⟩ := SX.out.2 0 (by omega)
        obtain ⟨v1, q1, y1⟩ := SX.out.2 1 (by omega)
        obtain ⟨v2, q2, y2⟩ := SX.out.2 2 (by omega)
        obtain ⟨v3, q3, y3⟩ := SX.out.2 3 (by omega)
        obtain ⟨v4, q4, y4⟩ := SX.out.2 4 (by omega)
        obtain ⟨v5, q5, y5⟩ := SX.out.2 5 (by omega)
        go_wp2_with fail
        go_region
        all_goals
          go_wp2
          exact bodyPost_ret (v := .tuple #[R1.v, .int .i64 (((f p).linksN : Int) - (R2 : Int))]) (by rw [HRT.out, HST.out]; simp [results, Tryz.results43, go_sem, Turn.v, ho, q0, q1, q2, q3, q4, q5]) rfl ⟨rfl, (six_set CW.out (by omega) _ _ _ _ _ _).drew⟩
      | false =>
        rw [ho] at t0
        cases hn : (m'.t.name.toList == nm.toList) with
        | false =>
          have HOFF : Hid (offK f p k = true) := by show _ = _; unfold offK; rw [← HTK.out, HLL.out]; simp [ho, hn]
          have HST : Hid (R2 = k) := by show _ = _; rw [HR2.out, ← HSK.out, hj0, stopK_at HOFF.out]
          have HRT : Hid (R1 = m'.t) := by show _ = _; rw [HR1.out, ← HR2.out, HST.out, HTK.out]
          have d5 := (CL.out.cell (p := ⟨w.heap.size + 1, 5, none⟩) (show w.heap.size + 1 < w.heap.size + 3 by omega)).trans kD5
          have CW := hide (AW.out.trans (CL.out.mono (by omega)))
          have SX := hide (XA.out.below CL.out (by omega))
          have hx := SX.out.1
          obtain ⟨v0, q0, y0⟩ := SX.out.2 0 (by omega)
          obtain ⟨v1, q1, y1⟩ := SX.out.2 1 (by omega)
          obtain ⟨v2, q2, y2⟩ := SX.out.2 2 (by omega)
          obtain ⟨v3, q3, y3⟩ := SX.out.2 3 (by omega)
          obtain ⟨v4, q4, y4⟩ := SX.out.2 4 (by omega)
          obtain ⟨v5, q5, y5⟩ := SX.out.2 5 (by omega)
          go_wp2_with fail
          go_region
          all_goals
            go_wp2
            exact bodyPost_ret (v := .tuple #[R1.v, .int .i64 (((f p).linksN : Int) - (R2 : Int))]) (by rw [HRT.out, HST.out]; simp [results, Tryz.results43, go_sem, Turn.v, ho, q0, q1, q2, q3, q4, q5]) rfl ⟨rfl, (six_set CW.out (by omega) _ _ _ _ _ _).drew⟩
        | true =>
          cases hak : m'.t.ask with
          | true =>
            rw [hak] at t3
            cases ask with
            | true =>
              have HOFF : Hid (offK f p k = false) := by show _ = _; unfold offK; rw [← HTK.out, HLL.out]; simp [ho, hn, hak]
              obtain ⟨a, nm2, s2, pp, st, l, rfl⟩ := stands_look HS.out ho
              have el : l = k + 1 := HL.out
              subst el
              have kA2 := (CL.out.cell (p := ⟨w.heap.size, 0, none⟩) (show w.heap.size < w.heap.size + 3 by omega)).trans kA
              have CW := hide (AW.out.trans (CL.out.mono (by omega)))
              have HY : Hid (ansR f ⟨nm, true, hs, at_⟩ = yOf f p k) := by show _ = _; unfold yOf; rw [HLL.out]
              have HRO := hide (ansR_ok (l := ⟨nm, true, hs, at_⟩) HACC.out (fun ha => by have := HASK.out k hlt (by rw [HLL.out]); rw [HLL.out] at this; exact this.2))
              have HSZ : Hid ((ansR f ⟨nm, true, hs, at_⟩).text.size ≤ 2000) := by have := HRO.out; simp only [replyOk, decide_eq_true_eq] at this; exact this.1
              have HAT : Hid (0 ≤ at_ ∧ at_.toNat < n) := by have := HASK.out k hlt (by rw [HLL.out]); rw [HLL.out] at this; exact this
              go_wp2_with fail
              clear t0 t1 t2 t3 t4 t5 r0 r1 r2 r3
              generalize wr.alloc (.cells #[.string nm, .bool true, .bool hs, .int .i64 at_] 70) = WL at CL TL ML CW kA2 tl ⊢
              refine (replyOf_any bd offd n cap f ⟨nm, true, hs, at_⟩ _ HACC.out (HROW.out.below CW.out (Nat.le_refl _)) (fun _ => HAT.out)).mono ?_
              rintro e w4 ⟨rfl, hB4⟩
              have hlb : b < WL.heap.size := ML.out.lt
              have M4 := hide (ML.out.below hB4 hlb)
              have T4 := hide (TL.out.below hB4 tl)
              have B4 := hide (CL.out.trans (hB4.mono (by have := CL.out.size; omega)))
              have BW4 := hide (AW.out.trans (B4.out.mono (by omega)))
              have HE4 : Hid (Env w4 b pb po (f p).actN (f p).act) := ⟨HI.out.below BW4.out (Nat.le_refl _), HT2.out.below BW4.out htb, HPOW.out.below BW4.out (Nat.le_refl _), by omega, by omega, by omega⟩
              clear hB4 kA2
              go_wp2_with fail
              refine (goOn_look b pb po (f p).actN cap0 (f p).act m' a nm2 s2 pp st (k + 1) (ansR f ⟨nm, true, hs, at_⟩) _ M4.out HE4.out HS.out (by omega) HSZ.out hc2 HOK.out).mono ?_
              rintro e w5 ⟨m2, H2, rfl, hM5, hS5, hL5, hC5, hO5⟩
              have hgb : g7 ≠ b := by omega
              have T5 := hide (T4.out.only hO5 hgb)
              have M5 := hide (hM5.boxed hgb m2.t)
              have X5 := hide (set_box m2.t T5.out)
              have B5 := hide (B4.out.trans (hO5.below hbl (by have := B4.out.size; omega)))
              have B6 := hide (B5.out.trans ((set_only (w := w5) (g := g7) m2.t).below hg7 (by have := B5.out.size; omega)))
              have HS5 := hide hS5
              have HL5 := hide hL5
              have HC5 : Hid (∀ n, k + 1 ≤ n → contP (f p).act (f p).actN (yOf f p) n H2 = nextP (f p).act (f p).actN (yOf f p) n 2001 0 0 0 []) := fun n hn => (hC5 (yOf f p) n hn (by rw [Nat.add_sub_cancel]; exact HY.out.symm)).symm.trans (HC.out n (by omega))
              have HK5 : Hid (stopK f p ((f p).linksN - (k + 1)) (k + 1) = stopAt f p) := by show _ = _; rw [← HSK.out, hj0, stopK_go HOFF.out, show (f p).linksN - (k + 1) = j0 by omega]
              obtain ⟨ul, ⟨u0, u1, u2, u3, u4, u5⟩, uz⟩ := T5.out
              have z0 := uz 0
              have z1 := uz 1
              have z2 := uz 2
              have z3 := uz 3
              have z4 := uz 4
              have z5 := uz 5
              clear hM5 hS5 hL5 hC5 hO5 M4 T4 uz
              simp only [Turn.v]
              go_wp2
              exact ⟨⟨k + 1, m2, H2, by omega, by go_num, M5.out, X5.out, HS5.out, HL5.out, HC5.out, HK5.out, B6.out⟩, by simp [intOf]; omega⟩
            | false =>
              have HOFF : Hid (offK f p k = true) := by show _ = _; unfold offK; rw [← HTK.out, HLL.out]; simp [ho, hn, hak]
              have HST : Hid (R2 = k) := by show _ = _; rw [HR2.out, ← HSK.out, hj0, stopK_at HOFF.out]
              have HRT : Hid (R1 = m'.t) := by show _ = _; rw [HR1.out, ← HR2.out, HST.out, HTK.out]
              have d5 := (CL.out.cell (p := ⟨w.heap.size + 1, 5, none⟩) (show w.heap.size + 1 < w.heap.size + 3 by omega)).trans kD5
              have CW := hide (AW.out.trans (CL.out.mono (by omega)))
              have SX := hide (XA.out.below CL.out (by omega))
              have hx := SX.out.1
              obtain ⟨v0, q0, y0⟩ := SX.out.2 0 (by omega)
              obtain ⟨v1, q1, y1⟩ := SX.out.2 1 (by omega)
              obtain ⟨v2, q2, y2⟩ := SX.out.2 2 (by omega)
              obtain ⟨v3, q3, y3⟩ := SX.out.2 3 (by omega)
              obtain ⟨v4, q4, y4⟩ := SX.out.2 4 (by omega)
              obtain ⟨v5, q5, y5⟩ := SX.out.2 5 (by omega)
              go_wp2_with fail
              go_region
              all_goals
                go_wp2
                exact bodyPost_ret (v := .tuple #[R1.v, .int .i64 (((f p).linksN : Int) - (R2 : Int))]) (by rw [HRT.out, HST.out]; simp [results, Tryz.results43, go_sem, Turn.v, ho, hak, q0, q1, q2, q3, q4, q5]) rfl ⟨rfl, (six_set CW.out (by omega) _ _ _ _ _ _).drew⟩
          | false =>
            rw [hak] at t3
            cases ask with
            | true =>
              have HOFF : Hid (offK f p k = true) := by show _ = _; unfold offK; rw [← HTK.out, HLL.out]; simp [ho, hn, hak]
              have HST : Hid (R2 = k) := by show _ = _; rw [HR2.out, ← HSK.out, hj0, stopK_at HOFF.out]
              have HRT : Hid (R1 = m'.t) := by show _ = _; rw [HR1.out, ← HR2.out, HST.out, HTK.out]
              have d5 := (CL.out.cell (p := ⟨w.heap.size + 1, 5, none⟩) (show w.heap.size + 1 < w.heap.size + 3 by omega)).trans kD5
              have CW := hide (AW.out.trans (CL.out.mono (by omega)))
              have SX := hide (XA.out.below CL.out (by omega))
              have hx := SX.out.1
              obtain ⟨v0, q0, y0⟩ := SX.out.2 0 (by omega)
              obtain ⟨v1, q1, y1⟩ := SX.out.2 1 (by omega)
              obtain ⟨v2, q2, y2⟩ := SX.out.2 2 (by omega)
              obtain ⟨v3, q3, y3⟩ := SX.out.2 3 (by omega)
              obtain ⟨v4, q4, y4⟩ := SX.out.2 4 (by omega)
              obtain ⟨v5, q5, y5⟩ := SX.out.2 5 (by omega)
              go_wp2_with fail
              go_region
              all_goals
                go_wp2
                exact bodyPost_ret (v := .tuple #[R1.v, .int .i64 (((f p).linksN : Int) - (R2 : Int))]) (by rw [HRT.out, HST.out]; simp [results, Tryz.results43, go_sem, Turn.v, ho, hak, q0, q1, q2, q3, q4, q5]) rfl ⟨rfl, (six_set CW.out (by omega) _ _ _ _ _ _).drew⟩
            | false =>
              have HOFF : Hid (offK f p k = false) := by show _ = _; unfold offK; rw [← HTK.out, HLL.out]; simp [ho, hn, hak]
              obtain ⟨a, nm2, s2, pp, st, l, rfl⟩ := stands_look HS.out ho
              have el : l = k + 1 := HL.out
              subst el
              have kA2 := (CL.out.cell (p := ⟨w.heap.size, 0, none⟩) (show w.heap.size < w.heap.size + 3 by omega)).trans kA
              have CW := hide (AW.out.trans (CL.out.mono (by omega)))
              have HY : Hid (ansR f ⟨nm, false, hs, at_⟩ = yOf f p k) := by show _ = _; unfold yOf; rw [HLL.out]
              have HRO := hide (ansR_ok (l := ⟨nm, false, hs, at_⟩) HACC.out (fun ha => by have := HASK.out k hlt (by rw [HLL.out]; exact ha); rw [HLL.out] at this; exact this.2))
              have HSZ : Hid ((ansR f ⟨nm, false, hs, at_⟩).text.size ≤ 2000) := by have := HRO.out; simp only [replyOk, decide_eq_true_eq] at this; exact this.1
              go_wp2_with fail
              clear t0 t1 t2 t3 t4 t5 r0 r1 r2 r3
              generalize wr.alloc (.cells #[.string nm, .bool false, .bool hs, .int .i64 at_] 70) = WL at CL TL ML CW kA2 tl ⊢
              refine (replyOf_any bd offd n cap f ⟨nm, false, hs, at_⟩ _ HACC.out (HROW.out.below CW.out (Nat.le_refl _)) (fun h => by cases h)).mono ?_
              rintro e w4 ⟨rfl, hB4⟩
              have hlb : b < WL.heap.size := ML.out.lt
              have M4 := hide (ML.out.below hB4 hlb)
              have T4 := hide (TL.out.below hB4 tl)
              have B4 := hide (CL.out.trans (hB4.mono (by have := CL.out.size; omega)))
              have BW4 := hide (AW.out.trans (B4.out.mono (by omega)))
              have HE4 : Hid (Env w4 b pb po (f p).actN (f p).act) := ⟨HI.out.below BW4.out (Nat.le_refl _), HT2.out.below BW4.out htb, HPOW.out.below BW4.out (Nat.le_refl _), by omega, by omega, by omega⟩
              clear hB4 kA2
              go_wp2_with fail
              refine (goOn_look b pb po (f p).actN cap0 (f p).act m' a nm2 s2 pp st (k + 1) (ansR f ⟨nm, false, hs, at_⟩) _ M4.out HE4.out HS.out (by omega) HSZ.out hc2 HOK.out).mono ?_
              rintro e w5 ⟨m2, H2, rfl, hM5, hS5, hL5, hC5, hO5⟩
              have hgb : g7 ≠ b := by omega
              have T5 := hide (T4.out.only hO5 hgb)
              have M5 := hide (hM5.boxed hgb m2.t)
              have X5 := hide (set_box m2.t T5.out)
              have B5 := hide (B4.out.trans (hO5.below hbl (by have := B4.out.size; omega)))
              have B6 := hide (B5.out.trans ((set_only (w := w5) (g := g7) m2.t).below hg7 (by have := B5.out.size; omega)))
              have HS5 := hide hS5
              have HL5 := hide hL5
              have HC5 : Hid (∀ n, k + 1 ≤ n → contP (f p).act (f p).actN (yOf f p) n H2 = nextP (f p).act (f p).actN (yOf f p) n 2001 0 0 0 []) := fun n hn => (hC5 (yOf f p) n hn (by rw [Nat.add_sub_cancel]; exact HY.out.symm)).symm.trans (HC.out n (by omega))
              have HK5 : Hid (stopK f p ((f p).linksN - (k + 1)) (k + 1) = stopAt f p) := by show _ = _; rw [← HSK.out, hj0, stopK_go HOFF.out, show (f p).linksN - (k + 1) = j0 by omega]
              obtain ⟨ul, ⟨u0, u1, u2, u3, u4, u5⟩, uz⟩ := T5.out
              have z0 := uz 0
              have z1 := uz 1
              have z2 := uz 2
              have z3 := uz 3
              have z4 := uz 4
              have z5 := uz 5
              clear hM5 hS5 hL5 hC5 hO5 M4 T4 uz
              simp only [Turn.v]
              go_wp2
              exact ⟨⟨k + 1, m2, H2, by omega, by go_num, M5.out, X5.out, HS5.out, HL5.out, HC5.out, HK5.out, B6.out⟩, by simp [intOf]; omega⟩
    · obtain rfl : k = (f p).linksN := by omega
      have HST : Hid (R2 = (f p).linksN) := by show _ = _; rw [HR2.out, ← HSK.out, Nat.sub_self]; rfl
      have HRT : Hid (R1 = m'.t) := by show _ = _; rw [HR1.out, ← HR2.out, HST.out, HTK.out]
      obtain ⟨tl, ⟨t0, t1, t2, t3, t4, t5⟩, tz⟩ := TB.out
      have SX := hide (XA.out.below BW.out (by omega))
      have hx := SX.out.1
      obtain ⟨v0, q0, y0⟩ := SX.out.2 0 (by omega)
      obtain ⟨v1, q1, y1⟩ := SX.out.2 1 (by omega)
      obtain ⟨v2, q2, y2⟩ := SX.out.2 2 (by omega)
      obtain ⟨v3, q3, y3⟩ := SX.out.2 3 (by omega)
      obtain ⟨v4, q4, y4⟩ := SX.out.2 4 (by omega)
      obtain ⟨v5, q5, y5⟩ := SX.out.2 5 (by omega)
      clear tz
      go_wp2
      exact bodyPost_ret (v := .tuple #[R1.v, .int .i64 (((f p).linksN : Int) - (R2 : Int))]) (by rw [HRT.out, HST.out]; simp [results, Tryz.results43, go_sem, Turn.v, q0, q1, q2, q3, q4, q5]) rfl ⟨rfl, by first | exact six_set BWW.out (by omega) _ _ _ _ _ _ | exact six_set BWW.out.drew (by omega) _ _ _ _ _ _⟩

end Go.Proofs.YtfhdecheaeoopaaGreatDoor.Vp

/-
  impl: strays, endsOtherwise.
-/
namespace Go.Proofs.YtfhdecheaeoopaaGreatDoor.Vp
open Go.RowKit

def strayB (f : Nat → Deed) (p : Nat) : Bool := if (f p).kind = 3 then (!(turnK f p (stopAt f p)).over || decide (stopAt f p < (f p).linksN)) else false
def endB (f : Nat → Deed) (p : Nat) : Bool := if (f p).kind = 3 then (!decide ((turnK f p (stopAt f p)).code = (f p).code) || !((turnK f p (stopAt f p)).text.toList == (f p).text.toList)) else false
theorem code_is (f : Nat → Deed) (p : Nat) : codeF f p = if strayB f p = true then 4 else if endB f p = true then 5 else 0 := by
  unfold codeF strayB endB
  by_cases hk : (f p).kind = 3
  · rw [if_pos hk, if_pos hk, if_pos hk]
    unfold codeR
    by_cases h1 : stopAt f p < (f p).linksN
    · simp [h1]
    · cases ho : (turnK f p (stopAt f p)).over with
      | false => simp [h1]
      | true =>
        by_cases h2 : (turnK f p (stopAt f p)).code = (f p).code
        · by_cases h3 : (turnK f p (stopAt f p)).text.toList = (f p).text.toList
          · simp [h1, h2, h3]
          · have h4 : ((turnK f p (stopAt f p)).text.toList == (f p).text.toList) = false := by simpa using h3
            simp [h1, h2, h3, h4]
        · simp [h1, h2]
  · rw [if_neg hk, if_neg hk, if_neg hk]
    simp

theorem row_of_valid {w : World} {a : Option Addr} {f : Nat → Ins} {n : Nat} (h : SlIns w a n f) (hv : valid f n = true) : ∃ pb po, a = some ⟨pb, po, none⟩ ∧ RowIns w pb po n f := by
  have hn := (valid_parts hv).2
  rcases h with h | ⟨b, off, e, hr⟩
  · omega
  · exact ⟨b, off, e, hr⟩

set_option maxRecDepth 100000 in
set_option maxHeartbeats 4000000 in
theorem strays_any (bd offd n cap : Nat) (f : Nat → Deed) (p : Nat) (a0 : Option Addr) (cap0 : Nat) (a1 : Option Addr) (cap1 : Nat) (w : World) (hacc : accOk f n = true) (hp : p < n) (hrow : RowDeed w bd offd n f) (hI : SlIns w a0 (f p).actN (f p).act) (hLk : SlLink w a1 (f p).linksN (f p).links) (hT2 : Tab2 w) (hPow : Pow w) :
    Calls Tryz.prog 21 #[.agg #[.slice (some ⟨bd, offd, none⟩) n cap, .slice none 0 0, .slice none 0 0], .agg #[.string (f p).name, .int .i64 (f p).kind, .int .i64 (f p).code, .string (f p).text, .slice a0 (f p).actN cap0, .slice a1 (f p).linksN cap1]] w fun e w' => e = .returned (.bool (strayB f p)) ∧ Below w.heap.size w w' := by
  obtain ⟨r, hr⟩ : ∃ r, r = strayB f p := ⟨_, rfl⟩
  rw [← hr]
  have HR := hide (show r = if (f p).kind = 3 then (!(turnK f p (stopAt f p)).over || decide (stopAt f p < (f p).linksN)) else false from hr)
  clear hr
  have A0 := hide (((Below.refl w.heap.size w).alloc (Nat.le_refl _) (.cells #[.slice (some ⟨bd, offd, none⟩) n cap, .slice none 0 0, .slice none 0 0] 59)).alloc (by simp) (.cells #[.string (f p).name, .int .i64 (f p).kind, .int .i64 (f p).code, .string (f p).text, .slice a0 (f p).actN cap0, .slice a1 (f p).linksN cap1] 54))
  have HROW := hide hrow
  have HI := hide hI
  have HLK := hide hLk
  have HT2 := hide hT2
  have HPOW := hide hPow
  have htb := hT2.1
  clear hrow hI hLk hT2 hPow
  by_cases hk : (f p).kind = 3
  · have hval : valid (f p).act (f p).actN = true := by
      rcases (accOk_deed hacc p hp).2 with h | h | h
      · omega
      · omega
      · exact h.2.2.2.1
    obtain ⟨pb, po, rfl, hri⟩ := row_of_valid HI.out hval
    have HRI := hide hri
    have HK := hide hk
    have HV : Hid (r = (!(turnK f p (stopAt f p)).over || decide (stopAt f p < (f p).linksN))) := by show _ = _; rw [HR.out, if_pos hk]
    have hle := stopK_le f p (f p).linksN 0
    have HLE : Hid (stopAt f p ≤ (f p).linksN) := by show stopK f p (f p).linksN 0 ≤ _; omega
    have HACC := hide hacc
    rw [hk] at A0
    clear hri hval HI hacc hle HR
    have RP := fun W (hB : Below w.heap.size w W) => replay_any bd offd n cap f p pb po cap0 a1 cap1 W HACC.out hp HK.out (HROW.out.below hB (Nat.le_refl _)) (HRI.out.below hB (Nat.le_refl _)) (HLK.out.below hB (Nat.le_refl _)) (HT2.out.below hB htb) (HPOW.out.below hB (Nat.le_refl _))
    generalize turnK f p (stopAt f p) = t at HV RP
    generalize stopAt f p = q at HV RP HLE
    rw [hk] at RP
    have HRP := hide RP
    clear RP
    rw [hk]
    go_enter Tryz.func21, Tryz.ntmps21
    go_wp2_with fail
    refine (HRP.out _ A0.out).mono ?_
    rintro e w1 ⟨rfl, hB⟩
    have B1 := hide (A0.out.trans (hB.mono A0.out.size))
    have B2 := hide (B1.out.alloc B1.out.size (.cells #[.bool t.over, .int .i64 t.code, .string t.text, .bool t.ask, .string t.name, .int .i64 t.steps] 85))
    have hle := HLE.out
    clear hB
    simp only [Turn.v]
    cases ho : t.over with
    | false =>
      obtain rfl : r = true := by rw [HV.out, ho]; rfl
      rw [ho] at B2
      go_wp2
      go_ret
      exact ⟨rfl, B2.out⟩
    | true =>
      rw [ho] at B2
      by_cases hq : q < (f p).linksN
      · obtain rfl : r = true := by rw [HV.out, ho]; simp [hq]
        have hgt : (0 : Int) < ((f p).linksN : Int) - (q : Int) := by omega
        go_wp2
        go_ret
        exact ⟨rfl, B2.out⟩
      · obtain rfl : r = false := by rw [HV.out, ho]; simp [hq]
        have hz : ((f p).linksN : Int) - (q : Int) = 0 := by omega
        rw [hz]
        go_wp2
        go_ret
        exact ⟨rfl, B2.out⟩
  · obtain rfl : r = false := by rw [HR.out, if_neg hk]
    go_enter Tryz.func21, Tryz.ntmps21
    go_wp2
    go_ret
    exact ⟨rfl, A0.out⟩

set_option maxRecDepth 100000 in
set_option maxHeartbeats 4000000 in
theorem ends_any (bd offd n cap : Nat) (f : Nat → Deed) (p : Nat) (a0 : Option Addr) (cap0 : Nat) (a1 : Option Addr) (cap1 : Nat) (w : World) (hacc : accOk f n = true) (hp : p < n) (hrow : RowDeed w bd offd n f) (hI : SlIns w a0 (f p).actN (f p).act) (hLk : SlLink w a1 (f p).linksN (f p).links) (hT2 : Tab2 w) (hPow : Pow w) :
    Calls Tryz.prog 22 #[.agg #[.slice (some ⟨bd, offd, none⟩) n cap, .slice none 0 0, .slice none 0 0], .agg #[.string (f p).name, .int .i64 (f p).kind, .int .i64 (f p).code, .string (f p).text, .slice a0 (f p).actN cap0, .slice a1 (f p).linksN cap1]] w fun e w' => e = .returned (.bool (endB f p)) ∧ Below w.heap.size w w' := by
  obtain ⟨r, hr⟩ : ∃ r, r = endB f p := ⟨_, rfl⟩
  rw [← hr]
  have HR := hide (show r = if (f p).kind = 3 then (!decide ((turnK f p (stopAt f p)).code = (f p).code) || !((turnK f p (stopAt f p)).text.toList == (f p).text.toList)) else false from hr)
  clear hr
  have A0 := hide (((Below.refl w.heap.size w).alloc (Nat.le_refl _) (.cells #[.slice (some ⟨bd, offd, none⟩) n cap, .slice none 0 0, .slice none 0 0] 59)).alloc (by simp) (.cells #[.string (f p).name, .int .i64 (f p).kind, .int .i64 (f p).code, .string (f p).text, .slice a0 (f p).actN cap0, .slice a1 (f p).linksN cap1] 54))
  have HROW := hide hrow
  have HI := hide hI
  have HLK := hide hLk
  have HT2 := hide hT2
  have HPOW := hide hPow
  have htb := hT2.1
  clear hrow hI hLk hT2 hPow
  by_cases hk : (f p).kind = 3
  · have hval : valid (f p).act (f p).actN = true := by
      rcases (accOk_deed hacc p hp).2 with h | h | h
      · omega
      · omega
      · exact h.2.2.2.1
    obtain ⟨pb, po, rfl, hri⟩ := row_of_valid HI.out hval
    have HRI := hide hri
    have HK := hide hk
    have HV : Hid (r = (!decide ((turnK f p (stopAt f p)).code = (f p).code) || !((turnK f p (stopAt f p)).text.toList == (f p).text.toList))) := by show _ = _; rw [HR.out, if_pos hk]
    have HACC := hide hacc
    rw [hk] at A0
    clear hri hval HI hacc HR
    have RP := fun W (hB : Below w.heap.size w W) => replay_any bd offd n cap f p pb po cap0 a1 cap1 W HACC.out hp HK.out (HROW.out.below hB (Nat.le_refl _)) (HRI.out.below hB (Nat.le_refl _)) (HLK.out.below hB (Nat.le_refl _)) (HT2.out.below hB htb) (HPOW.out.below hB (Nat.le_refl _))
    generalize turnK f p (stopAt f p) = t at HV RP
    generalize stopAt f p = q at HV RP
    rw [hk] at RP
    have HRP := hide RP
    clear RP
    rw [hk]
    go_enter Tryz.func22, Tryz.ntmps22
    go_wp2_with fail
    refine (HRP.out _ A0.out).mono ?_
    rintro e w1 ⟨rfl, hB⟩
    have d2 : w1.cell? ⟨w.heap.size + 1, 2, none⟩ = some (.int .i64 (f p).code) := (hB.cell (p := ⟨w.heap.size + 1, 2, none⟩) (by simp)).trans (by simp [go_sem])
    have d3 : w1.cell? ⟨w.heap.size + 1, 3, none⟩ = some (.string (f p).text) := (hB.cell (p := ⟨w.heap.size + 1, 3, none⟩) (by simp)).trans (by simp [go_sem])
    have hz1 : w.heap.size + 1 < w1.heap.size := by have := hB.size; simp at this; omega
    have B1 := hide (A0.out.trans (hB.mono A0.out.size))
    clear hB
    simp only [Turn.v]
    by_cases hc : t.code = (f p).code
    · cases ht : (t.text.toList == (f p).text.toList) with
      | true =>
        obtain rfl : r = false := by rw [HV.out]; simp [hc, ht]
        go_wp2
        go_ret
        exact ⟨rfl, B1.out.alloc B1.out.size _⟩
      | false =>
        obtain rfl : r = true := by rw [HV.out]; simp [hc, ht]
        go_wp2
        go_ret
        exact ⟨rfl, B1.out.alloc B1.out.size _⟩
    · obtain rfl : r = true := by rw [HV.out]; simp [hc]
      have hc2 : (t.code == (f p).code) = false := by simpa using hc
      go_wp2
      go_ret
      exact ⟨rfl, B1.out.alloc B1.out.size _⟩
  · obtain rfl : r = false := by rw [HR.out, if_neg hk]
    go_enter Tryz.func22, Tryz.ntmps22
    go_wp2
    go_ret
    exact ⟨rfl, A0.out⟩

end Go.Proofs.YtfhdecheaeoopaaGreatDoor.Vp
