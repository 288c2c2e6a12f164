/-
  Put together of: DOne, AcOk, CuPure.
-/
import Derived.Test.YtkbhcajiebeepaaGreatDoorZD
import Derived.OneCell
import Derived.OwnWalk
import Derived.Maps.AppendAt
import Derived.Deep.RegionLaw

/-
  What is owned; one new cell.
-/
namespace Go.Proofs.YtkbhcajiebeepaaGreatDoor.Vp
open Go.RowKit

theorem one_new (w : World) (x : Value) (t : TypeId) : ∀ j u, [x][j]? = some u → (w.alloc (.cells #[x] t)).cell? ((⟨w.heap.size, 0, none⟩ : Addr).add j) = some u := by
  intro j u hj
  match j, hj with
  | 0, hj => simp at hj; subst hj; simp [Addr.add]
theorem step_append_own {P : Program} {w : World} {ops : Array Oper} {o : Oper} {a : Act} {K : Act → World → Prop} {Q : Exit → Act → World → Prop} {E : Prop} (hg : o.guard = none) (s x : Operand) (t : TypeId)
    (ho : o.op = .call { callee := .builtin .append, args := #[s, x], argTypes := #[t, t] })
    (base : Nat) (e : TypeId) (i : TypeInfo) (z : Value) (size bytes : Nat) (ht : P.underlying t = some (.slice e)) (hi : P.info? e = some i) (hz : i.zero = some z)
    (hsize : i.size = size) (hby : i.bytes = bytes) (hzs : z.cells.size = size) (hsz : 0 < size)
    (v : Value) (n : Nat) (xs : List Value) (hs : a.eval s = v) (hown : w.ownsRow base e size v n xs)
    (ad : Addr) (m c : Nat) (news : List Value) (hx : a.eval x = .slice (some ad) m c) (hl : news.length = m * size) (hnews : ∀ j u, news[j]? = some u → w.cell? (ad.add j) = some u) (h1 : ∀ u ∈ news, u.oneCell' = true)
    (h63 : n + m ≤ maxLen) (hbytes : (n + m) * bytes ≤ 140737488355328) (hbase : base ≤ w.heap.size)
    (h : ∀ v' w', w'.ownsRow base e size v' (n + m) (xs ++ news) → w.grownBy w' v.ownBlock → (v' = .slice none 0 0 ↔ v = .slice none 0 0 ∧ m = 0) → K (a.put o.dst v') w') :
    if Region.wanted o (yielded ops a.tmps) = true then Oper.wp P o a w K Q else E := by
  have hw : Region.wanted o (yielded ops a.tmps) = true := by simp [Region.wanted, hg]
  rw [if_pos hw]
  exact wp_append_own w s x t ho base e i z size bytes ht hi hz hsize hby hzs hsz v n xs hs hown ad m c news hx hl hnews h1 h63 hbytes hbase h

/-- What is owned stays owned where old blocks stand. -/
theorem own_below {w w' : World} {base B : Nat} {e : TypeId} {size n : Nat} {v : Value} {xs : List Value} (h : w.ownsRow base e size v n xs) (hb : Below B w w') (hB : w.heap.size ≤ B) : w'.ownsRow base e size v n xs :=
  h.kept (row := none) ⟨hb.os, hb.tape, hb.output, hb.size, fun k hk _ => hb.block k (Nat.lt_of_lt_of_le hk hB)⟩ (by cases v.ownBlock <;> simp)
theorem own_mono {w : World} {base base' : Nat} {e : TypeId} {size n : Nat} {v : Value} {xs : List Value} (h : w.ownsRow base e size v n xs) (hb : base' ≤ base) : w.ownsRow base' e size v n xs := by
  refine ⟨h.1, ?_⟩
  rcases h.2 with h | ⟨g, cap, cur, hv, hg, r⟩
  · exact .inl h
  · exact .inr ⟨g, cap, cur, hv, Nat.le_trans hb hg, r⟩
theorem box1 (W : World) (cs : Array Value) (ty : TypeId) (g j : Nat) (v : Value) (hg : g = W.heap.size) (hv : cs[j]? = some v) : (W.alloc (.cells cs ty)).cell? ⟨g, j, none⟩ = some v := by
  subst hg
  simp [hv]
theorem own_form {w : World} {base n : Nat} {e : TypeId} {v : Value} {xs : List Value} (h : w.ownsRow base e 1 v n xs) (hn : 0 < n) : ∃ g cap, v = .slice (some ⟨g, 0, none⟩) n cap := by
  rcases h.2 with ⟨_, h0⟩ | ⟨g, cap, cur, hv, _⟩
  · omega
  · exact ⟨g, cap, hv⟩
end Go.Proofs.YtkbhcajiebeepaaGreatDoor.Vp

/-
  A valid account: what it says of its deeds.
-/
namespace Go.Proofs.YtkbhcajiebeepaaGreatDoor.Vp
open Go.RowKit

theorem own_lit (w : World) (e : TypeId) (size : Nat) : (w.alloc (.cells #[] e)).ownsRow w.heap.size e size (.slice (some ⟨w.heap.size, 0, none⟩) 0 0) 0 [] :=
  ⟨by simp, .inr ⟨w.heap.size, 0, #[], rfl, Nat.le_refl _, heap_alloc_new w _, Nat.le_refl _, by unfold maxLen; omega, by simp, by simp⟩⟩

/-- the account is valid. -/
def accOk (f : Nat → Deed) (n : Nat) : Bool := decide ((accC f n).1 = 0)
theorem accOk_n {f : Nat → Deed} {n : Nat} (h : accOk f n = true) : 1 ≤ n ∧ n ≤ 400 ∧ firstNo (deedOk f) n = -1 := by
  have h1 : (accC f n).1 = 0 := of_decide_eq_true h
  unfold accC at h1
  split at h1
  · simp at h1
  · rename_i h2
    refine ⟨by omega, by omega, ?_⟩
    split at h1
    · simp at h1
    · rename_i h3
      exact Classical.byContradiction fun hc => h3 hc
theorem accOk_links {f : Nat → Deed} {n : Nat} (h : accOk f n = true) : ∀ p, p < n → (f p).linksN ≤ 200 := by
  intro p hp
  have h1 := firstNo_ok (accOk_n h).2.2 p hp
  simp only [deedOk, Bool.and_eq_true, kindOk] at h1
  obtain ⟨_, h2⟩ := h1
  split at h2
  · simp [unmadeOk] at h2
    omega
  · split at h2
    · simp [unmadeOk] at h2
      omega
    · split at h2
      · simp [targetOk] at h2
        omega
      · simp at h2
/-- a valid account: what is asked for stands ahead, under that name; no two deeds have one name. -/
theorem accOk_ask {f : Nat → Deed} {n : Nat} (h : accOk f n = true) : ∀ p, p < n → ∀ j, j < (f p).linksN → ((f p).links j).ask = true → 0 ≤ ((f p).links j).at_ ∧ ((f p).links j).at_.toNat < p ∧ (f ((f p).links j).at_.toNat).name.toList = ((f p).links j).name.toList := by
  intro p hp j hj ha
  have h1 := firstNo_ok (accOk_n h).2.2 p hp
  simp only [deedOk, Bool.and_eq_true, kindOk] at h1
  obtain ⟨_, h2⟩ := h1
  have hl : linksOk f p (f p) (f p).linksN = true := by
    split at h2
    · simp [unmadeOk] at h2
      omega
    · split at h2
      · simp [unmadeOk] at h2
        omega
      · split at h2
        · simp only [targetOk, Bool.and_eq_true] at h2
          exact h2.2
        · simp at h2
  have h3 := linksOk_at hl j hj
  simp only [linkOk, ha, if_true, Bool.and_eq_true, decide_eq_true_eq, beq_iff_eq] at h3
  obtain ⟨_, ⟨⟨_, h4⟩, h5⟩, h6⟩ := h3
  exact ⟨h4, by omega, h6⟩
theorem nameNew_ne {f : Nat → Deed} {p n : Nat} (h : nameNew f p n = true) : ∀ i, i < n → (f i).name.toList ≠ (f p).name.toList := by
  induction n with
  | zero => intro i hi; omega
  | succ n ih =>
    simp only [nameNew, Bool.and_eq_true, Bool.not_eq_true', beq_eq_false_iff_ne] at h
    intro i hi
    by_cases e : i = n
    · subst e; exact h.2
    · exact ih h.1 i (by omega)
theorem accOk_new {f : Nat → Deed} {n : Nat} (h : accOk f n = true) : ∀ i j, i < n → j < n → (f i).name.toList = (f j).name.toList → i = j := by
  have h1 : (accC f n).1 = 0 := of_decide_eq_true h
  have h2 : firstNo (fun p => nameNew f p p) n = -1 := by
    unfold accC at h1
    split at h1
    · simp at h1
    · split at h1
      · simp at h1
      · split at h1
        · simp at h1
        · rename_i h3
          exact Classical.byContradiction fun hc => h3 hc
  have h3 := firstNo_ok h2
  intro i j hi hj e
  rcases Nat.lt_trichotomy i j with hlt | rfl | hlt
  · exact absurd e (nameNew_ne (h3 j hj) i hlt)
  · rfl
  · exact absurd e.symm (nameNew_ne (h3 i hi) j hlt)

end Go.Proofs.YtkbhcajiebeepaaGreatDoor.Vp

/-
  Cut: what it answers.
-/
namespace Go.Proofs.YtkbhcajiebeepaaGreatDoor.Vp
open Go.RowKit

/-- Each of the list is new, and what it asks for stands ahead of it. -/
def GoodL (f : Nat → Deed) : List Nat → List Nat → Prop
  | _, [] => True
  | pre, x :: xs => x ∉ pre ∧ (∀ i, i < (f x).linksN → ((f x).links i).ask = true → ((f x).links i).at_.toNat ∈ pre) ∧ GoodL f (pre ++ [x]) xs
theorem goodL_append {f : Nat → Deed} : ∀ {a pre b : List Nat}, GoodL f pre a → GoodL f (pre ++ a) b → GoodL f pre (a ++ b)
  | [], pre, b, _, h => by simpa using h
  | x :: xs, pre, b, h, k => ⟨h.1, h.2.1, goodL_append (a := xs) h.2.2 (by simpa using k)⟩
theorem goodL_at {f : Nat → Deed} : ∀ {a pre p : List Nat} {x : Nat} {q : List Nat}, GoodL f pre a → a = p ++ x :: q → x ∉ pre ++ p ∧ ∀ i, i < (f x).linksN → ((f x).links i).ask = true → ((f x).links i).at_.toNat ∈ pre ++ p
  | [], pre, p, x, q, _, e => by cases p <;> cases e
  | y :: ys, pre, [], x, q, h, e => by
    simp only [List.nil_append, List.cons.injEq] at e
    obtain ⟨rfl, rfl⟩ := e
    rw [List.append_nil]
    exact ⟨h.1, h.2.1⟩
  | y :: ys, pre, z :: p, x, q, h, e => by
    simp only [List.cons_append, List.cons.injEq] at e
    obtain ⟨rfl, rfl⟩ := e
    have := goodL_at (p := p) (x := x) (q := q) h.2.2 rfl
    simpa using this
def plc (r : (Nat → Bool) × List (Nat × Nat)) : List Nat := r.2.map fun z => z.1

theorem lst_good {f : Nat → Deed} {n : Nat} (hA : Ahead f n) : ∀ k p d s (pre : List Nat), p < k → p < n → s p = false → (∀ q, s q = true ↔ q ∈ pre) → GoodL f pre (plc (lst f k p d s)) ∧ ∀ q, (lst f k p d s).1 q = true ↔ q ∈ pre ++ plc (lst f k p d s)
  | 0, _, _, _, _, h, _, _, _ => absurd h (Nat.not_lt_zero _)
  | k + 1, p, d, s, pre, hk, hn, hs, hS => by
    have key : ∀ j, j ≤ (f p).linksN → GoodL f pre (plc (lks (lst f k) (f p) d s j)) ∧ (∀ q, (lks (lst f k) (f p) d s j).1 q = true ↔ q ∈ pre ++ plc (lks (lst f k) (f p) d s j)) ∧ ∀ i, i < j → ((f p).links i).ask = true → ((f p).links i).at_.toNat ∈ pre ++ plc (lks (lst f k) (f p) d s j) := by
      intro j
      induction j with
      | zero => exact fun _ => ⟨trivial, by simpa [lks, plc] using hS, fun i hi => absurd hi (Nat.not_lt_zero _)⟩
      | succ j ih =>
        intro hj
        obtain ⟨h1, h2, h3⟩ := ih (by omega)
        rw [lks]
        split
        · rename_i hc
          have ha := (hA p hn j (by omega) hc.1).1
          obtain ⟨g1, g2⟩ := lst_good hA k _ (d + 1) _ (pre ++ plc (lks (lst f k) (f p) d s j)) (by omega) (by omega) hc.2 h2
          obtain ⟨o, ho⟩ := (lst_inv hA k _ (d + 1) _ (by omega) (by omega) hc.2).last
          have e : plc ((lst f k ((f p).links j).at_.toNat (d + 1) (lks (lst f k) (f p) d s j).1).1, (lks (lst f k) (f p) d s j).2 ++ (lst f k ((f p).links j).at_.toNat (d + 1) (lks (lst f k) (f p) d s j).1).2) = plc (lks (lst f k) (f p) d s j) ++ plc (lst f k ((f p).links j).at_.toNat (d + 1) (lks (lst f k) (f p) d s j).1) := by
            unfold plc
            exact List.map_append
          rw [e]
          refine ⟨goodL_append h1 g1, fun q => by rw [← List.append_assoc]; exact g2 q, fun i hi hai => ?_⟩
          by_cases hij : i = j
          · subst hij
            refine List.mem_append_right _ (List.mem_append_right _ ?_)
            unfold plc
            rw [ho]
            simp
          · rw [← List.append_assoc]
            exact List.mem_append_left _ (h3 i (by omega) hai)
        · rename_i hc
          refine ⟨h1, h2, fun i hi hai => ?_⟩
          by_cases hij : i = j
          · subst hij
            rw [← h2]
            cases hv : (lks (lst f k) (f p) d s i).1 ((f p).links i).at_.toNat with
            | true => rfl
            | false => exact absurd ⟨hai, hv⟩ hc
          · exact h3 i (by omega) hai
    obtain ⟨h1, h2, h3⟩ := key (f p).linksN (Nat.le_refl _)
    have hp : (lks (lst f k) (f p) d s (f p).linksN).1 p = false := ((lks_inv (d := d) (s := s) hA hn (fun q d s hq hs => lst_inv hA k q d s (by omega) (by omega) hs) (f p).linksN (Nat.le_refl _)).1 p (Nat.le_refl _)).trans hs
    have e : plc (lst f (k + 1) p d s) = plc (lks (lst f k) (f p) d s (f p).linksN) ++ [p] := by
      unfold plc
      rw [lst]
      exact List.map_append
    rw [e]
    refine ⟨goodL_append h1 ⟨fun hm => ?_, h3, trivial⟩, fun q => ?_⟩
    · rw [← h2, hp] at hm
      cases hm
    · show put _ p q = true ↔ _
      rw [← List.append_assoc, List.mem_append, List.mem_singleton, ← h2, put]
      simp
      exact Or.comm

theorem lst_fuel {f : Nat → Deed} {n : Nat} (hA : Ahead f n) : ∀ k k' p d s, p < k → p < k' → p < n → lst f k p d s = lst f k' p d s
  | 0, _, _, _, _, h, _, _ => absurd h (Nat.not_lt_zero _)
  | _ + 1, 0, _, _, _, _, h, _ => absurd h (Nat.not_lt_zero _)
  | k + 1, k' + 1, p, d, s, h1, h2, hn => by
    have key : ∀ j, j ≤ (f p).linksN → lks (lst f k) (f p) d s j = lks (lst f k') (f p) d s j := by
      intro j
      induction j with
      | zero => intro _; rfl
      | succ j ih =>
        intro hj
        have e := ih (by omega)
        rw [lks, lks, e]
        by_cases hk : ((f p).links j).ask = true
        · have ha := (hA p hn j (by omega) hk).1
          rw [lst_fuel hA k k' _ (d + 1) _ (by omega) (by omega) (by omega)]
        · rw [if_neg (fun h => hk h.1), if_neg (fun h => hk h.1)]
    rw [lst, lst, key _ (Nat.le_refl _)]

/-- What is listed from a place on. -/
def cutL (f : Nat → Deed) (p : Nat) : List Nat := plc (lst f (p + 1) p 0 fun _ => false)
theorem cutL_good {f : Nat → Deed} {n p : Nat} (hA : Ahead f n) (hp : p < n) : GoodL f [] (cutL f p) := (lst_good hA (p + 1) p 0 (fun _ => false) [] (Nat.lt_succ_self _) hp rfl (by simp)).1
theorem cutL_fuel {f : Nat → Deed} {n p : Nat} (hA : Ahead f n) (hp : p < n) : plc (lst f n p 0 fun _ => false) = cutL f p := by
  unfold cutL
  rw [lst_fuel hA n (p + 1) p 0 _ hp (Nat.lt_succ_self _) hp]
theorem ahead_le {f : Nat → Deed} {n m : Nat} (hA : Ahead f n) (h : m ≤ n) : Ahead f m := fun p hp => hA p (by omega)
theorem cutL_listing {f : Nat → Deed} (p : Nat) : (listing f (p + 1)).map (fun z => z.1) = cutL f p := rfl
theorem cutL_lt {f : Nat → Deed} {n p : Nat} (hA : Ahead f n) (hp : p < n) : ∀ q ∈ cutL f p, q ≤ p := by
  intro q hq
  unfold cutL plc at hq
  obtain ⟨z, hz, rfl⟩ := List.mem_map.1 hq
  exact (lst_inv hA (p + 1) p 0 (fun _ => false) (Nat.lt_succ_self _) hp rfl).le z hz
theorem cutL_len {f : Nat → Deed} {n p : Nat} (hA : Ahead f n) (hp : p < n) : (cutL f p).length ≤ p + 1 ∧ 1 ≤ (cutL f p).length := by
  have h := lst_inv (ahead_le hA (by omega : p + 1 ≤ n)) (p + 1) p 0 (fun _ => false) (Nat.lt_succ_self _) (Nat.lt_succ_self _) rfl
  have h1 := h.num
  have h2 := cnt_le (lst f (p + 1) p 0 fun _ => false).1 (p + 1)
  obtain ⟨o, ho⟩ := h.last
  have h3 := congrArg List.length ho
  unfold cutL plc
  rw [List.length_map]
  simp at h3
  omega

/-- A link, a deed whose asks lead to the new places. -/
def mvLink (L : List Nat) (l : Link) : Link := if l.ask = true then { l with at_ := (L.idxOf l.at_.toNat : Int) } else l
def mv (f : Nat → Deed) (L : List Nat) (x : Nat) : Deed := { f x with links := fun j => mvLink L ((f x).links j) }
def noDeed : Deed := { name := ⟨#[]⟩, kind := 0, code := 0, text := ⟨#[]⟩, actN := 0, act := fun _ => ⟨0, ⟨#[]⟩, 0⟩, linksN := 0, links := fun _ => ⟨⟨#[]⟩, false, false, 0⟩ }
def dF (L : List Deed) (i : Nat) : Deed := L.getD i noDeed
/-- The first place of a name, or -1. -/
def whereN (f : Nat → Deed) (t : ByteArray) (n : Nat) : Int := firstNo (fun i => !((f i).name.toList == t.toList)) n
def cutRaw (f : Nat → Deed) (p : Nat) : List Deed := (cutL f p).map (mv f (cutL f p))
def cutD (f : Nat → Deed) (n : Nat) (t : ByteArray) : List Deed :=
  if accOk f n = true then
    if whereN f t n = -1 then [] else
    if accOk (dF (cutRaw f (whereN f t n).toNat)) (cutRaw f (whereN f t n).toNat).length = true then cutRaw f (whereN f t n).toNat else []
  else []

theorem firstNo_none {g : Nat → Bool} {n : Nat} (h : ∀ i, i < n → g i = true) : firstNo g n = -1 := firstNo_all h
theorem firstNo_cases (g : Nat → Bool) (n : Nat) : firstNo g n = -1 ∨ ∃ i : Nat, firstNo g n = (i : Int) ∧ i < n ∧ g i = false ∧ ∀ j, j < i → g j = true := by
  induction n with
  | zero => exact .inl rfl
  | succ k ih =>
    rw [firstNo]
    rcases ih with h | ⟨i, h, hi, hg, hj⟩
    · rw [if_pos h]
      cases hk : g k with
      | true => exact .inl rfl
      | false => exact .inr ⟨k, rfl, Nat.lt_succ_self _, hk, firstNo_ok h⟩
    · rw [if_neg (by omega)]
      exact .inr ⟨i, h, by omega, hg, hj⟩
/-- In a list of places without doubles the first deed of an asked name is the one that is meant. -/
theorem where_idx {f : Nat → Deed} {n : Nat} (hok : accOk f n = true) {pre : List Nat} (hpre : ∀ q ∈ pre, q < n) {p : Nat} (hp : p ∈ pre) (g : Nat → Deed) (hg : ∀ i (h : i < pre.length), (g i).name = (f pre[i]).name) {t : ByteArray} (ht : (f p).name.toList = t.toList) :
    firstNo (fun i => !((g i).name.toList == t.toList)) pre.length = ((pre.idxOf p : Nat) : Int) := by
  have hlt := List.idxOf_lt_length_of_mem hp
  refine firstNo_at hlt ?_ fun j hj => ?_
  · rw [hg _ hlt, List.getElem_idxOf hlt, ht]
    simp
  · have hjl : j < pre.length := by omega
    rw [hg j hjl]
    have hne : pre[j] ≠ p := fun e => by
      have := List.not_of_lt_findIdx (p := fun y => y == p) (xs := pre) (i := j) hj
      simp [e] at this
    have : (f pre[j]).name.toList ≠ t.toList := fun e => hne (accOk_new hok _ _ (hpre _ (List.getElem_mem hjl)) (hpre _ hp) (e.trans ht.symm))
    simp [this]

end Go.Proofs.YtkbhcajiebeepaaGreatDoor.Vp
