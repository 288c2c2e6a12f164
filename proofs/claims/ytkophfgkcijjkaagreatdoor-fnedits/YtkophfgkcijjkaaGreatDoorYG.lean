import Derived.Test.YtkophfgkcijjkaaGreatDoorYC
import Derived.Test.YtkophfgkcijjkaaGreatDoorZK
namespace Go.Proofs.YtkophfgkcijjkaaGreatDoor.Vp
open Go.RowKit
structure Spc where
  n0 : Nat
  f0 : Nat → Source
  n1 : Nat
  f1 : Nat → Target
structure Lk where
  name : ByteArray
  ask : Bool
  has : Bool
structure Ent where
  name : ByteArray
  kind : Int
  code : Int
  text : ByteArray
  tg : Nat
  looks : List Lk
abbrev Out (α : Type) := (List Ent × α) ⊕ List ByteArray ⊕ ByteArray
def nilReply : Reply := ⟨false, 0, ⟨#[]⟩⟩
def yL (ys : List Reply) : Nat → Reply := fun k => ys.getD k nilReply
def repE (e : Ent) : Reply := ⟨decide (¬ e.kind = 2), e.code, e.text⟩
def hasS (S : Spc) (t : ByteArray) : Bool := isIn (nm0 S.f0) S.n0 t || isIn (nm1 S.f1) S.n1 t
def atI (g : Nat → ByteArray) (n : Nat) (t : ByteArray) : Option Nat := (List.range n).find? fun i => (g i).toList == t.toList
def atL (L : List ByteArray) (t : ByteArray) : Option Nat := L.findIdx? fun x => x.toList == t.toList
def entOf (made : List Ent) (t : ByteArray) : Option Ent := made.find? fun e => e.name.toList == t.toList
def turnY (S : Spc) (t : Nat) (ys : List Reply) : Turn := nextP (S.f1 t).act (S.f1 t).actN (yL ys) ys.length 2001 0 0 0 []
def runL (S : Spc) (lies : List Ent → ByteArray → Out Ent) (t : Nat) : Nat → List Ent → List Reply → List Lk → Out (Turn × List Lk)
  | 0, _, _, _ => .inr (.inr ⟨#[]⟩)
  | k + 1, made, ys, ls =>
    if (turnY S t ys).over = true then .inl (made, (turnY S t ys, ls))
    else if (turnY S t ys).ask = false then runL S lies t k made (ys ++ [⟨hasS S (turnY S t ys).name, 0, ⟨#[]⟩⟩]) (ls ++ [⟨(turnY S t ys).name, false, hasS S (turnY S t ys).name⟩])
    else match lies made (turnY S t ys).name with
      | .inl (made', e) => runL S lies t k made' (ys ++ [repE e]) (ls ++ [⟨(turnY S t ys).name, true, false⟩])
      | .inr (.inl c) => .inr (.inl c)
      | .inr (.inr d) => .inr (.inr d)
def addE (made : List Ent) (e : Ent) : Out Ent := .inl ((made ++ [e]), e)
def finE (nm : ByteArray) (t : Nat) : Out (Turn × List Lk) → Out Ent
  | .inl (made, x) => addE made ⟨nm, 3, x.1.code, x.1.text, t, x.2⟩
  | .inr (.inl c) => .inr (.inl c)
  | .inr (.inr d) => .inr (.inr d)
def freshB (S : Spc) (tgt : Nat → Out Ent) (made : List Ent) (nm : ByteArray) : Out Ent :=
  match atI (nm0 S.f0) S.n0 nm with
  | some i => addE made ⟨nm, 1, 0, (S.f0 i).text, 0, []⟩
  | none => match atI (nm1 S.f1) S.n1 nm with
    | some t => tgt t
    | none => addE made ⟨nm, 2, 0, ⟨#[]⟩, 0, []⟩
def liesB (S : Spc) (tgt : Nat → Out Ent) (making : List ByteArray) (made : List Ent) (nm : ByteArray) : Out Ent :=
  match entOf made nm with
  | some e => .inl (made, e)
  | none => match atL making nm with
    | some i => .inr (.inl (making.drop i))
    | none => freshB S tgt made nm
def liesP (S : Spc) : Nat → List ByteArray → List Ent → ByteArray → Out Ent
  | 0, making, made, nm => liesB S (fun _ => .inr (.inr nm)) making made nm
  | n + 1, making, made, nm => liesB S (fun t => finE nm t (runL S (liesP S n (making ++ [nm])) t 201 made [] [])) making made nm
def tgtP (S : Spc) (n : Nat) (making : List ByteArray) (made : List Ent) (nm : ByteArray) (t : Nat) : Out Ent :=
  match n with
  | 0 => .inr (.inr nm)
  | n + 1 => finE nm t (runL S (liesP S n (making ++ [nm])) t 201 made [] [])
theorem liesP_eq (S : Spc) (n : Nat) (making : List ByteArray) (made : List Ent) (nm : ByteArray) : liesP S n making made nm = liesB S (tgtP S n making made nm) making made nm := by
  cases n with
  | zero => rw [liesP]; rfl
  | succ n => rw [liesP]; rfl
structure ResL where
  code : Int
  text : ByteArray
  chain : List ByteArray
def resE (e : Ent) : ResL := if e.kind = 2 then ⟨4, e.name, []⟩ else ⟨e.code, e.text, []⟩
def buildP (S : Spc) (nm : ByteArray) : List Ent × ResL :=
  if checkC S.n0 S.f0 S.n1 S.f1 = 0 ∧ nameOk nm = true then
    (match liesP S 60 [] [] nm with
      | .inl (made, e) => (made, resE e)
      | .inr (.inl c) => ([], ⟨6, ⟨#[]⟩, c⟩)
      | .inr (.inr d) => ([], ⟨7, d, []⟩))
  else ([], ⟨9, ⟨#[]⟩, []⟩)
theorem yL_at (ys : List Reply) (r : Reply) : yL (ys ++ [r]) ys.length = r := by simp [yL]
theorem yL_old (ys : List Reply) (r : Reply) {k : Nat} (h : k < ys.length) : yL (ys ++ [r]) k = yL ys k := by simp [yL, List.getElem?_append_left h]
theorem decDigits_short (u : Nat) : (Lib.decDigits u).length ≤ u + 1 := by
  induction u using Nat.strongRecOn with
  | ind u ih =>
    rw [Lib.decDigits]
    split
    · simp
    · have := ih (u / 10) (by omega)
      simp only [List.length_append, List.length_cons, List.length_nil]
      omega
theorem decT_size {p : Nat} (h : p ≤ 2000) : (decT p).size ≤ 2000 := by
  show (Lib.decDigits p).length ≤ 2000
  rw [Lib.decDigits]
  split
  · simp
  · have := decDigits_short (p / 10)
    simp only [List.length_append, List.length_cons, List.length_nil]
    omega
def EndOk (c : Int) (x : ByteArray) : Prop := 0 ≤ c ∧ c ≤ 5 ∧ x.size ≤ 2000
theorem lookP_over {ask : Bool} {a : ByteArray} {r : List ByteArray} {here looks : Nat} {c : Int} {x : ByteArray} (h : lookP ask a r here looks = .inr (.inl (c, x))) (hh : here ≤ 2000) : EndOk c x := by
  unfold lookP at h
  split at h
  · cases h; exact ⟨by omega, by omega, decT_size hh⟩
  · split at h
    · cases h; exact ⟨by omega, by omega, by decide⟩
    · cases h
theorem performP_over {op n : Nat} {t : ByteArray} {here looks : Nat} {stk : List ByteArray} {c : Int} {x : ByteArray} (h : performP op n t here looks stk = .inr (.inl (c, x))) (hle : ∀ z ∈ stk, z.size ≤ 2000) (hh : here ≤ 2000) : EndOk c x := by
  unfold performP at h
  split at h
  all_goals first
    | (cases h; done)
    | exact lookP_over h hh
    | (split at h
       · cases h
       · cases h; exact ⟨by omega, by omega, decT_size hh⟩)
    | (cases h; exact ⟨by omega, by omega, hle _ (by simp)⟩)
    | (cases h; exact ⟨by omega, by omega, by decide⟩)
theorem stepP_over {f : Nat → Ins} {cnt place steps looks : Nat} {stk : List ByteArray} {c : Int} {x : ByteArray} (h : stepP f cnt place steps looks stk = .inr (.inl (c, x))) (hle : ∀ z ∈ stk, z.size ≤ 2000) (hh : place ≤ 2000) : EndOk c x := by
  unfold stepP at h
  split at h
  · cases h; exact ⟨by omega, by omega, decT_size hh⟩
  · split at h
    · cases h; exact ⟨by omega, by omega, by decide⟩
    · split at h
      · cases h; exact ⟨by omega, by omega, decT_size hh⟩
      · exact performP_over h hle hh
theorem stepP_fineM {f : Nat → Ins} {cnt place steps looks : Nat} {stk : List ByteArray} (h1 : stk.length ≤ 50) (h2 : ∀ z ∈ stk, z.size ≤ 2000) (h3 : looks ≤ 200) (hok : okTo f cnt = true) (hc : cnt ≤ 200) : Fine (stepP f cnt place steps looks stk) looks := by
  unfold stepP
  split
  · trivial
  · rename_i h1
    split
    · trivial
    · split
      · trivial
      · rename_i h3
        have hi := ok_at hok (show place < cnt by omega)
        simp only [insOk, decide_eq_true_eq] at hi
        obtain ⟨i1, i2, i3, i4, i5⟩ := hi
        have hmt : mostN (f place).op ≤ 2000 := by unfold mostN; split <;> (try split) <;> omega
        have hmt2 : mostText (f place).op ≤ 2000 := by unfold mostText; split <;> omega
        exact performP_fine _ _ _ _ _ _ (by assumption) h2 (by omega) (by omega) (by omega) (by assumption) (by omega) (by omega) (by simpa using h3)
def TurnOk (n : Nat) (T : Turn) : Prop := (T.over = true ∧ EndOk T.code T.text) ∨ (T.over = false ∧ n < 200 ∧ nameOk T.name = true)
theorem stepP_placeM {f : Nat → Ins} {cnt place steps looks : Nat} {stk s : List ByteArray} {a : Bool} {nm : ByteArray} (h : stepP f cnt place steps looks stk = .inr (.inr (a, nm, s))) : place < cnt := by
  unfold stepP at h
  split at h
  · cases h
  · omega
theorem name_size {nm : ByteArray} (h : nameOk nm = true) : nm.size ≤ 60 := by
  simp only [nameOk, Bool.and_eq_true, decide_eq_true_eq] at h
  omega
theorem nextP_ok (f : Nat → Ins) (cnt : Nat) (y : Nat → Reply) (n : Nat) (hok : okTo f cnt = true) (hc : cnt ≤ 200) (hy : ∀ i, i < n → (y i).text.size ≤ 2000) (k : Nat) : ∀ place steps looks stk, stk.length ≤ 50 → (∀ z ∈ stk, z.size ≤ 2000) → place ≤ 2000 → steps ≤ 2000 → looks ≤ 200 → looks ≤ n → k + steps = 2001 → TurnOk n (nextP f cnt y n k place steps looks stk) := by
  induction k with
  | zero => intro _ _ _ _ _ _ _ _ _ _ h; omega
  | succ k ih =>
    intro place steps looks stk h1 h2 h3 h4 h5 h6 h7
    have hf := stepP_fineM (f := f) (cnt := cnt) (place := place) (steps := steps) h1 h2 h5 hok hc
    rw [nextP]
    rcases hs : stepP f cnt place steps looks stk with ⟨s, p⟩ | ⟨c, x⟩ | ⟨a, nm, s⟩
    · rw [hs] at hf
      obtain ⟨g1, g2, g3⟩ := hf
      obtain ⟨e1, e2⟩ := stepP_go hs
      simp only
      rw [e1]
      exact ih _ _ _ _ g1 g2 g3 (by omega) h5 h6 (by omega)
    · exact .inl ⟨rfl, stepP_over hs h2 h3⟩
    · rw [hs] at hf
      obtain ⟨g1, g2, g3, g4⟩ := hf
      obtain ⟨e1, e2⟩ := stepP_look hs
      have hp := stepP_placeM hs
      have hz := name_size g3
      simp only
      rw [e1]
      split
      · exact .inr ⟨rfl, by omega, g3⟩
      · split
        · refine ih _ _ _ _ (by simp; omega) (fun z hz => ?_) (by omega) (by omega) (by omega) (by omega) (by omega)
          rcases List.mem_cons.1 hz with rfl | hz
          · exact flagT_size _
          · exact g2 z hz
        · split
          · exact .inl ⟨rfl, by simp [endT], by simp [endT], by simp only [endT]; omega⟩
          · split
            · refine ih _ _ _ _ (by simp; omega) (fun z hz => ?_) (by omega) (by omega) (by omega) (by omega) (by omega)
              rcases List.mem_cons.1 hz with rfl | hz
              · exact hy _ (by omega)
              · exact g2 z hz
            · exact .inl ⟨rfl, by simp [endT], by simp [endT], by simp only [endT]; omega⟩
def leftP (S : Spc) (making : List ByteArray) (made : List Ent) : Nat → Bool := fun t => (entOf made (S.f1 t).name).isNone && (atL making (S.f1 t).name).isNone
def leftN (S : Spc) (making : List ByteArray) (made : List Ent) : Nat := (List.range S.n1).countP (leftP S making made)
theorem entOf_add (made : List Ent) (e : Ent) (t : ByteArray) : entOf (made ++ [e]) t = (entOf made t).or (if (e.name.toList == t.toList) = true then some e else none) := by
  unfold entOf
  rw [List.find?_append]
  cases h : (e.name.toList == t.toList) <;> simp [h]
theorem atL_add (L : List ByteArray) (x t : ByteArray) : (atL (L ++ [x]) t).isNone = ((atL L t).isNone && !(x.toList == t.toList)) := by
  unfold atL
  rw [List.findIdx?_append]
  cases h : (x.toList == t.toList) <;> cases h2 : List.findIdx? (fun x => x.toList == t.toList) L <;> simp [h, List.findIdx?_cons]
theorem leftN_add (S : Spc) (making : List ByteArray) (made : List Ent) (e : Ent) : leftN S making (made ++ [e]) ≤ leftN S making made := by
  refine List.countP_mono_left fun t _ h => ?_
  simp only [leftP, Bool.and_eq_true, entOf_add] at h ⊢
  refine ⟨?_, h.2⟩
  cases h2 : entOf made (S.f1 t).name with
  | none => rfl
  | some x => rw [h2] at h; simp at h
theorem leftN_end (S : Spc) (making : List ByteArray) (made : List Ent) (e : Ent) : leftN S making (made ++ [e]) ≤ leftN S (making ++ [e.name]) made := by
  refine List.countP_mono_left fun t _ h => ?_
  simp only [leftP, Bool.and_eq_true, entOf_add, atL_add] at h ⊢
  cases h2 : entOf made (S.f1 t).name with
  | some x => rw [h2] at h; simp at h
  | none =>
    rw [h2] at h
    refine ⟨rfl, h.2, ?_⟩
    cases h3 : (e.name.toList == (S.f1 t).name.toList) with
    | false => rfl
    | true => rw [h3] at h; simp at h
theorem countP_lt {p q : Nat → Bool} {l : List Nat} (h : ∀ x ∈ l, p x = true → q x = true) {a : Nat} (ha : a ∈ l) (h1 : p a = false) (h2 : q a = true) : l.countP p + 1 ≤ l.countP q := by
  induction l with
  | nil => cases ha
  | cons x l ih =>
    have hm : l.countP p ≤ l.countP q := List.countP_mono_left fun z hz => h z (List.mem_cons_of_mem _ hz)
    rw [List.countP_cons, List.countP_cons]
    rcases List.mem_cons.1 ha with rfl | ha
    · rw [h1, h2]; simp; omega
    · have := ih (fun z hz => h z (List.mem_cons_of_mem _ hz)) ha
      cases hp : p x with
      | false => simp; split <;> omega
      | true => rw [h x List.mem_cons_self hp]; simp; omega
theorem leftN_begin {S : Spc} {making : List ByteArray} {made : List Ent} {nm : ByteArray} {t : Nat} (ht : t < S.n1) (hn : (S.f1 t).name = nm) (h1 : entOf made nm = none) (h2 : atL making nm = none) : leftN S (making ++ [nm]) made + 1 ≤ leftN S making made := by
  refine countP_lt (fun x _ h => ?_) (List.mem_range.2 ht) ?_ ?_
  · simp only [leftP, Bool.and_eq_true, atL_add] at h ⊢
    exact ⟨h.1, h.2.1⟩
  · simp [leftP, atL_add, hn]
  · simp [leftP, hn, h1, h2]
theorem atI_some {g : Nat → ByteArray} {n : Nat} {t : ByteArray} {i : Nat} (h : atI g n t = some i) : i < n ∧ g i = t := by
  unfold atI at h
  have h1 := List.find?_some h
  have h2 := List.mem_of_find?_eq_some h
  exact ⟨List.mem_range.1 h2, bytes_beq h1⟩
def Grow (S : Spc) (making : List ByteArray) (made made' : List Ent) (k : Nat) : Prop := made'.length + 201 * leftN S making made' ≤ made.length + 201 * leftN S making made + k
theorem runL_grow {S : Spc} {lies : List Ent → ByteArray → Out Ent} {making : List ByteArray} {t : Nat} (hl : ∀ made nm made' e, lies made nm = .inl (made', e) → Grow S making made made' 1) : ∀ k made ys ls made' x, runL S lies t k made ys ls = .inl (made', x) → Grow S making made made' (k - 1) := by
  intro k
  induction k with
  | zero => intro made ys ls made' x h; cases h
  | succ k ih =>
    intro made ys ls made' x h
    rw [runL] at h
    split at h
    · cases h; unfold Grow; omega
    · cases k with
      | zero =>
        split at h
        · cases h
        · split at h <;> cases h
      | succ k =>
        split at h
        · have := ih _ _ _ _ _ h
          unfold Grow at this ⊢
          omega
        · split at h
          · rename_i made1 e he
            have h1 := hl _ _ _ _ he
            have h2 := ih _ _ _ _ _ h
            unfold Grow at h1 h2 ⊢
            omega
          · cases h
          · cases h
theorem liesP_grow (S : Spc) : ∀ n making made nm made' e, liesP S n making made nm = .inl (made', e) → Grow S making made made' 1 := by
  intro n
  have key : ∀ making made nm made' e (tgt : Nat → Out Ent), (∀ t made' e, atI (nm1 S.f1) S.n1 nm = some t → entOf made nm = none → atL making nm = none → tgt t = .inl (made', e) → Grow S making made made' 1) → liesB S tgt making made nm = .inl (made', e) → Grow S making made made' 1 := by
    intro making made nm made' e tgt ht h
    unfold liesB at h
    split at h
    · cases h; unfold Grow; omega
    · rename_i h0
      split at h
      · cases h
      · rename_i h1
        unfold freshB addE at h
        split at h
        · rename_i i hi
          cases h
          have := leftN_add S making made ⟨nm, 1, 0, (S.f0 i).text, 0, []⟩
          unfold Grow
          rw [List.length_append, List.length_singleton]
          omega
        · split at h
          · rename_i t h3
            exact ht _ _ _ h3 h0 h1 h
          · cases h
            have := leftN_add S making made ⟨nm, 2, 0, ⟨#[]⟩, 0, []⟩
            unfold Grow
            rw [List.length_append, List.length_singleton]
            omega
  induction n with
  | zero =>
    intro making made nm made' e h
    rw [liesP] at h
    exact key _ _ _ _ _ _ (fun t _ _ _ _ _ h => by cases h) h
  | succ n ih =>
    intro making made nm made' e h
    rw [liesP] at h
    refine key _ _ _ _ _ _ (fun t made' e h3 h0 h1 h => ?_) h
    rcases hr : runL S (liesP S n (making ++ [nm])) t 201 made [] [] with ⟨made1, x⟩ | c | c
    · rw [hr] at h
      simp only [finE, addE, Sum.inl.injEq, Prod.mk.injEq] at h
      obtain ⟨rfl, rfl⟩ := h
      have g1 := runL_grow (making := making ++ [nm]) (fun made nm2 made' e he => ih _ _ _ _ _ he) _ _ _ _ _ _ hr
      have g2 := leftN_begin (making := making) (made := made) (atI_some h3).1 (atI_some h3).2 h0 h1
      have g3 : leftN S making (made1 ++ [⟨nm, 3, x.1.code, x.1.text, t, x.2⟩]) ≤ leftN S (making ++ [nm]) made1 := leftN_end S making made1 ⟨nm, 3, x.1.code, x.1.text, t, x.2⟩
      unfold Grow at g1 ⊢
      rw [List.length_append, List.length_singleton]
      omega
    · rw [hr] at h; cases h
    · rw [hr] at h; cases h
end Go.Proofs.YtkophfgkcijjkaaGreatDoor.Vp
namespace Go.Proofs.YtkophfgkcijjkaaGreatDoor.Vp
open Go.RowKit
structure SpcOk (S : Spc) : Prop where
  chk : checkC S.n0 S.f0 S.n1 S.f1 = 0
  asc0 : ascTo (nm0 S.f0) S.n0 = true
  asc1 : ascTo (nm1 S.f1) S.n1 = true
  small : S.n0 + S.n1 ≤ 200
  text : ∀ i, i < S.n0 → (S.f0 i).text.size ≤ 2000
  act : ∀ t, t < S.n1 → valid (S.f1 t).act (S.f1 t).actN = true
theorem anyTo_at {p : Nat → Bool} {n i : Nat} (h : anyTo p n = false) (hi : i < n) : p i = false := by
  induction n with
  | zero => omega
  | succ n ih =>
    rw [anyTo, Bool.or_eq_false_iff] at h
    by_cases e : i = n
    · subst e; exact h.2
    · exact ih h.1 (by omega)
theorem SpcOk.of {S : Spc} (h : checkC S.n0 S.f0 S.n1 S.f1 = 0) : SpcOk S := by
  obtain ⟨h1, h2, h3⟩ := check_asc h
  have h0 := h
  unfold checkC at h
  split at h; · omega
  split at h; · omega
  split at h; · omega
  split at h; · omega
  split at h; · omega
  split at h; · omega
  split at h; · omega
  split at h; · omega
  rename_i h6 h7
  refine ⟨h0, h1, h2, h3, fun i hi => ?_, fun t ht => ?_⟩
  · have := anyTo_at (Bool.eq_false_iff.2 h6) hi
    simp only [longT, decide_eq_false_iff_not] at this
    omega
  · have := anyTo_at (Bool.eq_false_iff.2 h7) ht
    simpa [wrongA] using this
structure EG (S : Spc) (x : Ent) : Prop where
  nm : nameOk x.name = true
  tx : x.text.size ≤ 2000
  code : 0 ≤ x.code ∧ x.code ≤ 5
  kind : (x.kind = 1 ∧ x.code = 0 ∧ x.looks = [] ∧ ∃ i, atI (nm0 S.f0) S.n0 x.name = some i ∧ x.text = (S.f0 i).text) ∨ (x.kind = 2 ∧ x.code = 0 ∧ x.text = ⟨#[]⟩ ∧ x.looks = [] ∧ atI (nm0 S.f0) S.n0 x.name = none ∧ atI (nm1 S.f1) S.n1 x.name = none) ∨ (x.kind = 3 ∧ atI (nm0 S.f0) S.n0 x.name = none ∧ atI (nm1 S.f1) S.n1 x.name = some x.tg)
  looks : x.looks.length ≤ 200
  lname : ∀ l ∈ x.looks, nameOk l.name = true
structure PG (S : Spc) (making : List ByteArray) (made : List Ent) : Prop where
  ents : ∀ x ∈ made, EG S x
  nod : made.Pairwise fun x y => x.name ≠ y.name
  off : ∀ x ∈ made, atL making x.name = none
  ord : ∀ (i : Nat) (x : Ent), made[i]? = some x → ∀ l ∈ x.looks, l.ask = true → ∃ (j : Nat) (y : Ent), j < i ∧ made[j]? = some y ∧ y.name = l.name
theorem pg_nil (S : Spc) (making : List ByteArray) : PG S making [] := ⟨fun x h => absurd h List.not_mem_nil, List.Pairwise.nil, fun x h => absurd h List.not_mem_nil, fun i x h => by simp at h⟩
theorem entOf_none {made : List Ent} {nm : ByteArray} (h : entOf made nm = none) : ∀ x ∈ made, x.name ≠ nm := by
  intro x hx e
  have := List.find?_eq_none.1 h x hx
  rw [e] at this
  simp at this
theorem entOf_some {made : List Ent} {nm : ByteArray} {e : Ent} (h : entOf made nm = some e) : e ∈ made ∧ e.name = nm := ⟨List.mem_of_find?_eq_some h, bytes_beq (List.find?_some (p := fun e : Ent => e.name.toList == nm.toList) h)⟩
theorem atL_none {L : List ByteArray} {nm : ByteArray} (h : atL L nm = none) : ∀ x ∈ L, x ≠ nm := by
  intro x hx e
  have := List.findIdx?_eq_none_iff.1 h x hx
  rw [e] at this
  simp at this
theorem atL_none_of {L : List ByteArray} {nm : ByteArray} (h : ∀ x ∈ L, x ≠ nm) : atL L nm = none :=
  List.findIdx?_eq_none_iff.2 fun x hx => by
    cases e : (x.toList == nm.toList) with
    | false => rfl
    | true => exact absurd (bytes_beq e) (h x hx)
theorem PG.add {S : Spc} {making : List ByteArray} {made : List Ent} {e : Ent} (h : PG S making made) (he : EG S e) (h0 : ∀ x ∈ made, x.name ≠ e.name) (h1 : atL making e.name = none) (hl : ∀ l ∈ e.looks, l.ask = true → ∃ x ∈ made, x.name = l.name) : PG S making (made ++ [e]) := by
  refine ⟨fun x hx => ?_, ?_, fun x hx => ?_, fun i x hi l hm ha => ?_⟩
  · rcases List.mem_append.1 hx with hx | hx
    · exact h.ents x hx
    · rw [List.mem_singleton.1 hx]; exact he
  · rw [List.pairwise_append]
    exact ⟨h.nod, List.pairwise_singleton _ _, fun a ha b hb => by rw [List.mem_singleton.1 hb]; exact h0 a ha⟩
  · rcases List.mem_append.1 hx with hx | hx
    · exact h.off x hx
    · rw [List.mem_singleton.1 hx]; exact h1
  · rcases Nat.lt_or_ge i made.length with hlt | hge
    · rw [List.getElem?_append_left hlt] at hi
      obtain ⟨j, y, hj, hy, hn⟩ := h.ord i x hi l hm ha
      exact ⟨j, y, hj, by rw [List.getElem?_append_left (by omega)]; exact hy, hn⟩
    · rw [List.getElem?_append_right hge] at hi
      have e1 : x = e := by
        cases hk : i - made.length with
        | zero => rw [hk] at hi; simpa using hi.symm
        | succ k => rw [hk] at hi; simp at hi
      subst e1
      obtain ⟨y, hy, hn⟩ := hl l hm ha
      obtain ⟨j, hj, hy⟩ := List.getElem_of_mem hy
      exact ⟨j, y, by omega, by rw [List.getElem?_append_left hj, List.getElem?_eq_getElem hj, hy], hn⟩
structure RG (S : Spc) (made : List Ent) (ys : List Reply) (ls : List Lk) : Prop where
  good : ∀ y ∈ ys, replyOk y = true
  len : ls.length = ys.length
  names : ∀ l ∈ ls, nameOk l.name = true
  asked : ∀ l ∈ ls, l.ask = true → ∃ x ∈ made, x.name = l.name
theorem rg_nil (S : Spc) (made : List Ent) : RG S made [] [] := ⟨fun _ h => absurd h List.not_mem_nil, rfl, fun _ h => absurd h List.not_mem_nil, fun _ h => absurd h List.not_mem_nil⟩
theorem RG.mono {S : Spc} {made made' : List Ent} {ys : List Reply} {ls : List Lk} (h : RG S made ys ls) (hm : ∀ x ∈ made, x ∈ made') : RG S made' ys ls := ⟨h.good, h.len, h.names, fun l hl ha => let ⟨x, hx, e⟩ := h.asked l hl ha; ⟨x, hm x hx, e⟩⟩
theorem RG.add {S : Spc} {made : List Ent} {ys : List Reply} {ls : List Lk} {y : Reply} {l : Lk} (h : RG S made ys ls) (hy : replyOk y = true) (hn : nameOk l.name = true) (ha : l.ask = true → ∃ x ∈ made, x.name = l.name) : RG S made (ys ++ [y]) (ls ++ [l]) := by
  refine ⟨fun z hz => ?_, by simp [h.len], fun z hz => ?_, fun z hz => ?_⟩
  · rcases List.mem_append.1 hz with hz | hz
    · exact h.good z hz
    · rw [List.mem_singleton.1 hz]; exact hy
  · rcases List.mem_append.1 hz with hz | hz
    · exact h.names z hz
    · rw [List.mem_singleton.1 hz]; exact hn
  · rcases List.mem_append.1 hz with hz | hz
    · exact h.asked z hz
    · rw [List.mem_singleton.1 hz]; exact ha
theorem yL_ok {ys : List Reply} (h : ∀ y ∈ ys, replyOk y = true) (k : Nat) : replyOk (yL ys k) = true := by
  unfold yL
  rcases Nat.lt_or_ge k ys.length with hk | hk
  · rw [List.getD_eq_getElem?_getD, List.getElem?_eq_getElem hk]
    exact h _ (List.getElem_mem hk)
  · rw [List.getD_eq_getElem?_getD, List.getElem?_eq_none hk]
    rfl
theorem turnY_ok {S : Spc} (hS : SpcOk S) {t : Nat} (ht : t < S.n1) {ys : List Reply} (hy : ∀ y ∈ ys, replyOk y = true) : TurnOk ys.length (turnY S t ys) := by
  obtain ⟨h1, h2, h3⟩ := valid_parts (hS.act t ht)
  refine nextP_ok _ _ _ _ h1 (by omega) (fun i _ => ?_) 2001 0 0 0 [] (by simp) (by simp) (by omega) (by omega) (by omega) (by omega) (by omega)
  have := yL_ok hy i
  simp only [replyOk, decide_eq_true_eq] at this
  exact this.1
theorem hasS_ok (S : Spc) (t : ByteArray) : replyOk ⟨hasS S t, 0, ⟨#[]⟩⟩ = true := by simp only [replyOk, decide_eq_true_eq]; exact ⟨by decide, by decide, by decide⟩
theorem repE_ok {S : Spc} {x : Ent} (h : EG S x) : replyOk (repE x) = true := by
  have h1 := h.tx
  have h2 := h.code
  exact decide_eq_true ⟨h1, h2.1, Int.le_trans h2.2 (by decide)⟩
def LiesGood (S : Spc) (making : List ByteArray) (lies : List Ent → ByteArray → Out Ent) : Prop := ∀ made nm made' e, PG S making made → nameOk nm = true → lies made nm = .inl (made', e) → PG S making made' ∧ (∃ more, made' = made ++ more) ∧ e ∈ made' ∧ e.name = nm
theorem runL_good {S : Spc} (hS : SpcOk S) {lies : List Ent → ByteArray → Out Ent} {making : List ByteArray} {t : Nat} (ht : t < S.n1) (hl : LiesGood S making lies) : ∀ k made ys ls made' x, PG S making made → RG S made ys ls → ys.length + k = 201 → runL S lies t k made ys ls = .inl (made', x) → PG S making made' ∧ (∃ more, made' = made ++ more) ∧ EndOk x.1.code x.1.text ∧ x.2.length ≤ 200 ∧ (∀ l ∈ x.2, nameOk l.name = true) ∧ ∀ l ∈ x.2, l.ask = true → ∃ y ∈ made', y.name = l.name := by
  intro k
  induction k with
  | zero => intro made ys ls made' x _ _ _ h; cases h
  | succ k ih =>
    intro made ys ls made' x hp hr hk h
    have hT := turnY_ok hS ht hr.good
    rw [runL] at h
    rcases hT with ⟨ho, he⟩ | ⟨ho, hlt, hn⟩
    · rw [if_pos ho] at h
      cases h
      exact ⟨hp, ⟨[], by simp⟩, he, by rw [hr.len]; omega, hr.names, hr.asked⟩
    · rw [if_neg (by rw [ho]; simp)] at h
      split at h
      · exact ih _ _ _ _ _ hp (hr.add (hasS_ok _ _) hn (fun h => by cases h)) (by simp; omega) h
      · split at h
        · rename_i made1 e he
          obtain ⟨g1, ⟨more, g2⟩, g3, g4⟩ := hl _ _ _ _ hp hn he
          have hr1 : RG S made1 ys ls := hr.mono fun x hx => by rw [g2]; exact List.mem_append_left _ hx
          obtain ⟨q1, ⟨more2, q2⟩, q3⟩ := ih _ _ _ _ _ g1 (hr1.add (l := ⟨(turnY S t ys).name, true, false⟩) (repE_ok (g1.ents e g3)) hn (fun _ => ⟨e, g3, g4⟩)) (by simp; omega) h
          exact ⟨q1, ⟨more ++ more2, by rw [q2, g2, List.append_assoc]⟩, q3⟩
        · cases h
        · cases h
theorem off_add {S : Spc} {making : List ByteArray} {made : List Ent} {nm : ByteArray} (h : PG S making made) (h0 : entOf made nm = none) : PG S (making ++ [nm]) made :=
  ⟨h.ents, h.nod, fun x hx => atL_none_of fun z hz => by
    rcases List.mem_append.1 hz with hz | hz
    · exact atL_none (h.off x hx) z hz
    · rw [List.mem_singleton.1 hz]; exact fun e => entOf_none h0 x hx e.symm, h.ord⟩
theorem off_sub {S : Spc} {making : List ByteArray} {made : List Ent} {nm : ByteArray} (h : PG S (making ++ [nm]) made) : PG S making made ∧ ∀ x ∈ made, x.name ≠ nm :=
  ⟨⟨h.ents, h.nod, fun x hx => atL_none_of fun z hz => atL_none (h.off x hx) z (List.mem_append_left _ hz), h.ord⟩, fun x hx e => atL_none (h.off x hx) nm (List.mem_append_right _ (List.mem_singleton.2 rfl)) e.symm⟩
theorem fin_good {S : Spc} {making : List ByteArray} {made1 : List Ent} {nm : ByteArray} {t : Nat} {x : Turn × List Lk} (h : PG S (making ++ [nm]) made1) (hn : nameOk nm = true) (h1 : atL making nm = none) (h2 : atI (nm0 S.f0) S.n0 nm = none) (h3 : atI (nm1 S.f1) S.n1 nm = some t) (he : EndOk x.1.code x.1.text) (hl : x.2.length ≤ 200) (hln : ∀ l ∈ x.2, nameOk l.name = true) (ha : ∀ l ∈ x.2, l.ask = true → ∃ y ∈ made1, y.name = l.name) :
    PG S making (made1 ++ [⟨nm, 3, x.1.code, x.1.text, t, x.2⟩]) :=
  (off_sub h).1.add ⟨hn, he.2.2, ⟨he.1, he.2.1⟩, .inr (.inr ⟨rfl, h2, h3⟩), hl, hln⟩ (off_sub h).2 h1 ha
theorem src_good {S : Spc} (hS : SpcOk S) {making : List ByteArray} {made : List Ent} {nm : ByteArray} {i : Nat} (h : PG S making made) (hn : nameOk nm = true) (h0 : entOf made nm = none) (h1 : atL making nm = none) (h2 : atI (nm0 S.f0) S.n0 nm = some i) : PG S making (made ++ [⟨nm, 1, 0, (S.f0 i).text, 0, []⟩]) :=
  h.add ⟨hn, hS.text i (atI_some h2).1, ⟨Int.le_refl _, by show (0 : Int) ≤ 5; decide⟩, .inl ⟨rfl, rfl, rfl, i, h2, rfl⟩, Nat.zero_le _, fun l hl => absurd hl List.not_mem_nil⟩ (entOf_none h0) h1 fun l hl => absurd hl List.not_mem_nil
theorem none_good {S : Spc} {making : List ByteArray} {made : List Ent} {nm : ByteArray} (h : PG S making made) (hn : nameOk nm = true) (h0 : entOf made nm = none) (h1 : atL making nm = none) (h2 : atI (nm0 S.f0) S.n0 nm = none) (h3 : atI (nm1 S.f1) S.n1 nm = none) : PG S making (made ++ [⟨nm, 2, 0, ⟨#[]⟩, 0, []⟩]) :=
  h.add ⟨hn, Nat.zero_le _, ⟨Int.le_refl _, by show (0 : Int) ≤ 5; decide⟩, .inr (.inl ⟨rfl, rfl, rfl, rfl, h2, h3⟩), Nat.zero_le _, fun l hl => absurd hl List.not_mem_nil⟩ (entOf_none h0) h1 fun l hl => absurd hl List.not_mem_nil
theorem liesP_good {S : Spc} (hS : SpcOk S) : ∀ n making, LiesGood S making (liesP S n making) := by
  intro n
  have key : ∀ making made nm made' e (tgt : Nat → Out Ent), PG S making made → nameOk nm = true → (∀ t made' e, atI (nm0 S.f0) S.n0 nm = none → atI (nm1 S.f1) S.n1 nm = some t → entOf made nm = none → atL making nm = none → tgt t = .inl (made', e) → PG S making made' ∧ (∃ more, made' = made ++ more) ∧ e ∈ made' ∧ e.name = nm) → liesB S tgt making made nm = .inl (made', e) → PG S making made' ∧ (∃ more, made' = made ++ more) ∧ e ∈ made' ∧ e.name = nm := by
    intro making made nm made' e tgt hp hn ht h
    unfold liesB at h
    split at h
    · rename_i e1 he
      cases h
      exact ⟨hp, ⟨[], by simp⟩, entOf_some he⟩
    · rename_i h0
      split at h
      · cases h
      · rename_i h1
        unfold freshB addE at h
        split at h
        · rename_i i hi
          cases h
          exact ⟨src_good hS hp hn h0 h1 hi, ⟨_, rfl⟩, by simp, rfl⟩
        · rename_i h2
          split at h
          · rename_i t h3
            exact ht _ _ _ h2 h3 h0 h1 h
          · rename_i h3
            cases h
            exact ⟨none_good hp hn h0 h1 h2 h3, ⟨_, rfl⟩, by simp, rfl⟩
  induction n with
  | zero =>
    intro making made nm made' e hp hn h
    rw [liesP] at h
    exact key _ _ _ _ _ _ hp hn (fun t _ _ _ _ _ _ h => by cases h) h
  | succ n ih =>
    intro making made nm made' e hp hn h
    rw [liesP] at h
    refine key _ _ _ _ _ _ hp hn (fun t made' e h2 h3 h0 h1 h => ?_) h
    rcases hr : runL S (liesP S n (making ++ [nm])) t 201 made [] [] with ⟨made1, x⟩ | c | c
    · rw [hr] at h
      simp only [finE, addE, Sum.inl.injEq, Prod.mk.injEq] at h
      obtain ⟨rfl, rfl⟩ := h
      obtain ⟨g1, ⟨more, g2⟩, g3, g4, g5, g6⟩ := runL_good hS (atI_some h3).1 (ih (making ++ [nm])) _ _ _ _ _ _ (off_add hp h0) (rg_nil S made) rfl hr
      exact ⟨fin_good g1 hn h1 h2 h3 g3 g4 g5 g6, ⟨more ++ [_], by rw [g2, List.append_assoc]⟩, by simp, rfl⟩
    · rw [hr] at h; cases h
    · rw [hr] at h; cases h
end Go.Proofs.YtkophfgkcijjkaaGreatDoor.Vp
namespace Go.Proofs.YtkophfgkcijjkaaGreatDoor.Vp
open Go.RowKit
theorem ed_lies_new (S : Spc) (nm : ByteArray) : liesP S 60 [] [] nm = freshB S (tgtP S 60 [] [] nm) [] nm := by
  rw [liesP_eq]
  rfl
theorem build_source {S : Spc} {nm : ByteArray} {i : Nat} (hc : checkC S.n0 S.f0 S.n1 S.f1 = 0) (hn : nameOk nm = true) (hi : atI (nm0 S.f0) S.n0 nm = some i) : (buildP S nm).2 = ⟨0, (S.f0 i).text, []⟩ := by
  unfold buildP
  rw [if_pos ⟨hc, hn⟩, ed_lies_new, freshB, hi]
  rfl
theorem build_missing {S : Spc} {nm : ByteArray} (hc : checkC S.n0 S.f0 S.n1 S.f1 = 0) (hn : nameOk nm = true) (h0 : atI (nm0 S.f0) S.n0 nm = none) (h1 : atI (nm1 S.f1) S.n1 nm = none) : (buildP S nm).2 = ⟨4, nm, []⟩ := by
  unfold buildP
  rw [if_pos ⟨hc, hn⟩, ed_lies_new, freshB, h0]
  simp only [h1]
  rfl
theorem atI_first {g : Nat → ByteArray} {n i : Nat} {t : ByteArray} (hi : i < n) (he : (g i).toList = t.toList) (hu : ∀ j, j < i → (g j).toList ≠ t.toList) : atI g n t = some i := by
  unfold atI
  rw [List.find?_range_eq_some]
  refine ⟨by simp [he], by simpa using hi, fun j hj => ?_⟩
  simpa using hu j hj
theorem atI_miss {g : Nat → ByteArray} {n : Nat} {t : ByteArray} (h : ∀ j, j < n → (g j).toList ≠ t.toList) : atI g n t = none := by
  unfold atI
  rw [List.find?_eq_none]
  intro j hj
  simpa using h j (List.mem_range.1 hj)
end Go.Proofs.YtkophfgkcijjkaaGreatDoor.Vp
