/-
  Put together of: RaPure, RaLine, RaIs, PaSpecR.
-/
import Derived.Test.YtkbhcajiebeepaaGreatDoorZR
import Derived.Test.YtkbhcajiebeepaaGreatDoorZJ
import Derived.Test.YtkbhcajiebeepaaGreatDoorZW
import Derived.Test.YtkbhcajiebeepaaGreatDoorZV
import Derived.Test.YtkbhcajiebeepaaGreatDoorZP
import Derived.Test.YtkbhcajiebeepaaGreatDoorZN
import Derived.Test.YtkbhcajiebeepaaGreatDoorZD
import Derived.Test.YtkbhcajiebeepaaGreatDoorZM
import Derived.Test.YtkbhcajiebeepaaGreatDoorZG

/-
  ReadAccount, pure: what is written is read again, line by line.
-/
namespace Go.Proofs.YtkbhcajiebeepaaGreatDoor.Vp
open Go.RowKit

def noIns : Ins := ⟨0, ⟨#[]⟩, 0⟩
def noLink : Link := ⟨⟨#[]⟩, false, false, 0⟩
def Deed.doA (d : Deed) (x : Ins) : Deed := { d with actN := d.actN + 1, act := fun j => if j = d.actN then x else d.act j }
def Deed.lkA (d : Deed) (l : Link) : Deed := { d with linksN := d.linksN + 1, links := fun j => if j = d.linksN then l else d.links j }
def newDeed (name : ByteArray) (kind code : Int) (text : ByteArray) : Deed := { name := name, kind := kind, code := code, text := text, actN := 0, act := fun _ => noIns, linksN := 0, links := fun _ => noLink }
/-- A deed that holds nothing behind its rows' ends. -/
def norm (d : Deed) : Deed := { d with act := fun j => if j < d.actN then d.act j else noIns, links := fun j => if j < d.linksN then d.links j else noLink }
/-- What a line that is written tells. -/
def Good (X : List Deed) (Y : List UInt8) (Z : List Deed) : Prop :=
  (∃ (D : List Deed) (n : Nat), X = D ∧ Y = ([97, 99, 99, 111, 117, 110, 116, 32] ++ Lib.decDigits n) ∧ Z = D) ∨
  (∃ (D : List Deed), X = D ∧ Y = [101, 110, 100] ∧ Z = D) ∨
  (∃ (D : List Deed) (d : Deed), (32 : UInt8) ∉ d.name.data.toList ∧ X = D ∧ Y = (srcT d) ∧ Z = (D ++ [newDeed d.name 1 0 d.text])) ∨
  (∃ (D : List Deed) (d : Deed), (32 : UInt8) ∉ d.name.data.toList ∧ X = D ∧ Y = (noneT d) ∧ Z = (D ++ [newDeed d.name 2 0 ⟨#[]⟩])) ∨
  (∃ (D : List Deed) (d : Deed), (32 : UInt8) ∉ d.name.data.toList ∧ 0 ≤ d.code ∧ d.code ≤ 5 ∧ X = D ∧ Y = (headT d) ∧ Z = (D ++ [newDeed d.name 3 d.code d.text])) ∨
  (∃ (D : List Deed) (d : Deed) (x : Ins), insOk x.op x.s.size x.n = true ∧ X = (D ++ [d]) ∧ Y = (doT x) ∧ Z = (D ++ [d.doA x])) ∨
  (∃ (D : List Deed) (d : Deed) (l : Link), (32 : UInt8) ∉ l.name.data.toList ∧ 0 ≤ l.at_ ∧ l.at_ ≤ 400 ∧ ((l.ask = true → l.has = false)) ∧ ((l.ask = false → l.at_ = 0)) ∧ X = (D ++ [d]) ∧ Y = (linkT l) ∧ Z = (D ++ [d.lkA l]))
theorem Good.acc (D : List Deed) (n : Nat) : Good D ([97, 99, 99, 111, 117, 110, 116, 32] ++ Lib.decDigits n) D := .inl ⟨D, n, rfl, rfl, rfl⟩
theorem Good.fin (D : List Deed) : Good D [101, 110, 100] D := .inr (.inl ⟨D, rfl, rfl, rfl⟩)
theorem Good.src (D : List Deed) (d : Deed) (h0 : (32 : UInt8) ∉ d.name.data.toList) : Good D (srcT d) (D ++ [newDeed d.name 1 0 d.text]) := .inr (.inr (.inl ⟨D, d, h0, rfl, rfl, rfl⟩))
theorem Good.non (D : List Deed) (d : Deed) (h0 : (32 : UInt8) ∉ d.name.data.toList) : Good D (noneT d) (D ++ [newDeed d.name 2 0 ⟨#[]⟩]) := .inr (.inr (.inr (.inl ⟨D, d, h0, rfl, rfl, rfl⟩)))
theorem Good.tgt (D : List Deed) (d : Deed) (h0 : (32 : UInt8) ∉ d.name.data.toList) (h1 : 0 ≤ d.code) (h2 : d.code ≤ 5) : Good D (headT d) (D ++ [newDeed d.name 3 d.code d.text]) := .inr (.inr (.inr (.inr (.inl ⟨D, d, h0, h1, h2, rfl, rfl, rfl⟩))))
theorem Good.act (D : List Deed) (d : Deed) (x : Ins) (h0 : insOk x.op x.s.size x.n = true) : Good (D ++ [d]) (doT x) (D ++ [d.doA x]) := .inr (.inr (.inr (.inr (.inr (.inl ⟨D, d, x, h0, rfl, rfl, rfl⟩)))))
theorem Good.lnk (D : List Deed) (d : Deed) (l : Link) (h0 : (32 : UInt8) ∉ l.name.data.toList) (h1 : 0 ≤ l.at_) (h2 : l.at_ ≤ 400) (h3 : (l.ask = true → l.has = false)) (h4 : (l.ask = false → l.at_ = 0)) : Good (D ++ [d]) (linkT l) (D ++ [d.lkA l]) := .inr (.inr (.inr (.inr (.inr (.inr ⟨D, d, l, h0, h1, h2, h3, h4, rfl, rfl, rfl⟩)))))
def GoodAll : List Deed → List (List UInt8) → List Deed → Prop
  | D, [], E => D = E
  | D, l :: ls, E => ∃ G, Good D l G ∧ GoodAll G ls E
theorem goodAll_app : ∀ {a b : List (List UInt8)} {D E F : List Deed}, GoodAll D a E → GoodAll E b F → GoodAll D (a ++ b) F
  | [], _, _, _, _, h, k => by rw [show _ = _ from h]; exact k
  | _ :: _, _, _, _, _, ⟨G, h1, h2⟩, k => ⟨G, h1, goodAll_app h2 k⟩
theorem goodAll_one {D E : List Deed} {l : List UInt8} (h : Good D l E) : GoodAll D [l] E := ⟨E, h, rfl⟩

/-- The lines of a deed, of a form. -/
def doLs (g : Nat → Ins) (n : Nat) : List (List UInt8) := (List.range n).map fun k => doT (g k)
def lkLs (g : Nat → Link) (n : Nat) : List (List UInt8) := (List.range n).map fun k => linkT (g k)
def deedLs (d : Deed) : List (List UInt8) := if d.kind = 1 then [srcT d] else if d.kind = 2 then [noneT d] else headT d :: (doLs d.act d.actN ++ lkLs d.links d.linksN ++ [[101, 110, 100]])
def formLs (f : Nat → Deed) (n : Nat) : List (List UInt8) := ([97, 99, 99, 111, 117, 110, 116, 32] ++ Lib.decDigits n) :: (List.range n).flatMap fun p => deedLs (f p)
def catL (ls : List (List UInt8)) : List UInt8 := ls.flatMap fun l => l ++ [10]
theorem catL_app (a b : List (List UInt8)) : catL (a ++ b) = catL a ++ catL b := by simp [catL]
theorem catL_do (g : Nat → Ins) : ∀ n, catL (doLs g n) = dosTo g n
  | 0 => rfl
  | n + 1 => by
    have ih := catL_do g n
    unfold doLs at ih ⊢
    rw [List.range_succ, List.map_append, catL_app, ih, dosTo]
    simp [catL]
theorem catL_lk (g : Nat → Link) : ∀ n, catL (lkLs g n) = lnksTo g n
  | 0 => rfl
  | n + 1 => by
    have ih := catL_lk g n
    unfold lkLs at ih ⊢
    rw [List.range_succ, List.map_append, catL_app, ih, lnksTo]
    simp [catL]
theorem catL_deed (d : Deed) : catL (deedLs d) = deedT d := by
  unfold deedLs deedT
  split
  · simp [catL]
  · split
    · simp [catL]
    · rw [show ∀ (x : List UInt8) (l : List (List UInt8)), x :: l = [x] ++ l from fun _ _ => rfl, catL_app, catL_app, catL_app, catL_do, catL_lk, tgtT]
      simp [catL]
theorem catL_form (f : Nat → Deed) (n : Nat) : ∀ k, catL (([97, 99, 99, 111, 117, 110, 116, 32] ++ Lib.decDigits n) :: (List.range k).flatMap fun p => deedLs (f p)) = formTo f n k
  | 0 => by simp [catL, formTo]
  | k + 1 => by
    have ih := catL_form f n k
    rw [List.range_succ, List.flatMap_append, ← List.cons_append, catL_app, ih, formTo]
    simp [catL_deed]

/-- A target as far as it has been read. -/
def partA (d : Deed) (k : Nat) : Deed := { newDeed d.name 3 d.code d.text with actN := k, act := fun j => if j < k then d.act j else noIns }
def partL (d : Deed) (k : Nat) : Deed := { partA d d.actN with linksN := k, links := fun j => if j < k then d.links j else noLink }
theorem partA_step (d : Deed) (k : Nat) : (partA d k).doA (d.act k) = partA d (k + 1) := by
  unfold Deed.doA partA
  simp only [Deed.mk.injEq, true_and, and_true]
  funext j
  by_cases h : j = k
  · subst h; simp
  · simp only [if_neg h]
    by_cases h2 : j < k
    · rw [if_pos h2, if_pos (by omega)]
    · rw [if_neg h2, if_neg (by omega)]
theorem partL_step (d : Deed) (k : Nat) : (partL d k).lkA (d.links k) = partL d (k + 1) := by
  unfold Deed.lkA partL
  simp only [Deed.mk.injEq, true_and]
  funext j
  by_cases h : j = k
  · subst h; simp
  · simp only [if_neg h]
    by_cases h2 : j < k
    · rw [if_pos h2, if_pos (by omega)]
    · rw [if_neg h2, if_neg (by omega)]
theorem good_do {d : Deed} (D : List Deed) (h : okTo d.act d.actN = true) : ∀ k, k ≤ d.actN → GoodAll (D ++ [partA d 0]) (doLs d.act k) (D ++ [partA d k])
  | 0, _ => rfl
  | k + 1, hk => by
    have ih := good_do D h k (by omega)
    have g : Good (D ++ [partA d k]) (doT (d.act k)) (D ++ [partA d (k + 1)]) := by
      rw [← partA_step]
      exact Good.act D _ _ (ok_at h (by omega))
    unfold doLs at ih ⊢
    rw [List.range_succ, List.map_append]
    exact goodAll_app ih (goodAll_one g)
theorem name_plain {s : ByteArray} (h : nameOk s = true) : ∀ c ∈ s.data.toList, 33 ≤ c.toNat ∧ c.toNat ≤ 126 := by
  unfold nameOk at h
  rw [Bool.and_eq_true] at h
  intro c hc
  obtain ⟨k, hk, rfl⟩ := List.getElem_of_mem hc
  have hk' : k < s.size := by simpa using hk
  have h2 := nameTo_mono (show k + 1 ≤ s.size by omega) h.2
  rw [nameTo, Bool.and_eq_true] at h2
  have h3 := h2.2
  rw [Array.getElem?_eq_getElem (by simpa using hk)] at h3
  simpa using h3
theorem name_no32 {s : ByteArray} (h : nameOk s = true) : (32 : UInt8) ∉ s.data.toList := fun hm => by
  have := (name_plain h 32 hm).1
  have e : (32 : UInt8).toNat = 32 := rfl
  omega
theorem name_no10 {s : ByteArray} (h : nameOk s = true) : (10 : UInt8) ∉ s.data.toList := fun hm => by
  have := (name_plain h 10 hm).1
  have e : (10 : UInt8).toNat = 10 := rfl
  omega
theorem good_lk {f : Nat → Deed} {p : Nat} {d : Deed} (D : List Deed) (hp : p ≤ 400) (h : linksOk f p d d.linksN = true) : ∀ k, k ≤ d.linksN → GoodAll (D ++ [partL d 0]) (lkLs d.links k) (D ++ [partL d k])
  | 0, _ => rfl
  | k + 1, hk => by
    have ih := good_lk D hp h k (by omega)
    have hl := linksOk_at h k (by omega)
    have hz := linkOk_size hl
    unfold linkOk at hl
    rw [Bool.and_eq_true] at hl
    have g : Good (D ++ [partL d k]) (linkT (d.links k)) (D ++ [partL d (k + 1)]) := by
      rw [← partL_step]
      refine Good.lnk D _ _ (name_no32 hl.1) hz.2.1 (by omega) (fun ha => ?_) (fun ha => ?_)
      · have h2 := hl.2
        rw [if_pos ha] at h2
        simp only [Bool.and_eq_true] at h2
        simpa using h2.1.1.1
      · have h2 := hl.2
        rw [if_neg (by simp [ha])] at h2
        simpa using h2
    unfold lkLs at ih ⊢
    rw [List.range_succ, List.map_append]
    exact goodAll_app ih (goodAll_one g)
theorem norm_un {d : Deed} (ha : d.actN = 0) (hl : d.linksN = 0) : norm d = newDeed d.name d.kind d.code d.text := by
  unfold norm newDeed
  simp only [Deed.mk.injEq, true_and]
  exact ⟨ha, by funext j; rw [if_neg (by omega)], hl, by funext j; rw [if_neg (by omega)]⟩
theorem empty_text {s : ByteArray} (h : s.size = 0) : s = ⟨#[]⟩ := by
  refine ByteArray.ext (Array.ext' ?_)
  have : s.data.toList.length = 0 := by simpa using h
  exact List.length_eq_zero_iff.1 this
theorem good_deed {f : Nat → Deed} {n p : Nat} (h : accOk f n = true) (hp : p < n) (D : List Deed) : GoodAll D (deedLs (f p)) (D ++ [norm (f p)]) := by
  have hn := accOk_n h
  have h1 := firstNo_ok hn.2.2 p hp
  simp only [deedOk, Bool.and_eq_true, kindOk, decide_eq_true_eq] at h1
  obtain ⟨⟨h0, _⟩, h2⟩ := h1
  unfold deedLs
  split at h2
  · rename_i hk
    simp only [unmadeOk, Bool.and_eq_true, decide_eq_true_eq] at h2
    rw [if_pos hk, norm_un h2.1.2 h2.2, hk, h2.1.1]
    exact goodAll_one (Good.src D _ (name_no32 h0))
  · rename_i hk1
    rw [if_neg hk1]
    split at h2
    · rename_i hk
      simp only [unmadeOk, Bool.and_eq_true, decide_eq_true_eq] at h2
      rw [if_pos hk, norm_un h2.1.1.2 h2.1.2, hk, h2.1.1.1, empty_text h2.2]
      exact goodAll_one (Good.non D _ (name_no32 h0))
    · rename_i hk2
      rw [if_neg hk2]
      split at h2
      · rename_i hk
        simp only [targetOk, Bool.and_eq_true, decide_eq_true_eq] at h2
        obtain ⟨⟨⟨⟨a1, a2⟩, a3⟩, a4⟩, a5⟩ := h2
        obtain ⟨b1, b2, b3⟩ := valid_parts a3
        have e0 : newDeed (f p).name 3 (f p).code (f p).text = partA (f p) 0 := by
          unfold partA newDeed
          simp
        have e1 : partA (f p) (f p).actN = partL (f p) 0 := by
          unfold partL partA newDeed
          simp
        have e2 : partL (f p) (f p).linksN = norm (f p) := by
          unfold partL partA newDeed norm
          simp [hk]
        refine ⟨_, Good.tgt D _ (name_no32 h0) a1 a2, ?_⟩
        rw [e0]
        have g1 := good_do D b1 _ (Nat.le_refl _)
        rw [e1] at g1
        have g2 := good_lk D (by omega) a5 _ (Nat.le_refl _)
        rw [e2] at g2
        exact goodAll_app (goodAll_app g1 g2) (goodAll_one (Good.fin _))
      · cases h2
/-- What a form tells, line by line. -/
theorem good_form {f : Nat → Deed} {n : Nat} (h : accOk f n = true) : GoodAll [] (formLs f n) ((List.range n).map fun p => norm (f p)) := by
  refine ⟨[], Good.acc [] n, ?_⟩
  have key : ∀ k, k ≤ n → GoodAll [] ((List.range k).flatMap fun p => deedLs (f p)) ((List.range k).map fun p => norm (f p)) := by
    intro k
    induction k with
    | zero => intro _; rfl
    | succ k ih =>
      intro hk
      rw [List.range_succ, List.flatMap_append, List.map_append]
      refine goodAll_app (ih (by omega)) ?_
      simpa using good_deed h (show k < n by omega) _
  exact key n (Nat.le_refl _)

end Go.Proofs.YtkbhcajiebeepaaGreatDoor.Vp

/-
  ReadAccount, pure: a text by its lines.
-/
namespace Go.Proofs.YtkbhcajiebeepaaGreatDoor.Vp
open Go.RowKit

/-- The lines but a last empty one. -/
def tL : List (List UInt8) → List (List UInt8)
  | [] => []
  | [l] => if l = [] then [] else [l]
  | l :: l' :: ls => l :: tL (l' :: ls)
theorem tL_cons {l : List UInt8} {ls : List (List UInt8)} (h : ls ≠ []) : tL (l :: ls) = l :: tL ls := by
  obtain ⟨l', ls', rfl⟩ := List.exists_cons_of_ne_nil h
  rfl
theorem tL_last {l : List UInt8} (h : l ≠ []) : tL [l] = [l] := if_neg h
theorem tL_end : tL [[]] = [] := rfl
theorem tL_app : ∀ ls : List (List UInt8), tL (ls ++ [[]]) = ls
  | [] => rfl
  | l :: ls => by rw [List.cons_append, tL_cons (by simp), tL_app ls]
theorem linesL_cat : ∀ {ls : List (List UInt8)}, (∀ l ∈ ls, (10 : UInt8) ∉ l) → linesL (catL ls) = ls ++ [[]]
  | [], _ => rfl
  | l :: ls, h => by
    have ih := linesL_cat (ls := ls) fun x hx => h x (by simp [hx])
    show linesL (l ++ [10] ++ catL ls) = _
    rw [List.append_assoc, List.singleton_append, linesL_at _ (h l (by simp)), ih]
    rfl
theorem quote_no10 (t : List UInt8) : (10 : UInt8) ∉ quoteB t := by
  rw [quoteB_eq]
  intro hm
  simp only [List.mem_cons, List.mem_append, List.mem_flatMap, List.not_mem_nil, or_false] at hm
  rcases hm with (hm | ⟨c, _, hm⟩) | hm
  · exact absurd hm (by decide)
  · exact enc_no10 c hm
  · exact absurd hm (by decide)
theorem no10_app {a b : List UInt8} (ha : (10 : UInt8) ∉ a) (hb : (10 : UInt8) ∉ b) : (10 : UInt8) ∉ a ++ b := fun h => (List.mem_append.1 h).elim ha hb
theorem deedLs_no10 {f : Nat → Deed} {n p : Nat} (h : accOk f n = true) (hp : p < n) : ∀ l ∈ deedLs (f p), (10 : UInt8) ∉ l := by
  have hn := accOk_n h
  have h1 := firstNo_ok hn.2.2 p hp
  simp only [deedOk, Bool.and_eq_true, kindOk, decide_eq_true_eq] at h1
  obtain ⟨⟨h0, _⟩, h2⟩ := h1
  have hnm := name_no10 h0
  intro l hl
  unfold deedLs at hl
  split at hl
  · rw [List.mem_singleton.1 hl]
    exact no10_app (no10_app (no10_app (by decide) hnm) (by decide)) (quote_no10 _)
  · rename_i k1
    split at hl
    · rw [List.mem_singleton.1 hl]
      exact no10_app (by decide) hnm
    · rename_i k2
      rw [if_neg k1, if_neg k2] at h2
      split at h2
      · simp only [targetOk, Bool.and_eq_true, decide_eq_true_eq] at h2
        obtain ⟨⟨⟨⟨a1, a2⟩, a3⟩, a4⟩, a5⟩ := h2
        obtain ⟨b1, b2, b3⟩ := valid_parts a3
        rcases List.mem_cons.1 hl with hl | hl
        · rw [hl]
          exact no10_app (no10_app (no10_app (no10_app (no10_app (by decide) hnm) (by decide)) (dec_no10 _)) (by decide)) (quote_no10 _)
        · rcases List.mem_append.1 hl with hl | hl
          · rcases List.mem_append.1 hl with hl | hl
            · obtain ⟨k, hk, rfl⟩ := List.mem_map.1 hl
              have ok := ok_at b1 (List.mem_range.1 hk)
              refine no10_app (by decide) ?_
              exact line_no10 (s := ((f p).act k).s.data.toList) (by simpa using ok)
            · obtain ⟨k, hk, rfl⟩ := List.mem_map.1 hl
              have lk := linksOk_at a5 k (List.mem_range.1 hk)
              unfold linkOk at lk
              rw [Bool.and_eq_true] at lk
              have hl10 := name_no10 lk.1
              unfold linkT
              split
              · exact no10_app (no10_app (no10_app (by decide) hl10) (by decide)) (dec_no10 _)
              · refine no10_app (no10_app (no10_app (by decide) hl10) (by decide)) ?_
                split <;> decide
          · rw [List.mem_singleton.1 hl]
            decide
      · cases h2
theorem formLs_no10 {f : Nat → Deed} {n : Nat} (h : accOk f n = true) : ∀ l ∈ formLs f n, (10 : UInt8) ∉ l := by
  intro l hl
  rcases List.mem_cons.1 hl with hl | hl
  · rw [hl]
    exact no10_app (by decide) (dec_no10 _)
  · obtain ⟨p, hp, hl⟩ := List.mem_flatMap.1 hl
    exact deedLs_no10 h (List.mem_range.1 hp) l hl
/-- The form of a valid account is read as that account. -/
theorem good_text {f : Nat → Deed} {n : Nat} (h : accOk f n = true) : GoodAll [] (tL (linesL (formTo f n n))) ((List.range n).map fun p => norm (f p)) := by
  have e : catL (formLs f n) = formTo f n n := catL_form f n n
  rw [← e, linesL_cat (formLs_no10 h), tL_app]
  exact good_form h

/-- What has been read is not too much. -/
structure FitK (k : Nat) (d : Deed) : Prop where
  a : d.actN ≤ k
  l : d.linksN ≤ k
  n : d.name.size ≤ 300000
  t : d.text.size ≤ 300000
  x : ∀ j, j < d.actN → (d.act j).s.size ≤ 300000
  y : ∀ j, j < d.linksN → (d.links j).name.size ≤ 300000
def SzD (k : Nat) (D : List Deed) : Prop := D.length ≤ k ∧ ∀ d ∈ D, FitK k d
theorem FitK.up {k m : Nat} {d : Deed} (h : FitK k d) (hm : k ≤ m) : FitK m d := ⟨Nat.le_trans h.a hm, Nat.le_trans h.l hm, h.n, h.t, h.x, h.y⟩
theorem SzD.up {k m : Nat} {D : List Deed} (h : SzD k D) (hm : k ≤ m) : SzD m D := ⟨Nat.le_trans h.1 hm, fun d hd => (h.2 d hd).up hm⟩
theorem SzD.nil (k : Nat) : SzD k [] := ⟨Nat.zero_le _, fun d hd => by cases hd⟩
theorem SzD.new {k : Nat} {D : List Deed} (h : SzD k D) (name : ByteArray) (kind code : Int) (text : ByteArray) (hn : name.size ≤ 300000) (ht : text.size ≤ 300000) : SzD (k + 1) (D ++ [newDeed name kind code text]) := by
  refine ⟨by rw [List.length_append]; exact Nat.succ_le_succ h.1, fun d hd => ?_⟩
  rcases List.mem_append.1 hd with hd | hd
  · exact (h.2 d hd).up (Nat.le_succ _)
  · rw [List.mem_singleton.1 hd]
    exact ⟨Nat.zero_le _, Nat.zero_le _, hn, ht, fun j hj => absurd hj (Nat.not_lt_zero _), fun j hj => absurd hj (Nat.not_lt_zero _)⟩
theorem SzD.doA {k : Nat} {D : List Deed} {d : Deed} (h : SzD k (D ++ [d])) (x : Ins) (hx : x.s.size ≤ 300000) : SzD (k + 1) (D ++ [d.doA x]) := by
  have hd := h.2 d (by simp)
  refine ⟨by have := h.1; simp at this ⊢; omega, fun e he => ?_⟩
  rcases List.mem_append.1 he with he | he
  · exact (h.2 e (by simp [he])).up (Nat.le_succ _)
  · rw [List.mem_singleton.1 he]
    refine ⟨Nat.succ_le_succ hd.a, Nat.le_succ_of_le hd.l, hd.n, hd.t, fun j hj => ?_, hd.y⟩
    show (if j = d.actN then x else d.act j).s.size ≤ 300000
    split
    · exact hx
    · have hj' : j < d.actN + 1 := hj
      exact hd.x j (by omega)
theorem SzD.lkA {k : Nat} {D : List Deed} {d : Deed} (h : SzD k (D ++ [d])) (x : Link) (hx : x.name.size ≤ 300000) : SzD (k + 1) (D ++ [d.lkA x]) := by
  have hd := h.2 d (by simp)
  refine ⟨by have := h.1; simp at this ⊢; omega, fun e he => ?_⟩
  rcases List.mem_append.1 he with he | he
  · exact (h.2 e (by simp [he])).up (Nat.le_succ _)
  · rw [List.mem_singleton.1 he]
    refine ⟨Nat.le_succ_of_le hd.a, Nat.succ_le_succ hd.l, hd.n, hd.t, hd.x, fun j hj => ?_⟩
    show (if j = d.linksN then x else d.links j).name.size ≤ 300000
    split
    · exact hx
    · have hj' : j < d.linksN + 1 := hj
      exact hd.y j (by omega)

/-- What is answered to a text. -/
def IsRead (S : List UInt8) (r : Option (List Deed)) : Prop :=
  (∀ D, r = some D → formB (dF D) D.length = S ∧ S ≠ []) ∧ ∀ f n, formB f n = S → S ≠ [] → r = some ((List.range n).map fun p => norm (f p))
theorem isRead_one {S : List UInt8} {r r' : Option (List Deed)} (h : IsRead S r) (h' : IsRead S r') : r = r' := by
  cases r with
  | some D =>
    obtain ⟨h1, h2⟩ := h.1 D rfl
    rw [h'.2 _ _ h1 h2, h.2 _ _ h1 h2]
  | none =>
    cases r' with
    | none => rfl
    | some D =>
      obtain ⟨h1, h2⟩ := h'.1 D rfl
      have := h.2 _ _ h1 h2
      cases this
theorem formB_parts {f : Nat → Deed} {n : Nat} {S : List UInt8} (h : formB f n = S) (hS : S ≠ []) : accOk f n = true ∧ formTo f n n = S := by
  unfold formB at h
  split at h
  · rename_i h1
    split at h
    · exact ⟨h1, h⟩
    · exact absurd h.symm hS
  · exact absurd h.symm hS

end Go.Proofs.YtkbhcajiebeepaaGreatDoor.Vp

/-
  ReadAccount, pure: what is answered.
-/
namespace Go.Proofs.YtkbhcajiebeepaaGreatDoor.Vp
open Go.RowKit

/-- The deeds of a form, as they are read. -/
def nrm (f : Nat → Deed) (n : Nat) : List Deed := (List.range n).map fun p => norm (f p)
/-- What is answered to a text. -/
def IsRd (S : List UInt8) (r : Option (List Deed)) : Prop :=
  (∀ D, r = some D → ∃ f n, formB f n = S ∧ S ≠ [] ∧ D = nrm f n) ∧ ∀ f n, formB f n = S → S ≠ [] → r = some (nrm f n)
theorem isRd_one {S : List UInt8} {r r' : Option (List Deed)} (h : IsRd S r) (h' : IsRd S r') : r = r' := by
  cases r with
  | some D =>
    obtain ⟨f, n, h1, h2, h3⟩ := h.1 D rfl
    rw [h'.2 _ _ h1 h2, h3]
  | none =>
    cases r' with
    | none => rfl
    | some D =>
      obtain ⟨f, n, h1, h2, h3⟩ := h'.1 D rfl
      have := h.2 _ _ h1 h2
      cases this
theorem isRd_none {S : List UInt8} (h : ∀ f n, formB f n = S → S = []) : IsRd S none :=
  ⟨fun D e => (by cases e), fun f n h1 h2 => absurd (h f n h1) h2⟩
theorem isRd_some {S : List UInt8} {f : Nat → Deed} {n : Nat} (h : formB f n = S) (hS : S ≠ []) (hD : ∀ E, GoodAll [] (tL (linesL S)) E → nrm f n = E) : IsRd S (some (nrm f n)) := by
  refine ⟨fun D e => ⟨f, n, h, hS, (Option.some.inj e).symm⟩, fun f' n' h1 h2 => ?_⟩
  obtain ⟨ok, e⟩ := formB_parts h1 h2
  have g := good_text ok
  rw [e] at g
  rw [hD _ g]
  rfl
theorem form_good {S : List UInt8} {f : Nat → Deed} {n : Nat} (h : formB f n = S) (hS : S ≠ []) : GoodAll [] (tL (linesL S)) (nrm f n) := by
  obtain ⟨ok, e⟩ := formB_parts h hS
  have g := good_text ok
  rw [e] at g
  exact g
theorem form_short {S : List UInt8} {f : Nat → Deed} {n : Nat} (h : formB f n = S) : S.length ≤ 300000 := by
  unfold formB at h
  split at h
  · split at h
    · rw [← h]; assumption
    · rw [← h]; simp
  · rw [← h]; simp
theorem nrm_len (f : Nat → Deed) (n : Nat) : (nrm f n).length = n := by simp [nrm]
theorem nrm_at (f : Nat → Deed) {n i : Nat} (hi : i < n) : dF (nrm f n) i = norm (f i) := by
  unfold dF nrm
  simp [hi]
theorem sl_nrm {w : World} {a : Option Addr} {f : Nat → Deed} {n : Nat} (h : SlDeed w a n (dF (nrm f n))) : SlDeed w a n f := by
  rcases h with h | ⟨b, off, e, hl, hr⟩
  · exact .inl h
  · refine .inr ⟨b, off, e, hl, fun i hi => ?_⟩
    have h1 := hr i hi
    rw [nrm_at f hi] at h1
    obtain ⟨p0, p1, p2, p3, ⟨a0, c0, s0, r0⟩, ⟨a1, c1, s1, r1⟩⟩ := h1
    refine ⟨p0, p1, p2, p3, ⟨a0, c0, s0, ?_⟩, ⟨a1, c1, s1, ?_⟩⟩
    · rcases r0 with r0 | ⟨b0, o0, e0, l0, q0⟩
      · exact .inl r0
      · refine .inr ⟨b0, o0, e0, l0, fun j hj => ?_⟩
        have := q0 j hj
        rw [show (norm (f i)).act j = (f i).act j from if_pos hj] at this
        exact this
    · rcases r1 with r1 | ⟨b0, o0, e0, l0, q0⟩
      · exact .inl r1
      · refine .inr ⟨b0, o0, e0, l0, fun j hj => ?_⟩
        have := q0 j hj
        rw [show (norm (f i)).links j = (f i).links j from if_pos hj] at this
        exact this
theorem fit_nrm {f : Nat → Deed} {n k : Nat} (h : SzD k (nrm f n)) (hk : k ≤ 400000) : ∀ i, i < n → FitsDeed (f i) ∧ SizedDeed (f i) := by
  intro i hi
  have h1 := h.2 (norm (f i)) (by unfold nrm; exact List.mem_map.2 ⟨i, List.mem_range.2 hi, rfl⟩)
  have ha : (f i).actN ≤ k := h1.a
  have hl : (f i).linksN ≤ k := h1.l
  have hn : (f i).name.size ≤ 300000 := h1.n
  have ht : (f i).text.size ≤ 300000 := h1.t
  refine ⟨⟨by omega, by omega⟩, by unfold maxLen; omega, by unfold maxLen; omega, ⟨by omega, fun j hj => ?_⟩, by omega, fun j hj => ?_⟩
  · have := h1.x j hj
    rw [show (norm (f i)).act j = (f i).act j from if_pos hj] at this
    unfold maxLen
    omega
  · have := h1.y j hj
    rw [show (norm (f i)).links j = (f i).links j from if_pos hj] at this
    unfold maxLen
    omega
theorem fit_dF {D : List Deed} {k : Nat} (h : SzD k D) (hk : k ≤ 400000) : ∀ i, i < D.length → FitsDeed (dF D i) ∧ SizedDeed (dF D i) := by
  intro i hi
  have e : dF D i = D[i] := by unfold dF; simp [hi]
  have h1 := h.2 D[i] (List.getElem_mem hi)
  rw [e]
  have h2 := h1.a
  have h3 := h1.l
  have h4 := h1.n
  have h5 := h1.t
  refine ⟨⟨by omega, by omega⟩, by unfold maxLen; omega, by unfold maxLen; omega, ⟨by omega, fun j hj => ?_⟩, by omega, fun j hj => ?_⟩
  · have := h1.x j hj
    unfold maxLen
    omega
  · have := h1.y j hj
    unfold maxLen
    omega

end Go.Proofs.YtkbhcajiebeepaaGreatDoor.Vp

/-
  ParseProgram, spec: l1Read.
-/
namespace Go.Proofs.YtkbhcajiebeepaaGreatDoor.Vp
open Go.RowKit

def readV (o : Option I3) : Value := match o with
  | some i => .tuple #[.agg #[.int .i64 i.1, .string ⟨i.2.1.toArray⟩, .int .i64 i.2.2], .bool true]
  | none => .tuple #[.agg #[.int .i64 0, .string ⟨#[]⟩, .int .i64 0], .bool false]
theorem word_short (k : Int) : (word k).length ≤ 6 := by
  unfold word
  split <;> decide

set_option maxRecDepth 100000 in
set_option maxHeartbeats 8000000 in
theorem l1Read_any (s : ByteArray) (w : World) (hs : s.size ≤ 16777216) :
    Calls Tryz.prog 25 #[.string s] w fun e w' => e = .returned (readV (readL s.data.toList)) ∧ Below w.heap.size w w' := by
  have HL : Hid (s.data.toList.length = s.size) := by show _ = _; simp
  have C0 := hide (CI.new w (.int .i64 0) (.string ⟨#[]⟩) (.int .i64 0))
  have B0 := hide ((Below.refl w.heap.size w).alloc (Nat.le_refl _) (.cells #[.int .i64 0, .string ⟨#[]⟩, .int .i64 0] 54))
  go_enter Tryz.func25, Tryz.ntmps25
  go_wp2
  go_loopw [4] (fun i wr => ∃ k : Nat, 1 ≤ k ∧ k ≤ 16 ∧ i = .int .i64 k ∧ Hid (∀ j : Int, 1 ≤ j → j < k → ∀ t m, ¬ IsLine s.data.toList j t m) ∧ Hid (CI wr w.heap.size (.int .i64 0) (.string ⟨#[]⟩) (.int .i64 0)) ∧ Hid (Below w.heap.size w wr)) (fun i _ => 16 - (intOf i).toNat)
  case atStart => exact ⟨1, by omega, by omega, rfl, fun j h1 h2 => by omega, C0.out, B0.out⟩
  case round =>
    clear C0 B0
    obtain ⟨k, hk1, hk2, rfl, HNO, HC, HB⟩ := hrel
    have hsz : w.heap.size < wr.heap.size := HC.out.lt
    by_cases hlt : k < 16
    · have i15 : (k : Int) ≤ 15 := by omega
      have WD := fun V => l1Word_any (k : Int) V
      have hcT : Hid (candT k s.data.toList = if kind k = 1 ∧ (⟨(word k).toArray⟩ : ByteArray).size < s.size then loosU (innerL (s.data.toList.drop ((⟨(word k).toArray⟩ : ByteArray).size + 1))) else []) := by show _ = _; unfold candT; rw [HL.out]; rfl
      have hcN : Hid (candN k s.data.toList = if ¬ kind k = 1 ∧ 0 < kind k ∧ (⟨(word k).toArray⟩ : ByteArray).size < s.size then numL 0 ((s.data.toList.drop ((⟨(word k).toArray⟩ : ByteArray).size + 1)).take 6) else 0) := by show _ = _; unfold candN; rw [HL.out]; rfl
      have hw6 : (⟨(word k).toArray⟩ : ByteArray).size ≤ 6 := word_short k
      have hkd := kind_ge k
      generalize (⟨(word (k : Int)).toArray⟩ : ByteArray) = wd at WD hcT hcN hw6
      generalize kind (k : Int) = kd at WD hcT hcN hkd
      have HCY := hide (fun h1 h2 => cand_yes (s := s.data.toList) (k := k) h1 h2)
      have HCN := hide (fun h => cand_no (s := s.data.toList) (k := k) h)
      have htl := candT_len k s.data.toList
      rw [HL.out] at htl
      generalize candT (k : Int) s.data.toList = ct at hcT HCY HCN htl
      generalize candN (k : Int) s.data.toList = cn at hcN HCY HCN
      have CX := hide (CI.new wr (.int .i64 (k : Int)) (.string ⟨#[]⟩) (.int .i64 0))
      have BX := hide (HB.out.alloc (Nat.le_of_lt hsz) (.cells #[.int .i64 (k : Int), .string ⟨#[]⟩, .int .i64 0] 54))
      have hcase : (¬ 0 < kd ∨ (0 < kd ∧ ¬ (wd.size : Int) < s.size)) ∨ (kd = 1 ∧ (wd.size : Int) < s.size) ∨ (0 < kd ∧ (kd == 1) = false ∧ (wd.size : Int) < s.size) := by
        by_cases h1 : 0 < kd
        · by_cases h2 : (wd.size : Int) < s.size
          · by_cases h3 : kd = 1
            · exact .inr (.inl ⟨h3, h2⟩)
            · exact .inr (.inr ⟨h1, by simpa using h3, h2⟩)
          · exact .inl (.inr ⟨h1, h2⟩)
        · exact .inl (.inl h1)
      rcases hcase with hc | ⟨rfl, hc⟩ | ⟨hc1, hc2, hc3⟩
      · have e1 : ct = [] := by rw [hcT.out, if_neg (by omega)]
        have e2 : cn = 0 := by rw [hcN.out, if_neg (by omega)]
        subst e1 e2
        rcases hc with hc | ⟨hc, hd⟩
        all_goals
          go_wp2_with (go_at_call 49; go_fit (WD _); rintro e w' ⟨rfl, hw'⟩; rw [hw']; clear hw')
          have I4 := CX
          have R4 := hide (HC.out.below ((Below.refl wr.heap.size wr).alloc (Nat.le_refl _) (.cells #[.int .i64 (k : Int), .string ⟨#[]⟩, .int .i64 0] 54)) hsz)
          have B4 := BX
          clear CX BX
          generalize wr.alloc (.cells #[.int .i64 (k : Int), .string ⟨#[]⟩, .int .i64 0] 54) = W4 at I4 R4 B4 ⊢
          have hX4 : wr.heap.size < W4.heap.size := I4.out.lt
          have OK : ∀ V, Calls Tryz.prog 50 #[.agg #[.int .i64 (k : Int), .string ⟨([] : List UInt8).toArray⟩, .int .i64 (0 : Int)]] V fun e w' => e = .returned (.bool (insOk (k : Int) ([] : List UInt8).length (0 : Int))) ∧ Below V.heap.size V w' := fun V => l1InsOk_any (k : Int) ⟨([] : List UInt8).toArray⟩ (0 : Int) V (by unfold maxLen; show ([] : List UInt8).length ≤ _; simp)
          have LN : insOk (k : Int) ([] : List UInt8).length (0 : Int) = true → ∀ V, Calls Tryz.prog 51 #[.agg #[.int .i64 (k : Int), .string ⟨([] : List UInt8).toArray⟩, .int .i64 (0 : Int)]] V fun e w' => e = .returned (.string ⟨(lineB (k : Int) ([] : List UInt8) (0 : Int)).toArray⟩) ∧ Below V.heap.size V w' := fun h V => l1Line_any (k : Int) ⟨([] : List UInt8).toArray⟩ (0 : Int) V h
          have HNX : Hid (¬ (insOk (k : Int) ([] : List UInt8).length (0 : Int) = true ∧ lineB (k : Int) ([] : List UInt8) (0 : Int) = s.data.toList) → ∀ j : Int, 1 ≤ j → j < ((k + 1 : Nat) : Int) → ∀ t m, ¬ IsLine s.data.toList j t m) := fun h j h1 h2 t m => by
            by_cases e : j = k
            · rw [e]; exact HCN.out h t m
            · exact HNO.out j h1 (by omega) t m
          clear HCN HNO
          refine (OK _).mono ?_
          rintro e w2 ⟨rfl, hB2⟩
          have B2 := hide (B4.out.trans (hB2.mono (by omega)))
          have R2 := hide (R4.out.below hB2 (by omega))
          have I2 := hide (I4.out.below hB2 hX4)
          have z2 : w.heap.size < w2.heap.size := R2.out.lt
          have z2' : wr.heap.size < w2.heap.size := I2.out.lt
          clear hB2 OK I4 R4 B4
          cases hok : insOk (k : Int) ([] : List UInt8).length (0 : Int) with
          | false =>
            have HX := hide (HNX.out (fun h => by rw [hok] at h; exact absurd h.1 (by simp)))
            clear HNX HCY LN
            go_wp2
            exact ⟨⟨k + 1, by omega, by omega, by go_num, HX.out, R2.out, B2.out⟩, by simp [intOf]; omega⟩
          | true =>
            have LN := LN hok
            have HCY := hide (HCY.out hok)
            have HNX := hide (fun (h : ¬ lineB (k : Int) ([] : List UInt8) (0 : Int) = s.data.toList) => HNX.out (fun h' => h h'.2))
            generalize lineB (k : Int) ([] : List UInt8) (0 : Int) = ln at LN HCY HNX
            have c0 := I2.out.c0
            have c1 := I2.out.c1
            have c2 := I2.out.c2
            go_wp2_with fail
            refine (LN _).mono ?_
            rintro e w3 ⟨rfl, hB3⟩
            clear c0 c1 c2
            have B3 := hide (B2.out.trans (hB3.mono (by omega)))
            have R3 := hide (R2.out.below hB3 z2)
            have I3 := hide (I2.out.below hB3 z2')
            have z3 : w.heap.size < w3.heap.size := R3.out.lt
            clear hB3 LN B2 R2 I2
            cases heq : (ln == s.toList) with
            | false =>
              have HX := hide (HNX.out (fun h => by rw [h, ByteArray.toList_eq] at heq; simp at heq))
              go_wp2
              exact ⟨⟨k + 1, by omega, by omega, by go_num, HX.out, R3.out, B3.out⟩, by simp [intOf]; omega⟩
            | true =>
              have HX := hide (HCY.out (by have := eq_of_beq heq; rw [ByteArray.toList_eq] at this; exact this))
              have c0 := I3.out.c0
              have c1 := I3.out.c1
              have c2 := I3.out.c2
              have d0 := R3.out.c0
              have d1 := R3.out.c1
              have d2 := R3.out.c2
              have f0 := R3.out.fz 0
              have f1 := R3.out.fz 1
              have f2 := R3.out.fz 2
              go_wp2
              try simp only [Exit.inBlock, Exit.then]
              refine bodyPost_ret (res_ins rfl _ _ w.heap.size _ _ _ rfl (R3.out.all _ _ _)) rfl ?_
              exact ⟨by rw [HX.out]; rfl, ((B3.out.setCell (p := ⟨w.heap.size, 0, none⟩) (Nat.le_refl _) _).setCell (p := ⟨w.heap.size, 1, none⟩) (Nat.le_refl _) _).setCell (p := ⟨w.heap.size, 2, none⟩) (Nat.le_refl _) _⟩
      · have e1 : ct = loosU (innerL (s.data.toList.drop (wd.size + 1))) := by rw [hcT.out, if_pos ⟨rfl, by omega⟩]
        have e2 : cn = 0 := by rw [hcN.out, if_neg (fun h => h.1 rfl)]
        subst e2
        have q1 : (0 : Int) ≤ (wd.size : Int) + 1 := by omega
        have q2 : (wd.size : Int) + 1 ≤ s.size := by omega
        have q3 : (s.size : Int) ≤ 9223372036854775807 := by omega
        have UQ : ∀ V, Calls Tryz.prog 23 #[.string (s.extract (wd.size + 1) s.size)] V fun e w' => e = .returned (.string ⟨ct.toArray⟩) ∧ Below V.heap.size V w' := fun V => by
          have h := l1Unquote_any (s.extract (wd.size + 1) s.size) V (by rw [ByteArray.size_extract]; omega)
          rw [show (s.extract (wd.size + 1) s.size).data.toList = s.data.toList.drop (wd.size + 1) by rw [ext_end], ← e1] at h
          exact h
        clear e1
        have RX := hide (HC.out.below ((Below.refl wr.heap.size wr).alloc (Nat.le_refl _) (.cells #[.int .i64 (k : Int), .string ⟨#[]⟩, .int .i64 0] 54)) hsz)
        have zX : wr.heap.size < (wr.alloc (.cells #[.int .i64 (k : Int), .string ⟨#[]⟩, .int .i64 0] 54)).heap.size := CX.out.lt
        go_wp2_with (first
          | (go_at_call 49; go_fit (WD _); rintro e w' ⟨rfl, hw'⟩; rw [hw']; clear hw')
          | (go_at_call 23; go_fit (UQ _); rintro e w1 ⟨rfl, hB1⟩; have I1 := hide (CX.out.below hB1 zX); have R1 := hide (RX.out.below hB1 (by omega)); have B1 := hide (BX.out.trans (hB1.mono (by omega))); have c0 := I1.out.c0; have c1 := I1.out.c1; have c2 := I1.out.c2; have f1 := I1.out.fz 1; clear hB1))
        have I4 := hide (I1.out.set1 (.string ⟨ct.toArray⟩))
        have R4 := hide (R1.out.other ⟨wr.heap.size, 1, none⟩ (by show wr.heap.size ≠ w.heap.size; omega) (.string ⟨ct.toArray⟩))
        have B4 := hide (B1.out.setCell (p := ⟨wr.heap.size, 1, none⟩) (Nat.le_of_lt hsz) (.string ⟨ct.toArray⟩))
        clear c0 c1 c2 f1 I1 R1 B1 CX BX RX UQ
        generalize w1.setCell ⟨wr.heap.size, 1, none⟩ (.string ⟨ct.toArray⟩) = W4 at I4 R4 B4 ⊢
        have hX4 : wr.heap.size < W4.heap.size := I4.out.lt
        have OK : ∀ V, Calls Tryz.prog 50 #[.agg #[.int .i64 (k : Int), .string ⟨ct.toArray⟩, .int .i64 (0 : Int)]] V fun e w' => e = .returned (.bool (insOk (k : Int) ct.length (0 : Int))) ∧ Below V.heap.size V w' := fun V => l1InsOk_any (k : Int) ⟨ct.toArray⟩ (0 : Int) V (by unfold maxLen; show ct.length ≤ _; omega)
        have LN : insOk (k : Int) ct.length (0 : Int) = true → ∀ V, Calls Tryz.prog 51 #[.agg #[.int .i64 (k : Int), .string ⟨ct.toArray⟩, .int .i64 (0 : Int)]] V fun e w' => e = .returned (.string ⟨(lineB (k : Int) ct (0 : Int)).toArray⟩) ∧ Below V.heap.size V w' := fun h V => l1Line_any (k : Int) ⟨ct.toArray⟩ (0 : Int) V h
        have HNX : Hid (¬ (insOk (k : Int) ct.length (0 : Int) = true ∧ lineB (k : Int) ct (0 : Int) = s.data.toList) → ∀ j : Int, 1 ≤ j → j < ((k + 1 : Nat) : Int) → ∀ t m, ¬ IsLine s.data.toList j t m) := fun h j h1 h2 t m => by
          by_cases e : j = k
          · rw [e]; exact HCN.out h t m
          · exact HNO.out j h1 (by omega) t m
        clear HCN HNO
        refine (OK _).mono ?_
        rintro e w2 ⟨rfl, hB2⟩
        have B2 := hide (B4.out.trans (hB2.mono (by omega)))
        have R2 := hide (R4.out.below hB2 (by omega))
        have I2 := hide (I4.out.below hB2 hX4)
        have z2 : w.heap.size < w2.heap.size := R2.out.lt
        have z2' : wr.heap.size < w2.heap.size := I2.out.lt
        clear hB2 OK I4 R4 B4
        cases hok : insOk (k : Int) ct.length (0 : Int) with
        | false =>
          have HX := hide (HNX.out (fun h => by rw [hok] at h; exact absurd h.1 (by simp)))
          clear HNX HCY LN
          go_wp2
          exact ⟨⟨k + 1, by omega, by omega, by go_num, HX.out, R2.out, B2.out⟩, by simp [intOf]; omega⟩
        | true =>
          have LN := LN hok
          have HCY := hide (HCY.out hok)
          have HNX := hide (fun (h : ¬ lineB (k : Int) ct (0 : Int) = s.data.toList) => HNX.out (fun h' => h h'.2))
          generalize lineB (k : Int) ct (0 : Int) = ln at LN HCY HNX
          have c0 := I2.out.c0
          have c1 := I2.out.c1
          have c2 := I2.out.c2
          go_wp2_with fail
          refine (LN _).mono ?_
          rintro e w3 ⟨rfl, hB3⟩
          clear c0 c1 c2
          have B3 := hide (B2.out.trans (hB3.mono (by omega)))
          have R3 := hide (R2.out.below hB3 z2)
          have I3 := hide (I2.out.below hB3 z2')
          have z3 : w.heap.size < w3.heap.size := R3.out.lt
          clear hB3 LN B2 R2 I2
          cases heq : (ln == s.toList) with
          | false =>
            have HX := hide (HNX.out (fun h => by rw [h, ByteArray.toList_eq] at heq; simp at heq))
            go_wp2
            exact ⟨⟨k + 1, by omega, by omega, by go_num, HX.out, R3.out, B3.out⟩, by simp [intOf]; omega⟩
          | true =>
            have HX := hide (HCY.out (by have := eq_of_beq heq; rw [ByteArray.toList_eq] at this; exact this))
            have c0 := I3.out.c0
            have c1 := I3.out.c1
            have c2 := I3.out.c2
            have d0 := R3.out.c0
            have d1 := R3.out.c1
            have d2 := R3.out.c2
            have f0 := R3.out.fz 0
            have f1 := R3.out.fz 1
            have f2 := R3.out.fz 2
            go_wp2
            try simp only [Exit.inBlock, Exit.then]
            refine bodyPost_ret (res_ins rfl _ _ w.heap.size _ _ _ rfl (R3.out.all _ _ _)) rfl ?_
            exact ⟨by rw [HX.out]; rfl, ((B3.out.setCell (p := ⟨w.heap.size, 0, none⟩) (Nat.le_refl _) _).setCell (p := ⟨w.heap.size, 1, none⟩) (Nat.le_refl _) _).setCell (p := ⟨w.heap.size, 2, none⟩) (Nat.le_refl _) _⟩
      · have e1 : ct = [] := by rw [hcT.out, if_neg (fun h => by rw [h.1] at hc2; simp at hc2)]
        have e2 : cn = numL 0 ((s.data.toList.drop (wd.size + 1)).take 6) := by rw [hcN.out, if_pos ⟨fun h => by rw [h] at hc2; simp at hc2, hc1, by omega⟩]
        subst e1
        have q1 : (0 : Int) ≤ (wd.size : Int) + 1 := by omega
        have q2 : (wd.size : Int) + 1 ≤ s.size := by omega
        have q3 : (s.size : Int) ≤ 9223372036854775807 := by omega
        have UQ : ∀ V, Calls Tryz.prog 24 #[.string (s.extract (wd.size + 1) s.size)] V fun e w' => e = .returned (.int .i64 cn) ∧ Below V.heap.size V w' := fun V => by
          have h := l1Number_any (s.extract (wd.size + 1) s.size) V (by rw [ByteArray.size_extract]; omega)
          rw [show (s.extract (wd.size + 1) s.size).data.toList = s.data.toList.drop (wd.size + 1) by rw [ext_end], ← e2] at h
          refine h.mono ?_
          rintro e w' ⟨rfl, rfl⟩
          exact ⟨rfl, Below.refl _ _⟩
        clear e2
        have RX := hide (HC.out.below ((Below.refl wr.heap.size wr).alloc (Nat.le_refl _) (.cells #[.int .i64 (k : Int), .string ⟨#[]⟩, .int .i64 0] 54)) hsz)
        have zX : wr.heap.size < (wr.alloc (.cells #[.int .i64 (k : Int), .string ⟨#[]⟩, .int .i64 0] 54)).heap.size := CX.out.lt
        go_wp2_with (first
          | (go_at_call 49; go_fit (WD _); rintro e w' ⟨rfl, hw'⟩; rw [hw']; clear hw')
          | (go_at_call 24; go_fit (UQ _); rintro e w1 ⟨rfl, hB1⟩; have I1 := hide (CX.out.below hB1 zX); have R1 := hide (RX.out.below hB1 (by omega)); have B1 := hide (BX.out.trans (hB1.mono (by omega))); have c0 := I1.out.c0; have c1 := I1.out.c1; have c2 := I1.out.c2; have f1 := I1.out.fz 2; clear hB1))
        have I4 := hide (I1.out.set2 (.int .i64 cn))
        have R4 := hide (R1.out.other ⟨wr.heap.size, 2, none⟩ (by show wr.heap.size ≠ w.heap.size; omega) (.int .i64 cn))
        have B4 := hide (B1.out.setCell (p := ⟨wr.heap.size, 2, none⟩) (Nat.le_of_lt hsz) (.int .i64 cn))
        clear c0 c1 c2 f1 I1 R1 B1 CX BX RX UQ
        generalize w1.setCell ⟨wr.heap.size, 2, none⟩ (.int .i64 cn) = W4 at I4 R4 B4 ⊢
        have hX4 : wr.heap.size < W4.heap.size := I4.out.lt
        have OK : ∀ V, Calls Tryz.prog 50 #[.agg #[.int .i64 (k : Int), .string ⟨([] : List UInt8).toArray⟩, .int .i64 cn]] V fun e w' => e = .returned (.bool (insOk (k : Int) ([] : List UInt8).length cn)) ∧ Below V.heap.size V w' := fun V => l1InsOk_any (k : Int) ⟨([] : List UInt8).toArray⟩ cn V (by unfold maxLen; show ([] : List UInt8).length ≤ _; simp)
        have LN : insOk (k : Int) ([] : List UInt8).length cn = true → ∀ V, Calls Tryz.prog 51 #[.agg #[.int .i64 (k : Int), .string ⟨([] : List UInt8).toArray⟩, .int .i64 cn]] V fun e w' => e = .returned (.string ⟨(lineB (k : Int) ([] : List UInt8) cn).toArray⟩) ∧ Below V.heap.size V w' := fun h V => l1Line_any (k : Int) ⟨([] : List UInt8).toArray⟩ cn V h
        have HNX : Hid (¬ (insOk (k : Int) ([] : List UInt8).length cn = true ∧ lineB (k : Int) ([] : List UInt8) cn = s.data.toList) → ∀ j : Int, 1 ≤ j → j < ((k + 1 : Nat) : Int) → ∀ t m, ¬ IsLine s.data.toList j t m) := fun h j h1 h2 t m => by
          by_cases e : j = k
          · rw [e]; exact HCN.out h t m
          · exact HNO.out j h1 (by omega) t m
        clear HCN HNO
        refine (OK _).mono ?_
        rintro e w2 ⟨rfl, hB2⟩
        have B2 := hide (B4.out.trans (hB2.mono (by omega)))
        have R2 := hide (R4.out.below hB2 (by omega))
        have I2 := hide (I4.out.below hB2 hX4)
        have z2 : w.heap.size < w2.heap.size := R2.out.lt
        have z2' : wr.heap.size < w2.heap.size := I2.out.lt
        clear hB2 OK I4 R4 B4
        cases hok : insOk (k : Int) ([] : List UInt8).length cn with
        | false =>
          have HX := hide (HNX.out (fun h => by rw [hok] at h; exact absurd h.1 (by simp)))
          clear HNX HCY LN
          go_wp2
          exact ⟨⟨k + 1, by omega, by omega, by go_num, HX.out, R2.out, B2.out⟩, by simp [intOf]; omega⟩
        | true =>
          have LN := LN hok
          have HCY := hide (HCY.out hok)
          have HNX := hide (fun (h : ¬ lineB (k : Int) ([] : List UInt8) cn = s.data.toList) => HNX.out (fun h' => h h'.2))
          generalize lineB (k : Int) ([] : List UInt8) cn = ln at LN HCY HNX
          have c0 := I2.out.c0
          have c1 := I2.out.c1
          have c2 := I2.out.c2
          go_wp2_with fail
          refine (LN _).mono ?_
          rintro e w3 ⟨rfl, hB3⟩
          clear c0 c1 c2
          have B3 := hide (B2.out.trans (hB3.mono (by omega)))
          have R3 := hide (R2.out.below hB3 z2)
          have I3 := hide (I2.out.below hB3 z2')
          have z3 : w.heap.size < w3.heap.size := R3.out.lt
          clear hB3 LN B2 R2 I2
          cases heq : (ln == s.toList) with
          | false =>
            have HX := hide (HNX.out (fun h => by rw [h, ByteArray.toList_eq] at heq; simp at heq))
            go_wp2
            exact ⟨⟨k + 1, by omega, by omega, by go_num, HX.out, R3.out, B3.out⟩, by simp [intOf]; omega⟩
          | true =>
            have HX := hide (HCY.out (by have := eq_of_beq heq; rw [ByteArray.toList_eq] at this; exact this))
            have c0 := I3.out.c0
            have c1 := I3.out.c1
            have c2 := I3.out.c2
            have d0 := R3.out.c0
            have d1 := R3.out.c1
            have d2 := R3.out.c2
            have f0 := R3.out.fz 0
            have f1 := R3.out.fz 1
            have f2 := R3.out.fz 2
            go_wp2
            try simp only [Exit.inBlock, Exit.then]
            refine bodyPost_ret (res_ins rfl _ _ w.heap.size _ _ _ rfl (R3.out.all _ _ _)) rfl ?_
            exact ⟨by rw [HX.out]; rfl, ((B3.out.setCell (p := ⟨w.heap.size, 0, none⟩) (Nat.le_refl _) _).setCell (p := ⟨w.heap.size, 1, none⟩) (Nat.le_refl _) _).setCell (p := ⟨w.heap.size, 2, none⟩) (Nat.le_refl _) _⟩
    · obtain rfl : k = 16 := by omega
      have HR : Hid (readL s.data.toList = none) := cand_end fun j h1 h2 => HNO.out j h1 (by omega)
      have c0 := HC.out.c0
      have c1 := HC.out.c1
      have c2 := HC.out.c2
      have f0 := HC.out.fz 0
      have f1 := HC.out.fz 1
      have f2 := HC.out.fz 2
      go_wp2
      try simp only [Exit.inBlock, Exit.then]
      refine bodyPost_ret (res_ins rfl _ _ w.heap.size _ _ _ rfl (HC.out.all _ _ _)) rfl ?_
      exact ⟨by rw [HR.out]; rfl, ((HB.out.setCell (p := ⟨w.heap.size, 0, none⟩) (Nat.le_refl _) _).setCell (p := ⟨w.heap.size, 1, none⟩) (Nat.le_refl _) _).setCell (p := ⟨w.heap.size, 2, none⟩) (Nat.le_refl _) _⟩

end Go.Proofs.YtkbhcajiebeepaaGreatDoor.Vp
