/-
  Put together of: RaForm, RaImpl.
-/
import Derived.Test.YtkbhcajiebeepaaGreatDoorYO
import Derived.Test.YtkbhcajiebeepaaGreatDoorYQ
import Derived.Test.YtkbhcajiebeepaaGreatDoorZW
import Derived.Test.YtkbhcajiebeepaaGreatDoorYP

/-
  ReadAccount: all lines are read.
-/
namespace Go.Proofs.YtkbhcajiebeepaaGreatDoor.Vp
open Go.RowKit Go.Shelf Go.Proofs.YtkbhcajiebeepaaGreatDoor.Ca

attribute [local go_sem] Oper.semAt_some

theorem linesL_all : ∀ (n : Nat) (s : List UInt8), s.length ≤ n → (∀ l ∈ linesL s, (10 : UInt8) ∉ l ∧ l.length ≤ s.length) ∧ (linesL s).length ≤ s.length + 1 := by
  intro n
  induction n with
  | zero =>
    intro s hs
    obtain rfl : s = [] := List.length_eq_zero_iff.1 (by omega)
    refine ⟨fun l hl => ?_, by simp [linesL]⟩
    have : l = [] := by simpa [linesL] using hl
    rw [this]
    simp
  | succ n ih =>
    intro s hs
    rw [linesL_cut s]
    obtain ⟨h1, h2⟩ := cutC_inv 10 s
    have h3 := cutC_len 10 s
    by_cases hc : (cutC 10 s).2.2 = true
    · rw [if_pos hc]
      have h4 := cutC_rest hc
      obtain ⟨h5, h6⟩ := ih (cutC 10 s).2.1 (by omega)
      refine ⟨fun l hl => ?_, by simp only [List.length_cons]; omega⟩
      rcases List.mem_cons.1 hl with rfl | hl
      · exact ⟨h1, h3.1⟩
      · exact ⟨(h5 l hl).1, by have := (h5 l hl).2; omega⟩
    · rw [if_neg hc] at h2 ⊢
      refine ⟨fun l hl => ?_, by simp⟩
      rw [List.mem_singleton.1 hl]
      exact ⟨by rw [h2]; exact h1, Nat.le_refl _⟩
theorem seqL_mem : ∀ {ls : List (List UInt8)} {x : List UInt8 × Bool}, x ∈ seqL ls → x.1 ∈ ls
  | [], x, h => by simp [seqL] at h
  | [l], x, h => by
    by_cases hl : l = []
    · subst hl; simp [seqL] at h
    · simp [seqL, hl] at h; subst h; simp
  | l :: l' :: ls, x, h => by
    rcases List.mem_cons.1 (show x ∈ (l, true) :: seqL (l' :: ls) from h) with rfl | h
    · simp
    · exact List.mem_cons_of_mem _ (seqL_mem h)
theorem seqL_len : ∀ ls : List (List UInt8), (seqL ls).length ≤ ls.length
  | [] => Nat.le_refl _
  | [l] => by
    by_cases hl : l = []
    · subst hl; simp [seqL]
    · simp [seqL, hl]
  | l :: l' :: ls => by
    have := seqL_len (l' :: ls)
    show ((l, true) :: seqL (l' :: ls)).length ≤ _
    simp only [List.length_cons] at this ⊢
    omega
theorem trim_pc {x : List UInt8 × Bool} (h : (10 : UInt8) ∉ x.1) : Lib.trimSuffix (pcB x) [10] = x.1 := by
  obtain ⟨l, b⟩ := x
  cases b with
  | true =>
    show Lib.trimSuffix (l ++ [10]) [10] = l
    simp [Lib.trimSuffix, Lib.hasSuffix]
  | false =>
    show Lib.trimSuffix l [10] = l
    unfold Lib.trimSuffix Lib.hasSuffix
    split
    · rename_i hq
      exfalso
      refine h ?_
      show (10 : UInt8) ∈ l
      simp at hq
      exact hq.subset (by simp)
    · rfl

/-- The boxes: the two results, the reader, what the iterator has caught. -/
structure FmB (W : World) (h : Nat) (S : List UInt8) : Prop where
  size : W.heap.size = h + 4
  p : W.heap[h]? = some (.cells #[.slice none 0 0] 24 (0, 0))
  q : W.heap[h + 1]? = some (.cells #[.nilIface] 35 (0, 0))
  r : RdB W (h + 2) (.slice none 0 0)
  s : SBx W (h + 3) S
theorem fm_boxes (w : World) (s : ByteArray) : FmB ((((w.alloc (.cells #[.slice none 0 0] 24)).alloc (.cells #[.nilIface] 35)).alloc (.cells #[.slice none 0 0] 64)).alloc (.cells #[.string s] 9)) w.heap.size s.data.toList := by
  have n1 : (w.alloc (.cells #[.slice none 0 0] 24)).heap.size = w.heap.size + 1 := by simp
  have n2 : ((w.alloc (.cells #[.slice none 0 0] 24)).alloc (.cells #[.nilIface] 35)).heap.size = w.heap.size + 2 := by simp
  have n3 : (((w.alloc (.cells #[.slice none 0 0] 24)).alloc (.cells #[.nilIface] 35)).alloc (.cells #[.slice none 0 0] 64)).heap.size = w.heap.size + 3 := by simp
  have h0 := heap_alloc_new w (.cells #[.slice none 0 0] 24)
  have h1 := heap_alloc_new (w.alloc (.cells #[.slice none 0 0] 24)) (.cells #[.nilIface] 35)
  have h2 := heap_alloc_new ((w.alloc (.cells #[.slice none 0 0] 24)).alloc (.cells #[.nilIface] 35)) (.cells #[.slice none 0 0] 64)
  have h3 := heap_alloc_new (((w.alloc (.cells #[.slice none 0 0] 24)).alloc (.cells #[.nilIface] 35)).alloc (.cells #[.slice none 0 0] 64)) (.cells #[.string s] 9)
  rw [n1] at h1
  rw [n2] at h2
  rw [n3] at h3
  refine ⟨by simp, ?_, ?_, ?_, h3⟩
  · rw [heap_alloc_old _ _ (by rw [n3]; omega), heap_alloc_old _ _ (by rw [n2]; omega), heap_alloc_old _ _ (by rw [n1]; omega)]
    exact h0
  · rw [heap_alloc_old _ _ (by rw [n3]; omega), heap_alloc_old _ _ (by rw [n2]; omega)]
    exact h1
  · show _ = _
    rw [heap_alloc_old _ _ (by rw [n3]; omega)]
    exact h2
theorem RSt.itx {w w' : World} {b base bx n : Nat} {v : Value} {R : List DR} (h : RSt w b base v R) (hi : Itx bx n w w') (hb : b < n) (hx : bx < base) (hbx : b ≠ bx) : RSt w' b base v R := by
  have hlt : ∀ k, Of3 w k → k < w.heap.size ∧ IsCells w k := fun k h3 => by
    rcases h3 with ⟨c, z, h3⟩ | ⟨c, z, h3⟩ | ⟨c, z, h3⟩ <;> exact ⟨(Array.getElem?_eq_some_iff.1 h3).1, _, _, _, h3⟩
  refine ⟨(hi.keep b h.box.lt hbx (.inl hb)).trans h.box, h.row.blk fun k hk hbk => ?_, h.lt, Nat.le_trans h.le hi.size⟩
  obtain ⟨h1, h2⟩ := hlt k hk
  exact hi.keep k h1 (by omega) (.inr h2)
theorem itx_below {bx n m : Nat} {w w' : World} (h : Itx bx n w w') (hm : m ≤ n) (hx : m ≤ bx) (hz : m ≤ w.heap.size) : Below m w w' := ⟨h.os, h.tape, h.output, h.size, fun k hk => h.keep k (by omega) (by omega) (.inl (by omega))⟩

theorem one_box {w : World} {k : Nat} {v : Value} {t : TypeId} (h : w.heap[k]? = some (.cells #[v] t (0, 0))) : w.cell? ⟨k, 0, none⟩ = some v ∧ w.frozen? ⟨k, 0, none⟩ = false := ⟨by rw [Lib.cell_of_heap h]; rfl, Lib.frozen_of_heap h 0⟩
theorem res_boxes {w : World} {h : Nat} {a b : Value} {t u : TypeId} (h1 : w.heap[h]? = some (.cells #[a] t (0, 0))) (h2 : w.heap[h + 1]? = some (.cells #[b] u (0, 0))) (v v' : Value) :
    ((w.setCell ⟨h, 0, none⟩ v).setCell ⟨h + 1, 0, none⟩ v').heap[h]? = some (.cells #[v] t (0, 0)) ∧ ((w.setCell ⟨h, 0, none⟩ v).setCell ⟨h + 1, 0, none⟩ v').heap[h + 1]? = some (.cells #[v'] u (0, 0)) := by
  refine ⟨?_, ?_⟩
  · rw [Below.heap_setCell _ _ _ _ (by show h ≠ h + 1; omega)]
    simp [World.setCell, Array.getElem?_modify, h1]
  · have e : (w.setCell ⟨h, 0, none⟩ v).heap[h + 1]? = some (.cells #[b] u (0, 0)) := (Below.heap_setCell _ _ _ _ (by show h + 1 ≠ h; omega)).trans h2
    generalize w.setCell ⟨h, 0, none⟩ v = V at e ⊢
    simp [World.setCell, Array.getElem?_modify, e]
end Go.Proofs.YtkbhcajiebeepaaGreatDoor.Vp

namespace Go.Proofs.YtkbhcajiebeepaaGreatDoor.Ca
open Go.RowKit
theorem Bdx.set {bx : Nat} {w w' : World} (h : Bdx bx w w') {p : Addr} (hp : p.block ≠ bx) (hc : IsCells w p.block) (v : Value) : Bdx bx w (w'.setCell p v) :=
  ⟨by simpa [World.setCell] using h.size, (Below.heap_setCell _ _ _ _ (fun e => hp e.symm)).trans h.box, fun k hk hn => (Below.heap_setCell _ _ _ _ (fun e => hn (by rw [show k = p.block from e]; exact hc))).trans (h.keep k hk hn)⟩
end Go.Proofs.YtkbhcajiebeepaaGreatDoor.Ca

namespace Go.Proofs.YtkbhcajiebeepaaGreatDoor.Vp
open Go.RowKit Go.Shelf Go.Proofs.YtkbhcajiebeepaaGreatDoor.Ca
attribute [local go_sem] Oper.semAt_some
theorem KR.bdx2 {b base bx : Nat} {w w' : World} (h : KR b base w w') (hx : bx ≠ b) (hl : bx < w.heap.size) (hs : bx < base) (hb : IsCells w b) : Bdx bx w w' :=
  ⟨h.size, h.keep bx hl hx (.inl hs), fun k hk hc => h.keep k hk (fun e => hc (e ▸ hb)) (.inr fun h3 => hc (by
    rcases h3 with ⟨c, z, h3⟩ | ⟨c, z, h3⟩ | ⟨c, z, h3⟩ <;> exact ⟨_, _, _, h3⟩))⟩
set_option maxRecDepth 100000 in
set_option maxHeartbeats 4000000 in
theorem readForm_any (s : ByteArray) (w : World) (hs : s.size ≤ 300000) (hL : Lay w) (hE : EV w 1) :
    Calls Tryz.prog 14 #[.string s] w fun e w' => Below w.heap.size w w' ∧ ((∃ a c R, e = .returned (.tuple #[.agg #[.slice a R.length c], .nilIface]) ∧ DRow w' (w.heap.size + 4) (.slice a R.length c) R ∧ SzD 300001 (R.map (·.1)) ∧ ∀ E, GoodAll [] (tL (linesL s.data.toList)) E → R.map (·.1) = E) ∨ ((∀ E, ¬ GoodAll [] (tL (linesL s.data.toList)) E) ∧ ∃ ty p, e = .returned (.tuple #[.agg #[.slice none 0 0], .iface ty p]))) := by
  refine (callsIn_wide (n := 3)).1 ?_
  have L0 := hide hL
  have E0 := hide hE
  have A00 := ((((Below.refl w.heap.size w).alloc (Nat.le_refl _) (.cells #[.slice none 0 0] 24)).alloc (by simp) (.cells #[.nilIface] 35)).alloc (by simp; omega) (.cells #[.slice none 0 0] 64)).alloc (by simp; omega) (.cells #[.string s] 9)
  have A0 := hide A00
  clear A00
  have O0 := hide (fm_boxes w s)
  obtain ⟨S, hS⟩ : ∃ S, S = s.data.toList := ⟨_, rfl⟩
  have hSl : S.length ≤ 300000 := by rw [hS, size_toL]; exact hs
  rw [← hS] at O0 ⊢
  clear hS
  have LA := hide (linesL_all S.length S (Nat.le_refl _))
  obtain ⟨Q, hQ⟩ : ∃ Q, Q = seqL (linesL S) := ⟨_, rfl⟩
  have QM : Hid (∀ x ∈ Q, (10 : UInt8) ∉ x.1 ∧ x.1.length ≤ 300000) := fun x hx => by
    rw [hQ] at hx
    have := LA.out.1 _ (seqL_mem hx)
    exact ⟨this.1, by omega⟩
  have QL : Q.length ≤ 300001 := by
    have h1 := seqL_len (linesL S)
    have h2 := LA.out.2
    rw [hQ]
    omega
  have QF : Hid (Q.map (·.1) = tL (linesL S)) := by show _ = _; rw [hQ, seqL_fst]
  rw [← QF.out]
  have HQ := hide hQ
  clear hQ LA QF
  clear hL hE
  refine callsIn_of_wp_marks Tryz.func14 rfl trivial ?_ rfl
  simp only [Tryz.ntmps14, List.size_toArray, List.length_cons, List.length_nil, Nat.reduceAdd, Nat.reduceSub, Array.replicate_succ, Array.replicate_zero, List.push_toArray, List.append_toArray, List.nil_append, List.cons_append]
  gi_wp2_with (refine ⟨trivial, ?_⟩; gi_at_call 29; refine (lines_in _ _ _).mono ?_; rintro e w' ⟨rfl, rfl⟩)
  generalize (((w.alloc (.cells #[.slice none 0 0] 24)).alloc (.cells #[.nilIface] 35)).alloc (.cells #[.slice none 0 0] 64)).alloc (.cells #[.string s] 9) = W at A0 O0 ⊢
  have hsz := O0.out.size
  have SQ := hide (lines_seq S (by omega) (w.heap.size + 3) (3 - 1) W O0.out.s)
  rw [← HQ.out] at SQ
  refine wpIn_rangeFunc_X (bx := w.heap.size + 3) (F := Fence.wide) rfl (by omega) (gf := 55) (lb := #[.pointer (some ⟨w.heap.size + 3, 0, none⟩)]) rfl trivial (enters_of Tryz.func55 (by kernel_rfl) rfl) (by omega) SQ.out (Below.refl _ _) (fun _ => rfl)
    (fun pre Wx => ∃ a c R, Hid (RSt Wx (w.heap.size + 2) (w.heap.size + 4) (.slice a R.length c) R) ∧ Hid (SzD pre.length (R.map (·.1))) ∧ Hid (∀ t E, pre ++ t = Q → GoodAll [] (Q.map (·.1)) E → GoodAll (R.map (·.1)) (t.map (·.1)) E) ∧ Hid (Wx.heap[w.heap.size]? = some (.cells #[.slice none 0 0] 24 (0, 0)) ∧ Wx.heap[w.heap.size + 1]? = some (.cells #[.nilIface] 35 (0, 0))) ∧ Hid (Below w.heap.size w Wx))
    (fun c pre Wx => c = .ret ∧ ∃ ty p, Hid (Wx.heap[w.heap.size]? = some (.cells #[.slice none 0 0] 24 (0, 0)) ∧ Wx.heap[w.heap.size + 1]? = some (.cells #[.iface ty p] 35 (0, 0))) ∧ Hid (∀ E, ¬ GoodAll [] (Q.map (·.1)) E) ∧ Hid (Below w.heap.size w Wx))
    (fun pre A C h hB => by
      obtain ⟨a, c, R, h1, h2, h3, h4, h5⟩ := h
      have l1 := (Array.getElem?_eq_some_iff.1 h4.out.1).1
      have l2 := (Array.getElem?_eq_some_iff.1 h4.out.2).1
      exact ⟨a, c, R, h1.out.itx hB (by omega) (by omega) (by omega), h2, h3, ⟨(hB.keep _ l1 (by omega) (.inl (by omega))).trans h4.out.1, (hB.keep _ l2 (by omega) (.inl (by omega))).trans h4.out.2⟩, h5.out.trans (itx_below hB (by omega) (by omega) h5.out.size)⟩)
    (fun c pre A C h hB => by
      obtain ⟨h0, ty, p, h1, h2, h3⟩ := h
      have l1 := (Array.getElem?_eq_some_iff.1 h1.out.1).1
      have l2 := (Array.getElem?_eq_some_iff.1 h1.out.2).1
      exact ⟨h0, ty, p, ⟨(hB.keep _ l1 (by omega) (.inl (by omega))).trans h1.out.1, (hB.keep _ l2 (by omega) (.inl (by omega))).trans h1.out.2⟩, h2, h3.out.trans (itx_below hB (by omega) (by omega) h3.out.size)⟩)
    ⟨none, 0, [], ⟨O0.out.r, dRow_nil _ _, by omega, by omega⟩, SzD.nil _, fun t E ht hE => by rw [List.nil_append] at ht; rw [ht]; exact hE, ⟨O0.out.p, O0.out.q⟩, A0.out⟩
    (fun x => { tmps := #[.string s, undef, .pointer (some ⟨w.heap.size, 0, none⟩), .pointer (some ⟨w.heap.size + 1, 0, none⟩), .pointer (some ⟨w.heap.size + 1 + 1, 0, none⟩), .string ⟨(pcB x).toArray⟩, undef, .string s, .func (.func 55) #[] #[.pointer (some ⟨w.heap.size + 3, 0, none⟩)], .string ⟨(pcB x).toArray⟩, undef, undef, undef, undef, undef, undef, undef, undef, undef], defers := [] }) ?assign ?body ?done ?stop
  case assign =>
    intro l x W K hK
    gi_wp2
    exact hK
  case body =>
    rintro l pre x W1 hpx ⟨a, c, R, hR, hZ, hG, hP, HB⟩ hz
    have hpx : pre ++ [x] <+: Q := hpx
    have hxm := QM.out x (hpx.subset (by simp))
    have hpl := hpx.length_le
    rw [List.length_append, List.length_singleton] at hpl
    have HPX := hide hpx
    have hpb : (pcB x).length ≤ 300001 := by
      unfold pcB
      split
      · rw [List.length_append, List.length_singleton]; omega
      · omega
    have TS : Hid (∀ V, CallsIn Fence.wide 0 Tryz.prog 31 #[.string ⟨(pcB x).toArray⟩, .string ⟨#[10]⟩] V fun e w' => e = .returned (.string ⟨x.1.toArray⟩) ∧ w' = V) := fun V => by
      have h := Tryz.strings_TrimSuffix ⟨(pcB x).toArray⟩ ⟨#[10]⟩ V (by show (pcB x).toArray.size ≤ _; rw [List.size_toArray]; omega)
      rw [show Lib.trimSuffix (⟨(pcB x).toArray⟩ : ByteArray).data.toList (⟨#[10]⟩ : ByteArray).data.toList = x.1 from trim_pc hxm.1] at h
      exact callsIn_wide.2 h
    have RL := hide (readLine_any (w.heap.size + 2) (w.heap.size + 4) pre.length a c R ⟨x.1.toArray⟩ W1 hR.out hZ.out (by omega) (by show x.1.length ≤ 300000; exact hxm.2) (L0.out.below HB.out (Nat.le_refl _)) (E0.out.below HB.out E0.out.1))
    clear hpx
    gi_wp2_with fail
    refine ⟨trivial, ((TS.out _).inRound l).mono ?_⟩
    rintro e V ⟨rfl, hV⟩
    rw [hV]
    clear hV TS
    gi_wp2_with fail
    refine ⟨trivial, ((callsIn_wide.2 RL.out).inRound l).mono ?_⟩
    rintro e W2 ⟨hK, hN⟩
    have K2 := hide hK
    have P2 : Hid (W2.heap[w.heap.size]? = some (.cells #[.slice none 0 0] 24 (0, 0)) ∧ W2.heap[w.heap.size + 1]? = some (.cells #[.nilIface] 35 (0, 0))) := ⟨(hK.keep _ (by omega) (by omega) (.inl (by omega))).trans hP.out.1, (hK.keep _ (by omega) (by omega) (.inl (by omega))).trans hP.out.2⟩
    have X2 : Hid (Bdx (w.heap.size + 3) W1 W2) := hK.bdx2 (by omega) (by omega) (by omega) ⟨_, _, _, hR.out.box⟩
    have B2 := hide (HB.out.trans (hK.below (n := w.heap.size) (by omega) (by omega) HB.out.size))
    have z2 := hK.size
    clear hK RL
    rcases hN with ⟨a', c', R', rfl, hR', hZ', hG'⟩ | ⟨hno, ty, p, rfl⟩
    · have R2 := hide hR'
      have Z2 := hide hZ'
      have G2 := hide (show ∀ G, Good (R.map (·.1)) x.1 G → R'.map (·.1) = G from hG')
      clear hR' hZ' hG'
      gi_wp2
      refine ⟨X2.out, a', c', R', R2.out, by rw [List.length_append]; exact Z2.out, fun t E ht hE => ?_, P2.out, B2.out⟩
      have h1 := hG.out (x :: t) E (by rw [← ht]; simp) hE
      obtain ⟨G, h2, h3⟩ := h1
      rw [G2.out G h2]
      exact h3
    · have hno : ∀ G, ¬ Good (R.map (·.1)) x.1 G := hno
      have NO : Hid (∀ E, ¬ GoodAll [] (Q.map (·.1)) E) := fun E hE => by
        obtain ⟨t, ht⟩ := HPX.out
        obtain ⟨G, h2, _⟩ := hG.out (x :: t) E (by rw [← ht]; simp) hE
        exact hno G h2
      clear hno
      have ca := (one_box P2.out.1).1
      have fa := (one_box P2.out.1).2
      have cb := (one_box P2.out.2).1
      have fb := (one_box P2.out.2).2
      have F3 := hide (res_boxes P2.out.1 P2.out.2 (.slice none 0 0) (.iface ty p))
      have X3 := hide ((X2.out.set (p := ⟨w.heap.size, 0, none⟩) (by show w.heap.size ≠ w.heap.size + 3; omega) ⟨_, _, _, hP.out.1⟩ (.slice none 0 0)).set (p := ⟨w.heap.size + 1, 0, none⟩) (by show w.heap.size + 1 ≠ w.heap.size + 3; omega) ⟨_, _, _, hP.out.2⟩ (.iface ty p))
      have B3 := hide ((B2.out.setCell (p := ⟨w.heap.size, 0, none⟩) (Nat.le_refl _) (.slice none 0 0)).setCell (p := ⟨w.heap.size + 1, 0, none⟩) (Nat.le_succ _) (.iface ty p))
      gi_wp2
      exact ⟨X3.out, rfl, ty, p, F3.out, NO.out, B3.out⟩
  case done =>
    rintro D0 ys W1 hD rfl ⟨a, c, R, hR, hZ, hG, hP, HB⟩ hK
    have ca := (one_box hP.out.1).1
    have fa := (one_box hP.out.1).2
    have cb := (one_box hP.out.2).1
    have fb := (one_box hP.out.2).2
    have cr := hR.out.box.c0
    have F3 := hide (res_boxes hP.out.1 hP.out.2 (.slice a R.length c) .nilIface)
    have B3 := hide ((HB.out.setCell (p := ⟨w.heap.size, 0, none⟩) (Nat.le_refl _) (.slice a R.length c)).setCell (p := ⟨w.heap.size + 1, 0, none⟩) (Nat.le_succ _) .nilIface)
    have D3 := hide ((hR.out.row.set (p := ⟨w.heap.size, 0, none⟩) (e := 0) (.inl (by show w.heap.size < w.heap.size + 4; omega)) (.slice a R.length c)).set (p := ⟨w.heap.size + 1, 0, none⟩) (e := 0) (.inl (by show w.heap.size + 1 < w.heap.size + 4; omega)) .nilIface)
    have K3 := hide ((KeepsOthers.setCell (W1.setCell ⟨w.heap.size, 0, none⟩ (.slice a R.length c)) ⟨w.heap.size + 1, 0, none⟩ .nilIface).same D0 _ ((KeepsOthers.setCell W1 ⟨w.heap.size, 0, none⟩ (.slice a R.length c)).same D0 _ hK rfl) rfl)
    have zz : W.heap.size ≤ D0 := hD
    gi_wp2
    generalize (W1.setCell ⟨w.heap.size, 0, none⟩ (.slice a R.length c)).setCell ⟨w.heap.size + 1, 0, none⟩ .nilIface = V3 at F3 B3 D3 K3 ⊢
    refine ⟨by simp, .inl ⟨_, _, rfl, run_takeDeferred K3.out, ?_⟩⟩
    have P1 := below_putObj (n := W.heap.size) V3 hD (Array.getElem?_eq_some_iff.1 K3.out).1 (.deferred none)
    have c1 := (P1.cell (p := ⟨w.heap.size, 0, none⟩) (by show w.heap.size < W.heap.size; omega)).trans (one_box F3.out.1).1
    have c2 := (P1.cell (p := ⟨w.heap.size + 1, 0, none⟩) (by show w.heap.size + 1 < W.heap.size; omega)).trans (one_box F3.out.2).1
    refine ⟨.tuple #[.agg #[.slice a R.length c], .nilIface], by simp [results, Tryz.results14, go_sem, c1, c2], B3.out.trans (P1.mono (by omega)), .inl ⟨a, c, R, rfl, ?_, hZ.out.up QL, fun E hE => hG.out [] E (by simp) hE⟩⟩
    refine D3.out.blk fun k hk _ => World.putObj_heap_other (fun e => ?_)
    subst e
    rcases hk with ⟨x, z, hk⟩ | ⟨x, z, hk⟩ | ⟨x, z, hk⟩ <;> (have := K3.out.symm.trans hk; cases this)
  case stop =>
    rintro D0 c pre W1 hD hpre ⟨rfl, ty, p, hP, HO, HB⟩ hK
    gi_wp2
    refine ⟨by simp, .inl ⟨_, _, rfl, run_takeDeferred hK, ?_⟩⟩
    have P1 := below_putObj (n := W.heap.size) W1 hD (Array.getElem?_eq_some_iff.1 hK).1 (.deferred none)
    have c1 := (P1.cell (p := ⟨w.heap.size, 0, none⟩) (by show w.heap.size < W.heap.size; omega)).trans (one_box hP.out.1).1
    have c2 := (P1.cell (p := ⟨w.heap.size + 1, 0, none⟩) (by show w.heap.size + 1 < W.heap.size; omega)).trans (one_box hP.out.2).1
    exact ⟨.tuple #[.agg #[.slice none 0 0], .iface ty p], by simp [results, Tryz.results14, go_sem, c1, c2], HB.out.trans (P1.mono (by omega)), .inr ⟨HO.out, ty, p, rfl⟩⟩

end Go.Proofs.YtkbhcajiebeepaaGreatDoor.Vp

/-
  ReadAccount, impl.
-/
namespace Go.Proofs.YtkbhcajiebeepaaGreatDoor.Vp
open Go.RowKit Go.Proofs.YtkbhcajiebeepaaGreatDoor.Ca

/-- A block that holds one account. -/
def AB (w : World) (b : Nat) (v : Value) : Prop := w.heap[b]? = some (.cells #[v] 24 (0, 0))
theorem AB.lt {w : World} {b : Nat} {v : Value} (h : AB w b v) : b < w.heap.size := (Array.getElem?_eq_some_iff.1 h).1
theorem AB.c0 {w : World} {b : Nat} {v : Value} (h : AB w b v) : w.cell? ⟨b, 0, none⟩ = some v := by rw [Lib.cell_of_heap h]; rfl
theorem AB.fz {w : World} {b : Nat} {v : Value} (h : AB w b v) (j : Nat) : w.frozen? ⟨b, j, none⟩ = false := Lib.frozen_of_heap h j
theorem AB.below {w w' : World} {b B : Nat} {v : Value} (h : AB w b v) (hb : Below B w w') (hB : b < B) : AB w' b v := (hb.block b hB).trans h
theorem AB.set {w : World} {b : Nat} {v : Value} (h : AB w b v) (v' : Value) : AB (w.setCell ⟨b, 0, none⟩ v') b v' := by
  unfold AB at *
  simp [World.setCell, Array.getElem?_modify, h]
theorem sizeAccount : (Tryz.prog.info? 24).map (·.size) = some 1 := by kernel_rfl
theorem res_acc {fn : Func} {p u : Tmp} (h : fn.results = #[.cell p 24, .tmp u]) (tmps : Array Value) (w : World) (g : Nat) (v : Value) (hp : tmps.getD p undef = .pointer (some ⟨g, 0, none⟩)) (hC : AB w g v) :
    (results fn tmps).run Tryz.prog w = .ok (.tuple #[.agg #[v], tmps.getD u undef]) w := by
  rw [results_cell_tmp h, hp]
  simp [asAddr, run_loadVar_row w g 24 24 #[v] (0, 0) _ hC Tryz.underlying24 rfl sizeAccount, Result.andThen]
/-- What ReadAccount answers. -/
def RaPost (w : World) (S : List UInt8) (e : Ending) (w' : World) : Prop :=
  ∃ (r : Option (List Deed)) (a : Option Addr) (c : Nat) (R : List DR), IsRd S r ∧ e = .returned (.tuple #[.agg #[.slice a R.length c], .bool r.isSome]) ∧ DRow w' w.heap.size (.slice a R.length c) R ∧ R.map (·.1) = r.getD [] ∧ SzD 300001 (R.map (·.1)) ∧ Below w.heap.size w w'
theorem own_cap {w : World} {base size n c : Nat} {e : TypeId} {a : Option Addr} {xs : List Value} (h : w.ownsRow base e size (.slice a n c) n xs) : n ≤ c := by
  rcases h.2 with ⟨hv, h0⟩ | ⟨g', cap, cur, hv, hb, hg, h1, _⟩
  · cases hv
    exact Nat.le_refl _
  · cases hv
    exact h1

set_option maxRecDepth 100000 in
set_option maxHeartbeats 4000000 in
theorem readAcc_no (s : ByteArray) (w : World) (hs : s.size ≤ maxLen) (hn : s.data.toList = [] ∨ 300000 < s.size) :
    Calls Tryz.prog 6 #[.string s] w fun e w' => RaPost w s.data.toList e w' := by
  have IS : Hid (IsRd s.data.toList none) := isRd_none fun f n h => by
    rcases hn with h1 | h1
    · exact h1
    · have := form_short h
      rw [size_toL] at this
      omega
  have A0 := hide ((Below.refl w.heap.size w).alloc (Nat.le_refl _) (.cells #[.slice none 0 0] 24))
  have B0 : Hid (AB (w.alloc (.cells #[.slice none 0 0] 24)) w.heap.size (.slice none 0 0)) := heap_alloc_new w _
  unfold maxLen at hs
  unfold RaPost
  generalize hS : s.data.toList = S at IS hn ⊢
  rcases hn with hn | hn
  · have hs0 : s = ⟨#[]⟩ := by
      refine ByteArray.ext (Array.ext' ?_)
      rw [hS, hn]
    subst hs0
    clear hS
    go_enter Tryz.func6, Tryz.ntmps6
    go_upto_region 1 with fail
    generalize w.alloc (.cells #[.slice none 0 0] 24) = W at A0 B0 ⊢
    have c0 := B0.out.c0
    have f0 := B0.out.fz 0
    have l0 := B0.out.lt
    have B1 := hide (B0.out.set (.slice none 0 0))
    have A1 := hide (A0.out.setCell (p := ⟨w.heap.size, 0, none⟩) (Nat.le_refl _) (.slice none 0 0))
    go_wp2
    try simp only [Exit.inBlock, Exit.then]
    refine bodyPost_ret (res_acc rfl _ _ w.heap.size _ rfl B1.out) rfl ?_
    exact ⟨none, none, 0, [], IS.out, rfl, dRow_nil _ _, rfl, SzD.nil _, A1.out⟩
  · have hne : ¬ s.toList = [] := toList_ne (by omega)
    have hp : 300000 < (s.size : Int) := by omega
    clear hS
    go_enter Tryz.func6, Tryz.ntmps6
    go_upto_region 1 with fail
    generalize w.alloc (.cells #[.slice none 0 0] 24) = W at A0 B0 ⊢
    have c0 := B0.out.c0
    have f0 := B0.out.fz 0
    have l0 := B0.out.lt
    have B1 := hide (B0.out.set (.slice none 0 0))
    have A1 := hide (A0.out.setCell (p := ⟨w.heap.size, 0, none⟩) (Nat.le_refl _) (.slice none 0 0))
    go_wp2
    try simp only [Exit.inBlock, Exit.then]
    refine bodyPost_ret (res_acc rfl _ _ w.heap.size _ rfl B1.out) rfl ?_
    exact ⟨none, none, 0, [], IS.out, rfl, dRow_nil _ _, rfl, SzD.nil _, A1.out⟩

set_option maxRecDepth 100000 in
set_option maxHeartbeats 4000000 in
theorem readAcc_yes (s : ByteArray) (w : World) (h0 : 0 < s.size) (h3 : s.size ≤ 300000) (hL : Lay w) (hE : EV w 1) :
    Calls Tryz.prog 6 #[.string s] w fun e w' => RaPost w s.data.toList e w' := by
  have RF := hide (fun V (hV : Below w.heap.size w V) => readForm_any s V h3 (hL.below hV (Nat.le_refl _)) (hE.below hV hE.1))
  have LY := hide (fun V (hV : Below w.heap.size w V) => hL.below hV (Nat.le_refl _))
  have A0 := hide ((Below.refl w.heap.size w).alloc (Nat.le_refl _) (.cells #[.slice none 0 0] 24))
  have B0 : Hid (AB (w.alloc (.cells #[.slice none 0 0] 24)) w.heap.size (.slice none 0 0)) := heap_alloc_new w _
  have hne : ¬ s.toList = [] := toList_ne (by omega)
  have hie : s.toList.isEmpty = false := by simpa using hne
  have hp : ¬ 300000 < (s.size : Int) := by omega
  have HSS := hide (ByteArray.toList_eq s)
  have hSne : s.data.toList ≠ [] := fun e => by
    have := congrArg List.length e
    rw [size_toL, List.length_nil] at this
    omega
  unfold RaPost
  generalize hS : s.data.toList = S at RF HSS hSne ⊢
  have HS := hide hS
  clear hL hE hS
  go_enter Tryz.func6, Tryz.ntmps6
  go_upto_region 1 with fail
  generalize w.alloc (.cells #[.slice none 0 0] 24) = W at A0 B0 ⊢
  have l0 := B0.out.lt
  go_wp2_with fail
  refine (RF.out W A0.out).mono ?_
  rintro e w1 ⟨hB1, hF⟩
  rcases hF with ⟨a, c, R, rfl, hD, hZ, hG⟩ | ⟨hno, ty, p, rfl⟩
  · have X2 := (Below.refl w1.heap.size w1).alloc (Nat.le_refl _) (.cells #[.slice a R.length c] 24)
    have D2 := hide ((hD.below X2 (Nat.le_refl _)).mono (show w.heap.size + 1 ≤ W.heap.size + 4 by omega))
    have A2 := hide ((A0.out.trans (hB1.mono A0.out.size)).trans (X2.mono (by have := A0.out.size; have := hB1.size; omega)))
    have B2 := hide (B0.out.below (hB1.trans (X2.mono hB1.size)) l0)
    have C2 : Hid (AB (w1.alloc (.cells #[.slice a R.length c] 24)) w1.heap.size (.slice a R.length c)) := heap_alloc_new w1 _
    have HZ := hide hZ
    have HG := hide hG
    have hcap := own_cap hD.own
    have hRl : R.length ≤ 300001 := by have := hZ.1; simpa using this
    clear X2 hD hZ hG hB1 A0 B0
    go_upto_region 4 with fail
    generalize w1.alloc (.cells #[.slice a R.length c] 24) = W2 at D2 A2 B2 C2 ⊢
    generalize w1.heap.size = b4 at C2 ⊢
    have c4 := C2.out.c0
    have l4 := C2.out.lt
    by_cases hex : ∃ f n, formB f n = S
    · obtain ⟨f, n, hf⟩ := hex
      have hRD : R.map (·.1) = nrm f n := HG.out _ (form_good hf hSne)
      have hnl : n = R.length := by rw [← nrm_len f n, ← hRD]; simp
      subst hnl
      have hsl : SlDeed W2 a R.length f := by
        have h1 := D2.out.deeds
        rw [hRD] at h1
        exact sl_nrm h1
      have hft := fit_nrm (f := f) (n := R.length) (k := 300001) (by rw [← hRD]; exact HZ.out) (by omega)
      have FA := implForm_any a R.length c f W2 (by omega) hsl (by omega) (fun i hi => (hft i hi).1) (LY.out W2 A2.out).tb (LY.out W2 A2.out).tw (LY.out W2 A2.out).pw
      rw [hf] at FA
      have IS := hide (isRd_some hf hSne (fun E hE => by rw [← hRD]; exact HG.out E hE))
      have es : (⟨S.toArray⟩ : ByteArray) = s := by
        refine ByteArray.ext (Array.ext' ?_)
        rw [HS.out]
      rw [es] at FA
      have HFA := hide FA
      have HRD := hide hRD
      clear FA hsl hft hf es hRD
      go_wp2_with fail
      refine HFA.out.mono ?_
      rintro e w3 ⟨rfl, hB3⟩
      have D3 := hide (D2.out.below hB3 (Nat.le_refl _))
      have A3 := hide (A2.out.trans (hB3.mono A2.out.size))
      have B3 := hide (B2.out.below hB3 B2.out.lt)
      have C3 := hide (C2.out.below hB3 C2.out.lt)
      clear hB3 HFA c4 l4 D2 A2 B2 C2
      have c4 := C3.out.c0
      have l4 := C3.out.lt
      have c0 := B3.out.c0
      have f0 := B3.out.fz 0
      have l0 := B3.out.lt
      have B5 := hide (B3.out.set (.slice a R.length c))
      have A5 := hide (A3.out.setCell (p := ⟨w.heap.size, 0, none⟩) (Nat.le_refl _) (.slice a R.length c))
      have D5 := hide ((D3.out.set (p := ⟨w.heap.size, 0, none⟩) (e := 0) (.inl (by show w.heap.size < w.heap.size + 1; omega)) (.slice a R.length c)).mono (show w.heap.size ≤ w.heap.size + 1 by omega))
      go_wp2
      try simp only [Exit.inBlock, Exit.then]
      refine bodyPost_ret (res_acc rfl _ _ w.heap.size _ rfl B5.out) rfl ?_
      exact ⟨some (nrm f R.length), a, c, R, IS.out, rfl, D5.out, HRD.out, HZ.out, A5.out⟩
    · have hne2 : ∀ f n, formB f n ≠ S := fun f n h => hex ⟨f, n, h⟩
      have IS : Hid (IsRd S none) := isRd_none fun f n h => absurd h (hne2 f n)
      have hft := fit_dF HZ.out (by omega)
      have FA := implForm_any a R.length c (dF (R.map (·.1))) W2 (by omega) D2.out.deeds (by omega) (fun i hi => (hft i (by simpa using hi)).1) (LY.out W2 A2.out).tb (LY.out W2 A2.out).tw (LY.out W2 A2.out).pw
      have hnf := hne2 (dF (R.map (·.1))) R.length
      generalize formB (dF (R.map (·.1))) R.length = F at FA hnf
      have HFA := hide FA
      have ne1 : (F == S) = false := by simpa using hnf
      clear FA hft hex hne2
      go_wp2_with fail
      refine HFA.out.mono ?_
      rintro e w3 ⟨rfl, hB3⟩
      have A3 := hide (A2.out.trans (hB3.mono A2.out.size))
      have B3 := hide (B2.out.below hB3 B2.out.lt)
      clear hB3 HFA c4 l4 D2 A2 B2 C2
      have c0 := B3.out.c0
      have f0 := B3.out.fz 0
      have l0 := B3.out.lt
      have B5 := hide (B3.out.set (.slice none 0 0))
      have A5 := hide (A3.out.setCell (p := ⟨w.heap.size, 0, none⟩) (Nat.le_refl _) (.slice none 0 0))
      have e1 : ¬ F = s.toList := by rw [HSS.out]; exact hnf
      have e2 : (F == s.toList) = false := by simpa using e1
      go_wp2
      try simp only [Exit.inBlock, Exit.then]
      refine bodyPost_ret (res_acc rfl _ _ w.heap.size _ rfl B5.out) rfl ?_
      exact ⟨none, none, 0, [], IS.out, rfl, dRow_nil _ _, rfl, SzD.nil _, A5.out⟩
  · have IS : Hid (IsRd S none) := isRd_none fun f n h => Classical.byContradiction fun hq => hno _ (form_good h hq)
    have X2 := hB1.alloc hB1.size (.cells #[.slice none 0 0] 24)
    have A2 := hide (A0.out.trans (X2.mono A0.out.size))
    have B2 := hide (B0.out.below X2 l0)
    clear X2 hB1 A0 B0 hno
    go_upto_region 4 with fail
    generalize w1.alloc (.cells #[.slice none 0 0] 24) = W2 at A2 B2 ⊢
    have c0 := B2.out.c0
    have f0 := B2.out.fz 0
    have l0 := B2.out.lt
    have B5 := hide (B2.out.set (.slice none 0 0))
    have A5 := hide (A2.out.setCell (p := ⟨w.heap.size, 0, none⟩) (Nat.le_refl _) (.slice none 0 0))
    go_wp2
    try simp only [Exit.inBlock, Exit.then]
    refine bodyPost_ret (res_acc rfl _ _ w.heap.size _ rfl B5.out) rfl ?_
    exact ⟨none, none, 0, [], IS.out, rfl, dRow_nil _ _, rfl, SzD.nil _, A5.out⟩
theorem implReadAcc_any (s : ByteArray) (w : World) (hs : s.size ≤ maxLen) (hL : Lay w) (hE : EV w 1) :
    Calls Tryz.prog 6 #[.string s] w fun e w' => RaPost w s.data.toList e w' := by
  by_cases h : s.data.toList = [] ∨ 300000 < s.size
  · exact readAcc_no s w hs h
  · refine readAcc_yes s w ?_ (by omega) hL hE
    have h1 : s.data.toList ≠ [] := fun e => h (.inl e)
    have := List.length_pos_iff.2 h1
    rw [size_toL] at this
    exact this

end Go.Proofs.YtkbhcajiebeepaaGreatDoor.Vp
