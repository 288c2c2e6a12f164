/-
  Put together of: RaIter.
-/
import Derived.Test.YtkbhcajiebeepaaGreatDoorZE
import Derived.Test.YtkbhcajiebeepaaGreatDoorZC
import Derived.Test.YtkbhcajiebeepaaGreatDoorZX
import Derived.Test.YtkbhcajiebeepaaGreatDoorZZ
import Derived.Test.YtkbhcajiebeepaaGreatDoorYE

/-
  strings.Lines: what is ranged over.
-/
namespace Go.Proofs.YtkbhcajiebeepaaGreatDoor.Vp
open Go.RowKit Go.Shelf Go.Proofs.YtkbhcajiebeepaaGreatDoor.Ca

attribute [local go_sem] Oper.semAt_some

/-- The lines as they are handed over: whether a newline stands behind each. -/
def seqL : List (List UInt8) → List (List UInt8 × Bool)
  | [] => []
  | [l] => if l = [] then [] else [(l, false)]
  | l :: l' :: ls => (l, true) :: seqL (l' :: ls)
theorem seqL_fst : ∀ ls : List (List UInt8), (seqL ls).map (·.1) = tL ls
  | [] => rfl
  | [l] => by
    by_cases h : l = []
    · subst h; rfl
    · simp [seqL, tL, h]
  | l :: l' :: ls => by
    show l :: (seqL (l' :: ls)).map (·.1) = _
    rw [seqL_fst (l' :: ls)]
    rfl
theorem seqL_cons {l : List UInt8} {ls : List (List UInt8)} (h : ls ≠ []) : seqL (l :: ls) = (l, true) :: seqL ls := by
  obtain ⟨l', ls', rfl⟩ := List.exists_cons_of_ne_nil h
  rfl
def pcB (x : List UInt8 × Bool) : List UInt8 := if x.2 = true then x.1 ++ [10] else x.1
/-- The next one. -/
theorem seq_next {s : List UInt8} (h : s ≠ []) : ∃ x t, seqL (linesL s) = x :: seqL (linesL t) ∧ t.length < s.length ∧ ((cutC 10 s).2.2 = true ∧ x = ((cutC 10 s).1, true) ∧ t = (cutC 10 s).2.1 ∨ (cutC 10 s).2.2 = false ∧ x = (s, false) ∧ t = []) := by
  cases hc : (cutC 10 s).2.2 with
  | true =>
    refine ⟨((cutC 10 s).1, true), (cutC 10 s).2.1, ?_, cutC_rest hc, .inl ⟨rfl, rfl, rfl⟩⟩
    rw [linesL_cut s, if_pos hc, seqL_cons (linesL_ne _)]
  | false =>
    refine ⟨(s, false), [], ?_, by have := List.length_pos_iff.2 h; simpa using this, .inr ⟨rfl, rfl, rfl⟩⟩
    rw [linesL_cut s, if_neg (by rw [hc]; simp)]
    show (if s = [] then [] else [(s, false)]) = [(s, false)]
    rw [if_neg h]

/-- Lines(s) hands over a function that has caught the box of s. -/
theorem lines_in (s : ByteArray) (w : World) (nn : Nat) :
    CallsIn Fence.wide nn Tryz.prog 29 #[.string s] w fun e w' => e = .returned (.func (.func 55) #[] #[.pointer (some ⟨w.heap.size, 0, none⟩)]) ∧ w' = w.alloc (.cells #[.string s] 9) := by
  refine callsIn_of_wp Tryz.func29 rfl trivial ?_ rfl
  simp only [Tryz.ntmps29, List.size_toArray, List.length_cons, List.length_nil, Nat.reduceAdd, Nat.reduceSub, Array.replicate_succ, Array.replicate_zero, List.push_toArray, List.append_toArray, List.nil_append, List.cons_append]
  gi_wp2
  go_ret
  exact ⟨rfl, rfl⟩

/-- The box. -/
def SBx (w : World) (bx : Nat) (s : List UInt8) : Prop := w.heap[bx]? = some (.cells #[.string ⟨s.toArray⟩] 9 (0, 0))
theorem SBx.lt {w : World} {b : Nat} {s : List UInt8} (h : SBx w b s) : b < w.heap.size := (Array.getElem?_eq_some_iff.1 h).1
theorem SBx.c0 {w : World} {b : Nat} {s : List UInt8} (h : SBx w b s) : w.cell? ⟨b, 0, none⟩ = some (.string ⟨s.toArray⟩) := by rw [Lib.cell_of_heap h]; rfl
theorem SBx.fz {w : World} {b : Nat} {s : List UInt8} (h : SBx w b s) : w.frozen? ⟨b, 0, none⟩ = false := Lib.frozen_of_heap h 0
theorem SBx.set {w : World} {b : Nat} {s : List UInt8} (h : SBx w b s) (t : List UInt8) : SBx (w.setCell ⟨b, 0, none⟩ (.string ⟨t.toArray⟩)) b t := by
  unfold SBx at *
  simp [World.setCell, Array.getElem?_modify, h]

set_option maxRecDepth 100000 in
set_option maxHeartbeats 4000000 in
theorem lines_seq (S : List UInt8) (hS : (S.length : Int) ≤ 1000000) (bx nn : Nat) (w : World) (hb : SBx w bx S) :
    SeqX bx Fence.wide nn Tryz.prog 55 #[.pointer (some ⟨bx, 0, none⟩)] (fun x : List UInt8 × Bool => #[.string ⟨(pcB x).toArray⟩]) (fun pre x => pre ++ [x] <+: seqL (linesL S)) (fun xs => xs = seqL (linesL S)) (fun pre => pre <+: seqL (linesL S)) w := by
  intro l J Jx W hW hJ hJx hY h0
  have HJ := hide hJ
  have HJx := hide hJx
  have HY := hide hY
  have H0 := hide h0
  have hbl : bx < W.heap.size := Nat.lt_of_lt_of_le hb.lt hW.size
  have B0 : Hid (SBx W bx S) := (hW.block bx hb.lt).trans hb
  clear hJ hJx hY h0 hb hW
  refine callsIn_of_wp Tryz.func55 rfl trivial ?_ rfl
  simp only [Tryz.ntmps55, List.size_toArray, List.length_cons, List.length_nil, Nat.reduceAdd, Nat.reduceSub, Array.replicate_succ, Array.replicate_zero, List.push_toArray, List.append_toArray, List.nil_append, List.cons_append]
  gi_wp2
  gi_loopw [3, 4] (fun _ _ wr => ∃ (rest : List UInt8) (pre : List (List UInt8 × Bool)), (rest.length : Int) ≤ 1000000 ∧ Hid (SBx wr bx rest) ∧ Hid (pre ++ seqL (linesL rest) = seqL (linesL S)) ∧ Hid (J pre wr) ∧ W.heap.size ≤ wr.heap.size) (fun _ _ wr => match wr.cell? ⟨bx, 0, none⟩ with | some (.string s) => s.size | _ => 0)
  case atStart => exact ⟨S, [], hS, B0.out, rfl, H0.out, Nat.le_refl _⟩
  case round =>
    obtain ⟨rest, pre, hr, HB, HP, HJr, hz⟩ := hrel
    have c0 := HB.out.c0
    have C0 := hide c0
    have f0 := HB.out.fz
    by_cases hne : rest = []
    · subst hne
      gi_wp2
      go_end0
      refine ⟨⟨_, rfl⟩, .inl ⟨pre, ?_, HJr.out⟩⟩
      have := HP.out
      rw [show seqL (linesL []) = [] from rfl, List.append_nil] at this
      exact this
    · have hpos : 0 < (rest.length : Int) := by have := List.length_pos_iff.2 hne; omega
      obtain ⟨x, t, hsq, htl, hx⟩ := seq_next hne
      have IX : Hid (∀ V, CallsIn Fence.wide (nn - 1) Tryz.prog 56 #[.string ⟨rest.toArray⟩, .int .u8 10] V fun e w' => e = .returned (.int .i64 (Lib.indexByte rest 10)) ∧ w' = V) := fun V => callsIn_wide.2 (Tryz.strings_IndexByte ⟨rest.toArray⟩ 10 V)
      have hpx : pre ++ [x] <+: seqL (linesL S) := ⟨seqL (linesL t), by rw [← HP.out, hsq]; simp⟩
      have HPT : Hid (pre ++ [x] ++ seqL (linesL t) = seqL (linesL S)) := by show _ = _; rw [← HP.out, hsq]; simp
      have HPX := hide hpx
      have tl : (t.length : Int) ≤ 1000000 := by omega
      have YY : Hid (∀ V, J pre V → W.heap.size ≤ V.heap.size → YieldAt Fence.wide (nn - 1) Tryz.prog l #[.string ⟨(pcB x).toArray⟩] V fun e W' => (e = .returned (.bool true) ∧ J (pre ++ [x]) W' ∧ W'.heap[bx]? = V.heap[bx]? ∧ V.heap.size ≤ W'.heap.size) ∨ (e = .returned (.bool false) ∧ Jx (pre ++ [x]) W')) := fun V h1 h2 => HY.out pre x V HPX.out h1 h2
      rcases ix_cut 10 rest with ⟨hi, hcc⟩ | ⟨i, hi, hil, hcc⟩
      · rcases hx with ⟨h1, _⟩ | ⟨_, rfl, rfl⟩
        · rw [hcc] at h1; cases h1
        have J2 := hide (HJ.out _ _ _ HJr.out (Itx.setCell (n := W.heap.size) wr 0 (.string ⟨#[]⟩)))
        have B2 : Hid (SBx (wr.setCell ⟨bx, 0, none⟩ (.string ⟨#[]⟩)) bx []) := HB.out.set []
        rw [hi] at IX
        clear hcc hi hpx
        gi_wp2_with fail
        refine ⟨trivial, fun h => (by cases h), (IX.out _).mono ?_⟩
        rintro e V ⟨rfl, hV⟩
        rw [hV]
        clear hV IX
        obtain ⟨fn, tmps, assign, body, hy, hR⟩ := YY.out _ J2.out (by simp; omega)
        rw [show pcB (rest, false) = rest from rfl] at hy
        have HR := hide hR
        clear hR YY
        gi_wp2
        refine ⟨fun h => (by cases h), HR.out.mono ?_⟩
        rintro e W3 (⟨rfl, hJ3, hb3, hz3⟩ | ⟨rfl, hx3⟩)
        · have J3 := hide hJ3
          have B3 : Hid (SBx W3 bx []) := hb3.trans B2.out
          have z3 : W.heap.size ≤ W3.heap.size := by simp at hz3; omega
          have c3 := B3.out.c0
          clear hJ3 hb3 hz3 B2 J2 hy
          gi_wp2
          exact ⟨⟨[], _, tl, B3.out, HPT.out, J3.out, z3⟩, by rw [C0.out, B3.out.c0]; exact htl⟩
        · have X3 := hide hx3
          clear hx3
          gi_wp2
          try simp only [Exit.inBlock, Exit.then]
          refine ret0 rfl rfl ?_
          exact ⟨⟨_, rfl⟩, .inr ⟨_, HPX.out, X3.out⟩⟩
      · rcases hx with ⟨_, rfl, rfl⟩ | ⟨h1, _⟩
        case inr => rw [hcc] at h1; cases h1
        have il : (i : Int) < (rest.length : Int) := by omega
        have e1 : (cutC 10 rest).1 ++ [10] = rest.take (i + 1) := by
          have h2 := (cutC_inv 10 rest).2
          rw [hcc] at h2 ⊢
          rw [if_pos rfl] at h2
          have h3 : rest[i]? = some 10 := by
            have := congrArg (fun z => z[i]?) h2
            simp only at this
            rw [this, List.getElem?_append_right (by rw [List.length_take]; omega), List.length_take, Nat.min_eq_left (by omega), Nat.sub_self]
            rfl
          rw [List.take_add_one, h3]
          rfl
        have e2 : (cutC 10 rest).2.1 = rest.drop (i + 1) := by rw [hcc]
        have s1 : (⟨rest.toArray⟩ : ByteArray).extract 0 (i + 1) = ⟨(pcB ((cutC 10 rest).1, true)).toArray⟩ := by
          rw [show pcB ((cutC 10 rest).1, true) = (cutC 10 rest).1 ++ [10] from rfl, e1]
          refine ByteArray.ext (Array.ext' ?_)
          simp
        have s2 : (⟨rest.toArray⟩ : ByteArray).extract (i + 1) rest.length = ⟨(cutC 10 rest).2.1.toArray⟩ := by
          rw [e2]
          refine ByteArray.ext (Array.ext' ?_)
          simp only [ByteArray.data_extract, Array.toList_extract, List.extract_eq_take_drop]
          rw [List.take_of_length_le (by simp)]
        have J1 := hide (HJ.out _ _ _ HJr.out (Itx.setCell (n := W.heap.size) wr 0 (.string ⟨(cutC 10 rest).2.1.toArray⟩)))
        have B1 : Hid (SBx (wr.setCell ⟨bx, 0, none⟩ (.string ⟨(cutC 10 rest).2.1.toArray⟩)) bx (cutC 10 rest).2.1) := HB.out.set _
        have DW := (Below.refl (wr.setCell ⟨bx, 0, none⟩ (.string ⟨(cutC 10 rest).2.1.toArray⟩)).heap.size (wr.setCell ⟨bx, 0, none⟩ (.string ⟨(cutC 10 rest).2.1.toArray⟩))).drew
        have J2 := hide (HJ.out _ _ _ J1.out (Itx.of_below DW (Nat.le_refl _)))
        have B2 : Hid (SBx (wr.setCell ⟨bx, 0, none⟩ (.string ⟨(cutC 10 rest).2.1.toArray⟩)).drew bx (cutC 10 rest).2.1) := (DW.block bx (by simp; omega)).trans B1.out
        have z2 : W.heap.size ≤ (wr.setCell ⟨bx, 0, none⟩ (.string ⟨(cutC 10 rest).2.1.toArray⟩)).drew.heap.size := by simp; omega
        rw [hi] at IX
        clear hcc hi hpx e1 e2 DW J1 B1
        gi_wp2_with fail
        refine ⟨trivial, fun h => (by cases h), (IX.out _).mono ?_⟩
        rintro e V ⟨rfl, hV⟩
        rw [hV]
        clear hV IX
        gi_upto_region 4 with fail
        have b1 : (i : Int) + 1 ≤ (rest.length : Int) := by omega
        have b2 : (0 : Int) ≤ (i : Int) + 1 := by omega
        have b3 : ((i : Int) + 1).toNat = i + 1 := by omega
        have b4 : IntKind.i64.wrap ((i : Int) + 1) = (i : Int) + 1 := by rw [IntKind.wrap_i64]; omega
        have b5 : i + 1 ≤ rest.length := by omega
        gi_region_with fail
        all_goals
          generalize (wr.setCell ⟨bx, 0, none⟩ (.string ⟨(cutC 10 rest).2.1.toArray⟩)).drew = V2 at J2 B2 z2 ⊢
          obtain ⟨fn, tmps, assign, body, hy, hR⟩ := YY.out _ J2.out z2
          have HR := hide hR
          clear hR YY
          gi_wp2
          refine ⟨fun h => (by cases h), HR.out.mono ?_⟩
          rintro e W3 (⟨rfl, hJ3, hb3, hz3⟩ | ⟨rfl, hx3⟩)
          · have J3 := hide hJ3
            have B3 : Hid (SBx W3 bx (cutC 10 rest).2.1) := hb3.trans B2.out
            have z3 : W.heap.size ≤ W3.heap.size := by omega
            have c3 := B3.out.c0
            clear hJ3 hb3 hz3 B2 J2 hy
            gi_wp2
            exact ⟨⟨_, _, tl, B3.out, HPT.out, J3.out, z3⟩, by rw [C0.out, B3.out.c0]; exact htl⟩
          · have X3 := hide hx3
            clear hx3
            gi_wp2
            try simp only [Exit.inBlock, Exit.then]
            refine ret0 rfl rfl ?_
            exact ⟨⟨_, rfl⟩, .inr ⟨_, HPX.out, X3.out⟩⟩

end Go.Proofs.YtkbhcajiebeepaaGreatDoor.Vp
