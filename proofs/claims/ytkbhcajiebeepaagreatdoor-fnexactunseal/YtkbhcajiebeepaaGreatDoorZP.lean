/-
  Put together of: PaSpecA, PaSpecU.
-/
import Derived.Test.YtkbhcajiebeepaaGreatDoorZN
import Derived.Test.YtkbhcajiebeepaaGreatDoorZM
import Derived.Deep.QuietTactic

/-
  ParseProgram, spec: l1HexOf, l1Number, l1Unquote.
-/
namespace Go.Proofs.YtkbhcajiebeepaaGreatDoor.Vp
open Go.RowKit

set_option maxRecDepth 100000 in
set_option maxHeartbeats 1000000 in
theorem l1HexOf_any (c : UInt8) (w : World) : Calls Tryz.prog 48 #[.int .u8 c.toNat] w fun e w' => e = .returned (.int .i64 (hexI c)) ∧ w' = w := by
  have hc := c.toNat_lt
  have hn : (48 ≤ (c.toNat : Int) ∧ (c.toNat : Int) ≤ 57 ∧ hexI c = (c.toNat : Int) - 48) ∨ (48 ≤ (c.toNat : Int) ∧ ¬ (c.toNat : Int) ≤ 57 ∧ 97 ≤ (c.toNat : Int) ∧ (c.toNat : Int) ≤ 102 ∧ hexI c = (c.toNat : Int) - 87) ∨ (¬ 48 ≤ (c.toNat : Int) ∧ ¬ 97 ≤ (c.toNat : Int) ∧ hexI c = -1) ∨ (48 ≤ (c.toNat : Int) ∧ ¬ (c.toNat : Int) ≤ 57 ∧ ¬ 97 ≤ (c.toNat : Int) ∧ hexI c = -1) ∨ (48 ≤ (c.toNat : Int) ∧ ¬ (c.toNat : Int) ≤ 57 ∧ 97 ≤ (c.toNat : Int) ∧ ¬ (c.toNat : Int) ≤ 102 ∧ hexI c = -1) := by
    unfold hexI
    split
    · omega
    · split <;> omega
  rcases hn with ⟨p1, p2, h⟩ | ⟨p1, p2, p3, p4, h⟩ | ⟨p1, p2, h⟩ | ⟨p1, p2, p3, h⟩ | ⟨p1, p2, p3, p4, h⟩
  all_goals
    rw [h]
    clear h
    go_enter Tryz.func48, Tryz.ntmps48
    go_wp2
    go_ret
    exact ⟨by go_num, rfl⟩

theorem take_at {s : ByteArray} {k : Nat} (h : k < s.size) : s.data.toList.take (k + 1) = s.data.toList.take k ++ [s[k]] := by
  rw [List.take_succ_eq_append_getElem (by simpa using h)]
  rfl
theorem numL_snoc (l : List UInt8) (c : UInt8) : numL 0 (l ++ [c]) = numL 0 l * 10 + c.toNat - 48 := by
  rw [numL_app]
  rfl
theorem numL_lt : ∀ (l : List UInt8), l.length ≤ 6 → -1000000000 ≤ numL 0 l ∧ numL 0 l ≤ 1000000000 := by
  intro l hl
  match l, hl with
  | [], _ => decide
  | [a], _ => simp only [numL]; have := a.toNat_lt; omega
  | [a, b], _ => simp only [numL]; have := a.toNat_lt; have := b.toNat_lt; omega
  | [a, b, c], _ => simp only [numL]; have := a.toNat_lt; have := b.toNat_lt; have := c.toNat_lt; omega
  | [a, b, c, d], _ => simp only [numL]; have := a.toNat_lt; have := b.toNat_lt; have := c.toNat_lt; have := d.toNat_lt; omega
  | [a, b, c, d, e], _ => simp only [numL]; have := a.toNat_lt; have := b.toNat_lt; have := c.toNat_lt; have := d.toNat_lt; have := e.toNat_lt; omega
  | [a, b, c, d, e, f], _ => simp only [numL]; have := a.toNat_lt; have := b.toNat_lt; have := c.toNat_lt; have := d.toNat_lt; have := e.toNat_lt; have := f.toNat_lt; omega
  | a :: b :: c :: d :: e :: f :: g :: r, hl => simp at hl

set_option maxRecDepth 100000 in
set_option maxHeartbeats 1000000 in
theorem l1Number_any (s : ByteArray) (w : World) (hs : s.size ≤ 16777216) : Calls Tryz.prog 24 #[.string s] w fun e w' => e = .returned (.int .i64 (numL 0 (s.data.toList.take 6))) ∧ w' = w := by
  go_enter Tryz.func24, Tryz.ntmps24
  go_wp2
  go_loopw [3, 4] (fun v i wr => ∃ k : Nat, k ≤ s.size ∧ k ≤ 6 ∧ i = .int .i64 k ∧ v = .int .i64 (numL 0 (s.data.toList.take k)) ∧ wr = w) (fun _ i _ => s.size - (intOf i).toNat)
  case atStart => exact ⟨0, by omega, by omega, rfl, rfl, rfl⟩
  case round =>
    obtain ⟨k, hk, hk6, rfl, rfl, rfl⟩ := hrel
    by_cases hlt : k < s.size
    · by_cases h6 : k < 6
      · have HN := hide (show numL 0 (s.data.toList.take (k + 1)) = numL 0 (s.data.toList.take k) * 10 + s[k].toNat - 48 by rw [take_at hlt, numL_snoc])
        have hb := numL_lt (s.data.toList.take k) (by rw [List.length_take]; omega)
        have hc := s[k].toNat_lt
        have i1 : (k : Int) < s.size := by omega
        have i2 : (k : Int) < 6 := by omega
        generalize numL 0 (s.data.toList.take k) = x at hb HN ⊢
        go_wp2
        exact ⟨⟨k + 1, by omega, by omega, by go_num, by rw [HN.out], trivial⟩, by simp [intOf]; omega⟩
      · obtain rfl : k = 6 := by omega
        have i1 : (6 : Int) < s.size := by omega
        go_wp2
        go_ret
        exact ⟨rfl, rfl⟩
    · have HT := hide (show s.data.toList.take 6 = s.data.toList.take k by
        rw [List.take_of_length_le (by rw [Array.length_toList, ByteArray.size_data]; omega), List.take_of_length_le (by rw [Array.length_toList, ByteArray.size_data]; omega)])
      have i1 : ¬ (k : Int) < s.size := by omega
      go_wp2
      go_ret
      exact ⟨by rw [HT.out]; rfl, rfl⟩

def rem (l : List UInt8) (i : Nat) : List UInt8 := (l.drop i).take (l.length - 1 - i)
theorem rem_cons {l : List UInt8} {i : Nat} (h : i + 1 < l.length) : rem l i = l[i] :: rem l (i + 1) := by
  unfold rem
  rw [List.drop_eq_getElem_cons (by omega), show l.length - 1 - i = (l.length - 1 - (i + 1)) + 1 by omega, List.take_succ_cons]
theorem rem_nil {l : List UInt8} {i : Nat} (h : ¬ i + 1 < l.length) : rem l i = [] := by
  unfold rem
  rw [show l.length - 1 - i = 0 by omega, List.take_zero]
theorem rem_inner (l : List UInt8) : rem l 1 = innerL l := by
  unfold rem innerL
  rw [show l.length - 1 - 1 = l.length - 2 by omega]

theorem loosU_no {c : UInt8} : ∀ {r : List UInt8}, (∀ a b r', r = a :: b :: r' → ¬ (c = 92 ∧ 0 ≤ hexI a ∧ 0 ≤ hexI b)) → loosU (c :: r) = c :: loosU r
  | [], _ => by simp [loosU]
  | [a], _ => by simp [loosU]
  | a :: b :: r, h => by rw [loosU, if_neg (h a b r rfl)]
theorem rem_short {l : List UInt8} {k : Nat} (h : ¬ k + 3 < l.length) {a b : UInt8} {r : List UInt8} : rem l (k + 1) ≠ a :: b :: r := by
  intro e
  have := congrArg List.length e
  unfold rem at this
  rw [List.length_take, List.length_drop] at this
  simp at this
  omega
theorem rem_two {l : List UInt8} {k : Nat} (h : k + 3 < l.length) : rem l (k + 1) = l[k + 1] :: l[k + 2] :: rem l (k + 3) := by
  rw [rem_cons (by omega), rem_cons (by omega)]
theorem ixS (s : ByteArray) (x : Int) (i : Nat) (hx : x = i) (h : i < s.size) (w : World) : (Instr.index 9 (.string s) (.int .i64 x)).run Tryz.prog w = .ok (.int .u8 s.data.toList[i].toNat) w := by
  subst hx
  rw [run_index_string w 9 s .i64 (i : Int) Tryz.underlying9]
  simp [h]
  rfl
theorem conv_any (w : World) (base g cap : Nat) (l : List UInt8) (h : Bs w base (.slice (some ⟨g, 0, none⟩) l.length cap) l) : (convert 60 9 (.slice (some ⟨g, 0, none⟩) l.length cap)).run Tryz.prog w = .ok (.string ⟨l.toArray⟩) w :=
  run_convert_bytes_back w 60 9 5 ⟨g, 0, none⟩ cap l Tryz.underlying60 Tryz.underlying5 Tryz.underlying9 (fun j hj => h.cell j hj)

end Go.Proofs.YtkbhcajiebeepaaGreatDoor.Vp

/-
  ParseProgram, spec: l1Unquote.
-/
namespace Go.Proofs.YtkbhcajiebeepaaGreatDoor.Vp
open Go.RowKit

set_option maxRecDepth 100000 in
set_option maxHeartbeats 4000000 in
theorem l1Unquote_any (s : ByteArray) (w : World) (hs : s.size ≤ 16777216) :
    Calls Tryz.prog 23 #[.string s] w fun e w' => e = .returned (.string ⟨(loosU (innerL s.data.toList)).toArray⟩) ∧ Below w.heap.size w w' := by
  have HL : Hid (s.data.toList.length = s.size) := by show _ = _; simp
  go_enter Tryz.func23, Tryz.ntmps23
  go_wp2
  go_loopw [3, 4] (fun v i wr => ∃ (k g cap : Nat) (l : List UInt8), 1 ≤ k ∧ k ≤ s.size + 1 ∧ i = .int .i64 k ∧ v = .slice (some ⟨g, 0, none⟩) l.length cap ∧ Hid (Bs wr w.heap.size v l) ∧ Hid (l ++ loosU (rem s.data.toList k) = loosU (innerL s.data.toList)) ∧ l.length ≤ k ∧ Hid (Below w.heap.size w wr)) (fun _ i _ => s.size + 2 - (intOf i).toNat)
  case atStart => exact ⟨1, w.heap.size, 0, [], by omega, by omega, rfl, rfl, Bs.lit w _ [] (Nat.le_refl _) (by unfold maxLen; simp) _ rfl, (by rw [rem_inner]; rfl), by simp, (Below.refl _ _).alloc (Nat.le_refl _) _⟩
  case round =>
    obtain ⟨k, g, cap, l, hk1, hk2, rfl, rfl, HO, HR, hlk, HB⟩ := hrel
    have hsz : w.heap.size ≤ wr.heap.size := HB.out.size
    by_cases hlt : k + 1 < s.size
    · have i1 : (k : Int) + 1 < s.size := by omega
      have hl0 : k + 1 < s.data.toList.length := by rw [HL.out]; omega
      have HC := hide (rem_cons (l := s.data.toList) hl0)
      obtain ⟨c, hc⟩ : ∃ c, c = s.data.toList[k] := ⟨_, rfl⟩
      rw [← hc] at HC
      have X0 := fun V => ixS s (k : Int) k rfl (by omega) V
      rw [← hc] at X0
      clear hc
      have cl := c.toNat_lt
      obtain ⟨a, ha⟩ : ∃ a, a = s.data.toList[k + 1]?.getD 0 := ⟨_, rfl⟩
      obtain ⟨b, hb⟩ : ∃ b, b = s.data.toList[k + 2]?.getD 0 := ⟨_, rfl⟩
      have HA := hide (fun (h3 : k + 3 < s.size) => (show s.data.toList[k + 1]'(by rw [HL.out]; omega) = a by rw [ha, List.getElem?_eq_getElem (by rw [HL.out]; omega)]; rfl))
      have HB2 := hide (fun (h3 : k + 3 < s.size) => (show s.data.toList[k + 2]'(by rw [HL.out]; omega) = b by rw [hb, List.getElem?_eq_getElem (by rw [HL.out]; omega)]; rfl))
      have HT := hide (fun (h3 : k + 3 < s.size) => (show rem s.data.toList (k + 1) = a :: b :: rem s.data.toList (k + 3) by rw [rem_two (by rw [HL.out]; exact h3), HA.out h3, HB2.out h3]))
      have HNO : Hid (¬ (c = 92 ∧ k + 3 < s.size ∧ 0 ≤ hexI a ∧ 0 ≤ hexI b) → loosU (rem s.data.toList k) = c :: loosU (rem s.data.toList (k + 1))) := fun hx => by
        rw [HC.out]
        refine loosU_no fun a' b' r' e h => hx ⟨h.1, ?_⟩
        by_cases h3 : k + 3 < s.size
        · rw [HT.out h3] at e
          simp only [List.cons.injEq] at e
          exact ⟨h3, by rw [e.1]; exact h.2.1, by rw [e.2.1]; exact h.2.2⟩
        · exact absurd e (rem_short (by rw [HL.out]; exact h3))
      clear ha hb
      by_cases hx : c = 92 ∧ k + 3 < s.size ∧ 0 ≤ hexI a ∧ 0 ≤ hexI b
      · obtain ⟨rfl, h3, hha, hhb⟩ := hx
        have i3 : (k : Int) + 3 < s.size := by omega
        have X1 := fun V => ixS s ((k : Int) + 1) (k + 1) (by omega) (by omega) V
        have X2 := fun V => ixS s ((k : Int) + 2) (k + 2) (by omega) (by omega) V
        rw [HA.out h3] at X1
        rw [HB2.out h3] at X2
        have HLa := (hexI_lt a).2
        have HLb := (hexI_lt b).2
        have HBO : Hid (16 * hexI a + hexI b = ((byteOf a b).toNat : Int)) := by
          show _ = _
          unfold byteOf
          rw [UInt8.toNat_ofNat']
          omega
        have HE : Hid (loosU (rem s.data.toList k) = byteOf a b :: loosU (rem s.data.toList (k + 3))) := by
          show _ = _
          rw [HC.out, HT.out h3, loosU, if_pos ⟨rfl, hha, hhb⟩]
        have IA := l1HexOf_any a
        have IB := l1HexOf_any b
        generalize hexI a = x at HLa hha IA HBO ⊢
        generalize hexI b = y at HLb hhb IB HBO ⊢
        go_wp2_with (go_at_call 48; (first | go_fit (IA _) | go_fit (IB _)); rintro e w' ⟨rfl, hw'⟩; rw [hw']; clear hw')
        have e1 : IntKind.i64.wrap ((k : Int) + 1) = (k : Int) + 1 := by rw [IntKind.wrap_i64]; omega
        have e2 : IntKind.i64.wrap ((k : Int) + 2) = (k : Int) + 2 := by rw [IntKind.wrap_i64]; omega
        have e3 : IntKind.i64.wrap (16 * x) = 16 * x := by rw [IntKind.wrap_i64]; omega
        have e4 : IntKind.i64.wrap (16 * x + y) = 16 * x + y := by rw [IntKind.wrap_i64]; omega
        have e5 : IntKind.u8.wrap (16 * x + y) = 16 * x + y := by rw [IntKind.wrap_u8]; omega
        have OA := hide (HO.out.below ((Below.refl wr.heap.size wr).alloc (Nat.le_refl _) (.cells #[.int .u8 (16 * x + y)] 5)).drew (Nat.le_refl _))
        go_region_law (first
          | (refine step_app rfl (.tmp 40) (.tmp 54) rfl w.heap.size (.slice (some ⟨g, 0, none⟩) l.length cap) l (by simp [Act.eval]) OA.out ⟨wr.heap.size, 0, none⟩ 1 [byteOf a b] (by simp [Act.eval]) (one_at (by simp [HBO.out])) (by simp only [List.length_cons, List.length_nil]; omega) (by simp; omega) ?_
             intro v' wZ hv' hg'
             obtain ⟨g', cap', rfl, _, _⟩ := hv'.form (by simp)
             have HV' := hide hv'
             have HG' : Hid (Below w.heap.size w wZ) := (HB.out.alloc hsz _).drew.grown hg' (by simp; omega) (fun x hx => (World.ownsRow.lt HO.out x hx).1)
             clear hv' hg')
          | (go_simp; go_at_call 48; (first | go_fit (IA _) | go_fit (IB _)); rintro e w' ⟨rfl, hw'⟩; rw [hw']; clear hw'))
        all_goals
          go_wp2
          exact ⟨⟨k + 3, g', cap', l ++ [byteOf a b], by omega, by omega, by go_num, by simp, (by have := HV'.out; simp only [List.length_append, List.length_cons, List.length_nil, Nat.zero_add] at this; exact this), (by rw [← HR.out, HE.out, List.append_assoc]; rfl), by simp; omega, HG'.out⟩, by simp [intOf]; omega⟩
      · have HN := hide (HNO.out hx)
        have hn : (((c.toNat : Int) == 92) = false) ∨ (((c.toNat : Int) == 92) = true ∧ ¬ (k : Int) + 3 < s.size) ∨ (((c.toNat : Int) == 92) = true ∧ (k : Int) + 3 < s.size ∧ ¬ 0 ≤ hexI a) ∨ (((c.toNat : Int) == 92) = true ∧ (k : Int) + 3 < s.size ∧ 0 ≤ hexI a ∧ ¬ 0 ≤ hexI b) := by
          by_cases e92 : c = 92
          · subst e92
            by_cases h3 : k + 3 < s.size
            · have : (k : Int) + 3 < s.size := by omega
              by_cases h4 : 0 ≤ hexI a
              · exact .inr (.inr (.inr ⟨rfl, this, h4, fun h5 => hx ⟨rfl, h3, h4, h5⟩⟩))
              · exact .inr (.inr (.inl ⟨rfl, this, h4⟩))
            · exact .inr (.inl ⟨rfl, by omega⟩)
          · refine .inl ?_
            have : ¬ (c.toNat : Int) = 92 := fun e => e92 (by rw [← UInt8.toNat_inj]; show c.toNat = 92; omega)
            simpa using this
        clear hx HNO
        have X1 := fun (h3 : (k : Int) + 3 < s.size) V => (show (Instr.index 9 (.string s) (.int .i64 ((k : Int) + 1))).run Tryz.prog V = .ok (.int .u8 a.toNat) V by have := ixS s ((k : Int) + 1) (k + 1) (by omega) (by omega) V; rw [HA.out (by omega)] at this; exact this)
        have X2 := fun (h3 : (k : Int) + 3 < s.size) V => (show (Instr.index 9 (.string s) (.int .i64 ((k : Int) + 2))).run Tryz.prog V = .ok (.int .u8 b.toNat) V by have := ixS s ((k : Int) + 2) (k + 2) (by omega) (by omega) V; rw [HB2.out (by omega)] at this; exact this)
        have IA := l1HexOf_any a
        have IB := l1HexOf_any b
        generalize hexI a = x at IA hn ⊢
        generalize hexI b = y at IB hn ⊢
        have OA := hide (HO.out.below ((Below.refl wr.heap.size wr).alloc (Nat.le_refl _) (.cells #[.int .u8 c.toNat] 5)) (Nat.le_refl _))
        rcases hn with p1 | ⟨p1, p2⟩ | ⟨p1, p2, p3⟩ | ⟨p1, p2, p3, p4⟩
        all_goals
          try have X1 := X1 p2
          try have X2 := X2 p2
          go_wp2_with (first
            | (go_at_call 48; (first | go_fit (IA _) | go_fit (IB _)); rintro e w' ⟨rfl, hw'⟩; rw [hw']; clear hw')
            | (at_builtin; refine wp_app rfl (.tmp 58) (.tmp 62) rfl w.heap.size _ l rfl OA.out ⟨wr.heap.size, 0, none⟩ 1 [c] rfl (one_at (by simp)) (by simp only [List.length_cons, List.length_nil]; omega) (by simp; omega) ?_))
          intro v' w' hv' hg'
          obtain ⟨g', cap', rfl, _, _⟩ := hv'.form (by simp)
          have HV' := hide hv'
          have HG' : Hid (Below w.heap.size w w') := (HB.out.alloc hsz _).grown hg' (by simp; omega) (fun x hx => (World.ownsRow.lt HO.out x hx).1)
          clear hv' hg'
          go_wp2
          exact ⟨⟨k + 1, g', cap', l ++ [c], by omega, by omega, by go_num, rfl, HV'.out, (by rw [← HR.out, HN.out, List.append_assoc]; rfl), by simp; omega, HG'.out⟩, by simp [intOf]; omega⟩
    · have i1 : ¬ (k : Int) + 1 < s.size := by omega
      have HE : Hid (l = loosU (innerL s.data.toList)) := by
        show _ = _
        rw [← HR.out, rem_nil (by rw [HL.out]; omega)]
        simp [loosU]
      have hcv := conv_any wr _ g cap l HO.out
      go_wp2
      go_ret
      exact ⟨by rw [← HE.out]; rfl, HB.out⟩

end Go.Proofs.YtkbhcajiebeepaaGreatDoor.Vp
