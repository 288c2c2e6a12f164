/-
  Put together of: PaImplB.
-/
import Derived.Test.YtkbhcajiebeepaaGreatDoorYE
import Derived.Test.YtkbhcajiebeepaaGreatDoorYF

/-
  ParseProgram, impl: unquote.
-/
namespace Go.Proofs.YtkbhcajiebeepaaGreatDoor.Vp
open Go.RowKit

theorem flat_split : ∀ (out t rest : List UInt8), t.flatMap enc = out.flatMap enc ++ rest → ∃ u, t = out ++ u ∧ rest = u.flatMap enc
  | [], t, rest, h => ⟨t, rfl, by simpa using h.symm⟩
  | c :: out, [], rest, h => by
    have h1 := congrArg List.length h
    have h2 := enc_pos c
    simp at h1
    omega
  | c :: out, d :: t, rest, h => by
    rw [List.flatMap_cons, List.flatMap_cons, List.append_assoc] at h
    have h1 := congrArg unq1 h
    rw [unq1_enc, unq1_enc] at h1
    simp only [Option.some.injEq, Prod.mk.injEq] at h1
    obtain ⟨u, h2, h3⟩ := flat_split out t rest h1.2
    exact ⟨u, by rw [h1.1, h2]; rfl, h3⟩
theorem not_flat {out rest : List UInt8} (hne : rest ≠ []) (hu : unq1 rest = none) (t : List UInt8) : out.flatMap enc ++ rest ≠ t.flatMap enc := by
  intro h
  obtain ⟨u, -, h2⟩ := flat_split out t rest h.symm
  cases u with
  | nil => exact hne (by simpa using h2)
  | cons c u =>
    rw [h2, List.flatMap_cons, unq1_enc] at hu
    cases hu
theorem ixI (s : ByteArray) (x : Int) (i : Nat) (hx : x = i) (h : i < s.size) (w : World) : (Instr.index 9 (.string s) (.int .i64 x)).run Tryz.prog w = .ok (.int .u8 (s.data.toList[i]'(by rw [size_toL]; exact h)).toNat) w := by
  subst hx
  rw [run_index_string w 9 s .i64 (i : Int) Tryz.underlying9]
  simp [h]
  rfl
theorem flat_ge : ∀ l : List UInt8, l.length ≤ (l.flatMap enc).length
  | [] => by simp
  | c :: r => by have := enc_pos c; have := flat_ge r; simp only [List.flatMap_cons, List.length_append, List.length_cons]; omega
def strLen : Value → Nat
  | .string s => s.size
  | _ => 0
theorem quote_parts {s : List UInt8} {mid : List UInt8} (h : s = 34 :: mid ++ [34]) (t : List UInt8) : s = quoteB t ↔ mid = t.flatMap enc := by
  rw [quoteB_eq, h]
  constructor
  · intro e
    have := List.cons.inj e
    exact (List.append_inj' this.2 rfl).1
  · intro e
    rw [e]
theorem ends_quote (s : List UInt8) (t : List UInt8) (h : s = quoteB t) : 2 ≤ s.length ∧ s[0]? = some 34 ∧ s[s.length - 1]? = some 34 := by
  rw [h, quoteB_eq]
  refine ⟨by simp, by simp, ?_⟩
  rw [List.getElem?_append_right (by simp)]
  simp
theorem mid_of {s : List UInt8} (h2 : 2 ≤ s.length) (h0 : s[0]? = some 34) (h1 : s[s.length - 1]? = some 34) : s = 34 :: (s.drop 1).take (s.length - 2) ++ [34] := by
  cases s with
  | nil => simp at h2
  | cons c r =>
    simp only [List.length_cons] at h2 h1 ⊢
    simp at h0
    subst h0
    have hr : r ≠ [] := fun e => by rw [e] at h2; simp at h2
    have hl : r.getLast hr = 34 := by
      rw [List.getLast_eq_getElem]
      have hp : 0 < r.length := List.length_pos_iff.2 hr
      rw [show r.length + 1 - 1 = (r.length - 1) + 1 by omega, List.getElem?_cons_succ] at h1
      obtain ⟨_, h3⟩ := List.getElem?_eq_some_iff.1 h1
      exact h3
    have hd := List.dropLast_concat_getLast hr
    rw [hl] at hd
    rw [show r.length + 1 - 2 = r.length - 1 by omega, List.drop_succ_cons, List.drop_zero, ← List.dropLast_eq_take]
    exact congrArg (List.cons 34) hd.symm

def UqAll (S : List UInt8) (e : Ending) : Prop := (∃ t, S = quoteB t ∧ e = .returned (.tuple #[.string ⟨t.toArray⟩, .nilIface])) ∨ ((∀ t, S ≠ quoteB t) ∧ ∃ t p, e = .returned (.tuple #[.string ⟨#[]⟩, .iface t p]))
theorem ext_in (s : ByteArray) (a : Nat) : s.extract a s.size = ⟨(s.data.toList.drop a).toArray⟩ := by
  refine ByteArray.ext (Array.ext' ?_)
  simp only [ByteArray.data_extract, Array.toList_extract, List.extract_eq_take_drop]
  rw [List.take_of_length_le (by simp)]

set_option maxRecDepth 100000 in
set_option maxHeartbeats 2000000 in
theorem unquote_no (s : ByteArray) (w : World) (hs : s.size ≤ 16777216) (hE : EV w 3) (hn : s.size < 2 ∨ (2 ≤ s.size ∧ s.data.toList[0]? ≠ some 34) ∨ (2 ≤ s.size ∧ s.data.toList[0]? = some 34 ∧ s.data.toList[s.size - 1]? ≠ some 34)) :
    Calls Tryz.prog 80 #[.string s] w fun e w' => UqAll s.data.toList e ∧ Below w.heap.size w w' := by
  have HN : Hid (∀ t, s.data.toList ≠ quoteB t) := fun t e => by
    have h := ends_quote _ t e
    rw [size_toL] at h
    rcases hn with h1 | ⟨_, h1⟩ | ⟨_, _, h1⟩
    · omega
    · exact h1 h.2.1
    · exact h1 h.2.2
  obtain ⟨hz, te, pe, hev⟩ := hE
  have hd : (s.size : Int) < 2 ∨ (¬ (s.size : Int) < 2 ∧ ∃ c : UInt8, ((c.toNat : Int) != 34) = true ∧ ∀ V, (Instr.index 9 (.string s) (.int .i64 0)).run Tryz.prog V = .ok (.int .u8 c.toNat) V) ∨ (¬ (s.size : Int) < 2 ∧ (∀ V, (Instr.index 9 (.string s) (.int .i64 0)).run Tryz.prog V = .ok (.int .u8 34) V) ∧ ∃ c : UInt8, ((c.toNat : Int) != 34) = true ∧ ∀ V, (Instr.index 9 (.string s) (.int .i64 ((s.size : Int) - 1))).run Tryz.prog V = .ok (.int .u8 c.toNat) V) := by
    have ne34 : ∀ c : UInt8, c ≠ 34 → ((c.toNat : Int) != 34) = true := fun c h => by
      have : ¬ (c.toNat : Int) = 34 := fun e => h (by rw [← UInt8.toNat_inj]; show c.toNat = 34; omega)
      simpa using this
    rcases hn with h1 | ⟨h2, h1⟩ | ⟨h2, h0, h1⟩
    · exact .inl (by omega)
    · have hl : 0 < s.data.toList.length := by rw [size_toL]; omega
      rw [List.getElem?_eq_getElem hl] at h1
      exact .inr (.inl ⟨by omega, s.data.toList[0], ne34 _ (fun e => h1 (by rw [e])), fun V => ixI s 0 0 rfl (by omega) V⟩)
    · have hl : 0 < s.data.toList.length := by rw [size_toL]; omega
      have hl1 : s.size - 1 < s.data.toList.length := by rw [size_toL]; omega
      rw [List.getElem?_eq_getElem hl] at h0
      rw [List.getElem?_eq_getElem hl1] at h1
      refine .inr (.inr ⟨by omega, fun V => ?_, s.data.toList[s.size - 1], ne34 _ (fun e => h1 (by rw [e])), fun V => ixI s _ (s.size - 1) (by omega) (by omega) V⟩)
      have := ixI s 0 0 rfl (by omega) V
      rw [Option.some.inj h0] at this
      exact this
  clear hn
  rcases hd with p1 | ⟨p1, c, p2, X0⟩ | ⟨p1, X0, c, p2, X1⟩
  all_goals
    go_enter Tryz.func80, Tryz.ntmps80
    go_wp2_with fail
    go_quiet (fail)
    go_wp2
    go_ret2
    exact ⟨.inr ⟨HN.out, te, pe, rfl⟩, below_drewN (Below.refl _ _) _⟩

set_option maxRecDepth 100000 in
set_option maxHeartbeats 4000000 in
theorem unquote_go (s : ByteArray) (w : World) (hs : s.size ≤ 16777216) (hE : EV w 3) (h2 : 2 ≤ s.size) (hf : s.data.toList[0]? = some 34) (hl : s.data.toList[s.size - 1]? = some 34) :
    Calls Tryz.prog 80 #[.string s] w fun e w' => UqAll s.data.toList e ∧ Below w.heap.size w w' := by
  have HM := hide (mid_of (s := s.data.toList) (by rw [size_toL]; exact h2) hf (by rw [size_toL]; exact hl))
  have p1 : ¬ (s.size : Int) < 2 := by omega
  have hl0 : 0 < s.data.toList.length := by rw [size_toL]; omega
  have hl1 : s.size - 1 < s.data.toList.length := by rw [size_toL]; omega
  rw [List.getElem?_eq_getElem hl0] at hf
  rw [List.getElem?_eq_getElem hl1] at hl
  have X0 : ∀ V, (Instr.index 9 (.string s) (.int .i64 0)).run Tryz.prog V = .ok (.int .u8 34) V := fun V => by
    have := ixI s 0 0 rfl (by omega) V
    rw [Option.some.inj hf] at this
    exact this
  have X1 : ∀ V, (Instr.index 9 (.string s) (.int .i64 ((s.size : Int) - 1))).run Tryz.prog V = .ok (.int .u8 34) V := fun V => by
    have := ixI s ((s.size : Int) - 1) (s.size - 1) (by omega) (by omega) V
    rw [Option.some.inj hl] at this
    exact this
  clear hf hl hl0 hl1
  have HX : Hid (s.extract 1 (s.size - 1) = ⟨((s.data.toList.drop 1).take (s.data.toList.length - 2)).toArray⟩) := by
    show _ = _
    refine ByteArray.ext (Array.ext' ?_)
    rw [size_toL]
    simp only [ByteArray.data_extract, Array.toList_extract, List.extract_eq_take_drop]
    rw [show s.size - 1 - 1 = s.size - 2 by omega]
  have q1 : (1 : Int) ≤ (s.size : Int) - 1 := by omega
  have q2 : (s.size : Int) - 1 ≤ s.size := by omega
  have N0 := hide (Bd.new w)
  have B0 := hide ((Below.refl w.heap.size w).alloc (Nat.le_refl _) (.cells #[.pointer none, .slice none 0 0] 71))
  have HEV := hide hE
  have hml : ((s.data.toList.drop 1).take (s.data.toList.length - 2)).length ≤ 16777216 := by rw [List.length_take, List.length_drop, size_toL]; omega
  generalize (s.data.toList.drop 1).take (s.data.toList.length - 2) = mid at HM HX hml
  go_enter Tryz.func80, Tryz.ntmps80
  go_wp2
  rw [HX.out]
  go_loopw [5] (fun i wr => ∃ (out rest : List UInt8), i = .string ⟨rest.toArray⟩ ∧ Hid (mid = out.flatMap enc ++ rest) ∧ Hid (Bd wr w.heap.size w.heap.size out) ∧ Hid (Below w.heap.size w wr)) (fun i _ => strLen i)
  case atStart => exact ⟨[], mid, rfl, rfl, N0.out, B0.out⟩
  case round =>
    clear N0 B0
    obtain ⟨out, rest, rfl, HE, HD, HB⟩ := hrel
    have hsz : w.heap.size < wr.heap.size := HD.out.lt.2
    have hol : out.length + rest.length ≤ 16777216 := by
      have h1 := congrArg List.length HE.out
      have h3 := flat_ge out
      rw [List.length_append] at h1
      omega
    have HV := hide (HEV.out.below HB.out HEV.out.1)
    cases rest with
    | nil =>
      have HQ : Hid (s.data.toList = quoteB out) := (quote_parts HM.out out).2 (by rw [HE.out]; simp)
      go_wp2_with fail
      refine (string_any w.heap.size w.heap.size out _ HD.out (Nat.le_of_lt hsz)).mono ?_
      rintro e w1 ⟨rfl, hB1⟩
      have B1 := hide (HB.out.trans hB1)
      clear hB1
      go_wp2
      go_ret2
      exact ⟨.inl ⟨out, HQ.out, rfl⟩, B1.out⟩
    | cons c r =>
      obtain ⟨RS, hRS⟩ : ∃ RS : ByteArray, RS = ⟨(c :: r).toArray⟩ := ⟨_, rfl⟩
      rw [← hRS]
      have hsr : RS.size = r.length + 1 := by rw [hRS]; simp [ByteArray.size]
      have hz : RS.toList.isEmpty = false := by rw [ByteArray.toList_eq, hRS]; simp
      have hdl : RS.data.toList = c :: r := by rw [hRS]
      have UB := hide (unquoteByte_any RS wr (by unfold maxLen; simp only [List.length_cons] at hol; omega) (by omega) HV.out)
      have HUN := hide (fun h t => not_flat (out := out) (rest := c :: r) (by simp) h t)
      have HUS := hide (fun d r' (h : unq1 (c :: r) = some (d, r')) => unq1_some h)
      rw [hdl] at UB
      have HX2 := hide (fun en => ext_in RS en)
      rw [hdl] at HX2
      have hsr2 : (RS.size : Int) ≤ 16777216 := by simp only [List.length_cons] at hol; omega
      have HSR := hide hsr
      clear hRS hdl hsr
      go_wp2_with fail
      refine UB.out.mono ?_
      rintro e w1 ⟨h1, m, rfl⟩
      cases hu : unq1 (c :: r) with
      | none =>
        rw [hu] at h1
        obtain ⟨te, pe, rfl⟩ := h1
        have HN : Hid (∀ t, s.data.toList ≠ quoteB t) := fun t h => HUN.out hu t (by rw [← HE.out]; exact (quote_parts HM.out t).1 h)
        go_wp2
        go_ret2
        exact ⟨.inr ⟨HN.out, te, pe, rfl⟩, below_drewN HB.out m⟩
      | some x =>
        obtain ⟨d, r'⟩ := x
        rw [hu] at h1
        subst h1
        have hx := HUS.out d r' hu
        have HX := hide hx
        have hen := enc_pos d
        have hlen : r.length + 1 = (enc d).length + r'.length := by have := congrArg List.length hx; simpa using this
        have g1 : ((enc d).length : Int) ≤ RS.size := by have := HSR.out; omega
        have HX3 : Hid (RS.extract (enc d).length RS.size = ⟨r'.toArray⟩) := by
          show _ = _
          rw [HX2.out (enc d).length, hx, List.drop_left]
        have HLN := hide hlen
        have HE2 : Hid (mid = (out ++ [d]).flatMap enc ++ r') := by
          show _ = _
          rw [HE.out, hx]
          simp
        have D1 := hide (HD.out.below (below_drewN (Below.refl wr.heap.size wr) m) (Nat.le_refl _))
        have B1 := hide (below_drewN HB.out m)
        have hz1 : w.heap.size ≤ (wr.drewN m).heap.size := Nat.le_of_lt hsz
        clear hx hlen HX2 HUN HUS UB hu
        generalize wr.drewN m = W1 at D1 B1 hz1 ⊢
        generalize (enc d).length = en at hen g1 HX3 HLN ⊢
        go_wp2_with fail
        refine (writeByte_any w.heap.size w.heap.size out d _ D1.out (by simp only [List.length_cons] at hol; omega) hz1).mono ?_
        rintro e w2 ⟨rfl, hD2, hB2⟩
        have D2 := hide hD2
        have B2 := hide (B1.out.trans hB2)
        clear hD2 hB2
        go_wp2
        exact ⟨⟨out ++ [d], r', by rw [HX3.out], HE2.out, D2.out, B2.out⟩, by have h3 := HLN.out; have h4 := HSR.out; rw [HX3.out]; show r'.length < RS.size; omega⟩

theorem unquote_any (s : ByteArray) (w : World) (hs : s.size ≤ 16777216) (hE : EV w 3) :
    Calls Tryz.prog 80 #[.string s] w fun e w' => UqAll s.data.toList e ∧ Below w.heap.size w w' := by
  by_cases h1 : s.size < 2
  · exact unquote_no s w hs hE (.inl h1)
  · by_cases h2 : s.data.toList[0]? = some 34
    · by_cases h3 : s.data.toList[s.size - 1]? = some 34
      · exact unquote_go s w hs hE (by omega) h2 h3
      · exact unquote_no s w hs hE (.inr (.inr ⟨by omega, h2, h3⟩))
    · exact unquote_no s w hs hE (.inr (.inl ⟨by omega, h2⟩))

end Go.Proofs.YtkbhcajiebeepaaGreatDoor.Vp
