/-
  Put together of: PpBd, PpBuild, PpImplQ, PpImplP.
-/
import Derived.Test.YtkbhcajiebeepaaGreatDoorZM
import Derived.Lib.Builder
import Derived.Test.YtkbhcajiebeepaaGreatDoorYB
import Derived.Test.YtkbhcajiebeepaaGreatDoorZK
import Derived.Test.YtkbhcajiebeepaaGreatDoorZD
import Derived.Test.YtkbhcajiebeepaaGreatDoorZE
import Derived.Test.YtkbhcajiebeepaaGreatDoorYD

/-
  strings.Builder as this cut bears it: copyCheck, WriteByte, WriteString, String.
-/
namespace Go.Proofs.YtkbhcajiebeepaaGreatDoor.Vp
open Go.RowKit

theorem sizeB : (Tryz.prog.info? 71).map (·.size) = some 2 := by kernel_rfl
theorem liesB : liesAt Tryz.prog Tryz.prog.depth 71 (2 / Tryz.prog.cellsOf 71) 0 71 1 = true := by kernel_rfl

/-- A builder in block b, of the call's own from B on, that holds the bytes l. -/
def Bd (w : World) (B b : Nat) (l : List UInt8) : Prop := Lib.IsBuilder 71 5 B b (Lib.byteCells l) w
theorem Bd.lt {w : World} {B b : Nat} {l : List UInt8} (h : Bd w B b l) : B ≤ b ∧ b < w.heap.size := by
  rcases h with h | h
  · exact ⟨h.1, h.lt⟩
  · exact ⟨h.1, h.lt⟩
theorem builderAt_below {w w' : World} {B b C : Nat} {p : Value} {bs : List Value} (h : Lib.BuilderAt 71 5 B b p bs w) (hb : Below C w w') (hC : w.heap.size ≤ C) : Lib.BuilderAt 71 5 B b p bs w' := by
  have hl := h.lt
  obtain ⟨hB, v, hk, ho, hne⟩ := h
  refine ⟨hB, v, by rw [hb.block b (by omega)]; exact hk, ⟨ho.1, ?_⟩, hne⟩
  rcases ho.2 with hn | ⟨g, cap, cur, hv, hg, hh, r⟩
  · exact .inl hn
  · exact .inr ⟨g, cap, cur, hv, hg, by rw [hb.block g (Nat.lt_of_lt_of_le (Array.getElem?_eq_some_iff.1 hh).1 hC)]; exact hh, r⟩
theorem Bd.below {w w' : World} {B b C : Nat} {l : List UInt8} (h : Bd w B b l) (hb : Below C w w') (hC : w.heap.size ≤ C) : Bd w' B b l :=
  h.elim (fun x => .inl (builderAt_below x hb hC)) (fun x => .inr (builderAt_below x hb hC))
theorem Bd.new (w : World) : Bd (w.alloc (.cells #[.pointer none, .slice none 0 0] 71)) w.heap.size w.heap.size [] := by
  refine .inl ⟨Nat.le_refl _, .slice none 0 0, ?_, World.ownsRow_nil _ _ _ _, by simp [Value.ownBlock]⟩
  show (w.heap.push _)[w.heap.size]? = _
  simp

set_option maxRecDepth 100000 in
set_option maxHeartbeats 1000000 in
theorem copyCheck_fresh (b : Nat) (w : World) (h0 : w.cell? ⟨b, 0, none⟩ = some (.pointer none)) (hsh : w.shape? b = some (71, 2)) (hfz : w.frozen? ⟨b, 0, none⟩ = false) :
    Calls Tryz.prog 88 #[.pointer (some ⟨b, 0, none⟩)] w fun e w' => e = .returned (.tuple #[]) ∧ w' = w.setCell ⟨b, 0, none⟩ (.pointer (some ⟨b, 0, none⟩)) := by
  obtain ⟨j, hj, hjs⟩ := Option.map_eq_some_iff.1 sizeB
  go_enter Tryz.func88, Tryz.ntmps88
  go_wp2
  rw [Lib.run_to_unsafe w ⟨b, 0, none⟩ Tryz.underlying69 Tryz.underlying154 hj (by rw [hjs]; decide) hsh (Nat.zero_lt_succ 1)]
  simp only [Result.andThen]
  rw [Oper.upon_value]
  go_wp2
  rw [run_callFunc_extern Tryz.func115 (by kernel_rfl) (by kernel_rfl) (by kernel_rfl) (e := Extern.AbiNoEscape.same) (by kernel_rfl)]
  rw [Lib.run_noEscape]
  simp only [Result.andThen]
  rw [Oper.upon_value]
  go_wp2
  rw [Lib.run_from_unsafe w ⟨b, 0, none⟩ Tryz.underlying154 Tryz.underlying69 hj hsh liesB]
  simp only [Result.andThen]
  rw [Oper.upon_value]
  go_wp2
  go_end0
  exact ⟨rfl, rfl⟩

set_option maxRecDepth 100000 in
set_option maxHeartbeats 1000000 in
theorem copyCheck_used (b : Nat) (w : World) (h0 : w.cell? ⟨b, 0, none⟩ = some (.pointer (some ⟨b, 0, none⟩))) :
    Calls Tryz.prog 88 #[.pointer (some ⟨b, 0, none⟩)] w fun e w' => e = .returned (.tuple #[]) ∧ w' = w := by
  obtain ⟨j, hj, _⟩ := Option.map_eq_some_iff.1 sizeB
  go_enter Tryz.func88, Tryz.ntmps88
  go_wp2
  rw [Lib.run_neq_ptr_same w _ Tryz.underlying69 hj]
  go_wp2
  go_end0
  exact ⟨rfl, rfl⟩

theorem copyCheck_any (B b : Nat) (bs : List Value) (w : World) (h : Lib.IsBuilder 71 5 B b bs w) :
    Calls Tryz.prog 88 #[.pointer (some ⟨b, 0, none⟩)] w fun e w' => e = .returned (.tuple #[]) ∧ (Lib.BuilderAt 71 5 B b (.pointer (some ⟨b, 0, none⟩)) bs w' ∧ Below B w w') := by
  rcases h with h | h
  · refine (copyCheck_fresh b w h.cell0 h.shape h.frozen0).mono ?_
    rintro e w' ⟨rfl, rfl⟩
    exact ⟨rfl, h.used _, (Below.refl B w).setCell (p := ⟨b, 0, none⟩) h.1 _⟩
  · refine (copyCheck_used b w h.cell0).mono ?_
    rintro e w' ⟨rfl, rfl⟩
    exact ⟨rfl, h, Below.refl B _⟩

set_option maxRecDepth 100000 in
set_option maxHeartbeats 2000000 in
theorem writeByte_any (B b : Nat) (l : List UInt8) (c : UInt8) (w : World) (h : Bd w B b l) (hlen : l.length + 1 ≤ 140737488355328) (hBw : B ≤ w.heap.size) :
    Calls Tryz.prog 64 #[.pointer (some ⟨b, 0, none⟩), .int .u8 c.toNat] w fun e w' => e = .returned .nilIface ∧ Bd w' B b (l ++ [c]) ∧ Below B w w' := by
  go_enter Tryz.func64, Tryz.ntmps64
  go_wp2_with (go_at_call 88; refine (copyCheck_any B b _ _ h).mono ?_)
  rintro e w1 ⟨rfl, h1, hb1⟩
  have hl1 := h1.lt
  obtain ⟨hB, v, hbk, hown, hne⟩ := h1
  have c0 : w1.cell? ⟨b, 0, none⟩ = some (.pointer (some ⟨b, 0, none⟩)) := by rw [Lib.cell_of_heap hbk]; rfl
  have c1 : w1.cell? ⟨b, 1, none⟩ = some v := by rw [Lib.cell_of_heap hbk]; rfl
  have hown1 : Bs w1 B v l := by
    rw [Lib.byteCells_length] at hown
    exact hown
  have HO := hide hown1
  have HK := hide hbk
  have HN := hide hne
  have HB1 := hide hb1
  have hs1 : w.heap.size ≤ w1.heap.size := hb1.size
  clear hown hown1 hbk hne hb1
  go_wp2_with (at_builtin; refine wp_app rfl _ _ rfl B _ l rfl ?h1 ⟨w1.heap.size, 0, none⟩ 1 [c] rfl ?h2 ?h3 ?h4 ?_)
  case h1 => exact HO.out.below ((Below.refl _ _).alloc (Nat.le_refl _) _) (Nat.le_refl _)
  case h2 => exact one_at (by simp)
  case h3 => simp only [List.length_cons, List.length_nil]; omega
  case h4 => simp; omega
  intro v' w2 hv2 hg2
  obtain ⟨g, cap, rfl, hg3, hg4⟩ := hv2.form (by simp)
  have hb2 : w2.heap[b]? = some (.cells #[.pointer (some ⟨b, 0, none⟩), v] 71 (0, 0)) := by
    rw [hg2.block b (by simp; omega) (fun e => HN.out e.symm), Lib.alloc_old w1 _ b hl1]
    exact HK.out
  have d0 : w2.cell? ⟨b, 0, none⟩ = some (.pointer (some ⟨b, 0, none⟩)) := by rw [Lib.cell_of_heap hb2]; rfl
  have d1 : w2.cell? ⟨b, 1, none⟩ = some v := by rw [Lib.cell_of_heap hb2]; rfl
  have f1 : w2.frozen? ⟨b, 1, none⟩ = false := Lib.frozen_of_heap hb2 1
  have HB2 := hide hb2
  have HV2 := hide hv2
  have HG2 := hide hg2
  clear hb2 hv2 hg2
  go_wp2
  go_ret
  refine ⟨rfl, .inr (Lib.BuilderAt.put (T := 71) (e := 5) hB HB2.out (bs' := Lib.byteCells (l ++ [c])) ?_ (by decide)), ?_⟩
  · have := HV2.out
    unfold Bs at this
    rw [Lib.byteCells_length]
    simpa using this
  · exact ((HB1.out.alloc (by omega) _).grown HG2.out (by simp; omega) (fun k hk => (World.ownsRow.lt HO.out k hk).1)).setCell (p := ⟨b, 1, none⟩) hB _

theorem string_any (B b : Nat) (l : List UInt8) (w : World) (h : Bd w B b l) (hBw : B ≤ w.heap.size) :
    Calls Tryz.prog 37 #[.pointer (some ⟨b, 0, none⟩)] w fun e w' => e = .returned (.string ⟨l.toArray⟩) ∧ Below B w w' :=
  (Tryz.Builder_String_any_k B b l w (Lib.IsBuilderF.of h) hBw).mono fun _ _ ⟨a, _, c, _⟩ => ⟨a, c⟩

end Go.Proofs.YtkbhcajiebeepaaGreatDoor.Vp

/-
  strings.Builder: WriteString.
-/
namespace Go.Proofs.YtkbhcajiebeepaaGreatDoor.Vp
open Go.RowKit

set_option maxRecDepth 100000 in
set_option maxHeartbeats 2000000 in
theorem writeString_any (B b : Nat) (l l2 : List UInt8) (w : World) (h : Bd w B b l) (hlen : l.length + l2.length ≤ 140737488355328) (hBw : B ≤ w.heap.size) :
    Calls Tryz.prog 62 #[.pointer (some ⟨b, 0, none⟩), .string ⟨l2.toArray⟩] w fun e w' => (∃ x, e = .returned x) ∧ Bd w' B b (l ++ l2) ∧ Below B w w' := by
  go_enter Tryz.func62, Tryz.ntmps62
  go_wp2_with (go_at_call 88; refine (copyCheck_any B b _ _ h).mono ?_)
  rintro e w1 ⟨rfl, h1, hb1⟩
  have hl1 := h1.lt
  obtain ⟨hB, v, hbk, hown, hne⟩ := h1
  have c0 : w1.cell? ⟨b, 0, none⟩ = some (.pointer (some ⟨b, 0, none⟩)) := by rw [Lib.cell_of_heap hbk]; rfl
  have c1 : w1.cell? ⟨b, 1, none⟩ = some v := by rw [Lib.cell_of_heap hbk]; rfl
  have hown1 : Bs w1 B v l := by
    rw [Lib.byteCells_length] at hown
    exact hown
  have HO := hide hown1
  have HK := hide hbk
  have HN := hide hne
  have HB1 := hide hb1
  have hs1 : w.heap.size ≤ w1.heap.size := hb1.size
  clear hown hown1 hbk hne hb1
  go_wp2_with (at_builtin; refine wp_app_str rfl _ _ rfl B _ l rfl ?h1 l2 rfl ?h3 ?h4 ?_)
  case h1 => exact HO.out
  case h3 => omega
  case h4 => omega
  intro v' w2 hv2 hg2
  have hb2 : w2.heap[b]? = some (.cells #[.pointer (some ⟨b, 0, none⟩), v] 71 (0, 0)) := by
    rw [hg2.block b hl1 (fun e => HN.out e.symm)]
    exact HK.out
  have d0 : w2.cell? ⟨b, 0, none⟩ = some (.pointer (some ⟨b, 0, none⟩)) := by rw [Lib.cell_of_heap hb2]; rfl
  have d1 : w2.cell? ⟨b, 1, none⟩ = some v := by rw [Lib.cell_of_heap hb2]; rfl
  have f1 : w2.frozen? ⟨b, 1, none⟩ = false := Lib.frozen_of_heap hb2 1
  obtain ⟨ao, n', cap, rfl⟩ : ∃ ao n' cap, v' = .slice ao n' cap := by
    rcases hv2.2 with ⟨hv, _⟩ | ⟨g, cap, cur, hv, _⟩
    · exact ⟨_, _, _, hv⟩
    · exact ⟨_, _, _, hv⟩
  have HB2 := hide hb2
  have HV2 := hide hv2
  have HG2 := hide hg2
  clear hb2 hv2 hg2
  go_wp2
  go_ret2
  refine ⟨⟨_, rfl⟩, .inr (Lib.BuilderAt.put (T := 71) (e := 5) hB HB2.out (bs' := Lib.byteCells (l ++ l2)) ?_ (by decide)), ?_⟩
  · have := HV2.out
    unfold Bs at this
    rw [Lib.byteCells_length]
    exact this
  · exact (HB1.out.grown HG2.out (by omega) (fun k hk => (World.ownsRow.lt HO.out k hk).1)).setCell (p := ⟨b, 1, none⟩) hB _

end Go.Proofs.YtkbhcajiebeepaaGreatDoor.Vp

/-
  impl.quote.
-/
namespace Go.Proofs.YtkbhcajiebeepaaGreatDoor.Vp
open Go.RowKit

theorem hex_get (j : Nat) (h : j < (⟨#[48, 49, 50, 51, 52, 53, 54, 55, 56, 57, 97, 98, 99, 100, 101, 102]⟩ : ByteArray).size) : (⟨#[48, 49, 50, 51, 52, 53, 54, 55, 56, 57, 97, 98, 99, 100, 101, 102]⟩ : ByteArray)[j] = hexD j := by
  have h' : j < 16 := h
  rcases (show j = 0 ∨ j = 1 ∨ j = 2 ∨ j = 3 ∨ j = 4 ∨ j = 5 ∨ j = 6 ∨ j = 7 ∨ j = 8 ∨ j = 9 ∨ j = 10 ∨ j = 11 ∨ j = 12 ∨ j = 13 ∨ j = 14 ∨ j = 15 by omega) with rfl | rfl | rfl | rfl | rfl | rfl | rfl | rfl | rfl | rfl | rfl | rfl | rfl | rfl | rfl | rfl
  all_goals rfl

set_option maxRecDepth 100000 in
set_option maxHeartbeats 2000000 in
theorem quote_any (s : ByteArray) (w : World) (hs : s.size ≤ 2000) :
    Calls Tryz.prog 66 #[.string s] w fun e w' => e = .returned (.string ⟨(quoteB s.data.toList).toArray⟩) ∧ Below w.heap.size w w' := by
  have N0 := hide (Bd.new w)
  go_enter Tryz.func66, Tryz.ntmps66
  go_wp2_with fail
  refine (writeByte_any w.heap.size w.heap.size [] 34 _ N0.out (by simp) (by simp)).mono ?_
  rintro e w1 ⟨rfl, hD, hB⟩
  have HD := hide hD
  have HB : Hid (Below w.heap.size w w1) := ((Below.refl _ _).alloc (Nat.le_refl _) _).trans hB
  have hsz : w.heap.size + 1 ≤ w1.heap.size := by have := hB.size; simpa using this
  clear hD hB N0
  go_wp2
  go_loopw [8] (fun i wr => ∃ k : Nat, k ≤ s.size ∧ i = .int .i64 k ∧ Bd wr w.heap.size w.heap.size (qTo s.data.toList k) ∧ Below w.heap.size w wr ∧ w.heap.size < wr.heap.size) (fun i _ => s.size - (intOf i).toNat)
  case atStart => exact ⟨0, by omega, rfl, HD.out, HB.out, hsz⟩
  case round =>
    clear hsz HD HB
    obtain ⟨k, hk, rfl, hD, hB, hsz⟩ := hrel
    have HD := hide hD
    have HB := hide hB
    clear hB hD
    have hql := qTo_le s.data.toList k
    by_cases hlt : k < s.size
    · have HQ := hide (qTo_succ s k hlt)
      have hc := s[k].toNat_lt
      go_wp2_with fail
      refine (plain_any s[k] _).mono ?_
      rintro e w' ⟨rfl, rfl⟩
      cases hp : plainC s[k] with
      | true =>
        have HE : Hid (enc s[k] = [s[k]]) := by
          show enc s[k] = [s[k]]
          unfold enc
          rw [if_pos hp]
        clear hp
        go_wp2_with fail
        refine (writeByte_any w.heap.size w.heap.size _ s[k] _ HD.out (by omega) (by omega)).mono ?_
        rintro e w2 ⟨rfl, hD2, hB2⟩
        have HD2 := hide hD2
        have HB2 := hide (HB.out.trans hB2)
        have hs2 := Nat.lt_of_lt_of_le hsz hB2.size
        clear hD2 hB2
        go_wp2
        exact ⟨⟨k + 1, by omega, by go_num, by rw [HQ.out, HE.out]; exact HD2.out, HB2.out, hs2⟩, by simp [intOf]; omega⟩
      | false =>
        have HE : Hid (enc s[k] = [92] ++ hex2 s[k]) := by
          show enc s[k] = [92] ++ hex2 s[k]
          unfold enc
          rw [if_neg (by simp [hp])]
          rfl
        clear hp
        go_wp2_with fail
        refine (writeByte_any w.heap.size w.heap.size _ 92 _ HD.out (by omega) (by omega)).mono ?_
        rintro e w2 ⟨rfl, hD2, hB2⟩
        have HD2 := hide hD2
        have HB2 := hide (HB.out.trans hB2)
        have hs2 := Nat.lt_of_lt_of_le hsz hB2.size
        clear hD2 hB2
        go_wp2_with fail
        refine (writeByte_any w.heap.size w.heap.size _ _ _ HD2.out (by simp; omega) (by omega)).mono ?_
        rintro e w3 ⟨rfl, hD3, hB3⟩
        have HD3 := hide hD3
        have HB3 := hide (HB2.out.trans hB3)
        have hs3 := Nat.lt_of_lt_of_le hs2 hB3.size
        clear hD3 hB3
        go_wp2_with fail
        refine (writeByte_any w.heap.size w.heap.size _ _ _ HD3.out (by simp; omega) (by omega)).mono ?_
        rintro e w4 ⟨rfl, hD4, hB4⟩
        have HD4 := hide hD4
        have HB4 := hide (HB3.out.trans hB4)
        have hs4 := Nat.lt_of_lt_of_le hs3 hB4.size
        clear hD4 hB4
        go_wp2
        exact ⟨⟨k + 1, by omega, by go_num, by rw [HQ.out, HE.out]; simpa [hex2, hex_get] using HD4.out, HB4.out, hs4⟩, by simp [intOf]; omega⟩
    · have e : k = s.size := by omega
      subst e
      have HQ : Hid (quoteB s.data.toList = qTo s.data.toList s.size ++ [34]) := by
        show quoteB s.data.toList = qTo s.data.toList s.size ++ [34]
        unfold quoteB
        simp
      go_wp2_with fail
      refine (writeByte_any w.heap.size w.heap.size _ 34 _ HD.out (by omega) (by omega)).mono ?_
      rintro e w2 ⟨rfl, hD2, hB2⟩
      have HD2 := hide hD2
      have HB2 := hide (HB.out.trans hB2)
      have hs2 := Nat.lt_of_lt_of_le hsz hB2.size
      clear hD2 hB2
      rw [← HQ.out] at HD2
      go_wp2_with fail
      refine (string_any w.heap.size w.heap.size _ _ HD2.out (by omega)).mono ?_
      rintro e w3 ⟨rfl, hB3⟩
      go_wp2
      go_ret
      exact ⟨rfl, HB2.out.trans hB3⟩

end Go.Proofs.YtkbhcajiebeepaaGreatDoor.Vp

/-
  impl.printIns, impl.PrintProgram.
-/
namespace Go.Proofs.YtkbhcajiebeepaaGreatDoor.Vp
open Go.RowKit

set_option maxRecDepth 100000 in
set_option maxHeartbeats 1000000 in
theorem printIns_text (k : Nat) (s : ByteArray) (n mt : Int) (wd : List UInt8) (w : World) (hs : s.size ≤ 2000) (h1 : (k : Int) ≤ 15) (hz : 4 < w.heap.size) (hwd : wd.length ≤ 6)
    (c0 : w.cell? ⟨4, k * 5, none⟩ = some (.string ⟨wd.toArray⟩)) (c1 : w.cell? ⟨4, k * 5 + 1, none⟩ = some (.int .i64 mt)) (hm : 0 < mt) :
    Calls Tryz.prog 91 #[.agg #[.int .i64 k, .string s, .int .i64 n]] w fun e w' => e = .returned (.string ⟨(wd ++ (32 :: quoteB s.data.toList)).toArray⟩) ∧ Below w.heap.size w w' := by
  have hq := quoteB_le s.data.toList
  have hl : s.data.toList.length = s.size := by simp
  rw [hl] at hq
  clear hl
  go_enter Tryz.func91, Tryz.ntmps91
  go_wp2_with (go_at_call 66; refine (quote_any _ _ hs).mono ?_; rintro e w' ⟨rfl, hB⟩)
  all_goals go_ret
  refine ⟨ret_str ?_, ((Below.refl _ _).alloc (Nat.le_refl _) _).trans (hB.mono (by simp))⟩
  apply ByteArray.ext
  simp

set_option maxRecDepth 100000 in
set_option maxHeartbeats 1000000 in
theorem printIns_num (k m : Nat) (s : ByteArray) (mn : Int) (wd : List UInt8) (w : World) (hmm : m ≤ 2000) (h1 : (k : Int) ≤ 15) (hz : 4 < w.heap.size) (hwd : wd.length ≤ 6) (hP : Pow w)
    (c0 : w.cell? ⟨4, k * 5, none⟩ = some (.string ⟨wd.toArray⟩)) (c1 : w.cell? ⟨4, k * 5 + 1, none⟩ = some (.int .i64 0)) (c2 : w.cell? ⟨4, k * 5 + 2, none⟩ = some (.int .i64 mn)) (hm : 0 < mn) :
    Calls Tryz.prog 91 #[.agg #[.int .i64 k, .string s, .int .i64 m]] w fun e w' => e = .returned (.string ⟨(wd ++ (32 :: Lib.decDigits m)).toArray⟩) ∧ Below w.heap.size w w' := by
  have hq := dec_len m hmm
  have HP := hide hP
  clear hP
  go_enter Tryz.func91, Tryz.ntmps91
  go_wp2_with fail
  have B0 := hide ((Below.refl _ _).alloc (Nat.le_refl w.heap.size) (.cells #[.int .i64 k, .string s, .int .i64 m] 54))
  refine (Tryz.strconv_Itoa (m : Int) (by omega) (by omega) _ (HP.out.below B0.out (Nat.le_refl _))).mono ?_
  rintro e w' ⟨rfl, j, os, hw⟩
  have hB : Below (w.heap.size + 1) (w.alloc (.cells #[.int .i64 k, .string s, .int .i64 m] 54)) w' := by
    rw [hw]
    exact below_of_heap (os := os) rfl rfl rfl rfl (by simp)
  have HB := hide hB
  clear hB hw
  rw [Lib.itoa_nonneg]
  go_wp2
  all_goals go_ret
  refine ⟨ret_str ?_, B0.out.trans (HB.out.mono (by omega))⟩
  apply ByteArray.ext
  simp

set_option maxRecDepth 100000 in
set_option maxHeartbeats 1000000 in
theorem printIns_bare (k : Nat) (s : ByteArray) (n : Int) (wd : List UInt8) (w : World) (h1 : (k : Int) ≤ 15) (hz : 4 < w.heap.size)
    (c0 : w.cell? ⟨4, k * 5, none⟩ = some (.string ⟨wd.toArray⟩)) (c1 : w.cell? ⟨4, k * 5 + 1, none⟩ = some (.int .i64 0)) (c2 : w.cell? ⟨4, k * 5 + 2, none⟩ = some (.int .i64 0)) :
    Calls Tryz.prog 91 #[.agg #[.int .i64 k, .string s, .int .i64 n]] w fun e w' => e = .returned (.string ⟨wd.toArray⟩) ∧ Below w.heap.size w w' := by
  go_enter Tryz.func91, Tryz.ntmps91
  go_wp2
  go_ret
  exact ⟨rfl, (Below.refl _ _).alloc (Nat.le_refl _) _⟩

theorem word_le : ∀ k : Nat, k < 16 → (word (k : Int)).length ≤ 6 := by
  intro k hk
  rcases (show k = 0 ∨ k = 1 ∨ k = 2 ∨ k = 3 ∨ k = 4 ∨ k = 5 ∨ k = 6 ∨ k = 7 ∨ k = 8 ∨ k = 9 ∨ k = 10 ∨ k = 11 ∨ k = 12 ∨ k = 13 ∨ k = 14 ∨ k = 15 by omega) with rfl | rfl | rfl | rfl | rfl | rfl | rfl | rfl | rfl | rfl | rfl | rfl | rfl | rfl | rfl | rfl
  all_goals decide

theorem printIns_any (op : Int) (s : ByteArray) (n : Int) (w : World) (h : insOk op s.size n = true) (hT : Tab w) (hW : TabW w) (hP : Pow w) :
    Calls Tryz.prog 91 #[.agg #[.int .i64 op, .string s, .int .i64 n]] w fun e w' => e = .returned (.string ⟨(lineB op s.data.toList n).toArray⟩) ∧ Below w.heap.size w w' := by
  obtain ⟨k, rfl⟩ : ∃ k : Nat, op = k := by
    rcases insOk_cases h with ⟨rfl, _⟩ | ⟨hop, _⟩ | ⟨hop, _⟩
    · exact ⟨1, rfl⟩
    · exact ⟨op.toNat, by omega⟩
    · exact ⟨op.toNat, by omega⟩
  have hk : k < 16 := by
    unfold insOk at h
    rw [decide_eq_true_eq] at h
    omega
  have c0 := hW k hk
  obtain ⟨c1, c2⟩ := hT.2 k hk
  rcases insOk_cases h with ⟨e1, hs, rfl⟩ | ⟨hop, rfl, m, rfl, hm⟩ | ⟨hop, rfl, rfl⟩
  · have e : lineB k s.data.toList 0 = word k ++ (32 :: quoteB s.data.toList) := by rw [e1]; rfl
    rw [e]
    exact printIns_text k s 0 _ _ w hs (by omega) hT.1 (word_le k hk) c0 c1 (by rw [e1]; decide)
  · have e : lineB k [] m = word k ++ (32 :: Lib.decDigits m) := by
      rcases hop with h | h | h | h | h <;> rw [h] <;> simp [lineB, kind]
    have t0 : mostText k = 0 := by rcases hop with h | h | h | h | h <;> rw [h] <;> decide
    have t1 : 0 < mostN k := by rcases hop with h | h | h | h | h <;> rw [h] <;> decide
    rw [show (⟨#[]⟩ : ByteArray).data.toList = [] from rfl, e]
    rw [t0] at c1
    exact printIns_num k m _ _ _ w hm (by omega) hT.1 (word_le k hk) hP c0 c1 c2 t1
  · have e : lineB k [] 0 = word k := by
      rcases hop with h | h | h | h | h | h | h | h | h <;> rw [h] <;> simp [lineB, kind]
    have t0 : mostText k = 0 := by rcases hop with h | h | h | h | h | h | h | h | h <;> rw [h] <;> decide
    have t1 : mostN k = 0 := by rcases hop with h | h | h | h | h | h | h | h | h <;> rw [h] <;> decide
    rw [show (⟨#[]⟩ : ByteArray).data.toList = [] from rfl, e]
    rw [t0] at c1
    rw [t1] at c2
    exact printIns_bare k _ 0 _ w (by omega) hT.1 c0 c1 c2

end Go.Proofs.YtkbhcajiebeepaaGreatDoor.Vp
