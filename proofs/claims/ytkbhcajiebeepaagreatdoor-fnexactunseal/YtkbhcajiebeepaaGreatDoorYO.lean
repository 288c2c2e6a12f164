/-
  Put together of: PaImplR.
-/
import Derived.Test.YtkbhcajiebeepaaGreatDoorZG
import Derived.Test.YtkbhcajiebeepaaGreatDoorZN
import Derived.Test.YtkbhcajiebeepaaGreatDoorYK
import Derived.Test.YtkbhcajiebeepaaGreatDoorYG
import Derived.Deep.DeepCutAuto

/-
  ParseProgram, impl: readIns.
-/
namespace Go.Proofs.YtkbhcajiebeepaaGreatDoor.Vp
open Go.RowKit

/-- What the reading of a line leans on. -/
structure Lay (w : World) : Prop where
  tw : TabW w
  tb : Tab w
  q : EV w 3
  n : EV w 2
  wd : EV w 0
  op : EV w 5
  bd : EV w 6
  sy : EV w 11
  ra : EV w 12
  pw : Pow w
  pl : 7 < w.heap.size
theorem tab_low {w w' : World} {B : Nat} (h : Tab w) (hb : Below B w w') (hB : 4 < B) : Tab w' :=
  ⟨Nat.lt_of_lt_of_le h.1 hb.size, fun k hk => ⟨(hb.cell (p := ⟨4, _, none⟩) hB).trans (h.2 k hk).1, (hb.cell (p := ⟨4, _, none⟩) hB).trans (h.2 k hk).2⟩⟩
theorem Lay.below {w w' : World} {B : Nat} (h : Lay w) (hb : Below B w w') (hB : w.heap.size ≤ B) : Lay w' :=
  ⟨h.tw.below hb (Nat.lt_of_lt_of_le h.tb.1 hB), tab_low h.tb hb (Nat.lt_of_lt_of_le h.tb.1 hB), h.q.below hb (Nat.lt_of_lt_of_le h.q.1 hB), h.n.below hb (Nat.lt_of_lt_of_le h.n.1 hB), h.wd.below hb (Nat.lt_of_lt_of_le h.wd.1 hB), h.op.below hb (Nat.lt_of_lt_of_le h.op.1 hB), h.bd.below hb (Nat.lt_of_lt_of_le h.bd.1 hB), h.sy.below hb (Nat.lt_of_lt_of_le h.sy.1 hB), h.ra.below hb (Nat.lt_of_lt_of_le h.ra.1 hB), h.pw.below hb hB, Nat.lt_of_lt_of_le h.pl hb.size⟩
theorem Lay.low {w0 w w' : World} {B : Nat} (h0 : Lay w0) (h : Lay w) (hb : Below B w w') (hB : w0.heap.size ≤ B) : Lay w' :=
  ⟨h.tw.below hb (Nat.lt_of_lt_of_le h0.tb.1 hB), tab_low h.tb hb (Nat.lt_of_lt_of_le h0.tb.1 hB), h.q.below hb (Nat.lt_of_lt_of_le h0.q.1 hB), h.n.below hb (Nat.lt_of_lt_of_le h0.n.1 hB), h.wd.below hb (Nat.lt_of_lt_of_le h0.wd.1 hB), h.op.below hb (Nat.lt_of_lt_of_le h0.op.1 hB), h.bd.below hb (Nat.lt_of_lt_of_le h0.bd.1 hB), h.sy.below hb (Nat.lt_of_lt_of_le h0.sy.1 hB), h.ra.below hb (Nat.lt_of_lt_of_le h0.ra.1 hB), h.pw.low hb (Nat.lt_of_lt_of_le h0.pl hB), Nat.lt_of_lt_of_le h.pl hb.size⟩
/-- What readIns answers. -/
def RdPost (o : Option I3) (e : Ending) : Prop := match o with
  | some i => e = .returned (.tuple #[.agg #[.int .i64 i.1, .string ⟨i.2.1.toArray⟩, .int .i64 i.2.2], .nilIface])
  | none => ∃ t p, e = .returned (.tuple #[.agg #[.int .i64 0, .string ⟨#[]⟩, .int .i64 0], .iface t p])
theorem RdPost.err {o : Option I3} (h : o = none) {t : TypeId} {p : Value} : RdPost o (.returned (.tuple #[.agg #[.int .i64 0, .string ⟨#[]⟩, .int .i64 0], .iface t p])) := by
  rw [h]
  exact ⟨t, p, rfl⟩
theorem RdPost.ok {o : Option I3} {k : Int} {t : List UInt8} {n : Int} (h : o = some (k, t, n)) : RdPost o (.returned (.tuple #[.agg #[.int .i64 k, .string ⟨t.toArray⟩, .int .i64 n], .nilIface])) := by
  rw [h]
  rfl
theorem read_no {line : List UInt8} (h : ∀ op s n, opF (cutC 32 line).1 = op → insOk op s.length n = true → ¬ (if kind op = 1 then (cutC 32 line).2.1 = quoteB s else if kind op = 0 then (cutC 32 line).2.2 = false else (cutC 32 line).2.1 = Lib.itoa n)) : readL line = none :=
  readL_none fun i hi => by
    obtain ⟨h1, h2, h3⟩ := isLine_iff.1 hi
    exact h _ _ _ h1 h2 h3
theorem read_yes {line : List UInt8} {op : Int} {s : List UInt8} {n : Int} (h1 : opF (cutC 32 line).1 = op) (h2 : insOk op s.length n = true) (h3 : if kind op = 1 then (cutC 32 line).2.1 = quoteB s else if kind op = 0 then (cutC 32 line).2.2 = false else (cutC 32 line).2.1 = Lib.itoa n) : readL line = some (op, s, n) :=
  readL_some (i := (op, s, n)) (isLine_iff.2 ⟨h1, h2, h3⟩)
theorem ins_lt {op : Int} {sz : Nat} {n : Int} (h : insOk op sz n = true) : (-9223372036854775808 ≤ n ∧ n ≤ 9223372036854775807) := by
  obtain ⟨h1, _, h3, h4⟩ := ins_of h
  have := (most_kind h1).2.2
  omega

set_option maxRecDepth 100000 in
set_option maxHeartbeats 4000000 in
theorem readIns_word (line : ByteArray) (w : World) (hs : line.size ≤ 16777216) (hL : Lay w) (hop : opF (cutC 32 line.data.toList).1 = 0) :
    Calls Tryz.prog 81 #[.string line] w fun e w' => RdPost (readL line.data.toList) e ∧ Below w.heap.size w w' := by
  have hcl := cutC_len 32 line.data.toList
  rw [size_toL] at hcl
  have CU := fun V => cut1_any line 32 V (by unfold maxLen; omega)
  have HR : Hid (readL line.data.toList = none) := read_no fun op s n h1 h2 _ => by
    rw [hop] at h1
    obtain ⟨h3, _⟩ := ins_of h2
    omega
  have OPC := fun V h1 h2 => opOf_any ⟨(cutC 32 line.data.toList).1.toArray⟩ V h1 h2
  have hop2 : opF ((⟨(cutC 32 line.data.toList).1.toArray⟩ : ByteArray).data.toList) = 0 := hop
  rw [hop2] at OPC
  clear hop2
  have A0 := hide ((Below.refl w.heap.size w).alloc (Nat.le_refl _) (.cells #[.int .i64 0, .string ⟨#[]⟩, .int .i64 0] 54))
  have R0 := hide (CI.new w (.int .i64 0) (.string ⟨#[]⟩) (.int .i64 0))
  have L0 := hide (hL.below A0.out (Nat.le_refl _))
  have z0 : (w.alloc (.cells #[.int .i64 0, .string ⟨#[]⟩, .int .i64 0] 54)).heap.size = w.heap.size + 1 := by simp
  have HL0 := hide hL
  clear hL
  go_enter Tryz.func81, Tryz.ntmps81
  go_wp2_with fail
  generalize w.alloc (.cells #[.int .i64 0, .string ⟨#[]⟩, .int .i64 0] 54) = WA at A0 R0 L0 z0 ⊢
  refine (CU _).mono ?_
  rintro e w1 ⟨rfl, m, hw1⟩
  have D1 : Below WA.heap.size WA w1 := by rw [hw1]; exact below_drewN (Below.refl _ _) m
  have A1 := hide (A0.out.trans (D1.mono (by omega)))
  have R1 := hide (R0.out.below D1 (by omega))
  have L1 := hide (L0.out.below D1 (Nat.le_refl _))
  have z1 : w1.heap.size = w.heap.size + 1 := by rw [hw1]; exact z0
  clear hw1 D1 A0 R0 L0 z0 CU
  go_wp2_with fail
  refine (OPC w1 L1.out.tw L1.out.tb.1).mono ?_
  rintro e w' ⟨rfl, hw'⟩
  rw [hw']
  clear hw' OPC
  have I2 := hide (CI.new w1 (.int .i64 0) (.string ⟨#[]⟩) (.int .i64 0))
  rw [z1] at I2
  have X2 := (Below.refl w1.heap.size w1).alloc (Nat.le_refl _) (.cells #[.int .i64 0, .string ⟨#[]⟩, .int .i64 0] 54)
  have B2 := hide (A1.out.trans (X2.mono (by omega)))
  have R2 := hide (R1.out.below X2 (by omega))
  have L2 := hide (L1.out.below X2 (Nat.le_refl _))
  clear X2
  go_upto_region 4 with fail
  generalize w1.alloc (.cells #[.int .i64 0, .string ⟨#[]⟩, .int .i64 0] 54) = W2 at I2 B2 R2 L2 ⊢
  clear A1 R1 L1 z1
  have z2 : w.heap.size < W2.heap.size := R2.out.lt
  have z2' : w.heap.size + 1 < W2.heap.size := I2.out.lt
  have i0 := I2.out.c0
  obtain ⟨hzw, te, pe, hev⟩ := L2.out.wd
  have d0 := R2.out.c0
  have d1 := R2.out.c1
  have d2 := R2.out.c2
  have df0 := R2.out.fz 0
  have df1 := R2.out.fz 1
  have df2 := R2.out.fz 2
  go_wp2
  try simp only [Exit.inBlock, Exit.then]
  refine bodyPost_ret (res_ins rfl _ _ w.heap.size _ _ _ rfl (R2.out.all _ _ _)) rfl ?_
  exact ⟨RdPost.err HR.out, ((B2.out.setCell (p := ⟨w.heap.size, 0, none⟩) (Nat.le_refl _) _).setCell (p := ⟨w.heap.size, 1, none⟩) (Nat.le_refl _) _).setCell (p := ⟨w.heap.size, 2, none⟩) (Nat.le_refl _) _⟩

set_option maxRecDepth 100000 in
set_option maxHeartbeats 4000000 in
theorem readIns_text (line : ByteArray) (w : World) (hs : line.size ≤ 16777216) (hL : Lay w) (k : Nat) (h1 : 1 ≤ (k : Int)) (h2 : (k : Int) ≤ 15) (hop : opF (cutC 32 line.data.toList).1 = k) (hm : 0 < mostText k) :
    Calls Tryz.prog 81 #[.string line] w fun e w' => RdPost (readL line.data.toList) e ∧ Below w.heap.size w w' := by
  have hcl := cutC_len 32 line.data.toList
  rw [size_toL] at hcl
  have CU := fun V => cut1_any line 32 V (by unfold maxLen; omega)
  have hk1 : kind k = 1 := (kind_text ⟨h1, h2⟩).1.2 hm
  have OPC := fun V h1 h2 => opOf_any ⟨(cutC 32 line.data.toList).1.toArray⟩ V h1 h2
  have hop2 : opF ((⟨(cutC 32 line.data.toList).1.toArray⟩ : ByteArray).data.toList) = (k : Int) := hop
  rw [hop2] at OPC
  clear hop2
  have A0 := hide ((Below.refl w.heap.size w).alloc (Nat.le_refl _) (.cells #[.int .i64 0, .string ⟨#[]⟩, .int .i64 0] 54))
  have R0 := hide (CI.new w (.int .i64 0) (.string ⟨#[]⟩) (.int .i64 0))
  have L0 := hide (hL.below A0.out (Nat.le_refl _))
  have z0 : (w.alloc (.cells #[.int .i64 0, .string ⟨#[]⟩, .int .i64 0] 54)).heap.size = w.heap.size + 1 := by simp
  have HL0 := hide hL
  clear hL
  go_enter Tryz.func81, Tryz.ntmps81
  go_wp2_with fail
  generalize w.alloc (.cells #[.int .i64 0, .string ⟨#[]⟩, .int .i64 0] 54) = WA at A0 R0 L0 z0 ⊢
  refine (CU _).mono ?_
  rintro e w1 ⟨rfl, m, hw1⟩
  have D1 : Below WA.heap.size WA w1 := by rw [hw1]; exact below_drewN (Below.refl _ _) m
  have A1 := hide (A0.out.trans (D1.mono (by omega)))
  have R1 := hide (R0.out.below D1 (by omega))
  have L1 := hide (L0.out.below D1 (Nat.le_refl _))
  have z1 : w1.heap.size = w.heap.size + 1 := by rw [hw1]; exact z0
  clear hw1 D1 A0 R0 L0 z0 CU
  go_wp2_with fail
  refine (OPC w1 L1.out.tw L1.out.tb.1).mono ?_
  rintro e w' ⟨rfl, hw'⟩
  rw [hw']
  clear hw' OPC
  have I2 := hide (CI.new w1 (.int .i64 (k : Int)) (.string ⟨#[]⟩) (.int .i64 0))
  rw [z1] at I2
  have X2 := (Below.refl w1.heap.size w1).alloc (Nat.le_refl _) (.cells #[.int .i64 (k : Int), .string ⟨#[]⟩, .int .i64 0] 54)
  have B2 := hide (A1.out.trans (X2.mono (by omega)))
  have R2 := hide (R1.out.below X2 (by omega))
  have L2 := hide (L1.out.below X2 (Nat.le_refl _))
  clear X2
  go_upto_region 4 with fail
  generalize w1.alloc (.cells #[.int .i64 (k : Int), .string ⟨#[]⟩, .int .i64 0] 54) = W2 at I2 B2 R2 L2 ⊢
  clear A1 R1 L1 z1
  have z2 : w.heap.size < W2.heap.size := R2.out.lt
  have z2' : w.heap.size + 1 < W2.heap.size := I2.out.lt
  have i0 := I2.out.c0
  have k0 : ((k : Int) == 0) = false := by simp; omega
  have k16 : (k : Int) < 16 := by omega
  obtain ⟨t1, t2⟩ := L2.out.tb.2 k (by omega)
  have hrw := L2.out.tb.1
  have UQ := fun V h => unquote_any ⟨(cutC 32 line.data.toList).2.1.toArray⟩ V (by show (cutC 32 line.data.toList).2.1.length ≤ _; omega) h
  generalize mostText (k : Int) = mt at t1 hm
  generalize mostN (k : Int) = mn at t2
  go_wp2_with fail
  clear t1 t2 i0
  refine (UQ _ L2.out.q).mono ?_
  rintro e w3 ⟨hu, hB3⟩
  have I3 := hide (I2.out.below hB3 I2.out.lt)
  have R3 := hide (R2.out.below hB3 z2)
  have B3 := hide (B2.out.trans (hB3.mono (Nat.le_of_lt z2)))
  have L3 := hide (L2.out.below hB3 (Nat.le_refl _))
  clear hB3 UQ I2 R2 B2 L2 hrw
  have z3 : w.heap.size < w3.heap.size := R3.out.lt
  have z3' : w.heap.size + 1 < w3.heap.size := I3.out.lt
  have c0 := I3.out.c0
  have c1 := I3.out.c1
  have c2 := I3.out.c2
  have cf1 := I3.out.fz 1
  rcases hu with ⟨t, ht, rfl⟩ | ⟨hno, te, pe, rfl⟩
  · have I4 := hide (I3.out.set1 (.string ⟨t.toArray⟩))
    have R4 := hide (R3.out.other ⟨w.heap.size + 1, 1, none⟩ (by show w.heap.size + 1 ≠ w.heap.size; omega) (.string ⟨t.toArray⟩))
    have X4 : Below (w.heap.size + 1) w3 (w3.setCell ⟨w.heap.size + 1, 1, none⟩ (.string ⟨t.toArray⟩)) := (Below.refl _ _).setCell (p := ⟨w.heap.size + 1, 1, none⟩) (Nat.le_refl _) _
    have B4 := hide (B3.out.setCell (p := ⟨w.heap.size + 1, 1, none⟩) (by show w.heap.size ≤ w.heap.size + 1; omega) (.string ⟨t.toArray⟩))
    have L4 := hide (Lay.low HL0.out L3.out X4 (by omega))
    clear X4 I3 R3 B3 L3
    have HYES := hide (fun (h : insOk (k : Int) t.length 0 = true) => read_yes (line := line.data.toList) (s := t) (n := 0) hop h (by rw [if_pos hk1]; exact ht))
    have HNOT : Hid (insOk (k : Int) t.length 0 = false → readL line.data.toList = none) := fun hf => read_no fun op s n e1 e2 e3 => by
      rw [hop] at e1
      subst e1
      rw [if_pos hk1, show (cutC 32 line.data.toList).2.1 = quoteB t from ht] at e3
      have e4 := (quote_parts (mid := t.flatMap enc) (by rw [quoteB_eq]) s).1 e3
      have e5 := flat_enc_inj e4
      obtain ⟨_, _, e7, e8⟩ := ins_of e2
      have e9 := (most_kind ⟨h1, h2⟩).2.1 (.inl hk1)
      have e10 : n = 0 := by omega
      rw [← e5, e10, hf] at e2
      exact absurd e2 (by simp)
    go_upto_region 12 with fail
    clear c0 c1 c2 cf1
    generalize w3.setCell ⟨w.heap.size + 1, 1, none⟩ (.string ⟨t.toArray⟩) = W4 at I4 R4 B4 L4 ⊢
    have z4 : w.heap.size < W4.heap.size := R4.out.lt
    have z4' : w.heap.size + 1 < W4.heap.size := I4.out.lt
    have c0 := I4.out.c0
    have c1 := I4.out.c1
    have c2 := I4.out.c2
    have VI : ∀ V, Tab V → Calls Tryz.prog 112 #[.agg #[.int .i64 (k : Int), .string ⟨(t).toArray⟩, .int .i64 0]] V fun e w' => e = .returned (.bool (insOk (k : Int) (t).length 0)) ∧ Below V.heap.size V w' := fun V hV => validIns_any (k : Int) ⟨(t).toArray⟩ 0 V hV
    go_wp2_with fail
    refine (VI _ L4.out.tb).mono ?_
    rintro e w5 ⟨rfl, hB5⟩
    clear c0 c1 c2 VI
    have I5 := hide (I4.out.below hB5 z4')
    have R5 := hide (R4.out.below hB5 z4)
    have B5 := hide (B4.out.trans (hB5.mono (Nat.le_of_lt z4)))
    obtain ⟨hzb, te, pe, hbd⟩ := L4.out.bd.below hB5 L4.out.bd.1
    clear hB5 I4 R4 B4 L4
    have z5 : w.heap.size < w5.heap.size := R5.out.lt
    have g6 : ¬ w.heap.size = 6 := by have := HL0.out.bd.1; omega
    have g6' : ¬ 6 = w.heap.size := by omega
    have d0 := R5.out.c0
    have d1 := R5.out.c1
    have d2 := R5.out.c2
    have df0 := R5.out.fz 0
    have df1 := R5.out.fz 1
    have df2 := R5.out.fz 2
    cases hok : insOk (k : Int) (t).length 0 with
    | false =>
      have HR := hide (HNOT.out hok)
      clear HNOT HYES
      go_wp2_with fail
      go_region
      all_goals
        go_wp2
        try simp only [Exit.inBlock, Exit.then]
        refine bodyPost_ret (res_ins rfl _ _ w.heap.size _ _ _ rfl (R5.out.all _ _ _)) rfl ?_
        exact ⟨RdPost.err HR.out, (((below_drewN B5.out _).setCell (p := ⟨w.heap.size, 0, none⟩) (Nat.le_refl _) _).setCell (p := ⟨w.heap.size, 1, none⟩) (Nat.le_refl _) _).setCell (p := ⟨w.heap.size, 2, none⟩) (Nat.le_refl _) _⟩
    | true =>
      have HR := hide (HYES.out hok)
      clear HNOT HYES
      have c0 := I5.out.c0
      have c1 := I5.out.c1
      have c2 := I5.out.c2
      go_wp2
      try simp only [Exit.inBlock, Exit.then]
      refine bodyPost_ret (res_ins rfl _ _ w.heap.size _ _ _ rfl (R5.out.all _ _ _)) rfl ?_
      exact ⟨RdPost.ok HR.out, ((B5.out.setCell (p := ⟨w.heap.size, 0, none⟩) (Nat.le_refl _) _).setCell (p := ⟨w.heap.size, 1, none⟩) (Nat.le_refl _) _).setCell (p := ⟨w.heap.size, 2, none⟩) (Nat.le_refl _) _⟩
  · have HR : Hid (readL line.data.toList = none) := read_no fun op s n e1 e2 e3 => by
      rw [hop] at e1
      subst e1
      rw [if_pos hk1] at e3
      exact hno s e3
    have R4 := hide (R3.out.other ⟨w.heap.size + 1, 1, none⟩ (by show w.heap.size + 1 ≠ w.heap.size; omega) (.string ⟨#[]⟩))
    have B4 := hide (B3.out.setCell (p := ⟨w.heap.size + 1, 1, none⟩) (by show w.heap.size ≤ w.heap.size + 1; omega) (.string ⟨#[]⟩))
    have d0 := R4.out.c0
    have d1 := R4.out.c1
    have d2 := R4.out.c2
    have df0 := R4.out.fz 0
    have df1 := R4.out.fz 1
    have df2 := R4.out.fz 2
    go_wp2
    try simp only [Exit.inBlock, Exit.then]
    refine bodyPost_ret (res_ins rfl _ _ w.heap.size _ _ _ rfl (R4.out.all _ _ _)) rfl ?_
    exact ⟨RdPost.err HR.out, ((B4.out.setCell (p := ⟨w.heap.size, 0, none⟩) (Nat.le_refl _) _).setCell (p := ⟨w.heap.size, 1, none⟩) (Nat.le_refl _) _).setCell (p := ⟨w.heap.size, 2, none⟩) (Nat.le_refl _) _⟩

set_option maxRecDepth 100000 in
set_option maxHeartbeats 4000000 in
theorem readIns_num (line : ByteArray) (w : World) (hs : line.size ≤ 16777216) (hL : Lay w) (k : Nat) (h1 : 1 ≤ (k : Int)) (h2 : (k : Int) ≤ 15) (hop : opF (cutC 32 line.data.toList).1 = k) (hm : ¬ 0 < mostText k) (hm2 : 0 < mostN k) :
    Calls Tryz.prog 81 #[.string line] w fun e w' => RdPost (readL line.data.toList) e ∧ Below w.heap.size w w' := by
  have hcl := cutC_len 32 line.data.toList
  rw [size_toL] at hcl
  have CU := fun V => cut1_any line 32 V (by unfold maxLen; omega)
  have hk1 : ¬ kind k = 1 := fun h => hm ((kind_text ⟨h1, h2⟩).1.1 h)
  have hk0 : ¬ kind k = 0 := fun h => ((kind_text ⟨h1, h2⟩).2.1 h).2 hm2
  have OPC := fun V h1 h2 => opOf_any ⟨(cutC 32 line.data.toList).1.toArray⟩ V h1 h2
  have hop2 : opF ((⟨(cutC 32 line.data.toList).1.toArray⟩ : ByteArray).data.toList) = (k : Int) := hop
  rw [hop2] at OPC
  clear hop2
  have A0 := hide ((Below.refl w.heap.size w).alloc (Nat.le_refl _) (.cells #[.int .i64 0, .string ⟨#[]⟩, .int .i64 0] 54))
  have R0 := hide (CI.new w (.int .i64 0) (.string ⟨#[]⟩) (.int .i64 0))
  have L0 := hide (hL.below A0.out (Nat.le_refl _))
  have z0 : (w.alloc (.cells #[.int .i64 0, .string ⟨#[]⟩, .int .i64 0] 54)).heap.size = w.heap.size + 1 := by simp
  have HL0 := hide hL
  clear hL
  go_enter Tryz.func81, Tryz.ntmps81
  go_wp2_with fail
  generalize w.alloc (.cells #[.int .i64 0, .string ⟨#[]⟩, .int .i64 0] 54) = WA at A0 R0 L0 z0 ⊢
  refine (CU _).mono ?_
  rintro e w1 ⟨rfl, m, hw1⟩
  have D1 : Below WA.heap.size WA w1 := by rw [hw1]; exact below_drewN (Below.refl _ _) m
  have A1 := hide (A0.out.trans (D1.mono (by omega)))
  have R1 := hide (R0.out.below D1 (by omega))
  have L1 := hide (L0.out.below D1 (Nat.le_refl _))
  have z1 : w1.heap.size = w.heap.size + 1 := by rw [hw1]; exact z0
  clear hw1 D1 A0 R0 L0 z0 CU
  go_wp2_with fail
  refine (OPC w1 L1.out.tw L1.out.tb.1).mono ?_
  rintro e w' ⟨rfl, hw'⟩
  rw [hw']
  clear hw' OPC
  have I2 := hide (CI.new w1 (.int .i64 (k : Int)) (.string ⟨#[]⟩) (.int .i64 0))
  rw [z1] at I2
  have X2 := (Below.refl w1.heap.size w1).alloc (Nat.le_refl _) (.cells #[.int .i64 (k : Int), .string ⟨#[]⟩, .int .i64 0] 54)
  have B2 := hide (A1.out.trans (X2.mono (by omega)))
  have R2 := hide (R1.out.below X2 (by omega))
  have L2 := hide (L1.out.below X2 (Nat.le_refl _))
  clear X2
  go_upto_region 4 with fail
  generalize w1.alloc (.cells #[.int .i64 (k : Int), .string ⟨#[]⟩, .int .i64 0] 54) = W2 at I2 B2 R2 L2 ⊢
  clear A1 R1 L1 z1
  have z2 : w.heap.size < W2.heap.size := R2.out.lt
  have z2' : w.heap.size + 1 < W2.heap.size := I2.out.lt
  have i0 := I2.out.c0
  have k0 : ((k : Int) == 0) = false := by simp; omega
  have k16 : (k : Int) < 16 := by omega
  obtain ⟨t1, t2⟩ := L2.out.tb.2 k (by omega)
  have hrw := L2.out.tb.1
  have UQ := fun V a b c d => readNumber_any ⟨(cutC 32 line.data.toList).2.1.toArray⟩ V (by show (cutC 32 line.data.toList).2.1.length ≤ _; omega) a b c d
  generalize mostText (k : Int) = mt at t1 hm
  generalize mostN (k : Int) = mn at t2 hm2
  go_wp2_with fail
  clear t1 t2 i0
  refine (UQ _ L2.out.sy L2.out.ra L2.out.n L2.out.pw).mono ?_
  rintro e w3 ⟨hu, hB3⟩
  have I3 := hide (I2.out.below hB3 I2.out.lt)
  have R3 := hide (R2.out.below hB3 z2)
  have B3 := hide (B2.out.trans (hB3.mono (Nat.le_of_lt z2)))
  have L3 := hide (L2.out.below hB3 (Nat.le_refl _))
  clear hB3 UQ I2 R2 B2 L2 hrw
  have z3 : w.heap.size < w3.heap.size := R3.out.lt
  have z3' : w.heap.size + 1 < w3.heap.size := I3.out.lt
  have c0 := I3.out.c0
  have c1 := I3.out.c1
  have c2 := I3.out.c2
  have cf2 := I3.out.fz 2
  rcases hu with ⟨n, hn, rfl⟩ | ⟨hno, te, pe, rfl⟩
  · have I4 := hide (I3.out.set2 (.int .i64 n))
    have R4 := hide (R3.out.other ⟨w.heap.size + 1, 2, none⟩ (by show w.heap.size + 1 ≠ w.heap.size; omega) (.int .i64 n))
    have X4 : Below (w.heap.size + 1) w3 (w3.setCell ⟨w.heap.size + 1, 2, none⟩ (.int .i64 n)) := (Below.refl _ _).setCell (p := ⟨w.heap.size + 1, 2, none⟩) (Nat.le_refl _) _
    have B4 := hide (B3.out.setCell (p := ⟨w.heap.size + 1, 2, none⟩) (by show w.heap.size ≤ w.heap.size + 1; omega) (.int .i64 n))
    have L4 := hide (Lay.low HL0.out L3.out X4 (by omega))
    clear X4 I3 R3 B3 L3
    have HYES := hide (fun (h : insOk (k : Int) ([] : List UInt8).length n = true) => read_yes (line := line.data.toList) (s := []) (n := n) hop h (by rw [if_neg hk1, if_neg hk0]; exact hn.1))
    have HNOT : Hid (insOk (k : Int) ([] : List UInt8).length n = false → readL line.data.toList = none) := fun hf => read_no fun op s n' e1 e2 e3 => by
      rw [hop] at e1
      subst e1
      rw [if_neg hk1, if_neg hk0] at e3
      have e4 := isNum_ok (s := (cutC 32 line.data.toList).2.1) ⟨e3, ins_lt e2⟩
      have e5 : Lib.atoiAll (cutC 32 line.data.toList).2.1 = .ok n := isNum_ok hn
      rw [e5] at e4
      cases e4
      obtain ⟨_, e6, _, _⟩ := ins_of e2
      have e9 := (most_kind ⟨h1, h2⟩).1 hk1
      have e10 : s.length = 0 := by omega
      rw [e10] at e2
      rw [show ([] : List UInt8).length = 0 from rfl, e2] at hf
      exact absurd hf (by simp)
    go_upto_region 12 with fail
    clear c0 c1 c2 cf2
    generalize w3.setCell ⟨w.heap.size + 1, 2, none⟩ (.int .i64 n) = W4 at I4 R4 B4 L4 ⊢
    have z4 : w.heap.size < W4.heap.size := R4.out.lt
    have z4' : w.heap.size + 1 < W4.heap.size := I4.out.lt
    have c0 := I4.out.c0
    have c1 := I4.out.c1
    have c2 := I4.out.c2
    have VI : ∀ V, Tab V → Calls Tryz.prog 112 #[.agg #[.int .i64 (k : Int), .string ⟨([] : List UInt8).toArray⟩, .int .i64 n]] V fun e w' => e = .returned (.bool (insOk (k : Int) ([] : List UInt8).length n)) ∧ Below V.heap.size V w' := fun V hV => validIns_any (k : Int) ⟨([] : List UInt8).toArray⟩ n V hV
    go_wp2_with fail
    refine (VI _ L4.out.tb).mono ?_
    rintro e w5 ⟨rfl, hB5⟩
    clear c0 c1 c2 VI
    have I5 := hide (I4.out.below hB5 z4')
    have R5 := hide (R4.out.below hB5 z4)
    have B5 := hide (B4.out.trans (hB5.mono (Nat.le_of_lt z4)))
    obtain ⟨hzb, te, pe, hbd⟩ := L4.out.bd.below hB5 L4.out.bd.1
    clear hB5 I4 R4 B4 L4
    have z5 : w.heap.size < w5.heap.size := R5.out.lt
    have g6 : ¬ w.heap.size = 6 := by have := HL0.out.bd.1; omega
    have g6' : ¬ 6 = w.heap.size := by omega
    have d0 := R5.out.c0
    have d1 := R5.out.c1
    have d2 := R5.out.c2
    have df0 := R5.out.fz 0
    have df1 := R5.out.fz 1
    have df2 := R5.out.fz 2
    cases hok : insOk (k : Int) ([] : List UInt8).length n with
    | false =>
      have HR := hide (HNOT.out hok)
      clear HNOT HYES
      go_wp2_with fail
      go_region
      all_goals
        go_wp2
        try simp only [Exit.inBlock, Exit.then]
        refine bodyPost_ret (res_ins rfl _ _ w.heap.size _ _ _ rfl (R5.out.all _ _ _)) rfl ?_
        exact ⟨RdPost.err HR.out, (((below_drewN B5.out _).setCell (p := ⟨w.heap.size, 0, none⟩) (Nat.le_refl _) _).setCell (p := ⟨w.heap.size, 1, none⟩) (Nat.le_refl _) _).setCell (p := ⟨w.heap.size, 2, none⟩) (Nat.le_refl _) _⟩
    | true =>
      have HR := hide (HYES.out hok)
      clear HNOT HYES
      have c0 := I5.out.c0
      have c1 := I5.out.c1
      have c2 := I5.out.c2
      go_wp2
      try simp only [Exit.inBlock, Exit.then]
      refine bodyPost_ret (res_ins rfl _ _ w.heap.size _ _ _ rfl (R5.out.all _ _ _)) rfl ?_
      exact ⟨RdPost.ok HR.out, ((B5.out.setCell (p := ⟨w.heap.size, 0, none⟩) (Nat.le_refl _) _).setCell (p := ⟨w.heap.size, 1, none⟩) (Nat.le_refl _) _).setCell (p := ⟨w.heap.size, 2, none⟩) (Nat.le_refl _) _⟩
  · have HR : Hid (readL line.data.toList = none) := read_no fun op s n e1 e2 e3 => by
      rw [hop] at e1
      subst e1
      rw [if_neg hk1, if_neg hk0] at e3
      exact hno n ⟨e3, ins_lt e2⟩
    have R4 := hide (R3.out.other ⟨w.heap.size + 1, 2, none⟩ (by show w.heap.size + 1 ≠ w.heap.size; omega) (.int .i64 0))
    have B4 := hide (B3.out.setCell (p := ⟨w.heap.size + 1, 2, none⟩) (by show w.heap.size ≤ w.heap.size + 1; omega) (.int .i64 0))
    have d0 := R4.out.c0
    have d1 := R4.out.c1
    have d2 := R4.out.c2
    have df0 := R4.out.fz 0
    have df1 := R4.out.fz 1
    have df2 := R4.out.fz 2
    go_wp2
    try simp only [Exit.inBlock, Exit.then]
    refine bodyPost_ret (res_ins rfl _ _ w.heap.size _ _ _ rfl (R4.out.all _ _ _)) rfl ?_
    exact ⟨RdPost.err HR.out, ((B4.out.setCell (p := ⟨w.heap.size, 0, none⟩) (Nat.le_refl _) _).setCell (p := ⟨w.heap.size, 1, none⟩) (Nat.le_refl _) _).setCell (p := ⟨w.heap.size, 2, none⟩) (Nat.le_refl _) _⟩

set_option maxRecDepth 100000 in
set_option maxHeartbeats 4000000 in
theorem readIns_spaced (line : ByteArray) (w : World) (hs : line.size ≤ 16777216) (hL : Lay w) (k : Nat) (h1 : 1 ≤ (k : Int)) (h2 : (k : Int) ≤ 15) (hop : opF (cutC 32 line.data.toList).1 = k) (hm : ¬ 0 < mostText k) (hm2 : ¬ 0 < mostN k) (hsp : (cutC 32 line.data.toList).2.2 = true) :
    Calls Tryz.prog 81 #[.string line] w fun e w' => RdPost (readL line.data.toList) e ∧ Below w.heap.size w w' := by
  have hcl := cutC_len 32 line.data.toList
  rw [size_toL] at hcl
  have CU := fun V => cut1_any line 32 V (by unfold maxLen; omega)
  have hk1 : ¬ kind k = 1 := fun h => hm ((kind_text ⟨h1, h2⟩).1.1 h)
  have hk0 : kind k = 0 := (kind_text ⟨h1, h2⟩).2.2 ⟨hm, hm2⟩
  have HR : Hid (readL line.data.toList = none) := read_no fun op s n e1 e2 e3 => by
    rw [hop] at e1
    subst e1
    rw [if_neg hk1, if_pos hk0, hsp] at e3
    exact absurd e3 (by simp)
  clear hk1 hk0
  have OPC := fun V h1 h2 => opOf_any ⟨(cutC 32 line.data.toList).1.toArray⟩ V h1 h2
  have hop2 : opF ((⟨(cutC 32 line.data.toList).1.toArray⟩ : ByteArray).data.toList) = (k : Int) := hop
  rw [hop2] at OPC
  clear hop2
  have A0 := hide ((Below.refl w.heap.size w).alloc (Nat.le_refl _) (.cells #[.int .i64 0, .string ⟨#[]⟩, .int .i64 0] 54))
  have R0 := hide (CI.new w (.int .i64 0) (.string ⟨#[]⟩) (.int .i64 0))
  have L0 := hide (hL.below A0.out (Nat.le_refl _))
  have z0 : (w.alloc (.cells #[.int .i64 0, .string ⟨#[]⟩, .int .i64 0] 54)).heap.size = w.heap.size + 1 := by simp
  have HL0 := hide hL
  clear hL
  go_enter Tryz.func81, Tryz.ntmps81
  go_wp2_with fail
  generalize w.alloc (.cells #[.int .i64 0, .string ⟨#[]⟩, .int .i64 0] 54) = WA at A0 R0 L0 z0 ⊢
  refine (CU _).mono ?_
  rintro e w1 ⟨rfl, m, hw1⟩
  have D1 : Below WA.heap.size WA w1 := by rw [hw1]; exact below_drewN (Below.refl _ _) m
  have A1 := hide (A0.out.trans (D1.mono (by omega)))
  have R1 := hide (R0.out.below D1 (by omega))
  have L1 := hide (L0.out.below D1 (Nat.le_refl _))
  have z1 : w1.heap.size = w.heap.size + 1 := by rw [hw1]; exact z0
  clear hw1 D1 A0 R0 L0 z0 CU
  go_wp2_with fail
  refine (OPC w1 L1.out.tw L1.out.tb.1).mono ?_
  rintro e w' ⟨rfl, hw'⟩
  rw [hw']
  clear hw' OPC
  have I2 := hide (CI.new w1 (.int .i64 (k : Int)) (.string ⟨#[]⟩) (.int .i64 0))
  rw [z1] at I2
  have X2 := (Below.refl w1.heap.size w1).alloc (Nat.le_refl _) (.cells #[.int .i64 (k : Int), .string ⟨#[]⟩, .int .i64 0] 54)
  have B2 := hide (A1.out.trans (X2.mono (by omega)))
  have R2 := hide (R1.out.below X2 (by omega))
  have L2 := hide (L1.out.below X2 (Nat.le_refl _))
  clear X2
  go_upto_region 4 with fail
  generalize w1.alloc (.cells #[.int .i64 (k : Int), .string ⟨#[]⟩, .int .i64 0] 54) = W2 at I2 B2 R2 L2 ⊢
  clear A1 R1 L1 z1
  have z2 : w.heap.size < W2.heap.size := R2.out.lt
  have z2' : w.heap.size + 1 < W2.heap.size := I2.out.lt
  have i0 := I2.out.c0
  have k0 : ((k : Int) == 0) = false := by simp; omega
  have k16 : (k : Int) < 16 := by omega
  obtain ⟨t1, t2⟩ := L2.out.tb.2 k (by omega)
  have hrw := L2.out.tb.1
  generalize mostText (k : Int) = mt at t1 hm
  generalize mostN (k : Int) = mn at t2 hm2
  obtain ⟨hzo, te, pe, hev⟩ := L2.out.op
  have d0 := R2.out.c0
  have d1 := R2.out.c1
  have d2 := R2.out.c2
  have df0 := R2.out.fz 0
  have df1 := R2.out.fz 1
  have df2 := R2.out.fz 2
  go_wp2
  try simp only [Exit.inBlock, Exit.then]
  refine bodyPost_ret (res_ins rfl _ _ w.heap.size _ _ _ rfl (R2.out.all _ _ _)) rfl ?_
  exact ⟨RdPost.err HR.out, ((B2.out.setCell (p := ⟨w.heap.size, 0, none⟩) (Nat.le_refl _) _).setCell (p := ⟨w.heap.size, 1, none⟩) (Nat.le_refl _) _).setCell (p := ⟨w.heap.size, 2, none⟩) (Nat.le_refl _) _⟩

set_option maxRecDepth 100000 in
set_option maxHeartbeats 4000000 in
theorem readIns_bare (line : ByteArray) (w : World) (hs : line.size ≤ 16777216) (hL : Lay w) (k : Nat) (h1 : 1 ≤ (k : Int)) (h2 : (k : Int) ≤ 15) (hop : opF (cutC 32 line.data.toList).1 = k) (hm : ¬ 0 < mostText k) (hm2 : ¬ 0 < mostN k) (hsp : (cutC 32 line.data.toList).2.2 = false) :
    Calls Tryz.prog 81 #[.string line] w fun e w' => RdPost (readL line.data.toList) e ∧ Below w.heap.size w w' := by
  have hcl := cutC_len 32 line.data.toList
  rw [size_toL] at hcl
  have CU := fun V => cut1_any line 32 V (by unfold maxLen; omega)
  have hk1 : ¬ kind k = 1 := fun h => hm ((kind_text ⟨h1, h2⟩).1.1 h)
  have hk0 : kind k = 0 := (kind_text ⟨h1, h2⟩).2.2 ⟨hm, hm2⟩
  have HYES := hide (fun (h : insOk (k : Int) ([] : List UInt8).length 0 = true) => read_yes (line := line.data.toList) (s := []) (n := 0) hop h (by rw [if_neg hk1, if_pos hk0]; exact hsp))
  have HNOT : Hid (insOk (k : Int) ([] : List UInt8).length 0 = false → readL line.data.toList = none) := fun hf => read_no fun op s n' e1 e2 e3 => by
    rw [hop] at e1
    subst e1
    obtain ⟨_, e6, e7, e8⟩ := ins_of e2
    have e9 := (most_kind ⟨h1, h2⟩).1 hk1
    have e10 := (most_kind ⟨h1, h2⟩).2.1 (.inr hk0)
    have e11 : s.length = 0 := by omega
    have e12 : n' = 0 := by omega
    rw [e11, e12] at e2
    rw [show ([] : List UInt8).length = 0 from rfl, e2] at hf
    exact absurd hf (by simp)
  clear hk1 hk0
  have OPC := fun V h1 h2 => opOf_any ⟨(cutC 32 line.data.toList).1.toArray⟩ V h1 h2
  have hop2 : opF ((⟨(cutC 32 line.data.toList).1.toArray⟩ : ByteArray).data.toList) = (k : Int) := hop
  rw [hop2] at OPC
  clear hop2
  have A0 := hide ((Below.refl w.heap.size w).alloc (Nat.le_refl _) (.cells #[.int .i64 0, .string ⟨#[]⟩, .int .i64 0] 54))
  have R0 := hide (CI.new w (.int .i64 0) (.string ⟨#[]⟩) (.int .i64 0))
  have L0 := hide (hL.below A0.out (Nat.le_refl _))
  have z0 : (w.alloc (.cells #[.int .i64 0, .string ⟨#[]⟩, .int .i64 0] 54)).heap.size = w.heap.size + 1 := by simp
  have HL0 := hide hL
  clear hL
  go_enter Tryz.func81, Tryz.ntmps81
  go_wp2_with fail
  generalize w.alloc (.cells #[.int .i64 0, .string ⟨#[]⟩, .int .i64 0] 54) = WA at A0 R0 L0 z0 ⊢
  refine (CU _).mono ?_
  rintro e w1 ⟨rfl, m, hw1⟩
  have D1 : Below WA.heap.size WA w1 := by rw [hw1]; exact below_drewN (Below.refl _ _) m
  have A1 := hide (A0.out.trans (D1.mono (by omega)))
  have R1 := hide (R0.out.below D1 (by omega))
  have L1 := hide (L0.out.below D1 (Nat.le_refl _))
  have z1 : w1.heap.size = w.heap.size + 1 := by rw [hw1]; exact z0
  clear hw1 D1 A0 R0 L0 z0 CU
  go_wp2_with fail
  refine (OPC w1 L1.out.tw L1.out.tb.1).mono ?_
  rintro e w' ⟨rfl, hw'⟩
  rw [hw']
  clear hw' OPC
  have I2 := hide (CI.new w1 (.int .i64 (k : Int)) (.string ⟨#[]⟩) (.int .i64 0))
  rw [z1] at I2
  have X2 := (Below.refl w1.heap.size w1).alloc (Nat.le_refl _) (.cells #[.int .i64 (k : Int), .string ⟨#[]⟩, .int .i64 0] 54)
  have B2 := hide (A1.out.trans (X2.mono (by omega)))
  have R2 := hide (R1.out.below X2 (by omega))
  have L2 := hide (L1.out.below X2 (Nat.le_refl _))
  clear X2
  go_upto_region 4 with fail
  generalize w1.alloc (.cells #[.int .i64 (k : Int), .string ⟨#[]⟩, .int .i64 0] 54) = W2 at I2 B2 R2 L2 ⊢
  clear A1 R1 L1 z1
  have z2 : w.heap.size < W2.heap.size := R2.out.lt
  have z2' : w.heap.size + 1 < W2.heap.size := I2.out.lt
  have i0 := I2.out.c0
  have k0 : ((k : Int) == 0) = false := by simp; omega
  have k16 : (k : Int) < 16 := by omega
  obtain ⟨t1, t2⟩ := L2.out.tb.2 k (by omega)
  have hrw := L2.out.tb.1
  generalize mostText (k : Int) = mt at t1 hm
  generalize mostN (k : Int) = mn at t2 hm2
  go_upto_region 12 with fail
  clear t1 t2 i0 hrw
  have I4 := I2
  have R4 := R2
  have B4 := B2
  have L4 := L2
  clear I2 R2 B2 L2
  generalize W2 = W4 at I4 R4 B4 L4 z2 z2' ⊢
  have z4 : w.heap.size < W4.heap.size := R4.out.lt
  have z4' : w.heap.size + 1 < W4.heap.size := I4.out.lt
  have c0 := I4.out.c0
  have c1 := I4.out.c1
  have c2 := I4.out.c2
  have VI : ∀ V, Tab V → Calls Tryz.prog 112 #[.agg #[.int .i64 (k : Int), .string ⟨([] : List UInt8).toArray⟩, .int .i64 0]] V fun e w' => e = .returned (.bool (insOk (k : Int) ([] : List UInt8).length 0)) ∧ Below V.heap.size V w' := fun V hV => validIns_any (k : Int) ⟨([] : List UInt8).toArray⟩ 0 V hV
  go_wp2_with fail
  refine (VI _ L4.out.tb).mono ?_
  rintro e w5 ⟨rfl, hB5⟩
  clear c0 c1 c2 VI
  have I5 := hide (I4.out.below hB5 z4')
  have R5 := hide (R4.out.below hB5 z4)
  have B5 := hide (B4.out.trans (hB5.mono (Nat.le_of_lt z4)))
  obtain ⟨hzb, te, pe, hbd⟩ := L4.out.bd.below hB5 L4.out.bd.1
  clear hB5 I4 R4 B4 L4
  have z5 : w.heap.size < w5.heap.size := R5.out.lt
  have g6 : ¬ w.heap.size = 6 := by have := HL0.out.bd.1; omega
  have g6' : ¬ 6 = w.heap.size := by omega
  have d0 := R5.out.c0
  have d1 := R5.out.c1
  have d2 := R5.out.c2
  have df0 := R5.out.fz 0
  have df1 := R5.out.fz 1
  have df2 := R5.out.fz 2
  cases hok : insOk (k : Int) ([] : List UInt8).length 0 with
  | false =>
    have HR := hide (HNOT.out hok)
    clear HNOT HYES
    go_wp2_with fail
    go_region
    all_goals
      go_wp2
      try simp only [Exit.inBlock, Exit.then]
      refine bodyPost_ret (res_ins rfl _ _ w.heap.size _ _ _ rfl (R5.out.all _ _ _)) rfl ?_
      exact ⟨RdPost.err HR.out, (((below_drewN B5.out _).setCell (p := ⟨w.heap.size, 0, none⟩) (Nat.le_refl _) _).setCell (p := ⟨w.heap.size, 1, none⟩) (Nat.le_refl _) _).setCell (p := ⟨w.heap.size, 2, none⟩) (Nat.le_refl _) _⟩
  | true =>
    have HR := hide (HYES.out hok)
    clear HNOT HYES
    have c0 := I5.out.c0
    have c1 := I5.out.c1
    have c2 := I5.out.c2
    go_wp2
    try simp only [Exit.inBlock, Exit.then]
    refine bodyPost_ret (res_ins rfl _ _ w.heap.size _ _ _ rfl (R5.out.all _ _ _)) rfl ?_
    exact ⟨RdPost.ok HR.out, ((B5.out.setCell (p := ⟨w.heap.size, 0, none⟩) (Nat.le_refl _) _).setCell (p := ⟨w.heap.size, 1, none⟩) (Nat.le_refl _) _).setCell (p := ⟨w.heap.size, 2, none⟩) (Nat.le_refl _) _⟩

theorem readIns_any (line : ByteArray) (w : World) (hs : line.size ≤ 16777216) (hL : Lay w) :
    Calls Tryz.prog 81 #[.string line] w fun e w' => RdPost (readL line.data.toList) e ∧ Below w.heap.size w w' := by
  rcases opF_inv (cutC 32 line.data.toList).1 with ⟨h0, _⟩ | ⟨h1, h2, _⟩
  · exact readIns_word line w hs hL h0
  · obtain ⟨k, hk⟩ := Int.eq_ofNat_of_zero_le (show 0 ≤ opF (cutC 32 line.data.toList).1 by omega)
    have h1 : 1 ≤ (k : Int) := by rw [← hk]; exact h1
    have h2 : (k : Int) ≤ 15 := by rw [← hk]; exact h2
    by_cases hm : 0 < mostText k
    · exact readIns_text line w hs hL k h1 h2 hk hm
    · by_cases hm2 : 0 < mostN k
      · exact readIns_num line w hs hL k h1 h2 hk hm hm2
      · cases hsp : (cutC 32 line.data.toList).2.2 with
        | true => exact readIns_spaced line w hs hL k h1 h2 hk hm hm2 hsp
        | false => exact readIns_bare line w hs hL k h1 h2 hk hm hm2 hsp

end Go.Proofs.YtkbhcajiebeepaaGreatDoor.Vp
