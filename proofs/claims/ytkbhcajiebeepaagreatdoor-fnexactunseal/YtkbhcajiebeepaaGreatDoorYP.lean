/-
  Put together of: RaDeed, RaGood.
-/
import Derived.Test.YtkbhcajiebeepaaGreatDoorZY
import Derived.Test.YtkbhcajiebeepaaGreatDoorYO

/-
  ReadAccount: a deed begins. Written by tools/radeed.py.
-/
namespace Go.Proofs.YtkbhcajiebeepaaGreatDoor.Vp
open Go.RowKit Go.Proofs.YtkbhcajiebeepaaGreatDoor.Ca

/-- What is read of the line of a deed. -/
def OkD (kind : Int) (rest : List UInt8) (n : Int) (t : List UInt8) : Prop :=
  if kind = 3 then IsNum (cutC 32 (cutC 32 rest).2.1).1 n ∧ (cutC 32 (cutC 32 rest).2.1).2.1 = quoteB t
  else if kind = 1 then n = 0 ∧ (cutC 32 rest).2.1 = quoteB t else n = 0 ∧ t = []
/-- What deed does. -/
def DdPost (w : World) (b base : Nat) (R : List DR) (kind : Int) (rest : List UInt8) (e : Ending) (w' : World) : Prop :=
  KR b base w w' ∧ ((∃ n t a c R', OkD kind rest n t ∧ e = .returned .nilIface ∧ RSt w' b base (.slice a R'.length c) R' ∧ R'.map (·.1) = R.map (·.1) ++ [newDeed ⟨(cutC 32 rest).1.toArray⟩ kind n ⟨t.toArray⟩]) ∨ ((∀ n t, ¬ OkD kind rest n t) ∧ ∃ ty p, e = .returned (.iface ty p)))
theorem RSt.len {w : World} {b base : Nat} {a : Option Addr} {c n : Nat} {R : List DR} (h : RSt w b base (.slice a n c) R) (hn : R.length = n) : RSt w b base (.slice a R.length c) R := by rw [hn]; exact h
theorem quoteB_len (t : List UInt8) : t.length ≤ (quoteB t).length := by
  have key : ∀ l : List UInt8, l.length ≤ (l.flatMap enc).length := fun l => by
    induction l with
    | nil => exact Nat.le_refl _
    | cons c l ih =>
      have := enc_pos c
      simp only [List.flatMap_cons, List.length_append, List.length_cons]
      omega
  rw [quoteB_eq]
  have := key t
  simp only [List.length_append, List.length_cons]
  omega

/-- A block of one deed. -/
def DBk (w : World) (g : Nat) (cs : Array Value) : Prop := w.heap[g]? = some (.cells cs 51 (0, 0))
theorem DBk.lt {w : World} {g : Nat} {cs : Array Value} (h : DBk w g cs) : g < w.heap.size := (Array.getElem?_eq_some_iff.1 h).1
theorem DBk.at {w : World} {g : Nat} {cs : Array Value} (h : DBk w g cs) (j : Nat) {u : Value} (hu : cs[j]? = some u) : w.cell? ⟨g, j, none⟩ = some u := by rw [Lib.cell_of_heap h]; exact hu
theorem DBk.fz {w : World} {g : Nat} {cs : Array Value} (h : DBk w g cs) (j : Nat) : w.frozen? ⟨g, j, none⟩ = false := Lib.frozen_of_heap h j
theorem DBk.below {w w' : World} {g B : Nat} {cs : Array Value} (h : DBk w g cs) (hb : Below B w w') (hB : g < B) : DBk w' g cs := (hb.block g hB).trans h
theorem DBk.set {w : World} {g : Nat} {cs : Array Value} (h : DBk w g cs) (j : Nat) (v : Value) : DBk (w.setCell ⟨g, j, none⟩ v) g (cs.setIfInBounds j v) := by
  unfold DBk at *
  simp [World.setCell, Array.getElem?_modify, h]

set_option maxRecDepth 100000 in
set_option maxHeartbeats 4000000 in
theorem deed2_any (b base : Nat) (a : Option Addr) (c : Nat) (R : List DR) (rest : ByteArray) (w : World) (hS : RSt w b base (.slice a R.length c) R) (hn : (R.length : Int) ≤ 400000) (hr : rest.size ≤ 400000) :
    Calls Tryz.prog 58 #[.pointer (some ⟨b, 0, none⟩), .int .i64 2, .string rest] w fun e w' => DdPost w b base R 2 rest.data.toList e w' := by
  have CU := hide (fun V => cut1_any rest 32 V (by unfold maxLen; omega))
  have S0 := hide hS
  have OK : Hid (OkD 2 rest.data.toList 0 []) := ⟨rfl, rfl⟩
  have hcl := cutC_len 32 rest.data.toList
  rw [size_toL] at hcl
  unfold DdPost
  generalize rest.data.toList = S at CU OK hcl ⊢
  generalize cutC 32 S = P at CU OK hcl ⊢
  obtain ⟨nm, rs, sp⟩ := P
  dsimp only at CU OK hcl ⊢
  clear hS
  obtain ⟨i1, hi, hy0, hy1, hy2⟩ := info_parts infoDeed
  go_enter Tryz.func58, Tryz.ntmps58
  go_wp2_with fail
  refine (CU.out _).mono ?_
  rintro e w1 ⟨rfl, m, rfl⟩
  have B1 := below_drewN (Below.refl w.heap.size w) m
  generalize w.drewN m = W0 at B1 ⊢
  have A1 := B1.alloc B1.size (.cells #[.string ⟨nm.toArray⟩, .int .i64 2, .int .i64 0, .string ⟨#[]⟩, .slice none 0 0, .slice none 0 0] 51)
  have D1 : Hid (DBk (W0.alloc (.cells #[.string ⟨nm.toArray⟩, .int .i64 2, .int .i64 0, .string ⟨#[]⟩, .slice none 0 0, .slice none 0 0] 51)) W0.heap.size #[.string ⟨nm.toArray⟩, .int .i64 2, .int .i64 0, .string ⟨#[]⟩, .slice none 0 0, .slice none 0 0]) := heap_alloc_new W0 _
  have HA1 := hide A1
  clear B1 A1 CU
  go_upto_region 15 with fail
  generalize W0.alloc (.cells #[.string ⟨nm.toArray⟩, .int .i64 2, .int .i64 0, .string ⟨#[]⟩, .slice none 0 0, .slice none 0 0] 51) = W1 at HA1 D1 ⊢
  generalize W0.heap.size = dB at D1 ⊢
  have HA := HA1
  clear HA1
  have S1 := hide (S0.out.below HA.out)
  have K1 : Hid (KR b base w W1) := KR.of_below HA.out (Nat.le_refl _)
  have c0 := D1.out.at 0 rfl
  have c1 := D1.out.at 1 rfl
  have c2 := D1.out.at 2 rfl
  have c3 := D1.out.at 3 rfl
  have c4 := D1.out.at 4 rfl
  have c5 := D1.out.at 5 rfl
  have cl := D1.out.lt
  have r0 := S1.out.box.c0
  have r1 := S1.out.box.fz
  have r2 := S1.out.box.lt
  have hle := S1.out.le
  go_region_law (first
    | (refine step_append_own_at rfl (.tmp 55) (.tmp 57) 22 rfl base 51 i1 (.agg #[.string ⟨#[]⟩, .int .i64 0, .int .i64 0, .string ⟨#[]⟩, .slice none 0 0, .slice none 0 0]) 6 96 Tryz.underlying22 hi hy0 hy1 hy2 rfl (by decide) (.slice a R.length c) R.length (R.flatMap ddV) (by simp [Act.eval]) (by first | exact S1.out.row.own.alloc _ | exact S1.out.row.own.drew.alloc _ | exact S1.out.row.own.drew.drew.alloc _) ⟨W1.heap.size, 0, none⟩ 1 1 [.string ⟨nm.toArray⟩, .int .i64 2, .int .i64 0, .string ⟨#[]⟩, .slice none 0 0, .slice none 0 0] (by simp [Act.eval]) rfl (by first | exact six_at W1 _ _ _ _ _ _ _ | exact six_at W1.drew _ _ _ _ _ _ _ | exact six_at W1.drew.drew _ _ _ _ _ _ _) (by simp [Value.oneCell']) (by unfold maxLen; omega) (by omega) (by simp; omega) ?_; intro v6 w6 hown hgrow hat; (first | have Z6 := hide (S1.out.deed (Below.refl _ W1) hown hgrow) | have Z6 := hide (S1.out.deed (Below.refl _ W1).drew hown hgrow) | have Z6 := hide (S1.out.deed (Below.refl _ W1).drew.drew hown hgrow)); obtain ⟨a6, c6, rfl⟩ := cu_slice hown; have k0 := Z6.out.2.2.c0; have k1 := Z6.out.2.2.fz; have k2 := Z6.out.2.2.lt; clear hown hgrow hat))
  all_goals
    go_simp
    go_wp2
    go_ret
    exact ⟨K1.out.trans Z6.out.2.1, .inl ⟨0, [], a6, c6, R ++ [(newDeed ⟨nm.toArray⟩ 2 0 ⟨#[]⟩, .slice none 0 0, .slice none 0 0)], OK.out, rfl, Z6.out.1.len (by simp), by simp⟩⟩

set_option maxRecDepth 100000 in
set_option maxHeartbeats 4000000 in
theorem deed1_any (b base : Nat) (a : Option Addr) (c : Nat) (R : List DR) (rest : ByteArray) (w : World) (hS : RSt w b base (.slice a R.length c) R) (hn : (R.length : Int) ≤ 400000) (hr : rest.size ≤ 400000) (hL : Lay w) :
    Calls Tryz.prog 58 #[.pointer (some ⟨b, 0, none⟩), .int .i64 1, .string rest] w fun e w' => DdPost w b base R 1 rest.data.toList e w' := by
  have CU := hide (fun V => cut1_any rest 32 V (by unfold maxLen; omega))
  have S0 := hide hS
  have L0 := hide (fun V (hV : Below w.heap.size w V) => hL.below hV (Nat.le_refl _))
  have OK : Hid (∀ n t, OkD 1 rest.data.toList n t ↔ n = 0 ∧ (cutC 32 rest.data.toList).2.1 = quoteB t) := fun n t => Iff.rfl
  have hcl := cutC_len 32 rest.data.toList
  rw [size_toL] at hcl
  unfold DdPost
  generalize rest.data.toList = S at CU OK hcl ⊢
  generalize cutC 32 S = P at CU OK hcl ⊢
  obtain ⟨nm, rs, sp⟩ := P
  dsimp only at CU OK hcl ⊢
  clear hS hL
  obtain ⟨i1, hi, hy0, hy1, hy2⟩ := info_parts infoDeed
  go_enter Tryz.func58, Tryz.ntmps58
  go_wp2_with fail
  refine (CU.out _).mono ?_
  rintro e w1 ⟨rfl, m, rfl⟩
  have B1 := below_drewN (Below.refl w.heap.size w) m
  generalize w.drewN m = W0 at B1 ⊢
  have A1 := B1.alloc B1.size (.cells #[.string ⟨nm.toArray⟩, .int .i64 1, .int .i64 0, .string ⟨#[]⟩, .slice none 0 0, .slice none 0 0] 51)
  have D1 : Hid (DBk (W0.alloc (.cells #[.string ⟨nm.toArray⟩, .int .i64 1, .int .i64 0, .string ⟨#[]⟩, .slice none 0 0, .slice none 0 0] 51)) W0.heap.size #[.string ⟨nm.toArray⟩, .int .i64 1, .int .i64 0, .string ⟨#[]⟩, .slice none 0 0, .slice none 0 0]) := heap_alloc_new W0 _
  have HA1 := hide A1
  have HDB := hide B1.size
  clear B1 A1 CU
  go_upto_region 12 with fail
  generalize W0.alloc (.cells #[.string ⟨nm.toArray⟩, .int .i64 1, .int .i64 0, .string ⟨#[]⟩, .slice none 0 0, .slice none 0 0] 51) = W1 at HA1 D1 ⊢
  generalize W0.heap.size = dB at D1 HDB ⊢
  have hdB : w.heap.size ≤ dB := HDB.out
  have HA := HA1
  have D := D1
  clear HA1 D1
  have U1 := hide (unquote_any ⟨rs.toArray⟩ W1 (by show rs.length ≤ _; omega) (L0.out W1 HA.out).q)
  dsimp only [UqAll] at U1
  go_wp2_with fail
  refine U1.out.mono ?_
  rintro e w2 ⟨hU, hB2⟩
  have HA2 := hide (HA.out.trans (hB2.mono HA.out.size))
  have D2 := hide (D.out.below hB2 D.out.lt)
  clear hB2 U1
  have c3 := D2.out.at 3 rfl
  have f3 := D2.out.fz 3
  have cl := D2.out.lt
  rcases hU with ⟨t, ht, rfl⟩ | ⟨hno, ty, p, rfl⟩
  · have D3 := hide (D2.out.set 3 (.string ⟨t.toArray⟩))
    have HA3 := hide (HA2.out.setCell (p := ⟨dB, 3, none⟩) hdB (.string ⟨t.toArray⟩))
    have HT := hide ht
    clear ht
    go_upto_region 15 with fail
    generalize w2.setCell ⟨dB, 3, none⟩ (.string ⟨t.toArray⟩) = W3 at D3 HA3 ⊢
    clear c3 f3 cl D2 HA2 HA D
    have HA := HA3
    clear HA3
    have S1 := hide (S0.out.below HA.out)
    have K1 : Hid (KR b base w W3) := KR.of_below HA.out (Nat.le_refl _)
    have c0 := D3.out.at 0 rfl
    have c1 := D3.out.at 1 rfl
    have c2 := D3.out.at 2 rfl
    have c3 := D3.out.at 3 rfl
    have c4 := D3.out.at 4 rfl
    have c5 := D3.out.at 5 rfl
    have cl := D3.out.lt
    have r0 := S1.out.box.c0
    have r1 := S1.out.box.fz
    have r2 := S1.out.box.lt
    have hle := S1.out.le
    go_region_law (first
      | (refine step_append_own_at rfl (.tmp 55) (.tmp 57) 22 rfl base 51 i1 (.agg #[.string ⟨#[]⟩, .int .i64 0, .int .i64 0, .string ⟨#[]⟩, .slice none 0 0, .slice none 0 0]) 6 96 Tryz.underlying22 hi hy0 hy1 hy2 rfl (by decide) (.slice a R.length c) R.length (R.flatMap ddV) (by simp [Act.eval]) (by first | exact S1.out.row.own.alloc _ | exact S1.out.row.own.drew.alloc _ | exact S1.out.row.own.drew.drew.alloc _) ⟨W3.heap.size, 0, none⟩ 1 1 [.string ⟨nm.toArray⟩, .int .i64 1, .int .i64 0, .string ⟨t.toArray⟩, .slice none 0 0, .slice none 0 0] (by simp [Act.eval]) rfl (by first | exact six_at W3 _ _ _ _ _ _ _ | exact six_at W3.drew _ _ _ _ _ _ _ | exact six_at W3.drew.drew _ _ _ _ _ _ _) (by simp [Value.oneCell']) (by unfold maxLen; omega) (by omega) (by simp; omega) ?_; intro v6 w6 hown hgrow hat; (first | have Z6 := hide (S1.out.deed (Below.refl _ W3) hown hgrow) | have Z6 := hide (S1.out.deed (Below.refl _ W3).drew hown hgrow) | have Z6 := hide (S1.out.deed (Below.refl _ W3).drew.drew hown hgrow)); obtain ⟨a6, c6, rfl⟩ := cu_slice hown; have k0 := Z6.out.2.2.c0; have k1 := Z6.out.2.2.fz; have k2 := Z6.out.2.2.lt; clear hown hgrow hat))
    all_goals
      go_simp
      go_wp2
      go_ret
      exact ⟨K1.out.trans Z6.out.2.1, .inl ⟨0, t, a6, c6, R ++ [(newDeed ⟨nm.toArray⟩ 1 0 ⟨t.toArray⟩, .slice none 0 0, .slice none 0 0)], (OK.out 0 t).2 ⟨rfl, HT.out⟩, rfl, Z6.out.1.len (by simp), by simp⟩⟩
  · have HA3 := hide (HA2.out.setCell (p := ⟨dB, 3, none⟩) hdB (.string ⟨#[]⟩))
    go_wp2
    go_ret
    exact ⟨KR.of_below HA3.out (Nat.le_refl _), .inr ⟨fun n t h => hno t ((OK.out n t).1 h).2, ty, p, rfl⟩⟩

set_option maxRecDepth 100000 in
set_option maxHeartbeats 4000000 in
theorem deed3_any (b base : Nat) (a : Option Addr) (c : Nat) (R : List DR) (rest : ByteArray) (w : World) (hS : RSt w b base (.slice a R.length c) R) (hn : (R.length : Int) ≤ 400000) (hr : rest.size ≤ 400000) (hL : Lay w) :
    Calls Tryz.prog 58 #[.pointer (some ⟨b, 0, none⟩), .int .i64 3, .string rest] w fun e w' => DdPost w b base R 3 rest.data.toList e w' := by
  have CU := hide (fun V => cut1_any rest 32 V (by unfold maxLen; omega))
  have S0 := hide hS
  have L0 := hide (fun V (hV : Below w.heap.size w V) => hL.below hV (Nat.le_refl _))
  have OK : Hid (∀ n t, OkD 3 rest.data.toList n t ↔ IsNum (cutC 32 (cutC 32 rest.data.toList).2.1).1 n ∧ (cutC 32 (cutC 32 rest.data.toList).2.1).2.1 = quoteB t) := fun n t => Iff.rfl
  have hcl := cutC_len 32 rest.data.toList
  rw [size_toL] at hcl
  unfold DdPost
  generalize rest.data.toList = S at CU OK hcl ⊢
  generalize cutC 32 S = P at CU OK hcl ⊢
  obtain ⟨nm, rs, sp⟩ := P
  dsimp only at CU OK hcl ⊢
  have CU2 := hide (fun V => cut1_any ⟨rs.toArray⟩ 32 V (by show rs.length ≤ _; unfold maxLen; omega))
  have hcl2 := cutC_len 32 rs
  dsimp only at CU2
  generalize cutC 32 rs = P2 at CU2 OK hcl2
  obtain ⟨cd, r2, sp2⟩ := P2
  dsimp only at CU2 OK hcl2
  clear hS hL
  obtain ⟨i1, hi, hy0, hy1, hy2⟩ := info_parts infoDeed
  go_enter Tryz.func58, Tryz.ntmps58
  go_wp2_with fail
  refine (CU.out _).mono ?_
  rintro e w1 ⟨rfl, m, rfl⟩
  have B1 := below_drewN (Below.refl w.heap.size w) m
  generalize w.drewN m = W0 at B1 ⊢
  have A1 := B1.alloc B1.size (.cells #[.string ⟨nm.toArray⟩, .int .i64 3, .int .i64 0, .string ⟨#[]⟩, .slice none 0 0, .slice none 0 0] 51)
  have D1 : Hid (DBk (W0.alloc (.cells #[.string ⟨nm.toArray⟩, .int .i64 3, .int .i64 0, .string ⟨#[]⟩, .slice none 0 0, .slice none 0 0] 51)) W0.heap.size #[.string ⟨nm.toArray⟩, .int .i64 3, .int .i64 0, .string ⟨#[]⟩, .slice none 0 0, .slice none 0 0]) := heap_alloc_new W0 _
  have HA1 := hide A1
  have HDB := hide B1.size
  clear B1 A1 CU
  go_upto_region 8 with fail
  generalize W0.alloc (.cells #[.string ⟨nm.toArray⟩, .int .i64 3, .int .i64 0, .string ⟨#[]⟩, .slice none 0 0, .slice none 0 0] 51) = W1 at HA1 D1 ⊢
  generalize W0.heap.size = dB at D1 HDB ⊢
  have hdB : w.heap.size ≤ dB := HDB.out
  go_wp2_with fail
  refine (CU2.out _).mono ?_
  rintro e w1 ⟨rfl, m2, rfl⟩
  have B2 := below_drewN (Below.refl W1.heap.size W1) m2
  have HA2 := hide (HA1.out.trans (B2.mono HA1.out.size))
  have D2 := hide (D1.out.below B2 D1.out.lt)
  clear B2 HA1 D1 CU2
  generalize W1.drewN m2 = W2 at HA2 D2 ⊢
  have N2 := hide (readNumber_any ⟨cd.toArray⟩ W2 (by show cd.length ≤ _; omega) (L0.out W2 HA2.out).sy (L0.out W2 HA2.out).ra (L0.out W2 HA2.out).n (L0.out W2 HA2.out).pw)
  dsimp only [NumAll] at N2
  go_wp2_with fail
  refine N2.out.mono ?_
  rintro e w3 ⟨hN, hB3⟩
  have HA3 := hide (HA2.out.trans (hB3.mono HA2.out.size))
  have D3 := hide (D2.out.below hB3 D2.out.lt)
  clear hB3 N2 HA2 D2
  have c2 := D3.out.at 2 rfl
  have f2 := D3.out.fz 2
  have cl := D3.out.lt
  rcases hN with ⟨n, hN, rfl⟩ | ⟨hno, ty, p, rfl⟩
  · have D := hide (D3.out.set 2 (.int .i64 n))
    have HA := hide (HA3.out.setCell (p := ⟨dB, 2, none⟩) hdB (.int .i64 n))
    have HN := hide hN
    clear hN
    go_upto_region 12 with fail
    generalize w3.setCell ⟨dB, 2, none⟩ (.int .i64 n) = W4 at D HA ⊢
    clear c2 f2 cl D3 HA3
    have U1 := hide (unquote_any ⟨r2.toArray⟩ W4 (by show r2.length ≤ _; omega) (L0.out W4 HA.out).q)
    dsimp only [UqAll] at U1
    go_wp2_with fail
    refine U1.out.mono ?_
    rintro e w2 ⟨hU, hB2⟩
    have HA2 := hide (HA.out.trans (hB2.mono HA.out.size))
    have D2 := hide (D.out.below hB2 D.out.lt)
    clear hB2 U1
    have c3 := D2.out.at 3 rfl
    have f3 := D2.out.fz 3
    have cl := D2.out.lt
    rcases hU with ⟨t, ht, rfl⟩ | ⟨hno, ty, p, rfl⟩
    · have D3 := hide (D2.out.set 3 (.string ⟨t.toArray⟩))
      have HA3 := hide (HA2.out.setCell (p := ⟨dB, 3, none⟩) hdB (.string ⟨t.toArray⟩))
      have HT := hide ht
      clear ht
      go_upto_region 15 with fail
      generalize w2.setCell ⟨dB, 3, none⟩ (.string ⟨t.toArray⟩) = W3 at D3 HA3 ⊢
      clear c3 f3 cl D2 HA2 HA D
      have HA := HA3
      clear HA3
      have S1 := hide (S0.out.below HA.out)
      have K1 : Hid (KR b base w W3) := KR.of_below HA.out (Nat.le_refl _)
      have c0 := D3.out.at 0 rfl
      have c1 := D3.out.at 1 rfl
      have c2 := D3.out.at 2 rfl
      have c3 := D3.out.at 3 rfl
      have c4 := D3.out.at 4 rfl
      have c5 := D3.out.at 5 rfl
      have cl := D3.out.lt
      have r0 := S1.out.box.c0
      have r1 := S1.out.box.fz
      have r2 := S1.out.box.lt
      have hle := S1.out.le
      go_region_law (first
        | (refine step_append_own_at rfl (.tmp 55) (.tmp 57) 22 rfl base 51 i1 (.agg #[.string ⟨#[]⟩, .int .i64 0, .int .i64 0, .string ⟨#[]⟩, .slice none 0 0, .slice none 0 0]) 6 96 Tryz.underlying22 hi hy0 hy1 hy2 rfl (by decide) (.slice a R.length c) R.length (R.flatMap ddV) (by simp [Act.eval]) (by first | exact S1.out.row.own.alloc _ | exact S1.out.row.own.drew.alloc _ | exact S1.out.row.own.drew.drew.alloc _) ⟨W3.heap.size, 0, none⟩ 1 1 [.string ⟨nm.toArray⟩, .int .i64 3, .int .i64 n, .string ⟨t.toArray⟩, .slice none 0 0, .slice none 0 0] (by simp [Act.eval]) rfl (by first | exact six_at W3 _ _ _ _ _ _ _ | exact six_at W3.drew _ _ _ _ _ _ _ | exact six_at W3.drew.drew _ _ _ _ _ _ _) (by simp [Value.oneCell']) (by unfold maxLen; omega) (by omega) (by simp; omega) ?_; intro v6 w6 hown hgrow hat; (first | have Z6 := hide (S1.out.deed (Below.refl _ W3) hown hgrow) | have Z6 := hide (S1.out.deed (Below.refl _ W3).drew hown hgrow) | have Z6 := hide (S1.out.deed (Below.refl _ W3).drew.drew hown hgrow)); obtain ⟨a6, c6, rfl⟩ := cu_slice hown; have k0 := Z6.out.2.2.c0; have k1 := Z6.out.2.2.fz; have k2 := Z6.out.2.2.lt; clear hown hgrow hat))
      all_goals
        go_simp
        go_wp2
        go_ret
        exact ⟨K1.out.trans Z6.out.2.1, .inl ⟨n, t, a6, c6, R ++ [(newDeed ⟨nm.toArray⟩ 3 n ⟨t.toArray⟩, .slice none 0 0, .slice none 0 0)], (OK.out n t).2 ⟨HN.out, HT.out⟩, rfl, Z6.out.1.len (by simp), by simp⟩⟩
    · have HA3 := hide (HA2.out.setCell (p := ⟨dB, 3, none⟩) hdB (.string ⟨#[]⟩))
      go_wp2
      go_ret
      exact ⟨KR.of_below HA3.out (Nat.le_refl _), .inr ⟨fun n t h => hno t ((OK.out n t).1 h).2, ty, p, rfl⟩⟩
  · have HA := hide (HA3.out.setCell (p := ⟨dB, 2, none⟩) hdB (.int .i64 0))
    go_wp2
    go_ret
    exact ⟨KR.of_below HA.out (Nat.le_refl _), .inr ⟨fun n t h => hno n ((OK.out n t).1 h).1, ty, p, rfl⟩⟩

end Go.Proofs.YtkbhcajiebeepaaGreatDoor.Vp

/-
  ReadAccount, pure: what a line that is written tells, by its first word.
-/
namespace Go.Proofs.YtkbhcajiebeepaaGreatDoor.Vp
open Go.RowKit

abbrev wAcc : List UInt8 := [97, 99, 99, 111, 117, 110, 116]
abbrev wEnd : List UInt8 := [101, 110, 100]
abbrev wSrc : List UInt8 := [115, 111, 117, 114, 99, 101]
abbrev wNon : List UInt8 := [110, 111, 110, 101]
abbrev wTgt : List UInt8 := [116, 97, 114, 103, 101, 116]
abbrev wDo : List UInt8 := [100, 111]
abbrev wAsk : List UInt8 := [97, 115, 107]
abbrev wHas : List UInt8 := [104, 97, 115]
theorem ba_list (s : ByteArray) : (⟨s.data.toList.toArray⟩ : ByteArray) = s := rfl
theorem dec_itoa {n : Int} (h : 0 ≤ n) : Lib.decDigits n.toNat = Lib.itoa n := by
  rw [← Lib.itoa_nonneg]
  congr 1
  omega
theorem isNum_dec {n : Int} (h0 : 0 ≤ n) (h1 : n ≤ 400) : IsNum (Lib.decDigits n.toNat) n := ⟨dec_itoa h0, by omega, by omega⟩
theorem isNum_one {s : List UInt8} {n m : Int} (h : IsNum s n) (k : IsNum s m) : n = m := by
  have h1 := isNum_ok h
  have h2 := isNum_ok k
  rw [h1] at h2
  exact Lib.NumEnd.ok.inj h2
theorem quoteB_inj {t u : List UInt8} (h : quoteB t = quoteB u) : t = u := by
  rw [quoteB_eq, quoteB_eq] at h
  simp only [List.cons_append, List.cons.injEq, true_and] at h
  exact flat_enc_inj (List.append_cancel_right h)
theorem okD_one {k : Int} {s : List UInt8} {n m : Int} {t u : List UInt8} (h : OkD k s n t) (h' : OkD k s m u) : n = m ∧ t = u := by
  unfold OkD at h h'
  split at h
  · rename_i hk
    rw [if_pos hk] at h'
    exact ⟨isNum_one h.1 h'.1, quoteB_inj (h.2.symm.trans h'.2)⟩
  · rename_i hk
    rw [if_neg hk] at h'
    split at h
    · rename_i hk2
      rw [if_pos hk2] at h'
      exact ⟨h.1.trans h'.1.symm, quoteB_inj (h.2.symm.trans h'.2)⟩
    · rename_i hk2
      rw [if_neg hk2] at h'
      exact ⟨h.1.trans h'.1.symm, h.2.trans h'.2.symm⟩
theorem dec_no32 : ∀ n : Nat, (32 : UInt8) ∉ Lib.decDigits n := by
  intro n
  induction n using Nat.strongRecOn with
  | ind n ih =>
    rw [Lib.decDigits]
    split
    · rename_i h
      intro h2
      have h3 := List.mem_singleton.1 h2
      have h4 := congrArg UInt8.toNat h3
      rw [UInt8.toNat_ofNat'] at h4
      have h5 : (32 : UInt8).toNat = 32 := rfl
      omega
    · rename_i h
      intro h2
      rcases List.mem_append.1 h2 with h2 | h2
      · exact ih (n / 10) (by omega) h2
      · have h3 := List.mem_singleton.1 h2
        have h4 := congrArg UInt8.toNat h3
        rw [UInt8.toNat_ofNat'] at h4
        have h5 : (32 : UInt8).toNat = 32 := rfl
        omega
/-- The first word of each. -/
def GW (X : List Deed) (_S : List UInt8) (W : List UInt8) (rest : List UInt8) (Z : List Deed) : Prop :=
  (∃ (D : List Deed), X = D ∧ W = wAcc ∧ Z = D) ∨
  (∃ (D : List Deed), X = D ∧ W = wEnd ∧ Z = D) ∨
  (∃ (D : List Deed) (t : List UInt8), OkD 1 rest 0 t ∧ X = D ∧ W = wSrc ∧ Z = (D ++ [newDeed ⟨(cutC 32 rest).1.toArray⟩ 1 0 ⟨t.toArray⟩])) ∨
  (∃ (D : List Deed), X = D ∧ W = wNon ∧ Z = (D ++ [newDeed ⟨(cutC 32 rest).1.toArray⟩ 2 0 ⟨#[]⟩])) ∨
  (∃ (D : List Deed) (t : List UInt8) (n : Int), OkD 3 rest n t ∧ 0 ≤ n ∧ n ≤ 5 ∧ X = D ∧ W = wTgt ∧ Z = (D ++ [newDeed ⟨(cutC 32 rest).1.toArray⟩ 3 n ⟨t.toArray⟩])) ∨
  (∃ (D : List Deed) (d : Deed) (i : I3), readL rest = some i ∧ X = (D ++ [d]) ∧ W = wDo ∧ Z = (D ++ [d.doA ⟨i.1, ⟨i.2.1.toArray⟩, i.2.2⟩])) ∨
  (∃ (D : List Deed) (d : Deed) (n : Int), IsNum (cutC 32 rest).2.1 n ∧ 0 ≤ n ∧ n ≤ 400 ∧ X = (D ++ [d]) ∧ W = wAsk ∧ Z = (D ++ [d.lkA ⟨⟨(cutC 32 rest).1.toArray⟩, true, false, n⟩])) ∨
  (∃ (D : List Deed) (d : Deed), (32 : UInt8) ∉ (cutC 32 rest).2.1 ∧ X = (D ++ [d]) ∧ W = wHas ∧ Z = (D ++ [d.lkA ⟨⟨(cutC 32 rest).1.toArray⟩, false, (cutC 32 rest).2.1 == [49], 0⟩]))
theorem GW.acc (D : List Deed) (S rest : List UInt8) : GW D S wAcc rest D := .inl ⟨D, rfl, rfl, rfl⟩
theorem GW.fin (D : List Deed) (S rest : List UInt8) : GW D S wEnd rest D := .inr (.inl ⟨D, rfl, rfl, rfl⟩)
theorem GW.src (D : List Deed) (S rest t : List UInt8) (h0 : OkD 1 rest 0 t) : GW D S wSrc rest (D ++ [newDeed ⟨(cutC 32 rest).1.toArray⟩ 1 0 ⟨t.toArray⟩]) := .inr (.inr (.inl ⟨D, t, h0, rfl, rfl, rfl⟩))
theorem GW.non (D : List Deed) (S rest : List UInt8) : GW D S wNon rest (D ++ [newDeed ⟨(cutC 32 rest).1.toArray⟩ 2 0 ⟨#[]⟩]) := .inr (.inr (.inr (.inl ⟨D, rfl, rfl, rfl⟩)))
theorem GW.tgt (D : List Deed) (S rest t : List UInt8) (n : Int) (h0 : OkD 3 rest n t) (h1 : 0 ≤ n) (h2 : n ≤ 5) : GW D S wTgt rest (D ++ [newDeed ⟨(cutC 32 rest).1.toArray⟩ 3 n ⟨t.toArray⟩]) := .inr (.inr (.inr (.inr (.inl ⟨D, t, n, h0, h1, h2, rfl, rfl, rfl⟩))))
theorem GW.act (D : List Deed) (d : Deed) (S rest : List UInt8) (i : I3) (h0 : readL rest = some i) : GW (D ++ [d]) S wDo rest (D ++ [d.doA ⟨i.1, ⟨i.2.1.toArray⟩, i.2.2⟩]) := .inr (.inr (.inr (.inr (.inr (.inl ⟨D, d, i, h0, rfl, rfl, rfl⟩)))))
theorem GW.ask (D : List Deed) (d : Deed) (S rest : List UInt8) (n : Int) (h0 : IsNum (cutC 32 rest).2.1 n) (h1 : 0 ≤ n) (h2 : n ≤ 400) : GW (D ++ [d]) S wAsk rest (D ++ [d.lkA ⟨⟨(cutC 32 rest).1.toArray⟩, true, false, n⟩]) := .inr (.inr (.inr (.inr (.inr (.inr (.inl ⟨D, d, n, h0, h1, h2, rfl, rfl, rfl⟩))))))
theorem GW.has (D : List Deed) (d : Deed) (S rest : List UInt8) (h0 : (32 : UInt8) ∉ (cutC 32 rest).2.1) : GW (D ++ [d]) S wHas rest (D ++ [d.lkA ⟨⟨(cutC 32 rest).1.toArray⟩, false, (cutC 32 rest).2.1 == [49], 0⟩]) := .inr (.inr (.inr (.inr (.inr (.inr (.inr ⟨D, d, h0, rfl, rfl, rfl⟩))))))
theorem cut_word {w y : List UInt8} (hw : (32 : UInt8) ∉ w) : cutC 32 (w ++ 32 :: y) = (w, y, true) := cutC_at y hw
/-- A line that is written is cut at its word; what it tells. -/
theorem good_cut {D G : List Deed} {S : List UInt8} (h : Good D S G) : GW D S (cutC 32 S).1 (cutC 32 S).2.1 G := by
  rcases h with ⟨D1, n, rfl, rfl, rfl⟩ | ⟨D1, rfl, rfl, rfl⟩ | ⟨D1, d, hd, rfl, rfl, rfl⟩ | ⟨D1, d, hd, rfl, rfl, rfl⟩ | ⟨D1, d, hd, h0, h5, rfl, rfl, rfl⟩ | ⟨D, d, x, hx, rfl, rfl, rfl⟩ | ⟨D, d, l, hl, h0, h4, ha, hb, rfl, rfl, rfl⟩
  · rw [show [97, 99, 99, 111, 117, 110, 116, 32] ++ Lib.decDigits n = wAcc ++ 32 :: Lib.decDigits n from rfl, cut_word (by decide)]
    exact GW.acc _ _ _
  · exact GW.fin _ _ _
  · have e : srcT d = wSrc ++ 32 :: (d.name.data.toList ++ 32 :: quoteB d.text.data.toList) := by simp [srcT]
    have e2 : cutC 32 (d.name.data.toList ++ 32 :: quoteB d.text.data.toList) = (d.name.data.toList, quoteB d.text.data.toList, true) := cut_word hd
    rw [e, cut_word (by decide)]
    have g := GW.src D (wSrc ++ 32 :: (d.name.data.toList ++ 32 :: quoteB d.text.data.toList)) (d.name.data.toList ++ 32 :: quoteB d.text.data.toList) d.text.data.toList ⟨rfl, by rw [e2]⟩
    rw [e2] at g
    exact g
  · have e : noneT d = wNon ++ 32 :: d.name.data.toList := by simp [noneT]
    rw [e, cut_word (by decide)]
    have g := GW.non D (wNon ++ 32 :: d.name.data.toList) d.name.data.toList
    rw [cutC_no hd] at g
    exact g
  · have e : headT d = wTgt ++ 32 :: (d.name.data.toList ++ 32 :: (Lib.decDigits d.code.toNat ++ 32 :: quoteB d.text.data.toList)) := by simp [headT]
    have e2 : cutC 32 (d.name.data.toList ++ 32 :: (Lib.decDigits d.code.toNat ++ 32 :: quoteB d.text.data.toList)) = (d.name.data.toList, Lib.decDigits d.code.toNat ++ 32 :: quoteB d.text.data.toList, true) := cut_word hd
    have e3 : cutC 32 (Lib.decDigits d.code.toNat ++ 32 :: quoteB d.text.data.toList) = (Lib.decDigits d.code.toNat, quoteB d.text.data.toList, true) := cut_word (dec_no32 _)
    rw [e, cut_word (by decide)]
    have g := GW.tgt D (wTgt ++ 32 :: (d.name.data.toList ++ 32 :: (Lib.decDigits d.code.toNat ++ 32 :: quoteB d.text.data.toList))) (d.name.data.toList ++ 32 :: (Lib.decDigits d.code.toNat ++ 32 :: quoteB d.text.data.toList)) d.text.data.toList d.code (by unfold OkD; rw [if_pos rfl, e2, e3]; exact ⟨isNum_dec h0 (by omega), rfl⟩) h0 h5
    rw [e2] at g
    exact g
  · have e : doT x = wDo ++ 32 :: lineB x.op x.s.data.toList x.n := by simp [doT]
    rw [e, cut_word (by decide)]
    have hr : readL (lineB x.op x.s.data.toList x.n) = some (x.op, x.s.data.toList, x.n) := readL_some ⟨by simpa using hx, rfl⟩
    have g := GW.act D d (wDo ++ 32 :: lineB x.op x.s.data.toList x.n) _ _ hr
    exact g
  · cases hk : l.ask with
    | true =>
      have e : linkT l = wAsk ++ 32 :: (l.name.data.toList ++ 32 :: Lib.decDigits l.at_.toNat) := by simp [linkT, hk]
      have e2 : cutC 32 (l.name.data.toList ++ 32 :: Lib.decDigits l.at_.toNat) = (l.name.data.toList, Lib.decDigits l.at_.toNat, true) := cut_word hl
      rw [e, cut_word (by decide)]
      have g := GW.ask D d (wAsk ++ 32 :: (l.name.data.toList ++ 32 :: Lib.decDigits l.at_.toNat)) (l.name.data.toList ++ 32 :: Lib.decDigits l.at_.toNat) l.at_ (by rw [e2]; exact isNum_dec h0 h4) h0 h4
      rw [e2] at g
      have el : d.lkA l = d.lkA ⟨⟨l.name.data.toList.toArray⟩, true, false, l.at_⟩ := by
        have h1 := ha hk
        clear e e2 g
        obtain ⟨nm, ak, hs, a0⟩ := l
        simp only at hk h1
        subst hk h1
        rfl
      rw [el]
      exact g
    | false =>
      have e : linkT l = wHas ++ 32 :: (l.name.data.toList ++ 32 :: (if l.has = true then [49] else [48])) := by simp [linkT, hk]
      have e2 : cutC 32 (l.name.data.toList ++ 32 :: (if l.has = true then [49] else [48])) = (l.name.data.toList, (if l.has = true then [49] else [48]), true) := cut_word hl
      rw [e, cut_word (by decide)]
      have g := GW.has D d (wHas ++ 32 :: (l.name.data.toList ++ 32 :: (if l.has = true then [49] else [48]))) (l.name.data.toList ++ 32 :: (if l.has = true then [49] else [48])) (by rw [e2]; show (32 : UInt8) ∉ (if l.has = true then [49] else [48]); split <;> decide)
      rw [e2] at g
      have el : d.lkA l = d.lkA ⟨⟨l.name.data.toList.toArray⟩, false, (if l.has = true then ([49] : List UInt8) else [48]) == [49], 0⟩ := by
        have h1 := hb hk
        clear e e2 g
        obtain ⟨nm, ak, hs, a0⟩ := l
        simp only at hk h1
        subst hk h1
        cases hs <;> rfl
      rw [el]
      exact g

end Go.Proofs.YtkbhcajiebeepaaGreatDoor.Vp
