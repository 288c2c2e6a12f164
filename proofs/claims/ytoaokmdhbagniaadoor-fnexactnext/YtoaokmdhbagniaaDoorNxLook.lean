/-
  spec: l1Look. Written by tools/spec.py.
-/
import Derived.Test.YtoaokmdhbagniaaDoorNxTen
import Derived.OneCell
import Derived.OwnWalk
import Derived.Maps.AppendAt
import Derived.Deep.RegionLaw
namespace Go.Proofs.YtoaokmdhbagniaaDoor.Vp
open Go.RowKit

theorem one_new (w : World) (x : Value) (t : TypeId) : ∀ j u, [x][j]? = some u → (w.alloc (.cells #[x] t)).cell? ((⟨w.heap.size, 0, none⟩ : Addr).add j) = some u := by
  intro j u hj
  match j, hj with
  | 0, hj => simp at hj; subst hj; simp [Addr.add]
theorem step_append_own {P : Program} {w : World} {ops : Array Oper} {o : Oper} {a : Act} {K : Act → World → Prop} {Q : Exit → Act → World → Prop} {E : Prop} (hg : o.guard = none) (s x : Operand) (t : TypeId)
    (ho : o.op = .call { callee := .builtin .append, args := #[s, x], argTypes := #[t, t] })
    (base : Nat) (e : TypeId) (i : TypeInfo) (z : Value) (size bytes : Nat) (ht : P.underlying t = some (.slice e)) (hi : P.info? e = some i) (hz : i.zero = some z)
    (hsize : i.size = size) (hby : i.bytes = bytes) (hzs : z.cells.size = size) (hsz : 0 < size)
    (v : Value) (n : Nat) (xs : List Value) (hs : a.eval s = v) (hown : w.ownsRow base e size v n xs)
    (ad : Addr) (m c : Nat) (news : List Value) (hx : a.eval x = .slice (some ad) m c) (hl : news.length = m * size) (hnews : ∀ j u, news[j]? = some u → w.cell? (ad.add j) = some u) (h1 : ∀ u ∈ news, u.oneCell' = true)
    (h63 : n + m ≤ maxLen) (hbytes : (n + m) * bytes ≤ 140737488355328) (hbase : base ≤ w.heap.size)
    (h : ∀ v' w', w'.ownsRow base e size v' (n + m) (xs ++ news) → w.grownBy w' v.ownBlock → (v' = .slice none 0 0 ↔ v = .slice none 0 0 ∧ m = 0) → K (a.put o.dst v') w') :
    if Region.wanted o (yielded ops a.tmps) = true then Oper.wp P o a w K Q else E := by
  have hw : Region.wanted o (yielded ops a.tmps) = true := by simp [Region.wanted, hg]
  rw [if_pos hw]
  exact wp_append_own w s x t ho base e i z size bytes ht hi hz hsize hby hzs hsz v n xs hs hown ad m c news hx hl hnews h1 h63 hbytes hbase h

set_option maxHeartbeats 4000000 in
theorem look_name (op : Nat) (t : ByteArray) (k : Int) (p st l : Nat) (a : Option Addr) (cap : Nat) (s : List ByteArray) (nm pl : ByteArray) (b2 o2 n cap2 base : Nat) (y : Nat → Reply) (w : World)
    (hY : RowReply w b2 o2 n y) (hO : w.ownsRow base 9 1 (.slice a s.length cap) s.length (strs s)) (hb : base ≤ w.heap.size) (hn : nameOk nm = false) :
    Calls Tryd.prog 90 #[.agg #[.int .i64 op, .string t, .int .i64 k], runV p (.slice a s.length cap) st l false 0 ⟨#[]⟩ false ⟨#[]⟩ false, .string nm, .string pl, .slice (some ⟨b2, o2, none⟩) n cap2] w fun e w' => ∃ v, e = .returned v ∧ SoIs w' base v (.over 2 pl st) ∧ Below base w w' := by
  have HY := hide hY
  have HO := hide hO
  have HN := hide hn
  clear hY hO hn
  have A0 := hide ((((Below.refl w.heap.size w).alloc (Nat.le_refl _) (.cells #[.int .i64 op, .string t, .int .i64 k] 127)).alloc (by simp) (.cells #[.int .i64 p, .slice a s.length cap, .int .i64 st, .int .i64 l, .bool false, .int .i64 0, .string ⟨#[]⟩, .bool false, .string ⟨#[]⟩, .bool false] 104)).alloc (by first | (simp; done) | (simp; omega)) (.cells #[.int .i64 0, .slice none 0 0, .int .i64 0, .int .i64 0, .bool false, .int .i64 0, .string ⟨#[]⟩, .bool false, .string ⟨#[]⟩, .bool false] 104))
  have R0 := hide ((ten_new (w.alloc (.cells #[.int .i64 op, .string t, .int .i64 k] 127)) (.int .i64 p) (.slice a s.length cap) (.int .i64 st) (.int .i64 l) (.bool false) (.int .i64 0) (.string ⟨#[]⟩) (.bool false) (.string ⟨#[]⟩) (.bool false) 104 (w.heap.size + 1) (by simp)).al (.cells #[.int .i64 0, .slice none 0 0, .int .i64 0, .int .i64 0, .bool false, .int .i64 0, .string ⟨#[]⟩, .bool false, .string ⟨#[]⟩, .bool false] 104))
  have Z0 := hide (ten_new ((w.alloc (.cells #[.int .i64 op, .string t, .int .i64 k] 127)).alloc (.cells #[.int .i64 p, .slice a s.length cap, .int .i64 st, .int .i64 l, .bool false, .int .i64 0, .string ⟨#[]⟩, .bool false, .string ⟨#[]⟩, .bool false] 104)) (.int .i64 0) (.slice none 0 0) (.int .i64 0) (.int .i64 0) (.bool false) (.int .i64 0) (.string ⟨#[]⟩) (.bool false) (.string ⟨#[]⟩) (.bool false) 104 (w.heap.size + 1 + 1) (by simp))
  go_enter Tryd.func90, Tryd.ntmps90
  go_wp2_with fail
  refine (l1NameOk_any nm _).mono ?_
  rintro e w1 ⟨rfl, hB1⟩
  rw [HN.out]
  have R1 := hide (R0.out.below hB1 (by first | (simp; done) | (simp; omega)))
  have Z1 := hide (Z0.out.below hB1 (by simp))
  have B1 := hide (A0.out.trans (hB1.mono (by first | (simp; done) | (simp; omega))))
  have i0 : w1.cell? ⟨w.heap.size, 0, none⟩ = some (.int .i64 op) := (hB1.cell (p := ⟨w.heap.size, 0, none⟩) (by first | (simp; done) | (simp; omega))).trans (box3 _ _ _ _ _ _ _ rfl)
  have O1 := hide (own_below HO.out B1.out (Nat.le_refl _))
  have hz1 : w.heap.size + 1 + 1 < w1.heap.size := Z1.out.1
  clear hB1 A0 R0 Z0 HO HN
  obtain ⟨chl, ⟨c0, f0⟩, ⟨c1, f1⟩, ⟨c2, f2⟩, ⟨c3, f3⟩, ⟨c4, f4⟩, ⟨c5, f5⟩, ⟨c6, f6⟩, ⟨c7, f7⟩, ⟨c8, f8⟩, c9, f9⟩ := R1.out
  go_wp2_with fail
  refine (l1End_any _ _ _ _ _ _ _ _ _ _ _ _ _ _ _).mono ?_
  rintro e w2 ⟨rfl, hB2⟩
  have ZE := hide (Z1.out.below hB2 Z1.out.1)
  have B2 := hide (B1.out.trans (hB2.mono B1.out.size))
  clear hB2
  clear chl c0 f0 c1 f1 c2 f2 c3 f3 c4 f4 c5 f5 c6 f6 c7 f7 c8 f8 c9 f9
  obtain ⟨zhl, ⟨z0, y0⟩, ⟨z1, y1⟩, ⟨z2, y2⟩, ⟨z3, y3⟩, ⟨z4, y4⟩, ⟨z5, y5⟩, ⟨z6, y6⟩, ⟨z7, y7⟩, ⟨z8, y8⟩, z9, y9⟩ := ZE.out
  go_wp2
  refine bodyPost_ret (v := runV p (.slice a s.length cap) st l true 2 pl false ⟨#[]⟩ false) (by simp [results, Tryd.results90, go_sem, z0, z1, z2, z3, z4, z5, z6, z7, z8, z9]) rfl ⟨_, rfl, ⟨_, _, _, _, _, rfl⟩, ten_set (B2.out.mono hb) (by omega) _ _ _ _ _ _ _ _ _ _⟩

set_option maxHeartbeats 4000000 in
theorem look_spent (op : Nat) (t : ByteArray) (k : Int) (p st l : Nat) (a : Option Addr) (cap : Nat) (s : List ByteArray) (nm pl : ByteArray) (b2 o2 n cap2 base : Nat) (y : Nat → Reply) (w : World)
    (hY : RowReply w b2 o2 n y) (hO : w.ownsRow base 9 1 (.slice a s.length cap) s.length (strs s)) (hb : base ≤ w.heap.size) (hn : nameOk nm = true) (hl : ((l : Int) == 200) = true) :
    Calls Tryd.prog 90 #[.agg #[.int .i64 op, .string t, .int .i64 k], runV p (.slice a s.length cap) st l false 0 ⟨#[]⟩ false ⟨#[]⟩ false, .string nm, .string pl, .slice (some ⟨b2, o2, none⟩) n cap2] w fun e w' => ∃ v, e = .returned v ∧ SoIs w' base v (.over 3 ⟨#[]⟩ st) ∧ Below base w w' := by
  have HY := hide hY
  have HO := hide hO
  have HN := hide hn
  clear hY hO hn
  have A0 := hide ((((Below.refl w.heap.size w).alloc (Nat.le_refl _) (.cells #[.int .i64 op, .string t, .int .i64 k] 127)).alloc (by simp) (.cells #[.int .i64 p, .slice a s.length cap, .int .i64 st, .int .i64 l, .bool false, .int .i64 0, .string ⟨#[]⟩, .bool false, .string ⟨#[]⟩, .bool false] 104)).alloc (by first | (simp; done) | (simp; omega)) (.cells #[.int .i64 0, .slice none 0 0, .int .i64 0, .int .i64 0, .bool false, .int .i64 0, .string ⟨#[]⟩, .bool false, .string ⟨#[]⟩, .bool false] 104))
  have R0 := hide ((ten_new (w.alloc (.cells #[.int .i64 op, .string t, .int .i64 k] 127)) (.int .i64 p) (.slice a s.length cap) (.int .i64 st) (.int .i64 l) (.bool false) (.int .i64 0) (.string ⟨#[]⟩) (.bool false) (.string ⟨#[]⟩) (.bool false) 104 (w.heap.size + 1) (by simp)).al (.cells #[.int .i64 0, .slice none 0 0, .int .i64 0, .int .i64 0, .bool false, .int .i64 0, .string ⟨#[]⟩, .bool false, .string ⟨#[]⟩, .bool false] 104))
  have Z0 := hide (ten_new ((w.alloc (.cells #[.int .i64 op, .string t, .int .i64 k] 127)).alloc (.cells #[.int .i64 p, .slice a s.length cap, .int .i64 st, .int .i64 l, .bool false, .int .i64 0, .string ⟨#[]⟩, .bool false, .string ⟨#[]⟩, .bool false] 104)) (.int .i64 0) (.slice none 0 0) (.int .i64 0) (.int .i64 0) (.bool false) (.int .i64 0) (.string ⟨#[]⟩) (.bool false) (.string ⟨#[]⟩) (.bool false) 104 (w.heap.size + 1 + 1) (by simp))
  go_enter Tryd.func90, Tryd.ntmps90
  go_wp2_with fail
  refine (l1NameOk_any nm _).mono ?_
  rintro e w1 ⟨rfl, hB1⟩
  rw [HN.out]
  have R1 := hide (R0.out.below hB1 (by first | (simp; done) | (simp; omega)))
  have Z1 := hide (Z0.out.below hB1 (by simp))
  have B1 := hide (A0.out.trans (hB1.mono (by first | (simp; done) | (simp; omega))))
  have i0 : w1.cell? ⟨w.heap.size, 0, none⟩ = some (.int .i64 op) := (hB1.cell (p := ⟨w.heap.size, 0, none⟩) (by first | (simp; done) | (simp; omega))).trans (box3 _ _ _ _ _ _ _ rfl)
  have O1 := hide (own_below HO.out B1.out (Nat.le_refl _))
  have hz1 : w.heap.size + 1 + 1 < w1.heap.size := Z1.out.1
  clear hB1 A0 R0 Z0 HO HN
  obtain ⟨chl, ⟨c0, f0⟩, ⟨c1, f1⟩, ⟨c2, f2⟩, ⟨c3, f3⟩, ⟨c4, f4⟩, ⟨c5, f5⟩, ⟨c6, f6⟩, ⟨c7, f7⟩, ⟨c8, f8⟩, c9, f9⟩ := R1.out
  go_wp2_with fail
  refine (l1End_any _ _ _ _ _ _ _ _ _ _ _ _ _ _ _).mono ?_
  rintro e w2 ⟨rfl, hB2⟩
  have ZE := hide (Z1.out.below hB2 Z1.out.1)
  have B2 := hide (B1.out.trans (hB2.mono B1.out.size))
  clear hB2
  clear chl c0 f0 c1 f1 c2 f2 c3 f3 c4 f4 c5 f5 c6 f6 c7 f7 c8 f8 c9 f9
  obtain ⟨zhl, ⟨z0, y0⟩, ⟨z1, y1⟩, ⟨z2, y2⟩, ⟨z3, y3⟩, ⟨z4, y4⟩, ⟨z5, y5⟩, ⟨z6, y6⟩, ⟨z7, y7⟩, ⟨z8, y8⟩, z9, y9⟩ := ZE.out
  go_wp2
  refine bodyPost_ret (v := runV p (.slice a s.length cap) st l true 3 ⟨#[]⟩ false ⟨#[]⟩ false) (by simp [results, Tryd.results90, go_sem, z0, z1, z2, z3, z4, z5, z6, z7, z8, z9]) rfl ⟨_, rfl, ⟨_, _, _, _, _, rfl⟩, ten_set (B2.out.mono hb) (by omega) _ _ _ _ _ _ _ _ _ _⟩

set_option maxHeartbeats 4000000 in
theorem look_wait (op : Nat) (t : ByteArray) (k : Int) (p st l : Nat) (a : Option Addr) (cap : Nat) (s : List ByteArray) (nm pl : ByteArray) (b2 o2 n cap2 base : Nat) (y : Nat → Reply) (w : World)
    (hY : RowReply w b2 o2 n y) (hO : w.ownsRow base 9 1 (.slice a s.length cap) s.length (strs s)) (hb : base ≤ w.heap.size) (hn : nameOk nm = true) (hl : ((l : Int) == 200) = false) (hw : (n : Int) ≤ l) :
    Calls Tryd.prog 90 #[.agg #[.int .i64 op, .string t, .int .i64 k], runV p (.slice a s.length cap) st l false 0 ⟨#[]⟩ false ⟨#[]⟩ false, .string nm, .string pl, .slice (some ⟨b2, o2, none⟩) n cap2] w fun e w' => ∃ v, e = .returned v ∧ SoIs w' base v (.wait ((op : Int) == 12) nm st) ∧ Below base w w' := by
  have HY := hide hY
  have HO := hide hO
  have HN := hide hn
  clear hY hO hn
  have A0 := hide ((((Below.refl w.heap.size w).alloc (Nat.le_refl _) (.cells #[.int .i64 op, .string t, .int .i64 k] 127)).alloc (by simp) (.cells #[.int .i64 p, .slice a s.length cap, .int .i64 st, .int .i64 l, .bool false, .int .i64 0, .string ⟨#[]⟩, .bool false, .string ⟨#[]⟩, .bool false] 104)).alloc (by first | (simp; done) | (simp; omega)) (.cells #[.int .i64 0, .slice none 0 0, .int .i64 0, .int .i64 0, .bool false, .int .i64 0, .string ⟨#[]⟩, .bool false, .string ⟨#[]⟩, .bool false] 104))
  have R0 := hide ((ten_new (w.alloc (.cells #[.int .i64 op, .string t, .int .i64 k] 127)) (.int .i64 p) (.slice a s.length cap) (.int .i64 st) (.int .i64 l) (.bool false) (.int .i64 0) (.string ⟨#[]⟩) (.bool false) (.string ⟨#[]⟩) (.bool false) 104 (w.heap.size + 1) (by simp)).al (.cells #[.int .i64 0, .slice none 0 0, .int .i64 0, .int .i64 0, .bool false, .int .i64 0, .string ⟨#[]⟩, .bool false, .string ⟨#[]⟩, .bool false] 104))
  have Z0 := hide (ten_new ((w.alloc (.cells #[.int .i64 op, .string t, .int .i64 k] 127)).alloc (.cells #[.int .i64 p, .slice a s.length cap, .int .i64 st, .int .i64 l, .bool false, .int .i64 0, .string ⟨#[]⟩, .bool false, .string ⟨#[]⟩, .bool false] 104)) (.int .i64 0) (.slice none 0 0) (.int .i64 0) (.int .i64 0) (.bool false) (.int .i64 0) (.string ⟨#[]⟩) (.bool false) (.string ⟨#[]⟩) (.bool false) 104 (w.heap.size + 1 + 1) (by simp))
  go_enter Tryd.func90, Tryd.ntmps90
  go_wp2_with fail
  refine (l1NameOk_any nm _).mono ?_
  rintro e w1 ⟨rfl, hB1⟩
  rw [HN.out]
  have R1 := hide (R0.out.below hB1 (by first | (simp; done) | (simp; omega)))
  have Z1 := hide (Z0.out.below hB1 (by simp))
  have B1 := hide (A0.out.trans (hB1.mono (by first | (simp; done) | (simp; omega))))
  have i0 : w1.cell? ⟨w.heap.size, 0, none⟩ = some (.int .i64 op) := (hB1.cell (p := ⟨w.heap.size, 0, none⟩) (by first | (simp; done) | (simp; omega))).trans (box3 _ _ _ _ _ _ _ rfl)
  have O1 := hide (own_below HO.out B1.out (Nat.le_refl _))
  have hz1 : w.heap.size + 1 + 1 < w1.heap.size := Z1.out.1
  clear hB1 A0 R0 Z0 HO HN
  obtain ⟨chl, ⟨c0, f0⟩, ⟨c1, f1⟩, ⟨c2, f2⟩, ⟨c3, f3⟩, ⟨c4, f4⟩, ⟨c5, f5⟩, ⟨c6, f6⟩, ⟨c7, f7⟩, ⟨c8, f8⟩, c9, f9⟩ := R1.out
  have ZE := hide (((Z1.out.other ⟨w.heap.size + 1, 9, none⟩ (.bool true) (by simp)).other ⟨w.heap.size + 1, 7, none⟩ (.bool ((op : Int) == 12)) (by simp)).other ⟨w.heap.size + 1, 8, none⟩ (.string nm) (by simp))
  have B2 := hide (((B1.out.setCell (p := ⟨w.heap.size + 1, 9, none⟩) (by simp) (.bool true)).setCell (p := ⟨w.heap.size + 1, 7, none⟩) (by simp) (.bool ((op : Int) == 12))).setCell (p := ⟨w.heap.size + 1, 8, none⟩) (by simp) (.string nm))
  obtain ⟨zhl, ⟨z0, y0⟩, ⟨z1, y1⟩, ⟨z2, y2⟩, ⟨z3, y3⟩, ⟨z4, y4⟩, ⟨z5, y5⟩, ⟨z6, y6⟩, ⟨z7, y7⟩, ⟨z8, y8⟩, z9, y9⟩ := ZE.out
  go_wp2
  refine bodyPost_ret (v := runV p (.slice a s.length cap) st l false 0 ⟨#[]⟩ ((op : Int) == 12) nm true) (by simp [results, Tryd.results90, go_sem, z0, z1, z2, z3, z4, z5, z6, z7, z8, z9]) rfl ⟨_, rfl, ⟨_, _, _, _, _, rfl⟩, ten_set (B2.out.mono hb) (by omega) _ _ _ _ _ _ _ _ _ _⟩

set_option maxHeartbeats 4000000 in
theorem look_miss (op : Nat) (t : ByteArray) (k : Int) (p st l : Nat) (a : Option Addr) (cap : Nat) (s : List ByteArray) (nm pl : ByteArray) (b2 o2 n cap2 base : Nat) (y : Nat → Reply) (w : World)
    (hY : RowReply w b2 o2 n y) (hO : w.ownsRow base 9 1 (.slice a s.length cap) s.length (strs s)) (hb : base ≤ w.heap.size) (hn : nameOk nm = true) (hl : ((l : Int) == 200) = false) (hl2 : l ≤ 200) (hw : l < n) (hop : ((op : Int) == 13) = false) (hh : (y l).has = false) :
    Calls Tryd.prog 90 #[.agg #[.int .i64 op, .string t, .int .i64 k], runV p (.slice a s.length cap) st l false 0 ⟨#[]⟩ false ⟨#[]⟩ false, .string nm, .string pl, .slice (some ⟨b2, o2, none⟩) n cap2] w fun e w' => ∃ v, e = .returned v ∧ SoIs w' base v (.over 4 nm st) ∧ Below base w w' := by
  have HY := hide hY
  have HO := hide hO
  have HN := hide hn
  have HO0 := hide hO
  clear hY hO hn
  have A0 := hide ((((Below.refl w.heap.size w).alloc (Nat.le_refl _) (.cells #[.int .i64 op, .string t, .int .i64 k] 127)).alloc (by simp) (.cells #[.int .i64 p, .slice a s.length cap, .int .i64 st, .int .i64 l, .bool false, .int .i64 0, .string ⟨#[]⟩, .bool false, .string ⟨#[]⟩, .bool false] 104)).alloc (by first | (simp; done) | (simp; omega)) (.cells #[.int .i64 0, .slice none 0 0, .int .i64 0, .int .i64 0, .bool false, .int .i64 0, .string ⟨#[]⟩, .bool false, .string ⟨#[]⟩, .bool false] 104))
  have R0 := hide ((ten_new (w.alloc (.cells #[.int .i64 op, .string t, .int .i64 k] 127)) (.int .i64 p) (.slice a s.length cap) (.int .i64 st) (.int .i64 l) (.bool false) (.int .i64 0) (.string ⟨#[]⟩) (.bool false) (.string ⟨#[]⟩) (.bool false) 104 (w.heap.size + 1) (by simp)).al (.cells #[.int .i64 0, .slice none 0 0, .int .i64 0, .int .i64 0, .bool false, .int .i64 0, .string ⟨#[]⟩, .bool false, .string ⟨#[]⟩, .bool false] 104))
  have Z0 := hide (ten_new ((w.alloc (.cells #[.int .i64 op, .string t, .int .i64 k] 127)).alloc (.cells #[.int .i64 p, .slice a s.length cap, .int .i64 st, .int .i64 l, .bool false, .int .i64 0, .string ⟨#[]⟩, .bool false, .string ⟨#[]⟩, .bool false] 104)) (.int .i64 0) (.slice none 0 0) (.int .i64 0) (.int .i64 0) (.bool false) (.int .i64 0) (.string ⟨#[]⟩) (.bool false) (.string ⟨#[]⟩) (.bool false) 104 (w.heap.size + 1 + 1) (by simp))
  go_enter Tryd.func90, Tryd.ntmps90
  go_wp2_with fail
  refine (l1NameOk_any nm _).mono ?_
  rintro e w1 ⟨rfl, hB1⟩
  rw [HN.out]
  have R1 := hide (R0.out.below hB1 (by first | (simp; done) | (simp; omega)))
  have Z1 := hide (Z0.out.below hB1 (by simp))
  have B1 := hide (A0.out.trans (hB1.mono (by first | (simp; done) | (simp; omega))))
  have i0 : w1.cell? ⟨w.heap.size, 0, none⟩ = some (.int .i64 op) := (hB1.cell (p := ⟨w.heap.size, 0, none⟩) (by first | (simp; done) | (simp; omega))).trans (box3 _ _ _ _ _ _ _ rfl)
  have O1 := hide (own_below HO.out B1.out (Nat.le_refl _))
  have hz1 : w.heap.size + 1 + 1 < w1.heap.size := Z1.out.1
  clear hB1 A0 R0 Z0 HO HN
  obtain ⟨d0, d1, d2⟩ := (HY.out.below B1.out (Nat.le_refl _)).2 l (by omega)
  rw [hh] at d0
  have hln : (l : Int) < n := by omega
  have hz0 : w.heap.size < w1.heap.size := by omega
  have hz01 : w.heap.size + 1 < w1.heap.size := by omega
  have R2 := hide ((R1.out.set3 (.int .i64 ((l : Int) + 1))).al (.cells #[.bool false, .int .i64 (y l).code, .string (y l).text] 102))
  have Z2 := hide ((Z1.out.other ⟨w.heap.size + 1, 3, none⟩ (.int .i64 ((l : Int) + 1)) (by simp)).al (.cells #[.bool false, .int .i64 (y l).code, .string (y l).text] 102))
  have hne : ∀ k, w.heap.size ≤ k → Value.ownBlock (.slice a s.length cap) ≠ some k := fun k hk e => by have := (HO0.out.lt k e).2; omega
  have O2 := hide ((ownsRow_setCell_other O1.out (a := ⟨w.heap.size + 1, 3, none⟩) (hne _ (by simp)) (.int .i64 ((l : Int) + 1))).alloc (.cells #[.bool false, .int .i64 (y l).code, .string (y l).text] 102))
  have B2 := hide ((B1.out.setCell (p := ⟨w.heap.size + 1, 3, none⟩) (by simp) (.int .i64 ((l : Int) + 1))).alloc (by have := B1.out.size; simpa using this) (.cells #[.bool false, .int .i64 (y l).code, .string (y l).text] 102))
  have HNE := hide hne
  clear hne
  obtain ⟨chl, ⟨c0, f0⟩, ⟨c1, f1⟩, ⟨c2, f2⟩, ⟨c3, f3⟩, ⟨c4, f4⟩, ⟨c5, f5⟩, ⟨c6, f6⟩, ⟨c7, f7⟩, ⟨c8, f8⟩, c9, f9⟩ := R1.out
  go_wp2_with fail
  refine (l1End_any _ _ _ _ _ _ _ _ _ _ _ _ _ _ _).mono ?_
  rintro e w2 ⟨rfl, hB2⟩
  have ZE := hide (Z2.out.below hB2 Z2.out.1)
  have B3 := hide (B2.out.trans (hB2.mono B2.out.size))
  clear hB2
  clear chl c0 f0 c1 f1 c2 f2 c3 f3 c4 f4 c5 f5 c6 f6 c7 f7 c8 f8 c9 f9
  obtain ⟨zhl, ⟨z0, y0⟩, ⟨z1, y1⟩, ⟨z2, y2⟩, ⟨z3, y3⟩, ⟨z4, y4⟩, ⟨z5, y5⟩, ⟨z6, y6⟩, ⟨z7, y7⟩, ⟨z8, y8⟩, z9, y9⟩ := ZE.out
  go_wp2
  refine bodyPost_ret (v := runV p (.slice a s.length cap) st ((l : Int) + 1) true 4 nm false ⟨#[]⟩ false) (by simp [results, Tryd.results90, go_sem, z0, z1, z2, z3, z4, z5, z6, z7, z8, z9]) rfl ⟨_, rfl, ⟨_, _, _, _, _, rfl⟩, ten_set (B3.out.mono hb) (by omega) _ _ _ _ _ _ _ _ _ _⟩

set_option maxHeartbeats 4000000 in
theorem look_below (op : Nat) (t : ByteArray) (k : Int) (p st l : Nat) (a : Option Addr) (cap : Nat) (s : List ByteArray) (nm pl : ByteArray) (b2 o2 n cap2 base : Nat) (y : Nat → Reply) (w : World)
    (hY : RowReply w b2 o2 n y) (hO : w.ownsRow base 9 1 (.slice a s.length cap) s.length (strs s)) (hb : base ≤ w.heap.size) (hn : nameOk nm = true) (hl : ((l : Int) == 200) = false) (hl2 : l ≤ 200) (hw : l < n) (hop : ((op : Int) == 13) = false) (hh : (y l).has = true) (hc : ((y l).code == 0) = false) :
    Calls Tryd.prog 90 #[.agg #[.int .i64 op, .string t, .int .i64 k], runV p (.slice a s.length cap) st l false 0 ⟨#[]⟩ false ⟨#[]⟩ false, .string nm, .string pl, .slice (some ⟨b2, o2, none⟩) n cap2] w fun e w' => ∃ v, e = .returned v ∧ SoIs w' base v (.over 5 nm st) ∧ Below base w w' := by
  have HY := hide hY
  have HO := hide hO
  have HN := hide hn
  have HO0 := hide hO
  clear hY hO hn
  have A0 := hide ((((Below.refl w.heap.size w).alloc (Nat.le_refl _) (.cells #[.int .i64 op, .string t, .int .i64 k] 127)).alloc (by simp) (.cells #[.int .i64 p, .slice a s.length cap, .int .i64 st, .int .i64 l, .bool false, .int .i64 0, .string ⟨#[]⟩, .bool false, .string ⟨#[]⟩, .bool false] 104)).alloc (by first | (simp; done) | (simp; omega)) (.cells #[.int .i64 0, .slice none 0 0, .int .i64 0, .int .i64 0, .bool false, .int .i64 0, .string ⟨#[]⟩, .bool false, .string ⟨#[]⟩, .bool false] 104))
  have R0 := hide ((ten_new (w.alloc (.cells #[.int .i64 op, .string t, .int .i64 k] 127)) (.int .i64 p) (.slice a s.length cap) (.int .i64 st) (.int .i64 l) (.bool false) (.int .i64 0) (.string ⟨#[]⟩) (.bool false) (.string ⟨#[]⟩) (.bool false) 104 (w.heap.size + 1) (by simp)).al (.cells #[.int .i64 0, .slice none 0 0, .int .i64 0, .int .i64 0, .bool false, .int .i64 0, .string ⟨#[]⟩, .bool false, .string ⟨#[]⟩, .bool false] 104))
  have Z0 := hide (ten_new ((w.alloc (.cells #[.int .i64 op, .string t, .int .i64 k] 127)).alloc (.cells #[.int .i64 p, .slice a s.length cap, .int .i64 st, .int .i64 l, .bool false, .int .i64 0, .string ⟨#[]⟩, .bool false, .string ⟨#[]⟩, .bool false] 104)) (.int .i64 0) (.slice none 0 0) (.int .i64 0) (.int .i64 0) (.bool false) (.int .i64 0) (.string ⟨#[]⟩) (.bool false) (.string ⟨#[]⟩) (.bool false) 104 (w.heap.size + 1 + 1) (by simp))
  go_enter Tryd.func90, Tryd.ntmps90
  go_wp2_with fail
  refine (l1NameOk_any nm _).mono ?_
  rintro e w1 ⟨rfl, hB1⟩
  rw [HN.out]
  have R1 := hide (R0.out.below hB1 (by first | (simp; done) | (simp; omega)))
  have Z1 := hide (Z0.out.below hB1 (by simp))
  have B1 := hide (A0.out.trans (hB1.mono (by first | (simp; done) | (simp; omega))))
  have i0 : w1.cell? ⟨w.heap.size, 0, none⟩ = some (.int .i64 op) := (hB1.cell (p := ⟨w.heap.size, 0, none⟩) (by first | (simp; done) | (simp; omega))).trans (box3 _ _ _ _ _ _ _ rfl)
  have O1 := hide (own_below HO.out B1.out (Nat.le_refl _))
  have hz1 : w.heap.size + 1 + 1 < w1.heap.size := Z1.out.1
  clear hB1 A0 R0 Z0 HO HN
  obtain ⟨d0, d1, d2⟩ := (HY.out.below B1.out (Nat.le_refl _)).2 l (by omega)
  rw [hh] at d0
  have hln : (l : Int) < n := by omega
  have hz0 : w.heap.size < w1.heap.size := by omega
  have hz01 : w.heap.size + 1 < w1.heap.size := by omega
  have R2 := hide ((R1.out.set3 (.int .i64 ((l : Int) + 1))).al (.cells #[.bool true, .int .i64 (y l).code, .string (y l).text] 102))
  have Z2 := hide ((Z1.out.other ⟨w.heap.size + 1, 3, none⟩ (.int .i64 ((l : Int) + 1)) (by simp)).al (.cells #[.bool true, .int .i64 (y l).code, .string (y l).text] 102))
  have hne : ∀ k, w.heap.size ≤ k → Value.ownBlock (.slice a s.length cap) ≠ some k := fun k hk e => by have := (HO0.out.lt k e).2; omega
  have O2 := hide ((ownsRow_setCell_other O1.out (a := ⟨w.heap.size + 1, 3, none⟩) (hne _ (by simp)) (.int .i64 ((l : Int) + 1))).alloc (.cells #[.bool true, .int .i64 (y l).code, .string (y l).text] 102))
  have B2 := hide ((B1.out.setCell (p := ⟨w.heap.size + 1, 3, none⟩) (by simp) (.int .i64 ((l : Int) + 1))).alloc (by have := B1.out.size; simpa using this) (.cells #[.bool true, .int .i64 (y l).code, .string (y l).text] 102))
  have HNE := hide hne
  clear hne
  obtain ⟨chl, ⟨c0, f0⟩, ⟨c1, f1⟩, ⟨c2, f2⟩, ⟨c3, f3⟩, ⟨c4, f4⟩, ⟨c5, f5⟩, ⟨c6, f6⟩, ⟨c7, f7⟩, ⟨c8, f8⟩, c9, f9⟩ := R1.out
  go_wp2_with fail
  refine (l1End_any _ _ _ _ _ _ _ _ _ _ _ _ _ _ _).mono ?_
  rintro e w2 ⟨rfl, hB2⟩
  have ZE := hide (Z2.out.below hB2 Z2.out.1)
  have B3 := hide (B2.out.trans (hB2.mono B2.out.size))
  clear hB2
  clear chl c0 f0 c1 f1 c2 f2 c3 f3 c4 f4 c5 f5 c6 f6 c7 f7 c8 f8 c9 f9
  obtain ⟨zhl, ⟨z0, y0⟩, ⟨z1, y1⟩, ⟨z2, y2⟩, ⟨z3, y3⟩, ⟨z4, y4⟩, ⟨z5, y5⟩, ⟨z6, y6⟩, ⟨z7, y7⟩, ⟨z8, y8⟩, z9, y9⟩ := ZE.out
  go_wp2
  refine bodyPost_ret (v := runV p (.slice a s.length cap) st ((l : Int) + 1) true 5 nm false ⟨#[]⟩ false) (by simp [results, Tryd.results90, go_sem, z0, z1, z2, z3, z4, z5, z6, z7, z8, z9]) rfl ⟨_, rfl, ⟨_, _, _, _, _, rfl⟩, ten_set (B3.out.mono hb) (by omega) _ _ _ _ _ _ _ _ _ _⟩

end Go.Proofs.YtoaokmdhbagniaaDoor.Vp
