/-
  Put together of: PaImplA, PaImplU.
-/
import Derived.Test.YtkbhcajiebeepaaGreatDoorZN
import Derived.Test.YtkbhcajiebeepaaGreatDoorZD
import Derived.Test.YtkbhcajiebeepaaGreatDoorZK
import Derived.Test.YtkbhcajiebeepaaGreatDoorYB
import Derived.Deep.DeepFit

/-
  ParseProgram, impl: opOf, strings.Cut at one byte, unquoteByte.
-/
namespace Go.Proofs.YtkbhcajiebeepaaGreatDoor.Vp
open Go.RowKit

set_option maxRecDepth 100000 in
set_option maxHeartbeats 2000000 in
theorem opOf_any (s : ByteArray) (w : World) (hT : TabW w) (hz : 4 < w.heap.size) :
    Calls Tryz.prog 111 #[.string s] w fun e w' => e = .returned (.int .i64 (opF s.data.toList)) ∧ w' = w := by
  have HT := hide hT
  clear hT
  go_enter Tryz.func111, Tryz.ntmps111
  go_wp2
  go_loopw [3] (fun i wr => ∃ k : Nat, 1 ≤ k ∧ k ≤ 16 ∧ i = .int .i64 k ∧ Hid (∀ j : Int, 1 ≤ j → j < k → s.data.toList ≠ word j) ∧ wr = w) (fun i _ => 16 - (intOf i).toNat)
  case atStart => exact ⟨1, by omega, by omega, rfl, fun j h1 h2 => by omega, rfl⟩
  case round =>
    obtain ⟨k, hk1, hk2, rfl, HK, rfl⟩ := hrel
    by_cases hlt : k < 16
    · have c0 := HT.out k hlt
      have h15 : (k : Int) ≤ 15 := by omega
      have h16 : (k : Int) < 16 := by omega
      cases hb : (word k == s.toList) with
      | true =>
        have he : s.data.toList = word k := by
          have := eq_of_beq hb
          rw [ByteArray.toList_eq] at this
          exact this.symm
        have HO := hide (show opF s.data.toList = k by rw [he]; exact opF_word ⟨by omega, h15⟩)
        clear he
        go_wp2
        go_ret
        exact ⟨by rw [HO.out]; rfl, rfl⟩
      | false =>
        have HE := hide (show s.data.toList ≠ word k from fun e => by
          rw [ByteArray.toList_eq, e] at hb
          simp at hb)
        go_wp2
        refine ⟨⟨k + 1, by omega, by omega, by go_num, fun j h1 h2 => ?_, trivial⟩, by simp [intOf]; omega⟩
        by_cases e : j = k
        · rw [e]; exact HE.out
        · exact HK.out j h1 (by omega)
    · obtain rfl : k = 16 := by omega
      have HO := hide (show opF s.data.toList = 0 from by
        rcases opF_inv s.data.toList with h | ⟨h1, h2, h3⟩
        · exact h.1
        · exact absurd h3 (HK.out _ h1 (by omega)))
      go_wp2
      go_ret
      exact ⟨by rw [HO.out]; rfl, rfl⟩

theorem ix_cut (c : UInt8) : ∀ s : List UInt8, (Lib.indexByte s c = -1 ∧ cutC c s = (s, [], false)) ∨ ∃ i : Nat, Lib.indexByte s c = i ∧ i < s.length ∧ cutC c s = (s.take i, s.drop (i + 1), true)
  | [] => .inl ⟨rfl, rfl⟩
  | b :: l => by
    by_cases e : b = c
    · subst e
      exact .inr ⟨0, by simp [Lib.indexByte], by simp, by simp [cutC]⟩
    · have hb : (b == c) = false := by simpa using e
      rcases ix_cut c l with ⟨h1, h2⟩ | ⟨i, h1, h2, h3⟩
      · exact .inl ⟨by simp [Lib.indexByte, hb, h1], by rw [cutC, if_neg e, h2]⟩
      · refine .inr ⟨i + 1, ?_, by simp only [List.length_cons]; omega, ?_⟩
        · have : ((i : Int) == -1) = false := by
            have h : ¬ (i : Int) = -1 := by omega
            exact beq_false_of_ne h
          simp [Lib.indexByte, hb, h1, this]
        · rw [cutC, if_neg e, h3]
          simp

set_option maxRecDepth 100000 in
set_option maxHeartbeats 1000000 in
theorem litecut_any (s : ByteArray) (c : UInt8) (w : World) (hs : s.size ≤ maxLen) :
    Calls Tryz.prog 78 #[.string s, .string ⟨#[c]⟩] w fun e w' => e = .returned (.tuple #[.string ⟨(cutC c s.data.toList).1.toArray⟩, .string ⟨(cutC c s.data.toList).2.1.toArray⟩, .bool (cutC c s.data.toList).2.2]) ∧ ∃ m, w' = w.drewN m := by
  unfold maxLen at hs
  rcases ix_cut c s.data.toList with ⟨h1, h2⟩ | ⟨i, h1, h2, h3⟩
  · rw [h2]
    go_enter Tryz.func78, Tryz.ntmps78
    go_wp2_with (go_at_call 108; refine (Tryz.stringslite_Index_one s c _).mono ?_; rintro e w' ⟨rfl, rfl⟩; rw [h1])
    go_ret3
    exact ⟨by simp, 0, rfl⟩
  · rw [h3]
    have hl : i < s.size := by simpa using h2
    have c1 : (0 : Int) ≤ ↑i := by omega
    have c2 : (↑i : Int) ≤ ↑s.size := by omega
    have c3 : (0 : Int) ≤ ↑i + 1 := by omega
    have c4 : (↑i + 1 : Int) ≤ ↑s.size := by omega
    have c5 : (s.size : Int) ≤ 9223372036854775807 := by omega
    have E1 := hide (show s.extract 0 i = ⟨(s.data.toList.take i).toArray⟩ from by
      refine ByteArray.ext (Array.ext' ?_)
      simp [ByteArray.data_extract])
    have E2 := hide (show s.extract (i + 1) s.size = ⟨(s.data.toList.drop (i + 1)).toArray⟩ from by
      refine ByteArray.ext (Array.ext' ?_)
      simp only [ByteArray.data_extract, Array.toList_extract, List.extract_eq_take_drop]
      rw [List.take_of_length_le (by simp)])
    go_enter Tryz.func78, Tryz.ntmps78
    go_wp2_with (go_at_call 108; refine (Tryz.stringslite_Index_one s c _).mono ?_; rintro e w' ⟨rfl, rfl⟩; rw [h1])
    go_quiet (fail)
    go_wp2
    go_ret3
    exact ⟨by rw [← E1.out, ← E2.out]; rfl, nq, rfl⟩

set_option maxRecDepth 100000 in
set_option maxHeartbeats 1000000 in
theorem cut1_any (s : ByteArray) (c : UInt8) (w : World) (hs : s.size ≤ maxLen) :
    Calls Tryz.prog 57 #[.string s, .string ⟨#[c]⟩] w fun e w' => e = .returned (.tuple #[.string ⟨(cutC c s.data.toList).1.toArray⟩, .string ⟨(cutC c s.data.toList).2.1.toArray⟩, .bool (cutC c s.data.toList).2.2]) ∧ ∃ m, w' = w.drewN m := by
  go_enter Tryz.func57, Tryz.ntmps57
  go_wp2_with (go_at_call 78; refine (litecut_any s c _ hs).mono ?_; rintro e w' ⟨rfl, m, rfl⟩)
  go_ret3
  exact ⟨rfl, m, rfl⟩

theorem ix_hex (c : UInt8) : Lib.indexByte [48, 49, 50, 51, 52, 53, 54, 55, 56, 57, 97, 98, 99, 100, 101, 102] c = hexI c := by
  refine u8_all (p := fun c => Lib.indexByte [48, 49, 50, 51, 52, 53, 54, 55, 56, 57, 97, 98, 99, 100, 101, 102] c = hexI c) ?_ c
  decide +kernel
theorem indexHex_any (c : UInt8) (w : World) :
    Calls Tryz.prog 56 #[.string ⟨#[48, 49, 50, 51, 52, 53, 54, 55, 56, 57, 97, 98, 99, 100, 101, 102]⟩, .int .u8 c.toNat] w fun e w' => e = .returned (.int .i64 (hexI c)) ∧ w' = w := by
  refine (Tryz.strings_IndexByte _ (c.toNat : Int) w).mono ?_
  rintro e w' ⟨rfl, rfl⟩
  refine ⟨?_, rfl⟩
  have : ((c.toNat : Int).toNat).toUInt8 = c := by simp
  rw [this]
  exact congrArg (fun x => Ending.returned (.int .i64 x)) (ix_hex c)

/-- A package-level variable that holds an error. -/
def EV (w : World) (g : Nat) : Prop := g < w.heap.size ∧ ∃ t p, w.cell? ⟨g, 0, none⟩ = some (.iface t p)
theorem EV.below {w w' : World} {g B : Nat} (h : EV w g) (hb : Below B w w') (hB : g < B) : EV w' g := by
  obtain ⟨h1, t, p, h2⟩ := h
  exact ⟨Nat.lt_of_lt_of_le h1 hb.size, t, p, (hb.cell (p := ⟨g, 0, none⟩) hB).trans h2⟩

theorem size_toL (s : ByteArray) : s.data.toList.length = s.size := by simp
theorem byte_at {s : ByteArray} {i : Nat} {c : UInt8} (h : i < s.size) (hc : s.data.toList[i]? = some c) : s[i] = c := by
  obtain ⟨h1, h2⟩ := List.getElem?_eq_some_iff.1 hc
  rw [Array.getElem_toList] at h2
  exact h2
theorem str_cons {s : ByteArray} (h0 : 0 < s.size) : ∃ c r, s.data.toList = c :: r ∧ s.size = r.length + 1 := by
  have h := size_toL s
  cases e : s.data.toList with
  | nil => rw [e] at h; simp at h; omega
  | cons c r => rw [e] at h; exact ⟨c, r, rfl, by simp at h; omega⟩
theorem orB (k l : Int) (h0 : 0 ≤ k) (h1 : k < 16) (h2 : 0 ≤ l) (h3 : l < 16) : bits BinOp.or IntKind.i64 (wrap64 (k * 16)) l % 256 = 16 * k + l := by
  have H : ∀ n m : Fin 16, bits BinOp.or IntKind.i64 (wrap64 ((n.val : Int) * 16)) (m.val : Int) % 256 = 16 * (n.val : Int) + (m.val : Int) := by decide +kernel
  have := H ⟨k.toNat, by omega⟩ ⟨l.toNat, by omega⟩
  simp only [Int.toNat_of_nonneg h0, Int.toNat_of_nonneg h2] at this
  exact this

end Go.Proofs.YtkbhcajiebeepaaGreatDoor.Vp

/-
  ParseProgram, impl: unquoteByte.
-/
namespace Go.Proofs.YtkbhcajiebeepaaGreatDoor.Vp
open Go.RowKit

def UqPost (l : List UInt8) (w : World) (e : Ending) (w' : World) : Prop := (match unq1 l with | some (c, _) => e = .returned (.tuple #[.int .u8 c.toNat, .int .i64 (enc c).length, .nilIface]) | none => ∃ t p, e = .returned (.tuple #[.int .u8 0, .int .i64 0, .iface t p])) ∧ ∃ m, w' = w.drewN m
theorem uq_none {l : List UInt8} (h : unq1 l = none) {w : World} {te : TypeId} {pe : Value} (m : Nat) : UqPost l w (.returned (.tuple #[.int .u8 0, .int .i64 0, .iface te pe])) (w.drewN m) := by
  unfold UqPost
  rw [h]
  exact ⟨⟨te, pe, rfl⟩, m, rfl⟩
theorem uq_some {l : List UInt8} {c : UInt8} {r : List UInt8} (h : unq1 l = some (c, r)) {n : Int} (hn : n = (enc c).length) {w : World} (m : Nat) : UqPost l w (.returned (.tuple #[.int .u8 c.toNat, .int .i64 n, .nilIface])) (w.drewN m) := by
  unfold UqPost
  rw [h]
  exact ⟨by rw [hn], m, rfl⟩

set_option maxRecDepth 100000 in
set_option maxHeartbeats 2000000 in
theorem uq_neg (s : ByteArray) (a b : UInt8) (r' : List UInt8) (w : World) (hcr : s.data.toList = 92 :: a :: b :: r') (hs : s.size ≤ maxLen) (hE : EV w 3) (hn : ¬ (0 ≤ hexI a ∧ 0 ≤ hexI b)) :
    Calls Tryz.prog 110 #[.string s] w fun e w' => UqPost s.data.toList w e w' := by
  have HU : Hid (unq1 s.data.toList = none) := by
    show _ = _
    rw [hcr, unq1, if_neg (by decide), if_pos rfl]
    show (if _ then _ else _) = _
    rw [if_neg (fun h => hn ⟨h.1, h.2.1⟩)]
  unfold maxLen at hs
  obtain ⟨hz, te, pe, hev⟩ := hE
  have hsz : s.size = r'.length + 3 := by have := size_toL s; rw [hcr] at this; simp at this; omega
  have b0 : 0 < s.size := by omega
  have b1 : 1 < s.size := by omega
  have b2 : 2 < s.size := by omega
  have h0i : (0 : Int) < s.size := by omega
  have h1i : (1 : Int) < s.size := by omega
  have h2i : (2 : Int) < s.size := by omega
  have h3 : ¬ (s.size : Int) < 3 := by omega
  have hc : s[0]'b0 = 92 := byte_at b0 (by rw [hcr]; rfl)
  have ha : s[1]'b1 = a := byte_at b1 (by rw [hcr]; rfl)
  have hb : s[2]'b2 = b := byte_at b2 (by rw [hcr]; rfl)
  have hp : plainC 92 = false := by decide
  have PB := plain_any 92
  rw [hp] at PB
  clear hcr hsz hp
  have IA := indexHex_any a
  have IB := indexHex_any b
  generalize hexI a = x at hn IA
  generalize hexI b = y at hn IB
  have hd : x < 0 ∨ (¬ x < 0 ∧ y < 0) := by omega
  clear hn
  rcases hd with p1 | ⟨p1, p2⟩
  all_goals
    go_enter Tryz.func110, Tryz.ntmps110
    go_wp2_with fail
    refine (PB _).mono ?_
    rintro e w' ⟨rfl, hw'⟩
    rw [hw']
    clear hw'
    go_wp2_with (go_at_call 56; (first | go_fit (IA _) | go_fit (IB _)); rintro e w' ⟨rfl, hw'⟩; rw [hw']; clear hw')
    go_quiet (fail)
    go_wp2
    go_ret3
    exact uq_none HU.out nq

set_option maxRecDepth 100000 in
set_option maxHeartbeats 2000000 in
theorem uq_hexplain (s : ByteArray) (a b : UInt8) (r' : List UInt8) (w : World) (hcr : s.data.toList = 92 :: a :: b :: r') (hs : s.size ≤ maxLen) (hE : EV w 3) (hx : 0 ≤ hexI a) (hy : 0 ≤ hexI b) (hq : plainC (byteOf a b) = true) :
    Calls Tryz.prog 110 #[.string s] w fun e w' => UqPost s.data.toList w e w' := by
  have HU : Hid (unq1 s.data.toList = none) := by
    show _ = _
    rw [hcr, unq1, if_neg (by decide), if_pos rfl]
    show (if _ then _ else _) = _
    rw [if_neg (fun h => by rw [hq] at h; exact absurd h.2.2 (by simp))]
  unfold maxLen at hs
  obtain ⟨hz, te, pe, hev⟩ := hE
  have hsz : s.size = r'.length + 3 := by have := size_toL s; rw [hcr] at this; simp at this; omega
  have b0 : 0 < s.size := by omega
  have b1 : 1 < s.size := by omega
  have b2 : 2 < s.size := by omega
  have h0i : (0 : Int) < s.size := by omega
  have h1i : (1 : Int) < s.size := by omega
  have h2i : (2 : Int) < s.size := by omega
  have h3 : ¬ (s.size : Int) < 3 := by omega
  have hc : s[0]'b0 = 92 := byte_at b0 (by rw [hcr]; rfl)
  have ha : s[1]'b1 = a := byte_at b1 (by rw [hcr]; rfl)
  have hb : s[2]'b2 = b := byte_at b2 (by rw [hcr]; rfl)
  have hp : plainC 92 = false := by decide
  have PB := plain_any 92
  rw [hp] at PB
  clear hcr hsz hp
  have IA := indexHex_any a
  have IB := indexHex_any b
  have HLa := (hexI_lt a).2
  have HLb := (hexI_lt b).2
  have HB : ((byteOf a b).toNat : Int) = 16 * hexI a + hexI b := by
    unfold byteOf
    rw [UInt8.toNat_ofNat']
    omega
  have PL := plain_any (byteOf a b)
  rw [hq, HB] at PL
  clear HB hq
  generalize hexI a = x at hx IA PL HLa
  generalize hexI b = y at hy IB PL HLb
  rw [← orB x y hx HLa hy HLb] at PL
  have q1 : ¬ x < 0 := by omega
  have q2 : ¬ y < 0 := by omega
  clear HLa HLb
  go_enter Tryz.func110, Tryz.ntmps110
  go_wp2_with fail
  refine (PB _).mono ?_
  rintro e w' ⟨rfl, hw'⟩
  rw [hw']
  clear hw'
  go_wp2_with (go_at_call 56; (first | go_fit (IA _) | go_fit (IB _)); rintro e w' ⟨rfl, hw'⟩; rw [hw']; clear hw')
  refine (PL _).mono ?_
  rintro e w' ⟨rfl, hw'⟩
  rw [hw']
  clear hw'
  go_wp2_with fail
  go_quiet (fail)
  go_wp2
  go_ret3
  exact uq_none HU.out nq

set_option maxRecDepth 100000 in
set_option maxHeartbeats 2000000 in
theorem uq_hex (s : ByteArray) (a b : UInt8) (r' : List UInt8) (w : World) (hcr : s.data.toList = 92 :: a :: b :: r') (hs : s.size ≤ maxLen) (hE : EV w 3) (hx : 0 ≤ hexI a) (hy : 0 ≤ hexI b) (hq : plainC (byteOf a b) = false) :
    Calls Tryz.prog 110 #[.string s] w fun e w' => UqPost s.data.toList w e w' := by
  have HU : Hid (unq1 s.data.toList = some (byteOf a b, r')) := by
    show _ = _
    rw [hcr, unq1, if_neg (by decide), if_pos rfl]
    show (if _ then _ else _) = _
    rw [if_pos ⟨hx, hy, hq⟩]
  have HEN : Hid ((3 : Int) = (enc (byteOf a b)).length) := by show _ = _; rw [enc_byteOf hx hy hq]; rfl
  unfold maxLen at hs
  obtain ⟨hz, te, pe, hev⟩ := hE
  have hsz : s.size = r'.length + 3 := by have := size_toL s; rw [hcr] at this; simp at this; omega
  have b0 : 0 < s.size := by omega
  have b1 : 1 < s.size := by omega
  have b2 : 2 < s.size := by omega
  have h0i : (0 : Int) < s.size := by omega
  have h1i : (1 : Int) < s.size := by omega
  have h2i : (2 : Int) < s.size := by omega
  have h3 : ¬ (s.size : Int) < 3 := by omega
  have hc : s[0]'b0 = 92 := byte_at b0 (by rw [hcr]; rfl)
  have ha : s[1]'b1 = a := byte_at b1 (by rw [hcr]; rfl)
  have hb : s[2]'b2 = b := byte_at b2 (by rw [hcr]; rfl)
  have hp : plainC 92 = false := by decide
  have PB := plain_any 92
  rw [hp] at PB
  clear hcr hsz hp
  have IA := indexHex_any a
  have IB := indexHex_any b
  have HLa := (hexI_lt a).2
  have HLb := (hexI_lt b).2
  have HB : ((byteOf a b).toNat : Int) = 16 * hexI a + hexI b := by
    unfold byteOf
    rw [UInt8.toNat_ofNat']
    omega
  have PL := plain_any (byteOf a b)
  rw [hq, HB] at PL
  have HB := hide HB
  clear hq
  generalize byteOf a b = z at HU HEN HB
  generalize hexI a = x at hx IA PL HLa HB
  generalize hexI b = y at hy IB PL HLb HB
  have HOB := hide (orB x y hx HLa hy HLb)
  rw [← HOB.out] at PL
  have q1 : ¬ x < 0 := by omega
  have q2 : ¬ y < 0 := by omega
  clear HLa HLb
  go_enter Tryz.func110, Tryz.ntmps110
  go_wp2_with fail
  refine (PB _).mono ?_
  rintro e w' ⟨rfl, hw'⟩
  rw [hw']
  clear hw'
  go_wp2_with (go_at_call 56; (first | go_fit (IA _) | go_fit (IB _)); rintro e w' ⟨rfl, hw'⟩; rw [hw']; clear hw')
  refine (PL _).mono ?_
  rintro e w' ⟨rfl, hw'⟩
  rw [hw']
  clear hw'
  go_wp2
  go_ret3
  have := uq_some HU.out HEN.out (w := w) 0
  rw [HB.out, ← HOB.out] at this
  exact this

set_option maxRecDepth 100000 in
set_option maxHeartbeats 2000000 in
theorem unquoteByte_any (s : ByteArray) (w : World) (hs : s.size ≤ maxLen) (h0 : 0 < s.size) (hE : EV w 3) :
    Calls Tryz.prog 110 #[.string s] w fun e w' => UqPost s.data.toList w e w' := by
  unfold maxLen at hs
  obtain ⟨hz, te, pe, hev⟩ := hE
  obtain ⟨c, r, hcr, hsz⟩ := str_cons h0
  have hc : s[0] = c := byte_at h0 (by rw [hcr]; rfl)
  have h0i : (0 : Int) < s.size := by omega
  have HS := hide hsz
  have HCR := hide hcr
  rw [hcr]
  clear hcr hsz
  cases hp : plainC c with
  | true =>
    have HU := hide (show unq1 (c :: r) = some (c, r) by rw [unq1, if_pos hp])
    have HN := hide (show (enc c).length = 1 by unfold enc; rw [if_pos hp]; rfl)
    go_enter Tryz.func110, Tryz.ntmps110
    go_wp2_with (go_at_call 90; refine (plain_any c _).mono ?_; rintro e w' ⟨rfl, rfl⟩; rw [hp])
    go_ret3
    exact uq_some HU.out (by rw [HN.out]; rfl) 0
  | false =>
    have hpl : ¬ plainC c = true := by rw [hp]; simp
    by_cases h92 : c = 92
    · subst h92
      rcases r with _ | ⟨a, _ | ⟨b, r'⟩⟩
      · have HU := hide (show unq1 (92 :: []) = none by rw [unq1, if_neg hpl, if_pos rfl]; rfl)
        have h3 : (s.size : Int) < 3 := by have := HS.out; simp at this; omega
        clear hpl
        go_enter Tryz.func110, Tryz.ntmps110
        go_wp2_with (go_at_call 90; refine (plain_any 92 _).mono ?_; rintro e w' ⟨rfl, rfl⟩; rw [hp])
        go_quiet (fail)
        go_wp2
        go_ret3
        exact uq_none HU.out nq
      · have HU := hide (show unq1 (92 :: [a]) = none by rw [unq1, if_neg hpl, if_pos rfl]; rfl)
        have h3 : (s.size : Int) < 3 := by have := HS.out; simp at this; omega
        clear hpl
        go_enter Tryz.func110, Tryz.ntmps110
        go_wp2_with (go_at_call 90; refine (plain_any 92 _).mono ?_; rintro e w' ⟨rfl, rfl⟩; rw [hp])
        go_quiet (fail)
        go_wp2
        go_ret3
        exact uq_none HU.out nq
      · by_cases hx : 0 ≤ hexI a ∧ 0 ≤ hexI b
        · cases hq : plainC (byteOf a b) with
          | true => exact HCR.out ▸ uq_hexplain s a b r' w HCR.out (by unfold maxLen; exact hs) ⟨hz, te, pe, hev⟩ hx.1 hx.2 hq
          | false => exact HCR.out ▸ uq_hex s a b r' w HCR.out (by unfold maxLen; exact hs) ⟨hz, te, pe, hev⟩ hx.1 hx.2 hq
        · exact HCR.out ▸ uq_neg s a b r' w HCR.out (by unfold maxLen; exact hs) ⟨hz, te, pe, hev⟩ hx
    · have HU := hide (show unq1 (c :: r) = none by rw [unq1, if_neg hpl, if_neg h92])
      have hne : ((c.toNat : Int) != 92) = true := by
        have : c.toNat ≠ 92 := fun e => h92 (by rw [← UInt8.toNat_inj]; exact e)
        simp
        omega
      clear hpl h92
      go_enter Tryz.func110, Tryz.ntmps110
      go_wp2_with (go_at_call 90; refine (plain_any c _).mono ?_; rintro e w' ⟨rfl, rfl⟩; rw [hp])
      go_quiet (fail)
      go_wp2
      go_ret3
      exact uq_none HU.out nq

end Go.Proofs.YtkbhcajiebeepaaGreatDoor.Vp
