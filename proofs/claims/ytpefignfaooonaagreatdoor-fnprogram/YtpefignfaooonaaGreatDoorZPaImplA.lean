/-
  Put together of: PaImplA, PaImplU, PaImplB.
-/
import Derived.Test.YtpefignfaooonaaGreatDoorZG
import Derived.Test.YtpefignfaooonaaGreatDoorZPpTabW
import Derived.Test.YtpefignfaooonaaGreatDoorZPpPlain
import Derived.Test.YtpefignfaooonaaGreatDoorZVpTab
import Derived.Test.YtpefignfaooonaaGreatDoorZShelf
import Derived.Deep.DeepFit
import Derived.Test.YtpefignfaooonaaGreatDoorZPpBd

/-
  ParseProgram, impl: opOf, strings.Cut at one byte, unquoteByte.
-/
namespace Go.Proofs.YtpefignfaooonaaGreatDoor.Vp
open Go.RowKit

set_option maxRecDepth 100000 in
set_option maxHeartbeats 2000000 in
theorem opOf_any (s : ByteArray) (w : World) (hT : TabW w) (hz : 3 < w.heap.size) :
    Calls Tryz.prog 57 #[.string s] w fun e w' => e = .returned (.int .i64 (opF s.data.toList)) ∧ w' = w := by
  have HT := hide hT
  clear hT
  go_enter Tryz.func57, Tryz.ntmps57
  go_wp2
  go_loopw [3] (fun i wr => ∃ k : Nat, 1 ≤ k ∧ k ≤ 16 ∧ i = .int .i64 k ∧ Hid (∀ j : Int, 1 ≤ j → j < k → s.data.toList ≠ word j) ∧ wr = w) (fun i _ => 16 - (intOf i).toNat)
  case atStart => exact ⟨1, by omega, by omega, rfl, fun j h1 h2 => by omega, rfl⟩
  case round =>
    obtain ⟨k, hk1, hk2, rfl, HK, rfl⟩ := hrel
    by_cases hlt : k < 16
    · have c0 := HT.out k hlt
      have h15 : (k : Int) ≤ 15 := by omega
      have h16 : (k : Int) < 16 := by omega
      cases hb : (word k == s.toList) with
      | true =>
        have he : s.data.toList = word k := by
          have := eq_of_beq hb
          rw [ByteArray.toList_eq] at this
          exact this.symm
        have HO := hide (show opF s.data.toList = k by rw [he]; exact opF_word ⟨by omega, h15⟩)
        clear he
        go_wp2
        go_ret
        exact ⟨by rw [HO.out]; rfl, rfl⟩
      | false =>
        have HE := hide (show s.data.toList ≠ word k from fun e => by
          rw [ByteArray.toList_eq, e] at hb
          simp at hb)
        go_wp2
        refine ⟨⟨k + 1, by omega, by omega, by go_num, fun j h1 h2 => ?_, trivial⟩, by simp [intOf]; omega⟩
        by_cases e : j = k
        · rw [e]; exact HE.out
        · exact HK.out j h1 (by omega)
    · obtain rfl : k = 16 := by omega
      have HO := hide (show opF s.data.toList = 0 from by
        rcases opF_inv s.data.toList with h | ⟨h1, h2, h3⟩
        · exact h.1
        · exact absurd h3 (HK.out _ h1 (by omega)))
      go_wp2
      go_ret
      exact ⟨by rw [HO.out]; rfl, rfl⟩

theorem ix_cut (c : UInt8) : ∀ s : List UInt8, (Lib.indexByte s c = -1 ∧ cutC c s = (s, [], false)) ∨ ∃ i : Nat, Lib.indexByte s c = i ∧ i < s.length ∧ cutC c s = (s.take i, s.drop (i + 1), true)
  | [] => .inl ⟨rfl, rfl⟩
  | b :: l => by
    by_cases e : b = c
    · subst e
      exact .inr ⟨0, by simp [Lib.indexByte], by simp, by simp [cutC]⟩
    · have hb : (b == c) = false := by simpa using e
      rcases ix_cut c l with ⟨h1, h2⟩ | ⟨i, h1, h2, h3⟩
      · exact .inl ⟨by simp [Lib.indexByte, hb, h1], by rw [cutC, if_neg e, h2]⟩
      · refine .inr ⟨i + 1, ?_, by simp only [List.length_cons]; omega, ?_⟩
        · have : ((i : Int) == -1) = false := by
            have h : ¬ (i : Int) = -1 := by omega
            exact beq_false_of_ne h
          simp [Lib.indexByte, hb, h1, this]
        · rw [cutC, if_neg e, h3]
          simp

set_option maxRecDepth 100000 in
set_option maxHeartbeats 1000000 in
theorem litecut_any (s : ByteArray) (c : UInt8) (w : World) (hs : s.size ≤ maxLen) :
    Calls Tryz.prog 56 #[.string s, .string ⟨#[c]⟩] w fun e w' => e = .returned (.tuple #[.string ⟨(cutC c s.data.toList).1.toArray⟩, .string ⟨(cutC c s.data.toList).2.1.toArray⟩, .bool (cutC c s.data.toList).2.2]) ∧ ∃ m, w' = w.drewN m := by
  unfold maxLen at hs
  rcases ix_cut c s.data.toList with ⟨h1, h2⟩ | ⟨i, h1, h2, h3⟩
  · rw [h2]
    go_enter Tryz.func56, Tryz.ntmps56
    go_wp2_with (go_at_call 72; refine (Tryz.stringslite_Index_one s c _).mono ?_; rintro e w' ⟨rfl, rfl⟩; rw [h1])
    go_ret3
    exact ⟨by simp, 0, rfl⟩
  · rw [h3]
    have hl : i < s.size := by simpa using h2
    have c1 : (0 : Int) ≤ ↑i := by omega
    have c2 : (↑i : Int) ≤ ↑s.size := by omega
    have c3 : (0 : Int) ≤ ↑i + 1 := by omega
    have c4 : (↑i + 1 : Int) ≤ ↑s.size := by omega
    have c5 : (s.size : Int) ≤ 9223372036854775807 := by omega
    have E1 := hide (show s.extract 0 i = ⟨(s.data.toList.take i).toArray⟩ from by
      refine ByteArray.ext (Array.ext' ?_)
      simp [ByteArray.data_extract])
    have E2 := hide (show s.extract (i + 1) s.size = ⟨(s.data.toList.drop (i + 1)).toArray⟩ from by
      refine ByteArray.ext (Array.ext' ?_)
      simp only [ByteArray.data_extract, Array.toList_extract, List.extract_eq_take_drop]
      rw [List.take_of_length_le (by simp)])
    go_enter Tryz.func56, Tryz.ntmps56
    go_wp2_with (go_at_call 72; refine (Tryz.stringslite_Index_one s c _).mono ?_; rintro e w' ⟨rfl, rfl⟩; rw [h1])
    go_quiet (fail)
    go_wp2
    go_ret3
    exact ⟨by rw [← E1.out, ← E2.out]; rfl, nq, rfl⟩

set_option maxRecDepth 100000 in
set_option maxHeartbeats 1000000 in
theorem cut1_any (s : ByteArray) (c : UInt8) (w : World) (hs : s.size ≤ maxLen) :
    Calls Tryz.prog 37 #[.string s, .string ⟨#[c]⟩] w fun e w' => e = .returned (.tuple #[.string ⟨(cutC c s.data.toList).1.toArray⟩, .string ⟨(cutC c s.data.toList).2.1.toArray⟩, .bool (cutC c s.data.toList).2.2]) ∧ ∃ m, w' = w.drewN m := by
  go_enter Tryz.func37, Tryz.ntmps37
  go_wp2_with (go_at_call 56; refine (litecut_any s c _ hs).mono ?_; rintro e w' ⟨rfl, m, rfl⟩)
  go_ret3
  exact ⟨rfl, m, rfl⟩

theorem ix_hex (c : UInt8) : Lib.indexByte [48, 49, 50, 51, 52, 53, 54, 55, 56, 57, 97, 98, 99, 100, 101, 102] c = hexI c := by
  refine u8_all (p := fun c => Lib.indexByte [48, 49, 50, 51, 52, 53, 54, 55, 56, 57, 97, 98, 99, 100, 101, 102] c = hexI c) ?_ c
  decide +kernel
theorem indexHex_any (c : UInt8) (w : World) :
    Calls Tryz.prog 82 #[.string ⟨#[48, 49, 50, 51, 52, 53, 54, 55, 56, 57, 97, 98, 99, 100, 101, 102]⟩, .int .u8 c.toNat] w fun e w' => e = .returned (.int .i64 (hexI c)) ∧ w' = w := by
  refine (Tryz.strings_IndexByte _ (c.toNat : Int) w).mono ?_
  rintro e w' ⟨rfl, rfl⟩
  refine ⟨?_, rfl⟩
  have : ((c.toNat : Int).toNat).toUInt8 = c := by simp
  rw [this]
  exact congrArg (fun x => Ending.returned (.int .i64 x)) (ix_hex c)

/-- A package-level variable that holds an error. -/
def EV (w : World) (g : Nat) : Prop := g < w.heap.size ∧ ∃ t p, w.cell? ⟨g, 0, none⟩ = some (.iface t p)
theorem EV.below {w w' : World} {g B : Nat} (h : EV w g) (hb : Below B w w') (hB : g < B) : EV w' g := by
  obtain ⟨h1, t, p, h2⟩ := h
  exact ⟨Nat.lt_of_lt_of_le h1 hb.size, t, p, (hb.cell (p := ⟨g, 0, none⟩) hB).trans h2⟩

theorem size_toL (s : ByteArray) : s.data.toList.length = s.size := by simp
theorem byte_at {s : ByteArray} {i : Nat} {c : UInt8} (h : i < s.size) (hc : s.data.toList[i]? = some c) : s[i] = c := by
  obtain ⟨h1, h2⟩ := List.getElem?_eq_some_iff.1 hc
  rw [Array.getElem_toList] at h2
  exact h2
theorem str_cons {s : ByteArray} (h0 : 0 < s.size) : ∃ c r, s.data.toList = c :: r ∧ s.size = r.length + 1 := by
  have h := size_toL s
  cases e : s.data.toList with
  | nil => rw [e] at h; simp at h; omega
  | cons c r => rw [e] at h; exact ⟨c, r, rfl, by simp at h; omega⟩
theorem orB (k l : Int) (h0 : 0 ≤ k) (h1 : k < 16) (h2 : 0 ≤ l) (h3 : l < 16) : bits BinOp.or IntKind.i64 (wrap64 (k * 16)) l % 256 = 16 * k + l := by
  have H : ∀ n m : Fin 16, bits BinOp.or IntKind.i64 (wrap64 ((n.val : Int) * 16)) (m.val : Int) % 256 = 16 * (n.val : Int) + (m.val : Int) := by decide +kernel
  have := H ⟨k.toNat, by omega⟩ ⟨l.toNat, by omega⟩
  simp only [Int.toNat_of_nonneg h0, Int.toNat_of_nonneg h2] at this
  exact this

end Go.Proofs.YtpefignfaooonaaGreatDoor.Vp

/-
  ParseProgram, impl: unquoteByte.
-/
namespace Go.Proofs.YtpefignfaooonaaGreatDoor.Vp
open Go.RowKit

def UqPost (l : List UInt8) (w : World) (e : Ending) (w' : World) : Prop := (match unq1 l with | some (c, _) => e = .returned (.tuple #[.int .u8 c.toNat, .int .i64 (enc c).length, .nilIface]) | none => ∃ t p, e = .returned (.tuple #[.int .u8 0, .int .i64 0, .iface t p])) ∧ ∃ m, w' = w.drewN m
theorem uq_none {l : List UInt8} (h : unq1 l = none) {w : World} {te : TypeId} {pe : Value} (m : Nat) : UqPost l w (.returned (.tuple #[.int .u8 0, .int .i64 0, .iface te pe])) (w.drewN m) := by
  unfold UqPost
  rw [h]
  exact ⟨⟨te, pe, rfl⟩, m, rfl⟩
theorem uq_some {l : List UInt8} {c : UInt8} {r : List UInt8} (h : unq1 l = some (c, r)) {n : Int} (hn : n = (enc c).length) {w : World} (m : Nat) : UqPost l w (.returned (.tuple #[.int .u8 c.toNat, .int .i64 n, .nilIface])) (w.drewN m) := by
  unfold UqPost
  rw [h]
  exact ⟨by rw [hn], m, rfl⟩

set_option maxRecDepth 100000 in
set_option maxHeartbeats 2000000 in
theorem uq_neg (s : ByteArray) (a b : UInt8) (r' : List UInt8) (w : World) (hcr : s.data.toList = 92 :: a :: b :: r') (hs : s.size ≤ maxLen) (hE : EV w 8) (hn : ¬ (0 ≤ hexI a ∧ 0 ≤ hexI b)) :
    Calls Tryz.prog 73 #[.string s] w fun e w' => UqPost s.data.toList w e w' := by
  have HU : Hid (unq1 s.data.toList = none) := by
    show _ = _
    rw [hcr, unq1, if_neg (by decide), if_pos rfl]
    show (if _ then _ else _) = _
    rw [if_neg (fun h => hn ⟨h.1, h.2.1⟩)]
  unfold maxLen at hs
  obtain ⟨hz, te, pe, hev⟩ := hE
  have hsz : s.size = r'.length + 3 := by have := size_toL s; rw [hcr] at this; simp at this; omega
  have b0 : 0 < s.size := by omega
  have b1 : 1 < s.size := by omega
  have b2 : 2 < s.size := by omega
  have h0i : (0 : Int) < s.size := by omega
  have h1i : (1 : Int) < s.size := by omega
  have h2i : (2 : Int) < s.size := by omega
  have h3 : ¬ (s.size : Int) < 3 := by omega
  have hc : s[0]'b0 = 92 := byte_at b0 (by rw [hcr]; rfl)
  have ha : s[1]'b1 = a := byte_at b1 (by rw [hcr]; rfl)
  have hb : s[2]'b2 = b := byte_at b2 (by rw [hcr]; rfl)
  have hp : plainC 92 = false := by decide
  have PB := plain_any 92
  rw [hp] at PB
  clear hcr hsz hp
  have IA := indexHex_any a
  have IB := indexHex_any b
  generalize hexI a = x at hn IA
  generalize hexI b = y at hn IB
  have hd : x < 0 ∨ (¬ x < 0 ∧ y < 0) := by omega
  clear hn
  rcases hd with p1 | ⟨p1, p2⟩
  all_goals
    go_enter Tryz.func73, Tryz.ntmps73
    go_wp2_with fail
    refine (PB _).mono ?_
    rintro e w' ⟨rfl, hw'⟩
    rw [hw']
    clear hw'
    go_wp2_with (go_at_call 82; (first | go_fit (IA _) | go_fit (IB _)); rintro e w' ⟨rfl, hw'⟩; rw [hw']; clear hw')
    go_quiet (fail)
    go_wp2
    go_ret3
    exact uq_none HU.out nq

set_option maxRecDepth 100000 in
set_option maxHeartbeats 2000000 in
theorem uq_hexplain (s : ByteArray) (a b : UInt8) (r' : List UInt8) (w : World) (hcr : s.data.toList = 92 :: a :: b :: r') (hs : s.size ≤ maxLen) (hE : EV w 8) (hx : 0 ≤ hexI a) (hy : 0 ≤ hexI b) (hq : plainC (byteOf a b) = true) :
    Calls Tryz.prog 73 #[.string s] w fun e w' => UqPost s.data.toList w e w' := by
  have HU : Hid (unq1 s.data.toList = none) := by
    show _ = _
    rw [hcr, unq1, if_neg (by decide), if_pos rfl]
    show (if _ then _ else _) = _
    rw [if_neg (fun h => by rw [hq] at h; exact absurd h.2.2 (by simp))]
  unfold maxLen at hs
  obtain ⟨hz, te, pe, hev⟩ := hE
  have hsz : s.size = r'.length + 3 := by have := size_toL s; rw [hcr] at this; simp at this; omega
  have b0 : 0 < s.size := by omega
  have b1 : 1 < s.size := by omega
  have b2 : 2 < s.size := by omega
  have h0i : (0 : Int) < s.size := by omega
  have h1i : (1 : Int) < s.size := by omega
  have h2i : (2 : Int) < s.size := by omega
  have h3 : ¬ (s.size : Int) < 3 := by omega
  have hc : s[0]'b0 = 92 := byte_at b0 (by rw [hcr]; rfl)
  have ha : s[1]'b1 = a := byte_at b1 (by rw [hcr]; rfl)
  have hb : s[2]'b2 = b := byte_at b2 (by rw [hcr]; rfl)
  have hp : plainC 92 = false := by decide
  have PB := plain_any 92
  rw [hp] at PB
  clear hcr hsz hp
  have IA := indexHex_any a
  have IB := indexHex_any b
  have HLa := (hexI_lt a).2
  have HLb := (hexI_lt b).2
  have HB : ((byteOf a b).toNat : Int) = 16 * hexI a + hexI b := by
    unfold byteOf
    rw [UInt8.toNat_ofNat']
    omega
  have PL := plain_any (byteOf a b)
  rw [hq, HB] at PL
  clear HB hq
  generalize hexI a = x at hx IA PL HLa
  generalize hexI b = y at hy IB PL HLb
  rw [← orB x y hx HLa hy HLb] at PL
  have q1 : ¬ x < 0 := by omega
  have q2 : ¬ y < 0 := by omega
  clear HLa HLb
  go_enter Tryz.func73, Tryz.ntmps73
  go_wp2_with fail
  refine (PB _).mono ?_
  rintro e w' ⟨rfl, hw'⟩
  rw [hw']
  clear hw'
  go_wp2_with (go_at_call 82; (first | go_fit (IA _) | go_fit (IB _)); rintro e w' ⟨rfl, hw'⟩; rw [hw']; clear hw')
  refine (PL _).mono ?_
  rintro e w' ⟨rfl, hw'⟩
  rw [hw']
  clear hw'
  go_wp2_with fail
  go_quiet (fail)
  go_wp2
  go_ret3
  exact uq_none HU.out nq

set_option maxRecDepth 100000 in
set_option maxHeartbeats 2000000 in
theorem uq_hex (s : ByteArray) (a b : UInt8) (r' : List UInt8) (w : World) (hcr : s.data.toList = 92 :: a :: b :: r') (hs : s.size ≤ maxLen) (hE : EV w 8) (hx : 0 ≤ hexI a) (hy : 0 ≤ hexI b) (hq : plainC (byteOf a b) = false) :
    Calls Tryz.prog 73 #[.string s] w fun e w' => UqPost s.data.toList w e w' := by
  have HU : Hid (unq1 s.data.toList = some (byteOf a b, r')) := by
    show _ = _
    rw [hcr, unq1, if_neg (by decide), if_pos rfl]
    show (if _ then _ else _) = _
    rw [if_pos ⟨hx, hy, hq⟩]
  have HEN : Hid ((3 : Int) = (enc (byteOf a b)).length) := by show _ = _; rw [enc_byteOf hx hy hq]; rfl
  unfold maxLen at hs
  obtain ⟨hz, te, pe, hev⟩ := hE
  have hsz : s.size = r'.length + 3 := by have := size_toL s; rw [hcr] at this; simp at this; omega
  have b0 : 0 < s.size := by omega
  have b1 : 1 < s.size := by omega
  have b2 : 2 < s.size := by omega
  have h0i : (0 : Int) < s.size := by omega
  have h1i : (1 : Int) < s.size := by omega
  have h2i : (2 : Int) < s.size := by omega
  have h3 : ¬ (s.size : Int) < 3 := by omega
  have hc : s[0]'b0 = 92 := byte_at b0 (by rw [hcr]; rfl)
  have ha : s[1]'b1 = a := byte_at b1 (by rw [hcr]; rfl)
  have hb : s[2]'b2 = b := byte_at b2 (by rw [hcr]; rfl)
  have hp : plainC 92 = false := by decide
  have PB := plain_any 92
  rw [hp] at PB
  clear hcr hsz hp
  have IA := indexHex_any a
  have IB := indexHex_any b
  have HLa := (hexI_lt a).2
  have HLb := (hexI_lt b).2
  have HB : ((byteOf a b).toNat : Int) = 16 * hexI a + hexI b := by
    unfold byteOf
    rw [UInt8.toNat_ofNat']
    omega
  have PL := plain_any (byteOf a b)
  rw [hq, HB] at PL
  have HB := hide HB
  clear hq
  generalize byteOf a b = z at HU HEN HB
  generalize hexI a = x at hx IA PL HLa HB
  generalize hexI b = y at hy IB PL HLb HB
  have HOB := hide (orB x y hx HLa hy HLb)
  rw [← HOB.out] at PL
  have q1 : ¬ x < 0 := by omega
  have q2 : ¬ y < 0 := by omega
  clear HLa HLb
  go_enter Tryz.func73, Tryz.ntmps73
  go_wp2_with fail
  refine (PB _).mono ?_
  rintro e w' ⟨rfl, hw'⟩
  rw [hw']
  clear hw'
  go_wp2_with (go_at_call 82; (first | go_fit (IA _) | go_fit (IB _)); rintro e w' ⟨rfl, hw'⟩; rw [hw']; clear hw')
  refine (PL _).mono ?_
  rintro e w' ⟨rfl, hw'⟩
  rw [hw']
  clear hw'
  go_wp2
  go_ret3
  have := uq_some HU.out HEN.out (w := w) 0
  rw [HB.out, ← HOB.out] at this
  exact this

set_option maxRecDepth 100000 in
set_option maxHeartbeats 2000000 in
theorem unquoteByte_any (s : ByteArray) (w : World) (hs : s.size ≤ maxLen) (h0 : 0 < s.size) (hE : EV w 8) :
    Calls Tryz.prog 73 #[.string s] w fun e w' => UqPost s.data.toList w e w' := by
  unfold maxLen at hs
  obtain ⟨hz, te, pe, hev⟩ := hE
  obtain ⟨c, r, hcr, hsz⟩ := str_cons h0
  have hc : s[0] = c := byte_at h0 (by rw [hcr]; rfl)
  have h0i : (0 : Int) < s.size := by omega
  have HS := hide hsz
  have HCR := hide hcr
  rw [hcr]
  clear hcr hsz
  cases hp : plainC c with
  | true =>
    have HU := hide (show unq1 (c :: r) = some (c, r) by rw [unq1, if_pos hp])
    have HN := hide (show (enc c).length = 1 by unfold enc; rw [if_pos hp]; rfl)
    go_enter Tryz.func73, Tryz.ntmps73
    go_wp2_with (go_at_call 69; refine (plain_any c _).mono ?_; rintro e w' ⟨rfl, rfl⟩; rw [hp])
    go_ret3
    exact uq_some HU.out (by rw [HN.out]; rfl) 0
  | false =>
    have hpl : ¬ plainC c = true := by rw [hp]; simp
    by_cases h92 : c = 92
    · subst h92
      rcases r with _ | ⟨a, _ | ⟨b, r'⟩⟩
      · have HU := hide (show unq1 (92 :: []) = none by rw [unq1, if_neg hpl, if_pos rfl]; rfl)
        have h3 : (s.size : Int) < 3 := by have := HS.out; simp at this; omega
        clear hpl
        go_enter Tryz.func73, Tryz.ntmps73
        go_wp2_with (go_at_call 69; refine (plain_any 92 _).mono ?_; rintro e w' ⟨rfl, rfl⟩; rw [hp])
        go_quiet (fail)
        go_wp2
        go_ret3
        exact uq_none HU.out nq
      · have HU := hide (show unq1 (92 :: [a]) = none by rw [unq1, if_neg hpl, if_pos rfl]; rfl)
        have h3 : (s.size : Int) < 3 := by have := HS.out; simp at this; omega
        clear hpl
        go_enter Tryz.func73, Tryz.ntmps73
        go_wp2_with (go_at_call 69; refine (plain_any 92 _).mono ?_; rintro e w' ⟨rfl, rfl⟩; rw [hp])
        go_quiet (fail)
        go_wp2
        go_ret3
        exact uq_none HU.out nq
      · by_cases hx : 0 ≤ hexI a ∧ 0 ≤ hexI b
        · cases hq : plainC (byteOf a b) with
          | true => exact HCR.out ▸ uq_hexplain s a b r' w HCR.out (by unfold maxLen; exact hs) ⟨hz, te, pe, hev⟩ hx.1 hx.2 hq
          | false => exact HCR.out ▸ uq_hex s a b r' w HCR.out (by unfold maxLen; exact hs) ⟨hz, te, pe, hev⟩ hx.1 hx.2 hq
        · exact HCR.out ▸ uq_neg s a b r' w HCR.out (by unfold maxLen; exact hs) ⟨hz, te, pe, hev⟩ hx
    · have HU := hide (show unq1 (c :: r) = none by rw [unq1, if_neg hpl, if_neg h92])
      have hne : ((c.toNat : Int) != 92) = true := by
        have : c.toNat ≠ 92 := fun e => h92 (by rw [← UInt8.toNat_inj]; exact e)
        simp
        omega
      clear hpl h92
      go_enter Tryz.func73, Tryz.ntmps73
      go_wp2_with (go_at_call 69; refine (plain_any c _).mono ?_; rintro e w' ⟨rfl, rfl⟩; rw [hp])
      go_quiet (fail)
      go_wp2
      go_ret3
      exact uq_none HU.out nq

end Go.Proofs.YtpefignfaooonaaGreatDoor.Vp

/-
  ParseProgram, impl: unquote.
-/
namespace Go.Proofs.YtpefignfaooonaaGreatDoor.Vp
open Go.RowKit

theorem flat_split : ∀ (out t rest : List UInt8), t.flatMap enc = out.flatMap enc ++ rest → ∃ u, t = out ++ u ∧ rest = u.flatMap enc
  | [], t, rest, h => ⟨t, rfl, by simpa using h.symm⟩
  | c :: out, [], rest, h => by
    have h1 := congrArg List.length h
    have h2 := enc_pos c
    simp at h1
    omega
  | c :: out, d :: t, rest, h => by
    rw [List.flatMap_cons, List.flatMap_cons, List.append_assoc] at h
    have h1 := congrArg unq1 h
    rw [unq1_enc, unq1_enc] at h1
    simp only [Option.some.injEq, Prod.mk.injEq] at h1
    obtain ⟨u, h2, h3⟩ := flat_split out t rest h1.2
    exact ⟨u, by rw [h1.1, h2]; rfl, h3⟩
theorem not_flat {out rest : List UInt8} (hne : rest ≠ []) (hu : unq1 rest = none) (t : List UInt8) : out.flatMap enc ++ rest ≠ t.flatMap enc := by
  intro h
  obtain ⟨u, -, h2⟩ := flat_split out t rest h.symm
  cases u with
  | nil => exact hne (by simpa using h2)
  | cons c u =>
    rw [h2, List.flatMap_cons, unq1_enc] at hu
    cases hu
theorem ixI (s : ByteArray) (x : Int) (i : Nat) (hx : x = i) (h : i < s.size) (w : World) : (Instr.index 9 (.string s) (.int .i64 x)).run Tryz.prog w = .ok (.int .u8 (s.data.toList[i]'(by rw [size_toL]; exact h)).toNat) w := by
  subst hx
  rw [run_index_string w 9 s .i64 (i : Int) Tryz.underlying9]
  simp [h]
  rfl
theorem flat_ge : ∀ l : List UInt8, l.length ≤ (l.flatMap enc).length
  | [] => by simp
  | c :: r => by have := enc_pos c; have := flat_ge r; simp only [List.flatMap_cons, List.length_append, List.length_cons]; omega
def strLen : Value → Nat
  | .string s => s.size
  | _ => 0
theorem quote_parts {s : List UInt8} {mid : List UInt8} (h : s = 34 :: mid ++ [34]) (t : List UInt8) : s = quoteB t ↔ mid = t.flatMap enc := by
  rw [quoteB_eq, h]
  constructor
  · intro e
    have := List.cons.inj e
    exact (List.append_inj' this.2 rfl).1
  · intro e
    rw [e]
theorem ends_quote (s : List UInt8) (t : List UInt8) (h : s = quoteB t) : 2 ≤ s.length ∧ s[0]? = some 34 ∧ s[s.length - 1]? = some 34 := by
  rw [h, quoteB_eq]
  refine ⟨by simp, by simp, ?_⟩
  rw [List.getElem?_append_right (by simp)]
  simp
theorem mid_of {s : List UInt8} (h2 : 2 ≤ s.length) (h0 : s[0]? = some 34) (h1 : s[s.length - 1]? = some 34) : s = 34 :: (s.drop 1).take (s.length - 2) ++ [34] := by
  cases s with
  | nil => simp at h2
  | cons c r =>
    simp only [List.length_cons] at h2 h1 ⊢
    simp at h0
    subst h0
    have hr : r ≠ [] := fun e => by rw [e] at h2; simp at h2
    have hl : r.getLast hr = 34 := by
      rw [List.getLast_eq_getElem]
      have hp : 0 < r.length := List.length_pos_iff.2 hr
      rw [show r.length + 1 - 1 = (r.length - 1) + 1 by omega, List.getElem?_cons_succ] at h1
      obtain ⟨_, h3⟩ := List.getElem?_eq_some_iff.1 h1
      exact h3
    have hd := List.dropLast_concat_getLast hr
    rw [hl] at hd
    rw [show r.length + 1 - 2 = r.length - 1 by omega, List.drop_succ_cons, List.drop_zero, ← List.dropLast_eq_take]
    exact congrArg (List.cons 34) hd.symm

def UqAll (S : List UInt8) (e : Ending) : Prop := (∃ t, S = quoteB t ∧ e = .returned (.tuple #[.string ⟨t.toArray⟩, .nilIface])) ∨ ((∀ t, S ≠ quoteB t) ∧ ∃ t p, e = .returned (.tuple #[.string ⟨#[]⟩, .iface t p]))
theorem ext_in (s : ByteArray) (a : Nat) : s.extract a s.size = ⟨(s.data.toList.drop a).toArray⟩ := by
  refine ByteArray.ext (Array.ext' ?_)
  simp only [ByteArray.data_extract, Array.toList_extract, List.extract_eq_take_drop]
  rw [List.take_of_length_le (by simp)]

set_option maxRecDepth 100000 in
set_option maxHeartbeats 2000000 in
theorem unquote_no (s : ByteArray) (w : World) (hs : s.size ≤ 16777216) (hE : EV w 8) (hn : s.size < 2 ∨ (2 ≤ s.size ∧ s.data.toList[0]? ≠ some 34) ∨ (2 ≤ s.size ∧ s.data.toList[0]? = some 34 ∧ s.data.toList[s.size - 1]? ≠ some 34)) :
    Calls Tryz.prog 58 #[.string s] w fun e w' => UqAll s.data.toList e ∧ Below w.heap.size w w' := by
  have HN : Hid (∀ t, s.data.toList ≠ quoteB t) := fun t e => by
    have h := ends_quote _ t e
    rw [size_toL] at h
    rcases hn with h1 | ⟨_, h1⟩ | ⟨_, _, h1⟩
    · omega
    · exact h1 h.2.1
    · exact h1 h.2.2
  obtain ⟨hz, te, pe, hev⟩ := hE
  have hd : (s.size : Int) < 2 ∨ (¬ (s.size : Int) < 2 ∧ ∃ c : UInt8, ((c.toNat : Int) != 34) = true ∧ ∀ V, (Instr.index 9 (.string s) (.int .i64 0)).run Tryz.prog V = .ok (.int .u8 c.toNat) V) ∨ (¬ (s.size : Int) < 2 ∧ (∀ V, (Instr.index 9 (.string s) (.int .i64 0)).run Tryz.prog V = .ok (.int .u8 34) V) ∧ ∃ c : UInt8, ((c.toNat : Int) != 34) = true ∧ ∀ V, (Instr.index 9 (.string s) (.int .i64 ((s.size : Int) - 1))).run Tryz.prog V = .ok (.int .u8 c.toNat) V) := by
    have ne34 : ∀ c : UInt8, c ≠ 34 → ((c.toNat : Int) != 34) = true := fun c h => by
      have : ¬ (c.toNat : Int) = 34 := fun e => h (by rw [← UInt8.toNat_inj]; show c.toNat = 34; omega)
      simpa using this
    rcases hn with h1 | ⟨h2, h1⟩ | ⟨h2, h0, h1⟩
    · exact .inl (by omega)
    · have hl : 0 < s.data.toList.length := by rw [size_toL]; omega
      rw [List.getElem?_eq_getElem hl] at h1
      exact .inr (.inl ⟨by omega, s.data.toList[0], ne34 _ (fun e => h1 (by rw [e])), fun V => ixI s 0 0 rfl (by omega) V⟩)
    · have hl : 0 < s.data.toList.length := by rw [size_toL]; omega
      have hl1 : s.size - 1 < s.data.toList.length := by rw [size_toL]; omega
      rw [List.getElem?_eq_getElem hl] at h0
      rw [List.getElem?_eq_getElem hl1] at h1
      refine .inr (.inr ⟨by omega, fun V => ?_, s.data.toList[s.size - 1], ne34 _ (fun e => h1 (by rw [e])), fun V => ixI s _ (s.size - 1) (by omega) (by omega) V⟩)
      have := ixI s 0 0 rfl (by omega) V
      rw [Option.some.inj h0] at this
      exact this
  clear hn
  rcases hd with p1 | ⟨p1, c, p2, X0⟩ | ⟨p1, X0, c, p2, X1⟩
  all_goals
    go_enter Tryz.func58, Tryz.ntmps58
    go_wp2_with fail
    go_quiet (fail)
    go_wp2
    go_ret2
    exact ⟨.inr ⟨HN.out, te, pe, rfl⟩, below_drewN (Below.refl _ _) _⟩

set_option maxRecDepth 100000 in
set_option maxHeartbeats 4000000 in
theorem unquote_go (s : ByteArray) (w : World) (hs : s.size ≤ 16777216) (hE : EV w 8) (h2 : 2 ≤ s.size) (hf : s.data.toList[0]? = some 34) (hl : s.data.toList[s.size - 1]? = some 34) :
    Calls Tryz.prog 58 #[.string s] w fun e w' => UqAll s.data.toList e ∧ Below w.heap.size w w' := by
  have HM := hide (mid_of (s := s.data.toList) (by rw [size_toL]; exact h2) hf (by rw [size_toL]; exact hl))
  have p1 : ¬ (s.size : Int) < 2 := by omega
  have hl0 : 0 < s.data.toList.length := by rw [size_toL]; omega
  have hl1 : s.size - 1 < s.data.toList.length := by rw [size_toL]; omega
  rw [List.getElem?_eq_getElem hl0] at hf
  rw [List.getElem?_eq_getElem hl1] at hl
  have X0 : ∀ V, (Instr.index 9 (.string s) (.int .i64 0)).run Tryz.prog V = .ok (.int .u8 34) V := fun V => by
    have := ixI s 0 0 rfl (by omega) V
    rw [Option.some.inj hf] at this
    exact this
  have X1 : ∀ V, (Instr.index 9 (.string s) (.int .i64 ((s.size : Int) - 1))).run Tryz.prog V = .ok (.int .u8 34) V := fun V => by
    have := ixI s ((s.size : Int) - 1) (s.size - 1) (by omega) (by omega) V
    rw [Option.some.inj hl] at this
    exact this
  clear hf hl hl0 hl1
  have HX : Hid (s.extract 1 (s.size - 1) = ⟨((s.data.toList.drop 1).take (s.data.toList.length - 2)).toArray⟩) := by
    show _ = _
    refine ByteArray.ext (Array.ext' ?_)
    rw [size_toL]
    simp only [ByteArray.data_extract, Array.toList_extract, List.extract_eq_take_drop]
    rw [show s.size - 1 - 1 = s.size - 2 by omega]
  have q1 : (1 : Int) ≤ (s.size : Int) - 1 := by omega
  have q2 : (s.size : Int) - 1 ≤ s.size := by omega
  have N0 := hide (Bd.new w)
  have B0 := hide ((Below.refl w.heap.size w).alloc (Nat.le_refl _) (.cells #[.pointer none, .slice none 0 0] 58))
  have HEV := hide hE
  have hml : ((s.data.toList.drop 1).take (s.data.toList.length - 2)).length ≤ 16777216 := by rw [List.length_take, List.length_drop, size_toL]; omega
  generalize (s.data.toList.drop 1).take (s.data.toList.length - 2) = mid at HM HX hml
  go_enter Tryz.func58, Tryz.ntmps58
  go_wp2
  rw [HX.out]
  go_loopw [5] (fun i wr => ∃ (out rest : List UInt8), i = .string ⟨rest.toArray⟩ ∧ Hid (mid = out.flatMap enc ++ rest) ∧ Hid (Bd wr w.heap.size w.heap.size out) ∧ Hid (Below w.heap.size w wr)) (fun i _ => strLen i)
  case atStart => exact ⟨[], mid, rfl, rfl, N0.out, B0.out⟩
  case round =>
    clear N0 B0
    obtain ⟨out, rest, rfl, HE, HD, HB⟩ := hrel
    have hsz : w.heap.size < wr.heap.size := HD.out.lt.2
    have hol : out.length + rest.length ≤ 16777216 := by
      have h1 := congrArg List.length HE.out
      have h3 := flat_ge out
      rw [List.length_append] at h1
      omega
    have HV := hide (HEV.out.below HB.out HEV.out.1)
    cases rest with
    | nil =>
      have HQ : Hid (s.data.toList = quoteB out) := (quote_parts HM.out out).2 (by rw [HE.out]; simp)
      go_wp2_with fail
      refine (string_any w.heap.size w.heap.size out _ HD.out (Nat.le_of_lt hsz)).mono ?_
      rintro e w1 ⟨rfl, hB1⟩
      have B1 := hide (HB.out.trans hB1)
      clear hB1
      go_wp2
      go_ret2
      exact ⟨.inl ⟨out, HQ.out, rfl⟩, B1.out⟩
    | cons c r =>
      obtain ⟨RS, hRS⟩ : ∃ RS : ByteArray, RS = ⟨(c :: r).toArray⟩ := ⟨_, rfl⟩
      rw [← hRS]
      have hsr : RS.size = r.length + 1 := by rw [hRS]; simp [ByteArray.size]
      have hz : RS.toList.isEmpty = false := by rw [ByteArray.toList_eq, hRS]; simp
      have hdl : RS.data.toList = c :: r := by rw [hRS]
      have UB := hide (unquoteByte_any RS wr (by unfold maxLen; simp only [List.length_cons] at hol; omega) (by omega) HV.out)
      have HUN := hide (fun h t => not_flat (out := out) (rest := c :: r) (by simp) h t)
      have HUS := hide (fun d r' (h : unq1 (c :: r) = some (d, r')) => unq1_some h)
      rw [hdl] at UB
      have HX2 := hide (fun en => ext_in RS en)
      rw [hdl] at HX2
      have hsr2 : (RS.size : Int) ≤ 16777216 := by simp only [List.length_cons] at hol; omega
      have HSR := hide hsr
      clear hRS hdl hsr
      go_wp2_with fail
      refine UB.out.mono ?_
      rintro e w1 ⟨h1, m, rfl⟩
      cases hu : unq1 (c :: r) with
      | none =>
        rw [hu] at h1
        obtain ⟨te, pe, rfl⟩ := h1
        have HN : Hid (∀ t, s.data.toList ≠ quoteB t) := fun t h => HUN.out hu t (by rw [← HE.out]; exact (quote_parts HM.out t).1 h)
        go_wp2
        go_ret2
        exact ⟨.inr ⟨HN.out, te, pe, rfl⟩, below_drewN HB.out m⟩
      | some x =>
        obtain ⟨d, r'⟩ := x
        rw [hu] at h1
        subst h1
        have hx := HUS.out d r' hu
        have HX := hide hx
        have hen := enc_pos d
        have hlen : r.length + 1 = (enc d).length + r'.length := by have := congrArg List.length hx; simpa using this
        have g1 : ((enc d).length : Int) ≤ RS.size := by have := HSR.out; omega
        have HX3 : Hid (RS.extract (enc d).length RS.size = ⟨r'.toArray⟩) := by
          show _ = _
          rw [HX2.out (enc d).length, hx, List.drop_left]
        have HLN := hide hlen
        have HE2 : Hid (mid = (out ++ [d]).flatMap enc ++ r') := by
          show _ = _
          rw [HE.out, hx]
          simp
        have D1 := hide (HD.out.below (below_drewN (Below.refl wr.heap.size wr) m) (Nat.le_refl _))
        have B1 := hide (below_drewN HB.out m)
        have hz1 : w.heap.size ≤ (wr.drewN m).heap.size := Nat.le_of_lt hsz
        clear hx hlen HX2 HUN HUS UB hu
        generalize wr.drewN m = W1 at D1 B1 hz1 ⊢
        generalize (enc d).length = en at hen g1 HX3 HLN ⊢
        go_wp2_with fail
        refine (writeByte_any w.heap.size w.heap.size out d _ D1.out (by simp only [List.length_cons] at hol; omega) hz1).mono ?_
        rintro e w2 ⟨rfl, hD2, hB2⟩
        have D2 := hide hD2
        have B2 := hide (B1.out.trans hB2)
        clear hD2 hB2
        go_wp2
        exact ⟨⟨out ++ [d], r', by rw [HX3.out], HE2.out, D2.out, B2.out⟩, by have h3 := HLN.out; have h4 := HSR.out; rw [HX3.out]; show r'.length < RS.size; omega⟩

theorem unquote_any (s : ByteArray) (w : World) (hs : s.size ≤ 16777216) (hE : EV w 8) :
    Calls Tryz.prog 58 #[.string s] w fun e w' => UqAll s.data.toList e ∧ Below w.heap.size w w' := by
  by_cases h1 : s.size < 2
  · exact unquote_no s w hs hE (.inl h1)
  · by_cases h2 : s.data.toList[0]? = some 34
    · by_cases h3 : s.data.toList[s.size - 1]? = some 34
      · exact unquote_go s w hs hE (by omega) h2 h3
      · exact unquote_no s w hs hE (.inr (.inr ⟨by omega, h2, h3⟩))
    · exact unquote_no s w hs hE (.inr (.inl ⟨by omega, h2⟩))

end Go.Proofs.YtpefignfaooonaaGreatDoor.Vp
