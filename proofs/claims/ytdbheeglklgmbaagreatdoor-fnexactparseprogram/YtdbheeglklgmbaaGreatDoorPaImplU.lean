/-
  ParseProgram, impl: unquoteByte.
-/
import Derived.Test.YtdbheeglklgmbaaGreatDoorPaImplA
namespace Go.Proofs.YtdbheeglklgmbaaGreatDoor.Vp
open Go.RowKit

def UqPost (l : List UInt8) (w : World) (e : Ending) (w' : World) : Prop := (match unq1 l with | some (c, _) => e = .returned (.tuple #[.int .u8 c.toNat, .int .i64 (enc c).length, .nilIface]) | none => ∃ t p, e = .returned (.tuple #[.int .u8 0, .int .i64 0, .iface t p])) ∧ ∃ m, w' = w.drewN m
theorem uq_none {l : List UInt8} (h : unq1 l = none) {w : World} {te : TypeId} {pe : Value} (m : Nat) : UqPost l w (.returned (.tuple #[.int .u8 0, .int .i64 0, .iface te pe])) (w.drewN m) := by
  unfold UqPost
  rw [h]
  exact ⟨⟨te, pe, rfl⟩, m, rfl⟩
theorem uq_some {l : List UInt8} {c : UInt8} {r : List UInt8} (h : unq1 l = some (c, r)) {n : Int} (hn : n = (enc c).length) {w : World} (m : Nat) : UqPost l w (.returned (.tuple #[.int .u8 c.toNat, .int .i64 n, .nilIface])) (w.drewN m) := by
  unfold UqPost
  rw [h]
  exact ⟨by rw [hn], m, rfl⟩

set_option maxRecDepth 100000 in
set_option maxHeartbeats 2000000 in
theorem uq_neg (s : ByteArray) (a b : UInt8) (r' : List UInt8) (w : World) (hcr : s.data.toList = 92 :: a :: b :: r') (hs : s.size ≤ maxLen) (hE : EV w 8) (hn : ¬ (0 ≤ hexI a ∧ 0 ≤ hexI b)) :
    Calls Tryz.prog 44 #[.string s] w fun e w' => UqPost s.data.toList w e w' := by
  have HU : Hid (unq1 s.data.toList = none) := by
    show _ = _
    rw [hcr, unq1, if_neg (by decide), if_pos rfl]
    show (if _ then _ else _) = _
    rw [if_neg (fun h => hn ⟨h.1, h.2.1⟩)]
  unfold maxLen at hs
  obtain ⟨hz, te, pe, hev⟩ := hE
  have hsz : s.size = r'.length + 3 := by have := size_toL s; rw [hcr] at this; simp at this; omega
  have b0 : 0 < s.size := by omega
  have b1 : 1 < s.size := by omega
  have b2 : 2 < s.size := by omega
  have h0i : (0 : Int) < s.size := by omega
  have h1i : (1 : Int) < s.size := by omega
  have h2i : (2 : Int) < s.size := by omega
  have h3 : ¬ (s.size : Int) < 3 := by omega
  have hc : s[0]'b0 = 92 := byte_at b0 (by rw [hcr]; rfl)
  have ha : s[1]'b1 = a := byte_at b1 (by rw [hcr]; rfl)
  have hb : s[2]'b2 = b := byte_at b2 (by rw [hcr]; rfl)
  have hp : plainC 92 = false := by decide
  have PB := plain_any 92
  rw [hp] at PB
  clear hcr hsz hp
  have IA := indexHex_any a
  have IB := indexHex_any b
  generalize hexI a = x at hn IA
  generalize hexI b = y at hn IB
  have hd : x < 0 ∨ (¬ x < 0 ∧ y < 0) := by omega
  clear hn
  rcases hd with p1 | ⟨p1, p2⟩
  all_goals
    go_enter Tryz.func44, Tryz.ntmps44
    go_wp2_with fail
    refine (PB _).mono ?_
    rintro e w' ⟨rfl, hw'⟩
    rw [hw']
    clear hw'
    go_wp2_with (go_at_call 56; (first | go_fit (IA _) | go_fit (IB _)); rintro e w' ⟨rfl, hw'⟩; rw [hw']; clear hw')
    go_quiet (fail)
    go_wp2
    go_ret3
    exact uq_none HU.out nq

set_option maxRecDepth 100000 in
set_option maxHeartbeats 2000000 in
theorem uq_hexplain (s : ByteArray) (a b : UInt8) (r' : List UInt8) (w : World) (hcr : s.data.toList = 92 :: a :: b :: r') (hs : s.size ≤ maxLen) (hE : EV w 8) (hx : 0 ≤ hexI a) (hy : 0 ≤ hexI b) (hq : plainC (byteOf a b) = true) :
    Calls Tryz.prog 44 #[.string s] w fun e w' => UqPost s.data.toList w e w' := by
  have HU : Hid (unq1 s.data.toList = none) := by
    show _ = _
    rw [hcr, unq1, if_neg (by decide), if_pos rfl]
    show (if _ then _ else _) = _
    rw [if_neg (fun h => by rw [hq] at h; exact absurd h.2.2 (by simp))]
  unfold maxLen at hs
  obtain ⟨hz, te, pe, hev⟩ := hE
  have hsz : s.size = r'.length + 3 := by have := size_toL s; rw [hcr] at this; simp at this; omega
  have b0 : 0 < s.size := by omega
  have b1 : 1 < s.size := by omega
  have b2 : 2 < s.size := by omega
  have h0i : (0 : Int) < s.size := by omega
  have h1i : (1 : Int) < s.size := by omega
  have h2i : (2 : Int) < s.size := by omega
  have h3 : ¬ (s.size : Int) < 3 := by omega
  have hc : s[0]'b0 = 92 := byte_at b0 (by rw [hcr]; rfl)
  have ha : s[1]'b1 = a := byte_at b1 (by rw [hcr]; rfl)
  have hb : s[2]'b2 = b := byte_at b2 (by rw [hcr]; rfl)
  have hp : plainC 92 = false := by decide
  have PB := plain_any 92
  rw [hp] at PB
  clear hcr hsz hp
  have IA := indexHex_any a
  have IB := indexHex_any b
  have HLa := (hexI_lt a).2
  have HLb := (hexI_lt b).2
  have HB : ((byteOf a b).toNat : Int) = 16 * hexI a + hexI b := by
    unfold byteOf
    rw [UInt8.toNat_ofNat']
    omega
  have PL := plain_any (byteOf a b)
  rw [hq, HB] at PL
  clear HB hq
  generalize hexI a = x at hx IA PL HLa
  generalize hexI b = y at hy IB PL HLb
  rw [← orB x y hx HLa hy HLb] at PL
  have q1 : ¬ x < 0 := by omega
  have q2 : ¬ y < 0 := by omega
  clear HLa HLb
  go_enter Tryz.func44, Tryz.ntmps44
  go_wp2_with fail
  refine (PB _).mono ?_
  rintro e w' ⟨rfl, hw'⟩
  rw [hw']
  clear hw'
  go_wp2_with (go_at_call 56; (first | go_fit (IA _) | go_fit (IB _)); rintro e w' ⟨rfl, hw'⟩; rw [hw']; clear hw')
  refine (PL _).mono ?_
  rintro e w' ⟨rfl, hw'⟩
  rw [hw']
  clear hw'
  go_wp2_with fail
  go_quiet (fail)
  go_wp2
  go_ret3
  exact uq_none HU.out nq

set_option maxRecDepth 100000 in
set_option maxHeartbeats 2000000 in
theorem uq_hex (s : ByteArray) (a b : UInt8) (r' : List UInt8) (w : World) (hcr : s.data.toList = 92 :: a :: b :: r') (hs : s.size ≤ maxLen) (hE : EV w 8) (hx : 0 ≤ hexI a) (hy : 0 ≤ hexI b) (hq : plainC (byteOf a b) = false) :
    Calls Tryz.prog 44 #[.string s] w fun e w' => UqPost s.data.toList w e w' := by
  have HU : Hid (unq1 s.data.toList = some (byteOf a b, r')) := by
    show _ = _
    rw [hcr, unq1, if_neg (by decide), if_pos rfl]
    show (if _ then _ else _) = _
    rw [if_pos ⟨hx, hy, hq⟩]
  have HEN : Hid ((3 : Int) = (enc (byteOf a b)).length) := by show _ = _; rw [enc_byteOf hx hy hq]; rfl
  unfold maxLen at hs
  obtain ⟨hz, te, pe, hev⟩ := hE
  have hsz : s.size = r'.length + 3 := by have := size_toL s; rw [hcr] at this; simp at this; omega
  have b0 : 0 < s.size := by omega
  have b1 : 1 < s.size := by omega
  have b2 : 2 < s.size := by omega
  have h0i : (0 : Int) < s.size := by omega
  have h1i : (1 : Int) < s.size := by omega
  have h2i : (2 : Int) < s.size := by omega
  have h3 : ¬ (s.size : Int) < 3 := by omega
  have hc : s[0]'b0 = 92 := byte_at b0 (by rw [hcr]; rfl)
  have ha : s[1]'b1 = a := byte_at b1 (by rw [hcr]; rfl)
  have hb : s[2]'b2 = b := byte_at b2 (by rw [hcr]; rfl)
  have hp : plainC 92 = false := by decide
  have PB := plain_any 92
  rw [hp] at PB
  clear hcr hsz hp
  have IA := indexHex_any a
  have IB := indexHex_any b
  have HLa := (hexI_lt a).2
  have HLb := (hexI_lt b).2
  have HB : ((byteOf a b).toNat : Int) = 16 * hexI a + hexI b := by
    unfold byteOf
    rw [UInt8.toNat_ofNat']
    omega
  have PL := plain_any (byteOf a b)
  rw [hq, HB] at PL
  have HB := hide HB
  clear hq
  generalize byteOf a b = z at HU HEN HB
  generalize hexI a = x at hx IA PL HLa HB
  generalize hexI b = y at hy IB PL HLb HB
  have HOB := hide (orB x y hx HLa hy HLb)
  rw [← HOB.out] at PL
  have q1 : ¬ x < 0 := by omega
  have q2 : ¬ y < 0 := by omega
  clear HLa HLb
  go_enter Tryz.func44, Tryz.ntmps44
  go_wp2_with fail
  refine (PB _).mono ?_
  rintro e w' ⟨rfl, hw'⟩
  rw [hw']
  clear hw'
  go_wp2_with (go_at_call 56; (first | go_fit (IA _) | go_fit (IB _)); rintro e w' ⟨rfl, hw'⟩; rw [hw']; clear hw')
  refine (PL _).mono ?_
  rintro e w' ⟨rfl, hw'⟩
  rw [hw']
  clear hw'
  go_wp2
  go_ret3
  have := uq_some HU.out HEN.out (w := w) 0
  rw [HB.out, ← HOB.out] at this
  exact this

set_option maxRecDepth 100000 in
set_option maxHeartbeats 2000000 in
theorem unquoteByte_any (s : ByteArray) (w : World) (hs : s.size ≤ maxLen) (h0 : 0 < s.size) (hE : EV w 8) :
    Calls Tryz.prog 44 #[.string s] w fun e w' => UqPost s.data.toList w e w' := by
  unfold maxLen at hs
  obtain ⟨hz, te, pe, hev⟩ := hE
  obtain ⟨c, r, hcr, hsz⟩ := str_cons h0
  have hc : s[0] = c := byte_at h0 (by rw [hcr]; rfl)
  have h0i : (0 : Int) < s.size := by omega
  have HS := hide hsz
  have HCR := hide hcr
  rw [hcr]
  clear hcr hsz
  cases hp : plainC c with
  | true =>
    have HU := hide (show unq1 (c :: r) = some (c, r) by rw [unq1, if_pos hp])
    have HN := hide (show (enc c).length = 1 by unfold enc; rw [if_pos hp]; rfl)
    go_enter Tryz.func44, Tryz.ntmps44
    go_wp2_with (go_at_call 55; refine (plain_any c _).mono ?_; rintro e w' ⟨rfl, rfl⟩; rw [hp])
    go_ret3
    exact uq_some HU.out (by rw [HN.out]; rfl) 0
  | false =>
    have hpl : ¬ plainC c = true := by rw [hp]; simp
    by_cases h92 : c = 92
    · subst h92
      rcases r with _ | ⟨a, _ | ⟨b, r'⟩⟩
      · have HU := hide (show unq1 (92 :: []) = none by rw [unq1, if_neg hpl, if_pos rfl]; rfl)
        have h3 : (s.size : Int) < 3 := by have := HS.out; simp at this; omega
        clear hpl
        go_enter Tryz.func44, Tryz.ntmps44
        go_wp2_with (go_at_call 55; refine (plain_any 92 _).mono ?_; rintro e w' ⟨rfl, rfl⟩; rw [hp])
        go_quiet (fail)
        go_wp2
        go_ret3
        exact uq_none HU.out nq
      · have HU := hide (show unq1 (92 :: [a]) = none by rw [unq1, if_neg hpl, if_pos rfl]; rfl)
        have h3 : (s.size : Int) < 3 := by have := HS.out; simp at this; omega
        clear hpl
        go_enter Tryz.func44, Tryz.ntmps44
        go_wp2_with (go_at_call 55; refine (plain_any 92 _).mono ?_; rintro e w' ⟨rfl, rfl⟩; rw [hp])
        go_quiet (fail)
        go_wp2
        go_ret3
        exact uq_none HU.out nq
      · by_cases hx : 0 ≤ hexI a ∧ 0 ≤ hexI b
        · cases hq : plainC (byteOf a b) with
          | true => exact HCR.out ▸ uq_hexplain s a b r' w HCR.out (by unfold maxLen; exact hs) ⟨hz, te, pe, hev⟩ hx.1 hx.2 hq
          | false => exact HCR.out ▸ uq_hex s a b r' w HCR.out (by unfold maxLen; exact hs) ⟨hz, te, pe, hev⟩ hx.1 hx.2 hq
        · exact HCR.out ▸ uq_neg s a b r' w HCR.out (by unfold maxLen; exact hs) ⟨hz, te, pe, hev⟩ hx
    · have HU := hide (show unq1 (c :: r) = none by rw [unq1, if_neg hpl, if_neg h92])
      have hne : ((c.toNat : Int) != 92) = true := by
        have : c.toNat ≠ 92 := fun e => h92 (by rw [← UInt8.toNat_inj]; exact e)
        simp
        omega
      clear hpl h92
      go_enter Tryz.func44, Tryz.ntmps44
      go_wp2_with (go_at_call 55; refine (plain_any c _).mono ?_; rintro e w' ⟨rfl, rfl⟩; rw [hp])
      go_quiet (fail)
      go_wp2
      go_ret3
      exact uq_none HU.out nq

end Go.Proofs.YtdbheeglklgmbaaGreatDoor.Vp
