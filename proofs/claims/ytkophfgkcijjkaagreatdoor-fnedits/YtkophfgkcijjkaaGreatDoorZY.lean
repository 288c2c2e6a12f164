import Derived.Test.YtkophfgkcijjkaaGreatDoorZC
import Derived.Test.YtkophfgkcijjkaaGreatDoorZP
import Derived.Shelf.Strings.SlTrimAscii
import Derived.Lib.OthersKept
import Derived.Lib.TrimU
import Derived.Laws.Runes
import Derived.Deep.LoopGhost
import Derived.WalkMore
namespace Go.Proofs.YtkophfgkcijjkaaGreatDoor.Vp
open Go.RowKit
theorem validRune_of {r : Int} (h : Utf8.valid r = true) : Lib.validRune r = true := by
  unfold Utf8.valid at h
  unfold Lib.validRune
  simp at *
  omega
set_option maxHeartbeats 4000000 in
set_option maxRecDepth 1000000 in
theorem indexRune_hi (r : Int) (w : World) (h1 : 128 ≤ r) (h2 : r ≤ 1114111) (hv : Utf8.valid r = true) (hr : ¬ r = 65533) :
    Calls Tryz.prog 264 #[.string ⟨#[32, 10]⟩, .int .i32 r] w fun e w' => e = .returned (.int .i64 (-1)) ∧ Below w.heap.size w w' := by
  obtain ⟨e1, e2, e3⟩ := encode_facts r hv h1
  have hvr := validRune_of hv
  have hne : (r == 65533) = false := by simp [hr]
  have hcv : ∀ w : World, (convert 21 9 (.int .i32 r)).run Tryz.prog w = .ok (.string (Utf8.encode r)) w := fun w => run_convert_int_string w _ _ _ _ (by rw [Tryz.underlying21]; rfl) Tryz.underlying9
  generalize Utf8.encode r = E at *
  have hn1 : ((E.size : Int) - 1).toNat = E.size - 1 := by omega
  go_enter Tryz.func264, Tryz.ntmps264
  go_wp2_with fail
  refine (Tryz.utf8_ValidRune r _).mono ?_
  rintro e w1 ⟨rfl, rfl⟩
  rw [hvr]
  go_wp2_with fail
  go_step3
  by_cases h3 : E.size = 2
  · have hlast := e3 (by omega)
    obtain ⟨⟨l⟩⟩ := E
    obtain ⟨x, y, rfl⟩ : ∃ x y, l = [x, y] := by
      match l, h3 with
      | [x, y], _ => exact ⟨x, y, rfl⟩
    have hy : 128 ≤ y.toNat := hlast
    have hyn : ((10 : Int) != (y.toNat : Int)) = true := by simp; omega
    clear e3 hlast e1 e2 hn1 h3
    have i1 : ∀ w : World, (Instr.index 9 (.string ⟨#[32, 10]⟩) (.int .i64 1)).run Tryz.prog w = .ok (.int .u8 10) w := fun w => by kernel_rfl
    have i2 : ∀ w : World, (Instr.index 9 (.string ⟨⟨[x, y]⟩⟩) (.int .i64 1)).run Tryz.prog w = .ok (.int .u8 y.toNat) w := fun w => by kernel_rfl
    have i3 : ∀ w : World, (Instr.slice 9 (.string ⟨#[32, 10]⟩) (some (.int .i64 2)) none none).run Tryz.prog w = .ok (.string ⟨#[]⟩) w := fun w => by kernel_rfl
    go_wp2
    go_loop [9] (fun i => i = .int .i64 1) (fun _ => 0)
    case atStart => rfl
    case round =>
      subst hrel
      go_wp2_with fail
      go_step3
      go_wp2_with fail
      go_region_with fail
      all_goals
        go_wp2_with fail
        go_region_with (go_at_call 282; refine (Tryz.strings_IndexByte _ _ _).mono ?_; rintro e w2 ⟨rfl, hw2⟩; subst hw2)
        all_goals
          go_wp2
          rw [Exit.noGoto_ret]
          go_wp2
          rw [Exit.noGoto_ret]
          go_wp2
          go_ret
          exact ⟨rfl, (by repeat (first | exact Below.refl _ _ | apply Below.drew))⟩
  · have h4 : ¬ ((E.size : Int) - 1 < 2) := by omega
    go_wp2
    go_loop [9] (fun i => i = .int .i64 ((E.size : Int) - 1)) (fun _ => 0)
    case atStart => rfl
    case round =>
      subst hrel
      go_wp2
      go_ret
      exact ⟨rfl, Below.refl _ _⟩
set_option maxHeartbeats 4000000 in
set_option maxRecDepth 1000000 in
theorem indexRune_bad (w : World) :
    Calls Tryz.prog 264 #[.string ⟨#[32, 10]⟩, .int .i32 65533] w fun e w' => e = .returned (.int .i64 (-1)) ∧ Below w.heap.size w w' := by
  have n0 := fun ty => run_next_ascii (P := Tryz.prog) w ⟨#[32, 10]⟩ 0 ty (by decide) (by decide)
  have n1 := fun ty => run_next_ascii (P := Tryz.prog) w ⟨#[32, 10]⟩ 1 ty (by decide) (by decide)
  have n2 := run_next_end (P := Tryz.prog) w ⟨#[32, 10]⟩ 2
  go_enter Tryz.func264, Tryz.ntmps264
  go_wp2
  go_loopg [] 2 (fun g wx => ∃ i : Nat, i + g = 2 ∧ wx = w.iter ⟨#[32, 10]⟩ i)
  case atStart => exact ⟨0, by omega, rfl⟩
  case round =>
    obtain ⟨i, hig, rfl⟩ := hrel
    rcases (show i = 0 ∨ i = 1 ∨ i = 2 by omega) with rfl | rfl | rfl
    · go_wp2
      go_roundg 1
      case measure => omega
      case rel => exact ⟨1, by omega, rfl⟩
    · go_wp2
      go_roundg 0
      case measure => omega
      case rel => exact ⟨2, by omega, rfl⟩
    · go_wp2
      go_ret
      exact ⟨rfl, (Below.refl _ w).alloc (Nat.le_refl _) _⟩
theorem decode_hi (s : ByteArray) (pos : Nat) (hp : pos < s.size) (h : 128 ≤ (s.get! pos).toNat) :
    128 ≤ (Utf8.decode s pos).1 ∧ Utf8.valid (Utf8.decode s pos).1 = true ∧ pos + (Utf8.decode s pos).2 ≤ s.size ∧ ∀ j, j < (Utf8.decode s pos).2 → 128 ≤ (s.get! (pos + j)).toNat := by
  rw [Lib.decode_at]
  have b0 := UInt8.toNat_lt (s.get! pos)
  unfold Lib.decodeN Utf8.valid
  rw [if_neg (by omega)]
  repeat' split
  all_goals
    refine ⟨by simp only; omega, by first | (simp; done) | (simp; omega), by simp only; omega, ?_⟩
    intro j hj
    simp only at hj
    rcases (show j = 0 ∨ j = 1 ∨ j = 2 ∨ j = 3 by omega) with rfl | rfl | rfl | rfl
    all_goals first | exact h | omega
theorem decode_lo (s : ByteArray) (pos : Nat) (h : (s.get! pos).toNat < 128) : Utf8.decode s pos = ((s.get! pos).toNat, 1) := by
  rw [Lib.decode_at]
  unfold Lib.decodeN
  rw [if_pos h]
theorem get!_at (s : ByteArray) (i : Nat) (h : i < s.size) : s.data.toList[i]? = some (s.get! i) := by
  rw [Lib.data_getElem? s i h]
  obtain ⟨a⟩ := s
  exact congrArg some (getElem!_pos a i h).symm
theorem noAny_hi {s : ByteArray} {pos : Nat} (K : Nat) (h : Lib.NoAny s.data.toList [32, 10] pos) (hK : pos + K ≤ s.size) (hj : ∀ j, j < K → 128 ≤ (s.get! (pos + j)).toNat) : Lib.NoAny s.data.toList [32, 10] (pos + K) := by
  intro j b hjk hb
  by_cases e : j < pos
  · exact h j b e hb
  · have h2 := hj (j - pos) (by omega)
    rw [show pos + (j - pos) = j by omega] at h2
    rw [get!_at s j (by omega)] at hb
    obtain rfl := Option.some.inj hb
    simp
    refine ⟨?_, ?_⟩
    · intro e; rw [e] at h2; simp at h2
    · intro e; rw [e] at h2; simp at h2
set_option maxHeartbeats 8000000 in
set_option maxRecDepth 1000000 in
theorem indexAny_short (s : ByteArray) (w : World) (h8 : (s.size : Int) ≤ 8) :
    Calls Tryz.prog 242 #[.string s, .string ⟨#[32, 10]⟩] w fun e w' => e = .returned (.int .i64 (Lib.indexAny s.data.toList [32, 10])) ∧ Below w.heap.size w w' := by
  have h8z : decide ((8 : Int) < (s.size : Int)) = false := decide_eq_false (by omega)
  go_enter Tryz.func242, Tryz.ntmps242
  go_wp2_with fail
  refine (Tryz.strings_shouldUseASCIISet _ _).mono ?_
  rintro e w1 ⟨rfl, rfl⟩
  rw [h8z]
  go_wp2
  go_loopg [9, 10] s.size (fun g _ _ wx => ∃ pos : Nat, s.size ≤ pos + g ∧ wx.heap[w1.heap.size]? = some (.stringIter s pos) ∧ Below w1.heap.size w1 wx ∧ Lib.NoAny s.data.toList [32, 10] pos ∧ pos ≤ s.size)
  case atStart => exact ⟨0, by omega, World.iter_heap w1 s 0, (Below.refl _ w1).alloc (Nat.le_refl _) _, Lib.NoAny.zero _ _, by omega⟩
  case round =>
    obtain ⟨pos, hpg, hit, hbw, hno, hps⟩ := hrel
    have HI := hide hit
    have HN := hide hno
    have HB := hide hbw
    clear hbw hno
    by_cases hp : pos < s.size
    · obtain ⟨g, rfl⟩ : ∃ g, gk = g + 1 := ⟨gk - 1, by omega⟩
      have hnx : ∀ ty, (Instr.next (.pointer (some ⟨w1.heap.size, 0, none⟩)) true ty).run Tryz.prog wr = _ := fun ty => Lib.run_next_any_at wr w1.heap.size s pos ty hit hp
      clear hit
      have hxl := get!_at s pos hp
      obtain ⟨x, hx⟩ : ∃ x, s.get! pos = x := ⟨_, rfl⟩
      by_cases h128 : x.toNat < 128
      · have hd := decode_lo s pos (by rw [hx]; exact h128)
        rw [hx] at hd hxl
        rw [hd] at hnx
        have HX := hide hxl
        have HI2 := hide (Lib.iterAt_heap wr w1.heap.size s pos (pos + 1) HI.out)
        have HB2 := hide (Lib.below_iterAt HB.out (k := w1.heap.size) (Nat.le_refl _) s (pos + 1))
        have hback : ((x.toNat : Int)).toNat.toUInt8 = x := by simp
        have hcon := Lib.contains_iff_indexByte [32, 10] x
        clear hd hxl hx
        cases hin : ([32, 10] : List UInt8).contains x with
        | false =>
          rw [hin] at hcon
          have hlt : ¬ ((0 : Int) ≤ Lib.indexByte [32, 10] x) := of_decide_eq_false hcon.symm
          have HH := hide hin
          clear hcon hin
          go_wp2_with fail
          refine (Tryz.strings_IndexRune_ascii _ _ _ (by omega) (by omega)).mono ?_
          rintro e w2 ⟨rfl, hw⟩
          rw [hw, hback]
          clear hw
          go_wp2
          go_roundg g
          case measure => omega
          case rel => exact ⟨pos + 1, by omega, HI2.out, HB2.out, HN.out.succ HX.out HH.out, by omega⟩
        | true =>
          rw [hin] at hcon
          have hge : (0 : Int) ≤ Lib.indexByte [32, 10] x := of_decide_eq_true hcon.symm
          have HH := hide hin
          clear hcon hin
          go_wp2_with fail
          refine (Tryz.strings_IndexRune_ascii _ _ _ (by omega) (by omega)).mono ?_
          rintro e w2 ⟨rfl, hw⟩
          rw [hw, hback]
          clear hw
          go_wp2
          go_ret
          exact ⟨by rw [Lib.indexAny_hit HN.out HX.out HH.out]; rfl, HB2.out⟩
      · obtain ⟨d1, d2, d3, d4⟩ := decode_hi s pos hp (by rw [hx]; omega)
        have hr1 := Lib.rune_le s pos
        have hwd := Lib.width_pos s pos
        obtain ⟨R, hR⟩ : ∃ R, (Utf8.decode s pos).1 = R := ⟨_, rfl⟩
        obtain ⟨K, hK⟩ : ∃ K, (Utf8.decode s pos).2 = K := ⟨_, rfl⟩
        rw [hR] at d1 d2 hr1 hnx
        rw [hK] at d3 d4 hwd hnx
        have HN2 := hide (noAny_hi K HN.out d3 d4)
        have HI2 := hide (Lib.iterAt_heap wr w1.heap.size s pos (pos + K) HI.out)
        have HB2 := hide (Lib.below_iterAt HB.out (k := w1.heap.size) (Nat.le_refl _) s (pos + K))
        have hsz : w1.heap.size < (wr.iterAt w1.heap.size s (pos + K)).heap.size := (Array.getElem?_eq_some_iff.1 HI2.out).1
        clear d4 hxl hx hR hK
        have key : ∀ W : World, Calls Tryz.prog 264 #[.string ⟨#[32, 10]⟩, .int .i32 (R : Int)] W fun e w' => e = .returned (.int .i64 (-1)) ∧ Below W.heap.size W w' := by
          intro W
          by_cases hbad : (R : Int) = 65533
          · rw [hbad]
            exact indexRune_bad W
          · exact indexRune_hi _ W (by omega) (by omega) d2 hbad
        have KEY := hide key
        clear key
        go_wp2_with fail
        refine (KEY.out _).mono ?_
        rintro e w2 ⟨rfl, hB2⟩
        have HB3 := hide (HB2.out.trans (hB2.mono (Nat.le_of_lt hsz)))
        have HI3 := hide ((hB2.block w1.heap.size hsz).trans HI2.out)
        clear hB2
        go_wp2
        go_roundg g
        case measure => omega
        case rel => exact ⟨pos + K, by omega, HI3.out, HB3.out, HN2.out, by omega⟩
    · have hnx : ∀ ty, (Instr.next (.pointer (some ⟨w1.heap.size, 0, none⟩)) true ty).run Tryz.prog wr = _ := fun ty => Lib.run_next_end_at wr w1.heap.size s pos ty hit hp
      clear hit
      have e : pos = s.size := by omega
      subst e
      go_wp2
      go_ret
      exact ⟨by rw [Lib.indexAny_none (by rw [← Lib.size_eq]; exact HN.out)]; rfl, HB.out⟩
theorem gaps_ascii : ∀ (j : Nat) b, (([32, 10] : List UInt8))[j]? = some b → b.toNat < 128 := by
  intro j b h
  match j with
  | 0 => simp at h; subst h; decide
  | 1 => simp at h; subst h; decide
  | j + 2 => simp at h
theorem indexAny_any (s : ByteArray) (w : World) (hs : s.size < 4294967281) :
    Calls Tryz.prog 242 #[.string s, .string ⟨#[32, 10]⟩] w fun e w' => e = .returned (.int .i64 (Lib.indexAny s.data.toList [32, 10])) ∧ Below w.heap.size w w' := by
  by_cases h : (s.size : Int) ≤ 8
  · exact indexAny_short s w h
  · refine (Tryz.strings_IndexAny_long (zero_of_info (n := 256) (by kernel_rfl)).1 s ⟨#[32, 10]⟩ w (by decide) (by omega) hs (by decide) gaps_ascii).mono ?_
    rintro e w' ⟨rfl, rfl⟩
    exact ⟨rfl, ((Below.refl _ _).alloc (Nat.le_refl _) _).alloc (by simp) _⟩
theorem trimLeft_any (s : ByteArray) (w : World) :
    Calls Tryz.prog 241 #[.string s, .string ⟨#[32, 10]⟩] w fun e w' => e = .returned (.string ⟨(Lib.trimLeftS s.data.toList [32, 10]).toArray⟩) ∧ Below w.heap.size w w' :=
  Any.strings_TrimLeft_laid Tryz.lays161 (by kernel_rfl) s ⟨#[32, 10]⟩ w (by decide) gaps_ascii
end Go.Proofs.YtkophfgkcijjkaaGreatDoor.Vp
namespace Go.Proofs.YtkophfgkcijjkaaGreatDoor.Vp
open Go.RowKit
def isGap (c : UInt8) : Bool := ([32, 10] : List UInt8).contains c
def wordL : List UInt8 → Nat → List UInt8
  | l, 0 => (l.dropWhile isGap).takeWhile (fun c => !isGap c)
  | l, n + 1 => if (l.dropWhile isGap).takeWhile (fun c => !isGap c) = [] then [] else wordL ((l.dropWhile isGap).dropWhile (fun c => !isGap c)) n
def wordT (s : ByteArray) (n : Nat) : ByteArray := ⟨(wordL s.data.toList n).toArray⟩
theorem indexAny_take (l : List UInt8) : (Lib.indexAny l [32, 10] = -1 ∧ l.takeWhile (fun c => !isGap c) = l) ∨ ∃ k : Nat, Lib.indexAny l [32, 10] = k ∧ k < l.length ∧ l.takeWhile (fun c => !isGap c) = l.take k ∧ l.dropWhile (fun c => !isGap c) = l.drop k := by
  induction l with
  | nil => exact .inl ⟨rfl, rfl⟩
  | cons b l ih =>
    by_cases hb : isGap b = true
    · refine .inr ⟨0, ?_, by simp, by simp [hb], by simp [hb]⟩
      have hb' : ([32, 10] : List UInt8).contains b = true := hb
      rw [Lib.indexAny, if_pos hb']
      rfl
    · have hb' : ¬ ([32, 10] : List UInt8).contains b = true := hb
      rcases ih with ⟨h1, h2⟩ | ⟨k, h1, h2, h3, h4⟩
      · refine .inl ⟨?_, by simp [hb, h2]⟩
        rw [Lib.indexAny, if_neg hb', h1]
        rfl
      · refine .inr ⟨k + 1, ?_, by simp [h2], by simp [hb, h3], by simp [hb, h4]⟩
        rw [Lib.indexAny, if_neg hb', h1, if_neg (by first | (simp; done) | (simp; omega))]
        simp
theorem dropWhile_length (l : List UInt8) (p : UInt8 → Bool) : (l.dropWhile p).length ≤ l.length := by
  induction l with
  | nil => simp
  | cons b l ih =>
    rw [List.dropWhile_cons]
    split
    · simp; omega
    · simp
set_option maxHeartbeats 4000000 in
theorem wordOf_any (s : ByteArray) (n : Nat) (w : World) (hs : s.size ≤ 2000) (hn : n ≤ 2000) :
    Calls Tryz.prog 229 #[.string s, .int .i64 n] w fun e w' => e = .returned (.string (wordT s n)) ∧ Below w.heap.size w w' := by
  go_enter Tryz.func229, Tryz.ntmps229
  go_wp2
  go_loopw [0, 1] (fun s' n' wr => ∃ (t : ByteArray) (k : Nat), s' = .string t ∧ n' = .int .i64 k ∧ t.size ≤ 2000 ∧ k ≤ 2000 ∧ wordL t.data.toList k = wordL s.data.toList n ∧ Below w.heap.size w wr) (fun _ n' _ => (intOf n').toNat)
  case atStart => exact ⟨s, n, rfl, rfl, hs, hn, rfl, Below.refl _ _⟩
  case round =>
    obtain ⟨t, k, rfl, rfl, ht, hk, hw, hB⟩ := hrel
    have HW := hide hw
    have HB := hide hB
    have hsz := hB.size
    clear hw hB
    go_wp2_with fail
    refine (trimLeft_any t _).mono ?_
    rintro e w1 ⟨rfl, hB1⟩
    have HB1 := hide (HB.out.trans (hB1.mono hsz))
    clear hB1
    obtain ⟨T, hT⟩ : ∃ T : ByteArray, T = ⟨(Lib.trimLeftS t.data.toList [32, 10]).toArray⟩ := ⟨_, rfl⟩
    rw [← hT]
    have hTl : T.data.toList = t.data.toList.dropWhile isGap := by rw [hT]; rfl
    have hTs : T.size = T.data.toList.length := rfl
    have hTz : T.size ≤ 2000 := by
      have h1 := dropWhile_length t.data.toList isGap
      have h2 : t.data.toList.length = t.size := rfl
      rw [hTs, hTl]
      omega
    have hsz1 := HB1.out.size
    have HL := hide hTl
    clear hT hTl hTs
    go_wp2_with fail
    refine (indexAny_any T _ (by omega)).mono ?_
    rintro e w2 ⟨rfl, hB2⟩
    have HB2 := hide (HB1.out.trans (hB2.mono hsz1))
    clear hB2
    rcases indexAny_take T.data.toList with ⟨hz, h3⟩ | ⟨E, hz, hE, h3, h4⟩
    · rw [hz]
      have H3 := hide h3
      clear hz h3
      by_cases hk0 : k = 0
      · subst hk0
        go_wp2
        go_ret
        refine ⟨ret_str ?_, HB2.out⟩
        unfold wordT
        rw [← HW.out, wordL, ← HL.out, H3.out]
      · have hkb : ((k : Int) == 0) = false := by simp [hk0]
        obtain ⟨k, rfl⟩ : ∃ k', k = k' + 1 := ⟨k - 1, by omega⟩
        by_cases hT0 : T.size = 0
        · have hTb : ((T.size : Int) == 0) = true := by simp [hT0]
          go_wp2
          go_ret
          refine ⟨ret_str ?_, HB2.out⟩
          unfold wordT
          rw [← HW.out, wordL, ← HL.out, H3.out]
          have : T.data.toList = [] := List.eq_nil_of_length_eq_zero hT0
          rw [if_pos this]
          rfl
        · have hTb : ((T.size : Int) == 0) = false := by simp [hT0]
          have hTne : ¬ T.data.toList = [] := fun e => hT0 (by show T.data.toList.length = 0; rw [e]; rfl)
          go_wp2
          exact ⟨⟨⟨#[]⟩, k, rfl, by go_num, by decide, by omega, by
            rw [← HW.out, wordL, ← HL.out, H3.out, if_neg hTne]
            congr 1
            have := List.takeWhile_append_dropWhile (p := fun c => !isGap c) (l := T.data.toList)
            rw [H3.out] at this
            simpa using this.symm, HB2.out⟩, by first | (simp [intOf]; done) | (simp [intOf]; omega)⟩
    · rw [hz]
      have hE' : E < T.size := hE
      have H3 := hide h3
      have H4 := hide h4
      clear hz h3 h4 hE
      have HX : Hid ((T.extract 0 E).data.toList = T.data.toList.take E) := by
        show (T.extract 0 E).data.toList = T.data.toList.take E
        simp
      have HY : Hid ((T.extract E T.size).data.toList = T.data.toList.drop E) := by
        show (T.extract E T.size).data.toList = T.data.toList.drop E
        simp only [ByteArray.data_extract, Array.toList_extract, List.extract_eq_take_drop]
        exact List.take_of_length_le (by rw [List.length_drop]; exact Nat.le_refl _)
      by_cases hk0 : k = 0
      · subst hk0
        go_wp2
        go_ret
        refine ⟨ret_str ?_, HB2.out⟩
        unfold wordT
        rw [← HW.out, wordL, ← HL.out, H3.out, ← HX.out]
      · have hkb : ((k : Int) == 0) = false := by simp [hk0]
        obtain ⟨k, rfl⟩ : ∃ k', k = k' + 1 := ⟨k - 1, by omega⟩
        by_cases hT0 : E = 0
        · subst hT0
          go_wp2
          go_ret
          refine ⟨ret_str ?_, HB2.out⟩
          unfold wordT
          rw [← HW.out, wordL, ← HL.out, H3.out]
          simp
          rfl
        · have hTb : ((E : Int) == 0) = false := by simp [hT0]
          have hTne : ¬ T.data.toList.take E = [] := fun e => by
            have h5 : (T.data.toList.take E).length = 0 := by rw [e]; rfl
            have h6 : T.data.toList.length = T.size := rfl
            rw [List.length_take] at h5
            omega
          go_wp2
          exact ⟨⟨_, k, rfl, by go_num, by simp; omega, by omega, by
            rw [← HW.out, wordL, ← HL.out, H3.out, if_neg hTne, H4.out, HY.out], HB2.out⟩, by first | (simp [intOf]; done) | (simp [intOf]; omega)⟩
end Go.Proofs.YtkophfgkcijjkaaGreatDoor.Vp
