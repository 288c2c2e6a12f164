/-
  Put together of: FoSpecD, FoSpecT.
-/
import Derived.Test.YtkbhcajiebeepaaGreatDoorZR
import Derived.Test.YtkbhcajiebeepaaGreatDoorZK
import Derived.Deep.RegionHeld3
import Derived.Deep.DeepCutAuto

/-
  spec: l6Deed of a source, of none.
-/
namespace Go.Proofs.YtkbhcajiebeepaaGreatDoor.Vp
open Go.RowKit

def valS (xs : List ByteArray) : List Value := xs.map Value.string
/-- lines, each with its newline. -/
def flatL (xs : List ByteArray) : List UInt8 := xs.flatMap (fun x => x.data.toList ++ [10])
theorem valS_one (x : ByteArray) : valS [x] = [.string x] := rfl
theorem valS_snoc (xs : List ByteArray) (x : ByteArray) : valS (xs ++ [x]) = valS xs ++ [.string x] := by simp [valS]
theorem flatL_snoc (xs : List ByteArray) (x : ByteArray) : flatL (xs ++ [x]) = flatL xs ++ x.data.toList ++ [10] := by simp [flatL]
theorem flatL_one (x : ByteArray) : flatL [x] = x.data.toList ++ [10] := by simp [flatL]
theorem own_lit1 (w : World) (s : ByteArray) : (w.alloc (.cells #[.string s] 9)).ownsRow w.heap.size 9 1 (.slice (some ⟨w.heap.size, 0, none⟩) 1 1) 1 (valS [s]) :=
  ⟨by simp [valS], .inr ⟨w.heap.size, 1, #[.string s], rfl, Nat.le_refl _, heap_alloc_new w _, Nat.le_refl _, by unfold maxLen; omega, by simp, by simp [valS]⟩⟩
/-- an answer of l6Deed. -/
structure Lines (w w' : World) (d : Deed) (v : Value) (xs : List ByteArray) : Prop where
  own : w'.ownsRow w.heap.size 9 1 v xs.length (valS xs)
  ne : xs ≠ []
  eq : flatL xs = deedT d
  few : xs.length ≤ 402
  bel : Below w.heap.size w w'

set_option maxRecDepth 100000 in
set_option maxHeartbeats 2000000 in
theorem l6Deed_src (d : Deed) (a0 : Option Addr) (cap0 : Nat) (a1 : Option Addr) (cap1 : Nat) (w : World) (hnm : d.name.size ≤ 60) (htx : d.text.size ≤ 2000) (hk : d.kind = 1) :
    Calls Tryz.prog 28 #[.agg #[.string d.name, .int .i64 d.kind, .int .i64 d.code, .string d.text, .slice a0 d.actN cap0, .slice a1 d.linksN cap1]] w fun e w' => ∃ v xs, e = .returned v ∧ Lines w w' d v xs := by
  have A0 := hide ((Below.refl w.heap.size w).alloc (Nat.le_refl _) (.cells #[.string d.name, .int .i64 d.kind, .int .i64 d.code, .string d.text, .slice a0 d.actN cap0, .slice a1 d.linksN cap1] 51))
  have c0 : (w.alloc (.cells #[.string d.name, .int .i64 d.kind, .int .i64 d.code, .string d.text, .slice a0 d.actN cap0, .slice a1 d.linksN cap1] 51)).cell? ⟨w.heap.size, 0, none⟩ = some (.string d.name) := by simp
  have c3 : (w.alloc (.cells #[.string d.name, .int .i64 d.kind, .int .i64 d.code, .string d.text, .slice a0 d.actN cap0, .slice a1 d.linksN cap1] 51)).cell? ⟨w.heap.size, 3, none⟩ = some (.string d.text) := by simp
  have hz : w.heap.size < (w.alloc (.cells #[.string d.name, .int .i64 d.kind, .int .i64 d.code, .string d.text, .slice a0 d.actN cap0, .slice a1 d.linksN cap1] 51)).heap.size := by simp
  have hqq := quoteB_le d.text.data.toList
  rw [size_list] at hqq
  have HE : Hid (deedT d = srcT d ++ [10]) := by show _ = _; unfold deedT; rw [if_pos hk]
  rw [hk] at A0 c0 c3 hz ⊢
  clear hk
  go_enter Tryz.func28, Tryz.ntmps28
  go_wp2_with fail
  have hws : w.heap.size ≤ (w.alloc (.cells #[.string d.name, .int .i64 1, .int .i64 d.code, .string d.text, .slice a0 d.actN cap0, .slice a1 d.linksN cap1] 51)).heap.size := A0.out.size
  generalize w.alloc (.cells #[.string d.name, .int .i64 1, .int .i64 d.code, .string d.text, .slice a0 d.actN cap0, .slice a1 d.linksN cap1] 51) = W at A0 c0 c3 hz hws ⊢
  have QT := hide (fun V => l1Quote_any d.text V htx)
  generalize hgd : w.heap.size = gd at c0 c3 hz ⊢
  have hl7 : ((⟨#[115, 111, 117, 114, 99, 101, 32]⟩ : ByteArray) ++ d.name).size ≤ 100 := by rw [ByteArray.size_append]; have : (⟨#[115, 111, 117, 114, 99, 101, 32]⟩ : ByteArray).size = 7 := rfl; omega
  have hl8 : ((⟨#[115, 111, 117, 114, 99, 101, 32]⟩ : ByteArray) ++ d.name ++ ⟨#[32]⟩).size ≤ 101 := by rw [ByteArray.size_append]; have : (⟨#[32]⟩ : ByteArray).size = 1 := rfl; omega
  go_region_with (first
    | (go_at_call 53; refine (QT.out _).mono ?_; rintro e w2 ⟨rfl, hB2⟩; have B2 : Hid (Below W.heap.size W w2) := ⟨hB2.os, hB2.tape, hB2.output, hB2.size, hB2.block⟩; have d0 := (B2.out.cell (p := ⟨gd, 0, none⟩) hz).trans c0; have hz1 : gd < w2.heap.size := Nat.lt_of_lt_of_le hz B2.out.size; clear hB2))
  all_goals
    go_simp
    go_wp2
    go_ret
    refine ⟨_, [_], rfl, ⟨own_mono (own_lit1 w2 _) (Nat.le_trans hws B2.out.size), by simp, ?_, by simp, A0.out.trans ((B2.out.alloc B2.out.size _).mono hws)⟩⟩
    rw [HE.out, flatL_one]
    simp [srcT]

end Go.Proofs.YtkbhcajiebeepaaGreatDoor.Vp

/-
  spec: l6Deed of none, of a target.
-/
namespace Go.Proofs.YtkbhcajiebeepaaGreatDoor.Vp
open Go.RowKit

theorem infoStrF : (Tryz.prog.info? 9).map (fun i => (i.zero, i.size, i.bytes)) = some (some (.string ⟨#[]⟩), 1, 16) := by kernel_rfl

theorem own_snoc {w : World} {B n : Nat} {t : TypeId} {v : Value} {xs : List ByteArray} {x : ByteArray} (h : w.ownsRow B t 1 v n (valS xs ++ [.string x])) : w.ownsRow B t 1 v n (valS (xs ++ [x])) := by
  rw [valS_snoc]
  exact h

set_option maxHeartbeats 1000000 in
theorem l6Flag_any (t : Bool) (w : World) : Calls Tryz.prog 54 #[.bool t] w fun e w' => e = .returned (.string ⟨#[if t = true then 49 else 48]⟩) ∧ w' = w := by
  cases t
  all_goals
    go_enter Tryz.func54, Tryz.ntmps54
    go_wp2
    go_ret
    exact ⟨rfl, rfl⟩

set_option maxRecDepth 100000 in
set_option maxHeartbeats 2000000 in
theorem l6Deed_none (d : Deed) (a0 : Option Addr) (cap0 : Nat) (a1 : Option Addr) (cap1 : Nat) (w : World) (hnm : d.name.size ≤ 60) (hk : d.kind = 2) :
    Calls Tryz.prog 28 #[.agg #[.string d.name, .int .i64 d.kind, .int .i64 d.code, .string d.text, .slice a0 d.actN cap0, .slice a1 d.linksN cap1]] w fun e w' => ∃ v xs, e = .returned v ∧ Lines w w' d v xs := by
  have A0 := hide ((Below.refl w.heap.size w).alloc (Nat.le_refl _) (.cells #[.string d.name, .int .i64 d.kind, .int .i64 d.code, .string d.text, .slice a0 d.actN cap0, .slice a1 d.linksN cap1] 51))
  have c0 : (w.alloc (.cells #[.string d.name, .int .i64 d.kind, .int .i64 d.code, .string d.text, .slice a0 d.actN cap0, .slice a1 d.linksN cap1] 51)).cell? ⟨w.heap.size, 0, none⟩ = some (.string d.name) := by simp
  have hz : w.heap.size < (w.alloc (.cells #[.string d.name, .int .i64 d.kind, .int .i64 d.code, .string d.text, .slice a0 d.actN cap0, .slice a1 d.linksN cap1] 51)).heap.size := by simp
  have HE : Hid (deedT d = noneT d ++ [10]) := by show _ = _; unfold deedT; rw [if_neg (by omega), if_pos hk]
  rw [hk] at A0 c0 hz ⊢
  clear hk
  go_enter Tryz.func28, Tryz.ntmps28
  go_upto_region 5 with fail
  have hws : w.heap.size ≤ (w.alloc (.cells #[.string d.name, .int .i64 2, .int .i64 d.code, .string d.text, .slice a0 d.actN cap0, .slice a1 d.linksN cap1] 51)).heap.size := A0.out.size
  generalize w.alloc (.cells #[.string d.name, .int .i64 2, .int .i64 d.code, .string d.text, .slice a0 d.actN cap0, .slice a1 d.linksN cap1] 51) = W at A0 c0 hz hws ⊢
  go_wp2
  all_goals go_ret
  all_goals
    refine ⟨_, [_], rfl, ⟨own_mono (own_lit1 W _) hws, by simp, ?_, by simp, A0.out.trans (((Below.refl W.heap.size W).alloc (Nat.le_refl _) _).mono hws)⟩⟩
    rw [HE.out, flatL_one]
    simp [noneT]

set_option maxRecDepth 1000000 in
set_option maxHeartbeats 8000000 in
theorem l6Deed_tgt (d : Deed) (a0 : Option Addr) (cap0 : Nat) (a1 : Option Addr) (cap1 : Nat) (w : World) (hI : SlIns w a0 d.actN d.act) (hL : SlLink w a1 d.linksN d.links) (hnm : d.name.size ≤ 60) (htx : d.text.size ≤ 2000) (hc0 : 0 ≤ d.code) (hc5 : d.code ≤ 5) (hok : okTo d.act d.actN = true) (hna : d.actN ≤ 200) (hnl : d.linksN ≤ 200)
    (hlk : ∀ k, k < d.linksN → (d.links k).name.size ≤ 60 ∧ 0 ≤ (d.links k).at_ ∧ (d.links k).at_ ≤ 400) (hk : d.kind = 3) :
    Calls Tryz.prog 28 #[.agg #[.string d.name, .int .i64 d.kind, .int .i64 d.code, .string d.text, .slice a0 d.actN cap0, .slice a1 d.linksN cap1]] w fun e w' => ∃ v xs, e = .returned v ∧ Lines w w' d v xs := by
  obtain ⟨m, hm⟩ : ∃ m : Nat, d.code = (m : Int) := ⟨d.code.toNat, by omega⟩
  have hm5 : m ≤ 5 := by omega
  have hd := dec_le m (by omega)
  have hqq := quoteB_le d.text.data.toList
  rw [size_list] at hqq
  have HOK := hide hok
  have HLK := hide hlk
  have HE : Hid (deedT d = tgtT d) := by show _ = _; unfold deedT; rw [if_neg (by omega), if_neg (by omega)]
  have A0 := hide ((Below.refl w.heap.size w).alloc (Nat.le_refl _) (.cells #[.string d.name, .int .i64 d.kind, .int .i64 d.code, .string d.text, .slice a0 d.actN cap0, .slice a1 d.linksN cap1] 51))
  have HI := hide (hI.below A0.out (Nat.le_refl _))
  have HL := hide (hL.below A0.out (Nat.le_refl _))
  have c0 : (w.alloc (.cells #[.string d.name, .int .i64 d.kind, .int .i64 d.code, .string d.text, .slice a0 d.actN cap0, .slice a1 d.linksN cap1] 51)).cell? ⟨w.heap.size, 0, none⟩ = some (.string d.name) := by simp
  have c2 : (w.alloc (.cells #[.string d.name, .int .i64 d.kind, .int .i64 d.code, .string d.text, .slice a0 d.actN cap0, .slice a1 d.linksN cap1] 51)).cell? ⟨w.heap.size, 2, none⟩ = some (.int .i64 m) := by rw [← hm]; simp
  have c3 : (w.alloc (.cells #[.string d.name, .int .i64 d.kind, .int .i64 d.code, .string d.text, .slice a0 d.actN cap0, .slice a1 d.linksN cap1] 51)).cell? ⟨w.heap.size, 3, none⟩ = some (.string d.text) := by simp
  have c4 : (w.alloc (.cells #[.string d.name, .int .i64 d.kind, .int .i64 d.code, .string d.text, .slice a0 d.actN cap0, .slice a1 d.linksN cap1] 51)).cell? ⟨w.heap.size, 4, none⟩ = some (.slice a0 d.actN cap0) := by simp
  have c5 : (w.alloc (.cells #[.string d.name, .int .i64 d.kind, .int .i64 d.code, .string d.text, .slice a0 d.actN cap0, .slice a1 d.linksN cap1] 51)).cell? ⟨w.heap.size, 5, none⟩ = some (.slice a1 d.linksN cap1) := by simp
  have hz : w.heap.size < (w.alloc (.cells #[.string d.name, .int .i64 d.kind, .int .i64 d.code, .string d.text, .slice a0 d.actN cap0, .slice a1 d.linksN cap1] 51)).heap.size := by simp
  rw [hk] at A0 HI HL c0 c2 c3 c4 c5 hz ⊢
  rw [hm] at A0 HI HL c0 c2 c3 c4 c5 hz ⊢
  clear hk hI hL hok hlk hc0 hc5
  go_enter Tryz.func28, Tryz.ntmps28
  go_upto_region 6 with fail
  have hws : w.heap.size ≤ (w.alloc (.cells #[.string d.name, .int .i64 3, .int .i64 (m : Int), .string d.text, .slice a0 d.actN cap0, .slice a1 d.linksN cap1] 51)).heap.size := A0.out.size
  generalize w.alloc (.cells #[.string d.name, .int .i64 3, .int .i64 (m : Int), .string d.text, .slice a0 d.actN cap0, .slice a1 d.linksN cap1] 51) = W at A0 HI HL c0 c2 c3 c4 c5 hz hws ⊢
  generalize hgd : w.heap.size = gd at c0 c2 c3 c4 c5 hz ⊢
  go_cut [3] (fun v wx => ∃ hd : ByteArray, Hid (hd.data.toList = headT d) ∧ Hid (wx.ownsRow W.heap.size 9 1 v 1 (valS [hd])) ∧ Hid (Below W.heap.size W wx))
  case first =>
    have hA1 : ¬ 9223372036854775807 < 7 + d.name.size := by omega
    have hA2 : ¬ 9223372036854775807 < 7 + d.name.size + 1 := by omega
    have hA3 : ¬ 9223372036854775807 < 7 + d.name.size + 1 + (Lib.decDigits m).length := by omega
    have hA4 : ¬ 9223372036854775807 < 7 + d.name.size + 1 + (Lib.decDigits m).length + 1 := by omega
    have hA5 : ¬ 9223372036854775807 < 7 + d.name.size + 1 + (Lib.decDigits m).length + 1 + (quoteB d.text.data.toList).length := by omega
    have QT := hide (fun V => l1Quote_any d.text V htx)
    have IT := hide (fun V => l1Dec_any m (by omega) V)
    have SK := hide (fun V (hB : Below W.heap.size W V) => (show V.cell? ⟨gd, 0, none⟩ = some (.string d.name) ∧ V.cell? ⟨gd, 2, none⟩ = some (.int .i64 (m : Int)) ∧ V.cell? ⟨gd, 3, none⟩ = some (.string d.text) from ⟨(hB.cell (p := ⟨gd, 0, none⟩) hz).trans c0, (hB.cell (p := ⟨gd, 2, none⟩) hz).trans c2, (hB.cell (p := ⟨gd, 3, none⟩) hz).trans c3⟩))
    have HHD := hide (show headT d = [116, 97, 114, 103, 101, 116, 32] ++ d.name.data.toList ++ [32] ++ Lib.decDigits m ++ [32] ++ quoteB d.text.data.toList by unfold headT; rw [hm]; rfl)
    go_wp2_with fail
    go_region_held3 (fun V => V.cell? ⟨gd, 0, none⟩ = some (.string d.name) ∧ V.cell? ⟨gd, 2, none⟩ = some (.int .i64 (m : Int)) ∧ V.cell? ⟨gd, 3, none⟩ = some (.string d.text)) (first | exact SK.out _ (Below.refl _ _) | exact SK.out _ (Below.refl _ _).drew | exact SK.out _ B1.out | exact SK.out _ B2.out | exact SK.out _ (B2.out.alloc B2.out.size _))
      (first
      | (go_at_call 27; refine (IT.out _).mono ?_; rintro e w1 ⟨rfl, hB1⟩; have B1 : Hid (Below W.heap.size W w1) := ⟨hB1.os, hB1.tape, hB1.output, hB1.size, hB1.block⟩; clear hB1)
      | (go_at_call 53; refine (QT.out _).mono ?_; rintro e w2 ⟨rfl, hB2⟩; have B2 : Hid (Below W.heap.size W w2) := B1.out.trans (Below.mono (⟨hB2.os, hB2.tape, hB2.output, hB2.size, hB2.block⟩ : Below w1.heap.size w1 w2) B1.out.size); clear hB2))
    all_goals
      go_simp
      go_wp2_with fail
      go_meet
      refine ⟨_, ?_, own_mono (own_lit1 w2 _) B2.out.size, B2.out.alloc B2.out.size _⟩
      show _ = _
      rw [HHD.out]
      simp
  case rest =>
  obtain ⟨hd1, HHD, O1, B1⟩ := hcut
  obtain ⟨w1, hw1⟩ : ∃ w1, w1 = wc := ⟨_, rfl⟩
  subst hw1
  obtain ⟨i0, hi, hz0, hz1, hz2⟩ := info_parts infoStrF
  clear c0 c2 c3
  go_upto_region 7 with fail
  go_wp2
  go_loopw [3, 4] (fun v i wr => ∃ (k : Nat) (xs : List ByteArray), k ≤ d.actN ∧ i = .int .i64 k ∧ xs.length = k + 1 ∧ Hid (flatL xs = headT d ++ [10] ++ dosTo d.act k) ∧ Hid (wr.ownsRow W.heap.size 9 1 v (k + 1) (valS xs)) ∧ Hid (Below W.heap.size W wr)) (fun _ i _ => d.actN - (intOf i).toNat)
  case atStart => exact ⟨0, [hd1], by omega, rfl, rfl, by show _ = _; rw [flatL_one, HHD.out]; simp [dosTo], O1.out, B1.out⟩
  case round =>
    obtain ⟨k, xs, hk, rfl, hxl, HF, HO, HB⟩ := hrel
    have e4 := (HB.out.cell (p := ⟨gd, 4, none⟩) hz).trans c4
    have e5 := (HB.out.cell (p := ⟨gd, 5, none⟩) hz).trans c5
    have hzr : gd < wr.heap.size := Nat.lt_of_lt_of_le hz HB.out.size
    by_cases hlt : k < d.actN
    · obtain ⟨ib, io, rfl, hrow⟩ := HI.out.resolve_left (by omega)
      obtain ⟨j0, j1, j2⟩ := (hrow.below HB.out (Nat.le_refl _)).2 k hlt
      have HIN := hide (ok_at HOK.out hlt)
      have hll := lineB_le _ _ _ HIN.out
      have hlt2 : (k : Int) < d.actN := by omega
      clear hrow
      go_wp2_with fail
      refine (l1Line_any _ _ _ _ HIN.out).mono ?_
      rintro e w2 ⟨rfl, hB2⟩
      have B2 := hide (HB.out.trans (hB2.mono HB.out.size))
      have O2 := hide (own_below HO.out hB2 (Nat.le_refl _))
      have z2 : W.heap.size ≤ w2.heap.size := B2.out.size
      clear hB2 j0 j1 j2 e4 e5
      go_wp2_with (at_builtin; refine wpList_append_own _ rfl (.tmp 48) (.tmp 57) 42 rfl W.heap.size 9 i0 (.string ⟨#[]⟩) 1 16 Tryz.underlying42 hi hz0 hz1 hz2 rfl (by decide) _ (k + 1) (valS xs) (by simp [Act.eval]) (O2.out.alloc _) ⟨w2.heap.size, 0, none⟩ 1 1 [_] (by simp [Act.eval]) rfl (one_new w2 _ _) (by simp [Value.oneCell']) (by unfold maxLen; omega) (by omega) (by simp; omega) ?_; intro v6 w6 hown hgrow hnil; have O6 : Hid (w6.ownsRow W.heap.size 9 1 v6 (k + 1 + 1) (valS xs ++ [.string ((⟨#[100, 111, 32]⟩ : ByteArray) ++ ⟨(lineB (d.act k).op (d.act k).s.data.toList (d.act k).n).toArray⟩)])) := hown; have B6 := hide (Below.grown (B2.out.alloc z2 _) hgrow (by simp; omega) (fun j e => (O2.out.lt j e).1)); clear hown hgrow hnil)
      exact ⟨⟨k + 1, xs ++ [((⟨#[100, 111, 32]⟩ : ByteArray) ++ ⟨(lineB (d.act k).op (d.act k).s.data.toList (d.act k).n).toArray⟩)], by omega, by go_num, by simp [hxl], by show _ = _; rw [flatL_snoc, HF.out, dosTo]; simp [doT], by show World.ownsRow _ _ _ _ _ _ _; rw [valS_snoc]; exact O6.out, B6.out⟩, by simp [intOf]; omega⟩
    · obtain rfl : k = d.actN := by omega
      go_wp2
      clear e4 e5
      go_loopw [3, 5] (fun v i wr => ∃ (j : Nat) (xs : List ByteArray), j ≤ d.linksN ∧ i = .int .i64 j ∧ xs.length = d.actN + 1 + j ∧ Hid (flatL xs = headT d ++ [10] ++ dosTo d.act d.actN ++ lnksTo d.links j) ∧ Hid (wr.ownsRow W.heap.size 9 1 v (d.actN + 1 + j) (valS xs)) ∧ Hid (Below W.heap.size W wr)) (fun _ i _ => d.linksN - (intOf i).toNat)
      case atStart => exact ⟨0, xs, by omega, rfl, hxl, by show _ = _; rw [HF.out]; simp [lnksTo], HO.out, HB.out⟩
      case round =>
        clear HF HO HB hzr hxl xs
        obtain ⟨j, xs, hj, rfl, hxl, HF, HO, HB⟩ := hrel
        have e5 := (HB.out.cell (p := ⟨gd, 5, none⟩) hz).trans c5
        have hzr : gd < wr.heap.size := Nat.lt_of_lt_of_le hz HB.out.size
        by_cases hlt : j < d.linksN
        · obtain ⟨lb, lo, rfl, hrow⟩ := HL.out.resolve_left (by omega)
          obtain ⟨p0, p1, p2, p3⟩ := (hrow.below HB.out (Nat.le_refl _)).2 j hlt
          obtain ⟨q1, q2, q3⟩ := HLK.out j hlt
          have HLN := hide (show lnksTo d.links (j + 1) = lnksTo d.links j ++ linkT (d.links j) ++ [10] from rfl)
          have hlt2 : (j : Int) < d.linksN := by omega
          generalize d.links j = X at p0 p1 p2 p3 q1 q2 q3 HLN
          obtain ⟨q, hq⟩ : ∃ q : Nat, X.at_ = (q : Int) := ⟨X.at_.toNat, by omega⟩
          have hq4 : q ≤ 400 := by omega
          have hdq := dec_le q (by omega)
          have HLT := hide (show linkT X = if X.ask = true then [97, 115, 107, 32] ++ X.name.data.toList ++ [32] ++ Lib.decDigits q else [104, 97, 115, 32] ++ X.name.data.toList ++ [32] ++ (if X.has = true then [49] else [48]) by unfold linkT; rw [hq]; rfl)
          rw [hq] at p3
          obtain ⟨nm, hnm2⟩ : ∃ nm, nm = X.name := ⟨_, rfl⟩
          rw [← hnm2] at p0 q1 HLT
          have hA1 : ¬ 9223372036854775807 < 4 + nm.size := by omega
          have hA2 : ¬ 9223372036854775807 < 4 + nm.size + 1 := by omega
          have hA3 : ¬ 9223372036854775807 < 4 + nm.size + 1 + (Lib.decDigits q).length := by omega
          cases hask : X.ask with
          | true =>
            rw [hask] at p1
            have HLT2 : Hid (linkT X = [97, 115, 107, 32] ++ nm.data.toList ++ [32] ++ Lib.decDigits q) := by show _ = _; rw [HLT.out, if_pos hask]
            have AL := hide ((Below.refl wr.heap.size wr).alloc (Nat.le_refl _) (.cells #[.string nm, .bool true, .bool X.has, .int .i64 (q : Int)] 58))
            have OL := hide (own_below HO.out AL.out (Nat.le_refl _))
            have BL := hide (HB.out.trans (AL.out.mono HB.out.size))
            have m0 : (wr.alloc (.cells #[.string nm, .bool true, .bool X.has, .int .i64 (q : Int)] 58)).cell? ⟨wr.heap.size, 0, none⟩ = some (.string nm) := by simp
            have m3 : (wr.alloc (.cells #[.string nm, .bool true, .bool X.has, .int .i64 (q : Int)] 58)).cell? ⟨wr.heap.size, 3, none⟩ = some (.int .i64 q) := by simp
            have hlz : wr.heap.size < (wr.alloc (.cells #[.string nm, .bool true, .bool X.has, .int .i64 (q : Int)] 58)).heap.size := by simp
            clear hrow HLT hask hq hnm2 q1 q2 q3
            go_wp2_with fail
            clear p0 p1 p2 p3 e5 AL
            generalize wr.alloc (.cells #[.string nm, .bool true, .bool X.has, .int .i64 (q : Int)] 58) = WL at OL BL m0 m3 hlz ⊢
            generalize wr.heap.size = gl at m0 m3 hlz ⊢
            go_region_law (first
              | (refine step_append_own rfl (.tmp 73) (.tmp 82) 42 rfl W.heap.size 9 i0 (.string ⟨#[]⟩) 1 16 Tryz.underlying42 hi hz0 hz1 hz2 rfl (by decide) u3 (d.actN + 1 + j) (valS xs) (by simp [Act.eval]) (by first | exact O5.out.alloc _ | exact O5.out.drew.alloc _ | exact O5.out.drew.drew.alloc _) ⟨w5.heap.size, 0, none⟩ 1 1 [_] (by simp [Act.eval]) rfl (by first | exact one_new w5 _ _ | exact one_new w5.drew _ _ | exact one_new w5.drew.drew _ _) (by simp [Value.oneCell']) (by unfold maxLen; omega) (by omega) (by first | (simp; done) | (simp; omega)) ?_; intro v6 w6 hown hgrow hnil; have O6 := hide hown; (first | have B6 := hide (Below.grown (B5.out.alloc z5 _) hgrow (by first | (simp; done) | (simp; omega)) (fun j e => (O5.out.lt j e).1)) | have B6 := hide (Below.grown (B5.out.drew.alloc (by simpa using z5) _) hgrow (by first | (simp; done) | (simp; omega)) (fun j e => (O5.out.lt j e).1))); clear hown hgrow hnil)
              | (go_simp; go_at_call 27; refine (l1Dec_any q (by omega) _).mono ?_; rintro e w5 ⟨rfl, hB5⟩; have D5 : Hid (Below WL.heap.size WL w5) := ⟨hB5.os, hB5.tape, hB5.output, hB5.size, hB5.block⟩; have O5 := hide (own_below OL.out D5.out (Nat.le_refl _)); have B5 := hide (BL.out.trans (D5.out.mono BL.out.size)); have z5 : W.heap.size ≤ w5.heap.size := B5.out.size; have n5 := (D5.out.cell (p := ⟨gl, 0, none⟩) hlz).trans m0; have hlz5 : gl < w5.heap.size := Nat.lt_of_lt_of_le hlz D5.out.size; clear hB5))
            all_goals
              go_simp
              go_wp2
              refine ⟨⟨j + 1, xs ++ [_], by omega, by go_num, by simp [hxl]; omega, ?_, own_snoc O6.out, B6.out⟩, by simp [intOf]; omega⟩
              show _ = _
              rw [flatL_snoc, HF.out, HLN.out, HLT2.out]
              simp
          | false =>
            rw [hask] at p1
            obtain ⟨tb, htb⟩ : ∃ tb : ByteArray, tb = ⟨#[if X.has = true then 49 else 48]⟩ := ⟨_, rfl⟩
            have FL := hide (fun V => by have h := l6Flag_any X.has V; rw [← htb] at h; exact h)
            have htl : tb.size = 1 := by rw [htb]; rfl
            have hA4 : ¬ 9223372036854775807 < 4 + nm.size + 1 + tb.size := by omega
            have HLT2 : Hid (linkT X = [104, 97, 115, 32] ++ nm.data.toList ++ [32] ++ tb.data.toList) := by show _ = _; rw [HLT.out, if_neg (by rw [hask]; simp), htb]; cases X.has <;> rfl
            have AL := hide ((Below.refl wr.heap.size wr).alloc (Nat.le_refl _) (.cells #[.string nm, .bool false, .bool X.has, .int .i64 (q : Int)] 58))
            have OL := hide (own_below HO.out AL.out (Nat.le_refl _))
            have BL := hide (HB.out.trans (AL.out.mono HB.out.size))
            have m0 : (wr.alloc (.cells #[.string nm, .bool false, .bool X.has, .int .i64 (q : Int)] 58)).cell? ⟨wr.heap.size, 0, none⟩ = some (.string nm) := by simp
            have m2 : (wr.alloc (.cells #[.string nm, .bool false, .bool X.has, .int .i64 (q : Int)] 58)).cell? ⟨wr.heap.size, 2, none⟩ = some (.bool X.has) := by simp
            have hlz : wr.heap.size < (wr.alloc (.cells #[.string nm, .bool false, .bool X.has, .int .i64 (q : Int)] 58)).heap.size := by simp
            clear hrow HLT hask hq hnm2 q1 q2 q3 htb htl
            go_wp2_with fail
            clear p0 p1 p2 p3 e5 AL
            generalize wr.alloc (.cells #[.string nm, .bool false, .bool X.has, .int .i64 (q : Int)] 58) = WL at OL BL m0 m2 hlz ⊢
            generalize wr.heap.size = gl at m0 m2 hlz ⊢
            go_region_law (first
              | (refine step_append_own rfl (.tmp 84) (.tmp 93) 42 rfl W.heap.size 9 i0 (.string ⟨#[]⟩) 1 16 Tryz.underlying42 hi hz0 hz1 hz2 rfl (by decide) u3 (d.actN + 1 + j) (valS xs) (by simp [Act.eval]) (by first | exact O5.out.alloc _ | exact O5.out.drew.alloc _ | exact O5.out.drew.drew.alloc _) ⟨w5.heap.size, 0, none⟩ 1 1 [_] (by simp [Act.eval]) rfl (by first | exact one_new w5 _ _ | exact one_new w5.drew _ _ | exact one_new w5.drew.drew _ _) (by simp [Value.oneCell']) (by unfold maxLen; omega) (by omega) (by first | (simp; done) | (simp; omega)) ?_; intro v6 w6 hown hgrow hnil; have O6 := hide hown; (first | have B6 := hide (Below.grown (B5.out.alloc z5 _) hgrow (by first | (simp; done) | (simp; omega)) (fun j e => (O5.out.lt j e).1)) | have B6 := hide (Below.grown (B5.out.drew.alloc (by simpa using z5) _) hgrow (by first | (simp; done) | (simp; omega)) (fun j e => (O5.out.lt j e).1))); clear hown hgrow hnil)
              | (go_simp; go_at_call 54; refine (FL.out _).mono ?_; rintro e w5 ⟨rfl, hw5⟩; have D5 : Hid (Below WL.heap.size WL w5) := (by rw [hw5]; first | exact Below.refl _ _ | exact (Below.refl _ _).drew | exact (Below.refl _ _).drew.drew | exact (Below.refl _ _).drew.drew.drew); have O5 := hide (own_below OL.out D5.out (Nat.le_refl _)); have B5 := hide (BL.out.trans (D5.out.mono BL.out.size)); have z5 : W.heap.size ≤ w5.heap.size := B5.out.size; have n5 := (D5.out.cell (p := ⟨gl, 0, none⟩) hlz).trans m0; have hlz5 : gl < w5.heap.size := Nat.lt_of_lt_of_le hlz D5.out.size; clear hw5))
            all_goals
              go_simp
              go_wp2
              refine ⟨⟨j + 1, xs ++ [_], by omega, by go_num, by simp [hxl]; omega, ?_, own_snoc O6.out, B6.out⟩, by simp [intOf]; omega⟩
              show _ = _
              rw [flatL_snoc, HF.out, HLN.out, HLT2.out]
              simp
        · obtain rfl : j = d.linksN := by omega
          have z5 : W.heap.size ≤ wr.heap.size := HB.out.size
          go_wp2_with (at_builtin; refine wpList_append_own _ rfl (.tmp 95) (.tmp 96) 42 rfl W.heap.size 9 i0 (.string ⟨#[]⟩) 1 16 Tryz.underlying42 hi hz0 hz1 hz2 rfl (by decide) _ (d.actN + 1 + d.linksN) (valS xs) (by simp [Act.eval]) (HO.out.alloc _) ⟨wr.heap.size, 0, none⟩ 1 1 [_] (by simp [Act.eval]) rfl (one_new wr _ _) (by simp [Value.oneCell']) (by unfold maxLen; omega) (by omega) (by simp; omega) ?_; intro v6 w6 hown hgrow hnil; have O6 := hide hown; have B6 := hide (Below.grown (HB.out.alloc z5 _) hgrow (by simp; omega) (fun j e => (HO.out.lt j e).1)); clear hown hgrow hnil)
          go_ret
          refine ⟨_, xs ++ [(⟨#[101, 110, 100]⟩ : ByteArray)], rfl, ⟨?_, by simp, ?_, by simp [hxl]; omega, A0.out.trans (B6.out.mono hws)⟩⟩
          · have h := own_mono (own_snoc O6.out) hws
            have hl : (xs ++ [(⟨#[101, 110, 100]⟩ : ByteArray)]).length = d.actN + 1 + d.linksN + 1 := by simp [hxl]
            rw [hl]
            exact h
          · rw [flatL_snoc, HF.out, HE.out]
            simp [tgtT]

end Go.Proofs.YtkbhcajiebeepaaGreatDoor.Vp
