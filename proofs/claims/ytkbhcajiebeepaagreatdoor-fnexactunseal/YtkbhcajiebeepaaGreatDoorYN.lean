/-
  Put together of: FoTarget, FoDeed.
-/
import Derived.Test.YtkbhcajiebeepaaGreatDoorYM
import Derived.Test.YtkbhcajiebeepaaGreatDoorYF
import Derived.Deep.DeepCutAuto
import Derived.Deep.RegionHeld3

/-
  impl: the writer's target.
-/
namespace Go.Proofs.YtkbhcajiebeepaaGreatDoor.Vp
open Go.RowKit

theorem kp_box {b g : Nat} {w w' : World} {cs : Array Value} {t : TypeId} {fz : Nat × Nat} (h : Kp b w w') (hg : w.heap[g]? = some (.cells cs t fz)) (hb : g ≠ b) (ht : t ≠ 5) : w'.heap[g]? = some (.cells cs t fz) :=
  h g _ hg (fun e => hb (Option.some.inj e)) (fun c fz' e => ht (by injection e))
/-- a deed's box. -/
structure DBox (w : World) (g : Nat) (v0 v1 v2 v3 v4 v5 : Value) : Prop where
  at_ : w.heap[g]? = some (.cells #[v0, v1, v2, v3, v4, v5] 51 (0, 0))
theorem DBox.kp {b g : Nat} {w w' : World} {v0 v1 v2 v3 v4 v5 : Value} (h : DBox w g v0 v1 v2 v3 v4 v5) (hk : Kp b w w') (hb : g ≠ b) : DBox w' g v0 v1 v2 v3 v4 v5 := ⟨kp_box hk h.at_ hb (by decide)⟩
theorem DBox.lt {g : Nat} {w : World} {v0 v1 v2 v3 v4 v5 : Value} (h : DBox w g v0 v1 v2 v3 v4 v5) : g < w.heap.size := (Array.getElem?_eq_some_iff.1 h.at_).1
theorem DBox.cells {g : Nat} {w : World} {v0 v1 v2 v3 v4 v5 : Value} (h : DBox w g v0 v1 v2 v3 v4 v5) : w.cell? ⟨g, 0, none⟩ = some v0 ∧ w.cell? ⟨g, 1, none⟩ = some v1 ∧ w.cell? ⟨g, 2, none⟩ = some v2 ∧ w.cell? ⟨g, 3, none⟩ = some v3 ∧ w.cell? ⟨g, 4, none⟩ = some v4 ∧ w.cell? ⟨g, 5, none⟩ = some v5 := by
  refine ⟨?_, ?_, ?_, ?_, ?_, ?_⟩ <;> (rw [Lib.cell_of_heap h.at_]; rfl)
theorem dbox_new (w : World) (v0 v1 v2 v3 v4 v5 : Value) : DBox (w.alloc (.cells #[v0, v1, v2, v3, v4, v5] 51)) w.heap.size v0 v1 v2 v3 v4 v5 := ⟨by show (w.heap.push _)[w.heap.size]? = _; simp⟩
theorem joined1 (a : ByteArray) : joined [a] = a.data.toList := by simp [joined, Lib.join]

set_option maxRecDepth 100000 in
set_option maxHeartbeats 8000000 in
theorem target_any (w0 : World) (b : Nat) (l : List UInt8) (d : Deed) (a0 : Option Addr) (cap0 : Nat) (a1 : Option Addr) (cap1 : Nat) (w : World) (hb : Below w0.heap.size w0 w) (h : Bw w w0.heap.size b l) (hT : Tab w0) (hTW : TabW w0) (hP : Pow w0)
    (hI : SlIns w0 a0 d.actN d.act) (hL : SlLink w0 a1 d.linksN d.links) (hnm : d.name.size ≤ 60) (htx : d.text.size ≤ 2000) (hc0 : 0 ≤ d.code) (hc5 : d.code ≤ 5) (hok : okTo d.act d.actN = true) (hna : d.actN ≤ 200) (hnl : d.linksN ≤ 200)
    (hlk : ∀ k, k < d.linksN → (d.links k).name.size ≤ 60 ∧ 0 ≤ (d.links k).at_ ∧ (d.links k).at_ ≤ 400) (hll : ∀ k, k ≤ d.linksN → (lnksTo d.links k).length ≤ 101 * k) (hlen : l.length + 1300000 ≤ 140737488355328) :
    Calls Tryz.prog 67 #[.pointer (some ⟨b, 0, none⟩), .agg #[.string d.name, .int .i64 d.kind, .int .i64 d.code, .string d.text, .slice a0 d.actN cap0, .slice a1 d.linksN cap1]] w fun e w' => e = .returned (.tuple #[]) ∧ Bw w' w0.heap.size b (l ++ tgtT d) ∧ Below w0.heap.size w0 w' ∧ Kp b w w' := by
  have H := hide h
  have HB := hide hb
  have HP := hide hP
  have HT := hide hT
  have HTW := hide hTW
  have HI := hide hI
  have HL := hide hL
  have HOK := hide hok
  have HLK := hide hlk
  have HLL := hide hll
  have hs := hb.size
  have htb := hT.1
  have hblt := h.lt.2
  have hdos := dosTo_le hok
  have HDOS := hide hdos
  clear h hb hP hT hTW hI hL hok hlk hll hdos
  obtain ⟨m, hm⟩ : ∃ m : Nat, d.code = (m : Int) := ⟨d.code.toNat, by omega⟩
  have hm5 : m ≤ 5 := by omega
  have hd := dec_le m (by omega)
  have hq := size_list d.name
  have hqq := quoteB_le d.text.data.toList
  rw [size_list] at hqq
  have A0 := hide ((Below.refl w.heap.size w).alloc (Nat.le_refl _) (.cells #[.string d.name, .int .i64 d.kind, .int .i64 d.code, .string d.text, .slice a0 d.actN cap0, .slice a1 d.linksN cap1] 51))
  have X0 := hide (dbox_new w (.string d.name) (.int .i64 d.kind) (.int .i64 d.code) (.string d.text) (.slice a0 d.actN cap0) (.slice a1 d.linksN cap1))
  have H0 := hide (H.out.below A0.out (Nat.le_refl _))
  have R0 := hide (HB.out.trans (A0.out.mono hs))
  have K0 : Hid (Kp b w (w.alloc (.cells #[.string d.name, .int .i64 d.kind, .int .i64 d.code, .string d.text, .slice a0 d.actN cap0, .slice a1 d.linksN cap1] 51))) := kp_of_below A0.out
  have HJ4 : Hid (joined [⟨#[116, 97, 114, 103, 101, 116]⟩, d.name, ⟨(Lib.decDigits m).toArray⟩, ⟨(quoteB d.text.data.toList).toArray⟩] = headT d) := by
    show _ = _
    rw [joined4]
    unfold headT
    rw [hm]
    simp
  have hhl : (headT d).length ≤ 6200 := by
    rw [← HJ4.out, joined4]
    simp only [List.length_append, List.length_cons, List.length_nil]
    omega
  rw [hm] at A0 X0 H0 R0 K0 ⊢
  clear A0 H HB hc0 hc5
  go_enter Tryz.func67, Tryz.ntmps67
  go_wp2_with fail
  have hgd : w.heap.size ≠ b := by omega
  generalize w.alloc (.cells #[.string d.name, .int .i64 d.kind, .int .i64 (m : Int), .string d.text, .slice a0 d.actN cap0, .slice a1 d.linksN cap1] 51) = W at X0 H0 R0 K0 ⊢
  generalize w.heap.size = gd at X0 hgd ⊢
  have hz := X0.out.lt
  go_cut [18] (fun _ wx => Hid (Bw wx w0.heap.size b (l ++ headT d ++ [10])) ∧ Hid (Below w0.heap.size w0 wx) ∧ Hid (Kp b W wx))
  case first =>
    have IT := hide (fun V (hB : Below W.heap.size W V) => itoa_any m V (by omega) ((HP.out.below R0.out (Nat.le_refl _)).below hB (Nat.le_refl _)))
    have QT := hide (fun V => quote_any d.text V htx)
    have SK := hide (fun V (hk : Kp b W V) => (show V.cell? ⟨gd, 0, none⟩ = some (.string d.name) ∧ V.cell? ⟨gd, 2, none⟩ = some (.int .i64 (m : Int)) ∧ V.cell? ⟨gd, 3, none⟩ = some (.string d.text) from ⟨(X0.out.kp hk hgd).cells.1, (X0.out.kp hk hgd).cells.2.2.1, (X0.out.kp hk hgd).cells.2.2.2.1⟩))
    go_region_held3 (fun V => V.cell? ⟨gd, 0, none⟩ = some (.string d.name) ∧ V.cell? ⟨gd, 2, none⟩ = some (.int .i64 (m : Int)) ∧ V.cell? ⟨gd, 3, none⟩ = some (.string d.text)) (first | exact SK.out _ (Lib.OthersKept.refl _ _ _) | exact SK.out _ (Lib.OthersKept.refl _ _ _).drew | exact SK.out _ (kp_of_below B1.out) | exact SK.out _ (kp_of_below B2.out) | exact SK.out _ ((kp_of_below B2.out).alloc _) | exact SK.out _ K3.out)
      (first
      | (go_at_call 34; refine (IT.out _ ?_).mono ?_; (first | exact Below.refl _ _ | exact (Below.refl _ _).drew); rintro e w1 ⟨rfl, hB1⟩; have B1 : Hid (Below W.heap.size W w1) := ⟨hB1.os, hB1.tape, hB1.output, hB1.size, hB1.block⟩; clear hB1)
      | (go_at_call 66; refine (QT.out _).mono ?_; rintro e w2 ⟨rfl, hB2⟩; have B2 : Hid (Below W.heap.size W w2) := B1.out.trans (Below.mono (⟨hB2.os, hB2.tape, hB2.output, hB2.size, hB2.block⟩ : Below w1.heap.size w1 w2) B1.out.size); clear hB2)
      | (go_at_call 33; refine (line4 w0 W w2 b l _ _ _ _ _ R0.out B2.out H0.out (by rw [HJ4.out]; omega)).mono ?_; rintro e w3 ⟨rfl, hD3, hB3, hK3⟩; rw [HJ4.out] at hD3; have D3 := hide hD3; have B3 := hide hB3; have K3 := hide hK3; clear hD3 hB3 hK3))
    all_goals
      go_simp
      go_wp2_with fail
      go_meet
      exact ⟨D3.out, B3.out, K3.out⟩
  case rest =>
  obtain ⟨D1, R1, K1⟩ := hcut
  obtain ⟨w1, hw1⟩ : ∃ w1, w1 = wc := ⟨_, rfl⟩
  subst hw1
  have X1 := hide (X0.out.kp K1.out hgd)
  obtain ⟨c0, c1, c2, c3, c4, c5⟩ := X1.out.cells
  go_wp2
  clear c0 c1 c2 c3 c4 c5 H0 R0
  go_loopw [23] (fun i wr => ∃ k : Nat, k ≤ d.actN ∧ i = .int .i64 k ∧ Hid (Bw wr w0.heap.size b (l ++ headT d ++ [10] ++ dosTo d.act k)) ∧ Hid (Below w0.heap.size w0 wr) ∧ Hid (Kp b W wr)) (fun i _ => d.actN - (intOf i).toNat)
  case atStart => exact ⟨0, by omega, rfl, by show Bw _ _ _ _; simpa [dosTo] using D1.out, R1.out, K1.out⟩
  case round =>
    obtain ⟨k, hk, rfl, HD, HR, HK⟩ := hrel
    have hdl := HDOS.out k hk
    by_cases hlt : k < d.actN
    · obtain ⟨ib, io, rfl, hrow⟩ := HI.out.resolve_left (by omega)
      obtain ⟨i0, i1, i2⟩ := (hrow.below HR.out (Nat.le_refl _)).2 k hlt
      have hins := ok_at HOK.out hlt
      have HIN := hide hins
      have hdt := doT_le hins
      have HJ2 : Hid (joined [⟨#[100, 111]⟩, ⟨(lineB (d.act k).op (d.act k).s.data.toList (d.act k).n).toArray⟩] = doT (d.act k)) := by
        show _ = _
        rw [joined2]
        unfold doT
        simp
      have hlt2 : (k : Int) < d.actN := by omega
      have AI := hide ((Below.refl wr.heap.size wr).alloc (Nat.le_refl _) (.cells #[.int .i64 (d.act k).op, .string (d.act k).s, .int .i64 (d.act k).n] 54))
      have RI := hide (HR.out.trans (AI.out.mono HR.out.size))
      clear hrow hins
      go_wp2_with fail
      clear i0 i1 i2
      refine (printIns_any _ _ _ _ HIN.out (HT.out.below RI.out htb) (HTW.out.below RI.out htb) (HP.out.below RI.out (Nat.le_refl _))).mono ?_
      rintro e w2 ⟨rfl, hB⟩
      have B2 := hide (AI.out.trans (hB.mono AI.out.size))
      clear hB AI RI
      go_wp2_with fail
      refine (line2 w0 wr w2 b _ _ _ _ HR.out B2.out HD.out (by rw [HJ2.out]; simp only [List.length_append, List.length_cons, List.length_nil]; omega)).mono ?_
      rintro e w3 ⟨rfl, hD3, hB3, hK3⟩
      rw [HJ2.out] at hD3
      have D3 := hide hD3
      have B3 := hide hB3
      have K3 := hide (HK.out.trans hK3)
      clear hD3 hB3 hK3
      go_wp2
      exact ⟨⟨k + 1, by omega, by go_num, by show Bw _ _ _ _; rw [dosTo]; simpa using D3.out, B3.out, K3.out⟩, by simp [intOf]; omega⟩
    · obtain rfl : k = d.actN := by omega
      have X2 := hide (X0.out.kp HK.out hgd)
      obtain ⟨c0, c1, c2, c3, c4, c5⟩ := X2.out.cells
      go_wp2
      clear c0 c1 c2 c3 c4 c5
      obtain ⟨w4, hw4⟩ : ∃ w4, w4 = wr := ⟨_, rfl⟩
      subst hw4
      go_loopw [36] (fun i wr => ∃ k : Nat, k ≤ d.linksN ∧ i = .int .i64 k ∧ Hid (Bw wr w0.heap.size b (l ++ headT d ++ [10] ++ dosTo d.act d.actN ++ lnksTo d.links k)) ∧ Hid (Below w0.heap.size w0 wr) ∧ Hid (Kp b W wr)) (fun i _ => d.linksN - (intOf i).toNat)
      case atStart => exact ⟨0, by omega, rfl, by show Bw _ _ _ _; simpa [lnksTo] using HD.out, HR.out, HK.out⟩
      case round =>
        obtain ⟨j, hj, rfl, HD5, HR5, HK5⟩ := hrel
        have hll := HLL.out j hj
        by_cases hlj : j < d.linksN
        · obtain ⟨lb, lo, rfl, hrow⟩ := HL.out.resolve_left (by omega)
          obtain ⟨i0, i1, i2, i3⟩ := (hrow.below HR5.out (Nat.le_refl _)).2 j hlj
          obtain ⟨q1, q2, q3⟩ := HLK.out j hlj
          have hlj2 : (j : Int) < d.linksN := by omega
          have AI := hide ((Below.refl wr.heap.size wr).alloc (Nat.le_refl _) (.cells #[.string (d.links j).name, .bool (d.links j).ask, .bool (d.links j).has, .int .i64 (d.links j).at_] 58))
          have RI := hide (HR5.out.trans (AI.out.mono HR5.out.size))
          have DI := hide (HD5.out.below AI.out (Nat.le_refl _))
          have KI := hide (HK5.out.trans (kp_of_below AI.out))
          clear hrow
          go_wp2_with fail
          clear i0 i1 i2 i3
          refine (link_any w0 b _ (d.links j) _ RI.out DI.out HP.out q1 q2 q3 (by simp only [List.length_append, List.length_cons, List.length_nil]; omega)).mono ?_
          rintro e w6 ⟨rfl, hD6, hB6, hK6⟩
          have D6 := hide hD6
          have B6 := hide hB6
          have K6 := hide (KI.out.trans hK6)
          clear hD6 hB6 hK6
          go_wp2
          exact ⟨⟨j + 1, by omega, by go_num, by show Bw _ _ _ _; rw [lnksTo]; simpa using D6.out, B6.out, K6.out⟩, by simp [intOf]; omega⟩
        · obtain rfl : j = d.linksN := by omega
          have HJ1 : Hid (joined [⟨#[101, 110, 100]⟩] = [101, 110, 100]) := by show _ = _; rw [joined1]
          go_wp2_with fail
          refine (line1 w0 wr wr b _ _ _ HR5.out (Below.refl _ _) HD5.out (by rw [HJ1.out]; simp only [List.length_append, List.length_cons, List.length_nil]; omega)).mono ?_
          rintro e w6 ⟨rfl, hD6, hB6, hK6⟩
          rw [HJ1.out] at hD6
          have D6 := hide hD6
          have B6 := hide hB6
          have K6 := hide (K0.out.trans (HK5.out.trans hK6))
          clear hD6 hB6 hK6
          go_wp2
          go_end0
          exact ⟨rfl, by unfold tgtT; simpa using D6.out, B6.out, K6.out⟩

end Go.Proofs.YtkbhcajiebeepaaGreatDoor.Vp

/-
  impl: the writer's deed.
-/
namespace Go.Proofs.YtkbhcajiebeepaaGreatDoor.Vp
open Go.RowKit

/-- what is asked of a deed that is written. -/
structure Writable (w0 : World) (a0 a1 : Option Addr) (d : Deed) : Prop where
  ins : SlIns w0 a0 d.actN d.act
  lnk : SlLink w0 a1 d.linksN d.links
  nm : d.name.size ≤ 60
  tx : d.text.size ≤ 2000
  kd : d.kind = 1 ∨ d.kind = 2 ∨ d.kind = 3 ∧ 0 ≤ d.code ∧ d.code ≤ 5 ∧ okTo d.act d.actN = true ∧ d.actN ≤ 200 ∧ d.linksN ≤ 200 ∧ (∀ k, k < d.linksN → (d.links k).name.size ≤ 60 ∧ 0 ≤ (d.links k).at_ ∧ (d.links k).at_ ≤ 400) ∧ (∀ k, k ≤ d.linksN → (lnksTo d.links k).length ≤ 101 * k)
theorem writable {f : Nat → Deed} {n p : Nat} {w0 : World} {a0 a1 : Option Addr} (h : accOk f n = true) (hp : p < n) (hI : SlIns w0 a0 (f p).actN (f p).act) (hL : SlLink w0 a1 (f p).linksN (f p).links) : Writable w0 a0 a1 (f p) := by
  obtain ⟨h1, h2, h3⟩ := accOk_form h p hp
  have hn := accOk_n h
  refine ⟨hI, hL, h1, h2, ?_⟩
  rcases h3 with h3 | h3 | ⟨hk, c1, c2, c3, c4, c5, c6⟩
  · exact .inl h3
  · exact .inr (.inl h3)
  · refine .inr (.inr ⟨hk, c1, c2, c3, c4, c5, fun k hk => ?_, lnksTo_le c6 (by omega)⟩)
    obtain ⟨q1, q2, q3⟩ := linkOk_size (linksOk_at c6 k hk)
    exact ⟨q1, q2, by omega⟩

set_option maxRecDepth 100000 in
set_option maxHeartbeats 1000000 in
theorem deed_src (w0 : World) (b : Nat) (l : List UInt8) (d : Deed) (a0 : Option Addr) (cap0 : Nat) (a1 : Option Addr) (cap1 : Nat) (w : World) (hb : Below w0.heap.size w0 w) (h : Bw w w0.heap.size b l) (hT : Tab w0) (hTW : TabW w0) (hP : Pow w0)
    (hw : Writable w0 a0 a1 d) (hk : d.kind = 1) (hlen : l.length + 1300000 ≤ 140737488355328) :
    Calls Tryz.prog 35 #[.pointer (some ⟨b, 0, none⟩), .agg #[.string d.name, .int .i64 d.kind, .int .i64 d.code, .string d.text, .slice a0 d.actN cap0, .slice a1 d.linksN cap1]] w fun e w' => e = .returned (.tuple #[]) ∧ Bw w' w0.heap.size b (l ++ deedT d) ∧ Below w0.heap.size w0 w' ∧ Kp b w w' := by
  have H := hide h
  have HB := hide hb
  have HP := hide hP
  have HT := hide hT
  have HTW := hide hTW
  have HW := hide hw
  have hs := hb.size
  have hblt := h.lt.2
  have hq := size_list d.name
  have hqq := quoteB_le d.text.data.toList
  rw [size_list] at hqq
  have hnm := hw.nm
  have htx := hw.tx
  clear h hb hP hT hTW hw
  have A0 := hide ((Below.refl w.heap.size w).alloc (Nat.le_refl _) (.cells #[.string d.name, .int .i64 d.kind, .int .i64 d.code, .string d.text, .slice a0 d.actN cap0, .slice a1 d.linksN cap1] 51))
  have X0 := hide (dbox_new w (.string d.name) (.int .i64 d.kind) (.int .i64 d.code) (.string d.text) (.slice a0 d.actN cap0) (.slice a1 d.linksN cap1))
  have H0 := hide (H.out.below A0.out (Nat.le_refl _))
  have R0 := hide (HB.out.trans (A0.out.mono hs))
  have K0 : Hid (Kp b w (w.alloc (.cells #[.string d.name, .int .i64 d.kind, .int .i64 d.code, .string d.text, .slice a0 d.actN cap0, .slice a1 d.linksN cap1] 51))) := kp_of_below A0.out
  have hgd : w.heap.size ≠ b := by omega
  clear A0 H HB
  have HJ : Hid (joined [⟨#[115, 111, 117, 114, 99, 101]⟩, d.name, ⟨(quoteB d.text.data.toList).toArray⟩] = srcT d) := by
    show _ = _
    rw [joined3]
    unfold srcT
    simp
  have hjl : (srcT d).length ≤ 6200 := by
    rw [← HJ.out, joined3]
    simp only [List.length_append, List.length_cons, List.length_nil]
    omega
  have HE : Hid (deedT d = srcT d ++ [10]) := by show _ = _; unfold deedT; rw [if_pos hk]
  rw [HE.out]
  rw [hk] at X0 H0 R0 K0 ⊢
  clear hk
  go_enter Tryz.func35, Tryz.ntmps35
  go_wp2_with fail
  generalize w.alloc (.cells #[.string d.name, .int .i64 1, .int .i64 d.code, .string d.text, .slice a0 d.actN cap0, .slice a1 d.linksN cap1] 51) = W at X0 H0 R0 K0 ⊢
  generalize w.heap.size = gd at X0 hgd ⊢
  have QT := hide (fun V => quote_any d.text V htx)
  have SK := hide (fun V (hk : Kp b W V) => (show V.cell? ⟨gd, 0, none⟩ = some (.string d.name) ∧ V.cell? ⟨gd, 3, none⟩ = some (.string d.text) from ⟨(X0.out.kp hk hgd).cells.1, (X0.out.kp hk hgd).cells.2.2.2.1⟩))
  go_region_held3 (fun V => V.cell? ⟨gd, 0, none⟩ = some (.string d.name) ∧ V.cell? ⟨gd, 3, none⟩ = some (.string d.text)) (first | exact SK.out _ (Lib.OthersKept.refl _ _ _) | exact SK.out _ (Lib.OthersKept.refl _ _ _).drew | exact SK.out _ (kp_of_below B2.out) | exact SK.out _ ((kp_of_below B2.out).alloc _) | exact SK.out _ K3.out)
    (first
    | (go_at_call 66; refine (QT.out _).mono ?_; rintro e w2 ⟨rfl, hB2⟩; have B2 : Hid (Below W.heap.size W w2) := ⟨hB2.os, hB2.tape, hB2.output, hB2.size, hB2.block⟩; clear hB2)
    | (go_at_call 33; refine (line3 w0 W w2 b l _ _ _ _ R0.out B2.out H0.out (by rw [HJ.out]; omega)).mono ?_; rintro e w3 ⟨rfl, hD3, hB3, hK3⟩; rw [HJ.out] at hD3; have D3 := hide hD3; have B3 := hide hB3; have K3 := hide hK3; clear hD3 hB3 hK3))
  all_goals
    go_simp
    go_wp2
    go_end0
    exact ⟨rfl, by simpa using D3.out, B3.out, K0.out.trans K3.out⟩

set_option maxRecDepth 100000 in
set_option maxHeartbeats 1000000 in
theorem deed_none (w0 : World) (b : Nat) (l : List UInt8) (d : Deed) (a0 : Option Addr) (cap0 : Nat) (a1 : Option Addr) (cap1 : Nat) (w : World) (hb : Below w0.heap.size w0 w) (h : Bw w w0.heap.size b l) (hT : Tab w0) (hTW : TabW w0) (hP : Pow w0)
    (hw : Writable w0 a0 a1 d) (hk : d.kind = 2) (hlen : l.length + 1300000 ≤ 140737488355328) :
    Calls Tryz.prog 35 #[.pointer (some ⟨b, 0, none⟩), .agg #[.string d.name, .int .i64 d.kind, .int .i64 d.code, .string d.text, .slice a0 d.actN cap0, .slice a1 d.linksN cap1]] w fun e w' => e = .returned (.tuple #[]) ∧ Bw w' w0.heap.size b (l ++ deedT d) ∧ Below w0.heap.size w0 w' ∧ Kp b w w' := by
  have H := hide h
  have HB := hide hb
  have HP := hide hP
  have HT := hide hT
  have HTW := hide hTW
  have HW := hide hw
  have hs := hb.size
  have hblt := h.lt.2
  have hq := size_list d.name
  have hqq := quoteB_le d.text.data.toList
  rw [size_list] at hqq
  have hnm := hw.nm
  have htx := hw.tx
  clear h hb hP hT hTW hw
  have A0 := hide ((Below.refl w.heap.size w).alloc (Nat.le_refl _) (.cells #[.string d.name, .int .i64 d.kind, .int .i64 d.code, .string d.text, .slice a0 d.actN cap0, .slice a1 d.linksN cap1] 51))
  have X0 := hide (dbox_new w (.string d.name) (.int .i64 d.kind) (.int .i64 d.code) (.string d.text) (.slice a0 d.actN cap0) (.slice a1 d.linksN cap1))
  have H0 := hide (H.out.below A0.out (Nat.le_refl _))
  have R0 := hide (HB.out.trans (A0.out.mono hs))
  have K0 : Hid (Kp b w (w.alloc (.cells #[.string d.name, .int .i64 d.kind, .int .i64 d.code, .string d.text, .slice a0 d.actN cap0, .slice a1 d.linksN cap1] 51))) := kp_of_below A0.out
  have hgd : w.heap.size ≠ b := by omega
  clear A0 H HB
  have HJ : Hid (joined [⟨#[110, 111, 110, 101]⟩, d.name] = noneT d) := by
    show _ = _
    rw [joined2]
    unfold noneT
    simp
  have hjl : (noneT d).length ≤ 6200 := by
    rw [← HJ.out, joined2]
    simp only [List.length_append, List.length_cons, List.length_nil]
    omega
  have HE : Hid (deedT d = noneT d ++ [10]) := by show _ = _; unfold deedT; rw [if_neg (by omega), if_pos hk]
  rw [HE.out]
  rw [hk] at X0 H0 R0 K0 ⊢
  clear hk
  go_enter Tryz.func35, Tryz.ntmps35
  go_upto_region 5 with fail
  generalize w.alloc (.cells #[.string d.name, .int .i64 2, .int .i64 d.code, .string d.text, .slice a0 d.actN cap0, .slice a1 d.linksN cap1] 51) = W at X0 H0 R0 K0 ⊢
  generalize w.heap.size = gd at X0 hgd ⊢
  obtain ⟨x0, x1, x2, x3, x4, x5⟩ := X0.out.cells
  have hz := X0.out.lt
  go_wp2_with fail
  refine (line2 w0 W W b l _ _ _ R0.out (Below.refl _ _) H0.out (by rw [HJ.out]; omega)).mono ?_
  rintro e w3 ⟨rfl, hD3, hB3, hK3⟩
  rw [HJ.out] at hD3
  have D3 := hide hD3
  have B3 := hide hB3
  have K3 := hide hK3
  clear hD3 hB3 hK3
  go_wp2
  go_end0
  exact ⟨rfl, by simpa using D3.out, B3.out, K0.out.trans K3.out⟩

set_option maxRecDepth 100000 in
set_option maxHeartbeats 1000000 in
theorem deed_tgt (w0 : World) (b : Nat) (l : List UInt8) (d : Deed) (a0 : Option Addr) (cap0 : Nat) (a1 : Option Addr) (cap1 : Nat) (w : World) (hb : Below w0.heap.size w0 w) (h : Bw w w0.heap.size b l) (hT : Tab w0) (hTW : TabW w0) (hP : Pow w0)
    (hw : Writable w0 a0 a1 d) (hk : d.kind = 3) (hlen : l.length + 1300000 ≤ 140737488355328) :
    Calls Tryz.prog 35 #[.pointer (some ⟨b, 0, none⟩), .agg #[.string d.name, .int .i64 d.kind, .int .i64 d.code, .string d.text, .slice a0 d.actN cap0, .slice a1 d.linksN cap1]] w fun e w' => e = .returned (.tuple #[]) ∧ Bw w' w0.heap.size b (l ++ deedT d) ∧ Below w0.heap.size w0 w' ∧ Kp b w w' := by
  have H := hide h
  have HB := hide hb
  have HP := hide hP
  have HT := hide hT
  have HTW := hide hTW
  have HW := hide hw
  have hs := hb.size
  have hblt := h.lt.2
  have hq := size_list d.name
  have hqq := quoteB_le d.text.data.toList
  rw [size_list] at hqq
  have hnm := hw.nm
  have htx := hw.tx
  clear h hb hP hT hTW hw
  have A0 := hide ((Below.refl w.heap.size w).alloc (Nat.le_refl _) (.cells #[.string d.name, .int .i64 d.kind, .int .i64 d.code, .string d.text, .slice a0 d.actN cap0, .slice a1 d.linksN cap1] 51))
  have X0 := hide (dbox_new w (.string d.name) (.int .i64 d.kind) (.int .i64 d.code) (.string d.text) (.slice a0 d.actN cap0) (.slice a1 d.linksN cap1))
  have H0 := hide (H.out.below A0.out (Nat.le_refl _))
  have R0 := hide (HB.out.trans (A0.out.mono hs))
  have K0 : Hid (Kp b w (w.alloc (.cells #[.string d.name, .int .i64 d.kind, .int .i64 d.code, .string d.text, .slice a0 d.actN cap0, .slice a1 d.linksN cap1] 51))) := kp_of_below A0.out
  have hgd : w.heap.size ≠ b := by omega
  clear A0 H HB
  obtain ⟨c1, c2, c3, c4, c5, c6, c7⟩ := HW.out.kd.resolve_left (by omega) |>.resolve_left (by omega) |>.2
  have HE : Hid (deedT d = tgtT d) := by show _ = _; unfold deedT; rw [if_neg (by omega), if_neg (by omega)]
  have TG := hide (fun V hb h => target_any w0 b l d a0 cap0 a1 cap1 V hb h HT.out HTW.out HP.out HW.out.ins HW.out.lnk hnm htx c1 c2 c3 c4 c5 c6 c7 hlen)
  rw [HE.out]
  rw [hk] at X0 H0 R0 K0 TG ⊢
  clear hk c1 c2 c3 c4 c5 c6 c7
  obtain ⟨x0, x1, x2, x3, x4, x5⟩ := X0.out.cells
  go_enter Tryz.func35, Tryz.ntmps35
  go_wp2_with fail
  refine (TG.out _ R0.out H0.out).mono ?_
  rintro e w3 ⟨rfl, hD3, hB3, hK3⟩
  have D3 := hide hD3
  have B3 := hide hB3
  have K3 := hide (K0.out.trans hK3)
  clear hD3 hB3 hK3
  go_wp2
  go_end0
  exact ⟨rfl, D3.out, B3.out, K3.out⟩

theorem deed_any (w0 : World) (b : Nat) (l : List UInt8) (d : Deed) (a0 : Option Addr) (cap0 : Nat) (a1 : Option Addr) (cap1 : Nat) (w : World) (hb : Below w0.heap.size w0 w) (h : Bw w w0.heap.size b l) (hT : Tab w0) (hTW : TabW w0) (hP : Pow w0)
    (hw : Writable w0 a0 a1 d) (hlen : l.length + 1300000 ≤ 140737488355328) :
    Calls Tryz.prog 35 #[.pointer (some ⟨b, 0, none⟩), .agg #[.string d.name, .int .i64 d.kind, .int .i64 d.code, .string d.text, .slice a0 d.actN cap0, .slice a1 d.linksN cap1]] w fun e w' => e = .returned (.tuple #[]) ∧ Bw w' w0.heap.size b (l ++ deedT d) ∧ Below w0.heap.size w0 w' ∧ Kp b w w' := by
  rcases hw.kd with hk | hk | hk
  · exact deed_src w0 b l d a0 cap0 a1 cap1 w hb h hT hTW hP hw hk hlen
  · exact deed_none w0 b l d a0 cap0 a1 cap1 w hb h hT hTW hP hw hk hlen
  · exact deed_tgt w0 b l d a0 cap0 a1 cap1 w hb h hT hTW hP hw hk.1 hlen

end Go.Proofs.YtkbhcajiebeepaaGreatDoor.Vp
