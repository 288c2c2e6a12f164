/-
  impl: the writer's deed.
-/
import Derived.Test.YtclalcefkmjenaaGreatDoorZFoTarget
namespace Go.Proofs.YtclalcefkmjenaaGreatDoor.Vp
open Go.RowKit

/-- what is asked of a deed that is written. -/
structure Writable (w0 : World) (a0 a1 : Option Addr) (d : Deed) : Prop where
  ins : SlIns w0 a0 d.actN d.act
  lnk : SlLink w0 a1 d.linksN d.links
  nm : d.name.size ≤ 60
  tx : d.text.size ≤ 2000
  kd : d.kind = 1 ∨ d.kind = 2 ∨ d.kind = 3 ∧ 0 ≤ d.code ∧ d.code ≤ 5 ∧ okTo d.act d.actN = true ∧ d.actN ≤ 200 ∧ d.linksN ≤ 200 ∧ (∀ k, k < d.linksN → (d.links k).name.size ≤ 60 ∧ 0 ≤ (d.links k).at_ ∧ (d.links k).at_ ≤ 400) ∧ (∀ k, k ≤ d.linksN → (lnksTo d.links k).length ≤ 101 * k)
theorem writable {f : Nat → Deed} {n p : Nat} {w0 : World} {a0 a1 : Option Addr} (h : accOk f n = true) (hp : p < n) (hI : SlIns w0 a0 (f p).actN (f p).act) (hL : SlLink w0 a1 (f p).linksN (f p).links) : Writable w0 a0 a1 (f p) := by
  obtain ⟨h1, h2, h3⟩ := accOk_form h p hp
  have hn := accOk_n h
  refine ⟨hI, hL, h1, h2, ?_⟩
  rcases h3 with h3 | h3 | ⟨hk, c1, c2, c3, c4, c5, c6⟩
  · exact .inl h3
  · exact .inr (.inl h3)
  · refine .inr (.inr ⟨hk, c1, c2, c3, c4, c5, fun k hk => ?_, lnksTo_le c6 (by omega)⟩)
    obtain ⟨q1, q2, q3⟩ := linkOk_size (linksOk_at c6 k hk)
    exact ⟨q1, q2, by omega⟩

set_option maxRecDepth 100000 in
set_option maxHeartbeats 1000000 in
theorem deed_src (w0 : World) (b : Nat) (l : List UInt8) (d : Deed) (a0 : Option Addr) (cap0 : Nat) (a1 : Option Addr) (cap1 : Nat) (w : World) (hb : Below w0.heap.size w0 w) (h : Bw w w0.heap.size b l) (hT : Tab w0) (hTW : TabW w0) (hP : Pow w0)
    (hw : Writable w0 a0 a1 d) (hk : d.kind = 1) (hlen : l.length + 1300000 ≤ 140737488355328) :
    Calls Tryz.prog 24 #[.pointer (some ⟨b, 0, none⟩), .agg #[.string d.name, .int .i64 d.kind, .int .i64 d.code, .string d.text, .slice a0 d.actN cap0, .slice a1 d.linksN cap1]] w fun e w' => e = .returned (.tuple #[]) ∧ Bw w' w0.heap.size b (l ++ deedT d) ∧ Below w0.heap.size w0 w' ∧ Kp b w w' := by
  have H := hide h
  have HB := hide hb
  have HP := hide hP
  have HT := hide hT
  have HTW := hide hTW
  have HW := hide hw
  have hs := hb.size
  have hblt := h.lt.2
  have hq := size_list d.name
  have hqq := quoteB_le d.text.data.toList
  rw [size_list] at hqq
  have hnm := hw.nm
  have htx := hw.tx
  clear h hb hP hT hTW hw
  have A0 := hide ((Below.refl w.heap.size w).alloc (Nat.le_refl _) (.cells #[.string d.name, .int .i64 d.kind, .int .i64 d.code, .string d.text, .slice a0 d.actN cap0, .slice a1 d.linksN cap1] 56))
  have X0 := hide (dbox_new w (.string d.name) (.int .i64 d.kind) (.int .i64 d.code) (.string d.text) (.slice a0 d.actN cap0) (.slice a1 d.linksN cap1))
  have H0 := hide (H.out.below A0.out (Nat.le_refl _))
  have R0 := hide (HB.out.trans (A0.out.mono hs))
  have K0 : Hid (Kp b w (w.alloc (.cells #[.string d.name, .int .i64 d.kind, .int .i64 d.code, .string d.text, .slice a0 d.actN cap0, .slice a1 d.linksN cap1] 56))) := kp_of_below A0.out
  have hgd : w.heap.size ≠ b := by omega
  clear A0 H HB
  have HJ : Hid (joined [⟨#[115, 111, 117, 114, 99, 101]⟩, d.name, ⟨(quoteB d.text.data.toList).toArray⟩] = srcT d) := by
    show _ = _
    rw [joined3]
    unfold srcT
    simp
  have hjl : (srcT d).length ≤ 6200 := by
    rw [← HJ.out, joined3]
    simp only [List.length_append, List.length_cons, List.length_nil]
    omega
  have HE : Hid (deedT d = srcT d ++ [10]) := by show _ = _; unfold deedT; rw [if_pos hk]
  rw [HE.out]
  rw [hk] at X0 H0 R0 K0 ⊢
  clear hk
  go_enter Tryz.func24, Tryz.ntmps24
  go_wp2_with fail
  generalize w.alloc (.cells #[.string d.name, .int .i64 1, .int .i64 d.code, .string d.text, .slice a0 d.actN cap0, .slice a1 d.linksN cap1] 56) = W at X0 H0 R0 K0 ⊢
  generalize w.heap.size = gd at X0 hgd ⊢
  have QT := hide (fun V => quote_any d.text V htx)
  have SK := hide (fun V (hk : Kp b W V) => (show V.cell? ⟨gd, 0, none⟩ = some (.string d.name) ∧ V.cell? ⟨gd, 3, none⟩ = some (.string d.text) from ⟨(X0.out.kp hk hgd).cells.1, (X0.out.kp hk hgd).cells.2.2.2.1⟩))
  go_region_held3 (fun V => V.cell? ⟨gd, 0, none⟩ = some (.string d.name) ∧ V.cell? ⟨gd, 3, none⟩ = some (.string d.text)) (first | exact SK.out _ (Lib.OthersKept.refl _ _ _) | exact SK.out _ (Lib.OthersKept.refl _ _ _).drew | exact SK.out _ (kp_of_below B2.out) | exact SK.out _ ((kp_of_below B2.out).alloc _) | exact SK.out _ K3.out)
    (first
    | (go_at_call 44; refine (QT.out _).mono ?_; rintro e w2 ⟨rfl, hB2⟩; have B2 : Hid (Below W.heap.size W w2) := ⟨hB2.os, hB2.tape, hB2.output, hB2.size, hB2.block⟩; clear hB2)
    | (go_at_call 22; refine (line3 w0 W w2 b l _ _ _ _ R0.out B2.out H0.out (by rw [HJ.out]; omega)).mono ?_; rintro e w3 ⟨rfl, hD3, hB3, hK3⟩; rw [HJ.out] at hD3; have D3 := hide hD3; have B3 := hide hB3; have K3 := hide hK3; clear hD3 hB3 hK3))
  all_goals
    go_simp
    go_wp2
    go_end0
    exact ⟨rfl, by simpa using D3.out, B3.out, K0.out.trans K3.out⟩

set_option maxRecDepth 100000 in
set_option maxHeartbeats 1000000 in
theorem deed_none (w0 : World) (b : Nat) (l : List UInt8) (d : Deed) (a0 : Option Addr) (cap0 : Nat) (a1 : Option Addr) (cap1 : Nat) (w : World) (hb : Below w0.heap.size w0 w) (h : Bw w w0.heap.size b l) (hT : Tab w0) (hTW : TabW w0) (hP : Pow w0)
    (hw : Writable w0 a0 a1 d) (hk : d.kind = 2) (hlen : l.length + 1300000 ≤ 140737488355328) :
    Calls Tryz.prog 24 #[.pointer (some ⟨b, 0, none⟩), .agg #[.string d.name, .int .i64 d.kind, .int .i64 d.code, .string d.text, .slice a0 d.actN cap0, .slice a1 d.linksN cap1]] w fun e w' => e = .returned (.tuple #[]) ∧ Bw w' w0.heap.size b (l ++ deedT d) ∧ Below w0.heap.size w0 w' ∧ Kp b w w' := by
  have H := hide h
  have HB := hide hb
  have HP := hide hP
  have HT := hide hT
  have HTW := hide hTW
  have HW := hide hw
  have hs := hb.size
  have hblt := h.lt.2
  have hq := size_list d.name
  have hqq := quoteB_le d.text.data.toList
  rw [size_list] at hqq
  have hnm := hw.nm
  have htx := hw.tx
  clear h hb hP hT hTW hw
  have A0 := hide ((Below.refl w.heap.size w).alloc (Nat.le_refl _) (.cells #[.string d.name, .int .i64 d.kind, .int .i64 d.code, .string d.text, .slice a0 d.actN cap0, .slice a1 d.linksN cap1] 56))
  have X0 := hide (dbox_new w (.string d.name) (.int .i64 d.kind) (.int .i64 d.code) (.string d.text) (.slice a0 d.actN cap0) (.slice a1 d.linksN cap1))
  have H0 := hide (H.out.below A0.out (Nat.le_refl _))
  have R0 := hide (HB.out.trans (A0.out.mono hs))
  have K0 : Hid (Kp b w (w.alloc (.cells #[.string d.name, .int .i64 d.kind, .int .i64 d.code, .string d.text, .slice a0 d.actN cap0, .slice a1 d.linksN cap1] 56))) := kp_of_below A0.out
  have hgd : w.heap.size ≠ b := by omega
  clear A0 H HB
  have HJ : Hid (joined [⟨#[110, 111, 110, 101]⟩, d.name] = noneT d) := by
    show _ = _
    rw [joined2]
    unfold noneT
    simp
  have hjl : (noneT d).length ≤ 6200 := by
    rw [← HJ.out, joined2]
    simp only [List.length_append, List.length_cons, List.length_nil]
    omega
  have HE : Hid (deedT d = noneT d ++ [10]) := by show _ = _; unfold deedT; rw [if_neg (by omega), if_pos hk]
  rw [HE.out]
  rw [hk] at X0 H0 R0 K0 ⊢
  clear hk
  go_enter Tryz.func24, Tryz.ntmps24
  go_upto_region 5 with fail
  generalize w.alloc (.cells #[.string d.name, .int .i64 2, .int .i64 d.code, .string d.text, .slice a0 d.actN cap0, .slice a1 d.linksN cap1] 56) = W at X0 H0 R0 K0 ⊢
  generalize w.heap.size = gd at X0 hgd ⊢
  obtain ⟨x0, x1, x2, x3, x4, x5⟩ := X0.out.cells
  have hz := X0.out.lt
  go_wp2_with fail
  refine (line2 w0 W W b l _ _ _ R0.out (Below.refl _ _) H0.out (by rw [HJ.out]; omega)).mono ?_
  rintro e w3 ⟨rfl, hD3, hB3, hK3⟩
  rw [HJ.out] at hD3
  have D3 := hide hD3
  have B3 := hide hB3
  have K3 := hide hK3
  clear hD3 hB3 hK3
  go_wp2
  go_end0
  exact ⟨rfl, by simpa using D3.out, B3.out, K0.out.trans K3.out⟩

set_option maxRecDepth 100000 in
set_option maxHeartbeats 1000000 in
theorem deed_tgt (w0 : World) (b : Nat) (l : List UInt8) (d : Deed) (a0 : Option Addr) (cap0 : Nat) (a1 : Option Addr) (cap1 : Nat) (w : World) (hb : Below w0.heap.size w0 w) (h : Bw w w0.heap.size b l) (hT : Tab w0) (hTW : TabW w0) (hP : Pow w0)
    (hw : Writable w0 a0 a1 d) (hk : d.kind = 3) (hlen : l.length + 1300000 ≤ 140737488355328) :
    Calls Tryz.prog 24 #[.pointer (some ⟨b, 0, none⟩), .agg #[.string d.name, .int .i64 d.kind, .int .i64 d.code, .string d.text, .slice a0 d.actN cap0, .slice a1 d.linksN cap1]] w fun e w' => e = .returned (.tuple #[]) ∧ Bw w' w0.heap.size b (l ++ deedT d) ∧ Below w0.heap.size w0 w' ∧ Kp b w w' := by
  have H := hide h
  have HB := hide hb
  have HP := hide hP
  have HT := hide hT
  have HTW := hide hTW
  have HW := hide hw
  have hs := hb.size
  have hblt := h.lt.2
  have hq := size_list d.name
  have hqq := quoteB_le d.text.data.toList
  rw [size_list] at hqq
  have hnm := hw.nm
  have htx := hw.tx
  clear h hb hP hT hTW hw
  have A0 := hide ((Below.refl w.heap.size w).alloc (Nat.le_refl _) (.cells #[.string d.name, .int .i64 d.kind, .int .i64 d.code, .string d.text, .slice a0 d.actN cap0, .slice a1 d.linksN cap1] 56))
  have X0 := hide (dbox_new w (.string d.name) (.int .i64 d.kind) (.int .i64 d.code) (.string d.text) (.slice a0 d.actN cap0) (.slice a1 d.linksN cap1))
  have H0 := hide (H.out.below A0.out (Nat.le_refl _))
  have R0 := hide (HB.out.trans (A0.out.mono hs))
  have K0 : Hid (Kp b w (w.alloc (.cells #[.string d.name, .int .i64 d.kind, .int .i64 d.code, .string d.text, .slice a0 d.actN cap0, .slice a1 d.linksN cap1] 56))) := kp_of_below A0.out
  have hgd : w.heap.size ≠ b := by omega
  clear A0 H HB
  obtain ⟨c1, c2, c3, c4, c5, c6, c7⟩ := HW.out.kd.resolve_left (by omega) |>.resolve_left (by omega) |>.2
  have HE : Hid (deedT d = tgtT d) := by show _ = _; unfold deedT; rw [if_neg (by omega), if_neg (by omega)]
  have TG := hide (fun V hb h => target_any w0 b l d a0 cap0 a1 cap1 V hb h HT.out HTW.out HP.out HW.out.ins HW.out.lnk hnm htx c1 c2 c3 c4 c5 c6 c7 hlen)
  rw [HE.out]
  rw [hk] at X0 H0 R0 K0 TG ⊢
  clear hk c1 c2 c3 c4 c5 c6 c7
  obtain ⟨x0, x1, x2, x3, x4, x5⟩ := X0.out.cells
  go_enter Tryz.func24, Tryz.ntmps24
  go_wp2_with fail
  refine (TG.out _ R0.out H0.out).mono ?_
  rintro e w3 ⟨rfl, hD3, hB3, hK3⟩
  have D3 := hide hD3
  have B3 := hide hB3
  have K3 := hide (K0.out.trans hK3)
  clear hD3 hB3 hK3
  go_wp2
  go_end0
  exact ⟨rfl, D3.out, B3.out, K3.out⟩

theorem deed_any (w0 : World) (b : Nat) (l : List UInt8) (d : Deed) (a0 : Option Addr) (cap0 : Nat) (a1 : Option Addr) (cap1 : Nat) (w : World) (hb : Below w0.heap.size w0 w) (h : Bw w w0.heap.size b l) (hT : Tab w0) (hTW : TabW w0) (hP : Pow w0)
    (hw : Writable w0 a0 a1 d) (hlen : l.length + 1300000 ≤ 140737488355328) :
    Calls Tryz.prog 24 #[.pointer (some ⟨b, 0, none⟩), .agg #[.string d.name, .int .i64 d.kind, .int .i64 d.code, .string d.text, .slice a0 d.actN cap0, .slice a1 d.linksN cap1]] w fun e w' => e = .returned (.tuple #[]) ∧ Bw w' w0.heap.size b (l ++ deedT d) ∧ Below w0.heap.size w0 w' ∧ Kp b w w' := by
  rcases hw.kd with hk | hk | hk
  · exact deed_src w0 b l d a0 cap0 a1 cap1 w hb h hT hTW hP hw hk hlen
  · exact deed_none w0 b l d a0 cap0 a1 cap1 w hb h hT hTW hP hw hk hlen
  · exact deed_tgt w0 b l d a0 cap0 a1 cap1 w hb h hT hTW hP hw hk.1 hlen

end Go.Proofs.YtclalcefkmjenaaGreatDoor.Vp
