/-
  spec: l1Look, where it puts a text. Written by tools/spec.py.
-/
import Derived.Test.YtoaokmdhbagniaaDoorNxLook
namespace Go.Proofs.YtoaokmdhbagniaaDoor.Vp
open Go.RowKit

set_option maxRecDepth 1000000 in
set_option maxHeartbeats 4000000 in
theorem look_text (op : Nat) (t : ByteArray) (k : Int) (p st l : Nat) (a : Option Addr) (cap : Nat) (s : List ByteArray) (nm pl : ByteArray) (b2 o2 n cap2 base : Nat) (y : Nat → Reply) (w : World)
    (hY : RowReply w b2 o2 n y) (hO : w.ownsRow base 9 1 (.slice a s.length cap) s.length (strs s)) (hb : base ≤ w.heap.size) (hn : nameOk nm = true) (hl : ((l : Int) == 200) = false) (hl2 : l ≤ 200) (hw : l < n) (hop : ((op : Int) == 13) = false) (hh : (y l).has = true) (hc : (y l).code = 0) (hs : s.length ≤ 50) :
    Calls Tryd.prog 90 #[.agg #[.int .i64 op, .string t, .int .i64 k], runV p (.slice a s.length cap) st l false 0 ⟨#[]⟩ false ⟨#[]⟩ false, .string nm, .string pl, .slice (some ⟨b2, o2, none⟩) n cap2] w fun e w' => ∃ v, e = .returned v ∧ SoIs w' base v (.go p st (l + 1) ((y l).text :: s)) ∧ Below base w w' := by
  have HY := hide hY
  have HO := hide hO
  have HN := hide hn
  have HO0 := hide hO
  clear hY hO hn
  have A0 := hide ((((Below.refl w.heap.size w).alloc (Nat.le_refl _) (.cells #[.int .i64 op, .string t, .int .i64 k] 127)).alloc (by simp) (.cells #[.int .i64 p, .slice a s.length cap, .int .i64 st, .int .i64 l, .bool false, .int .i64 0, .string ⟨#[]⟩, .bool false, .string ⟨#[]⟩, .bool false] 104)).alloc (by first | (simp; done) | (simp; omega)) (.cells #[.int .i64 0, .slice none 0 0, .int .i64 0, .int .i64 0, .bool false, .int .i64 0, .string ⟨#[]⟩, .bool false, .string ⟨#[]⟩, .bool false] 104))
  have R0 := hide ((ten_new (w.alloc (.cells #[.int .i64 op, .string t, .int .i64 k] 127)) (.int .i64 p) (.slice a s.length cap) (.int .i64 st) (.int .i64 l) (.bool false) (.int .i64 0) (.string ⟨#[]⟩) (.bool false) (.string ⟨#[]⟩) (.bool false) 104 (w.heap.size + 1) (by simp)).al (.cells #[.int .i64 0, .slice none 0 0, .int .i64 0, .int .i64 0, .bool false, .int .i64 0, .string ⟨#[]⟩, .bool false, .string ⟨#[]⟩, .bool false] 104))
  have Z0 := hide (ten_new ((w.alloc (.cells #[.int .i64 op, .string t, .int .i64 k] 127)).alloc (.cells #[.int .i64 p, .slice a s.length cap, .int .i64 st, .int .i64 l, .bool false, .int .i64 0, .string ⟨#[]⟩, .bool false, .string ⟨#[]⟩, .bool false] 104)) (.int .i64 0) (.slice none 0 0) (.int .i64 0) (.int .i64 0) (.bool false) (.int .i64 0) (.string ⟨#[]⟩) (.bool false) (.string ⟨#[]⟩) (.bool false) 104 (w.heap.size + 1 + 1) (by simp))
  go_enter Tryd.func90, Tryd.ntmps90
  go_wp2_with fail
  refine (l1NameOk_any nm _).mono ?_
  rintro e w1 ⟨rfl, hB1⟩
  rw [HN.out]
  have R1 := hide (R0.out.below hB1 (by first | (simp; done) | (simp; omega)))
  have Z1 := hide (Z0.out.below hB1 (by simp))
  have B1 := hide (A0.out.trans (hB1.mono (by first | (simp; done) | (simp; omega))))
  have i0 : w1.cell? ⟨w.heap.size, 0, none⟩ = some (.int .i64 op) := (hB1.cell (p := ⟨w.heap.size, 0, none⟩) (by first | (simp; done) | (simp; omega))).trans (box3 _ _ _ _ _ _ _ rfl)
  have O1 := hide (own_below HO.out B1.out (Nat.le_refl _))
  have hz1 : w.heap.size + 1 + 1 < w1.heap.size := Z1.out.1
  clear hB1 A0 R0 Z0 HO HN
  obtain ⟨d0, d1, d2⟩ := (HY.out.below B1.out (Nat.le_refl _)).2 l (by omega)
  rw [hh] at d0
  rw [hc] at d1
  have hln : (l : Int) < n := by omega
  have hz0 : w.heap.size < w1.heap.size := by omega
  have hz01 : w.heap.size + 1 < w1.heap.size := by omega
  have R2 := hide ((R1.out.set3 (.int .i64 ((l : Int) + 1))).al (.cells #[.bool true, .int .i64 0, .string (y l).text] 102))
  have Z2 := hide ((Z1.out.other ⟨w.heap.size + 1, 3, none⟩ (.int .i64 ((l : Int) + 1)) (by simp)).al (.cells #[.bool true, .int .i64 0, .string (y l).text] 102))
  have hne : ∀ k, w.heap.size ≤ k → Value.ownBlock (.slice a s.length cap) ≠ some k := fun k hk e => by have := (HO0.out.lt k e).2; omega
  have O2 := hide ((ownsRow_setCell_other O1.out (a := ⟨w.heap.size + 1, 3, none⟩) (hne _ (by simp)) (.int .i64 ((l : Int) + 1))).alloc (.cells #[.bool true, .int .i64 0, .string (y l).text] 102))
  have B2 := hide ((B1.out.setCell (p := ⟨w.heap.size + 1, 3, none⟩) (by simp) (.int .i64 ((l : Int) + 1))).alloc (by have := B1.out.size; simpa using this) (.cells #[.bool true, .int .i64 0, .string (y l).text] 102))
  have hWz : w1.heap.size < ((w1.setCell ⟨w.heap.size + 1, 3, none⟩ (.int .i64 ((l : Int) + 1))).alloc (.cells #[.bool true, .int .i64 0, .string (y l).text] 102)).heap.size := by simp
  have hWe : ((w1.setCell ⟨w.heap.size + 1, 3, none⟩ (.int .i64 ((l : Int) + 1))).alloc (.cells #[.bool true, .int .i64 0, .string (y l).text] 102)).heap.size = w1.heap.size + 1 := by simp
  have g0 : ((w1.setCell ⟨w.heap.size + 1, 3, none⟩ (.int .i64 ((l : Int) + 1))).alloc (.cells #[.bool true, .int .i64 0, .string (y l).text] 102)).cell? ⟨w1.heap.size, 0, none⟩ = some (.bool true) := box1 _ _ _ _ _ _ (by simp) rfl
  have g2 : ((w1.setCell ⟨w.heap.size + 1, 3, none⟩ (.int .i64 ((l : Int) + 1))).alloc (.cells #[.bool true, .int .i64 0, .string (y l).text] 102)).cell? ⟨w1.heap.size, 2, none⟩ = some (.string (y l).text) := box1 _ _ _ _ _ _ (by simp) rfl
  have HNE := hide hne
  clear hne
  obtain ⟨i0', hi, hy0, hy1, hy2⟩ := info_parts infoString
  obtain ⟨chl, ⟨c0, f0⟩, ⟨c1, f1⟩, ⟨c2, f2⟩, ⟨c3, f3⟩, ⟨c4, f4⟩, ⟨c5, f5⟩, ⟨c6, f6⟩, ⟨c7, f7⟩, ⟨c8, f8⟩, c9, f9⟩ := R1.out
  go_wp2_with (at_builtin; generalize ((w1.setCell ⟨w.heap.size + 1, 3, none⟩ (.int .i64 ((l : Int) + 1))).alloc (.cells #[.bool true, .int .i64 0, .string (y l).text] 102)) = W at R2 Z2 O2 B2 hWz hWe g0 g2 ⊢; have hbW : base ≤ W.heap.size := Nat.le_trans hb B2.out.size; refine wpList_append_own _ rfl (.tmp 70) (.tmp 73) 22 rfl base 9 i0' (.string ⟨#[]⟩) 1 16 Tryd.underlying22 hi hy0 hy1 hy2 rfl (by decide) (.slice a s.length cap) s.length (strs s) (by simp [Act.eval]) (by first | exact O2.out.alloc _ | exact O2.out.drew.alloc _ | exact O2.out.drew.drew.alloc _) ⟨w1.heap.size + 1, 0, none⟩ 1 1 [.string (y l).text] (by simp [Act.eval]) rfl (by rw [← hWe]; exact one_new W _ _) (by simp [Value.oneCell']) (by unfold maxLen; omega) (by omega) (by first | (simp; done) | (simp; omega)) ?_; intro v' w2 hown hgrow hnil; obtain ⟨gg, cc, rfl⟩ := own_form hown (by omega); (first | have R3 := hide ((R2.out.al _).grown hgrow (fun e => HNE.out _ (by omega) e.symm)) | have R3 := hide ((R2.out.drew.al _).grown hgrow (fun e => HNE.out _ (by omega) e.symm)) | have R3 := hide ((R2.out.drew.drew.al _).grown hgrow (fun e => HNE.out _ (by omega) e.symm))); (first | have Z3 := hide ((Z2.out.al _).grown hgrow (fun e => HNE.out _ (by omega) e.symm)) | have Z3 := hide ((Z2.out.drew.al _).grown hgrow (fun e => HNE.out _ (by omega) e.symm)) | have Z3 := hide ((Z2.out.drew.drew.al _).grown hgrow (fun e => HNE.out _ (by omega) e.symm))); (first | have B3 := hide (Below.grown (Below.alloc ((B2.out.mono hb)) (by first | exact hbW | (simp; exact hbW)) _) hgrow (by first | (simp; done) | (simp; omega)) (fun k e => (O2.out.lt k e).1)) | have B3 := hide (Below.grown (Below.alloc ((B2.out.mono hb).drew) (by first | exact hbW | (simp; exact hbW)) _) hgrow (by first | (simp; done) | (simp; omega)) (fun k e => (O2.out.lt k e).1)) | have B3 := hide (Below.grown (Below.alloc ((B2.out.mono hb).drew.drew) (by first | exact hbW | (simp; exact hbW)) _) hgrow (by first | (simp; done) | (simp; omega)) (fun k e => (O2.out.lt k e).1))); obtain ⟨khl, ⟨k0, m0⟩, ⟨k1, m1⟩, ⟨k2, m2⟩, ⟨k3, m3⟩, ⟨k4, m4⟩, ⟨k5, m5⟩, ⟨k6, m6⟩, ⟨k7, m7⟩, ⟨k8, m8⟩, k9, m9⟩ := R3.out; obtain ⟨zhl, ⟨z0, y0⟩, ⟨z1, y1⟩, ⟨z2, y2⟩, ⟨z3, y3⟩, ⟨z4, y4⟩, ⟨z5, y5⟩, ⟨z6, y6⟩, ⟨z7, y7⟩, ⟨z8, y8⟩, z9, y9⟩ := Z3.out)
  all_goals
    have Y := hide (strs_at (x := (y l).text) (s := s))
    have ne1 := own_ne hown Y.out.choose_spec R3.out.2.1.1
    have ne2 := own_ne hown Y.out.choose_spec Z3.out.2.1.1
    have OWN := hide (ten_own hown ne1 (.slice (some ⟨gg, 0, none⟩) (s.length + 1) cc) 1)
    have ZE := hide (Z3.out.other ⟨w.heap.size + 1, 1, none⟩ (.slice (some ⟨gg, 0, none⟩) (s.length + 1) cc) (by simp))
    have B4 := hide (B3.out.setCell (p := ⟨w.heap.size + 1, 1, none⟩) (by simp; omega) (.slice (some ⟨gg, 0, none⟩) (s.length + 1) cc))
    clear hown hgrow hnil ne1
    refine bodyPost_ret (v := runV p (.slice (some ⟨gg, 0, none⟩) (s.length + 1) cc) st ((l : Int) + 1) false 0 ⟨#[]⟩ false ⟨#[]⟩ false) (by simp [results, Tryd.results90, go_sem, z0, z1, z2, z3, z4, z5, z6, z7, z8, z9]) rfl ⟨_, rfl, ⟨some ⟨gg, 0, none⟩, cc, by simp, ?_⟩, ten_set B4.out (by omega) _ _ _ _ _ _ _ _ _ _⟩
    rw [strs_cons]
    exact ten_owns OWN.out ne2 _ _ _ _ _ _ _ _ _ _

end Go.Proofs.YtoaokmdhbagniaaDoor.Vp
