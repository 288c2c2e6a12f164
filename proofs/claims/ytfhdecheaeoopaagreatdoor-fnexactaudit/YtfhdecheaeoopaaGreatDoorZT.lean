/-
  Put together of: NxStp3, NxPl, NxStp4, NxStp5.
-/
import Derived.Test.YtfhdecheaeoopaaGreatDoorZR
import Derived.Test.YtfhdecheaeoopaaGreatDoorZS

/-
  spec: l1Step: a look. Written by tools/spec2.py.
-/
namespace Go.Proofs.YtfhdecheaeoopaaGreatDoor.Vp
open Go.RowKit


def lookSO (y : Nat → Reply) (n op : Nat) (pl nm : ByteArray) (s : List ByteArray) (p st l : Nat) : SO :=
  if nameOk nm = false then .inr (.inl (2, pl, st)) else if l = 200 then .inr (.inl (3, ⟨#[]⟩, st)) else afterLook y n ((op : Int) == 12) nm s p st l
theorem l1Look_any (op : Nat) (t : ByteArray) (k : Int) (p st l : Nat) (a : Option Addr) (cap : Nat) (s : List ByteArray) (nm pl : ByteArray) (b2 o2 n cap2 base : Nat) (y : Nat → Reply) (w : World)
    (hY : RowReply w b2 o2 n y) (hO : w.ownsRow base 9 1 (.slice a s.length cap) s.length (strs s)) (hb : base ≤ w.heap.size) (hop : op = 12 ∨ op = 13) (hl : l ≤ 200) (hs : s.length ≤ 50) :
    Calls Tryz.prog 108 #[.agg #[.int .i64 op, .string t, .int .i64 k], runV p (.slice a s.length cap) st l false 0 ⟨#[]⟩ false ⟨#[]⟩ false, .string nm, .string pl, .slice (some ⟨b2, o2, none⟩) n cap2] w fun e w' => ∃ v, e = .returned v ∧ SoIs w' base v (lookSO y n op pl nm s p st l) ∧ Below base w w' := by
  unfold lookSO
  by_cases h1 : nameOk nm = false
  · rw [if_pos h1]
    exact look_name op t k p st l a cap s nm pl b2 o2 n cap2 base y w hY hO hb h1
  · rw [if_neg h1]
    have h1 : nameOk nm = true := by simpa using h1
    by_cases h2 : l = 200
    · rw [if_pos h2]
      exact look_spent op t k p st l a cap s nm pl b2 o2 n cap2 base y w hY hO hb h1 (by simp; omega)
    · rw [if_neg h2]
      have h2 : ((l : Int) == 200) = false := by simp; omega
      unfold afterLook
      by_cases h3 : n ≤ l
      · rw [if_pos h3]
        exact look_wait op t k p st l a cap s nm pl b2 o2 n cap2 base y w hY hO hb h1 h2 (by omega)
      · rw [if_neg h3]
        rcases hop with rfl | rfl
        · rw [if_neg (by simp)]
          by_cases h4 : (y l).has = false
          · rw [if_pos h4]
            exact look_miss 12 t k p st l a cap s nm pl b2 o2 n cap2 base y w hY hO hb h1 h2 hl (by omega) (by simp) h4
          · rw [if_neg h4]
            have h4 : (y l).has = true := by simpa using h4
            by_cases h5 : (y l).code = 0
            · rw [if_pos h5]
              exact look_text 12 t k p st l a cap s nm pl b2 o2 n cap2 base y w hY hO hb h1 h2 hl (by omega) (by simp) h4 h5 hs
            · rw [if_neg h5]
              exact look_below 12 t k p st l a cap s nm pl b2 o2 n cap2 base y w hY hO hb h1 h2 hl (by omega) (by simp) h4 (by simpa using h5)
        · rw [if_pos (by simp)]
          exact look_has 13 t k p st l a cap s nm pl b2 o2 n cap2 base y w hY hO hb h1 h2 hl (by omega) (by simp) hs
theorem SoIs.form {w : World} {base : Nat} {v : Value} {r : SO} (h : SoIs w base v r) : ∃ (at_ : Int) (a : Option Addr) (n cap : Nat) (st lk : Int) (ov : Bool) (c : Int) (x : ByteArray) (ask : Bool) (nm : ByteArray) (wt : Bool), v = runV at_ (.slice a n cap) st lk ov c x ask nm wt := by
  rcases r with ⟨p, st, l, s⟩ | ⟨c, x, st⟩ | ⟨ask, nm, st⟩
  · obtain ⟨a, cap, e, _⟩ := h
    exact ⟨_, _, _, _, _, _, _, _, _, _, _, _, e⟩
  · obtain ⟨at_, a, n, cap, lk, e⟩ := h
    exact ⟨_, _, _, _, _, _, _, _, _, _, _, _, e⟩
  · obtain ⟨at_, a, n, cap, lk, e⟩ := h
    exact ⟨_, _, _, _, _, _, _, _, _, _, _, _, e⟩
theorem SoIs.set {w : World} {base : Nat} {v : Value} {r : SO} (h : SoIs w base v r) {k : Nat} (hk : k < base) (j : Nat) (u : Value) : SoIs (w.setCell ⟨k, j, none⟩ u) base v r := by
  rcases r with ⟨p, st, l, s⟩ | ⟨c, x, st⟩ | ⟨ask, nm, st⟩
  · obtain ⟨a, cap, e, ho⟩ := h
    exact ⟨a, cap, e, ownsRow_setCell_below ho (a := ⟨k, j, none⟩) hk u⟩
  · exact h
  · exact h
theorem SoIs.mono {w : World} {base base' : Nat} {v : Value} {r : SO} (h : SoIs w base v r) (hb : base' ≤ base) : SoIs w base' v r := h.kept (Below.refl _ _) hb
theorem ten_so {w : World} {base : Nat} {v : Value} {r : SO} (h : SoIs w base v r) {k : Nat} (hk : k < base) (v0 v1 v2 v3 v4 v5 v6 v7 v8 v9 : Value) : SoIs ((((((((((w.setCell ⟨k, 0, none⟩ v0).setCell ⟨k, 1, none⟩ v1).setCell ⟨k, 2, none⟩ v2).setCell ⟨k, 3, none⟩ v3).setCell ⟨k, 4, none⟩ v4).setCell ⟨k, 5, none⟩ v5).setCell ⟨k, 6, none⟩ v6).setCell ⟨k, 7, none⟩ v7).setCell ⟨k, 8, none⟩ v8).setCell ⟨k, 9, none⟩ v9) base v r :=
  (((((((((h.set hk 0 v0).set hk 1 v1).set hk 2 v2).set hk 3 v3).set hk 4 v4).set hk 5 v5).set hk 6 v6).set hk 7 v7).set hk 8 v8).set hk 9 v9

set_option maxRecDepth 1000000 in
set_option maxHeartbeats 4000000 in
theorem step_look12 (pb po cnt cap1 place steps looks : Nat) (f : Nat → Ins) (g : Nat) (x : ByteArray) (r : List ByteArray) (cap b2 o2 n cap2 base : Nat) (y : Nat → Reply) (w : World)
    (hP : RowIns w pb po cnt f) (hY : RowReply w b2 o2 n y) (hO : w.ownsRow base 9 1 (.slice (some ⟨g, 0, none⟩) (r.length + 1) cap) (r.length + 1) (strs (x :: r))) (hp : place ≤ 2000) (hst : steps ≤ 2000) (h1 : (place : Int) < cnt) (h2 : ((steps : Int) == 2000) = false) (op k : Nat) (hop : (f place).op = op) (hk : (f place).n = k) (ho1 : 1 ≤ op) (ho2 : op ≤ 15) (hs : r.length ≤ 50) (htk : takesOf op = 1) (hA2 : ((r.length : Int) + (putsOf op : Nat)) ≤ 50) (hlk : looks ≤ 200) (hop2 : op = 12 ∨ op = 13) (n15 : ((op : Int) == 15) = false) (n14 : ((op : Int) == 14) = false) (n12 : ((op : Int) == 12) = true) :
    Calls Tryz.prog 75 #[.agg #[.slice (some ⟨pb, po, none⟩) cnt cap1], runV place (.slice (some ⟨g, 0, none⟩) (r.length + 1) cap) steps looks false 0 ⟨#[]⟩ false ⟨#[]⟩ false, .slice (some ⟨b2, o2, none⟩) n cap2] w fun e w' => ∃ v, e = .returned v ∧ SoIs w' w.heap.size v (lookSO y n op (decT place) x r (place + 1) (steps + 1) looks) ∧ Below w.heap.size w w' := by
  have HP := hide hP
  have HY := hide hY
  have HO := hide hO
  clear hP hY hO
  have A0 := hide ((((Below.refl w.heap.size w).alloc (Nat.le_refl _) (.cells #[.slice (some ⟨pb, po, none⟩) cnt cap1] 51)).alloc (by simp) (.cells #[.int .i64 place, .slice (some ⟨g, 0, none⟩) (r.length + 1) cap, .int .i64 steps, .int .i64 looks, .bool false, .int .i64 0, .string ⟨#[]⟩, .bool false, .string ⟨#[]⟩, .bool false] 136)).alloc (by first | (simp; done) | (simp; omega)) (.cells #[.int .i64 0, .slice none 0 0, .int .i64 0, .int .i64 0, .bool false, .int .i64 0, .string ⟨#[]⟩, .bool false, .string ⟨#[]⟩, .bool false] 136))
  have R0 := hide ((ten_new (w.alloc (.cells #[.slice (some ⟨pb, po, none⟩) cnt cap1] 51)) (.int .i64 place) (.slice (some ⟨g, 0, none⟩) (r.length + 1) cap) (.int .i64 steps) (.int .i64 looks) (.bool false) (.int .i64 0) (.string ⟨#[]⟩) (.bool false) (.string ⟨#[]⟩) (.bool false) 136 (w.heap.size + 1) (by simp)).al (.cells #[.int .i64 0, .slice none 0 0, .int .i64 0, .int .i64 0, .bool false, .int .i64 0, .string ⟨#[]⟩, .bool false, .string ⟨#[]⟩, .bool false] 136))
  have Z0 := hide (ten_new ((w.alloc (.cells #[.slice (some ⟨pb, po, none⟩) cnt cap1] 51)).alloc (.cells #[.int .i64 place, .slice (some ⟨g, 0, none⟩) (r.length + 1) cap, .int .i64 steps, .int .i64 looks, .bool false, .int .i64 0, .string ⟨#[]⟩, .bool false, .string ⟨#[]⟩, .bool false] 136)) (.int .i64 0) (.slice none 0 0) (.int .i64 0) (.int .i64 0) (.bool false) (.int .i64 0) (.string ⟨#[]⟩) (.bool false) (.string ⟨#[]⟩) (.bool false) 136 (w.heap.size + 1 + 1) (by simp))
  go_enter Tryz.func75, Tryz.ntmps75
  go_wp2_with fail
  refine (l1Dec_any place (by omega) _).mono ?_
  rintro e w1 ⟨rfl, hB1⟩
  have hD : (⟨(Lib.decDigits place).toArray⟩ : ByteArray) = decT place := rfl
  rw [hD]
  have R1 := hide (R0.out.below hB1 (by first | (simp; done) | (simp; omega)))
  have Z1 := hide (Z0.out.below hB1 (by first | (simp; done) | (simp; omega)))
  have B1 := hide (A0.out.trans (hB1.mono (by first | (simp; done) | (simp; omega))))
  have pP : w1.cell? ⟨w.heap.size, 0, none⟩ = some (.slice (some ⟨pb, po, none⟩) cnt cap1) := (hB1.cell (p := ⟨w.heap.size, 0, none⟩) (by first | (simp; done) | (simp; omega))).trans (box3 _ _ _ _ _ _ _ rfl)
  have O1 := hide (own_below HO.out B1.out (Nat.le_refl _))
  have hz1 : w.heap.size + 1 + 1 < w1.heap.size := Z1.out.1
  have hz0 : w.heap.size < w1.heap.size := by omega
  have hz01 : w.heap.size + 1 < w1.heap.size := by omega
  clear hB1 A0 R0 Z0 hD
  obtain ⟨d0, d1, d2⟩ := (HP.out.below B1.out (Nat.le_refl _)).2 place (by omega)
  rw [hop] at d0
  rw [hk] at d2
  have hpb : pb < w.heap.size := HP.out.1
  have d0' := (cell_far w1 ⟨w.heap.size + 1, 2, none⟩ ⟨pb, po + place * 3, none⟩ (.int .i64 ((steps : Int) + 1)) (by simp; omega)).trans d0
  have d1' := (cell_far w1 ⟨w.heap.size + 1, 2, none⟩ ⟨pb, po + place * 3 + 1, none⟩ (.int .i64 ((steps : Int) + 1)) (by simp; omega)).trans d1
  have d2' := (cell_far w1 ⟨w.heap.size + 1, 2, none⟩ ⟨pb, po + place * 3 + 2, none⟩ (.int .i64 ((steps : Int) + 1)) (by simp; omega)).trans d2
  have hne : ∀ j, w.heap.size ≤ j → Value.ownBlock (.slice (some ⟨g, 0, none⟩) (r.length + 1) cap) ≠ some j := fun j hj e => by have := (HO.out.lt j e).2; omega
  have R2 := hide ((R1.out.set2 (.int .i64 ((steps : Int) + 1))).al (.cells #[.int .i64 op, .string (f place).s, .int .i64 k] 120))
  have Z2 := hide ((Z1.out.other ⟨w.heap.size + 1, 2, none⟩ (.int .i64 ((steps : Int) + 1)) (by simp)).al (.cells #[.int .i64 op, .string (f place).s, .int .i64 k] 120))
  have O2 := hide ((ownsRow_setCell_other O1.out (a := ⟨w.heap.size + 1, 2, none⟩) (hne _ (by simp)) (.int .i64 ((steps : Int) + 1))).alloc (.cells #[.int .i64 op, .string (f place).s, .int .i64 k] 120))
  have B2 := hide ((B1.out.setCell (p := ⟨w.heap.size + 1, 2, none⟩) (by simp) (.int .i64 ((steps : Int) + 1))).alloc (by have := B1.out.size; simpa using this) (.cells #[.int .i64 op, .string (f place).s, .int .i64 k] 120))
  have g0 : ((w1.setCell ⟨w.heap.size + 1, 2, none⟩ (.int .i64 ((steps : Int) + 1))).alloc (.cells #[.int .i64 op, .string (f place).s, .int .i64 k] 120)).cell? ⟨w1.heap.size, 0, none⟩ = some (.int .i64 op) := box1 _ _ _ _ _ _ (by simp) rfl
  have g1 : ((w1.setCell ⟨w.heap.size + 1, 2, none⟩ (.int .i64 ((steps : Int) + 1))).alloc (.cells #[.int .i64 op, .string (f place).s, .int .i64 k] 120)).cell? ⟨w1.heap.size, 1, none⟩ = some (.string (f place).s) := box1 _ _ _ _ _ _ (by simp) rfl
  have g2 : ((w1.setCell ⟨w.heap.size + 1, 2, none⟩ (.int .i64 ((steps : Int) + 1))).alloc (.cells #[.int .i64 op, .string (f place).s, .int .i64 k] 120)).cell? ⟨w1.heap.size, 2, none⟩ = some (.int .i64 k) := box1 _ _ _ _ _ _ (by simp) rfl
  have hWz : w1.heap.size < ((w1.setCell ⟨w.heap.size + 1, 2, none⟩ (.int .i64 ((steps : Int) + 1))).alloc (.cells #[.int .i64 op, .string (f place).s, .int .i64 k] 120)).heap.size := by simp
  clear hne
  obtain ⟨chl, ⟨c0, f0⟩, ⟨c1, f1⟩, ⟨c2, f2⟩, ⟨c3, f3⟩, ⟨c4, f4⟩, ⟨c5, f5⟩, ⟨c6, f6⟩, ⟨c7, f7⟩, ⟨c8, f8⟩, c9, f9⟩ := R1.out
  go_wp2_with fail
  refine (l1Takes_any op _ ho1 ho2).mono ?_
  rintro e w9 ⟨rfl, hw9⟩
  subst hw9
  clear chl c0 f0 c1 f1 c2 f2 c3 f3 c4 f4 c5 f5 c6 f6 c7 f7 c8 f8 c9 f9
  clear d0 d1 d2 d0' d1' d2' hop hk
  generalize ((w1.setCell ⟨w.heap.size + 1, 2, none⟩ (.int .i64 ((steps : Int) + 1))).alloc (.cells #[.int .i64 op, .string (f place).s, .int .i64 k] 120)) = W at R2 Z2 O2 B2 g0 g1 g2 hWz ⊢
  obtain ⟨chl, ⟨c0, f0⟩, ⟨c1, f1⟩, ⟨c2, f2⟩, ⟨c3, f3⟩, ⟨c4, f4⟩, ⟨c5, f5⟩, ⟨c6, f6⟩, ⟨c7, f7⟩, ⟨c8, f8⟩, c9, f9⟩ := R2.out
  have t1 := own_top O2.out
  rw [htk]
  have hcap : (r.length : Int) ≤ cap := by have := own_cap O2.out; omega
  obtain ⟨i0', hi, hy0, hy1, hy2⟩ := info_parts infoString
  go_wp2_with (at_builtin; refine wpList_append_own _ rfl (.tmp 87) (.tmp 95) 108 rfl W.heap.size 9 i0' (.string ⟨#[]⟩) 1 16 Tryz.underlying108 hi hy0 hy1 hy2 rfl (by decide) (.slice (some ⟨W.heap.size, 0, none⟩) 0 0) 0 [] (by simp [Act.eval]) (World.ownsRow_made W #[] 0 (Nat.le_refl _) (by unfold maxLen; omega) rfl) ⟨g, 0, none⟩ r.length cap (strs r) (by simp [Act.eval]) (by simp [strs]) (own_pre (by rw [← strs_cons]; exact O2.out.alloc _)) (strs_one _) (by unfold maxLen; omega) (by omega) (by simp) ?_; intro v' w2 hown hgrow hnil; simp only [Nat.zero_add, List.nil_append] at hown; obtain ⟨gr, cr, rfl, hgr⟩ := own_form0 hown (fun e => by simpa using hnil.1 e); have B3 := hide (Below.grown ((Below.refl W.heap.size W).alloc (Nat.le_refl _) (.cells #[] 9)) hgrow (by simp) (fun j e => by simp [Value.ownBlock] at e; omega)); have R3 := hide (R2.out.below B3.out R2.out.1); have Z3 := hide (Z2.out.below B3.out Z2.out.1); have G0 := (B3.out.cell (p := ⟨w1.heap.size, 0, none⟩) hWz).trans g0; have G1 := (B3.out.cell (p := ⟨w1.heap.size, 1, none⟩) hWz).trans g1; have G2 := (B3.out.cell (p := ⟨w1.heap.size, 2, none⟩) hWz).trans g2; have OWN := hide hown; clear hown hgrow hnil g0 g1 g2; obtain ⟨ehl, ⟨e0, u0⟩, ⟨e1, u1⟩, ⟨e2, u2⟩, ⟨e3, u3⟩, ⟨e4, u4⟩, ⟨e5, u5⟩, ⟨e6, u6⟩, ⟨e7, u7⟩, ⟨e8, u8⟩, e9, u9⟩ := R3.out)
  have Z4 := hide (Z3.out.other ⟨w.heap.size + 1, 0, none⟩ (.int .i64 ((place : Int) + 1)) (by simp))
  have B4 := hide ((B2.out.trans (B3.out.mono B2.out.size)).setCell (p := ⟨w.heap.size + 1, 0, none⟩) (by simp) (.int .i64 ((place : Int) + 1)))
  have hBW : w.heap.size ≤ W.heap.size := B2.out.size
  have hgw : w.heap.size + 1 ≠ gr := by omega
  have Z5 := hide (Z4.out.other ⟨w.heap.size + 1, 1, none⟩ (.slice (some ⟨gr, 0, none⟩) r.length cr) (by simp))
  have B5 := hide (B4.out.setCell (p := ⟨w.heap.size + 1, 1, none⟩) (by simp) (.slice (some ⟨gr, 0, none⟩) r.length cr))
  have O5 := hide (ten_own (ten_own OWN.out hgw (.int .i64 ((place : Int) + 1)) 0) hgw (.slice (some ⟨gr, 0, none⟩) r.length cr) 1)
  have Y5 := hide (HY.out.below B5.out (Nat.le_refl _))
  have hz3 : W.heap.size ≤ w2.heap.size := B3.out.size
  have hq := l1Look_any op (f place).s k (place + 1) (steps + 1) looks (some ⟨gr, 0, none⟩) cr r x (decT place) b2 o2 n cap2 W.heap.size y _ Y5.out O5.out (by simpa using hz3) hop2 hlk hs
  rw [show ((place + 1 : Nat) : Int) = (place : Int) + 1 by omega, show ((steps + 1 : Nat) : Int) = (steps : Int) + 1 by omega] at hq
  refine hq.mono ?_
  rintro e w5 ⟨v, rfl, hso, hB5⟩
  have SO5 := hide hso
  obtain ⟨l0, l1, l2, l3, l4, l5, l6, l7, l8, l9, l10, l11, rfl⟩ := hso.form
  have ZE := hide (Z5.out.below hB5 (by have := Z2.out.1; omega))
  have B6 := hide (B5.out.trans (hB5.mono hBW))
  have hz2 : w.heap.size + 1 + 1 < W.heap.size := Z2.out.1
  clear hB5 hq hso
  clear chl c0 f0 c1 f1 c2 f2 c3 f3 c4 f4 c5 f5 c6 f6 c7 f7 c8 f8 c9 f9
  clear ehl e0 u0 e1 u1 e2 u2 e3 u3 e4 u4 e5 u5 e6 u6 e7 u7 e8 u8 e9 u9
  obtain ⟨zhl, ⟨z0, y0⟩, ⟨z1, y1⟩, ⟨z2, y2⟩, ⟨z3, y3⟩, ⟨z4, y4⟩, ⟨z5, y5⟩, ⟨z6, y6⟩, ⟨z7, y7⟩, ⟨z8, y8⟩, z9, y9⟩ := ZE.out
  go_wp2
  refine bodyPost_ret (v := runV l0 (.slice l1 l2 l3) l4 l5 l6 l7 l8 l9 l10 l11) (by simp [results, Tryz.results75, go_sem, z0, z1, z2, z3, z4, z5, z6, z7, z8, z9]) rfl ⟨_, rfl, (ten_so SO5.out hz2 _ _ _ _ _ _ _ _ _ _).mono hBW, ten_set B6.out (by omega) _ _ _ _ _ _ _ _ _ _⟩


set_option maxRecDepth 1000000 in
set_option maxHeartbeats 4000000 in
theorem step_look13 (pb po cnt cap1 place steps looks : Nat) (f : Nat → Ins) (g : Nat) (x : ByteArray) (r : List ByteArray) (cap b2 o2 n cap2 base : Nat) (y : Nat → Reply) (w : World)
    (hP : RowIns w pb po cnt f) (hY : RowReply w b2 o2 n y) (hO : w.ownsRow base 9 1 (.slice (some ⟨g, 0, none⟩) (r.length + 1) cap) (r.length + 1) (strs (x :: r))) (hp : place ≤ 2000) (hst : steps ≤ 2000) (h1 : (place : Int) < cnt) (h2 : ((steps : Int) == 2000) = false) (op k : Nat) (hop : (f place).op = op) (hk : (f place).n = k) (ho1 : 1 ≤ op) (ho2 : op ≤ 15) (hs : r.length ≤ 50) (htk : takesOf op = 1) (hA2 : ((r.length : Int) + (putsOf op : Nat)) ≤ 50) (hlk : looks ≤ 200) (hop2 : op = 12 ∨ op = 13) (n15 : ((op : Int) == 15) = false) (n14 : ((op : Int) == 14) = false) (n12 : ((op : Int) == 12) = false) (n13 : ((op : Int) == 13) = true) :
    Calls Tryz.prog 75 #[.agg #[.slice (some ⟨pb, po, none⟩) cnt cap1], runV place (.slice (some ⟨g, 0, none⟩) (r.length + 1) cap) steps looks false 0 ⟨#[]⟩ false ⟨#[]⟩ false, .slice (some ⟨b2, o2, none⟩) n cap2] w fun e w' => ∃ v, e = .returned v ∧ SoIs w' w.heap.size v (lookSO y n op (decT place) x r (place + 1) (steps + 1) looks) ∧ Below w.heap.size w w' := by
  have HP := hide hP
  have HY := hide hY
  have HO := hide hO
  clear hP hY hO
  have A0 := hide ((((Below.refl w.heap.size w).alloc (Nat.le_refl _) (.cells #[.slice (some ⟨pb, po, none⟩) cnt cap1] 51)).alloc (by simp) (.cells #[.int .i64 place, .slice (some ⟨g, 0, none⟩) (r.length + 1) cap, .int .i64 steps, .int .i64 looks, .bool false, .int .i64 0, .string ⟨#[]⟩, .bool false, .string ⟨#[]⟩, .bool false] 136)).alloc (by first | (simp; done) | (simp; omega)) (.cells #[.int .i64 0, .slice none 0 0, .int .i64 0, .int .i64 0, .bool false, .int .i64 0, .string ⟨#[]⟩, .bool false, .string ⟨#[]⟩, .bool false] 136))
  have R0 := hide ((ten_new (w.alloc (.cells #[.slice (some ⟨pb, po, none⟩) cnt cap1] 51)) (.int .i64 place) (.slice (some ⟨g, 0, none⟩) (r.length + 1) cap) (.int .i64 steps) (.int .i64 looks) (.bool false) (.int .i64 0) (.string ⟨#[]⟩) (.bool false) (.string ⟨#[]⟩) (.bool false) 136 (w.heap.size + 1) (by simp)).al (.cells #[.int .i64 0, .slice none 0 0, .int .i64 0, .int .i64 0, .bool false, .int .i64 0, .string ⟨#[]⟩, .bool false, .string ⟨#[]⟩, .bool false] 136))
  have Z0 := hide (ten_new ((w.alloc (.cells #[.slice (some ⟨pb, po, none⟩) cnt cap1] 51)).alloc (.cells #[.int .i64 place, .slice (some ⟨g, 0, none⟩) (r.length + 1) cap, .int .i64 steps, .int .i64 looks, .bool false, .int .i64 0, .string ⟨#[]⟩, .bool false, .string ⟨#[]⟩, .bool false] 136)) (.int .i64 0) (.slice none 0 0) (.int .i64 0) (.int .i64 0) (.bool false) (.int .i64 0) (.string ⟨#[]⟩) (.bool false) (.string ⟨#[]⟩) (.bool false) 136 (w.heap.size + 1 + 1) (by simp))
  go_enter Tryz.func75, Tryz.ntmps75
  go_wp2_with fail
  refine (l1Dec_any place (by omega) _).mono ?_
  rintro e w1 ⟨rfl, hB1⟩
  have hD : (⟨(Lib.decDigits place).toArray⟩ : ByteArray) = decT place := rfl
  rw [hD]
  have R1 := hide (R0.out.below hB1 (by first | (simp; done) | (simp; omega)))
  have Z1 := hide (Z0.out.below hB1 (by first | (simp; done) | (simp; omega)))
  have B1 := hide (A0.out.trans (hB1.mono (by first | (simp; done) | (simp; omega))))
  have pP : w1.cell? ⟨w.heap.size, 0, none⟩ = some (.slice (some ⟨pb, po, none⟩) cnt cap1) := (hB1.cell (p := ⟨w.heap.size, 0, none⟩) (by first | (simp; done) | (simp; omega))).trans (box3 _ _ _ _ _ _ _ rfl)
  have O1 := hide (own_below HO.out B1.out (Nat.le_refl _))
  have hz1 : w.heap.size + 1 + 1 < w1.heap.size := Z1.out.1
  have hz0 : w.heap.size < w1.heap.size := by omega
  have hz01 : w.heap.size + 1 < w1.heap.size := by omega
  clear hB1 A0 R0 Z0 hD
  obtain ⟨d0, d1, d2⟩ := (HP.out.below B1.out (Nat.le_refl _)).2 place (by omega)
  rw [hop] at d0
  rw [hk] at d2
  have hpb : pb < w.heap.size := HP.out.1
  have d0' := (cell_far w1 ⟨w.heap.size + 1, 2, none⟩ ⟨pb, po + place * 3, none⟩ (.int .i64 ((steps : Int) + 1)) (by simp; omega)).trans d0
  have d1' := (cell_far w1 ⟨w.heap.size + 1, 2, none⟩ ⟨pb, po + place * 3 + 1, none⟩ (.int .i64 ((steps : Int) + 1)) (by simp; omega)).trans d1
  have d2' := (cell_far w1 ⟨w.heap.size + 1, 2, none⟩ ⟨pb, po + place * 3 + 2, none⟩ (.int .i64 ((steps : Int) + 1)) (by simp; omega)).trans d2
  have hne : ∀ j, w.heap.size ≤ j → Value.ownBlock (.slice (some ⟨g, 0, none⟩) (r.length + 1) cap) ≠ some j := fun j hj e => by have := (HO.out.lt j e).2; omega
  have R2 := hide ((R1.out.set2 (.int .i64 ((steps : Int) + 1))).al (.cells #[.int .i64 op, .string (f place).s, .int .i64 k] 120))
  have Z2 := hide ((Z1.out.other ⟨w.heap.size + 1, 2, none⟩ (.int .i64 ((steps : Int) + 1)) (by simp)).al (.cells #[.int .i64 op, .string (f place).s, .int .i64 k] 120))
  have O2 := hide ((ownsRow_setCell_other O1.out (a := ⟨w.heap.size + 1, 2, none⟩) (hne _ (by simp)) (.int .i64 ((steps : Int) + 1))).alloc (.cells #[.int .i64 op, .string (f place).s, .int .i64 k] 120))
  have B2 := hide ((B1.out.setCell (p := ⟨w.heap.size + 1, 2, none⟩) (by simp) (.int .i64 ((steps : Int) + 1))).alloc (by have := B1.out.size; simpa using this) (.cells #[.int .i64 op, .string (f place).s, .int .i64 k] 120))
  have g0 : ((w1.setCell ⟨w.heap.size + 1, 2, none⟩ (.int .i64 ((steps : Int) + 1))).alloc (.cells #[.int .i64 op, .string (f place).s, .int .i64 k] 120)).cell? ⟨w1.heap.size, 0, none⟩ = some (.int .i64 op) := box1 _ _ _ _ _ _ (by simp) rfl
  have g1 : ((w1.setCell ⟨w.heap.size + 1, 2, none⟩ (.int .i64 ((steps : Int) + 1))).alloc (.cells #[.int .i64 op, .string (f place).s, .int .i64 k] 120)).cell? ⟨w1.heap.size, 1, none⟩ = some (.string (f place).s) := box1 _ _ _ _ _ _ (by simp) rfl
  have g2 : ((w1.setCell ⟨w.heap.size + 1, 2, none⟩ (.int .i64 ((steps : Int) + 1))).alloc (.cells #[.int .i64 op, .string (f place).s, .int .i64 k] 120)).cell? ⟨w1.heap.size, 2, none⟩ = some (.int .i64 k) := box1 _ _ _ _ _ _ (by simp) rfl
  have hWz : w1.heap.size < ((w1.setCell ⟨w.heap.size + 1, 2, none⟩ (.int .i64 ((steps : Int) + 1))).alloc (.cells #[.int .i64 op, .string (f place).s, .int .i64 k] 120)).heap.size := by simp
  clear hne
  obtain ⟨chl, ⟨c0, f0⟩, ⟨c1, f1⟩, ⟨c2, f2⟩, ⟨c3, f3⟩, ⟨c4, f4⟩, ⟨c5, f5⟩, ⟨c6, f6⟩, ⟨c7, f7⟩, ⟨c8, f8⟩, c9, f9⟩ := R1.out
  go_wp2_with fail
  refine (l1Takes_any op _ ho1 ho2).mono ?_
  rintro e w9 ⟨rfl, hw9⟩
  subst hw9
  clear chl c0 f0 c1 f1 c2 f2 c3 f3 c4 f4 c5 f5 c6 f6 c7 f7 c8 f8 c9 f9
  clear d0 d1 d2 d0' d1' d2' hop hk
  generalize ((w1.setCell ⟨w.heap.size + 1, 2, none⟩ (.int .i64 ((steps : Int) + 1))).alloc (.cells #[.int .i64 op, .string (f place).s, .int .i64 k] 120)) = W at R2 Z2 O2 B2 g0 g1 g2 hWz ⊢
  obtain ⟨chl, ⟨c0, f0⟩, ⟨c1, f1⟩, ⟨c2, f2⟩, ⟨c3, f3⟩, ⟨c4, f4⟩, ⟨c5, f5⟩, ⟨c6, f6⟩, ⟨c7, f7⟩, ⟨c8, f8⟩, c9, f9⟩ := R2.out
  have t1 := own_top O2.out
  rw [htk]
  have hcap : (r.length : Int) ≤ cap := by have := own_cap O2.out; omega
  obtain ⟨i0', hi, hy0, hy1, hy2⟩ := info_parts infoString
  go_wp2_with (at_builtin; refine wpList_append_own _ rfl (.tmp 87) (.tmp 95) 108 rfl W.heap.size 9 i0' (.string ⟨#[]⟩) 1 16 Tryz.underlying108 hi hy0 hy1 hy2 rfl (by decide) (.slice (some ⟨W.heap.size, 0, none⟩) 0 0) 0 [] (by simp [Act.eval]) (World.ownsRow_made W #[] 0 (Nat.le_refl _) (by unfold maxLen; omega) rfl) ⟨g, 0, none⟩ r.length cap (strs r) (by simp [Act.eval]) (by simp [strs]) (own_pre (by rw [← strs_cons]; exact O2.out.alloc _)) (strs_one _) (by unfold maxLen; omega) (by omega) (by simp) ?_; intro v' w2 hown hgrow hnil; simp only [Nat.zero_add, List.nil_append] at hown; obtain ⟨gr, cr, rfl, hgr⟩ := own_form0 hown (fun e => by simpa using hnil.1 e); have B3 := hide (Below.grown ((Below.refl W.heap.size W).alloc (Nat.le_refl _) (.cells #[] 9)) hgrow (by simp) (fun j e => by simp [Value.ownBlock] at e; omega)); have R3 := hide (R2.out.below B3.out R2.out.1); have Z3 := hide (Z2.out.below B3.out Z2.out.1); have G0 := (B3.out.cell (p := ⟨w1.heap.size, 0, none⟩) hWz).trans g0; have G1 := (B3.out.cell (p := ⟨w1.heap.size, 1, none⟩) hWz).trans g1; have G2 := (B3.out.cell (p := ⟨w1.heap.size, 2, none⟩) hWz).trans g2; have OWN := hide hown; clear hown hgrow hnil g0 g1 g2; obtain ⟨ehl, ⟨e0, u0⟩, ⟨e1, u1⟩, ⟨e2, u2⟩, ⟨e3, u3⟩, ⟨e4, u4⟩, ⟨e5, u5⟩, ⟨e6, u6⟩, ⟨e7, u7⟩, ⟨e8, u8⟩, e9, u9⟩ := R3.out)
  have Z4 := hide (Z3.out.other ⟨w.heap.size + 1, 0, none⟩ (.int .i64 ((place : Int) + 1)) (by simp))
  have B4 := hide ((B2.out.trans (B3.out.mono B2.out.size)).setCell (p := ⟨w.heap.size + 1, 0, none⟩) (by simp) (.int .i64 ((place : Int) + 1)))
  have hBW : w.heap.size ≤ W.heap.size := B2.out.size
  have hgw : w.heap.size + 1 ≠ gr := by omega
  have Z5 := hide (Z4.out.other ⟨w.heap.size + 1, 1, none⟩ (.slice (some ⟨gr, 0, none⟩) r.length cr) (by simp))
  have B5 := hide (B4.out.setCell (p := ⟨w.heap.size + 1, 1, none⟩) (by simp) (.slice (some ⟨gr, 0, none⟩) r.length cr))
  have O5 := hide (ten_own (ten_own OWN.out hgw (.int .i64 ((place : Int) + 1)) 0) hgw (.slice (some ⟨gr, 0, none⟩) r.length cr) 1)
  have Y5 := hide (HY.out.below B5.out (Nat.le_refl _))
  have hz3 : W.heap.size ≤ w2.heap.size := B3.out.size
  have hq := l1Look_any op (f place).s k (place + 1) (steps + 1) looks (some ⟨gr, 0, none⟩) cr r x (decT place) b2 o2 n cap2 W.heap.size y _ Y5.out O5.out (by simpa using hz3) hop2 hlk hs
  rw [show ((place + 1 : Nat) : Int) = (place : Int) + 1 by omega, show ((steps + 1 : Nat) : Int) = (steps : Int) + 1 by omega] at hq
  refine hq.mono ?_
  rintro e w5 ⟨v, rfl, hso, hB5⟩
  have SO5 := hide hso
  obtain ⟨l0, l1, l2, l3, l4, l5, l6, l7, l8, l9, l10, l11, rfl⟩ := hso.form
  have ZE := hide (Z5.out.below hB5 (by have := Z2.out.1; omega))
  have B6 := hide (B5.out.trans (hB5.mono hBW))
  have hz2 : w.heap.size + 1 + 1 < W.heap.size := Z2.out.1
  clear hB5 hq hso
  clear chl c0 f0 c1 f1 c2 f2 c3 f3 c4 f4 c5 f5 c6 f6 c7 f7 c8 f8 c9 f9
  clear ehl e0 u0 e1 u1 e2 u2 e3 u3 e4 u4 e5 u5 e6 u6 e7 u7 e8 u8 e9 u9
  obtain ⟨zhl, ⟨z0, y0⟩, ⟨z1, y1⟩, ⟨z2, y2⟩, ⟨z3, y3⟩, ⟨z4, y4⟩, ⟨z5, y5⟩, ⟨z6, y6⟩, ⟨z7, y7⟩, ⟨z8, y8⟩, z9, y9⟩ := ZE.out
  go_wp2
  refine bodyPost_ret (v := runV l0 (.slice l1 l2 l3) l4 l5 l6 l7 l8 l9 l10 l11) (by simp [results, Tryz.results75, go_sem, z0, z1, z2, z3, z4, z5, z6, z7, z8, z9]) rfl ⟨_, rfl, (ten_so SO5.out hz2 _ _ _ _ _ _ _ _ _ _).mono hBW, ten_set B6.out (by omega) _ _ _ _ _ _ _ _ _ _⟩


end Go.Proofs.YtfhdecheaeoopaaGreatDoor.Vp

/-
  spec: l1Step: what a plain one leaves. Written by tools/spec2.py.
-/
namespace Go.Proofs.YtfhdecheaeoopaaGreatDoor.Vp
open Go.RowKit

theorem plainL_len (op n : Nat) (t a b : ByteArray) (h1 : 1 ≤ op) (h11 : op ≤ 11) : (plainL op n t a b).length = putsOf op := by
  rcases (show op = 1 ∨ op = 2 ∨ op = 3 ∨ op = 4 ∨ op = 5 ∨ op = 6 ∨ op = 7 ∨ op = 8 ∨ op = 9 ∨ op = 10 ∨ op = 11 by omega) with rfl | rfl | rfl | rfl | rfl | rfl | rfl | rfl | rfl | rfl | rfl
  all_goals rfl
theorem puts_le {op j : Nat} (h1 : 1 ≤ op) (h11 : op ≤ 11) (h : j < putsOf op) : op ≤ 8 := by
  rcases (show op = 1 ∨ op = 2 ∨ op = 3 ∨ op = 4 ∨ op = 5 ∨ op = 6 ∨ op = 7 ∨ op = 8 ∨ op = 9 ∨ op = 10 ∨ op = 11 by omega) with rfl | rfl | rfl | rfl | rfl | rfl | rfl | rfl | rfl | rfl | rfl
  all_goals simp [putsOf] at h ⊢
theorem puts_two (op : Nat) : putsOf op ≤ 2 := by
  unfold putsOf
  split
  · omega
  · split <;> omega
def plainSO (PL : List ByteArray) (pl : ByteArray) (r : List ByteArray) (p st l : Nat) : SO := if PL.all (fun x => decide (x.size ≤ 2000)) then .inl (p, st, l, (PL.reverse ++ r)) else .inr (.inl (2, pl, st))
theorem take_next {PL : List ByteArray} {j : Nat} (h : j < PL.length) : (PL.take (j + 1)).map Value.string = (PL.take j).map Value.string ++ [.string (PL.getD j ⟨#[]⟩)] := by
  rw [List.take_add_one, List.map_append, List.getElem?_eq_getElem h]
  simp [h]
theorem strs_rev (PL r : List ByteArray) : strs (PL.reverse ++ r) = strs r ++ PL.map Value.string := by simp [strs]
theorem fits_no {PL : List ByteArray} {j : Nat} (h : j < PL.length) (hs : ¬ ((PL.getD j ⟨#[]⟩).size : Int) ≤ 2000) : PL.all (fun x => decide (x.size ≤ 2000)) = false := by
  simp only [List.all_eq_false]
  exact ⟨PL[j], List.getElem_mem h, by simp [h] at hs ⊢; omega⟩
theorem fits_yes {PL : List ByteArray} (h : ∀ i, i < PL.length → (PL.getD i ⟨#[]⟩).size ≤ 2000) : PL.all (fun x => decide (x.size ≤ 2000)) = true := by
  simp only [List.all_eq_true, decide_eq_true_eq]
  intro x hx
  obtain ⟨i, hi, rfl⟩ := List.mem_iff_getElem.1 hx
  have := h i hi
  simpa [hi] using this

end Go.Proofs.YtfhdecheaeoopaaGreatDoor.Vp

/-
  spec: l1Step: a plain one. Written by tools/spec2.py.
-/
namespace Go.Proofs.YtfhdecheaeoopaaGreatDoor.Vp
open Go.RowKit


set_option maxRecDepth 1000000 in
set_option maxHeartbeats 4000000 in
theorem step_plain1 (pb po cnt cap1 place steps looks : Nat) (f : Nat → Ins) (g : Nat) (x : ByteArray) (r : List ByteArray) (cap b2 o2 n cap2 base : Nat) (y : Nat → Reply) (w : World)
    (hP : RowIns w pb po cnt f) (hY : RowReply w b2 o2 n y) (hO : w.ownsRow base 9 1 (.slice (some ⟨g, 0, none⟩) (r.length + 1) cap) (r.length + 1) (strs (x :: r))) (hp : place ≤ 2000) (hst : steps ≤ 2000) (h1 : (place : Int) < cnt) (h2 : ((steps : Int) == 2000) = false) (op k : Nat) (hop : (f place).op = op) (hk : (f place).n = k) (ho1 : 1 ≤ op) (ho2 : op ≤ 15) (hs : r.length ≤ 50) (htk : takesOf op = 1) (hA2 : ((r.length : Int) + (putsOf op : Nat)) ≤ 50) (h11 : op ≤ 11) (hk2 : k ≤ 2000) (hx : x.size ≤ 2000) (n15 : ((op : Int) == 15) = false) (n14 : ((op : Int) == 14) = false) (n12 : ((op : Int) == 12) = false) (n13 : ((op : Int) == 13) = false) (n10 : ((op : Int) == 10) = false) (n11 : ((op : Int) == 11) = false) (PL : List ByteArray) (hPL : PL = plainL op k (f place).s x ⟨#[]⟩ ∧ PL.length = putsOf op) :
    Calls Tryz.prog 75 #[.agg #[.slice (some ⟨pb, po, none⟩) cnt cap1], runV place (.slice (some ⟨g, 0, none⟩) (r.length + 1) cap) steps looks false 0 ⟨#[]⟩ false ⟨#[]⟩ false, .slice (some ⟨b2, o2, none⟩) n cap2] w fun e w' => ∃ v, e = .returned v ∧ SoIs w' w.heap.size v (plainSO PL (decT place) r (place + 1) (steps + 1) looks) ∧ Below w.heap.size w w' := by
  have HP := hide hP
  have HY := hide hY
  have HO := hide hO
  clear hP hY hO
  have A0 := hide ((((Below.refl w.heap.size w).alloc (Nat.le_refl _) (.cells #[.slice (some ⟨pb, po, none⟩) cnt cap1] 51)).alloc (by simp) (.cells #[.int .i64 place, .slice (some ⟨g, 0, none⟩) (r.length + 1) cap, .int .i64 steps, .int .i64 looks, .bool false, .int .i64 0, .string ⟨#[]⟩, .bool false, .string ⟨#[]⟩, .bool false] 136)).alloc (by first | (simp; done) | (simp; omega)) (.cells #[.int .i64 0, .slice none 0 0, .int .i64 0, .int .i64 0, .bool false, .int .i64 0, .string ⟨#[]⟩, .bool false, .string ⟨#[]⟩, .bool false] 136))
  have R0 := hide ((ten_new (w.alloc (.cells #[.slice (some ⟨pb, po, none⟩) cnt cap1] 51)) (.int .i64 place) (.slice (some ⟨g, 0, none⟩) (r.length + 1) cap) (.int .i64 steps) (.int .i64 looks) (.bool false) (.int .i64 0) (.string ⟨#[]⟩) (.bool false) (.string ⟨#[]⟩) (.bool false) 136 (w.heap.size + 1) (by simp)).al (.cells #[.int .i64 0, .slice none 0 0, .int .i64 0, .int .i64 0, .bool false, .int .i64 0, .string ⟨#[]⟩, .bool false, .string ⟨#[]⟩, .bool false] 136))
  have Z0 := hide (ten_new ((w.alloc (.cells #[.slice (some ⟨pb, po, none⟩) cnt cap1] 51)).alloc (.cells #[.int .i64 place, .slice (some ⟨g, 0, none⟩) (r.length + 1) cap, .int .i64 steps, .int .i64 looks, .bool false, .int .i64 0, .string ⟨#[]⟩, .bool false, .string ⟨#[]⟩, .bool false] 136)) (.int .i64 0) (.slice none 0 0) (.int .i64 0) (.int .i64 0) (.bool false) (.int .i64 0) (.string ⟨#[]⟩) (.bool false) (.string ⟨#[]⟩) (.bool false) 136 (w.heap.size + 1 + 1) (by simp))
  go_enter Tryz.func75, Tryz.ntmps75
  go_wp2_with fail
  refine (l1Dec_any place (by omega) _).mono ?_
  rintro e w1 ⟨rfl, hB1⟩
  have hD : (⟨(Lib.decDigits place).toArray⟩ : ByteArray) = decT place := rfl
  rw [hD]
  have R1 := hide (R0.out.below hB1 (by first | (simp; done) | (simp; omega)))
  have Z1 := hide (Z0.out.below hB1 (by first | (simp; done) | (simp; omega)))
  have B1 := hide (A0.out.trans (hB1.mono (by first | (simp; done) | (simp; omega))))
  have pP : w1.cell? ⟨w.heap.size, 0, none⟩ = some (.slice (some ⟨pb, po, none⟩) cnt cap1) := (hB1.cell (p := ⟨w.heap.size, 0, none⟩) (by first | (simp; done) | (simp; omega))).trans (box3 _ _ _ _ _ _ _ rfl)
  have O1 := hide (own_below HO.out B1.out (Nat.le_refl _))
  have hz1 : w.heap.size + 1 + 1 < w1.heap.size := Z1.out.1
  have hz0 : w.heap.size < w1.heap.size := by omega
  have hz01 : w.heap.size + 1 < w1.heap.size := by omega
  clear hB1 A0 R0 Z0 hD
  have HPL := hide hPL
  clear hPL
  obtain ⟨d0, d1, d2⟩ := (HP.out.below B1.out (Nat.le_refl _)).2 place (by omega)
  rw [hop] at d0
  rw [hk] at d2
  have hpb : pb < w.heap.size := HP.out.1
  have d0' := (cell_far w1 ⟨w.heap.size + 1, 2, none⟩ ⟨pb, po + place * 3, none⟩ (.int .i64 ((steps : Int) + 1)) (by simp; omega)).trans d0
  have d1' := (cell_far w1 ⟨w.heap.size + 1, 2, none⟩ ⟨pb, po + place * 3 + 1, none⟩ (.int .i64 ((steps : Int) + 1)) (by simp; omega)).trans d1
  have d2' := (cell_far w1 ⟨w.heap.size + 1, 2, none⟩ ⟨pb, po + place * 3 + 2, none⟩ (.int .i64 ((steps : Int) + 1)) (by simp; omega)).trans d2
  have hne : ∀ j, w.heap.size ≤ j → Value.ownBlock (.slice (some ⟨g, 0, none⟩) (r.length + 1) cap) ≠ some j := fun j hj e => by have := (HO.out.lt j e).2; omega
  have R2 := hide ((R1.out.set2 (.int .i64 ((steps : Int) + 1))).al (.cells #[.int .i64 op, .string (f place).s, .int .i64 k] 120))
  have Z2 := hide ((Z1.out.other ⟨w.heap.size + 1, 2, none⟩ (.int .i64 ((steps : Int) + 1)) (by simp)).al (.cells #[.int .i64 op, .string (f place).s, .int .i64 k] 120))
  have O2 := hide ((ownsRow_setCell_other O1.out (a := ⟨w.heap.size + 1, 2, none⟩) (hne _ (by simp)) (.int .i64 ((steps : Int) + 1))).alloc (.cells #[.int .i64 op, .string (f place).s, .int .i64 k] 120))
  have B2 := hide ((B1.out.setCell (p := ⟨w.heap.size + 1, 2, none⟩) (by simp) (.int .i64 ((steps : Int) + 1))).alloc (by have := B1.out.size; simpa using this) (.cells #[.int .i64 op, .string (f place).s, .int .i64 k] 120))
  have g0 : ((w1.setCell ⟨w.heap.size + 1, 2, none⟩ (.int .i64 ((steps : Int) + 1))).alloc (.cells #[.int .i64 op, .string (f place).s, .int .i64 k] 120)).cell? ⟨w1.heap.size, 0, none⟩ = some (.int .i64 op) := box1 _ _ _ _ _ _ (by simp) rfl
  have g1 : ((w1.setCell ⟨w.heap.size + 1, 2, none⟩ (.int .i64 ((steps : Int) + 1))).alloc (.cells #[.int .i64 op, .string (f place).s, .int .i64 k] 120)).cell? ⟨w1.heap.size, 1, none⟩ = some (.string (f place).s) := box1 _ _ _ _ _ _ (by simp) rfl
  have g2 : ((w1.setCell ⟨w.heap.size + 1, 2, none⟩ (.int .i64 ((steps : Int) + 1))).alloc (.cells #[.int .i64 op, .string (f place).s, .int .i64 k] 120)).cell? ⟨w1.heap.size, 2, none⟩ = some (.int .i64 k) := box1 _ _ _ _ _ _ (by simp) rfl
  have hWz : w1.heap.size < ((w1.setCell ⟨w.heap.size + 1, 2, none⟩ (.int .i64 ((steps : Int) + 1))).alloc (.cells #[.int .i64 op, .string (f place).s, .int .i64 k] 120)).heap.size := by simp
  clear hne
  obtain ⟨chl, ⟨c0, f0⟩, ⟨c1, f1⟩, ⟨c2, f2⟩, ⟨c3, f3⟩, ⟨c4, f4⟩, ⟨c5, f5⟩, ⟨c6, f6⟩, ⟨c7, f7⟩, ⟨c8, f8⟩, c9, f9⟩ := R1.out
  go_wp2_with fail
  refine (l1Takes_any op _ ho1 ho2).mono ?_
  rintro e w9 ⟨rfl, hw9⟩
  subst hw9
  clear chl c0 f0 c1 f1 c2 f2 c3 f3 c4 f4 c5 f5 c6 f6 c7 f7 c8 f8 c9 f9
  clear d0 d1 d2 d0' d1' d2' hop hk
  generalize ((w1.setCell ⟨w.heap.size + 1, 2, none⟩ (.int .i64 ((steps : Int) + 1))).alloc (.cells #[.int .i64 op, .string (f place).s, .int .i64 k] 120)) = W at R2 Z2 O2 B2 g0 g1 g2 hWz ⊢
  obtain ⟨chl, ⟨c0, f0⟩, ⟨c1, f1⟩, ⟨c2, f2⟩, ⟨c3, f3⟩, ⟨c4, f4⟩, ⟨c5, f5⟩, ⟨c6, f6⟩, ⟨c7, f7⟩, ⟨c8, f8⟩, c9, f9⟩ := R2.out
  have t1 := own_top O2.out
  rw [htk]
  have hcap : (r.length : Int) ≤ cap := by have := own_cap O2.out; omega
  obtain ⟨i0', hi, hy0, hy1, hy2⟩ := info_parts infoString
  go_wp2_with (at_builtin; refine wpList_append_own _ rfl (.tmp 87) (.tmp 95) 108 rfl W.heap.size 9 i0' (.string ⟨#[]⟩) 1 16 Tryz.underlying108 hi hy0 hy1 hy2 rfl (by decide) (.slice (some ⟨W.heap.size, 0, none⟩) 0 0) 0 [] (by simp [Act.eval]) (World.ownsRow_made W #[] 0 (Nat.le_refl _) (by unfold maxLen; omega) rfl) ⟨g, 0, none⟩ r.length cap (strs r) (by simp [Act.eval]) (by simp [strs]) (own_pre (by rw [← strs_cons]; exact O2.out.alloc _)) (strs_one _) (by unfold maxLen; omega) (by omega) (by simp) ?_; intro v' w2 hown hgrow hnil; simp only [Nat.zero_add, List.nil_append] at hown; obtain ⟨gr, cr, rfl, hgr⟩ := own_form0 hown (fun e => by simpa using hnil.1 e); have B3 := hide (Below.grown ((Below.refl W.heap.size W).alloc (Nat.le_refl _) (.cells #[] 9)) hgrow (by simp) (fun j e => by simp [Value.ownBlock] at e; omega)); have R3 := hide (R2.out.below B3.out R2.out.1); have Z3 := hide (Z2.out.below B3.out Z2.out.1); have G0 := (B3.out.cell (p := ⟨w1.heap.size, 0, none⟩) hWz).trans g0; have G1 := (B3.out.cell (p := ⟨w1.heap.size, 1, none⟩) hWz).trans g1; have G2 := (B3.out.cell (p := ⟨w1.heap.size, 2, none⟩) hWz).trans g2; have OWN := hide hown; clear hown hgrow hnil g0 g1 g2; obtain ⟨ehl, ⟨e0, u0⟩, ⟨e1, u1⟩, ⟨e2, u2⟩, ⟨e3, u3⟩, ⟨e4, u4⟩, ⟨e5, u5⟩, ⟨e6, u6⟩, ⟨e7, u7⟩, ⟨e8, u8⟩, e9, u9⟩ := R3.out)
  have hBW : w.heap.size ≤ W.heap.size := B2.out.size
  have hr1 : w.heap.size + 1 < W.heap.size := R2.out.1
  have hz2 : w.heap.size + 1 + 1 < W.heap.size := Z2.out.1
  have hgw : w.heap.size + 1 ≠ gr := by omega
  have hz3 : W.heap.size ≤ w2.heap.size := B3.out.size
  have R4 := hide (R3.out.set0 (.int .i64 ((place : Int) + 1)))
  have Z4 := hide (Z3.out.other ⟨w.heap.size + 1, 0, none⟩ (.int .i64 ((place : Int) + 1)) (by simp))
  have B4 := hide ((B2.out.trans (B3.out.mono B2.out.size)).setCell (p := ⟨w.heap.size + 1, 0, none⟩) (by simp) (.int .i64 ((place : Int) + 1)))
  have O4 := hide (ten_own OWN.out hgw (.int .i64 ((place : Int) + 1)) 0)
  have H0 := ((cell_far _ ⟨w.heap.size + 1, 0, none⟩ ⟨w1.heap.size, 0, none⟩ (.int .i64 ((place : Int) + 1)) (by simp; omega)).trans G0)
  have H1 := ((cell_far _ ⟨w.heap.size + 1, 0, none⟩ ⟨w1.heap.size, 1, none⟩ (.int .i64 ((place : Int) + 1)) (by simp; omega)).trans G1)
  have H2 := ((cell_far _ ⟨w.heap.size + 1, 0, none⟩ ⟨w1.heap.size, 2, none⟩ (.int .i64 ((place : Int) + 1)) (by simp; omega)).trans G2)
  have hbs : W.heap.size ≤ (w2.setCell ⟨w.heap.size + 1, 0, none⟩ (.int .i64 ((place : Int) + 1))).heap.size := by simpa using hz3
  clear chl c0 f0 c1 f1 c2 f2 c3 f3 c4 f4 c5 f5 c6 f6 c7 f7 c8 f8 c9 f9
  clear ehl e0 u0 e1 u1 e2 u2 e3 u3 e4 u4 e5 u5 e6 u6 e7 u7 e8 u8 e9 u9
  clear G0 G1 G2 B3 R3 Z3 OWN R2 Z2 O2 pP
  generalize (w2.setCell ⟨w.heap.size + 1, 0, none⟩ (.int .i64 ((place : Int) + 1))) = W5 at R4 Z4 B4 O4 H0 H1 H2 hbs ⊢
  have G0 := H0
  have G1 := H1
  have G2 := H2
  clear H0 H1 H2
  have hpt := puts_two op
  go_loopw [13, 14] (fun rest i wr => ∃ j : Nat, j ≤ putsOf op ∧ i = .int .i64 j ∧ ∃ g6 cx, rest = .slice (some ⟨g6, 0, none⟩) (r.length + j) cx ∧ Hid (wr.ownsRow W.heap.size 9 1 (.slice (some ⟨g6, 0, none⟩) (r.length + j) cx) (r.length + j) (strs r ++ (PL.take j).map Value.string)) ∧ Hid (Below W.heap.size W5 wr) ∧ Hid (∀ i, i < j → (PL.getD i ⟨#[]⟩).size ≤ 2000)) (fun _ i _ => putsOf op - (intOf i).toNat)
  case atStart => exact ⟨0, by omega, rfl, gr, cr, rfl, (by show World.ownsRow _ _ _ _ _ _ _; rw [List.take_zero, List.map_nil, List.append_nil]; exact O4.out), Below.refl _ _, fun i hi => absurd hi (Nat.not_lt_zero _)⟩
  case round =>
    obtain ⟨j, hj, rfl, g6, cx, rfl, O6, B6, S6⟩ := hrel
    have R6 := hide (R4.out.below B6.out hr1)
    have Z6 := hide (Z4.out.below B6.out hz2)
    have i0 := (B6.out.cell (p := ⟨w1.heap.size, 0, none⟩) hWz).trans G0
    have i1 := (B6.out.cell (p := ⟨w1.heap.size, 1, none⟩) hWz).trans G1
    have i2 := (B6.out.cell (p := ⟨w1.heap.size, 2, none⟩) hWz).trans G2
    have hw6 : W.heap.size ≤ wr.heap.size := Nat.le_trans hbs B6.out.size
    have B7 := hide (B4.out.trans (B6.out.mono hBW))
    by_cases hlt : j < putsOf op
    · have h8 : op ≤ 8 := puts_le ho1 h11 hlt
      have hjl : j < PL.length := by rw [HPL.out.2]; exact hlt
      go_wp2_with fail
      refine (l1Plain_any op k (f place).s x ⟨#[]⟩ _ ho1 h8 hx (by decide) hk2).mono ?_
      rintro e w6 ⟨g7, rfl, hrow, hge, hB6⟩
      rw [← HPL.out.1] at hrow ⊢
      rw [HPL.out.2] at hrow ⊢
      have q6 : w6.cell? ⟨g7, j, none⟩ = some (.string (PL.getD j ⟨#[]⟩)) := by have := hrow.2 j hlt; rwa [Nat.zero_add] at this
      obtain ⟨E, hE⟩ : ∃ E, E = PL.getD j ⟨#[]⟩ := ⟨_, rfl⟩
      rw [← hE] at q6
      have HE := hide hE
      clear hE
      have O7 := hide (own_below O6.out hB6 (Nat.le_refl _))
      have B8 := hide (B6.out.trans (hB6.mono hw6))
      have hw7 : W.heap.size ≤ w6.heap.size := Nat.le_trans hw6 hB6.size
      have R7 := hide (R6.out.below hB6 R6.out.1)
      have Z7 := hide (Z6.out.below hB6 Z6.out.1)
      have B9 := hide (B7.out.trans (hB6.mono B7.out.size))
      clear hrow hge hB6 i0 i1 i2 R6 Z6
      by_cases hs6 : (E.size : Int) ≤ 2000
      · obtain ⟨i0', hi, hy0, hy1, hy2⟩ := info_parts infoString
        go_wp2_with (at_builtin; refine wpList_append_own _ rfl (.tmp 158) (.tmp 163) 108 rfl W.heap.size 9 i0' (.string ⟨#[]⟩) 1 16 Tryz.underlying108 hi hy0 hy1 hy2 rfl (by decide) (.slice (some ⟨g6, 0, none⟩) (r.length + j) cx) (r.length + j) (strs r ++ (PL.take j).map Value.string) (by simp [Act.eval]) (O7.out.alloc _) ⟨w6.heap.size, 0, none⟩ 1 1 [.string E] (by simp [Act.eval]) rfl (one_new w6 _ _) (by simp [Value.oneCell']) (by unfold maxLen; omega) (by omega) (by first | (simp; done) | (simp; omega)) ?_; intro v' w7 hown7 hgrow7 hnil7; obtain ⟨g8, c8, rfl, hg8⟩ := own_form0 hown7 (fun e => by simpa using hnil7.1 e); have O8 := hide hown7; have B10 := hide (Below.grown (B8.out.alloc hw7 (.cells #[.string E] 9)) hgrow7 (by first | (simp; done) | (simp; omega)) (fun i e => (O7.out.lt i e).1)); clear hown7 hgrow7 hnil7)
        exact ⟨⟨j + 1, by omega, by go_num, g8, c8, rfl, by show World.ownsRow _ _ _ _ _ _ _; rw [take_next hjl, ← List.append_assoc, ← HE.out]; exact O8.out, B10.out, fun i hi => by
          by_cases e : i = j
          · subst e; rw [← HE.out]; omega
          · exact S6.out i (by omega)⟩, by simp [intOf]; omega⟩
      · have eR : plainSO PL (decT place) r (place + 1) (steps + 1) looks = .inr (.inl (2, (decT place), (steps + 1))) := by unfold plainSO; rw [fits_no hjl (by rw [← HE.out]; exact hs6)]; rfl
        have ER := hide eR
        clear eR
        obtain ⟨chl, ⟨c0, f0⟩, ⟨c1, f1⟩, ⟨c2, f2⟩, ⟨c3, f3⟩, ⟨c4, f4⟩, ⟨c5, f5⟩, ⟨c6, f6⟩, ⟨c7, f7⟩, ⟨c8, f8⟩, c9, f9⟩ := R7.out
        go_wp2_with fail
        refine (l1End_any _ _ _ _ _ _ _ _ _ _ _ _ _ _ _).mono ?_
        rintro e w9 ⟨rfl, hB9⟩
        have ZE := hide (Z7.out.below hB9 Z7.out.1)
        have BE := hide (B9.out.trans (hB9.mono B9.out.size))
        clear hB9
        clear chl c0 f0 c1 f1 c2 f2 c3 f3 c4 f4 c5 f5 c6 f6 c7 f7 c8 f8 c9 f9
        obtain ⟨zhl, ⟨z0, y0⟩, ⟨z1, y1⟩, ⟨z2, y2⟩, ⟨z3, y3⟩, ⟨z4, y4⟩, ⟨z5, y5⟩, ⟨z6, y6⟩, ⟨z7, y7⟩, ⟨z8, y8⟩, z9, y9⟩ := ZE.out
        go_wp2
        refine bodyPost_ret (v := runV ((place : Int) + 1) (.slice (some ⟨g, 0, none⟩) (r.length + 1) cap) ((steps : Int) + 1) looks true 2 (decT place) false ⟨#[]⟩ false) (by simp [results, Tryz.results75, go_sem, z0, z1, z2, z3, z4, z5, z6, z7, z8, z9]) rfl ⟨_, rfl, ?_, ten_set BE.out (by omega) _ _ _ _ _ _ _ _ _ _⟩
        rw [ER.out]
        exact ⟨_, _, _, _, _, rfl⟩
    · have e : j = putsOf op := by omega
      subst e
      have eR : plainSO PL (decT place) r (place + 1) (steps + 1) looks = .inl ((place + 1), (steps + 1), looks, (PL.reverse ++ r)) := by unfold plainSO; rw [fits_yes (fun i hi => S6.out i (by rw [HPL.out.2] at hi; exact hi))]; rfl
      have ER := hide eR
      have hl : (PL.reverse ++ r).length = r.length + putsOf op := by rw [List.length_append, List.length_reverse, HPL.out.2]; omega
      have HLn := hide hl
      clear eR hl
      obtain ⟨chl, ⟨c0, f0⟩, ⟨c1, f1⟩, ⟨c2, f2⟩, ⟨c3, f3⟩, ⟨c4, f4⟩, ⟨c5, f5⟩, ⟨c6, f6⟩, ⟨c7, f7⟩, ⟨c8, f8⟩, c9, f9⟩ := R6.out
      obtain ⟨zhl, ⟨z0, y0⟩, ⟨z1, y1⟩, ⟨z2, y2⟩, ⟨z3, y3⟩, ⟨z4, y4⟩, ⟨z5, y5⟩, ⟨z6, y6⟩, ⟨z7, y7⟩, ⟨z8, y8⟩, z9, y9⟩ := Z6.out
      have OE := hide (ownsRow_setCell_below O6.out (a := ⟨w.heap.size + 1, 1, none⟩) hr1 (.slice (some ⟨g6, 0, none⟩) (r.length + putsOf op) cx))
      have BE := hide (B7.out.setCell (p := ⟨w.heap.size + 1, 1, none⟩) (by simp) (.slice (some ⟨g6, 0, none⟩) (r.length + putsOf op) cx))
      go_wp2
      refine bodyPost_ret (v := runV ((place : Int) + 1) (.slice (some ⟨g6, 0, none⟩) (r.length + putsOf op) cx) ((steps : Int) + 1) looks false 0 ⟨#[]⟩ false ⟨#[]⟩ false) (by simp [results, Tryz.results75, go_sem, z0, z1, z2, z3, z4, z5, z6, z7, z8, z9]) rfl ⟨_, rfl, ?_, ten_set BE.out (by omega) _ _ _ _ _ _ _ _ _ _⟩
      rw [ER.out]
      refine (ten_so (v := runV ((place : Int) + 1) (.slice (some ⟨g6, 0, none⟩) (r.length + putsOf op) cx) ((steps : Int) + 1) looks false 0 ⟨#[]⟩ false ⟨#[]⟩ false) (base := W.heap.size) ?_ hz2 _ _ _ _ _ _ _ _ _ _).mono hBW
      refine ⟨some ⟨g6, 0, none⟩, cx, by rw [HLn.out]; simp, ?_⟩
      rw [HLn.out, strs_rev]
      have h := OE.out
      rw [show PL.take (putsOf op) = PL by rw [← HPL.out.2]; exact List.take_length] at h
      exact h


end Go.Proofs.YtfhdecheaeoopaaGreatDoor.Vp

/-
  spec: l1Step: a plain one. Written by tools/spec2.py.
-/
namespace Go.Proofs.YtfhdecheaeoopaaGreatDoor.Vp
open Go.RowKit


set_option maxRecDepth 1000000 in
set_option maxHeartbeats 4000000 in
theorem step_plain0 (pb po cnt cap1 place steps looks : Nat) (f : Nat → Ins) (g : Nat) (r : List ByteArray) (cap b2 o2 n cap2 base : Nat) (y : Nat → Reply) (w : World)
    (hP : RowIns w pb po cnt f) (hY : RowReply w b2 o2 n y) (hO : w.ownsRow base 9 1 (.slice (some ⟨g, 0, none⟩) (r).length cap) (r).length (strs (r))) (hp : place ≤ 2000) (hst : steps ≤ 2000) (h1 : (place : Int) < cnt) (h2 : ((steps : Int) == 2000) = false) (op k : Nat) (hop : (f place).op = op) (hk : (f place).n = k) (ho1 : 1 ≤ op) (ho2 : op ≤ 15) (hs : r.length ≤ 50) (htk : takesOf op = 0) (hA2 : ((r.length : Int) + (putsOf op : Nat)) ≤ 50) (h11 : op ≤ 11) (hk2 : k ≤ 2000) (n15 : ((op : Int) == 15) = false) (n14 : ((op : Int) == 14) = false) (n12 : ((op : Int) == 12) = false) (n13 : ((op : Int) == 13) = false) (n10 : ((op : Int) == 10) = false) (n11 : ((op : Int) == 11) = false) (PL : List ByteArray) (hPL : PL = plainL op k (f place).s ⟨#[]⟩ ⟨#[]⟩ ∧ PL.length = putsOf op) :
    Calls Tryz.prog 75 #[.agg #[.slice (some ⟨pb, po, none⟩) cnt cap1], runV place (.slice (some ⟨g, 0, none⟩) (r).length cap) steps looks false 0 ⟨#[]⟩ false ⟨#[]⟩ false, .slice (some ⟨b2, o2, none⟩) n cap2] w fun e w' => ∃ v, e = .returned v ∧ SoIs w' w.heap.size v (plainSO PL (decT place) r (place + 1) (steps + 1) looks) ∧ Below w.heap.size w w' := by
  have HP := hide hP
  have HY := hide hY
  have HO := hide hO
  clear hP hY hO
  have A0 := hide ((((Below.refl w.heap.size w).alloc (Nat.le_refl _) (.cells #[.slice (some ⟨pb, po, none⟩) cnt cap1] 51)).alloc (by simp) (.cells #[.int .i64 place, .slice (some ⟨g, 0, none⟩) (r).length cap, .int .i64 steps, .int .i64 looks, .bool false, .int .i64 0, .string ⟨#[]⟩, .bool false, .string ⟨#[]⟩, .bool false] 136)).alloc (by first | (simp; done) | (simp; omega)) (.cells #[.int .i64 0, .slice none 0 0, .int .i64 0, .int .i64 0, .bool false, .int .i64 0, .string ⟨#[]⟩, .bool false, .string ⟨#[]⟩, .bool false] 136))
  have R0 := hide ((ten_new (w.alloc (.cells #[.slice (some ⟨pb, po, none⟩) cnt cap1] 51)) (.int .i64 place) (.slice (some ⟨g, 0, none⟩) (r).length cap) (.int .i64 steps) (.int .i64 looks) (.bool false) (.int .i64 0) (.string ⟨#[]⟩) (.bool false) (.string ⟨#[]⟩) (.bool false) 136 (w.heap.size + 1) (by simp)).al (.cells #[.int .i64 0, .slice none 0 0, .int .i64 0, .int .i64 0, .bool false, .int .i64 0, .string ⟨#[]⟩, .bool false, .string ⟨#[]⟩, .bool false] 136))
  have Z0 := hide (ten_new ((w.alloc (.cells #[.slice (some ⟨pb, po, none⟩) cnt cap1] 51)).alloc (.cells #[.int .i64 place, .slice (some ⟨g, 0, none⟩) (r).length cap, .int .i64 steps, .int .i64 looks, .bool false, .int .i64 0, .string ⟨#[]⟩, .bool false, .string ⟨#[]⟩, .bool false] 136)) (.int .i64 0) (.slice none 0 0) (.int .i64 0) (.int .i64 0) (.bool false) (.int .i64 0) (.string ⟨#[]⟩) (.bool false) (.string ⟨#[]⟩) (.bool false) 136 (w.heap.size + 1 + 1) (by simp))
  go_enter Tryz.func75, Tryz.ntmps75
  go_wp2_with fail
  refine (l1Dec_any place (by omega) _).mono ?_
  rintro e w1 ⟨rfl, hB1⟩
  have hD : (⟨(Lib.decDigits place).toArray⟩ : ByteArray) = decT place := rfl
  rw [hD]
  have R1 := hide (R0.out.below hB1 (by first | (simp; done) | (simp; omega)))
  have Z1 := hide (Z0.out.below hB1 (by first | (simp; done) | (simp; omega)))
  have B1 := hide (A0.out.trans (hB1.mono (by first | (simp; done) | (simp; omega))))
  have pP : w1.cell? ⟨w.heap.size, 0, none⟩ = some (.slice (some ⟨pb, po, none⟩) cnt cap1) := (hB1.cell (p := ⟨w.heap.size, 0, none⟩) (by first | (simp; done) | (simp; omega))).trans (box3 _ _ _ _ _ _ _ rfl)
  have O1 := hide (own_below HO.out B1.out (Nat.le_refl _))
  have hz1 : w.heap.size + 1 + 1 < w1.heap.size := Z1.out.1
  have hz0 : w.heap.size < w1.heap.size := by omega
  have hz01 : w.heap.size + 1 < w1.heap.size := by omega
  clear hB1 A0 R0 Z0 hD
  have HPL := hide hPL
  clear hPL
  obtain ⟨d0, d1, d2⟩ := (HP.out.below B1.out (Nat.le_refl _)).2 place (by omega)
  rw [hop] at d0
  rw [hk] at d2
  have hpb : pb < w.heap.size := HP.out.1
  have d0' := (cell_far w1 ⟨w.heap.size + 1, 2, none⟩ ⟨pb, po + place * 3, none⟩ (.int .i64 ((steps : Int) + 1)) (by simp; omega)).trans d0
  have d1' := (cell_far w1 ⟨w.heap.size + 1, 2, none⟩ ⟨pb, po + place * 3 + 1, none⟩ (.int .i64 ((steps : Int) + 1)) (by simp; omega)).trans d1
  have d2' := (cell_far w1 ⟨w.heap.size + 1, 2, none⟩ ⟨pb, po + place * 3 + 2, none⟩ (.int .i64 ((steps : Int) + 1)) (by simp; omega)).trans d2
  have hne : ∀ j, w.heap.size ≤ j → Value.ownBlock (.slice (some ⟨g, 0, none⟩) (r).length cap) ≠ some j := fun j hj e => by have := (HO.out.lt j e).2; omega
  have R2 := hide ((R1.out.set2 (.int .i64 ((steps : Int) + 1))).al (.cells #[.int .i64 op, .string (f place).s, .int .i64 k] 120))
  have Z2 := hide ((Z1.out.other ⟨w.heap.size + 1, 2, none⟩ (.int .i64 ((steps : Int) + 1)) (by simp)).al (.cells #[.int .i64 op, .string (f place).s, .int .i64 k] 120))
  have O2 := hide ((ownsRow_setCell_other O1.out (a := ⟨w.heap.size + 1, 2, none⟩) (hne _ (by simp)) (.int .i64 ((steps : Int) + 1))).alloc (.cells #[.int .i64 op, .string (f place).s, .int .i64 k] 120))
  have B2 := hide ((B1.out.setCell (p := ⟨w.heap.size + 1, 2, none⟩) (by simp) (.int .i64 ((steps : Int) + 1))).alloc (by have := B1.out.size; simpa using this) (.cells #[.int .i64 op, .string (f place).s, .int .i64 k] 120))
  have g0 : ((w1.setCell ⟨w.heap.size + 1, 2, none⟩ (.int .i64 ((steps : Int) + 1))).alloc (.cells #[.int .i64 op, .string (f place).s, .int .i64 k] 120)).cell? ⟨w1.heap.size, 0, none⟩ = some (.int .i64 op) := box1 _ _ _ _ _ _ (by simp) rfl
  have g1 : ((w1.setCell ⟨w.heap.size + 1, 2, none⟩ (.int .i64 ((steps : Int) + 1))).alloc (.cells #[.int .i64 op, .string (f place).s, .int .i64 k] 120)).cell? ⟨w1.heap.size, 1, none⟩ = some (.string (f place).s) := box1 _ _ _ _ _ _ (by simp) rfl
  have g2 : ((w1.setCell ⟨w.heap.size + 1, 2, none⟩ (.int .i64 ((steps : Int) + 1))).alloc (.cells #[.int .i64 op, .string (f place).s, .int .i64 k] 120)).cell? ⟨w1.heap.size, 2, none⟩ = some (.int .i64 k) := box1 _ _ _ _ _ _ (by simp) rfl
  have hWz : w1.heap.size < ((w1.setCell ⟨w.heap.size + 1, 2, none⟩ (.int .i64 ((steps : Int) + 1))).alloc (.cells #[.int .i64 op, .string (f place).s, .int .i64 k] 120)).heap.size := by simp
  clear hne
  obtain ⟨chl, ⟨c0, f0⟩, ⟨c1, f1⟩, ⟨c2, f2⟩, ⟨c3, f3⟩, ⟨c4, f4⟩, ⟨c5, f5⟩, ⟨c6, f6⟩, ⟨c7, f7⟩, ⟨c8, f8⟩, c9, f9⟩ := R1.out
  go_wp2_with fail
  refine (l1Takes_any op _ ho1 ho2).mono ?_
  rintro e w9 ⟨rfl, hw9⟩
  subst hw9
  clear chl c0 f0 c1 f1 c2 f2 c3 f3 c4 f4 c5 f5 c6 f6 c7 f7 c8 f8 c9 f9
  clear d0 d1 d2 d0' d1' d2' hop hk
  generalize ((w1.setCell ⟨w.heap.size + 1, 2, none⟩ (.int .i64 ((steps : Int) + 1))).alloc (.cells #[.int .i64 op, .string (f place).s, .int .i64 k] 120)) = W at R2 Z2 O2 B2 g0 g1 g2 hWz ⊢
  obtain ⟨chl, ⟨c0, f0⟩, ⟨c1, f1⟩, ⟨c2, f2⟩, ⟨c3, f3⟩, ⟨c4, f4⟩, ⟨c5, f5⟩, ⟨c6, f6⟩, ⟨c7, f7⟩, ⟨c8, f8⟩, c9, f9⟩ := R2.out
  rw [htk]
  have hcap : (r.length : Int) ≤ cap := by have := own_cap O2.out; omega
  obtain ⟨i0', hi, hy0, hy1, hy2⟩ := info_parts infoString
  go_wp2_with (at_builtin; refine wpList_append_own _ rfl (.tmp 87) (.tmp 95) 108 rfl W.heap.size 9 i0' (.string ⟨#[]⟩) 1 16 Tryz.underlying108 hi hy0 hy1 hy2 rfl (by decide) (.slice (some ⟨W.heap.size, 0, none⟩) 0 0) 0 [] (by simp [Act.eval]) (World.ownsRow_made W #[] 0 (Nat.le_refl _) (by unfold maxLen; omega) rfl) ⟨g, 0, none⟩ r.length cap (strs r) (by simp [Act.eval]) (by simp [strs]) (own_pre (xs := []) (by simpa using O2.out.alloc _)) (strs_one _) (by unfold maxLen; omega) (by omega) (by simp) ?_; intro v' w2 hown hgrow hnil; simp only [Nat.zero_add, List.nil_append] at hown; obtain ⟨gr, cr, rfl, hgr⟩ := own_form0 hown (fun e => by simpa using hnil.1 e); have B3 := hide (Below.grown ((Below.refl W.heap.size W).alloc (Nat.le_refl _) (.cells #[] 9)) hgrow (by simp) (fun j e => by simp [Value.ownBlock] at e; omega)); have R3 := hide (R2.out.below B3.out R2.out.1); have Z3 := hide (Z2.out.below B3.out Z2.out.1); have G0 := (B3.out.cell (p := ⟨w1.heap.size, 0, none⟩) hWz).trans g0; have G1 := (B3.out.cell (p := ⟨w1.heap.size, 1, none⟩) hWz).trans g1; have G2 := (B3.out.cell (p := ⟨w1.heap.size, 2, none⟩) hWz).trans g2; have OWN := hide hown; clear hown hgrow hnil g0 g1 g2; obtain ⟨ehl, ⟨e0, u0⟩, ⟨e1, u1⟩, ⟨e2, u2⟩, ⟨e3, u3⟩, ⟨e4, u4⟩, ⟨e5, u5⟩, ⟨e6, u6⟩, ⟨e7, u7⟩, ⟨e8, u8⟩, e9, u9⟩ := R3.out)
  have hBW : w.heap.size ≤ W.heap.size := B2.out.size
  have hr1 : w.heap.size + 1 < W.heap.size := R2.out.1
  have hz2 : w.heap.size + 1 + 1 < W.heap.size := Z2.out.1
  have hgw : w.heap.size + 1 ≠ gr := by omega
  have hz3 : W.heap.size ≤ w2.heap.size := B3.out.size
  have R4 := hide (R3.out.set0 (.int .i64 ((place : Int) + 1)))
  have Z4 := hide (Z3.out.other ⟨w.heap.size + 1, 0, none⟩ (.int .i64 ((place : Int) + 1)) (by simp))
  have B4 := hide ((B2.out.trans (B3.out.mono B2.out.size)).setCell (p := ⟨w.heap.size + 1, 0, none⟩) (by simp) (.int .i64 ((place : Int) + 1)))
  have O4 := hide (ten_own OWN.out hgw (.int .i64 ((place : Int) + 1)) 0)
  have H0 := ((cell_far _ ⟨w.heap.size + 1, 0, none⟩ ⟨w1.heap.size, 0, none⟩ (.int .i64 ((place : Int) + 1)) (by simp; omega)).trans G0)
  have H1 := ((cell_far _ ⟨w.heap.size + 1, 0, none⟩ ⟨w1.heap.size, 1, none⟩ (.int .i64 ((place : Int) + 1)) (by simp; omega)).trans G1)
  have H2 := ((cell_far _ ⟨w.heap.size + 1, 0, none⟩ ⟨w1.heap.size, 2, none⟩ (.int .i64 ((place : Int) + 1)) (by simp; omega)).trans G2)
  have hbs : W.heap.size ≤ (w2.setCell ⟨w.heap.size + 1, 0, none⟩ (.int .i64 ((place : Int) + 1))).heap.size := by simpa using hz3
  clear chl c0 f0 c1 f1 c2 f2 c3 f3 c4 f4 c5 f5 c6 f6 c7 f7 c8 f8 c9 f9
  clear ehl e0 u0 e1 u1 e2 u2 e3 u3 e4 u4 e5 u5 e6 u6 e7 u7 e8 u8 e9 u9
  clear G0 G1 G2 B3 R3 Z3 OWN R2 Z2 O2 pP
  generalize (w2.setCell ⟨w.heap.size + 1, 0, none⟩ (.int .i64 ((place : Int) + 1))) = W5 at R4 Z4 B4 O4 H0 H1 H2 hbs ⊢
  have G0 := H0
  have G1 := H1
  have G2 := H2
  clear H0 H1 H2
  have hpt := puts_two op
  go_loopw [13, 14] (fun rest i wr => ∃ j : Nat, j ≤ putsOf op ∧ i = .int .i64 j ∧ ∃ g6 cx, rest = .slice (some ⟨g6, 0, none⟩) (r.length + j) cx ∧ Hid (wr.ownsRow W.heap.size 9 1 (.slice (some ⟨g6, 0, none⟩) (r.length + j) cx) (r.length + j) (strs r ++ (PL.take j).map Value.string)) ∧ Hid (Below W.heap.size W5 wr) ∧ Hid (∀ i, i < j → (PL.getD i ⟨#[]⟩).size ≤ 2000)) (fun _ i _ => putsOf op - (intOf i).toNat)
  case atStart => exact ⟨0, by omega, rfl, gr, cr, rfl, (by show World.ownsRow _ _ _ _ _ _ _; rw [List.take_zero, List.map_nil, List.append_nil]; exact O4.out), Below.refl _ _, fun i hi => absurd hi (Nat.not_lt_zero _)⟩
  case round =>
    obtain ⟨j, hj, rfl, g6, cx, rfl, O6, B6, S6⟩ := hrel
    have R6 := hide (R4.out.below B6.out hr1)
    have Z6 := hide (Z4.out.below B6.out hz2)
    have i0 := (B6.out.cell (p := ⟨w1.heap.size, 0, none⟩) hWz).trans G0
    have i1 := (B6.out.cell (p := ⟨w1.heap.size, 1, none⟩) hWz).trans G1
    have i2 := (B6.out.cell (p := ⟨w1.heap.size, 2, none⟩) hWz).trans G2
    have hw6 : W.heap.size ≤ wr.heap.size := Nat.le_trans hbs B6.out.size
    have B7 := hide (B4.out.trans (B6.out.mono hBW))
    by_cases hlt : j < putsOf op
    · have h8 : op ≤ 8 := puts_le ho1 h11 hlt
      have hjl : j < PL.length := by rw [HPL.out.2]; exact hlt
      go_wp2_with fail
      refine (l1Plain_any op k (f place).s ⟨#[]⟩ ⟨#[]⟩ _ ho1 h8 (by decide) (by decide) hk2).mono ?_
      rintro e w6 ⟨g7, rfl, hrow, hge, hB6⟩
      rw [← HPL.out.1] at hrow ⊢
      rw [HPL.out.2] at hrow ⊢
      have q6 : w6.cell? ⟨g7, j, none⟩ = some (.string (PL.getD j ⟨#[]⟩)) := by have := hrow.2 j hlt; rwa [Nat.zero_add] at this
      obtain ⟨E, hE⟩ : ∃ E, E = PL.getD j ⟨#[]⟩ := ⟨_, rfl⟩
      rw [← hE] at q6
      have HE := hide hE
      clear hE
      have O7 := hide (own_below O6.out hB6 (Nat.le_refl _))
      have B8 := hide (B6.out.trans (hB6.mono hw6))
      have hw7 : W.heap.size ≤ w6.heap.size := Nat.le_trans hw6 hB6.size
      have R7 := hide (R6.out.below hB6 R6.out.1)
      have Z7 := hide (Z6.out.below hB6 Z6.out.1)
      have B9 := hide (B7.out.trans (hB6.mono B7.out.size))
      clear hrow hge hB6 i0 i1 i2 R6 Z6
      by_cases hs6 : (E.size : Int) ≤ 2000
      · obtain ⟨i0', hi, hy0, hy1, hy2⟩ := info_parts infoString
        go_wp2_with (at_builtin; refine wpList_append_own _ rfl (.tmp 158) (.tmp 163) 108 rfl W.heap.size 9 i0' (.string ⟨#[]⟩) 1 16 Tryz.underlying108 hi hy0 hy1 hy2 rfl (by decide) (.slice (some ⟨g6, 0, none⟩) (r.length + j) cx) (r.length + j) (strs r ++ (PL.take j).map Value.string) (by simp [Act.eval]) (O7.out.alloc _) ⟨w6.heap.size, 0, none⟩ 1 1 [.string E] (by simp [Act.eval]) rfl (one_new w6 _ _) (by simp [Value.oneCell']) (by unfold maxLen; omega) (by omega) (by first | (simp; done) | (simp; omega)) ?_; intro v' w7 hown7 hgrow7 hnil7; obtain ⟨g8, c8, rfl, hg8⟩ := own_form0 hown7 (fun e => by simpa using hnil7.1 e); have O8 := hide hown7; have B10 := hide (Below.grown (B8.out.alloc hw7 (.cells #[.string E] 9)) hgrow7 (by first | (simp; done) | (simp; omega)) (fun i e => (O7.out.lt i e).1)); clear hown7 hgrow7 hnil7)
        exact ⟨⟨j + 1, by omega, by go_num, g8, c8, rfl, by show World.ownsRow _ _ _ _ _ _ _; rw [take_next hjl, ← List.append_assoc, ← HE.out]; exact O8.out, B10.out, fun i hi => by
          by_cases e : i = j
          · subst e; rw [← HE.out]; omega
          · exact S6.out i (by omega)⟩, by simp [intOf]; omega⟩
      · have eR : plainSO PL (decT place) r (place + 1) (steps + 1) looks = .inr (.inl (2, (decT place), (steps + 1))) := by unfold plainSO; rw [fits_no hjl (by rw [← HE.out]; exact hs6)]; rfl
        have ER := hide eR
        clear eR
        obtain ⟨chl, ⟨c0, f0⟩, ⟨c1, f1⟩, ⟨c2, f2⟩, ⟨c3, f3⟩, ⟨c4, f4⟩, ⟨c5, f5⟩, ⟨c6, f6⟩, ⟨c7, f7⟩, ⟨c8, f8⟩, c9, f9⟩ := R7.out
        go_wp2_with fail
        refine (l1End_any _ _ _ _ _ _ _ _ _ _ _ _ _ _ _).mono ?_
        rintro e w9 ⟨rfl, hB9⟩
        have ZE := hide (Z7.out.below hB9 Z7.out.1)
        have BE := hide (B9.out.trans (hB9.mono B9.out.size))
        clear hB9
        clear chl c0 f0 c1 f1 c2 f2 c3 f3 c4 f4 c5 f5 c6 f6 c7 f7 c8 f8 c9 f9
        obtain ⟨zhl, ⟨z0, y0⟩, ⟨z1, y1⟩, ⟨z2, y2⟩, ⟨z3, y3⟩, ⟨z4, y4⟩, ⟨z5, y5⟩, ⟨z6, y6⟩, ⟨z7, y7⟩, ⟨z8, y8⟩, z9, y9⟩ := ZE.out
        go_wp2
        refine bodyPost_ret (v := runV ((place : Int) + 1) (.slice (some ⟨g, 0, none⟩) r.length cap) ((steps : Int) + 1) looks true 2 (decT place) false ⟨#[]⟩ false) (by simp [results, Tryz.results75, go_sem, z0, z1, z2, z3, z4, z5, z6, z7, z8, z9]) rfl ⟨_, rfl, ?_, ten_set BE.out (by omega) _ _ _ _ _ _ _ _ _ _⟩
        rw [ER.out]
        exact ⟨_, _, _, _, _, rfl⟩
    · have e : j = putsOf op := by omega
      subst e
      have eR : plainSO PL (decT place) r (place + 1) (steps + 1) looks = .inl ((place + 1), (steps + 1), looks, (PL.reverse ++ r)) := by unfold plainSO; rw [fits_yes (fun i hi => S6.out i (by rw [HPL.out.2] at hi; exact hi))]; rfl
      have ER := hide eR
      have hl : (PL.reverse ++ r).length = r.length + putsOf op := by rw [List.length_append, List.length_reverse, HPL.out.2]; omega
      have HLn := hide hl
      clear eR hl
      obtain ⟨chl, ⟨c0, f0⟩, ⟨c1, f1⟩, ⟨c2, f2⟩, ⟨c3, f3⟩, ⟨c4, f4⟩, ⟨c5, f5⟩, ⟨c6, f6⟩, ⟨c7, f7⟩, ⟨c8, f8⟩, c9, f9⟩ := R6.out
      obtain ⟨zhl, ⟨z0, y0⟩, ⟨z1, y1⟩, ⟨z2, y2⟩, ⟨z3, y3⟩, ⟨z4, y4⟩, ⟨z5, y5⟩, ⟨z6, y6⟩, ⟨z7, y7⟩, ⟨z8, y8⟩, z9, y9⟩ := Z6.out
      have OE := hide (ownsRow_setCell_below O6.out (a := ⟨w.heap.size + 1, 1, none⟩) hr1 (.slice (some ⟨g6, 0, none⟩) (r.length + putsOf op) cx))
      have BE := hide (B7.out.setCell (p := ⟨w.heap.size + 1, 1, none⟩) (by simp) (.slice (some ⟨g6, 0, none⟩) (r.length + putsOf op) cx))
      go_wp2
      refine bodyPost_ret (v := runV ((place : Int) + 1) (.slice (some ⟨g6, 0, none⟩) (r.length + putsOf op) cx) ((steps : Int) + 1) looks false 0 ⟨#[]⟩ false ⟨#[]⟩ false) (by simp [results, Tryz.results75, go_sem, z0, z1, z2, z3, z4, z5, z6, z7, z8, z9]) rfl ⟨_, rfl, ?_, ten_set BE.out (by omega) _ _ _ _ _ _ _ _ _ _⟩
      rw [ER.out]
      refine (ten_so (v := runV ((place : Int) + 1) (.slice (some ⟨g6, 0, none⟩) (r.length + putsOf op) cx) ((steps : Int) + 1) looks false 0 ⟨#[]⟩ false ⟨#[]⟩ false) (base := W.heap.size) ?_ hz2 _ _ _ _ _ _ _ _ _ _).mono hBW
      refine ⟨some ⟨g6, 0, none⟩, cx, by rw [HLn.out]; simp, ?_⟩
      rw [HLn.out, strs_rev]
      have h := OE.out
      rw [show PL.take (putsOf op) = PL by rw [← HPL.out.2]; exact List.take_length] at h
      exact h


end Go.Proofs.YtfhdecheaeoopaaGreatDoor.Vp
