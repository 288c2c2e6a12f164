/-
  Put together of: WhLaw.
-/
import Derived.Test.YtkgddbcjmejfaaaGreatDoorZH
import Derived.Test.YtkgddbcjmejfaaaGreatDoorZP
import Derived.Test.YtkgddbcjmejfaaaGreatDoorZI
import Derived.Test.YtkgddbcjmejfaaaGreatDoorZZ
import Derived.Test.YtkgddbcjmejfaaaGreatDoorZY

/-
  FnExactWhy: the law.
-/
namespace Go.Proofs.YtkgddbcjmejfaaaGreatDoor.Vp
open Go.RowKit Go.Sort

theorem own2_touch {w w' : World} {g n N : Nat} {f : Nat → Deed} {P : Nat → Prop} (h : OwnDeed2 w g n n N f) (hT : Touch P w w') (hP : ∀ x, g ≤ x → (x = g ∨ x < N) → ¬ P x) : OwnDeed2 w' g n n N f := by
  have hl := h.lt
  obtain ⟨F, G0, G1, hr, ha, hN, hF⟩ := h
  refine ⟨F, G0, G1, hr.of_block (hT.block g hl (hP g (Nat.le_refl _) (.inl rfl))), ha, hN, fun i hi => ?_⟩
  obtain ⟨p0, p1, p2, p3, ⟨s0, ⟨F0, r0, t0⟩, u0⟩, ⟨s1, ⟨F1, r1, t1⟩, u1⟩⟩ := hF i hi
  exact ⟨p0, p1, p2, p3, ⟨s0, ⟨F0, r0.of_block (hT.block _ r0.lt (hP _ (by omega) (.inr (hN i hi).1))), t0⟩, u0⟩, ⟨s1, ⟨F1, r1.of_block (hT.block _ r1.lt (hP _ (by omega) (.inr (hN i hi).2))), t1⟩, u1⟩⟩
theorem markAccount_from (g n N k0 : Nat) (f : Nat → Deed) (w : World) (hn : (n : Int) ≤ 1048576) (h1 : 1 ≤ (k0 : Int)) (h2 : (k0 : Int) ≤ 1125899906842624) (hf : ∀ i, i < n → FitsDeed (f i)) (h : OwnDeed2 w g n n N f) (hN : g < N) :
    Calls Tryz.prog 19 #[.agg #[.slice (some ⟨g, 0, none⟩) n n], .int .i64 k0] w fun e w' => ∃ q : Nat, e = .returned (.int .i64 q) ∧ k0 ≤ q ∧ q ≤ k0 + n * 7340036 ∧ Touch (fun x => g ≤ x ∧ x < N) w w' := by
  obtain ⟨A, L, hP, hC, hB⟩ := h.plan hf
  refine (markAccount_row g n n k0 A L _ _ w hn h1 h2 hP hC).mono ?_
  rintro e w' ⟨rfl, -, hT⟩
  exact ⟨_, rfl, dAt_ge, dAt_le (fun i hi => (hP.fit i hi).1) (fun i hi => (hP.fit i hi).2), hT.mono fun x hx => ⟨(hB x hx).1, by rcases (hB x hx).2 with h | h <;> omega⟩⟩

/-- What stands once the answer is there. -/
structure WhySt (w4 W : World) (b7 b8 base h0 n h1 m : Nat) (f g : Nat → Deed) (p : Option Addr) (ga : Nat) (L : List (List UInt8)) : Prop where
  K : Below w4.heap.size w4 W
  c7 : OneBox W b7 (.slice (some ⟨h0, 0, none⟩) n n)
  c8 : OneBox W b8 (.slice (some ⟨h1, 0, none⟩) m m)
  O7 : OwnDeed2 W h0 n n b7 f
  O8 : OwnDeed2 W h1 m m b8 g
  G : AnsStr W base p ga L
theorem WhySt.below {w4 W W' : World} {b7 b8 base h0 n h1 m : Nat} {f g : Nat → Deed} {p : Option Addr} {ga : Nat} {L : List (List UInt8)} (s : WhySt w4 W b7 b8 base h0 n h1 m f g p ga L) (hb : Below W.heap.size W W') : WhySt w4 W' b7 b8 base h0 n h1 m f g p ga L :=
  ⟨s.K.trans (hb.mono s.K.size), s.c7.below hb (Nat.le_refl _), s.c8.below hb (Nat.le_refl _), s.O7.below hb (Nat.le_refl _), s.O8.below hb (Nat.le_refl _), s.G.below hb (Nat.le_refl _)⟩
/-- .. once the copies may have been written. -/
structure WhyEn (w4 W : World) (base : Nat) (p : Option Addr) (ga : Nat) (L : List (List UInt8)) : Prop where
  K : Below w4.heap.size w4 W
  G : AnsStr W base p ga L
theorem WhyEn.below {w4 W W' : World} {base : Nat} {p : Option Addr} {ga : Nat} {L : List (List UInt8)} (s : WhyEn w4 W base p ga L) (hb : Below W.heap.size W W') : WhyEn w4 W' base p ga L :=
  ⟨s.K.trans (hb.mono s.K.size), s.G.below hb (Nat.le_refl _)⟩

set_option maxRecDepth 100000 in
set_option maxHeartbeats 8000000 in
theorem law_why (a : Option Addr) (n cap : Nat) (f : Nat → Deed) (a' : Option Addr) (m cap' : Nat) (g : Nat → Deed) (w : World) (hn : (n : Int) ≤ 9223372036854775807) (hm : (m : Int) ≤ 9223372036854775807) (hv : SlDeed w a n f) (hv' : SlDeed w a' m g) (hs : ∀ i, i < n → SizedDeed (f i)) (hs' : ∀ i, i < m → SizedDeed (g i)) (hT : Tab w) :
    Calls Tryz.prog 4 #[.agg #[.slice a n cap], .agg #[.slice a' m cap']] w fun e w' => e = .returned (.bool true) ∧ Below w.heap.size w w' := by
  have HV := hide hv
  have HV' := hide hv'
  have HS := hide hs
  have HS' := hide hs'
  have HT := hide hT
  clear hv hv' hs hs' hT
  obtain ⟨L, hL⟩ : ∃ L, L = whyL f n g m := ⟨_, rfl⟩
  have hlen : L.length ≤ 1048576 := by rw [hL]; exact whyL_len f n g m
  have HL := hide hL
  clear hL
  have B0 := hide (((Below.refl w.heap.size w).alloc (Nat.le_refl w.heap.size) (.cells #[.slice a n cap] 35)).alloc (by simp) (.cells #[.slice a' m cap'] 35))
  have KA0 := hide ((one_box w (.slice a n cap) 35).below ((Below.refl _ _).alloc (Nat.le_refl _) (.cells #[.slice a' m cap'] 35)) (Nat.le_refl _))
  have KB0 := hide (show OneBox ((w.alloc (.cells #[.slice a n cap] 35)).alloc (.cells #[.slice a' m cap'] 35)) (w.heap.size + 1) (.slice a' m cap') by
    have := one_box (w.alloc (.cells #[.slice a n cap] 35)) (.slice a' m cap') 35
    simpa using this)
  go_enter Tryz.func4, Tryz.ntmps4
  go_wp2_with fail
  generalize (w.alloc (.cells #[.slice a n cap] 35)).alloc (.cells #[.slice a' m cap'] 35) = W at B0 KA0 KB0 ⊢
  refine (szAccount_any a n cap f 1048576 _ (by omega) (by omega) hn (HV.out.below B0.out (Nat.le_refl _)) HS.out).mono ?_
  rintro e w1 ⟨r, rfl, hr1, hr2, hr3, hB⟩
  have KA1 := hide (KA0.out.below hB (Nat.le_refl _))
  have KB1 := hide (KB0.out.below hB (Nat.le_refl _))
  have B1 := hide (B0.out.trans (hB.mono B0.out.size))
  clear hB B0 KA0 KB0
  by_cases hr : r < 0
  · clear hr3
    go_wp2
    go_ret
    exact ⟨rfl, B1.out⟩
  obtain ⟨hm0, hF⟩ := hr3 (by omega)
  have HF := hide hF
  have hp : n ≤ 1048576 := by omega
  clear hr3 hF hm0
  have cb := KB1.out.c0
  go_wp2_with fail
  clear cb
  refine (szAccount_any a' m cap' g r _ (by omega) (by omega) hm (HV'.out.below B1.out (Nat.le_refl _)) HS'.out).mono ?_
  rintro e w2 ⟨r', rfl, hr1', hr2', hr3', hB⟩
  have KA2 := hide (KA1.out.below hB (Nat.le_refl _))
  have KB2 := hide (KB1.out.below hB (Nat.le_refl _))
  have B2 := hide (B1.out.trans (hB.mono B1.out.size))
  clear hB B1 KA1 KB1
  by_cases hr' : r' < 0
  · clear hr3'
    go_wp2
    go_ret
    exact ⟨rfl, B2.out⟩
  obtain ⟨hm0, hF'⟩ := hr3' (by omega)
  have HF' := hide hF'
  have hp' : m ≤ 1048576 := by omega
  clear hr3' hF' hm0
  have BX : Hid (∀ V, Below w2.heap.size w2 V → V.cell? ⟨w.heap.size, 0, none⟩ = some (.slice a n cap) ∧ V.cell? ⟨w.heap.size + 1, 0, none⟩ = some (.slice a' m cap')) := fun V hV => ⟨(KA2.out.below hV (Nat.le_refl _)).c0, (KB2.out.below hV (Nat.le_refl _)).c0⟩
  have TA : Hid (∀ V, Below w2.heap.size w2 V → Calls Tryz.prog 16 #[.agg #[.slice a n cap]] V fun e w' => ∃ g, e = .returned (.agg #[.slice (some ⟨g, 0, none⟩) n n]) ∧ OwnDeed2 w' g n n w'.heap.size f ∧ V.heap.size ≤ g ∧ Below V.heap.size V w') := fun V hV => toAccount_anyO a n cap f V hp (HV.out.below (B2.out.trans (hV.mono B2.out.size)) (Nat.le_refl _)) HF.out
  have TB : Hid (∀ V, Below w2.heap.size w2 V → Calls Tryz.prog 16 #[.agg #[.slice a' m cap']] V fun e w' => ∃ h, e = .returned (.agg #[.slice (some ⟨h, 0, none⟩) m m]) ∧ OwnDeed2 w' h m m w'.heap.size g ∧ V.heap.size ≤ h ∧ Below V.heap.size V w') := fun V hV => toAccount_anyO a' m cap' g V hp' (HV'.out.below (B2.out.trans (hV.mono B2.out.size)) (Nat.le_refl _)) HF'.out
  have BW : Hid (∀ V, Below w2.heap.size w2 V → Below w.heap.size w V) := fun V hV => B2.out.trans (hV.mono B2.out.size)
  have IW : Hid (∀ V x y, Below w2.heap.size w2 V → SlDeed V (some ⟨x, 0, none⟩) n f → SlDeed V (some ⟨y, 0, none⟩) m g → Calls Tryz.prog 17 #[.agg #[.slice (some ⟨x, 0, none⟩) n n], .agg #[.slice (some ⟨y, 0, none⟩) m m]] V fun e w' => ∃ p c ga, e = .returned (.slice p L.length c) ∧ AnsStr w' V.heap.size p ga L ∧ Below V.heap.size V w') := fun V x y hV hx hy => by
    refine (implWhy_any (some ⟨x, 0, none⟩) n n f (some ⟨y, 0, none⟩) m m g V (by omega) (by omega) hx hy (by omega) (by omega) HF.out HF'.out HS.out HS'.out (HT.out.below (BW.out V hV) HT.out.1)).mono ?_
    rintro e w' ⟨v, rfl, hO, hB⟩
    rw [← HL.out] at hO
    obtain ⟨p, c, ga, rfl, hA⟩ := ans_of_owns hO
    exact ⟨p, c, ga, rfl, hA, hB⟩
  obtain ⟨cA, cB⟩ := BX.out w2 (Below.refl _ _)
  go_wp2_with fail
  clear cA cB
  go_region_held3 (fun V => V.cell? ⟨w.heap.size, 0, none⟩ = some (.slice a n cap) ∧ V.cell? ⟨w.heap.size + 1, 0, none⟩ = some (.slice a' m cap')) (first | exact BX.out _ (Below.refl _ _) | exact BX.out _ (Below.refl _ _).drew | exact BX.out _ E3.out | exact BX.out _ E3.out.drew | exact BX.out _ E4.out | exact BX.out _ E4.out.drew | exact BX.out _ E5.out | exact BX.out _ E5.out.drew)
    (first
    | (go_at_call 16; (with_reducible refine (TA.out _ ?_).mono ?_); (first | exact Below.refl _ _ | exact (Below.refl _ _).drew); rintro e w3 ⟨x3, rfl, hO, hx, hB⟩; have E3 : Hid (Below w2.heap.size w2 w3) := ⟨hB.os, hB.tape, hB.output, hB.size, hB.block⟩; have O3 := hide hO.row.sl; clear hO hx hB)
    | (go_at_call 16; (with_reducible refine (TB.out _ ?_).mono ?_); (first | exact E3.out | exact E3.out.drew); rintro e w4 ⟨x4, rfl, hO, hx, hB⟩; have F4 : Hid (Below w3.heap.size w3 w4) := ⟨hB.os, hB.tape, hB.output, hB.size, hB.block⟩; have E4 := hide (E3.out.trans (F4.out.mono E3.out.size)); have O4 := hide hO.row.sl; have O3' := hide (O3.out.below F4.out (Nat.le_refl _)); clear hO hx hB)
    | (go_at_call 15; refine (specWhy_any (some ⟨x3, 0, none⟩) n n f (some ⟨x4, 0, none⟩) m m g _ (by omega) (by omega) O3'.out O4.out HF.out HF'.out HS.out HS'.out).mono ?_; rintro e w5 ⟨b, off, k, c, rfl, hk, hR, hB⟩; rw [← HL.out] at hk hR; have E5 := hide (E4.out.trans (Below.mono (⟨hB.os, hB.tape, hB.output, hB.size, hB.block⟩ : Below w4.heap.size w4 w5) E4.out.size)); have P5 := hide hR; have HK5 := hide hk; clear hR hB hk))
  go_simp
  obtain rfl := HK5.out
  clear O3 O4 O3' F4 E3 E4 HK5
  have PR : Hid (∀ V, Below w5.heap.size w5 V → SlStr V (some ⟨b, off, none⟩) L.length (nmF L)) := fun V hV => (P5.out.below hV (Nat.le_refl _)).sl
  have UP : Hid (∀ V, Below w5.heap.size w5 V → Below w2.heap.size w2 V) := fun V hV => E5.out.trans (hV.mono E5.out.size)
  obtain ⟨cA, cB⟩ := BX.out w5 E5.out
  go_wp2_with fail
  clear cA cB
  refine (TA.out _ E5.out).mono ?_
  rintro e w6 ⟨h0, rfl, hO, hx0, hB⟩
  have K6 := hide (hB.trans (((Below.refl w6.heap.size w6).alloc (Nat.le_refl _) (.cells #[.slice (some ⟨h0, 0, none⟩) n n] 40)).mono hB.size))
  have A6 := hide ((Below.refl w6.heap.size w6).alloc (Nat.le_refl _) (.cells #[.slice (some ⟨h0, 0, none⟩) n n] 40))
  have X6 := hide (one_box w6 (.slice (some ⟨h0, 0, none⟩) n n) 40)
  have O6 := hide (hO.below A6.out (Nat.le_refl _))
  have hl0 := hO.lt
  have z6 : Hid (w6.heap.size < (w6.alloc (.cells #[.slice (some ⟨h0, 0, none⟩) n n] 40)).heap.size) := by show _ < _; simp
  clear hO hB A6
  obtain ⟨cA, cB⟩ := BX.out _ (UP.out _ K6.out)
  go_wp2_with fail
  clear cA cB
  generalize w6.alloc (.cells #[.slice (some ⟨h0, 0, none⟩) n n] 40) = w7 at K6 X6 O6 z6 ⊢
  generalize w6.heap.size = b7 at X6 O6 hl0 z6 ⊢
  refine (TB.out _ (UP.out _ K6.out)).mono ?_
  rintro e w8 ⟨h1, rfl, hO, hx1, hB⟩
  have A8 := hide ((Below.refl w8.heap.size w8).alloc (Nat.le_refl _) (.cells #[.slice (some ⟨h1, 0, none⟩) m m] 40))
  have F8 := hide (hB.trans (A8.out.mono hB.size))
  have K8 := hide (K6.out.trans (F8.out.mono K6.out.size))
  have X8 := hide (one_box w8 (.slice (some ⟨h1, 0, none⟩) m m) 40)
  have O8 := hide (hO.below A8.out (Nat.le_refl _))
  have X7 := hide (X6.out.below F8.out (Nat.le_refl _))
  have O7 := hide (O6.out.below F8.out (Nat.le_refl _))
  have hl1 := hO.lt
  have z8 : Hid (w8.heap.size < (w8.alloc (.cells #[.slice (some ⟨h1, 0, none⟩) m m] 40)).heap.size) := by show _ < _; simp
  clear hO hB A8 F8
  have c7 := X7.out.c0
  go_wp2_with fail
  clear c7
  generalize w8.alloc (.cells #[.slice (some ⟨h1, 0, none⟩) m m] 40) = w9 at K8 X7 X8 O7 O8 z8 ⊢
  generalize w8.heap.size = b8 at X8 O8 hl1 z8 ⊢
  refine (IW.out _ h0 h1 (UP.out _ K8.out) O7.out.row.sl O8.out.row.sl).mono ?_
  rintro e w10 ⟨p, c6, ga, rfl, hA, hB⟩
  have ST : Hid (WhySt w5 w10 b7 b8 w9.heap.size h0 n h1 m f g p ga L) := ⟨K8.out.trans (hB.mono K8.out.size), X7.out.below hB (Nat.le_refl _), X8.out.below hB (Nat.le_refl _), O7.out.below hB (Nat.le_refl _), O8.out.below hB (Nat.le_refl _), hA⟩
  clear hA hB X7 X8 O7 O8 X6 O6 K8
  have ordr : Hid (w5.heap.size ≤ h0 ∧ h0 < b7 ∧ b7 < w7.heap.size ∧ w7.heap.size ≤ h1 ∧ h1 < b8 ∧ b8 < w9.heap.size) := ⟨hx0, hl0, z6.out, hx1, hl1, z8.out⟩
  go_wp2_with fail
  refine (eqStringS_any p (some ⟨b, off, none⟩) c6 c L.length (nmF L) _ hlen ST.out.G.sl (PR.out _ ST.out.K)).mono ?_
  rintro e w11 ⟨rfl, hB⟩
  have ST1 := hide (ST.out.below hB)
  clear hB ST
  have SK : Hid (∀ V, Below w11.heap.size w11 V → V.cell? ⟨b7, 0, none⟩ = some (.slice (some ⟨h0, 0, none⟩) n n) ∧ V.cell? ⟨w.heap.size, 0, none⟩ = some (.slice a n cap)) := fun V hV => ⟨(ST1.out.below hV).c7.c0, (BX.out _ (UP.out _ (ST1.out.below hV).K)).1⟩
  obtain ⟨c7, cA⟩ := SK.out _ (Below.refl _ _)
  go_wp2_with fail
  clear c7 cA
  go_region_held3 (fun V => V.cell? ⟨b7, 0, none⟩ = some (.slice (some ⟨h0, 0, none⟩) n n) ∧ V.cell? ⟨w.heap.size, 0, none⟩ = some (.slice a n cap)) (first | exact SK.out _ (Below.refl _ _) | exact SK.out _ (Below.refl _ _).drew | exact SK.out _ F3.out | exact SK.out _ F3.out.drew | exact SK.out _ F4.out | exact SK.out _ F4.out.drew)
    (first
    | (go_at_call 16; refine (TA.out _ ?_).mono ?_; (first | exact UP.out _ ST1.out.K | exact (UP.out _ ST1.out.K).drew); rintro e w12 ⟨i0, rfl, hO, hx, hB⟩; have F3 : Hid (Below w11.heap.size w11 w12) := ⟨hB.os, hB.tape, hB.output, hB.size, hB.block⟩; have U0 := hide hO.row.sl; clear hO hx hB)
    | (go_at_call 18; refine (eqAccount_any (some ⟨h0, 0, none⟩) (some ⟨i0, 0, none⟩) n n n f _ (by omega) (ST1.out.below F3.out).O7.row.sl U0.out HF.out).mono ?_; rintro e w13 ⟨rfl, hB⟩; have F4 : Hid (Below w11.heap.size w11 w13) := F3.out.trans (Below.mono (⟨hB.os, hB.tape, hB.output, hB.size, hB.block⟩ : Below w12.heap.size w12 w13) F3.out.size); clear hB))
  have ST2 := hide (ST1.out.below F4.out)
  clear SK F3 F4 U0 ST1
  go_simp
  have SK : Hid (∀ V, Below w13.heap.size w13 V → V.cell? ⟨b8, 0, none⟩ = some (.slice (some ⟨h1, 0, none⟩) m m) ∧ V.cell? ⟨w.heap.size + 1, 0, none⟩ = some (.slice a' m cap')) := fun V hV => ⟨(ST2.out.below hV).c8.c0, (BX.out _ (UP.out _ (ST2.out.below hV).K)).2⟩
  obtain ⟨c7, cA⟩ := SK.out _ (Below.refl _ _)
  go_wp2_with fail
  clear c7 cA
  go_region_held3 (fun V => V.cell? ⟨b8, 0, none⟩ = some (.slice (some ⟨h1, 0, none⟩) m m) ∧ V.cell? ⟨w.heap.size + 1, 0, none⟩ = some (.slice a' m cap')) (first | exact SK.out _ (Below.refl _ _) | exact SK.out _ (Below.refl _ _).drew | exact SK.out _ F3.out | exact SK.out _ F3.out.drew | exact SK.out _ F4.out | exact SK.out _ F4.out.drew)
    (first
    | (go_at_call 16; refine (TB.out _ ?_).mono ?_; (first | exact UP.out _ ST2.out.K | exact (UP.out _ ST2.out.K).drew); rintro e w14 ⟨i0, rfl, hO, hx, hB⟩; have F3 : Hid (Below w13.heap.size w13 w14) := ⟨hB.os, hB.tape, hB.output, hB.size, hB.block⟩; have U0 := hide hO.row.sl; clear hO hx hB)
    | (go_at_call 18; refine (eqAccount_any (some ⟨h1, 0, none⟩) (some ⟨i0, 0, none⟩) m m m g _ (by omega) (ST2.out.below F3.out).O8.row.sl U0.out HF'.out).mono ?_; rintro e w15 ⟨rfl, hB⟩; have F4 : Hid (Below w13.heap.size w13 w15) := F3.out.trans (Below.mono (⟨hB.os, hB.tape, hB.output, hB.size, hB.block⟩ : Below w14.heap.size w14 w15) F3.out.size); clear hB))
  have ST3 := hide (ST2.out.below F4.out)
  clear SK F3 F4 U0 ST2
  go_simp
  obtain ⟨q1, q2, q3, q4, q5, q6⟩ := ordr.out
  have c7 := ST3.out.c7.c0
  go_wp2_with fail
  refine (markAccount_from h0 n b7 1 f _ (by omega) (by omega) (by omega) HF.out ST3.out.O7 q2).mono ?_
  rintro e w16 ⟨k1, rfl, hk1, hk2, hT16⟩
  have K16 := hide (ST3.out.K.trans (hT16.toBelow (B := w5.heap.size) (fun x hx => by omega) ST3.out.K.size))
  have c8 := ST3.out.c8.touch hT16 (by rintro ⟨h, h'⟩; omega)
  have O16 := hide (own2_touch ST3.out.O8 hT16 (by rintro x h h' ⟨h2, h3⟩; omega))
  have G16 := hide (ST3.out.G.touch hT16 (by rintro x ⟨h, h'⟩; omega))
  have c8c := c8.c0
  clear hT16 ST3 c7 c8
  go_wp2_with fail
  refine (markAccount_from h1 m b8 k1 g _ (by omega) (by omega) (by omega) HF'.out O16.out q5).mono ?_
  rintro e w17 ⟨k2, rfl, hk3, hk4, hT17⟩
  have EN : Hid (WhyEn w5 w17 w9.heap.size p ga L) := ⟨K16.out.trans (hT17.toBelow (B := w5.heap.size) (fun x hx => by omega) K16.out.size), G16.out.touch hT17 (by rintro x ⟨h, h'⟩; omega)⟩
  clear hT17 K16 O16 G16 c8c
  have hq : ¬ ((k2 : Int) < 0) := by omega
  have hqd : decide ((k2 : Int) < 0) = false := decide_eq_false hq
  go_wp2_with fail
  refine (eqStringS_any p (some ⟨b, off, none⟩) c6 c L.length (nmF L) _ hlen EN.out.G.sl (PR.out _ EN.out.K)).mono ?_
  rintro e w18 ⟨rfl, hB⟩
  have EN1 := hide (EN.out.below hB)
  clear hB EN hq hqd
  have hge := EN1.out.G
  have GE := hide (fun hz : L.length ≠ 0 => hge.ge hz)
  clear hge
  go_wp2_with fail
  refine (markStringS_sl p L.length c6 1 ga _ (by omega) (by omega) (by omega) EN1.out.G.room).mono ?_
  rintro e w19 ⟨rfl, hM, hT19⟩
  have M19 := hide hM
  have K19 := hide (EN1.out.K.trans (hT19.toBelow (B := w5.heap.size) (by rintro x ⟨h, h2⟩; have := GE.out h; omega) EN1.out.K.size))
  clear hM hT19 EN1
  go_wp2_with fail
  refine (heldStringS_sl p L.length c6 1 ga _ (by omega) (by omega) (by omega) M19.out).mono ?_
  rintro e w20 ⟨rfl, hB⟩
  have K20 := hide (K19.out.trans (hB.mono K19.out.size))
  clear M19 hB K19
  have hq1 : ¬ (((1 + L.length : Nat) : Int) < 0) := by omega
  have SK : Hid (∀ V, Below w20.heap.size w20 V → V.cell? ⟨w.heap.size, 0, none⟩ = some (.slice a n cap) ∧ V.cell? ⟨w.heap.size + 1, 0, none⟩ = some (.slice a' m cap')) := fun V hV => BX.out _ (UP.out _ (K20.out.trans (hV.mono K20.out.size)))
  have UP2 : Hid (∀ V, Below w20.heap.size w20 V → Below w2.heap.size w2 V) := fun V hV => UP.out _ (K20.out.trans (hV.mono K20.out.size))
  obtain ⟨cA, cB⟩ := SK.out _ (Below.refl _ _)
  go_wp2_with fail
  clear cA cB
  go_region_held3 (fun V => V.cell? ⟨w.heap.size, 0, none⟩ = some (.slice a n cap) ∧ V.cell? ⟨w.heap.size + 1, 0, none⟩ = some (.slice a' m cap')) (first | exact SK.out _ (Below.refl _ _) | exact SK.out _ (Below.refl _ _).drew | exact SK.out _ E3.out | exact SK.out _ E3.out.drew | exact SK.out _ E4.out | exact SK.out _ E4.out.drew | exact SK.out _ E21.out | exact SK.out _ E21.out.drew)
    (first
    | (go_at_call 16; (with_reducible refine (TA.out _ ?_).mono ?_); (first | exact UP2.out _ (Below.refl _ _) | exact UP2.out _ (Below.refl _ _).drew); rintro e w21 ⟨x3, rfl, hO, hx, hB⟩; have E3 : Hid (Below w20.heap.size w20 w21) := ⟨hB.os, hB.tape, hB.output, hB.size, hB.block⟩; have O3 := hide hO.row.sl; clear hO hx hB)
    | (go_at_call 16; (with_reducible refine (TB.out _ ?_).mono ?_); (first | exact UP2.out _ E3.out | exact UP2.out _ E3.out.drew); rintro e w22 ⟨x4, rfl, hO, hx, hB⟩; have F4 : Hid (Below w21.heap.size w21 w22) := ⟨hB.os, hB.tape, hB.output, hB.size, hB.block⟩; have E4 := hide (E3.out.trans (F4.out.mono E3.out.size)); have O4 := hide hO.row.sl; have O3' := hide (O3.out.below F4.out (Nat.le_refl _)); clear hO hx hB)
    | (go_at_call 17; refine (IW.out _ x3 x4 ?_ ?_ ?_).mono ?_; (first | exact UP2.out _ E4.out | exact UP2.out _ E4.out.drew); exact O3'.out; exact O4.out; rintro e w23 ⟨p2, c7, ga2, rfl, hA, hB⟩; have E21 := hide (E4.out.trans (Below.mono (⟨hB.os, hB.tape, hB.output, hB.size, hB.block⟩ : Below w22.heap.size w22 w23) E4.out.size)); have A23 := hide hA; clear hA hB))
  go_simp
  have K23 := hide (K20.out.trans (E21.out.mono K20.out.size))
  clear SK UP2 E3 E4 E21 O3 O4 O3' F4
  go_wp2_with fail
  refine (eqStringS_any p2 (some ⟨b, off, none⟩) c7 c L.length (nmF L) _ hlen A23.out.sl (PR.out _ K23.out)).mono ?_
  rintro e w24 ⟨rfl, hB⟩
  have B24 := hide (BW.out _ (UP.out _ (K23.out.trans (hB.mono K23.out.size))))
  clear hB
  go_wp2
  go_ret
  exact ⟨rfl, B24.out⟩

end Go.Proofs.YtkgddbcjmejfaaaGreatDoor.Vp
