/-
  Put together of: WhTaleOf, WhCorr.
-/
import Derived.Test.YtkgddbcjmejfaaaGreatDoorZS
import Derived.Test.YtkgddbcjmejfaaaGreatDoorZK
import Derived.Deep.RegionHeld3

/-
  Why, impl: taleOf.
-/
namespace Go.Proofs.YtkgddbcjmejfaaaGreatDoor.Vp
open Go.RowKit Go.Maps

/-- What is known behind k deeds. -/
def actTo (f : Nat → Deed) (K0 : List UInt8 → List KAct) : Nat → List UInt8 → List KAct
  | 0 => K0
  | k + 1 => dActs (actTo f K0 k) (f k)
def toldLk (g : Nat → Link) (T : List UInt8 → Told → Prop) : Nat → List UInt8 → Told → Prop
  | 0 => T
  | j + 1 => fun s t => ((g j).ask = false ∧ s = (g j).name.toList ∧ t = lTold (g j)) ∨ toldLk g T j s t
/-- What is told by k deeds. -/
def toldTo (f : Nat → Deed) (K0 : List UInt8 → List KAct) : Nat → List UInt8 → Told → Prop
  | 0 => fun _ _ => False
  | k + 1 => toldLk (f k).links (fun s t => (s = (f k).name.toList ∧ t = dTold (actTo f K0 k) (f k)) ∨ toldTo f K0 k s t) (f k).linksN

theorem Tale.ka {w w' : World} {lo tb n B kb : Nat} {T : List UInt8 → Told → Prop} (h : Tale w lo tb n T) (hk : KA B kb w w') (hkb : kb < lo) : Tale w' lo tb n T :=
  h.blk fun i h1 h2 ⟨es, c, h3⟩ => hk.blk i h2 (by omega) (fun cs fz e => by rw [h3] at e; cases e)
theorem Tale.below {w w' : World} {lo tb n B : Nat} {T : List UInt8 → Told → Prop} (h : Tale w lo tb n T) (hk : Below B w w') (hB : w.heap.size ≤ B) : Tale w' lo tb n T :=
  h.blk fun i _ h2 _ => hk.block i (by omega)
theorem Tale.mono {w : World} {lo tb n n' : Nat} {T : List UInt8 → Told → Prop} (h : Tale w lo tb n T) (hn : n ≤ n') : Tale w lo tb n' T := h.elim fun G hG => ⟨G, hG.mono hn⟩
theorem KM.of_below {lo B : Nat} {w w' : World} (h : Below B w w') (hB : w.heap.size ≤ B) (hlo : lo ≤ w.heap.size) : KM lo w w' :=
  ⟨h.mono (Nat.le_trans hlo hB), fun i hi _ => h.block i (Nat.lt_of_lt_of_le hi hB)⟩
theorem toldLk_ask {g : Nat → Link} {T : List UInt8 → Told → Prop} {j : Nat} (h : (g j).ask = true) : ∀ s t, toldLk g T j s t ↔ toldLk g T (j + 1) s t := fun _ _ =>
  ⟨.inr, fun h' => h'.elim (fun h'' => by rw [h] at h''; exact absurd h''.1 (by simp)) id⟩
theorem toldLk_look {g : Nat → Link} {T : List UInt8 → Told → Prop} {j : Nat} (h : (g j).ask = false) : ∀ s t, ((s = (g j).name.toList ∧ t = lTold (g j)) ∨ toldLk g T j s t) ↔ toldLk g T (j + 1) s t := fun _ _ =>
  ⟨fun h' => h'.elim (fun h'' => .inl ⟨h, h''⟩) .inr, fun h' => h'.elim (fun h'' => .inl h''.2) .inr⟩

set_option maxRecDepth 100000 in
set_option maxHeartbeats 8000000 in
theorem taleOf_any (w0 : World) (kb n0 : Nat) (K0 : List UInt8 → List KAct) (b off n cap : Nat) (f : Nat → Deed) (w : World) (hn0 : (n0 : Int) ≤ 1000) (hn1 : 1 ≤ n) (hn4 : n ≤ 400) (hlk : ∀ p, p < n → (f p).linksN ≤ 200) (hsz : ∀ i, i < n → SizedDeed (f i)) (hfit : ∀ i, i < n → FitsDeed (f i)) (hb : Below w0.heap.size w0 w) (hrow : RowDeed w0 b off n f) (h : Acts w0 w kb n0 K0) :
    Calls Tryz.prog 35 #[.map (some kb), .agg #[.slice (some ⟨b, off, none⟩) n cap]] w fun e w' => ∃ tb, e = .returned (.map (some tb)) ∧ Tale w' w.heap.size tb 100000 (toldTo f K0 n) ∧ Acts w0 w' kb (n0 + n) (actTo f K0 n) ∧ KA w0.heap.size kb w w' := by
  have hkb : Hid (kb < w.heap.size) := h.lt
  have HLK := hide hlk
  have HZ := hide hsz
  have HM := hide hfit
  have HR := hide hrow
  have HW := hide hb
  have hw0 := hide hb.size
  have B0 := hide (((Below.refl w.heap.size w).alloc (Nat.le_refl _) (.cells #[.slice (some ⟨b, off, none⟩) n cap] 40)).alloc (by simp) (.map #[] 0))
  have T0 := hide (tale_new (w.alloc (.cells #[.slice (some ⟨b, off, none⟩) n cap] 40)) (lo := w.heap.size) (by simp))
  have A0 := hide (h.below B0.out (Nat.le_refl _))
  clear hlk hsz hfit hrow hb h
  have hmm := @run_makeMap Tryz.prog
  go_enter Tryz.func35, Tryz.ntmps35
  go_wp2
  clear hmm
  obtain ⟨tb, htb⟩ : ∃ tb, tb = (w.alloc (.cells #[.slice (some ⟨b, off, none⟩) n cap] 40)).heap.size := ⟨_, rfl⟩
  have htb2 : w.heap.size + 1 = tb := by rw [htb]; simp
  rw [← htb] at T0
  simp only [htb2]
  clear htb htb2
  generalize (w.alloc (.cells #[.slice (some ⟨b, off, none⟩) n cap] 40)).alloc (.map #[] 0) = W at B0 T0 A0 ⊢
  go_loopw [14] (fun i wr => ∃ k : Nat, k ≤ n ∧ i = .int .i64 k ∧ Hid (Tale wr w.heap.size tb (k * 201) (toldTo f K0 k)) ∧ Hid (Acts w0 wr kb (n0 + k) (actTo f K0 k)) ∧ Hid (KA w0.heap.size kb w wr)) (fun i _ => n - (intOf i).toNat)
  case atStart => exact ⟨0, by omega, rfl, by show Tale _ _ _ _ _; simpa [toldTo] using T0.out, by show Acts _ _ _ _ _; simpa [actTo] using A0.out, KA.of_below B0.out (Nat.le_refl _) hw0.out⟩
  case round =>
    obtain ⟨k, hk, rfl, HT, HA, HK⟩ := hrel
    by_cases hlt : k < n
    · obtain ⟨o0, o1, o2, o3, ⟨a0, cap0, o4, q4⟩, ⟨a1, cap1, o5, q5⟩⟩ := HR.out.2 k hlt
      have DW := HW.out.trans HK.out.below
      have p0 := (DW.cell (p := ⟨b, off + k * 6, none⟩) HR.out.1).trans o0
      have p1 := (DW.cell (p := ⟨b, off + k * 6 + 1, none⟩) HR.out.1).trans o1
      have p2 := (DW.cell (p := ⟨b, off + k * 6 + 2, none⟩) HR.out.1).trans o2
      have p3 := (DW.cell (p := ⟨b, off + k * 6 + 3, none⟩) HR.out.1).trans o3
      have p4 := (DW.cell (p := ⟨b, off + k * 6 + 4, none⟩) HR.out.1).trans o4
      have p5 := (DW.cell (p := ⟨b, off + k * 6 + 5, none⟩) HR.out.1).trans o5
      have Q4 := hide q4
      have Q5 := hide q5
      have DW0 := hide DW
      clear q4 q5 o0 o1 o2 o3 o4 o5 DW
      have hlk := HLK.out k hlt
      have hlo := hide (show w.heap.size ≤ wr.heap.size from HK.out.below.size)
      obtain ⟨d, hd⟩ : ∃ d, d = f k := ⟨_, rfl⟩
      have HD := hide hd
      rw [← hd] at p0 p1 p2 p3 p4 p5 Q4 Q5 hlk
      clear hd
      have B1 := hide ((Below.refl wr.heap.size wr).alloc (Nat.le_refl _) (.cells #[.string d.name, .int .i64 d.kind, .int .i64 d.code, .string d.text, .slice a0 d.actN cap0, .slice a1 d.linksN cap1] 51))
      have X1 := hide (show (wr.alloc (.cells #[.string d.name, .int .i64 d.kind, .int .i64 d.code, .string d.text, .slice a0 d.actN cap0, .slice a1 d.linksN cap1] 51)).heap[wr.heap.size]? = some (.cells #[.string d.name, .int .i64 d.kind, .int .i64 d.code, .string d.text, .slice a0 d.actN cap0, .slice a1 d.linksN cap1] 51 (0, 0)) from (MapKept.heap_alloc wr _).1)
      have E1 := hide (show wr.heap.size < (wr.alloc (.cells #[.string d.name, .int .i64 d.kind, .int .i64 d.code, .string d.text, .slice a0 d.actN cap0, .slice a1 d.linksN cap1] 51)).heap.size by simp)
      have T1 := hide (HT.out.below B1.out (Nat.le_refl _))
      have A1 := hide (HA.out.below B1.out (Nat.le_refl _))
      have K1 := hide (HK.out.trans (KA.of_below B1.out (Nat.le_refl _) (Nat.le_trans hw0.out hlo.out)))
      have C1 := hide (DW0.out.trans (B1.out.mono DW0.out.size))
      have N1 : Hid (w.heap.size ≤ wr.heap.size ∧ wr.heap.size ≠ kb) := ⟨hlo.out, fun e => by have h1 := hlo.out; have h2 := hkb.out; omega⟩
      have L1 := hide (Nat.le_trans hlo.out B1.out.size)
      have F1 := hide ((show d.name.size ≤ maxLen ∧ d.text.size ≤ maxLen ∧ d.actN ≤ 1048576 ∧ ∀ j, j < d.linksN → (d.links j).name.size ≤ maxLen by rw [HD.out]; exact ⟨(HZ.out k hlt).1, (HZ.out k hlt).2.1, (HM.out k hlt).1, (HZ.out k hlt).2.2.2.2⟩))
      go_wp2_with fail
      generalize wr.alloc (.cells #[.string d.name, .int .i64 d.kind, .int .i64 d.code, .string d.text, .slice a0 d.actN cap0, .slice a1 d.linksN cap1] 51) = W1 at B1 X1 E1 T1 A1 K1 C1 L1 ⊢
      clear p0 p1 p2 p3 p4 p5 B1
      generalize wr.heap.size = gd at X1 E1 N1 ⊢
      have SK := hide (fun (V : World) (hV : V.heap[gd]? = W1.heap[gd]?) => (show V.cell? ⟨gd, 0, none⟩ = some (.string d.name) ∧ V.cell? ⟨gd, 1, none⟩ = some (.int .i64 d.kind) ∧ V.cell? ⟨gd, 2, none⟩ = some (.int .i64 d.code) ∧ V.cell? ⟨gd, 3, none⟩ = some (.string d.text) ∧ V.cell? ⟨gd, 4, none⟩ = some (.slice a0 d.actN cap0) ∧ V.cell? ⟨gd, 5, none⟩ = some (.slice a1 d.linksN cap1) from by
        rw [X1.out] at hV
        exact ⟨by simp [World.cell?, hV], by simp [World.cell?, hV], by simp [World.cell?, hV], by simp [World.cell?, hV], by simp [World.cell?, hV], by simp [World.cell?, hV]⟩))
      have SA := hide (fun (V : World) (hV : KA w0.heap.size kb W1 V) => (show V.heap[gd]? = W1.heap[gd]? from hV.blk gd E1.out N1.out.2 (fun cs fz e => by rw [X1.out] at e; simp at e)))
      have SM := hide (fun (V V' : World) (hV : V.heap[gd]? = W1.heap[gd]?) (hK : KM w.heap.size V V') => (show V'.heap[gd]? = W1.heap[gd]? from (hK.blk gd (Array.getElem?_eq_some_iff.1 (hV.trans X1.out)).1 (fun es c e => by rw [hV, X1.out] at e; cases e)).trans hV))
      have BD := hide (fun (V : World) (hV : Below W1.heap.size W1 V) => byDeed_any w0 kb (n0 + k) (actTo f K0 k) d a0 cap0 a1 cap1 V (by omega) F1.out.1 F1.out.2.2.1 (C1.out.trans (hV.mono C1.out.size)) Q4.out (A1.out.below hV (Nat.le_refl _)))
      have OK := hide (dTold_ok (d := d) A1.out (by omega) F1.out.2.1)
      go_region_held3 (fun V => V.cell? ⟨gd, 0, none⟩ = some (.string d.name) ∧ V.cell? ⟨gd, 1, none⟩ = some (.int .i64 d.kind) ∧ V.cell? ⟨gd, 2, none⟩ = some (.int .i64 d.code) ∧ V.cell? ⟨gd, 3, none⟩ = some (.string d.text) ∧ V.cell? ⟨gd, 4, none⟩ = some (.slice a0 d.actN cap0) ∧ V.cell? ⟨gd, 5, none⟩ = some (.slice a1 d.linksN cap1)) (first | exact SK.out _ rfl | exact SK.out _ (SA.out _ K2.out) | exact SK.out _ G3.out)
        (first
        | (go_at_call 51; refine (BD.out _ ?_).mono ?_; (first | exact Below.refl _ _ | exact (Below.refl _ _).drew); rintro e w2 ⟨rfl, hA2, hK2⟩; have K2 : Hid (KA w0.heap.size kb W1 w2) := ⟨⟨hK2.below.os, hK2.below.tape, hK2.below.output, hK2.below.size, hK2.below.block⟩, hK2.blk⟩; have A2 := hide hA2; clear hA2 hK2; have T2 := hide (T1.out.ka K2.out hkb.out); have L2 := hide (Nat.le_trans L1.out K2.out.below.size); have TL := hide (fun (V : World) (hV : Below w2.heap.size w2 V) => tell_any w.heap.size tb (k * 201) (toldTo f K0 k) d.name (dTold (actTo f K0 k) d) V (by omega) F1.out.1 OK.out (Nat.le_trans L2.out hV.size) (T2.out.below hV (Nat.le_refl _))))
        | (go_at_call 50; refine (TL.out _ ?_).mono ?_; (first | exact Below.refl _ _ | exact (Below.refl _ _).drew); rintro e w3 ⟨rfl, hT3, hM3⟩; have M3 : Hid (KM w.heap.size w2 w3) := ⟨⟨hM3.below.os, hM3.below.tape, hM3.below.output, hM3.below.size, hM3.below.block⟩, hM3.blk⟩; have T3 := hide hT3; clear hT3 hM3; have G3 := hide (SM.out w2 w3 (SA.out _ K2.out) M3.out)))
      go_simp
      obtain ⟨c0, c1, c2, c3, c4, c5⟩ := SK.out _ G3.out
      have K3 := hide ((K1.out.trans K2.out).then_below hw0.out M3.out.below)
      have A3 := hide (A2.out.km M3.out hkb.out)
      have L3 := hide (Nat.le_trans L2.out M3.out.below.size)
      have S3 := hide (show toldTo f K0 (k + 1) = toldLk d.links (fun s t => (s = d.name.toList ∧ t = dTold (actTo f K0 k) d) ∨ toldTo f K0 k s t) d.linksN by rw [HD.out]; rfl)
      have S4 := hide (show actTo f K0 (k + 1) = dActs (actTo f K0 k) d by rw [HD.out]; rfl)
      clear SK SA SM BD TL T1 A1 K1 K2 A2 T2 L2 M3 G3 L1 X1 E1 N1 C1 OK
      go_wp2
      clear c0 c1 c2 c3 c4 c5
      go_loopw [28] (fun i wz => ∃ j : Nat, j ≤ d.linksN ∧ i = .int .i64 j ∧ Hid (Tale wz w.heap.size tb (k * 201 + 1 + j) (toldLk d.links (fun s t => (s = d.name.toList ∧ t = dTold (actTo f K0 k) d) ∨ toldTo f K0 k s t) j)) ∧ Hid (KM w.heap.size w3 wz)) (fun i _ => d.linksN - (intOf i).toNat)
      case atStart => exact ⟨0, by omega, rfl, by show Tale _ _ _ _ _; simpa [toldLk] using T3.out, KM.refl _ _⟩
      case round =>
        obtain ⟨j, hj, rfl, HT2, HM2⟩ := hrel
        have D5 := hide (HW.out.trans (K3.out.below.trans (HM2.out.below.mono hw0.out)))
        by_cases hjl : j < d.linksN
        · obtain ⟨b4, off4, rfl, hr4⟩ := (Q5.out.below D5.out (Nat.le_refl _)).resolve_left (by omega)
          obtain ⟨r0, r1, r2, r3⟩ := hr4.2 j hjl
          clear hr4
          have hnm := F1.out.2.2.2 j hjl
          obtain ⟨l, hl⟩ : ∃ l, l = d.links j := ⟨_, rfl⟩
          have HL := hide hl
          rw [← hl] at r0 r1 r2 r3 hnm
          clear hl
          have B5 := hide ((Below.refl wr.heap.size wr).alloc (Nat.le_refl _) (.cells #[.string l.name, .bool l.ask, .bool l.has, .int .i64 l.at_] 98))
          have L5 := hide (Nat.le_trans L3.out HM2.out.below.size)
          have M5 := hide (HM2.out.trans (KM.of_below B5.out (Nat.le_refl _) L5.out))
          have T5 := hide (HT2.out.below B5.out (Nat.le_refl _))
          have X5 := hide (show (wr.alloc (.cells #[.string l.name, .bool l.ask, .bool l.has, .int .i64 l.at_] 98)).heap[wr.heap.size]? = some (.cells #[.string l.name, .bool l.ask, .bool l.has, .int .i64 l.at_] 98 (0, 0)) from (MapKept.heap_alloc wr _).1)
          have E5 := hide (show wr.heap.size < (wr.alloc (.cells #[.string l.name, .bool l.ask, .bool l.has, .int .i64 l.at_] 98)).heap.size by simp)
          cases hask : l.ask with
          | true =>
            rw [hask] at r1 B5 M5 T5 X5 E5
            have HQ := hide (show (d.links j).ask = true by rw [← HL.out]; exact hask)
            clear hask
            go_wp2
            exact ⟨⟨j + 1, by omega, by go_num, (T5.out.mono (by omega)).congr (toldLk_ask HQ.out), M5.out⟩, by simp [intOf]; omega⟩
          | false =>
            rw [hask] at r1 B5 M5 T5 X5 E5
            have HQ := hide (show (d.links j).ask = false by rw [← HL.out]; exact hask)
            have hbl := byLook_any l
            rw [hask] at hbl
            have BL := hide hbl
            clear hask hbl
            go_wp2_with fail
            generalize wr.alloc (.cells #[.string l.name, .bool false, .bool l.has, .int .i64 l.at_] 98) = W5 at B5 M5 T5 X5 E5 ⊢
            clear r0 r1 r2 r3
            generalize wr.heap.size = ge at X5 E5 B5 L5 ⊢
            have L6 := hide (Nat.le_trans L3.out M5.out.below.size)
            have SK := hide (fun (V : World) (hV : V.heap[ge]? = W5.heap[ge]?) => (show V.cell? ⟨ge, 0, none⟩ = some (.string l.name) ∧ V.cell? ⟨ge, 1, none⟩ = some (.bool false) ∧ V.cell? ⟨ge, 2, none⟩ = some (.bool l.has) ∧ V.cell? ⟨ge, 3, none⟩ = some (.int .i64 l.at_) from by
              rw [X5.out] at hV
              exact ⟨by simp [World.cell?, hV], by simp [World.cell?, hV], by simp [World.cell?, hV], by simp [World.cell?, hV]⟩))
            have SM := hide (fun (V V' : World) (hV : V.heap[ge]? = W5.heap[ge]?) (hK : KM w.heap.size V V') => (show V'.heap[ge]? = W5.heap[ge]? from (hK.blk ge (Array.getElem?_eq_some_iff.1 (hV.trans X5.out)).1 (fun es c e => by rw [hV, X5.out] at e; cases e)).trans hV))
            go_region_held3 (fun V => V.cell? ⟨ge, 0, none⟩ = some (.string l.name) ∧ V.cell? ⟨ge, 1, none⟩ = some (.bool false) ∧ V.cell? ⟨ge, 2, none⟩ = some (.bool l.has) ∧ V.cell? ⟨ge, 3, none⟩ = some (.int .i64 l.at_)) (first | exact SK.out _ rfl | exact SK.out _ G6.out | exact SK.out _ G7.out)
              (first
              | (go_at_call 52; refine (BL.out _).mono ?_; rintro e w6 ⟨rfl, hB6⟩; have B6 : Hid (Below W5.heap.size W5 w6) := ⟨hB6.os, hB6.tape, hB6.output, hB6.size, hB6.block⟩; clear hB6; have G6 := hide (B6.out.block ge E5.out); have TL := hide (fun (V : World) (hV : Below w6.heap.size w6 V) => tell_any w.heap.size tb (k * 201 + 1 + j) _ l.name (lTold l) V (by omega) hnm (lTold_ok l) (Nat.le_trans (Nat.le_trans L6.out B6.out.size) hV.size) ((T5.out.below B6.out (Nat.le_refl _)).below hV (Nat.le_refl _))))
              | (go_at_call 50; refine (TL.out _ ?_).mono ?_; (first | exact Below.refl _ _ | exact (Below.refl _ _).drew); rintro e w7 ⟨rfl, hT7, hM7⟩; have M7 : Hid (KM w.heap.size w6 w7) := ⟨⟨hM7.below.os, hM7.below.tape, hM7.below.output, hM7.below.size, hM7.below.block⟩, hM7.blk⟩; have T7 := hide hT7; clear hT7 hM7; have G7 := hide (SM.out w6 w7 G6.out M7.out)))
            go_simp
            have M8 := hide (M5.out.trans ((KM.of_below B6.out (Nat.le_refl _) L6.out).trans M7.out))
            clear SK SM TL BL
            go_wp2
            refine ⟨⟨j + 1, by omega, by go_num, T7.out.congr ?_, M8.out⟩, by simp [intOf]; omega⟩
            rw [HL.out]
            exact toldLk_look HQ.out
        · obtain rfl : j = d.linksN := by omega
          go_wp2
          refine ⟨⟨k + 1, by omega, by go_num, ?_, ?_, ?_⟩, by simp [intOf]; omega⟩
          · show Tale _ _ _ _ _
            rw [S3.out]
            exact HT2.out.mono (by omega)
          · show Acts _ _ _ _ _
            rw [S4.out]
            exact A3.out.km HM2.out hkb.out
          · exact K3.out.then_below hw0.out HM2.out.below
    · obtain rfl : k = n := by omega
      go_wp2
      go_ret
      exact ⟨tb, rfl, HT.out.mono (by omega), HA.out, HK.out⟩

end Go.Proofs.YtkgddbcjmejfaaaGreatDoor.Vp

/-
  Why: what impl is told of a name against what spec is told of it.
-/
namespace Go.Proofs.YtkgddbcjmejfaaaGreatDoor.Vp
open Go.RowKit

theorem insB_iff {x y : Ins} : insB x y = true ↔ x = y := by
  unfold insB
  constructor
  · intro h
    simp only [Bool.and_eq_true] at h
    obtain ⟨⟨h1, h2⟩, h3⟩ := h
    cases x; cases y
    simp only [Ins.mk.injEq]
    exact ⟨by simpa using h1, toList_eqv h2, by simpa using h3⟩
  · rintro rfl
    simp
theorem insTo_iff {f g : Nat → Ins} {n : Nat} : insTo f g n = true ↔ ∀ i, i < n → f i = g i := by
  induction n with
  | zero => exact ⟨fun _ i h => absurd h (Nat.not_lt_zero _), fun _ => rfl⟩
  | succ n ih =>
    rw [insTo, Bool.and_eq_true, ih, insB_iff]
    constructor
    · rintro ⟨h1, h2⟩ i hi
      by_cases e : i = n
      · subst e; exact h2
      · exact h1 i (by omega)
    · exact fun h => ⟨fun i hi => h i (by omega), h n (by omega)⟩
theorem codeB_iff {f g : Nat → Ins} {n m : Nat} : codeB f g n m = true ↔ n = m ∧ ∀ i, i < n → f i = g i := by
  unfold codeB
  rw [Bool.and_eq_true, insTo_iff]
  simp
theorem sameA_refl (p : KAct) : sameA p p = true := codeB_iff.2 ⟨rfl, fun _ _ => rfl⟩
theorem sameA_symm {p q : KAct} (h : sameA p q = true) : sameA q p = true := by
  obtain ⟨h1, h2⟩ := codeB_iff.1 h
  exact codeB_iff.2 ⟨h1.symm, fun i hi => (h2 i (by omega)).symm⟩
theorem sameA_trans {p q r : KAct} (h : sameA p q = true) (k : sameA q r = true) : sameA p r = true := by
  obtain ⟨h1, h2⟩ := codeB_iff.1 h
  obtain ⟨k1, k2⟩ := codeB_iff.1 k
  exact codeB_iff.2 ⟨h1.trans k1, fun i hi => (h2 i hi).trans (k2 i (by omega))⟩
theorem sameA_right {p q : KAct} (h : sameA p q = true) (r : KAct) : sameA r p = sameA r q := by
  cases e : sameA r q with
  | true => exact sameA_trans e (sameA_symm h)
  | false =>
    cases e' : sameA r p with
    | false => rfl
    | true => rw [sameA_trans e' h] at e; cases e
theorem numOf_eq_iff {ps : List KAct} {p q : KAct} (hp : numOf ps p < ps.length) (hq : numOf ps q < ps.length) : (numOf ps p = numOf ps q) ↔ sameA p q = true := by
  constructor
  · intro h
    have h1 : sameA (ps[numOf ps p]) p = true := List.findIdx_getElem (w := hp)
    have h2 : sameA (ps[numOf ps q]) q = true := List.findIdx_getElem (w := hq)
    have e : ps[numOf ps p] = ps[numOf ps q] := by simp only [h]
    rw [e] at h1
    exact sameA_trans (sameA_symm h1) h2
  · intro h
    unfold numOf
    exact congrArg (fun f => List.findIdx f ps) (funext fun r => sameA_right h r)
theorem numOf_app {ps rs : List KAct} {p : KAct} (h : numOf ps p < ps.length) : numOf (ps ++ rs) p = numOf ps p := by
  have h' : ps.findIdx (fun q => sameA q p) < ps.length := h
  unfold numOf
  rw [List.findIdx_append, if_pos h']
theorem numOf_last {ps : List KAct} {p : KAct} (h : numOf ps p = ps.length) : numOf (ps ++ [p]) p = ps.length := by
  have h' : ps.findIdx (fun q => sameA q p) = ps.length := h
  unfold numOf
  rw [List.findIdx_append, if_neg (by rw [h']; omega)]
  simp [List.findIdx_cons, sameA_refl]
theorem kputL_num (ps : List KAct) (p : KAct) : numOf (kputL ps p) p = numOf ps p ∧ numOf ps p < (kputL ps p).length := by
  unfold kputL
  by_cases h : numOf ps p < ps.length
  · rw [if_pos h]
    exact ⟨rfl, h⟩
  · have h1 : numOf ps p = ps.length := by have := numOf_le ps p; omega
    rw [if_neg h, numOf_last h1, h1]
    simp

def ExtK (K K' : List UInt8 → List KAct) : Prop := ∀ s, ∃ r, K' s = K s ++ r
theorem ExtK.refl (K : List UInt8 → List KAct) : ExtK K K := fun s => ⟨[], by simp⟩
theorem ExtK.trans {K K' K'' : List UInt8 → List KAct} (h : ExtK K K') (k : ExtK K' K'') : ExtK K K'' := fun s => by
  obtain ⟨r, h⟩ := h s
  obtain ⟨r', k⟩ := k s
  exact ⟨r ++ r', by rw [k, h, List.append_assoc]⟩
theorem dActs_ext (K : List UInt8 → List KAct) (d : Deed) : ExtK K (dActs K d) := by
  intro s
  unfold dActs
  split
  · unfold kput
    split
    · unfold kputL
      split
      · exact ⟨[], by simp⟩
      · exact ⟨_, rfl⟩
    · exact ⟨[], by simp⟩
  · exact ⟨[], by simp⟩
theorem actTo_ext (f : Nat → Deed) (K0 : List UInt8 → List KAct) : ∀ n, ExtK K0 (actTo f K0 n)
  | 0 => ExtK.refl _
  | n + 1 => (actTo_ext f K0 n).trans (dActs_ext _ _)

/-- What impl tells for what spec tells. -/
def encT (K : List UInt8 → List KAct) (s : List UInt8) (x : Tl) : Told :=
  if x.kind = 1 then ⟨1, x.text, 0⟩ else if x.kind = 3 then ⟨3, ⟨#[]⟩, (numOf (K s) (x.actN, x.act) : Nat)⟩ else if x.kind = 4 then ⟨0, ⟨#[]⟩, 0⟩ else ⟨2, ⟨#[]⟩, 0⟩
def InK (K : List UInt8 → List KAct) (s : List UInt8) (x : Tl) : Prop := x.kind = 3 → numOf (K s) (x.actN, x.act) < (K s).length
theorem InK.ext {K K' : List UInt8 → List KAct} {s : List UInt8} {x : Tl} (h : InK K s x) (hE : ExtK K K') : InK K' s x ∧ encT K' s x = encT K s x := by
  obtain ⟨r, hr⟩ := hE s
  refine ⟨fun hk => ?_, ?_⟩
  · rw [hr, numOf_app (h hk)]
    have := h hk
    simp
    omega
  · unfold encT
    by_cases h1 : x.kind = 1
    · rw [if_pos h1, if_pos h1]
    · rw [if_neg h1, if_neg h1]
      by_cases h3 : x.kind = 3
      · rw [if_pos h3, if_pos h3, hr, numOf_app (h h3)]
      · rw [if_neg h3, if_neg h3]
/-- A told thing of a valid account. -/
structure GoodT (x : Tl) : Prop where
  kind : x.kind = 1 ∨ x.kind = 2 ∨ x.kind = 3 ∨ x.kind = 4 ∨ x.kind = 5
  none : x.kind ≠ 3 → x.actN = 0
  text : x.kind ≠ 1 → x.text = ⟨#[]⟩
theorem goodT_link (l : Link) : GoodT (lTell l) := by
  unfold lTell
  by_cases h : l.has = true
  · rw [if_pos h]
    exact ⟨by simp, fun _ => rfl, fun _ => rfl⟩
  · rw [if_neg h]
    exact ⟨by simp, fun _ => rfl, fun _ => rfl⟩
theorem encT_link (K : List UInt8 → List KAct) (s : List UInt8) (l : Link) : encT K s (lTell l) = lTold l := by
  unfold lTell lTold encT
  by_cases h : l.has = true
  · simp [h]
  · simp [h]
theorem inK_link (K : List UInt8 → List KAct) (s : List UInt8) (l : Link) : InK K s (lTell l) := by
  unfold lTell InK
  by_cases h : l.has = true
  · simp [h]
  · simp [h]
theorem kinds_of {f : Nat → Deed} {n : Nat} (h : accOk f n = true) : ∀ p, p < n → ((f p).kind = 1 ∧ (f p).actN = 0) ∨ ((f p).kind = 2 ∧ (f p).actN = 0) ∨ (f p).kind = 3 := by
  intro p hp
  have h1 := firstNo_ok (accOk_n h).2.2 p hp
  simp only [deedOk, Bool.and_eq_true, kindOk] at h1
  obtain ⟨_, h2⟩ := h1
  split at h2
  · rename_i hk
    simp [unmadeOk] at h2
    exact .inl ⟨hk, h2.1.2⟩
  · split at h2
    · rename_i hk
      simp [unmadeOk] at h2
      exact .inr (.inl ⟨hk, h2.1.1.2⟩)
    · split at h2
      · rename_i hk
        exact .inr (.inr hk)
      · simp at h2
theorem goodT_deed {d : Deed} (h : (d.kind = 1 ∧ d.actN = 0) ∨ (d.kind = 2 ∧ d.actN = 0) ∨ d.kind = 3) : GoodT (dTell d) := by
  unfold dTell
  refine ⟨?_, fun hk => ?_, fun hk => ?_⟩
  · simp only
    omega
  · simp only at hk ⊢
    omega
  · simp only at hk ⊢
    rw [if_neg hk]
theorem encT_deed {K : List UInt8 → List KAct} {d : Deed} (h : (d.kind = 1 ∧ d.actN = 0) ∨ (d.kind = 2 ∧ d.actN = 0) ∨ d.kind = 3) : encT (dActs K d) d.name.toList (dTell d) = dTold K d ∧ InK (dActs K d) d.name.toList (dTell d) := by
  unfold dTell encT dTold InK
  simp only
  rcases h with ⟨h, -⟩ | ⟨h, -⟩ | h
  · simp [h]
  · simp [h]
  · have h1 : ¬ d.kind = 1 := by omega
    rw [if_neg h1, if_pos h, if_neg h1, if_pos h]
    have e : dActs K d d.name.toList = kputL (K d.name.toList) (d.actN, d.act) := by
      unfold dActs kput
      rw [if_pos h, if_pos rfl]
    have h2 := kputL_num (K d.name.toList) (d.actN, d.act)
    rw [e, h2.1]
    exact ⟨rfl, fun _ => h2.2⟩

theorem toldLk_iff {g : Nat → Link} {T : List UInt8 → Told → Prop} {s : List UInt8} {t : Told} {K : List UInt8 → List KAct} (j : Nat) : toldLk g T j s t ↔ T s t ∨ ∃ x ∈ tellLk g s j, t = encT K s x := by
  induction j with
  | zero => simp [toldLk, tellLk]
  | succ j ih =>
    rw [tellLk]
    show (((g j).ask = false ∧ s = (g j).name.toList ∧ t = lTold (g j)) ∨ toldLk g T j s t) ↔ _
    rw [ih]
    constructor
    · rintro (⟨h1, h2, h3⟩ | h | ⟨x, hx, h⟩)
      · refine .inr ⟨lTell (g j), List.mem_append_right _ ?_, by rw [encT_link]; exact h3⟩
        rw [if_pos ⟨h2.symm, h1⟩]
        exact List.mem_singleton.2 rfl
      · exact .inl h
      · exact .inr ⟨x, List.mem_append_left _ hx, h⟩
    · rintro (h | ⟨x, hx, h⟩)
      · exact .inr (.inl h)
      · rcases List.mem_append.1 hx with hx | hx
        · exact .inr (.inr ⟨x, hx, h⟩)
        · split at hx
          · rename_i hc
            rw [List.mem_singleton] at hx
            subst hx
            rw [encT_link] at h
            exact .inl ⟨hc.2, hc.1.symm, h⟩
          · cases hx
theorem tellLk_all {g : Nat → Link} {s : List UInt8} {j : Nat} {x : Tl} (h : x ∈ tellLk g s j) : ∃ i, i < j ∧ x = lTell (g i) ∧ (g i).name.toList = s := by
  induction j with
  | zero => cases h
  | succ j ih =>
    rw [tellLk] at h
    rcases List.mem_append.1 h with h | h
    · obtain ⟨i, hi, e⟩ := ih h
      exact ⟨i, by omega, e⟩
    · split at h
      · rename_i hc
        rw [List.mem_singleton] at h
        exact ⟨j, by omega, h, hc.1⟩
      · cases h
theorem tellsTo_good {f : Nat → Deed} {s : List UInt8} {k : Nat} (hk : ∀ p, p < k → ((f p).kind = 1 ∧ (f p).actN = 0) ∨ ((f p).kind = 2 ∧ (f p).actN = 0) ∨ (f p).kind = 3) : ∀ x ∈ tellsTo f s k, GoodT x := by
  induction k with
  | zero => intro x hx; cases hx
  | succ k ih =>
    intro x hx
    rw [tellsTo] at hx
    rcases List.mem_append.1 hx with hx | hx
    · rcases List.mem_append.1 hx with hx | hx
      · exact ih (fun p hp => hk p (by omega)) x hx
      · split at hx
        · rw [List.mem_singleton] at hx
          subst hx
          exact goodT_deed (hk k (by omega))
        · cases hx
    · obtain ⟨i, _, rfl, _⟩ := tellLk_all hx
      exact goodT_link _
theorem tellsTo_in {f : Nat → Deed} {K0 : List UInt8 → List KAct} {s : List UInt8} {k : Nat} (hk : ∀ p, p < k → ((f p).kind = 1 ∧ (f p).actN = 0) ∨ ((f p).kind = 2 ∧ (f p).actN = 0) ∨ (f p).kind = 3) : ∀ x ∈ tellsTo f s k, InK (actTo f K0 k) s x := by
  induction k with
  | zero => intro x hx; cases hx
  | succ k ih =>
    intro x hx
    rw [tellsTo] at hx
    rcases List.mem_append.1 hx with hx | hx
    · rcases List.mem_append.1 hx with hx | hx
      · exact ((ih (fun p hp => hk p (by omega)) x hx).ext (dActs_ext _ (f k))).1
      · split at hx
        · rename_i hc
          rw [List.mem_singleton] at hx
          subst hx
          rw [← hc]
          exact (encT_deed (hk k (by omega))).2
        · cases hx
    · obtain ⟨i, _, rfl, _⟩ := tellLk_all hx
      exact inK_link _ _ _
theorem toldTo_iff {f : Nat → Deed} {K0 : List UInt8 → List KAct} {s : List UInt8} {t : Told} {k : Nat} (hk : ∀ p, p < k → ((f p).kind = 1 ∧ (f p).actN = 0) ∨ ((f p).kind = 2 ∧ (f p).actN = 0) ∨ (f p).kind = 3) : toldTo f K0 k s t ↔ ∃ x ∈ tellsTo f s k, t = encT (actTo f K0 k) s x := by
  induction k with
  | zero => simp [toldTo, tellsTo]
  | succ k ih =>
    have hk' : ∀ p, p < k → ((f p).kind = 1 ∧ (f p).actN = 0) ∨ ((f p).kind = 2 ∧ (f p).actN = 0) ∨ (f p).kind = 3 := fun p hp => hk p (by omega)
    rw [toldTo, toldLk_iff (K := actTo f K0 (k + 1)), ih hk']
    constructor
    · rintro ((⟨h1, h2⟩ | ⟨x, hx, h⟩) | ⟨x, hx, h⟩)
      · refine ⟨dTell (f k), ?_, ?_⟩
        · rw [tellsTo]
          refine List.mem_append_left _ (List.mem_append_right _ ?_)
          rw [if_pos h1.symm]
          exact List.mem_singleton.2 rfl
        · rw [h1]
          exact h2.trans (encT_deed (hk k (by omega))).1.symm
      · refine ⟨x, ?_, ?_⟩
        · rw [tellsTo]
          exact List.mem_append_left _ (List.mem_append_left _ hx)
        · exact h.trans ((tellsTo_in hk' x hx).ext (dActs_ext _ (f k))).2.symm
      · exact ⟨x, by rw [tellsTo]; exact List.mem_append_right _ hx, h⟩
    · rintro ⟨x, hx, h⟩
      rw [tellsTo] at hx
      rcases List.mem_append.1 hx with hx | hx
      · rcases List.mem_append.1 hx with hx | hx
        · exact .inl (.inr ⟨x, hx, h.trans ((tellsTo_in hk' x hx).ext (dActs_ext _ (f k))).2⟩)
        · split at hx
          · rename_i hc
            rw [List.mem_singleton] at hx
            subst hx
            rw [← hc] at h
            exact .inl (.inl ⟨hc.symm, h.trans (encT_deed (hk k (by omega))).1⟩)
          · cases hx
      · exact .inr ⟨x, hx, h⟩

theorem goes_agree {K : List UInt8 → List KAct} {s : List UInt8} {x y : Tl} (hx : GoodT x) (hy : GoodT y) (ix : InK K s x) (iy : InK K s y) : goesB (encT K s x) (encT K s y) = agreeB x y := by
  have hnum : x.kind = 3 → y.kind = 3 → (((numOf (K s) (x.actN, x.act) : Nat) : Int) == ((numOf (K s) (y.actN, y.act) : Nat) : Int)) = codeB x.act y.act x.actN y.actN := by
    intro h1 h2
    have := numOf_eq_iff (ix h1) (iy h2)
    cases e : codeB x.act y.act x.actN y.actN with
    | true =>
      have h3 := this.2 e
      rw [h3]
      simp
    | false =>
      have h3 : ¬ numOf (K s) (x.actN, x.act) = numOf (K s) (y.actN, y.act) := fun h => by
        have := this.1 h
        unfold sameA at this
        rw [e] at this
        cases this
      have h4 : ¬ ((numOf (K s) (x.actN, x.act) : Nat) : Int) = (numOf (K s) (y.actN, y.act) : Nat) := by omega
      simpa using h4
  have hc0 : x.kind ≠ 3 → y.kind ≠ 3 → codeB x.act y.act x.actN y.actN = true := fun h1 h2 => by
    rw [hx.none h1, hy.none h2]
    exact codeB_iff.2 ⟨rfl, fun i hi => absurd hi (Nat.not_lt_zero _)⟩
  have ht : x.kind ≠ 1 → y.kind ≠ 1 → x.text = y.text := fun h1 h2 => by rw [hx.text h1, hy.text h2]
  unfold goesB encT agreeB thereB
  rcases hx.kind with a | a | a | a | a <;> rcases hy.kind with c | c | c | c | c
  all_goals simp only [a, c, if_true, if_false, Int.reduceEq, Int.reduceBEq, Int.reduceLT, decide_true, decide_false, Bool.or_true, Bool.or_false, Bool.and_true, Bool.and_false, Bool.true_and, Bool.false_and, Bool.not_true, Bool.not_false, bne_self_eq_false, Bool.false_eq_true, Bool.bne_true, Bool.bne_false]
  · rw [hc0 (by omega) (by omega), Bool.and_true]
  · exact beq_self_eq_true _
  · exact beq_self_eq_true _
  · rw [hnum a c, ht (by omega) (by omega), beq_self_eq_true, beq_self_eq_true]
  · exact beq_self_eq_true _
  · exact beq_self_eq_true _

end Go.Proofs.YtkgddbcjmejfaaaGreatDoor.Vp
