/-
  impl: moved.
-/
import Derived.Test.YtkikpcklccdihaaDoorZCuCopy
import Derived.Deep.DeepCutAuto
namespace Go.Proofs.YtkikpcklccdihaaDoor.Vp
open Go.RowKit Go.Proofs.YtkikpcklccdihaaDoor.Ca

/-- A box of a deed that may be written. -/
structure Six (w : World) (b : Nat) (v0 v1 v2 v3 v4 v5 : Value) : Prop where
  lt : b < w.heap.size
  c0 : w.cell? ⟨b, 0, none⟩ = some v0 ∧ w.frozen? ⟨b, 0, none⟩ = false
  c1 : w.cell? ⟨b, 1, none⟩ = some v1 ∧ w.frozen? ⟨b, 1, none⟩ = false
  c2 : w.cell? ⟨b, 2, none⟩ = some v2 ∧ w.frozen? ⟨b, 2, none⟩ = false
  c3 : w.cell? ⟨b, 3, none⟩ = some v3 ∧ w.frozen? ⟨b, 3, none⟩ = false
  c4 : w.cell? ⟨b, 4, none⟩ = some v4 ∧ w.frozen? ⟨b, 4, none⟩ = false
  c5 : w.cell? ⟨b, 5, none⟩ = some v5 ∧ w.frozen? ⟨b, 5, none⟩ = false
theorem Six.blk {w w' : World} {b : Nat} {v0 v1 v2 v3 v4 v5 : Value} (h : Six w b v0 v1 v2 v3 v4 v5) (hz : w.heap.size ≤ w'.heap.size) (e : w'.heap[b]? = w.heap[b]?) : Six w' b v0 v1 v2 v3 v4 v5 :=
  have c : ∀ o, w'.cell? ⟨b, o, none⟩ = w.cell? ⟨b, o, none⟩ := fun o => World.cell?_of_block (a := ⟨b, o, none⟩) e
  have f : ∀ o, w'.frozen? ⟨b, o, none⟩ = w.frozen? ⟨b, o, none⟩ := fun o => World.frozen?_of_block (a := ⟨b, o, none⟩) e
  ⟨Nat.lt_of_lt_of_le h.lt hz, ⟨(c 0).trans h.c0.1, (f 0).trans h.c0.2⟩, ⟨(c 1).trans h.c1.1, (f 1).trans h.c1.2⟩, ⟨(c 2).trans h.c2.1, (f 2).trans h.c2.2⟩, ⟨(c 3).trans h.c3.1, (f 3).trans h.c3.2⟩, ⟨(c 4).trans h.c4.1, (f 4).trans h.c4.2⟩, ⟨(c 5).trans h.c5.1, (f 5).trans h.c5.2⟩⟩
theorem Six.below {w w' : World} {b B : Nat} {v0 v1 v2 v3 v4 v5 : Value} (h : Six w b v0 v1 v2 v3 v4 v5) (hb : Below B w w') (hB : b < B) : Six w' b v0 v1 v2 v3 v4 v5 := h.blk hb.size (hb.block b hB)
theorem Six.far {w : World} {b : Nat} {v0 v1 v2 v3 v4 v5 : Value} (h : Six w b v0 v1 v2 v3 v4 v5) {p : Addr} (hp : p.block ≠ b) (v : Value) : Six (w.setCell p v) b v0 v1 v2 v3 v4 v5 := h.blk (by simp) (Below.heap_setCell _ _ _ _ (fun e => hp e.symm))
theorem Six.set4 {w : World} {b : Nat} {v0 v1 v2 v3 v4 v5 : Value} (h : Six w b v0 v1 v2 v3 v4 v5) (v : Value) : Six (w.setCell ⟨b, 4, none⟩ v) b v0 v1 v2 v3 v v5 :=
  ⟨by simpa using h.lt, ⟨(World.cell?_setCell_other _ _ _ _ (by simp)).trans h.c0.1, by simpa using h.c0.2⟩, ⟨(World.cell?_setCell_other _ _ _ _ (by simp)).trans h.c1.1, by simpa using h.c1.2⟩, ⟨(World.cell?_setCell_other _ _ _ _ (by simp)).trans h.c2.1, by simpa using h.c2.2⟩, ⟨(World.cell?_setCell_other _ _ _ _ (by simp)).trans h.c3.1, by simpa using h.c3.2⟩, ⟨World.cell?_setCell_same' _ _ _ (by rw [h.c4.1]; rfl), by simpa using h.c4.2⟩, ⟨(World.cell?_setCell_other _ _ _ _ (by simp)).trans h.c5.1, by simpa using h.c5.2⟩⟩
theorem Six.set5 {w : World} {b : Nat} {v0 v1 v2 v3 v4 v5 : Value} (h : Six w b v0 v1 v2 v3 v4 v5) (v : Value) : Six (w.setCell ⟨b, 5, none⟩ v) b v0 v1 v2 v3 v4 v :=
  ⟨by simpa using h.lt, ⟨(World.cell?_setCell_other _ _ _ _ (by simp)).trans h.c0.1, by simpa using h.c0.2⟩, ⟨(World.cell?_setCell_other _ _ _ _ (by simp)).trans h.c1.1, by simpa using h.c1.2⟩, ⟨(World.cell?_setCell_other _ _ _ _ (by simp)).trans h.c2.1, by simpa using h.c2.2⟩, ⟨(World.cell?_setCell_other _ _ _ _ (by simp)).trans h.c3.1, by simpa using h.c3.2⟩, ⟨(World.cell?_setCell_other _ _ _ _ (by simp)).trans h.c4.1, by simpa using h.c4.2⟩, ⟨World.cell?_setCell_same' _ _ _ (by rw [h.c5.1]; rfl), by simpa using h.c5.2⟩⟩
theorem six_new (w : World) (v0 v1 v2 v3 v4 v5 : Value) (t : TypeId) : Six (w.alloc (.cells #[v0, v1, v2, v3, v4, v5] t)) w.heap.size v0 v1 v2 v3 v4 v5 := by
  refine ⟨by simp, ?_, ?_, ?_, ?_, ?_, ?_⟩ <;> simp
theorem six_two (w : World) (v0 v1 v2 v3 v4 v5 u0 u1 u2 u3 u4 u5 : Value) (t : TypeId) : Six ((w.alloc (.cells #[v0, v1, v2, v3, v4, v5] t)).alloc (.cells #[u0, u1, u2, u3, u4, u5] t)) w.heap.size v0 v1 v2 v3 v4 v5 ∧ Six ((w.alloc (.cells #[v0, v1, v2, v3, v4, v5] t)).alloc (.cells #[u0, u1, u2, u3, u4, u5] t)) (w.heap.size + 1) u0 u1 u2 u3 u4 u5 := by
  have hz : (w.alloc (.cells #[v0, v1, v2, v3, v4, v5] t)).heap.size = w.heap.size + 1 := by simp
  refine ⟨(six_new w v0 v1 v2 v3 v4 v5 t).below ((Below.refl (w.heap.size + 1) _).alloc (by omega) _) (Nat.lt_succ_self _), ?_⟩
  have := six_new (w.alloc (.cells #[v0, v1, v2, v3, v4, v5] t)) u0 u1 u2 u3 u4 u5 t
  rw [hz] at this
  exact this

set_option maxRecDepth 100000 in
set_option maxHeartbeats 8000000 in
theorem moved_any (x : Deed) (b0 o0 c0 b1 o1 c1 pb np cp : Nat) (L : List Nat) (w : World) (hfit : FitsDeed x) (hr0 : RowIns w b0 o0 x.actN x.act) (hr1 : RowLink w b1 o1 x.linksN x.links) (hpb : pb < w.heap.size)
    (hpl : ∀ j, j < x.linksN → (x.links j).ask = true → 0 ≤ (x.links j).at_ ∧ (x.links j).at_.toNat < np ∧ w.cell? ⟨pb, (x.links j).at_.toNat, none⟩ = some (.int .i64 ((L.idxOf (x.links j).at_.toNat : Nat) : Int))) :
    Calls Tryd.prog 31 #[.agg #[.string x.name, .int .i64 x.kind, .int .i64 x.code, .string x.text, .slice (some ⟨b0, o0, none⟩) x.actN c0, .slice (some ⟨b1, o1, none⟩) x.linksN c1], .slice (some ⟨pb, 0, none⟩) np cp] w fun e w' => ∃ a4 d4 a5 d5, e = .returned (.agg #[.string x.name, .int .i64 x.kind, .int .i64 x.code, .string x.text, .slice a4 x.actN d4, .slice a5 x.linksN d5]) ∧ DSub w' w.heap.size ({ x with links := fun j => mvLink L (x.links j) }, .slice a4 x.actN d4, .slice a5 x.linksN d5) ∧ Below w.heap.size w w' := by
  obtain ⟨hf0, hf1⟩ := hfit
  have A0 := hide (((Below.refl w.heap.size w).alloc (Nat.le_refl _) (.cells #[.string x.name, .int .i64 x.kind, .int .i64 x.code, .string x.text, .slice (some ⟨b0, o0, none⟩) x.actN c0, .slice (some ⟨b1, o1, none⟩) x.linksN c1] 49)).alloc (by simp) (.cells #[.string ⟨#[]⟩, .int .i64 0, .int .i64 0, .string ⟨#[]⟩, .slice none 0 0, .slice none 0 0] 49))
  have SS := six_two w (.string x.name) (.int .i64 x.kind) (.int .i64 x.code) (.string x.text) (.slice (some ⟨b0, o0, none⟩) x.actN c0) (.slice (some ⟨b1, o1, none⟩) x.linksN c1) (.string ⟨#[]⟩) (.int .i64 0) (.int .i64 0) (.string ⟨#[]⟩) (.slice none 0 0) (.slice none 0 0) 49
  have X0 := hide SS.1
  have Y0 := hide SS.2
  have R0 := hide (hr0.below A0.out (Nat.le_refl _))
  have HR1 := hide hr1
  have HPL := hide hpl
  have hz0 : ((w.alloc (.cells #[.string x.name, .int .i64 x.kind, .int .i64 x.code, .string x.text, .slice (some ⟨b0, o0, none⟩) x.actN c0, .slice (some ⟨b1, o1, none⟩) x.linksN c1] 49)).alloc (.cells #[.string ⟨#[]⟩, .int .i64 0, .int .i64 0, .string ⟨#[]⟩, .slice none 0 0, .slice none 0 0] 49)).heap.size = w.heap.size + 2 := by simp
  clear hr0 hr1 hpl SS
  go_enter Tryd.func31, Tryd.ntmps31
  go_wp2_with fail
  generalize (w.alloc (.cells #[.string x.name, .int .i64 x.kind, .int .i64 x.code, .string x.text, .slice (some ⟨b0, o0, none⟩) x.actN c0, .slice (some ⟨b1, o1, none⟩) x.linksN c1] 49)).alloc (.cells #[.string ⟨#[]⟩, .int .i64 0, .int .i64 0, .string ⟨#[]⟩, .slice none 0 0, .slice none 0 0] 49) = W0 at A0 X0 Y0 R0 hz0 ⊢
  refine (copyProgram_row b0 o0 x.actN c0 x.act _ (by omega) R0.out).mono ?_
  rintro e w1 ⟨g0, d0, rfl, hO0, hB0⟩
  have D1 := hide hB0
  have O1 := hide hO0
  have hg0 := (own_lt hO0).1
  rw [hz0] at hg0
  clear hO0 hB0
  have X1 := hide (X0.out.below D1.out (by omega))
  have Y1 := hide (Y0.out.below D1.out (by omega))
  obtain ⟨x4, z4⟩ := X1.out.c4
  have x5 := X1.out.c5.1
  have X2 := hide (X1.out.set4 (.slice (some ⟨g0, 0, none⟩) x.actN d0))
  have Y2 := hide (Y1.out.far (p := ⟨w.heap.size, 4, none⟩) (by simp) (.slice (some ⟨g0, 0, none⟩) x.actN d0))
  have B2 := hide ((A0.out.trans (D1.out.mono A0.out.size)).setCell (p := ⟨w.heap.size, 4, none⟩) (Nat.le_refl _) (.slice (some ⟨g0, 0, none⟩) x.actN d0))
  have O2 := hide (own_set (R := w.heap.size) (j := 4) O1.out (by omega) (.slice (some ⟨g0, 0, none⟩) x.actN d0))
  have R2 : Hid (RowLink (w1.setCell ⟨w.heap.size, 4, none⟩ (.slice (some ⟨g0, 0, none⟩) x.actN d0)) b1 o1 x.linksN x.links) := HR1.out.below B2.out (Nat.le_refl _)
  have hz1 : w.heap.size + 2 ≤ (w1.setCell ⟨w.heap.size, 4, none⟩ (.slice (some ⟨g0, 0, none⟩) x.actN d0)).heap.size := by have := D1.out.size; simp; omega
  have y5 := X2.out.c5.1
  go_wp2_with fail
  generalize w1.setCell ⟨w.heap.size, 4, none⟩ (.slice (some ⟨g0, 0, none⟩) x.actN d0) = W2 at X2 Y2 B2 O2 R2 hz1 y5 ⊢
  clear x4 z4 x5 X1 Y1 O1 D1
  refine (cloneLink_row b1 o1 x.linksN c1 x.links _ (by omega) R2.out).mono ?_
  rintro e w3 ⟨g1, d1, rfl, hO3, hB3⟩
  have D3 := hide hB3
  have hg1 := (own_lt hO3).1
  have X3 := hide (X2.out.below D3.out (by omega))
  have Y3 := hide (Y2.out.below D3.out (by omega))
  obtain ⟨x5, z5⟩ := X3.out.c5
  have X4 := hide (X3.out.set5 (.slice (some ⟨g1, 0, none⟩) x.linksN d1))
  have Y4 := hide (Y3.out.far (p := ⟨w.heap.size, 5, none⟩) (by simp) (.slice (some ⟨g1, 0, none⟩) x.linksN d1))
  have B4 := hide ((B2.out.trans (D3.out.mono B2.out.size)).setCell (p := ⟨w.heap.size, 5, none⟩) (Nat.le_refl _) (.slice (some ⟨g1, 0, none⟩) x.linksN d1))
  have O4 := hide (own_set (R := w.heap.size) (j := 5) (own_mono (own_below O2.out D3.out (Nat.le_refl _)) (show w.heap.size + 2 ≤ W0.heap.size by omega)) (by omega) (.slice (some ⟨g1, 0, none⟩) x.linksN d1))
  have P4 := hide (own_set (R := w.heap.size) (j := 5) (own_mono hO3 (show w.heap.size + 2 ≤ W2.heap.size by omega)) (by omega) (.slice (some ⟨g1, 0, none⟩) x.linksN d1))
  have hgl : g0 ≠ g1 := fun e => by
    have h1 := cu_ty (own_below O2.out D3.out (Nat.le_refl _)) g0 rfl
    have h2 := cu_ty hO3 g1 rfl
    rw [e] at h1
    exact h1.ne (by decide) h2
  clear hO3 hB3
  have y6 := X4.out.c5.1
  go_wp2
  generalize w3.setCell ⟨w.heap.size, 5, none⟩ (.slice (some ⟨g1, 0, none⟩) x.linksN d1) = W4 at X4 Y4 B4 O4 P4 y6 ⊢
  clear x5 z5 X3 Y3 X2 Y2 D3 y5 y6 O2 R2
  go_loopw [18] (fun i wr => ∃ k : Nat, k ≤ x.linksN ∧ i = .int .i64 k ∧ Hid (Six wr w.heap.size (.string x.name) (.int .i64 x.kind) (.int .i64 x.code) (.string x.text) (.slice (some ⟨g0, 0, none⟩) x.actN d0) (.slice (some ⟨g1, 0, none⟩) x.linksN d1)) ∧ Hid (Six wr (w.heap.size + 1) (.string ⟨#[]⟩) (.int .i64 0) (.int .i64 0) (.string ⟨#[]⟩) (.slice none 0 0) (.slice none 0 0)) ∧ Hid (wr.ownsRow (w.heap.size + 2) 92 3 (.slice (some ⟨g0, 0, none⟩) x.actN d0) x.actN (insL x.act x.actN)) ∧ Hid (wr.ownsRow (w.heap.size + 2) 51 4 (.slice (some ⟨g1, 0, none⟩) x.linksN d1) x.linksN (lnkL (mvTo L x.links k) x.linksN)) ∧ Hid (Below w.heap.size w wr)) (fun i _ => x.linksN - (intOf i).toNat)
  case atStart => exact ⟨0, by omega, rfl, X4.out, Y4.out, O4.out, by rw [mvTo_zero]; exact P4.out, B4.out⟩
  case round =>
    clear X4 Y4 O4 P4 B4
    obtain ⟨k, hk, rfl, X5, Y5, O5, P5, B5⟩ := hrel
    by_cases hlt : k < x.linksN
    · have hcell : ∀ j, j < 4 → ∀ u, (lnkV (x.links k))[j]? = some u → wr.cell? ⟨g1, k * 4 + j, none⟩ = some u ∧ wr.frozen? ⟨g1, k * 4 + j, none⟩ = false := fun j hj u hu => own_cell P5.out (by rw [linkL_at _ hlt j hj, show mvTo L x.links k k = x.links k by simp [mvTo]]; exact hu)
      obtain ⟨f0, _⟩ := hcell 0 (by omega) _ rfl
      obtain ⟨f1, _⟩ := hcell 1 (by omega) _ rfl
      obtain ⟨f2, _⟩ := hcell 2 (by omega) _ rfl
      obtain ⟨f3, r3⟩ := hcell 3 (by omega) _ rfl
      clear hcell
      rw [show k * 4 + 0 = k * 4 by omega] at f0
      have hpl := HPL.out k hlt
      have hms := mvTo_same (L := L) (f := x.links) (i := k)
      have hma := mvTo_ask (L := L) (f := x.links) (i := k)
      generalize x.links k = y at f0 f1 f2 f3 hpl hms hma
      have HP := hide hpl
      have HMS := hide hms
      have HMA := hide hma
      clear hpl hms hma
      have hg1w : g1 < wr.heap.size := (own_lt P5.out).2
      have hXw := X5.out.lt
      have D6 := hide ((Below.refl wr.heap.size wr).alloc (Nat.le_refl _) (.cells #[.string y.name, .bool y.ask, .bool y.has, .int .i64 y.at_] 51))
      have X6 := hide (X5.out.below D6.out hXw)
      have Y6 := hide (Y5.out.below D6.out Y5.out.lt)
      have O6 := hide (O5.out.alloc (.cells #[.string y.name, .bool y.ask, .bool y.has, .int .i64 y.at_] 51))
      have P6 := hide (P5.out.alloc (.cells #[.string y.name, .bool y.ask, .bool y.has, .int .i64 y.at_] 51))
      have B6 := hide (B5.out.alloc B5.out.size (.cells #[.string y.name, .bool y.ask, .bool y.has, .int .i64 y.at_] 51))
      have h3 := (D6.out.cell (p := ⟨g1, k * 4 + 3, none⟩) hg1w).trans f3
      have hr3 := (D6.out.frozen (p := ⟨g1, k * 4 + 3, none⟩) hg1w).trans r3
      have e1 : (wr.alloc (.cells #[.string y.name, .bool y.ask, .bool y.has, .int .i64 y.at_] 51)).cell? ⟨wr.heap.size, 1, none⟩ = some (.bool y.ask) := by simp
      have e3 : (wr.alloc (.cells #[.string y.name, .bool y.ask, .bool y.has, .int .i64 y.at_] 51)).cell? ⟨wr.heap.size, 3, none⟩ = some (.int .i64 y.at_) := by simp
      go_upto_if 24 with fail
      generalize wr.alloc (.cells #[.string y.name, .bool y.ask, .bool y.has, .int .i64 y.at_] 51) = W6 at D6 X6 Y6 O6 P6 B6 e1 e3 h3 hr3 ⊢
      clear f0 f1 f2 f3 r3
      cases hask : y.ask with
      | false =>
        have HE := hide (HMS.out hask)
        rw [hask] at e1
        go_wp2
        exact ⟨⟨k + 1, by omega, by go_num, X6.out, Y6.out, O6.out, by rw [HE.out]; exact P6.out, B6.out⟩, by simp [intOf]; omega⟩
      | true =>
        have HE := hide (HMA.out hask)
        obtain ⟨hq0, hqn, hpc⟩ := HP.out hask
        obtain ⟨q, hq⟩ : ∃ q : Nat, y.at_ = (q : Int) := ⟨y.at_.toNat, by omega⟩
        rw [hq] at hq0 hqn hpc e3 HE
        simp only [Int.toNat_natCast] at hqn hpc HE
        have hpc6 := (B6.out.cell (p := ⟨pb, q, none⟩) hpb).trans hpc
        have hqi : (q : Int) < np := by omega
        have x5 := X6.out.c5.1
        rw [hask] at e1
        generalize ((L.idxOf q : Nat) : Int) = ix at hpc hpc6 HE
        have D7 := hide (Below.refl W6.heap.size W6).drew
        have hz6 : W6.heap.size = W6.drew.heap.size := rfl
        have X7 := hide ((X6.out.below D7.out X6.out.lt).far (p := ⟨g1, k * 4 + 3, none⟩) (by show g1 ≠ w.heap.size; omega) (.int .i64 ix))
        have Y7 := hide ((Y6.out.below D7.out Y6.out.lt).far (p := ⟨g1, k * 4 + 3, none⟩) (by show g1 ≠ w.heap.size + 1; omega) (.int .i64 ix))
        have O7 := hide (cu_blk (w' := W6.drew.setCell ⟨g1, k * 4 + 3, none⟩ (.int .i64 ix)) (own_below O6.out D7.out (Nat.le_refl _)) (fun j hj _ => Below.heap_setCell _ _ _ _ (by simp [Value.ownBlock] at hj; subst hj; exact hgl)))
        have P7 := hide (own_setLink (own_below P6.out D7.out (Nat.le_refl _)) hlt ix)
        have B7 := hide ((B6.out.trans (D7.out.mono B6.out.size)).setCell (p := ⟨g1, k * 4 + 3, none⟩) (by show w.heap.size ≤ g1; omega) (.int .i64 ix))
        go_wp2_with fail
        go_region
        all_goals
          go_wp2
          exact ⟨⟨k + 1, by omega, by go_num, X7.out, Y7.out, O7.out, by rw [HE.out]; exact P7.out, B7.out⟩, by simp [intOf]; omega⟩
    · have e : k = x.linksN := by omega
      subst e
      obtain ⟨a0, _⟩ := X5.out.c0
      obtain ⟨a1, _⟩ := X5.out.c1
      obtain ⟨a2, _⟩ := X5.out.c2
      obtain ⟨a3, _⟩ := X5.out.c3
      obtain ⟨a4, _⟩ := X5.out.c4
      obtain ⟨a5, _⟩ := X5.out.c5
      obtain ⟨r0, q0⟩ := Y5.out.c0
      obtain ⟨r1, q1⟩ := Y5.out.c1
      obtain ⟨r2, q2⟩ := Y5.out.c2
      obtain ⟨r3, q3⟩ := Y5.out.c3
      obtain ⟨r4, q4⟩ := Y5.out.c4
      obtain ⟨r5, q5⟩ := Y5.out.c5
      have OF := hide (own_set (own_set (own_set (own_set (own_set (own_set (own_mono O5.out (show w.heap.size + 2 ≤ w.heap.size + 2 by omega)) (R := w.heap.size + 1) (j := 0) (by omega) (.string x.name)) (R := w.heap.size + 1) (j := 1) (by omega) (.int .i64 x.kind)) (R := w.heap.size + 1) (j := 2) (by omega) (.int .i64 x.code)) (R := w.heap.size + 1) (j := 3) (by omega) (.string x.text)) (R := w.heap.size + 1) (j := 4) (by omega) (.slice (some ⟨g0, 0, none⟩) x.actN d0)) (R := w.heap.size + 1) (j := 5) (by omega) (.slice (some ⟨g1, 0, none⟩) x.linksN d1))
      have PF := hide (own_set (own_set (own_set (own_set (own_set (own_set P5.out (R := w.heap.size + 1) (j := 0) (by omega) (.string x.name)) (R := w.heap.size + 1) (j := 1) (by omega) (.int .i64 x.kind)) (R := w.heap.size + 1) (j := 2) (by omega) (.int .i64 x.code)) (R := w.heap.size + 1) (j := 3) (by omega) (.string x.text)) (R := w.heap.size + 1) (j := 4) (by omega) (.slice (some ⟨g0, 0, none⟩) x.actN d0)) (R := w.heap.size + 1) (j := 5) (by omega) (.slice (some ⟨g1, 0, none⟩) x.linksN d1))
      have BF := hide ((((((B5.out.setCell (p := ⟨w.heap.size + 1, 0, none⟩) (Nat.le_succ _) (.string x.name)).setCell (p := ⟨w.heap.size + 1, 1, none⟩) (Nat.le_succ _) (.int .i64 x.kind)).setCell (p := ⟨w.heap.size + 1, 2, none⟩) (Nat.le_succ _) (.int .i64 x.code)).setCell (p := ⟨w.heap.size + 1, 3, none⟩) (Nat.le_succ _) (.string x.text)).setCell (p := ⟨w.heap.size + 1, 4, none⟩) (Nat.le_succ _) (.slice (some ⟨g0, 0, none⟩) x.actN d0)).setCell (p := ⟨w.heap.size + 1, 5, none⟩) (Nat.le_succ _) (.slice (some ⟨g1, 0, none⟩) x.linksN d1))
      go_wp2
      exact bodyPost_ret (v := .agg #[.string x.name, .int .i64 x.kind, .int .i64 x.code, .string x.text, .slice (some ⟨g0, 0, none⟩) x.actN d0, .slice (some ⟨g1, 0, none⟩) x.linksN d1]) (by simp [results, Tryd.results31, go_sem, r0, r1, r2, r3, r4, r5]) rfl ⟨_, d0, _, d1, rfl, ⟨own_mono OF.out (by omega), by rw [← mvTo_all]; exact own_mono PF.out (by omega)⟩, BF.out⟩

end Go.Proofs.YtkikpcklccdihaaDoor.Vp
