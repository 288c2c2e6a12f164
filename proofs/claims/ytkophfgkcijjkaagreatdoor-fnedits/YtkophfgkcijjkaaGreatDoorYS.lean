import Derived.Test.YtkophfgkcijjkaaGreatDoorYR
import Derived.Deep.RegionHeld3
namespace Go.Proofs.YtkophfgkcijjkaaGreatDoor.Vp
open Go.RowKit Go.Maps Go.Proofs.YtkophfgkcijjkaaGreatDoor.Ca
def MadeAt (w : World) (S : Spc) (w' : World) (made : List Ent) (mdv : Value) : Prop :=
  ∃ (G : ByteArray → Nat) (V : ByteArray → Value), w'.ownsRow w.heap.size 135 1 mdv made.length (ptrV G made) ∧ (∀ x ∈ made, EntAt w S G w' (G x.name) (V x.name) x) ∧ made.Pairwise fun x y => G x.name ≠ G y.name
def ResAt (w w' : World) (r : ResL) (v : Value) : Prop := ∃ a c, v = .agg #[.int .i64 r.code, .string r.text, .slice a r.chain.length c] ∧ w'.ownsRow w.heap.size 9 1 (.slice a r.chain.length c) r.chain.length (strV r.chain)
def BuildPost (w : World) (S : Spc) (b : List Ent × ResL) (e : Ending) (w' : World) : Prop :=
  ∃ wb mdv rv, Below w.heap.size w wb ∧ e = .returned (.tuple #[mdv, rv]) ∧ MadeAt wb S w' b.1 mdv ∧ ResAt w w' b.2 rv ∧ Below w.heap.size w w' ∧ (b.1 ≠ [] → ∀ b off n f, 0 < n → RowIns wb b off n f → RowIns w' b off n f)
theorem not_ins1 {w : World} {b off n : Nat} {f : Nat → Ins} {a : Option Addr} {m c : Nat} {t : TypeId} (h : w.heap[b]? = some (.cells #[.slice a m c] t (0, 0))) (hn : 0 < n) (hr : RowIns w b off n f) : False := by
  have h0 := (hr.2 0 hn).1
  simp only [World.cell?, h, Nat.zero_mul, Nat.add_zero] at h0
  match off, h0 with
  | 0, h0 => simp at h0
  | k + 1, h0 => simp at h0
theorem not_ins3 {w : World} {b off n : Nat} {f : Nat → Ins} {z : Int} {x : ByteArray} {a : Option Addr} {m c : Nat} {t : TypeId} (h : w.heap[b]? = some (.cells #[.int .i64 z, .string x, .slice a m c] t (0, 0))) (hn : 0 < n) (hr : RowIns w b off n f) : False := by
  have h0 := (hr.2 0 hn).1
  have h2 := (hr.2 0 hn).2.2
  simp only [World.cell?, h, Nat.zero_mul, Nat.add_zero] at h0 h2
  match off, h0, h2 with
  | 0, h0, h2 => simp at h2
  | 1, h0, h2 => simp at h0
  | 2, h0, h2 => simp at h0
  | k + 3, h0, h2 => simp at h0
theorem made_nil (w : World) (S : Spc) (w' : World) : MadeAt w S w' [] (.slice none 0 0) := ⟨fun _ => 0, fun _ => .slice none 0 0, ⟨rfl, .inl ⟨rfl, rfl⟩⟩, fun _ hx => absurd hx List.not_mem_nil, List.Pairwise.nil⟩
theorem res_plain (w w' : World) (c : Int) (t : ByteArray) : ResAt w w' ⟨c, t, []⟩ (.agg #[.int .i64 c, .string t, .slice none 0 0]) := ⟨none, 0, rfl, ⟨rfl, .inl ⟨rfl, rfl⟩⟩⟩
set_option maxRecDepth 100000 in
set_option maxHeartbeats 4000000 in
theorem result_any (nm tx : ByteArray) (kd cd : Int) (aa : Option Addr) (na ca : Nat) (w : World) :
    Calls Tryz.prog 146 #[.agg #[.string nm, .int .i64 kd, .int .i64 cd, .string tx, .slice aa na ca, .slice none 0 0]] w fun e w' => e = .returned (if kd = 2 then .agg #[.int .i64 4, .string nm, .slice none 0 0] else .agg #[.int .i64 cd, .string tx, .slice none 0 0]) ∧ Below w.heap.size w w' := by
  have A0 := hide ((Below.refl w.heap.size w).alloc (Nat.le_refl _) (.cells #[.string nm, .int .i64 kd, .int .i64 cd, .string tx, .slice aa na ca, .slice none 0 0] 67))
  by_cases hk : kd = 2
  · rw [if_pos hk]
    have hk2 : (kd == 2) = true := by simpa using hk
    go_enter Tryz.func146, Tryz.ntmps146
    go_wp2
    refine bodyPost_ret (v := .agg #[.int .i64 4, .string nm, .slice none 0 0]) (by simp [results, Tryz.results146, go_sem]) rfl ⟨rfl, ?_⟩
    exact ((Below.refl w.heap.size w).alloc (Nat.le_refl _) _).alloc (by simp) _
  · rw [if_neg hk]
    have hk2 : (kd == 2) = false := by simpa using hk
    go_enter Tryz.func146, Tryz.ntmps146
    go_wp2
    refine bodyPost_ret (v := .agg #[.int .i64 cd, .string tx, .slice none 0 0]) (by simp [results, Tryz.results146, go_sem]) rfl ⟨rfl, ?_⟩
    exact A0.out.alloc A0.out.size _
section
variable {S : Spc} {a0 a1 : Option Addr} {c0 c1 : Nat}
set_option maxRecDepth 1000000 in
set_option maxHeartbeats 8000000 in
theorem build_bad (w : World) (nm : ByteArray) (hv0 : SlSource w a0 S.n0 S.f0) (hv1 : SlTarget w a1 S.n1 S.f1) (hn0 : S.n0 ≤ 1048576) (hn1 : S.n1 ≤ 1048576) (hfit : ∀ i, i < S.n1 → FitsTarget (S.f1 i)) (hT : Tab w) (hbad : ¬ (checkC S.n0 S.f0 S.n1 S.f1 = 0 ∧ nameOk nm = true)) :
    Calls Tryz.prog 75 #[.agg #[.slice a0 S.n0 c0, .slice a1 S.n1 c1], .string nm] w fun e w' => BuildPost w S ([], ⟨9, ⟨#[]⟩, []⟩) e w' := by
  have V0 := hide hv0
  have V1 := hide hv1
  have HFT := hide hfit
  have HT1 := hide hT
  obtain ⟨ck, hck⟩ : ∃ ck, ck = checkC S.n0 S.f0 S.n1 S.f1 := ⟨_, rfl⟩
  have HCK := hide hck
  have HBD := hide hbad
  clear hv0 hv1 hfit hT hck hbad
  have A0 := hide ((((Below.refl w.heap.size w).alloc (Nat.le_refl _) (.cells #[.slice a0 S.n0 c0, .slice a1 S.n1 c1] 26)).alloc (by simp) (.cells #[.slice none 0 0] 113)).alloc (by first | (simp; done) | (simp; omega)) (.cells #[.int .i64 0, .string ⟨#[]⟩, .slice none 0 0] 41))
  have kS : Hid ((((w.alloc (.cells #[.slice a0 S.n0 c0, .slice a1 S.n1 c1] 26)).alloc (.cells #[.slice none 0 0] 113)).alloc (.cells #[.int .i64 0, .string ⟨#[]⟩, .slice none 0 0] 41)).heap[w.heap.size]? = some (.cells #[.slice a0 S.n0 c0, .slice a1 S.n1 c1] 26 (0, 0))) :=
    ((((Below.refl (w.heap.size + 1) _).alloc (by simp) _).alloc (by first | (simp; done) | (simp; omega)) _).block w.heap.size (by omega)).trans (heap_alloc_new w _)
  have kP : Hid ((((w.alloc (.cells #[.slice a0 S.n0 c0, .slice a1 S.n1 c1] 26)).alloc (.cells #[.slice none 0 0] 113)).alloc (.cells #[.int .i64 0, .string ⟨#[]⟩, .slice none 0 0] 41)).heap[w.heap.size + 1]? = some (.cells #[.slice none 0 0] 113 (0, 0))) := by
    have h2 := heap_alloc_new (w.alloc (.cells #[.slice a0 S.n0 c0, .slice a1 S.n1 c1] 26)) (.cells #[.slice none 0 0] 113)
    rw [show (w.alloc (.cells #[.slice a0 S.n0 c0, .slice a1 S.n1 c1] 26)).heap.size = w.heap.size + 1 by simp] at h2
    exact (((Below.refl (w.heap.size + 2) _).alloc (by simp) _).block (w.heap.size + 1) (by omega)).trans h2
  have kQ : Hid ((((w.alloc (.cells #[.slice a0 S.n0 c0, .slice a1 S.n1 c1] 26)).alloc (.cells #[.slice none 0 0] 113)).alloc (.cells #[.int .i64 0, .string ⟨#[]⟩, .slice none 0 0] 41)).heap[w.heap.size + 1 + 1]? = some (.cells #[.int .i64 0, .string ⟨#[]⟩, .slice none 0 0] 41 (0, 0))) := by
    have h2 := heap_alloc_new ((w.alloc (.cells #[.slice a0 S.n0 c0, .slice a1 S.n1 c1] 26)).alloc (.cells #[.slice none 0 0] 113)) (.cells #[.int .i64 0, .string ⟨#[]⟩, .slice none 0 0] 41)
    rw [show ((w.alloc (.cells #[.slice a0 S.n0 c0, .slice a1 S.n1 c1] 26)).alloc (.cells #[.slice none 0 0] 113)).heap.size = w.heap.size + 1 + 1 by simp] at h2
    exact h2
  have zS : (((w.alloc (.cells #[.slice a0 S.n0 c0, .slice a1 S.n1 c1] 26)).alloc (.cells #[.slice none 0 0] 113)).alloc (.cells #[.int .i64 0, .string ⟨#[]⟩, .slice none 0 0] 41)).heap.size = w.heap.size + 3 := by simp
  have s0 : (((w.alloc (.cells #[.slice a0 S.n0 c0, .slice a1 S.n1 c1] 26)).alloc (.cells #[.slice none 0 0] 113)).alloc (.cells #[.int .i64 0, .string ⟨#[]⟩, .slice none 0 0] 41)).cell? ⟨w.heap.size, 0, none⟩ = some (.slice a0 S.n0 c0) := by simp [go_sem]
  have s1 : (((w.alloc (.cells #[.slice a0 S.n0 c0, .slice a1 S.n1 c1] 26)).alloc (.cells #[.slice none 0 0] 113)).alloc (.cells #[.int .i64 0, .string ⟨#[]⟩, .slice none 0 0] 41)).cell? ⟨w.heap.size, 1, none⟩ = some (.slice a1 S.n1 c1) := by simp [go_sem]
  by_cases hc : ck = 0
  · have hnk : Hid (nameOk nm = false) := by
      cases h : nameOk nm with
      | false => rfl
      | true => exact absurd ⟨HCK.out.symm.trans hc, h⟩ HBD.out
    subst hc
    go_enter_defers Tryz.func75, Tryz.ntmps75
    go_wp2_with fail
    generalize ((w.alloc (.cells #[.slice a0 S.n0 c0, .slice a1 S.n1 c1] 26)).alloc (.cells #[.slice none 0 0] 113)).alloc (.cells #[.int .i64 0, .string ⟨#[]⟩, .slice none 0 0] 41) = W0 at A0 kS kP kQ zS s0 s1 ⊢
    refine (implCheck_any a0 S.n0 c0 S.f0 a1 S.n1 c1 S.f1 _ (by omega) (by omega) (V0.out.below A0.out (Nat.le_refl _)) (V1.out.below A0.out (Nat.le_refl _)) HFT.out (HT1.out.below A0.out HT1.out.1)).mono ?_
    rintro e w1 ⟨he, hB⟩
    rw [← HCK.out] at he
    subst he
    have B1 := hide hB
    have A1 := hide (A0.out.trans (hB.mono A0.out.size))
    have kS1 : Hid (w1.heap[w.heap.size]? = _) := (hB.block _ (by omega)).trans kS.out
    have kP1 : Hid (w1.heap[w.heap.size + 1]? = _) := (hB.block _ (by omega)).trans kP.out
    have kQ1 : Hid (w1.heap[w.heap.size + 1 + 1]? = _) := (hB.block _ (by omega)).trans kQ.out
    have hz1 : w.heap.size + 3 ≤ w1.heap.size := by have := hB.size; omega
    clear hB s0 s1 kS kP kQ
    go_wp2_with fail
    refine (isName_any nm w1).mono ?_
    rintro e w2 ⟨he, hB⟩
    rw [hnk.out] at he
    subst he
    have A2 := hide (A1.out.trans (hB.mono (by omega)))
    have kS2 : Hid (w2.heap[w.heap.size]? = _) := (hB.block _ (by omega)).trans kS1.out
    have kP2 : Hid (w2.heap[w.heap.size + 1]? = _) := (hB.block _ (by omega)).trans kP1.out
    have kQ2 : Hid (w2.heap[w.heap.size + 1 + 1]? = _) := (hB.block _ (by omega)).trans kQ1.out
    have hz2 : w.heap.size + 3 ≤ w2.heap.size := by have := hB.size; omega
    clear hB
    have hp1 := kP2.out
    obtain ⟨rl, r0, r1, r2, rf⟩ := three_facts kQ2.out
    have rf0 := rf 0
    have rf1 := rf 1
    have rf2 := rf 2
    have p0 : w2.cell? ⟨w.heap.size + 1, 0, none⟩ = some (.slice none 0 0) := by simp [World.cell?, hp1]
    have pf0 : w2.frozen? ⟨w.heap.size + 1, 0, none⟩ = false := by simp [World.frozen?, hp1]
    have hpl1 := heap_lt hp1
    clear rf hp1
    go_wp2_with fail
    have BX := hide ((((A2.out.setCell (p := ⟨w.heap.size + 1, 0, none⟩) (by show w.heap.size ≤ w.heap.size + 1; omega) (.slice none 0 0)).setCell (p := ⟨w.heap.size + 1 + 1, 0, none⟩) (by show w.heap.size ≤ w.heap.size + 1 + 1; omega) (.int .i64 9)).setCell (p := ⟨w.heap.size + 1 + 1, 1, none⟩) (by show w.heap.size ≤ w.heap.size + 1 + 1; omega) (.string ⟨#[]⟩)).setCell (p := ⟨w.heap.size + 1 + 1, 2, none⟩) (by show w.heap.size ≤ w.heap.size + 1 + 1; omega) (.slice none 0 0))
    refine ⟨.tuple #[.slice none 0 0, .agg #[.int .i64 9, .string ⟨#[]⟩, .slice none 0 0]], by simp [results, Tryz.results75, go_sem, p0, r0, r1, r2], ?_⟩
    exact ⟨w, _, _, Below.refl _ _, rfl, made_nil _ _ _, res_plain _ _ _ _, BX.out, fun h => absurd rfl h⟩
  · have hc2 : (ck == 0) = false := by simpa using hc
    go_enter_defers Tryz.func75, Tryz.ntmps75
    go_wp2_with fail
    generalize ((w.alloc (.cells #[.slice a0 S.n0 c0, .slice a1 S.n1 c1] 26)).alloc (.cells #[.slice none 0 0] 113)).alloc (.cells #[.int .i64 0, .string ⟨#[]⟩, .slice none 0 0] 41) = W0 at A0 kS kP kQ zS s0 s1 ⊢
    refine (implCheck_any a0 S.n0 c0 S.f0 a1 S.n1 c1 S.f1 _ (by omega) (by omega) (V0.out.below A0.out (Nat.le_refl _)) (V1.out.below A0.out (Nat.le_refl _)) HFT.out (HT1.out.below A0.out HT1.out.1)).mono ?_
    rintro e w1 ⟨he, hB⟩
    rw [← HCK.out] at he
    subst he
    have B1 := hide hB
    have A1 := hide (A0.out.trans (hB.mono A0.out.size))
    have kS1 : Hid (w1.heap[w.heap.size]? = _) := (hB.block _ (by omega)).trans kS.out
    have kP1 : Hid (w1.heap[w.heap.size + 1]? = _) := (hB.block _ (by omega)).trans kP.out
    have kQ1 : Hid (w1.heap[w.heap.size + 1 + 1]? = _) := (hB.block _ (by omega)).trans kQ.out
    have hz1 : w.heap.size + 3 ≤ w1.heap.size := by have := hB.size; omega
    clear hB s0 s1 kS kP kQ
    have hp1 := kP1.out
    obtain ⟨rl, r0, r1, r2, rf⟩ := three_facts kQ1.out
    have rf0 := rf 0
    have rf1 := rf 1
    have rf2 := rf 2
    have p0 : w1.cell? ⟨w.heap.size + 1, 0, none⟩ = some (.slice none 0 0) := by simp [World.cell?, hp1]
    have pf0 : w1.frozen? ⟨w.heap.size + 1, 0, none⟩ = false := by simp [World.frozen?, hp1]
    have hpl1 := heap_lt hp1
    clear rf hp1
    go_wp2_with fail
    have BX := hide ((((A1.out.setCell (p := ⟨w.heap.size + 1, 0, none⟩) (by show w.heap.size ≤ w.heap.size + 1; omega) (.slice none 0 0)).setCell (p := ⟨w.heap.size + 1 + 1, 0, none⟩) (by show w.heap.size ≤ w.heap.size + 1 + 1; omega) (.int .i64 9)).setCell (p := ⟨w.heap.size + 1 + 1, 1, none⟩) (by show w.heap.size ≤ w.heap.size + 1 + 1; omega) (.string ⟨#[]⟩)).setCell (p := ⟨w.heap.size + 1 + 1, 2, none⟩) (by show w.heap.size ≤ w.heap.size + 1 + 1; omega) (.slice none 0 0))
    refine ⟨.tuple #[.slice none 0 0, .agg #[.int .i64 9, .string ⟨#[]⟩, .slice none 0 0]], by simp [results, Tryz.results75, go_sem, p0, r0, r1, r2], ?_⟩
    exact ⟨w, _, _, Below.refl _ _, rfl, made_nil _ _ _, res_plain _ _ _ _, BX.out, fun h => absurd rfl h⟩
theorem EntAt.setLow {w0 w : World} {G : ByteArray → Nat} {b : Nat} {v : Value} {x : Ent} (h : EntAt w0 S G w b v x) {k : Nat} (hk : k < w0.heap.size) (j : Nat) (u : Value) : EntAt w0 S G (w.setCell ⟨k, j, none⟩ u) b v x := by
  obtain ⟨⟨act, hb, ha⟩, hg, hr⟩ := h
  refine ⟨⟨act, (Below.heap_setCell _ _ _ _ (show b ≠ k by omega)).trans hb, ha⟩, hg, own_other hr (fun e => ?_) _ _⟩
  have := (own_cellsM hr k e).1
  omega
theorem made_low {w0 w : World} {made : List Ent} {mdv : Value} (h : MadeAt w0 S w made mdv) {k : Nat} (hk : k < w0.heap.size) (j : Nat) (u : Value) : MadeAt w0 S (w.setCell ⟨k, j, none⟩ u) made mdv := by
  obtain ⟨G, V, h1, h2, h3⟩ := h
  refine ⟨G, V, own_other h1 (fun e => ?_) _ _, fun x hx => (h2 x hx).setLow hk j u, h3⟩
  have := (own_cellsM h1 k e).1
  omega
theorem makeMark (w : World) : (Instr.makeMap 190 none).run Tryz.prog w = .ok (.map (some w.heap.size)) (w.alloc (.map #[] 0)) := by kernel_rfl
theorem leftN_le (S : Spc) : leftN S [] [] ≤ S.n1 := by
  have := List.countP_le_length (p := leftP S [] []) (l := List.range S.n1)
  rw [List.length_range] at this
  exact this
set_option maxRecDepth 1000000 in
set_option maxHeartbeats 8000000 in
theorem build_ok (w : World) (nm : ByteArray) (hv0 : SlSource w a0 S.n0 S.f0) (hv1 : SlTarget w a1 S.n1 S.f1) (hn0 : S.n0 ≤ 1048576) (hn1 : S.n1 ≤ 1048576) (hfit : ∀ i, i < S.n1 → FitsTarget (S.f1 i)) (hT : Tab w) (hT2 : Tab2 w) (hP : Pow w) (hck0 : checkC S.n0 S.f0 S.n1 S.f1 = 0) (hnm : nameOk nm = true) :
    Calls Tryz.prog 75 #[.agg #[.slice a0 S.n0 c0, .slice a1 S.n1 c1], .string nm] w fun e w' => BuildPost w S (match liesP S 60 [] [] nm with | .inl (made, e) => (made, resE e) | .inr (.inl c) => ([], ⟨6, ⟨#[]⟩, c⟩) | .inr (.inr d) => ([], ⟨7, d, []⟩)) e w' := by
  have V0 := hide hv0
  have V1 := hide hv1
  have HFT := hide hfit
  have HT1 := hide hT
  have HT2 := hide hT2
  have HPW := hide hP
  have HCK : Hid ((0 : Int) = checkC S.n0 S.f0 S.n1 S.f1) := hck0.symm
  have HNM := hide hnm
  have HOK := hide (SpcOk.of hck0)
  obtain ⟨R, hR⟩ : ∃ R, R = liesP S 60 [] [] nm := ⟨_, rfl⟩
  have HR := hide hR
  rw [← hR]
  clear hv0 hv1 hfit hT hT2 hP hck0 hnm hR
  have hmm := makeMark
  have hmf : ∀ (fn : Fn) (first cap : Array Value) (w : World), (Instr.makeFunc fn first cap).run Tryz.prog w = .ok (.func fn first cap) w := fun _ _ _ _ => rfl
  have A0 := hide ((((Below.refl w.heap.size w).alloc (Nat.le_refl _) (.cells #[.slice a0 S.n0 c0, .slice a1 S.n1 c1] 26)).alloc (by simp) (.cells #[.slice none 0 0] 113)).alloc (by first | (simp; done) | (simp; omega)) (.cells #[.int .i64 0, .string ⟨#[]⟩, .slice none 0 0] 41))
  have kS : Hid ((((w.alloc (.cells #[.slice a0 S.n0 c0, .slice a1 S.n1 c1] 26)).alloc (.cells #[.slice none 0 0] 113)).alloc (.cells #[.int .i64 0, .string ⟨#[]⟩, .slice none 0 0] 41)).heap[w.heap.size]? = some (.cells #[.slice a0 S.n0 c0, .slice a1 S.n1 c1] 26 (0, 0))) :=
    ((((Below.refl (w.heap.size + 1) _).alloc (by simp) _).alloc (by first | (simp; done) | (simp; omega)) _).block w.heap.size (by omega)).trans (heap_alloc_new w _)
  have kP : Hid ((((w.alloc (.cells #[.slice a0 S.n0 c0, .slice a1 S.n1 c1] 26)).alloc (.cells #[.slice none 0 0] 113)).alloc (.cells #[.int .i64 0, .string ⟨#[]⟩, .slice none 0 0] 41)).heap[w.heap.size + 1]? = some (.cells #[.slice none 0 0] 113 (0, 0))) := by
    have h2 := heap_alloc_new (w.alloc (.cells #[.slice a0 S.n0 c0, .slice a1 S.n1 c1] 26)) (.cells #[.slice none 0 0] 113)
    rw [show (w.alloc (.cells #[.slice a0 S.n0 c0, .slice a1 S.n1 c1] 26)).heap.size = w.heap.size + 1 by simp] at h2
    exact (((Below.refl (w.heap.size + 2) _).alloc (by simp) _).block (w.heap.size + 1) (by omega)).trans h2
  have kQ : Hid ((((w.alloc (.cells #[.slice a0 S.n0 c0, .slice a1 S.n1 c1] 26)).alloc (.cells #[.slice none 0 0] 113)).alloc (.cells #[.int .i64 0, .string ⟨#[]⟩, .slice none 0 0] 41)).heap[w.heap.size + 1 + 1]? = some (.cells #[.int .i64 0, .string ⟨#[]⟩, .slice none 0 0] 41 (0, 0))) := by
    have h2 := heap_alloc_new ((w.alloc (.cells #[.slice a0 S.n0 c0, .slice a1 S.n1 c1] 26)).alloc (.cells #[.slice none 0 0] 113)) (.cells #[.int .i64 0, .string ⟨#[]⟩, .slice none 0 0] 41)
    rw [show ((w.alloc (.cells #[.slice a0 S.n0 c0, .slice a1 S.n1 c1] 26)).alloc (.cells #[.slice none 0 0] 113)).heap.size = w.heap.size + 1 + 1 by simp] at h2
    exact h2
  have zS : (((w.alloc (.cells #[.slice a0 S.n0 c0, .slice a1 S.n1 c1] 26)).alloc (.cells #[.slice none 0 0] 113)).alloc (.cells #[.int .i64 0, .string ⟨#[]⟩, .slice none 0 0] 41)).heap.size = w.heap.size + 3 := by simp
  have s0 : (((w.alloc (.cells #[.slice a0 S.n0 c0, .slice a1 S.n1 c1] 26)).alloc (.cells #[.slice none 0 0] 113)).alloc (.cells #[.int .i64 0, .string ⟨#[]⟩, .slice none 0 0] 41)).cell? ⟨w.heap.size, 0, none⟩ = some (.slice a0 S.n0 c0) := by simp [go_sem]
  have s1 : (((w.alloc (.cells #[.slice a0 S.n0 c0, .slice a1 S.n1 c1] 26)).alloc (.cells #[.slice none 0 0] 113)).alloc (.cells #[.int .i64 0, .string ⟨#[]⟩, .slice none 0 0] 41)).cell? ⟨w.heap.size, 1, none⟩ = some (.slice a1 S.n1 c1) := by simp [go_sem]
  go_enter_defers Tryz.func75, Tryz.ntmps75
  go_wp2_with fail
  generalize ((w.alloc (.cells #[.slice a0 S.n0 c0, .slice a1 S.n1 c1] 26)).alloc (.cells #[.slice none 0 0] 113)).alloc (.cells #[.int .i64 0, .string ⟨#[]⟩, .slice none 0 0] 41) = W0 at A0 kS kP kQ zS s0 s1 ⊢
  refine (implCheck_any a0 S.n0 c0 S.f0 a1 S.n1 c1 S.f1 _ (by omega) (by omega) (V0.out.below A0.out (Nat.le_refl _)) (V1.out.below A0.out (Nat.le_refl _)) HFT.out (HT1.out.below A0.out HT1.out.1)).mono ?_
  rintro e w1 ⟨he, hB⟩
  rw [← HCK.out] at he
  subst he
  have B1 := hide hB
  have A1 := hide (A0.out.trans (hB.mono A0.out.size))
  have kS1 : Hid (w1.heap[w.heap.size]? = _) := (hB.block _ (by omega)).trans kS.out
  have kP1 : Hid (w1.heap[w.heap.size + 1]? = _) := (hB.block _ (by omega)).trans kP.out
  have kQ1 : Hid (w1.heap[w.heap.size + 1 + 1]? = _) := (hB.block _ (by omega)).trans kQ.out
  have hz1 : w.heap.size + 3 ≤ w1.heap.size := by have := hB.size; omega
  clear hB s0 s1 kS kP kQ
  go_wp2_with fail
  refine (isName_any nm w1).mono ?_
  rintro e w2 ⟨he, hB⟩
  rw [HNM.out] at he
  subst he
  have A2 := hide (A1.out.trans (hB.mono (by omega)))
  have kS2 : Hid (w2.heap[w.heap.size]? = _) := (hB.block _ (by omega)).trans kS1.out
  have kP2 : Hid (w2.heap[w.heap.size + 1]? = _) := (hB.block _ (by omega)).trans kP1.out
  have kQ2 : Hid (w2.heap[w.heap.size + 1 + 1]? = _) := (hB.block _ (by omega)).trans kQ1.out
  have hz2 : w.heap.size + 3 ≤ w2.heap.size := by have := hB.size; omega
  clear hB
  have q0 : w2.cell? ⟨w.heap.size, 0, none⟩ = some (.slice a0 S.n0 c0) := by simp [World.cell?, kS2.out]
  have q1 : w2.cell? ⟨w.heap.size, 1, none⟩ = some (.slice a1 S.n1 c1) := by simp [World.cell?, kS2.out]
  have AM := hide ((Below.refl w2.heap.size w2).alloc (Nat.le_refl _) (.map #[] 0))
  have AK := hide (AM.out.alloc (by simp) (.cells #[.slice a0 S.n0 c0, .slice a1 S.n1 c1, .map (some w2.heap.size), .slice none 0 0, .slice none 0 0] 192))
  have CX : Hid (Ctx w2 S a0 c0 a1 c1) := ⟨V0.out.below A2.out (Nat.le_refl _), V1.out.below A2.out (Nat.le_refl _), HOK.out, HT2.out.below A2.out HT2.out.1, HPW.out.below A2.out (Nat.le_refl _), fun i hi => by have := HOK.out.text i hi; unfold maxLen; omega⟩
  have zM : (w2.alloc (.map #[] 0)).heap.size = w2.heap.size + 1 := by simp
  have MI0 : Hid (MI w2 S (w2.heap.size + 1) w2.heap.size (.slice a0 S.n0 c0) (.slice a1 S.n1 c1) ((w2.alloc (.map #[] 0)).alloc (.cells #[.slice a0 S.n0 c0, .slice a1 S.n1 c1, .map (some w2.heap.size), .slice none 0 0, .slice none 0 0] 192)) [] [] [] (fun _ => 0) (fun _ => .slice none 0 0) (.slice none 0 0) (.slice none 0 0)) := by
    refine ⟨AK.out, Nat.le_succ _, Nat.le_refl _, ?_, ⟨rfl, .inl ⟨rfl, rfl⟩⟩, ⟨rfl, .inl ⟨rfl, rfl⟩⟩, ?_, fun _ hx => absurd hx List.not_mem_nil, List.Pairwise.nil⟩
    · have h2 := heap_alloc_new (w2.alloc (.map #[] 0)) (.cells #[.slice a0 S.n0 c0, .slice a1 S.n1 c1, .map (some w2.heap.size), .slice none 0 0, .slice none 0 0] 192)
      rw [zM] at h2
      exact h2
    · refine ((mapN_new w2).blk (((Below.refl (w2.heap.size + 1) _).alloc (by simp) _).block w2.heap.size (by omega))).congr fun s => ?_
      simp [markF]
  have RM0 : Hid (roomN S [] [] 1) := by
    have h1 := leftN_le S
    have h2 := HOK.out.small
    unfold roomN
    show _ ≤ _
    simp
    omega
  go_wp2_with fail
  clear q0 q1
  generalize (w2.alloc (.map #[] 0)).alloc (.cells #[.slice a0 S.n0 c0, .slice a1 S.n1 c1, .map (some w2.heap.size), .slice none 0 0, .slice none 0 0] 192) = W3 at AK MI0 ⊢
  refine (lies_all CX.out 60 [] [] _ _ _ _ W3 nm rfl MI0.out (pg_nil S []) RM0.out HNM.out).mono ?_
  intro e w4 hpost
  rw [← HR.out] at hpost
  rcases R with ⟨made, x⟩ | c | d
  · obtain ⟨G', V', mk', md', rfl, hM, hE, hK⟩ := hpost
    obtain ⟨hp', -, hx, hxn⟩ := liesP_good HOK.out 60 [] [] nm made x (pg_nil S []) HNM.out HR.out.symm
    obtain ⟨act, hbl, hac⟩ := (hM.ents x hx).blk
    obtain ⟨aa, na, ca, rfl⟩ : ∃ a n c, act = .slice a n c := by
      unfold ActOk at hac
      split at hac
      · obtain ⟨_, a, c, e, _⟩ := hac; exact ⟨a, _, c, e⟩
      · exact ⟨_, _, _, hac⟩
    obtain ⟨am, cm, rfl⟩ := own_sliceM hM.rmd
    obtain ⟨rc, rt, hres, hrE⟩ : ∃ rc rt, (if x.kind = 2 then Value.agg #[.int .i64 4, .string x.name, .slice none 0 0] else .agg #[.int .i64 x.code, .string x.text, .slice none 0 0]) = .agg #[.int .i64 rc, .string rt, .slice none 0 0] ∧ resE x = ⟨rc, rt, []⟩ := by
      unfold resE
      split
      · exact ⟨_, _, rfl, rfl⟩
      · exact ⟨_, _, rfl, rfl⟩
    have HRS := hide hres
    have HRE := hide hrE
    have M4 := hide hM
    have B4 := hide hM.bel
    have hgeb := (hM.ents x hx).ge
    have HBL := hide hbl
    obtain ⟨eb, heb⟩ : ∃ eb, eb = G' x.name := ⟨_, rfl⟩
    rw [← heb] at HBL hgeb ⊢
    have SQ : Hid (∀ V : World, V.heap[w2.heap.size + 1]? = w4.heap[w2.heap.size + 1]? → V.heap[eb]? = w4.heap[eb]? → V.cell? ⟨w2.heap.size + 1, 4, none⟩ = some (.slice am made.length cm) ∧ V.cell? ⟨eb, 0, none⟩ = some (.string x.name) ∧ V.cell? ⟨eb, 1, none⟩ = some (.int .i64 x.kind) ∧ V.cell? ⟨eb, 2, none⟩ = some (.int .i64 x.code) ∧ V.cell? ⟨eb, 3, none⟩ = some (.string x.text) ∧ V.cell? ⟨eb, 4, none⟩ = some (.slice aa na ca) ∧ V.cell? ⟨eb, 5, none⟩ = some (.slice none 0 0)) := fun V h1 h2 => by
      obtain ⟨-, -, -, -, -, e4, -⟩ := M4.out.box.facts
      obtain ⟨-, e0, e1, e2, e3, e5, e6, -, -, -⟩ := HBL.out.facts
      exact ⟨(World.cell?_of_block (a := ⟨w2.heap.size + 1, 4, none⟩) h1).trans e4, (World.cell?_of_block (a := ⟨eb, 0, none⟩) h2).trans e0, (World.cell?_of_block (a := ⟨eb, 1, none⟩) h2).trans e1, (World.cell?_of_block (a := ⟨eb, 2, none⟩) h2).trans e2, (World.cell?_of_block (a := ⟨eb, 3, none⟩) h2).trans e3, (World.cell?_of_block (a := ⟨eb, 4, none⟩) h2).trans e5, (World.cell?_of_block (a := ⟨eb, 5, none⟩) h2).trans e6⟩
    have hmbl := heap_lt hM.box
    have hebl := heap_lt HBL.out
    clear hM hE hK hp' hx hxn hbl hac hres hrE heb
    go_wp2_with fail
    refine wp_region_noPanic ?_
    refine wp_region_held_drew (S := fun V => V.cell? ⟨w2.heap.size + 1, 4, none⟩ = some (.slice am made.length cm) ∧ V.cell? ⟨eb, 0, none⟩ = some (.string x.name) ∧ V.cell? ⟨eb, 1, none⟩ = some (.int .i64 x.kind) ∧ V.cell? ⟨eb, 2, none⟩ = some (.int .i64 x.code) ∧ V.cell? ⟨eb, 3, none⟩ = some (.string x.text) ∧ V.cell? ⟨eb, 4, none⟩ = some (.slice aa na ca) ∧ V.cell? ⟨eb, 5, none⟩ = some (.slice none 0 0)) (by as_aux_lemma => kernel_rfl) (SQ.out _ rfl rfl) (fun hS => ?_)
    have HS := hide hS
    clear hS
    refine anyS_nx 0 (v := ?_) rfl rfl (by as_aux_lemma => kernel_rfl) (fun _ _ _ h => h) rfl ?_ HS.out ?_
    rotate_left
    · (intro wz hSw; obtain ⟨s0, s1, s2, s3, s4, s5, s6⟩ := hSw; go_simp)
      (try with_reducible rfl)
    (try simp only [Act.put, nzL])
    iterate 3
      refine anyS_nx 2 (v := ?_) rfl rfl (by as_aux_lemma => kernel_rfl) (fun _ _ _ h => h) rfl ?_ HS.out ?_
      rotate_left
      · (intro wz hSw; obtain ⟨s0, s1, s2, s3, s4, s5, s6⟩ := hSw; go_simp)
        (try with_reducible rfl)
      (try simp only [Act.put, nzL])
    refine anyS_nx 1 (v := ?_) rfl rfl (by as_aux_lemma => kernel_rfl) (fun _ _ _ h => h) rfl ?_ HS.out ?_
    rotate_left
    · (intro wz hSw; obtain ⟨s0, s1, s2, s3, s4, s5, s6⟩ := hSw; go_simp)
      (try with_reducible rfl)
    (try simp only [Act.put, nzL])
    refine anyS_nx 5 (v := ?_) rfl rfl (by as_aux_lemma => kernel_rfl) (fun _ _ _ h => h) rfl ?_ HS.out ?_
    rotate_left
    · (intro wz hSw; obtain ⟨s0, s1, s2, s3, s4, s5, s6⟩ := hSw; go_simp)
      (try with_reducible rfl)
    (try simp only [Act.put, nzL])
    refine anyS_one (i := 6) rfl (by as_aux_lemma => kernel_rfl) (fun K hK => ?_)
    go_simp
    go_at_call 146
    refine (result_any x.name x.text x.kind x.code aa na ca _).mono ?_
    rintro e w5 ⟨he, hB⟩
    rw [HRS.out] at he
    subst he
    have B5 : Hid (Below w4.heap.size w4 w5) := ⟨hB.os, hB.tape, hB.output, hB.size, hB.block⟩
    clear hB HS
    have HS := hide (SQ.out w5 (B5.out.block _ hmbl) (B5.out.block _ hebl))
    refine hK.out _ _ HS.out ?_
    clear hK K
    (try simp only [Act.put, nzL])
    have kP5 : w5.heap[w.heap.size + 1]? = _ := (B5.out.block _ (by have := B4.out.size; omega)).trans ((B4.out.block _ (by omega)).trans kP2.out)
    have kQ5 : w5.heap[w.heap.size + 1 + 1]? = _ := (B5.out.block _ (by have := B4.out.size; omega)).trans ((B4.out.block _ (by omega)).trans kQ2.out)
    have p0 : w5.cell? ⟨w.heap.size + 1, 0, none⟩ = some (.slice none 0 0) := by simp [World.cell?, kP5]
    have pf0 : w5.frozen? ⟨w.heap.size + 1, 0, none⟩ = false := by simp [World.frozen?, kP5]
    have hpl := heap_lt kP5
    obtain ⟨rl, r0, r1, r2, rf⟩ := three_facts kQ5
    have rf0 := rf 0
    have rf1 := rf 1
    have rf2 := rf 2
    have HQ5 := hide kQ5
    clear rf kP5 kQ5
    have MA5 : Hid (MadeAt w2 S w5 made (.slice am made.length cm)) := ⟨G', V', own_below M4.out.rmd B5.out (Nat.le_refl _), fun y hy => (M4.out.ents y hy).kx (KX.of_below (X := XN) B5.out (Nat.le_refl _) M4.out.lt) (fun h => h) (fun _ _ h => h), M4.out.dist⟩
    have BW5 : Hid (Below w.heap.size w w5) := A2.out.trans ((B4.out.trans (B5.out.mono B4.out.size)).mono (by omega))
    have hmbb : w.heap.size + 1 ≠ w2.heap.size + 1 := by omega
    have hpeb : w.heap.size + 1 ≠ eb := by omega
    refine anyS_one (i := 7) rfl (by as_aux_lemma => kernel_rfl) (fun K hK => ?_)
    go_simp
    have HS7 := hide (SQ.out (w5.setCell ⟨w.heap.size + 1, 0, none⟩ (.slice am made.length cm)) ((Below.heap_setCell _ _ _ _ hmbb.symm).trans (B5.out.block _ hmbl)) ((Below.heap_setCell _ _ _ _ hpeb.symm).trans (B5.out.block _ hebl)))
    refine hK.out _ _ HS7.out ?_
    clear hK K HS
    (try simp only [Act.put])
    have hqmb : w.heap.size + 1 + 1 ≠ w2.heap.size + 1 := by omega
    have hqeb : w.heap.size + 1 + 1 ≠ eb := by omega
    have HS8 := hide (SQ.out ((((w5.setCell ⟨w.heap.size + 1, 0, none⟩ (.slice am made.length cm)).setCell ⟨w.heap.size + 1 + 1, 0, none⟩ (.int .i64 rc)).setCell ⟨w.heap.size + 1 + 1, 1, none⟩ (.string rt)).setCell ⟨w.heap.size + 1 + 1, 2, none⟩ (.slice none 0 0)) ((Below.heap_setCell _ _ _ _ hqmb.symm).trans ((Below.heap_setCell _ _ _ _ hqmb.symm).trans ((Below.heap_setCell _ _ _ _ hqmb.symm).trans ((Below.heap_setCell _ _ _ _ hmbb.symm).trans (B5.out.block _ hmbl))))) ((Below.heap_setCell _ _ _ _ hqeb.symm).trans ((Below.heap_setCell _ _ _ _ hqeb.symm).trans ((Below.heap_setCell _ _ _ _ hqeb.symm).trans ((Below.heap_setCell _ _ _ _ hpeb.symm).trans (B5.out.block _ hebl))))))
    have B6 := hide ((((BW5.out.setCell (p := ⟨w.heap.size + 1, 0, none⟩) (by show w.heap.size ≤ w.heap.size + 1; omega) (.slice am made.length cm)).setCell (p := ⟨w.heap.size + 1 + 1, 0, none⟩) (by show w.heap.size ≤ w.heap.size + 1 + 1; omega) (.int .i64 rc)).setCell (p := ⟨w.heap.size + 1 + 1, 1, none⟩) (by show w.heap.size ≤ w.heap.size + 1 + 1; omega) (.string rt)).setCell (p := ⟨w.heap.size + 1 + 1, 2, none⟩) (by show w.heap.size ≤ w.heap.size + 1 + 1; omega) (.slice none 0 0))
    have MA6 := hide (made_low (made_low (made_low (made_low MA5.out (show w.heap.size + 1 < w2.heap.size by omega) 0 (.slice am made.length cm)) (show w.heap.size + 1 + 1 < w2.heap.size by omega) 0 (.int .i64 rc)) (show w.heap.size + 1 + 1 < w2.heap.size by omega) 1 (.string rt)) (show w.heap.size + 1 + 1 < w2.heap.size by omega) 2 (.slice none 0 0))
    refine anyS_one (i := 8) rfl (by as_aux_lemma => kernel_rfl) (fun K hK => ?_)
    go_simp
    refine hK.out _ _ HS8.out ?_
    clear hK K
    (try simp only [Act.put])
    refine wpAnyH_done (by as_aux_lemma => kernel_rfl) ?_ _
    refine NoPanic.normal ?_
    go_wp2_with fail
    refine leaves_cons (f := 143) (args := #[.pointer (some ⟨w.heap.size + 1, 0, none⟩), .pointer (some ⟨w.heap.size + 1 + 1, 0, none⟩)]) (by simp) (by simp [go_sem]) ?_
    refine (catch_idle ⟨w.heap.size + 1, 0, none⟩ ⟨w.heap.size + 1 + 1, 0, none⟩ _).mono ?_
    rintro e u' w6 ⟨rfl, rfl, rfl⟩
    show Leaves _ _ _ _ [] .returning _
    refine ⟨.tuple #[.slice am made.length cm, .agg #[.int .i64 rc, .string rt, .slice none 0 0]], by simp [results, Tryz.results75, go_sem, p0, r0, r1, r2], ?_⟩
    refine ⟨w2, _, _, A2.out, rfl, MA6.out, by rw [HRE.out]; exact res_plain _ _ _ _, B6.out, fun _ b off n f hn0 hri => ?_⟩
    have ho1 : b ≠ w.heap.size + 1 := fun e => not_ins1 (by rw [e]; exact kP2.out) hn0 hri
    have ho2 : b ≠ w.heap.size + 1 + 1 := fun e => not_ins3 (by rw [e]; exact kQ2.out) hn0 hri
    exact ((((((hri.below B4.out (Nat.le_refl _)).below B5.out (Nat.le_refl _)).setOther _ ho1.symm _).setOther _ ho2.symm _).setOther _ ho2.symm _).setOther _ ho2.symm _)
  · obtain ⟨u, rfl, h1, h2⟩ := hpost
    obtain ⟨g, cu, rfl⟩ := own_sliceM h1
    have B4 := hide (AK.out.trans h2)
    have O4 := hide h1
    go_wp2_with fail
    have kP4 : w4.heap[w.heap.size + 1]? = _ := (B4.out.block _ (by omega)).trans kP2.out
    have kQ4 : w4.heap[w.heap.size + 1 + 1]? = _ := (B4.out.block _ (by omega)).trans kQ2.out
    refine leaves_cons (f := 143) (args := #[.pointer (some ⟨w.heap.size + 1, 0, none⟩), .pointer (some ⟨w.heap.size + 1 + 1, 0, none⟩)]) (by simp) (by simp [go_sem]) ?_
    refine (catch_panic (w.heap.size + 1) (w.heap.size + 1 + 1) 253 _ [] 6 ⟨#[]⟩ g c.length cu w4 (endOfAll_circle g c.length cu w4) _ _ _ _ _ _ kP4 kQ4 (by omega)).mono ?_
    rintro e u' w6 ⟨rfl, rfl, w5, hB5, rfl⟩
    have OB : Hid (∀ k, k < w2.heap.size → (Value.slice g c.length cu).ownBlock ≠ some k) := fun k hk e => by have := (own_cellsM O4.out k e).1; omega
    have kP5 := (hB5.block _ (heap_lt kP4)).trans kP4
    have kQ5 := (hB5.block _ (heap_lt kQ4)).trans kQ4
    obtain ⟨rl, r0, r1, r2, rf⟩ := three_facts kQ5
    have p0 : w5.cell? ⟨w.heap.size + 1, 0, none⟩ = some (.slice none 0 0) := by simp [World.cell?, kP5]
    have B5 : Hid (Below w.heap.size w w5) := A2.out.trans ((B4.out.trans (hB5.mono (by have := B4.out.size; omega))).mono (by omega))
    have B6 := hide ((((B5.out.setCell (p := ⟨w.heap.size + 1, 0, none⟩) (by show w.heap.size ≤ w.heap.size + 1; omega) (.slice none 0 0)).setCell (p := ⟨w.heap.size + 1 + 1, 0, none⟩) (by show w.heap.size ≤ w.heap.size + 1 + 1; omega) (.int .i64 6)).setCell (p := ⟨w.heap.size + 1 + 1, 1, none⟩) (by show w.heap.size ≤ w.heap.size + 1 + 1; omega) (.string ⟨#[]⟩)).setCell (p := ⟨w.heap.size + 1 + 1, 2, none⟩) (by show w.heap.size ≤ w.heap.size + 1 + 1; omega) (.slice g c.length cu))
    show Leaves _ _ _ _ [] .returning _
    refine ⟨.tuple #[.slice none 0 0, .agg #[.int .i64 6, .string ⟨#[]⟩, (.slice g c.length cu)]], by simp [results, Tryz.results75, go_sem, p0, r0, r1, r2], ?_⟩
    exact ⟨w2, _, _, A2.out, rfl, made_nil _ _ _, ⟨g, cu, rfl, own_mono (own_other (own_other (own_other (own_other (own_below O4.out hB5 (Nat.le_refl _)) (OB.out _ (by omega)) _ _) (OB.out _ (by omega)) _ _) (OB.out _ (by omega)) _ _) (OB.out _ (by omega)) _ _) (by omega)⟩, B6.out, fun h => absurd rfl h⟩
  · obtain ⟨rfl, h2⟩ := hpost
    have B4 := hide (AK.out.trans h2)
    go_wp2_with fail
    have kP4 : w4.heap[w.heap.size + 1]? = _ := (B4.out.block _ (by omega)).trans kP2.out
    have kQ4 : w4.heap[w.heap.size + 1 + 1]? = _ := (B4.out.block _ (by omega)).trans kQ2.out
    refine leaves_cons (f := 143) (args := #[.pointer (some ⟨w.heap.size + 1, 0, none⟩), .pointer (some ⟨w.heap.size + 1 + 1, 0, none⟩)]) (by simp) (by simp [go_sem]) ?_
    refine (catch_panic (w.heap.size + 1) (w.heap.size + 1 + 1) 255 _ [] 7 d none 0 0 w4 (endOfAll_deep d w4) _ _ _ _ _ _ kP4 kQ4 (by omega)).mono ?_
    rintro e u' w6 ⟨rfl, rfl, w5, hB5, rfl⟩
    have kP5 := (hB5.block _ (heap_lt kP4)).trans kP4
    have kQ5 := (hB5.block _ (heap_lt kQ4)).trans kQ4
    obtain ⟨rl, r0, r1, r2, rf⟩ := three_facts kQ5
    have p0 : w5.cell? ⟨w.heap.size + 1, 0, none⟩ = some (.slice none 0 0) := by simp [World.cell?, kP5]
    have B5 : Hid (Below w.heap.size w w5) := A2.out.trans ((B4.out.trans (hB5.mono (by have := B4.out.size; omega))).mono (by omega))
    have B6 := hide ((((B5.out.setCell (p := ⟨w.heap.size + 1, 0, none⟩) (by show w.heap.size ≤ w.heap.size + 1; omega) (.slice none 0 0)).setCell (p := ⟨w.heap.size + 1 + 1, 0, none⟩) (by show w.heap.size ≤ w.heap.size + 1 + 1; omega) (.int .i64 7)).setCell (p := ⟨w.heap.size + 1 + 1, 1, none⟩) (by show w.heap.size ≤ w.heap.size + 1 + 1; omega) (.string d)).setCell (p := ⟨w.heap.size + 1 + 1, 2, none⟩) (by show w.heap.size ≤ w.heap.size + 1 + 1; omega) (.slice none 0 0))
    show Leaves _ _ _ _ [] .returning _
    refine ⟨.tuple #[.slice none 0 0, .agg #[.int .i64 7, .string d, (.slice none 0 0)]], by simp [results, Tryz.results75, go_sem, p0, r0, r1, r2], ?_⟩
    exact ⟨w2, _, _, A2.out, rfl, made_nil _ _ _, res_plain _ _ _ _, B6.out, fun h => absurd rfl h⟩
end
end Go.Proofs.YtkophfgkcijjkaaGreatDoor.Vp
namespace Go.Proofs.YtkophfgkcijjkaaGreatDoor.Vp
open Go.RowKit
section
variable {S : Spc} {a0 a1 : Option Addr} {c0 c1 : Nat}
theorem build_any (w : World) (nm : ByteArray) (hv0 : SlSource w a0 S.n0 S.f0) (hv1 : SlTarget w a1 S.n1 S.f1) (hn0 : S.n0 ≤ 1048576) (hn1 : S.n1 ≤ 1048576) (hfit : ∀ i, i < S.n1 → FitsTarget (S.f1 i)) (hT : Tab w) (hT2 : Tab2 w) (hP : Pow w) :
    Calls Tryz.prog 75 #[.agg #[.slice a0 S.n0 c0, .slice a1 S.n1 c1], .string nm] w fun e w' => BuildPost w S (buildP S nm) e w' := by
  unfold buildP
  split
  · rename_i h
    exact build_ok w nm hv0 hv1 hn0 hn1 hfit hT hT2 hP h.1 h.2
  · rename_i h
    exact build_bad w nm hv0 hv1 hn0 hn1 hfit hT h
set_option maxRecDepth 100000 in
set_option maxHeartbeats 4000000 in
theorem implClean_any (w : World) (nm : ByteArray) (hv0 : SlSource w a0 S.n0 S.f0) (hv1 : SlTarget w a1 S.n1 S.f1) (hn0 : S.n0 ≤ 1048576) (hn1 : S.n1 ≤ 1048576) (hfit : ∀ i, i < S.n1 → FitsTarget (S.f1 i)) (hT : Tab w) (hT2 : Tab2 w) (hP : Pow w) :
    Calls Tryz.prog 15 #[.agg #[.slice a0 S.n0 c0, .slice a1 S.n1 c1], .string nm] w fun e w' => ∃ rv, e = .returned rv ∧ ResAt w w' (buildP S nm).2 rv ∧ Below w.heap.size w w' := by
  have A0 := hide (((Below.refl w.heap.size w).alloc (Nat.le_refl _) (.cells #[.slice a0 S.n0 c0, .slice a1 S.n1 c1] 26)).alloc (by simp) (.cells #[.int .i64 0, .string ⟨#[]⟩, .slice none 0 0] 41))
  have HB := hide (build_any (c0 := c0) (c1 := c1) ((w.alloc (.cells #[.slice a0 S.n0 c0, .slice a1 S.n1 c1] 26)).alloc (.cells #[.int .i64 0, .string ⟨#[]⟩, .slice none 0 0] 41)) nm (hv0.below A0.out (Nat.le_refl _)) (hv1.below A0.out (Nat.le_refl _)) hn0 hn1 hfit (hT.below A0.out hT.1) (hT2.below A0.out hT2.1) (hP.below A0.out (Nat.le_refl _)))
  have kR : Hid (((w.alloc (.cells #[.slice a0 S.n0 c0, .slice a1 S.n1 c1] 26)).alloc (.cells #[.int .i64 0, .string ⟨#[]⟩, .slice none 0 0] 41)).heap[w.heap.size + 1]? = some (.cells #[.int .i64 0, .string ⟨#[]⟩, .slice none 0 0] 41 (0, 0))) := by
    have h2 := heap_alloc_new (w.alloc (.cells #[.slice a0 S.n0 c0, .slice a1 S.n1 c1] 26)) (.cells #[.int .i64 0, .string ⟨#[]⟩, .slice none 0 0] 41)
    rw [show (w.alloc (.cells #[.slice a0 S.n0 c0, .slice a1 S.n1 c1] 26)).heap.size = w.heap.size + 1 by simp] at h2
    exact h2
  obtain ⟨bb, hbb⟩ : ∃ bb, bb = buildP S nm := ⟨_, rfl⟩
  rw [← hbb] at HB ⊢
  clear hv0 hv1 hfit hT hT2 hP hbb
  obtain ⟨mm, r⟩ := bb
  simp only
  go_enter Tryz.func15, Tryz.ntmps15
  go_wp2_with fail
  generalize (w.alloc (.cells #[.slice a0 S.n0 c0, .slice a1 S.n1 c1] 26)).alloc (.cells #[.int .i64 0, .string ⟨#[]⟩, .slice none 0 0] 41) = W0 at A0 HB kR ⊢
  refine HB.out.mono ?_
  rintro e w1 ⟨wb, mdv, rv, -, rfl, -, ⟨a, c, rfl, hown⟩, hB1, -⟩
  have O1 := hide hown
  have B1 := hide (A0.out.trans (hB1.mono A0.out.size))
  have A2 := hide ((Below.refl w1.heap.size w1).alloc (Nat.le_refl _) (.cells #[.int .i64 r.code, .string r.text, .slice a r.chain.length c] 41))
  have hz0 : w.heap.size + 1 < W0.heap.size := heap_lt kR.out
  have hz1 : W0.heap.size ≤ w1.heap.size := hB1.size
  have kR1 := (A2.out.block (w.heap.size + 1) (by omega)).trans ((hB1.block _ hz0).trans kR.out)
  obtain ⟨rl, r0, r1, r2, rf⟩ := three_facts kR1
  have rf0 := rf 0
  have rf1 := rf 1
  have rf2 := rf 2
  have hxw : ¬ w.heap.size + 1 = w1.heap.size := by omega
  clear rf kR1 hown hB1
  go_wp2
  refine bodyPost_ret (v := .agg #[.int .i64 r.code, .string r.text, .slice a r.chain.length c]) (by simp [results, Tryz.results15, go_sem, r0, r1, r2]) rfl ⟨_, rfl, ⟨a, c, rfl, ?_⟩, ?_⟩
  · refine own_mono (own_other (own_other (own_other (own_below O1.out A2.out (Nat.le_refl _)) (fun e => ?_) _ _) (fun e => ?_) _ _) (fun e => ?_) _ _) A0.out.size
    all_goals
      have := (own_cellsM O1.out _ e).1
      omega
  · exact (((B1.out.trans (A2.out.mono B1.out.size)).setCell (p := ⟨w.heap.size + 1, 0, none⟩) (by show w.heap.size ≤ w.heap.size + 1; omega) _).setCell (p := ⟨w.heap.size + 1, 1, none⟩) (by show w.heap.size ≤ w.heap.size + 1; omega) _).setCell (p := ⟨w.heap.size + 1, 2, none⟩) (by show w.heap.size ≤ w.heap.size + 1; omega) _
end
end Go.Proofs.YtkophfgkcijjkaaGreatDoor.Vp
