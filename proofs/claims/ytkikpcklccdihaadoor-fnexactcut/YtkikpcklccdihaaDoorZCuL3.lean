/-
  spec: l3Copy; l3Order from any place on.
-/
import Derived.Test.YtkikpcklccdihaaDoorZCuMoved
import Derived.Test.YtkikpcklccdihaaDoorZCaSpec5
import Derived.Deep.DeepCutAuto
namespace Go.Proofs.YtkikpcklccdihaaDoor.Vp
open Go.RowKit Go.Proofs.YtkikpcklccdihaaDoor.Ca

/-- The boxes of l3Copy: the account, the answer, what is made. -/
structure CpB (W : World) (h : Nat) (v vo : Value) : Prop where
  size : h + 3 ≤ W.heap.size
  a : W.cell? ⟨h, 0, none⟩ = some v
  r : W.cell? ⟨h + 1, 0, none⟩ = some (.slice none 0 0) ∧ W.frozen? ⟨h + 1, 0, none⟩ = false
  o : W.cell? ⟨h + 2, 0, none⟩ = some vo ∧ W.frozen? ⟨h + 2, 0, none⟩ = false
theorem cp_one (W : World) (v : Value) (t : TypeId) : (W.alloc (.cells #[v] t)).cell? ⟨W.heap.size, 0, none⟩ = some v ∧ (W.alloc (.cells #[v] t)).frozen? ⟨W.heap.size, 0, none⟩ = false := by
  constructor <;> simp
theorem cp_new (w : World) (v : Value) (t1 : TypeId) : CpB (((w.alloc (.cells #[v] t1)).alloc (.cells #[.slice none 0 0] t1)).alloc (.cells #[.slice none 0 0] t1)) w.heap.size v (.slice none 0 0) := by
  obtain ⟨w1, e1⟩ : ∃ w1, w.alloc (.cells #[v] t1) = w1 := ⟨_, rfl⟩
  obtain ⟨w2, e2⟩ : ∃ w2, w1.alloc (.cells #[.slice none 0 0] t1) = w2 := ⟨_, rfl⟩
  obtain ⟨w3, e3⟩ : ∃ w3, w2.alloc (.cells #[.slice none 0 0] t1) = w3 := ⟨_, rfl⟩
  rw [e1, e2, e3]
  have z1 : w1.heap.size = w.heap.size + 1 := by rw [← e1]; simp
  have z2 : w2.heap.size = w.heap.size + 2 := by rw [← e2]; simp; omega
  have z3 : w3.heap.size = w.heap.size + 3 := by rw [← e3]; simp; omega
  have b23 : Below w2.heap.size w2 w3 := by rw [← e3]; exact (Below.refl _ _).alloc (Nat.le_refl _) _
  have b13 : Below w1.heap.size w1 w3 := (by rw [← e2]; exact (Below.refl _ _).alloc (Nat.le_refl _) _ : Below w1.heap.size w1 w2).trans (b23.mono (by omega))
  have n1 := cp_one w v t1
  have n2 := cp_one w1 (.slice none 0 0) t1
  have n3 := cp_one w2 (.slice none 0 0) t1
  rw [e1] at n1
  rw [e2, z1] at n2
  rw [e3, z2] at n3
  exact ⟨by omega, (b13.cell (p := ⟨w.heap.size, 0, none⟩) (by show w.heap.size < _; omega)).trans n1.1, ⟨(b23.cell (p := ⟨w.heap.size + 1, 0, none⟩) (by show w.heap.size + 1 < _; omega)).trans n2.1, (b23.frozen (p := ⟨w.heap.size + 1, 0, none⟩) (by show w.heap.size + 1 < _; omega)).trans n2.2⟩, n3⟩
theorem CpB.below {W W' : World} {h B : Nat} {v vo : Value} (b : CpB W h v vo) (hb : Below B W W') (hB : h + 3 ≤ B) : CpB W' h v vo := by
  have c : ∀ k o, k < B → W'.cell? ⟨k, o, none⟩ = W.cell? ⟨k, o, none⟩ := fun k o hk => hb.cell (p := ⟨k, o, none⟩) hk
  have f : ∀ k o, k < B → W'.frozen? ⟨k, o, none⟩ = W.frozen? ⟨k, o, none⟩ := fun k o hk => hb.frozen (p := ⟨k, o, none⟩) hk
  exact ⟨Nat.le_trans b.size hb.size, (c _ _ (by omega)).trans b.a, ⟨(c _ _ (by omega)).trans b.r.1, (f _ _ (by omega)).trans b.r.2⟩, ⟨(c _ _ (by omega)).trans b.o.1, (f _ _ (by omega)).trans b.o.2⟩⟩
theorem CpB.out {W : World} {h : Nat} {v vo : Value} (b : CpB W h v vo) (u : Value) : CpB (W.setCell ⟨h + 2, 0, none⟩ u) h v u := by
  have c : ∀ k o, k ≠ h + 2 → (W.setCell ⟨h + 2, 0, none⟩ u).cell? ⟨k, o, none⟩ = W.cell? ⟨k, o, none⟩ := fun k o hk => cell_far _ _ _ _ (by simpa using fun e => hk e.symm)
  exact ⟨by simpa using b.size, (c _ _ (by omega)).trans b.a, ⟨(c _ _ (by omega)).trans b.r.1, by simpa using b.r.2⟩, ⟨World.cell?_setCell_same' _ _ _ (by rw [b.o.1]; rfl), by simpa using b.o.2⟩⟩
theorem cp_six (w : World) (v0 v1 v2 v3 v4 v5 : Value) (t : TypeId) : ∀ j u, [v0, v1, v2, v3, v4, v5][j]? = some u → (w.alloc (.cells #[v0, v1, v2, v3, v4, v5] t)).cell? ((⟨w.heap.size, 0, none⟩ : Addr).add j) = some u := by
  intro j u hu
  have hj : j < 6 := by have := (List.getElem?_eq_some_iff.1 hu).1; simpa using this
  have h := six_new w v0 v1 v2 v3 v4 v5 t
  rw [addr_add, Nat.zero_add]
  rcases (show j = 0 ∨ j = 1 ∨ j = 2 ∨ j = 3 ∨ j = 4 ∨ j = 5 by omega) with rfl | rfl | rfl | rfl | rfl | rfl
  all_goals simp only [List.getElem?_cons_zero, List.getElem?_cons_succ, Option.some.injEq] at hu; subst hu
  · exact h.c0.1
  · exact h.c1.1
  · exact h.c2.1
  · exact h.c3.1
  · exact h.c4.1
  · exact h.c5.1

set_option maxRecDepth 100000 in
set_option maxHeartbeats 8000000 in
theorem l3Copy_any (b off n cap : Nat) (f : Nat → Deed) (w : World) (hn : (n : Int) ≤ 1048576) (hf : RowDeedS w b off n f) (hfit : ∀ i, i < n → FitsDeed (f i)) :
    Calls Tryd.prog 15 #[.agg #[.slice (some ⟨b, off, none⟩) n cap]] w fun e w' => ∃ a c R, e = .returned (.agg #[.slice a R.length c]) ∧ DRow w' (w.heap.size + 3) (.slice a R.length c) R ∧ R.map (·.1) = (List.range n).map f ∧ Below w.heap.size w w' := by
  have HF := hide hf
  have HM := hide hfit
  clear hf hfit
  obtain ⟨i0', hi, hy0, hy1, hy2⟩ := info_parts infoLink
  obtain ⟨i1', hj, hz0, hz1, hz2⟩ := info_parts infoDeed
  have A0 := hide ((((Below.refl w.heap.size w).alloc (Nat.le_refl _) (.cells #[.slice (some ⟨b, off, none⟩) n cap] 28)).alloc (by simp) (.cells #[.slice none 0 0] 28)).alloc (by simp; omega) (.cells #[.slice none 0 0] 28))
  have X0 := hide (cp_new w (.slice (some ⟨b, off, none⟩) n cap) 28)
  go_enter Tryd.func15, Tryd.ntmps15
  go_wp2
  generalize ((w.alloc (.cells #[.slice (some ⟨b, off, none⟩) n cap] 28)).alloc (.cells #[.slice none 0 0] 28)).alloc (.cells #[.slice none 0 0] 28) = W0 at A0 X0 ⊢
  go_loopw [4] (fun i wr => ∃ (k : Nat) (vo : Value) (R : List DR), k ≤ n ∧ i = .int .i64 k ∧ Hid (CpB wr w.heap.size (.slice (some ⟨b, off, none⟩) n cap) vo) ∧ Hid (DRow wr (w.heap.size + 3) vo R) ∧ Hid (R.map (·.1) = (List.range k).map f) ∧ Hid (Below w.heap.size w wr)) (fun i _ => n - (intOf i).toNat)
  case atStart => exact ⟨0, _, [], by omega, rfl, X0.out, dRow_nil _ _, rfl, A0.out⟩
  case round =>
    clear X0 A0
    obtain ⟨k, vo, R, hk, rfl, X1, D1, HE, B1⟩ := hrel
    have ca := X1.out.a
    have hs1 := X1.out.size
    obtain ⟨ao, co, rfl⟩ := cu_slice D1.out.own
    by_cases hlt : k < n
    · have hRl : R.length = k := by have := congrArg List.length HE.out; simpa using this
      have HRL := hide hRl
      have hR4 : (R.length : Int) ≤ 1048576 := by omega
      clear hRl
      obtain ⟨c0, c1, c2, c3, ⟨b0, o0, e0, c4, h4⟩, ⟨b1, o1, e1, c5, h5⟩⟩ := (HF.out.below B1.out (Nat.le_refl _)).2 k hlt
      obtain ⟨hf0, hf1⟩ := HM.out k hlt
      have HNX : Hid ((List.range (k + 1)).map f = (List.range k).map f ++ [f k]) := by show _ = _; rw [List.range_succ, List.map_append]; rfl
      generalize f k = x at c0 c1 c2 c3 c4 c5 h4 h5 hf0 hf1 HNX
      have D2 := hide ((Below.refl wr.heap.size wr).alloc (Nat.le_refl _) (.cells #[.string x.name, .int .i64 x.kind, .int .i64 x.code, .string x.text, .slice (some ⟨b0, o0, none⟩) x.actN e0, .slice (some ⟨b1, o1, none⟩) x.linksN e1] 49))
      have S2 := hide (six_new wr (.string x.name) (.int .i64 x.kind) (.int .i64 x.code) (.string x.text) (.slice (some ⟨b0, o0, none⟩) x.actN e0) (.slice (some ⟨b1, o1, none⟩) x.linksN e1) 49)
      have H4 := hide (h4.below D2.out (Nat.le_refl _))
      have H5 := hide h5
      have hz2' : wr.heap.size + 1 = (wr.alloc (.cells #[.string x.name, .int .i64 x.kind, .int .i64 x.code, .string x.text, .slice (some ⟨b0, o0, none⟩) x.actN e0, .slice (some ⟨b1, o1, none⟩) x.linksN e1] 49)).heap.size := by simp
      have s4 := S2.out.c4.1
      clear h4 h5
      go_wp2_with fail
      generalize wr.alloc (.cells #[.string x.name, .int .i64 x.kind, .int .i64 x.code, .string x.text, .slice (some ⟨b0, o0, none⟩) x.actN e0, .slice (some ⟨b1, o1, none⟩) x.linksN e1] 49) = W2 at D2 S2 H4 hz2' s4 ⊢
      clear ca c0 c1 c2 c3 c4 c5 s4
      refine (l2Program_row b0 o0 x.actN e0 x.act _ (by omega) H4.out).mono ?_
      rintro e w3 ⟨g0, d0, rfl, hO3, hB3⟩
      have D3 := hide (D2.out.trans (hB3.mono (by omega)))
      have S3 := hide (S2.out.below hB3 (by omega))
      have hg0 := (own_lt hO3).1
      obtain ⟨s4, y4⟩ := S3.out.c4
      have S4 := hide (S3.out.set4 (.slice (some ⟨g0, 0, none⟩) x.actN d0))
      have D4 := hide (D3.out.setCell (p := ⟨wr.heap.size, 4, none⟩) (Nat.le_refl _) (.slice (some ⟨g0, 0, none⟩) x.actN d0))
      have O4 := hide (own_set (R := wr.heap.size) (j := 4) (own_mono hO3 (show wr.heap.size + 1 ≤ W2.heap.size by omega)) (by omega) (.slice (some ⟨g0, 0, none⟩) x.actN d0))
      have hz4 : W2.heap.size ≤ (w3.setCell ⟨wr.heap.size, 4, none⟩ (.slice (some ⟨g0, 0, none⟩) x.actN d0)).heap.size := by simpa using hB3.size
      have s5 := S4.out.c5.1
      clear hO3 hB3
      go_upto_region 7 with fail
      generalize w3.setCell ⟨wr.heap.size, 4, none⟩ (.slice (some ⟨g0, 0, none⟩) x.actN d0) = W4 at S4 D4 O4 hz4 s5 ⊢
      clear s4 y4 S3 D3
      have A5 := hide ((Below.refl W4.heap.size W4).alloc (Nat.le_refl _) (.cells #[] 51))
      have R5 := hide ((H5.out.below D4.out (Nat.le_refl _)).below A5.out (Nat.le_refl _))
      have s5' := (A5.out.cell (p := ⟨wr.heap.size, 5, none⟩) S4.out.lt).trans s5
      go_upto_region 8 with (at_builtin; refine wpList_append_own _ rfl (.tmp 23) (.tmp 25) 47 rfl W4.heap.size 51 i0' (.agg #[.string ⟨#[]⟩, .bool false, .bool false, .int .i64 0]) 4 32 Tryd.underlying47 hi hy0 hy1 hy2 rfl (by decide) (.slice (some ⟨W4.heap.size, 0, none⟩) 0 0) 0 [] (by simp [Act.eval]) (World.ownsRow_made W4 #[] 0 (Nat.le_refl _) (by unfold maxLen; omega) rfl) ⟨b1, o1, none⟩ x.linksN e1 (lnkL x.links x.linksN) (by simp [Act.eval]) (linkL_len x.links x.linksN) (row_link R5.out) (linkL_one x.links x.linksN) (by unfold maxLen; omega) (by omega) (by simp) ?_; intro v5 w5 hown hgrow hnil; simp only [Nat.zero_add, List.nil_append] at hown; obtain ⟨g1, d1, rfl⟩ : ∃ g c, v5 = .slice (some ⟨g, 0, none⟩) x.linksN c := (by rcases hown.2 with ⟨rfl, _⟩ | ⟨g, c, cur, rfl, _⟩; (have := hnil.1 rfl; simp at this); exact ⟨g, c, rfl⟩); have B5 := hide (Below.grown A5.out hgrow (by simp) (fun j e => by simp [Value.ownBlock] at e; omega)); have O5 := hide hown; obtain ⟨t5, u5⟩ := (S4.out.below B5.out S4.out.lt).c5; clear hown hgrow hnil)
      have hg1 := (own_lt O5.out).1
      have hd4 := S4.out.lt
      have S6 := hide ((S4.out.below B5.out S4.out.lt).set5 (.slice (some ⟨g1, 0, none⟩) x.linksN d1))
      have D6 := hide ((D4.out.trans (B5.out.mono D4.out.size)).setCell (p := ⟨wr.heap.size, 5, none⟩) (Nat.le_refl _) (.slice (some ⟨g1, 0, none⟩) x.linksN d1))
      have O6 := hide (own_set (R := wr.heap.size) (j := 5) (own_below O4.out B5.out (Nat.le_refl _)) (by omega) (.slice (some ⟨g1, 0, none⟩) x.linksN d1))
      have P6 := hide (own_set (R := wr.heap.size) (j := 5) O5.out hd4 (.slice (some ⟨g1, 0, none⟩) x.linksN d1))
      generalize w5.setCell ⟨wr.heap.size, 5, none⟩ (.slice (some ⟨g1, 0, none⟩) x.linksN d1) = W6 at S6 D6 O6 P6 ⊢
      clear t5 u5 S4 D4 O4 O5 B5 R5 A5
      have G6 : Hid (DSub W6 wr.heap.size (x, .slice (some ⟨g0, 0, none⟩) x.actN d0, .slice (some ⟨g1, 0, none⟩) x.linksN d1)) := ⟨own_mono O6.out (by omega), own_mono P6.out (by omega)⟩
      have X6 := hide (X1.out.below D6.out hs1)
      obtain ⟨q0, _⟩ := S6.out.c0
      obtain ⟨q1, _⟩ := S6.out.c1
      obtain ⟨q2, _⟩ := S6.out.c2
      obtain ⟨q3, _⟩ := S6.out.c3
      obtain ⟨q4, _⟩ := S6.out.c4
      obtain ⟨q5, _⟩ := S6.out.c5
      obtain ⟨m0, m1⟩ := X6.out.o
      have A7 := hide ((Below.refl W6.heap.size W6).alloc (Nat.le_refl _) (.cells #[.string x.name, .int .i64 x.kind, .int .i64 x.code, .string x.text, .slice (some ⟨g0, 0, none⟩) x.actN d0, .slice (some ⟨g1, 0, none⟩) x.linksN d1] 49))
      have D7 := hide (D6.out.trans (A7.out.mono D6.out.size))
      have R7 := hide (D1.out.below D7.out (Nat.le_refl _))
      have G7 := hide (G6.out.below A7.out (Nat.le_refl _))
      have hz7 : w.heap.size + 3 ≤ (W6.alloc (.cells #[.string x.name, .int .i64 x.kind, .int .i64 x.code, .string x.text, .slice (some ⟨g0, 0, none⟩) x.actN d0, .slice (some ⟨g1, 0, none⟩) x.linksN d1] 49)).heap.size := Nat.le_trans hs1 D7.out.size
      go_wp2_with (at_builtin; refine wpList_append_own _ rfl (.tmp 29) (.tmp 31) 26 rfl (w.heap.size + 3) 49 i1' (.agg #[.string ⟨#[]⟩, .int .i64 0, .int .i64 0, .string ⟨#[]⟩, .slice none 0 0, .slice none 0 0]) 6 96 Tryd.underlying26 hj hz0 hz1 hz2 rfl (by decide) (.slice ao R.length co) R.length (R.flatMap ddV) (by simp [Act.eval]) R7.out.own ⟨W6.heap.size, 0, none⟩ 1 1 (ddV (x, .slice (some ⟨g0, 0, none⟩) x.actN d0, .slice (some ⟨g1, 0, none⟩) x.linksN d1)) (by simp [Act.eval]) rfl (cp_six W6 _ _ _ _ _ _ _) (by simp [ddV, Value.oneCell']) (by unfold maxLen; omega) (by omega) hz7 ?_; intro v' w8 hown hgrow hnil; obtain ⟨gs, cs, rfl⟩ := cu_some hown (by omega); have E8 := hide (Below.grown (Below.refl (w.heap.size + 3) _) hgrow hz7 (fun j e => (R7.out.own.lt j e).1)); have M8 := hide (D1.out.more R7.out hs1 G7.out hown hgrow); have X8 := hide ((X6.out.below A7.out X6.out.size).below E8.out (Nat.le_refl _)); have B8 := hide ((B1.out.trans (D7.out.mono B1.out.size)).trans (E8.out.mono (by omega))); obtain ⟨k0, k1⟩ := X8.out.o; clear hown hgrow hnil)
      have M9 := hide (M8.out.set (p := ⟨w.heap.size + 1 + 1, 0, none⟩) (e := 0) (.inl (by show w.heap.size + 1 + 1 < w.heap.size + 3; omega)) (.slice (some ⟨gs, 0, none⟩) (R.length + 1) cs))
      refine ⟨⟨k + 1, .slice (some ⟨gs, 0, none⟩) (R.length + 1) cs, R ++ [(x, Value.slice (some ⟨g0, 0, none⟩) x.actN d0, Value.slice (some ⟨g1, 0, none⟩) x.linksN d1)], by omega, by go_num, X8.out.out _, M9.out, ?_, B8.out.setCell (by show w.heap.size ≤ w.heap.size + 2; omega) _⟩, by simp [intOf]; omega⟩
      show _ = _
      rw [HNX.out, List.map_append, HE.out]
      rfl
    · have e : k = n := by omega
      subst e
      obtain ⟨r0, z0⟩ := X1.out.r
      obtain ⟨o0, _⟩ := X1.out.o
      go_wp2
      exact bodyPost_ret (v := .agg #[.slice ao R.length co]) (by simp [results, Tryd.results15, go_sem, r0]) rfl ⟨ao, co, R, rfl, D1.out.set (e := 0) (.inl (by show w.heap.size + 1 < w.heap.size + 3; omega)) _, HE.out, B1.out.setCell (by show w.heap.size ≤ w.heap.size + 1; omega) _⟩

set_option maxRecDepth 100000 in
set_option maxHeartbeats 4000000 in
theorem l3OrderAt_any (b off n cap p : Nat) (f : Nat → Deed) (w : World) (hA : Ahead f n) (hp : p < n) (hn : (n : Int) ≤ 400) (hf : RowDeed w b off n f) (hlk : ∀ p, p < n → (f p).linksN ≤ 200) :
    Calls Tryd.prog 14 #[.agg #[.slice (some ⟨b, off, none⟩) n cap], .int .i64 (p : Int)] w fun e w' => ∃ H ov, e = .returned (.pointer (some ⟨H, 0, none⟩)) ∧ H < w'.heap.size ∧ w'.cell? ⟨H, 2, none⟩ = some ov ∧ w'.ownsRow w.heap.size 3 1 ov (cutL f p).length ((cutL f p).map fun z : Nat => Value.int .i64 (z : Int)) ∧ Below w.heap.size w w' := by
  have k0 : (w.alloc (.cells #[.slice (some ⟨b, off, none⟩) n cap] 28)).cell? ⟨w.heap.size, 0, none⟩ = some (.slice (some ⟨b, off, none⟩) n cap) := by simp
  have hfu := cutL_fuel hA hp
  have hll := (cutL_len hA hp).1
  have hC := slist_any w (w.heap.size + 1 + 1 + 1) b off n cap (w.heap.size + 1 + 1) (w.heap.size + 1) f hA hn hf hlk n p 0 (fun _ => false) (.slice none 0 0) [] (-1) _ hp hp (by omega) sls_new rfl (by rw [← hfu, plc, List.length_map] at hll; simp; omega)
  have HC := hide hC
  have HFU := hide hfu
  have hmk := fun w => mkBool n (by omega) w
  clear hC hA hf hlk hfu hll
  go_enter Tryd.func14, Tryd.ntmps14
  go_wp2_with fail
  go_region_with fail
  all_goals
    clear hmk k0
    go_wp2_with fail
    refine HC.out.mono ?_
    rintro e w2 ⟨rfl, ov, hS, hK⟩
    have HS := hide hS
    clear hS hK
    go_wp2
    go_ret
    refine ⟨w.heap.size + 1 + 1, ov, rfl, ?_, HS.out.c2.1, ?_, HS.out.low⟩
    · have := HS.out.hz
      omega
    · have h := own_mono HS.out.ord (base' := w.heap.size) (by omega)
      rw [List.nil_append] at h
      rw [← HFU.out]
      exact h

end Go.Proofs.YtkikpcklccdihaaDoor.Vp
