import Derived.Test.YtgbagcpepfemgaaGreatDoorYO
namespace Go.Proofs.YtgbagcpepfemgaaGreatDoor.Vp
open Go.RowKit Go.Proofs.YtgbagcpepfemgaaGreatDoor.Ca
section
variable {w0 : World} {S : Spc} {a0 a1 : Option Addr} {c0 c1 hb : Nat} {md or st : Value} {making : List ByteArray} {made : List Ent} {L : List SM}
set_option maxRecDepth 1000000 in
set_option maxHeartbeats 8000000 in
theorem make_deep (C : SCtx w0 S a0 a1) (w : World) (nm : ByteArray) (h : SI w0 hb (.slice a0 S.n0 c0) (.slice a1 S.n1 c1) w making made L md or st) (hLn : L.length ≤ 100000) (hm60 : making.length = 60) (h1 : fI L nm = none) (hi : atL making nm = none) (tg : Nat) (h3 : atI (nm1 S.f1) S.n1 nm = some tg) :
    Calls Tryz.prog 44 #[.pointer (some ⟨hb, 0, none⟩), .string nm] w fun e w' => MakePost w0 hb (.slice a0 S.n0 c0) (.slice a1 S.n1 c1) making L w e w' (.deep nm) := by
  obtain ⟨im, him, hm0, hm1, hm2⟩ := infoS2 infoMade
  obtain ⟨i1, hi1, hy0, hy1, hy2⟩ := infoS2 infoStrS
  have A0 := hide ((Below.refl w.heap.size w).alloc (Nat.le_refl _) (.cells #[.int .i64 0, .string ⟨#[]⟩, .slice none 0 0] 29))
  have kr : Hid ((w.alloc (.cells #[.int .i64 0, .string ⟨#[]⟩, .slice none 0 0] 29)).heap[w.heap.size]? = some (.cells #[.int .i64 0, .string ⟨#[]⟩, .slice none 0 0] 29 (0, 0))) := heap_alloc_new _ _
  have S0 := hide (h.below A0.out (Nat.le_refl _))
  have hB0 : w0.heap.size ≤ w.heap.size := h.lt
  have e1 : idxI (fI L nm) = -1 := by rw [h1]; rfl
  obtain ⟨am, cm, rfl⟩ := sh_slice h.rmd
  obtain ⟨n, hn⟩ : ∃ n, n = L.length := ⟨_, rfl⟩
  have HN := hide hn
  have CC := hide C
  have hsm := C.ok.small
  have hn1 : n ≤ 100000 := by omega
  clear h h1 hn C
  obtain ⟨es0, es⟩ : ∃ z, idxI (atI (nm0 S.f0) S.n0 nm) = z := ⟨_, rfl⟩
  have et : idxI (atI (nm1 S.f1) S.n1 nm) = (tg : Int) := by rw [h3]; rfl
  have hbef : ∀ (j : Nat) (y : ByteArray), making[j]? = some y → (y.toList == nm.toList) = false := fun j y hy => by
    unfold atL at hi
    rw [List.findIdx?_eq_none_iff] at hi
    exact hi y (List.mem_of_getElem? hy)
  have HBF := hide hbef
  obtain ⟨ms, hms⟩ : ∃ ms, ms = making.length := ⟨_, rfl⟩
  have HMS := hide hms
  have hT0 : (0 : Int) ≤ (tg : Int) := by omega
  have hT1 := (atI_some h3).1
  rw [← hms] at hm60
  obtain ⟨ast, cst, rfl⟩ := sh_slice S0.out.rst
  clear h3 hi hbef hms
  have hms60 : ms = 60 := by omega
  clear hm60
  go_enter Tryz.func44, Tryz.ntmps44
  go_wp2_with fail
  generalize w.alloc (.cells #[.int .i64 0, .string ⟨#[]⟩, .slice none 0 0] 29) = W0 at A0 kr S0 ⊢
  refine (find_any W0 nm S0.out hLn).mono ?_
  rintro e w1 ⟨rfl, hw1⟩
  rw [hw1, e1]
  clear hw1 e1
  obtain ⟨hbl, -, -, b2, -⟩ := S0.out.box.facts
  rw [← HN.out] at b2
  have A1 := hide ((Below.refl W0.heap.size W0).alloc (Nat.le_refl _) (.cells #[.string nm, .int .i64 0, .string ⟨#[]⟩, .slice none 0 0, .slice none 0 0, .bool false] 112))
  have SA := hide (S0.out.below A1.out (Nat.le_refl _))
  have RM := hide (by have h := SA.out.rmd; rw [← HN.out] at h; exact h)
  have hz1 : (W0.alloc (.cells #[.string nm, .int .i64 0, .string ⟨#[]⟩, .slice none 0 0, .slice none 0 0, .bool false] 112)).heap.size = W0.heap.size + 1 := by simp
  have HG : Hid (∀ w2 : World, (W0.alloc (.cells #[.string nm, .int .i64 0, .string ⟨#[]⟩, .slice none 0 0, .slice none 0 0, .bool false] 112)).grownBy w2 (Value.slice am n cm).ownBlock → w2.heap[hb]? = (W0.alloc (.cells #[.string nm, .int .i64 0, .string ⟨#[]⟩, .slice none 0 0, .slice none 0 0, .bool false] 112)).heap[hb]?) := fun w2 hg => hg.block hb (by omega) fun e => by
    obtain ⟨_, _, cs, hc⟩ := own_cellsM RM.out hb e.symm
    exact absurd (two_types SA.out.box hc) (by decide)
  have hbs1 : w0.heap.size ≤ (W0.alloc (.cells #[.string nm, .int .i64 0, .string ⟨#[]⟩, .slice none 0 0, .slice none 0 0, .bool false] 112)).heap.size := SA.out.lt
  have hz1' : W0.heap.size < (W0.alloc (.cells #[.string nm, .int .i64 0, .string ⟨#[]⟩, .slice none 0 0, .slice none 0 0, .bool false] 112)).heap.size := by omega
  clear hz1
  go_upto_region 7 with (first
    | (at_builtin; refine wpList_append_at _ rfl (.tmp 46) (.tmp 49) 53 rfl w0.heap.size 112 im (.agg #[.string ⟨#[]⟩, .int .i64 0, .string ⟨#[]⟩, .slice none 0 0, .slice none 0 0, .bool false]) 6 96 Tryz.underlying53 him hm0 hm1 hm2 rfl (by decide) (.slice am n cm) n (L.flatMap smV) (by simp [Act.eval]) RM.out ⟨W0.heap.size, 0, none⟩ 1 1 [.string nm, .int .i64 0, .string ⟨#[]⟩, .slice none 0 0, .slice none 0 0, .bool false] (by simp [Act.eval]) rfl (six_new2 W0 _ _ _ _ _ _ _) (by simp [Value.oneCell']) (by unfold maxLen; omega) (by omega) hbs1 ?_; intro v2 w2 hown hgrow hat; have O2 := hide hown; have G2 := hide hgrow; have hb2 := hide (HG.out w2 hgrow); obtain ⟨g2, cp2, cu2, rfl, hq2⟩ := hown.2.resolve_left (fun h => by omega); clear hq2 hown hgrow hat; obtain ⟨hbl2, -, -, f2, -, -, -, -, -, -, ff⟩ := (ShBox.blk SA.out.box hb2.out).facts; have ff2 := ff 2; clear ff)
    | fail)
  have SX := hide (SA.out.addL (m := newM nm) (w' := w2) (v := .slice (some ⟨g2, 0, none⟩) (n + 1) cp2) (by rw [← HN.out]; exact G2.out) (by rw [← HN.out]; exact O2.out) rfl)
  have S3 := hide SX.out.1
  have K3 : Hid (KS w0.heap.size XN w (w2.setCell ⟨hb, 2, none⟩ (.slice (some ⟨g2, 0, none⟩) (n + 1) cp2))) := ((KS.of_below (X := XN) A0.out (Nat.le_refl _) hB0).to (KS.of_below A1.out (Nat.le_refl _) S0.out.lt)).to SX.out.2
  have kr3 : Hid ((w2.setCell ⟨hb, 2, none⟩ (.slice (some ⟨g2, 0, none⟩) (n + 1) cp2)).heap[w.heap.size]? = some (.cells #[.int .i64 0, .string ⟨#[]⟩, .slice none 0 0] 29 (0, 0))) := by
    have h0 := (A1.out.block _ (heap_lt kr.out)).trans kr.out
    exact (SX.out.2.blk _ _ _ _ h0 (by decide) (by decide) (by decide) fun h => h).trans h0
  have hL1 : (L ++ [newM nm]).length = n + 1 := by rw [List.length_append, List.length_singleton, ← HN.out]
  have hLk : Hid ((L ++ [newM nm])[n]? = some (newM nm)) := by rw [HN.out]; show _ = _; rw [List.getElem?_append_right (Nat.le_refl _), Nat.sub_self]; rfl
  clear SX f2 ff2 hbl2 b2 hbl RM SA A1 HG O2 G2 hb2
  generalize w2.setCell ⟨hb, 2, none⟩ (.slice (some ⟨g2, 0, none⟩) (n + 1) cp2) = W3 at S3 K3 kr3 ⊢
  obtain ⟨hbl, b0, b1, -⟩ := S3.out.box.facts
  go_wp2_with fail
  refine (l2Source_at a0 S.n0 c0 a1 S.n1 c1 S.f0 nm W3 (by omega) (CC.out.src.below S3.out.bel (Nat.le_refl _))).mono ?_
  rintro e w4 ⟨he, hB⟩
  rw [es] at he
  subst he
  have S4 := hide (S3.out.below hB (Nat.le_refl _))
  have kr4 : Hid (w4.heap[w.heap.size]? = _) := (hB.block _ (heap_lt kr3.out)).trans kr3.out
  have K4 := hide (K3.out.to (KS.of_below (X := XN) hB (Nat.le_refl _) S3.out.lt))
  clear hB b0 b1 hbl S3 K3 kr3
  obtain ⟨hbl, b0, b1, -⟩ := S4.out.box.facts
  go_wp2_with fail
  refine (l2Target_at a0 S.n0 c0 a1 S.n1 c1 S.f1 nm w4 (by omega) (CC.out.tgt.below S4.out.bel (Nat.le_refl _))).mono ?_
  rintro e w5 ⟨he, hB⟩
  rw [et] at he
  subst he
  have S5 := hide (S4.out.below hB (Nat.le_refl _))
  have kr5 : Hid (w5.heap[w.heap.size]? = some (.cells #[.int .i64 0, .string ⟨#[]⟩, .slice none 0 0] 29 (0, 0))) := (hB.block _ (heap_lt kr4.out)).trans kr4.out
  have K5 := hide (K4.out.to (KS.of_below (X := XN) hB (Nat.le_refl _) S4.out.lt))
  clear hB b0 b1 hbl S4 K4 kr4 A0 S0 kr
  obtain ⟨hbl, -, -, -, -, b4, b5, b6, b7, b8, bf⟩ := S5.out.box.facts
  have bf4 := bf 4
  have bf5 := bf 5
  have bf6 := bf 6
  have bf7 := bf 7
  have bf8 := bf 8
  rw [← HMS.out] at b4
  clear bf
  go_wp2_with fail
  go_loop [9] (fun i => ∃ j : Nat, j ≤ ms ∧ i = .int .i64 j) (fun i => ms - (intOf i).toNat)
  case atStart => exact ⟨0, by omega, rfl⟩
  case round =>
  obtain ⟨j, hj, rfl⟩ := hrel
  by_cases hlt : j < ms
  · obtain ⟨y, hy⟩ : ∃ y, making[j]? = some y := ⟨_, List.getElem?_eq_getElem (by have := HMS.out; omega)⟩
    obtain ⟨gs, cs, cus, ev, -⟩ := S5.out.rst.2.resolve_left (fun h => by have := HMS.out; omega)
    rw [← HMS.out] at ev
    cases ev
    have dj : w5.cell? ⟨gs, j, none⟩ = some (.string y) := str_cell S5.out.rst hy
    have hjm : (j : Int) < (ms : Int) := by omega
    have HNE := hide (HBF.out j y hy)
    clear hy
    have hne := HNE.out
    go_wp2
    exact ⟨⟨j + 1, by omega, by go_num⟩, by simp [intOf]; omega⟩
  obtain rfl : j = ms := by omega
  · subst hms60
    have hbw : ¬ hb = w.heap.size := fun e => by have h := S5.out.box; unfold ShBox at h; rw [e] at h; exact absurd (two_types h kr5.out) (by decide)
    have hbw' : ¬ w.heap.size = hb := fun e => hbw e.symm
    obtain ⟨rl, r0, r1, r2, rf⟩ := three_fact kr5.out
    have rf0 := rf 0
    have rf1 := rf 1
    have rf2 := rf 2
    clear rf
    go_wp2_with fail
    refine bodyPost_ret (v := .agg #[.int .i64 7, .string nm, .slice none 0 0]) (by simp [results, Tryz.results44, go_sem, r0, r1, r2]) rfl ?_
    have bx8 := heap_setCell_at S5.out.box (j := 8) (.bool true)
    have bx5 := heap_setCell_at bx8 (j := 5) (.int .i64 7)
    have bx6 := heap_setCell_at bx5 (j := 6) (.string nm)
    have bx7 := heap_setCell_at bx6 (j := 7) (.slice none 0 0)
    have hhB : w0.heap.size ≤ hb := S5.out.hbB
    have k8 := (((K5.out.to (KS.setCell (X := XN) _ hhB (.inr fun cs t fz hc => .inr (.inr (two_types hc S5.out.box))) (.bool true) (j := 8))).to (KS.setCell (X := XN) _ hhB (.inr fun cs t fz hc => .inr (.inr (two_types hc bx8))) (.int .i64 7) (j := 5))).to (KS.setCell (X := XN) _ hhB (.inr fun cs t fz hc => .inr (.inr (two_types hc bx5))) (.string nm) (j := 6))).to (KS.setCell (X := XN) _ hhB (.inr fun cs t fz hc => .inr (.inr (two_types hc bx6))) (.slice none 0 0) (j := 7))
    refine ⟨rfl, ⟨_, _, _, _, _, (Below.heap_setCell _ _ _ _ hbw).trans ((Below.heap_setCell _ _ _ _ hbw).trans ((Below.heap_setCell _ _ _ _ hbw).trans bx7)), ⟨rfl, .inl ⟨rfl, rfl⟩⟩⟩, ?_⟩
    exact ((k8.fresh (Nat.le_refl _) hB0 0 _).fresh (Nat.le_refl _) hB0 1 _).fresh (Nat.le_refl _) hB0 2 _
end
end Go.Proofs.YtgbagcpepfemgaaGreatDoor.Vp
