/-
  spec: the listing of a deed, by its own calls.
-/
import Derived.Test.YtolpgafkojlkoabDoorCaSpec2
import Derived.Test.YtolpgafkojlkoabDoorCaList
import Derived.Deep.DeepCutAuto
namespace Go.Proofs.YtolpgafkojlkoabDoor.Vp
open Go.RowKit

theorem infoInt : (Tryd.prog.info? 3).map (fun i => (i.zero, i.size, i.bytes)) = some (some (.int .i64 0), 1, 8) := by kernel_rfl

theorem SixB.blk {w w' : World} {b : Nat} {v0 v1 v2 v3 v4 v5 : Value} (h : SixB w b v0 v1 v2 v3 v4 v5) (hz : w.heap.size ≤ w'.heap.size) (e : w'.heap[b]? = w.heap[b]?) : SixB w' b v0 v1 v2 v3 v4 v5 :=
  have c : ∀ o, w'.cell? ⟨b, o, none⟩ = w.cell? ⟨b, o, none⟩ := fun o => World.cell?_of_block (a := ⟨b, o, none⟩) e
  ⟨Nat.lt_of_lt_of_le h.lt hz, (c 0).trans h.c0, (c 1).trans h.c1, (c 2).trans h.c2, (c 3).trans h.c3, (c 4).trans h.c4, (c 5).trans h.c5⟩
theorem TyAt.blk {w w' : World} {g : Nat} {e : TypeId} (h : TyAt w g e) (hb : w'.heap[g]? = w.heap[g]?) : TyAt w' g e := by
  obtain ⟨c, hc⟩ := h
  exact ⟨c, hb.trans hc⟩

theorem Kpt.grown {H M base n : Nat} {W W' : World} {v : Value} {xs : List Value} (ho : W.ownsRow base 3 1 v n xs) (hg : W.grownBy W' v.ownBlock) : Kpt H M W W' := by
  refine ⟨hg.size, fun k e hk he _ _ => ?_⟩
  obtain ⟨c, hc⟩ := hk
  refine hg.block k (Array.getElem?_eq_some_iff.1 hc).1 (fun e1 => ?_)
  rcases ho.2 with ⟨rfl, _⟩ | ⟨g, cap, cur, rfl, _, hgg, _⟩
  · simp [Value.ownBlock] at e1
  · simp [Value.ownBlock] at e1
    subst e1
    rw [hgg] at hc
    simp at hc
    exact he hc.2.symm
theorem SLs.app {w0 W W' : World} {n1 b off n cap H M : Nat} {s : Nat → Bool} {ov v : Value} {ord ord' : List Nat} {dp : Int} (h : SLs w0 W n1 b off n cap H M s ov ord dp) (hz : W.heap.size ≤ W'.heap.size) (eH : W'.heap[H]? = W.heap[H]?) (eM : W'.heap[M]? = W.heap[M]?) (hl : Below w0.heap.size w0 W') (ho : W'.ownsRow n1 3 1 v ord'.length (ord'.map fun q : Nat => Value.int .i64 (q : Int))) : SLs w0 (W'.setCell ⟨H, 2, none⟩ v) n1 b off n cap H M s v ord' dp := by
  have c : ∀ o, W'.cell? ⟨H, o, none⟩ = W.cell? ⟨H, o, none⟩ := fun o => World.cell?_of_block (a := ⟨H, o, none⟩) eH
  have z : ∀ o, W'.frozen? ⟨H, o, none⟩ = W.frozen? ⟨H, o, none⟩ := fun o => World.frozen?_of_block (a := ⟨H, o, none⟩) eH
  have c' : ∀ o, o ≠ 2 → (W'.setCell ⟨H, 2, none⟩ v).cell? ⟨H, o, none⟩ = W'.cell? ⟨H, o, none⟩ := fun o ho => World.cell?_setCell_other _ _ _ _ (by first | (simp; done) | (simp; exact fun e => ho e.symm) | (simp; omega))
  refine ⟨(c' 0 (by omega)).trans ((c 0).trans h.c0), (c' 1 (by omega)).trans ((c 1).trans h.c1), ⟨World.cell?_setCell_same' _ _ _ (by rw [c 2, h.c2.1]; rfl), ?_⟩, ⟨(c' 3 (by omega)).trans ((c 3).trans h.c3.1), ?_⟩, fun q hq => ⟨(World.cell?_setCell_other _ _ _ _ (by first | (simp; done) | (simp; exact fun e => absurd e.symm h.ne) | (simp; exact fun e => absurd e h.ne) | (simp; omega))).trans ((World.cell?_of_block (a := ⟨M, q, none⟩) eM).trans (h.row q hq).1), ?_⟩, own_far' ho h.hH.2 _, hl.setCell h.hH.1 _, h.hH, h.hM, h.ne, by have := h.hz; simp; omega⟩
  · rw [World.frozen?_setCell]; exact (z 2).trans h.c2.2
  · rw [World.frozen?_setCell]; exact (z 3).trans h.c3.2
  · rw [World.frozen?_setCell]; exact (World.frozen?_of_block (a := ⟨M, q, none⟩) eM).trans (h.row q hq).2

set_option maxRecDepth 100000 in
set_option maxHeartbeats 8000000 in
theorem slist_any (w0 : World) (n1 b off n cap H M : Nat) (f : Nat → Deed) (hA : Ahead f n) (hn : (n : Int) ≤ 400) (hf : RowDeed w0 b off n f) (hlk : ∀ p, p < n → (f p).linksN ≤ 200) :
    ∀ (k p d : Nat) (s : Nat → Bool) (ov : Value) (ord : List Nat) (dp : Int) (W : World), p < k → p < n → d + p ≤ 1000 → SLs w0 W n1 b off n cap H M s ov ord dp → s p = false → ord.length + (lst f k p d s).2.length ≤ 1000 →
      Calls Tryd.prog 22 #[.pointer (some ⟨H, 0, none⟩), .int .i64 (p : Int), .int .i64 (d : Int)] W fun e W' => e = .returned (.tuple #[]) ∧ ∃ ov', SLs w0 W' n1 b off n cap H M (lst f k p d s).1 ov' (ord ++ (lst f k p d s).2.map (fun z : Nat × Nat => z.1)) (deepTo f dp (lst f k p d s).2) ∧ Kpt H M W W' := by
  intro k
  induction k with
  | zero => intro p d s ov ord dp W h; omega
  | succ k ih =>
    intro p d s ov ord dp W hpk hpn hdp hS hs hN
    have HS := hide hS
    have HN := hide hN
    have HIH := hide ih
    have HA := hide hA
    have HF := hide hf
    have HLK := hide hlk
    obtain ⟨i0', hii, hy0, hy1, hy2⟩ := info_parts infoInt
    obtain ⟨p0', p1', p2', p3', ⟨a0, cap0, p4', q4⟩, ⟨a1, cap1, p5', q5⟩⟩ := hf.2 p hpn
    have S1 := hide (hS.mark hpn)
    have hb := hf.1
    obtain ⟨x, hx⟩ : ∃ x, x = f p := ⟨_, rfl⟩
    rw [← hx] at p0' p1' p2' p3' p4' p5' q5
    have hm2 : x.linksN ≤ 200 := by rw [hx]; exact hlk p hpn
    have HL := hide q5
    have HX := hide hx
    have p0 := (S1.low.cell (p := ⟨b, off + p * 6, none⟩) hb).trans p0'
    have p1 := (S1.low.cell (p := ⟨b, off + p * 6 + 1, none⟩) hb).trans p1'
    have p2 := (S1.low.cell (p := ⟨b, off + p * 6 + 2, none⟩) hb).trans p2'
    have p3 := (S1.low.cell (p := ⟨b, off + p * 6 + 3, none⟩) hb).trans p3'
    have p4 := (S1.low.cell (p := ⟨b, off + p * 6 + 4, none⟩) hb).trans p4'
    have p5 := (S1.low.cell (p := ⟨b, off + p * 6 + 5, none⟩) hb).trans p5'
    obtain ⟨K, hK⟩ : ∃ K, K = lks (lst f k) (f p) d s := ⟨_, rfl⟩
    have HLS : Hid (lst f (k + 1) p d s = (put (K x.linksN).1 p, (K x.linksN).2 ++ [(p, d)])) := by rw [hK, hx]; rfl
    have HK0 : Hid (K 0 = (s, [])) := by rw [hK]; rfl
    have HKS : Hid (∀ j, K (j + 1) = if (x.links j).ask = true ∧ (K j).1 (x.links j).at_.toNat = false then ((lst f k (x.links j).at_.toNat (d + 1) (K j).1).1, (K j).2 ++ (lst f k (x.links j).at_.toNat (d + 1) (K j).1).2) else K j) := fun j => by rw [hK, hx]; rfl
    have HKP : Hid (∀ i, i ≤ x.linksN → (K i).2 <+: (K x.linksN).2) := fun i hi => by rw [hK]; exact lks_prefix hi
    have HTD : Hid (ccomb f dp (p, d) = if x.kind = 3 ∧ 60 ≤ d ∧ (dp < 0 ∨ (p : Int) < dp) then (p : Int) else dp) := by rw [hx]; rfl
    have hH1 : H < W.heap.size := by have := hS.hH; have := hS.hz; omega
    have hc1 := hS.c1
    obtain ⟨hr1, hr2⟩ := hS.row p hpn
    have hc0 := S1.c0
    have hp0 : (0 : Int) ≤ p := by omega
    have hpn' : (p : Int) < n := by omega
    have S2 := hide (S1.below ((Below.refl _ _).alloc (Nat.le_refl _) (.cells #[.string x.name, .int .i64 x.kind, .int .i64 x.code, .string x.text, .slice a0 x.actN cap0, .slice a1 x.linksN cap1] 41)))
    have D2 := hide (sixB_new (W.setCell ⟨M, p, none⟩ (.bool true)) (.string x.name) (.int .i64 x.kind) (.int .i64 x.code) (.string x.text) (.slice a0 x.actN cap0) (.slice a1 x.linksN cap1) 41)
    have Y2 : Hid (TyAt ((W.setCell ⟨M, p, none⟩ (.bool true)).alloc (.cells #[.string x.name, .int .i64 x.kind, .int .i64 x.code, .string x.text, .slice a0 x.actN cap0, .slice a1 x.linksN cap1] 41)) (W.setCell ⟨M, p, none⟩ (.bool true)).heap.size 41) := ⟨_, heap_alloc_new _ _⟩
    have KP2 := hide ((Kpt.setCell (H := H) (M := M) (j := p) W M (.inr rfl) (.bool true)).trans (Kpt.of_below ((Below.refl _ _).alloc (Nat.le_refl _) (.cells #[.string x.name, .int .i64 x.kind, .int .i64 x.code, .string x.text, .slice a0 x.actN cap0, .slice a1 x.linksN cap1] 41))))
    have hz1 : (W.setCell ⟨M, p, none⟩ (.bool true)).heap.size = W.heap.size := by simp
    rw [hz1] at D2 Y2
    clear hS hN ih hA hf hlk q4 q5 hx hK p0' p1' p2' p3' p4' p5' hs hz1 S1
    go_enter Tryd.func22, Tryd.ntmps22
    go_upto_region 2 with fail
    generalize World.alloc (World.setCell W _ _) _ = W2 at S2 D2 Y2 KP2 ⊢
    clear p0 p1 p2 p3 p4 p5 hc1 hr1 hr2 hc0
    obtain ⟨td, htd⟩ : ∃ td, td = decide (x.kind = 3 ∧ 60 ≤ d) := ⟨_, rfl⟩
    have HD := hide htd
    clear htd
    have c1 := D2.c1
    go_cut [28] (fun s28 wx => s28 = .bool td ∧ wx = W2)
    case first =>
      cases h3 : (x.kind == 3) with
      | false =>
        obtain rfl : td = false := by rw [HD.out]; simp at h3; simp [h3]
        go_wp2
        go_meet
        exact ⟨rfl, rfl⟩
      | true =>
        by_cases h6 : (60 : Int) ≤ (d : Int)
        · obtain rfl : td = true := by rw [HD.out]; simp at h3; simp [h3]; omega
          go_wp2
          go_meet
          exact ⟨by first | rfl | (simp; done) | (simp; omega), rfl⟩
        · obtain rfl : td = false := by rw [HD.out]; simp; omega
          go_wp2
          go_meet
          exact ⟨by first | rfl | (simp; done) | (simp; omega), rfl⟩
    case rest =>
    obtain ⟨rfl, rfl⟩ := hcut
    clear c1
    have hHD : H < W.heap.size := hH1
    go_upto_if 28 with fail
    go_cut [] (fun wx => Hid (SLs w0 wx n1 b off n cap H M (put s p) ov ord (ccomb f dp (p, d))) ∧ Hid (SixB wx W.heap.size (.string x.name) (.int .i64 x.kind) (.int .i64 x.code) (.string x.text) (.slice a0 x.actN cap0) (.slice a1 x.linksN cap1)) ∧ Hid (TyAt wx W.heap.size 41) ∧ Hid (Kpt H M W wx))
    case first =>
      cases td with
      | false =>
        have hc : ccomb f dp (p, d) = dp := by rw [HTD.out, if_neg (fun h => by have := HD.out; simp at this; have := this h.1; omega)]
        have S3 : Hid (SLs w0 wc n1 b off n cap H M (put s p) ov ord (ccomb f dp (p, d))) := by show SLs _ _ _ _ _ _ _ _ _ _ _ _ _; rw [hc]; exact S2
        clear hc
        go_wp2
        go_meet
        exact ⟨S3, D2, Y2, KP2⟩
      | true =>
        have htd : x.kind = 3 ∧ 60 ≤ d := by have := HD.out; simpa using this
        obtain ⟨e3, z3⟩ := S2.c3
        have HTD1 := hide htd
        clear htd
        have e4 : (wc.setCell ⟨H, 3, none⟩ (.int .i64 (p : Int))).heap[W.heap.size]? = wc.heap[W.heap.size]? := Below.heap_setCell _ _ _ _ (by show W.heap.size ≠ H; omega)
        have SP := hide (S2.deep (p : Int))
        have DP := hide (D2.blk (w' := wc.setCell ⟨H, 3, none⟩ (.int .i64 (p : Int))) (by simp) e4)
        have YP := hide (Y2.blk e4)
        have KPP := hide (KP2.trans (Kpt.setCell (H := H) (M := M) (j := 3) wc H (.inl rfl) (.int .i64 (p : Int))))
        clear e4
        by_cases g1 : dp < 0
        · have hc : ccomb f dp (p, d) = (p : Int) := by rw [HTD.out, if_pos ⟨HTD1.1, HTD1.2, .inl g1⟩]
          have S3 : Hid (SLs w0 (wc.setCell ⟨H, 3, none⟩ (.int .i64 (p : Int))) n1 b off n cap H M (put s p) ov ord (ccomb f dp (p, d))) := by show SLs _ _ _ _ _ _ _ _ _ _ _ _ _; rw [hc]; exact SP
          clear hc
          go_wp2
          go_meet
          exact ⟨S3, DP, YP, KPP⟩
        · by_cases g2 : (p : Int) < dp
          · have hc : ccomb f dp (p, d) = (p : Int) := by rw [HTD.out, if_pos ⟨HTD1.1, HTD1.2, .inr g2⟩]
            have S3 : Hid (SLs w0 (wc.setCell ⟨H, 3, none⟩ (.int .i64 (p : Int))) n1 b off n cap H M (put s p) ov ord (ccomb f dp (p, d))) := by show SLs _ _ _ _ _ _ _ _ _ _ _ _ _; rw [hc]; exact SP
            clear hc
            go_wp2
            go_meet
            exact ⟨S3, DP, YP, KPP⟩
          · have hc : ccomb f dp (p, d) = dp := by rw [HTD.out, if_neg (fun h => by have := h.2.2; omega)]
            have S3 : Hid (SLs w0 wc n1 b off n cap H M (put s p) ov ord (ccomb f dp (p, d))) := by show SLs _ _ _ _ _ _ _ _ _ _ _ _ _; rw [hc]; exact S2
            clear hc
            go_wp2
            go_meet
            exact ⟨S3, D2, Y2, KP2⟩
    case rest =>
    clear S2 D2 Y2 KP2
    obtain ⟨S2, D2, Y2, KP2⟩ := hcut
    obtain ⟨dp1, hdp1⟩ : ∃ dp1, dp1 = ccomb f dp (p, d) := ⟨_, rfl⟩
    rw [← hdp1] at S2
    have HDP1 := hide hdp1
    clear hdp1 HTD
    have HDP : Hid (dp1 = ccomb f dp (p, d)) := HDP1.out
    go_wp2
    go_loopw [7] (fun i wr => ∃ (j : Nat) (ov' : Value), j ≤ x.linksN ∧ i = .int .i64 j ∧ Hid (SLs w0 wr n1 b off n cap H M (put (K j).1 p) ov' (ord ++ (K j).2.map (fun z : Nat × Nat => z.1)) (deepTo f dp1 (K j).2)) ∧ Hid (SixB wr W.heap.size (.string x.name) (.int .i64 x.kind) (.int .i64 x.code) (.string x.text) (.slice a0 x.actN cap0) (.slice a1 x.linksN cap1)) ∧ Hid (TyAt wr W.heap.size 41) ∧ Hid (Kpt H M W wr)) (fun i _ => x.linksN - (intOf i).toNat)
    case atStart => exact ⟨0, ov, by omega, rfl, by rw [HK0.out]; simp only [List.map_nil, List.append_nil, deepTo]; exact S2, D2, Y2, KP2⟩
    case round =>
      clear S2 D2 Y2 KP2
      obtain ⟨j, ov', hj, rfl, S3, D3, Y3, KP3⟩ := hrel
      have e5 := D3.c5
      have hDl : W.heap.size < wr.heap.size := D3.lt
      by_cases hlt : j < x.linksN
      · obtain ⟨lb, lo, rfl, hrow⟩ := (HL.below S3.low (Nat.le_refl _)).resolve_left (by omega)
        obtain ⟨l0, l1, l2, l3⟩ := hrow.2 j hlt
        have hks := HKS.out j
        have hah : (x.links j).ask = true → (x.links j).at_.toNat < p ∧ 0 ≤ (x.links j).at_ := fun h => by
          have := HA.out p hpn j (by rw [← HX.out]; exact hlt)
          rw [← HX.out] at this
          exact this h
        generalize x.links j = y at l0 l1 l2 l3 hks hah
        have HKJ := hide hks
        have HAH := hide hah
        clear hks hah l0 l2 hrow
        cases hask : y.ask with
        | false =>
          rw [hask] at l1
          have hk1 : K (j + 1) = K j := by rw [HKJ.out, if_neg (by rw [hask]; simp)]
          have HK1 := hide hk1
          clear hk1
          go_wp2_with fail
          go_quiet (fail)
          have E := hide (below_drewN (Below.refl wr.heap.size wr) nq)
          have S4 := hide (S3.below E)
          have D4 := hide (D3.blk E.size (E.block _ hDl))
          have Y4 := hide (Y3.blk (E.block _ hDl))
          have KP4 := hide (KP3.trans (Kpt.of_below E))
          go_wp2
          exact ⟨⟨j + 1, ov', by omega, by go_num, by rw [HK1.out]; exact S4, D4, Y4, KP4⟩, by simp [intOf]; omega⟩
        | true =>
          rw [hask] at l1
          obtain ⟨q, hq⟩ : ∃ q : Nat, y.at_ = (q : Int) := ⟨y.at_.toNat, by have := (HAH hask).2; omega⟩
          have hqp : q < p := by have := (HAH hask).1; rw [hq] at this; simpa using this
          rw [hq] at l3
          have f1 := S3.c1
          obtain ⟨f2, _⟩ := S3.row q (by omega)
          have hpq : put (K j).1 p q = (K j).1 q := by simp [put]; omega
          rw [hpq] at f2
          have hq0 : (0 : Int) ≤ q := by omega
          have hqn : (q : Int) < n := by omega
          have HPQ := hide hpq
          clear hpq
          cases hl : (K j).1 q with
          | true =>
            rw [hl] at f2
            have hk1 : K (j + 1) = K j := by rw [HKJ.out, if_neg (by rw [hq]; simp [hl])]
            have HK1 := hide hk1
            clear hk1
            go_wp2_with fail
            go_quiet (fail)
            have E := hide (below_drewN (Below.refl wr.heap.size wr) nq)
            have S4 := hide (S3.below E)
            have D4 := hide (D3.blk E.size (E.block _ hDl))
            have Y4 := hide (Y3.blk (E.block _ hDl))
            have KP4 := hide (KP3.trans (Kpt.of_below E))
            go_wp2
            exact ⟨⟨j + 1, ov', by omega, by go_num, by rw [HK1.out]; exact S4, D4, Y4, KP4⟩, by simp [intOf]; omega⟩
          | false =>
            rw [hl] at f2
            have hk1 : K (j + 1) = ((lst f k q (d + 1) (K j).1).1, (K j).2 ++ (lst f k q (d + 1) (K j).1).2) := by rw [HKJ.out, if_pos ⟨hask, by rw [hq]; simpa using hl⟩, hq]; simp
            have HK1 := hide hk1
            have hpf := HKP.out (j + 1) (by omega)
            rw [hk1] at hpf
            have HPF := hide hpf
            have HL1 := hide hl
            clear hk1 hpf
            have ecast : ((d + 1 : Nat) : Int) = (d : Int) + 1 := by omega
            have HC : Hid (∀ W5, SLs w0 W5 n1 b off n cap H M (put (K j).1 p) ov' (ord ++ (K j).2.map (fun z : Nat × Nat => z.1)) (deepTo f dp1 (K j).2) → Calls Tryd.prog 22 #[.pointer (some ⟨H, 0, none⟩), .int .i64 (q : Int), .int .i64 ((d : Int) + 1)] W5 fun e W' => e = .returned (.tuple #[]) ∧ ∃ ov'', SLs w0 W' n1 b off n cap H M (put (K (j + 1)).1 p) ov'' (ord ++ (K (j + 1)).2.map (fun z : Nat × Nat => z.1)) (deepTo f dp1 (K (j + 1)).2) ∧ Kpt H M W5 W') := by
              intro W5 h5
              have hlp := lst_put HA.out k q (d + 1) (K j).1 p (by omega) hqp
              have hlen : (ord ++ (K j).2.map (fun z : Nat × Nat => z.1)).length + (lst f k q (d + 1) (put (K j).1 p)).2.length ≤ 1000 := by
                rw [hlp]
                have h3 := HN.out
                rw [HLS.out] at h3
                have h4 := HPF.length_le
                simp only [List.length_append, List.length_cons, List.length_nil, List.length_map] at h3 h4 ⊢
                omega
              have h := HIH.out q (d + 1) (put (K j).1 p) ov' (ord ++ (K j).2.map (fun z : Nat × Nat => z.1)) (deepTo f dp1 (K j).2) W5 (by omega) (by omega) (by omega) h5 (HPQ.trans HL1) hlen
              rw [ecast, hlp] at h
              refine h.mono fun e W' h => ?_
              obtain ⟨he, ov'', hs, hk⟩ := h
              refine ⟨he, ov'', ?_, hk⟩
              rw [HK1.out]
              simp only [List.map_append, deepTo_append, ← List.append_assoc]
              exact hs
            clear ecast
            go_wp2_with fail
            go_quiet (fail)
            have E := hide (below_drewN (Below.refl wr.heap.size wr) nq)
            have S4 := hide (S3.below E)
            have D4 := hide (D3.blk E.size (E.block _ hDl))
            have Y4 := hide (Y3.blk (E.block _ hDl))
            have KP4 := hide (KP3.trans (Kpt.of_below E))
            have g5 := D4.c5
            have l3' := (E.cell (p := ⟨lb, lo + j * 4 + 3, none⟩) (by have := (HL.below S3.low (Nat.le_refl _)); rcases this with h | ⟨b', o', hv, hr⟩; (omega); (cases hv; exact hr.1))).trans l3
            clear e5 f1 f2 l1 l3
            generalize wr.drewN nq = W5 at S4 D4 Y4 KP4 g5 l3' ⊢
            go_wp2_with fail
            refine (HC W5 S4).mono ?_
            rintro e W6 ⟨rfl, ov'', hs, hk⟩
            have S5 := hide hs
            have eD := hk.keep W.heap.size _ Y4.out (by decide) (by omega) (by have := HS.hM; have := HS.hz; omega)
            have D5 := hide (D4.blk hk.size eD)
            have Y5 := hide (Y4.blk eD)
            have KP5 := hide (KP4.trans hk)
            clear hs hk eD g5 l3'
            go_wp2
            exact ⟨⟨j + 1, ov'', by omega, by go_num, S5, D5, Y5, KP5⟩, by simp [intOf]; omega⟩
      · have e : j = x.linksN := by omega
        subst e
        obtain ⟨f2, z2⟩ := S3.c2
        obtain ⟨oa, oc, rfl⟩ : ∃ a c, ov' = .slice a (ord ++ (K x.linksN).2.map (fun z : Nat × Nat => z.1)).length c := by
          rcases S3.ord.2 with ⟨h1, h2⟩ | ⟨g, c, cur, h1, _⟩
          · exact ⟨none, 0, by rw [h1, h2]⟩
          · exact ⟨_, _, h1⟩
        have hlo : (ord ++ (K x.linksN).2.map (fun z : Nat × Nat => z.1)).length ≤ 1000 := by
          have h3 := HN.out
          rw [HLS.out] at h3
          simp only [List.length_append, List.length_cons, List.length_nil, List.length_map] at h3 ⊢
          omega
        generalize hO : ord ++ (K x.linksN).2.map (fun z : Nat × Nat => z.1) = O at S3 f2 hlo ⊢
        have HO := hide hO
        clear hO
        have hHw : H < wr.heap.size := by have := S3.hH; have := S3.hz; omega
        have hMw : M < wr.heap.size := by have := S3.hM; have := S3.hz; omega
        go_wp2_with (at_builtin; refine wpList_append_own _ rfl (.tmp 88) (.tmp 90) 45 rfl n1 3 i0' (.int .i64 0) 1 8 Tryd.underlying45 hii hy0 hy1 hy2 rfl (by decide) _ O.length (O.map fun q : Nat => Value.int .i64 (q : Int)) (by simp [Act.eval]) (S3.ord.alloc _) ⟨wr.heap.size, 0, none⟩ 1 1 [.int .i64 (p : Int)] (by simp [Act.eval]) rfl (cell_one_new _ _ _) (by simp [Value.oneCell']) (by unfold maxLen; omega) (by omega) (by have := S3.hz; simp; omega) ?_; intro vy wy hown hgrow hnil; have OW : Hid (wy.ownsRow n1 3 1 vy (O ++ [p]).length ((O ++ [p]).map fun q : Nat => Value.int .i64 (q : Int))) := (by show World.ownsRow _ _ _ _ _ _ _; rw [List.length_append, List.map_append]; exact hown); have GR := hide hgrow; have eH : wy.heap[H]? = wr.heap[H]? := (hgrow.block H (by simp; omega) (fun e => by have := (S3.ord.lt H e.symm).1; have := S3.hH.2; omega)).trans (((Below.refl wr.heap.size wr).alloc (Nat.le_refl _) _).block _ hHw); have eM : wy.heap[M]? = wr.heap[M]? := (hgrow.block M (by simp; omega) (fun e => by have := (S3.ord.lt M e.symm).1; have := S3.hM.2; omega)).trans (((Below.refl wr.heap.size wr).alloc (Nat.le_refl _) _).block _ hMw); have g2 := (World.cell?_of_block (a := ⟨H, 2, none⟩) eH).trans f2; have y2 := (World.frozen?_of_block (a := ⟨H, 2, none⟩) eH).trans z2; obtain ⟨gs, cs, rfl⟩ : ∃ g c, vy = .slice (some ⟨g, 0, none⟩) (O.length + 1) c := (by rcases hown.2 with ⟨_, h2⟩ | ⟨g, c, cur, h1, _⟩; (omega); exact ⟨g, c, h1⟩); have EH := hide eH; have EM := hide eM; clear hown hgrow hnil eH eM)
        have AL := (Below.refl wr.heap.size wr).alloc (Nat.le_refl _) (.cells #[.int .i64 (p : Int)] 3)
        have hsz : wr.heap.size ≤ wy.heap.size := Nat.le_trans AL.size GR.size
        have hlow : Below w0.heap.size w0 wy := Below.grown (S3.low.alloc S3.low.size (.cells #[.int .i64 (p : Int)] 3)) GR (by have := S3.low.size; simp; omega) (fun j e => by have := (S3.ord.lt j e).1; have := S3.hH; omega)
        have F1 := S3.app (v := .slice (some ⟨gs, 0, none⟩) (O.length + 1) cs) (ord' := O ++ [p]) hsz EH EM hlow OW
        have F2 := ((KP3.trans (Kpt.of_below AL)).trans (Kpt.grown (S3.ord.alloc (.cells #[.int .i64 (p : Int)] 3)) GR)).trans (Kpt.setCell (H := H) (M := M) (j := 2) wy H (.inl rfl) (.slice (some ⟨gs, 0, none⟩) (O.length + 1) cs))
        have hdd : deepTo f dp ((K x.linksN).2 ++ [(p, d)]) = deepTo f dp1 (K x.linksN).2 := by rw [deepTo_append, HDP.out, deepTo_comb]; rfl
        have hoo : ord ++ ((K x.linksN).2 ++ [(p, d)]).map (fun z : Nat × Nat => z.1) = O ++ [p] := by rw [List.map_append, ← List.append_assoc, HO.out]; rfl
        go_end0
        rw [HLS.out]
        refine ⟨rfl, .slice (some ⟨gs, 0, none⟩) (O.length + 1) cs, ?_, F2⟩
        show SLs w0 _ n1 b off n cap H M (put (K x.linksN).1 p) _ (ord ++ ((K x.linksN).2 ++ [(p, d)]).map (fun z : Nat × Nat => z.1)) (deepTo f dp ((K x.linksN).2 ++ [(p, d)]))
        rw [hdd, hoo]
        exact F1

end Go.Proofs.YtolpgafkojlkoabDoor.Vp
