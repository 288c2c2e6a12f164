/-
  Put together of: CaSpec3, CaSpec4, CaSpec5, CaSpec6, NmOk, NmValid.
-/
import Derived.Test.YtfhdecheaeoopaaGreatDoorZH
import Derived.Test.YtfhdecheaeoopaaGreatDoorZL
import Derived.Deep.DeepCutAuto
import Derived.Deep.QuietTactic
import Derived.BigQuiet
import Derived.Test.YtfhdecheaeoopaaGreatDoorZF

/-
  spec: the listing of a deed, by its own calls.
-/
namespace Go.Proofs.YtfhdecheaeoopaaGreatDoor.Vp
open Go.RowKit

theorem infoInt : (Tryz.prog.info? 3).map (fun i => (i.zero, i.size, i.bytes)) = some (some (.int .i64 0), 1, 8) := by kernel_rfl

theorem SixB.blk {w w' : World} {b : Nat} {v0 v1 v2 v3 v4 v5 : Value} (h : SixB w b v0 v1 v2 v3 v4 v5) (hz : w.heap.size ≤ w'.heap.size) (e : w'.heap[b]? = w.heap[b]?) : SixB w' b v0 v1 v2 v3 v4 v5 :=
  have c : ∀ o, w'.cell? ⟨b, o, none⟩ = w.cell? ⟨b, o, none⟩ := fun o => World.cell?_of_block (a := ⟨b, o, none⟩) e
  ⟨Nat.lt_of_lt_of_le h.lt hz, (c 0).trans h.c0, (c 1).trans h.c1, (c 2).trans h.c2, (c 3).trans h.c3, (c 4).trans h.c4, (c 5).trans h.c5⟩
theorem TyAt.blk {w w' : World} {g : Nat} {e : TypeId} (h : TyAt w g e) (hb : w'.heap[g]? = w.heap[g]?) : TyAt w' g e := by
  obtain ⟨c, hc⟩ := h
  exact ⟨c, hb.trans hc⟩

theorem Kpt.grown {H M base n : Nat} {W W' : World} {v : Value} {xs : List Value} (ho : W.ownsRow base 3 1 v n xs) (hg : W.grownBy W' v.ownBlock) : Kpt H M W W' := by
  refine ⟨hg.size, fun k e hk he _ _ => ?_⟩
  obtain ⟨c, hc⟩ := hk
  refine hg.block k (Array.getElem?_eq_some_iff.1 hc).1 (fun e1 => ?_)
  rcases ho.2 with ⟨rfl, _⟩ | ⟨g, cap, cur, rfl, _, hgg, _⟩
  · simp [Value.ownBlock] at e1
  · simp [Value.ownBlock] at e1
    subst e1
    rw [hgg] at hc
    simp at hc
    exact he hc.2.symm
theorem SLs.app {w0 W W' : World} {n1 b off n cap H M : Nat} {s : Nat → Bool} {ov v : Value} {ord ord' : List Nat} {dp : Int} (h : SLs w0 W n1 b off n cap H M s ov ord dp) (hz : W.heap.size ≤ W'.heap.size) (eH : W'.heap[H]? = W.heap[H]?) (eM : W'.heap[M]? = W.heap[M]?) (hl : Below w0.heap.size w0 W') (ho : W'.ownsRow n1 3 1 v ord'.length (ord'.map fun q : Nat => Value.int .i64 (q : Int))) : SLs w0 (W'.setCell ⟨H, 2, none⟩ v) n1 b off n cap H M s v ord' dp := by
  have c : ∀ o, W'.cell? ⟨H, o, none⟩ = W.cell? ⟨H, o, none⟩ := fun o => World.cell?_of_block (a := ⟨H, o, none⟩) eH
  have z : ∀ o, W'.frozen? ⟨H, o, none⟩ = W.frozen? ⟨H, o, none⟩ := fun o => World.frozen?_of_block (a := ⟨H, o, none⟩) eH
  have c' : ∀ o, o ≠ 2 → (W'.setCell ⟨H, 2, none⟩ v).cell? ⟨H, o, none⟩ = W'.cell? ⟨H, o, none⟩ := fun o ho => World.cell?_setCell_other _ _ _ _ (by first | (simp; done) | (simp; exact fun e => ho e.symm) | (simp; omega))
  refine ⟨(c' 0 (by omega)).trans ((c 0).trans h.c0), (c' 1 (by omega)).trans ((c 1).trans h.c1), ⟨World.cell?_setCell_same' _ _ _ (by rw [c 2, h.c2.1]; rfl), ?_⟩, ⟨(c' 3 (by omega)).trans ((c 3).trans h.c3.1), ?_⟩, fun q hq => ⟨(World.cell?_setCell_other _ _ _ _ (by first | (simp; done) | (simp; exact fun e => absurd e.symm h.ne) | (simp; exact fun e => absurd e h.ne) | (simp; omega))).trans ((World.cell?_of_block (a := ⟨M, q, none⟩) eM).trans (h.row q hq).1), ?_⟩, own_far' ho h.hH.2 _, hl.setCell h.hH.1 _, h.hH, h.hM, h.ne, by have := h.hz; simp; omega⟩
  · rw [World.frozen?_setCell]; exact (z 2).trans h.c2.2
  · rw [World.frozen?_setCell]; exact (z 3).trans h.c3.2
  · rw [World.frozen?_setCell]; exact (World.frozen?_of_block (a := ⟨M, q, none⟩) eM).trans (h.row q hq).2

set_option maxRecDepth 100000 in
set_option maxHeartbeats 8000000 in
theorem slist_any (w0 : World) (n1 b off n cap H M : Nat) (f : Nat → Deed) (hA : Ahead f n) (hn : (n : Int) ≤ 400) (hf : RowDeed w0 b off n f) (hlk : ∀ p, p < n → (f p).linksN ≤ 200) :
    ∀ (k p d : Nat) (s : Nat → Bool) (ov : Value) (ord : List Nat) (dp : Int) (W : World), p < k → p < n → d + p ≤ 1000 → SLs w0 W n1 b off n cap H M s ov ord dp → s p = false → ord.length + (lst f k p d s).2.length ≤ 1000 →
      Calls Tryz.prog 104 #[.pointer (some ⟨H, 0, none⟩), .int .i64 (p : Int), .int .i64 (d : Int)] W fun e W' => e = .returned (.tuple #[]) ∧ ∃ ov', SLs w0 W' n1 b off n cap H M (lst f k p d s).1 ov' (ord ++ (lst f k p d s).2.map (fun z : Nat × Nat => z.1)) (deepTo f dp (lst f k p d s).2) ∧ Kpt H M W W' := by
  intro k
  induction k with
  | zero => intro p d s ov ord dp W h; omega
  | succ k ih =>
    intro p d s ov ord dp W hpk hpn hdp hS hs hN
    have HS := hide hS
    have HN := hide hN
    have HIH := hide ih
    have HA := hide hA
    have HF := hide hf
    have HLK := hide hlk
    obtain ⟨i0', hii, hy0, hy1, hy2⟩ := info_parts infoInt
    obtain ⟨p0', p1', p2', p3', ⟨a0, cap0, p4', q4⟩, ⟨a1, cap1, p5', q5⟩⟩ := hf.2 p hpn
    have S1 := hide (hS.mark hpn)
    have hb := hf.1
    obtain ⟨x, hx⟩ : ∃ x, x = f p := ⟨_, rfl⟩
    rw [← hx] at p0' p1' p2' p3' p4' p5' q5
    have hm2 : x.linksN ≤ 200 := by rw [hx]; exact hlk p hpn
    have HL := hide q5
    have HX := hide hx
    have p0 := (S1.out.low.cell (p := ⟨b, off + p * 6, none⟩) hb).trans p0'
    have p1 := (S1.out.low.cell (p := ⟨b, off + p * 6 + 1, none⟩) hb).trans p1'
    have p2 := (S1.out.low.cell (p := ⟨b, off + p * 6 + 2, none⟩) hb).trans p2'
    have p3 := (S1.out.low.cell (p := ⟨b, off + p * 6 + 3, none⟩) hb).trans p3'
    have p4 := (S1.out.low.cell (p := ⟨b, off + p * 6 + 4, none⟩) hb).trans p4'
    have p5 := (S1.out.low.cell (p := ⟨b, off + p * 6 + 5, none⟩) hb).trans p5'
    obtain ⟨K, hK⟩ : ∃ K, K = lks (lst f k) (f p) d s := ⟨_, rfl⟩
    have HLS : Hid (lst f (k + 1) p d s = (put (K x.linksN).1 p, (K x.linksN).2 ++ [(p, d)])) := by rw [hK, hx]; rfl
    have HK0 : Hid (K 0 = (s, [])) := by rw [hK]; rfl
    have HKS : Hid (∀ j, K (j + 1) = if (x.links j).ask = true ∧ (K j).1 (x.links j).at_.toNat = false then ((lst f k (x.links j).at_.toNat (d + 1) (K j).1).1, (K j).2 ++ (lst f k (x.links j).at_.toNat (d + 1) (K j).1).2) else K j) := fun j => by rw [hK, hx]; rfl
    have HKP : Hid (∀ i, i ≤ x.linksN → (K i).2 <+: (K x.linksN).2) := fun i hi => by rw [hK]; exact lks_prefix hi
    have HTD : Hid (ccomb f dp (p, d) = if x.kind = 3 ∧ 60 ≤ d ∧ (dp < 0 ∨ (p : Int) < dp) then (p : Int) else dp) := by rw [hx]; rfl
    have hH1 : H < W.heap.size := by have := hS.hH; have := hS.hz; omega
    have hc1 := hS.c1
    obtain ⟨hr1, hr2⟩ := hS.row p hpn
    have hc0 := S1.out.c0
    have hp0 : (0 : Int) ≤ p := by omega
    have hpn' : (p : Int) < n := by omega
    have S2 := hide (S1.out.below ((Below.refl _ _).alloc (Nat.le_refl _) (.cells #[.string x.name, .int .i64 x.kind, .int .i64 x.code, .string x.text, .slice a0 x.actN cap0, .slice a1 x.linksN cap1] 54)))
    have D2 := hide (sixB_new (W.setCell ⟨M, p, none⟩ (.bool true)) (.string x.name) (.int .i64 x.kind) (.int .i64 x.code) (.string x.text) (.slice a0 x.actN cap0) (.slice a1 x.linksN cap1) 54)
    have Y2 : Hid (TyAt ((W.setCell ⟨M, p, none⟩ (.bool true)).alloc (.cells #[.string x.name, .int .i64 x.kind, .int .i64 x.code, .string x.text, .slice a0 x.actN cap0, .slice a1 x.linksN cap1] 54)) (W.setCell ⟨M, p, none⟩ (.bool true)).heap.size 54) := ⟨_, heap_alloc_new _ _⟩
    have KP2 := hide ((Kpt.setCell (H := H) (M := M) (j := p) W M (.inr rfl) (.bool true)).trans (Kpt.of_below ((Below.refl _ _).alloc (Nat.le_refl _) (.cells #[.string x.name, .int .i64 x.kind, .int .i64 x.code, .string x.text, .slice a0 x.actN cap0, .slice a1 x.linksN cap1] 54))))
    have hz1 : (W.setCell ⟨M, p, none⟩ (.bool true)).heap.size = W.heap.size := by simp
    rw [hz1] at D2 Y2
    clear hS hN ih hA hf hlk q4 q5 hx hK p0' p1' p2' p3' p4' p5' hs hz1 S1
    go_enter Tryz.func104, Tryz.ntmps104
    go_upto_region 2 with fail
    generalize (W.setCell ⟨M, p, none⟩ (.bool true)).alloc (.cells #[.string x.name, .int .i64 x.kind, .int .i64 x.code, .string x.text, .slice a0 x.actN cap0, .slice a1 x.linksN cap1] 54) = W2 at S2 D2 Y2 KP2 ⊢
    clear p0 p1 p2 p3 p4 p5 hc1 hr1 hr2 hc0
    obtain ⟨td, htd⟩ : ∃ td, td = decide (x.kind = 3 ∧ 60 ≤ d) := ⟨_, rfl⟩
    have HD := hide htd
    clear htd
    have c1 := D2.out.c1
    go_cut [28] (fun s28 wx => s28 = .bool td ∧ wx = W2)
    case first =>
      cases h3 : (x.kind == 3) with
      | false =>
        obtain rfl : td = false := by rw [HD.out]; simp at h3; simp [h3]
        go_wp2
        go_meet
        exact ⟨rfl, rfl⟩
      | true =>
        by_cases h6 : (60 : Int) ≤ (d : Int)
        · obtain rfl : td = true := by rw [HD.out]; simp at h3; simp [h3]; omega
          go_wp2
          go_meet
          exact ⟨by first | rfl | (simp; done) | (simp; omega), rfl⟩
        · obtain rfl : td = false := by rw [HD.out]; simp; omega
          go_wp2
          go_meet
          exact ⟨by first | rfl | (simp; done) | (simp; omega), rfl⟩
    case rest =>
    obtain ⟨rfl, rfl⟩ := hcut
    clear c1
    have hHD : H < W.heap.size := hH1
    go_upto_if 28 with fail
    go_cut [] (fun wx => Hid (SLs w0 wx n1 b off n cap H M (put s p) ov ord (ccomb f dp (p, d))) ∧ Hid (SixB wx W.heap.size (.string x.name) (.int .i64 x.kind) (.int .i64 x.code) (.string x.text) (.slice a0 x.actN cap0) (.slice a1 x.linksN cap1)) ∧ Hid (TyAt wx W.heap.size 54) ∧ Hid (Kpt H M W wx))
    case first =>
      cases td with
      | false =>
        have hc : ccomb f dp (p, d) = dp := by rw [HTD.out, if_neg (fun h => by have := HD.out; simp at this; have := this h.1; omega)]
        have S3 : Hid (SLs w0 wc n1 b off n cap H M (put s p) ov ord (ccomb f dp (p, d))) := by show SLs _ _ _ _ _ _ _ _ _ _ _ _ _; rw [hc]; exact S2.out
        clear hc
        go_wp2
        go_meet
        exact ⟨S3.out, D2.out, Y2.out, KP2.out⟩
      | true =>
        have htd : x.kind = 3 ∧ 60 ≤ d := by have := HD.out; simpa using this
        obtain ⟨e3, z3⟩ := S2.out.c3
        have HTD1 := hide htd
        clear htd
        have e4 : (wc.setCell ⟨H, 3, none⟩ (.int .i64 (p : Int))).heap[W.heap.size]? = wc.heap[W.heap.size]? := Below.heap_setCell _ _ _ _ (by show W.heap.size ≠ H; omega)
        have SP := hide (S2.out.deep (p : Int))
        have DP := hide (D2.out.blk (w' := wc.setCell ⟨H, 3, none⟩ (.int .i64 (p : Int))) (by simp) e4)
        have YP := hide (Y2.out.blk e4)
        have KPP := hide (KP2.out.trans (Kpt.setCell (H := H) (M := M) (j := 3) wc H (.inl rfl) (.int .i64 (p : Int))))
        clear e4
        by_cases g1 : dp < 0
        · have hc : ccomb f dp (p, d) = (p : Int) := by rw [HTD.out, if_pos ⟨HTD1.out.1, HTD1.out.2, .inl g1⟩]
          have S3 : Hid (SLs w0 (wc.setCell ⟨H, 3, none⟩ (.int .i64 (p : Int))) n1 b off n cap H M (put s p) ov ord (ccomb f dp (p, d))) := by show SLs _ _ _ _ _ _ _ _ _ _ _ _ _; rw [hc]; exact SP.out
          clear hc
          go_wp2
          go_meet
          exact ⟨S3.out, DP.out, YP.out, KPP.out⟩
        · by_cases g2 : (p : Int) < dp
          · have hc : ccomb f dp (p, d) = (p : Int) := by rw [HTD.out, if_pos ⟨HTD1.out.1, HTD1.out.2, .inr g2⟩]
            have S3 : Hid (SLs w0 (wc.setCell ⟨H, 3, none⟩ (.int .i64 (p : Int))) n1 b off n cap H M (put s p) ov ord (ccomb f dp (p, d))) := by show SLs _ _ _ _ _ _ _ _ _ _ _ _ _; rw [hc]; exact SP.out
            clear hc
            go_wp2
            go_meet
            exact ⟨S3.out, DP.out, YP.out, KPP.out⟩
          · have hc : ccomb f dp (p, d) = dp := by rw [HTD.out, if_neg (fun h => by have := h.2.2; omega)]
            have S3 : Hid (SLs w0 wc n1 b off n cap H M (put s p) ov ord (ccomb f dp (p, d))) := by show SLs _ _ _ _ _ _ _ _ _ _ _ _ _; rw [hc]; exact S2.out
            clear hc
            go_wp2
            go_meet
            exact ⟨S3.out, D2.out, Y2.out, KP2.out⟩
    case rest =>
    clear S2 D2 Y2 KP2
    obtain ⟨S2, D2, Y2, KP2⟩ := hcut
    obtain ⟨dp1, hdp1⟩ : ∃ dp1, dp1 = ccomb f dp (p, d) := ⟨_, rfl⟩
    rw [← hdp1] at S2
    have HDP1 := hide hdp1
    clear hdp1 HTD
    have HDP : Hid (dp1 = ccomb f dp (p, d)) := HDP1.out
    go_wp2
    go_loopw [7] (fun i wr => ∃ (j : Nat) (ov' : Value), j ≤ x.linksN ∧ i = .int .i64 j ∧ Hid (SLs w0 wr n1 b off n cap H M (put (K j).1 p) ov' (ord ++ (K j).2.map (fun z : Nat × Nat => z.1)) (deepTo f dp1 (K j).2)) ∧ Hid (SixB wr W.heap.size (.string x.name) (.int .i64 x.kind) (.int .i64 x.code) (.string x.text) (.slice a0 x.actN cap0) (.slice a1 x.linksN cap1)) ∧ Hid (TyAt wr W.heap.size 54) ∧ Hid (Kpt H M W wr)) (fun i _ => x.linksN - (intOf i).toNat)
    case atStart => exact ⟨0, ov, by omega, rfl, by rw [HK0.out]; simp only [List.map_nil, List.append_nil, deepTo]; exact S2.out, D2.out, Y2.out, KP2.out⟩
    case round =>
      clear S2 D2 Y2 KP2
      obtain ⟨j, ov', hj, rfl, S3, D3, Y3, KP3⟩ := hrel
      have e5 := D3.out.c5
      have hDl : W.heap.size < wr.heap.size := D3.out.lt
      by_cases hlt : j < x.linksN
      · obtain ⟨lb, lo, rfl, hrow⟩ := (HL.out.below S3.out.low (Nat.le_refl _)).resolve_left (by omega)
        obtain ⟨l0, l1, l2, l3⟩ := hrow.2 j hlt
        have hks := HKS.out j
        have hah : (x.links j).ask = true → (x.links j).at_.toNat < p ∧ 0 ≤ (x.links j).at_ := fun h => by
          have := HA.out p hpn j (by rw [← HX.out]; exact hlt)
          rw [← HX.out] at this
          exact this h
        generalize x.links j = y at l0 l1 l2 l3 hks hah
        have HKJ := hide hks
        have HAH := hide hah
        clear hks hah l0 l2 hrow
        cases hask : y.ask with
        | false =>
          rw [hask] at l1
          have hk1 : K (j + 1) = K j := by rw [HKJ.out, if_neg (by rw [hask]; simp)]
          have HK1 := hide hk1
          clear hk1
          go_wp2_with fail
          go_quiet (fail)
          have E := hide (below_drewN (Below.refl wr.heap.size wr) nq)
          have S4 := hide (S3.out.below E.out)
          have D4 := hide (D3.out.blk E.out.size (E.out.block _ hDl))
          have Y4 := hide (Y3.out.blk (E.out.block _ hDl))
          have KP4 := hide (KP3.out.trans (Kpt.of_below E.out))
          go_wp2
          exact ⟨⟨j + 1, ov', by omega, by go_num, by rw [HK1.out]; exact S4.out, D4.out, Y4.out, KP4.out⟩, by simp [intOf]; omega⟩
        | true =>
          rw [hask] at l1
          obtain ⟨q, hq⟩ : ∃ q : Nat, y.at_ = (q : Int) := ⟨y.at_.toNat, by have := (HAH.out hask).2; omega⟩
          have hqp : q < p := by have := (HAH.out hask).1; rw [hq] at this; simpa using this
          rw [hq] at l3
          have f1 := S3.out.c1
          obtain ⟨f2, _⟩ := S3.out.row q (by omega)
          have hpq : put (K j).1 p q = (K j).1 q := by simp [put]; omega
          rw [hpq] at f2
          have hq0 : (0 : Int) ≤ q := by omega
          have hqn : (q : Int) < n := by omega
          have HPQ := hide hpq
          clear hpq
          cases hl : (K j).1 q with
          | true =>
            rw [hl] at f2
            have hk1 : K (j + 1) = K j := by rw [HKJ.out, if_neg (by rw [hq]; simp [hl])]
            have HK1 := hide hk1
            clear hk1
            go_wp2_with fail
            go_quiet (fail)
            have E := hide (below_drewN (Below.refl wr.heap.size wr) nq)
            have S4 := hide (S3.out.below E.out)
            have D4 := hide (D3.out.blk E.out.size (E.out.block _ hDl))
            have Y4 := hide (Y3.out.blk (E.out.block _ hDl))
            have KP4 := hide (KP3.out.trans (Kpt.of_below E.out))
            go_wp2
            exact ⟨⟨j + 1, ov', by omega, by go_num, by rw [HK1.out]; exact S4.out, D4.out, Y4.out, KP4.out⟩, by simp [intOf]; omega⟩
          | false =>
            rw [hl] at f2
            have hk1 : K (j + 1) = ((lst f k q (d + 1) (K j).1).1, (K j).2 ++ (lst f k q (d + 1) (K j).1).2) := by rw [HKJ.out, if_pos ⟨hask, by rw [hq]; simpa using hl⟩, hq]; simp
            have HK1 := hide hk1
            have hpf := HKP.out (j + 1) (by omega)
            rw [hk1] at hpf
            have HPF := hide hpf
            have HL1 := hide hl
            clear hk1 hpf
            have ecast : ((d + 1 : Nat) : Int) = (d : Int) + 1 := by omega
            have HC : Hid (∀ W5, SLs w0 W5 n1 b off n cap H M (put (K j).1 p) ov' (ord ++ (K j).2.map (fun z : Nat × Nat => z.1)) (deepTo f dp1 (K j).2) → Calls Tryz.prog 104 #[.pointer (some ⟨H, 0, none⟩), .int .i64 (q : Int), .int .i64 ((d : Int) + 1)] W5 fun e W' => e = .returned (.tuple #[]) ∧ ∃ ov'', SLs w0 W' n1 b off n cap H M (put (K (j + 1)).1 p) ov'' (ord ++ (K (j + 1)).2.map (fun z : Nat × Nat => z.1)) (deepTo f dp1 (K (j + 1)).2) ∧ Kpt H M W5 W') := by
              intro W5 h5
              have hlp := lst_put HA.out k q (d + 1) (K j).1 p (by omega) hqp
              have hlen : (ord ++ (K j).2.map (fun z : Nat × Nat => z.1)).length + (lst f k q (d + 1) (put (K j).1 p)).2.length ≤ 1000 := by
                rw [hlp]
                have h3 := HN.out
                rw [HLS.out] at h3
                have h4 := HPF.out.length_le
                simp only [List.length_append, List.length_cons, List.length_nil, List.length_map] at h3 h4 ⊢
                omega
              have h := HIH.out q (d + 1) (put (K j).1 p) ov' (ord ++ (K j).2.map (fun z : Nat × Nat => z.1)) (deepTo f dp1 (K j).2) W5 (by omega) (by omega) (by omega) h5 (HPQ.out.trans HL1.out) hlen
              rw [ecast, hlp] at h
              refine h.mono fun e W' h => ?_
              obtain ⟨he, ov'', hs, hk⟩ := h
              refine ⟨he, ov'', ?_, hk⟩
              rw [HK1.out]
              simp only [List.map_append, deepTo_append, ← List.append_assoc]
              exact hs
            clear ecast
            go_wp2_with fail
            go_quiet (fail)
            have E := hide (below_drewN (Below.refl wr.heap.size wr) nq)
            have S4 := hide (S3.out.below E.out)
            have D4 := hide (D3.out.blk E.out.size (E.out.block _ hDl))
            have Y4 := hide (Y3.out.blk (E.out.block _ hDl))
            have KP4 := hide (KP3.out.trans (Kpt.of_below E.out))
            have g5 := D4.out.c5
            have l3' := (E.out.cell (p := ⟨lb, lo + j * 4 + 3, none⟩) (by have := (HL.out.below S3.out.low (Nat.le_refl _)); rcases this with h | ⟨b', o', hv, hr⟩; (omega); (cases hv; exact hr.1))).trans l3
            clear e5 f1 f2 l1 l3
            generalize wr.drewN nq = W5 at S4 D4 Y4 KP4 g5 l3' ⊢
            go_wp2_with fail
            refine (HC.out W5 S4.out).mono ?_
            rintro e W6 ⟨rfl, ov'', hs, hk⟩
            have S5 := hide hs
            have eD := hk.keep W.heap.size _ Y4.out (by decide) (by omega) (by have := HS.out.hM; have := HS.out.hz; omega)
            have D5 := hide (D4.out.blk hk.size eD)
            have Y5 := hide (Y4.out.blk eD)
            have KP5 := hide (KP4.out.trans hk)
            clear hs hk eD g5 l3'
            go_wp2
            exact ⟨⟨j + 1, ov'', by omega, by go_num, S5.out, D5.out, Y5.out, KP5.out⟩, by simp [intOf]; omega⟩
      · have e : j = x.linksN := by omega
        subst e
        obtain ⟨f2, z2⟩ := S3.out.c2
        obtain ⟨oa, oc, rfl⟩ : ∃ a c, ov' = .slice a (ord ++ (K x.linksN).2.map (fun z : Nat × Nat => z.1)).length c := by
          rcases S3.out.ord.2 with ⟨h1, h2⟩ | ⟨g, c, cur, h1, _⟩
          · exact ⟨none, 0, by rw [h1, h2]⟩
          · exact ⟨_, _, h1⟩
        have hlo : (ord ++ (K x.linksN).2.map (fun z : Nat × Nat => z.1)).length ≤ 1000 := by
          have h3 := HN.out
          rw [HLS.out] at h3
          simp only [List.length_append, List.length_cons, List.length_nil, List.length_map] at h3 ⊢
          omega
        generalize hO : ord ++ (K x.linksN).2.map (fun z : Nat × Nat => z.1) = O at S3 f2 hlo ⊢
        have HO := hide hO
        clear hO
        have hHw : H < wr.heap.size := by have := S3.out.hH; have := S3.out.hz; omega
        have hMw : M < wr.heap.size := by have := S3.out.hM; have := S3.out.hz; omega
        go_wp2_with (at_builtin; refine wpList_append_own _ rfl (.tmp 88) (.tmp 90) 132 rfl n1 3 i0' (.int .i64 0) 1 8 Tryz.underlying132 hii hy0 hy1 hy2 rfl (by decide) _ O.length (O.map fun q : Nat => Value.int .i64 (q : Int)) (by simp [Act.eval]) (S3.out.ord.alloc _) ⟨wr.heap.size, 0, none⟩ 1 1 [.int .i64 (p : Int)] (by simp [Act.eval]) rfl (cell_one_new _ _ _) (by simp [Value.oneCell']) (by unfold maxLen; omega) (by omega) (by have := S3.out.hz; simp; omega) ?_; intro vy wy hown hgrow hnil; have OW : Hid (wy.ownsRow n1 3 1 vy (O ++ [p]).length ((O ++ [p]).map fun q : Nat => Value.int .i64 (q : Int))) := (by show World.ownsRow _ _ _ _ _ _ _; rw [List.length_append, List.map_append]; exact hown); have GR := hide hgrow; have eH : wy.heap[H]? = wr.heap[H]? := (hgrow.block H (by simp; omega) (fun e => by have := (S3.out.ord.lt H e.symm).1; have := S3.out.hH.2; omega)).trans (heap_alloc_old _ _ hHw); have eM : wy.heap[M]? = wr.heap[M]? := (hgrow.block M (by simp; omega) (fun e => by have := (S3.out.ord.lt M e.symm).1; have := S3.out.hM.2; omega)).trans (heap_alloc_old _ _ hMw); have g2 := (World.cell?_of_block (a := ⟨H, 2, none⟩) eH).trans f2; have y2 := (World.frozen?_of_block (a := ⟨H, 2, none⟩) eH).trans z2; obtain ⟨gs, cs, rfl⟩ : ∃ g c, vy = .slice (some ⟨g, 0, none⟩) (O.length + 1) c := (by rcases hown.2 with ⟨_, h2⟩ | ⟨g, c, cur, h1, _⟩; (omega); exact ⟨g, c, h1⟩); have EH := hide eH; have EM := hide eM; clear hown hgrow hnil eH eM)
        have AL := (Below.refl wr.heap.size wr).alloc (Nat.le_refl _) (.cells #[.int .i64 (p : Int)] 3)
        have hsz : wr.heap.size ≤ wy.heap.size := Nat.le_trans AL.size GR.out.size
        have hlow : Below w0.heap.size w0 wy := Below.grown (S3.out.low.alloc S3.out.low.size (.cells #[.int .i64 (p : Int)] 3)) GR.out (by have := S3.out.low.size; simp; omega) (fun j e => by have := (S3.out.ord.lt j e).1; have := S3.out.hH; omega)
        have F1 := S3.out.app (v := .slice (some ⟨gs, 0, none⟩) (O.length + 1) cs) (ord' := O ++ [p]) hsz EH.out EM.out hlow OW.out
        have F2 := ((KP3.out.trans (Kpt.of_below AL)).trans (Kpt.grown (S3.out.ord.alloc (.cells #[.int .i64 (p : Int)] 3)) GR.out)).trans (Kpt.setCell (H := H) (M := M) (j := 2) wy H (.inl rfl) (.slice (some ⟨gs, 0, none⟩) (O.length + 1) cs))
        have hdd : deepTo f dp ((K x.linksN).2 ++ [(p, d)]) = deepTo f dp1 (K x.linksN).2 := by rw [deepTo_append, HDP.out, deepTo_comb]; rfl
        have hoo : ord ++ ((K x.linksN).2 ++ [(p, d)]).map (fun z : Nat × Nat => z.1) = O ++ [p] := by rw [List.map_append, ← List.append_assoc, HO.out]; rfl
        go_end0
        rw [HLS.out]
        refine ⟨rfl, .slice (some ⟨gs, 0, none⟩) (O.length + 1) cs, ?_, F2⟩
        show SLs w0 _ n1 b off n cap H M (put (K x.linksN).1 p) _ (ord ++ ((K x.linksN).2 ++ [(p, d)]).map (fun z : Nat × Nat => z.1)) (deepTo f dp ((K x.linksN).2 ++ [(p, d)]))
        rw [hdd, hoo]
        exact F1

end Go.Proofs.YtfhdecheaeoopaaGreatDoor.Vp

/-
  spec: l3Order; what the order tells.
-/
namespace Go.Proofs.YtfhdecheaeoopaaGreatDoor.Vp
open Go.RowKit

theorem offAt_all {L : List (Nat × Nat)} : ∀ {i : Nat}, (∀ j (h : j < L.length), (L[j]).1 = i + j) → offAt i L = -1 := by
  induction L with
  | nil => intro i _; rfl
  | cons x xs ih =>
    intro i h
    have h0 := h 0 (by simp)
    simp at h0
    rw [offAt, if_pos h0]
    refine ih fun j hj => ?_
    have := h (j + 1) (by simpa using hj)
    simp at this
    omega
theorem offAt_at {L : List (Nat × Nat)} : ∀ {i j : Nat} (hj : j < L.length), (∀ m (h : m < j), (L[m]).1 = i + m) → (L[j]).1 ≠ i + j → offAt i L = ((i + j : Nat) : Int) := by
  induction L with
  | nil => intro i j hj; simp at hj
  | cons x xs ih =>
    intro i j hj h hne
    cases j with
    | zero =>
      simp at hne
      rw [offAt, if_neg hne]
      simp
    | succ j =>
      have h0 := h 0 (by omega)
      simp at h0
      rw [offAt, if_pos h0, ih (i := i + 1) (j := j) (by simpa using hj) (fun m hm => ?_) (by simpa [Nat.add_assoc, Nat.add_comm 1 j] using hne)]
      · congr 1; omega
      · have := h (m + 1) (by omega)
        simp at this
        omega
theorem deepTo_stay {f : Nat → Deed} {d : Int} : ∀ {L : List (Nat × Nat)}, 0 ≤ d → (∀ x ∈ L, d ≤ (x.1 : Int)) → deepTo f d L = d
  | [], _, _ => rfl
  | x :: xs, h, hx => by
    have h1 : ccomb f d x = d := by
      unfold ccomb
      rw [if_neg (fun h2 => by have := hx x (by simp); omega)]
    rw [deepTo, h1]
    exact deepTo_stay h fun y hy => hx y (by simp [hy])
theorem deepTo_first {f : Nat → Deed} : ∀ {L : List (Nat × Nat)} {i : Nat}, (∀ j (h : j < L.length), (L[j]).1 = i + j) → deepTo f (-1) L = deepAt f L
  | [], _, _ => rfl
  | x :: xs, i, h => by
    have h0 := h 0 (by simp)
    simp at h0
    have hr : ∀ j (hj : j < xs.length), (xs[j]).1 = i + 1 + j := fun j hj => by
      have := h (j + 1) (by simpa using hj)
      simp at this
      omega
    rw [deepTo, deepAt]
    by_cases hd : (f x.1).kind = 3 ∧ 60 ≤ x.2
    · have h1 : ccomb f (-1) x = (x.1 : Int) := by unfold ccomb; rw [if_pos ⟨hd.1, hd.2, .inl (by omega)⟩]
      rw [if_pos hd, h1]
      refine deepTo_stay (by omega) fun y hy => ?_
      obtain ⟨j, hj, rfl⟩ := List.getElem_of_mem hy
      have := hr j hj
      omega
    · have h1 : ccomb f (-1) x = -1 := by unfold ccomb; rw [if_neg (fun h2 => hd ⟨h2.1, h2.2.1⟩)]
      rw [if_neg hd, h1]
      exact deepTo_first hr
theorem listing_last {f : Nat → Deed} {n : Nat} (hn : 1 ≤ n) : ∃ o, listing f n = o ++ [(n - 1, 0)] := by
  obtain ⟨k, rfl⟩ : ∃ k, n = k + 1 := ⟨n - 1, by omega⟩
  exact ⟨_, rfl⟩
theorem listing_full {f : Nat → Deed} {n : Nat} (hn : 1 ≤ n) (h : ∀ j (hj : j < (listing f n).length), ((listing f n)[j]).1 = j) : (listing f n).length = n := by
  obtain ⟨o, ho⟩ := listing_last (f := f) hn
  have hl : (listing f n).length = o.length + 1 := by rw [ho]; simp
  have := h o.length (by omega)
  simp only [ho] at this
  simp at this
  omega
theorem new_no {f : Nat → Deed} {p k m : Nat} (hk : k < m) (h : nameNew f p (k + 1) = false) : nameNew f p m = false := by
  induction m with
  | zero => omega
  | succ j ih =>
    by_cases e : k = j
    · subst e; exact h
    · rw [nameNew, ih (by omega)]; rfl

structure FourZ (w : World) (b : Nat) (v0 v1 v2 v3 : Value) : Prop where
  c0 : w.cell? ⟨b, 0, none⟩ = some v0
  c1 : w.cell? ⟨b, 1, none⟩ = some v1
  c2 : w.cell? ⟨b, 2, none⟩ = some v2
  c3 : w.cell? ⟨b, 3, none⟩ = some v3
  z2 : w.frozen? ⟨b, 2, none⟩ = false
  z3 : w.frozen? ⟨b, 3, none⟩ = false
theorem four_box (w : World) (v0 v1 v2 v3 : Value) (t : TypeId) : FourZ (w.alloc (.cells #[v0, v1, v2, v3] t)).drew w.heap.size v0 v1 v2 v3 := ⟨by simp, by simp, by simp, by simp, by simp, by simp⟩
theorem sls_new {w : World} {b off n cap : Nat} : SLs w (((w.alloc (.cells #[.slice (some ⟨b, off, none⟩) n cap] 30)).alloc (.cells (zerosBool n) 4)).alloc (.cells #[.slice (some ⟨b, off, none⟩) n cap, .slice (some ⟨w.heap.size + 1, 0, none⟩) n n, .slice none 0 0, .int .i64 (-1)] 134)).drew (w.heap.size + 1 + 1 + 1) b off n cap (w.heap.size + 1 + 1) (w.heap.size + 1) (fun _ => false) (.slice none 0 0) [] (-1) := by
  have hz1 : (w.alloc (.cells #[.slice (some ⟨b, off, none⟩) n cap] 30)).heap.size = w.heap.size + 1 := by simp
  have hz2 : ((w.alloc (.cells #[.slice (some ⟨b, off, none⟩) n cap] 30)).alloc (.cells (zerosBool n) 4)).heap.size = w.heap.size + 1 + 1 := by simp
  have A := (((Below.refl w.heap.size w).alloc (Nat.le_refl _) (.cells #[.slice (some ⟨b, off, none⟩) n cap] 30)).alloc (by simp) (.cells (zerosBool n) 4)).alloc (by simp; omega) (.cells #[.slice (some ⟨b, off, none⟩) n cap, .slice (some ⟨w.heap.size + 1, 0, none⟩) n n, .slice none 0 0, .int .i64 (-1)] 134)
  have D : Below (w.heap.size + 1 + 1) ((w.alloc (.cells #[.slice (some ⟨b, off, none⟩) n cap] 30)).alloc (.cells (zerosBool n) 4)) (((w.alloc (.cells #[.slice (some ⟨b, off, none⟩) n cap] 30)).alloc (.cells (zerosBool n) 4)).alloc (.cells #[.slice (some ⟨b, off, none⟩) n cap, .slice (some ⟨w.heap.size + 1, 0, none⟩) n n, .slice none 0 0, .int .i64 (-1)] 134)).drew := ((Below.refl _ _).alloc (by omega) _).drew
  have hM := fun q hq => cell_M (w.alloc (.cells #[.slice (some ⟨b, off, none⟩) n cap] 30)) n q hq
  rw [hz1] at hM
  have hB := four_box ((w.alloc (.cells #[.slice (some ⟨b, off, none⟩) n cap] 30)).alloc (.cells (zerosBool n) 4)) (.slice (some ⟨b, off, none⟩) n cap) (.slice (some ⟨w.heap.size + 1, 0, none⟩) n n) (.slice none 0 0) (.int .i64 (-1)) 134
  rw [hz2] at hB
  refine ⟨hB.c0, hB.c1, ⟨hB.c2, hB.z2⟩, ⟨hB.c3, hB.z3⟩, fun q hq => ⟨(D.cell (p := ⟨w.heap.size + 1, q, none⟩) (Nat.lt_succ_self _)).trans (hM q hq).1, (D.frozen (p := ⟨w.heap.size + 1, q, none⟩) (Nat.lt_succ_self _)).trans (hM q hq).2⟩, World.ownsRow_nil _ _ _ _, A.drew, by omega, by omega, by omega, ?_⟩
  simp

end Go.Proofs.YtfhdecheaeoopaaGreatDoor.Vp

/-
  spec: l3Order, CheckAccount.
-/
namespace Go.Proofs.YtfhdecheaeoopaaGreatDoor.Vp
open Go.RowKit

set_option maxRecDepth 100000 in
set_option maxHeartbeats 4000000 in
theorem l3Order_any (b off n cap : Nat) (f : Nat → Deed) (w : World) (hA : Ahead f n) (hn1 : 1 ≤ n) (hn : (n : Int) ≤ 400) (hf : RowDeed w b off n f) (hlk : ∀ p, p < n → (f p).linksN ≤ 200) :
    Calls Tryz.prog 74 #[.agg #[.slice (some ⟨b, off, none⟩) n cap], .int .i64 ((n : Int) - 1)] w fun e w' => ∃ H ov, e = .returned (.pointer (some ⟨H, 0, none⟩)) ∧ H < w'.heap.size ∧ w'.cell? ⟨H, 2, none⟩ = some ov ∧ w'.ownsRow w.heap.size 3 1 ov (listing f n).length ((listing f n).map fun z : Nat × Nat => Value.int .i64 (z.1 : Int)) ∧ w'.cell? ⟨H, 3, none⟩ = some (.int .i64 (deepTo f (-1) (listing f n))) ∧ Below w.heap.size w w' := by
  have k0 : (w.alloc (.cells #[.slice (some ⟨b, off, none⟩) n cap] 30)).cell? ⟨w.heap.size, 0, none⟩ = some (.slice (some ⟨b, off, none⟩) n cap) := by simp
  have hll := listing_len hA hn1
  have hC := slist_any w (w.heap.size + 1 + 1 + 1) b off n cap (w.heap.size + 1 + 1) (w.heap.size + 1) f hA hn hf hlk n (n - 1) 0 (fun _ => false) (.slice none 0 0) [] (-1) _ (by omega) (by omega) (by omega) sls_new rfl (by have := hll; unfold listing at this; simp; omega)
  rw [show ((n - 1 : Nat) : Int) = (n : Int) - 1 by omega] at hC
  have HC := hide hC
  have hmk := fun w => mkBool n (by omega) w
  clear hC hA hf hlk
  have HW : Hid (w.heap.size + 1 + 1 + 1 = (((w.alloc (.cells #[.slice (some ⟨b, off, none⟩) n cap] 30)).alloc (.cells (zerosBool n) 4)).alloc (.cells #[.slice (some ⟨b, off, none⟩) n cap, .slice (some ⟨w.heap.size + 1, 0, none⟩) n n, .slice none 0 0, .int .i64 (-1)] 134)).drew.heap.size) := by
    show _ = _
    simp
  go_enter Tryz.func74, Tryz.ntmps74
  go_wp2_with fail
  go_region_with fail
  all_goals
    clear hmk k0
    go_wp2_with fail
    refine HC.out.mono ?_
    rintro e w2 ⟨rfl, ov, hS, hK⟩
    have HS := hide hS
    clear hS hK
    go_wp2
    go_ret
    refine ⟨w.heap.size + 1 + 1, ov, rfl, ?_, HS.out.c2.1, ?_, HS.out.c3.1, HS.out.low⟩
    · have := HS.out.hz
      omega
    · have h := own_mono HS.out.ord (base' := w.heap.size) (by omega)
      simp only [List.nil_append, List.map_map, List.length_map] at h
      exact h

end Go.Proofs.YtfhdecheaeoopaaGreatDoor.Vp

/-
  spec: CheckAccount.
-/
namespace Go.Proofs.YtfhdecheaeoopaaGreatDoor.Vp
open Go.RowKit

theorem addr_add' (b o j : Nat) : (⟨b, o, none⟩ : Addr).add j = ⟨b, o + j, none⟩ := by unfold Addr.add; split <;> simp_all

set_option maxRecDepth 100000 in
set_option maxHeartbeats 8000000 in
theorem specAcc_any (a : Option Addr) (n cap : Nat) (f : Nat → Deed) (w : World) (hn : (n : Int) ≤ 1048576) (hv : SlDeed w a n f) (hfit : ∀ i, i < n → FitsDeed (f i)) (hsz : ∀ i, i < n → SizedDeed (f i)) :
    Calls Tryz.prog 38 #[.agg #[.slice a n cap]] w fun e w' => e = .returned (.tuple #[.int .i64 (accC f n).1, .int .i64 (accC f n).2]) ∧ Below w.heap.size w w' := by
  have HV := hide hv
  have HM := hide hfit
  have HZ := hide hsz
  clear hv hfit hsz
  have A0 := hide ((Below.refl w.heap.size w).alloc (Nat.le_refl _) (.cells #[.slice a n cap] 30))
  have k0 : (w.alloc (.cells #[.slice a n cap] 30)).cell? ⟨w.heap.size, 0, none⟩ = some (.slice a n cap) := by simp
  obtain ⟨c1, c2, hacc⟩ : ∃ c1 c2, accC f n = (c1, c2) := ⟨_, _, rfl⟩
  rw [hacc]
  have HC := hide hacc
  clear hacc
  by_cases h0 : (n : Int) < 1
  · have e1 : c1 = 1 ∧ c2 = 0 := by have := HC.out; unfold accC at this; rw [if_pos (.inl (by omega))] at this; simp only [Prod.mk.injEq] at this; omega
    clear HC
    obtain ⟨e1, e2⟩ := e1
    subst e1 e2
    go_enter Tryz.func38, Tryz.ntmps38
    go_wp2
    go_ret2
    exact ⟨rfl, A0.out⟩
  by_cases h4 : (400 : Int) < (n : Int)
  · have e1 : c1 = 1 ∧ c2 = 0 := by have := HC.out; unfold accC at this; rw [if_pos (.inr (by omega))] at this; simp only [Prod.mk.injEq] at this; omega
    clear HC
    obtain ⟨e1, e2⟩ := e1
    subst e1 e2
    go_enter Tryz.func38, Tryz.ntmps38
    go_wp2
    go_ret2
    exact ⟨rfl, A0.out⟩
  have HC1 : Hid ((if firstNo (deedOk f) n ≠ -1 then ((2 : Int), firstNo (deedOk f) n) else if firstNo (fun p => nameNew f p p) n ≠ -1 then (3, firstNo (fun p => nameNew f p p) n) else if offAt 0 (listing f n) ≠ -1 then (4, offAt 0 (listing f n)) else if deepAt f (listing f n) ≠ -1 then (5, deepAt f (listing f n)) else (0, 0)) = (c1, c2)) := by
    have := HC.out
    unfold accC at this
    rw [if_neg (by omega)] at this
    exact this
  clear HC
  obtain ⟨b, off, rfl, hrow⟩ := HV.out.resolve_left (by omega)
  have HR := hide hrow
  clear HV hrow
  have hn4 : (n : Int) ≤ 400 := by omega
  have hw0 : w.heap.size < (w.alloc (.cells #[.slice (some ⟨b, off, none⟩) n cap] 30)).heap.size := by simp
  go_enter Tryz.func38, Tryz.ntmps38
  go_wp2
  generalize w.alloc (.cells #[.slice (some ⟨b, off, none⟩) n cap] 30) = W at A0 k0 hw0 ⊢
  go_loopw [5] (fun i wr => ∃ k : Nat, k ≤ n ∧ i = .int .i64 k ∧ Hid (∀ j, j < k → deedOk f j = true) ∧ Hid (Below W.heap.size W wr)) (fun i _ => n - (intOf i).toNat)
  case atStart => exact ⟨0, by omega, rfl, fun j hj => absurd hj (Nat.not_lt_zero _), Below.refl _ _⟩
  case round =>
    obtain ⟨k, hk, rfl, HK, HB⟩ := hrel
    have k1 := (HB.out.cell (p := ⟨w.heap.size, 0, none⟩) hw0).trans k0
    have G0 := hide (A0.out.trans (HB.out.mono A0.out.size))
    by_cases hlt : k < n
    · go_wp2_with fail
      refine (l3DeedOk_any b off n cap k f _ hlt (HR.out.below G0.out (Nat.le_refl _)) (HM.out k hlt).1 (HZ.out k hlt).2.2.1.2).mono ?_
      rintro e w2 ⟨he, hB⟩
      have G1 := hide (G0.out.trans (hB.mono G0.out.size))
      have H1 := hide (HB.out.trans (hB.mono HB.out.size))
      clear hB
      cases hd : deedOk f k with
      | true =>
        rw [hd] at he
        subst he
        have HD := hide hd
        clear hd
        go_wp2
        exact ⟨⟨k + 1, by omega, by go_num, fun j hj => by
          by_cases e : j = k
          · subst e; exact HD.out
          · exact HK.out j (by omega), H1.out⟩, by simp [intOf]; omega⟩
      | false =>
        rw [hd] at he
        subst he
        have hfn := firstNo_at hlt hd HK.out
        have e1 : c1 = 2 ∧ c2 = (k : Int) := by
          have := HC1.out
          rw [if_pos (by rw [hfn]; omega), hfn] at this
          simp only [Prod.mk.injEq] at this
          omega
        obtain ⟨e1, e2⟩ := e1
        clear HC1 hfn hd
        subst e1 e2
        go_wp2
        go_ret2
        exact ⟨rfl, G1.out⟩
    · have e : n = k := by omega
      subst e
      have hf1 := firstNo_all HK.out
      have HC2 : Hid ((if firstNo (fun p => nameNew f p p) n ≠ -1 then ((3 : Int), firstNo (fun p => nameNew f p p) n) else if offAt 0 (listing f n) ≠ -1 then (4, offAt 0 (listing f n)) else if deepAt f (listing f n) ≠ -1 then (5, deepAt f (listing f n)) else (0, 0)) = (c1, c2)) := by
        have := HC1.out
        rw [if_neg (by rw [hf1]; simp)] at this
        exact this
      have HF1 := hide hf1
      clear HC1 hf1 HK
      go_wp2
      clear hlt hk k1
      generalize wr = W2 at HB G0 ⊢
      have k1 := (HB.out.cell (p := ⟨w.heap.size, 0, none⟩) hw0).trans k0
      have hw2 : w.heap.size < W2.heap.size := Nat.lt_of_lt_of_le hw0 HB.out.size
      go_loopw [6] (fun i wr => ∃ k : Nat, k ≤ n ∧ i = .int .i64 k ∧ Hid (∀ j, j < k → nameNew f j j = true) ∧ Hid (Below W2.heap.size W2 wr)) (fun i _ => n - (intOf i).toNat)
      case atStart => exact ⟨0, by omega, rfl, fun j hj => absurd hj (Nat.not_lt_zero _), Below.refl _ _⟩
      case round =>
        obtain ⟨k, hk, rfl, HK, HB3⟩ := hrel
        by_cases hlt : k < n
        · go_wp2
          generalize wr = W3 at HB3 ⊢
          go_loopw [7] (fun i wr => ∃ m : Nat, m ≤ k ∧ i = .int .i64 m ∧ Hid (nameNew f k m = true) ∧ Hid (Below W2.heap.size W2 wr)) (fun i _ => k - (intOf i).toNat)
          case atStart => exact ⟨0, by omega, rfl, rfl, HB3.out⟩
          case round =>
            obtain ⟨m, hm, rfl, HN, HB4⟩ := hrel
            have k2 := (HB4.out.cell (p := ⟨w.heap.size, 0, none⟩) hw2).trans k1
            have G1 := hide (G0.out.trans (HB4.out.mono G0.out.size))
            by_cases hlm : m < k
            · have d0 := ((HR.out.below G1.out (Nat.le_refl _)).2 m (by omega)).1
              have d1 := ((HR.out.below G1.out (Nat.le_refl _)).2 k hlt).1
              have hm0 : (0 : Int) ≤ m := by omega
              have hmn : (m : Int) < n := by omega
              have hk0 : (0 : Int) ≤ k := by omega
              have hkn : (k : Int) < n := by omega
              cases hq : ((f m).name.toList == (f k).name.toList) with
              | true =>
                have hnn : nameNew f k k = false := new_no hlm (by rw [nameNew, hq]; simp)
                have hfn := firstNo_at (g := fun p => nameNew f p p) hlt hnn HK.out
                have e1 : c1 = 3 ∧ c2 = (k : Int) := by
                  have := HC2.out
                  rw [if_pos (by rw [hfn]; omega), hfn] at this
                  simp only [Prod.mk.injEq] at this
                  omega
                obtain ⟨e1, e2⟩ := e1
                clear HC2 hfn hnn
                subst e1 e2
                go_wp2_with fail
                go_quiet (fail)
                have G2 := hide (below_drewN G1.out nq)
                go_wp2
                go_ret2
                exact ⟨rfl, G2.out⟩
              | false =>
                have HN1 : Hid (nameNew f k (m + 1) = true) := by show nameNew f k (m + 1) = true; rw [nameNew, HN.out, hq]; rfl
                go_wp2_with fail
                go_quiet (fail)
                have H5 := hide (below_drewN HB4.out nq)
                go_wp2
                exact ⟨⟨m + 1, by omega, by go_num, HN1.out, H5.out⟩, by simp [intOf]; omega⟩
            · have e : m = k := by omega
              subst e
              go_wp2
              exact ⟨⟨m + 1, by omega, by go_num, fun j hj => by
                by_cases e : j = m
                · subst e; exact HN.out
                · exact HK.out j (by omega), HB4.out⟩, by simp [intOf]; omega⟩
        · have e : n = k := by omega
          subst e
          have hf2 := firstNo_all (g := fun p => nameNew f p p) HK.out
          have HC3 : Hid ((if offAt 0 (listing f n) ≠ -1 then ((4 : Int), offAt 0 (listing f n)) else if deepAt f (listing f n) ≠ -1 then (5, deepAt f (listing f n)) else (0, 0)) = (c1, c2)) := by
            have := HC2.out
            rw [if_neg (by rw [hf2]; simp)] at this
            exact this
          clear HC2 hf2 HK
          have k2 := (HB3.out.cell (p := ⟨w.heap.size, 0, none⟩) hw2).trans k1
          have G1 := hide (G0.out.trans (HB3.out.mono G0.out.size))
          have HLL := hide (listing_len (ahead_of HF1.out) (n := n) (by omega))
          have hn1 : 1 ≤ n := by omega
          go_wp2_with fail
          refine (l3Order_any b off n cap f _ (ahead_of HF1.out) hn1 hn4 (HR.out.below G1.out (Nat.le_refl _)) (links_of HF1.out)).mono ?_
          rintro e w5 ⟨H, ov, rfl, hHl, hc2, hO, hc3, hB⟩
          have G5 := hide (G1.out.trans (hB.mono G1.out.size))
          obtain ⟨o, ho⟩ := listing_last (f := f) hn1
          have hlp : 0 < (listing f n).length := by rw [ho]; simp
          have HFULL := hide (fun h => listing_full (f := f) hn1 h)
          clear ho o
          obtain ⟨L, hL⟩ : ∃ L, L = listing f n := ⟨_, rfl⟩
          rw [← hL] at hO hc3 hlp HC3 HLL HFULL
          clear hL
          obtain ⟨g, oc, rfl⟩ : ∃ g c, ov = .slice (some ⟨g, 0, none⟩) L.length c := by
            rcases hO.2 with ⟨_, h2⟩ | ⟨g, c, cur, h1, _⟩
            · omega
            · exact ⟨g, c, h1⟩
          have HOC : Hid (∀ j (h : j < L.length), w5.cell? ⟨g, j, none⟩ = some (.int .i64 ((L[j]).1 : Int)) ∧ g < w5.heap.size) := by
            intro j hj
            have h1 := hO.cells (g := g) rfl j (.int .i64 ((L[j]).1 : Int)) (by rw [List.getElem?_map, List.getElem?_eq_getElem hj]; rfl)
            rw [addr_add', Nat.zero_add] at h1
            exact ⟨h1, (hO.lt g rfl).2⟩
          have hll := HLL.out
          clear hO hB k2
          go_wp2
          go_loopw [9] (fun i wr => ∃ k : Nat, k ≤ n ∧ i = .int .i64 k ∧ Hid (∀ j, j < k → ∃ h : j < L.length, (L[j]).1 = j) ∧ Hid (Below w5.heap.size w5 wr)) (fun i _ => n - (intOf i).toNat)
          case atStart => exact ⟨0, by omega, rfl, fun j hj => absurd hj (Nat.not_lt_zero _), Below.refl _ _⟩
          case round =>
            obtain ⟨k, hk, rfl, HK, HB6⟩ := hrel
            have e2 := (HB6.out.cell (p := ⟨H, 2, none⟩) hHl).trans hc2
            have e3 := (HB6.out.cell (p := ⟨H, 3, none⟩) hHl).trans hc3
            have G6 := hide (G5.out.trans (HB6.out.mono G5.out.size))
            by_cases hlt : k < n
            · by_cases hkl : k < L.length
              · obtain ⟨q1, q2⟩ := HOC.out k hkl
                have d0 := (HB6.out.cell (p := ⟨g, k, none⟩) q2).trans q1
                have hkl' : (k : Int) < (L.length : Int) := by omega
                have hno : decide ((L.length : Int) ≤ (k : Int)) = false := by simp; omega
                have hno' : decide (L.length ≤ k) = false := by simp; omega
                have hk0 : (0 : Int) ≤ k := by omega
                obtain ⟨z, hz⟩ : ∃ z, z = (L[k]).1 := ⟨_, rfl⟩
                rw [← hz] at d0
                have HZZ := hide hz
                clear q1 q2 hz
                by_cases hx : (z : Int) = (k : Int)
                · have HN : Hid (∀ j, j < k + 1 → ∃ h : j < L.length, (L[j]).1 = j) := fun j hj => by
                    by_cases e : j = k
                    · subst e
                      exact ⟨hkl, by rw [← HZZ.out]; omega⟩
                    · exact HK.out j (by omega)
                  obtain rfl : z = k := by omega
                  clear hx HZZ
                  go_wp2
                  exact ⟨⟨z + 1, by omega, by go_num, HN.out, HB6.out⟩, by simp [intOf]; omega⟩
                · have hoff : offAt 0 L = (k : Int) := by
                    have := offAt_at (L := L) (i := 0) (j := k) hkl (fun m hm => by obtain ⟨h, e⟩ := HK.out m hm; omega) (by rw [← HZZ.out]; omega)
                    simpa using this
                  have e1 : c1 = 4 ∧ c2 = (k : Int) := by
                    have := HC3.out
                    rw [if_pos (by rw [hoff]; omega), hoff] at this
                    simp only [Prod.mk.injEq] at this
                    omega
                  have hne : ((z : Int) != (k : Int)) = true := by simpa using hx
                  obtain ⟨e1, e2'⟩ := e1
                  clear HC3 hoff HZZ
                  subst e1 e2'
                  go_wp2
                  go_ret2
                  exact ⟨rfl, G6.out⟩
              · have := HFULL.out fun j hj => by obtain ⟨h, e⟩ := HK.out j (by omega); exact e
                omega
            · have e : n = k := by omega
              subst e
              have hall : ∀ j (h : j < L.length), (L[j]).1 = 0 + j := fun j hj => by obtain ⟨h, e⟩ := HK.out j (by omega); omega
              have hoff := offAt_all hall
              rw [deepTo_first hall] at e3
              have HC4 : Hid ((if deepAt f L ≠ -1 then ((5 : Int), deepAt f L) else (0, 0)) = (c1, c2)) := by
                have := HC3.out
                rw [if_neg (by rw [hoff]; simp)] at this
                exact this
              have hge := deepAt_ge f L
              generalize deepAt f L = X at e3 HC4 hge
              have HGE := hide hge
              clear HC3 hoff hall hge e2
              by_cases hx : X = -1
              · have e1 : c1 = 0 ∧ c2 = 0 := by
                  have := HC4.out
                  rw [if_neg (by rw [hx]; simp)] at this
                  simp only [Prod.mk.injEq] at this
                  omega
                obtain ⟨e1, e2'⟩ := e1
                have hd : decide (0 ≤ X) = false := by rw [hx]; rfl
                clear HC4 hx
                subst e1 e2'
                go_wp2
                go_ret2
                exact ⟨rfl, G6.out⟩
              · have e1 : c1 = 5 ∧ c2 = X := by
                  have := HC4.out
                  rw [if_pos hx] at this
                  simp only [Prod.mk.injEq] at this
                  omega
                have hge : 0 ≤ X := HGE.out.resolve_left hx
                obtain ⟨e1, e2'⟩ := e1
                clear HC4 hx HGE
                subst e1 e2'
                go_wp2_with fail
                go_quiet (fail)
                have G7 := hide (below_drewN G6.out nq)
                go_wp2
                go_ret2
                exact ⟨rfl, G7.out⟩

end Go.Proofs.YtfhdecheaeoopaaGreatDoor.Vp

/-
  spec: l3Ok.
-/
namespace Go.Proofs.YtfhdecheaeoopaaGreatDoor.Vp
open Go.RowKit

set_option maxRecDepth 100000 in
set_option maxHeartbeats 4000000 in
theorem l3Ok_any (a : Option Addr) (n cap : Nat) (f : Nat → Deed) (w : World) (hn : (n : Int) ≤ 1048576) (hv : SlDeed w a n f) (hfit : ∀ i, i < n → FitsDeed (f i)) (hsz : ∀ i, i < n → SizedDeed (f i)) :
    Calls Tryz.prog 16 #[.agg #[.slice a n cap]] w fun e w' => e = .returned (.bool (accOk f n)) ∧ Below w.heap.size w w' := by
  have HV := hide hv
  have HM := hide hfit
  have HZ := hide hsz
  clear hv hfit hsz
  have A0 := hide ((Below.refl w.heap.size w).alloc (Nat.le_refl _) (.cells #[.slice a n cap] 30))
  obtain ⟨r, hr⟩ : ∃ r, r = accOk f n := ⟨_, rfl⟩
  rw [← hr]
  have HE := hide (show r = decide ((accC f n).1 = 0) from hr)
  clear hr
  go_enter Tryz.func16, Tryz.ntmps16
  go_wp2_with fail
  refine (specAcc_any a n cap f _ hn (HV.out.below A0.out (Nat.le_refl _)) HM.out HZ.out).mono ?_
  rintro e w1 ⟨rfl, hB⟩
  have B1 := hide (A0.out.trans (hB.mono A0.out.size))
  clear hB
  generalize (accC f n).1 = c at HE ⊢
  generalize (accC f n).2 = d
  cases r with
  | true =>
    obtain rfl : c = 0 := of_decide_eq_true HE.out.symm
    go_wp2
    go_ret
    exact ⟨rfl, B1.out⟩
  | false =>
    have hc : (c == 0) = false := by have : ¬ c = 0 := of_decide_eq_false HE.out.symm; simpa using this
    go_wp2
    go_ret
    exact ⟨rfl, B1.out⟩

end Go.Proofs.YtfhdecheaeoopaaGreatDoor.Vp

/-
  impl: validAccount.
-/
namespace Go.Proofs.YtfhdecheaeoopaaGreatDoor.Vp
open Go.RowKit

set_option maxRecDepth 100000 in
set_option maxHeartbeats 4000000 in
theorem validAccount_any (a : Option Addr) (n cap : Nat) (f : Nat → Deed) (w : World) (hn : (n : Int) ≤ 1048576) (hv : SlDeed w a n f) (hcap : (n : Int) ≤ cap) (hfit : ∀ i, i < n → FitsDeed (f i)) (hT : Tab w) :
    Calls Tryz.prog 19 #[.agg #[.slice a n cap]] w fun e w' => e = .returned (.bool (accOk f n)) ∧ Below w.heap.size w w' := by
  have HV := hide hv
  have HM := hide hfit
  have HT := hide hT
  clear hv hfit hT
  have A0 := hide ((Below.refl w.heap.size w).alloc (Nat.le_refl _) (.cells #[.slice a n cap] 30))
  obtain ⟨r, hr⟩ : ∃ r, r = accOk f n := ⟨_, rfl⟩
  rw [← hr]
  have HE := hide (show r = decide ((accC f n).1 = 0) from hr)
  clear hr
  go_enter Tryz.func19, Tryz.ntmps19
  go_wp2_with fail
  refine (implAcc_any a n cap f _ hn (HV.out.below A0.out (Nat.le_refl _)) hcap HM.out (HT.out.below A0.out HT.out.1)).mono ?_
  rintro e w1 ⟨rfl, hB⟩
  have B1 := hide (A0.out.trans (hB.mono A0.out.size))
  clear hB
  generalize (accC f n).1 = c at HE ⊢
  generalize (accC f n).2 = d
  cases r with
  | true =>
    obtain rfl : c = 0 := of_decide_eq_true HE.out.symm
    go_wp2
    go_ret
    exact ⟨rfl, B1.out⟩
  | false =>
    have hc : (c == 0) = false := by have : ¬ c = 0 := of_decide_eq_false HE.out.symm; simpa using this
    go_wp2
    go_ret
    exact ⟨rfl, B1.out⟩

end Go.Proofs.YtfhdecheaeoopaaGreatDoor.Vp
