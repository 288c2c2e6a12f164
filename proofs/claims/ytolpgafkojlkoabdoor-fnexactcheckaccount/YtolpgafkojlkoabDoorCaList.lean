/-
  impl: the listing of a deed, by its own calls.
-/
import Derived.Test.YtolpgafkojlkoabDoorCaNew
import Derived.Test.YtolpgafkojlkoabDoorCaLoop
import Derived.RangeFuncNested
import Derived.RangeFuncBound
import Derived.RangeFuncCalls
import Derived.RangeFuncLeaves
import Derived.Shelf.Abstract
import Derived.Shelf.RegionOpen
import Derived.WalkKit
import Derived.OwnWalkIn
import Derived.TacticsInMore
import Derived.LoopNIn
import Derived.LoopIn
import Derived.Sort.QuietIn
import Derived.Sort.BigQuietIn
import Derived.Sort.CutIn
namespace Go.Proofs.YtolpgafkojlkoabDoor.Vp
open Go.RowKit Go.Shelf Go.Proofs.YtolpgafkojlkoabDoor.Ca

attribute [local go_sem] Oper.semAt_some

/-- A listing under way: its box at L, the row of those that are listed at M; what lay there when it was asked for lies. -/
structure LSt (w0 W : World) (n1 b off n cap L M l : Nat) (s : Nat → Bool) : Prop where
  c0 : W.cell? ⟨L, 0, none⟩ = some (.slice (some ⟨b, off, none⟩) n cap)
  c1 : W.cell? ⟨L, 1, none⟩ = some (.slice (some ⟨M, 0, none⟩) n n)
  c2 : W.cell? ⟨L, 2, none⟩ = some (.func (.yield l) #[] #[])
  row : ∀ q, q < n → W.cell? ⟨M, q, none⟩ = some (.bool (s q)) ∧ W.frozen? ⟨M, q, none⟩ = false
  low : Below w0.heap.size w0 W
  hL : n1 ≤ L ∧ L < W.heap.size
  hM : n1 ≤ M ∧ M < W.heap.size
  ne : L ≠ M
  hb : w0.heap.size ≤ n1
  tyM : OfTy W M 4
  tyL : OfTy W L 78
theorem LSt.blocks {w0 W W' : World} {n1 b off n cap L M l : Nat} {s : Nat → Bool} (h : LSt w0 W n1 b off n cap L M l s) (hz : W.heap.size ≤ W'.heap.size) (eL : W'.heap[L]? = W.heap[L]?) (eM : W'.heap[M]? = W.heap[M]?) (hl : Below w0.heap.size w0 W') : LSt w0 W' n1 b off n cap L M l s := by
  have c : ∀ o, W'.cell? ⟨L, o, none⟩ = W.cell? ⟨L, o, none⟩ := fun o => World.cell?_of_block (a := ⟨L, o, none⟩) eL
  exact ⟨(c 0).trans h.c0, (c 1).trans h.c1, (c 2).trans h.c2, fun q hq => ⟨(World.cell?_of_block (a := ⟨M, q, none⟩) eM).trans (h.row q hq).1, (World.frozen?_of_block (a := ⟨M, q, none⟩) eM).trans (h.row q hq).2⟩, hl, ⟨h.hL.1, Nat.lt_of_lt_of_le h.hL.2 hz⟩, ⟨h.hM.1, Nat.lt_of_lt_of_le h.hM.2 hz⟩, h.ne, h.hb, h.tyM.eq eM, h.tyL.eq eL⟩
theorem LSt.below {w0 W W' : World} {n1 b off n cap L M l : Nat} {s : Nat → Bool} (h : LSt w0 W n1 b off n cap L M l s) (hb : Below W.heap.size W W') : LSt w0 W' n1 b off n cap L M l s :=
  h.blocks hb.size (hb.block L h.hL.2) (hb.block M h.hM.2) (h.low.trans (hb.mono h.low.size))
theorem LSt.upd {w0 W W' : World} {n1 b off n cap L M l : Nat} {s : Nat → Bool} {T : TypeId} (hT : T ≠ 4 ∧ T ≠ 78) (h : LSt w0 W n1 b off n cap L M l s) (hu : Upd2 T w0.heap.size n1 W W') : LSt w0 W' n1 b off n cap L M l s :=
  h.blocks hu.size (hu.block L h.hL.2 (.inr ⟨h.hL.1, h.tyL.ne hT.2⟩)) (hu.block M h.hM.2 (.inr ⟨h.hM.1, h.tyM.ne hT.1⟩)) (h.low.trans (hu.below h.low.size))
theorem LSt.set {w0 W : World} {n1 b off n cap L M l p : Nat} {s : Nat → Bool} (h : LSt w0 W n1 b off n cap L M l s) (hp : p < n) : LSt w0 (W.setCell ⟨M, p, none⟩ (.bool true)) n1 b off n cap L M l (put s p) := by
  have c : ∀ o, (W.setCell ⟨M, p, none⟩ (.bool true)).cell? ⟨L, o, none⟩ = W.cell? ⟨L, o, none⟩ := fun o => World.cell?_setCell_other _ _ _ _ (by simp; exact fun e => absurd e.symm h.ne)
  refine ⟨(c 0).trans h.c0, (c 1).trans h.c1, (c 2).trans h.c2, fun q hq => ⟨?_, by simpa using (h.row q hq).2⟩, h.low.setCell (by have := h.hM.1; have := h.hb; show _ ≤ M; omega) _, by simpa using h.hL, by simpa using h.hM, h.ne, h.hb, h.tyM.set _ _, h.tyL.set _ _⟩
  by_cases e : q = p
  · subst e
    rw [World.cell?_setCell_same' _ _ _ (by rw [(h.row q hq).1]; rfl)]
    simp [put]
  · rw [World.cell?_setCell_other _ _ _ _ (by simp), (h.row q hq).1]
    simp [put, e]

theorem lks_prefix {go : Nat → Nat → (Nat → Bool) → (Nat → Bool) × List (Nat × Nat)} {x : Deed} {d : Nat} {s : Nat → Bool} {i m : Nat} (h : i ≤ m) : (lks go x d s i).2 <+: (lks go x d s m).2 := by
  induction m with
  | zero => obtain rfl : i = 0 := by omega
            exact List.prefix_rfl
  | succ k ih =>
    by_cases e : i = k + 1
    · subst e; exact List.prefix_rfl
    · refine (ih (by omega)).trans ?_
      rw [lks]
      split
      · exact List.prefix_append _ _
      · exact List.prefix_rfl

set_option maxRecDepth 100000 in
set_option maxHeartbeats 4000000 in
theorem list_in {T : TypeId} (hT : T ≠ 4 ∧ T ≠ 78) (w0 : World) (n1 b off n cap L M l : Nat) (full : List (Nat × Nat)) (f : Nat → Deed) (J Jx : List (Nat × Nat) → World → Prop) (hA : Ahead f n) (hn : (n : Int) ≤ 400) (hf : RowDeed w0 b off n f) (hlk : ∀ p, p < n → (f p).linksN ≤ 200)
    (hJ : ∀ s A C, J s A → Itr 4 n1 A C → J s C) (hJx : ∀ s A C, Jx s A → Itr 4 n1 A C → Jx s C)
    (hY : ∀ m pre (x : Nat × Nat) W, x.1 < n → J pre W → pre ++ [x] <+: full → n1 ≤ W.heap.size → YieldAt Fence.wide m Tryd.prog l #[.int .i64 (x.1 : Int), .int .i64 (x.2 : Int)] W fun e W' =>
      (e = .returned (.bool true) ∧ J (pre ++ [x]) W' ∧ Upd2 T w0.heap.size n1 W W') ∨ (e = .returned (.bool false) ∧ Jx (pre ++ [x]) W')) :
    ∀ (k p d : Nat) (s : Nat → Bool) (pre : List (Nat × Nat)) (W : World) (nn : Nat), p < k → p < n → d + p ≤ 1000 → LSt w0 W n1 b off n cap L M l s → s p = false → J pre W → pre ++ (lst f k p d s).2 <+: full →
      CallsIn Fence.wide nn Tryd.prog 37 #[.pointer (some ⟨L, 0, none⟩), .int .i64 (p : Int), .int .i64 (d : Int)] W fun e W' =>
        (e = .returned (.bool true) ∧ J (pre ++ (lst f k p d s).2) W' ∧ LSt w0 W' n1 b off n cap L M l (lst f k p d s).1) ∨ (e = .returned (.bool false) ∧ ∃ q, q <+: (lst f k p d s).2 ∧ Jx (pre ++ q) W') := by
  intro k
  induction k with
  | zero => intro p d s pre W nn h; omega
  | succ k ih =>
    intro p d s pre W nn hpk hpn hdp hS hs hJ0 hN
    have HS := hide hS
    have HJ0 := hide hJ0
    have HN := hide hN
    have HIH := hide ih
    have HY := hide hY
    have HJ := hide hJ
    have HJx := hide hJx
    have HA := hide hA
    have HF := hide hf
    obtain ⟨_, _, _, _, _, ⟨a1, cap1, p5', q5⟩⟩ := hf.2 p hpn
    have p5 := (hS.low.cell (p := ⟨b, off + p * 6 + 5, none⟩) hf.1).trans p5'
    obtain ⟨m, hm⟩ : ∃ m, m = (f p).linksN := ⟨_, rfl⟩
    have hm2 : m ≤ 200 := by rw [hm]; exact hlk p hpn
    rw [← hm] at p5 q5
    have HL := hide q5
    have HM := hide hm
    have e0 := hS.c0
    obtain ⟨K, hK⟩ : ∃ K, K = lks (lst f k) (f p) d s := ⟨_, rfl⟩
    have HLS : Hid (lst f (k + 1) p d s = (put (K m).1 p, (K m).2 ++ [(p, d)])) := by rw [hK, hm]; rfl
    have HK0 : Hid (K 0 = (s, [])) := by rw [hK]; rfl
    have HKS : Hid (∀ j, K (j + 1) = if ((f p).links j).ask = true ∧ (K j).1 ((f p).links j).at_.toNat = false then ((lst f k ((f p).links j).at_.toNat (d + 1) (K j).1).1, (K j).2 ++ (lst f k ((f p).links j).at_.toNat (d + 1) (K j).1).2) else K j) := fun j => by rw [hK]; rfl
    have HKP : Hid (∀ i, i ≤ m → (K i).2 <+: (K m).2) := fun i hi => by rw [hK]; exact lks_prefix hi
    clear hS hJ0 hN ih hY hJ hJx hA hf q5 hm hlk p5' hK
    refine callsIn_of_wp Tryd.func37 rfl trivial ?_ rfl
    simp only [Tryd.ntmps37, List.size_toArray, List.length_cons, List.length_nil, Nat.reduceAdd, Nat.reduceSub, Array.replicate_succ, Array.replicate_zero, List.push_toArray, List.append_toArray, List.nil_append, List.cons_append]
    gi_wp2
    clear e0 p5
    gi_loopw [18] (fun i wr => ∃ j : Nat, j ≤ m ∧ i = .int .i64 j ∧ Hid (LSt w0 wr n1 b off n cap L M l (K j).1) ∧ Hid (J (pre ++ (K j).2) wr)) (fun i _ => m - (intOf i).toNat)
    case atStart => exact ⟨0, by omega, rfl, by rw [HK0.out]; exact HS, by rw [HK0.out, List.append_nil]; exact HJ0⟩
    case round =>
      obtain ⟨j, hj, rfl, HSt, HJr⟩ := hrel
      by_cases hlt : j < m
      · obtain ⟨lb, lo, rfl, hrow⟩ := (HL.below HSt.low (Nat.le_refl _)).resolve_left (by omega)
        obtain ⟨d0, d1, d2, d3⟩ := hrow.2 j hlt
        clear hrow
        have hks := HKS.out j
        have hah := HA.out p hpn j (by have := HM.out; omega)
        generalize (f p).links j = x at d0 d1 d2 d3 hks hah
        have HKJ := hide hks
        clear hks
        have S1 := hide (HSt.below ((Below.refl _ _).alloc (Nat.le_refl _) (.cells #[.string x.name, .bool x.ask, .bool x.has, .int .i64 x.at_] 73)))
        have J1 := hide (HJ _ _ _ HJr (Itr.of_below ((Below.refl wr.heap.size wr).alloc (Nat.le_refl _) (.cells #[.string x.name, .bool x.ask, .bool x.has, .int .i64 x.at_] 73)) (Nat.le_refl _) (by have := HSt.hL; omega)))
        have e1 : (wr.alloc (.cells #[.string x.name, .bool x.ask, .bool x.has, .int .i64 x.at_] 73)).cell? ⟨wr.heap.size, 1, none⟩ = some (.bool x.ask) := by simp
        have e3 : (wr.alloc (.cells #[.string x.name, .bool x.ask, .bool x.has, .int .i64 x.at_] 73)).cell? ⟨wr.heap.size, 3, none⟩ = some (.int .i64 x.at_) := by simp
        have HAH := hide hah
        clear hah
        gi_upto_region 4 with fail
        clear d0 d1 d2 d3
        generalize World.alloc wr _ = W1 at S1 J1 e1 e3 ⊢
        generalize wr.heap.size = X at e1 e3 ⊢
        cases hask : x.ask with
        | false =>
          have hk1 : K (j + 1) = K j := by rw [HKJ.out, if_neg (by rw [hask]; simp)]
          have HK1 := hide hk1
          clear hk1
          rw [hask] at e1
          have hfw : ∀ f, Fence.wide.fn f = True := fun _ => rfl
          gi_quiet (fail)
          have S2 := hide (S1.below (below_drewN (Below.refl W1.heap.size W1) nq))
          have J2 := hide (HJ _ _ _ J1 (Itr.of_below (below_drewN (Below.refl W1.heap.size W1) nq) (Nat.le_refl _) (by have := S1.hL; omega)))
          gi_wp2
          exact ⟨⟨j + 1, by omega, by go_num, by rw [HK1.out]; exact S2, by rw [HK1.out]; exact J2⟩, by simp [intOf]; omega⟩
        | true =>
          obtain ⟨q, hq⟩ : ∃ q : Nat, x.at_ = (q : Int) := ⟨x.at_.toNat, by have := (HAH hask).2; omega⟩
          have hqp : q < p := by have := (HAH hask).1; rw [hq] at this; simpa using this
          rw [hq] at e3
          rw [hask] at e1
          have f1 := S1.c1
          obtain ⟨f2, _⟩ := S1.row q (by omega)
          have hq0 : (0 : Int) ≤ q := by omega
          have hqn : (q : Int) < n := by omega
          have hfw : ∀ f, Fence.wide.fn f = True := fun _ => rfl
          cases hl : (K j).1 q with
          | true =>
            have hk1 : K (j + 1) = K j := by rw [HKJ.out, if_neg (by rw [hq]; simp [hl])]
            have HK1 := hide hk1
            clear hk1
            rw [hl] at f2
            gi_quiet (fail)
            have S2 := hide (S1.below (below_drewN (Below.refl W1.heap.size W1) nq))
            have J2 := hide (HJ _ _ _ J1 (Itr.of_below (below_drewN (Below.refl W1.heap.size W1) nq) (Nat.le_refl _) (by have := S1.hL; omega)))
            gi_wp2
            exact ⟨⟨j + 1, by omega, by go_num, by rw [HK1.out]; exact S2, by rw [HK1.out]; exact J2⟩, by simp [intOf]; omega⟩
          | false =>
            have hk1 : K (j + 1) = ((lst f k q (d + 1) (K j).1).1, (K j).2 ++ (lst f k q (d + 1) (K j).1).2) := by rw [HKJ.out, if_pos ⟨hask, by rw [hq]; simpa using hl⟩, hq]; simp
            have HK1 := hide hk1
            have hpf := HKP.out (j + 1) (by omega)
            rw [hk1] at hpf
            have HPF := hide hpf
            have ecast : ((d + 1 : Nat) : Int) = (d : Int) + 1 := by omega
            have HC : Hid (∀ W2 nn, LSt w0 W2 n1 b off n cap L M l (K j).1 → J (pre ++ (K j).2) W2 → CallsIn Fence.wide nn Tryd.prog 37 #[.pointer (some ⟨L, 0, none⟩), .int .i64 (q : Int), .int .i64 ((d : Int) + 1)] W2 fun e W' =>
                ∃ r : Bool, e = .returned (.bool r) ∧ Hid ((r = true ∧ J (pre ++ (K (j + 1)).2) W' ∧ LSt w0 W' n1 b off n cap L M l (K (j + 1)).1) ∨ (r = false ∧ ∃ q, q <+: (K m).2 ++ [(p, d)] ∧ Jx (pre ++ q) W'))) := by
              intro W2 nn h1 h2
              have hlen : (pre ++ (K j).2) ++ (lst f k q (d + 1) (K j).1).2 <+: full := by
                have h3 := HN.out
                rw [HLS.out] at h3
                obtain ⟨z, hz⟩ := h3
                obtain ⟨y, hy⟩ := HPF.out
                exact ⟨y ++ [(p, d)] ++ z, by rw [← hz]; simp only []; rw [← hy]; simp⟩
              have h := HIH.out q (d + 1) (K j).1 (pre ++ (K j).2) W2 nn (by omega) (by omega) (by omega) h1 hl h2 hlen
              rw [ecast] at h
              refine h.mono fun e W' h => ?_
              rcases h with ⟨he, hj, hs⟩ | ⟨he, q', hq', hx⟩
              · exact ⟨true, he, .inl ⟨rfl, by rw [HK1.out, ← List.append_assoc]; exact hj, by rw [HK1.out]; exact hs⟩⟩
              · refine ⟨false, he, .inr ⟨rfl, (K j).2 ++ q', ?_, by rw [← List.append_assoc]; exact hx⟩⟩
                obtain ⟨z, hz⟩ := hq'
                obtain ⟨y, hy⟩ := HPF.out
                exact ⟨z ++ y ++ [(p, d)], by rw [← hy, ← hz]; simp⟩
            have S1d := hide (S1.below ((Below.refl W1.heap.size W1).drew))
            have J1d := hide (HJ _ _ _ J1 (Itr.of_below (Below.refl W1.heap.size W1).drew (Nat.le_refl _) (by have := S1.hL; omega)))
            have hwr : IntKind.i64.wrap ((d : Int) + 1) = (d : Int) + 1 := by rw [IntKind.wrap_i64]; omega
            clear hk1 hpf
            rw [hl] at f2
            gi_region_with ((try refine ⟨fun h => (by cases h), ?_⟩); gi_at_call 37; refine (HC _ _ ?_ ?_).mono ?_; (first | exact S1d | exact S1); (first | exact J1d | exact J1); rintro e W3 ⟨r, rfl, H3⟩)
            all_goals
              cases r with
              | true =>
                have h3 := H3.resolve_right (fun h => by cases h.1)
                have S3 := hide h3.2.2
                have J3 := hide h3.2.1
                clear h3 H3
                gi_wp2
                exact ⟨⟨j + 1, by omega, by go_num, S3, J3⟩, by simp [intOf]; omega⟩
              | false =>
                have h3 := H3.resolve_left (fun h => by cases h.1)
                have X3 := hide h3.2
                clear h3 H3
                gi_wp2
                go_ret
                rw [HLS.out]
                exact .inr ⟨rfl, X3⟩
      · have e : m = j := by omega
        subst e
        have S2 := hide (HSt.set hpn)
        have J2 := hide (HJ _ _ _ HJr (Itr.setCell wr (p := ⟨M, p, none⟩) HSt.hM.1 HSt.tyM (.bool true)))
        have hlen : (pre ++ (K m).2) ++ [(p, d)] <+: full := by
          have h3 := HN.out
          rw [HLS.out] at h3
          simpa using h3
        have hYY := HY.out (nn - 1) (pre ++ (K m).2) (p, d) _ hpn J2 hlen (by have := HSt.hL; simp; omega)
        obtain ⟨fn, tmps, assign, body, hy, hR⟩ := hYY
        dsimp only at hy
        have HR := hide hR
        clear hR
        have g1 := HSt.c1
        obtain ⟨g3, g4⟩ := HSt.row p hpn
        have g2 := S2.c2
        have hp0 : (0 : Int) ≤ p := by omega
        have hpn' : (p : Int) < n := by omega
        gi_wp2
        refine ⟨fun h => (by cases h), HR.mono ?_⟩
        rintro e W3 (⟨rfl, hJ3, hU3⟩ | ⟨rfl, hx3⟩)
        · have J3 := hide hJ3
          have S3 := hide (S2.upd hT hU3)
          clear hJ3 hU3
          gi_wp2
          go_ret
          rw [HLS.out]
          exact .inl ⟨rfl, by rw [← List.append_assoc]; exact J3, S3⟩
        · have X3 := hide hx3
          clear hx3
          gi_wp2
          go_ret
          rw [HLS.out]
          exact .inr ⟨rfl, _, List.prefix_rfl, by rw [← List.append_assoc]; exact X3⟩

end Go.Proofs.YtolpgafkojlkoabDoor.Vp
