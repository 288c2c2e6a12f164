import Derived.Test.YtkophfgkcijjkaaGreatDoorZR
import Derived.Deep.DeepCutAuto
namespace Go.Proofs.YtkophfgkcijjkaaGreatDoor.Vp
open Go.RowKit
theorem text_first {t : ByteArray} {n : Int} (ht : t.size ≤ 5000) {M : List I3} (hM : ∀ i ∈ M, i.2.1.length ≤ 5000) : ∀ i ∈ (1, t.data.toList, n) :: M, i.2.1.length ≤ 5000 := by
  intro i hi
  rcases List.mem_cons.1 hi with rfl | hi
  · show t.data.toList.length ≤ 5000
    rw [Array.length_toList]
    exact ht
  · exact hM i hi
structure VS (w : World) (R : Nat) (W : World) (q g c : Nat) (L : List I3) (n : Nat) : Prop where
  rd : Rd W R q
  o : Only R w W
  ir : IR W w.heap.size g c L
  tx : ∀ i ∈ L, i.2.1.length ≤ 5000
  lo : R < w.heap.size
  le : L.length ≤ n
section
variable {w W W' : World} {R q q' g c g' c' n : Nat} {L M : List I3}
theorem VS.only (h : VS w R W q g c L n) (hO : Only R W W') (hR : Rd W' R q') : VS w R W' q' g c L n := ⟨hR, h.o.trans hO, h.ir.only hO h.lo, h.tx, h.lo, h.le⟩
theorem VS.below (h : VS w R W q g c L n) (hB : Below W.heap.size W W') : VS w R W' q g c L n := h.only (Only.of_below hB) (h.rd.below hB (Nat.le_refl _))
theorem VS.low (h : VS w R W q g c L n) (hB : Below w.heap.size W W') (hI : IR W' w.heap.size g' c' M) (hM : ∀ i ∈ M, i.2.1.length ≤ 5000) : VS w R W' q g' c' M M.length := ⟨h.rd.low hB h.lo, h.o.then hB, hI, hM, h.lo, Nat.le_refl _⟩
theorem VS.join (h : VS w R W q g c L n) (hI : IR W' w.heap.size g' c' (L ++ M)) (hG : W.grownBy W' (some g)) (hM : ∀ i ∈ M, i.2.1.length ≤ 5000) : VS w R W' q g' c' (L ++ M) (L ++ M).length :=
  h.low (Below.grown (Below.refl w.heap.size W) hG h.o.size (fun k e => by have := h.ir.lt; simp at e; omega)) hI fun i hi => by
    rcases List.mem_append.1 hi with hi | hi
    · exact h.tx i hi
    · exact hM i hi
theorem VS.add (cs : Array Value) (h : VS w R W q g c L n) (hI : IR W' w.heap.size g' c' (L ++ M)) (hG : (W.alloc (.cells cs 176)).grownBy W' (some g)) (hM : ∀ i ∈ M, i.2.1.length ≤ 5000) : VS w R W' q g' c' (L ++ M) (L ++ M).length :=
  (h.below ((Below.refl _ _).alloc (Nat.le_refl _) _)).join hI hG hM
theorem VS.fin {m Q N : Nat} (h : VS w R W q g c L n) (hm : m = L.length) (hne : L ≠ []) (hn : L.length ≤ N) (hq : q ≤ Q) : DI w R Q N (.returned (.slice (some ⟨g, 0, none⟩) m c)) W :=
  ⟨L, g, c, by rw [hm], h.ir, hne, hn, h.tx, q, hq, h.rd, h.o⟩
end
set_option maxRecDepth 100000 in
set_option maxHeartbeats 8000000 in
theorem l1Value_c (dz : Int) (nb nc B C9 : Nat) (hd3 : dz ≤ 11) (hd0 : 0 ≤ dz) (hb : nb ≤ 44) (hB4 : 4 ≤ B) (hC14 : 14 ≤ C9) (hBs : 0 < dz → 3 * nb + 2 ≤ B ∧ 3 * nc + 14 ≤ C9 ∧ 4 ≤ nb) (hih : 0 < dz → ∀ (R p : Nat) (at_ : Int) (w : World), Rd w R p → p + nc ≤ 30000 → 0 ≤ at_ → at_ + (nb : Int) ≤ 10000 → Calls Tryz.prog 185 #[.pointer (some ⟨R, 0, none⟩), .int .i64 at_, .int .i64 (dz - 1)] w fun e w' => DI w R (p + nc) nb e w')
    (R p : Nat) (at_ : Int) (w : World) (hR : Rd w R p) (hp : p + C9 ≤ 30000) (ha0 : 0 ≤ at_) (ha1 : at_ + (B : Int) ≤ 10000) :
    Calls Tryz.prog 185 #[.pointer (some ⟨R, 0, none⟩), .int .i64 at_, .int .i64 dz] w fun e w' => DI w R (p + C9) B e w' := by
  have IH := hide hih
  have A0 := (Below.refl w.heap.size w).alloc (Nat.le_refl _) (.cells #[] 176)
  have C : Hid (VS w R (w.alloc (.cells #[] 176)) p w.heap.size 0 [] 0) := ⟨hR.below A0 (Nat.le_refl _), Only.of_below A0, IR.lit w, fun i hi => (by cases hi), hR.lt, Nat.le_refl _⟩
  clear A0 hR hih
  go_enter Tryz.func185, Tryz.ntmps185
  go_wp2_with fail
  generalize w.alloc (.cells #[] 176) = W0 at C ⊢
  refine (pick_any R _ 12 _ C.out.rd (by omega) (by omega) (by omega)).mono ?_
  rintro e Wx ⟨z, rfl, z0, z1, hR, hO⟩
  replace C := hide (C.out.only hO hR)
  clear hO hR
  go_upto_region 3 with fail
  go_cut [19] (fun sb wx => ∃ b1 : Bool, sb = .bool b1 ∧ (b1 = true → 6 < z) ∧ (b1 = false → 6 < z → 0 < dz) ∧ Hid (VS w R wx (p + 1) w.heap.size 0 [] 0))
  case first =>
    by_cases h2 : dz ≤ 0
    · by_cases h3 : 6 < z
      · go_wp2
        go_meet
        exact ⟨true, rfl, fun _ => h3, (fun h => by cases h), C.out⟩
      · go_wp2
        go_meet
        exact ⟨false, rfl, (fun h => by cases h), fun _ h => absurd h (by omega), C.out⟩
    · go_wp2
      go_meet
      exact ⟨false, rfl, (fun h => by cases h), fun _ _ => by omega, C.out⟩
  case rest =>
  clear C
  obtain ⟨b1, rfl, hb1, hb2, C⟩ := hcut
  go_upto_if 19 with fail
  go_cut [7, 8] (fun so sk wx => ∃ (g c q : Nat) (L : List I3) (k : Int), so = .slice (some ⟨g, 0, none⟩) L.length c ∧ sk = .int .i64 k ∧ 0 ≤ k ∧ k < 12 ∧ (6 < k → 0 < dz) ∧ q ≤ p + 1 ∧ Hid (VS w R wx q g c L 0))
  case first =>
    cases b1 with
    | true =>
      have h2 := hb1 rfl
      have hw : IntKind.i64.wrap (z - 6) = z - 6 := by rw [IntKind.wrap_i64]; omega
      go_wp2
      go_meet
      exact ⟨_, _, _, [], _, rfl, rfl, by omega, by omega, fun h => by omega, Nat.le_refl _, C.out⟩
    | false =>
      have hb3 := hide (hb2 rfl)
      go_wp2
      go_meet
      exact ⟨_, _, _, [], _, rfl, rfl, by omega, by omega, hb3.out, Nat.le_refl _, C.out⟩
  case rest =>
  clear C
  obtain ⟨g, c, q, L, k, rfl, rfl, hk0, hk1, hk6, hq, C⟩ := hcut
  have hL0 := C.out.le
  rcases (show (k = 0 ∨ k = 1) ∨ (k = 2 ∨ k = 3 ∨ k = 4) ∨ k = 5 ∨ k = 6 ∨ k = 7 ∨ k = 8 ∨ (k = 9 ∨ k = 10) ∨ k = 11 by omega) with hk | hk | rfl | rfl | rfl | rfl | hk | rfl
  · rcases hk with rfl | rfl
    all_goals
      go_wp2_with fail
      refine (l1Text_any R _ _ C.out.rd (by omega)).mono ?_
      rintro e Wx ⟨t, rfl, ht, q2, hq2, hR, hO⟩
      replace C := hide (C.out.only hO hR)
      clear hO hR
      go_wp2_with fail
      first | (with_reducible refine (l1Op_any _ _).mono ?_) | (with_reducible refine (l1OpN_any _ _ _).mono ?_) | (with_reducible refine (l1Lit_any _ _).mono ?_)
      rintro e Wx ⟨rfl, hB⟩
      replace C := hide (C.out.below hB)
      clear hB
      have X := hide (C.out.below ((Below.refl Wx.heap.size Wx).alloc (Nat.le_refl _) (.cells #[.int .i64 1, .string t, .int .i64 0] 176)))
      have ln := C.out.le
      go_wp2_with (at_builtin; refine wp_appI rfl (.tmp 26) (.tmp 30) rfl w.heap.size g c L (by simp [Act.eval]) X.out.ir ⟨Wx.heap.size, 0, none⟩ 1 1 [(1, t.data.toList, 0)] (by simp [Act.eval]) rfl (by simp) (new_cells Wx #[.int .i64 1, .string t, .int .i64 0] _) (by simp only [List.length_cons, List.length_nil]; omega) (by have := C.out.o.size; simp; omega) ?_)
      intro g1 c1 W1 hI hG
      replace C := hide (C.out.add _ hI hG (text_first (by omega) (by decide)))
      clear hI hG X
      go_wp2
      go_ret
      exact C.out.fin (by simp) (by simp) (by simp only [List.length_append, List.length_cons, List.length_nil]; omega) (by omega)
  · rcases hk with rfl | rfl | rfl
    all_goals
      go_wp2_with fail
      refine (l1Name_any R _ _ C.out.rd (by omega)).mono ?_
      rintro e Wx ⟨t, rfl, ht, hR, hO⟩
      replace C := hide (C.out.only hO hR)
      clear hO hR
      iterate 2
        go_wp2_with fail
        first | (with_reducible refine (l1Op_any _ _).mono ?_) | (with_reducible refine (l1OpN_any _ _ _).mono ?_) | (with_reducible refine (l1Lit_any _ _).mono ?_)
        rintro e Wx ⟨rfl, hB⟩
        replace C := hide (C.out.below hB)
        clear hB
      have X := hide (C.out.below ((Below.refl Wx.heap.size Wx).alloc (Nat.le_refl _) (.cells #[.int .i64 1, .string t, .int .i64 0, .int .i64 12, .string ⟨#[]⟩, .int .i64 0] 176)))
      have ln := C.out.le
      go_wp2_with (at_builtin; refine wp_appI rfl (.tmp 36) (.tmp 41) rfl w.heap.size g c L (by simp [Act.eval]) X.out.ir ⟨Wx.heap.size, 0, none⟩ 2 2 [(1, t.data.toList, 0), (12, [], 0)] (by simp [Act.eval]) rfl (by simp) (new_cells Wx #[.int .i64 1, .string t, .int .i64 0, .int .i64 12, .string ⟨#[]⟩, .int .i64 0] _) (by simp only [List.length_cons, List.length_nil]; omega) (by have := C.out.o.size; simp; omega) ?_)
      intro g1 c1 W1 hI hG
      replace C := hide (C.out.add _ hI hG (text_first (by omega) (by decide)))
      clear hI hG X
      go_wp2
      go_ret
      exact C.out.fin (by simp) (by simp) (by simp only [List.length_append, List.length_cons, List.length_nil]; omega) (by omega)
  · go_wp2_with fail
    refine (l1Name_any R _ _ C.out.rd (by omega)).mono ?_
    rintro e Wx ⟨t, rfl, ht, hR, hO⟩
    replace C := hide (C.out.only hO hR)
    clear hO hR
    iterate 2
      go_wp2_with fail
      first | (with_reducible refine (l1Op_any _ _).mono ?_) | (with_reducible refine (l1OpN_any _ _ _).mono ?_) | (with_reducible refine (l1Lit_any _ _).mono ?_)
      rintro e Wx ⟨rfl, hB⟩
      replace C := hide (C.out.below hB)
      clear hB
    go_wp2_with fail
    refine (pick_any R _ 3 _ C.out.rd (by omega) (by omega) (by omega)).mono ?_
    rintro e Wx ⟨y, rfl, y0, y1, hR, hO⟩
    replace C := hide (C.out.only hO hR)
    clear hO hR
    iterate 2
      go_wp2_with fail
      first | (with_reducible refine (l1Op_any _ _).mono ?_) | (with_reducible refine (l1OpN_any _ _ _).mono ?_) | (with_reducible refine (l1Lit_any _ _).mono ?_)
      rintro e Wx ⟨rfl, hB⟩
      replace C := hide (C.out.below hB)
      clear hB
    have X := hide (C.out.below ((Below.refl Wx.heap.size Wx).alloc (Nat.le_refl _) (.cells #[.int .i64 1, .string t, .int .i64 0, .int .i64 12, .string ⟨#[]⟩, .int .i64 0, .int .i64 5, .string ⟨#[]⟩, .int .i64 y, .int .i64 12, .string ⟨#[]⟩, .int .i64 0] 176)))
    have ln := C.out.le
    go_wp2_with (at_builtin; refine wp_appI rfl (.tmp 45) (.tmp 54) rfl w.heap.size g c L (by simp [Act.eval]) X.out.ir ⟨Wx.heap.size, 0, none⟩ 4 4 [(1, t.data.toList, 0), (12, [], 0), (5, [], y), (12, [], 0)] (by simp [Act.eval]) rfl (by simp) (new_cells Wx #[.int .i64 1, .string t, .int .i64 0, .int .i64 12, .string ⟨#[]⟩, .int .i64 0, .int .i64 5, .string ⟨#[]⟩, .int .i64 y, .int .i64 12, .string ⟨#[]⟩, .int .i64 0] _) (by simp only [List.length_cons, List.length_nil]; omega) (by have := C.out.o.size; simp; omega) ?_)
    intro g1 c1 W1 hI hG
    replace C := hide (C.out.add _ hI hG (text_first (by omega) (by intro i hi; simp only [List.mem_cons, List.not_mem_nil, or_false] at hi; rcases hi with rfl | rfl | rfl <;> exact Nat.zero_le _)))
    clear hI hG X
    go_wp2
    go_ret
    exact C.out.fin (by simp) (by simp) (by simp only [List.length_append, List.length_cons, List.length_nil]; omega) (by omega)
  · go_wp2_with fail
    refine (l1Name_any R _ _ C.out.rd (by omega)).mono ?_
    rintro e Wx ⟨t, rfl, ht, hR, hO⟩
    replace C := hide (C.out.only hO hR)
    clear hO hR
    iterate 2
      go_wp2_with fail
      first | (with_reducible refine (l1Op_any _ _).mono ?_) | (with_reducible refine (l1OpN_any _ _ _).mono ?_) | (with_reducible refine (l1Lit_any _ _).mono ?_)
      rintro e Wx ⟨rfl, hB⟩
      replace C := hide (C.out.below hB)
      clear hB
    have X := hide (C.out.below ((Below.refl Wx.heap.size Wx).alloc (Nat.le_refl _) (.cells #[.int .i64 1, .string t, .int .i64 0, .int .i64 13, .string ⟨#[]⟩, .int .i64 0] 176)))
    have ln := C.out.le
    go_wp2_with (at_builtin; refine wp_appI rfl (.tmp 58) (.tmp 63) rfl w.heap.size g c L (by simp [Act.eval]) X.out.ir ⟨Wx.heap.size, 0, none⟩ 2 2 [(1, t.data.toList, 0), (13, [], 0)] (by simp [Act.eval]) rfl (by simp) (new_cells Wx #[.int .i64 1, .string t, .int .i64 0, .int .i64 13, .string ⟨#[]⟩, .int .i64 0] _) (by simp only [List.length_cons, List.length_nil]; omega) (by have := C.out.o.size; simp; omega) ?_)
    intro g1 c1 W1 hI hG
    replace C := hide (C.out.add _ hI hG (text_first (by omega) (by decide)))
    clear hI hG X
    go_wp2
    go_ret
    exact C.out.fin (by simp) (by simp) (by simp only [List.length_append, List.length_cons, List.length_nil]; omega) (by omega)
  · have hz0 := hk6 (by omega)
    obtain ⟨hb1, hb2, hb3⟩ := hBs hz0
    go_wp2_with fail
    refine (IH.out hz0 R _ at_ _ C.out.rd (by omega) (by omega) (by omega)).mono ?_
    rintro e Wx ⟨M, gM, cM, rfl, hM, hMne, hMn, hMt, q1, hq1, hR, hO⟩
    replace C := hide (C.out.only hO hR)
    have J := hide hM
    have HMT := hide hMt
    have HMN := hide hMne
    clear hO hR hM hMt hMne
    have ln := C.out.le
    go_wp2_with (at_builtin; refine wp_appI rfl (.tmp 67) (.tmp 72) rfl w.heap.size g c L (by simp [Act.eval]) C.out.ir ⟨gM, 0, none⟩ M.length cM M (by simp [Act.eval]) rfl HMN.out J.out.news (by omega) C.out.o.size ?_)
    intro g1 c1 W1 hI hG
    replace C := hide (C.out.join hI hG HMT.out)
    clear hI hG J HMT
    generalize hL : L ++ M = L1 at C
    have hn1 : L.length + M.length = L1.length := by rw [← hL, List.length_append]
    rw [hn1]
    have b1 : L1.length ≤ L.length + nb := by omega
    have d1 : L.length < L1.length := by have := List.length_pos_iff.2 HMN.out; omega
    clear hL hn1 ln HMN hMn
    go_wp2_with fail
    refine (IH.out hz0 R _ (at_ + (L1.length : Int)) _ C.out.rd (by omega) (by omega) (by omega)).mono ?_
    rintro e Wx ⟨M, gM, cM, rfl, hM, hMne, hMn, hMt, q2, hq2, hR, hO⟩
    replace C := hide (C.out.only hO hR)
    have J := hide hM
    have HMT := hide hMt
    have HMN := hide hMne
    clear hO hR hM hMt hMne
    have ln := C.out.le
    go_wp2_with (at_builtin; refine wp_appI rfl (.tmp 74) (.tmp 82) rfl w.heap.size g1 c1 L1 (by simp [Act.eval]) C.out.ir ⟨gM, 0, none⟩ M.length cM M (by simp [Act.eval]) rfl HMN.out J.out.news (by omega) C.out.o.size ?_)
    intro g2 c2 W2 hI hG
    replace C := hide (C.out.join hI hG HMT.out)
    clear hI hG J HMT
    generalize hL : L1 ++ M = L2 at C
    have hn1 : L1.length + M.length = L2.length := by rw [← hL, List.length_append]
    rw [hn1]
    have b2 : L2.length ≤ L1.length + nb := by omega
    have d2 : L1.length < L2.length := by have := List.length_pos_iff.2 HMN.out; omega
    clear hL hn1 ln HMN hMn
    go_wp2_with fail
    refine (pick_any R _ 2 _ C.out.rd (by omega) (by omega) (by omega)).mono ?_
    rintro e Wx ⟨y, rfl, y0, y1, hR, hO⟩
    replace C := hide (C.out.only hO hR)
    clear hO hR
    go_wp2_with fail
    first | (with_reducible refine (l1Op_any _ _).mono ?_) | (with_reducible refine (l1OpN_any _ _ _).mono ?_) | (with_reducible refine (l1Lit_any _ _).mono ?_)
    rintro e Wx ⟨rfl, hB⟩
    replace C := hide (C.out.below hB)
    clear hB
    have X := hide (C.out.below ((Below.refl Wx.heap.size Wx).alloc (Nat.le_refl _) (.cells #[.int .i64 (2 + 4 * y), .string ⟨#[]⟩, .int .i64 0] 176)))
    have ln := C.out.le
    go_wp2_with (at_builtin; refine wp_appI rfl (.tmp 84) (.tmp 90) rfl w.heap.size g2 c2 L2 (by simp [Act.eval]) X.out.ir ⟨Wx.heap.size, 0, none⟩ 1 1 [((2 + 4 * y), [], 0)] (by simp [Act.eval]) rfl (by simp) (new_cells Wx #[.int .i64 (2 + 4 * y), .string ⟨#[]⟩, .int .i64 0] _) (by simp only [List.length_cons, List.length_nil]; omega) (by have := C.out.o.size; simp; omega) ?_)
    intro g3 c3 W3 hI hG
    replace C := hide (C.out.add _ hI hG (fun i hi => by rw [List.mem_singleton.1 hi]; exact Nat.zero_le _))
    clear hI hG X
    go_wp2
    go_ret
    exact C.out.fin (by simp) (by simp) (by simp only [List.length_append, List.length_cons, List.length_nil]; omega) (by omega)
  · have hz0 := hk6 (by omega)
    obtain ⟨hb1, hb2, hb3⟩ := hBs hz0
    go_wp2_with fail
    refine (IH.out hz0 R _ at_ _ C.out.rd (by omega) (by omega) (by omega)).mono ?_
    rintro e Wx ⟨M, gM, cM, rfl, hM, hMne, hMn, hMt, q1, hq1, hR, hO⟩
    replace C := hide (C.out.only hO hR)
    have J := hide hM
    have HMT := hide hMt
    have HMN := hide hMne
    clear hO hR hM hMt hMne
    have ln := C.out.le
    go_wp2_with (at_builtin; refine wp_appI rfl (.tmp 94) (.tmp 99) rfl w.heap.size g c L (by simp [Act.eval]) C.out.ir ⟨gM, 0, none⟩ M.length cM M (by simp [Act.eval]) rfl HMN.out J.out.news (by omega) C.out.o.size ?_)
    intro g1 c1 W1 hI hG
    replace C := hide (C.out.join hI hG HMT.out)
    clear hI hG J HMT
    generalize hL : L ++ M = L1 at C
    have hn1 : L.length + M.length = L1.length := by rw [← hL, List.length_append]
    rw [hn1]
    have b1 : L1.length ≤ L.length + nb := by omega
    have d1 : L.length < L1.length := by have := List.length_pos_iff.2 HMN.out; omega
    clear hL hn1 ln HMN hMn
    go_wp2_with fail
    refine (pick_any R _ 3 _ C.out.rd (by omega) (by omega) (by omega)).mono ?_
    rintro e Wx ⟨x, rfl, x0, x1, hR, hO⟩
    replace C := hide (C.out.only hO hR)
    clear hO hR
    go_wp2_with fail
    refine (pick_any R _ 4 _ C.out.rd (by omega) (by omega) (by omega)).mono ?_
    rintro e Wx ⟨y, rfl, y0, y1, hR, hO⟩
    replace C := hide (C.out.only hO hR)
    clear hO hR
    go_wp2_with fail
    first | (with_reducible refine (l1Op_any _ _).mono ?_) | (with_reducible refine (l1OpN_any _ _ _).mono ?_) | (with_reducible refine (l1Lit_any _ _).mono ?_)
    rintro e Wx ⟨rfl, hB⟩
    replace C := hide (C.out.below hB)
    clear hB
    have X := hide (C.out.below ((Below.refl Wx.heap.size Wx).alloc (Nat.le_refl _) (.cells #[.int .i64 (3 + x), .string ⟨#[]⟩, .int .i64 y] 176)))
    have ln := C.out.le
    go_wp2_with (at_builtin; refine wp_appI rfl (.tmp 101) (.tmp 108) rfl w.heap.size g1 c1 L1 (by simp [Act.eval]) X.out.ir ⟨Wx.heap.size, 0, none⟩ 1 1 [((3 + x), [], y)] (by simp [Act.eval]) rfl (by simp) (new_cells Wx #[.int .i64 (3 + x), .string ⟨#[]⟩, .int .i64 y] _) (by simp only [List.length_cons, List.length_nil]; omega) (by have := C.out.o.size; simp; omega) ?_)
    intro g2 c2 W2 hI hG
    replace C := hide (C.out.add _ hI hG (fun i hi => by rw [List.mem_singleton.1 hi]; exact Nat.zero_le _))
    clear hI hG X
    go_wp2
    go_ret
    exact C.out.fin (by simp) (by simp) (by simp only [List.length_append, List.length_cons, List.length_nil]; omega) (by omega)
  · rcases hk with rfl | rfl
    all_goals
      have hz0 := hk6 (by omega)
      obtain ⟨hb1, hb2, hb3⟩ := hBs hz0
      go_wp2_with fail
      refine (IH.out hz0 R _ at_ _ C.out.rd (by omega) (by omega) (by omega)).mono ?_
      rintro e Wx ⟨M, gM, cM, rfl, hM, hMne, hMn, hMt, q1, hq1, hR, hO⟩
      replace C := hide (C.out.only hO hR)
      have J := hide hM
      have HMT := hide hMt
      have HMN := hide hMne
      clear hO hR hM hMt hMne
      have ln := C.out.le
      go_wp2_with (at_builtin; refine wp_appI rfl (.tmp 113) (.tmp 118) rfl w.heap.size g c L (by simp [Act.eval]) C.out.ir ⟨gM, 0, none⟩ M.length cM M (by simp [Act.eval]) rfl HMN.out J.out.news (by omega) C.out.o.size ?_)
      intro g1 c1 W1 hI hG
      replace C := hide (C.out.join hI hG HMT.out)
      clear hI hG J HMT
      generalize hL : L ++ M = L1 at C
      have hn1 : L.length + M.length = L1.length := by rw [← hL, List.length_append]
      rw [hn1]
      have b1 : L1.length ≤ L.length + nb := by omega
      have d1 : L.length < L1.length := by have := List.length_pos_iff.2 HMN.out; omega
      clear hL hn1 ln HMN hMn
      go_wp2_with fail
      first | (with_reducible refine (l1Op_any _ _).mono ?_) | (with_reducible refine (l1OpN_any _ _ _).mono ?_) | (with_reducible refine (l1Lit_any _ _).mono ?_)
      rintro e Wx ⟨rfl, hB⟩
      replace C := hide (C.out.below hB)
      clear hB
      have X := hide (C.out.below ((Below.refl Wx.heap.size Wx).alloc (Nat.le_refl _) (.cells #[.int .i64 11, .string ⟨#[]⟩, .int .i64 0] 176)))
      have ln := C.out.le
      go_wp2_with (at_builtin; refine wp_appI rfl (.tmp 122) (.tmp 124) rfl w.heap.size g1 c1 L1 (by simp [Act.eval]) X.out.ir ⟨Wx.heap.size, 0, none⟩ 1 1 [(11, [], 0)] (by simp [Act.eval]) rfl (by simp) (new_cells Wx #[.int .i64 11, .string ⟨#[]⟩, .int .i64 0] _) (by simp only [List.length_cons, List.length_nil]; omega) (by have := C.out.o.size; simp; omega) ?_)
      intro g2 c2 W2 hI hG
      replace C := hide (C.out.add _ hI hG (fun i hi => by rw [List.mem_singleton.1 hi]; exact Nat.zero_le _))
      clear hI hG X
      generalize hL : L1 ++ [(11, [], 0)] = L2 at C
      have hn1 : L1.length + 1 = L2.length := by rw [← hL, List.length_append]; rfl
      rw [hn1]
      have b2 : L2.length ≤ L1.length + 1 := by omega
      have d2 : L1.length < L2.length := by omega
      clear hL hn1 ln
      go_wp2_with fail
      refine (IH.out hz0 R _ (at_ + (L2.length : Int)) _ C.out.rd (by omega) (by omega) (by omega)).mono ?_
      rintro e Wx ⟨M, gM, cM, rfl, hM, hMne, hMn, hMt, q3, hq3, hR, hO⟩
      replace C := hide (C.out.only hO hR)
      have J := hide hM
      have HMT := hide hMt
      have HMN := hide hMne
      clear hO hR hM hMt hMne
      have ln := C.out.le
      go_wp2_with (at_builtin; refine wp_appI rfl (.tmp 126) (.tmp 134) rfl w.heap.size g2 c2 L2 (by simp [Act.eval]) C.out.ir ⟨gM, 0, none⟩ M.length cM M (by simp [Act.eval]) rfl HMN.out J.out.news (by omega) C.out.o.size ?_)
      intro g3 c3 W3 hI hG
      replace C := hide (C.out.join hI hG HMT.out)
      clear hI hG J HMT
      generalize hL : L2 ++ M = L3 at C
      have hn1 : L2.length + M.length = L3.length := by rw [← hL, List.length_append]
      rw [hn1]
      have b3 : L3.length ≤ L2.length + nb := by omega
      have d3 : L2.length < L3.length := by have := List.length_pos_iff.2 HMN.out; omega
      clear hL hn1 ln HMN hMn
      go_wp2_with fail
      first | (with_reducible refine (l1Op_any _ _).mono ?_) | (with_reducible refine (l1OpN_any _ _ _).mono ?_) | (with_reducible refine (l1Lit_any _ _).mono ?_)
      rintro e Wx ⟨rfl, hB⟩
      replace C := hide (C.out.below hB)
      clear hB
      have X := hide (C.out.below ((Below.refl Wx.heap.size Wx).alloc (Nat.le_refl _) (.cells #[.int .i64 10, .string ⟨#[]⟩, .int .i64 0] 176)))
      have ln := C.out.le
      go_wp2_with (at_builtin; refine wp_appI rfl (.tmp 138) (.tmp 140) rfl w.heap.size g3 c3 L3 (by simp [Act.eval]) X.out.ir ⟨Wx.heap.size, 0, none⟩ 1 1 [(10, [], 0)] (by simp [Act.eval]) rfl (by simp) (new_cells Wx #[.int .i64 10, .string ⟨#[]⟩, .int .i64 0] _) (by simp only [List.length_cons, List.length_nil]; omega) (by have := C.out.o.size; simp; omega) ?_)
      intro g4 c4 W4 hI hG
      replace C := hide (C.out.add _ hI hG (fun i hi => by rw [List.mem_singleton.1 hi]; exact Nat.zero_le _))
      clear hI hG X
      generalize hL : L3 ++ [(10, [], 0)] = L4 at C
      have hn1 : L3.length + 1 = L4.length := by rw [← hL, List.length_append]; rfl
      rw [hn1]
      have b4 : L4.length ≤ L3.length + 1 := by omega
      have d4 : L3.length < L4.length := by omega
      clear hL hn1 ln
      obtain ⟨⟨n0, cn⟩, fz⟩ := C.out.ir.cellN (i := L1.length) (by omega)
      have il : (L1.length : Int) < (L4.length : Int) := by omega
      have gl := C.out.ir.lt.2
      go_wp2_with fail
      refine (l1Small_any _ _).mono ?_
      rintro e Wx ⟨rfl, hw⟩
      rw [hw]
      clear hw
      generalize (if 200 < at_ + (L4.length : Int) then 200 else at_ + (L4.length : Int)) = sv
      obtain ⟨L5, hlk, htk, hI⟩ := C.out.ir.setN (i := L1.length) (by omega) sv
      replace C := hide (C.out.low ((Below.refl w.heap.size W4).setCell (p := ⟨g4, L1.length * 3 + 2, none⟩) C.out.ir.lt.1 (.int .i64 sv)) hI (htk C.out.tx))
      go_upto_region 33 with fail
      generalize W4.setCell ⟨g4, L1.length * 3 + 2, none⟩ (.int .i64 sv) = W5 at C ⊢
      rw [← hlk]
      have b5 : L5.length ≤ L4.length := by omega
      have d5 : L4.length ≤ L5.length := by omega
      obtain ⟨g5, hg⟩ : ∃ x, x = g4 := ⟨_, rfl⟩
      obtain ⟨c5, hc⟩ : ∃ x, x = c4 := ⟨_, rfl⟩
      rw [← hg, ← hc]
      rw [← hg, ← hc] at C
      clear hlk htk hI cn fz gl il hg hc
      go_wp2_with fail
      refine (IH.out hz0 R _ (at_ + (L5.length : Int)) _ C.out.rd (by omega) (by omega) (by omega)).mono ?_
      rintro e Wx ⟨M, gM, cM, rfl, hM, hMne, hMn, hMt, q6, hq6, hR, hO⟩
      replace C := hide (C.out.only hO hR)
      have J := hide hM
      have HMT := hide hMt
      have HMN := hide hMne
      clear hO hR hM hMt hMne
      have ln := C.out.le
      go_wp2_with (at_builtin; refine wp_appI rfl (.tmp 151) (.tmp 159) rfl w.heap.size g5 c5 L5 (by simp [Act.eval]) C.out.ir ⟨gM, 0, none⟩ M.length cM M (by simp [Act.eval]) rfl HMN.out J.out.news (by omega) C.out.o.size ?_)
      intro g6 c6 W6 hI hG
      replace C := hide (C.out.join hI hG HMT.out)
      clear hI hG J HMT
      generalize hL : L5 ++ M = L6 at C
      have hn1 : L5.length + M.length = L6.length := by rw [← hL, List.length_append]
      rw [hn1]
      have b6 : L6.length ≤ L5.length + nb := by omega
      have d6 : L5.length < L6.length := by have := List.length_pos_iff.2 HMN.out; omega
      clear hL hn1 ln HMN hMn
      obtain ⟨⟨n0, cn⟩, fz⟩ := C.out.ir.cellN (i := L3.length) (by omega)
      have il : (L3.length : Int) < (L6.length : Int) := by omega
      have gl := C.out.ir.lt.2
      go_wp2_with fail
      refine (l1Small_any _ _).mono ?_
      rintro e Wx ⟨rfl, hw⟩
      rw [hw]
      clear hw
      generalize (if 200 < at_ + (L6.length : Int) then 200 else at_ + (L6.length : Int)) = sv
      obtain ⟨L7, hlk, htk, hI⟩ := C.out.ir.setN (i := L3.length) (by omega) sv
      replace C := hide (C.out.low ((Below.refl w.heap.size W6).setCell (p := ⟨g6, L3.length * 3 + 2, none⟩) C.out.ir.lt.1 (.int .i64 sv)) hI (htk C.out.tx))
      go_upto_region 35 with fail
      generalize W6.setCell ⟨g6, L3.length * 3 + 2, none⟩ (.int .i64 sv) = W7 at C ⊢
      rw [← hlk]
      have b7 : L7.length ≤ L6.length := by omega
      have d7 : L6.length ≤ L7.length := by omega
      obtain ⟨g7, hg⟩ : ∃ x, x = g6 := ⟨_, rfl⟩
      obtain ⟨c7, hc⟩ : ∃ x, x = c6 := ⟨_, rfl⟩
      rw [← hg, ← hc]
      rw [← hg, ← hc] at C
      clear hlk htk hI cn fz gl il hg hc
      go_wp2
      go_ret
      exact C.out.fin rfl (List.length_pos_iff.1 (by omega)) (by omega) (by omega)
  · go_wp2_with fail
    refine (l1Text_any R _ _ C.out.rd (by omega)).mono ?_
    rintro e Wx ⟨t, rfl, ht, q2, hq2, hR, hO⟩
    replace C := hide (C.out.only hO hR)
    clear hO hR
    iterate 4
      go_wp2_with fail
      first | (with_reducible refine (l1Op_any _ _).mono ?_) | (with_reducible refine (l1OpN_any _ _ _).mono ?_) | (with_reducible refine (l1Lit_any _ _).mono ?_)
      rintro e Wx ⟨rfl, hB⟩
      replace C := hide (C.out.below hB)
      clear hB
    have X := hide (C.out.below ((Below.refl Wx.heap.size Wx).alloc (Nat.le_refl _) (.cells #[.int .i64 1, .string t, .int .i64 0, .int .i64 7, .string ⟨#[]⟩, .int .i64 0, .int .i64 8, .string ⟨#[]⟩, .int .i64 0, .int .i64 9, .string ⟨#[]⟩, .int .i64 0] 176)))
    have ln := C.out.le
    go_wp2_with (at_builtin; refine wp_appI rfl (.tmp 171) (.tmp 178) rfl w.heap.size g c L (by simp [Act.eval]) X.out.ir ⟨Wx.heap.size, 0, none⟩ 4 4 [(1, t.data.toList, 0), (7, [], 0), (8, [], 0), (9, [], 0)] (by simp [Act.eval]) rfl (by simp) (new_cells Wx #[.int .i64 1, .string t, .int .i64 0, .int .i64 7, .string ⟨#[]⟩, .int .i64 0, .int .i64 8, .string ⟨#[]⟩, .int .i64 0, .int .i64 9, .string ⟨#[]⟩, .int .i64 0] _) (by simp only [List.length_cons, List.length_nil]; omega) (by have := C.out.o.size; simp; omega) ?_)
    intro g1 c1 W1 hI hG
    replace C := hide (C.out.add _ hI hG (text_first (by omega) (by decide)))
    clear hI hG X
    go_wp2
    go_ret
    exact C.out.fin (by simp) (by simp) (by simp only [List.length_append, List.length_cons, List.length_nil]; omega) (by omega)
theorem l1Value_0 (R p : Nat) (at_ : Int) (w : World) (hR : Rd w R p) (hp : p + 14 ≤ 30000) (h0 : 0 ≤ at_) (h1 : at_ + 4 ≤ 10000) :
    Calls Tryz.prog 185 #[.pointer (some ⟨R, 0, none⟩), .int .i64 at_, .int .i64 0] w fun e w' => DI w R (p + 14) 4 e w' :=
  l1Value_c 0 4 14 4 14 (by omega) (by omega) (by omega) (by omega) (by omega) (fun h => absurd h (by omega)) (fun h => absurd h (by omega)) R p at_ w hR hp h0 h1
theorem l1Value_s (d nb nc : Nat) (hd3 : (d : Int) ≤ 10) (hb : nb ≤ 44) (hb4 : 4 ≤ nb) (IH : ∀ (R p : Nat) (at_ : Int) (w : World), Rd w R p → p + nc ≤ 30000 → 0 ≤ at_ → at_ + (nb : Int) ≤ 10000 → Calls Tryz.prog 185 #[.pointer (some ⟨R, 0, none⟩), .int .i64 at_, .int .i64 d] w fun e w' => DI w R (p + nc) nb e w')
    (R p : Nat) (at_ : Int) (w : World) (hR : Rd w R p) (hp : p + (3 * nc + 14) ≤ 30000) (ha0 : 0 ≤ at_) (ha1 : at_ + ((3 * nb + 2 : Nat) : Int) ≤ 10000) :
    Calls Tryz.prog 185 #[.pointer (some ⟨R, 0, none⟩), .int .i64 at_, .int .i64 ((d : Int) + 1)] w fun e w' => DI w R (p + (3 * nc + 14)) (3 * nb + 2) e w' :=
  l1Value_c ((d : Int) + 1) nb nc (3 * nb + 2) (3 * nc + 14) (by omega) (by omega) hb (by omega) (by omega) (fun _ => ⟨Nat.le_refl _, Nat.le_refl _, hb4⟩) (fun _ => by rw [Int.add_sub_cancel]; exact IH) R p at_ w hR hp ha0 ha1
end Go.Proofs.YtkophfgkcijjkaaGreatDoor.Vp
namespace Go.Proofs.YtkophfgkcijjkaaGreatDoor.Vp
open Go.RowKit
def VD (nc nb : Nat) (d : Int) : Prop := ∀ (R p : Nat) (at_ : Int) (w : World), Rd w R p → p + nc ≤ 30000 → 0 ≤ at_ → at_ + (nb : Int) ≤ 10000 → Calls Tryz.prog 185 #[.pointer (some ⟨R, 0, none⟩), .int .i64 at_, .int .i64 d] w fun e w' => DI w R (p + nc) nb e w'
theorem vd0 : VD 14 4 ((0 : Nat) : Int) := fun R p at_ w hR hp h0 h1 => l1Value_0 R p at_ w hR hp h0 (by omega)
theorem vd1 : VD 56 14 ((1 : Nat) : Int) := fun R p at_ w hR hp h0 h1 => l1Value_s 0 4 14 (by omega) (by omega) (by omega) vd0 R p at_ w hR (by omega) h0 (by omega)
theorem vd2 : VD 182 44 ((2 : Nat) : Int) := fun R p at_ w hR hp h0 h1 => l1Value_s 1 14 56 (by omega) (by omega) (by omega) vd1 R p at_ w hR (by omega) h0 (by omega)
theorem vd3 : VD 560 134 ((3 : Nat) : Int) := fun R p at_ w hR hp h0 h1 => l1Value_s 2 44 182 (by omega) (by omega) (by omega) vd2 R p at_ w hR (by omega) h0 (by omega)
theorem DI.mono {w w' : World} {R q q' n n' : Nat} {e : Ending} (h : DI w R q n e w') (hq : q ≤ q') (hn : n ≤ n') : DI w R q' n' e w' := by
  obtain ⟨L, g, c, h1, h2, h3, h4, h5, p, h6, h7⟩ := h
  exact ⟨L, g, c, h1, h2, h3, Nat.le_trans h4 hn, h5, p, Nat.le_trans h6 hq, h7⟩
theorem l1Value_any (R p : Nat) (z : Int) (hz : z = 0 ∨ z = 1) (w : World) (hR : Rd w R p) (hp : p ≤ 29000) :
    Calls Tryz.prog 185 #[.pointer (some ⟨R, 0, none⟩), .int .i64 0, .int .i64 (2 + z)] w fun e w' => DI w R (p + 560) 134 e w' := by
  rcases hz with rfl | rfl
  · exact (vd2 R p 0 w hR (by omega) (by omega) (by omega)).mono fun e w' h => h.mono (by omega) (by omega)
  · exact vd3 R p 0 w hR (by omega) (by omega) (by omega)
end Go.Proofs.YtkophfgkcijjkaaGreatDoor.Vp
namespace Go.Proofs.YtkophfgkcijjkaaGreatDoor.Vp
open Go.RowKit
def ST (w : World) (R rb : Nat) (W : World) (q : Nat) : Prop := Rd W R q ∧ Only R w W ∧ PB W rb (.slice none 0 0) ∧ R < w.heap.size ∧ w.heap.size ≤ rb
def SC (w : World) (R rb : Nat) (W : World) (q g c : Nat) (L : List I3) (n : Nat) : Prop := ST w R rb W q ∧ IR W (rb + 1) g c L ∧ L.length ≤ n ∧ ∀ i ∈ L, i.2.1.length ≤ 5000
theorem ST.rd {w W : World} {R rb q : Nat} (h : ST w R rb W q) : Rd W R q := h.1
theorem ST.lt {w W : World} {R rb q : Nat} (h : ST w R rb W q) : rb < W.heap.size := h.2.2.1.lt
theorem ST.low {w W W' : World} {R rb q : Nat} (h : ST w R rb W q) (hb : Below (rb + 1) W W') : ST w R rb W' q := by
  obtain ⟨h1, h2, h3, h4, h5⟩ := h
  exact ⟨h1.low hb (by omega), h2.then (hb.mono (by omega)), h3.below hb (by omega), h4, h5⟩
theorem ST.below {w W W' : World} {R rb q : Nat} (h : ST w R rb W q) (hb : Below W.heap.size W W') : ST w R rb W' q := h.low (hb.mono h.lt)
theorem PB.only {w w' : World} {b R : Nat} {v : Value} (h : PB w b v) (ho : Only R w w') (hR : b ≠ R) : PB w' b v := (ho.block b h.lt hR).trans h
theorem ST.only {w W W' : World} {R rb q q' : Nat} (h : ST w R rb W q) (ho : Only R W W') (hR : Rd W' R q') : ST w R rb W' q' := by
  obtain ⟨h1, h2, h3, h4, h5⟩ := h
  exact ⟨hR, h2.trans ho, h3.only ho (by omega), h4, h5⟩
theorem ST.new {w : World} {R q : Nat} (h : Rd w R q) : ST w R w.heap.size (w.alloc (.cells #[.slice none 0 0] 31)) q := by
  have A0 := (Below.refl w.heap.size w).alloc (Nat.le_refl _) (.cells #[.slice none 0 0] 31)
  exact ⟨h.below A0 (Nat.le_refl _), Only.of_below A0, heap_alloc_new w _, h.lt, Nat.le_refl _⟩
theorem SC.st {w W : World} {R rb q g c n : Nat} {L : List I3} (h : SC w R rb W q g c L n) : ST w R rb W q := h.1
theorem SC.ir {w W : World} {R rb q g c n : Nat} {L : List I3} (h : SC w R rb W q g c L n) : IR W (rb + 1) g c L := h.2.1
theorem SC.len {w W : World} {R rb q g c n : Nat} {L : List I3} (h : SC w R rb W q g c L n) : L.length ≤ n := h.2.2.1
theorem SC.up {w W : World} {R rb q g c n m : Nat} {L : List I3} (h : SC w R rb W q g c L n) (hm : n ≤ m) : SC w R rb W q g c L m := ⟨h.1, h.2.1, Nat.le_trans h.2.2.1 hm, h.2.2.2⟩
theorem SC.below {w W W' : World} {R rb q g c n : Nat} {L : List I3} (h : SC w R rb W q g c L n) (hb : Below W.heap.size W W') : SC w R rb W' q g c L n :=
  ⟨h.1.below hb, h.2.1.below hb (Nat.le_refl _), h.2.2⟩
theorem SC.only {w W W' : World} {R rb q q' g c n : Nat} {L : List I3} (h : SC w R rb W q g c L n) (ho : Only R W W') (hR : Rd W' R q') : SC w R rb W' q' g c L n :=
  ⟨h.1.only ho hR, h.2.1.only ho (by have := h.1.2.2.2; omega), h.2.2⟩
theorem SC.di {w W W' : World} {R rb q q' g c n : Nat} {L : List I3} (h : ST w R rb W q) (hI : IR W' W.heap.size g c L) (hn : L.length ≤ n) (hT : ∀ i ∈ L, i.2.1.length ≤ 5000) (ho : Only R W W') (hR : Rd W' R q') : SC w R rb W' q' g c L n :=
  ⟨h.only ho hR, own_mono hI h.lt, hn, hT⟩
theorem SC.app {w W W' : World} {R rb q g c g' c' n n' : Nat} {L M : List I3} (cs : Array Value) (h : SC w R rb W q g c L n) (hI : IR W' (rb + 1) g' c' (L ++ M)) (hG : (W.alloc (.cells cs 176)).grownBy W' (some g)) (hn : n + M.length ≤ n') (hT : ∀ i ∈ M, i.2.1.length ≤ 5000) : SC w R rb W' q g' c' (L ++ M) n' := by
  have hl := h.1.lt
  have BG := Below.grown ((Below.refl (rb + 1) W).alloc hl (.cells cs 176)) hG (by simp; omega) (fun k e => by have := h.2.1.lt; simp at e; omega)
  refine ⟨h.1.low BG, hI, by rw [List.length_append]; have := h.len; omega, fun i hi => ?_⟩
  rcases List.mem_append.1 hi with hi | hi
  · exact h.2.2.2 i hi
  · exact hT i hi
theorem IR.new (W : World) (base : Nat) (hb : base ≤ W.heap.size) (L : List I3) (cs : Array Value) (hc : cs.toList = i3L L) (n : Nat) (hn : n = L.length) (hm : n ≤ 100000) : IR (W.alloc (.cells cs 176)) base W.heap.size n L := by
  subst hn
  have hz : cs.size = L.length * 3 := by rw [← i3L_len, ← hc, Array.length_toList]
  refine ⟨i3L_len L, .inr ⟨W.heap.size, L.length, cs, rfl, hb, heap_alloc_new W _, Nat.le_refl _, by unfold maxLen; omega, hz, ?_⟩⟩
  rw [hc, List.take_of_length_le (by rw [i3L_len]; omega)]
theorem SC.lit {w W : World} {R rb q : Nat} (h : ST w R rb W q) (L : List I3) (cs : Array Value) (hc : cs.toList = i3L L) (n : Nat) (hn : n = L.length) (hm : n ≤ 100000) (hT : ∀ i ∈ L, i.2.1.length ≤ 5000) : SC w R rb (W.alloc (.cells cs 176)) q W.heap.size n L n :=
  ⟨h.below ((Below.refl _ _).alloc (Nat.le_refl _) _), IR.new W (rb + 1) h.lt L cs hc n hn hm, by omega, hT⟩
theorem SC.fin {w W : World} {R rb q g c n : Nat} {L : List I3} (h : SC w R rb W q g c L n) (v : Value) : PB (W.setCell ⟨rb, 0, none⟩ v) rb v ∧ IR (W.setCell ⟨rb, 0, none⟩ v) w.heap.size g c L ∧ L.length ≤ n ∧ (∀ i ∈ L, i.2.1.length ≤ 5000) ∧ Rd (W.setCell ⟨rb, 0, none⟩ v) R q ∧ Only R w (W.setCell ⟨rb, 0, none⟩ v) := by
  obtain ⟨⟨h1, h2, h3, h4, h5⟩, h6, h7, h8⟩ := h
  have B := (Below.refl w.heap.size W).setCell (p := ⟨rb, 0, none⟩) h5 v
  exact ⟨h3.set v, own_mono (own_setP h6 (by omega) v) (by omega), h7, h8, h1.low B h4, h2.then B⟩
def DP (w : World) (R q lo n : Nat) (e : Ending) (w' : World) : Prop := ∃ (L : List I3) (g c : Nat), e = .returned (.agg #[.slice (some ⟨g, 0, none⟩) L.length c]) ∧ IR w' w.heap.size g c L ∧ lo ≤ L.length ∧ L.length ≤ n ∧ (∀ i ∈ L, i.2.1.length ≤ 5000) ∧ ∃ q' : Nat, q' ≤ q ∧ Rd w' R q' ∧ Only R w w'
theorem res_prog1 {fn : Func} {p : Tmp} (h : fn.results = #[.cell p 31]) (tmps : Array Value) (w : World) (g : Nat) (v : Value) (hp : tmps.getD p undef = .pointer (some ⟨g, 0, none⟩)) (hC : PB w g v) :
    (results fn tmps).run Tryz.prog w = .ok (.agg #[v]) w :=
  results_cell_row h tmps w g 31 #[v] (0, 0) _ hp hC Tryz.underlying31 rfl sizeProgram
def insA (L : List I3) (i : Nat) : Ins := ⟨(L.getD i (0, [], 0)).1, ⟨(L.getD i (0, [], 0)).2.1.toArray⟩, (L.getD i (0, [], 0)).2.2⟩
theorem i3L_at : ∀ (L : List I3) (i : Nat), i < L.length → (i3L L)[i * 3]? = some (.int .i64 (insA L i).op) ∧ (i3L L)[i * 3 + 1]? = some (.string (insA L i).s) ∧ (i3L L)[i * 3 + 2]? = some (.int .i64 (insA L i).n)
  | [], i, h => by simp at h
  | x :: L, 0, _ => ⟨rfl, rfl, rfl⟩
  | x :: L, i + 1, h => by
    have ih := i3L_at L i (by simpa using h)
    have hl : (i3V x).length = 3 := rfl
    have e : ∀ k, (i3L (x :: L))[(i + 1) * 3 + k]? = (i3L L)[i * 3 + k]? := fun k => by
      show (i3V x ++ i3L L)[(i + 1) * 3 + k]? = _
      rw [List.getElem?_append_right (by rw [hl]; omega), hl, show (i + 1) * 3 + k - 3 = i * 3 + k by omega]
    have e0 := e 0
    rw [Nat.add_zero, Nat.add_zero] at e0
    rw [e0, e 1, e 2]
    exact ih
theorem IR.at {w : World} {base g c : Nat} {L : List I3} (h : IR w base g c L) : ∀ i, i < L.length → AtIns w g 0 i (insA L i) := by
  intro i hi
  obtain ⟨h0, h1, h2⟩ := i3L_at L i hi
  have c0 := h.news _ _ h0
  have c1 := h.news _ _ h1
  have c2 := h.news _ _ h2
  rw [addr_addF] at c0 c1 c2
  exact ⟨c0, c1, c2⟩
theorem fI_size {L : List I3} (hT : ∀ i ∈ L, i.2.1.length ≤ 5000) : ∀ i, i < L.length → (insA L i).s.size ≤ maxLen := by
  intro i hi
  have h := hT L[i] (List.getElem_mem hi)
  have e : L.getD i (0, [], 0) = L[i] := by simp [hi]
  show (L.getD i (0, [], 0)).2.1.toArray.size ≤ maxLen
  rw [e, List.size_toArray]
  unfold maxLen
  omega
end Go.Proofs.YtkophfgkcijjkaaGreatDoor.Vp
namespace Go.Proofs.YtkophfgkcijjkaaGreatDoor.Vp
open Go.RowKit
theorem i3L_set3 : ∀ (L : List I3) (i : Nat) (y : I3) (j : Nat) (v : Value), j < 3 → i < L.length → i3V y = (i3V (L.getD i (0, [], 0))).set j v → i3L (L.set i y) = (i3L L).set (i * 3 + j) v
  | [], i, y, j, v, _, h, _ => by simp at h
  | x :: L, 0, y, j, v, hj, _, e => by
    show i3V y ++ i3L L = (i3V x ++ i3L L).set (0 * 3 + j) v
    rw [List.set_append_left _ _ (by show 0 * 3 + j < 3; omega), Nat.zero_mul, Nat.zero_add]
    rw [show i3V y = (i3V x).set j v from e]
  | x :: L, i + 1, y, j, v, hj, h, e => by
    have ih := i3L_set3 L i y j v hj (by simpa using h) e
    have hl : (i3V x).length = 3 := rfl
    show i3V x ++ i3L (L.set i y) = (i3V x ++ i3L L).set ((i + 1) * 3 + j) v
    rw [ih, List.set_append_right _ _ (by rw [hl]; omega), hl, show (i + 1) * 3 + j - 3 = i * 3 + j by omega]
theorem IR.set3 {w : World} {base g c : Nat} {L : List I3} (h : IR w base g c L) {i j : Nat} (hi : i < L.length) (hj : j < 3) (y : I3) (v : Value) (e : i3V y = (i3V (L.getD i (0, [], 0))).set j v) : IR (w.setCell ⟨g, i * 3 + j, none⟩ v) base g c (L.set i y) := by
  unfold IR
  rw [List.length_set, i3L_set3 L i y j v hj hi e]
  refine ⟨by rw [List.length_set]; exact h.1, ?_⟩
  rcases h.2 with ⟨hv, h0⟩ | ⟨g', cap, cur, hv, hb, hg, h1, h2, h3, h4⟩
  · simp at hv
  · simp only [Value.slice.injEq, Option.some.injEq, Addr.mk.injEq] at hv
    obtain ⟨⟨rfl, -⟩, -, rfl⟩ := hv
    refine .inr ⟨g, c, cur.setIfInBounds (i * 3 + j) v, rfl, hb, ?_, h1, h2, by simpa using h3, ?_⟩
    · simp [World.setCell, Array.getElem?_modify, hg]
    · rw [Array.toList_setIfInBounds, List.take_set, h4]
theorem IR.take {w : World} {base g c : Nat} {L : List I3} (h : IR w base g c L) (k : Nat) (hk : k ≤ L.length) : IR w base g c (L.take k) := by
  have e : i3L (L.take k) = (i3L L).take (k * 3) := by
    have h1 : i3L L = i3L (L.take k) ++ i3L (L.drop k) := by rw [← i3L_app, List.take_append_drop]
    have h2 : (i3L (L.take k)).length = k * 3 := by rw [i3L_len, List.length_take, Nat.min_eq_left hk]
    rw [h1, ← h2, List.take_left']
    rfl
  have hl : (L.take k).length = k := by rw [List.length_take, Nat.min_eq_left hk]
  unfold IR
  rw [e, hl]
  refine ⟨by rw [List.length_take, h.1, Nat.min_eq_left (by omega)], ?_⟩
  rcases h.2 with ⟨hv, h0⟩ | ⟨g', cap, cur, hv, hb, hg, h1, h2, h3, h4⟩
  · simp at hv
  · simp only [Value.slice.injEq, Option.some.injEq, Addr.mk.injEq] at hv
    obtain ⟨⟨rfl, -⟩, -, rfl⟩ := hv
    refine .inr ⟨g, c, cur, rfl, hb, hg, by omega, h2, h3, ?_⟩
    rw [← h4, List.take_take, Nat.min_eq_left (by omega)]
theorem IR.fz {w : World} {base g c : Nat} {L : List I3} (h : IR w base g c L) (j : Nat) : w.frozen? ⟨g, j, none⟩ = false := by
  rcases h.2 with ⟨hv, _⟩ | ⟨g', cap, cur, hv, _, hg, _⟩
  · simp at hv
  · simp only [Value.slice.injEq, Option.some.injEq, Addr.mk.injEq] at hv
    obtain ⟨⟨rfl, -⟩, -, rfl⟩ := hv
    exact Lib.frozen_of_heap hg _
theorem SC.set3 {w W : World} {R rb q g c n : Nat} {L : List I3} (h : SC w R rb W q g c L n) {i j : Nat} (hi : i < L.length) (hj : j < 3) (y : I3) (v : Value) (e : i3V y = (i3V (L.getD i (0, [], 0))).set j v) (hy : y.2.1.length ≤ 5000) : SC w R rb (W.setCell ⟨g, i * 3 + j, none⟩ v) q g c (L.set i y) n := by
  have B := (Below.refl (rb + 1) W).setCell (p := ⟨g, i * 3 + j, none⟩) h.ir.lt.1 v
  refine ⟨h.1.low B, h.ir.set3 hi hj y v e, by rw [List.length_set]; exact h.len, fun x hx => ?_⟩
  rcases List.mem_or_eq_of_mem_set hx with h1 | h1
  · exact h.2.2.2 x h1
  · rw [h1]; exact hy
theorem SC.take {w W : World} {R rb q g c n : Nat} {L : List I3} (h : SC w R rb W q g c L n) (k : Nat) (hk : k ≤ L.length) : SC w R rb W q g c (L.take k) n :=
  ⟨h.1, h.ir.take k hk, by rw [List.length_take]; have := h.len; omega, fun i hi => h.2.2.2 i (List.mem_of_mem_take hi)⟩
theorem SC.app0 {w W W' : World} {R rb q g c g' c' n n' : Nat} {L M : List I3} (h : SC w R rb W q g c L n) (hI : IR W' (rb + 1) g' c' (L ++ M)) (hG : W.grownBy W' (some g)) (hn : L.length + M.length ≤ n') (hT : ∀ i ∈ M, i.2.1.length ≤ 5000) : SC w R rb W' q g' c' (L ++ M) n' := by
  have hl := h.1.lt
  have BG := Below.grown (Below.refl (rb + 1) W) hG (by omega) (fun k e => by have := h.2.1.lt; simp at e; omega)
  refine ⟨h.1.low BG, hI, by rw [List.length_append]; omega, fun i hi => ?_⟩
  rcases List.mem_append.1 hi with hi | hi
  · exact h.2.2.2 i hi
  · exact hT i hi
theorem SC.mono {w W : World} {R rb q g c n n' : Nat} {L : List I3} (h : SC w R rb W q g c L n) (hn : L.length ≤ n') : SC w R rb W q g c L n' := ⟨h.1, h.2.1, hn, h.2.2.2⟩
theorem SC.text {w W : World} {R rb q g c n : Nat} {L : List I3} (h : SC w R rb W q g c L n) (i : Nat) (hi : i < L.length) : (L.getD i (0, [], 0)).2.1.length ≤ 5000 := by
  have e : L.getD i (0, [], 0) = L[i] := by simp [hi]
  rw [e]
  exact h.2.2.2 _ (List.getElem_mem hi)
theorem spoil_new {w : World} {R q : Nat} (h : Rd w R q) (v : Value) : SC w R (w.heap.size + 1) (((w.alloc (.cells #[v] 31)).alloc (.cells #[.slice none 0 0] 31)).alloc (.cells #[] 176)) q (w.heap.size + 2) 0 [] 0 := by
  have A0 := (Below.refl w.heap.size w).alloc (Nat.le_refl _) (.cells #[v] 31)
  have A1 := A0.alloc A0.size (.cells #[.slice none 0 0] 31)
  have A2 := A1.alloc A1.size (.cells #[] 176)
  have hz : ((w.alloc (.cells #[v] 31)).alloc (.cells #[.slice none 0 0] 31)).heap.size = w.heap.size + 2 := by simp
  have I := IR.lit ((w.alloc (.cells #[v] 31)).alloc (.cells #[.slice none 0 0] 31))
  rw [hz] at I
  refine ⟨⟨h.below A2 (Nat.le_refl _), Only.of_below A2, ?_, h.lt, by omega⟩, I, Nat.le_refl _, fun i hi => by cases hi⟩
  show _ = _
  rw [heap_alloc_old _ _ (by simp)]
  exact heap_alloc2_new w _ _
end Go.Proofs.YtkophfgkcijjkaaGreatDoor.Vp
namespace Go.Proofs.YtkophfgkcijjkaaGreatDoor.Vp
open Go.RowKit
set_option maxRecDepth 100000 in
set_option maxHeartbeats 4000000 in
theorem l1Spoil_cells (R p g c : Nat) (L : List I3) (w : World) (hR : Rd w R p) (hp : p ≤ 20000) (hgl : g < w.heap.size) (hN : ∀ j u, (i3L L)[j]? = some u → w.cell? ((⟨g, 0, none⟩ : Addr).add j) = some u) (hn : L.length ≤ 200) (hne : L ≠ []) (hT : ∀ i ∈ L, i.2.1.length ≤ 5000) :
    Calls Tryz.prog 131 #[.pointer (some ⟨R, 0, none⟩), .agg #[.slice (some ⟨g, 0, none⟩) L.length c]] w fun e w' => DP w R (p + 1000) 0 201 e w' := by
  have A2 := (((Below.refl w.heap.size w).alloc (Nat.le_refl _) (.cells #[.slice (some ⟨g, 0, none⟩) L.length c] 31)).alloc (by simp) (.cells #[.slice none 0 0] 31)).alloc (by simp; omega) (.cells #[] 176)
  have C0 := hide (spoil_new hR (.slice (some ⟨g, 0, none⟩) L.length c))
  have N0 := hide (fun (j : Nat) (u : Value) (hu : (i3L L)[j]? = some u) => (A2.cell (p := (⟨g, 0, none⟩ : Addr).add j) (by rw [addr_addF]; exact hgl)).trans (hN j u hu))
  have HT := hide hT
  have hl : 0 < L.length := List.length_pos_iff.2 hne
  clear A2 hR hN hT hgl
  go_enter Tryz.func131, Tryz.ntmps131
  go_wp2_with (at_builtin; refine wp_appI rfl (.tmp 7) (.tmp 9) rfl (w.heap.size + 2) (w.heap.size + 2) 0 [] (by simp [Act.eval]) C0.out.ir ⟨g, 0, none⟩ L.length c L (by simp [Act.eval]) rfl hne N0.out (by simp only [List.length_nil]; omega) (by simp) ?_)
  intro g1 c1 W1 hI hG
  have C1 := hide (C0.out.app0 (n' := 200) hI hG (by simp only [List.length_nil]; omega) HT.out)
  rw [List.nil_append] at C1
  clear hI hG C0 N0 HT hne
  go_wp2_with fail
  refine (pick_any R _ (L.length : Int) _ C1.out.st.rd (by omega) (by omega) (by omega)).mono ?_
  rintro e W2 ⟨z, rfl, z0, z1, hR, hO⟩
  obtain ⟨k, rfl⟩ : ∃ k : Nat, z = (k : Int) := ⟨z.toNat, by omega⟩
  have C2 := hide (C1.out.only hO hR)
  have hk : k < L.length := by omega
  have nz : ¬ ((L.length : Int) = 0) := by omega
  clear hO hR C1
  go_wp2_with fail
  refine (pick_any R _ 7 _ C2.out.st.rd (by omega) (by omega) (by omega)).mono ?_
  rintro e W3 ⟨s, rfl, s0, s1, hR, hO⟩
  have C3 := hide (C2.out.only hO hR)
  clear hO hR C2
  rcases (show s = 0 ∨ s = 1 ∨ s = 2 ∨ s = 3 ∨ s = 4 ∨ s = 5 ∨ s = 6 by omega) with rfl | rfl | rfl | rfl | rfl | rfl | rfl
  · go_wp2_with fail
    refine (pick_any R _ 18 _ C3.out.st.rd (by omega) (by omega) (by omega)).mono ?_
    rintro e W4 ⟨y, rfl, y0, y1, hR, hO⟩
    have C4 := hide (C3.out.only hO hR)
    clear hO hR C3
    obtain ⟨x0, x1, x2⟩ := C4.out.ir.at k hk
    rw [Nat.zero_add] at x0 x1 x2
    have fz0 := C4.out.ir.fz (k * 3)
    have fz1 := C4.out.ir.fz (k * 3 + 1)
    have fz2 := C4.out.ir.fz (k * 3 + 2)
    have gl := C4.out.ir.lt.2
    have C5 : Hid (SC w R (w.heap.size + 1) (W4.setCell ⟨g1, k * 3, none⟩ (.int .i64 (y - 1))) _ g1 c1 (L.set k (y - 1, (L.getD k (0, [], 0)).2.1, (L.getD k (0, [], 0)).2.2)) 200) := C4.out.set3 (j := 0) hk (by omega) (y - 1, (L.getD k (0, [], 0)).2.1, (L.getD k (0, [], 0)).2.2) (.int .i64 (y - 1)) rfl (C4.out.text k hk)
    go_upto_region 20 with fail
    generalize W4.setCell ⟨g1, k * 3, none⟩ (.int .i64 (y - 1)) = W5 at C5 ⊢
    obtain ⟨L', hL⟩ : ∃ L', L' = L.set k (y - 1, (L.getD k (0, [], 0)).2.1, (L.getD k (0, [], 0)).2.2) := ⟨_, rfl⟩
    have lq : L'.length = L.length := by rw [hL, List.length_set]
    rw [← hL] at C5
    clear hL x0 x1 x2 fz0 fz1 fz2 gl C4
    have pb := C5.out.st.2.2.1
    have zl := pb.lt
    have d0 := pb.c0
    have d1 := pb.fz 0
    have fin := hide (C5.out.fin (.slice (some ⟨g1, 0, none⟩) L.length c1))
    clear pb
    go_wp2
    obtain ⟨f1, f2, f3, f4, f5, f6⟩ := fin.out
    try simp only [Exit.inBlock, Exit.then]
    refine bodyPost_ret (res_prog1 rfl _ _ (w.heap.size + 1) _ rfl f1) rfl ?_
    exact ⟨L', g1, c1, by rw [lq], f2, by omega, by omega, f4, _, by omega, f5, f6⟩
  · obtain ⟨x0, x1, x2⟩ := C3.out.ir.at k hk
    rw [Nat.zero_add] at x0 x1 x2
    have fz0 := C3.out.ir.fz (k * 3)
    have fz1 := C3.out.ir.fz (k * 3 + 1)
    have fz2 := C3.out.ir.fz (k * 3 + 2)
    have gl := C3.out.ir.lt.2
    have C4 : Hid (SC w R (w.heap.size + 1) (W3.setCell ⟨g1, k * 3 + 2, none⟩ (.int .i64 (wrap64 ((insA L k).n + 1)))) _ g1 c1 (L.set k ((L.getD k (0, [], 0)).1, (L.getD k (0, [], 0)).2.1, (wrap64 ((insA L k).n + 1)))) 200) := C3.out.set3 (j := 2) hk (by omega) ((L.getD k (0, [], 0)).1, (L.getD k (0, [], 0)).2.1, (wrap64 ((insA L k).n + 1))) (.int .i64 (wrap64 ((insA L k).n + 1))) rfl (C3.out.text k hk)
    go_upto_region 20 with fail
    generalize W3.setCell ⟨g1, k * 3 + 2, none⟩ (.int .i64 (wrap64 ((insA L k).n + 1))) = W4 at C4 ⊢
    obtain ⟨L', hL⟩ : ∃ L', L' = L.set k ((L.getD k (0, [], 0)).1, (L.getD k (0, [], 0)).2.1, (wrap64 ((insA L k).n + 1))) := ⟨_, rfl⟩
    have lq : L'.length = L.length := by rw [hL, List.length_set]
    rw [← hL] at C4
    clear hL x0 x1 x2 fz0 fz1 fz2 gl C3
    have pb := C4.out.st.2.2.1
    have zl := pb.lt
    have d0 := pb.c0
    have d1 := pb.fz 0
    have fin := hide (C4.out.fin (.slice (some ⟨g1, 0, none⟩) L.length c1))
    clear pb
    go_wp2
    obtain ⟨f1, f2, f3, f4, f5, f6⟩ := fin.out
    try simp only [Exit.inBlock, Exit.then]
    refine bodyPost_ret (res_prog1 rfl _ _ (w.heap.size + 1) _ rfl f1) rfl ?_
    exact ⟨L', g1, c1, by rw [lq], f2, by omega, by omega, f4, _, by omega, f5, f6⟩
  · have C3' := hide (C3.out.below ((Below.refl W3.heap.size W3).alloc (Nat.le_refl _) (.cells #[.int .i64 (-1), .int .i64 2000, .int .i64 2001, .int .i64 200, .int .i64 201, .int .i64 1000000007] 3)))
    have sz3 := C3'.out.st.lt
    have v0 : ∀ j u, (#[.int .i64 (-1), .int .i64 2000, .int .i64 2001, .int .i64 200, .int .i64 201, .int .i64 1000000007] : Array Value)[j]? = some u → (W3.alloc (.cells #[.int .i64 (-1), .int .i64 2000, .int .i64 2001, .int .i64 200, .int .i64 201, .int .i64 1000000007] 3)).cell? ⟨W3.heap.size, j, none⟩ = some u := fun j u hu => box1 W3 _ _ _ j u rfl hu
    have rl := C3.out.st.rd.lt
    have V0 := hide v0
    clear v0
    go_wp2_with fail
    refine (pick_any R _ 6 _ C3'.out.st.rd (by omega) (by omega) (by omega)).mono ?_
    rintro e W4 ⟨y, rfl, y0, y1, hR, hO⟩
    have C4 := hide (C3'.out.only hO hR)
    have hv : ∀ j u, (#[.int .i64 (-1), .int .i64 2000, .int .i64 2001, .int .i64 200, .int .i64 201, .int .i64 1000000007] : Array Value)[j]? = some u → W4.cell? ⟨W3.heap.size, j, none⟩ = some u := fun j u hu => (hO.cell W3.heap.size j (by simp) (by omega)).trans (V0.out j u hu)
    have sz4 : W3.heap.size < W4.heap.size := by have := hO.size; simp at this; omega
    clear hO hR C3 C3' V0
    rcases (show y = 0 ∨ y = 1 ∨ y = 2 ∨ y = 3 ∨ y = 4 ∨ y = 5 by omega) with rfl | rfl | rfl | rfl | rfl | rfl
    · have cv := hv 0 (.int .i64 (-1)) rfl
      clear hv
      obtain ⟨x0, x1, x2⟩ := C4.out.ir.at k hk
      rw [Nat.zero_add] at x0 x1 x2
      have fz0 := C4.out.ir.fz (k * 3)
      have fz1 := C4.out.ir.fz (k * 3 + 1)
      have fz2 := C4.out.ir.fz (k * 3 + 2)
      have gl := C4.out.ir.lt.2
      have C5 : Hid (SC w R (w.heap.size + 1) (W4.setCell ⟨g1, k * 3 + 2, none⟩ (.int .i64 (-1))) _ g1 c1 (L.set k ((L.getD k (0, [], 0)).1, (L.getD k (0, [], 0)).2.1, (-1))) 200) := C4.out.set3 (j := 2) hk (by omega) ((L.getD k (0, [], 0)).1, (L.getD k (0, [], 0)).2.1, (-1)) (.int .i64 (-1)) rfl (C4.out.text k hk)
      go_upto_region 20 with fail
      generalize W4.setCell ⟨g1, k * 3 + 2, none⟩ (.int .i64 (-1)) = W5 at C5 ⊢
      obtain ⟨L', hL⟩ : ∃ L', L' = L.set k ((L.getD k (0, [], 0)).1, (L.getD k (0, [], 0)).2.1, (-1)) := ⟨_, rfl⟩
      have lq : L'.length = L.length := by rw [hL, List.length_set]
      rw [← hL] at C5
      clear hL x0 x1 x2 fz0 fz1 fz2 gl C4
      have pb := C5.out.st.2.2.1
      have zl := pb.lt
      have d0 := pb.c0
      have d1 := pb.fz 0
      have fin := hide (C5.out.fin (.slice (some ⟨g1, 0, none⟩) L.length c1))
      clear pb
      go_wp2
      obtain ⟨f1, f2, f3, f4, f5, f6⟩ := fin.out
      try simp only [Exit.inBlock, Exit.then]
      refine bodyPost_ret (res_prog1 rfl _ _ (w.heap.size + 1) _ rfl f1) rfl ?_
      exact ⟨L', g1, c1, by rw [lq], f2, by omega, by omega, f4, _, by omega, f5, f6⟩
    · have cv := hv 1 (.int .i64 2000) rfl
      clear hv
      obtain ⟨x0, x1, x2⟩ := C4.out.ir.at k hk
      rw [Nat.zero_add] at x0 x1 x2
      have fz0 := C4.out.ir.fz (k * 3)
      have fz1 := C4.out.ir.fz (k * 3 + 1)
      have fz2 := C4.out.ir.fz (k * 3 + 2)
      have gl := C4.out.ir.lt.2
      have C5 : Hid (SC w R (w.heap.size + 1) (W4.setCell ⟨g1, k * 3 + 2, none⟩ (.int .i64 2000)) _ g1 c1 (L.set k ((L.getD k (0, [], 0)).1, (L.getD k (0, [], 0)).2.1, 2000)) 200) := C4.out.set3 (j := 2) hk (by omega) ((L.getD k (0, [], 0)).1, (L.getD k (0, [], 0)).2.1, 2000) (.int .i64 2000) rfl (C4.out.text k hk)
      go_upto_region 20 with fail
      generalize W4.setCell ⟨g1, k * 3 + 2, none⟩ (.int .i64 2000) = W5 at C5 ⊢
      obtain ⟨L', hL⟩ : ∃ L', L' = L.set k ((L.getD k (0, [], 0)).1, (L.getD k (0, [], 0)).2.1, 2000) := ⟨_, rfl⟩
      have lq : L'.length = L.length := by rw [hL, List.length_set]
      rw [← hL] at C5
      clear hL x0 x1 x2 fz0 fz1 fz2 gl C4
      have pb := C5.out.st.2.2.1
      have zl := pb.lt
      have d0 := pb.c0
      have d1 := pb.fz 0
      have fin := hide (C5.out.fin (.slice (some ⟨g1, 0, none⟩) L.length c1))
      clear pb
      go_wp2
      obtain ⟨f1, f2, f3, f4, f5, f6⟩ := fin.out
      try simp only [Exit.inBlock, Exit.then]
      refine bodyPost_ret (res_prog1 rfl _ _ (w.heap.size + 1) _ rfl f1) rfl ?_
      exact ⟨L', g1, c1, by rw [lq], f2, by omega, by omega, f4, _, by omega, f5, f6⟩
    · have cv := hv 2 (.int .i64 2001) rfl
      clear hv
      obtain ⟨x0, x1, x2⟩ := C4.out.ir.at k hk
      rw [Nat.zero_add] at x0 x1 x2
      have fz0 := C4.out.ir.fz (k * 3)
      have fz1 := C4.out.ir.fz (k * 3 + 1)
      have fz2 := C4.out.ir.fz (k * 3 + 2)
      have gl := C4.out.ir.lt.2
      have C5 : Hid (SC w R (w.heap.size + 1) (W4.setCell ⟨g1, k * 3 + 2, none⟩ (.int .i64 2001)) _ g1 c1 (L.set k ((L.getD k (0, [], 0)).1, (L.getD k (0, [], 0)).2.1, 2001)) 200) := C4.out.set3 (j := 2) hk (by omega) ((L.getD k (0, [], 0)).1, (L.getD k (0, [], 0)).2.1, 2001) (.int .i64 2001) rfl (C4.out.text k hk)
      go_upto_region 20 with fail
      generalize W4.setCell ⟨g1, k * 3 + 2, none⟩ (.int .i64 2001) = W5 at C5 ⊢
      obtain ⟨L', hL⟩ : ∃ L', L' = L.set k ((L.getD k (0, [], 0)).1, (L.getD k (0, [], 0)).2.1, 2001) := ⟨_, rfl⟩
      have lq : L'.length = L.length := by rw [hL, List.length_set]
      rw [← hL] at C5
      clear hL x0 x1 x2 fz0 fz1 fz2 gl C4
      have pb := C5.out.st.2.2.1
      have zl := pb.lt
      have d0 := pb.c0
      have d1 := pb.fz 0
      have fin := hide (C5.out.fin (.slice (some ⟨g1, 0, none⟩) L.length c1))
      clear pb
      go_wp2
      obtain ⟨f1, f2, f3, f4, f5, f6⟩ := fin.out
      try simp only [Exit.inBlock, Exit.then]
      refine bodyPost_ret (res_prog1 rfl _ _ (w.heap.size + 1) _ rfl f1) rfl ?_
      exact ⟨L', g1, c1, by rw [lq], f2, by omega, by omega, f4, _, by omega, f5, f6⟩
    · have cv := hv 3 (.int .i64 200) rfl
      clear hv
      obtain ⟨x0, x1, x2⟩ := C4.out.ir.at k hk
      rw [Nat.zero_add] at x0 x1 x2
      have fz0 := C4.out.ir.fz (k * 3)
      have fz1 := C4.out.ir.fz (k * 3 + 1)
      have fz2 := C4.out.ir.fz (k * 3 + 2)
      have gl := C4.out.ir.lt.2
      have C5 : Hid (SC w R (w.heap.size + 1) (W4.setCell ⟨g1, k * 3 + 2, none⟩ (.int .i64 200)) _ g1 c1 (L.set k ((L.getD k (0, [], 0)).1, (L.getD k (0, [], 0)).2.1, 200)) 200) := C4.out.set3 (j := 2) hk (by omega) ((L.getD k (0, [], 0)).1, (L.getD k (0, [], 0)).2.1, 200) (.int .i64 200) rfl (C4.out.text k hk)
      go_upto_region 20 with fail
      generalize W4.setCell ⟨g1, k * 3 + 2, none⟩ (.int .i64 200) = W5 at C5 ⊢
      obtain ⟨L', hL⟩ : ∃ L', L' = L.set k ((L.getD k (0, [], 0)).1, (L.getD k (0, [], 0)).2.1, 200) := ⟨_, rfl⟩
      have lq : L'.length = L.length := by rw [hL, List.length_set]
      rw [← hL] at C5
      clear hL x0 x1 x2 fz0 fz1 fz2 gl C4
      have pb := C5.out.st.2.2.1
      have zl := pb.lt
      have d0 := pb.c0
      have d1 := pb.fz 0
      have fin := hide (C5.out.fin (.slice (some ⟨g1, 0, none⟩) L.length c1))
      clear pb
      go_wp2
      obtain ⟨f1, f2, f3, f4, f5, f6⟩ := fin.out
      try simp only [Exit.inBlock, Exit.then]
      refine bodyPost_ret (res_prog1 rfl _ _ (w.heap.size + 1) _ rfl f1) rfl ?_
      exact ⟨L', g1, c1, by rw [lq], f2, by omega, by omega, f4, _, by omega, f5, f6⟩
    · have cv := hv 4 (.int .i64 201) rfl
      clear hv
      obtain ⟨x0, x1, x2⟩ := C4.out.ir.at k hk
      rw [Nat.zero_add] at x0 x1 x2
      have fz0 := C4.out.ir.fz (k * 3)
      have fz1 := C4.out.ir.fz (k * 3 + 1)
      have fz2 := C4.out.ir.fz (k * 3 + 2)
      have gl := C4.out.ir.lt.2
      have C5 : Hid (SC w R (w.heap.size + 1) (W4.setCell ⟨g1, k * 3 + 2, none⟩ (.int .i64 201)) _ g1 c1 (L.set k ((L.getD k (0, [], 0)).1, (L.getD k (0, [], 0)).2.1, 201)) 200) := C4.out.set3 (j := 2) hk (by omega) ((L.getD k (0, [], 0)).1, (L.getD k (0, [], 0)).2.1, 201) (.int .i64 201) rfl (C4.out.text k hk)
      go_upto_region 20 with fail
      generalize W4.setCell ⟨g1, k * 3 + 2, none⟩ (.int .i64 201) = W5 at C5 ⊢
      obtain ⟨L', hL⟩ : ∃ L', L' = L.set k ((L.getD k (0, [], 0)).1, (L.getD k (0, [], 0)).2.1, 201) := ⟨_, rfl⟩
      have lq : L'.length = L.length := by rw [hL, List.length_set]
      rw [← hL] at C5
      clear hL x0 x1 x2 fz0 fz1 fz2 gl C4
      have pb := C5.out.st.2.2.1
      have zl := pb.lt
      have d0 := pb.c0
      have d1 := pb.fz 0
      have fin := hide (C5.out.fin (.slice (some ⟨g1, 0, none⟩) L.length c1))
      clear pb
      go_wp2
      obtain ⟨f1, f2, f3, f4, f5, f6⟩ := fin.out
      try simp only [Exit.inBlock, Exit.then]
      refine bodyPost_ret (res_prog1 rfl _ _ (w.heap.size + 1) _ rfl f1) rfl ?_
      exact ⟨L', g1, c1, by rw [lq], f2, by omega, by omega, f4, _, by omega, f5, f6⟩
    · have cv := hv 5 (.int .i64 1000000007) rfl
      clear hv
      obtain ⟨x0, x1, x2⟩ := C4.out.ir.at k hk
      rw [Nat.zero_add] at x0 x1 x2
      have fz0 := C4.out.ir.fz (k * 3)
      have fz1 := C4.out.ir.fz (k * 3 + 1)
      have fz2 := C4.out.ir.fz (k * 3 + 2)
      have gl := C4.out.ir.lt.2
      have C5 : Hid (SC w R (w.heap.size + 1) (W4.setCell ⟨g1, k * 3 + 2, none⟩ (.int .i64 1000000007)) _ g1 c1 (L.set k ((L.getD k (0, [], 0)).1, (L.getD k (0, [], 0)).2.1, 1000000007)) 200) := C4.out.set3 (j := 2) hk (by omega) ((L.getD k (0, [], 0)).1, (L.getD k (0, [], 0)).2.1, 1000000007) (.int .i64 1000000007) rfl (C4.out.text k hk)
      go_upto_region 20 with fail
      generalize W4.setCell ⟨g1, k * 3 + 2, none⟩ (.int .i64 1000000007) = W5 at C5 ⊢
      obtain ⟨L', hL⟩ : ∃ L', L' = L.set k ((L.getD k (0, [], 0)).1, (L.getD k (0, [], 0)).2.1, 1000000007) := ⟨_, rfl⟩
      have lq : L'.length = L.length := by rw [hL, List.length_set]
      rw [← hL] at C5
      clear hL x0 x1 x2 fz0 fz1 fz2 gl C4
      have pb := C5.out.st.2.2.1
      have zl := pb.lt
      have d0 := pb.c0
      have d1 := pb.fz 0
      have fin := hide (C5.out.fin (.slice (some ⟨g1, 0, none⟩) L.length c1))
      clear pb
      go_wp2
      obtain ⟨f1, f2, f3, f4, f5, f6⟩ := fin.out
      try simp only [Exit.inBlock, Exit.then]
      refine bodyPost_ret (res_prog1 rfl _ _ (w.heap.size + 1) _ rfl f1) rfl ?_
      exact ⟨L', g1, c1, by rw [lq], f2, by omega, by omega, f4, _, by omega, f5, f6⟩
  · go_wp2_with fail
    refine (pick_any R _ 2 _ C3.out.st.rd (by omega) (by omega) (by omega)).mono ?_
    rintro e W4 ⟨y, rfl, y0, y1, hR, hO⟩
    have C4 := hide (C3.out.only hO hR)
    clear hO hR C3
    go_wp2_with fail
    obtain ⟨m0, hm0⟩ : ∃ m0 : Nat, 2000 + y = (m0 : Int) := ⟨(2000 + y).toNat, by omega⟩
    rw [hm0]
    refine (l1Many_any ⟨#[116]⟩ m0 _ (by show 1 * m0 ≤ 4000; omega) (by omega)).mono ?_
    rintro e Wm ⟨t, rfl, ht, hw⟩
    rw [hw]
    have h5 : t.data.toList.length ≤ 5000 := by
      rw [Array.length_toList]
      exact Nat.le_trans ht (by show 1 * m0 ≤ 5000; omega)
    clear ht hm0 hw
    obtain ⟨x0, x1, x2⟩ := C4.out.ir.at k hk
    rw [Nat.zero_add] at x0 x1 x2
    have fz0 := C4.out.ir.fz (k * 3)
    have fz1 := C4.out.ir.fz (k * 3 + 1)
    have fz2 := C4.out.ir.fz (k * 3 + 2)
    have gl := C4.out.ir.lt.2
    have C5 : Hid (SC w R (w.heap.size + 1) (W4.setCell ⟨g1, k * 3 + 1, none⟩ (.string t)) _ g1 c1 (L.set k ((L.getD k (0, [], 0)).1, t.data.toList, (L.getD k (0, [], 0)).2.2)) 200) := C4.out.set3 (j := 1) hk (by omega) ((L.getD k (0, [], 0)).1, t.data.toList, (L.getD k (0, [], 0)).2.2) (.string t) rfl h5
    go_upto_region 20 with fail
    generalize W4.setCell ⟨g1, k * 3 + 1, none⟩ (.string t) = W5 at C5 ⊢
    obtain ⟨L', hL⟩ : ∃ L', L' = L.set k ((L.getD k (0, [], 0)).1, t.data.toList, (L.getD k (0, [], 0)).2.2) := ⟨_, rfl⟩
    have lq : L'.length = L.length := by rw [hL, List.length_set]
    rw [← hL] at C5
    clear hL x0 x1 x2 fz0 fz1 fz2 gl C4
    have pb := C5.out.st.2.2.1
    have zl := pb.lt
    have d0 := pb.c0
    have d1 := pb.fz 0
    have fin := hide (C5.out.fin (.slice (some ⟨g1, 0, none⟩) L.length c1))
    clear pb
    go_wp2
    obtain ⟨f1, f2, f3, f4, f5, f6⟩ := fin.out
    try simp only [Exit.inBlock, Exit.then]
    refine bodyPost_ret (res_prog1 rfl _ _ (w.heap.size + 1) _ rfl f1) rfl ?_
    exact ⟨L', g1, c1, by rw [lq], f2, by omega, by omega, f4, _, by omega, f5, f6⟩
  · have hc1 : L.length ≤ c1 := by
      rcases C3.out.ir.2 with ⟨hv, _⟩ | ⟨_, _, _, hv, _, _, h1, _⟩
      · simp at hv
      · simp only [Value.slice.injEq] at hv
        omega
    have C4 := hide (C3.out.take k (by omega))
    obtain ⟨L', hL⟩ : ∃ L', L' = L.take k := ⟨_, rfl⟩
    have lq : L'.length = k := by rw [hL, List.length_take]; omega
    rw [← hL] at C4
    clear hL C3
    have pb := C4.out.st.2.2.1
    have zl := pb.lt
    have d0 := pb.c0
    have d1 := pb.fz 0
    have fin := hide (C4.out.fin (.slice (some ⟨g1, 0, none⟩) k c1))
    clear pb
    go_wp2
    obtain ⟨f1, f2, f3, f4, f5, f6⟩ := fin.out
    try simp only [Exit.inBlock, Exit.then]
    refine bodyPost_ret (res_prog1 rfl _ _ (w.heap.size + 1) _ rfl f1) rfl ?_
    exact ⟨L', g1, c1, by rw [lq], f2, by omega, by omega, f4, _, by omega, f5, f6⟩
  · have bd := C3.out.len
    go_wp2
    go_loopw [5] (fun v wr => ∃ (g2 c2 q2 : Nat) (M : List I3), v = .slice (some ⟨g2, 0, none⟩) M.length c2 ∧ SC w R (w.heap.size + 1) wr q2 g2 c2 M 201 ∧ q2 ≤ p + 10 + M.length) (fun v _ => 202 - (match v with | .slice _ n _ => n | _ => 0))
    case atStart => exact ⟨g1, c1, _, L, rfl, C3.out.mono (by omega), by omega⟩
    case round =>
      obtain ⟨g2, c2, q2, M, rfl, hC, hq⟩ := hrel
      have CC := hide hC
      have ln := hC.len
      clear hC C3
      go_wp2_with fail
      refine (pick_any R _ 2 _ CC.out.st.rd (by omega) (by omega) (by omega)).mono ?_
      rintro e W4 ⟨y, rfl, y0, y1, hR, hO⟩
      have C4 := hide (CC.out.only hO hR)
      clear hO hR CC
      by_cases hlt : (M.length : Int) < 200 + y
      · go_wp2_with fail
        refine (l1Op_any 9 _).mono ?_
        rintro e W5 ⟨rfl, hB⟩
        have C5 := hide (C4.out.below hB)
        clear hB C4
        have X5 := hide (C5.out.below ((Below.refl W5.heap.size W5).alloc (Nat.le_refl _) (.cells #[.int .i64 9, .string ⟨#[]⟩, .int .i64 0] 176)))
        have zl := C5.out.st.lt
        go_wp2_with (at_builtin; refine wp_appI rfl (.tmp 81) (.tmp 83) rfl (w.heap.size + 2) g2 c2 M (by simp [Act.eval]) X5.out.ir ⟨W5.heap.size, 0, none⟩ 1 1 [(9, [], 0)] (by simp [Act.eval]) rfl (by simp) (new_cells W5 #[.int .i64 9, .string ⟨#[]⟩, .int .i64 0] _) (by simp only [List.length_cons, List.length_nil]; omega) (by simp; omega) ?_)
        intro g3 c3 W6 hI hG
        have C6 := hide (X5.out.app0 (n' := 201) hI hG (by show M.length + 1 ≤ 201; omega) (fun i hi => by rw [List.mem_singleton.1 hi]; exact Nat.zero_le _))
        clear hI hG X5 C5
        go_wp2
        exact ⟨⟨g3, c3, _, M ++ [(9, [], 0)], by simp, C6.out, by simp only [List.length_append, List.length_cons, List.length_nil]; omega⟩, by simp; omega⟩
      · obtain ⟨L', hL⟩ : ∃ L', L' = M := ⟨_, rfl⟩
        have lq : L'.length = M.length := by rw [hL]
        rw [← hL] at C4
        clear hL
        have pb := C4.out.st.2.2.1
        have zl := pb.lt
        have d0 := pb.c0
        have d1 := pb.fz 0
        have fin := hide (C4.out.fin (.slice (some ⟨g2, 0, none⟩) M.length c2))
        clear pb
        go_wp2
        obtain ⟨f1, f2, f3, f4, f5, f6⟩ := fin.out
        try simp only [Exit.inBlock, Exit.then]
        refine bodyPost_ret (res_prog1 rfl _ _ (w.heap.size + 1) _ rfl f1) rfl ?_
        exact ⟨L', g2, c2, by rw [lq], f2, by omega, by omega, f4, _, by omega, f5, f6⟩
  · obtain ⟨x0, x1, x2⟩ := C3.out.ir.at k hk
    rw [Nat.zero_add] at x0 x1 x2
    have fz0 := C3.out.ir.fz (k * 3)
    have fz1 := C3.out.ir.fz (k * 3 + 1)
    have fz2 := C3.out.ir.fz (k * 3 + 2)
    have gl := C3.out.ir.lt.2
    have C4 : Hid (SC w R (w.heap.size + 1) (W3.setCell ⟨g1, k * 3 + 1, none⟩ (.string ⟨#[121]⟩)) _ g1 c1 (L.set k ((L.getD k (0, [], 0)).1, [121], (L.getD k (0, [], 0)).2.2)) 200) := C3.out.set3 (j := 1) hk (by omega) ((L.getD k (0, [], 0)).1, [121], (L.getD k (0, [], 0)).2.2) (.string ⟨#[121]⟩) rfl (by simp)
    go_upto_region 20 with fail
    generalize W3.setCell ⟨g1, k * 3 + 1, none⟩ (.string ⟨#[121]⟩) = W4 at C4 ⊢
    obtain ⟨L', hL⟩ : ∃ L', L' = L.set k ((L.getD k (0, [], 0)).1, [121], (L.getD k (0, [], 0)).2.2) := ⟨_, rfl⟩
    have lq : L'.length = L.length := by rw [hL, List.length_set]
    rw [← hL] at C4
    clear hL x0 x1 x2 fz0 fz1 fz2 gl C3
    have pb := C4.out.st.2.2.1
    have zl := pb.lt
    have d0 := pb.c0
    have d1 := pb.fz 0
    have fin := hide (C4.out.fin (.slice (some ⟨g1, 0, none⟩) L.length c1))
    clear pb
    go_wp2
    obtain ⟨f1, f2, f3, f4, f5, f6⟩ := fin.out
    try simp only [Exit.inBlock, Exit.then]
    refine bodyPost_ret (res_prog1 rfl _ _ (w.heap.size + 1) _ rfl f1) rfl ?_
    exact ⟨L', g1, c1, by rw [lq], f2, by omega, by omega, f4, _, by omega, f5, f6⟩
theorem l1Spoil_any (R p g c : Nat) (L : List I3) (w : World) (base : Nat) (hR : Rd w R p) (hp : p ≤ 20000) (hI : IR w base g c L) (hn : L.length ≤ 200) (hne : L ≠ []) (hT : ∀ i ∈ L, i.2.1.length ≤ 5000) :
    Calls Tryz.prog 131 #[.pointer (some ⟨R, 0, none⟩), .agg #[.slice (some ⟨g, 0, none⟩) L.length c]] w fun e w' => DP w R (p + 1000) 0 201 e w' :=
  l1Spoil_cells R p g c L w hR hp hI.lt.2 hI.news hn hne hT
end Go.Proofs.YtkophfgkcijjkaaGreatDoor.Vp
namespace Go.Proofs.YtkophfgkcijjkaaGreatDoor.Vp
open Go.RowKit
set_option maxRecDepth 100000 in
set_option maxHeartbeats 2000000 in
theorem l1Words_any (n : Nat) (w : World) (hn : (n : Int) ≤ 300) :
    Calls Tryz.prog 186 #[.int .i64 n] w fun e w' => ∃ (L : List I3) (g : Nat), e = .returned (.slice (some ⟨g, 0, none⟩) 7 7) ∧ IR w' w.heap.size g 7 L ∧ L.length = 7 ∧ (∀ i ∈ L, i.2.1.length ≤ 5000) ∧ Below w.heap.size w w' := by
  go_enter Tryz.func186, Tryz.ntmps186
  go_wp2_with fail
  refine (l1Many_any ⟨#[97, 32]⟩ n _ (by show 2 * n ≤ 4000; omega) (by omega)).mono ?_
  rintro e Wx ⟨t, rfl, ht, hw⟩
  rw [hw]
  have h5 : t.size ≤ 5000 := Nat.le_trans ht (by show 2 * n ≤ 5000; omega)
  clear ht hw
  go_wp2_with fail
  refine (l1Lit_any t _).mono ?_
  rintro e W1 ⟨rfl, hB⟩
  have B1 := hide (hB)
  clear hB
  go_wp2_with fail
  refine (l1Op_any 7 _).mono ?_
  rintro e W2 ⟨rfl, hB⟩
  have B2 := hide (B1.out.trans (hB.mono B1.out.size))
  clear hB
  go_wp2_with fail
  refine (l1OpN_any 5 0 _).mono ?_
  rintro e W3 ⟨rfl, hB⟩
  have B3 := hide (B2.out.trans (hB.mono B2.out.size))
  clear hB
  go_wp2_with fail
  refine (l1Op_any 13 _).mono ?_
  rintro e W4 ⟨rfl, hB⟩
  have B4 := hide (B3.out.trans (hB.mono B3.out.size))
  clear hB
  go_wp2_with fail
  refine (l1Op_any 9 _).mono ?_
  rintro e W5 ⟨rfl, hB⟩
  have B5 := hide (B4.out.trans (hB.mono B4.out.size))
  clear hB
  go_wp2_with fail
  refine (l1OpN_any 4 2 _).mono ?_
  rintro e W6 ⟨rfl, hB⟩
  have B6 := hide (B5.out.trans (hB.mono B5.out.size))
  clear hB
  go_wp2_with fail
  refine (l1OpN_any 10 1 _).mono ?_
  rintro e W7 ⟨rfl, hB⟩
  have B7 := hide (B6.out.trans (hB.mono B6.out.size))
  clear hB
  go_wp2
  go_ret
  refine ⟨[(1, t.data.toList, 0), (7, [], 0), (5, [], 0), (13, [], 0), (9, [], 0), (4, [], 2), (10, [], 1)], _, rfl, IR.new W7 _ B7.out.size _ _ rfl _ rfl (by omega), rfl, ?_, B7.out.alloc B7.out.size _⟩
  intro i hi
  simp only [List.mem_cons, List.not_mem_nil, or_false] at hi
  rcases hi with rfl | rfl | rfl | rfl | rfl | rfl | rfl
  · show t.data.toList.length ≤ 5000
    rw [Array.length_toList]
    exact h5
  all_goals exact Nat.zero_le _
end Go.Proofs.YtkophfgkcijjkaaGreatDoor.Vp
namespace Go.Proofs.YtkophfgkcijjkaaGreatDoor.Vp
open Go.RowKit
set_option maxRecDepth 100000 in
set_option maxHeartbeats 8000000 in
theorem l1DrawProgram_any (R p : Nat) (w : World) (hR : Rd w R p) (hp : p ≤ 20000) :
    Calls Tryz.prog 130 #[.pointer (some ⟨R, 0, none⟩)] w fun e w' => DP w R (p + 600) 1 140 e w' := by
  have C0 := hide (ST.new hR)
  clear hR
  go_enter Tryz.func130, Tryz.ntmps130
  go_wp2_with fail
  generalize w.alloc (.cells #[.slice none 0 0] 31) = W0 at C0 ⊢
  refine (pick_any R _ 2 _ C0.out.rd (by omega) (by omega) (by omega)).mono ?_
  rintro e W1 ⟨d, rfl, d0, d1, hR, hO⟩
  have C1 := hide (C0.out.only hO hR)
  clear hO hR C0
  go_wp2_with fail
  refine (l1Value_any R _ d (by omega) _ C1.out.rd (by omega)).mono ?_
  rintro e W2 ⟨L, g, c, rfl, hI, hne, hn, hT, q2, hq2, hR, hO⟩
  have C : Hid (SC w R w.heap.size W2 q2 g c L 134) := SC.di C1.out hI hn hT hO hR
  clear hO hR hI hT hne hn C1
  go_wp2_with fail
  refine (pick_any R _ 24 _ C.out.st.rd (by omega) (by omega) (by omega)).mono ?_
  rintro e Wx ⟨z, rfl, z0, z1, hR, hO⟩
  replace C := hide (C.out.only hO hR)
  clear hO hR
  go_upto_if 13 with fail
  go_cut [3] (fun s3 wx => ∃ (L : List I3) (g c q : Nat), s3 = .slice (some ⟨g, 0, none⟩) L.length c ∧ q ≤ q2 + 2 ∧ Hid (SC w R w.heap.size wx q g c L 135))
  case first =>
    rcases (show z = 0 ∨ z = 1 ∨ z = 2 ∨ 3 ≤ z by omega) with rfl | rfl | rfl | h3
    · iterate 1
        go_wp2_with fail
        first | (with_reducible refine (l1Op_any _ _).mono ?_) | (with_reducible refine (l1OpN_any _ _ _).mono ?_) | (with_reducible refine (l1Lit_any _ _).mono ?_)
        rintro e Wx ⟨rfl, hB⟩
        replace C := hide (C.out.below hB)
        clear hB
      have X := hide (C.out.below ((Below.refl Wx.heap.size Wx).alloc (Nat.le_refl _) (.cells #[.int .i64 14, .string ⟨#[]⟩, .int .i64 0] 176)))
      have ln := C.out.len
      go_wp2_with (at_builtin; refine wp_appI rfl (.tmp 14) (.tmp 16) rfl (w.heap.size + 1) g c L (by simp [Act.eval]) X.out.ir ⟨Wx.heap.size, 0, none⟩ 1 1 [(14, [], 0)] (by simp [Act.eval]) rfl (by simp) (new_cells Wx #[.int .i64 14, .string ⟨#[]⟩, .int .i64 0] _) (by simp only [List.length_cons, List.length_nil]; omega) (by have := C.out.st.lt; simp; omega) ?_; intro g1 c1 W5 hI hG)
      go_meet
      exact ⟨_, g1, c1, _, by simp, by omega, (C.out.app (n' := 135) _ hI hG (by show 134 + 1 ≤ 135; omega) (fun i hi => by rw [List.mem_singleton.1 hi]; exact Nat.zero_le _))⟩
    · iterate 1
        go_wp2_with fail
        first | (with_reducible refine (l1Op_any _ _).mono ?_) | (with_reducible refine (l1OpN_any _ _ _).mono ?_) | (with_reducible refine (l1Lit_any _ _).mono ?_)
        rintro e Wx ⟨rfl, hB⟩
        replace C := hide (C.out.below hB)
        clear hB
      have X := hide (C.out.below ((Below.refl Wx.heap.size Wx).alloc (Nat.le_refl _) (.cells #[.int .i64 10, .string ⟨#[]⟩, .int .i64 0] 176)))
      have ln := C.out.len
      go_wp2_with (at_builtin; refine wp_appI rfl (.tmp 20) (.tmp 22) rfl (w.heap.size + 1) g c L (by simp [Act.eval]) X.out.ir ⟨Wx.heap.size, 0, none⟩ 1 1 [(10, [], 0)] (by simp [Act.eval]) rfl (by simp) (new_cells Wx #[.int .i64 10, .string ⟨#[]⟩, .int .i64 0] _) (by simp only [List.length_cons, List.length_nil]; omega) (by have := C.out.st.lt; simp; omega) ?_; intro g1 c1 W5 hI hG)
      go_meet
      exact ⟨_, g1, c1, _, by simp, by omega, (C.out.app (n' := 135) _ hI hG (by show 134 + 1 ≤ 135; omega) (fun i hi => by rw [List.mem_singleton.1 hi]; exact Nat.zero_le _))⟩
    · go_wp2_with fail
      refine (pick_any R _ 15 _ C.out.st.rd (by omega) (by omega) (by omega)).mono ?_
      rintro e Wx ⟨y, rfl, y0, y1, hR, hO⟩
      replace C := hide (C.out.only hO hR)
      clear hO hR
      iterate 1
        go_wp2_with fail
        first | (with_reducible refine (l1Op_any _ _).mono ?_) | (with_reducible refine (l1OpN_any _ _ _).mono ?_) | (with_reducible refine (l1Lit_any _ _).mono ?_)
        rintro e Wx ⟨rfl, hB⟩
        replace C := hide (C.out.below hB)
        clear hB
      have X := hide (C.out.below ((Below.refl Wx.heap.size Wx).alloc (Nat.le_refl _) (.cells #[.int .i64 (1 + y), .string ⟨#[]⟩, .int .i64 0] 176)))
      have ln := C.out.len
      go_wp2_with (at_builtin; refine wp_appI rfl (.tmp 26) (.tmp 31) rfl (w.heap.size + 1) g c L (by simp [Act.eval]) X.out.ir ⟨Wx.heap.size, 0, none⟩ 1 1 [((1 + y), [], 0)] (by simp [Act.eval]) rfl (by simp) (new_cells Wx #[.int .i64 (1 + y), .string ⟨#[]⟩, .int .i64 0] _) (by simp only [List.length_cons, List.length_nil]; omega) (by have := C.out.st.lt; simp; omega) ?_; intro g1 c1 W5 hI hG)
      go_meet
      exact ⟨_, g1, c1, _, by simp, by omega, (C.out.app (n' := 135) _ hI hG (by show 134 + 1 ≤ 135; omega) (fun i hi => by rw [List.mem_singleton.1 hi]; exact Nat.zero_le _))⟩
    · have n0 : (z == 0) = false := by simp; omega
      have n1 : (z == 1) = false := by simp; omega
      have n2 : (z == 2) = false := by simp; omega
      go_wp2
      go_meet
      exact ⟨L, g, c, _, rfl, by omega, C.out.up (by omega)⟩
  case rest =>
  clear C
  obtain ⟨L0, g0, c0, q3, rfl, hq3, C⟩ := hcut
  iterate 1
    go_wp2_with fail
    first | (with_reducible refine (l1Op_any _ _).mono ?_) | (with_reducible refine (l1OpN_any _ _ _).mono ?_) | (with_reducible refine (l1Lit_any _ _).mono ?_)
    rintro e Wx ⟨rfl, hB⟩
    replace C := hide (C.out.below hB)
    clear hB
  have X := hide (C.out.below ((Below.refl Wx.heap.size Wx).alloc (Nat.le_refl _) (.cells #[.int .i64 15, .string ⟨#[]⟩, .int .i64 0] 176)))
  have ln := C.out.len
  go_upto_if 38 with (at_builtin; refine wp_appI rfl (.tmp 33) (.tmp 35) rfl (w.heap.size + 1) g0 c0 L0 (by simp [Act.eval]) X.out.ir ⟨Wx.heap.size, 0, none⟩ 1 1 [(15, [], 0)] (by simp [Act.eval]) rfl (by simp) (new_cells Wx #[.int .i64 15, .string ⟨#[]⟩, .int .i64 0] _) (by simp only [List.length_cons, List.length_nil]; omega) (by have := C.out.st.lt; simp; omega) ?_; intro g c W5 hI hG)
  replace C := hide (C.out.app (n' := 136) _ hI hG (by show 135 + 1 ≤ 136; omega) (fun i hi => by rw [List.mem_singleton.1 hi]; exact Nat.zero_le _))
  clear hI hG X ln
  generalize hL : L0 ++ [(15, [], 0)] = L at C
  have hn1 : L0.length + 1 = L.length := by rw [← hL, List.length_append]; rfl
  rw [hn1]
  clear hL hn1
  go_cut [3] (fun s3 wx => ∃ (L : List I3) (g c q : Nat), s3 = .slice (some ⟨g, 0, none⟩) L.length c ∧ q ≤ q3 ∧ Hid (SC w R w.heap.size wx q g c L 140))
  case first =>
    by_cases hz : z = 3
    · subst hz
      iterate 4
        go_wp2_with fail
        first | (with_reducible refine (l1Op_any _ _).mono ?_) | (with_reducible refine (l1OpN_any _ _ _).mono ?_) | (with_reducible refine (l1Lit_any _ _).mono ?_)
        rintro e Wx ⟨rfl, hB⟩
        replace C := hide (C.out.below hB)
        clear hB
      have C9 := hide (SC.lit C.out.st [(1, [97, 98, 99, 100, 101, 102, 103, 104], 0), (7, [], 0), (2, [], 0), (10, [], 1)] #[.int .i64 1, .string ⟨#[97, 98, 99, 100, 101, 102, 103, 104]⟩, .int .i64 0, .int .i64 7, .string ⟨#[]⟩, .int .i64 0, .int .i64 2, .string ⟨#[]⟩, .int .i64 0, .int .i64 10, .string ⟨#[]⟩, .int .i64 1] rfl 4 rfl (by omega) (by decide))
      go_wp2
      go_meet
      exact ⟨_, _, _, _, rfl, by omega, C9.out.up (by omega)⟩
    · go_wp2
      go_meet
      exact ⟨L, g, c, _, rfl, by omega, C.out.up (by omega)⟩
  case rest =>
  clear C
  obtain ⟨L, g, c, q4, rfl, hq4, C⟩ := hcut
  go_upto_if 45 with fail
  go_cut [3] (fun s3 wx => ∃ (L : List I3) (g c q : Nat), s3 = .slice (some ⟨g, 0, none⟩) L.length c ∧ q ≤ q4 + 1 ∧ Hid (SC w R w.heap.size wx q g c L 140))
  case first =>
    by_cases hz : z = 4
    · subst hz
      go_wp2_with fail
      refine (l1Name_any R _ _ C.out.st.rd (by omega)).mono ?_
      rintro e Wx ⟨t, rfl, ht, hR, hO⟩
      replace C := hide (C.out.only hO hR)
      clear hO hR
      iterate 4
        go_wp2_with fail
        first | (with_reducible refine (l1Op_any _ _).mono ?_) | (with_reducible refine (l1OpN_any _ _ _).mono ?_) | (with_reducible refine (l1Lit_any _ _).mono ?_)
        rintro e Wx ⟨rfl, hB⟩
        replace C := hide (C.out.below hB)
        clear hB
      have C9 := hide (SC.lit C.out.st [(1, t.data.toList, 0), (13, [], 0), (9, [], 0), (10, [], 0)] #[.int .i64 1, .string t, .int .i64 0, .int .i64 13, .string ⟨#[]⟩, .int .i64 0, .int .i64 9, .string ⟨#[]⟩, .int .i64 0, .int .i64 10, .string ⟨#[]⟩, .int .i64 0] rfl 4 rfl (by omega) (text_first (by omega) (by decide)))
      go_wp2
      go_meet
      exact ⟨_, _, _, _, rfl, by omega, C9.out.up (by omega)⟩
    · go_wp2
      go_meet
      exact ⟨L, g, c, _, rfl, by omega, C.out.up (by omega)⟩
  case rest =>
  clear C
  obtain ⟨L, g, c, q5, rfl, hq5, C⟩ := hcut
  go_upto_region 14 with fail
  go_cut [59] (fun sb wx => ∃ (b1 : Bool) (q : Nat), sb = .bool b1 ∧ q ≤ q5 + 1 ∧ Hid (SC w R w.heap.size wx q g c L 140))
  case first =>
    by_cases hz : z = 7
    · subst hz
      go_wp2_with fail
      refine (pick_any R _ 3 _ C.out.st.rd (by omega) (by omega) (by omega)).mono ?_
      rintro e Wx ⟨x, rfl, x0, x1, hR, hO⟩
      replace C := hide (C.out.only hO hR)
      clear hO hR
      go_wp2
      go_meet
      exact ⟨_, _, rfl, by omega, C.out⟩
    · go_wp2
      go_meet
      exact ⟨_, _, rfl, by omega, C.out⟩
  case rest =>
  clear C
  obtain ⟨b1, q5b, rfl, hq5b, C⟩ := hcut
  go_upto_if 59 with fail
  go_cut [3] (fun s3 wx => ∃ (L : List I3) (g c q : Nat), s3 = .slice (some ⟨g, 0, none⟩) L.length c ∧ q ≤ q5b + 1 ∧ Hid (SC w R w.heap.size wx q g c L 140))
  case first =>
    cases b1 with
    | false =>
      go_wp2
      go_meet
      exact ⟨L, g, c, _, rfl, by omega, C.out⟩
    | true =>
      go_wp2_with fail
      refine (pick_any R _ 2 _ C.out.st.rd (by omega) (by omega) (by omega)).mono ?_
      rintro e Wx ⟨y, rfl, y0, y1, hR, hO⟩
      replace C := hide (C.out.only hO hR)
      clear hO hR
      go_wp2_with fail
      obtain ⟨m0, hm0⟩ : ∃ m0 : Nat, 499 + y = (m0 : Int) := ⟨(499 + y).toNat, by omega⟩
      rw [hm0]
      refine (l1Many_any ⟨#[120]⟩ m0 _ (by show 1 * m0 ≤ 4000; omega) (by omega)).mono ?_
      rintro e Wm ⟨t, rfl, ht, hw⟩
      rw [hw]
      have ht5 : t.size ≤ 5000 := Nat.le_trans ht (by show 1 * m0 ≤ 5000; omega)
      clear ht hm0 hw
      iterate 6
        go_wp2_with fail
        first | (with_reducible refine (l1Op_any _ _).mono ?_) | (with_reducible refine (l1OpN_any _ _ _).mono ?_) | (with_reducible refine (l1Lit_any _ _).mono ?_)
        rintro e Wx ⟨rfl, hB⟩
        replace C := hide (C.out.below hB)
        clear hB
      have C9 := hide (SC.lit C.out.st [(1, t.data.toList, 0), (7, [], 0), (11, [], 5), (4, [], 1), (10, [], 1), (9, [], 0)] #[.int .i64 1, .string t, .int .i64 0, .int .i64 7, .string ⟨#[]⟩, .int .i64 0, .int .i64 11, .string ⟨#[]⟩, .int .i64 5, .int .i64 4, .string ⟨#[]⟩, .int .i64 1, .int .i64 10, .string ⟨#[]⟩, .int .i64 1, .int .i64 9, .string ⟨#[]⟩, .int .i64 0] rfl 6 rfl (by omega) (text_first ht5 (by decide)))
      go_wp2
      go_meet
      exact ⟨_, _, _, _, rfl, by omega, C9.out.up (by omega)⟩
  case rest =>
  clear C
  obtain ⟨L, g, c, q6, rfl, hq6, C⟩ := hcut
  go_upto_region 16 with fail
  go_cut [77] (fun sb wx => ∃ (b1 : Bool) (q : Nat), sb = .bool b1 ∧ q ≤ q6 + 1 ∧ Hid (SC w R w.heap.size wx q g c L 140))
  case first =>
    by_cases hz : z = 6
    · subst hz
      go_wp2_with fail
      refine (pick_any R _ 3 _ C.out.st.rd (by omega) (by omega) (by omega)).mono ?_
      rintro e Wx ⟨x, rfl, x0, x1, hR, hO⟩
      replace C := hide (C.out.only hO hR)
      clear hO hR
      go_wp2
      go_meet
      exact ⟨_, _, rfl, by omega, C.out⟩
    · go_wp2
      go_meet
      exact ⟨_, _, rfl, by omega, C.out⟩
  case rest =>
  clear C
  obtain ⟨b1, q6b, rfl, hq6b, C⟩ := hcut
  go_upto_if 77 with fail
  go_cut [3] (fun s3 wx => ∃ (L : List I3) (g c q : Nat), s3 = .slice (some ⟨g, 0, none⟩) L.length c ∧ q ≤ q6b + 1 ∧ Hid (SC w R w.heap.size wx q g c L 140))
  case first =>
    cases b1 with
    | false =>
      go_wp2
      go_meet
      exact ⟨L, g, c, _, rfl, by omega, C.out⟩
    | true =>
      go_wp2_with fail
      refine (pick_any R _ 3 _ C.out.st.rd (by omega) (by omega) (by omega)).mono ?_
      rintro e Wx ⟨y, rfl, y0, y1, hR, hO⟩
      replace C := hide (C.out.only hO hR)
      clear hO hR
      go_wp2_with fail
      obtain ⟨m0, hm0⟩ : ∃ m0 : Nat, 200 + y - 1 = (m0 : Int) := ⟨(200 + y - 1).toNat, by omega⟩
      rw [hm0]
      refine (l1Words_any m0 _ (by omega)).mono ?_
      rintro e W8 ⟨LW, gW, rfl, hI, lq, hT, hB⟩
      have C8 := hide (SC.di C.out.st hI (n := 140) (by omega) hT (Only.of_below hB) (C.out.st.rd.below hB (Nat.le_refl _)))
      clear hI hT hB hm0
      go_wp2
      go_meet
      exact ⟨LW, gW, 7, _, by rw [lq], by omega, C8.out⟩
  case rest =>
  clear C
  obtain ⟨L, g, c, q7, rfl, hq7, C⟩ := hcut
  go_upto_if 84 with fail
  go_cut [3] (fun s3 wx => ∃ (L : List I3) (g c q : Nat), s3 = .slice (some ⟨g, 0, none⟩) L.length c ∧ q ≤ q7 ∧ Hid (SC w R w.heap.size wx q g c L 140))
  case first =>
    by_cases hz : z = 5
    · subst hz
      iterate 2
        go_wp2_with fail
        first | (with_reducible refine (l1Op_any _ _).mono ?_) | (with_reducible refine (l1OpN_any _ _ _).mono ?_) | (with_reducible refine (l1Lit_any _ _).mono ?_)
        rintro e Wx ⟨rfl, hB⟩
        replace C := hide (C.out.below hB)
        clear hB
      have C9 := hide (SC.lit C.out.st [(1, [115], 0), (10, [], 0)] #[.int .i64 1, .string ⟨#[115]⟩, .int .i64 0, .int .i64 10, .string ⟨#[]⟩, .int .i64 0] rfl 2 rfl (by omega) (by decide))
      go_wp2
      go_meet
      exact ⟨_, _, _, _, rfl, by omega, C9.out.up (by omega)⟩
    · go_wp2
      go_meet
      exact ⟨L, g, c, _, rfl, by omega, C.out.up (by omega)⟩
  case rest =>
  clear C
  obtain ⟨L, g, c, q8, rfl, hq8, C⟩ := hcut
  have ln := C.out.len
  have ge := C.out.ir.lt
  go_wp2_with fail
  refine (specValid_row g 0 L.length c (insA L) _ (by omega) ge.2 (fun i hi => C.out.ir.at i (by omega)) (fun i hi => fI_size C.out.2.2.2 i (by omega))).mono ?_
  rintro e Wv ⟨rfl, hB⟩
  have CV := hide (C.out.below hB)
  clear hB
  cases hv : valid (insA L) L.length with
  | true =>
    have vp := (valid_parts hv).2.1
    clear hv
    have pb := CV.out.st.2.2.1
    have zl := pb.lt
    have d0 := pb.c0
    have d1 := pb.fz 0
    have fin := hide (CV.out.fin (.slice (some ⟨g, 0, none⟩) L.length c))
    clear pb
    go_wp2
    obtain ⟨f1, f2, f3, f4, f5, f6⟩ := fin.out
    try simp only [Exit.inBlock, Exit.then]
    refine bodyPost_ret (res_prog1 rfl _ _ w.heap.size _ rfl f1) rfl ?_
    exact ⟨L, g, c, rfl, f2, by omega, by omega, f4, q8, by omega, f5, f6⟩
  | false =>
    clear hv
    replace C := CV
    iterate 2
      go_wp2_with fail
      first | (with_reducible refine (l1Op_any _ _).mono ?_) | (with_reducible refine (l1OpN_any _ _ _).mono ?_) | (with_reducible refine (l1Lit_any _ _).mono ?_)
      rintro e Wx ⟨rfl, hB⟩
      replace C := hide (C.out.below hB)
      clear hB
    have CC := hide (SC.lit C.out.st [(1, [120], 0), (15, [], 0)] #[.int .i64 1, .string ⟨#[120]⟩, .int .i64 0, .int .i64 15, .string ⟨#[]⟩, .int .i64 0] rfl 2 rfl (by omega) (by decide))
    have pb := CC.out.st.2.2.1
    have zl := pb.lt
    have d0 := pb.c0
    have d1 := pb.fz 0
    have fin := hide (CC.out.fin (.slice (some ⟨Wx.heap.size, 0, none⟩) 2 2))
    clear pb
    go_wp2
    obtain ⟨f1, f2, f3, f4, f5, f6⟩ := fin.out
    try simp only [Exit.inBlock, Exit.then]
    refine bodyPost_ret (res_prog1 rfl _ _ w.heap.size _ rfl f1) rfl ?_
    exact ⟨[(1, [120], 0), (15, [], 0)], Wx.heap.size, 2, rfl, f2, by simp, by simp, f4, q8, by omega, f5, f6⟩
end Go.Proofs.YtkophfgkcijjkaaGreatDoor.Vp
