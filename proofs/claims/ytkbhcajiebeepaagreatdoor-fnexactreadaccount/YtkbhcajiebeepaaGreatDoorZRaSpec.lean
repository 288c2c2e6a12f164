/-
  ReadAccount, spec: l6Read. Written by tools/raspec.py.
-/
import Derived.Test.YtkbhcajiebeepaaGreatDoorYO
import Derived.Test.YtkbhcajiebeepaaGreatDoorZX
import Derived.Test.YtkbhcajiebeepaaGreatDoorZW
import Derived.Test.YtkbhcajiebeepaaGreatDoorYR
import Derived.BigRegion
import Derived.Test.YtkbhcajiebeepaaGreatDoorZA
namespace Go.Proofs.YtkbhcajiebeepaaGreatDoor.Vp
open Go.RowKit Go.Proofs.YtkbhcajiebeepaaGreatDoor.Ca

/-- The reading under way: j lines are read. -/
def L6I (W0 wr : World) (b base : Nat) (ls : List (List UInt8)) (j : Nat) : Prop :=
  ∃ a c R, ASt wr b base (.slice a R.length c) R ∧ SzD j (R.map (·.1)) ∧ (∀ E, GoodAll [] (tL ls) E → GoodAll (R.map (·.1)) (tL (ls.drop j)) E) ∧ KR b base W0 wr
theorem L6I.next {W0 wr' : World} {b base j : Nat} {ls : List (List UInt8)} {R R' : List DR} {a' : Option Addr} {c' : Nat} {l : List UInt8} (hl : ls[j]? = some l) (hG : ∀ E, GoodAll [] (tL ls) E → GoodAll (R.map (·.1)) (tL (ls.drop j)) E)
    (hA : ASt wr' b base (.slice a' R'.length c') R') (hZ : SzD (j + 1) (R'.map (·.1))) (hK : KR b base W0 wr') (h1 : l = [] → R'.map (·.1) = R.map (·.1)) (h2 : ∀ G, Good (R.map (·.1)) l G → R'.map (·.1) = G) : L6I W0 wr' b base ls (j + 1) := by
  refine ⟨a', c', R', hA, hZ, fun E hE => ?_, hK⟩
  have h3 := hG E hE
  obtain ⟨hj, hj2⟩ := List.getElem?_eq_some_iff.1 hl
  rw [List.drop_eq_getElem_cons hj, hj2] at h3
  exact step_tL h1 h2 h3
theorem grown_keep {W U V : World} {row : Option Nat} (hB : Below W.heap.size W U) (hG : U.grownBy V row) : ∀ k, k < W.heap.size → some k ≠ row → V.heap[k]? = W.heap[k]? := fun k hk hn => (hG.block k (Nat.lt_of_lt_of_le hk hB.size) hn).trans (hB.block k hk)
theorem ASt.len {w : World} {b base : Nat} {a : Option Addr} {c n : Nat} {R : List DR} (h : ASt w b base (.slice a n c) R) (hn : R.length = n) : ASt w b base (.slice a R.length c) R := by rw [hn]; exact h
theorem AcB.below {w w' : World} {b B : Nat} {v : Value} (h : AcB w b v) (hb : Below B w w') (hB : b < B) : AcB w' b v := (hb.block b hB).trans h
theorem res_acc1 {fn : Func} {p : Tmp} (h : fn.results = #[.cell p 24]) (tmps : Array Value) (w : World) (g : Nat) (v : Value) (hp : tmps.getD p undef = .pointer (some ⟨g, 0, none⟩)) (hC : AcB w g v) :
    (results fn tmps).run Tryz.prog w = .ok (.agg #[v]) w :=
  results_cell_row h tmps w g 24 #[v] (0, 0) _ hp hC Tryz.underlying24 rfl (show (Tryz.prog.info? 24).map (·.size) = some 1 by kernel_rfl)
/-- The cells of a row of texts. -/
theorem str_cell {w : World} {base g cap n : Nat} {L : List (List UInt8)} (h : w.ownsRow base 9 1 (.slice (some ⟨g, 0, none⟩) n cap) n (strV L)) (k : Nat) {x : List UInt8} (hx : L[k]? = some x) : w.cell? ⟨g, k, none⟩ = some (.string ⟨x.toArray⟩) := by
  have h1 := World.ownsRow.cells h (g := g) rfl k (.string ⟨x.toArray⟩) (by simp [strV, hx])
  rwa [addr_add, Nat.zero_add] at h1
theorem strV_app (L M : List (List UInt8)) : strV (L ++ M) = strV L ++ strV M := by simp [strV]
theorem two_at (w : World) (x y : Value) (t : TypeId) : ∀ j u, [x, y][j]? = some u → (w.alloc (.cells #[x, y] t)).cell? ((⟨w.heap.size, 0, none⟩ : Addr).add j) = some u := by
  intro j u hj
  rw [addr_add, Nat.zero_add]
  exact box1 w _ t w.heap.size j u rfl (by simpa using hj)
theorem readV_cases (x : List UInt8) : ∃ (op : Int) (tx : List UInt8) (nn : Int) (okb : Bool), readV (readL x) = .tuple #[.agg #[.int .i64 op, .string ⟨tx.toArray⟩, .int .i64 nn], .bool okb] ∧ insOf (readL x) = ⟨op, ⟨tx.toArray⟩, nn⟩ ∧ tx.length ≤ 2000 := by
  cases h : readL x with
  | some i =>
    refine ⟨i.1, i.2.1, i.2.2, true, rfl, rfl, ?_⟩
    have h1 := ins_of (readL_ok h)
    have h2 : mostText i.1 ≤ 2000 := by unfold mostText; split <;> omega
    omega
  | none => exact ⟨0, [], 0, false, rfl, rfl, Nat.zero_le _⟩
theorem loos_len (s : List UInt8) : (loosU (innerL s)).length ≤ s.length := by
  have h1 := loosU_len (innerL s)
  have h2 : (innerL s).length ≤ s.length := by
    unfold innerL
    rw [List.length_take, List.length_drop]
    omega
  omega

set_option maxRecDepth 100000 in
set_option maxHeartbeats 8000000 in
theorem l6Read_any (s : ByteArray) (w : World) (hs : s.size ≤ 300000) :
    Calls Tryz.prog 12 #[.string s] w fun e w' => Below w.heap.size w w' ∧ ∃ a c R, e = .returned (.agg #[.slice a R.length c]) ∧ DRow w' (w.heap.size + 2) (.slice a R.length c) R ∧ SzD 300001 (R.map (·.1)) ∧ ∀ E, GoodAll [] (tL (linesL s.data.toList)) E → R.map (·.1) = E := by
  have A0 := hide (((Below.refl w.heap.size w).alloc (Nat.le_refl _) (.cells #[.slice none 0 0] 24)).alloc (by simp) (.cells #[.slice none 0 0] 24))
  have B0 : Hid (AcB ((w.alloc (.cells #[.slice none 0 0] 24)).alloc (.cells #[.slice none 0 0] 24)) w.heap.size (.slice none 0 0)) := by
    show _ = _
    rw [heap_alloc_old _ _ (by simp)]
    exact heap_alloc_new w _
  have C0 : Hid (AcB ((w.alloc (.cells #[.slice none 0 0] 24)).alloc (.cells #[.slice none 0 0] 24)) (w.heap.size + 1) (.slice none 0 0)) := heap_alloc2_new w _ _
  have LC := hide (fun V => l1Cut_any s V (by omega))
  have LA := hide (linesL_all s.data.toList.length s.data.toList (Nat.le_refl _))
  have hsl : s.data.toList.length = s.size := size_toL s
  generalize linesL s.data.toList = ls at LC LA ⊢
  have LM : Hid (∀ l ∈ ls, l.length ≤ 300000) := fun l hl => by have := (LA.out.1 l hl).2; omega
  have hln : ls.length ≤ 300001 := by have := LA.out.2; omega
  clear LA
  obtain ⟨i0, hi0, hz0, hz1, hz2⟩ := info_partsP infoStrP
  obtain ⟨i1, hi, hy0, hy1, hy2⟩ := info_parts infoDeed
  obtain ⟨i2, hi2, hx0, hx1, hx2⟩ := info_parts infoIns
  obtain ⟨i3, hi3, hv0, hv1, hv2⟩ := info_parts infoLink
  go_enter Tryz.func12, Tryz.ntmps12
  go_wp2_with fail
  generalize (w.alloc (.cells #[.slice none 0 0] 24)).alloc (.cells #[.slice none 0 0] 24) = V0 at A0 B0 C0 ⊢
  have zV : w.heap.size + 1 < V0.heap.size := C0.out.lt
  refine (LC.out V0).mono ?_
  rintro e W0 ⟨g, cap, rfl, hO, _, hB⟩
  have AW := hide (A0.out.trans (hB.mono A0.out.size))
  have BW := hide (B0.out.below hB (by omega))
  have CW := hide (C0.out.below hB (by omega))
  have LO := hide hO
  have zW : V0.heap.size ≤ W0.heap.size := hB.size
  have gW : g < W0.heap.size := (hO.lt g rfl).2
  have I0 : Hid (L6I W0 W0 (w.heap.size + 1) W0.heap.size ls 0) := ⟨none, 0, [], ⟨CW.out, dRow_nil _ _, by omega, Nat.le_refl _⟩, SzD.nil _, fun E hE => hE, KR.refl _ _ _⟩
  clear hB hO A0 B0 C0 LC CW
  go_wp2
  go_loopw [5, 6, 7, 8, 9] (fun iv _ _ _ _ wr => ∃ j : Nat, j ≤ ls.length ∧ iv = .int .i64 j ∧ Hid (L6I W0 wr (w.heap.size + 1) W0.heap.size ls j)) (fun iv _ _ _ _ _ => ls.length - (intOf iv).toNat)
  case atStart => exact ⟨0, by omega, rfl, I0.out⟩
  case round =>
    obtain ⟨j, hj, rfl, HI⟩ := hrel
    obtain ⟨a, c, R, hA, hZ, hG, hK⟩ := HI.out
    have SA := hide hA
    have SZ := hide hZ
    have SG := hide hG
    have SK := hide hK
    have hRn : R.length ≤ j := by have := hZ.1; simpa using this
    have zr := hK.size
    have r0 := hA.box.c0
    have r2 := hA.box.lt
    clear hA hZ hG hK HI
    by_cases hlt : j < ls.length
    · obtain ⟨l, hl⟩ : ∃ l, ls[j]? = some l := ⟨_, List.getElem?_eq_getElem hlt⟩
      have HLJ := hide hl
      have hll := LM.out l (List.mem_of_getElem? hl)
      have cl : wr.cell? ⟨g, j, none⟩ = some (.string ⟨l.toArray⟩) := (World.cell?_of_block (a := ⟨g, j, none⟩) (SK.out.keep g gW (by have := (LO.out.lt g rfl).1; omega) (.inl gW))).trans (str_cell LO.out j hl)
      have gl : g < wr.heap.size := by omega
      have hlt2 : (j : Int) < ls.length := by omega
      clear hl
      go_wp2_with fail
      refine (l6Words_any ⟨l.toArray⟩ 3 (by omega) wr (by show l.length ≤ _; omega)).mono ?_
      rintro e W1 ⟨g1, c1, rfl, hO1, hl1, hB1⟩
      have hO1 : W1.ownsRow wr.heap.size 9 1 (.slice (some ⟨g1, 0, none⟩) (cutN 3 l).length c1) (cutN 3 l).length (strV (cutN 3 l)) := hO1
      have hl1 : (cutN 3 l).length ≤ 4 := hl1
      have H1 := hide hB1
      have O1 := hide hO1
      have S1 := hide (SA.out.below hB1)
      have K1 := hide (SK.out.trans (KR.of_below hB1 (Nat.le_refl _)))
      obtain ⟨tl0, ht0⟩ := words_one 3 (by omega) l
      have e0 := str_cell hO1 0 (x := (cutC 32 l).1) (by rw [ht0]; rfl)
      have p0 : (0 : Int) < ((cutN 3 l).length : Int) := by rw [ht0]; simp only [List.length_cons]; omega
      have l1 := (hO1.lt g1 rfl).2
      have g1r := (hO1.lt g1 rfl).1
      have cl1 := (hB1.cell (p := ⟨g, j, none⟩) gl).trans cl
      have gl1 : g < W1.heap.size := Nat.lt_of_lt_of_le gl hB1.size
      have zr1 := hB1.size
      have hcl := cutC_len 32 l
      have hcl2 := cutC_len 32 (cutC 32 l).2.1
      have hcl3 := cutC_len 32 (cutC 32 (cutC 32 l).2.1).2.1
      clear hO1 hB1 r0 r2 cl ht0 tl0
      have r0 := S1.out.box.c0
      have r1 := S1.out.box.fz
      have r2 := S1.out.box.lt
      have LE := hide (fun (e : l = []) => show (cutC 32 l).1 = [] by rw [e]; rfl)
      by_cases h_src : (cutC 32 l).1 = [115, 111, 117, 114, 99, 101]
      · have HW := hide h_src
        have NE : Hid (l ≠ []) := fun e => by
          have := LE.out e
          rw [h_src] at this
          cases this
        rw [h_src] at e0
        go_wp2_with fail
        refine (l6Words_any ⟨l.toArray⟩ 2 (by omega) W1 (by show l.length ≤ _; omega)).mono ?_
        rintro e W2 ⟨g2, c2, rfl, hO2, hl2, hB2⟩
        have hO2 : W2.ownsRow W1.heap.size 9 1 (.slice (some ⟨g2, 0, none⟩) (cutN 2 l).length c2) (cutN 2 l).length (strV (cutN 2 l)) := hO2
        have hl2 : (cutN 2 l).length ≤ 4 := hl2
        have O2 := hide hO2
        have HB2 := hide hB2
        have ZB := hide hB2.size
        have zb2 := hB2.size
        clear hO2 hB2
        go_wp2_with (at_builtin; refine wpList_append_own _ rfl (.tmp 37) (.tmp 38) 42 rfl W1.heap.size 9 i0 (.string ⟨#[]⟩) 1 16 Tryz.underlying42 hi0 hz0 hz1 hz2 rfl (by decide) _ (cutN 2 l).length (strV (cutN 2 l)) (by simp [Act.eval]) (O2.out.alloc _) ⟨W2.heap.size, 0, none⟩ 2 2 [.string ⟨#[]⟩, .string ⟨#[]⟩] (by simp [Act.eval]) rfl (two_at W2 _ _ _) (by simp [Value.oneCell']) (by unfold maxLen; omega) (by omega) (by simp; omega) ?_)
        intro v3 W3 hown hgrow hnil
        have hown : W3.ownsRow W1.heap.size 9 1 v3 ((cutN 2 l).length + 2) (strV (cutN 2 l ++ [[], []])) := by rw [strV_app]; exact hown
        obtain ⟨g3, c3, rfl⟩ := own_form hown (by omega)
        have H3 := hide (Below.grown ((Below.refl W1.heap.size W2).alloc ZB.out _) hgrow (by simp; have := ZB.out; omega) (fun k e => (O2.out.lt k e).1))
        have O3 := hide hown
        have l3 := (hown.lt g3 rfl).2
        have g3r := (hown.lt g3 rfl).1
        obtain ⟨tl2, ht2⟩ := words_src l
        have y1 := str_cell hown 1 (x := (cutC 32 (cutC 32 l).2.1).1) (by rw [ht2]; rfl)
        have y2 := str_cell hown 2 (x := (cutC 32 (cutC 32 l).2.1).2.1) (by rw [ht2]; rfl)
        have q2 : (2 : Int) < ((cutN 2 l).length : Int) + 2 := by
          have := congrArg List.length ht2
          rw [List.length_append] at this
          simp only [List.length_cons, List.length_nil] at this
          omega
        have q1 : (1 : Int) < ((cutN 2 l).length : Int) + 2 := by omega
        have HT := hide (H1.out.trans ((HB2.out.trans H3.out).mono zr1))
        have SL := hide (SA.out.below HT.out)
        have KL := hide (SK.out.trans (KR.of_below HT.out (Nat.le_refl _)))
        clear hown hgrow hnil e0 r0 r1 r2 cl1 HT
        have r0 := SL.out.box.c0
        have r1 := SL.out.box.fz
        have r2 := SL.out.box.lt
        have hle := SL.out.le
        have GN := hide (fun G (h : Good (R.map (·.1)) l G) => gs_src h HW.out)
        have UQ0 := fun V => l1Unquote_any ⟨(cutC 32 (cutC 32 l).2.1).2.1.toArray⟩ V (by show (cutC 32 (cutC 32 l).2.1).2.1.length ≤ _; omega)
        have UQ : Hid (∀ V, Calls Tryz.prog 23 #[.string ⟨(cutC 32 (cutC 32 l).2.1).2.1.toArray⟩] V fun e w' => e = .returned (.string ⟨(loosU (innerL (cutC 32 (cutC 32 l).2.1).2.1)).toArray⟩) ∧ Below V.heap.size V w') := UQ0
        have ul := loos_len (cutC 32 (cutC 32 l).2.1).2.1
        clear UQ0 O2 HB2 H3 O3
        go_upto_region 11 with fail
        have SQ : Hid (∀ V : World, (∀ k, k < W3.heap.size → some k ≠ (Value.slice a R.length c).ownBlock → V.heap[k]? = W3.heap[k]?) → V.cell? ⟨w.heap.size + 1, 0, none⟩ = some (.slice a R.length c) ∧ V.cell? ⟨g3, 1, none⟩ = some (.string ⟨(cutC 32 (cutC 32 l).2.1).1.toArray⟩) ∧ V.cell? ⟨g3, 2, none⟩ = some (.string ⟨(cutC 32 (cutC 32 l).2.1).2.1.toArray⟩)) := fun V hV => ⟨(World.cell?_of_block (a := ⟨w.heap.size + 1, 0, none⟩) (hV (w.heap.size + 1) r2 (fun e => by have h1 := (SL.out.row.own.lt _ e.symm).1; have h2 := SL.out.lt; omega))).trans r0, (World.cell?_of_block (a := ⟨g3, 1, none⟩) (hV (g3) l3 (fun e => by have h1 := (SA.out.row.own.lt _ e.symm).2; omega))).trans y1, (World.cell?_of_block (a := ⟨g3, 2, none⟩) (hV (g3) l3 (fun e => by have h1 := (SA.out.row.own.lt _ e.symm).2; omega))).trans y2⟩
        have HS := hide (SQ.out W3.drew (fun k hk _ => rfl))
        have B0 : Hid (Below W3.heap.size W3 W3.drew) := (Below.refl _ W3).drew
        refine wp_region_N (fun V => V.cell? ⟨w.heap.size + 1, 0, none⟩ = some (.slice a R.length c) ∧ V.cell? ⟨g3, 1, none⟩ = some (.string ⟨(cutC 32 (cutC 32 l).2.1).1.toArray⟩) ∧ V.cell? ⟨g3, 2, none⟩ = some (.string ⟨(cutC 32 (cutC 32 l).2.1).2.1.toArray⟩)) 13 (by as_aux_lemma => kernel_rfl) ?_
        iterate 8
          refine anyN_nx 0 (v := ?_) rfl rfl (by as_aux_lemma => kernel_rfl) (fun _ _ _ h => h) rfl ?_ HS.out ?_
          rotate_left
          · (intro wz hSw; obtain ⟨s0, s1, s2⟩ := hSw; go_simp)
            (try with_reducible rfl)
          (try simp only [Act.put, List.setIfInBounds_toArray, List.set_cons_zero, List.set_cons_succ])
        refine anyN_one (i := 8) rfl (by as_aux_lemma => kernel_rfl) (fun K hK => ?_)
        go_simp
        go_at_call 23
        refine (UQ.out _).mono ?_
        rintro e w5 ⟨rfl, hB5⟩
        have D5 := hide (B0.out.trans (hB5.mono B0.out.size))
        have S5 := hide (SL.out.below D5.out)
        have K5 := hide (KL.out.trans (KR.of_below D5.out (Nat.le_refl _)))
        replace B0 := D5
        replace HS := hide (SQ.out _ (fun k hk _ => D5.out.block k hk))
        have hle5 := S5.out.le
        clear hB5
        refine hK.out _ _ (fun _ => HS.out) ?_
        clear hK K
        (try simp only [Act.put, List.setIfInBounds_toArray, List.set_cons_zero, List.set_cons_succ])
        refine anyN_nx 9 (v := ?_) rfl rfl (by as_aux_lemma => kernel_rfl) (fun _ _ _ h => h) rfl ?_ HS.out ?_
        rotate_left
        · (intro wz hSw; obtain ⟨s0, s1, s2⟩ := hSw; go_simp)
          (try with_reducible rfl)
        (try simp only [Act.put, List.setIfInBounds_toArray, List.set_cons_zero, List.set_cons_succ])
        refine anyN_one (i := 10) rfl (by as_aux_lemma => kernel_rfl) (fun K hK => ?_)
        go_simp
        have B5 := hide (B0.out.alloc B0.out.size (.cells #[.string ⟨(cutC 32 (cutC 32 l).2.1).1.toArray⟩, .int .i64 1, .int .i64 0, .string ⟨(loosU (innerL (cutC 32 (cutC 32 l).2.1).2.1)).toArray⟩, .slice none 0 0, .slice none 0 0] 51))
        refine hK.out _ _ (fun _ => SQ.out _ (fun k hk _ => B5.out.block k hk)) ?_
        clear hK K
        (try simp only [Act.put, List.setIfInBounds_toArray, List.set_cons_zero, List.set_cons_succ])
        refine anyN_one (i := 11) rfl (by as_aux_lemma => kernel_rfl) (fun K hK => ?_)
        (refine step_append_own_at rfl (.tmp 41) (.tmp 50) 22 rfl W0.heap.size 51 i1 (.agg #[.string ⟨#[]⟩, .int .i64 0, .int .i64 0, .string ⟨#[]⟩, .slice none 0 0, .slice none 0 0]) 6 96 Tryz.underlying22 hi hy0 hy1 hy2 rfl (by decide) (.slice a R.length c) R.length (R.flatMap ddV) (by simp [Act.eval]) (by first | exact S5.out.row.own.alloc _ | exact S5.out.row.own.drew.alloc _ | exact S5.out.row.own.drew.drew.alloc _ | exact S5.out.row.own.drew.drew.drew.alloc _) ⟨w5.heap.size, 0, none⟩ 1 1 [.string ⟨(cutC 32 (cutC 32 l).2.1).1.toArray⟩, .int .i64 1, .int .i64 0, .string ⟨(loosU (innerL (cutC 32 (cutC 32 l).2.1).2.1)).toArray⟩, .slice none 0 0, .slice none 0 0] (by simp [Act.eval]) rfl (by first | exact six_at w5 _ _ _ _ _ _ _ | exact six_at w5.drew _ _ _ _ _ _ _ | exact six_at w5.drew.drew _ _ _ _ _ _ _ | exact six_at w5.drew.drew.drew _ _ _ _ _ _ _) (by simp [Value.oneCell']) (by unfold maxLen; omega) (by omega) (by simp; omega) ?_; intro v6 w6 hown hgrow hat; (first | have Z6 := hide (S5.out.deed (Below.refl _ w5) hown hgrow) | have Z6 := hide (S5.out.deed (Below.refl _ w5).drew hown hgrow) | have Z6 := hide (S5.out.deed (Below.refl _ w5).drew.drew hown hgrow) | have Z6 := hide (S5.out.deed (Below.refl _ w5).drew.drew.drew hown hgrow)); obtain ⟨a6, c6, rfl⟩ := cu_slice hown; have k0 := Z6.out.2.2.c0; have k1 := Z6.out.2.2.fz; have k2 := Z6.out.2.2.lt; have G6 := hide (SQ.out w6 (grown_keep (by first | exact B5.out | exact B5.out.drew) hgrow)); clear hown hgrow hat)
        refine hK.out _ _ (fun _ => G6.out) ?_
        clear hK K
        (try simp only [Act.put, List.setIfInBounds_toArray, List.set_cons_zero, List.set_cons_succ])
        refine anyN_one (i := 12) rfl (by as_aux_lemma => kernel_rfl) (fun K hK => ?_)
        go_simp
        refine hK.out _ _ (fun _ => G6.out) ?_
        clear hK K
        (try simp only [Act.put, List.setIfInBounds_toArray, List.set_cons_zero, List.set_cons_succ])
        refine anyN_one (i := 13) rfl (by as_aux_lemma => kernel_rfl) (fun K hK => ?_)
        go_simp
        refine hK.out _ _ (fun h => absurd rfl h) ?_
        clear hK K
        (try simp only [Act.put, List.setIfInBounds_toArray, List.set_cons_zero, List.set_cons_succ])
        refine anyN_done (by as_aux_lemma => kernel_rfl) ?_ _
        go_simp
        go_wp2
        exact ⟨⟨j + 1, by omega, by go_num, L6I.next HLJ.out SG.out (Z6.out.1.len (by simp)) (by rw [List.map_append]; exact SZ.out.new _ _ _ _ (by show (cutC 32 (cutC 32 l).2.1).1.toArray.size ≤ 300000; rw [List.size_toArray]; omega) (by show (loosU (innerL (cutC 32 (cutC 32 l).2.1).2.1)).toArray.size ≤ 300000; rw [List.size_toArray]; omega)) (K5.out.trans Z6.out.2.1) (fun e => absurd e NE.out) (fun G h => by rw [GN.out G h]; simp)⟩, by simp [intOf]; omega⟩
      by_cases h_non : (cutC 32 l).1 = [110, 111, 110, 101]
      · have HW := hide h_non
        have NE : Hid (l ≠ []) := fun e => by
          have := LE.out e
          rw [h_non] at this
          cases this
        rw [h_non] at e0
        have ZB := hide zr1
        go_wp2_with (at_builtin; refine wpList_append_own _ rfl (.tmp 55) (.tmp 56) 42 rfl wr.heap.size 9 i0 (.string ⟨#[]⟩) 1 16 Tryz.underlying42 hi0 hz0 hz1 hz2 rfl (by decide) _ (cutN 3 l).length (strV (cutN 3 l)) (by simp [Act.eval]) (O1.out.alloc _) ⟨W1.heap.size, 0, none⟩ 1 1 [.string ⟨#[]⟩] (by simp [Act.eval]) rfl (one_new W1 _ _) (by simp [Value.oneCell']) (by unfold maxLen; omega) (by omega) (by simp; omega) ?_)
        intro v2 W2 hown hgrow hnil
        have hown : W2.ownsRow wr.heap.size 9 1 v2 ((cutN 3 l).length + 1) (strV (cutN 3 l ++ [[]])) := by rw [strV_app]; exact hown
        obtain ⟨g2, c2, rfl⟩ := own_form hown (by omega)
        have H2 := hide (Below.grown ((Below.refl wr.heap.size W1).alloc ZB.out _) hgrow (by simp; have := ZB.out; omega) (fun k e => (O1.out.lt k e).1))
        have O2 := hide hown
        have l2 := (hown.lt g2 rfl).2
        have g2r := (hown.lt g2 rfl).1
        obtain ⟨tl2, ht2⟩ := words_two 3 (by omega) l []
        have y1 := str_cell hown 1 (x := (cutC 32 (cutC 32 l).2.1).1) (by rw [ht2]; rfl)
        have q1 : (1 : Int) < ((cutN 3 l).length : Int) + 1 := by have := p0; omega
        have HT := hide (H1.out.trans H2.out)
        have S5 := hide (SA.out.below HT.out)
        have K5 := hide (SK.out.trans (KR.of_below HT.out (Nat.le_refl _)))
        clear hown hgrow hnil e0 r0 r1 r2 cl1
        have r0 := S5.out.box.c0
        have r1 := S5.out.box.fz
        have r2 := S5.out.box.lt
        have hle := S5.out.le
        have GN := hide (fun G (h : Good (R.map (·.1)) l G) => gs_non h HW.out)
        go_upto_region 14 with fail
        have SQ : Hid (∀ V : World, (∀ k, k < W2.heap.size → some k ≠ (Value.slice a R.length c).ownBlock → V.heap[k]? = W2.heap[k]?) → V.cell? ⟨w.heap.size + 1, 0, none⟩ = some (.slice a R.length c) ∧ V.cell? ⟨g2, 1, none⟩ = some (.string ⟨(cutC 32 (cutC 32 l).2.1).1.toArray⟩)) := fun V hV => ⟨(World.cell?_of_block (a := ⟨w.heap.size + 1, 0, none⟩) (hV (w.heap.size + 1) r2 (fun e => by have h1 := (S5.out.row.own.lt _ e.symm).1; have h2 := S5.out.lt; omega))).trans r0, (World.cell?_of_block (a := ⟨g2, 1, none⟩) (hV (g2) l2 (fun e => by have h1 := (SA.out.row.own.lt _ e.symm).2; omega))).trans y1⟩
        have HS := hide (SQ.out W2.drew (fun k hk _ => rfl))
        have B0 : Hid (Below W2.heap.size W2 W2.drew) := (Below.refl _ W2).drew
        refine wp_region_N (fun V => V.cell? ⟨w.heap.size + 1, 0, none⟩ = some (.slice a R.length c) ∧ V.cell? ⟨g2, 1, none⟩ = some (.string ⟨(cutC 32 (cutC 32 l).2.1).1.toArray⟩)) 9 (by as_aux_lemma => kernel_rfl) ?_
        iterate 6
          refine anyN_nx 0 (v := ?_) rfl rfl (by as_aux_lemma => kernel_rfl) (fun _ _ _ h => h) rfl ?_ HS.out ?_
          rotate_left
          · (intro wz hSw; obtain ⟨s0, s1⟩ := hSw; go_simp)
            (try with_reducible rfl)
          (try simp only [Act.put, List.setIfInBounds_toArray, List.set_cons_zero, List.set_cons_succ])
        refine anyN_one (i := 6) rfl (by as_aux_lemma => kernel_rfl) (fun K hK => ?_)
        go_simp
        have B5 := hide (B0.out.alloc B0.out.size (.cells #[.string ⟨(cutC 32 (cutC 32 l).2.1).1.toArray⟩, .int .i64 2, .int .i64 0, .string ⟨#[]⟩, .slice none 0 0, .slice none 0 0] 51))
        refine hK.out _ _ (fun _ => SQ.out _ (fun k hk _ => B5.out.block k hk)) ?_
        clear hK K
        (try simp only [Act.put, List.setIfInBounds_toArray, List.set_cons_zero, List.set_cons_succ])
        refine anyN_one (i := 7) rfl (by as_aux_lemma => kernel_rfl) (fun K hK => ?_)
        (refine step_append_own_at rfl (.tmp 59) (.tmp 64) 22 rfl W0.heap.size 51 i1 (.agg #[.string ⟨#[]⟩, .int .i64 0, .int .i64 0, .string ⟨#[]⟩, .slice none 0 0, .slice none 0 0]) 6 96 Tryz.underlying22 hi hy0 hy1 hy2 rfl (by decide) (.slice a R.length c) R.length (R.flatMap ddV) (by simp [Act.eval]) (by first | exact S5.out.row.own.alloc _ | exact S5.out.row.own.drew.alloc _ | exact S5.out.row.own.drew.drew.alloc _ | exact S5.out.row.own.drew.drew.drew.alloc _) ⟨W2.heap.size, 0, none⟩ 1 1 [.string ⟨(cutC 32 (cutC 32 l).2.1).1.toArray⟩, .int .i64 2, .int .i64 0, .string ⟨#[]⟩, .slice none 0 0, .slice none 0 0] (by simp [Act.eval]) rfl (by first | exact six_at W2 _ _ _ _ _ _ _ | exact six_at W2.drew _ _ _ _ _ _ _ | exact six_at W2.drew.drew _ _ _ _ _ _ _ | exact six_at W2.drew.drew.drew _ _ _ _ _ _ _) (by simp [Value.oneCell']) (by unfold maxLen; omega) (by omega) (by simp; omega) ?_; intro v6 w6 hown hgrow hat; (first | have Z6 := hide (S5.out.deed (Below.refl _ W2) hown hgrow) | have Z6 := hide (S5.out.deed (Below.refl _ W2).drew hown hgrow) | have Z6 := hide (S5.out.deed (Below.refl _ W2).drew.drew hown hgrow) | have Z6 := hide (S5.out.deed (Below.refl _ W2).drew.drew.drew hown hgrow)); obtain ⟨a6, c6, rfl⟩ := cu_slice hown; have k0 := Z6.out.2.2.c0; have k1 := Z6.out.2.2.fz; have k2 := Z6.out.2.2.lt; have G6 := hide (SQ.out w6 (grown_keep (by first | exact B5.out | exact B5.out.drew) hgrow)); clear hown hgrow hat)
        refine hK.out _ _ (fun _ => G6.out) ?_
        clear hK K
        (try simp only [Act.put, List.setIfInBounds_toArray, List.set_cons_zero, List.set_cons_succ])
        refine anyN_one (i := 8) rfl (by as_aux_lemma => kernel_rfl) (fun K hK => ?_)
        go_simp
        refine hK.out _ _ (fun _ => G6.out) ?_
        clear hK K
        (try simp only [Act.put, List.setIfInBounds_toArray, List.set_cons_zero, List.set_cons_succ])
        refine anyN_one (i := 9) rfl (by as_aux_lemma => kernel_rfl) (fun K hK => ?_)
        go_simp
        refine hK.out _ _ (fun h => absurd rfl h) ?_
        clear hK K
        (try simp only [Act.put, List.setIfInBounds_toArray, List.set_cons_zero, List.set_cons_succ])
        refine anyN_done (by as_aux_lemma => kernel_rfl) ?_ _
        go_simp
        go_wp2
        exact ⟨⟨j + 1, by omega, by go_num, L6I.next HLJ.out SG.out (Z6.out.1.len (by simp)) (by rw [List.map_append]; exact SZ.out.new _ _ _ _ (by show (cutC 32 (cutC 32 l).2.1).1.toArray.size ≤ 300000; rw [List.size_toArray]; omega) (by exact Nat.zero_le _)) (K5.out.trans Z6.out.2.1) (fun e => absurd e NE.out) (fun G h => by rw [GN.out G h]; simp)⟩, by simp [intOf]; omega⟩
      by_cases h_tgt : (cutC 32 l).1 = [116, 97, 114, 103, 101, 116]
      · have HW := hide h_tgt
        have NE : Hid (l ≠ []) := fun e => by
          have := LE.out e
          rw [h_tgt] at this
          cases this
        rw [h_tgt] at e0
        have ZB := hide zr1
        go_wp2_with (at_builtin; refine wpList_append_own _ rfl (.tmp 69) (.tmp 70) 42 rfl wr.heap.size 9 i0 (.string ⟨#[]⟩) 1 16 Tryz.underlying42 hi0 hz0 hz1 hz2 rfl (by decide) _ (cutN 3 l).length (strV (cutN 3 l)) (by simp [Act.eval]) (O1.out.alloc _) ⟨W1.heap.size, 0, none⟩ 3 3 [.string ⟨#[]⟩, .string ⟨#[]⟩, .string ⟨#[]⟩] (by simp [Act.eval]) rfl (three_at W1 _ _ _ _) (by simp [Value.oneCell']) (by unfold maxLen; omega) (by omega) (by simp; omega) ?_)
        intro v2 W2 hown hgrow hnil
        have hown : W2.ownsRow wr.heap.size 9 1 v2 ((cutN 3 l).length + 3) (strV (cutN 3 l ++ [[], [], []])) := by rw [strV_app]; exact hown
        obtain ⟨g2, c2, rfl⟩ := own_form hown (by omega)
        have H2 := hide (Below.grown ((Below.refl wr.heap.size W1).alloc ZB.out _) hgrow (by simp; have := ZB.out; omega) (fun k e => (O1.out.lt k e).1))
        have O2 := hide hown
        have l2 := (hown.lt g2 rfl).2
        have g2r := (hown.lt g2 rfl).1
        obtain ⟨tl2, ht2⟩ := words_tgt l
        have y1 := str_cell hown 1 (x := (cutC 32 (cutC 32 l).2.1).1) (by rw [ht2]; rfl)
        have y2 := str_cell hown 2 (x := (cutC 32 (cutC 32 (cutC 32 l).2.1).2.1).1) (by rw [ht2]; rfl)
        have y3 := str_cell hown 3 (x := (cutC 32 (cutC 32 (cutC 32 l).2.1).2.1).2.1) (by rw [ht2]; rfl)
        have q3 : (3 : Int) < ((cutN 3 l).length : Int) + 3 := by have := p0; omega
        have q2 : (2 : Int) < ((cutN 3 l).length : Int) + 3 := by omega
        have q1 : (1 : Int) < ((cutN 3 l).length : Int) + 3 := by omega
        have HT := hide (H1.out.trans H2.out)
        have SL := hide (SA.out.below HT.out)
        have KL := hide (SK.out.trans (KR.of_below HT.out (Nat.le_refl _)))
        clear hown hgrow hnil e0 r0 r1 r2 cl1 HT
        have r0 := SL.out.box.c0
        have r1 := SL.out.box.fz
        have r2 := SL.out.box.lt
        have hle := SL.out.le
        have GN := hide (fun G (h : Good (R.map (·.1)) l G) => gs_tgt h HW.out)
        have UQ0 := fun V => l1Unquote_any ⟨(cutC 32 (cutC 32 (cutC 32 l).2.1).2.1).2.1.toArray⟩ V (by show (cutC 32 (cutC 32 (cutC 32 l).2.1).2.1).2.1.length ≤ _; omega)
        have UQ : Hid (∀ V, Calls Tryz.prog 23 #[.string ⟨(cutC 32 (cutC 32 (cutC 32 l).2.1).2.1).2.1.toArray⟩] V fun e w' => e = .returned (.string ⟨(loosU (innerL (cutC 32 (cutC 32 (cutC 32 l).2.1).2.1).2.1)).toArray⟩) ∧ Below V.heap.size V w') := UQ0
        have NU0 := fun V => l1Number_any ⟨(cutC 32 (cutC 32 (cutC 32 l).2.1).2.1).1.toArray⟩ V (by show (cutC 32 (cutC 32 (cutC 32 l).2.1).2.1).1.length ≤ _; omega)
        have NU : Hid (∀ V, Calls Tryz.prog 24 #[.string ⟨(cutC 32 (cutC 32 (cutC 32 l).2.1).2.1).1.toArray⟩] V fun e w' => e = .returned (.int .i64 (numL 0 ((cutC 32 (cutC 32 (cutC 32 l).2.1).2.1).1.take 6))) ∧ w' = V) := NU0
        have ul := loos_len (cutC 32 (cutC 32 (cutC 32 l).2.1).2.1).2.1
        clear UQ0 NU0 H2 O2
        go_upto_region 17 with fail
        have SQ : Hid (∀ V : World, (∀ k, k < W2.heap.size → some k ≠ (Value.slice a R.length c).ownBlock → V.heap[k]? = W2.heap[k]?) → V.cell? ⟨w.heap.size + 1, 0, none⟩ = some (.slice a R.length c) ∧ V.cell? ⟨g2, 1, none⟩ = some (.string ⟨(cutC 32 (cutC 32 l).2.1).1.toArray⟩) ∧ V.cell? ⟨g2, 2, none⟩ = some (.string ⟨(cutC 32 (cutC 32 (cutC 32 l).2.1).2.1).1.toArray⟩) ∧ V.cell? ⟨g2, 3, none⟩ = some (.string ⟨(cutC 32 (cutC 32 (cutC 32 l).2.1).2.1).2.1.toArray⟩)) := fun V hV => ⟨(World.cell?_of_block (a := ⟨w.heap.size + 1, 0, none⟩) (hV (w.heap.size + 1) r2 (fun e => by have h1 := (SL.out.row.own.lt _ e.symm).1; have h2 := SL.out.lt; omega))).trans r0, (World.cell?_of_block (a := ⟨g2, 1, none⟩) (hV (g2) l2 (fun e => by have h1 := (SA.out.row.own.lt _ e.symm).2; omega))).trans y1, (World.cell?_of_block (a := ⟨g2, 2, none⟩) (hV (g2) l2 (fun e => by have h1 := (SA.out.row.own.lt _ e.symm).2; omega))).trans y2, (World.cell?_of_block (a := ⟨g2, 3, none⟩) (hV (g2) l2 (fun e => by have h1 := (SA.out.row.own.lt _ e.symm).2; omega))).trans y3⟩
        have HS := hide (SQ.out W2.drew (fun k hk _ => rfl))
        have B0 : Hid (Below W2.heap.size W2 W2.drew) := (Below.refl _ W2).drew
        refine wp_region_N (fun V => V.cell? ⟨w.heap.size + 1, 0, none⟩ = some (.slice a R.length c) ∧ V.cell? ⟨g2, 1, none⟩ = some (.string ⟨(cutC 32 (cutC 32 l).2.1).1.toArray⟩) ∧ V.cell? ⟨g2, 2, none⟩ = some (.string ⟨(cutC 32 (cutC 32 (cutC 32 l).2.1).2.1).1.toArray⟩) ∧ V.cell? ⟨g2, 3, none⟩ = some (.string ⟨(cutC 32 (cutC 32 (cutC 32 l).2.1).2.1).2.1.toArray⟩)) 17 (by as_aux_lemma => kernel_rfl) ?_
        iterate 8
          refine anyN_nx 0 (v := ?_) rfl rfl (by as_aux_lemma => kernel_rfl) (fun _ _ _ h => h) rfl ?_ HS.out ?_
          rotate_left
          · (intro wz hSw; obtain ⟨s0, s1, s2, s3⟩ := hSw; go_simp)
            (try with_reducible rfl)
          (try simp only [Act.put, List.setIfInBounds_toArray, List.set_cons_zero, List.set_cons_succ])
        iterate 3
          refine anyN_nx 9 (v := ?_) rfl rfl (by as_aux_lemma => kernel_rfl) (fun _ _ _ h => h) rfl ?_ HS.out ?_
          rotate_left
          · (intro wz hSw; obtain ⟨s0, s1, s2, s3⟩ := hSw; go_simp)
            (try with_reducible rfl)
          (try simp only [Act.put, List.setIfInBounds_toArray, List.set_cons_zero, List.set_cons_succ])
        refine anyN_one (i := 8) rfl (by as_aux_lemma => kernel_rfl) (fun K hK => ?_)
        go_simp
        go_at_call 24
        refine (NU.out _).mono ?_
        rintro e wN ⟨rfl, rfl⟩
        refine hK.out _ _ (fun _ => HS.out) ?_
        clear hK K
        (try simp only [Act.put, List.setIfInBounds_toArray, List.set_cons_zero, List.set_cons_succ])
        refine anyN_one (i := 12) rfl (by as_aux_lemma => kernel_rfl) (fun K hK => ?_)
        go_simp
        go_at_call 23
        refine (UQ.out _).mono ?_
        rintro e w5 ⟨rfl, hB5⟩
        have D5 := hide (B0.out.trans (hB5.mono B0.out.size))
        have S5 := hide (SL.out.below D5.out)
        have K5 := hide (KL.out.trans (KR.of_below D5.out (Nat.le_refl _)))
        replace B0 := D5
        replace HS := hide (SQ.out _ (fun k hk _ => D5.out.block k hk))
        have hle5 := S5.out.le
        clear hB5
        refine hK.out _ _ (fun _ => HS.out) ?_
        clear hK K
        (try simp only [Act.put, List.setIfInBounds_toArray, List.set_cons_zero, List.set_cons_succ])
        refine anyN_nx 13 (v := ?_) rfl rfl (by as_aux_lemma => kernel_rfl) (fun _ _ _ h => h) rfl ?_ HS.out ?_
        rotate_left
        · (intro wz hSw; obtain ⟨s0, s1, s2, s3⟩ := hSw; go_simp)
          (try with_reducible rfl)
        (try simp only [Act.put, List.setIfInBounds_toArray, List.set_cons_zero, List.set_cons_succ])
        refine anyN_one (i := 14) rfl (by as_aux_lemma => kernel_rfl) (fun K hK => ?_)
        go_simp
        have B5 := hide (B0.out.alloc B0.out.size (.cells #[.string ⟨(cutC 32 (cutC 32 l).2.1).1.toArray⟩, .int .i64 3, .int .i64 (numL 0 ((cutC 32 (cutC 32 (cutC 32 l).2.1).2.1).1.take 6)), .string ⟨(loosU (innerL (cutC 32 (cutC 32 (cutC 32 l).2.1).2.1).2.1)).toArray⟩, .slice none 0 0, .slice none 0 0] 51))
        refine hK.out _ _ (fun _ => SQ.out _ (fun k hk _ => B5.out.block k hk)) ?_
        clear hK K
        (try simp only [Act.put, List.setIfInBounds_toArray, List.set_cons_zero, List.set_cons_succ])
        refine anyN_one (i := 15) rfl (by as_aux_lemma => kernel_rfl) (fun K hK => ?_)
        (refine step_append_own_at rfl (.tmp 73) (.tmp 86) 22 rfl W0.heap.size 51 i1 (.agg #[.string ⟨#[]⟩, .int .i64 0, .int .i64 0, .string ⟨#[]⟩, .slice none 0 0, .slice none 0 0]) 6 96 Tryz.underlying22 hi hy0 hy1 hy2 rfl (by decide) (.slice a R.length c) R.length (R.flatMap ddV) (by simp [Act.eval]) (by first | exact S5.out.row.own.alloc _ | exact S5.out.row.own.drew.alloc _ | exact S5.out.row.own.drew.drew.alloc _ | exact S5.out.row.own.drew.drew.drew.alloc _) ⟨w5.heap.size, 0, none⟩ 1 1 [.string ⟨(cutC 32 (cutC 32 l).2.1).1.toArray⟩, .int .i64 3, .int .i64 (numL 0 ((cutC 32 (cutC 32 (cutC 32 l).2.1).2.1).1.take 6)), .string ⟨(loosU (innerL (cutC 32 (cutC 32 (cutC 32 l).2.1).2.1).2.1)).toArray⟩, .slice none 0 0, .slice none 0 0] (by simp [Act.eval]) rfl (by first | exact six_at w5 _ _ _ _ _ _ _ | exact six_at w5.drew _ _ _ _ _ _ _ | exact six_at w5.drew.drew _ _ _ _ _ _ _ | exact six_at w5.drew.drew.drew _ _ _ _ _ _ _) (by simp [Value.oneCell']) (by unfold maxLen; omega) (by omega) (by simp; omega) ?_; intro v6 w6 hown hgrow hat; (first | have Z6 := hide (S5.out.deed (Below.refl _ w5) hown hgrow) | have Z6 := hide (S5.out.deed (Below.refl _ w5).drew hown hgrow) | have Z6 := hide (S5.out.deed (Below.refl _ w5).drew.drew hown hgrow) | have Z6 := hide (S5.out.deed (Below.refl _ w5).drew.drew.drew hown hgrow)); obtain ⟨a6, c6, rfl⟩ := cu_slice hown; have k0 := Z6.out.2.2.c0; have k1 := Z6.out.2.2.fz; have k2 := Z6.out.2.2.lt; have G6 := hide (SQ.out w6 (grown_keep (by first | exact B5.out | exact B5.out.drew) hgrow)); clear hown hgrow hat)
        refine hK.out _ _ (fun _ => G6.out) ?_
        clear hK K
        (try simp only [Act.put, List.setIfInBounds_toArray, List.set_cons_zero, List.set_cons_succ])
        refine anyN_one (i := 16) rfl (by as_aux_lemma => kernel_rfl) (fun K hK => ?_)
        go_simp
        refine hK.out _ _ (fun _ => G6.out) ?_
        clear hK K
        (try simp only [Act.put, List.setIfInBounds_toArray, List.set_cons_zero, List.set_cons_succ])
        refine anyN_one (i := 17) rfl (by as_aux_lemma => kernel_rfl) (fun K hK => ?_)
        go_simp
        refine hK.out _ _ (fun h => absurd rfl h) ?_
        clear hK K
        (try simp only [Act.put, List.setIfInBounds_toArray, List.set_cons_zero, List.set_cons_succ])
        refine anyN_done (by as_aux_lemma => kernel_rfl) ?_ _
        go_simp
        go_wp2
        exact ⟨⟨j + 1, by omega, by go_num, L6I.next HLJ.out SG.out (Z6.out.1.len (by simp)) (by rw [List.map_append]; exact SZ.out.new _ _ _ _ (by show (cutC 32 (cutC 32 l).2.1).1.toArray.size ≤ 300000; rw [List.size_toArray]; omega) (by show (loosU (innerL (cutC 32 (cutC 32 (cutC 32 l).2.1).2.1).2.1)).toArray.size ≤ 300000; rw [List.size_toArray]; omega)) (K5.out.trans Z6.out.2.1) (fun e => absurd e NE.out) (fun G h => by rw [GN.out G h]; simp)⟩, by simp [intOf]; omega⟩
      by_cases h_do : (cutC 32 l).1 = [100, 111]
      · have HW := hide h_do
        have NE : Hid (l ≠ []) := fun e => by
          have := LE.out e
          rw [h_do] at this
          cases this
        rw [h_do] at e0
        rcases nil_or_last R with rfl | ⟨R0, r, rfl⟩
        · have GN : Hid (∀ G, ¬ Good (List.map (·.1) ([] : List DR)) l G) := fun G h => by
            obtain ⟨D0, d, h1, _⟩ := gs_do h HW.out
            simp at h1
          go_wp2
          exact ⟨⟨j + 1, by omega, by go_num, L6I.next HLJ.out SG.out S1.out (SZ.out.up (Nat.le_succ _)) K1.out (fun _ => rfl) (fun G h => absurd h (GN.out G))⟩, by simp [intOf]; omega⟩
        · have hl1 : (R0 ++ [r]).length = R0.length + 1 := by simp
          have GN := hide (fun G (h : Good (List.map (·.1) (R0 ++ [r])) l G) => gs_do h HW.out)
          have hr := SZ.out.2 r.1 (by simp)
          have hra := hr.a
          have hrl := hr.l
          obtain ⟨gd, cd, hgc⟩ := cu_some S1.out.row.own (by rw [hl1]; omega)
          cases hgc
          rw [hl1] at r0 hRn
          try rw [hl1]
          have ek : ((R0.length + 1 : Nat) : Int) - 1 = (R0.length : Int) := by omega
          have ek2 : (R0.length : Int) + 1 - 1 = (R0.length : Int) := by omega
          have k5 : (0 : Int) ≤ (R0.length : Int) := by omega
          have k6 : (R0.length : Int) < (R0.length : Int) + 1 := by omega
          clear hr
          by_cases h3 : 3 < l.length
          · have h3i : (3 : Int) < (l.length : Int) := by omega
            have h3j : (3 : Int) ≤ (l.length : Int) := by omega
            have ex : (⟨l.toArray⟩ : ByteArray).extract 3 l.length = ⟨(l.drop 3).toArray⟩ := by
              refine ByteArray.ext (Array.ext' ?_)
              simp only [ByteArray.data_extract, Array.toList_extract, List.extract_eq_take_drop]
              rw [List.take_of_length_le (by simp)]
            have RD0 := l1Read_any ⟨(l.drop 3).toArray⟩ W1 (by show (l.drop 3).length ≤ _; rw [List.length_drop]; omega)
            have RD : Hid (Calls Tryz.prog 25 #[.string ⟨(l.drop 3).toArray⟩] W1 fun e w' => e = .returned (readV (readL (l.drop 3))) ∧ Below W1.heap.size W1 w') := RD0
            obtain ⟨op, tx, nn, okb, hv, hins, htx⟩ := readV_cases (l.drop 3)
            rw [hv] at RD
            have HIN := hide hins
            have htx : tx.length ≤ 2000 := htx
            clear RD0 hv hins
            go_wp2_with fail
            refine RD.out.mono ?_
            rintro e W2 ⟨rfl, hB2⟩
            have HT := hide ((H1.out.trans (hB2.mono zr1)).alloc (Nat.le_trans zr1 hB2.size) (.cells #[.int .i64 op, .string ⟨tx.toArray⟩, .int .i64 nn] 54))
            have CK : Hid (CI (W2.alloc (.cells #[.int .i64 op, .string ⟨tx.toArray⟩, .int .i64 nn] 54)) W2.heap.size (.int .i64 op) (.string ⟨tx.toArray⟩) (.int .i64 nn)) := heap_alloc_new W2 _
            have hib : wr.heap.size ≤ W2.heap.size := Nat.le_trans zr1 hB2.size
            clear hB2 RD
            go_upto_region 21 with fail
            generalize W2.alloc (.cells #[.int .i64 op, .string ⟨tx.toArray⟩, .int .i64 nn] 54) = W3 at HT CK ⊢
            generalize W2.heap.size = iB at CK hib ⊢
            have S5 : Hid (ASt W3 (w.heap.size + 1) W0.heap.size (.slice (some ⟨gd, 0, none⟩) (R0.length + 1) c) (R0 ++ [r])) := by
              have := SA.out.below HT.out
              rw [hl1] at this
              exact this
            have K5 := hide (SK.out.trans (KR.of_below HT.out (Nat.le_refl _)))
            clear e0 r0 r1 r2 cl1 HT ex
            have c0 := CK.out.c0
            have c1' := CK.out.c1
            have c2' := CK.out.c2
            have cz := CK.out.lt
            have r0 := S5.out.box.c0
            have r1 := S5.out.box.fz
            have r2 := S5.out.box.lt
            have cell := drow_cell (by rw [hl1]; have := S5.out.row.own; rw [hl1] at this; exact this) (i := R0.length) (r := r) (by simp) 4 (by omega) (u := r.2.1) rfl
            have m0 := cell.1
            have hgl2 := (S5.out.row.own.lt gd rfl).2
            have hle := S5.out.le
            have U1 := hide (S5.out.row.sub r (by simp)).act
            obtain ⟨av, cv, hav⟩ := cu_slice U1.out
            have HAV := hide hav
            rw [hav] at m0
            clear cell hav
            have SQ : Hid (∀ V : World, (∀ k, k < W3.heap.size → some k ≠ r.2.1.ownBlock → V.heap[k]? = W3.heap[k]?) → V.cell? ⟨w.heap.size + 1, 0, none⟩ = some (.slice (some ⟨gd, 0, none⟩) (R0.length + 1) c) ∧ V.cell? ⟨gd, R0.length * 6 + 4, none⟩ = some (.slice av r.1.actN cv) ∧ V.cell? ⟨iB, 0, none⟩ = some (.int .i64 op) ∧ V.cell? ⟨iB, 1, none⟩ = some (.string ⟨tx.toArray⟩) ∧ V.cell? ⟨iB, 2, none⟩ = some (.int .i64 nn)) := fun V hV => ⟨(World.cell?_of_block (a := ⟨w.heap.size + 1, 0, none⟩) (hV (w.heap.size + 1) r2 (fun e => by have h1 := (U1.out.lt _ e.symm).1; have h2 := S5.out.lt; omega))).trans r0, (World.cell?_of_block (a := ⟨gd, R0.length * 6 + 4, none⟩) (hV (gd) hgl2 (fun e => (cu_ty S5.out.row.own gd rfl).ne (by decide) (cu_ty U1.out gd e.symm)))).trans m0, (World.cell?_of_block (a := ⟨iB, 0, none⟩) (hV (iB) cz (fun e => by have h1 := ((SA.out.row.sub r (by simp)).act.lt _ e.symm).2; omega))).trans c0, (World.cell?_of_block (a := ⟨iB, 1, none⟩) (hV (iB) cz (fun e => by have h1 := ((SA.out.row.sub r (by simp)).act.lt _ e.symm).2; omega))).trans c1', (World.cell?_of_block (a := ⟨iB, 2, none⟩) (hV (iB) cz (fun e => by have h1 := ((SA.out.row.sub r (by simp)).act.lt _ e.symm).2; omega))).trans c2'⟩
            have HS := hide (SQ.out W3.drew (fun k hk _ => rfl))
            have B0 : Hid (Below W3.heap.size W3 W3.drew) := (Below.refl _ W3).drew
            refine wp_region_N (fun V => V.cell? ⟨w.heap.size + 1, 0, none⟩ = some (.slice (some ⟨gd, 0, none⟩) (R0.length + 1) c) ∧ V.cell? ⟨gd, R0.length * 6 + 4, none⟩ = some (.slice av r.1.actN cv) ∧ V.cell? ⟨iB, 0, none⟩ = some (.int .i64 op) ∧ V.cell? ⟨iB, 1, none⟩ = some (.string ⟨tx.toArray⟩) ∧ V.cell? ⟨iB, 2, none⟩ = some (.int .i64 nn)) 16 (by as_aux_lemma => kernel_rfl) ?_
            iterate 11
              refine anyN_nx 0 (v := ?_) rfl rfl (by as_aux_lemma => kernel_rfl) (fun _ _ _ h => h) rfl ?_ HS.out ?_
              rotate_left
              · (intro wz hSw; obtain ⟨s0, s1, s2, s3, s4⟩ := hSw; go_simp)
                (try with_reducible rfl)
              (try simp only [Act.put, List.setIfInBounds_toArray, List.set_cons_zero, List.set_cons_succ])
            refine anyN_one (i := 11) rfl (by as_aux_lemma => kernel_rfl) (fun K hK => ?_)
            go_simp
            have B5 := hide (B0.out.alloc B0.out.size (.cells #[.int .i64 op, .string ⟨tx.toArray⟩, .int .i64 nn] 54))
            refine hK.out _ _ (fun _ => SQ.out _ (fun k hk _ => B5.out.block k hk)) ?_
            clear hK K
            (try simp only [Act.put, List.setIfInBounds_toArray, List.set_cons_zero, List.set_cons_succ])
            refine anyN_one (i := 12) rfl (by as_aux_lemma => kernel_rfl) (fun K hK => ?_)
            (refine step_append_own_at rfl (.tmp 119) (.tmp 121) 46 rfl W0.heap.size 54 i2 (.agg #[.int .i64 0, .string ⟨#[]⟩, .int .i64 0]) 3 32 Tryz.underlying46 hi2 hx0 hx1 hx2 rfl (by decide) (.slice av r.1.actN cv) r.1.actN (insL r.1.act r.1.actN) (by simp [Act.eval]) (by rw [← HAV.out]; first | exact U1.out.alloc _ | exact U1.out.drew.alloc _ | exact U1.out.drew.drew.alloc _ | exact U1.out.drew.drew.drew.alloc _) ⟨W3.heap.size, 0, none⟩ 1 1 [.int .i64 op, .string ⟨tx.toArray⟩, .int .i64 nn] (by simp [Act.eval]) rfl (by first | exact three_at W3 _ _ _ _ | exact three_at W3.drew _ _ _ _ | exact three_at W3.drew.drew _ _ _ _ | exact three_at W3.drew.drew.drew _ _ _ _) (by simp [Value.oneCell']) (by unfold maxLen; omega) (by omega) (by simp; omega) ?_; intro v6 w6 hown hgrow hat; rw [← HAV.out] at hgrow hat; (first | have Z6 := hide (S5.out.moreA (x := ⟨op, ⟨tx.toArray⟩, nn⟩) (Below.refl _ W3) hown hgrow hat) | have Z6 := hide (S5.out.moreA (x := ⟨op, ⟨tx.toArray⟩, nn⟩) (Below.refl _ W3).drew hown hgrow hat) | have Z6 := hide (S5.out.moreA (x := ⟨op, ⟨tx.toArray⟩, nn⟩) (Below.refl _ W3).drew.drew hown hgrow hat) | have Z6 := hide (S5.out.moreA (x := ⟨op, ⟨tx.toArray⟩, nn⟩) (Below.refl _ W3).drew.drew.drew hown hgrow hat)); obtain ⟨a6, c6, rfl⟩ := cu_slice hown; have k0 := Z6.out.2.2.1; have k1 := Z6.out.2.2.2.1; have k2 := Z6.out.2.2.2.2.1; have k3 := Z6.out.2.2.2.2.2.c0; have k4 := Z6.out.2.2.2.2.2.lt; rw [HAV.out] at k0; have G6 := hide (SQ.out w6 (grown_keep (by first | exact B5.out | exact B5.out.drew) hgrow)); clear hown hgrow hat)
            refine hK.out _ _ (fun _ => G6.out) ?_
            clear hK K
            (try simp only [Act.put, List.setIfInBounds_toArray, List.set_cons_zero, List.set_cons_succ])
            refine anyN_one (i := 13) rfl (by as_aux_lemma => kernel_rfl) (fun K hK => ?_)
            go_simp
            refine hK.out _ _ (fun _ => G6.out) ?_
            clear hK K
            (try simp only [Act.put, List.setIfInBounds_toArray, List.set_cons_zero, List.set_cons_succ])
            refine anyN_one (i := 14) rfl (by as_aux_lemma => kernel_rfl) (fun K hK => ?_)
            go_simp
            refine hK.out _ _ (fun _ => G6.out) ?_
            clear hK K
            (try simp only [Act.put, List.setIfInBounds_toArray, List.set_cons_zero, List.set_cons_succ])
            refine anyN_one (i := 15) rfl (by as_aux_lemma => kernel_rfl) (fun K hK => ?_)
            go_simp
            refine hK.out _ _ (fun _ => G6.out) ?_
            clear hK K
            (try simp only [Act.put, List.setIfInBounds_toArray, List.set_cons_zero, List.set_cons_succ])
            refine anyN_one (i := 16) rfl (by as_aux_lemma => kernel_rfl) (fun K hK => ?_)
            go_simp
            refine hK.out _ _ (fun h => absurd rfl h) ?_
            clear hK K
            (try simp only [Act.put, List.setIfInBounds_toArray, List.set_cons_zero, List.set_cons_succ])
            refine anyN_done (by as_aux_lemma => kernel_rfl) ?_ _
            go_simp
            go_wp2
            exact ⟨⟨j + 1, by omega, by go_num, L6I.next HLJ.out SG.out (Z6.out.1.len (by simp)) (by have hz := SZ.out; rw [List.map_append, List.map_cons, List.map_nil] at hz ⊢; exact hz.doA _ (by show tx.toArray.size ≤ 300000; rw [List.size_toArray]; omega)) (K5.out.trans Z6.out.2.1) (fun e => absurd e NE.out) (fun G h => by
                  obtain ⟨D0, d, h1, _, h4⟩ := GN.out G h
                  rw [List.map_append, List.map_cons, List.map_nil] at h1 ⊢
                  obtain ⟨rfl, h5⟩ := List.append_inj' h1 rfl
                  cases h5
                  rw [h4, HIN.out])⟩, by simp [intOf]; omega⟩
          · have h3i : ¬ (3 : Int) < (l.length : Int) := by omega
            have S9 : Hid (ASt W1 (w.heap.size + 1) W0.heap.size (.slice (some ⟨gd, 0, none⟩) (R0 ++ [r]).length c) (R0 ++ [r])) := S1.out
            go_wp2
            exact ⟨⟨j + 1, by omega, by go_num, L6I.next HLJ.out SG.out S9.out (SZ.out.up (Nat.le_succ _)) K1.out (fun _ => rfl) (fun G h => by obtain ⟨_, _, _, h4, _⟩ := GN.out G h; exact absurd h4 h3)⟩, by simp [intOf]; omega⟩
      by_cases h_ask : (cutC 32 l).1 = [97, 115, 107]
      · have HW := hide h_ask
        have NE : Hid (l ≠ []) := fun e => by
          have := LE.out e
          rw [h_ask] at this
          cases this
        rw [h_ask] at e0
        have ZB := hide zr1
        go_wp2_with (at_builtin; refine wpList_append_own _ rfl (.tmp 128) (.tmp 129) 42 rfl wr.heap.size 9 i0 (.string ⟨#[]⟩) 1 16 Tryz.underlying42 hi0 hz0 hz1 hz2 rfl (by decide) _ (cutN 3 l).length (strV (cutN 3 l)) (by simp [Act.eval]) (O1.out.alloc _) ⟨W1.heap.size, 0, none⟩ 2 2 [.string ⟨#[]⟩, .string ⟨#[]⟩] (by simp [Act.eval]) rfl (two_at W1 _ _ _) (by simp [Value.oneCell']) (by unfold maxLen; omega) (by omega) (by simp; omega) ?_)
        intro v2 W2 hown hgrow hnil
        have hown : W2.ownsRow wr.heap.size 9 1 v2 ((cutN 3 l).length + 2) (strV (cutN 3 l ++ [[], []])) := by rw [strV_app]; exact hown
        obtain ⟨g2, c2, rfl⟩ := own_form hown (by omega)
        have H2 := hide (Below.grown ((Below.refl wr.heap.size W1).alloc ZB.out _) hgrow (by simp; have := ZB.out; omega) (fun k e => (O1.out.lt k e).1))
        have O2 := hide hown
        have l2 := (hown.lt g2 rfl).2
        have g2r := (hown.lt g2 rfl).1
        obtain ⟨tl2, ht2⟩ := words_three l []
        have y1 := str_cell hown 1 (x := (cutC 32 (cutC 32 l).2.1).1) (by rw [ht2]; rfl)
        have y2 := str_cell hown 2 (x := (cutC 32 (cutC 32 (cutC 32 l).2.1).2.1).1) (by rw [ht2]; rfl)
        have q2 : (2 : Int) < ((cutN 3 l).length : Int) + 2 := by have := p0; omega
        have q1 : (1 : Int) < ((cutN 3 l).length : Int) + 2 := by omega
        have HT := hide (H1.out.trans H2.out)
        have S1 := hide (SA.out.below HT.out)
        have K1 := hide (SK.out.trans (KR.of_below HT.out (Nat.le_refl _)))
        have hcl4 := cutC_len 32 (cutC 32 (cutC 32 l).2.1).2.1
        clear hown hgrow hnil e0 r0 r1 r2 cl1 HT H2 O2
        have r0 := S1.out.box.c0
        have r1 := S1.out.box.fz
        have r2 := S1.out.box.lt
        have hle := S1.out.le
        have NU0 := fun V => l1Number_any ⟨(cutC 32 (cutC 32 (cutC 32 l).2.1).2.1).1.toArray⟩ V (by show (cutC 32 (cutC 32 (cutC 32 l).2.1).2.1).1.length ≤ _; omega)
        have NU : Hid (∀ V, Calls Tryz.prog 24 #[.string ⟨(cutC 32 (cutC 32 (cutC 32 l).2.1).2.1).1.toArray⟩] V fun e w' => e = .returned (.int .i64 (numL 0 ((cutC 32 (cutC 32 (cutC 32 l).2.1).2.1).1.take 6))) ∧ w' = V) := NU0
        clear NU0
        rcases nil_or_last R with rfl | ⟨R0, r, rfl⟩
        · have GN : Hid (∀ G, ¬ Good (List.map (·.1) ([] : List DR)) l G) := fun G h => by
            obtain ⟨D0, d, h1, _⟩ := gs_ask h HW.out
            simp at h1
          go_wp2
          exact ⟨⟨j + 1, by omega, by go_num, L6I.next HLJ.out SG.out S1.out (SZ.out.up (Nat.le_succ _)) K1.out (fun _ => rfl) (fun G h => absurd h (GN.out G))⟩, by simp [intOf]; omega⟩
        · have hl1 : (R0 ++ [r]).length = R0.length + 1 := by simp
          have GN := hide (fun G (h : Good (List.map (·.1) (R0 ++ [r])) l G) => gs_ask h HW.out)
          have hr := SZ.out.2 r.1 (by simp)
          have hra := hr.a
          have hrl := hr.l
          obtain ⟨gd, cd, hgc⟩ := cu_some S1.out.row.own (by rw [hl1]; omega)
          cases hgc
          rw [hl1] at r0 hRn
          try rw [hl1]
          have ek : ((R0.length + 1 : Nat) : Int) - 1 = (R0.length : Int) := by omega
          have ek2 : (R0.length : Int) + 1 - 1 = (R0.length : Int) := by omega
          have k5 : (0 : Int) ≤ (R0.length : Int) := by omega
          have k6 : (R0.length : Int) < (R0.length : Int) + 1 := by omega
          clear hr
          go_upto_region 25 with fail
          have S5 : Hid (ASt W2 (w.heap.size + 1) W0.heap.size (.slice (some ⟨gd, 0, none⟩) (R0.length + 1) c) (R0 ++ [r])) := by
            have := S1.out
            rw [hl1] at this
            exact this
          have K5 := K1
          have cell := drow_cell (by rw [hl1]; have := S5.out.row.own; rw [hl1] at this; exact this) (i := R0.length) (r := r) (by simp) 5 (by omega) (u := r.2.2) rfl
          have m0 := cell.1
          have hgl2 := (S5.out.row.own.lt gd rfl).2
          have hle := S5.out.le
          have U1 := hide (S5.out.row.sub r (by simp)).lnk
          obtain ⟨av, cv, hav⟩ := cu_slice U1.out
          have HAV := hide hav
          rw [hav] at m0
          clear cell hav
          have SQ : Hid (∀ V : World, (∀ k, k < W2.heap.size → some k ≠ r.2.2.ownBlock → V.heap[k]? = W2.heap[k]?) → V.cell? ⟨w.heap.size + 1, 0, none⟩ = some (.slice (some ⟨gd, 0, none⟩) (R0.length + 1) c) ∧ V.cell? ⟨gd, R0.length * 6 + 5, none⟩ = some (.slice av r.1.linksN cv) ∧ V.cell? ⟨g2, 1, none⟩ = some (.string ⟨(cutC 32 (cutC 32 l).2.1).1.toArray⟩) ∧ V.cell? ⟨g2, 2, none⟩ = some (.string ⟨(cutC 32 (cutC 32 (cutC 32 l).2.1).2.1).1.toArray⟩)) := fun V hV => ⟨(World.cell?_of_block (a := ⟨w.heap.size + 1, 0, none⟩) (hV (w.heap.size + 1) r2 (fun e => by have h1 := (U1.out.lt _ e.symm).1; have h2 := S5.out.lt; omega))).trans r0, (World.cell?_of_block (a := ⟨gd, R0.length * 6 + 5, none⟩) (hV (gd) hgl2 (fun e => (cu_ty S5.out.row.own gd rfl).ne (by decide) (cu_ty U1.out gd e.symm)))).trans m0, (World.cell?_of_block (a := ⟨g2, 1, none⟩) (hV (g2) l2 (fun e => by have h1 := ((SA.out.row.sub r (by simp)).lnk.lt _ e.symm).2; omega))).trans y1, (World.cell?_of_block (a := ⟨g2, 2, none⟩) (hV (g2) l2 (fun e => by have h1 := ((SA.out.row.sub r (by simp)).lnk.lt _ e.symm).2; omega))).trans y2⟩
          have HS := hide (SQ.out W2.drew (fun k hk _ => rfl))
          have B0 : Hid (Below W2.heap.size W2 W2.drew) := (Below.refl _ W2).drew
          refine wp_region_N (fun V => V.cell? ⟨w.heap.size + 1, 0, none⟩ = some (.slice (some ⟨gd, 0, none⟩) (R0.length + 1) c) ∧ V.cell? ⟨gd, R0.length * 6 + 5, none⟩ = some (.slice av r.1.linksN cv) ∧ V.cell? ⟨g2, 1, none⟩ = some (.string ⟨(cutC 32 (cutC 32 l).2.1).1.toArray⟩) ∧ V.cell? ⟨g2, 2, none⟩ = some (.string ⟨(cutC 32 (cutC 32 (cutC 32 l).2.1).2.1).1.toArray⟩)) 21 (by as_aux_lemma => kernel_rfl) ?_
          iterate 15
            refine anyN_nx 0 (v := ?_) rfl rfl (by as_aux_lemma => kernel_rfl) (fun _ _ _ h => h) rfl ?_ HS.out ?_
            rotate_left
            · (intro wz hSw; obtain ⟨s0, s1, s2, s3⟩ := hSw; go_simp)
              (try with_reducible rfl)
            (try simp only [Act.put, List.setIfInBounds_toArray, List.set_cons_zero, List.set_cons_succ])
          refine anyN_one (i := 15) rfl (by as_aux_lemma => kernel_rfl) (fun K hK => ?_)
          go_simp
          go_at_call 24
          refine (NU.out _).mono ?_
          rintro e wN ⟨rfl, rfl⟩
          refine hK.out _ _ (fun _ => HS.out) ?_
          clear hK K
          (try simp only [Act.put, List.setIfInBounds_toArray, List.set_cons_zero, List.set_cons_succ])
          refine anyN_nx 16 (v := ?_) rfl rfl (by as_aux_lemma => kernel_rfl) (fun _ _ _ h => h) rfl ?_ HS.out ?_
          rotate_left
          · (intro wz hSw; obtain ⟨s0, s1, s2, s3⟩ := hSw; go_simp)
            (try with_reducible rfl)
          (try simp only [Act.put, List.setIfInBounds_toArray, List.set_cons_zero, List.set_cons_succ])
          refine anyN_one (i := 17) rfl (by as_aux_lemma => kernel_rfl) (fun K hK => ?_)
          go_simp
          have B5 := hide (B0.out.alloc B0.out.size (.cells #[.string ⟨(cutC 32 (cutC 32 l).2.1).1.toArray⟩, .bool true, .bool false, .int .i64 (numL 0 ((cutC 32 (cutC 32 (cutC 32 l).2.1).2.1).1.take 6))] 58))
          refine hK.out _ _ (fun _ => SQ.out _ (fun k hk _ => B5.out.block k hk)) ?_
          clear hK K
          (try simp only [Act.put, List.setIfInBounds_toArray, List.set_cons_zero, List.set_cons_succ])
          refine anyN_one (i := 18) rfl (by as_aux_lemma => kernel_rfl) (fun K hK => ?_)
          (refine step_append_own_at rfl (.tmp 141) (.tmp 150) 49 rfl W0.heap.size 58 i3 (.agg #[.string ⟨#[]⟩, .bool false, .bool false, .int .i64 0]) 4 32 Tryz.underlying49 hi3 hv0 hv1 hv2 rfl (by decide) (.slice av r.1.linksN cv) r.1.linksN (lnkL r.1.links r.1.linksN) (by simp [Act.eval]) (by rw [← HAV.out]; first | exact U1.out.alloc _ | exact U1.out.drew.alloc _ | exact U1.out.drew.drew.alloc _ | exact U1.out.drew.drew.drew.alloc _) ⟨W2.heap.size, 0, none⟩ 1 1 [.string ⟨(cutC 32 (cutC 32 l).2.1).1.toArray⟩, .bool true, .bool false, .int .i64 (numL 0 ((cutC 32 (cutC 32 (cutC 32 l).2.1).2.1).1.take 6))] (by simp [Act.eval]) rfl (by first | exact four_at W2 _ _ _ _ _ | exact four_at W2.drew _ _ _ _ _ | exact four_at W2.drew.drew _ _ _ _ _ | exact four_at W2.drew.drew.drew _ _ _ _ _) (by simp [Value.oneCell']) (by unfold maxLen; omega) (by omega) (by simp; omega) ?_; intro v6 w6 hown hgrow hat; rw [← HAV.out] at hgrow hat; (first | have Z6 := hide (S5.out.moreL (x := ⟨⟨(cutC 32 (cutC 32 l).2.1).1.toArray⟩, true, false, numL 0 ((cutC 32 (cutC 32 (cutC 32 l).2.1).2.1).1.take 6)⟩) (Below.refl _ W2) hown hgrow hat) | have Z6 := hide (S5.out.moreL (x := ⟨⟨(cutC 32 (cutC 32 l).2.1).1.toArray⟩, true, false, numL 0 ((cutC 32 (cutC 32 (cutC 32 l).2.1).2.1).1.take 6)⟩) (Below.refl _ W2).drew hown hgrow hat) | have Z6 := hide (S5.out.moreL (x := ⟨⟨(cutC 32 (cutC 32 l).2.1).1.toArray⟩, true, false, numL 0 ((cutC 32 (cutC 32 (cutC 32 l).2.1).2.1).1.take 6)⟩) (Below.refl _ W2).drew.drew hown hgrow hat) | have Z6 := hide (S5.out.moreL (x := ⟨⟨(cutC 32 (cutC 32 l).2.1).1.toArray⟩, true, false, numL 0 ((cutC 32 (cutC 32 (cutC 32 l).2.1).2.1).1.take 6)⟩) (Below.refl _ W2).drew.drew.drew hown hgrow hat)); obtain ⟨a6, c6, rfl⟩ := cu_slice hown; have k0 := Z6.out.2.2.1; have k1 := Z6.out.2.2.2.1; have k2 := Z6.out.2.2.2.2.1; have k3 := Z6.out.2.2.2.2.2.c0; have k4 := Z6.out.2.2.2.2.2.lt; rw [HAV.out] at k0; have G6 := hide (SQ.out w6 (grown_keep (by first | exact B5.out | exact B5.out.drew) hgrow)); clear hown hgrow hat)
          refine hK.out _ _ (fun _ => G6.out) ?_
          clear hK K
          (try simp only [Act.put, List.setIfInBounds_toArray, List.set_cons_zero, List.set_cons_succ])
          refine anyN_one (i := 19) rfl (by as_aux_lemma => kernel_rfl) (fun K hK => ?_)
          go_simp
          refine hK.out _ _ (fun _ => G6.out) ?_
          clear hK K
          (try simp only [Act.put, List.setIfInBounds_toArray, List.set_cons_zero, List.set_cons_succ])
          refine anyN_one (i := 20) rfl (by as_aux_lemma => kernel_rfl) (fun K hK => ?_)
          go_simp
          refine hK.out _ _ (fun _ => G6.out) ?_
          clear hK K
          (try simp only [Act.put, List.setIfInBounds_toArray, List.set_cons_zero, List.set_cons_succ])
          refine anyN_one (i := 21) rfl (by as_aux_lemma => kernel_rfl) (fun K hK => ?_)
          go_simp
          refine hK.out _ _ (fun h => absurd rfl h) ?_
          clear hK K
          (try simp only [Act.put, List.setIfInBounds_toArray, List.set_cons_zero, List.set_cons_succ])
          refine anyN_done (by as_aux_lemma => kernel_rfl) ?_ _
          go_simp
          go_wp2
          exact ⟨⟨j + 1, by omega, by go_num, L6I.next HLJ.out SG.out (Z6.out.1.len (by simp)) (by have hz := SZ.out; rw [List.map_append, List.map_cons, List.map_nil] at hz ⊢; exact hz.lkA _ (by show (cutC 32 (cutC 32 l).2.1).1.toArray.size ≤ 300000; rw [List.size_toArray]; omega)) (K5.out.trans Z6.out.2.1) (fun e => absurd e NE.out) (fun G h => by
              obtain ⟨D0, d, h1, h4⟩ := GN.out G h
              rw [List.map_append, List.map_cons, List.map_nil] at h1 ⊢
              obtain ⟨rfl, h5⟩ := List.append_inj' h1 rfl
              cases h5
              rw [h4])⟩, by simp [intOf]; omega⟩
      by_cases h_has : (cutC 32 l).1 = [104, 97, 115]
      · have HW := hide h_has
        have NE : Hid (l ≠ []) := fun e => by
          have := LE.out e
          rw [h_has] at this
          cases this
        rw [h_has] at e0
        have ZB := hide zr1
        go_wp2_with (at_builtin; refine wpList_append_own _ rfl (.tmp 156) (.tmp 157) 42 rfl wr.heap.size 9 i0 (.string ⟨#[]⟩) 1 16 Tryz.underlying42 hi0 hz0 hz1 hz2 rfl (by decide) _ (cutN 3 l).length (strV (cutN 3 l)) (by simp [Act.eval]) (O1.out.alloc _) ⟨W1.heap.size, 0, none⟩ 2 2 [.string ⟨#[]⟩, .string ⟨#[]⟩] (by simp [Act.eval]) rfl (two_at W1 _ _ _) (by simp [Value.oneCell']) (by unfold maxLen; omega) (by omega) (by simp; omega) ?_)
        intro v2 W2 hown hgrow hnil
        have hown : W2.ownsRow wr.heap.size 9 1 v2 ((cutN 3 l).length + 2) (strV (cutN 3 l ++ [[], []])) := by rw [strV_app]; exact hown
        obtain ⟨g2, c2, rfl⟩ := own_form hown (by omega)
        have H2 := hide (Below.grown ((Below.refl wr.heap.size W1).alloc ZB.out _) hgrow (by simp; have := ZB.out; omega) (fun k e => (O1.out.lt k e).1))
        have O2 := hide hown
        have l2 := (hown.lt g2 rfl).2
        have g2r := (hown.lt g2 rfl).1
        obtain ⟨tl2, ht2⟩ := words_three l []
        have y1 := str_cell hown 1 (x := (cutC 32 (cutC 32 l).2.1).1) (by rw [ht2]; rfl)
        have y2 := str_cell hown 2 (x := (cutC 32 (cutC 32 (cutC 32 l).2.1).2.1).1) (by rw [ht2]; rfl)
        have q2 : (2 : Int) < ((cutN 3 l).length : Int) + 2 := by have := p0; omega
        have q1 : (1 : Int) < ((cutN 3 l).length : Int) + 2 := by omega
        have HT := hide (H1.out.trans H2.out)
        have S1 := hide (SA.out.below HT.out)
        have K1 := hide (SK.out.trans (KR.of_below HT.out (Nat.le_refl _)))
        have hcl4 := cutC_len 32 (cutC 32 (cutC 32 l).2.1).2.1
        clear hown hgrow hnil e0 r0 r1 r2 cl1 HT H2 O2
        have r0 := S1.out.box.c0
        have r1 := S1.out.box.fz
        have r2 := S1.out.box.lt
        have hle := S1.out.le
        rcases nil_or_last R with rfl | ⟨R0, r, rfl⟩
        · have GN : Hid (∀ G, ¬ Good (List.map (·.1) ([] : List DR)) l G) := fun G h => by
            obtain ⟨D0, d, h1, _⟩ := gs_has h HW.out
            simp at h1
          go_wp2
          exact ⟨⟨j + 1, by omega, by go_num, L6I.next HLJ.out SG.out S1.out (SZ.out.up (Nat.le_succ _)) K1.out (fun _ => rfl) (fun G h => absurd h (GN.out G))⟩, by simp [intOf]; omega⟩
        · have hl1 : (R0 ++ [r]).length = R0.length + 1 := by simp
          have GN := hide (fun G (h : Good (List.map (·.1) (R0 ++ [r])) l G) => gs_has h HW.out)
          have hr := SZ.out.2 r.1 (by simp)
          have hra := hr.a
          have hrl := hr.l
          obtain ⟨gd, cd, hgc⟩ := cu_some S1.out.row.own (by rw [hl1]; omega)
          cases hgc
          rw [hl1] at r0 hRn
          try rw [hl1]
          have ek : ((R0.length + 1 : Nat) : Int) - 1 = (R0.length : Int) := by omega
          have ek2 : (R0.length : Int) + 1 - 1 = (R0.length : Int) := by omega
          have k5 : (0 : Int) ≤ (R0.length : Int) := by omega
          have k6 : (R0.length : Int) < (R0.length : Int) + 1 := by omega
          clear hr
          go_upto_region 29 with fail
          have S5 : Hid (ASt W2 (w.heap.size + 1) W0.heap.size (.slice (some ⟨gd, 0, none⟩) (R0.length + 1) c) (R0 ++ [r])) := by
            have := S1.out
            rw [hl1] at this
            exact this
          have K5 := K1
          have cell := drow_cell (by rw [hl1]; have := S5.out.row.own; rw [hl1] at this; exact this) (i := R0.length) (r := r) (by simp) 5 (by omega) (u := r.2.2) rfl
          have m0 := cell.1
          have hgl2 := (S5.out.row.own.lt gd rfl).2
          have hle := S5.out.le
          have U1 := hide (S5.out.row.sub r (by simp)).lnk
          obtain ⟨av, cv, hav⟩ := cu_slice U1.out
          have HAV := hide hav
          rw [hav] at m0
          clear cell hav
          have SQ : Hid (∀ V : World, (∀ k, k < W2.heap.size → some k ≠ r.2.2.ownBlock → V.heap[k]? = W2.heap[k]?) → V.cell? ⟨w.heap.size + 1, 0, none⟩ = some (.slice (some ⟨gd, 0, none⟩) (R0.length + 1) c) ∧ V.cell? ⟨gd, R0.length * 6 + 5, none⟩ = some (.slice av r.1.linksN cv) ∧ V.cell? ⟨g2, 1, none⟩ = some (.string ⟨(cutC 32 (cutC 32 l).2.1).1.toArray⟩) ∧ V.cell? ⟨g2, 2, none⟩ = some (.string ⟨(cutC 32 (cutC 32 (cutC 32 l).2.1).2.1).1.toArray⟩)) := fun V hV => ⟨(World.cell?_of_block (a := ⟨w.heap.size + 1, 0, none⟩) (hV (w.heap.size + 1) r2 (fun e => by have h1 := (U1.out.lt _ e.symm).1; have h2 := S5.out.lt; omega))).trans r0, (World.cell?_of_block (a := ⟨gd, R0.length * 6 + 5, none⟩) (hV (gd) hgl2 (fun e => (cu_ty S5.out.row.own gd rfl).ne (by decide) (cu_ty U1.out gd e.symm)))).trans m0, (World.cell?_of_block (a := ⟨g2, 1, none⟩) (hV (g2) l2 (fun e => by have h1 := ((SA.out.row.sub r (by simp)).lnk.lt _ e.symm).2; omega))).trans y1, (World.cell?_of_block (a := ⟨g2, 2, none⟩) (hV (g2) l2 (fun e => by have h1 := ((SA.out.row.sub r (by simp)).lnk.lt _ e.symm).2; omega))).trans y2⟩
          have HS := hide (SQ.out W2.drew (fun k hk _ => rfl))
          have B0 : Hid (Below W2.heap.size W2 W2.drew) := (Below.refl _ W2).drew
          refine wp_region_N (fun V => V.cell? ⟨w.heap.size + 1, 0, none⟩ = some (.slice (some ⟨gd, 0, none⟩) (R0.length + 1) c) ∧ V.cell? ⟨gd, R0.length * 6 + 5, none⟩ = some (.slice av r.1.linksN cv) ∧ V.cell? ⟨g2, 1, none⟩ = some (.string ⟨(cutC 32 (cutC 32 l).2.1).1.toArray⟩) ∧ V.cell? ⟨g2, 2, none⟩ = some (.string ⟨(cutC 32 (cutC 32 (cutC 32 l).2.1).2.1).1.toArray⟩)) 21 (by as_aux_lemma => kernel_rfl) ?_
          iterate 17
            refine anyN_nx 0 (v := ?_) rfl rfl (by as_aux_lemma => kernel_rfl) (fun _ _ _ h => h) rfl ?_ HS.out ?_
            rotate_left
            · (intro wz hSw; obtain ⟨s0, s1, s2, s3⟩ := hSw; go_simp)
              (try with_reducible rfl)
            (try simp only [Act.put, List.setIfInBounds_toArray, List.set_cons_zero, List.set_cons_succ])
          refine anyN_one (i := 17) rfl (by as_aux_lemma => kernel_rfl) (fun K hK => ?_)
          go_simp
          have B5 := hide (B0.out.alloc B0.out.size (.cells #[.string ⟨(cutC 32 (cutC 32 l).2.1).1.toArray⟩, .bool false, .bool ((cutC 32 (cutC 32 (cutC 32 l).2.1).2.1).1 == [49]), .int .i64 0] 58))
          refine hK.out _ _ (fun _ => SQ.out _ (fun k hk _ => B5.out.block k hk)) ?_
          clear hK K
          (try simp only [Act.put, List.setIfInBounds_toArray, List.set_cons_zero, List.set_cons_succ])
          refine anyN_one (i := 18) rfl (by as_aux_lemma => kernel_rfl) (fun K hK => ?_)
          (refine step_append_own_at rfl (.tmp 169) (.tmp 178) 49 rfl W0.heap.size 58 i3 (.agg #[.string ⟨#[]⟩, .bool false, .bool false, .int .i64 0]) 4 32 Tryz.underlying49 hi3 hv0 hv1 hv2 rfl (by decide) (.slice av r.1.linksN cv) r.1.linksN (lnkL r.1.links r.1.linksN) (by simp [Act.eval]) (by rw [← HAV.out]; first | exact U1.out.alloc _ | exact U1.out.drew.alloc _ | exact U1.out.drew.drew.alloc _ | exact U1.out.drew.drew.drew.alloc _) ⟨W2.heap.size, 0, none⟩ 1 1 [.string ⟨(cutC 32 (cutC 32 l).2.1).1.toArray⟩, .bool false, .bool ((cutC 32 (cutC 32 (cutC 32 l).2.1).2.1).1 == [49]), .int .i64 0] (by simp [Act.eval]) rfl (by first | exact four_at W2 _ _ _ _ _ | exact four_at W2.drew _ _ _ _ _ | exact four_at W2.drew.drew _ _ _ _ _ | exact four_at W2.drew.drew.drew _ _ _ _ _) (by simp [Value.oneCell']) (by unfold maxLen; omega) (by omega) (by simp; omega) ?_; intro v6 w6 hown hgrow hat; rw [← HAV.out] at hgrow hat; (first | have Z6 := hide (S5.out.moreL (x := ⟨⟨(cutC 32 (cutC 32 l).2.1).1.toArray⟩, false, (cutC 32 (cutC 32 (cutC 32 l).2.1).2.1).1 == [49], 0⟩) (Below.refl _ W2) hown hgrow hat) | have Z6 := hide (S5.out.moreL (x := ⟨⟨(cutC 32 (cutC 32 l).2.1).1.toArray⟩, false, (cutC 32 (cutC 32 (cutC 32 l).2.1).2.1).1 == [49], 0⟩) (Below.refl _ W2).drew hown hgrow hat) | have Z6 := hide (S5.out.moreL (x := ⟨⟨(cutC 32 (cutC 32 l).2.1).1.toArray⟩, false, (cutC 32 (cutC 32 (cutC 32 l).2.1).2.1).1 == [49], 0⟩) (Below.refl _ W2).drew.drew hown hgrow hat) | have Z6 := hide (S5.out.moreL (x := ⟨⟨(cutC 32 (cutC 32 l).2.1).1.toArray⟩, false, (cutC 32 (cutC 32 (cutC 32 l).2.1).2.1).1 == [49], 0⟩) (Below.refl _ W2).drew.drew.drew hown hgrow hat)); obtain ⟨a6, c6, rfl⟩ := cu_slice hown; have k0 := Z6.out.2.2.1; have k1 := Z6.out.2.2.2.1; have k2 := Z6.out.2.2.2.2.1; have k3 := Z6.out.2.2.2.2.2.c0; have k4 := Z6.out.2.2.2.2.2.lt; rw [HAV.out] at k0; have G6 := hide (SQ.out w6 (grown_keep (by first | exact B5.out | exact B5.out.drew) hgrow)); clear hown hgrow hat)
          refine hK.out _ _ (fun _ => G6.out) ?_
          clear hK K
          (try simp only [Act.put, List.setIfInBounds_toArray, List.set_cons_zero, List.set_cons_succ])
          refine anyN_one (i := 19) rfl (by as_aux_lemma => kernel_rfl) (fun K hK => ?_)
          go_simp
          refine hK.out _ _ (fun _ => G6.out) ?_
          clear hK K
          (try simp only [Act.put, List.setIfInBounds_toArray, List.set_cons_zero, List.set_cons_succ])
          refine anyN_one (i := 20) rfl (by as_aux_lemma => kernel_rfl) (fun K hK => ?_)
          go_simp
          refine hK.out _ _ (fun _ => G6.out) ?_
          clear hK K
          (try simp only [Act.put, List.setIfInBounds_toArray, List.set_cons_zero, List.set_cons_succ])
          refine anyN_one (i := 21) rfl (by as_aux_lemma => kernel_rfl) (fun K hK => ?_)
          go_simp
          refine hK.out _ _ (fun h => absurd rfl h) ?_
          clear hK K
          (try simp only [Act.put, List.setIfInBounds_toArray, List.set_cons_zero, List.set_cons_succ])
          refine anyN_done (by as_aux_lemma => kernel_rfl) ?_ _
          go_simp
          go_wp2
          exact ⟨⟨j + 1, by omega, by go_num, L6I.next HLJ.out SG.out (Z6.out.1.len (by simp)) (by have hz := SZ.out; rw [List.map_append, List.map_cons, List.map_nil] at hz ⊢; exact hz.lkA _ (by show (cutC 32 (cutC 32 l).2.1).1.toArray.size ≤ 300000; rw [List.size_toArray]; omega)) (K5.out.trans Z6.out.2.1) (fun e => absurd e NE.out) (fun G h => by
              obtain ⟨D0, d, h1, h4⟩ := GN.out G h
              rw [List.map_append, List.map_cons, List.map_nil] at h1 ⊢
              obtain ⟨rfl, h5⟩ := List.append_inj' h1 rfl
              cases h5
              rw [h4])⟩, by simp [intOf]; omega⟩
      have m_src : ((cutC 32 l).1 == [115, 111, 117, 114, 99, 101]) = false := by simpa using h_src
      have m_non : ((cutC 32 l).1 == [110, 111, 110, 101]) = false := by simpa using h_non
      have m_tgt : ((cutC 32 l).1 == [116, 97, 114, 103, 101, 116]) = false := by simpa using h_tgt
      have m_do : ((cutC 32 l).1 == [100, 111]) = false := by simpa using h_do
      have m_ask : ((cutC 32 l).1 == [97, 115, 107]) = false := by simpa using h_ask
      have m_has : ((cutC 32 l).1 == [104, 97, 115]) = false := by simpa using h_has
      have GO := hide (fun G (h : Good (R.map (·.1)) l G) => gs_other h h_src h_non h_tgt h_do h_ask h_has)
      go_wp2
      exact ⟨⟨j + 1, by omega, by go_num, L6I.next HLJ.out SG.out S1.out (SZ.out.up (Nat.le_succ _)) K1.out (fun _ => rfl) (fun G h => (GO.out G h).symm)⟩, by simp [intOf]; omega⟩
    · obtain rfl : j = ls.length := by omega
      have S9 := hide (SA.out)
      have cb := SA.out.box.c0
      have bk := hide ((SK.out.keep w.heap.size (by omega) (by omega) (.inl (by omega))).trans BW.out)
      have b0 := (AcB.c0 bk.out)
      have b1 := (AcB.fz bk.out)
      have b2 := (AcB.lt bk.out)
      have BF := hide (AcB.set bk.out (.slice a R.length c))
      have AF := hide ((AW.out.trans (SK.out.below (n := w.heap.size) (by omega) (by omega) (by omega))).setCell (p := ⟨w.heap.size, 0, none⟩) (Nat.le_refl _) (.slice a R.length c))
      have DF := hide ((SA.out.row.set (p := ⟨w.heap.size, 0, none⟩) (e := 0) (.inl (by show w.heap.size < W0.heap.size; omega)) (.slice a R.length c)).mono (show w.heap.size + 2 ≤ W0.heap.size by omega))
      go_wp2
      try simp only [Exit.inBlock, Exit.then]
      refine bodyPost_ret (res_acc1 rfl _ _ w.heap.size _ rfl BF.out) rfl ?_
      refine ⟨AF.out, a, c, R, rfl, DF.out, SZ.out.up (by omega), fun E hE => ?_⟩
      have h := SG.out E hE
      rw [List.drop_length] at h
      exact h

end Go.Proofs.YtkbhcajiebeepaaGreatDoor.Vp
