/-
  Put together of: FoSpec.
-/
import Derived.Test.YtkbhcajiebeepaaGreatDoorZU
import Derived.Test.YtkbhcajiebeepaaGreatDoorYA
import Derived.Test.YtkbhcajiebeepaaGreatDoorZS

/-
  spec: FormAccount.
-/
namespace Go.Proofs.YtkbhcajiebeepaaGreatDoor.Vp
open Go.RowKit

theorem l6Deed_any {f : Nat → Deed} {n p : Nat} (h : accOk f n = true) (hp : p < n) (a0 : Option Addr) (cap0 : Nat) (a1 : Option Addr) (cap1 : Nat) (w : World) (hI : SlIns w a0 (f p).actN (f p).act) (hL : SlLink w a1 (f p).linksN (f p).links) :
    Calls Tryz.prog 28 #[.agg #[.string (f p).name, .int .i64 (f p).kind, .int .i64 (f p).code, .string (f p).text, .slice a0 (f p).actN cap0, .slice a1 (f p).linksN cap1]] w fun e w' => ∃ v xs, e = .returned v ∧ Lines w w' (f p) v xs := by
  obtain ⟨h1, h2, h3⟩ := accOk_form h p hp
  have hn := accOk_n h
  rcases h3 with h3 | h3 | ⟨hk, c1, c2, c3, c4, c5, c6⟩
  · exact l6Deed_src (f p) a0 cap0 a1 cap1 w h1 h2 h3
  · exact l6Deed_none (f p) a0 cap0 a1 cap1 w h1 h3
  · refine l6Deed_tgt (f p) a0 cap0 a1 cap1 w hI hL h1 h2 c1 c2 c3 c4 c5 (fun k hk => ?_) hk
    obtain ⟨q1, q2, q3⟩ := linkOk_size (linksOk_at c6 k hk)
    exact ⟨q1, q2, by omega⟩
/-- the lines' row, its block as a whole. -/
theorem lines_row {w : World} {B : Nat} {v : Value} {xs : List ByteArray} (h : w.ownsRow B 9 1 v xs.length (valS xs)) (hne : xs ≠ []) : ∃ g cap cur, v = .slice (some ⟨g, 0, none⟩) xs.length cap ∧ B ≤ g ∧ w.heap[g]? = some (.cells cur 9) ∧ ∀ (j : Nat) (x : ByteArray), xs[j]? = some x → cur[j]? = some (Value.string x) := by
  rcases h.2 with ⟨_, hz⟩ | ⟨g, cap, cur, hv, hbg, hg, hnc, hcm, hcs, htake⟩
  · exact absurd (by simpa using hz) hne
  · refine ⟨g, cap, cur, hv, hbg, hg, fun j x hx => ?_⟩
    have hj : j < xs.length := by
      rcases Nat.lt_or_ge j xs.length with h' | h'
      · exact h'
      · rw [List.getElem?_eq_none h'] at hx; cases hx
    have h1 : (cur.toList.take (xs.length * 1))[j]? = some (.string x) := by rw [htake]; simp [valS, hx]
    rw [List.getElem?_take] at h1
    rw [if_pos (by omega)] at h1
    simpa using h1
theorem mb_other {w w' : World} {B g : Nat} {v : Value} {l : List UInt8} {cur : Array Value} (ho : MB w B v l) (hg : w.heap[g]? = some (.cells cur 9)) (hgr : w.grownBy w' v.ownBlock) : w'.heap[g]? = some (.cells cur 9) := by
  have hlt : g < w.heap.size := (Array.getElem?_eq_some_iff.1 hg).1
  rw [hgr.block g hlt ?_]
  · exact hg
  · intro e
    obtain ⟨g', cap, c', fz, rfl, _, hgg, _⟩ := ho
    simp [Value.ownBlock] at e
    subst e
    rw [hg] at hgg
    injection hgg with h1
    injection h1 with _ h2
    exact absurd h2 (by decide)
theorem mb_conv (w : World) (s : ByteArray) (hs : s.size ≤ maxLen) : MB (Lib.bytesWorld w 5 s) w.heap.size (.slice (some ⟨w.heap.size, 0, none⟩) s.size (grownCap w s.size 0 5)) s.data.toList := by
  have e : s.data.toList.length = s.size := by simp
  have hge := grownCap_ge w s.size 0 5
  have hsz : (Lib.bytesCells w 5 s).size = grownCap w s.size 0 5 := by
    have e2 : s.data.size = s.size := rfl
    simp [Lib.bytesCells, e2]
    omega
  refine ⟨w.heap.size, grownCap w s.size 0 5, Lib.bytesCells w 5 s, _, by rw [e], Nat.le_refl _, Lib.bytesWorld_at_new w _ s, .inr (by rw [hsz]), by rw [e]; exact hge, grownCap_le_maxLen w _ 0 _ hs, hsz, fun j hj => ?_⟩
  rw [e] at hj
  have e2 : s.data.size = s.size := rfl
  unfold Lib.bytesCells
  rw [Array.getElem?_append_left (by simp; omega)]
  simp [Lib.byteCells]
theorem below_conv {B : Nat} {a w : World} (h : Below B a w) (s : ByteArray) (hB : B ≤ w.heap.size) : Below B a (Lib.bytesWorld w 5 s) :=
  Lib.below_freeze (h.drew.alloc hB _) (p := ⟨w.heap.size, _, none⟩) hB _
theorem mb_text {w : World} {B : Nat} {v : Value} {l : List UInt8} (h : MB w B v l) : (convert 60 9 v).run Tryz.prog w = .ok (.string ⟨l.toArray⟩) w := by
  obtain ⟨g, cap, cur, fz, rfl, _, hg, _, _, _, _, hc⟩ := h
  refine run_convert_bytes_back _ 60 9 5 ⟨g, 0, none⟩ cap l Tryz.underlying60 Tryz.underlying5 Tryz.underlying9 ?_
  intro j hj
  have h1 := hc j hj
  have hadd : (⟨g, 0, none⟩ : Addr).add j = ⟨g, j, none⟩ := by unfold Addr.add; split <;> simp_all
  rw [hadd]
  simp only [World.cell?, hg]
  simpa [Lib.byteCells, hj] using h1
theorem flatL_take {xs : List ByteArray} {j : Nat} {X : ByteArray} (h : xs[j]? = some X) : flatL (xs.take (j + 1)) = flatL (xs.take j) ++ X.data.toList ++ [10] := by
  rw [List.take_add_one, h]
  exact flatL_snoc _ _
theorem flatL_take_le (xs : List ByteArray) (j : Nat) : (flatL (xs.take j)).length ≤ (flatL xs).length := by
  have h : flatL xs = flatL (xs.take j) ++ flatL (xs.drop j) := by
    unfold flatL
    rw [← List.flatMap_append, List.take_append_drop]
  rw [h, List.length_append]
  omega
theorem le_of_big2 {L : Nat} (h : ¬ (300000 : Int) < (L : Int)) : L ≤ 300000 := by omega
theorem mb_len {w : World} {B : Nat} {v : Value} {l : List UInt8} (h : MB w B v l) : ∃ a cap, v = .slice a l.length cap := by
  obtain ⟨g, cap, cur, fz, rfl, _⟩ := h
  exact ⟨_, _, rfl⟩

set_option maxRecDepth 100000 in
set_option maxHeartbeats 4000000 in
theorem specForm_any (a : Option Addr) (n cap : Nat) (f : Nat → Deed) (w : World) (hn : (n : Int) ≤ 1048576) (hv : SlDeed w a n f) (hfit : ∀ i, i < n → FitsDeed (f i)) (hsz : ∀ i, i < n → SizedDeed (f i)) :
    Calls Tryz.prog 13 #[.agg #[.slice a n cap]] w fun e w' => e = .returned (.string ⟨(formB f n).toArray⟩) ∧ Below w.heap.size w w' := by
  have HV := hide hv
  have HM := hide hfit
  have HZ := hide hsz
  clear hv hfit hsz
  have A0 := hide ((Below.refl w.heap.size w).alloc (Nat.le_refl _) (.cells #[.slice a n cap] 24))
  have k0 : (w.alloc (.cells #[.slice a n cap] 24)).cell? ⟨w.heap.size, 0, none⟩ = some (.slice a n cap) := by simp
  have hz : w.heap.size < (w.alloc (.cells #[.slice a n cap] 24)).heap.size := by simp
  obtain ⟨T, hT⟩ : ∃ T, T = formB f n := ⟨_, rfl⟩
  rw [← hT]
  have HE := hide (show T = if accOk f n = true then (if (formTo f n n).length ≤ 300000 then formTo f n n else []) else [] from hT)
  clear hT
  go_enter Tryz.func13, Tryz.ntmps13
  go_wp2_with fail
  generalize w.alloc (.cells #[.slice a n cap] 24) = W at A0 k0 hz ⊢
  refine (l3Ok_any a n cap f _ hn (HV.out.below A0.out (Nat.le_refl _)) HM.out HZ.out).mono ?_
  rintro e w1 ⟨rfl, hB⟩
  have B1 := hide (A0.out.trans (hB.mono A0.out.size))
  have k1 := (hB.cell (p := ⟨w.heap.size, 0, none⟩) hz).trans k0
  have hz1 : w.heap.size < w1.heap.size := Nat.lt_of_lt_of_le hz hB.size
  clear hB A0 k0 hz
  have HO := hide (fun h : accOk f n = true => (⟨accOk_n h, h⟩ : (1 ≤ n ∧ n ≤ 400 ∧ firstNo (deedOk f) n = -1) ∧ accOk f n = true))
  obtain ⟨r, hr⟩ : ∃ r, r = accOk f n := ⟨_, rfl⟩
  rw [← hr] at HE ⊢
  have HRR := hide hr
  clear hr
  cases r with
  | false =>
    obtain rfl : T = [] := by have := HE.out; simpa using this
    go_wp2
    go_ret
    exact ⟨rfl, B1.out⟩
  | true =>
    have HF := hide (show T = if (formTo f n n).length ≤ 300000 then formTo f n n else [] by have := HE.out; simpa using this)
    obtain ⟨⟨hn1, hn4, -⟩, hacc⟩ := HO.out HRR.out.symm
    have HACC := hide hacc
    have HLE := hide (formTo_le hacc)
    clear HE HO HM hacc HRR
    obtain ⟨b, off, rfl, hrow⟩ := HV.out.resolve_left (by omega)
    have HR := hide (hrow.below B1.out (Nat.le_refl _))
    clear HV hrow
    have hd := dec_le n (by omega)
    have hA1 : ¬ 9223372036854775807 < 8 + (Lib.decDigits n).length := by omega
    have hA2 : ¬ 9223372036854775807 < 8 + (Lib.decDigits n).length + 1 := by omega
    go_wp2_with fail
    refine (l1Dec_any n (by omega) _).mono ?_
    rintro e w2 ⟨rfl, hB2⟩
    have B2 := hide hB2
    clear hB2
    have hcv := Lib.run_convert_string_bytes (P := Tryz.prog) w2 9 60 5 ((⟨#[97, 99, 99, 111, 117, 110, 116, 32]⟩ : ByteArray) ++ ⟨(Lib.decDigits n).toArray⟩ ++ ⟨#[10]⟩) (u := .string) Tryz.underlying9 Tryz.underlying60 Tryz.underlying5
    have hes : ((⟨#[97, 99, 99, 111, 117, 110, 116, 32]⟩ : ByteArray) ++ ⟨(Lib.decDigits n).toArray⟩ ++ ⟨#[10]⟩).size ≤ 40 := by simp only [ByteArray.size_append]; have h1 : (⟨#[97, 99, 99, 111, 117, 110, 116, 32]⟩ : ByteArray).size = 8 := rfl; have h2 : (⟨#[10]⟩ : ByteArray).size = 1 := rfl; have h3 : (⟨(Lib.decDigits n).toArray⟩ : ByteArray).size = (Lib.decDigits n).length := (by simp [ByteArray.size]); omega
    have M0 := hide (mb_conv w2 ((⟨#[97, 99, 99, 111, 117, 110, 116, 32]⟩ : ByteArray) ++ ⟨(Lib.decDigits n).toArray⟩ ++ ⟨#[10]⟩) (by unfold maxLen; omega))
    have C0 := hide (below_conv (Below.refl w2.heap.size w2) ((⟨#[97, 99, 99, 111, 117, 110, 116, 32]⟩ : ByteArray) ++ ⟨(Lib.decDigits n).toArray⟩ ++ ⟨#[10]⟩) (Nat.le_refl _))
    have ET : Hid (((⟨#[97, 99, 99, 111, 117, 110, 116, 32]⟩ : ByteArray) ++ ⟨(Lib.decDigits n).toArray⟩ ++ ⟨#[10]⟩).data.toList = formTo f n 0) := by show _ = _; simp [formTo]
    have k2 := (B2.out.cell (p := ⟨w.heap.size, 0, none⟩) hz1).trans k1
    have hz2 : w.heap.size < w2.heap.size := Nat.lt_of_lt_of_le hz1 B2.out.size
    generalize Lib.bytesWorld w2 5 ((⟨#[97, 99, 99, 111, 117, 110, 116, 32]⟩ : ByteArray) ++ ⟨(Lib.decDigits n).toArray⟩ ++ ⟨#[10]⟩) = w3 at hcv M0 C0
    generalize Value.slice (some ⟨w2.heap.size, 0, none⟩) ((⟨#[97, 99, 99, 111, 117, 110, 116, 32]⟩ : ByteArray) ++ ⟨(Lib.decDigits n).toArray⟩ ++ ⟨#[10]⟩).size (grownCap w2 ((⟨#[97, 99, 99, 111, 117, 110, 116, 32]⟩ : ByteArray) ++ ⟨(Lib.decDigits n).toArray⟩ ++ ⟨#[10]⟩).size 0 5) = v3 at hcv M0
    rw [ET.out] at M0
    clear ET hes
    go_wp2
    clear hcv hA1 hA2
    go_loopw [3, 4] (fun v i wr => ∃ k : Nat, k ≤ n ∧ i = .int .i64 k ∧ Hid (MB wr w2.heap.size v (formTo f n k)) ∧ Hid (Below w2.heap.size w2 wr)) (fun _ i _ => n - (intOf i).toNat)
    case atStart => exact ⟨0, by omega, rfl, M0.out, C0.out⟩
    case round =>
      obtain ⟨k, hk, rfl, HO3, HB⟩ := hrel
      have hlk := HLE.out k hk
      have RW := hide (B2.out.trans (HB.out.mono B2.out.size))
      have k3 := (HB.out.cell (p := ⟨w.heap.size, 0, none⟩) hz2).trans k2
      have hz3 : w.heap.size < wr.heap.size := Nat.lt_of_lt_of_le hz2 HB.out.size
      by_cases hlt : k < n
      · have hlt2 : (k : Int) < n := by omega
        obtain ⟨o0, o1, o2, o3, ⟨a0, cap0, o4, q4⟩, ⟨a1, cap1, o5, q5⟩⟩ := (HR.out.below RW.out (Nat.le_refl _)).2 k hlt
        have Q4 := hide (show SlIns wr a0 (f k).actN (f k).act from q4)
        have Q5 := hide (show SlLink wr a1 (f k).linksN (f k).links from q5)
        clear q4 q5
        go_wp2_with fail
        refine (l6Deed_any HACC.out hlt a0 cap0 a1 cap1 _ Q4.out Q5.out).mono ?_
        rintro e w5 ⟨v5, xs, rfl, hLn⟩
        obtain ⟨gl, cl, curl, rfl, hbl, hgl, hcl⟩ := lines_row hLn.own hLn.ne
        have HGL := hide hgl
        have HCL := hide hcl
        have HEQ := hide hLn.eq
        have hfew := hLn.few
        have B5 := hide (HB.out.trans (hLn.bel.mono HB.out.size))
        have O5 := hide (HO3.out.below hLn.bel (Nat.le_refl _))
        have hd5 := deedT_le HACC.out k hlt
        clear hLn hgl hcl o0 o1 o2 o3 o4 o5 k3 HO3 Q4 Q5
        go_wp2
        go_loopw [3, 6] (fun v i wr => ∃ j : Nat, j ≤ xs.length ∧ i = .int .i64 j ∧ Hid (MB wr w2.heap.size v (formTo f n k ++ flatL (xs.take j))) ∧ Hid (Below w2.heap.size w2 wr) ∧ Hid (wr.heap[gl]? = some (.cells curl 9))) (fun _ i _ => xs.length - (intOf i).toNat)
        case atStart => exact ⟨0, by omega, rfl, by show MB _ _ _ _; simpa [flatL] using O5.out, B5.out, HGL.out⟩
        case round =>
          obtain ⟨j, hj, rfl, HM6, HB6, HG6⟩ := hrel
          have z6 : w2.heap.size ≤ wr.heap.size := HB6.out.size
          by_cases hlj : j < xs.length
          · obtain ⟨X, hX⟩ : ∃ X, xs[j]? = some X := ⟨xs[j], by simp [hlj]⟩
            have cj : wr.cell? ⟨gl, j, none⟩ = some (.string X) := by
              have h1 := HCL.out j X hX
              simp only [World.cell?, HG6.out]
              exact h1
            have hgz : gl < wr.heap.size := (Array.getElem?_eq_some_iff.1 HG6.out).1
            have hlj2 : (j : Int) < xs.length := by omega
            have htk := flatL_take hX
            have hle : (flatL (xs.take (j + 1))).length ≤ 1300000 := Nat.le_trans (flatL_take_le xs (j + 1)) (by rw [HEQ.out]; exact hd5)
            have HTK := hide htk
            have hlx : (flatL (xs.take j)).length + X.size + 1 ≤ 1300000 := by
              rw [htk] at hle
              simp only [List.length_append, List.length_cons, List.length_nil] at hle
              have := size_list X
              omega
            have hsl := size_list X
            clear hle htk hX
            go_wp2_with (at_builtin; refine wp_mb_str rfl (.tmp 36) (.tmp 40) rfl w2.heap.size _ (formTo f n k ++ flatL (xs.take j)) (by simp [Act.eval]) HM6.out X (by simp [Act.eval]) ?h3 z6 ?_)
            case h3 => simp only [List.length_append]; omega
            intro v7 w7 hv7 hg7
            have M7 := hide hv7
            have B7 := hide (Below.grown HB6.out hg7 z6 (fun j e => (HM6.out.lt j e).1))
            have G7 := hide (mb_other HM6.out HG6.out hg7)
            have z7 : w2.heap.size ≤ w7.heap.size := B7.out.size
            clear hv7 hg7 cj
            go_wp2_with (at_builtin; refine wp_mb rfl _ _ rfl w2.heap.size _ (formTo f n k ++ (flatL (xs.take j) ++ X.data.toList)) rfl ?h1 ⟨w7.heap.size, 0, none⟩ 1 [10] rfl ?h2 ?h3 ?h4 ?_)
            case h1 => exact M7.out.below ((Below.refl _ _).alloc (Nat.le_refl _) _) (Nat.le_refl _)
            case h2 => exact fun j u hu => one_new w7 (.int .u8 10) _ j u (by simpa [Lib.byteCells] using hu)
            case h3 => simp only [List.length_append, List.length_cons, List.length_nil]; omega
            case h4 => simp; omega
            intro v8 w8 hv8 hg8
            have M8 := hide hv8
            have A7 := hide ((Below.refl w7.heap.size w7).alloc (Nat.le_refl _) (.cells #[.int .u8 10] 5))
            have B8 := hide (Below.grown (B7.out.alloc z7 _) hg8 (by simp; omega) (fun j e => (M7.out.lt j e).1))
            have G8 := hide (mb_other (M7.out.below A7.out (Nat.le_refl _)) ((A7.out.block gl (Array.getElem?_eq_some_iff.1 G7.out).1).trans G7.out) hg8)
            clear hv8 hg8
            go_wp2
            exact ⟨⟨j + 1, by omega, by go_num, by show MB _ _ _ _; rw [HTK.out]; simpa using M8.out, B8.out, G8.out⟩, by simp [intOf]; omega⟩
          · obtain rfl : j = xs.length := by omega
            go_wp2
            exact ⟨⟨k + 1, by omega, by go_num, by show MB _ _ _ _; rw [formTo, ← HEQ.out]; simpa using HM6.out, HB6.out⟩, by simp [intOf]; omega⟩
      · obtain rfl : k = n := by omega
        obtain ⟨av, cv, rfl⟩ := mb_len HO3.out
        have htx := mb_text HO3.out
        generalize hL5 : (formTo f k k).length = L5 at hlk htx ⊢
        have HL5 := hide hL5
        clear hL5
        by_cases hbig : (300000 : Int) < (L5 : Int)
        · obtain rfl : T = [] := by
            have h3 : ¬ (formTo f k k).length ≤ 300000 := by rw [HL5.out]; omega
            rw [HF.out, if_neg h3]
          go_wp2
          go_ret
          exact ⟨rfl, B1.out.trans (RW.out.mono B1.out.size)⟩
        · obtain rfl : T = formTo f k k := by
            have h3 : (formTo f k k).length ≤ 300000 := by rw [HL5.out]; exact le_of_big2 hbig
            rw [HF.out, if_pos h3]
          go_wp2
          go_ret
          exact ⟨rfl, B1.out.trans (RW.out.mono B1.out.size)⟩

end Go.Proofs.YtkbhcajiebeepaaGreatDoor.Vp
