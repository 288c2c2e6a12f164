/-
  l1Quote: a text in quotes.
-/
import Derived.Test.YtolpgafkojlkoaaDoorPpRow
import Derived.Test.YtolpgafkojlkoaaDoorPpHex
namespace Go.Proofs.YtolpgafkojlkoaaDoor.Vp
open Go.RowKit

/-- The two digits lie in block h. -/
def HexAt (w : World) (h : Nat) (c : UInt8) : Prop := ∀ j (hj : j < (hex2 c).length), w.cell? ((⟨h, 0, none⟩ : Addr).add j) = some (.int .u8 (hex2 c)[j].toNat)
theorem add_block (h j : Nat) : ((⟨h, 0, none⟩ : Addr).add j).block = h := by
  unfold Addr.add
  split <;> rfl
theorem HexAt.kept {w w' : World} {h : Nat} {c : UInt8} (H : HexAt w h c) (e : w'.heap[h]? = w.heap[h]?) : HexAt w' h c := fun j hj => (World.cell?_of_block (w := w) (a := (⟨h, 0, none⟩ : Addr).add j) (by rw [add_block]; exact e)).trans (H j hj)
theorem l1Hex_at (c : UInt8) (w : World) :
    Calls Tryd.prog 93 #[.int .u8 c.toNat] w fun e w' => e = .returned (.slice (some ⟨w.heap.size, 0, none⟩) 2 2) ∧ HexAt w' w.heap.size c ∧ w.heap.size < w'.heap.size ∧ Below w.heap.size w w' :=
  (l1Hex_any c w).mono fun _ _ ⟨he, ho, hb⟩ => ⟨he, fun j hj => Bs.cell (l := hex2 c) ho j hj, (ho.lt w.heap.size rfl).2, hb⟩
set_option linter.unusedSimpArgs false in
set_option maxRecDepth 100000 in
set_option maxHeartbeats 2000000 in
theorem l1Quote_any (s : ByteArray) (w : World) (hs : s.size ≤ 2000) :
    Calls Tryd.prog 86 #[.string s] w fun e w' => e = .returned (.string ⟨(quoteB s.data.toList).toArray⟩) ∧ Below w.heap.size w w' := by
  go_enter Tryd.func86, Tryd.ntmps86
  go_wp2
  go_loopw [3, 4] (fun v i wr => ∃ k : Nat, k ≤ s.size ∧ i = .int .i64 k ∧ Bs wr w.heap.size v (qTo s.data.toList k) ∧ Below w.heap.size w wr) (fun _ i _ => s.size - (intOf i).toNat)
  case atStart => exact ⟨0, by omega, rfl, Bs.lit w _ [34] (Nat.le_refl _) (by unfold maxLen; simp) _ rfl, (Below.refl _ _).alloc (Nat.le_refl _) _⟩
  case round =>
    obtain ⟨k, hk, rfl, hO, hB⟩ := hrel
    have HB := hide hB
    have HO := hide hO
    have hsz : w.heap.size ≤ wr.heap.size := hB.size
    clear hB hO
    have hql := qTo_le s.data.toList k
    obtain ⟨g, cap, rfl, hg0, hg1⟩ := HO.form (qTo_ne _ _)
    by_cases hlt : k < s.size
    · have HQ := hide (qTo_succ s k hlt)
      have hc := s[k].toNat_lt
      by_cases hp : 32 ≤ (s[k].toNat : Int) ∧ (s[k].toNat : Int) ≤ 126 ∧ ((s[k].toNat : Int) != 34) = true ∧ ((s[k].toNat : Int) != 92) = true
      · obtain ⟨p1, p2, p3, p4⟩ := hp
        go_wp2_with (at_builtin; refine wp_app rfl _ _ rfl w.heap.size _ (qTo s.data.toList k) rfl ?h1 ⟨wr.heap.size, 0, none⟩ 1 [s[k]] rfl ?h2 ?h3 ?h4 ?_)
        case h1 => exact HO.below ((Below.refl _ _).alloc (Nat.le_refl _) _) (Nat.le_refl _)
        case h2 =>
          intro j hj
          obtain rfl : j = 0 := by simpa using hj
          simp [Addr.add]
        case h3 => simp only [List.length_cons, List.length_nil]; omega
        case h4 => simp; omega
        intro v' w' hv' hg'
        have HV' := hide hv'
        have HG' : Hid (Below w.heap.size w w') := (HB.alloc hsz _).grown hg' (by simp; omega) (fun x hx => by simp [Value.ownBlock] at hx; omega)
        clear hv' hg'
        go_wp2
        exact ⟨⟨k + 1, by omega, by go_num, by rw [HQ.out]; unfold enc; rw [if_pos (by simp [plainC] at *; omega)]; exact HV', HG'⟩, by simp [intOf]; omega⟩
      · have hn : (s[k].toNat : Int) < 32 ∨ (32 ≤ (s[k].toNat : Int) ∧ 126 < (s[k].toNat : Int)) ∨ (32 ≤ (s[k].toNat : Int) ∧ (s[k].toNat : Int) ≤ 126 ∧ ((s[k].toNat : Int) != 34) = false) ∨ (32 ≤ (s[k].toNat : Int) ∧ (s[k].toNat : Int) ≤ 126 ∧ ((s[k].toNat : Int) != 34) = true ∧ ((s[k].toNat : Int) != 92) = false) := by
          simp only [bne_iff_ne, ne_eq, bne_eq_false_iff_eq] at hp ⊢
          omega
        have HE : Hid (enc s[k] = [92] ++ hex2 s[k]) := by
          show enc s[k] = [92] ++ hex2 s[k]
          unfold enc
          rw [if_neg]
          · rfl
          · simp only [bne_iff_ne, ne_eq] at hp
            simp [plainC]
            omega
        clear hp
        rcases hn with p1 | ⟨p1, p2⟩ | ⟨p1, p2, p3⟩ | ⟨p1, p2, p3, p4⟩
        all_goals
          go_wp2_with fail
          go_region_law (first
            | (refine step_app rfl (.tmp 40) (.tmp 41) rfl w.heap.size (.slice (some ⟨g, 0, none⟩) (qTo s.data.toList k).length cap) (qTo s.data.toList k) (by simp [Act.eval, Act.put]) ?_ ⟨wr.heap.size, 0, none⟩ 1 [92] (by simp [Act.eval, Act.put]) ?_ ?_ ?_ ?_
               · exact HO.below ((Below.refl _ _).alloc (Nat.le_refl _) _).drew (Nat.le_refl _)
               · exact one_atP (by simp)
               · simp only [List.length_append, List.length_cons, List.length_nil, hex2]; omega
               · first | (simp; omega) | omega
               intro v1 wA hv1 hgA
               obtain ⟨g1, cap1, rfl, hg2, hg3⟩ := hv1.form (by simp)
               have HV1 := hide hv1
               have HGA : Hid (Below w.heap.size w wA) := Below.grown ((HB.alloc hsz _).drew) hgA (by first | (simp; omega) | omega) (fun x hx => by simp [Value.ownBlock] at hx; omega)
               have hsA : w.heap.size ≤ wA.heap.size := HGA.size
               clear hv1 hgA)
            | (refine step_app rfl (.tmp 42) (.tmp 46) rfl w.heap.size (.slice (some ⟨g1, 0, none⟩) (qTo s.data.toList k ++ [92]).length cap1) (qTo s.data.toList k ++ [92]) (by simp [Act.eval, Act.put]) ?_ ⟨wA.heap.size, 0, none⟩ 2 (hex2 s[k]) (by simp [Act.eval, Act.put, hex2]) ?_ ?_ ?_ ?_
               · exact HV1.below HBH (Nat.le_refl _)
               · exact HH
               · simp only [List.length_append, List.length_cons, List.length_nil, hex2]; omega
               · first | (simp; omega) | omega
               intro v2 wZ hv2 hgZ
               have HV2 := hide hv2
               have HGZ : Hid (Below w.heap.size w wZ) := Below.grown (HGA.trans (HBH.mono hsA)) hgZ (by first | (simp; omega) | omega) (fun x hx => by simp [Value.ownBlock] at hx; omega)
               clear hv2 hgZ)
            | (refine step_app rfl (.tmp 40) (.tmp 41) rfl w.heap.size (.slice (some ⟨g, 0, none⟩) (qTo s.data.toList k).length cap) (qTo s.data.toList k) (by simp [Act.eval, Act.put]) ?_ ⟨wr.heap.size, 0, none⟩ 1 [92] (by simp [Act.eval, Act.put]) ?_ ?_ ?_ ?_
               · exact HO.below (((Below.refl _ _).alloc (Nat.le_refl _) _).drew.trans (HBH.mono (by simp))) (Nat.le_refl _)
               · exact one_atP ((HBH.cell (p := ⟨wr.heap.size, 0, none⟩) (by simp)).trans (by simp))
               · simp only [List.length_append, List.length_cons, List.length_nil, hex2]; omega
               · first | (simp; omega) | omega
               intro v1 wA hv1 hgA
               obtain ⟨g1, cap1, rfl, hg2, hg3⟩ := hv1.form (by simp)
               have HV1 := hide hv1
               have HGA : Hid (Below w.heap.size w wA) := Below.grown ((HB.alloc hsz _).drew.trans (HBH.mono (by simp; omega))) hgA (by first | (simp; omega) | omega) (fun x hx => by simp [Value.ownBlock] at hx; omega)
               have hsA : w.heap.size ≤ wA.heap.size := HGA.size
               have HHA : Hid (HexAt wA (wr.heap.size + 1) s[k]) := HH.kept (hgA.block _ (by simpa using hHl) (by simp [Value.ownBlock]; omega))
               clear hv1 hgA)
            | (refine step_app rfl (.tmp 40) (.tmp 41) rfl w.heap.size (.slice (some ⟨g, 0, none⟩) (qTo s.data.toList k).length cap) (qTo s.data.toList k) (by simp [Act.eval, Act.put]) ?_ ⟨wH.heap.size, 0, none⟩ 1 [92] (by simp [Act.eval, Act.put]) ?_ ?_ ?_ ?_
               · exact HO.below (((Below.refl _ _).drew.trans HBH).alloc HBH.size _) (Nat.le_refl _)
               · exact one_atP (by simp)
               · simp only [List.length_append, List.length_cons, List.length_nil, hex2]; omega
               · first | (simp; omega) | omega
               intro v1 wA hv1 hgA
               obtain ⟨g1, cap1, rfl, hg2, hg3⟩ := hv1.form (by simp)
               have HV1 := hide hv1
               have HGA : Hid (Below w.heap.size w wA) := Below.grown (((HB.drew.trans (HBH.mono hsz)).alloc (Nat.le_trans hsz HBH.size) _)) hgA (by first | (simp; omega) | omega) (fun x hx => by simp [Value.ownBlock] at hx; omega)
               have hsA : w.heap.size ≤ wA.heap.size := HGA.size
               have HHA : Hid (HexAt wA wr.heap.size s[k]) := (HH.kept (Below.heap_alloc _ _ _ hHl)).kept (hgA.block _ (by simp; omega) (by simp [Value.ownBlock]; omega))
               clear hv1 hgA)
            | (refine step_app rfl (.tmp 42) (.tmp 46) rfl w.heap.size (.slice (some ⟨g1, 0, none⟩) (qTo s.data.toList k ++ [92]).length cap1) (qTo s.data.toList k ++ [92]) (by simp [Act.eval, Act.put]) ?_ ⟨wr.heap.size + 1, 0, none⟩ 2 (hex2 s[k]) (by simp [Act.eval, Act.put, hex2]) ?_ ?_ ?_ ?_
               · exact HV1
               · exact HHA
               · simp only [List.length_append, List.length_cons, List.length_nil, hex2]; omega
               · first | (simp; omega) | omega
               intro v2 wZ hv2 hgZ
               have HV2 := hide hv2
               have HGZ : Hid (Below w.heap.size w wZ) := Below.grown (HGA) hgZ (by first | (simp; omega) | omega) (fun x hx => by simp [Value.ownBlock] at hx; omega)
               clear hv2 hgZ)
            | (refine step_app rfl (.tmp 42) (.tmp 46) rfl w.heap.size (.slice (some ⟨g1, 0, none⟩) (qTo s.data.toList k ++ [92]).length cap1) (qTo s.data.toList k ++ [92]) (by simp [Act.eval, Act.put]) ?_ ⟨wr.heap.size, 0, none⟩ 2 (hex2 s[k]) (by simp [Act.eval, Act.put, hex2]) ?_ ?_ ?_ ?_
               · exact HV1
               · exact HHA
               · simp only [List.length_append, List.length_cons, List.length_nil, hex2]; omega
               · first | (simp; omega) | omega
               intro v2 wZ hv2 hgZ
               have HV2 := hide hv2
               have HGZ : Hid (Below w.heap.size w wZ) := Below.grown (HGA) hgZ (by first | (simp; omega) | omega) (fun x hx => by simp [Value.ownBlock] at hx; omega)
               clear hv2 hgZ)
            | (go_simp; go_at_call 93; refine (l1Hex_at _ _).mono ?_; rintro e wH ⟨rfl, hH, hHl, hBH⟩; have HH := hide hH; have HBH := hide hBH; clear hH hBH))
          all_goals
            go_wp2
            exact ⟨⟨k + 1, by omega, by go_num, by rw [HQ.out, HE.out, ← List.append_assoc]; exact HV2, HGZ⟩, by simp [intOf]; omega⟩
    · have e : k = s.size := by omega
      subst e
      have HQ : Hid (quoteB s.data.toList = qTo s.data.toList s.size ++ [34]) := by
        show quoteB s.data.toList = qTo s.data.toList s.size ++ [34]
        unfold quoteB
        simp
      go_wp2_with (at_builtin; refine wp_app rfl _ _ rfl w.heap.size _ (qTo s.data.toList s.size) rfl ?h1 ⟨wr.heap.size, 0, none⟩ 1 [34] rfl ?h2 ?h3 ?h4 ?_)
      case h1 => exact HO.below ((Below.refl _ _).alloc (Nat.le_refl _) _) (Nat.le_refl _)
      case h2 => exact one_atP (by simp)
      case h3 => simp only [List.length_cons, List.length_nil]; omega
      case h4 => simp; omega
      intro v' w' hv' hg'
      have HG' : Hid (Below w.heap.size w w') := (HB.alloc hsz _).grown hg' (by simp; omega) (fun x hx => by simp [Value.ownBlock] at hx; omega)
      have hcv := conv_row w' _ v' _ hv' (by simp)
      rw [← HQ.out] at hcv
      clear hv' hg'
      go_wp2
      go_ret
      exact ⟨rfl, HG'⟩

end Go.Proofs.YtolpgafkojlkoaaDoor.Vp
