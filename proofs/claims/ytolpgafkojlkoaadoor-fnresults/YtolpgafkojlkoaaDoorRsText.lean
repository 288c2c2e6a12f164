/-
  The draws: l1Text.
-/
import Derived.Test.YtolpgafkojlkoaaDoorRsDraw
import Derived.Test.YtolpgafkojlkoaaDoorDRowS
import Derived.Lib.ItoaMem
namespace Go.Proofs.YtolpgafkojlkoaaDoor.Vp
open Go.RowKit

def rowB (xs : List UInt8) : List Value := xs.map fun c => .int .u8 (c.toNat : Int)
theorem infoU8 : (Tryd.prog.info? 5).map (fun i => (i.zero, i.size, i.bytes)) = some (some (.int .u8 0), 1, 1) := by kernel_rfl
theorem own_only {w w' : World} {base R : Nat} {e : TypeId} {size n : Nat} {v : Value} {xs : List Value} (h : w.ownsRow base e size v n xs) (ho : Only R w w') (hR : R < base) : w'.ownsRow base e size v n xs := by
  refine h.kept (row := some R) ⟨ho.os, ho.tape, ho.output, ho.size, fun k hk hne => ho.block k hk (by simpa using hne)⟩ ?_
  rcases h.2 with ⟨rfl, _⟩ | ⟨g, cap, cur, rfl, hg, _⟩
  · exact .inl rfl
  · right
    simp [Value.ownBlock]
    omega
theorem drawn_byte {z : Int} (h0 : 0 ≤ z) (h1 : z < 159) : ∃ c : UInt8, 97 + z = (c.toNat : Int) := by
  obtain ⟨k, rfl⟩ := Int.eq_ofNat_of_zero_le h0
  refine ⟨UInt8.ofNat (97 + k), ?_⟩
  rw [UInt8.toNat_ofNat']
  omega

theorem rowB_snoc (xs : List UInt8) (c : UInt8) : rowB (xs ++ [c]) = rowB xs ++ [.int .u8 (c.toNat : Int)] := by simp [rowB]
/-- string(row of bytes). -/
theorem conv_all (xs : List UInt8) (w : World) (g cap k : Nat) (hk : xs.length = k) (hc : ∀ j (hj : j < xs.length), w.cell? ((⟨g, 0, none⟩ : Addr).add j) = some (.int .u8 (xs[j].toNat : Int))) :
    (convert 31 9 (.slice (some ⟨g, 0, none⟩) k cap)).run Tryd.prog w = .ok (.string ⟨xs.toArray⟩) w := by
  subst hk
  refine run_convert_bytes_back _ 31 9 5 ⟨g, 0, none⟩ cap xs Tryd.underlying31 Tryd.underlying5 Tryd.underlying9 ?_
  intro j hj
  exact hc j hj

set_option maxRecDepth 100000 in
set_option maxHeartbeats 4000000 in
theorem l1Text_any (R p : Nat) (w : World) (hR : Rd w R p) (hp : (p : Int) ≤ 50000) :
    Calls Tryd.prog 37 #[.pointer (some ⟨R, 0, none⟩)] w fun e w' => ∃ t : ByteArray, e = .returned (.string t) ∧ t.size ≤ 8 ∧ ∃ q : Nat, q ≤ p + 8 ∧ Rd w' R q ∧ Only R w w' := by
  have HR := hide hR
  clear hR
  go_enter Tryd.func37, Tryd.ntmps37
  go_wp2_with fail
  refine (pick_any R p 12 _ HR (by omega) (by omega) (by omega)).mono ?_
  rintro e w1 ⟨z, rfl, hz0, hz1, hR1, hO1⟩
  have R1 := hide hR1
  have O1 := hide hO1
  clear hR1 hO1
  by_cases h3 : z = 3
  · subst h3
    have A1 := hide ((Below.refl w1.heap.size w1).alloc (Nat.le_refl _) (.cells #[.string ⟨#[97, 32, 98]⟩, .string ⟨#[97, 9, 98, 32, 99]⟩] 9))
    have R2 := hide (R1.below A1 (Nat.le_refl _))
    have k0 : (w1.alloc (.cells #[.string ⟨#[97, 32, 98]⟩, .string ⟨#[97, 9, 98, 32, 99]⟩] 9)).cell? ⟨w1.heap.size, 0, none⟩ = some (.string ⟨#[97, 32, 98]⟩) := by simp
    have k1 : (w1.alloc (.cells #[.string ⟨#[97, 32, 98]⟩, .string ⟨#[97, 9, 98, 32, 99]⟩] 9)).cell? ⟨w1.heap.size, 1, none⟩ = some (.string ⟨#[97, 9, 98, 32, 99]⟩) := by simp
    go_wp2_with fail
    refine (pick_any R (p + 1) 2 _ R2 (by omega) (by omega) (by omega)).mono ?_
    rintro e w2 ⟨y, rfl, hy0, hy1, hR2, hO2⟩
    have hl := R1.lt
    have j0 := (hO2.cell w1.heap.size 0 (by simp) (by omega)).trans k0
    have j1 := (hO2.cell w1.heap.size 1 (by simp) (by omega)).trans k1
    have R3 := hide hR2
    have O3 := hide ((O1.trans (Only.of_below A1)).trans hO2)
    clear hR2 hO2 k0 k1 A1
    rcases (show y = 0 ∨ y = 1 by omega) with rfl | rfl
    all_goals
      go_wp2
      go_ret
      exact ⟨_, rfl, by decide, p + 1 + 1, by omega, R3, O3⟩
  by_cases h6 : z < 6
  · rcases (show z = 0 ∨ z = 1 ∨ z = 2 ∨ z = 4 ∨ z = 5 by omega) with rfl | rfl | rfl | rfl | rfl
    all_goals
      go_wp2
      go_ret
      exact ⟨_, rfl, by decide, p + 1, by omega, R1, O1⟩
  have n0 : ¬ z = 0 := by omega
  have n1 : ¬ z = 1 := by omega
  have n2 : ¬ z = 2 := by omega
  have n4 : ¬ z = 4 := by omega
  have n5 : ¬ z = 5 := by omega
  go_wp2_with fail
  refine (pick_any R (p + 1) 5 _ R1 (by omega) (by omega) (by omega)).mono ?_
  rintro e w2 ⟨y, rfl, hy0, hy1, hR2, hO2⟩
  have R2 := hide hR2
  have O2 := hide (O1.trans hO2)
  have hl2 := hR2.lt
  clear hR2 hO2
  have A2 := hide ((Below.refl w2.heap.size w2).alloc (Nat.le_refl _) (.cells #[] 5))
  have W2 := hide (World.ownsRow_made w2 #[] 0 (e := 5) (size := 1) (Nat.le_refl w2.heap.size) (by unfold maxLen; omega) rfl)
  obtain ⟨m, rfl⟩ := Int.eq_ofNat_of_zero_le hy0
  obtain ⟨i0', hi, hq0, hq1, hq2⟩ := info_parts infoU8
  go_wp2
  go_loopw [4, 5] (fun v i wr => ∃ (k : Nat) (xs : List UInt8), k ≤ m + 1 ∧ i = .int .i64 k ∧ Hid (xs.length = k) ∧ Hid (wr.ownsRow w2.heap.size 5 1 v k (rowB xs)) ∧ Hid (Rd wr R (p + 2 + k)) ∧ Hid (Only R w2 wr)) (fun _ i _ => m + 1 - (intOf i).toNat)
  case atStart => exact ⟨0, [], by omega, rfl, rfl, W2, R2.below A2 (Nat.le_refl _), Only.of_below A2⟩
  case round =>
    obtain ⟨k, xs, hk, rfl, HL, OW, RR, OO⟩ := hrel
    have hsz : w2.heap.size ≤ wr.heap.size := OO.size
    by_cases hlt : (k : Int) ≤ m
    · go_wp2_with fail
      refine (pick_any R (p + 2 + k) 4 _ RR (by omega) (by omega) (by omega)).mono ?_
      rintro e w3 ⟨c, rfl, hc0, hc1, hR3, hO3⟩
      obtain ⟨C, hC⟩ := drawn_byte hc0 (by omega)
      have R3 := hide hR3
      have O3 := hide (OO.trans hO3)
      have OW3 := hide (own_only OW hO3 hl2)
      have hsz3 : w2.heap.size ≤ w3.heap.size := O3.size
      clear hR3 hO3
      go_wp2_with (at_builtin; refine wpList_append_own _ rfl (.tmp 33) (.tmp 38) 31 rfl w2.heap.size 5 i0' (.int .u8 0) 1 1 Tryd.underlying31 hi hq0 hq1 hq2 rfl (by decide) _ k (rowB xs) (by simp [Act.eval]) (OW3.alloc _) ⟨w3.heap.size, 0, none⟩ 1 1 [.int .u8 (C.toNat : Int)] (by simp [Act.eval]) rfl (one_new _ _ _) (by simp [Value.oneCell']) (by unfold maxLen; omega) (by omega) (by simp; omega) ?_; intro v' w4 hown hgrow hnil; have O4 := hide hown; have B4 := hide (Below.grown ((Below.refl w2.heap.size w3).alloc hsz3 (.cells #[.int .u8 (C.toNat : Int)] 5)) hgrow (by simp; omega) (fun j e => (OW3.lt j e).1)); clear hown hgrow hnil)
      refine ⟨⟨k + 1, xs ++ [C], by omega, by go_num, by show (xs ++ [C]).length = k + 1; simp [HL.out], ?_, ?_, O3.then B4.out⟩, by simp [intOf]; omega⟩
      · show World.ownsRow _ _ _ _ _ _ _
        rw [rowB_snoc]
        exact O4
      · exact R3.low B4 hl2
    · have O5 := hide (O2.trans OO)
      obtain ⟨g, cap, rfl⟩ := own_form OW (by omega)
      have hcv := conv_all xs wr g cap k HL.out (fun j hj => OW.cells (g := g) rfl j _ (by simp [rowB, hj]))
      have hsz2 : (⟨xs.toArray⟩ : ByteArray).size ≤ 8 := by
        show xs.toArray.size ≤ 8
        have := HL.out
        simp
        omega
      have HZ := hide hsz2
      generalize (⟨xs.toArray⟩ : ByteArray) = T at hcv HZ
      clear hsz2 
      go_wp2
      go_ret
      exact ⟨T, rfl, HZ, p + 2 + k, by omega, RR, O5⟩

end Go.Proofs.YtolpgafkojlkoaaDoor.Vp
