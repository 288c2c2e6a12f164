/-
  Seal: the sixteen digits: spec.l6Digits.
-/
import Derived.Test.YtclalcefkmjenaaGreatDoorZSeSum
import Derived.Test.YtclalcefkmjenaaGreatDoorZPpRow
namespace Go.Proofs.YtclalcefkmjenaaGreatDoor.Vp
open Go.RowKit

/-- the last k digits of a number. -/
def digTo (z : Nat) : Nat → List UInt8
  | 0 => []
  | k + 1 => hexD (z / 16 ^ k % 16) :: digTo z k
theorem digTo_len (z k : Nat) : (digTo z k).length = k := by
  induction k with
  | zero => rfl
  | succ k ih => simp [digTo, ih]
theorem hexAt64 (k : Nat) (h : k < 16) (w : World) : (Instr.index 9 (.string ⟨#[48, 49, 50, 51, 52, 53, 54, 55, 56, 57, 97, 98, 99, 100, 101, 102]⟩) (.int .u64 (k : Int))).run Tryz.prog w = .ok (.int .u8 (hexD k).toNat) w := by
  rcases (show k = 0 ∨ k = 1 ∨ k = 2 ∨ k = 3 ∨ k = 4 ∨ k = 5 ∨ k = 6 ∨ k = 7 ∨ k = 8 ∨ k = 9 ∨ k = 10 ∨ k = 11 ∨ k = 12 ∨ k = 13 ∨ k = 14 ∨ k = 15 by omega) with rfl | rfl | rfl | rfl | rfl | rfl | rfl | rfl | rfl | rfl | rfl | rfl | rfl | rfl | rfl | rfl
  all_goals kernel_rfl

set_option maxRecDepth 100000 in
set_option maxHeartbeats 2000000 in
theorem l6Digits_any (s : ByteArray) (w : World) (hs : (s.size : Int) ≤ 1048576) :
    Calls Tryz.prog 11 #[.string s] w fun e w' => e = .returned (.string ⟨(digTo (sumTo s s.size).toNat 16).toArray⟩) ∧ Below w.heap.size w w' := by
  obtain ⟨T, hT⟩ : ∃ T, T = digTo (sumTo s s.size).toNat 16 := ⟨_, rfl⟩
  rw [← hT]
  have HT := hide hT
  clear hT
  go_enter Tryz.func11, Tryz.ntmps11
  go_wp2
  go_loop [3, 4] (fun c i => ∃ (k : Nat) (z : Int), k ≤ s.size ∧ 0 ≤ z ∧ z ≤ 18446744073709551615 ∧ Hid (z = sumTo s k) ∧ c = .int .u64 z ∧ i = .int .i64 k) (fun _ i => s.size - (intOf i).toNat)
  case atStart => exact ⟨0, 14695981039346656037, by omega, by omega, by omega, rfl, rfl, rfl⟩
  case round =>
    obtain ⟨k, z, hk, hz0, hz1, HZ, rfl, rfl⟩ := hrel
    by_cases hlt : k < s.size
    · have HS : Hid (IntKind.u64.wrap (bits BinOp.xor IntKind.u64 z (IntKind.u64.wrap (s[k].toNat : Int)) * 1099511628211) = sumTo s (k + 1)) := by show _ = _; rw [HZ.out]; exact (sumTo_succ s k hlt).symm
      have HI := hide (sumTo_in s (k + 1))
      go_wp2
      rw [HS.out]
      exact ⟨⟨k + 1, _, by omega, HI.out.1, HI.out.2, rfl, rfl, by go_num⟩, by simp [intOf]; omega⟩
    · obtain rfl : k = s.size := by omega
      obtain ⟨N, hN⟩ : ∃ N : Nat, z = (N : Int) := ⟨z.toNat, by omega⟩
      have HN : Hid ((sumTo s s.size).toNat = N) := by show _ = _; rw [← HZ.out, hN]; rfl
      have HT2 : Hid (T = digTo N 16) := by show _ = _; rw [HT.out, HN.out]
      subst hN
      have hNb : N ≤ 18446744073709551615 := by omega
      clear HZ HN hz0 hz1
      go_wp2
      go_loopw [3, 5, 6] (fun c v i wr => ∃ (k q g cp : Nat), k ≤ 16 ∧ Hid (q = N / 16 ^ k) ∧ q ≤ 18446744073709551615 ∧ c = .int .u64 q ∧ v = .slice (some ⟨g, 0, none⟩) k cp ∧ i = .int .i64 k ∧ Hid (Bs wr w.heap.size (.slice (some ⟨g, 0, none⟩) k cp) (digTo N k)) ∧ Hid (Below w.heap.size w wr)) (fun _ _ i _ => 16 - (intOf i).toNat)
      case atStart => exact ⟨0, N, w.heap.size, 0, by omega, by show _ = _; simp, hNb, rfl, rfl, rfl, Bs.lit w _ [] (Nat.le_refl _) (by simp) _ rfl, (Below.refl _ _).alloc (Nat.le_refl _) _⟩
      case round =>
        obtain ⟨k, q, g, cp, hk, HQ, hqb, rfl, rfl, rfl, HO, HB⟩ := hrel
        have zr : w.heap.size ≤ wr.heap.size := HB.out.size
        by_cases hlt : k < 16
        · obtain ⟨d, hd⟩ : ∃ d : Nat, d = q % 16 := ⟨_, rfl⟩
          obtain ⟨e, he⟩ : ∃ e : Nat, e = q / 16 := ⟨_, rfl⟩
          have hd16 : d < 16 := by omega
          have hix := hexAt64 d hd16
          have hm1 : (q : Int).tmod 16 = (d : Int) := by rw [Int.tmod_eq_emod_of_nonneg (by omega)]; omega
          have hd1 : (q : Int).tdiv 16 = (e : Int) := by rw [Int.tdiv_eq_ediv_of_nonneg (by omega)]; omega
          have HD : Hid (digTo N (k + 1) = hexD d :: digTo N k) := by show _ = _; rw [digTo, ← HQ.out, ← hd]
          have HE : Hid (e = N / 16 ^ (k + 1)) := by show _ = _; rw [he, HQ.out, Nat.div_div_eq_div_mul, Nat.pow_succ]
          have heb : e ≤ 18446744073709551615 := by omega
          have hlen := digTo_len N k
          clear hd he
          go_wp2_with (at_builtin; refine wp_app rfl _ _ rfl w.heap.size _ [hexD d] rfl ?h1 ⟨g, 0, none⟩ cp (digTo N k) (by rw [hlen]; rfl) ?h2 ?h3 ?h4 ?_)
          case h1 => exact Bs.lit wr _ [hexD d] zr (by simp [maxLen]) _ (by simp [Lib.byteCells])
          case h2 => exact fun j hj => HO.out.below ((Below.refl wr.heap.size wr).alloc (Nat.le_refl _) _) (Nat.le_refl _) |>.cell j hj
          case h3 => simp only [List.length_cons, List.length_nil, hlen]; omega
          case h4 => simp; omega
          intro v8 w8 hv8 hg8
          obtain ⟨g8, c8, rfl, _, _⟩ := hv8.form (by simp)
          have M8 := hide hv8
          have B8 := hide (Below.grown (HB.out.alloc zr _) hg8 (by simp; omega) (fun j e => by simp [Value.ownBlock] at e; omega))
          clear hv8 hg8
          go_wp2
          refine ⟨⟨k + 1, e, g8, c8, by omega, HE.out, heb, rfl, ?_, by go_num, ?_, B8.out⟩, by simp [intOf]; omega⟩
          · have hl : (hexD d :: digTo N k).length = k + 1 := by simp [hlen]
            rw [hl]
          · have h := M8.out
            have hl : (hexD d :: digTo N k).length = k + 1 := by simp [hlen]
            rw [hl] at h
            show Bs _ _ _ _
            rw [HD.out]
            exact h
        · obtain rfl : k = 16 := by omega
          have hcv : (convert 47 9 (.slice (some ⟨g, 0, none⟩) 16 cp)).run Tryz.prog wr = .ok (.string ⟨(digTo N 16).toArray⟩) wr := by
            have h := run_convert_bytes_back (P := Tryz.prog) wr 47 9 5 ⟨g, 0, none⟩ cp (digTo N 16) Tryz.underlying47 Tryz.underlying5 Tryz.underlying9 (fun j hj => HO.out.cell j hj)
            rw [digTo_len] at h
            exact h
          rw [← HT2.out] at hcv
          go_wp2
          go_ret
          exact ⟨rfl, HB.out⟩

end Go.Proofs.YtclalcefkmjenaaGreatDoor.Vp
