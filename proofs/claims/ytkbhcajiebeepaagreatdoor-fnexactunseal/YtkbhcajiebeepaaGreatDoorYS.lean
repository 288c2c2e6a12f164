/-
  Put together of: SeSealS.
-/
import Derived.Test.YtkbhcajiebeepaaGreatDoorYH
import Derived.Test.YtkbhcajiebeepaaGreatDoorZM
import Derived.Test.YtkbhcajiebeepaaGreatDoorYC

/-
  Seal: spec's; what is written.
-/
namespace Go.Proofs.YtkbhcajiebeepaaGreatDoor.Vp
open Go.RowKit

theorem snoc_arr (D : List UInt8) : (⟨(D ++ [10]).toArray⟩ : ByteArray) = ⟨D.toArray⟩ ++ ⟨#[10]⟩ := by apply ByteArray.ext; simp
/-- what is written, of a form and a key. -/
def sealB (C key : ByteArray) : ByteArray := if C.toList = [] then ⟨#[]⟩ else if 60 < key.size then ⟨#[]⟩ else ⟨(sealT C key).toArray⟩ ++ C

theorem formB_size (f : Nat → Deed) (n : Nat) : (⟨(formB f n).toArray⟩ : ByteArray).size ≤ 300000 := by
  show (formB f n).toArray.size ≤ 300000
  simp only [List.size_toArray]
  unfold formB
  split
  · split
    · assumption
    · simp
  · simp
theorem sealT_size (C key : ByteArray) : (⟨(sealT C key).toArray⟩ : ByteArray).size = 17 := by
  show (sealT C key).toArray.size = 17
  simp only [List.size_toArray, sealT, List.length_append, digTo_len, List.length_cons, List.length_nil]

theorem spec_dig_size (s : ByteArray) : (⟨(digTo (sumTo s s.size).toNat 16).toArray⟩ : ByteArray).size = 16 := by
  have h := digTo_len (sumTo s s.size).toNat 16
  generalize digTo (sumTo s s.size).toNat 16 = D at h ⊢
  show D.toArray.size = 16
  rw [List.size_toArray, h]
theorem spec_dig_text (C key : ByteArray) (hz : ¬ C.toList = []) (hl : ¬ 60 < key.size) :
    sealB C key = ⟨(digTo (sumTo (key ++ ⟨#[10]⟩ ++ C) (key ++ ⟨#[10]⟩ ++ C).size).toNat 16).toArray⟩ ++ ⟨#[10]⟩ ++ C := by
  unfold sealB
  rw [if_neg hz, if_neg hl]
  unfold sealT
  rw [snoc_arr]
theorem spec_dig_in (C key : ByteArray) (hl : ¬ 60 < key.size) (hs : C.size ≤ 300000) : ((key ++ ⟨#[10]⟩ ++ C).size : Int) ≤ 1048576 := by
  have e1 : (⟨#[10]⟩ : ByteArray).size = 1 := rfl
  rw [ByteArray.size_append, ByteArray.size_append, e1]
  omega
theorem spec_dig (C key : ByteArray) (hz : ¬ C.toList = []) (hl : ¬ 60 < key.size) (hs : C.size ≤ 300000) :
    ∃ T : ByteArray, T.size = 16 ∧ sealB C key = T ++ ⟨#[10]⟩ ++ C ∧ ∀ W : World, Calls Tryz.prog 44 #[.string (key ++ ⟨#[10]⟩ ++ C)] W fun e w' => e = .returned (.string T) ∧ Below W.heap.size W w' :=
  ⟨_, spec_dig_size _, spec_dig_text C key hz hl, fun W => l6Digits_any _ W (spec_dig_in C key hl hs)⟩

set_option maxRecDepth 100000 in
set_option maxHeartbeats 2000000 in
theorem specSeal_any (a : Option Addr) (n cap : Nat) (f : Nat → Deed) (key : ByteArray) (w : World) (hn : (n : Int) ≤ 1048576) (hk : (key.size : Int) ≤ 1048576) (hv : SlDeed w a n f) (hfit : ∀ i, i < n → FitsDeed (f i)) (hsz : ∀ i, i < n → SizedDeed (f i)) :
    Calls Tryz.prog 19 #[.agg #[.slice a n cap], .string key] w fun e w' => e = .returned (.string (sealB ⟨(formB f n).toArray⟩ key)) ∧ Below w.heap.size w w' := by
  have B0 := hide ((Below.refl w.heap.size w).alloc (Nat.le_refl w.heap.size) (.cells #[.slice a n cap] 24))
  have FM := hide (specForm_any a n cap f (w.alloc (.cells #[.slice a n cap] 24)) hn (hv.below B0.out (Nat.le_refl _)) hfit hsz)
  have hs := formB_size f n
  clear hv hfit hsz
  obtain ⟨C, hC⟩ : ∃ C : ByteArray, (⟨(formB f n).toArray⟩ : ByteArray) = C := ⟨_, rfl⟩
  rw [hC] at hs FM ⊢
  clear hC
  by_cases hz : C.toList = []
  · have e0 : sealB C key = ⟨#[]⟩ := by simp [sealB, hz]
    rw [e0]
    clear e0
    go_enter Tryz.func19, Tryz.ntmps19
    go_wp2_with fail
    refine FM.out.mono ?_
    rintro e w1 ⟨rfl, hB⟩
    have HB := hide (B0.out.trans (hB.mono B0.out.size))
    clear hB
    go_wp2
    go_ret
    exact ⟨rfl, HB.out⟩
  have hze : C.toList.isEmpty = false := by simpa using hz
  by_cases hl : 60 < key.size
  · have e0 : sealB C key = ⟨#[]⟩ := by simp [sealB, hl]
    rw [e0]
    clear e0
    go_enter Tryz.func19, Tryz.ntmps19
    go_wp2_with fail
    refine FM.out.mono ?_
    rintro e w1 ⟨rfl, hB⟩
    have HB := hide (B0.out.trans (hB.mono B0.out.size))
    clear hB
    go_wp2
    go_ret
    exact ⟨rfl, HB.out⟩
  have hld : decide (60 < (key.size : Int)) = false := by simp; omega
  obtain ⟨T, h16, e0, hLD⟩ := spec_dig C key hz hl hs
  rw [e0]
  have LD := hide hLD
  clear e0 hLD
  have hA : ¬ 9223372036854775807 < T.size + 1 := by omega
  have hA1 : ¬ 9223372036854775807 < T.size + 1 + C.size := by omega
  have hA2 : ¬ 9223372036854775807 < key.size + 1 := by omega
  have hA3 : ¬ 9223372036854775807 < key.size + 1 + C.size := by omega
  go_enter Tryz.func19, Tryz.ntmps19
  go_wp2_with fail
  refine FM.out.mono ?_
  rintro e w1 ⟨rfl, hB⟩
  have HB := hide (B0.out.trans (hB.mono B0.out.size))
  clear hB
  go_wp2_with fail
  refine (LD.out _).mono ?_
  rintro e w2 ⟨rfl, hB⟩
  have HB2 := hide (HB.out.trans (hB.mono HB.out.size))
  clear hB
  go_wp2
  go_ret
  exact ⟨rfl, HB2.out⟩

end Go.Proofs.YtkbhcajiebeepaaGreatDoor.Vp
