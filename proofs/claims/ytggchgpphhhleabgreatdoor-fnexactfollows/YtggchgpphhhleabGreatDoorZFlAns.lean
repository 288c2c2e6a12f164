/-
  spec: l4Answer.
-/
import Derived.Test.YtggchgpphhhleabGreatDoorZFlPure
namespace Go.Proofs.YtggchgpphhhleabGreatDoor.Vp
open Go.RowKit

set_option maxRecDepth 100000 in
set_option maxHeartbeats 4000000 in
theorem l4Answer_any (bd offd n cap : Nat) (f : Nat → Deed) (l : Link) (w : World) (hrow : RowDeed w bd offd n f) (hl : l.ask = true → 0 ≤ l.at_ ∧ l.at_.toNat < n) :
    Calls Tryz.prog 81 #[.agg #[.slice (some ⟨bd, offd, none⟩) n cap], .agg #[.string l.name, .bool l.ask, .bool l.has, .int .i64 l.at_]] w fun e w' => e = .returned (.agg #[.bool (ansR f l).has, .int .i64 (ansR f l).code, .string (ansR f l).text]) ∧ Below w.heap.size w w' := by
  have HR := hide hrow
  have HL := hide hl
  have HN := hide (show ansR f l = if l.ask = true then (if (f l.at_.toNat).kind = 1 then ⟨true, 0, (f l.at_.toNat).text⟩ else if (f l.at_.toNat).kind = 3 then ⟨true, (f l.at_.toNat).code, (f l.at_.toNat).text⟩ else ⟨false, 0, ⟨#[]⟩⟩) else ⟨l.has, 0, ⟨#[]⟩⟩ from rfl)
  clear hrow hl
  obtain ⟨R, hR⟩ : ∃ R, R = ansR f l := ⟨_, rfl⟩
  rw [← hR] at HN ⊢
  clear hR
  obtain ⟨nm, ask, hs, at_⟩ := l
  dsimp only at HL HN ⊢
  have A0 := hide ((((Below.refl w.heap.size w).alloc (Nat.le_refl _) (.cells #[.slice (some ⟨bd, offd, none⟩) n cap] 29)).alloc (by simp) (.cells #[.string nm, .bool ask, .bool hs, .int .i64 at_] 84)).alloc (by simp; omega) (.cells #[.bool false, .int .i64 0, .string ⟨#[]⟩] 140))
  cases ask with
  | false =>
    obtain rfl : R = ⟨hs, 0, ⟨#[]⟩⟩ := by have := HN.out; simpa using this
    dsimp only
    go_enter Tryz.func81, Tryz.ntmps81
    go_wp2
    exact bodyPost_ret (v := .agg #[.bool hs, .int .i64 0, .string ⟨#[]⟩]) (by simp [results, Tryz.results81, go_sem]) rfl ⟨rfl, by
      repeat (first | exact Below.refl _ _ | refine Below.alloc ?_ (by first | (simp; done) | (simp; omega)) _)⟩
  | true =>
    obtain ⟨h1, h2⟩ := HL.out rfl
    obtain ⟨p, rfl⟩ := Int.eq_ofNat_of_zero_le h1
    have hp : p < n := by simpa using h2
    have HN2 := hide (show R = if (f p).kind = 1 then ⟨true, 0, (f p).text⟩ else if (f p).kind = 3 then ⟨true, (f p).code, (f p).text⟩ else ⟨false, 0, ⟨#[]⟩⟩ by have := HN.out; simpa using this)
    clear HN
    obtain ⟨p0, p1, p2, p3, ⟨a2, cap2, p4, q4⟩, ⟨a3, cap3, p5, q5⟩⟩ := (HR.out.below A0.out (Nat.le_refl _)).2 p hp
    clear q4 q5 HL
    have hpn : (p : Int) < n := by omega
    go_enter Tryz.func81, Tryz.ntmps81
    by_cases hk1 : (f p).kind = 1
    · obtain rfl : R = ⟨true, 0, (f p).text⟩ := by rw [HN2.out, if_pos hk1]
      go_wp2
      exact bodyPost_ret (v := .agg #[.bool true, .int .i64 0, .string (f p).text]) (by simp [results, Tryz.results81, go_sem]) rfl ⟨rfl, by
        repeat (first | exact Below.refl _ _ | refine Below.alloc ?_ (by first | (simp; done) | (simp; omega)) _)⟩
    · by_cases hk3 : (f p).kind = 3
      · obtain rfl : R = ⟨true, (f p).code, (f p).text⟩ := by rw [HN2.out, if_neg hk1, if_pos hk3]
        go_wp2
        exact bodyPost_ret (v := .agg #[.bool true, .int .i64 (f p).code, .string (f p).text]) (by simp [results, Tryz.results81, go_sem]) rfl ⟨rfl, by
          repeat (first | exact Below.refl _ _ | refine Below.alloc ?_ (by first | (simp; done) | (simp; omega)) _)⟩
      · obtain rfl : R = ⟨false, 0, ⟨#[]⟩⟩ := by rw [HN2.out, if_neg hk1, if_neg hk3]
        go_wp2
        exact bodyPost_ret (v := .agg #[.bool false, .int .i64 0, .string ⟨#[]⟩]) (by simp [results, Tryz.results81, go_sem]) rfl ⟨rfl, by
          repeat (first | exact Below.refl _ _ | refine Below.alloc ?_ (by first | (simp; done) | (simp; omega)) _)⟩

end Go.Proofs.YtggchgpphhhleabGreatDoor.Vp
