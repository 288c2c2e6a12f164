/-
  impl: reply, replyOf.
-/
import Derived.Test.YtggchgpphhhleabGreatDoorZFlPure
namespace Go.Proofs.YtggchgpphhhleabGreatDoor.Vp
open Go.RowKit

set_option maxHeartbeats 1000000 in
theorem reply_any (x : Deed) (a0 : Option Addr) (cap0 : Nat) (a1 : Option Addr) (cap1 : Nat) (w : World) :
    Calls Tryz.prog 210 #[.agg #[.string x.name, .int .i64 x.kind, .int .i64 x.code, .string x.text, .slice a0 x.actN cap0, .slice a1 x.linksN cap1]] w fun e w' => e = .returned (.agg #[.bool (decide (¬ x.kind = 2)), .int .i64 x.code, .string x.text]) ∧ Below w.heap.size w w' := by
  have A0 := hide ((Below.refl w.heap.size w).alloc (Nat.le_refl _) (.cells #[.string x.name, .int .i64 x.kind, .int .i64 x.code, .string x.text, .slice a0 x.actN cap0, .slice a1 x.linksN cap1] 61))
  obtain ⟨r, hr⟩ : ∃ r, r = decide (¬ x.kind = 2) := ⟨_, rfl⟩
  rw [← hr]
  have HR := hide hr
  clear hr
  go_enter Tryz.func210, Tryz.ntmps210
  by_cases hk : x.kind = 2
  · obtain rfl : r = false := by rw [HR.out]; simp [hk]
    go_wp2
    exact bodyPost_ret (v := .agg #[.bool false, .int .i64 x.code, .string x.text]) (by simp [results, Tryz.results210, go_sem]) rfl ⟨rfl, by
      repeat (first | exact A0.out | exact Below.refl _ _ | refine Below.alloc ?_ (by first | (simp; done) | (simp; omega)) _)⟩
  · obtain rfl : r = true := by rw [HR.out]; simp [hk]
    go_wp2
    exact bodyPost_ret (v := .agg #[.bool true, .int .i64 x.code, .string x.text]) (by simp [results, Tryz.results210, go_sem, hk]) rfl ⟨rfl, by
      repeat (first | exact A0.out | exact Below.refl _ _ | refine Below.alloc ?_ (by first | (simp; done) | (simp; omega)) _)⟩

set_option maxRecDepth 100000 in
set_option maxHeartbeats 4000000 in
theorem replyOf_any (bd offd n cap : Nat) (f : Nat → Deed) (l : Link) (w : World) (hacc : accOk f n = true) (hrow : RowDeed w bd offd n f) (hl : l.ask = true → 0 ≤ l.at_ ∧ l.at_.toNat < n) :
    Calls Tryz.prog 145 #[.agg #[.slice (some ⟨bd, offd, none⟩) n cap], .agg #[.string l.name, .bool l.ask, .bool l.has, .int .i64 l.at_]] w fun e w' => e = .returned (.agg #[.bool (ansR f l).has, .int .i64 (ansR f l).code, .string (ansR f l).text]) ∧ Below w.heap.size w w' := by
  have HR := hide hrow
  have HA := hide (fun ha : l.ask = true => ansR_impl hacc ha (hl ha).2)
  have HL := hide hl
  have HN := hide (show l.ask = false → ansR f l = ⟨l.has, 0, ⟨#[]⟩⟩ from fun h => by unfold ansR; rw [if_neg (by rw [h]; simp)])
  clear hrow hacc hl
  obtain ⟨R, hR⟩ : ∃ R, R = ansR f l := ⟨_, rfl⟩
  rw [← hR] at HA HN ⊢
  clear hR
  obtain ⟨nm, ask, hs, at_⟩ := l
  dsimp only at HA HL HN ⊢
  have A0 := hide ((((Below.refl w.heap.size w).alloc (Nat.le_refl _) (.cells #[.slice (some ⟨bd, offd, none⟩) n cap] 29)).alloc (by simp) (.cells #[.string nm, .bool ask, .bool hs, .int .i64 at_] 84)).alloc (by simp; omega) (.cells #[.bool false, .int .i64 0, .string ⟨#[]⟩] 140))
  cases ask with
  | false =>
    obtain rfl : R = ⟨hs, 0, ⟨#[]⟩⟩ := HN.out rfl
    dsimp only
    go_enter Tryz.func145, Tryz.ntmps145
    go_wp2
    exact bodyPost_ret (v := .agg #[.bool hs, .int .i64 0, .string ⟨#[]⟩]) (by simp [results, Tryz.results145, go_sem]) rfl ⟨rfl, by
      repeat (first | exact Below.refl _ _ | refine Below.alloc ?_ (by first | (simp; done) | (simp; omega)) _)⟩
  | true =>
    obtain ⟨h1, h2⟩ := HL.out rfl
    obtain ⟨p, rfl⟩ := Int.eq_ofNat_of_zero_le h1
    have hp : p < n := by simpa using h2
    obtain rfl : R = ⟨decide (¬ (f p).kind = 2), (f p).code, (f p).text⟩ := by have := HA.out rfl; simpa using this
    dsimp only
    obtain ⟨p0, p1, p2, p3, ⟨a2, cap2, p4, q4⟩, ⟨a3, cap3, p5, q5⟩⟩ := (HR.out.below A0.out (Nat.le_refl _)).2 p hp
    clear q4 q5 HA HN HL
    have hpn : (p : Int) < n := by omega
    go_enter Tryz.func145, Tryz.ntmps145
    go_wp2_with fail
    clear p0 p1 p2 p3 p4 p5
    have z0 : (((w.alloc (.cells #[.slice (some ⟨bd, offd, none⟩) n cap] 29)).alloc (.cells #[.string nm, .bool true, .bool hs, .int .i64 (p : Int)] 84)).alloc (.cells #[.bool false, .int .i64 0, .string ⟨#[]⟩] 140)).heap.size = w.heap.size + 3 := by simp
    have c0 : (((w.alloc (.cells #[.slice (some ⟨bd, offd, none⟩) n cap] 29)).alloc (.cells #[.string nm, .bool true, .bool hs, .int .i64 (p : Int)] 84)).alloc (.cells #[.bool false, .int .i64 0, .string ⟨#[]⟩] 140)).cell? ⟨w.heap.size + 1 + 1, 0, none⟩ = some (.bool false) := by simp [go_sem]
    have y0 : (((w.alloc (.cells #[.slice (some ⟨bd, offd, none⟩) n cap] 29)).alloc (.cells #[.string nm, .bool true, .bool hs, .int .i64 (p : Int)] 84)).alloc (.cells #[.bool false, .int .i64 0, .string ⟨#[]⟩] 140)).frozen? ⟨w.heap.size + 1 + 1, 0, none⟩ = false := by simp [go_sem]
    have c1 : (((w.alloc (.cells #[.slice (some ⟨bd, offd, none⟩) n cap] 29)).alloc (.cells #[.string nm, .bool true, .bool hs, .int .i64 (p : Int)] 84)).alloc (.cells #[.bool false, .int .i64 0, .string ⟨#[]⟩] 140)).cell? ⟨w.heap.size + 1 + 1, 1, none⟩ = some (.int .i64 0) := by simp [go_sem]
    have y1 : (((w.alloc (.cells #[.slice (some ⟨bd, offd, none⟩) n cap] 29)).alloc (.cells #[.string nm, .bool true, .bool hs, .int .i64 (p : Int)] 84)).alloc (.cells #[.bool false, .int .i64 0, .string ⟨#[]⟩] 140)).frozen? ⟨w.heap.size + 1 + 1, 1, none⟩ = false := by simp [go_sem]
    have c2 : (((w.alloc (.cells #[.slice (some ⟨bd, offd, none⟩) n cap] 29)).alloc (.cells #[.string nm, .bool true, .bool hs, .int .i64 (p : Int)] 84)).alloc (.cells #[.bool false, .int .i64 0, .string ⟨#[]⟩] 140)).cell? ⟨w.heap.size + 1 + 1, 2, none⟩ = some (.string ⟨#[]⟩) := by simp [go_sem]
    have y2 : (((w.alloc (.cells #[.slice (some ⟨bd, offd, none⟩) n cap] 29)).alloc (.cells #[.string nm, .bool true, .bool hs, .int .i64 (p : Int)] 84)).alloc (.cells #[.bool false, .int .i64 0, .string ⟨#[]⟩] 140)).frozen? ⟨w.heap.size + 1 + 1, 2, none⟩ = false := by simp [go_sem]
    generalize ((w.alloc (.cells #[.slice (some ⟨bd, offd, none⟩) n cap] 29)).alloc (.cells #[.string nm, .bool true, .bool hs, .int .i64 (p : Int)] 84)).alloc (.cells #[.bool false, .int .i64 0, .string ⟨#[]⟩] 140) = W0 at A0 z0 c0 c1 c2 y0 y1 y2 ⊢
    refine (reply_any (f p) a2 cap2 a3 cap3 _).mono ?_
    rintro e w1 ⟨rfl, hB⟩
    have hlt : w.heap.size + 1 + 1 < W0.heap.size := by omega
    have d0 := (hB.cell (p := ⟨w.heap.size + 1 + 1, 0, none⟩) hlt).trans c0
    have d1 := (hB.cell (p := ⟨w.heap.size + 1 + 1, 1, none⟩) hlt).trans c1
    have d2 := (hB.cell (p := ⟨w.heap.size + 1 + 1, 2, none⟩) hlt).trans c2
    have e0 := (hB.frozen (p := ⟨w.heap.size + 1 + 1, 0, none⟩) hlt).trans y0
    have e1 := (hB.frozen (p := ⟨w.heap.size + 1 + 1, 1, none⟩) hlt).trans y1
    have e2 := (hB.frozen (p := ⟨w.heap.size + 1 + 1, 2, none⟩) hlt).trans y2
    have B1 := hide (A0.out.trans (hB.mono A0.out.size))
    have hz1 : w.heap.size + 1 + 1 < w1.heap.size := Nat.lt_of_lt_of_le hlt hB.size
    clear hB c0 c1 c2 y0 y1 y2
    go_wp2
    exact bodyPost_ret (v := .agg #[.bool (decide (¬ (f p).kind = 2)), .int .i64 (f p).code, .string (f p).text]) (by simp [results, Tryz.results145, go_sem, d0, d1, d2]) rfl ⟨rfl, ((B1.out.setCell (p := ⟨w.heap.size + 1 + 1, 0, none⟩) (by simp; omega) _).setCell (p := ⟨w.heap.size + 1 + 1, 1, none⟩) (by simp; omega) _).setCell (p := ⟨w.heap.size + 1 + 1, 2, none⟩) (by simp; omega) _⟩

end Go.Proofs.YtggchgpphhhleabGreatDoor.Vp
