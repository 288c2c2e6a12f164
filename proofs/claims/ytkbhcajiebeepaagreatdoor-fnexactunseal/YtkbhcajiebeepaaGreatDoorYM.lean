/-
  Put together of: FoLink.
-/
import Derived.Test.YtkbhcajiebeepaaGreatDoorYJ
import Derived.Test.YtkbhcajiebeepaaGreatDoorZR
import Derived.Test.YtkbhcajiebeepaaGreatDoorYD

/-
  impl: the writer's link.
-/
namespace Go.Proofs.YtkbhcajiebeepaaGreatDoor.Vp
open Go.RowKit

theorem joined2 (a b : ByteArray) : joined [a, b] = a.data.toList ++ [32] ++ b.data.toList := by simp [joined, Lib.join]
theorem joined3 (a b c : ByteArray) : joined [a, b, c] = a.data.toList ++ [32] ++ b.data.toList ++ [32] ++ c.data.toList := by simp [joined, Lib.join]
theorem joined4 (a b c d : ByteArray) : joined [a, b, c, d] = a.data.toList ++ [32] ++ b.data.toList ++ [32] ++ c.data.toList ++ [32] ++ d.data.toList := by simp [joined, Lib.join]
theorem new3 (w : World) (a b c : ByteArray) (t : TypeId) : ∀ (j : Nat) x, ([a, b, c] : List ByteArray)[j]? = some x → (w.alloc (.cells #[.string a, .string b, .string c] t)).cell? ⟨w.heap.size, 0 + j, none⟩ = some (.string x) := by
  intro j x hx
  rcases j with _ | _ | _ | j
  · simp at hx; subst hx; simp
  · simp at hx; subst hx; simp
  · simp at hx; subst hx; simp
  · simp at hx
theorem new2 (w : World) (a b : ByteArray) (t : TypeId) : ∀ (j : Nat) x, ([a, b] : List ByteArray)[j]? = some x → (w.alloc (.cells #[.string a, .string b] t)).cell? ⟨w.heap.size, 0 + j, none⟩ = some (.string x) := by
  intro j x hx
  rcases j with _ | _ | j
  · simp at hx; subst hx; simp
  · simp at hx; subst hx; simp
  · simp at hx
theorem new4 (w : World) (a b c d : ByteArray) (t : TypeId) : ∀ (j : Nat) x, ([a, b, c, d] : List ByteArray)[j]? = some x → (w.alloc (.cells #[.string a, .string b, .string c, .string d] t)).cell? ⟨w.heap.size, 0 + j, none⟩ = some (.string x) := by
  intro j x hx
  rcases j with _ | _ | _ | _ | j
  · simp at hx; subst hx; simp
  · simp at hx; subst hx; simp
  · simp at hx; subst hx; simp
  · simp at hx; subst hx; simp
  · simp at hx
theorem new1 (w : World) (a : ByteArray) (t : TypeId) : ∀ (j : Nat) x, ([a] : List ByteArray)[j]? = some x → (w.alloc (.cells #[.string a] t)).cell? ⟨w.heap.size, 0 + j, none⟩ = some (.string x) := by
  intro j x hx
  rcases j with _ | j
  · simp at hx; subst hx; simp
  · simp at hx

theorem line1 (w0 W w1 : World) (b : Nat) (l : List UInt8) (x : ByteArray) (t : TypeId) (R0 : Below w0.heap.size w0 W) (B1 : Below W.heap.size W w1) (H0 : Bw W w0.heap.size b l) (hlen : l.length + (joined [x]).length + 1 ≤ 140737488355328) :
    Calls Tryz.prog 33 #[.pointer (some ⟨b, 0, none⟩), .slice (some ⟨w1.heap.size, 0, none⟩) 1 1] (w1.alloc (.cells #[.string x] t)) fun e w' => e = .returned (.tuple #[]) ∧ Bw w' w0.heap.size b (l ++ joined [x] ++ [10]) ∧ Below w0.heap.size w0 w' ∧ Kp b W w' := by
  have A := B1.alloc B1.size (.cells #[.string x] t)
  exact (line_any w0 b l w1.heap.size 1 [x] _ (R0.trans (A.mono R0.size)) (H0.below A (Nat.le_refl _)) (by simp) (new1 w1 x t) (by simp) (by simp) hlen).mono fun e w' ⟨h1, h2, h3, h4⟩ => ⟨h1, h2, h3, (kp_of_below A).trans h4⟩
theorem line2 (w0 W w1 : World) (b : Nat) (l : List UInt8) (x y : ByteArray) (t : TypeId) (R0 : Below w0.heap.size w0 W) (B1 : Below W.heap.size W w1) (H0 : Bw W w0.heap.size b l) (hlen : l.length + (joined [x, y]).length + 1 ≤ 140737488355328) :
    Calls Tryz.prog 33 #[.pointer (some ⟨b, 0, none⟩), .slice (some ⟨w1.heap.size, 0, none⟩) 2 2] (w1.alloc (.cells #[.string x, .string y] t)) fun e w' => e = .returned (.tuple #[]) ∧ Bw w' w0.heap.size b (l ++ joined [x, y] ++ [10]) ∧ Below w0.heap.size w0 w' ∧ Kp b W w' := by
  have A := B1.alloc B1.size (.cells #[.string x, .string y] t)
  exact (line_any w0 b l w1.heap.size 2 [x, y] _ (R0.trans (A.mono R0.size)) (H0.below A (Nat.le_refl _)) (by simp) (new2 w1 x y t) (by simp) (by simp) hlen).mono fun e w' ⟨h1, h2, h3, h4⟩ => ⟨h1, h2, h3, (kp_of_below A).trans h4⟩
theorem line3 (w0 W w1 : World) (b : Nat) (l : List UInt8) (x y z : ByteArray) (t : TypeId) (R0 : Below w0.heap.size w0 W) (B1 : Below W.heap.size W w1) (H0 : Bw W w0.heap.size b l) (hlen : l.length + (joined [x, y, z]).length + 1 ≤ 140737488355328) :
    Calls Tryz.prog 33 #[.pointer (some ⟨b, 0, none⟩), .slice (some ⟨w1.heap.size, 0, none⟩) 3 3] (w1.alloc (.cells #[.string x, .string y, .string z] t)) fun e w' => e = .returned (.tuple #[]) ∧ Bw w' w0.heap.size b (l ++ joined [x, y, z] ++ [10]) ∧ Below w0.heap.size w0 w' ∧ Kp b W w' := by
  have A := B1.alloc B1.size (.cells #[.string x, .string y, .string z] t)
  exact (line_any w0 b l w1.heap.size 3 [x, y, z] _ (R0.trans (A.mono R0.size)) (H0.below A (Nat.le_refl _)) (by simp) (new3 w1 x y z t) (by simp) (by simp) hlen).mono fun e w' ⟨h1, h2, h3, h4⟩ => ⟨h1, h2, h3, (kp_of_below A).trans h4⟩
theorem line4 (w0 W w1 : World) (b : Nat) (l : List UInt8) (x y z u : ByteArray) (t : TypeId) (R0 : Below w0.heap.size w0 W) (B1 : Below W.heap.size W w1) (H0 : Bw W w0.heap.size b l) (hlen : l.length + (joined [x, y, z, u]).length + 1 ≤ 140737488355328) :
    Calls Tryz.prog 33 #[.pointer (some ⟨b, 0, none⟩), .slice (some ⟨w1.heap.size, 0, none⟩) 4 4] (w1.alloc (.cells #[.string x, .string y, .string z, .string u] t)) fun e w' => e = .returned (.tuple #[]) ∧ Bw w' w0.heap.size b (l ++ joined [x, y, z, u] ++ [10]) ∧ Below w0.heap.size w0 w' ∧ Kp b W w' := by
  have A := B1.alloc B1.size (.cells #[.string x, .string y, .string z, .string u] t)
  exact (line_any w0 b l w1.heap.size 4 [x, y, z, u] _ (R0.trans (A.mono R0.size)) (H0.below A (Nat.le_refl _)) (by simp) (new4 w1 x y z u t) (by simp) (by simp) hlen).mono fun e w' ⟨h1, h2, h3, h4⟩ => ⟨h1, h2, h3, (kp_of_below A).trans h4⟩

set_option maxHeartbeats 1000000 in
theorem truth_any (t : Bool) (w : World) : Calls Tryz.prog 82 #[.bool t] w fun e w' => e = .returned (.string ⟨#[if t = true then 49 else 48]⟩) ∧ w' = w := by
  cases t
  all_goals
    go_enter Tryz.func82, Tryz.ntmps82
    go_wp2
    go_ret
    exact ⟨rfl, rfl⟩

set_option maxRecDepth 100000 in
set_option maxHeartbeats 4000000 in
theorem link_any (w0 : World) (b : Nat) (l : List UInt8) (x : Link) (w : World) (hb : Below w0.heap.size w0 w) (h : Bw w w0.heap.size b l) (hP : Pow w0) (hn : x.name.size ≤ 60) (h0 : 0 ≤ x.at_) (h1 : x.at_ ≤ 400) (hlen : l.length + 200 ≤ 140737488355328) :
    Calls Tryz.prog 92 #[.pointer (some ⟨b, 0, none⟩), .agg #[.string x.name, .bool x.ask, .bool x.has, .int .i64 x.at_]] w fun e w' => e = .returned (.tuple #[]) ∧ Bw w' w0.heap.size b (l ++ linkT x ++ [10]) ∧ Below w0.heap.size w0 w' ∧ Kp b w w' := by
  have H := hide h
  have HB := hide hb
  have HP := hide hP
  have hs := hb.size
  clear h hb hP
  obtain ⟨m, hm⟩ : ∃ m : Nat, x.at_ = (m : Int) := ⟨x.at_.toNat, by omega⟩
  have hm4 : m ≤ 400 := by omega
  have hd := dec_le m (by omega)
  have hq := size_list x.name
  have A0 := hide ((Below.refl w.heap.size w).alloc (Nat.le_refl _) (.cells #[.string x.name, .bool x.ask, .bool x.has, .int .i64 x.at_] 58))
  have H0 := hide (H.out.below A0.out (Nat.le_refl _))
  have R0 := hide (HB.out.trans (A0.out.mono hs))
  have K0 : Hid (Kp b w (w.alloc (.cells #[.string x.name, .bool x.ask, .bool x.has, .int .i64 x.at_] 58))) := kp_of_below A0.out
  have c0 : (w.alloc (.cells #[.string x.name, .bool x.ask, .bool x.has, .int .i64 x.at_] 58)).cell? ⟨w.heap.size, 0, none⟩ = some (.string x.name) := by simp
  have c1 : (w.alloc (.cells #[.string x.name, .bool x.ask, .bool x.has, .int .i64 x.at_] 58)).cell? ⟨w.heap.size, 1, none⟩ = some (.bool x.ask) := by simp
  have c2 : (w.alloc (.cells #[.string x.name, .bool x.ask, .bool x.has, .int .i64 x.at_] 58)).cell? ⟨w.heap.size, 2, none⟩ = some (.bool x.has) := by simp
  have c3 : (w.alloc (.cells #[.string x.name, .bool x.ask, .bool x.has, .int .i64 x.at_] 58)).cell? ⟨w.heap.size, 3, none⟩ = some (.int .i64 m) := by rw [← hm]; simp
  have hz : w.heap.size < (w.alloc (.cells #[.string x.name, .bool x.ask, .bool x.has, .int .i64 x.at_] 58)).heap.size := by simp
  cases hk : x.ask with
  | true =>
    have HT : Hid (linkT x = joined [⟨#[97, 115, 107]⟩, x.name, ⟨(Lib.decDigits m).toArray⟩]) := by
      show _ = _
      rw [joined3]
      unfold linkT
      rw [if_pos hk, hm]
      simp
    have hjl : (joined [⟨#[97, 115, 107]⟩, x.name, ⟨(Lib.decDigits m).toArray⟩]).length ≤ 100 := by
      rw [joined3]
      simp only [List.length_append, List.length_cons, List.length_nil]
      omega
    rw [HT.out]
    rw [hk] at c0 c1 c2 c3 hz A0 H0 R0 K0
    rw [hm]
    rw [hm] at c0 c1 c2 c3 hz H0 R0 K0
    clear hm h0 h1 HT c2 A0 H HB
    go_enter Tryz.func92, Tryz.ntmps92
    go_wp2_with fail
    generalize w.alloc (.cells #[.string x.name, .bool true, .bool x.has, .int .i64 (m : Int)] 58) = W at c0 c1 c3 hz H0 R0 K0 ⊢
    generalize w.heap.size = gl at c0 c1 c3 hz ⊢
    have IT := hide (fun V (hB : Below W.heap.size W V) => itoa_any m V (by omega) ((HP.out.below R0.out (Nat.le_refl _)).below hB (Nat.le_refl _)))
    go_region_with (first
      | (go_at_call 34; refine (IT.out _ ?_).mono ?_; (first | exact Below.refl _ _ | exact (Below.refl _ _).drew); rintro e w1 ⟨rfl, hB1⟩; have B1 : Hid (Below W.heap.size W w1) := ⟨hB1.os, hB1.tape, hB1.output, hB1.size, hB1.block⟩; have d0 := (B1.out.cell (p := ⟨gl, 0, none⟩) hz).trans c0; have hz1 : gl < w1.heap.size := Nat.lt_of_lt_of_le hz B1.out.size; clear hB1)
      | (go_at_call 33; refine (line3 w0 W w1 b l _ _ _ _ R0.out B1.out H0.out (by omega)).mono ?_; rintro e w2 ⟨rfl, hD2, hB2, hK2⟩; have D2 := hide hD2; have B2 := hide hB2; have K2 := hide (K0.out.trans hK2); clear hD2 hB2 hK2))
    all_goals
      go_simp
      go_wp2
      (try simp only [Exit.inBlock, Exit.then])
      refine bodyPost_ret (results_none rfl _ _ _) rfl ?_
      exact ⟨rfl, D2.out, B2.out, K2.out⟩
  | false =>
    obtain ⟨tb, htb⟩ : ∃ tb : ByteArray, tb = ⟨#[if x.has = true then 49 else 48]⟩ := ⟨_, rfl⟩
    have TR := hide (fun V => by have h := truth_any x.has V; rw [← htb] at h; exact h)
    have htl : tb.data.toList.length = 1 := by rw [htb]; rfl
    have HT : Hid (linkT x = joined [⟨#[104, 97, 115]⟩, x.name, tb]) := by
      show _ = _
      rw [joined3]
      unfold linkT
      rw [if_neg (by rw [hk]; simp), htb]
      cases x.has <;> simp
    have hjl : (joined [⟨#[104, 97, 115]⟩, x.name, tb]).length ≤ 100 := by
      rw [joined3]
      simp only [List.length_append, List.length_cons, List.length_nil]
      omega
    rw [HT.out]
    rw [hk] at c0 c1 c2 c3 hz A0 H0 R0 K0
    clear hm h0 h1 HT c3 A0 H HB htb
    go_enter Tryz.func92, Tryz.ntmps92
    go_wp2_with fail
    generalize w.alloc (.cells #[.string x.name, .bool false, .bool x.has, .int .i64 x.at_] 58) = W at c0 c1 c2 hz H0 R0 K0 ⊢
    generalize w.heap.size = gl at c0 c1 c2 hz ⊢
    go_region_with (first
      | (go_at_call 82; refine (TR.out _).mono ?_; rintro e w1 ⟨rfl, hw1⟩; have B1 : Hid (Below W.heap.size W w1) := (by rw [hw1]; first | exact Below.refl _ _ | exact (Below.refl _ _).drew); have d0 := (B1.out.cell (p := ⟨gl, 0, none⟩) hz).trans c0; have hz1 : gl < w1.heap.size := Nat.lt_of_lt_of_le hz B1.out.size; clear hw1)
      | (go_at_call 33; refine (line3 w0 W w1 b l _ _ _ _ R0.out B1.out H0.out (by omega)).mono ?_; rintro e w2 ⟨rfl, hD2, hB2, hK2⟩; have D2 := hide hD2; have B2 := hide hB2; have K2 := hide (K0.out.trans hK2); clear hD2 hB2 hK2))
    all_goals
      go_simp
      go_wp2
      go_end0
      exact ⟨rfl, D2.out, B2.out, K2.out⟩

end Go.Proofs.YtkbhcajiebeepaaGreatDoor.Vp
