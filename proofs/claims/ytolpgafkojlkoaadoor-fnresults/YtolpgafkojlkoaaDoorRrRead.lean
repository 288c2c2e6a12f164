/-
  ReadResult, both ways; results with an empty chain; the law.
-/
import Derived.Test.YtolpgafkojlkoaaDoorDBase
namespace Go.Proofs.YtolpgafkojlkoaaDoor.Vp
open Go.RowKit

/-- A result with no chain. -/
abbrev resV (c : Int) (t : ByteArray) : Value := .agg #[.int .i64 c, .string t, .slice none 0 0]
/-- What is read: a code and a text, or nothing. -/
def readOk (s : ByteArray) : Bool := decide (2 ≤ s.size ∧ s.size ≤ 2002) && (match s.data.toList with
  | a :: b :: _ => decide (48 ≤ a.toNat ∧ a.toNat ≤ 53 ∧ b.toNat = 58)
  | _ => false)
def readC (s : ByteArray) : Int := match s.data.toList with
  | a :: _ => (a.toNat : Int) - 48
  | _ => 0
theorem read_is {s : ByteArray} (h : 2 ≤ s.size) : readOk s = (decide (2 ≤ s.size ∧ s.size ≤ 2002) && decide (48 ≤ (s[0]'(by omega)).toNat ∧ (s[0]'(by omega)).toNat ≤ 53 ∧ (s[1]'(by omega)).toNat = 58)) := by
  obtain ⟨⟨l⟩⟩ := s
  match l, h with
  | a :: b :: r, _ => rfl
theorem readC_is {s : ByteArray} (h : 2 ≤ s.size) : readC s = ((s[0]'(by omega)).toNat : Int) - 48 := by
  obtain ⟨⟨l⟩⟩ := s
  match l, h with
  | a :: b :: r, _ => rfl
/-- The answer's two parts. -/
def readV (s : ByteArray) : Value := .tuple #[if readOk s then resV (readC s) (s.extract 2 s.size) else resV 0 ⟨#[]⟩, .bool (readOk s)]
theorem readV_no {s : ByteArray} (h : readOk s = false) : readV s = .tuple #[resV 0 ⟨#[]⟩, .bool false] := by simp [readV, h]
theorem readV_yes {s : ByteArray} (h : readOk s = true) : readV s = .tuple #[resV (readC s) (s.extract 2 s.size), .bool true] := by simp [readV, h]
theorem readOk_size {s : ByteArray} (h : ¬ (2 ≤ s.size ∧ s.size ≤ 2002)) : readOk s = false := by
  unfold readOk
  rw [show decide (2 ≤ s.size ∧ s.size ≤ 2002) = false by simpa using h, Bool.false_and]

set_option maxHeartbeats 2000000 in
theorem implRead_any (s : ByteArray) (w : World) : Calls Tryd.prog 14 #[.string s] w fun e w' => e = .returned (readV s) ∧ Below w.heap.size w w' := by
  by_cases h1 : 2 ≤ (s.size : Int)
  · by_cases h2 : (s.size : Int) ≤ 2002
    · have hr := read_is (show 2 ≤ s.size by omega)
      have hc := readC_is (show 2 ≤ s.size by omega)
      rw [show decide (2 ≤ s.size ∧ s.size ≤ 2002) = true by simp; omega, Bool.true_and] at hr
      have i0 : 0 < s.size := by omega
      have i1 : 1 < s.size := by omega
      by_cases p : 48 ≤ (s[0].toNat : Int) ∧ (s[0].toNat : Int) ≤ 53 ∧ (s[1].toNat : Int) = 58
      · rw [readV_yes (by rw [hr]; simp; omega), hc]
        obtain ⟨p1, p2, p3'⟩ := p
        have p3 : ((s[1].toNat : Int) != 58) = false := by simp; omega
        clear hr hc p3'
        go_enter Tryd.func14, Tryd.ntmps14
        go_wp2_with fail
        go_region_with (fail)
        all_goals
          go_wp2
          refine bodyPost_ret (v := .tuple #[resV ((s[0].toNat : Int) - 48) (s.extract 2 s.size), .bool true]) (by simp [results, Tryd.results14, go_sem]; rw [IntKind.wrap_u8, IntKind.wrap_i64]; omega) rfl ⟨rfl, ?_⟩
          repeat (first | exact Below.refl _ _ | (refine Below.drew ?_) | (refine Below.alloc ?_ (by simp) _) | (refine Below.setCell ?_ (by simp) _))
      · rw [readV_no (by rw [hr]; simp; omega)]
        clear hr hc
        by_cases p1 : 48 ≤ (s[0].toNat : Int)
        · by_cases p2 : (s[0].toNat : Int) ≤ 53
          · have p3 : ((s[1].toNat : Int) != 58) = true := by simp; omega
            go_enter Tryd.func14, Tryd.ntmps14
            go_wp2
            refine bodyPost_ret (v := .tuple #[resV 0 ⟨#[]⟩, .bool false]) (by simp [results, Tryd.results14, go_sem]) rfl ⟨rfl, ?_⟩
            repeat (first | exact Below.refl _ _ | (refine Below.drew ?_) | (refine Below.alloc ?_ (by simp) _) | (refine Below.setCell ?_ (by simp) _))
          · go_enter Tryd.func14, Tryd.ntmps14
            go_wp2
            refine bodyPost_ret (v := .tuple #[resV 0 ⟨#[]⟩, .bool false]) (by simp [results, Tryd.results14, go_sem]) rfl ⟨rfl, ?_⟩
            repeat (first | exact Below.refl _ _ | (refine Below.drew ?_) | (refine Below.alloc ?_ (by simp) _) | (refine Below.setCell ?_ (by simp) _))
        · go_enter Tryd.func14, Tryd.ntmps14
          go_wp2
          refine bodyPost_ret (v := .tuple #[resV 0 ⟨#[]⟩, .bool false]) (by simp [results, Tryd.results14, go_sem]) rfl ⟨rfl, ?_⟩
          repeat (first | exact Below.refl _ _ | (refine Below.drew ?_) | (refine Below.alloc ?_ (by simp) _) | (refine Below.setCell ?_ (by simp) _))
    · rw [readV_no (readOk_size (by omega))]
      go_enter Tryd.func14, Tryd.ntmps14
      go_wp2
      refine bodyPost_ret (v := .tuple #[resV 0 ⟨#[]⟩, .bool false]) (by simp [results, Tryd.results14, go_sem]) rfl ⟨rfl, ?_⟩
      repeat (first | exact Below.refl _ _ | (refine Below.drew ?_) | (refine Below.alloc ?_ (by simp) _) | (refine Below.setCell ?_ (by simp) _))
  · rw [readV_no (readOk_size (by omega))]
    go_enter Tryd.func14, Tryd.ntmps14
    go_wp2
    refine bodyPost_ret (v := .tuple #[resV 0 ⟨#[]⟩, .bool false]) (by simp [results, Tryd.results14, go_sem]) rfl ⟨rfl, ?_⟩
    repeat (first | exact Below.refl _ _ | (refine Below.drew ?_) | (refine Below.alloc ?_ (by simp) _) | (refine Below.setCell ?_ (by simp) _))

set_option maxHeartbeats 2000000 in
theorem specRead_any (s : ByteArray) (w : World) (hs : (s.size : Int) ≤ 1048576) : Calls Tryd.prog 17 #[.string s] w fun e w' => e = .returned (readV s) ∧ Below w.heap.size w w' := by
  by_cases h1 : 2 ≤ (s.size : Int)
  · have hr := read_is (show 2 ≤ s.size by omega)
    have hc := readC_is (show 2 ≤ s.size by omega)
    have i0 : 0 < s.size := by omega
    have i1 : 1 < s.size := by omega
    by_cases p : 48 ≤ (s[0].toNat : Int) ∧ (s[0].toNat : Int) ≤ 53 ∧ (s[1].toNat : Int) = 58
    · obtain ⟨p1, p2, p3'⟩ := p
      have p3 : ((s[1].toNat : Int) != 58) = false := by simp; omega
      by_cases h2 : (s.size : Int) ≤ 2002
      · rw [readV_yes (by rw [hr]; simp; omega), hc]
        clear hr hc p3'
        go_enter Tryd.func17, Tryd.ntmps17
        go_wp2_with fail
        go_region_with (fail)
        all_goals
          go_wp2
          refine bodyPost_ret (v := .tuple #[resV ((s[0].toNat : Int) - 48) (s.extract 2 s.size), .bool true]) (by simp [results, Tryd.results17, go_sem]; rw [IntKind.wrap_u8, IntKind.wrap_i64]; omega) rfl ⟨rfl, ?_⟩
          repeat (first | exact Below.refl _ _ | (refine Below.drew ?_) | (refine Below.alloc ?_ (by simp) _) | (refine Below.setCell ?_ (by simp) _))
      · rw [readV_no (readOk_size (by omega))]
        clear hr hc p3'
        go_enter Tryd.func17, Tryd.ntmps17
        go_wp2
        refine bodyPost_ret (v := .tuple #[resV 0 ⟨#[]⟩, .bool false]) (by simp [results, Tryd.results17, go_sem]) rfl ⟨rfl, ?_⟩
        repeat (first | exact Below.refl _ _ | (refine Below.drew ?_) | (refine Below.alloc ?_ (by simp) _) | (refine Below.setCell ?_ (by simp) _))
    · rw [readV_no (by rw [hr]; simp; omega)]
      clear hr hc
      by_cases p1 : 48 ≤ (s[0].toNat : Int)
      · by_cases p2 : (s[0].toNat : Int) ≤ 53
        · have p3 : ((s[1].toNat : Int) != 58) = true := by simp; omega
          go_enter Tryd.func17, Tryd.ntmps17
          go_wp2
          refine bodyPost_ret (v := .tuple #[resV 0 ⟨#[]⟩, .bool false]) (by simp [results, Tryd.results17, go_sem]) rfl ⟨rfl, ?_⟩
          repeat (first | exact Below.refl _ _ | (refine Below.drew ?_) | (refine Below.alloc ?_ (by simp) _) | (refine Below.setCell ?_ (by simp) _))
        · go_enter Tryd.func17, Tryd.ntmps17
          go_wp2
          refine bodyPost_ret (v := .tuple #[resV 0 ⟨#[]⟩, .bool false]) (by simp [results, Tryd.results17, go_sem]) rfl ⟨rfl, ?_⟩
          repeat (first | exact Below.refl _ _ | (refine Below.drew ?_) | (refine Below.alloc ?_ (by simp) _) | (refine Below.setCell ?_ (by simp) _))
      · go_enter Tryd.func17, Tryd.ntmps17
        go_wp2
        refine bodyPost_ret (v := .tuple #[resV 0 ⟨#[]⟩, .bool false]) (by simp [results, Tryd.results17, go_sem]) rfl ⟨rfl, ?_⟩
        repeat (first | exact Below.refl _ _ | (refine Below.drew ?_) | (refine Below.alloc ?_ (by simp) _) | (refine Below.setCell ?_ (by simp) _))
  · rw [readV_no (readOk_size (by omega))]
    go_enter Tryd.func17, Tryd.ntmps17
    go_wp2
    refine bodyPost_ret (v := .tuple #[resV 0 ⟨#[]⟩, .bool false]) (by simp [results, Tryd.results17, go_sem]) rfl ⟨rfl, ?_⟩
    repeat (first | exact Below.refl _ _ | (refine Below.drew ?_) | (refine Below.alloc ?_ (by simp) _) | (refine Below.setCell ?_ (by simp) _))

end Go.Proofs.YtolpgafkojlkoaaDoor.Vp
