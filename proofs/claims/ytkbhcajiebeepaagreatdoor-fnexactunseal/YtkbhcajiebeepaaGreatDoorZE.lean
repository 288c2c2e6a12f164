/-
  Put together of: DOnly, VpImpl, VpSl, CaName, SeSum.
-/
import Derived.Test.YtkbhcajiebeepaaGreatDoorZD

/-
  Of the blocks that were there, one alone may have changed.
-/
namespace Go.Proofs.YtkbhcajiebeepaaGreatDoor.Vp
open Go.RowKit

/-- Of the blocks that were there, b alone may have changed. -/
structure Only (b : Nat) (w w' : World) : Prop where
  os : w'.os = w.os
  tape : w'.tape = w.tape
  output : w'.output = w.output
  size : w.heap.size ≤ w'.heap.size
  block : ∀ k, k < w.heap.size → k ≠ b → w'.heap[k]? = w.heap[k]?
  ty : ∀ cs t fz, w.heap[b]? = some (.cells cs t fz) → ∃ cs', w'.heap[b]? = some (.cells cs' t fz)
theorem Only.refl (b : Nat) (w : World) : Only b w w := ⟨rfl, rfl, rfl, Nat.le_refl _, fun _ _ _ => rfl, fun cs _ _ h => ⟨cs, h⟩⟩
theorem heap_in {w : World} {i : Nat} {o : Obj} (h : w.heap[i]? = some o) : i < w.heap.size := by
  rcases Nat.lt_or_ge i w.heap.size with h' | h'
  · exact h'
  · rw [Array.getElem?_eq_none h'] at h; cases h
theorem heap_set_at {w : World} {b j : Nat} {cs : Array Value} {t : TypeId} {fz : Nat × Nat} (h : w.heap[b]? = some (.cells cs t fz)) (v : Value) : (w.setCell ⟨b, j, none⟩ v).heap[b]? = some (.cells (cs.setIfInBounds j v) t fz) := by
  simp only [World.setCell, Array.getElem?_modify, if_pos, h, Option.map_some]
  rfl
theorem Only.trans {b : Nat} {u v w : World} (h : Only b u v) (k : Only b v w) : Only b u w :=
  ⟨k.os.trans h.os, k.tape.trans h.tape, k.output.trans h.output, Nat.le_trans h.size k.size, fun i hi ho => (k.block i (Nat.lt_of_lt_of_le hi h.size) ho).trans (h.block i hi ho), fun cs t fz hb => let ⟨cs1, h1⟩ := h.ty cs t fz hb; k.ty cs1 t fz h1⟩
theorem Only.of_below {b : Nat} {w w' : World} (h : Below w.heap.size w w') : Only b w w' := ⟨h.os, h.tape, h.output, h.size, fun i hi _ => h.block i hi, fun cs _ _ hb => ⟨cs, (h.block b (heap_in hb)).trans hb⟩⟩
theorem Only.drew {b : Nat} {u w : World} (h : Only b u w) : Only b u w.drew := h.trans (Only.of_below (Below.refl _ _).drew)
theorem Only.al {b : Nat} {u w : World} (h : Only b u w) (o : Obj) : Only b u (w.alloc o) := h.trans (Only.of_below ((Below.refl _ _).alloc (Nat.le_refl _) _))
theorem Only.below {b B : Nat} {w w' : World} (h : Only b w w') (hB : B ≤ b) (hw : B ≤ w.heap.size) : Below B w w' := ⟨h.os, h.tape, h.output, h.size, fun k hk => h.block k (by omega) (by omega)⟩
theorem Only.cell {b : Nat} {w w' : World} (h : Only b w w') (k o : Nat) (hk : k < w.heap.size) (hb : k ≠ b) : w'.cell? ⟨k, o, none⟩ = w.cell? ⟨k, o, none⟩ := World.cell?_of_block (w := w) (a := ⟨k, o, none⟩) (h.block k hk hb)
theorem bset {a w : World} {b : Nat} (h : Only b a w) (j : Nat) (v : Value) : Only b a (w.setCell ⟨b, j, none⟩ v) :=
  h.trans ⟨rfl, rfl, rfl, by simp [World.setCell], fun k _ ho => Below.heap_setCell _ _ _ _ (by simpa using ho), fun _ _ _ hb => ⟨_, heap_set_at hb v⟩⟩
theorem end0 {P : Program} {fn : Func} {R : Ending → World → Prop} {a : Act} {w : World} (hr : fn.results = #[]) (hd : a.defers = []) (hR : R (.returned (.tuple #[])) w) : bodyPost P fn R .normal a w :=
  bodyPost_end (v := .tuple #[]) (by simp [results, hr]) hd hR

theorem ret0 {P : Program} {fn : Func} {R : Ending → World → Prop} {a : Act} {w : World} (hr : fn.results = #[]) (hd : a.defers = []) (hR : R (.returned (.tuple #[])) w) : bodyPost P fn R .ret a w :=
  bodyPost_ret (v := .tuple #[]) (by simp [results, hr]) hd hR
end Go.Proofs.YtkbhcajiebeepaaGreatDoor.Vp

/-
  impl.ValidProgram; eqInsS, eqProgram over two rows of the same instructions.
-/
namespace Go.Proofs.YtkbhcajiebeepaaGreatDoor.Vp
open Go.RowKit

theorem Tab.below {w w' : World} {B : Nat} (h : Tab w) (hb : Below B w w') (hB : 4 < B) : Tab w' :=
  ⟨Nat.lt_of_lt_of_le h.1 hb.size, fun k hk => ⟨(hb.cell (p := ⟨4, _, none⟩) hB).trans (h.2 k hk).1, (hb.cell (p := ⟨4, _, none⟩) hB).trans (h.2 k hk).2⟩⟩

set_option maxHeartbeats 1000000 in
theorem implValid_no (a : Option Addr) (n cap : Nat) (f : Nat → Ins) (w : World) (hn : n ≤ 1048576) (h : (n : Int) < 1 ∨ 200 < (n : Int)) :
    Calls Tryz.prog 131 #[.agg #[.slice a n cap]] w fun e w' => e = .returned (.bool (valid f n)) ∧ Below w.heap.size w w' := by
  have e : valid f n = false := by
    unfold valid
    rw [show decide (1 ≤ (n : Int) ∧ (n : Int) ≤ 200) = false by simp; omega, Bool.and_false]
  rw [e]
  clear e
  rcases h with h | h
  all_goals
    go_enter Tryz.func131, Tryz.ntmps131
    go_wp2
    go_ret
    exact ⟨rfl, (Below.refl _ _).alloc (Nat.le_refl _) _⟩

set_option maxHeartbeats 1000000 in
theorem implValid_row (b off n cap : Nat) (f : Nat → Ins) (w : World) (h1 : 1 ≤ (n : Int)) (h2 : (n : Int) ≤ 200) (hb : b < w.heap.size) (hf : ∀ i, i < n → AtIns w b off i (f i)) (hT : Tab w) :
    Calls Tryz.prog 131 #[.agg #[.slice (some ⟨b, off, none⟩) n cap]] w fun e w' => e = .returned (.bool (valid f n)) ∧ Below w.heap.size w w' := by
  have HF := hide hf
  have HT := hide hT
  have hT0 := hT.1
  have HV : Hid (valid f n = okTo f n) := by
    show valid f n = okTo f n
    unfold valid
    rw [show decide (1 ≤ (n : Int) ∧ (n : Int) ≤ 200) = true by simp; omega, Bool.and_true]
  clear hf hT
  go_enter Tryz.func131, Tryz.ntmps131
  go_wp2
  go_loopw [18] (fun i wr => ∃ k : Nat, k ≤ n ∧ i = .int .i64 k ∧ okTo f k = true ∧ Below w.heap.size w wr) (fun i _ => n - (intOf i).toNat)
  case atStart => exact ⟨0, by omega, rfl, rfl, (Below.refl _ _).alloc (Nat.le_refl _) _⟩
  case round =>
    obtain ⟨k, hk, rfl, hok, hB⟩ := hrel
    have HB := hide hB
    have HK := hide hok
    have hsz : w.heap.size ≤ wr.heap.size := hB.size
    clear hB hok
    by_cases hlt : k < n
    · obtain ⟨c0, c1, c2⟩ := (HF.out k hlt).below HB.out hb
      go_wp2_with fail
      refine (validIns_any _ _ _ _ (HT.out.below (HB.out.alloc hsz _) hT0)).mono ?_
      rintro e w' ⟨rfl, hB'⟩
      have HB' : Hid (Below w.heap.size w w') := (HB.out.alloc hsz _).trans (hB'.mono (by simp; omega))
      clear hB' c0 c1 c2
      cases hi : insOk (f k).op (f k).s.size (f k).n with
      | false =>
        have HI := hide hi
        clear hi
        go_wp2
        go_ret
        refine ⟨ret_bool ?_, HB'.out⟩
        rw [HV.out, okTo_false hlt HI.out]
      | true =>
        have HI := hide hi
        clear hi
        go_wp2
        exact ⟨⟨k + 1, by omega, by go_num, by simp [okTo, HK.out, HI.out], HB'.out⟩, by simp [intOf]; omega⟩
    · have e : k = n := by omega
      subst e
      go_wp2
      go_ret
      exact ⟨ret_bool (by rw [HV.out, HK.out]), HB.out⟩

theorem implValid_any (b off n cap : Nat) (f : Nat → Ins) (w : World) (hn : n ≤ 1048576) (hb : b < w.heap.size) (hf : ∀ i, i < n → AtIns w b off i (f i)) (hT : Tab w) :
    Calls Tryz.prog 131 #[.agg #[.slice (some ⟨b, off, none⟩) n cap]] w fun e w' => e = .returned (.bool (valid f n)) ∧ Below w.heap.size w w' := by
  by_cases h : (n : Int) < 1 ∨ 200 < (n : Int)
  · exact implValid_no _ n cap f w hn h
  · exact implValid_row b off n cap f w (by omega) (by omega) hb hf hT

end Go.Proofs.YtkbhcajiebeepaaGreatDoor.Vp

/-
  ValidProgram of a program that may have no instruction.
-/
namespace Go.Proofs.YtkbhcajiebeepaaGreatDoor.Vp
open Go.RowKit

theorem valid_zero (f : Nat → Ins) : valid f 0 = false := by simp [valid]
theorem implValid_sl (a : Option Addr) (n cap : Nat) (f : Nat → Ins) (w : World) (hn : n ≤ 1048576) (hv : SlIns w a n f) (hT : Tab w) :
    Calls Tryz.prog 131 #[.agg #[.slice a n cap]] w fun e w' => e = .returned (.bool (valid f n)) ∧ Below w.heap.size w w' := by
  rcases hv with rfl | ⟨b, off, rfl, hr⟩
  · exact implValid_no a 0 cap f w (by omega) (by simp)
  · exact implValid_any b off n cap f w hn hr.1 hr.2 hT
set_option maxHeartbeats 1000000 in
theorem specValid_nil (a : Option Addr) (cap : Nat) (f : Nat → Ins) (w : World) : Calls Tryz.prog 123 #[.agg #[.slice a 0 cap]] w fun e w' => e = .returned (.bool (valid f 0)) ∧ Below w.heap.size w w' := by
  rw [valid_zero]
  have A0 := hide ((Below.refl w.heap.size w).alloc (Nat.le_refl _) (.cells #[.slice a 0 cap] 48))
  go_enter Tryz.func123, Tryz.ntmps123
  go_wp2
  go_loop [3] (fun i => i = .int .i64 0) (fun _ => 0)
  case atStart => rfl
  case round =>
    subst hrel
    go_wp2
    go_ret
    exact ⟨rfl, A0.out⟩
theorem specValid_sl (a : Option Addr) (n cap : Nat) (f : Nat → Ins) (w : World) (hn : n ≤ 1048576) (hv : SlIns w a n f) (hs : ∀ i, i < n → (f i).s.size ≤ maxLen) :
    Calls Tryz.prog 123 #[.agg #[.slice a n cap]] w fun e w' => e = .returned (.bool (valid f n)) ∧ Below w.heap.size w w' := by
  rcases hv with rfl | ⟨b, off, rfl, hr⟩
  · exact specValid_nil a cap f w
  · exact specValid_row b off n cap f w hn hr.1 hr.2 hs

end Go.Proofs.YtkbhcajiebeepaaGreatDoor.Vp

/-
  isName leaves the world as it is.
-/
namespace Go.Proofs.YtkbhcajiebeepaaGreatDoor.Vp
open Go.RowKit

set_option maxHeartbeats 1000000 in
theorem isName_same (s : ByteArray) (w : World) : Calls Tryz.prog 129 #[.string s] w fun e w' => e = .returned (.bool (nameOk s)) ∧ w' = w := by
  by_cases h1 : 1 ≤ (s.size : Int)
  · by_cases h2 : (s.size : Int) ≤ 60
    · have HV : Hid (nameOk s = nameTo s s.size) := by
        show nameOk s = nameTo s s.size
        unfold nameOk
        rw [show decide (1 ≤ s.size ∧ s.size ≤ 60) = true by simp; omega, Bool.true_and]
      go_enter Tryz.func129, Tryz.ntmps129
      go_wp2
      go_loopw [14] (fun i wr => ∃ k : Nat, k ≤ s.size ∧ i = .int .i64 k ∧ nameTo s k = true ∧ wr = w) (fun i _ => s.size - (intOf i).toNat)
      case atStart => exact ⟨0, by omega, rfl, rfl, rfl⟩
      case round =>
        obtain ⟨k, hk, rfl, hok, hB⟩ := hrel
        have HB := hide hB
        have HK := hide hok
        clear hB hok
        by_cases hlt : k < s.size
        · by_cases p1 : 33 ≤ (s[k].toNat : Int)
          · by_cases p2 : (s[k].toNat : Int) ≤ 126
            · go_wp2
              exact ⟨⟨k + 1, by omega, by go_num, by rw [nameTo_succ hlt, HK.out]; simp; omega, HB.out⟩, by simp [intOf]; omega⟩
            · go_wp2
              go_ret
              exact ⟨ret_bool (by rw [HV.out, nameTo_false hlt (by omega)]), HB.out⟩
          · go_wp2
            go_ret
            exact ⟨ret_bool (by rw [HV.out, nameTo_false hlt (by omega)]), HB.out⟩
        · have e : k = s.size := by omega
          subst e
          go_wp2
          go_ret
          exact ⟨ret_bool (by rw [HV.out, HK.out]), HB.out⟩
    · have e : nameOk s = false := by
        unfold nameOk
        rw [show decide (1 ≤ s.size ∧ s.size ≤ 60) = false by simp; omega, Bool.false_and]
      rw [e]
      clear e
      go_enter Tryz.func129, Tryz.ntmps129
      go_wp2
      go_ret
      exact ⟨rfl, rfl⟩
  · have e : nameOk s = false := by
      unfold nameOk
      rw [show decide (1 ≤ s.size ∧ s.size ≤ 60) = false by simp; omega, Bool.false_and]
    rw [e]
    clear e
    go_enter Tryz.func129, Tryz.ntmps129
    go_wp2
    go_ret
    exact ⟨rfl, rfl⟩

end Go.Proofs.YtkbhcajiebeepaaGreatDoor.Vp

/-
  Seal: the sum of a text: impl.sum.
-/
namespace Go.Proofs.YtkbhcajiebeepaaGreatDoor.Vp
open Go.RowKit

def fnv (z : Int) (c : UInt8) : Int := IntKind.u64.wrap (bits BinOp.xor IntKind.u64 z (IntKind.u64.wrap (c.toNat : Int)) * 1099511628211)
/-- the sum of the first k bytes. -/
def sumTo (s : ByteArray) : Nat → Int
  | 0 => 14695981039346656037
  | k + 1 => fnv (sumTo s k) (s.data.toList.getD k 0)
theorem sumTo_in (s : ByteArray) (k : Nat) : 0 ≤ sumTo s k ∧ sumTo s k ≤ 18446744073709551615 := by
  cases k with
  | zero => exact ⟨(by decide : (0 : Int) ≤ 14695981039346656037), (by decide : (14695981039346656037 : Int) ≤ 18446744073709551615)⟩
  | succ k =>
    show 0 ≤ fnv _ _ ∧ fnv _ _ ≤ _
    unfold fnv
    rw [IntKind.wrap_u64]
    omega
theorem sumTo_succ (s : ByteArray) (k : Nat) (h : k < s.size) : sumTo s (k + 1) = IntKind.u64.wrap (bits BinOp.xor IntKind.u64 (sumTo s k) (IntKind.u64.wrap (s[k].toNat : Int)) * 1099511628211) := by
  have e : s.data.toList.getD k 0 = s[k] := by
    rw [List.getD_eq_getElem?_getD]
    have h2 : k < s.data.size := h
    rw [Array.getElem?_toList, Array.getElem?_eq_getElem h2]
    rfl
  rw [sumTo, fnv, e]

set_option maxHeartbeats 1000000 in
theorem sum_any (s : ByteArray) (w : World) (hs : (s.size : Int) ≤ 2097152) :
    Calls Tryz.prog 46 #[.string s] w fun e w' => e = .returned (.int .u64 (sumTo s s.size)) ∧ w' = w := by
  go_enter Tryz.func46, Tryz.ntmps46
  go_wp2
  go_loop [3, 7] (fun c i => ∃ (k : Nat) (z : Int), k ≤ s.size ∧ 0 ≤ z ∧ z ≤ 18446744073709551615 ∧ Hid (z = sumTo s k) ∧ c = .int .u64 z ∧ i = .int .i64 k) (fun _ i => s.size - (intOf i).toNat)
  case atStart => exact ⟨0, 14695981039346656037, by omega, by omega, by omega, rfl, rfl, rfl⟩
  case round =>
    obtain ⟨k, z, hk, hz0, hz1, HZ, rfl, rfl⟩ := hrel
    by_cases hlt : k < s.size
    · have HS : Hid (IntKind.u64.wrap (bits BinOp.xor IntKind.u64 z (IntKind.u64.wrap (s[k].toNat : Int)) * 1099511628211) = sumTo s (k + 1)) := by show _ = _; rw [HZ.out]; exact (sumTo_succ s k hlt).symm
      have HI := hide (sumTo_in s (k + 1))
      go_wp2
      rw [HS.out]
      exact ⟨⟨k + 1, _, by omega, HI.out.1, HI.out.2, rfl, rfl, by go_num⟩, by simp [intOf]; omega⟩
    · obtain rfl : k = s.size := by omega
      go_wp2
      go_ret
      exact ⟨by rw [← HZ.out]; rfl, by rfl⟩

end Go.Proofs.YtkbhcajiebeepaaGreatDoor.Vp
