/-
  spec: l6Deed of a source, of none.
-/
import Derived.Test.YtclalcefkmjenaaGreatDoorZFoPure
import Derived.Test.YtclalcefkmjenaaGreatDoorZDDec
import Derived.Deep.RegionHeld3
import Derived.Deep.DeepCutAuto
namespace Go.Proofs.YtclalcefkmjenaaGreatDoor.Vp
open Go.RowKit

def valS (xs : List ByteArray) : List Value := xs.map Value.string
/-- lines, each with its newline. -/
def flatL (xs : List ByteArray) : List UInt8 := xs.flatMap (fun x => x.data.toList ++ [10])
theorem valS_one (x : ByteArray) : valS [x] = [.string x] := rfl
theorem valS_snoc (xs : List ByteArray) (x : ByteArray) : valS (xs ++ [x]) = valS xs ++ [.string x] := by simp [valS]
theorem flatL_snoc (xs : List ByteArray) (x : ByteArray) : flatL (xs ++ [x]) = flatL xs ++ x.data.toList ++ [10] := by simp [flatL]
theorem flatL_one (x : ByteArray) : flatL [x] = x.data.toList ++ [10] := by simp [flatL]
theorem own_lit1 (w : World) (s : ByteArray) : (w.alloc (.cells #[.string s] 9)).ownsRow w.heap.size 9 1 (.slice (some ⟨w.heap.size, 0, none⟩) 1 1) 1 (valS [s]) :=
  ⟨by simp [valS], .inr ⟨w.heap.size, 1, #[.string s], rfl, Nat.le_refl _, heap_alloc_new w _, Nat.le_refl _, by unfold maxLen; omega, by simp, by simp [valS]⟩⟩
/-- an answer of l6Deed. -/
structure Lines (w w' : World) (d : Deed) (v : Value) (xs : List ByteArray) : Prop where
  own : w'.ownsRow w.heap.size 9 1 v xs.length (valS xs)
  ne : xs ≠ []
  eq : flatL xs = deedT d
  few : xs.length ≤ 402
  bel : Below w.heap.size w w'

set_option maxRecDepth 100000 in
set_option maxHeartbeats 2000000 in
theorem l6Deed_src (d : Deed) (a0 : Option Addr) (cap0 : Nat) (a1 : Option Addr) (cap1 : Nat) (w : World) (hnm : d.name.size ≤ 60) (htx : d.text.size ≤ 2000) (hk : d.kind = 1) :
    Calls Tryz.prog 19 #[.agg #[.string d.name, .int .i64 d.kind, .int .i64 d.code, .string d.text, .slice a0 d.actN cap0, .slice a1 d.linksN cap1]] w fun e w' => ∃ v xs, e = .returned v ∧ Lines w w' d v xs := by
  have A0 := hide ((Below.refl w.heap.size w).alloc (Nat.le_refl _) (.cells #[.string d.name, .int .i64 d.kind, .int .i64 d.code, .string d.text, .slice a0 d.actN cap0, .slice a1 d.linksN cap1] 56))
  have c0 : (w.alloc (.cells #[.string d.name, .int .i64 d.kind, .int .i64 d.code, .string d.text, .slice a0 d.actN cap0, .slice a1 d.linksN cap1] 56)).cell? ⟨w.heap.size, 0, none⟩ = some (.string d.name) := by simp
  have c3 : (w.alloc (.cells #[.string d.name, .int .i64 d.kind, .int .i64 d.code, .string d.text, .slice a0 d.actN cap0, .slice a1 d.linksN cap1] 56)).cell? ⟨w.heap.size, 3, none⟩ = some (.string d.text) := by simp
  have hz : w.heap.size < (w.alloc (.cells #[.string d.name, .int .i64 d.kind, .int .i64 d.code, .string d.text, .slice a0 d.actN cap0, .slice a1 d.linksN cap1] 56)).heap.size := by simp
  have hqq := quoteB_le d.text.data.toList
  rw [size_list] at hqq
  have HE : Hid (deedT d = srcT d ++ [10]) := by show _ = _; unfold deedT; rw [if_pos hk]
  rw [hk] at A0 c0 c3 hz ⊢
  clear hk
  go_enter Tryz.func19, Tryz.ntmps19
  go_wp2_with fail
  have hws : w.heap.size ≤ (w.alloc (.cells #[.string d.name, .int .i64 1, .int .i64 d.code, .string d.text, .slice a0 d.actN cap0, .slice a1 d.linksN cap1] 56)).heap.size := A0.out.size
  generalize w.alloc (.cells #[.string d.name, .int .i64 1, .int .i64 d.code, .string d.text, .slice a0 d.actN cap0, .slice a1 d.linksN cap1] 56) = W at A0 c0 c3 hz hws ⊢
  have QT := hide (fun V => l1Quote_any d.text V htx)
  generalize hgd : w.heap.size = gd at c0 c3 hz ⊢
  have hl7 : ((⟨#[115, 111, 117, 114, 99, 101, 32]⟩ : ByteArray) ++ d.name).size ≤ 100 := by rw [ByteArray.size_append]; have : (⟨#[115, 111, 117, 114, 99, 101, 32]⟩ : ByteArray).size = 7 := rfl; omega
  have hl8 : ((⟨#[115, 111, 117, 114, 99, 101, 32]⟩ : ByteArray) ++ d.name ++ ⟨#[32]⟩).size ≤ 101 := by rw [ByteArray.size_append]; have : (⟨#[32]⟩ : ByteArray).size = 1 := rfl; omega
  go_region_with (first
    | (go_at_call 34; refine (QT.out _).mono ?_; rintro e w2 ⟨rfl, hB2⟩; have B2 : Hid (Below W.heap.size W w2) := ⟨hB2.os, hB2.tape, hB2.output, hB2.size, hB2.block⟩; have d0 := (B2.out.cell (p := ⟨gd, 0, none⟩) hz).trans c0; have hz1 : gd < w2.heap.size := Nat.lt_of_lt_of_le hz B2.out.size; clear hB2))
  all_goals
    go_simp
    go_wp2
    go_ret
    refine ⟨_, [_], rfl, ⟨own_mono (own_lit1 w2 _) (Nat.le_trans hws B2.out.size), by simp, ?_, by simp, A0.out.trans ((B2.out.alloc B2.out.size _).mono hws)⟩⟩
    rw [HE.out, flatL_one]
    simp [srcT]

end Go.Proofs.YtclalcefkmjenaaGreatDoor.Vp
