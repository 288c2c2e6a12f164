import Derived.Test.YtkophfgkcijjkaaGreatDoorProg
import Derived.WalkKit
import Derived.WalkSpells
import Derived.WalkLawsBesides
import Derived.Deep.OwnRows
import Derived.Deep.RegionWith
import Derived.Deep.QuietTactic
import Derived.BigQuiet
namespace Go.Proofs.YtkophfgkcijjkaaGreatDoor.Vp
open Go.RowKit
theorem hide {p : Prop} (h : p) : Hid p := h
theorem nzL {α : Type} : (∀ (l : List α) (i : Nat) (a : α), l.toArray.setIfInBounds i a = (l.set i a).toArray) ∧ (∀ (a b : α) (l : List α), (a :: l).set 0 b = b :: l) ∧ ∀ (a b : α) (l : List α) (i : Nat), (a :: l).set (i + 1) b = a :: l.set i b :=
  ⟨fun _ _ _ => List.setIfInBounds_toArray .., fun _ _ _ => rfl, fun _ _ _ _ => rfl⟩
theorem bcell {W w1 : World} (hb : Below W.heap.size W w1) : (∀ b o, b < W.heap.size → w1.cell? ⟨b, o, none⟩ = W.cell? ⟨b, o, none⟩) ∧ (∀ b o, b < W.heap.size → w1.frozen? ⟨b, o, none⟩ = W.frozen? ⟨b, o, none⟩) :=
  ⟨fun b o h => hb.cell (p := ⟨b, o, none⟩) h, fun b o h => hb.frozen (p := ⟨b, o, none⟩) h⟩
theorem cell_far (w : World) (p a : Addr) (v : Value) (h : p.block ≠ a.block) : (w.setCell p v).cell? a = w.cell? a :=
  World.cell?_of_block (w := w) (a := a) (Below.heap_setCell w p v a.block (fun e => h e.symm))
theorem ret_bool {a b : Bool} (h : a = b) : Ending.returned (.bool a) = .returned (.bool b) := by rw [h]
theorem ret_str {a b : ByteArray} (h : a = b) : Ending.returned (.string a) = .returned (.string b) := by rw [h]
theorem empty_of_size {s : ByteArray} (h : s.size = 0) : s = ⟨#[]⟩ := by
  obtain ⟨a⟩ := s
  have : a.size = 0 := h
  rw [Array.eq_empty_of_size_eq_zero this]
theorem toList_ne {s : ByteArray} (h : ¬ s.size = 0) : ¬ s.toList = [] := by
  intro e
  have h2 : s.toList.length = s.size := by rw [ByteArray.toList_eq]; rfl
  rw [e] at h2
  simp at h2
  omega
end Go.Proofs.YtkophfgkcijjkaaGreatDoor.Vp
namespace Go.Proofs.YtkophfgkcijjkaaGreatDoor.Vp
open Go.RowKit
structure Ins where
  op : Int
  s : ByteArray
  n : Int
def AtIns (w : World) (b off i : Nat) (x : Ins) : Prop :=
  w.cell? ⟨b, off + i * 3, none⟩ = some (.int .i64 x.op) ∧ w.cell? ⟨b, off + i * 3 + 1, none⟩ = some (.string x.s) ∧ w.cell? ⟨b, off + i * 3 + 2, none⟩ = some (.int .i64 x.n)
theorem AtIns.below {w w' : World} {B b off i : Nat} {x : Ins} (h : AtIns w b off i x) (hb : Below B w w') (hB : b < B) : AtIns w' b off i x :=
  ⟨(hb.cell (p := ⟨b, _, none⟩) hB).trans h.1, (hb.cell (p := ⟨b, _, none⟩) hB).trans h.2.1, (hb.cell (p := ⟨b, _, none⟩) hB).trans h.2.2⟩
def RowIns (w : World) (b off n : Nat) (f : Nat → Ins) : Prop := b < w.heap.size ∧ ∀ i, i < n → AtIns w b off i (f i)
theorem RowIns.below {w w' : World} {B b off n : Nat} {f : Nat → Ins} (h : RowIns w b off n f) (hb : Below B w w') (hB : w.heap.size ≤ B) : RowIns w' b off n f :=
  ⟨Nat.lt_of_lt_of_le h.1 hb.size, fun i hi => (h.2 i hi).below hb (Nat.lt_of_lt_of_le h.1 hB)⟩
theorem RowIns.setOther {w : World} {g n off : Nat} {f : Nat → Ins} (h : RowIns w g off n f) (p : Addr) (hp : p.block ≠ g) (v : Value) : RowIns (w.setCell p v) g off n f := by
  refine ⟨by simpa using h.1, fun i hi => ?_⟩
  have h := h.2 i hi
  have far : ∀ o, (w.setCell p v).cell? ⟨g, o, none⟩ = w.cell? ⟨g, o, none⟩ := fun o => World.cell?_of_block (w := w) (a := ⟨g, o, none⟩) (Below.heap_setCell w p v g (fun e => hp e.symm))
  exact ⟨(far _).trans h.1, (far _).trans h.2.1, (far _).trans h.2.2⟩
def SlIns (w : World) (a : Option Addr) (n : Nat) (f : Nat → Ins) : Prop := n = 0 ∨ ∃ b off, a = some ⟨b, off, none⟩ ∧ RowIns w b off n f
theorem SlIns.below {w w' : World} {B : Nat} {a : Option Addr} {n : Nat} {f : Nat → Ins} (h : SlIns w a n f) (hb : Below B w w') (hB : w.heap.size ≤ B) : SlIns w' a n f := by
  rcases h with h | ⟨b, off, hv, hr⟩
  · exact .inl h
  · exact .inr ⟨b, off, hv, hr.below hb hB⟩
theorem RowIns.sl {w : World} {b off n : Nat} {f : Nat → Ins} (h : RowIns w b off n f) : SlIns w (some ⟨b, off, none⟩) n f := .inr ⟨b, off, rfl, h⟩
theorem infoIns : (Tryz.prog.info? 176).map (fun i => (i.zero, i.size, i.bytes)) = some (some (.agg #[.int .i64 0, .string ⟨#[]⟩, .int .i64 0]), 3, 32) := by kernel_rfl
def OwnIns (w : World) (g n k : Nat) (f : Nat → Ins) : Prop :=
  ∃ F, w.rowIs g 176 (n * 3) F ∧ ∀ i, i < k → F (i * 3) = .int .i64 (f i).op ∧ F (i * 3 + 1) = .string (f i).s ∧ F (i * 3 + 2) = .int .i64 (f i).n
theorem OwnIns.step {w : World} {g n k : Nat} {f : Nat → Ins} (h : OwnIns w g n k f) :
    OwnIns (((w.setCell ⟨g, k * 3, none⟩ (.int .i64 (f k).op)).setCell ⟨g, k * 3 + 1, none⟩ (.string (f k).s)).setCell ⟨g, k * 3 + 2, none⟩ (.int .i64 (f k).n)) g n (k + 1) f := by
  obtain ⟨F, hr, hF⟩ := h
  refine ⟨_, (((hr.set _ _).set _ _).set _ _), fun i hi => ?_⟩
  by_cases e : i = k
  · subst e
    exact ⟨by simp, by simp, by simp⟩
  · have h := hF i (by omega)
    refine ⟨?_, ?_, ?_⟩
    · show (if _ then _ else if _ then _ else if _ then _ else _) = _
      rw [if_neg (by omega), if_neg (by omega), if_neg (by omega), h.1]
    · show (if _ then _ else if _ then _ else if _ then _ else _) = _
      rw [if_neg (by omega), if_neg (by omega), if_neg (by omega), h.2.1]
    · show (if _ then _ else if _ then _ else if _ then _ else _) = _
      rw [if_neg (by omega), if_neg (by omega), if_neg (by omega), h.2.2]
theorem OwnIns.below {w w' : World} {g n k : Nat} {f : Nat → Ins} {B : Nat} (h : OwnIns w g n k f) (hb : Below B w w') (hB : g < B) : OwnIns w' g n k f := by
  obtain ⟨F, hr, hF⟩ := h
  exact ⟨F, hr.of_block (hb.block g hB), hF⟩
theorem OwnIns.row {w : World} {g n : Nat} {f : Nat → Ins} (h : OwnIns w g n n f) : RowIns w g 0 n f := by
  obtain ⟨F, hr, hF⟩ := h
  refine ⟨hr.lt, fun i hi => ?_⟩
  have h := hF i hi
  refine ⟨?_, ?_, ?_⟩
  · rw [Nat.zero_add, hr.cell (by omega), h.1]
  · rw [Nat.zero_add, hr.cell (by omega), h.2.1]
  · rw [Nat.zero_add, hr.cell (by omega), h.2.2]
end Go.Proofs.YtkophfgkcijjkaaGreatDoor.Vp
namespace Go.Proofs.YtkophfgkcijjkaaGreatDoor.Vp
open Go.RowKit
def kind : Int → Int
  | 1 => 1 | 3 => 2 | 4 => 2 | 5 => 2 | 10 => 3 | 11 => 3 | _ => 0
end Go.Proofs.YtkophfgkcijjkaaGreatDoor.Vp
namespace Go.Proofs.YtkophfgkcijjkaaGreatDoor.Vp
open Go.RowKit
def mostText (op : Int) : Int := if op = 1 then 2000 else 0
def mostN (op : Int) : Int := if op = 3 ∨ op = 4 ∨ op = 5 then 2000 else if op = 10 ∨ op = 11 then 200 else 0
def insOk (op : Int) (sz : Nat) (n : Int) : Bool := decide (1 ≤ op ∧ op ≤ 15 ∧ (sz : Int) ≤ mostText op ∧ 0 ≤ n ∧ n ≤ mostN op)
set_option maxHeartbeats 1000000 in
theorem l1InsOk_ne (op : Int) (s : ByteArray) (n : Int) (w : World) (hs : s.size ≤ maxLen) (hz : ¬ s.toList = []) (h0 : 0 < s.size) :
    Calls Tryz.prog 152 #[.agg #[.int .i64 op, .string s, .int .i64 n]] w fun e w' => e = .returned (.bool (insOk op s.size n)) ∧ Below w.heap.size w w' := by
  unfold maxLen at hs
  by_cases h : 1 ≤ op ∧ op ≤ 15
  · have hc : op = 1 ∨ op = 2 ∨ op = 3 ∨ op = 4 ∨ op = 5 ∨ op = 6 ∨ op = 7 ∨ op = 8 ∨ op = 9 ∨ op = 10 ∨ op = 11 ∨ op = 12 ∨ op = 13 ∨ op = 14 ∨ op = 15 := by omega
    clear h
    rcases hc with rfl | rfl | rfl | rfl | rfl | rfl | rfl | rfl | rfl | rfl | rfl | rfl | rfl | rfl | rfl
    all_goals
      go_enter Tryz.func152, Tryz.ntmps152
      go_wp2
      all_goals go_ret
      all_goals refine ⟨ret_bool ?_, (Below.refl _ _).alloc (Nat.le_refl _) _⟩
      all_goals (rw [Bool.eq_iff_iff]; generalize s.size = z at *; simp [insOk, mostText, mostN]; try omega)
  · rcases (show op < 1 ∨ 15 < op by omega) with h | h
    all_goals
      go_enter Tryz.func152, Tryz.ntmps152
      go_wp2
      go_ret
      refine ⟨ret_bool ?_, (Below.refl _ _).alloc (Nat.le_refl _) _⟩
      rw [Bool.eq_iff_iff]; simp [insOk]; omega
set_option maxHeartbeats 1000000 in
theorem l1InsOk_em (op : Int) (n : Int) (w : World) :
    Calls Tryz.prog 152 #[.agg #[.int .i64 op, .string ⟨#[]⟩, .int .i64 n]] w fun e w' => e = .returned (.bool (insOk op 0 n)) ∧ Below w.heap.size w w' := by
  by_cases h : 1 ≤ op ∧ op ≤ 15
  · have hc : op = 1 ∨ op = 2 ∨ op = 3 ∨ op = 4 ∨ op = 5 ∨ op = 6 ∨ op = 7 ∨ op = 8 ∨ op = 9 ∨ op = 10 ∨ op = 11 ∨ op = 12 ∨ op = 13 ∨ op = 14 ∨ op = 15 := by omega
    clear h
    rcases hc with rfl | rfl | rfl | rfl | rfl | rfl | rfl | rfl | rfl | rfl | rfl | rfl | rfl | rfl | rfl
    all_goals
      go_enter Tryz.func152, Tryz.ntmps152
      go_wp2
      all_goals go_ret
      all_goals refine ⟨ret_bool ?_, (Below.refl _ _).alloc (Nat.le_refl _) _⟩
      all_goals (rw [Bool.eq_iff_iff]; simp [insOk, mostText, mostN]; try omega)
  · rcases (show op < 1 ∨ 15 < op by omega) with h | h
    all_goals
      go_enter Tryz.func152, Tryz.ntmps152
      go_wp2
      go_ret
      refine ⟨ret_bool ?_, (Below.refl _ _).alloc (Nat.le_refl _) _⟩
      rw [Bool.eq_iff_iff]; simp [insOk]; omega
theorem l1InsOk_any (op : Int) (s : ByteArray) (n : Int) (w : World) (hs : s.size ≤ maxLen) :
    Calls Tryz.prog 152 #[.agg #[.int .i64 op, .string s, .int .i64 n]] w fun e w' => e = .returned (.bool (insOk op s.size n)) ∧ Below w.heap.size w w' := by
  by_cases h : s.size = 0
  · have e := empty_of_size h
    subst e
    exact l1InsOk_em op n w
  · exact l1InsOk_ne op s n w hs (toList_ne h) (by omega)
end Go.Proofs.YtkophfgkcijjkaaGreatDoor.Vp
namespace Go.Proofs.YtkophfgkcijjkaaGreatDoor.Vp
open Go.RowKit
set_option maxHeartbeats 400000 in
theorem validIns_a (k : Nat) (s : ByteArray) (n mt mn : Int) (w : World) (h1 : 1 ≤ (k : Int)) (h2 : (k : Int) ≤ 15)
    (hT : w.cell? ⟨0, k * 5 + 1, none⟩ = some (.int .i64 mt)) (hN : w.cell? ⟨0, k * 5 + 2, none⟩ = some (.int .i64 mn)) (hz : 0 < w.heap.size)
    (ht : (s.size : Int) ≤ mt) (hn : 0 ≤ n) :
    Calls Tryz.prog 142 #[.agg #[.int .i64 k, .string s, .int .i64 n]] w fun e w' => e = .returned (.bool (decide (n ≤ mn))) ∧ Below w.heap.size w w' := by
  go_enter Tryz.func142, Tryz.ntmps142
  go_wp2
  go_quiet (fail)
  go_wp2
  go_ret
  exact ⟨rfl, below_drewN ((Below.refl _ _).alloc (Nat.le_refl _) _) _⟩
set_option maxHeartbeats 400000 in
theorem validIns_b (k : Nat) (s : ByteArray) (n mt : Int) (w : World) (h1 : 1 ≤ (k : Int)) (h2 : (k : Int) ≤ 15)
    (hT : w.cell? ⟨0, k * 5 + 1, none⟩ = some (.int .i64 mt)) (hz : 0 < w.heap.size)
    (ht : (s.size : Int) ≤ mt) (hn : n < 0) :
    Calls Tryz.prog 142 #[.agg #[.int .i64 k, .string s, .int .i64 n]] w fun e w' => e = .returned (.bool false) ∧ Below w.heap.size w w' := by
  have hd : decide (0 ≤ n) = false := by simp; omega
  go_enter Tryz.func142, Tryz.ntmps142
  go_wp2
  go_quiet (fail)
  go_wp2
  go_ret
  exact ⟨rfl, below_drewN ((Below.refl _ _).alloc (Nat.le_refl _) _) _⟩
set_option maxHeartbeats 400000 in
theorem validIns_c (k : Nat) (s : ByteArray) (n mt : Int) (w : World) (h1 : 1 ≤ (k : Int)) (h2 : (k : Int) ≤ 15)
    (hT : w.cell? ⟨0, k * 5 + 1, none⟩ = some (.int .i64 mt)) (hz : 0 < w.heap.size)
    (ht : mt < (s.size : Int)) :
    Calls Tryz.prog 142 #[.agg #[.int .i64 k, .string s, .int .i64 n]] w fun e w' => e = .returned (.bool false) ∧ Below w.heap.size w w' := by
  have hd : decide ((s.size : Int) ≤ mt) = false := by simp; omega
  go_enter Tryz.func142, Tryz.ntmps142
  go_wp2
  go_quiet (fail)
  go_wp2
  go_ret
  exact ⟨rfl, below_drewN ((Below.refl _ _).alloc (Nat.le_refl _) _) _⟩
set_option maxHeartbeats 400000 in
theorem validIns_d (op : Int) (s : ByteArray) (n : Int) (w : World) (h : op < 1 ∨ 15 < op) :
    Calls Tryz.prog 142 #[.agg #[.int .i64 op, .string s, .int .i64 n]] w fun e w' => e = .returned (.bool false) ∧ Below w.heap.size w w' := by
  rcases h with h | h
  all_goals
    go_enter Tryz.func142, Tryz.ntmps142
    go_wp2
    go_ret
    exact ⟨rfl, (Below.refl _ _).alloc (Nat.le_refl _) _⟩
def Tab (w : World) : Prop := 0 < w.heap.size ∧ ∀ k : Nat, k < 16 → w.cell? ⟨0, k * 5 + 1, none⟩ = some (.int .i64 (mostText k)) ∧ w.cell? ⟨0, k * 5 + 2, none⟩ = some (.int .i64 (mostN k))
theorem validIns_any (op : Int) (s : ByteArray) (n : Int) (w : World) (hT : Tab w) :
    Calls Tryz.prog 142 #[.agg #[.int .i64 op, .string s, .int .i64 n]] w fun e w' => e = .returned (.bool (insOk op s.size n)) ∧ Below w.heap.size w w' := by
  by_cases h : 1 ≤ op ∧ op ≤ 15
  · obtain ⟨k, rfl⟩ := Int.eq_ofNat_of_zero_le (show 0 ≤ op by omega)
    obtain ⟨h1, h2⟩ := h
    obtain ⟨t1, t2⟩ := hT.2 k (by omega)
    by_cases ht : (s.size : Int) ≤ mostText k
    · by_cases hn : 0 ≤ n
      · have e : insOk (k : Int) s.size n = decide (n ≤ mostN k) := by
          unfold insOk
          rw [Bool.eq_iff_iff, decide_eq_true_eq, decide_eq_true_eq]
          exact ⟨fun h => h.2.2.2.2, fun h => ⟨h1, h2, ht, hn, h⟩⟩
        rw [e]
        exact validIns_a k s n _ _ w h1 h2 t1 t2 hT.1 ht hn
      · have e : insOk (k : Int) s.size n = false := by
          unfold insOk
          rw [decide_eq_false_iff_not]
          exact fun h => hn h.2.2.2.1
        rw [e]
        exact validIns_b k s n _ w h1 h2 t1 hT.1 ht (by omega)
    · have e : insOk (k : Int) s.size n = false := by
        unfold insOk
        rw [decide_eq_false_iff_not]
        exact fun h => ht h.2.2.1
      rw [e]
      exact validIns_c k s n _ w h1 h2 t1 hT.1 (by omega)
  · have e : insOk op s.size n = false := by
      unfold insOk
      rw [decide_eq_false_iff_not]
      exact fun g => h ⟨g.1, g.2.1⟩
    rw [e]
    exact validIns_d op s n w (by omega)
end Go.Proofs.YtkophfgkcijjkaaGreatDoor.Vp
namespace Go.Proofs.YtkophfgkcijjkaaGreatDoor.Vp
open Go.RowKit
def okTo (f : Nat → Ins) : Nat → Bool
  | 0 => true
  | k + 1 => okTo f k && insOk (f k).op (f k).s.size (f k).n
theorem okTo_mono {f : Nat → Ins} {k n : Nat} (h : k ≤ n) (hn : okTo f n = true) : okTo f k = true := by
  induction n with
  | zero => obtain rfl : k = 0 := by omega
            exact hn
  | succ m ih =>
    by_cases e : k = m + 1
    · subst e; exact hn
    · simp only [okTo, Bool.and_eq_true] at hn
      exact ih (by omega) hn.1
theorem okTo_false {f : Nat → Ins} {k n : Nat} (h : k < n) (hk : insOk (f k).op (f k).s.size (f k).n = false) : okTo f n = false := by
  cases e : okTo f n with
  | false => rfl
  | true =>
    have h2 := okTo_mono (show k + 1 ≤ n by omega) e
    simp [okTo, hk] at h2
def valid (f : Nat → Ins) (n : Nat) : Bool := okTo f n && decide (1 ≤ (n : Int) ∧ (n : Int) ≤ 200)
theorem valid_parts {f : Nat → Ins} {n : Nat} (h : valid f n = true) : okTo f n = true ∧ 1 ≤ (n : Int) ∧ (n : Int) ≤ 200 := by
  unfold valid at h
  rw [Bool.and_eq_true, decide_eq_true_eq] at h
  exact h
theorem ok_at {f : Nat → Ins} {k n : Nat} (h : okTo f n = true) (hk : k < n) : insOk (f k).op (f k).s.size (f k).n = true := by
  have := okTo_mono (show k + 1 ≤ n by omega) h
  simp only [okTo, Bool.and_eq_true] at this
  exact this.2
set_option maxHeartbeats 1000000 in
theorem specValid_row (b off n cap : Nat) (f : Nat → Ins) (w : World) (hn : n ≤ 1048576) (hb : b < w.heap.size) (hf : ∀ i, i < n → AtIns w b off i (f i)) (hs : ∀ i, i < n → (f i).s.size ≤ maxLen) :
    Calls Tryz.prog 79 #[.agg #[.slice (some ⟨b, off, none⟩) n cap]] w fun e w' => e = .returned (.bool (valid f n)) ∧ Below w.heap.size w w' := by
  have HF := hide hf
  have HS := hide hs
  clear hf hs
  go_enter Tryz.func79, Tryz.ntmps79
  go_wp2
  go_loopw [3] (fun i wr => ∃ k : Nat, k ≤ n ∧ i = .int .i64 k ∧ okTo f k = true ∧ Below (w.heap.size + 1) (w.alloc (.cells #[.slice (some ⟨b, off, none⟩) n cap] 31)) wr) (fun i _ => n - (intOf i).toNat)
  case atStart => exact ⟨0, by omega, rfl, rfl, Below.refl _ _⟩
  case round =>
    obtain ⟨k, hk, rfl, hok, hB⟩ := hrel
    have HB := hide hB
    have HK := hide hok
    have hc0 : wr.cell? ⟨w.heap.size, 0, none⟩ = some (.slice (some ⟨b, off, none⟩) n cap) := by
      rw [hB.cell (p := ⟨w.heap.size, 0, none⟩) (by simp)]; simp
    have HW : Hid (Below w.heap.size w wr) := ((Below.refl _ _).alloc (Nat.le_refl _) _).trans (hB.mono (by omega))
    have hsz : w.heap.size + 1 ≤ wr.heap.size := by have := hB.size; simpa using this
    clear hB hok
    by_cases hlt : k < n
    · obtain ⟨c0, c1, c2⟩ := (HF.out k hlt).below HW.out hb
      go_wp2_with fail
      refine (l1InsOk_any _ _ _ _ (HS.out k hlt)).mono ?_
      rintro e w' ⟨rfl, hB'⟩
      have HB' := hide hB'
      clear hB' c0 c1 c2 hc0
      cases hi : insOk (f k).op (f k).s.size (f k).n with
      | false =>
        have HI := hide hi
        clear hi
        go_wp2
        go_ret
        refine ⟨ret_bool ?_, HW.out.trans (HB'.out.mono HW.out.size)⟩
        simp [valid, okTo_false hlt HI.out]
      | true =>
        have HI := hide hi
        clear hi
        go_wp2
        exact ⟨⟨k + 1, by omega, by go_num, by simp [okTo, HK.out, HI.out], HB.out.trans (HB'.out.mono hsz)⟩, by simp [intOf]; omega⟩
    · have e : k = n := by omega
      subst e
      by_cases h1 : 1 ≤ (k : Int)
      all_goals
        go_wp2
        go_ret
        refine ⟨ret_bool ?_, HW.out⟩
        rw [Bool.eq_iff_iff]
        simp [valid, HK.out]
        try omega
end Go.Proofs.YtkophfgkcijjkaaGreatDoor.Vp
namespace Go.Proofs.YtkophfgkcijjkaaGreatDoor.Vp
open Go.RowKit
theorem Tab.below {w w' : World} {B : Nat} (h : Tab w) (hb : Below B w w') (hB : 0 < B) : Tab w' :=
  ⟨Nat.lt_of_lt_of_le h.1 hb.size, fun k hk => ⟨(hb.cell (p := ⟨0, _, none⟩) hB).trans (h.2 k hk).1, (hb.cell (p := ⟨0, _, none⟩) hB).trans (h.2 k hk).2⟩⟩
set_option maxHeartbeats 1000000 in
theorem implValid_no (a : Option Addr) (n cap : Nat) (f : Nat → Ins) (w : World) (hn : n ≤ 1048576) (h : (n : Int) < 1 ∨ 200 < (n : Int)) :
    Calls Tryz.prog 74 #[.agg #[.slice a n cap]] w fun e w' => e = .returned (.bool (valid f n)) ∧ Below w.heap.size w w' := by
  have e : valid f n = false := by
    unfold valid
    rw [show decide (1 ≤ (n : Int) ∧ (n : Int) ≤ 200) = false by simp; omega, Bool.and_false]
  rw [e]
  clear e
  rcases h with h | h
  all_goals
    go_enter Tryz.func74, Tryz.ntmps74
    go_wp2
    go_ret
    exact ⟨rfl, (Below.refl _ _).alloc (Nat.le_refl _) _⟩
set_option maxHeartbeats 1000000 in
theorem implValid_row (b off n cap : Nat) (f : Nat → Ins) (w : World) (h1 : 1 ≤ (n : Int)) (h2 : (n : Int) ≤ 200) (hb : b < w.heap.size) (hf : ∀ i, i < n → AtIns w b off i (f i)) (hT : Tab w) :
    Calls Tryz.prog 74 #[.agg #[.slice (some ⟨b, off, none⟩) n cap]] w fun e w' => e = .returned (.bool (valid f n)) ∧ Below w.heap.size w w' := by
  have HF := hide hf
  have HT := hide hT
  have hT0 := hT.1
  have HV : Hid (valid f n = okTo f n) := by
    show valid f n = okTo f n
    unfold valid
    rw [show decide (1 ≤ (n : Int) ∧ (n : Int) ≤ 200) = true by simp; omega, Bool.and_true]
  clear hf hT
  go_enter Tryz.func74, Tryz.ntmps74
  go_wp2
  go_loopw [18] (fun i wr => ∃ k : Nat, k ≤ n ∧ i = .int .i64 k ∧ okTo f k = true ∧ Below w.heap.size w wr) (fun i _ => n - (intOf i).toNat)
  case atStart => exact ⟨0, by omega, rfl, rfl, (Below.refl _ _).alloc (Nat.le_refl _) _⟩
  case round =>
    obtain ⟨k, hk, rfl, hok, hB⟩ := hrel
    have HB := hide hB
    have HK := hide hok
    have hsz : w.heap.size ≤ wr.heap.size := hB.size
    clear hB hok
    by_cases hlt : k < n
    · obtain ⟨c0, c1, c2⟩ := (HF.out k hlt).below HB.out hb
      go_wp2_with fail
      refine (validIns_any _ _ _ _ (HT.out.below (HB.out.alloc hsz _) hT0)).mono ?_
      rintro e w' ⟨rfl, hB'⟩
      have HB' : Hid (Below w.heap.size w w') := (HB.out.alloc hsz _).trans (hB'.mono (by simp; omega))
      clear hB' c0 c1 c2
      cases hi : insOk (f k).op (f k).s.size (f k).n with
      | false =>
        have HI := hide hi
        clear hi
        go_wp2
        go_ret
        refine ⟨ret_bool ?_, HB'.out⟩
        rw [HV.out, okTo_false hlt HI.out]
      | true =>
        have HI := hide hi
        clear hi
        go_wp2
        exact ⟨⟨k + 1, by omega, by go_num, by simp [okTo, HK.out, HI.out], HB'.out⟩, by simp [intOf]; omega⟩
    · have e : k = n := by omega
      subst e
      go_wp2
      go_ret
      exact ⟨ret_bool (by rw [HV.out, HK.out]), HB.out⟩
theorem implValid_any (b off n cap : Nat) (f : Nat → Ins) (w : World) (hn : n ≤ 1048576) (hb : b < w.heap.size) (hf : ∀ i, i < n → AtIns w b off i (f i)) (hT : Tab w) :
    Calls Tryz.prog 74 #[.agg #[.slice (some ⟨b, off, none⟩) n cap]] w fun e w' => e = .returned (.bool (valid f n)) ∧ Below w.heap.size w w' := by
  by_cases h : (n : Int) < 1 ∨ 200 < (n : Int)
  · exact implValid_no _ n cap f w hn h
  · exact implValid_row b off n cap f w (by omega) (by omega) hb hf hT
end Go.Proofs.YtkophfgkcijjkaaGreatDoor.Vp
namespace Go.Proofs.YtkophfgkcijjkaaGreatDoor.Vp
open Go.RowKit
structure Only (b : Nat) (w w' : World) : Prop where
  os : w'.os = w.os
  tape : w'.tape = w.tape
  output : w'.output = w.output
  size : w.heap.size ≤ w'.heap.size
  block : ∀ k, k < w.heap.size → k ≠ b → w'.heap[k]? = w.heap[k]?
  ty : ∀ cs t fz, w.heap[b]? = some (.cells cs t fz) → ∃ cs', w'.heap[b]? = some (.cells cs' t fz)
theorem Only.refl (b : Nat) (w : World) : Only b w w := ⟨rfl, rfl, rfl, Nat.le_refl _, fun _ _ _ => rfl, fun cs _ _ h => ⟨cs, h⟩⟩
theorem heap_in {w : World} {i : Nat} {o : Obj} (h : w.heap[i]? = some o) : i < w.heap.size := by
  rcases Nat.lt_or_ge i w.heap.size with h' | h'
  · exact h'
  · rw [Array.getElem?_eq_none h'] at h; cases h
theorem heap_set_at {w : World} {b j : Nat} {cs : Array Value} {t : TypeId} {fz : Nat × Nat} (h : w.heap[b]? = some (.cells cs t fz)) (v : Value) : (w.setCell ⟨b, j, none⟩ v).heap[b]? = some (.cells (cs.setIfInBounds j v) t fz) := by
  simp only [World.setCell, Array.getElem?_modify, if_pos, h, Option.map_some]
  rfl
theorem Only.trans {b : Nat} {u v w : World} (h : Only b u v) (k : Only b v w) : Only b u w :=
  ⟨k.os.trans h.os, k.tape.trans h.tape, k.output.trans h.output, Nat.le_trans h.size k.size, fun i hi ho => (k.block i (Nat.lt_of_lt_of_le hi h.size) ho).trans (h.block i hi ho), fun cs t fz hb => let ⟨cs1, h1⟩ := h.ty cs t fz hb; k.ty cs1 t fz h1⟩
theorem Only.of_below {b : Nat} {w w' : World} (h : Below w.heap.size w w') : Only b w w' := ⟨h.os, h.tape, h.output, h.size, fun i hi _ => h.block i hi, fun cs _ _ hb => ⟨cs, (h.block b (heap_in hb)).trans hb⟩⟩
theorem Only.drew {b : Nat} {u w : World} (h : Only b u w) : Only b u w.drew := h.trans (Only.of_below (Below.refl _ _).drew)
theorem Only.al {b : Nat} {u w : World} (h : Only b u w) (o : Obj) : Only b u (w.alloc o) := h.trans (Only.of_below ((Below.refl _ _).alloc (Nat.le_refl _) _))
theorem Only.below {b B : Nat} {w w' : World} (h : Only b w w') (hB : B ≤ b) (hw : B ≤ w.heap.size) : Below B w w' := ⟨h.os, h.tape, h.output, h.size, fun k hk => h.block k (by omega) (by omega)⟩
theorem Only.cell {b : Nat} {w w' : World} (h : Only b w w') (k o : Nat) (hk : k < w.heap.size) (hb : k ≠ b) : w'.cell? ⟨k, o, none⟩ = w.cell? ⟨k, o, none⟩ := World.cell?_of_block (w := w) (a := ⟨k, o, none⟩) (h.block k hk hb)
theorem bset {a w : World} {b : Nat} (h : Only b a w) (j : Nat) (v : Value) : Only b a (w.setCell ⟨b, j, none⟩ v) :=
  h.trans ⟨rfl, rfl, rfl, by simp [World.setCell], fun k _ ho => Below.heap_setCell _ _ _ _ (by simpa using ho), fun _ _ _ hb => ⟨_, heap_set_at hb v⟩⟩
theorem end0 {P : Program} {fn : Func} {R : Ending → World → Prop} {a : Act} {w : World} (hr : fn.results = #[]) (hd : a.defers = []) (hR : R (.returned (.tuple #[])) w) : bodyPost P fn R .normal a w :=
  bodyPost_end (v := .tuple #[]) (by simp [results, hr]) hd hR
theorem ret0 {P : Program} {fn : Func} {R : Ending → World → Prop} {a : Act} {w : World} (hr : fn.results = #[]) (hd : a.defers = []) (hR : R (.returned (.tuple #[])) w) : bodyPost P fn R .ret a w :=
  bodyPost_ret (v := .tuple #[]) (by simp [results, hr]) hd hR
end Go.Proofs.YtkophfgkcijjkaaGreatDoor.Vp
namespace Go.Proofs.YtkophfgkcijjkaaGreatDoor.Vp
open Go.RowKit
def Cs (w : World) (b n : Nat) (F : Nat → Value) : Prop := b < w.heap.size ∧ ∀ j, j < n → w.cell? ⟨b, j, none⟩ = some (F j) ∧ w.frozen? ⟨b, j, none⟩ = false
theorem Cs.below {w w' : World} {B b n : Nat} {F : Nat → Value} (h : Cs w b n F) (hb : Below B w w') (hB : b < B) : Cs w' b n F :=
  ⟨Nat.lt_of_lt_of_le h.1 hb.size, fun j hj => ⟨(hb.cell (p := ⟨b, _, none⟩) hB).trans (h.2 j hj).1, (hb.frozen (p := ⟨b, _, none⟩) hB).trans (h.2 j hj).2⟩⟩
theorem Cs.set {w : World} {b n : Nat} {F G : Nat → Value} (h : Cs w b n F) (j : Nat) (v : Value) (hG : ∀ x, x < n → G x = if x = j then v else F x) : Cs (w.setCell ⟨b, j, none⟩ v) b n G := by
  refine ⟨by simpa using h.1, fun x hx => ⟨?_, ?_⟩⟩
  · rw [hG x hx]
    by_cases e : x = j
    · subst e
      exact (World.cell?_setCell_same' _ _ _ (by rw [(h.2 x hx).1]; rfl)).trans (by simp)
    · have hne : (⟨b, j, none⟩ : Addr) ≠ ⟨b, x, none⟩ := by
        intro q
        exact e (by simpa using q.symm)
      exact (World.cell?_setCell_other _ _ _ _ hne).trans ((h.2 x hx).1.trans (by simp [e]))
  · have := (h.2 x hx).2
    simpa using this
structure Turn where
  over : Bool
  code : Int
  text : ByteArray
  ask : Bool
  name : ByteArray
  steps : Int
def Turn.v (t : Turn) : Value := .agg #[.bool t.over, .int .i64 t.code, .string t.text, .bool t.ask, .string t.name, .int .i64 t.steps]
def noTurn : Turn := ⟨false, 0, ⟨#[]⟩, false, ⟨#[]⟩, 0⟩
structure Mst where
  S : Nat → ByteArray
  size : Nat
  place : Int
  steps : Int
  looks : Int
  t : Turn
def Mst.F (cv : Value) (m : Mst) (j : Nat) : Value :=
  if j < 50 then .string (m.S j) else if j = 50 then .int .i64 m.size else if j = 51 then cv else if j = 52 then .int .i64 m.place else if j = 53 then .int .i64 m.steps else if j = 54 then .int .i64 m.looks
  else if j = 55 then .bool m.t.over else if j = 56 then .int .i64 m.t.code else if j = 57 then .string m.t.text else if j = 58 then .bool m.t.ask else if j = 59 then .string m.t.name else if j = 60 then .int .i64 m.t.steps else .int .i64 0
def MAt (w : World) (b : Nat) (cv : Value) (m : Mst) : Prop := Cs w b 61 (m.F cv)
theorem MAt.below {w w' : World} {B b : Nat} {cv : Value} {m : Mst} (h : MAt w b cv m) (hb : Below B w w') (hB : b < B) : MAt w' b cv m := Cs.below h hb hB
theorem MAt.lt {w : World} {b : Nat} {cv : Value} {m : Mst} (h : MAt w b cv m) : b < w.heap.size := h.1
theorem MAt.txt {w : World} {b : Nat} {cv : Value} {m : Mst} (h : MAt w b cv m) (j : Nat) (hj : j < 50) : w.cell? ⟨b, j, none⟩ = some (.string (m.S j)) ∧ w.frozen? ⟨b, j, none⟩ = false :=
  ⟨(h.2 j (by omega)).1.trans (by simp [Mst.F, hj]), (h.2 j (by omega)).2⟩
theorem MAt.fld {w : World} {b : Nat} {cv : Value} {m : Mst} (h : MAt w b cv m) (j : Nat) (v : Value) (hj : j < 61) (hv : m.F cv j = v) : w.cell? ⟨b, j, none⟩ = some v ∧ w.frozen? ⟨b, j, none⟩ = false :=
  ⟨(h.2 j hj).1.trans (by rw [hv]), (h.2 j hj).2⟩
def upd (S : Nat → ByteArray) (k : Nat) (t : ByteArray) (j : Nat) : ByteArray := if j = k then t else S j
theorem MAt.setTxt {w : World} {b : Nat} {cv : Value} {m : Mst} (h : MAt w b cv m) (k : Nat) (hk : k < 50) (t : ByteArray) : MAt (w.setCell ⟨b, k, none⟩ (.string t)) b cv { m with S := upd m.S k t } :=
  Cs.set h k _ (fun x _ => by
    by_cases e : x = k
    · subst e; simp [Mst.F, hk, upd]
    · simp [Mst.F, upd, e])
theorem MAt.setSize {w : World} {b : Nat} {cv : Value} {m : Mst} (h : MAt w b cv m) (k : Nat) (z : Int) (hz : z = k) : MAt (w.setCell ⟨b, 50, none⟩ (.int .i64 z)) b cv { m with size := k } := by
  subst hz
  exact Cs.set h 50 _ (fun x _ => by
    by_cases e : x = 50
    · subst e; simp [Mst.F]
    · simp [Mst.F, e])
theorem MAt.setPlace {w : World} {b : Nat} {cv : Value} {m : Mst} (h : MAt w b cv m) (k : Int) : MAt (w.setCell ⟨b, 52, none⟩ (.int .i64 k)) b cv { m with place := k } :=
  Cs.set h 52 _ (fun x _ => by
    by_cases e : x = 52
    · subst e; simp [Mst.F]
    · simp [Mst.F, e])
theorem MAt.setSteps {w : World} {b : Nat} {cv : Value} {m : Mst} (h : MAt w b cv m) (k : Int) : MAt (w.setCell ⟨b, 53, none⟩ (.int .i64 k)) b cv { m with steps := k } :=
  Cs.set h 53 _ (fun x _ => by
    by_cases e : x = 53
    · subst e; simp [Mst.F]
    · simp [Mst.F, e])
theorem MAt.setLooks {w : World} {b : Nat} {cv : Value} {m : Mst} (h : MAt w b cv m) (k : Int) : MAt (w.setCell ⟨b, 54, none⟩ (.int .i64 k)) b cv { m with looks := k } :=
  Cs.set h 54 _ (fun x _ => by
    by_cases e : x = 54
    · subst e; simp [Mst.F]
    · simp [Mst.F, e])
theorem MAt.set55 {w : World} {b : Nat} {cv : Value} {m : Mst} (h : MAt w b cv m) (x : Bool) : MAt (w.setCell ⟨b, 55, none⟩ (.bool x)) b cv { m with t := { m.t with over := x } } :=
  Cs.set h 55 _ (fun y hy => by
    by_cases e : y = 55
    · subst e; simp [Mst.F]
    · simp only [Mst.F, e, if_false])
theorem MAt.set56 {w : World} {b : Nat} {cv : Value} {m : Mst} (h : MAt w b cv m) (x : Int) : MAt (w.setCell ⟨b, 56, none⟩ (.int .i64 x)) b cv { m with t := { m.t with code := x } } :=
  Cs.set h 56 _ (fun y hy => by
    by_cases e : y = 56
    · subst e; simp [Mst.F]
    · simp only [Mst.F, e, if_false])
theorem MAt.set57 {w : World} {b : Nat} {cv : Value} {m : Mst} (h : MAt w b cv m) (x : ByteArray) : MAt (w.setCell ⟨b, 57, none⟩ (.string x)) b cv { m with t := { m.t with text := x } } :=
  Cs.set h 57 _ (fun y hy => by
    by_cases e : y = 57
    · subst e; simp [Mst.F]
    · simp only [Mst.F, e, if_false])
theorem MAt.set58 {w : World} {b : Nat} {cv : Value} {m : Mst} (h : MAt w b cv m) (x : Bool) : MAt (w.setCell ⟨b, 58, none⟩ (.bool x)) b cv { m with t := { m.t with ask := x } } :=
  Cs.set h 58 _ (fun y hy => by
    by_cases e : y = 58
    · subst e; simp [Mst.F]
    · simp only [Mst.F, e, if_false])
theorem MAt.set59 {w : World} {b : Nat} {cv : Value} {m : Mst} (h : MAt w b cv m) (x : ByteArray) : MAt (w.setCell ⟨b, 59, none⟩ (.string x)) b cv { m with t := { m.t with name := x } } :=
  Cs.set h 59 _ (fun y hy => by
    by_cases e : y = 59
    · subst e; simp [Mst.F]
    · simp only [Mst.F, e, if_false])
theorem MAt.set60 {w : World} {b : Nat} {cv : Value} {m : Mst} (h : MAt w b cv m) (x : Int) : MAt (w.setCell ⟨b, 60, none⟩ (.int .i64 x)) b cv { m with t := { m.t with steps := x } } :=
  Cs.set h 60 _ (fun y hy => by
    by_cases e : y = 60
    · subst e; simp [Mst.F]
    · simp only [Mst.F, e, if_false])
theorem MAt.setTurn {w : World} {b : Nat} {cv : Value} {m : Mst} (h : MAt w b cv m) (t : Turn) :
    MAt ((((((w.setCell ⟨b, 55, none⟩ (.bool t.over)).setCell ⟨b, 56, none⟩ (.int .i64 t.code)).setCell ⟨b, 57, none⟩ (.string t.text)).setCell ⟨b, 58, none⟩ (.bool t.ask)).setCell ⟨b, 59, none⟩ (.string t.name)).setCell ⟨b, 60, none⟩ (.int .i64 t.steps)) b cv { m with t := t } :=
  (((((h.set55 t.over).set56 t.code).set57 t.text).set58 t.ask).set59 t.name).set60 t.steps
theorem MAt.turn {w : World} {b : Nat} {cv : Value} {m : Mst} (h : MAt w b cv m) : (w.cell? ⟨b, 55, none⟩ = some (.bool m.t.over) ∧ w.frozen? ⟨b, 55, none⟩ = false) ∧ (w.cell? ⟨b, 56, none⟩ = some (.int .i64 m.t.code) ∧ w.frozen? ⟨b, 56, none⟩ = false) ∧ (w.cell? ⟨b, 57, none⟩ = some (.string m.t.text) ∧ w.frozen? ⟨b, 57, none⟩ = false) ∧ (w.cell? ⟨b, 58, none⟩ = some (.bool m.t.ask) ∧ w.frozen? ⟨b, 58, none⟩ = false) ∧ (w.cell? ⟨b, 59, none⟩ = some (.string m.t.name) ∧ w.frozen? ⟨b, 59, none⟩ = false) ∧ (w.cell? ⟨b, 60, none⟩ = some (.int .i64 m.t.steps) ∧ w.frozen? ⟨b, 60, none⟩ = false) :=
  ⟨h.fld 55 _ (by omega) (by simp [Mst.F]), h.fld 56 _ (by omega) (by simp [Mst.F]), h.fld 57 _ (by omega) (by simp [Mst.F]), h.fld 58 _ (by omega) (by simp [Mst.F]), h.fld 59 _ (by omega) (by simp [Mst.F]), h.fld 60 _ (by omega) (by simp [Mst.F])⟩
theorem bset6 {a w : World} {b : Nat} (h : Only b a w) (t : Turn) : Only b a ((((((w.setCell ⟨b, 55, none⟩ (.bool t.over)).setCell ⟨b, 56, none⟩ (.int .i64 t.code)).setCell ⟨b, 57, none⟩ (.string t.text)).setCell ⟨b, 58, none⟩ (.bool t.ask)).setCell ⟨b, 59, none⟩ (.string t.name)).setCell ⟨b, 60, none⟩ (.int .i64 t.steps)) :=
  bset (bset (bset (bset (bset (bset h _ _) _ _) _ _) _ _) _ _) _ _
set_option maxHeartbeats 1000000 in
theorem put_any (b : Nat) (cv : Value) (m : Mst) (t : ByteArray) (w : World) (hM : MAt w b cv m) (hs : m.size < 50) :
    Calls Tryz.prog 165 #[.pointer (some ⟨b, 0, none⟩), .string t] w fun e w' => e = .returned (.tuple #[]) ∧ MAt w' b cv { m with S := upd m.S m.size t, size := m.size + 1 } ∧ Only b w w' := by
  have HM := hide hM
  obtain ⟨c0, z0⟩ := hM.fld 50 (.int .i64 m.size) (by omega) (by simp [Mst.F])
  obtain ⟨c1, z1⟩ := hM.txt m.size hs
  clear hM
  go_enter Tryz.func165, Tryz.ntmps165
  go_wp2
  go_region_with fail
  have HM1 := hide ((HM.out.setTxt m.size hs t).below (Below.refl _ _).drew (Nat.lt_succ_self _))
  clear c0 z0 c1 z1
  obtain ⟨c0, z0⟩ := HM1.out.fld 50 (.int .i64 m.size) (by omega) (by simp [Mst.F])
  go_wp2
  refine end0 rfl rfl ?_
  exact ⟨rfl, HM1.out.setSize (m.size + 1) _ (by simp), bset (bset (Only.refl _ _) _ _).drew _ _⟩
set_option maxHeartbeats 1000000 in
theorem take_any (b : Nat) (cv : Value) (m : Mst) (k : Nat) (w : World) (hM : MAt w b cv m) (hk : m.size = k + 1) (hs : k < 50) :
    Calls Tryz.prog 228 #[.pointer (some ⟨b, 0, none⟩)] w fun e w' => e = .returned (.string (m.S k)) ∧ MAt w' b cv { m with size := k } ∧ Only b w w' := by
  have HM := hide hM
  obtain ⟨c0, z0⟩ := hM.fld 50 (.int .i64 (k + 1)) (by omega) (by simp [Mst.F, hk])
  clear hM
  go_enter Tryz.func228, Tryz.ntmps228
  go_wp2_with fail
  have HM1 := hide (HM.out.setSize k k rfl)
  obtain ⟨c1, z1⟩ := HM1.out.txt k hs
  obtain ⟨c2, z2⟩ := HM1.out.fld 50 (.int .i64 k) (by omega) (by simp [Mst.F])
  clear c0 z0
  go_region_with fail
  go_wp2
  go_ret
  exact ⟨rfl, HM1.out.below (Below.refl _ _).drew (Nat.lt_succ_self _), (bset (Only.refl _ _) _ _).drew⟩
set_option maxHeartbeats 1000000 in
theorem end_any (b : Nat) (cv : Value) (m : Mst) (c : Int) (t : ByteArray) (w : World) (hM : MAt w b cv m) :
    Calls Tryz.prog 167 #[.pointer (some ⟨b, 0, none⟩), .int .i64 c, .string t] w fun e w' => e = .returned (.tuple #[]) ∧ MAt w' b cv { m with t := ⟨true, c, t, false, ⟨#[]⟩, m.steps⟩ } ∧ Only b w w' := by
  have HM := hide hM
  obtain ⟨c0, z0⟩ := hM.fld 53 (.int .i64 m.steps) (by omega) (by simp [Mst.F])
  obtain ⟨c5, z5⟩ := hM.fld 55 (.bool m.t.over) (by omega) (by simp [Mst.F])
  obtain ⟨c6, z6⟩ := hM.fld 56 (.int .i64 m.t.code) (by omega) (by simp [Mst.F])
  obtain ⟨c7, z7⟩ := hM.fld 57 (.string m.t.text) (by omega) (by simp [Mst.F])
  obtain ⟨c8, z8⟩ := hM.fld 58 (.bool m.t.ask) (by omega) (by simp [Mst.F])
  obtain ⟨c9, z9⟩ := hM.fld 59 (.string m.t.name) (by omega) (by simp [Mst.F])
  obtain ⟨c10, z10⟩ := hM.fld 60 (.int .i64 m.t.steps) (by omega) (by simp [Mst.F])
  clear hM
  go_enter Tryz.func167, Tryz.ntmps167
  go_wp2
  refine end0 rfl rfl ?_
  exact ⟨rfl, HM.out.setTurn ⟨true, c, t, false, ⟨#[]⟩, m.steps⟩, bset (bset (bset (bset (bset (bset (Only.refl _ _) _ _) _ _) _ _) _ _) _ _) _ _⟩
def takesOf (k : Nat) : Nat := if k = 2 ∨ k = 6 ∨ k = 8 then 2 else if k = 0 ∨ k = 1 ∨ k = 10 ∨ 15 < k then 0 else 1
def putsOf (k : Nat) : Nat := if k = 7 ∨ k = 8 then 2 else if k = 0 ∨ k = 9 ∨ k = 10 ∨ k = 11 ∨ 13 < k then 0 else 1
def Tab2 (w : World) : Prop := 0 < w.heap.size ∧ ∀ k : Nat, k < 16 → w.cell? ⟨0, k * 5 + 3, none⟩ = some (.int .i64 (takesOf k)) ∧ w.cell? ⟨0, k * 5 + 4, none⟩ = some (.int .i64 (putsOf k))
theorem Tab2.below {w w' : World} {B : Nat} (h : Tab2 w) (hb : Below B w w') (hB : 0 < B) : Tab2 w' :=
  ⟨Nat.lt_of_lt_of_le h.1 hb.size, fun k hk => ⟨(hb.cell (p := ⟨0, _, none⟩) hB).trans (h.2 k hk).1, (hb.cell (p := ⟨0, _, none⟩) hB).trans (h.2 k hk).2⟩⟩
set_option maxHeartbeats 1000000 in
theorem bears_any (b : Nat) (cv : Value) (m : Mst) (k : Nat) (w : World) (hM : MAt w b cv m) (hT : Tab2 w) (h1 : 1 ≤ (k : Int)) (h2 : (k : Int) ≤ 15) (hs : m.size ≤ 50) :
    Calls Tryz.prog 205 #[.pointer (some ⟨b, 0, none⟩), .int .i64 k] w fun e w' => e = .returned (.bool (decide (takesOf k ≤ m.size ∧ m.size - takesOf k + putsOf k ≤ 50))) ∧ Below w.heap.size w w' := by
  have hT0 := hT.1
  obtain ⟨c0, z0⟩ := hM.fld 50 (.int .i64 m.size) (by omega) (by simp [Mst.F])
  obtain ⟨t0, t1⟩ := hT.2 k (by omega)
  have k1 : takesOf k ≤ 2 := by unfold takesOf; split <;> (try split) <;> omega
  have k2 : putsOf k ≤ 2 := by unfold putsOf; split <;> (try split) <;> omega
  clear hM hT
  generalize takesOf k = x at *
  generalize putsOf k = y at *
  by_cases hx : x ≤ m.size
  · go_enter Tryz.func205, Tryz.ntmps205
    go_wp2_with fail
    go_quiet (fail)
    go_wp2
    go_ret
    refine ⟨ret_bool ?_, below_drewN (Below.refl _ _) _⟩
    rw [Bool.eq_iff_iff]
    simp
    omega
  · go_enter Tryz.func205, Tryz.ntmps205
    go_wp2_with fail
    go_quiet (fail)
    go_wp2_with fail
    go_ret
    refine ⟨ret_bool ?_, below_drewN (Below.refl _ _) _⟩
    rw [Bool.eq_iff_iff]
    simp
    omega
end Go.Proofs.YtkophfgkcijjkaaGreatDoor.Vp
namespace Go.Proofs.YtkophfgkcijjkaaGreatDoor.Vp
open Go.RowKit
def nameTo (s : ByteArray) : Nat → Bool
  | 0 => true
  | k + 1 => nameTo s k && (match s.data[k]? with | some c => decide (33 ≤ c.toNat ∧ c.toNat ≤ 126) | none => false)
def nameOk (s : ByteArray) : Bool := decide (1 ≤ s.size ∧ s.size ≤ 60) && nameTo s s.size
theorem nameTo_mono {s : ByteArray} {k n : Nat} (h : k ≤ n) (hn : nameTo s n = true) : nameTo s k = true := by
  induction n with
  | zero => obtain rfl : k = 0 := by omega
            exact hn
  | succ m ih =>
    by_cases e : k = m + 1
    · subst e; exact hn
    · simp only [nameTo, Bool.and_eq_true] at hn
      exact ih (by omega) hn.1
theorem nameTo_succ {s : ByteArray} {k : Nat} (h : k < s.size) : nameTo s (k + 1) = (nameTo s k && decide (33 ≤ s[k].toNat ∧ s[k].toNat ≤ 126)) := by
  have e : s.data[k]? = some s[k] := by rw [Array.getElem?_eq_getElem h]; rfl
  rw [nameTo, e]
theorem nameTo_false {s : ByteArray} {k : Nat} (h : k < s.size) (hk : ¬ (33 ≤ s[k].toNat ∧ s[k].toNat ≤ 126)) : nameTo s s.size = false := by
  cases e : nameTo s s.size with
  | false => rfl
  | true =>
    have h2 := nameTo_mono (show k + 1 ≤ s.size by omega) e
    rw [nameTo_succ h] at h2
    simp at h2
    omega
set_option maxHeartbeats 1000000 in
theorem isName_any (s : ByteArray) (w : World) : Calls Tryz.prog 81 #[.string s] w fun e w' => e = .returned (.bool (nameOk s)) ∧ Below w.heap.size w w' := by
  by_cases h1 : 1 ≤ (s.size : Int)
  · by_cases h2 : (s.size : Int) ≤ 60
    · have HV : Hid (nameOk s = nameTo s s.size) := by
        show nameOk s = nameTo s s.size
        unfold nameOk
        rw [show decide (1 ≤ s.size ∧ s.size ≤ 60) = true by simp; omega, Bool.true_and]
      go_enter Tryz.func81, Tryz.ntmps81
      go_wp2
      go_loopw [14] (fun i wr => ∃ k : Nat, k ≤ s.size ∧ i = .int .i64 k ∧ nameTo s k = true ∧ Below w.heap.size w wr) (fun i _ => s.size - (intOf i).toNat)
      case atStart => exact ⟨0, by omega, rfl, rfl, Below.refl _ _⟩
      case round =>
        obtain ⟨k, hk, rfl, hok, hB⟩ := hrel
        have HB := hide hB
        have HK := hide hok
        clear hB hok
        by_cases hlt : k < s.size
        · by_cases p1 : 33 ≤ (s[k].toNat : Int)
          · by_cases p2 : (s[k].toNat : Int) ≤ 126
            · go_wp2
              exact ⟨⟨k + 1, by omega, by go_num, by rw [nameTo_succ hlt, HK.out]; simp; omega, HB.out⟩, by simp [intOf]; omega⟩
            · go_wp2
              go_ret
              exact ⟨ret_bool (by rw [HV.out, nameTo_false hlt (by omega)]), HB.out⟩
          · go_wp2
            go_ret
            exact ⟨ret_bool (by rw [HV.out, nameTo_false hlt (by omega)]), HB.out⟩
        · have e : k = s.size := by omega
          subst e
          go_wp2
          go_ret
          exact ⟨ret_bool (by rw [HV.out, HK.out]), HB.out⟩
    · have e : nameOk s = false := by
        unfold nameOk
        rw [show decide (1 ≤ s.size ∧ s.size ≤ 60) = false by simp; omega, Bool.false_and]
      rw [e]
      clear e
      go_enter Tryz.func81, Tryz.ntmps81
      go_wp2
      go_ret
      exact ⟨rfl, Below.refl _ _⟩
  · have e : nameOk s = false := by
      unfold nameOk
      rw [show decide (1 ≤ s.size ∧ s.size ≤ 60) = false by simp; omega, Bool.false_and]
    rw [e]
    clear e
    go_enter Tryz.func81, Tryz.ntmps81
    go_wp2
    go_ret
    exact ⟨rfl, Below.refl _ _⟩
set_option maxHeartbeats 1000000 in
theorem l1NameOk_any (s : ByteArray) (w : World) : Calls Tryz.prog 61 #[.string s] w fun e w' => e = .returned (.bool (nameOk s)) ∧ Below w.heap.size w w' := by
  by_cases h1 : 1 ≤ (s.size : Int)
  · by_cases h2 : (s.size : Int) ≤ 60
    · have HV : Hid (nameOk s = nameTo s s.size) := by
        show nameOk s = nameTo s s.size
        unfold nameOk
        rw [show decide (1 ≤ s.size ∧ s.size ≤ 60) = true by simp; omega, Bool.true_and]
      go_enter Tryz.func61, Tryz.ntmps61
      go_wp2
      go_loopw [3] (fun i wr => ∃ k : Nat, k ≤ s.size ∧ i = .int .i64 k ∧ nameTo s k = true ∧ Below w.heap.size w wr) (fun i _ => s.size - (intOf i).toNat)
      case atStart => exact ⟨0, by omega, rfl, rfl, Below.refl _ _⟩
      case round =>
        obtain ⟨k, hk, rfl, hok, hB⟩ := hrel
        have HB := hide hB
        have HK := hide hok
        clear hB hok
        by_cases hlt : k < s.size
        · by_cases p1 : 33 ≤ (s[k].toNat : Int)
          · by_cases p2 : (s[k].toNat : Int) ≤ 126
            · go_wp2
              exact ⟨⟨k + 1, by omega, by go_num, by rw [nameTo_succ hlt, HK.out]; simp; omega, HB.out⟩, by simp [intOf]; omega⟩
            · go_wp2
              go_ret
              exact ⟨ret_bool (by rw [HV.out, nameTo_false hlt (by omega)]), HB.out⟩
          · go_wp2
            go_ret
            exact ⟨ret_bool (by rw [HV.out, nameTo_false hlt (by omega)]), HB.out⟩
        · have e : k = s.size := by omega
          subst e
          go_wp2
          go_ret
          exact ⟨ret_bool (by rw [HV.out, HK.out]), HB.out⟩
    · have e : nameOk s = false := by
        unfold nameOk
        rw [show decide (1 ≤ s.size ∧ s.size ≤ 60) = false by simp; omega, Bool.false_and]
      rw [e]
      clear e
      go_enter Tryz.func61, Tryz.ntmps61
      go_wp2
      go_ret
      exact ⟨rfl, Below.refl _ _⟩
  · have e : nameOk s = false := by
      unfold nameOk
      rw [show decide (1 ≤ s.size ∧ s.size ≤ 60) = false by simp; omega, Bool.false_and]
    rw [e]
    clear e
    go_enter Tryz.func61, Tryz.ntmps61
    go_wp2
    go_ret
    exact ⟨rfl, Below.refl _ _⟩
end Go.Proofs.YtkophfgkcijjkaaGreatDoor.Vp
namespace Go.Proofs.YtkophfgkcijjkaaGreatDoor.Vp
open Go.RowKit
structure Reply where
  has : Bool
  code : Int
  text : ByteArray
def AtReply (w : World) (b off i : Nat) (x : Reply) : Prop :=
  w.cell? ⟨b, off + i * 3, none⟩ = some (.bool x.has) ∧ w.cell? ⟨b, off + i * 3 + 1, none⟩ = some (.int .i64 x.code) ∧ w.cell? ⟨b, off + i * 3 + 2, none⟩ = some (.string x.text)
theorem AtReply.below {w w' : World} {B b off i : Nat} {x : Reply} (h : AtReply w b off i x) (hb : Below B w w') (hB : b < B) : AtReply w' b off i x :=
  ⟨(hb.cell (p := ⟨b, _, none⟩) hB).trans h.1, (hb.cell (p := ⟨b, _, none⟩) hB).trans h.2.1, (hb.cell (p := ⟨b, _, none⟩) hB).trans h.2.2⟩
def RowReply (w : World) (b off n : Nat) (f : Nat → Reply) : Prop := b < w.heap.size ∧ ∀ i, i < n → AtReply w b off i (f i)
theorem RowReply.below {w w' : World} {B b off n : Nat} {f : Nat → Reply} (h : RowReply w b off n f) (hb : Below B w w') (hB : w.heap.size ≤ B) : RowReply w' b off n f :=
  ⟨Nat.lt_of_lt_of_le h.1 hb.size, fun i hi => (h.2 i hi).below hb (Nat.lt_of_lt_of_le h.1 hB)⟩
theorem RowReply.setOther {w : World} {g n off : Nat} {f : Nat → Reply} (h : RowReply w g off n f) (p : Addr) (hp : p.block ≠ g) (v : Value) : RowReply (w.setCell p v) g off n f := by
  refine ⟨by simpa using h.1, fun i hi => ?_⟩
  have h := h.2 i hi
  have far : ∀ o, (w.setCell p v).cell? ⟨g, o, none⟩ = w.cell? ⟨g, o, none⟩ := fun o => World.cell?_of_block (w := w) (a := ⟨g, o, none⟩) (Below.heap_setCell w p v g (fun e => hp e.symm))
  exact ⟨(far _).trans h.1, (far _).trans h.2.1, (far _).trans h.2.2⟩
def SlReply (w : World) (a : Option Addr) (n : Nat) (f : Nat → Reply) : Prop := n = 0 ∨ ∃ b off, a = some ⟨b, off, none⟩ ∧ RowReply w b off n f
theorem SlReply.below {w w' : World} {B : Nat} {a : Option Addr} {n : Nat} {f : Nat → Reply} (h : SlReply w a n f) (hb : Below B w w') (hB : w.heap.size ≤ B) : SlReply w' a n f := by
  rcases h with h | ⟨b, off, hv, hr⟩
  · exact .inl h
  · exact .inr ⟨b, off, hv, hr.below hb hB⟩
theorem RowReply.sl {w : World} {b off n : Nat} {f : Nat → Reply} (h : RowReply w b off n f) : SlReply w (some ⟨b, off, none⟩) n f := .inr ⟨b, off, rfl, h⟩
end Go.Proofs.YtkophfgkcijjkaaGreatDoor.Vp
namespace Go.Proofs.YtkophfgkcijjkaaGreatDoor.Vp
open Go.RowKit
structure Source where
  name : ByteArray
  text : ByteArray
def AtSource (w : World) (b off i : Nat) (x : Source) : Prop :=
  w.cell? ⟨b, off + i * 2, none⟩ = some (.string x.name) ∧ w.cell? ⟨b, off + i * 2 + 1, none⟩ = some (.string x.text)
theorem AtSource.below {w w' : World} {B b off i : Nat} {x : Source} (h : AtSource w b off i x) (hb : Below B w w') (hB : b < B) : AtSource w' b off i x :=
  ⟨(hb.cell (p := ⟨b, _, none⟩) hB).trans h.1, (hb.cell (p := ⟨b, _, none⟩) hB).trans h.2⟩
def RowSource (w : World) (b off n : Nat) (f : Nat → Source) : Prop := b < w.heap.size ∧ ∀ i, i < n → AtSource w b off i (f i)
theorem RowSource.below {w w' : World} {B b off n : Nat} {f : Nat → Source} (h : RowSource w b off n f) (hb : Below B w w') (hB : w.heap.size ≤ B) : RowSource w' b off n f :=
  ⟨Nat.lt_of_lt_of_le h.1 hb.size, fun i hi => (h.2 i hi).below hb (Nat.lt_of_lt_of_le h.1 hB)⟩
theorem RowSource.setOther {w : World} {g n off : Nat} {f : Nat → Source} (h : RowSource w g off n f) (p : Addr) (hp : p.block ≠ g) (v : Value) : RowSource (w.setCell p v) g off n f := by
  refine ⟨by simpa using h.1, fun i hi => ?_⟩
  have h := h.2 i hi
  have far : ∀ o, (w.setCell p v).cell? ⟨g, o, none⟩ = w.cell? ⟨g, o, none⟩ := fun o => World.cell?_of_block (w := w) (a := ⟨g, o, none⟩) (Below.heap_setCell w p v g (fun e => hp e.symm))
  exact ⟨(far _).trans h.1, (far _).trans h.2⟩
def SlSource (w : World) (a : Option Addr) (n : Nat) (f : Nat → Source) : Prop := n = 0 ∨ ∃ b off, a = some ⟨b, off, none⟩ ∧ RowSource w b off n f
theorem SlSource.below {w w' : World} {B : Nat} {a : Option Addr} {n : Nat} {f : Nat → Source} (h : SlSource w a n f) (hb : Below B w w') (hB : w.heap.size ≤ B) : SlSource w' a n f := by
  rcases h with h | ⟨b, off, hv, hr⟩
  · exact .inl h
  · exact .inr ⟨b, off, hv, hr.below hb hB⟩
theorem RowSource.sl {w : World} {b off n : Nat} {f : Nat → Source} (h : RowSource w b off n f) : SlSource w (some ⟨b, off, none⟩) n f := .inr ⟨b, off, rfl, h⟩
theorem infoSource : (Tryz.prog.info? 100).map (fun i => (i.zero, i.size, i.bytes)) = some (some (.agg #[.string ⟨#[]⟩, .string ⟨#[]⟩]), 2, 32) := by kernel_rfl
def OwnSource (w : World) (g n k : Nat) (f : Nat → Source) : Prop :=
  ∃ F, w.rowIs g 100 (n * 2) F ∧ ∀ i, i < k → F (i * 2) = .string (f i).name ∧ F (i * 2 + 1) = .string (f i).text
theorem OwnSource.step {w : World} {g n k : Nat} {f : Nat → Source} (h : OwnSource w g n k f) :
    OwnSource ((w.setCell ⟨g, k * 2, none⟩ (.string (f k).name)).setCell ⟨g, k * 2 + 1, none⟩ (.string (f k).text)) g n (k + 1) f := by
  obtain ⟨F, hr, hF⟩ := h
  refine ⟨_, ((hr.set _ _).set _ _), fun i hi => ?_⟩
  by_cases e : i = k
  · subst e
    exact ⟨by simp, by simp⟩
  · have h := hF i (by omega)
    refine ⟨?_, ?_⟩
    · show (if _ then _ else if _ then _ else _) = _
      rw [if_neg (by omega), if_neg (by omega), h.1]
    · show (if _ then _ else if _ then _ else _) = _
      rw [if_neg (by omega), if_neg (by omega), h.2]
theorem OwnSource.below {w w' : World} {g n k : Nat} {f : Nat → Source} {B : Nat} (h : OwnSource w g n k f) (hb : Below B w w') (hB : g < B) : OwnSource w' g n k f := by
  obtain ⟨F, hr, hF⟩ := h
  exact ⟨F, hr.of_block (hb.block g hB), hF⟩
theorem OwnSource.row {w : World} {g n : Nat} {f : Nat → Source} (h : OwnSource w g n n f) : RowSource w g 0 n f := by
  obtain ⟨F, hr, hF⟩ := h
  refine ⟨hr.lt, fun i hi => ?_⟩
  have h := hF i hi
  refine ⟨?_, ?_⟩
  · rw [Nat.zero_add, hr.cell (by omega), h.1]
  · rw [Nat.zero_add, hr.cell (by omega), h.2]
end Go.Proofs.YtkophfgkcijjkaaGreatDoor.Vp
namespace Go.Proofs.YtkophfgkcijjkaaGreatDoor.Vp
open Go.RowKit
end Go.Proofs.YtkophfgkcijjkaaGreatDoor.Vp
namespace Go.Proofs.YtkophfgkcijjkaaGreatDoor.Vp
open Go.RowKit
end Go.Proofs.YtkophfgkcijjkaaGreatDoor.Vp
namespace Go.Proofs.YtkophfgkcijjkaaGreatDoor.Vp
open Go.RowKit
end Go.Proofs.YtkophfgkcijjkaaGreatDoor.Vp
namespace Go.Proofs.YtkophfgkcijjkaaGreatDoor.Vp
open Go.RowKit
end Go.Proofs.YtkophfgkcijjkaaGreatDoor.Vp
