/-
  Data: Reply: sizes, copies, comparisons. Written by tools/flat.py.
-/
import Derived.Test.YtfhdecheaeoopaaDoorZA
namespace Go.Proofs.YtfhdecheaeoopaaDoor.Vp
open Go.RowKit

set_option maxHeartbeats 400000 in
theorem szReply_any (has : Bool) (code : Int) (text : ByteArray) (left : Int) (w : World) (hstext : text.size ≤ maxLen) (l0 : 0 ≤ left) (l1 : left ≤ 1048576) :
    Calls Tryd.prog 14 #[.agg #[.bool has, .int .i64 code, .string text], .int .i64 left] w fun e w' => ∃ r : Int, e = .returned (.int .i64 r) ∧ -1 ≤ r ∧ r ≤ left ∧ Below w.heap.size w w' := by
  unfold maxLen at hstext
  go_enter Tryd.func14, Tryd.ntmps14
  go_wp2
  all_goals go_ret
  all_goals first
    | exact ⟨-1, rfl, by omega, by omega, (Below.refl _ _).alloc (Nat.le_refl _) _⟩
    | exact ⟨_, rfl, by omega, by omega, (Below.refl _ _).alloc (Nat.le_refl _) _⟩

set_option maxHeartbeats 400000 in
theorem szReplyS_big (a : Option Addr) (n cap : Nat) (left : Int) (w : World) (h0 : 0 ≤ left) (h1 : left ≤ 1048576) (hn : (n : Int) ≤ 9223372036854775807) (h : left < (n : Int)) :
    Calls Tryd.prog 5 #[.slice a n cap, .int .i64 left] w fun e w' => e = .returned (.int .i64 (-1)) ∧ w' = w := by
  go_enter Tryd.func5, Tryd.ntmps5
  go_wp2
  go_ret
  exact ⟨rfl, rfl⟩

set_option maxHeartbeats 1000000 in
theorem szReplyS_row (b off n cap : Nat) (f : Nat → Reply) (left : Int) (w : World) (h0 : (n : Int) ≤ left) (h1 : left ≤ 1048576) (hb : b < w.heap.size) (hf : ∀ i, i < n → AtReply w b off i (f i)) (hs : ∀ i, i < n → (f i).text.size ≤ maxLen) :
    Calls Tryd.prog 5 #[.slice (some ⟨b, off, none⟩) n cap, .int .i64 left] w fun e w' => ∃ r : Int, e = .returned (.int .i64 r) ∧ -1 ≤ r ∧ r ≤ left ∧ Below w.heap.size w w' := by
  have HF := hide hf
  have HS := hide hs
  clear hf hs
  go_enter Tryd.func5, Tryd.ntmps5
  go_wp2
  go_loopw [1, 5] (fun l i wr => ∃ k : Nat, ∃ r : Int, k ≤ n ∧ 0 ≤ r ∧ r ≤ left ∧ i = .int .i64 k ∧ l = .int .i64 r ∧ Below w.heap.size w wr) (fun _ i _ => n - (intOf i).toNat)
  case atStart => exact ⟨0, left - n, by omega, by omega, by omega, rfl, rfl, Below.refl _ _⟩
  case round =>
    obtain ⟨k, r, hk, hr0, hr1, rfl, rfl, hB⟩ := hrel
    by_cases hlt : k < n
    · obtain ⟨c0, c1, c2⟩ := (HF.out k hlt).below hB hb
      go_wp2_with (go_at_call 14; refine (szReply_any _ _ _ _ _ (HS.out k hlt) (by omega) (by omega)).mono ?_; rintro e w' ⟨r', rfl, hr2, hr3, hB'⟩)
      · go_ret
        exact ⟨-1, rfl, by omega, by omega, hB.trans (hB'.mono hB.size)⟩
      · exact ⟨⟨k + 1, r', by omega, by omega, by omega, by go_num, rfl, hB.trans (hB'.mono hB.size)⟩, by simp [intOf]; omega⟩
    · go_wp2
      go_ret
      exact ⟨r, rfl, by omega, by omega, hB⟩

set_option maxHeartbeats 400000 in
theorem szReplyS_nil (a : Option Addr) (cap : Nat) (left : Int) (w : World) (h0 : 0 ≤ left) (h1 : left ≤ 1048576) :
    Calls Tryd.prog 5 #[.slice a 0 cap, .int .i64 left] w fun e w' => e = .returned (.int .i64 left) ∧ w' = w := by
  go_enter Tryd.func5, Tryd.ntmps5
  go_wp2
  go_loop [1, 5] (fun l i => l = .int .i64 left ∧ i = .int .i64 0) (fun _ _ => 0)
  case atStart => exact ⟨by simp, rfl⟩
  case round =>
    obtain ⟨rfl, rfl⟩ := hrel
    go_wp2
    go_ret
    exact ⟨rfl, rfl⟩

theorem szReplyS_any (a : Option Addr) (n cap : Nat) (f : Nat → Reply) (left : Int) (w : World) (h0 : 0 ≤ left) (h1 : left ≤ 1048576) (hn : (n : Int) ≤ 9223372036854775807) (hv : SlReply w a n f) (hs : ∀ i, i < n → (f i).text.size ≤ maxLen) :
    Calls Tryd.prog 5 #[.slice a n cap, .int .i64 left] w fun e w' => ∃ r : Int, e = .returned (.int .i64 r) ∧ -1 ≤ r ∧ r ≤ left ∧ (0 ≤ r → (n : Int) ≤ left) ∧ Below w.heap.size w w' := by
  rcases hv with rfl | ⟨b, off, rfl, hl, hc⟩
  · exact (szReplyS_nil a cap left w h0 h1).mono fun e w' ⟨a, b⟩ => ⟨_, a, by omega, by omega, fun _ => by omega, by rw [b]; exact Below.refl _ _⟩
  · by_cases h : (n : Int) ≤ left
    · exact (szReplyS_row b off n cap f left w h h1 hl hc hs).mono fun e w' ⟨r, a, b, c, d⟩ => ⟨r, a, b, c, fun _ => h, d⟩
    · exact (szReplyS_big _ n cap left w h0 h1 hn (by omega)).mono fun e w' ⟨a, b⟩ => ⟨_, a, by omega, by omega, fun _ => by omega, by rw [b]; exact Below.refl _ _⟩

theorem infoReply : (Tryd.prog.info? 46).map (fun i => (i.zero, i.size, i.bytes)) = some (some (.agg #[.bool false, .int .i64 0, .string ⟨#[]⟩]), 3, 32) := by kernel_rfl
def zerosReply (n : Nat) : Array Value := madeCells (Value.agg #[.bool false, .int .i64 0, .string ⟨#[]⟩]).cells (n * 3)
theorem mkReply (n : Nat) (hn : n ≤ 1048576) (w : World) : (Instr.makeSlice 35 (.int .i64 (n : Int)) (.int .i64 (n : Int))).run Tryd.prog w = .ok (.slice (some ⟨w.heap.size, 0, none⟩) n n) (w.alloc (.cells (zerosReply n) 46)) := by
  obtain ⟨i, hi, hz⟩ := Option.map_eq_some_iff.1 infoReply
  simp only [Prod.mk.injEq] at hz
  obtain ⟨h1, h2, h3⟩ := hz
  have h := run_make (P := Tryd.prog) w 35 46 i _ Tryd.underlying35 hi h1 .i64 .i64 n n (by omega) (Int.le_refl _) (by rw [h3]; omega) (by omega)
  rw [h2] at h
  simpa [zerosReply] using h

/-- Block g is a row of n elements' cells; the first k are those of f. -/
def OwnReply (w : World) (g n k : Nat) (f : Nat → Reply) : Prop :=
  ∃ F, w.rowIs g 46 (n * 3) F ∧ ∀ i, i < k → F (i * 3) = .bool (f i).has ∧ F (i * 3 + 1) = .int .i64 (f i).code ∧ F (i * 3 + 2) = .string (f i).text
theorem ownReply_start (w : World) (n : Nat) (f : Nat → Reply) : OwnReply (w.alloc (.cells (zerosReply n) 46)) w.heap.size n 0 f := by
  have hz : (zerosReply n).size = n * 3 := size_madeCells _ _
  have h := World.rowIs_alloc w (zerosReply n) 46 (fun i => (zerosReply n)[i]?.getD undef) (fun i hi => by rw [Array.getElem?_eq_getElem hi]; rfl)
  rw [hz] at h
  exact ⟨_, h, fun i hi => absurd hi (Nat.not_lt_zero _)⟩
theorem OwnReply.step {w : World} {g n k : Nat} {f : Nat → Reply} (h : OwnReply w g n k f) :
    OwnReply (((w.setCell ⟨g, k * 3, none⟩ (.bool (f k).has)).setCell ⟨g, k * 3 + 1, none⟩ (.int .i64 (f k).code)).setCell ⟨g, k * 3 + 2, none⟩ (.string (f k).text)) g n (k + 1) f := by
  obtain ⟨F, hr, hF⟩ := h
  refine ⟨_, (((hr.set _ _).set _ _).set _ _), fun i hi => ?_⟩
  by_cases e : i = k
  · subst e
    exact ⟨by simp, by simp, by simp⟩
  · have h := hF i (by omega)
    refine ⟨?_, ?_, ?_⟩
    · show (if _ then _ else if _ then _ else if _ then _ else _) = _
      rw [if_neg (by omega), if_neg (by omega), if_neg (by omega), h.1]
    · show (if _ then _ else if _ then _ else if _ then _ else _) = _
      rw [if_neg (by omega), if_neg (by omega), if_neg (by omega), h.2.1]
    · show (if _ then _ else if _ then _ else if _ then _ else _) = _
      rw [if_neg (by omega), if_neg (by omega), if_neg (by omega), h.2.2]
theorem OwnReply.below {w w' : World} {g n k : Nat} {f : Nat → Reply} {B : Nat} (h : OwnReply w g n k f) (hb : Below B w w') (hB : g < B) : OwnReply w' g n k f := by
  obtain ⟨F, hr, hF⟩ := h
  exact ⟨F, hr.of_block (hb.block g hB), hF⟩
theorem OwnReply.row {w : World} {g n : Nat} {f : Nat → Reply} (h : OwnReply w g n n f) : RowReply w g 0 n f := by
  obtain ⟨F, hr, hF⟩ := h
  refine ⟨hr.lt, fun i hi => ?_⟩
  have h := hF i hi
  refine ⟨?_, ?_, ?_⟩
  · rw [Nat.zero_add, hr.cell (by omega), h.1]
  · rw [Nat.zero_add, hr.cell (by omega), h.2.1]
  · rw [Nat.zero_add, hr.cell (by omega), h.2.2]

set_option maxHeartbeats 400000 in
theorem toReply_any (has : Bool) (code : Int) (text : ByteArray) (w : World) :
    Calls Tryd.prog 18 #[.agg #[.bool has, .int .i64 code, .string text]] w fun e w' => e = .returned (.agg #[.bool has, .int .i64 code, .string text]) ∧ Below w.heap.size w w' := by
  go_enter Tryd.func18, Tryd.ntmps18
  go_wp2
  refine bodyPost_ret (v := .agg #[.bool has, .int .i64 code, .string text]) (by simp [results, Tryd.results18, go_sem]) rfl ⟨rfl, ?_⟩
  exact (((Below.refl _ _).alloc (Nat.le_refl _) _).alloc (by simp) _).alloc (by simp; omega) _

set_option maxHeartbeats 1000000 in
theorem toReplyS_row (b off n cap : Nat) (f : Nat → Reply) (w : World) (hn : n ≤ 1048576) (hb : b < w.heap.size) (hf : ∀ i, i < n → AtReply w b off i (f i)) :
    Calls Tryd.prog 8 #[.slice (some ⟨b, off, none⟩) n cap] w fun e w' => ∃ g, e = .returned (.slice (some ⟨g, 0, none⟩) n n) ∧ RowReply w' g 0 n f ∧ w.heap.size ≤ g ∧ Below w.heap.size w w' := by
  have HF := hide hf
  clear hf
  have hmk := mkReply n hn
  go_enter Tryd.func8, Tryd.ntmps8
  go_wp2
  clear hmk
  go_loopw [4] (fun i wr => ∃ k : Nat, k ≤ n ∧ i = .int .i64 k ∧ OwnReply wr w.heap.size n k f ∧ Below w.heap.size w wr) (fun i _ => n - (intOf i).toNat)
  case atStart => exact ⟨0, by omega, rfl, ownReply_start w n f, (Below.refl _ _).alloc (Nat.le_refl _) _⟩
  case round =>
    obtain ⟨k, hk, rfl, hO, hB⟩ := hrel
    have HO := hide hO
    by_cases hlt : k < n
    · obtain ⟨c0, c1, c2⟩ := (HF.out k hlt).below hB hb
      clear hO
      go_wp2_with fail
      refine (toReply_any _ _ _ _).mono ?_
      rintro e w1 ⟨rfl, hB1⟩
      have HO1 : Hid (OwnReply w1 w.heap.size n k f) := HO.out.below hB1 (by obtain ⟨F, hr, _⟩ := HO.out; exact hr.lt)
      obtain ⟨F, hr, _⟩ := HO1.out
      have d0 := hr.cell (i := k * 3) (by omega)
      have z0 := hr.frozen (k * 3)
      have d1 := hr.cell (i := k * 3 + 1) (by omega)
      have z1 := hr.frozen (k * 3 + 1)
      have d2 := hr.cell (i := k * 3 + 2) (by omega)
      have z2 := hr.frozen (k * 3 + 2)
      clear hr c0 c1 c2
      go_wp2
      exact ⟨⟨k + 1, by omega, by go_num, HO1.out.step, (((hB.trans (hB1.mono hB.size)).setCell (Nat.le_refl _) _).setCell (Nat.le_refl _) _).setCell (Nat.le_refl _) _⟩, by simp [intOf]; omega⟩
    · have e : k = n := by omega
      subst e
      clear hO
      go_wp2
      go_ret
      exact ⟨_, rfl, HO.out.row, Nat.le_refl _, hB⟩

set_option maxHeartbeats 1000000 in
theorem toReplyS_nil (a : Option Addr) (cap : Nat) (f : Nat → Reply) (w : World) :
    Calls Tryd.prog 8 #[.slice a 0 cap] w fun e w' => ∃ g, e = .returned (.slice (some ⟨g, 0, none⟩) 0 0) ∧ RowReply w' g 0 0 f ∧ w.heap.size ≤ g ∧ Below w.heap.size w w' := by
  have hmk : ∀ w : World, (Instr.makeSlice 35 (.int .i64 0) (.int .i64 0)).run Tryd.prog w = .ok (.slice (some ⟨w.heap.size, 0, none⟩) 0 0) (w.alloc (.cells (zerosReply 0) 46)) := fun w => mkReply 0 (by omega) w
  go_enter Tryd.func8, Tryd.ntmps8
  go_wp2
  clear hmk
  go_loop [4] (fun i => i = .int .i64 0) (fun _ => 0)
  case atStart => rfl
  case round =>
    subst hrel
    go_wp2
    go_ret
    exact ⟨_, rfl, (ownReply_start w 0 f).row, Nat.le_refl _, (Below.refl _ _).alloc (Nat.le_refl _) _⟩

theorem toReplyS_any (a : Option Addr) (n cap : Nat) (f : Nat → Reply) (w : World) (hn : n ≤ 1048576) (hv : SlReply w a n f) :
    Calls Tryd.prog 8 #[.slice a n cap] w fun e w' => ∃ g, e = .returned (.slice (some ⟨g, 0, none⟩) n n) ∧ RowReply w' g 0 n f ∧ w.heap.size ≤ g ∧ Below w.heap.size w w' := by
  rcases hv with rfl | ⟨b, off, rfl, hl, hc⟩
  · exact toReplyS_nil a cap f w
  · exact toReplyS_row b off n cap f w hn hl hc

set_option maxHeartbeats 400000 in
theorem eqReply_same (has : Bool) (code : Int) (text : ByteArray) (w : World) :
    Calls Tryd.prog 24 #[.agg #[.bool has, .int .i64 code, .string text], .agg #[.bool has, .int .i64 code, .string text]] w fun e w' => e = .returned (.bool true) ∧ Below w.heap.size w w' := by
  go_enter Tryd.func24, Tryd.ntmps24
  go_wp2
  go_ret
  exact ⟨rfl, ((Below.refl _ _).alloc (Nat.le_refl _) _).alloc (by simp) _⟩

set_option maxHeartbeats 1000000 in
theorem eqReplyS_row (b off cap b2 off2 cap2 n : Nat) (f : Nat → Reply) (w : World) (hn : n ≤ 1048576) (hb : b < w.heap.size) (hf : ∀ i, i < n → AtReply w b off i (f i)) (hb2 : b2 < w.heap.size) (hf2 : ∀ i, i < n → AtReply w b2 off2 i (f i)) :
    Calls Tryd.prog 12 #[.slice (some ⟨b, off, none⟩) n cap, .slice (some ⟨b2, off2, none⟩) n cap2] w fun e w' => e = .returned (.bool true) ∧ Below w.heap.size w w' := by
  have HF := hide hf
  have HF2 := hide hf2
  clear hf hf2
  go_enter Tryd.func12, Tryd.ntmps12
  go_wp2
  go_loopw [5] (fun i wr => ∃ k : Nat, k ≤ n ∧ i = .int .i64 k ∧ Below w.heap.size w wr) (fun i _ => n - (intOf i).toNat)
  case atStart => exact ⟨0, by omega, rfl, Below.refl _ _⟩
  case round =>
    obtain ⟨k, hk, rfl, hB⟩ := hrel
    have HB := hide hB
    have hsz : w.heap.size ≤ wr.heap.size := hB.size
    clear hB
    by_cases hlt : k < n
    · obtain ⟨c0, c1, c2⟩ := (HF.out k hlt).below HB.out hb
      obtain ⟨d0, d1, d2⟩ := (HF2.out k hlt).below HB.out hb2
      go_wp2_with fail
      go_region_with (go_at_call 24; refine (eqReply_same _ _ _ _).mono ?_; rintro e w' ⟨rfl, hB'⟩)
      all_goals
        go_wp2
        exact ⟨⟨k + 1, by omega, by go_num, Below.trans (by repeat (first | exact HB.out | apply Below.drew)) (hB'.mono hsz)⟩, by simp [intOf]; omega⟩
    · have e : k = n := by omega
      subst e
      go_wp2
      go_ret
      exact ⟨rfl, HB.out⟩

set_option maxHeartbeats 1000000 in
theorem eqReplyS_nil (a a2 : Option Addr) (cap cap2 : Nat) (w : World) :
    Calls Tryd.prog 12 #[.slice a 0 cap, .slice a2 0 cap2] w fun e w' => e = .returned (.bool true) ∧ w' = w := by
  go_enter Tryd.func12, Tryd.ntmps12
  go_wp2
  go_loop [5] (fun i => i = .int .i64 0) (fun _ => 0)
  case atStart => rfl
  case round =>
    subst hrel
    go_wp2
    go_ret
    exact ⟨rfl, rfl⟩

/-- The same elements: equal. -/
theorem eqReplyS_any (a a2 : Option Addr) (cap cap2 n : Nat) (f : Nat → Reply) (w : World) (hn : n ≤ 1048576) (h : SlReply w a n f) (h2 : SlReply w a2 n f) :
    Calls Tryd.prog 12 #[.slice a n cap, .slice a2 n cap2] w fun e w' => e = .returned (.bool true) ∧ Below w.heap.size w w' := by
  by_cases hz : n = 0
  · subst hz
    exact (eqReplyS_nil a a2 cap cap2 w).mono fun _ _ ⟨a, b⟩ => ⟨a, by rw [b]; exact Below.refl _ _⟩
  · rcases h with h | ⟨b, off, rfl, hb, hf⟩
    · exact absurd h hz
    · rcases h2 with h | ⟨b2, off2, rfl, hb2, hf2⟩
      · exact absurd h hz
      · exact eqReplyS_row b off cap b2 off2 cap2 n f w hn hb hf hb2 hf2

end Go.Proofs.YtfhdecheaeoopaaDoor.Vp
