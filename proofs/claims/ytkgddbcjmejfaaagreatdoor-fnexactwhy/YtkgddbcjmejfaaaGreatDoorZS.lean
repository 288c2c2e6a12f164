/-
  Put together of: WhPart, WhTale, WhActs, WhNum, WhBy.
-/
import Derived.Test.YtkgddbcjmejfaaaGreatDoorZR
import Derived.Laws.StructEq
import Derived.WalkSpells
import Derived.Test.YtkgddbcjmejfaaaGreatDoorZF
import Derived.Test.YtkgddbcjmejfaaaGreatDoorZK
import Derived.Test.YtkgddbcjmejfaaaGreatDoorZD

/-
  Why, impl: goesWith, part.
-/
namespace Go.Proofs.YtkgddbcjmejfaaaGreatDoor.Vp
open Go.RowKit Go.Maps

def goesB (t u : Told) : Bool := if t.kind == 0 || u.kind == 0 then !(t.kind == 2) && !(u.kind == 2) else t.kind == u.kind && t.text.toList == u.text.toList && t.act == u.act

theorem eqlTold (x y : Told) (w : World) : (binOp .eql 104 (.agg #[.int .i64 x.kind, .string x.text, .int .i64 x.act]) (.agg #[.int .i64 y.kind, .string y.text, .int .i64 y.act])).run Tryz.prog w = .ok (.bool (x.kind == y.kind && x.text.toList == y.text.toList && x.act == y.act)) w := by
  have hS : Tryz.prog.underlying 104 = some (.struct (Tryz.prog.fieldsOf 104)) := by kernel_rfl
  have hp : Tryz.prog.stoodInHeld 104 = false := by kernel_rfl
  rw [run_eql_struct, show (10000 : Nat) = 9999 + 1 from rfl, run_equalIn_agg w 9999 104 _ _ hS hp]
  simp only [Program.fieldsOf, Tryz.underlying104]
  go_simp
  by_cases h1 : x.kind = y.kind <;> by_cases h2 : x.text.toList = y.text.toList <;> by_cases h3 : x.act = y.act <;> simp [h1, h2, h3]

theorem goesB_eq (k : Int) (x : ByteArray) (p : Int) (l : Int) (y : ByteArray) (q : Int) : goesB ⟨k, x, p⟩ ⟨l, y, q⟩ = if k == 0 || l == 0 then !(k == 2) && !(l == 2) else k == l && x.toList == y.toList && p == q := rfl

set_option maxRecDepth 100000 in
set_option maxHeartbeats 2000000 in
theorem goesWith_any (t u : Told) (w : World) :
    Calls Tryz.prog 53 #[.agg #[.int .i64 t.kind, .string t.text, .int .i64 t.act], .agg #[.int .i64 u.kind, .string u.text, .int .i64 u.act]] w fun e w' => e = .returned (.bool (goesB t u)) ∧ Below w.heap.size w w' := by
  have A0 := hide (((Below.refl w.heap.size w).alloc (Nat.le_refl _) (.cells #[.int .i64 t.kind, .string t.text, .int .i64 t.act] 104)).alloc (by simp) (.cells #[.int .i64 u.kind, .string u.text, .int .i64 u.act] 104))
  have hq := eqlTold t u
  obtain ⟨k, x, p⟩ := t
  obtain ⟨l, y, q⟩ := u
  have HG := hide (goesB_eq k x p l y q)
  generalize goesB ⟨k, x, p⟩ ⟨l, y, q⟩ = r at HG ⊢
  dsimp only at hq A0 ⊢
  by_cases h1 : k = 0
  · subst h1
    by_cases h2 : l = 2
    · subst h2
      have HR := hide (show r = false from HG.out)
      go_enter Tryz.func53, Tryz.ntmps53
      go_wp2
      go_ret
      exact ⟨ret_bool HR.out.symm, A0.out⟩
    · have h3 : (l == 2) = false := by simpa using h2
      have h4 : (l != 2) = true := by simpa using h2
      have HR := hide (show r = true by have := HG.out; rw [h3] at this; exact this)
      go_enter Tryz.func53, Tryz.ntmps53
      go_wp2
      go_ret
      exact ⟨ret_bool HR.out.symm, A0.out⟩
  · have h5 : (k == 0) = false := by simpa using h1
    by_cases h6 : l = 0
    · subst h6
      by_cases h2 : k = 2
      · subst h2
        have HR := hide (show r = false from HG.out)
        go_enter Tryz.func53, Tryz.ntmps53
        go_wp2
        go_ret
        exact ⟨ret_bool HR.out.symm, A0.out⟩
      · have h3 : (k == 2) = false := by simpa using h2
        have h4 : (k != 2) = true := by simpa using h2
        have HR := hide (show r = true by have := HG.out; rw [h3, h5] at this; exact this)
        go_enter Tryz.func53, Tryz.ntmps53
        go_wp2
        go_ret
        exact ⟨ret_bool HR.out.symm, A0.out⟩
    · have h7 : (l == 0) = false := by simpa using h6
      have HR := hide (show r = (k == l && x.toList == y.toList && p == q) by have := HG.out; rw [h5, h7] at this; simpa using this)
      go_enter Tryz.func53, Tryz.ntmps53
      go_wp2
      go_ret
      exact ⟨ret_bool HR.out.symm, A0.out⟩

theorem SetO.below {w w' : World} {mb : Option Nat} {n B : Nat} {S : Told → Prop} (h : SetO w mb n S) (hb : Below B w w') (hB : w.heap.size ≤ B) : SetO w' mb n S := by
  cases mb with
  | none => exact h
  | some b => exact SetT.blk h (hb.block b (Nat.lt_of_lt_of_le (SetT.lt h) hB))
theorem below_of_grown {w w' : World} {row : Option Nat} {B : Nat} (h : w.grownBy w' row) (hB : B ≤ w.heap.size) (hr : ∀ j, row = some j → B ≤ j) : Below B w w' :=
  ⟨h.os, h.tape, h.output, h.size, fun k hk => h.block k (by omega) (fun e => by have := hr k e.symm; omega)⟩

set_option maxRecDepth 100000 in
set_option maxHeartbeats 4000000 in
theorem part_any (m1 m2 : Option Nat) (n1 n2 : Nat) (S1 S2 : Told → Prop) (w : World) (h1 : SetO w m1 n1 S1) (h2 : SetO w m2 n2 S2) :
    Calls Tryz.prog 36 #[.map m1, .map m2] w fun e w' => ∃ r : Bool, e = .returned (.bool r) ∧ (r = true ↔ ∃ t u, S1 t ∧ S2 u ∧ goesB t u = false) ∧ Below w.heap.size w w' := by
  have H1 := hide h1
  have H2 := hide h2
  clear h1 h2
  go_enter Tryz.func36, Tryz.ntmps36
  go_wp2_with (first
    | (at_range; refine wpT_range _ rfl _ rfl m1 n1 S1 rfl H1.out ?_; intro w0 cnt0 hrg0 hg0 hs0)
    | go_in)
  go_frame
  have G0 := hide (below_of_grown hg0 (Nat.le_refl _) (fun j hj => by cases hj))
  have R0 := hide hrg0
  clear hrg0 hg0
  go_loopw [9] (fun _ wr => ∃ L cnt, Hid (RgT wr m1 w.heap.size n1 S1 L cnt) ∧ Hid (Below w.heap.size w wr) ∧ Hid (∀ t, S1 t → L t ∨ ∀ u, S2 u → goesB t u = true)) (fun _ wr => rgLeft wr m1 w.heap.size)
  case atStart => exact ⟨_, _, R0.out, G0.out, fun t ht => .inl ht⟩
  case round =>
    obtain ⟨L, cnt, HR, HB, HL⟩ := hrel
    go_wp2_with (first
      | (at_next; refine wpT_next _ rfl _ rfl m1 w.heap.size n1 S1 L cnt rfl HR.out ?_ ?_)
      | go_in)
    · intro hdone
      go_wp2
      go_ret
      refine ⟨false, rfl, ⟨(fun h => by cases h), fun ⟨t, u, ht, hu, hg⟩ => ?_⟩, HB.out⟩
      rcases HL.out t ht with h | h
      · exact absurd h (hdone t)
      · rw [h u hu] at hg
        cases hg
    · intro t w1 cnt1 hSt hLt hrg1 hlt1 hg1 hs1 hen1
      have R1 := hide hrg1
      have B1 := hide (HB.out.trans (below_of_grown (B := w.heap.size) hg1 HB.out.size (fun j hj => by cases hj; exact Nat.le_refl _)))
      have M1 := hide (show rgLeft w1 m1 w.heap.size < rgLeft wr m1 w.heap.size by rw [hrg1.left_eq, HR.out.left_eq]; exact hlt1)
      have N1 := hide (show w.heap.size < w1.heap.size from hrg1.lt.1)
      clear hrg1 hg1 hs1 hlt1
      have B2 := hide (B1.out.alloc B1.out.size (.cells #[.int .i64 t.kind, .string t.text, .int .i64 t.act] 104))
      have k0 : (w1.alloc (.cells #[.int .i64 t.kind, .string t.text, .int .i64 t.act] 104)).cell? ⟨w1.heap.size, 0, none⟩ = some (.int .i64 t.kind) := by simp [go_sem]
      have k1 : (w1.alloc (.cells #[.int .i64 t.kind, .string t.text, .int .i64 t.act] 104)).cell? ⟨w1.heap.size, 1, none⟩ = some (.string t.text) := by simp [go_sem]
      have k2 : (w1.alloc (.cells #[.int .i64 t.kind, .string t.text, .int .i64 t.act] 104)).cell? ⟨w1.heap.size, 2, none⟩ = some (.int .i64 t.act) := by simp [go_sem]
      have E2 := hide (show (w1.alloc (.cells #[.int .i64 t.kind, .string t.text, .int .i64 t.act] 104)).heap.size = w1.heap.size + 1 by simp)
      have R2 := hide (show RgT (w1.alloc (.cells #[.int .i64 t.kind, .string t.text, .int .i64 t.act] 104)) m1 w.heap.size n1 S1 (fun u => L u ∧ u ≠ t) cnt1 from
        R1.out.blk (fun b hb => (MapKept.heap_alloc w1 _).2 b (R1.out.lt.2 b hb).1) ((MapKept.heap_alloc w1 _).2 _ N1.out))
      have H2' := hide (H2.out.below B2.out (Nat.le_refl _))
      go_wp2_with (first
        | (at_range; generalize w1.alloc (.cells #[.int .i64 t.kind, .string t.text, .int .i64 t.act] 104) = W at B2 k0 k1 k2 E2 R2 H2' ⊢; refine wpT_range _ rfl _ rfl m2 n2 S2 rfl H2'.out ?_; intro w3 cnt3 hrg3 hg3 hs3)
        | go_in)
      go_frame
      have G3 := hide (below_of_grown hg3 (Nat.le_refl _) (fun j hj => by cases hj))
      have R3 := hide hrg3
      clear hrg3 hg3
      go_loopw [15] (fun _ wz => ∃ L2 cnt2, Hid (RgT wz m2 W.heap.size n2 S2 L2 cnt2) ∧ Hid (Below W.heap.size W wz) ∧ Hid (∀ u, S2 u → L2 u ∨ goesB t u = true)) (fun _ wz => rgLeft wz m2 W.heap.size)
      case atStart => exact ⟨_, _, R3.out, G3.out, fun u hu => .inl hu⟩
      case round =>
        obtain ⟨L2, cnt2, HR2, HB2, HL2⟩ := hrel
        go_wp2_with (first
          | (at_next; refine wpT_next _ rfl _ rfl m2 W.heap.size n2 S2 L2 cnt2 rfl HR2.out ?_ ?_)
          | go_in)
        · intro hdone
          have hdone := hide hdone
          go_wp2
          have R5 := hide (R2.out.blk (fun b hb => HB2.out.block b (R2.out.lt.2 b hb).1) (HB2.out.block _ R2.out.lt.1))
          refine ⟨⟨_, cnt1, R5.out, B2.out.trans (HB2.out.mono B2.out.size), fun x hx => ?_⟩, ?_⟩
          · rcases HL.out x hx with h | h
            · by_cases e : x = t
              · subst e
                exact .inr fun u hu => (HL2.out u hu).resolve_left (hdone.out u)
              · exact .inl ⟨h, e⟩
            · exact .inr h
          · have := M1.out
            rw [R1.out.left_eq] at this
            rw [R5.out.left_eq]
            exact this
        · intro u w4 cnt4 hSu hLu hrg4 hlt4 hg4 hs4 hen4
          have R4 := hide hrg4
          have B4 := hide (HB2.out.trans (below_of_grown (B := W.heap.size) hg4 HB2.out.size (fun j hj => by cases hj; exact Nat.le_refl _)))
          have M4 := hide (show rgLeft w4 m2 W.heap.size < rgLeft wr m2 W.heap.size by rw [hrg4.left_eq, HR2.out.left_eq]; exact hlt4)
          clear hrg4 hg4 hs4 hlt4
          have B5 := hide (B4.out.alloc B4.out.size (.cells #[.int .i64 u.kind, .string u.text, .int .i64 u.act] 104))
          have hlt : w1.heap.size < W.heap.size := by rw [E2.out]; omega
          have p0 := (B5.out.cell (p := ⟨w1.heap.size, 0, none⟩) hlt).trans k0
          have p1 := (B5.out.cell (p := ⟨w1.heap.size, 1, none⟩) hlt).trans k1
          have p2 := (B5.out.cell (p := ⟨w1.heap.size, 2, none⟩) hlt).trans k2
          have R5 := hide (show RgT (w4.alloc (.cells #[.int .i64 u.kind, .string u.text, .int .i64 u.act] 104)) m2 W.heap.size n2 S2 (fun x => L2 x ∧ x ≠ u) cnt4 from
            R4.out.blk (fun b hb => (MapKept.heap_alloc w4 _).2 b (R4.out.lt.2 b hb).1) ((MapKept.heap_alloc w4 _).2 _ R4.out.lt.1))
          clear k0 k1 k2 hlt
          go_wp2_with (go_at_call 53; refine (goesWith_any t u _).mono ?_; rintro e w6 ⟨rfl, hB6⟩; have B6 := hide hB6; clear hB6)
          · rename_i hb
            have hg : goesB t u = false := by simpa using hb
            go_ret
            exact ⟨true, rfl, ⟨fun _ => ⟨t, u, hSt, hSu, hg⟩, fun _ => rfl⟩, B2.out.trans ((B5.out.trans (B6.out.mono B5.out.size)).mono B2.out.size)⟩
          · rename_i hb
            have hg : goesB t u = true := by simpa using hb
            have R6 := hide (R5.out.blk (fun b hb => B6.out.block b (R5.out.lt.2 b hb).1) (B6.out.block _ R5.out.lt.1))
            refine ⟨⟨_, cnt4, R6.out, B5.out.trans (B6.out.mono B5.out.size), fun x hx => ?_⟩, ?_⟩
            · rcases HL2.out x hx with h | h
              · by_cases e : x = u
                · subst e
                  exact .inr hg
                · exact .inl ⟨h, e⟩
              · exact .inr h
            · have := M4.out
              rw [R4.out.left_eq] at this
              rw [R6.out.left_eq]
              exact this

end Go.Proofs.YtkgddbcjmejfaaaGreatDoor.Vp

/-
  Why, impl: a tale: tell.
-/
namespace Go.Proofs.YtkgddbcjmejfaaaGreatDoor.Vp
open Go.RowKit Go.Maps

theorem zeroSetT (w : World) : (zeroValue 77).run Tryz.prog w = .ok (.map none) w := by kernel_rfl

/-- All but maps from lo on stands as it stood. -/
structure KM (lo : Nat) (w w' : World) : Prop where
  below : Below lo w w'
  blk : ∀ i, i < w.heap.size → (∀ es c, w.heap[i]? ≠ some (.map es c)) → w'.heap[i]? = w.heap[i]?
theorem KM.refl (lo : Nat) (w : World) : KM lo w w := ⟨Below.refl _ _, fun _ _ _ => rfl⟩
theorem KM.trans {lo : Nat} {w w' w'' : World} (h : KM lo w w') (k : KM lo w' w'') : KM lo w w'' :=
  ⟨h.below.trans k.below, fun i hi hm => by
    have h1 := h.blk i hi hm
    rw [← h1]
    exact k.blk i (Nat.lt_of_lt_of_le hi h.below.size) (fun es c => by rw [h1]; exact hm es c)⟩
theorem KM.of_grown {lo b : Nat} {w w' : World} (h : w.grownBy w' (some b)) (hlo : lo ≤ w.heap.size) (hb : lo ≤ b) (hm : b < w.heap.size → ∃ es c, w.heap[b]? = some (.map es c)) : KM lo w w' :=
  ⟨below_of_grown h hlo (fun j hj => by cases hj; exact hb), fun i hi hn => h.block i hi (fun e => by
    cases e
    obtain ⟨es, c, he⟩ := hm hi
    exact hn es c he)⟩
theorem KM.alloc {lo : Nat} (w : World) (o : Obj) (hlo : lo ≤ w.heap.size) : KM lo w (w.alloc o) :=
  ⟨(Below.refl _ _).alloc hlo o, fun i hi _ => (MapKept.heap_alloc w o).2 i hi⟩
theorem KM.cell {lo : Nat} {w w' : World} (h : KM lo w w') {p : Addr} {v : Value} (hc : w.cell? p = some v) : w'.cell? p = some v := by
  cases hb : w.heap[p.block]? with
  | none => simp [World.cell?, hb] at hc
  | some o =>
    have hlt : p.block < w.heap.size := (Array.getElem?_eq_some_iff.1 hb).1
    refine (World.cell?_of_block (h.blk _ hlt fun es c e => ?_)).trans hc
    simp [World.cell?, e] at hc

/-- What a tale tells, and where. -/
structure TaleG (w : World) (lo tb n : Nat) (G : List UInt8 → Option Nat) (T : List UInt8 → Told → Prop) : Prop where
  map : MapN w tb n (fun s => (G s).map fun b => .map (some b))
  ge : lo ≤ tb
  no : ∀ s, G s = none → ∀ t, ¬ T s t
  set : ∀ s b, G s = some b → SetT w b n (T s) ∧ lo ≤ b ∧ b ≠ tb
  inj : ∀ s s' b, G s = some b → G s' = some b → s = s'
def Tale (w : World) (lo tb n : Nat) (T : List UInt8 → Told → Prop) : Prop := ∃ G, TaleG w lo tb n G T
theorem tale_new (w : World) {lo : Nat} (h : lo ≤ w.heap.size) : Tale (w.alloc (.map #[] 0)) lo w.heap.size 0 (fun _ _ => False) :=
  ⟨fun _ => none, mapN_new w, h, fun _ _ _ h => h, fun _ _ h => by simp at h, fun _ _ _ h => by simp at h⟩
theorem TaleG.blk {w w' : World} {lo tb n : Nat} {G : List UInt8 → Option Nat} {T : List UInt8 → Told → Prop} (h : TaleG w lo tb n G T) (hb : ∀ i, lo ≤ i → i < w.heap.size → (∃ es c, w.heap[i]? = some (.map es c)) → w'.heap[i]? = w.heap[i]?) : TaleG w' lo tb n G T :=
  ⟨h.map.blk (hb _ h.ge h.map.lt h.map.isMap), h.ge, h.no, fun s b hs => by
    obtain ⟨h1, h2, h3⟩ := h.set s b hs
    exact ⟨h1.blk (hb _ h2 h1.lt h1.isMap), h2, h3⟩, h.inj⟩
theorem Tale.blk {w w' : World} {lo tb n : Nat} {T : List UInt8 → Told → Prop} (h : Tale w lo tb n T) (hb : ∀ i, lo ≤ i → i < w.heap.size → (∃ es c, w.heap[i]? = some (.map es c)) → w'.heap[i]? = w.heap[i]?) : Tale w' lo tb n T :=
  h.elim fun G hG => ⟨G, hG.blk hb⟩
theorem TaleG.mono {w : World} {lo tb n n' : Nat} {G : List UInt8 → Option Nat} {T : List UInt8 → Told → Prop} (h : TaleG w lo tb n G T) (hn : n ≤ n') : TaleG w lo tb n' G T :=
  ⟨h.map.mono hn, h.ge, h.no, fun s b hs => by
    obtain ⟨h1, h2, h3⟩ := h.set s b hs
    exact ⟨h1.mono hn, h2, h3⟩, h.inj⟩
theorem Tale.lt {w : World} {lo tb n : Nat} {T : List UInt8 → Told → Prop} (h : Tale w lo tb n T) : lo ≤ tb ∧ tb < w.heap.size := by obtain ⟨_, hG⟩ := h; exact ⟨hG.ge, hG.map.lt⟩
theorem Tale.congr {w : World} {lo tb n : Nat} {T T' : List UInt8 → Told → Prop} (h : Tale w lo tb n T) (hT : ∀ s t, T s t ↔ T' s t) : Tale w lo tb n T' := by
  obtain rfl : T = T' := funext fun s => funext fun t => propext (hT s t)
  exact h
/-- Behind a telling. -/
theorem TaleG.told {w w' : World} {lo tb n b : Nat} {G : List UInt8 → Option Nat} {T : List UInt8 → Told → Prop} {s0 : List UInt8} {x : Told} (h : TaleG w lo tb n G T) (hm : MapN w' tb (n + 1) (fun s => (if s = s0 then some b else G s : Option Nat).map fun b => .map (some b)))
    (hs : SetT w' b (n + 1) (fun t => t = x ∨ T s0 t)) (hb : lo ≤ b) (hbt : b ≠ tb) (hnew : ∀ s, s ≠ s0 → G s ≠ some b) (ho : ∀ s b', s ≠ s0 → G s = some b' → w'.heap[b']? = w.heap[b']?) : Tale w' lo tb (n + 1) (fun s t => (s = s0 ∧ t = x) ∨ T s t) := by
  refine ⟨fun s => if s = s0 then some b else G s, hm, h.ge, fun s hn t ht => ?_, fun s b' hs' => ?_, fun s s' b' h1 h2 => ?_⟩
  · by_cases e : s = s0
    · simp [e] at hn
    · simp only [e, if_false] at hn
      rcases ht with ht | ht
      · exact e ht.1
      · exact h.no s hn t ht
  · by_cases e : s = s0
    · simp only [e, if_true, Option.some.injEq] at hs'
      subst hs'
      have hT : (fun t => t = x ∨ T s0 t) = fun t => (s = s0 ∧ t = x) ∨ T s t := funext fun t => propext ⟨fun h => h.elim (fun h => .inl ⟨e, h⟩) (fun h => .inr (e ▸ h)), fun h => h.elim (fun h => .inl h.2) (fun h => .inr (e ▸ h))⟩
      exact ⟨hT ▸ hs, hb, hbt⟩
    · simp only [e, if_false] at hs'
      obtain ⟨h1, h2, h3⟩ := h.set s b' hs'
      have hT : T s = fun t => (s = s0 ∧ t = x) ∨ T s t := funext fun t => propext ⟨.inr, fun h => h.elim (fun h => absurd h.1 e) id⟩
      exact ⟨hT ▸ (h1.blk (ho s b' e hs')).mono (Nat.le_succ _), h2, h3⟩
  · by_cases e : s = s0 <;> by_cases e' : s' = s0
    · rw [e, e']
    · simp only [e, if_true, Option.some.injEq] at h1
      simp only [e', if_false] at h2
      exact absurd (h1 ▸ h2) (hnew s' e')
    · simp only [e', if_true, Option.some.injEq] at h2
      simp only [e, if_false] at h1
      exact absurd (h2 ▸ h1) (hnew s e)
    · simp only [e, if_false] at h1
      simp only [e', if_false] at h2
      exact h.inj s s' b' h1 h2

set_option maxRecDepth 100000 in
set_option maxHeartbeats 4000000 in
theorem tell_old (lo tb n b : Nat) (G : List UInt8 → Option Nat) (T : List UInt8 → Told → Prop) (name : ByteArray) (x : Told) (w : World) (hn : (n : Int) ≤ 1000000) (hsz : name.size ≤ maxLen) (hx : TOk x) (hlo : lo ≤ w.heap.size) (h : TaleG w lo tb n G T) (hG : G name.toList = some b) :
    Calls Tryz.prog 50 #[.map (some tb), .string name, tv x] w fun e w' => e = .returned (.tuple #[]) ∧ Tale w' lo tb (n + 1) (fun s t => (s = name.toList ∧ t = x) ∨ T s t) ∧ KM lo w w' := by
  have K0 := hide (KM.alloc w (.cells #[.int .i64 x.kind, .string x.text, .int .i64 x.act] 104) hlo)
  have H0 := hide (h.blk (w' := w.alloc (.cells #[.int .i64 x.kind, .string x.text, .int .i64 x.act] 104)) (fun i _ hi _ => (MapKept.heap_alloc w _).2 i hi))
  have HX := hide hx
  have HV := hide (show ((G name.toList).map fun b => Value.map (some b)).getD (.map none) = .map (some b) by rw [hG]; rfl)
  have HG := hide hG
  clear h hG hx
  have hz := zeroSetT
  have qT : ∀ (w : World) (r : Option Nat), (binOp .eql 77 (.map r) (.map none)).run Tryz.prog w = .ok (.bool r.isNone) w := fun w r => run_eql_map_nil w _ _ _ r Tryz.underlying77
  show Calls Tryz.prog 50 #[.map (some tb), .string name, .agg #[.int .i64 x.kind, .string x.text, .int .i64 x.act]] w _
  go_enter Tryz.func50, Tryz.ntmps50
  go_wp2_with (first
    | (at_lookup; refine wpN_lookup _ rfl _ _ 74 rfl 77 Tryz.underlying74 (hz _) tb n _ rfl H0.out.map name rfl hsz _ HV.out ?_)
    | (go_at_call 69; refine (addT_any b n (T name.toList) x _ (by omega) HX.out (H0.out.set _ b HG.out).1).mono ?_; rintro e w2 ⟨rfl, hS2, hg2⟩; have S2 := hide hS2; have G2 := hide hg2; clear hS2 hg2))
  go_end0
  obtain ⟨hset, hb1, hb2⟩ := H0.out.set _ b HG.out
  refine ⟨rfl, H0.out.told ?_ S2.out hb1 hb2 (fun s hs e => hs (H0.out.inj _ _ b e HG.out)) (fun s b' hs hb' => G2.out.block b' (H0.out.set s b' hb').1.lt (fun e => hs (H0.out.inj _ _ b' hb' (HG.out.trans e.symm)))), K0.out.trans (KM.of_grown G2.out (Nat.le_trans hlo K0.out.below.size) hb1 (fun _ => hset.isMap))⟩
  refine ((H0.out.map.blk (G2.out.block tb H0.out.map.lt (fun e => hb2 (by cases e; rfl)))).mono (Nat.le_succ n)).congr fun s => ?_
  by_cases e : s = name.toList
  · rw [if_pos e, e, HG.out]
  · rw [if_neg e]

set_option maxRecDepth 100000 in
set_option maxHeartbeats 4000000 in
theorem tell_fresh (lo tb n : Nat) (G : List UInt8 → Option Nat) (T : List UInt8 → Told → Prop) (name : ByteArray) (x : Told) (w : World) (hn : (n : Int) ≤ 1000000) (hsz : name.size ≤ maxLen) (hx : TOk x) (hlo : lo ≤ w.heap.size) (h : TaleG w lo tb n G T) (hG : G name.toList = none) :
    Calls Tryz.prog 50 #[.map (some tb), .string name, tv x] w fun e w' => e = .returned (.tuple #[]) ∧ Tale w' lo tb (n + 1) (fun s t => (s = name.toList ∧ t = x) ∨ T s t) ∧ KM lo w w' := by
  have K0 := hide (KM.alloc w (.cells #[.int .i64 x.kind, .string x.text, .int .i64 x.act] 104) hlo)
  have H0 := hide (h.blk (w' := w.alloc (.cells #[.int .i64 x.kind, .string x.text, .int .i64 x.act] 104)) (fun i _ hi _ => (MapKept.heap_alloc w _).2 i hi))
  have hc0 : (w.alloc (.cells #[.int .i64 x.kind, .string x.text, .int .i64 x.act] 104)).cell? ⟨w.heap.size, 0, none⟩ = some (.int .i64 x.kind) ∧ (w.alloc (.cells #[.int .i64 x.kind, .string x.text, .int .i64 x.act] 104)).cell? ⟨w.heap.size, 1, none⟩ = some (.string x.text) ∧ (w.alloc (.cells #[.int .i64 x.kind, .string x.text, .int .i64 x.act] 104)).cell? ⟨w.heap.size, 2, none⟩ = some (.int .i64 x.act) := by simp [go_sem]
  have E0 := hide (show w.heap.size < (w.alloc (.cells #[.int .i64 x.kind, .string x.text, .int .i64 x.act] 104)).heap.size by simp)
  have HC := hide hc0
  have L0 := hide (Nat.le_trans hlo K0.out.below.size)
  have HX := hide hx
  have HV := hide (show ((G name.toList).map fun b => Value.map (some b)).getD (.map none) = .map none by rw [hG]; rfl)
  have HG := hide hG
  clear h hG hx hc0
  have hz := zeroSetT
  have qT : ∀ (w : World) (r : Option Nat), (binOp .eql 77 (.map r) (.map none)).run Tryz.prog w = .ok (.bool r.isNone) w := fun w r => run_eql_map_nil w _ _ _ r Tryz.underlying77
  have hmm := @run_makeMap Tryz.prog
  show Calls Tryz.prog 50 #[.map (some tb), .string name, .agg #[.int .i64 x.kind, .string x.text, .int .i64 x.act]] w _
  go_enter Tryz.func50, Tryz.ntmps50
  go_wp2_with (first
    | (at_lookup; generalize w.alloc (.cells #[.int .i64 x.kind, .string x.text, .int .i64 x.act] 104) = W at K0 H0 HC E0 L0 ⊢; generalize w.heap.size = bx at HC E0 ⊢; have H1 := hide (H0.out.blk (w' := W.alloc (.map #[] 0)) (fun i _ hi _ => (MapKept.heap_alloc W _).2 i hi)); have K1 := hide (KM.alloc W (.map #[] 0) L0.out); have S1 := hide (setT_new W); refine wpN_lookup _ rfl _ _ 74 rfl 77 Tryz.underlying74 (hz _) tb n _ rfl H0.out.map name rfl hsz _ HV.out ?_)
    | (at_mapUpdate; refine wpN_update _ rfl _ _ _ 74 rfl 77 Tryz.underlying74 tb n _ rfl H1.out.map (by unfold maxLen; omega) name (.map (some W.heap.size)) rfl rfl hsz ?_; intro w2 hM2 hg2; have M2 := hide hM2; have G2 := hide hg2; clear hM2 hg2; have K2 := hide (KM.of_grown G2.out (Nat.le_trans L0.out K1.out.below.size) H0.out.ge (fun _ => H1.out.map.isMap)); have S2 := hide (S1.out.blk (G2.out.block W.heap.size (by simp) (fun e => by have := H0.out.map.lt; cases e; omega))); have c0 := K2.out.cell (K1.out.cell HC.out.1); have c1 := K2.out.cell (K1.out.cell HC.out.2.1); have c2 := K2.out.cell (K1.out.cell HC.out.2.2))
    | (at_lookup; refine wpN_lookup _ rfl _ _ 74 rfl 77 Tryz.underlying74 (hz _) tb (n + 1) _ rfl M2.out name rfl hsz (.map (some W.heap.size)) (by rw [if_pos rfl]; rfl) ?_)
    | (go_at_call 69; refine (addT_any W.heap.size 0 (fun _ => False) x _ (by omega) HX.out S2.out).mono ?_; rintro e w3 ⟨rfl, hS3, hg3⟩; have S3 := hide hS3; have G3 := hide hg3; clear hS3 hg3))
  go_end0
  have hlt := H0.out.map.lt
  refine ⟨rfl, H0.out.told (b := W.heap.size) ?_ ?_ L0.out (fun e => by omega) (fun s hs e => by have := (H0.out.set s _ e).1.lt; omega) (fun s b' hs hb' => ?_), K0.out.trans (K1.out.trans (K2.out.trans (KM.of_grown G3.out (Nat.le_trans (Nat.le_trans L0.out K1.out.below.size) K2.out.below.size) L0.out (fun _ => S2.out.isMap))))⟩
  · refine (M2.out.blk (G3.out.block tb M2.out.lt (fun e => by cases e; omega))).congr fun s => ?_
    by_cases e : s = name.toList
    · rw [if_pos e, if_pos e]; rfl
    · rw [if_neg e, if_neg e]
  · have hT : (fun t => t = x ∨ False) = fun t => t = x ∨ T name.toList t := funext fun t => propext ⟨fun h => .inl (h.resolve_right id), fun h => h.elim .inl (fun h => absurd h (H0.out.no _ HG.out t))⟩
    exact hT ▸ (S3.out.mono (by omega))
  · obtain ⟨h1, h2, h3⟩ := H0.out.set s b' hb'
    have hl := h1.lt
    have hl2 : b' < (W.alloc (.map #[] 0)).heap.size := Nat.lt_of_lt_of_le hl K1.out.below.size
    rw [G3.out.block b' (Nat.lt_of_lt_of_le hl2 G2.out.size) (fun e => by cases e; omega), G2.out.block b' hl2 (fun e => h3 (by cases e; rfl))]
    exact (MapKept.heap_alloc W _).2 b' hl

theorem tell_any (lo tb n : Nat) (T : List UInt8 → Told → Prop) (name : ByteArray) (x : Told) (w : World) (hn : (n : Int) ≤ 1000000) (hsz : name.size ≤ maxLen) (hx : TOk x) (hlo : lo ≤ w.heap.size) (h : Tale w lo tb n T) :
    Calls Tryz.prog 50 #[.map (some tb), .string name, tv x] w fun e w' => e = .returned (.tuple #[]) ∧ Tale w' lo tb (n + 1) (fun s t => (s = name.toList ∧ t = x) ∨ T s t) ∧ KM lo w w' := by
  obtain ⟨G, hG⟩ := h
  cases e : G name.toList with
  | none => exact tell_fresh lo tb n G T name x w hn hsz hx hlo hG e
  | some b => exact tell_old lo tb n b G T name x w hn hsz hx hlo hG e

end Go.Proofs.YtkgddbcjmejfaaaGreatDoor.Vp

/-
  Why, impl: the actions that are known under each name: number.
-/
namespace Go.Proofs.YtkgddbcjmejfaaaGreatDoor.Vp
open Go.RowKit Go.Maps

/-- An action. -/
abbrev KAct := Nat × (Nat → Ins)
def sameA (q p : KAct) : Bool := codeB q.2 p.2 q.1 p.1
/-- Its number among those that are known. -/
def numOf (ps : List KAct) (p : KAct) : Nat := ps.findIdx fun q => sameA q p
def kputL (ps : List KAct) (p : KAct) : List KAct := if numOf ps p < ps.length then ps else ps ++ [p]
def kput (K : List UInt8 → List KAct) (s0 : List UInt8) (p : KAct) : List UInt8 → List KAct := fun s => if s = s0 then kputL (K s) p else K s
theorem numOf_le (ps : List KAct) (p : KAct) : numOf ps p ≤ ps.length := List.findIdx_le_length
theorem numOf_here {ps : List KAct} {p q : KAct} {k : Nat} (hq : ps[k]? = some q) (hs : sameA q p = true) (hb : ∀ j r, j < k → ps[j]? = some r → sameA r p = false) : numOf ps p = k := by
  obtain ⟨hk, rfl⟩ := List.getElem?_eq_some_iff.1 hq
  refine (List.findIdx_eq hk).2 ⟨hs, fun j hj => ?_⟩
  exact hb j _ hj (List.getElem?_eq_getElem (by omega))
theorem numOf_none {ps : List KAct} {p : KAct} (hb : ∀ j r, j < ps.length → ps[j]? = some r → sameA r p = false) : numOf ps p = ps.length := by
  refine List.findIdx_eq_length_of_false fun q hq => ?_
  obtain ⟨j, hj, rfl⟩ := List.mem_iff_getElem.1 hq
  exact hb j _ hj (List.getElem?_eq_getElem hj)

/-- All but the map kb and rows of programs stands as it stood; below B all does. -/
structure KA (B kb : Nat) (w w' : World) : Prop where
  below : Below B w w'
  blk : ∀ i, i < w.heap.size → i ≠ kb → (∀ cs fz, w.heap[i]? ≠ some (.cells cs 48 fz)) → w'.heap[i]? = w.heap[i]?
theorem KA.refl (B kb : Nat) (w : World) : KA B kb w w := ⟨Below.refl _ _, fun _ _ _ _ => rfl⟩
theorem KA.trans {B kb : Nat} {w w' w'' : World} (h : KA B kb w w') (k : KA B kb w' w'') : KA B kb w w'' :=
  ⟨h.below.trans k.below, fun i hi hk hm => by
    have h1 := h.blk i hi hk hm
    rw [← h1]
    exact k.blk i (Nat.lt_of_lt_of_le hi h.below.size) hk (fun es c => by rw [h1]; exact hm es c)⟩
theorem KA.of_below {B kb C : Nat} {w w' : World} (h : Below C w w') (hC : w.heap.size ≤ C) (hB : B ≤ w.heap.size) : KA B kb w w' :=
  ⟨h.mono (Nat.le_trans hB hC), fun i hi _ _ => h.block i (Nat.lt_of_lt_of_le hi hC)⟩
theorem KA.of_grown {B kb : Nat} {row : Option Nat} {w w' : World} (h : w.grownBy w' row) (hB : B ≤ w.heap.size) (hr : ∀ j, row = some j → B ≤ j ∧ (j = kb ∨ ∃ cs fz, w.heap[j]? = some (.cells cs 48 fz))) : KA B kb w w' :=
  ⟨below_of_grown h hB (fun j hj => (hr j hj).1), fun i hi hk hm => h.block i hi (fun e => by
    rcases (hr i e.symm).2 with h1 | ⟨cs, fz, h1⟩
    · exact hk h1
    · exact hm cs fz h1)⟩
theorem KA.cell {B kb : Nat} {w w' : World} (h : KA B kb w w') {p : Addr} {cs : Array Value} {t : TypeId} {fz : Nat × Nat} (ht : t ≠ 48) (hb : w.heap[p.block]? = some (.cells cs t fz)) (hk : p.block ≠ kb) : w'.cell? p = w.cell? p := by
  have hlt : p.block < w.heap.size := (Array.getElem?_eq_some_iff.1 hb).1
  exact World.cell?_of_block (h.blk _ hlt hk fun cs fz e => by rw [hb] at e; simp at e; exact ht e.2.1)

/-- What is known, and where it lies. w0: ahead of it all. -/
structure ActsV (w0 w : World) (kb n : Nat) (V : List UInt8 → Value) (K : List UInt8 → List KAct) : Prop where
  map : MapN w kb n (fun s => if (K s).isEmpty = true then none else some (V s))
  ge : w0.heap.size ≤ kb
  row : ∀ s, ∃ cs, w.ownsRow w0.heap.size 48 1 (V s) (K s).length cs ∧ ∀ (i : Nat) (p : KAct), (K s)[i]? = some p → ∃ a c, cs[i]? = some (Value.slice a p.1 c) ∧ SlIns w0 a p.1 p.2 ∧ p.1 ≤ 1048576
  nil : ∀ s, (K s).isEmpty = true → V s = .slice none 0 0
  len : ∀ s, (K s).length ≤ n
  inj : ∀ s s' g, (V s).ownBlock = some g → (V s').ownBlock = some g → s = s'
def Acts (w0 w : World) (kb n : Nat) (K : List UInt8 → List KAct) : Prop := ∃ V, ActsV w0 w kb n V K
theorem wa_ty {w : World} {base size n : Nat} {e : TypeId} {v : Value} {xs : List Value} (h : w.ownsRow base e size v n xs) : ∀ k, v.ownBlock = some k → base ≤ k ∧ k < w.heap.size ∧ ∃ cs fz, w.heap[k]? = some (.cells cs e fz) := by
  intro k hk
  rcases h.2 with ⟨rfl, _⟩ | ⟨g, cap, cur, rfl, hb, hg, _⟩
  · simp [Value.ownBlock] at hk
  · simp [Value.ownBlock] at hk
    subst hk
    exact ⟨hb, (Array.getElem?_eq_some_iff.1 hg).1, cur, _, hg⟩
theorem wa_blk {w w' : World} {base size n : Nat} {e : TypeId} {v : Value} {xs : List Value} (h : w.ownsRow base e size v n xs) (hb : ∀ k, v.ownBlock = some k → w'.heap[k]? = w.heap[k]?) : w'.ownsRow base e size v n xs := by
  refine ⟨h.1, ?_⟩
  rcases h.2 with hn | ⟨g, cap, cur, rfl, hb', hgg, rest⟩
  · exact .inl hn
  · exact .inr ⟨g, cap, cur, rfl, hb', (hb g rfl).trans hgg, rest⟩
theorem wa_slice {w : World} {base size n : Nat} {e : TypeId} {v : Value} {xs : List Value} (h : w.ownsRow base e size v n xs) : ∃ a cap, v = .slice a n cap := by
  rcases h.2 with ⟨h1, h2⟩ | ⟨g, c, cur, h1, _⟩
  · exact ⟨none, 0, by rw [h1, h2]⟩
  · exact ⟨_, _, h1⟩
theorem acts_new (w : World) : Acts w (w.alloc (.map #[] 0)) w.heap.size 0 (fun _ => []) :=
  ⟨fun _ => .slice none 0 0, (mapN_new w).congr fun s => by simp, Nat.le_refl _, fun s => ⟨[], World.ownsRow_nil _ _ _ _, fun i p h => by simp at h⟩, fun _ _ => rfl, fun _ => Nat.le_refl _, fun _ _ _ h => by simp [Value.ownBlock] at h⟩
theorem ActsV.below {w0 w w' : World} {kb n B : Nat} {V : List UInt8 → Value} {K : List UInt8 → List KAct} (h : ActsV w0 w kb n V K) (hb : Below B w w') (hB : w.heap.size ≤ B) : ActsV w0 w' kb n V K :=
  ⟨h.map.blk (hb.block _ (Nat.lt_of_lt_of_le h.map.lt hB)), h.ge, fun s => by
    obtain ⟨cs, h1, h2⟩ := h.row s
    exact ⟨cs, own_below h1 hb hB, h2⟩, h.nil, h.len, h.inj⟩
theorem ActsV.km {w0 w w' : World} {lo kb n : Nat} {V : List UInt8 → Value} {K : List UInt8 → List KAct} (h : ActsV w0 w kb n V K) (hk : KM lo w w') (hkb : kb < lo) : ActsV w0 w' kb n V K :=
  ⟨h.map.blk (hk.below.block _ hkb), h.ge, fun s => by
    obtain ⟨cs, h1, h2⟩ := h.row s
    exact ⟨cs, wa_blk h1 (fun k hk' => by
      obtain ⟨_, h4, cs', fz, h5⟩ := wa_ty h1 k hk'
      exact hk.blk k h4 (fun es c e => by rw [h5] at e; cases e)), h2⟩, h.nil, h.len, h.inj⟩
theorem Acts.km {w0 w w' : World} {lo kb n : Nat} {K : List UInt8 → List KAct} (h : Acts w0 w kb n K) (hk : KM lo w w') (hkb : kb < lo) : Acts w0 w' kb n K := h.elim fun V hV => ⟨V, hV.km hk hkb⟩
theorem Acts.below {w0 w w' : World} {kb n B : Nat} {K : List UInt8 → List KAct} (h : Acts w0 w kb n K) (hb : Below B w w') (hB : w.heap.size ≤ B) : Acts w0 w' kb n K := h.elim fun V hV => ⟨V, hV.below hb hB⟩
theorem ActsV.mono {w0 w : World} {kb n n' : Nat} {V : List UInt8 → Value} {K : List UInt8 → List KAct} (h : ActsV w0 w kb n V K) (hn : n ≤ n') : ActsV w0 w kb n' V K :=
  ⟨h.map.mono hn, h.ge, h.row, h.nil, fun s => Nat.le_trans (h.len s) hn, h.inj⟩
theorem Acts.mono {w0 w : World} {kb n n' : Nat} {K : List UInt8 → List KAct} (h : Acts w0 w kb n K) (hn : n ≤ n') : Acts w0 w kb n' K := h.elim fun V hV => ⟨V, hV.mono hn⟩
theorem Acts.lt {w0 w : World} {kb n : Nat} {K : List UInt8 → List KAct} (h : Acts w0 w kb n K) : kb < w.heap.size := by obtain ⟨_, hV⟩ := h; exact hV.map.lt
theorem ActsV.look {w0 w : World} {kb n : Nat} {V : List UInt8 → Value} {K : List UInt8 → List KAct} (h : ActsV w0 w kb n V K) (s : List UInt8) : (if (K s).isEmpty = true then none else some (V s) : Option Value).getD (.slice none 0 0) = V s := by
  by_cases e : (K s).isEmpty = true
  · rw [if_pos e, h.nil s e]; rfl
  · rw [if_neg e]; rfl
theorem kput_same {K : List UInt8 → List KAct} {s : List UInt8} {p : KAct} (h : numOf (K s) p < (K s).length) : kput K s p = K := by
  funext s'
  unfold kput
  by_cases e : s' = s
  · rw [if_pos e, e, kputL, if_pos h]
  · rw [if_neg e]

/-- Behind an append. -/
theorem ActsV.put {w0 w w' : World} {kb n : Nat} {V : List UInt8 → Value} {K : List UInt8 → List KAct} {s0 : List UInt8} {p : KAct} {v' : Value} {cs : List Value} {a : Option Addr} {c : Nat} (h : ActsV w0 w kb n V K) (hnum : numOf (K s0) p = (K s0).length)
    (hm : MapN w' kb (n + 1) (fun s => if s = s0 then some v' else if (K s).isEmpty = true then none else some (V s)))
    (hcs : ∀ (i : Nat) (p : KAct), (K s0)[i]? = some p → ∃ a c, cs[i]? = some (Value.slice a p.1 c) ∧ SlIns w0 a p.1 p.2 ∧ p.1 ≤ 1048576) (hlen : cs.length = (K s0).length)
    (hown : w'.ownsRow w0.heap.size 48 1 v' ((K s0).length + 1) (cs ++ [.slice a p.1 c])) (hp : p.1 ≤ 1048576) (hI : SlIns w0 a p.1 p.2)
    (hkept : ∀ s, s ≠ s0 → ∀ g, (V s).ownBlock = some g → w'.heap[g]? = w.heap[g]?) (hat : ∀ g, v'.ownBlock = some g → (V s0).ownBlock = some g ∨ w.heap.size ≤ g) : Acts w0 w' kb (n + 1) (kput K s0 p) := by
  have hK0 : kput K s0 p s0 = K s0 ++ [p] := by unfold kput kputL; rw [if_pos rfl, if_neg (by omega)]
  have hKo : ∀ s, s ≠ s0 → kput K s0 p s = K s := fun s hs => by unfold kput; rw [if_neg hs]
  refine ⟨fun s => if s = s0 then v' else V s, hm.congr fun s => ?_, h.ge, fun s => ?_, fun s hs => ?_, fun s => ?_, fun s s' g h1 h2 => ?_⟩
  · by_cases e : s = s0
    · rw [e, hK0, if_pos rfl, if_neg (by simp), if_pos rfl]
    · rw [if_neg e, hKo s e, if_neg e]
  · by_cases e : s = s0
    · rw [e, hK0, if_pos rfl]
      refine ⟨cs ++ [.slice a p.1 c], by simpa using hown, fun i q hq => ?_⟩
      rcases Nat.lt_or_ge i (K s0).length with hi | hi
      · rw [List.getElem?_append_left hi] at hq
        obtain ⟨a', c', h1, h2⟩ := hcs i q hq
        exact ⟨a', c', by rw [List.getElem?_append_left (by omega)]; exact h1, h2⟩
      · rw [List.getElem?_append_right hi] at hq
        rw [List.getElem?_append_right (by omega), hlen]
        obtain ⟨j, hj⟩ : ∃ j, i - (K s0).length = j := ⟨_, rfl⟩
        rw [hj] at hq ⊢
        cases j with
        | zero =>
          simp at hq
          subst hq
          exact ⟨a, c, rfl, hI, hp⟩
        | succ j => simp at hq
    · rw [if_neg e, hKo s e]
      obtain ⟨cs', h1, h2⟩ := h.row s
      exact ⟨cs', wa_blk h1 (hkept s e), h2⟩
  · by_cases e : s = s0
    · rw [e, hK0] at hs
      simp at hs
    · rw [if_neg e]
      rw [hKo s e] at hs
      exact h.nil s hs
  · by_cases e : s = s0
    · rw [e, hK0]
      have := h.len s0
      simp
      omega
    · rw [hKo s e]
      have := h.len s
      omega
  · have hold : ∀ s, s ≠ s0 → ∀ g, (V s).ownBlock = some g → v'.ownBlock = some g → False := fun s hs g h1 h2 => by
      rcases hat g h2 with h3 | h3
      · exact hs (h.inj s s0 g h1 h3)
      · obtain ⟨_, h4, _⟩ := h.row s
        have := (wa_ty (h.row s).choose_spec.1 g h1).2.1
        omega
    by_cases e : s = s0 <;> by_cases e' : s' = s0
    · rw [e, e']
    · rw [if_pos e] at h1
      rw [if_neg e'] at h2
      exact (hold s' e' g h2 h1).elim
    · rw [if_neg e] at h1
      rw [if_pos e'] at h2
      exact (hold s e g h1 h2).elim
    · rw [if_neg e] at h1
      rw [if_neg e'] at h2
      exact h.inj s s' g h1 h2

theorem infoProg : (Tryz.prog.info? 48).map (fun i => (i.zero, i.size, i.bytes)) = some (some (.agg #[.slice none 0 0]), 1, 24) := by kernel_rfl
theorem zeroProgS (w : World) : (zeroValue 146).run Tryz.prog w = .ok (.slice none 0 0) w := by kernel_rfl

end Go.Proofs.YtkgddbcjmejfaaaGreatDoor.Vp

/-
  Why, impl: number.
-/
namespace Go.Proofs.YtkgddbcjmejfaaaGreatDoor.Vp
open Go.RowKit Go.Maps

set_option maxRecDepth 100000 in
set_option maxHeartbeats 4000000 in
theorem number_v (w0 : World) (kb n : Nat) (V : List UInt8 → Value) (K : List UInt8 → List KAct) (name : ByteArray) (p : KAct) (a : Option Addr) (c : Nat) (w : World) (hn : (n : Int) ≤ 1000000) (hsz : name.size ≤ maxLen) (hp : p.1 ≤ 1048576) (hb : Below w0.heap.size w0 w) (hI : SlIns w0 a p.1 p.2) (h : ActsV w0 w kb n V K) :
    Calls Tryz.prog 70 #[.map (some kb), .string name, .agg #[.slice a p.1 c]] w fun e w' => e = .returned (.int .i64 (numOf (K name.toList) p : Nat)) ∧ Acts w0 w' kb (n + 1) (kput K name.toList p) ∧ KA w0.heap.size kb w w' := by
  obtain ⟨i0, hi, hy0, hy1, hy2⟩ := info_parts infoProg
  have B0 := hide ((Below.refl w.heap.size w).alloc (Nat.le_refl _) (.cells #[.slice a p.1 c] 48))
  have H0 := hide (h.below B0.out (Nat.le_refl _))
  have C0 := hide (hb.trans (B0.out.mono hb.size))
  have X0 := hide (show (w.alloc (.cells #[.slice a p.1 c] 48)).cell? ⟨w.heap.size, 0, none⟩ = some (.slice a p.1 c) by simp [go_sem])
  have E0 := hide (show w.heap.size < (w.alloc (.cells #[.slice a p.1 c] 48)).heap.size by simp)
  have K0 := hide (KA.of_below (B := w0.heap.size) (kb := kb) B0.out (Nat.le_refl _) hb.size)
  obtain ⟨cs, hcs1, hcs2⟩ := H0.out.row name.toList
  obtain ⟨a0, c0, hv⟩ := wa_slice hcs1
  rw [hv] at hcs1
  obtain ⟨ps, hps⟩ : ∃ ps, K name.toList = ps := ⟨_, rfl⟩
  have HV := hide ((H0.out.look name.toList).trans (hv.trans (show Value.slice a0 (K name.toList).length c0 = .slice a0 ps.length c0 by rw [hps])))
  have HV2 := hide (hv.trans (show Value.slice a0 (K name.toList).length c0 = .slice a0 ps.length c0 by rw [hps]))
  have HO := hide hcs1
  have HC := hide hcs2
  have HL := hide (show cs.length = (K name.toList).length by have := hcs1.1; omega)
  have HI := hide hI
  have hln : ((K name.toList).length : Int) ≤ 1000000 := by have := h.len name.toList; omega
  have HN := hide (show n < maxLen by unfold maxLen; omega)
  clear h hcs1 hcs2 hv hb hI
  have hz := zeroProgS
  have HP := hide hps
  rw [hps] at HO HC hln HL
  clear hps
  go_enter Tryz.func70, Tryz.ntmps70
  go_wp2_with (first
    | (at_lookup; generalize w.alloc (.cells #[.slice a p.1 c] 48) = W at B0 H0 C0 X0 E0 K0 HO ⊢; generalize w.heap.size = bx at X0 E0 ⊢; refine wpN_lookup _ rfl _ _ 72 rfl 146 Tryz.underlying72 (hz _) kb n _ rfl H0.out.map name rfl hsz (.slice a0 ps.length c0) HV.out ?_)
    | go_in)
  go_loopw [13] (fun i wr => ∃ k : Nat, k ≤ ps.length ∧ i = .int .i64 k ∧ Hid (∀ j r, j < k → ps[j]? = some r → sameA r p = false) ∧ Hid (Below W.heap.size W wr)) (fun i _ => ps.length - (intOf i).toNat)
  case atStart => exact ⟨0, Nat.zero_le _, rfl, fun j r hj => absurd hj (Nat.not_lt_zero _), Below.refl _ _⟩
  case round =>
    obtain ⟨k, hk, rfl, HK, HB⟩ := hrel
    by_cases hlt : k < ps.length
    · obtain ⟨g, c1, e⟩ := own_form HO.out (by omega)
      cases e
      obtain ⟨q, hq⟩ : ∃ q, ps[k]? = some q := ⟨_, List.getElem?_eq_getElem hlt⟩
      obtain ⟨a1, c2, hc1, hI1, hq1⟩ := HC.out k q hq
      have hcell : wr.cell? ⟨g, k, none⟩ = some (.slice a1 q.1 c2) := by
        have h1 := HO.out.cells (g := g) rfl k _ hc1
        have ha : (⟨g, 0, none⟩ : Addr).add k = ⟨g, 0 + k, none⟩ := by unfold Addr.add; split <;> simp_all
        rw [ha, Nat.zero_add] at h1
        exact (HB.out.cell (p := ⟨g, k, none⟩) (wa_ty HO.out g rfl).2.1).trans h1
      have hbx : (wr.alloc (.cells #[.slice a1 q.1 c2] 48)).cell? ⟨bx, 0, none⟩ = some (.slice a p.1 c) := ((HB.out.alloc HB.out.size _).cell (p := ⟨bx, 0, none⟩) E0.out).trans X0.out
      have D1 := hide (C0.out.trans ((HB.out.alloc HB.out.size (.cells #[.slice a1 q.1 c2] 48)).mono C0.out.size))
      have I1 := hide hI1
      have Q1 := hide hq
      clear hI1 hc1 hq
      have hlt2 : (k : Int) < ps.length := by omega
      go_wp2_with (go_at_call 87; refine (equalIns_any a1 q.1 c2 q.2 a p.1 c p.2 _ hq1 hp (I1.out.below D1.out (Nat.le_refl _)) (HI.out.below D1.out (Nat.le_refl _))).mono ?_; rintro e w2 ⟨rfl, m, rfl⟩)
      · rename_i hs
        go_ret
        have hnum : numOf (K name.toList) p = k := by rw [HP.out]; exact numOf_here Q1.out hs HK.out
        have hBm := below_drewN (HB.out.alloc HB.out.size (.cells #[.slice a1 q.1 c2] 48)) m
        refine ⟨by rw [hnum]; rfl, ?_, K0.out.trans (KA.of_below hBm (Nat.le_refl _) C0.out.size)⟩
        rw [kput_same (by rw [hnum, HP.out]; exact hlt)]
        exact ⟨V, (H0.out.below hBm (Nat.le_refl _)).mono (Nat.le_succ n)⟩
      · rename_i hs
        have hBm := below_drewN (HB.out.alloc HB.out.size (.cells #[.slice a1 q.1 c2] 48)) m
        refine ⟨⟨k + 1, by omega, by go_num, fun j r hj hr => ?_, hBm⟩, by simp [intOf]; omega⟩
        by_cases e : j = k
        · subst e
          rw [Q1.out] at hr
          cases hr
          exact hs
        · exact HK.out j r (by omega) hr
    · obtain rfl : k = ps.length := by omega
      have A1 := hide (H0.out.below HB.out (Nat.le_refl _))
      have hbx : wr.cell? ⟨bx, 0, none⟩ = some (.slice a p.1 c) := (HB.out.cell (p := ⟨bx, 0, none⟩) E0.out).trans X0.out
      have O1 := hide ((own_below HO.out HB.out (Nat.le_refl _)).alloc (.cells #[.slice a p.1 c] 48))
      have A2 := hide (A1.out.below ((Below.refl wr.heap.size wr).alloc (Nat.le_refl _) (.cells #[.slice a p.1 c] 48)) (Nat.le_refl _))
      have D1 := hide (C0.out.trans (HB.out.mono C0.out.size))
      have hw0 : w0.heap.size ≤ (wr.alloc (.cells #[.slice a p.1 c] 48)).heap.size := by have := D1.out.size; simp; omega
      go_wp2_with (first
        | (at_lookup; refine wpN_lookup _ rfl _ _ 72 rfl 146 Tryz.underlying72 (hz _) kb n _ rfl A1.out.map name rfl hsz (.slice a0 ps.length c0) HV.out ?_)
        | (at_builtin; refine wpList_append_own_at _ rfl (.tmp 29) (.tmp 31) 146 rfl w0.heap.size 48 i0 (.agg #[.slice none 0 0]) 1 24 Tryz.underlying146 hi hy0 hy1 hy2 rfl (by decide) (.slice a0 ps.length c0) ps.length cs (by simp [Act.eval]) O1.out ⟨wr.heap.size, 0, none⟩ 1 1 [.slice a p.1 c] (by simp [Act.eval]) rfl (cell_one_new _ _ _) (by simp [Value.oneCell']) (by unfold maxLen; omega) (by omega) hw0 ?_; intro v' w2 hown' hgrow hnil hat; obtain ⟨a3, c3, rfl⟩ := wa_slice hown'; have O2 := hide hown'; have G2 := hide hgrow; have AT := hide hat; clear hown' hgrow hat hnil; have N2 := hide (A2.out.map.blk (G2.out.block kb A2.out.map.lt (fun e => by obtain ⟨_, _, cs', fz, h5⟩ := wa_ty O1.out kb e.symm; obtain ⟨es, cl, h6⟩ := A2.out.map.isMap; rw [h5] at h6; cases h6))))
        | (at_mapUpdate; refine wpN_update _ rfl _ _ _ 72 rfl 146 Tryz.underlying72 kb n _ rfl N2.out HN.out name (.slice a3 (ps.length + 1) c3) rfl rfl hsz ?_; intro w3 hM3 hg3; have M3 := hide hM3; have G3 := hide hg3; clear hM3 hg3)
        | (at_lookup; refine wpN_lookup _ rfl _ _ 72 rfl 146 Tryz.underlying72 (hz _) kb (n + 1) _ rfl M3.out name rfl hsz (.slice a3 (ps.length + 1) c3) (by rw [if_pos rfl]; rfl) ?_)
        | go_in)
      go_ret
      have hnum : numOf (K name.toList) p = (K name.toList).length := by rw [HP.out]; exact numOf_none HK.out
      have hkb := A2.out.map.lt
      have hV : ∀ g, (V name.toList).ownBlock = some g → (Value.slice a0 ps.length c0).ownBlock = some g := fun g hg => by rw [← HV2.out]; exact hg
      have hold : ∀ s g, (V s).ownBlock = some g → g < (wr.alloc (.cells #[.slice a p.1 c] 48)).heap.size ∧ g ≠ kb := fun s g hg => by
        obtain ⟨cs', h1, _⟩ := A2.out.row s
        obtain ⟨_, h3, cs'', fz, h4⟩ := wa_ty h1 g hg
        exact ⟨h3, fun e => by obtain ⟨es, cl, h6⟩ := A2.out.map.isMap; rw [← e, h4] at h6; cases h6⟩
      refine ⟨by rw [hnum, HP.out]; go_num, A2.out.put (v' := .slice a3 (ps.length + 1) c3) (cs := cs) (a := a) (c := c) hnum M3.out (by rw [HP.out]; exact HC.out) (by rw [HP.out]; exact HL.out) ?_ hp HI.out (fun s hs g hg => ?_) (fun g hg => ?_), K0.out.trans ((KA.of_below HB.out (Nat.le_refl _) C0.out.size).trans ((KA.of_below ((Below.refl wr.heap.size wr).alloc (Nat.le_refl _) _) (Nat.le_refl _) D1.out.size).trans ((KA.of_grown G2.out hw0 (fun j hj => ?_)).trans (KA.of_grown G3.out (Nat.le_trans hw0 G2.out.size) (fun j hj => ?_)))))⟩
      · rw [HP.out]
        refine wa_blk O2.out fun g hg => G3.out.block g (wa_ty O2.out g hg).2.1 (fun e => ?_)
        obtain ⟨_, _, cs', fz, h5⟩ := wa_ty O2.out g hg
        obtain ⟨es, cl, h6⟩ := N2.out.isMap
        cases e
        rw [h5] at h6
        cases h6
      · obtain ⟨h1, h2⟩ := hold s g hg
        rw [G3.out.block g (Nat.lt_of_lt_of_le h1 G2.out.size) (fun e => h2 (by cases e; rfl)), G2.out.block g h1 (fun e => hs (A2.out.inj _ _ g hg (by rw [HV2.out]; exact e.symm)))]
      · rcases AT.out with h | h
        · exact .inl (by rw [HV2.out, ← h]; exact hg)
        · rw [h] at hg
          cases hg
          exact .inr (Nat.le_refl _)
      · obtain ⟨h1, h2, cs', fz, h3⟩ := wa_ty O1.out j hj
        exact ⟨h1, .inr ⟨cs', fz, h3⟩⟩
      · cases hj
        exact ⟨A2.out.ge, .inl rfl⟩

theorem number_any (w0 : World) (kb n : Nat) (K : List UInt8 → List KAct) (name : ByteArray) (p : KAct) (a : Option Addr) (c : Nat) (w : World) (hn : (n : Int) ≤ 1000000) (hsz : name.size ≤ maxLen) (hp : p.1 ≤ 1048576) (hb : Below w0.heap.size w0 w) (hI : SlIns w0 a p.1 p.2) (h : Acts w0 w kb n K) :
    Calls Tryz.prog 70 #[.map (some kb), .string name, .agg #[.slice a p.1 c]] w fun e w' => e = .returned (.int .i64 (numOf (K name.toList) p : Nat)) ∧ Acts w0 w' kb (n + 1) (kput K name.toList p) ∧ KA w0.heap.size kb w w' := by
  obtain ⟨V, hV⟩ := h
  exact number_v w0 kb n V K name p a c w hn hsz hp hb hI hV

end Go.Proofs.YtkgddbcjmejfaaaGreatDoor.Vp

/-
  Why, impl: byDeed, byLook.
-/
namespace Go.Proofs.YtkgddbcjmejfaaaGreatDoor.Vp
open Go.RowKit Go.Maps

def dTold (K : List UInt8 → List KAct) (d : Deed) : Told := if d.kind = 1 then ⟨1, d.text, 0⟩ else if d.kind = 3 then ⟨3, ⟨#[]⟩, (numOf (K d.name.toList) (d.actN, d.act) : Nat)⟩ else ⟨2, ⟨#[]⟩, 0⟩
def dActs (K : List UInt8 → List KAct) (d : Deed) : List UInt8 → List KAct := if d.kind = 3 then kput K d.name.toList (d.actN, d.act) else K
def lTold (l : Link) : Told := ⟨if l.has = true then 0 else 2, ⟨#[]⟩, 0⟩
theorem lTold_ok (l : Link) : TOk (lTold l) := by
  unfold lTold
  cases l.has
  · exact ⟨show (Lit.int .i64 2).wf = true by decide, Nat.zero_le _, show (Lit.int .i64 0).wf = true by decide⟩
  · exact ⟨show (Lit.int .i64 0).wf = true by decide, Nat.zero_le _, show (Lit.int .i64 0).wf = true by decide⟩
theorem dTold_ok {w0 w : World} {kb n : Nat} {K : List UInt8 → List KAct} {d : Deed} (h : Acts w0 w kb n K) (hn : (n : Int) ≤ 1000000) (ht : d.text.size ≤ maxLen) : TOk (dTold K d) := by
  obtain ⟨V, hV⟩ := h
  unfold dTold
  split
  · exact ⟨show (Lit.int .i64 1).wf = true by decide, ht, show (Lit.int .i64 0).wf = true by decide⟩
  · split
    · refine ⟨show (Lit.int .i64 3).wf = true by decide, Nat.zero_le _, ?_⟩
      have h1 := numOf_le (K d.name.toList) (d.actN, d.act)
      have h2 := hV.len d.name.toList
      show (Lit.int .i64 ((numOf (K d.name.toList) (d.actN, d.act) : Nat) : Int)).wf = true
      exact WalkArith.wf_i64 (by constructor <;> omega)
    · exact ⟨show (Lit.int .i64 2).wf = true by decide, Nat.zero_le _, show (Lit.int .i64 0).wf = true by decide⟩
theorem ActsV.blk {w0 w w' : World} {kb n : Nat} {V : List UInt8 → Value} {K : List UInt8 → List KAct} (h : ActsV w0 w kb n V K) (hb : ∀ i, i < w.heap.size → ((∃ es c, w.heap[i]? = some (.map es c)) ∨ ∃ cs fz, w.heap[i]? = some (.cells cs 48 fz)) → w'.heap[i]? = w.heap[i]?) : ActsV w0 w' kb n V K :=
  ⟨h.map.blk (hb _ h.map.lt (.inl h.map.isMap)), h.ge, fun s => by
    obtain ⟨cs, h1, h2⟩ := h.row s
    exact ⟨cs, wa_blk h1 (fun k hk' => by
      obtain ⟨_, h4, h5⟩ := wa_ty h1 k hk'
      exact hb k h4 (.inr h5)), h2⟩, h.nil, h.len, h.inj⟩
theorem Acts.but {w0 w w' : World} {kb n b : Nat} {K : List UInt8 → List KAct} (h : Acts w0 w kb n K) {cs : Array Value} {t : TypeId} {fz : Nat × Nat} (hp : w.heap[b]? = some (.cells cs t fz)) (ht : t ≠ 48) (hk : ∀ i, i ≠ b → w'.heap[i]? = w.heap[i]?) : Acts w0 w' kb n K :=
  h.elim fun V hV => ⟨V, hV.blk fun i _ hi => hk i (fun e => by
    subst e
    rcases hi with ⟨es, c, h1⟩ | ⟨cs', fz', h1⟩
    · rw [hp] at h1; cases h1
    · rw [hp] at h1; simp at h1; exact ht h1.2.1)⟩
theorem KA.then_below {B kb : Nat} {w w' w'' : World} (h : KA B kb w w') (hB : B ≤ w.heap.size) (k : Below w.heap.size w' w'') : KA B kb w w'' :=
  ⟨h.below.trans (k.mono hB), fun i hi hk hm => (k.block i hi).trans (h.blk i hi hk hm)⟩

set_option maxRecDepth 100000 in
set_option maxHeartbeats 2000000 in
theorem byLook_any (l : Link) (w : World) :
    Calls Tryz.prog 52 #[.agg #[.string l.name, .bool l.ask, .bool l.has, .int .i64 l.at_]] w fun e w' => e = .returned (tv (lTold l)) ∧ Below w.heap.size w w' := by
  unfold lTold tv
  cases hh : l.has with
  | true =>
    have A0 := hide (((Below.refl w.heap.size w).alloc (Nat.le_refl _) (.cells #[.string l.name, .bool l.ask, .bool true, .int .i64 l.at_] 98)).alloc (by simp) (.cells #[.int .i64 0, .string ⟨#[]⟩, .int .i64 0] 104))
    go_enter Tryz.func52, Tryz.ntmps52
    go_wp2
    refine bodyPost_ret (v := .agg #[.int .i64 0, .string ⟨#[]⟩, .int .i64 0]) (by simp [results, Tryz.results52, go_sem]) rfl ⟨rfl, A0.out⟩
  | false =>
    have A0 := hide (((Below.refl w.heap.size w).alloc (Nat.le_refl _) (.cells #[.string l.name, .bool l.ask, .bool false, .int .i64 l.at_] 98)).alloc (by simp) (.cells #[.int .i64 2, .string ⟨#[]⟩, .int .i64 0] 104))
    go_enter Tryz.func52, Tryz.ntmps52
    go_wp2
    refine bodyPost_ret (v := .agg #[.int .i64 2, .string ⟨#[]⟩, .int .i64 0]) (by simp [results, Tryz.results52, go_sem]) rfl ⟨rfl, A0.out⟩

set_option maxRecDepth 100000 in
set_option maxHeartbeats 4000000 in
theorem byDeed_any (w0 : World) (kb n : Nat) (K : List UInt8 → List KAct) (d : Deed) (a0 : Option Addr) (c0 : Nat) (a1 : Option Addr) (c1 : Nat) (w : World) (hn : (n : Int) ≤ 1000000) (hsz : d.name.size ≤ maxLen) (hp : d.actN ≤ 1048576) (hb : Below w0.heap.size w0 w) (hI : SlIns w0 a0 d.actN d.act) (h : Acts w0 w kb n K) :
    Calls Tryz.prog 51 #[.map (some kb), .agg #[.string d.name, .int .i64 d.kind, .int .i64 d.code, .string d.text, .slice a0 d.actN c0, .slice a1 d.linksN c1]] w fun e w' => e = .returned (tv (dTold K d)) ∧ Acts w0 w' kb (n + 1) (dActs K d) ∧ KA w0.heap.size kb w w' := by
  have A0 := hide (((Below.refl w.heap.size w).alloc (Nat.le_refl _) (.cells #[.string d.name, .int .i64 d.kind, .int .i64 d.code, .string d.text, .slice a0 d.actN c0, .slice a1 d.linksN c1] 51)))
  have H := hide h
  have HI := hide hI
  have HB := hide hb
  have hw0 := hide hb.size
  clear h hI hb
  by_cases k1 : d.kind = 1
  · have HT := hide (show dTold K d = ⟨1, d.text, 0⟩ by unfold dTold; rw [if_pos k1])
    have HA := hide (show dActs K d = K by unfold dActs; rw [if_neg (by omega)])
    rw [HT.out, HA.out]
    rw [k1] at A0 ⊢
    have A1 := hide (A0.out.alloc (by simp) (.cells #[.int .i64 1, .string d.text, .int .i64 0] 104))
    clear k1
    go_enter Tryz.func51, Tryz.ntmps51
    go_wp2
    refine bodyPost_ret (v := .agg #[.int .i64 1, .string d.text, .int .i64 0]) (by simp [results, Tryz.results51, go_sem]) rfl ⟨rfl, (H.out.below A1.out (Nat.le_refl _)).mono (Nat.le_succ n), KA.of_below A1.out (Nat.le_refl _) hw0.out⟩
  · by_cases k3 : d.kind = 3
    · have HT := hide (show dTold K d = ⟨3, ⟨#[]⟩, (numOf (K d.name.toList) (d.actN, d.act) : Nat)⟩ by unfold dTold; rw [if_neg k1, if_pos k3])
      have HA := hide (show dActs K d = kput K d.name.toList (d.actN, d.act) by unfold dActs; rw [if_pos k3])
      rw [HT.out, HA.out]
      rw [k3] at A0 ⊢
      have A1 := hide (A0.out.alloc (by simp) (.cells #[.int .i64 0, .string ⟨#[]⟩, .int .i64 0] 104))
      clear k1 k3
      have Bx := hide (show ((w.alloc (.cells #[.string d.name, .int .i64 3, .int .i64 d.code, .string d.text, .slice a0 d.actN c0, .slice a1 d.linksN c1] 51)).alloc (.cells #[.int .i64 0, .string ⟨#[]⟩, .int .i64 0] 104)).heap[w.heap.size + 1]? = some (.cells #[.int .i64 0, .string ⟨#[]⟩, .int .i64 0] 104 (0, 0)) by
        have := (MapKept.heap_alloc (w.alloc (.cells #[.string d.name, .int .i64 3, .int .i64 d.code, .string d.text, .slice a0 d.actN c0, .slice a1 d.linksN c1] 51)) (.cells #[.int .i64 0, .string ⟨#[]⟩, .int .i64 0] 104)).1
        simpa using this)
      have hb4 : w.heap.size + 1 ≠ kb := fun e => by have := H.out.lt; omega
      have HQ := hide (fun (V : World) (hK : KA w0.heap.size kb ((w.alloc (.cells #[.string d.name, .int .i64 3, .int .i64 d.code, .string d.text, .slice a0 d.actN c0, .slice a1 d.linksN c1] 51)).alloc (.cells #[.int .i64 0, .string ⟨#[]⟩, .int .i64 0] 104)) V) => by
        have hbx := (hK.blk (w.heap.size + 1) (by simp) hb4 (fun cs fz e => by rw [Bx.out] at e; simp at e)).trans Bx.out
        exact (show V.heap[w.heap.size + 1]? = some (.cells #[.int .i64 0, .string ⟨#[]⟩, .int .i64 0] 104 (0, 0)) ∧ V.cell? ⟨w.heap.size + 1, 0, none⟩ = some (.int .i64 0) ∧ V.cell? ⟨w.heap.size + 1, 1, none⟩ = some (.string ⟨#[]⟩) ∧ V.cell? ⟨w.heap.size + 1, 2, none⟩ = some (.int .i64 0) ∧ V.frozen? ⟨w.heap.size + 1, 0, none⟩ = false ∧ V.frozen? ⟨w.heap.size + 1, 1, none⟩ = false ∧ V.frozen? ⟨w.heap.size + 1, 2, none⟩ = false from
          ⟨hbx, by simp [World.cell?, hbx], by simp [World.cell?, hbx], by simp [World.cell?, hbx], by simp [World.frozen?, hbx], by simp [World.frozen?, hbx], by simp [World.frozen?, hbx]⟩))
      go_enter Tryz.func51, Tryz.ntmps51
      go_wp2_with (go_at_call 70; refine (number_any w0 kb n K d.name (d.actN, d.act) a0 c0 _ hn hsz hp (HB.out.trans (A1.out.mono HB.out.size)) HI.out (H.out.below A1.out (Nat.le_refl _))).mono ?_; rintro e w2 ⟨rfl, hA2, hK2⟩; obtain ⟨hbx, r0, r1, r2, f0, f1, f2⟩ := HQ.out _ hK2; have HX := hide hbx; have HA2 := hide hA2; have HK2 := hide hK2; clear hA2 hK2 hbx)
      generalize numOf (K d.name.toList) (d.actN, d.act) = nn
      refine bodyPost_ret (v := .agg #[.int .i64 3, .string ⟨#[]⟩, .int .i64 nn]) (by simp [results, Tryz.results51, go_sem, r0, r1, r2]) rfl ⟨rfl, HA2.out.but HX.out (by decide) (fun i hi => ?_), ((KA.of_below A1.out (Nat.le_refl _) hw0.out).trans HK2.out).then_below hw0.out ⟨rfl, rfl, rfl, by simp, fun i hi => ?_⟩⟩
      · rw [Below.heap_setCell _ _ _ _ hi, Below.heap_setCell _ _ _ _ hi, Below.heap_setCell _ _ _ _ hi]
      · have hi : i ≠ w.heap.size + 1 := by omega
        rw [Below.heap_setCell _ _ _ _ hi, Below.heap_setCell _ _ _ _ hi, Below.heap_setCell _ _ _ _ hi]
    · have HT := hide (show dTold K d = ⟨2, ⟨#[]⟩, 0⟩ by unfold dTold; rw [if_neg k1, if_neg k3])
      have HA := hide (show dActs K d = K by unfold dActs; rw [if_neg k3])
      rw [HT.out, HA.out]
      have q1 : (d.kind == 1) = false := by simpa using k1
      have q3 : (d.kind == 3) = false := by simpa using k3
      have A1 := hide (A0.out.alloc (by simp) (.cells #[.int .i64 2, .string ⟨#[]⟩, .int .i64 0] 104))
      clear k1 k3
      go_enter Tryz.func51, Tryz.ntmps51
      go_wp2
      refine bodyPost_ret (v := .agg #[.int .i64 2, .string ⟨#[]⟩, .int .i64 0]) (by simp [results, Tryz.results51, go_sem]) rfl ⟨rfl, (H.out.below A1.out (Nat.le_refl _)).mono (Nat.le_succ n), KA.of_below A1.out (Nat.le_refl _) hw0.out⟩

end Go.Proofs.YtkgddbcjmejfaaaGreatDoor.Vp
