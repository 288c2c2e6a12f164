/-
  Put together of: WhPart, WhTale.
-/
import Derived.Test.YtkikpcklccdihaaGreatDoorZWhMap
import Derived.Laws.StructEq
import Derived.WalkSpells

/-
  Why, impl: goesWith, part.
-/
namespace Go.Proofs.YtkikpcklccdihaaGreatDoor.Vp
open Go.RowKit Go.Maps

def goesB (t u : Told) : Bool := if t.kind == 0 || u.kind == 0 then !(t.kind == 2) && !(u.kind == 2) else t.kind == u.kind && t.text.toList == u.text.toList && t.act == u.act

theorem eqlTold (x y : Told) (w : World) : (binOp .eql 84 (.agg #[.int .i64 x.kind, .string x.text, .int .i64 x.act]) (.agg #[.int .i64 y.kind, .string y.text, .int .i64 y.act])).run Tryz.prog w = .ok (.bool (x.kind == y.kind && x.text.toList == y.text.toList && x.act == y.act)) w := by
  have hS : Tryz.prog.underlying 84 = some (.struct (Tryz.prog.fieldsOf 84)) := by kernel_rfl
  have hp : Tryz.prog.stoodInHeld 84 = false := by kernel_rfl
  rw [run_eql_struct, show (10000 : Nat) = 9999 + 1 from rfl, run_equalIn_agg w 9999 84 _ _ hS hp]
  simp only [Program.fieldsOf, Tryz.underlying84]
  go_simp
  by_cases h1 : x.kind = y.kind <;> by_cases h2 : x.text.toList = y.text.toList <;> by_cases h3 : x.act = y.act <;> simp [h1, h2, h3]

theorem goesB_eq (k : Int) (x : ByteArray) (p : Int) (l : Int) (y : ByteArray) (q : Int) : goesB ⟨k, x, p⟩ ⟨l, y, q⟩ = if k == 0 || l == 0 then !(k == 2) && !(l == 2) else k == l && x.toList == y.toList && p == q := rfl

set_option maxRecDepth 100000 in
set_option maxHeartbeats 2000000 in
theorem goesWith_any (t u : Told) (w : World) :
    Calls Tryz.prog 37 #[.agg #[.int .i64 t.kind, .string t.text, .int .i64 t.act], .agg #[.int .i64 u.kind, .string u.text, .int .i64 u.act]] w fun e w' => e = .returned (.bool (goesB t u)) ∧ Below w.heap.size w w' := by
  have A0 := hide (((Below.refl w.heap.size w).alloc (Nat.le_refl _) (.cells #[.int .i64 t.kind, .string t.text, .int .i64 t.act] 84)).alloc (by simp) (.cells #[.int .i64 u.kind, .string u.text, .int .i64 u.act] 84))
  have hq := eqlTold t u
  obtain ⟨k, x, p⟩ := t
  obtain ⟨l, y, q⟩ := u
  have HG := hide (goesB_eq k x p l y q)
  generalize goesB ⟨k, x, p⟩ ⟨l, y, q⟩ = r at HG ⊢
  dsimp only at hq A0 ⊢
  by_cases h1 : k = 0
  · subst h1
    by_cases h2 : l = 2
    · subst h2
      have HR := hide (show r = false from HG.out)
      go_enter Tryz.func37, Tryz.ntmps37
      go_wp2
      go_ret
      exact ⟨ret_bool HR.out.symm, A0.out⟩
    · have h3 : (l == 2) = false := by simpa using h2
      have h4 : (l != 2) = true := by simpa using h2
      have HR := hide (show r = true by have := HG.out; rw [h3] at this; exact this)
      go_enter Tryz.func37, Tryz.ntmps37
      go_wp2
      go_ret
      exact ⟨ret_bool HR.out.symm, A0.out⟩
  · have h5 : (k == 0) = false := by simpa using h1
    by_cases h6 : l = 0
    · subst h6
      by_cases h2 : k = 2
      · subst h2
        have HR := hide (show r = false from HG.out)
        go_enter Tryz.func37, Tryz.ntmps37
        go_wp2
        go_ret
        exact ⟨ret_bool HR.out.symm, A0.out⟩
      · have h3 : (k == 2) = false := by simpa using h2
        have h4 : (k != 2) = true := by simpa using h2
        have HR := hide (show r = true by have := HG.out; rw [h3, h5] at this; exact this)
        go_enter Tryz.func37, Tryz.ntmps37
        go_wp2
        go_ret
        exact ⟨ret_bool HR.out.symm, A0.out⟩
    · have h7 : (l == 0) = false := by simpa using h6
      have HR := hide (show r = (k == l && x.toList == y.toList && p == q) by have := HG.out; rw [h5, h7] at this; simpa using this)
      go_enter Tryz.func37, Tryz.ntmps37
      go_wp2
      go_ret
      exact ⟨ret_bool HR.out.symm, A0.out⟩

theorem SetO.below {w w' : World} {mb : Option Nat} {n B : Nat} {S : Told → Prop} (h : SetO w mb n S) (hb : Below B w w') (hB : w.heap.size ≤ B) : SetO w' mb n S := by
  cases mb with
  | none => exact h
  | some b => exact SetT.blk h (hb.block b (Nat.lt_of_lt_of_le (SetT.lt h) hB))
theorem below_of_grown {w w' : World} {row : Option Nat} {B : Nat} (h : w.grownBy w' row) (hB : B ≤ w.heap.size) (hr : ∀ j, row = some j → B ≤ j) : Below B w w' :=
  ⟨h.os, h.tape, h.output, h.size, fun k hk => h.block k (by omega) (fun e => by have := hr k e.symm; omega)⟩

set_option maxRecDepth 100000 in
set_option maxHeartbeats 4000000 in
theorem part_any (m1 m2 : Option Nat) (n1 n2 : Nat) (S1 S2 : Told → Prop) (w : World) (h1 : SetO w m1 n1 S1) (h2 : SetO w m2 n2 S2) :
    Calls Tryz.prog 22 #[.map m1, .map m2] w fun e w' => ∃ r : Bool, e = .returned (.bool r) ∧ (r = true ↔ ∃ t u, S1 t ∧ S2 u ∧ goesB t u = false) ∧ Below w.heap.size w w' := by
  have H1 := hide h1
  have H2 := hide h2
  clear h1 h2
  go_enter Tryz.func22, Tryz.ntmps22
  go_wp2_with (first
    | (at_range; refine wpT_range _ rfl _ rfl m1 n1 S1 rfl H1.out ?_; intro w0 cnt0 hrg0 hg0 hs0)
    | go_in)
  go_frame
  have G0 := hide (below_of_grown hg0 (Nat.le_refl _) (fun j hj => by cases hj))
  have R0 := hide hrg0
  clear hrg0 hg0
  go_loopw [9] (fun _ wr => ∃ L cnt, Hid (RgT wr m1 w.heap.size n1 S1 L cnt) ∧ Hid (Below w.heap.size w wr) ∧ Hid (∀ t, S1 t → L t ∨ ∀ u, S2 u → goesB t u = true)) (fun _ wr => rgLeft wr m1 w.heap.size)
  case atStart => exact ⟨_, _, R0.out, G0.out, fun t ht => .inl ht⟩
  case round =>
    obtain ⟨L, cnt, HR, HB, HL⟩ := hrel
    go_wp2_with (first
      | (at_next; refine wpT_next _ rfl _ rfl m1 w.heap.size n1 S1 L cnt rfl HR.out ?_ ?_)
      | go_in)
    · intro hdone
      go_wp2
      go_ret
      refine ⟨false, rfl, ⟨(fun h => by cases h), fun ⟨t, u, ht, hu, hg⟩ => ?_⟩, HB.out⟩
      rcases HL.out t ht with h | h
      · exact absurd h (hdone t)
      · rw [h u hu] at hg
        cases hg
    · intro t w1 cnt1 hSt hLt hrg1 hlt1 hg1 hs1 hen1
      have R1 := hide hrg1
      have B1 := hide (HB.out.trans (below_of_grown (B := w.heap.size) hg1 HB.out.size (fun j hj => by cases hj; exact Nat.le_refl _)))
      have M1 := hide (show rgLeft w1 m1 w.heap.size < rgLeft wr m1 w.heap.size by rw [hrg1.left_eq, HR.out.left_eq]; exact hlt1)
      have N1 := hide (show w.heap.size < w1.heap.size from hrg1.lt.1)
      clear hrg1 hg1 hs1 hlt1
      have B2 := hide (B1.out.alloc B1.out.size (.cells #[.int .i64 t.kind, .string t.text, .int .i64 t.act] 84))
      have k0 : (w1.alloc (.cells #[.int .i64 t.kind, .string t.text, .int .i64 t.act] 84)).cell? ⟨w1.heap.size, 0, none⟩ = some (.int .i64 t.kind) := by simp [go_sem]
      have k1 : (w1.alloc (.cells #[.int .i64 t.kind, .string t.text, .int .i64 t.act] 84)).cell? ⟨w1.heap.size, 1, none⟩ = some (.string t.text) := by simp [go_sem]
      have k2 : (w1.alloc (.cells #[.int .i64 t.kind, .string t.text, .int .i64 t.act] 84)).cell? ⟨w1.heap.size, 2, none⟩ = some (.int .i64 t.act) := by simp [go_sem]
      have E2 := hide (show (w1.alloc (.cells #[.int .i64 t.kind, .string t.text, .int .i64 t.act] 84)).heap.size = w1.heap.size + 1 by simp)
      have R2 := hide (show RgT (w1.alloc (.cells #[.int .i64 t.kind, .string t.text, .int .i64 t.act] 84)) m1 w.heap.size n1 S1 (fun u => L u ∧ u ≠ t) cnt1 from
        R1.out.blk (fun b hb => (MapKept.heap_alloc w1 _).2 b (R1.out.lt.2 b hb).1) ((MapKept.heap_alloc w1 _).2 _ N1.out))
      have H2' := hide (H2.out.below B2.out (Nat.le_refl _))
      go_wp2_with (first
        | (at_range; generalize w1.alloc (.cells #[.int .i64 t.kind, .string t.text, .int .i64 t.act] 84) = W at B2 k0 k1 k2 E2 R2 H2' ⊢; refine wpT_range _ rfl _ rfl m2 n2 S2 rfl H2'.out ?_; intro w3 cnt3 hrg3 hg3 hs3)
        | go_in)
      go_frame
      have G3 := hide (below_of_grown hg3 (Nat.le_refl _) (fun j hj => by cases hj))
      have R3 := hide hrg3
      clear hrg3 hg3
      go_loopw [15] (fun _ wz => ∃ L2 cnt2, Hid (RgT wz m2 W.heap.size n2 S2 L2 cnt2) ∧ Hid (Below W.heap.size W wz) ∧ Hid (∀ u, S2 u → L2 u ∨ goesB t u = true)) (fun _ wz => rgLeft wz m2 W.heap.size)
      case atStart => exact ⟨_, _, R3.out, G3.out, fun u hu => .inl hu⟩
      case round =>
        obtain ⟨L2, cnt2, HR2, HB2, HL2⟩ := hrel
        go_wp2_with (first
          | (at_next; refine wpT_next _ rfl _ rfl m2 W.heap.size n2 S2 L2 cnt2 rfl HR2.out ?_ ?_)
          | go_in)
        · intro hdone
          have hdone := hide hdone
          go_wp2
          have R5 := hide (R2.out.blk (fun b hb => HB2.out.block b (R2.out.lt.2 b hb).1) (HB2.out.block _ R2.out.lt.1))
          refine ⟨⟨_, cnt1, R5.out, B2.out.trans (HB2.out.mono B2.out.size), fun x hx => ?_⟩, ?_⟩
          · rcases HL.out x hx with h | h
            · by_cases e : x = t
              · subst e
                exact .inr fun u hu => (HL2.out u hu).resolve_left (hdone.out u)
              · exact .inl ⟨h, e⟩
            · exact .inr h
          · have := M1.out
            rw [R1.out.left_eq] at this
            rw [R5.out.left_eq]
            exact this
        · intro u w4 cnt4 hSu hLu hrg4 hlt4 hg4 hs4 hen4
          have R4 := hide hrg4
          have B4 := hide (HB2.out.trans (below_of_grown (B := W.heap.size) hg4 HB2.out.size (fun j hj => by cases hj; exact Nat.le_refl _)))
          have M4 := hide (show rgLeft w4 m2 W.heap.size < rgLeft wr m2 W.heap.size by rw [hrg4.left_eq, HR2.out.left_eq]; exact hlt4)
          clear hrg4 hg4 hs4 hlt4
          have B5 := hide (B4.out.alloc B4.out.size (.cells #[.int .i64 u.kind, .string u.text, .int .i64 u.act] 84))
          have hlt : w1.heap.size < W.heap.size := by rw [E2.out]; omega
          have p0 := (B5.out.cell (p := ⟨w1.heap.size, 0, none⟩) hlt).trans k0
          have p1 := (B5.out.cell (p := ⟨w1.heap.size, 1, none⟩) hlt).trans k1
          have p2 := (B5.out.cell (p := ⟨w1.heap.size, 2, none⟩) hlt).trans k2
          have R5 := hide (show RgT (w4.alloc (.cells #[.int .i64 u.kind, .string u.text, .int .i64 u.act] 84)) m2 W.heap.size n2 S2 (fun x => L2 x ∧ x ≠ u) cnt4 from
            R4.out.blk (fun b hb => (MapKept.heap_alloc w4 _).2 b (R4.out.lt.2 b hb).1) ((MapKept.heap_alloc w4 _).2 _ R4.out.lt.1))
          clear k0 k1 k2 hlt
          go_wp2_with (go_at_call 37; refine (goesWith_any t u _).mono ?_; rintro e w6 ⟨rfl, hB6⟩; have B6 := hide hB6; clear hB6)
          · rename_i hb
            have hg : goesB t u = false := by simpa using hb
            go_ret
            exact ⟨true, rfl, ⟨fun _ => ⟨t, u, hSt, hSu, hg⟩, fun _ => rfl⟩, B2.out.trans ((B5.out.trans (B6.out.mono B5.out.size)).mono B2.out.size)⟩
          · rename_i hb
            have hg : goesB t u = true := by simpa using hb
            have R6 := hide (R5.out.blk (fun b hb => B6.out.block b (R5.out.lt.2 b hb).1) (B6.out.block _ R5.out.lt.1))
            refine ⟨⟨_, cnt4, R6.out, B5.out.trans (B6.out.mono B5.out.size), fun x hx => ?_⟩, ?_⟩
            · rcases HL2.out x hx with h | h
              · by_cases e : x = u
                · subst e
                  exact .inr hg
                · exact .inl ⟨h, e⟩
              · exact .inr h
            · have := M4.out
              rw [R4.out.left_eq] at this
              rw [R6.out.left_eq]
              exact this

end Go.Proofs.YtkikpcklccdihaaGreatDoor.Vp

/-
  Why, impl: a tale: tell.
-/
namespace Go.Proofs.YtkikpcklccdihaaGreatDoor.Vp
open Go.RowKit Go.Maps

theorem zeroSetT (w : World) : (zeroValue 58).run Tryz.prog w = .ok (.map none) w := by kernel_rfl

/-- All but maps from lo on stands as it stood. -/
structure KM (lo : Nat) (w w' : World) : Prop where
  below : Below lo w w'
  blk : ∀ i, i < w.heap.size → (∀ es c, w.heap[i]? ≠ some (.map es c)) → w'.heap[i]? = w.heap[i]?
theorem KM.refl (lo : Nat) (w : World) : KM lo w w := ⟨Below.refl _ _, fun _ _ _ => rfl⟩
theorem KM.trans {lo : Nat} {w w' w'' : World} (h : KM lo w w') (k : KM lo w' w'') : KM lo w w'' :=
  ⟨h.below.trans k.below, fun i hi hm => by
    have h1 := h.blk i hi hm
    rw [← h1]
    exact k.blk i (Nat.lt_of_lt_of_le hi h.below.size) (fun es c => by rw [h1]; exact hm es c)⟩
theorem KM.of_grown {lo b : Nat} {w w' : World} (h : w.grownBy w' (some b)) (hlo : lo ≤ w.heap.size) (hb : lo ≤ b) (hm : b < w.heap.size → ∃ es c, w.heap[b]? = some (.map es c)) : KM lo w w' :=
  ⟨below_of_grown h hlo (fun j hj => by cases hj; exact hb), fun i hi hn => h.block i hi (fun e => by
    cases e
    obtain ⟨es, c, he⟩ := hm hi
    exact hn es c he)⟩
theorem KM.alloc {lo : Nat} (w : World) (o : Obj) (hlo : lo ≤ w.heap.size) : KM lo w (w.alloc o) :=
  ⟨(Below.refl _ _).alloc hlo o, fun i hi _ => (MapKept.heap_alloc w o).2 i hi⟩
theorem KM.cell {lo : Nat} {w w' : World} (h : KM lo w w') {p : Addr} {v : Value} (hc : w.cell? p = some v) : w'.cell? p = some v := by
  cases hb : w.heap[p.block]? with
  | none => simp [World.cell?, hb] at hc
  | some o =>
    have hlt : p.block < w.heap.size := (Array.getElem?_eq_some_iff.1 hb).1
    refine (World.cell?_of_block (h.blk _ hlt fun es c e => ?_)).trans hc
    simp [World.cell?, e] at hc

/-- What a tale tells, and where. -/
structure TaleG (w : World) (lo tb n : Nat) (G : List UInt8 → Option Nat) (T : List UInt8 → Told → Prop) : Prop where
  map : MapN w tb n (fun s => (G s).map fun b => .map (some b))
  ge : lo ≤ tb
  no : ∀ s, G s = none → ∀ t, ¬ T s t
  set : ∀ s b, G s = some b → SetT w b n (T s) ∧ lo ≤ b ∧ b ≠ tb
  inj : ∀ s s' b, G s = some b → G s' = some b → s = s'
def Tale (w : World) (lo tb n : Nat) (T : List UInt8 → Told → Prop) : Prop := ∃ G, TaleG w lo tb n G T
theorem tale_new (w : World) {lo : Nat} (h : lo ≤ w.heap.size) : Tale (w.alloc (.map #[] 0)) lo w.heap.size 0 (fun _ _ => False) :=
  ⟨fun _ => none, mapN_new w, h, fun _ _ _ h => h, fun _ _ h => by simp at h, fun _ _ _ h => by simp at h⟩
theorem TaleG.blk {w w' : World} {lo tb n : Nat} {G : List UInt8 → Option Nat} {T : List UInt8 → Told → Prop} (h : TaleG w lo tb n G T) (hb : ∀ i, lo ≤ i → i < w.heap.size → (∃ es c, w.heap[i]? = some (.map es c)) → w'.heap[i]? = w.heap[i]?) : TaleG w' lo tb n G T :=
  ⟨h.map.blk (hb _ h.ge h.map.lt h.map.isMap), h.ge, h.no, fun s b hs => by
    obtain ⟨h1, h2, h3⟩ := h.set s b hs
    exact ⟨h1.blk (hb _ h2 h1.lt h1.isMap), h2, h3⟩, h.inj⟩
theorem Tale.blk {w w' : World} {lo tb n : Nat} {T : List UInt8 → Told → Prop} (h : Tale w lo tb n T) (hb : ∀ i, lo ≤ i → i < w.heap.size → (∃ es c, w.heap[i]? = some (.map es c)) → w'.heap[i]? = w.heap[i]?) : Tale w' lo tb n T :=
  h.elim fun G hG => ⟨G, hG.blk hb⟩
theorem TaleG.mono {w : World} {lo tb n n' : Nat} {G : List UInt8 → Option Nat} {T : List UInt8 → Told → Prop} (h : TaleG w lo tb n G T) (hn : n ≤ n') : TaleG w lo tb n' G T :=
  ⟨h.map.mono hn, h.ge, h.no, fun s b hs => by
    obtain ⟨h1, h2, h3⟩ := h.set s b hs
    exact ⟨h1.mono hn, h2, h3⟩, h.inj⟩
theorem Tale.lt {w : World} {lo tb n : Nat} {T : List UInt8 → Told → Prop} (h : Tale w lo tb n T) : lo ≤ tb ∧ tb < w.heap.size := by obtain ⟨_, hG⟩ := h; exact ⟨hG.ge, hG.map.lt⟩
theorem Tale.congr {w : World} {lo tb n : Nat} {T T' : List UInt8 → Told → Prop} (h : Tale w lo tb n T) (hT : ∀ s t, T s t ↔ T' s t) : Tale w lo tb n T' := by
  obtain rfl : T = T' := funext fun s => funext fun t => propext (hT s t)
  exact h
/-- Behind a telling. -/
theorem TaleG.told {w w' : World} {lo tb n b : Nat} {G : List UInt8 → Option Nat} {T : List UInt8 → Told → Prop} {s0 : List UInt8} {x : Told} (h : TaleG w lo tb n G T) (hm : MapN w' tb (n + 1) (fun s => (if s = s0 then some b else G s : Option Nat).map fun b => .map (some b)))
    (hs : SetT w' b (n + 1) (fun t => t = x ∨ T s0 t)) (hb : lo ≤ b) (hbt : b ≠ tb) (hnew : ∀ s, s ≠ s0 → G s ≠ some b) (ho : ∀ s b', s ≠ s0 → G s = some b' → w'.heap[b']? = w.heap[b']?) : Tale w' lo tb (n + 1) (fun s t => (s = s0 ∧ t = x) ∨ T s t) := by
  refine ⟨fun s => if s = s0 then some b else G s, hm, h.ge, fun s hn t ht => ?_, fun s b' hs' => ?_, fun s s' b' h1 h2 => ?_⟩
  · by_cases e : s = s0
    · simp [e] at hn
    · simp only [e, if_false] at hn
      rcases ht with ht | ht
      · exact e ht.1
      · exact h.no s hn t ht
  · by_cases e : s = s0
    · simp only [e, if_true, Option.some.injEq] at hs'
      subst hs'
      have hT : (fun t => t = x ∨ T s0 t) = fun t => (s = s0 ∧ t = x) ∨ T s t := funext fun t => propext ⟨fun h => h.elim (fun h => .inl ⟨e, h⟩) (fun h => .inr (e ▸ h)), fun h => h.elim (fun h => .inl h.2) (fun h => .inr (e ▸ h))⟩
      exact ⟨hT ▸ hs, hb, hbt⟩
    · simp only [e, if_false] at hs'
      obtain ⟨h1, h2, h3⟩ := h.set s b' hs'
      have hT : T s = fun t => (s = s0 ∧ t = x) ∨ T s t := funext fun t => propext ⟨.inr, fun h => h.elim (fun h => absurd h.1 e) id⟩
      exact ⟨hT ▸ (h1.blk (ho s b' e hs')).mono (Nat.le_succ _), h2, h3⟩
  · by_cases e : s = s0 <;> by_cases e' : s' = s0
    · rw [e, e']
    · simp only [e, if_true, Option.some.injEq] at h1
      simp only [e', if_false] at h2
      exact absurd (h1 ▸ h2) (hnew s' e')
    · simp only [e', if_true, Option.some.injEq] at h2
      simp only [e, if_false] at h1
      exact absurd (h2 ▸ h1) (hnew s e)
    · simp only [e, if_false] at h1
      simp only [e', if_false] at h2
      exact h.inj s s' b' h1 h2

set_option maxRecDepth 100000 in
set_option maxHeartbeats 4000000 in
theorem tell_old (lo tb n b : Nat) (G : List UInt8 → Option Nat) (T : List UInt8 → Told → Prop) (name : ByteArray) (x : Told) (w : World) (hn : (n : Int) ≤ 1000000) (hsz : name.size ≤ maxLen) (hx : TOk x) (hlo : lo ≤ w.heap.size) (h : TaleG w lo tb n G T) (hG : G name.toList = some b) :
    Calls Tryz.prog 34 #[.map (some tb), .string name, tv x] w fun e w' => e = .returned (.tuple #[]) ∧ Tale w' lo tb (n + 1) (fun s t => (s = name.toList ∧ t = x) ∨ T s t) ∧ KM lo w w' := by
  have K0 := hide (KM.alloc w (.cells #[.int .i64 x.kind, .string x.text, .int .i64 x.act] 84) hlo)
  have H0 := hide (h.blk (w' := w.alloc (.cells #[.int .i64 x.kind, .string x.text, .int .i64 x.act] 84)) (fun i _ hi _ => (MapKept.heap_alloc w _).2 i hi))
  have HX := hide hx
  have HV := hide (show ((G name.toList).map fun b => Value.map (some b)).getD (.map none) = .map (some b) by rw [hG]; rfl)
  have HG := hide hG
  clear h hG hx
  have hz := zeroSetT
  have qT : ∀ (w : World) (r : Option Nat), (binOp .eql 58 (.map r) (.map none)).run Tryz.prog w = .ok (.bool r.isNone) w := fun w r => run_eql_map_nil w _ _ _ r Tryz.underlying58
  show Calls Tryz.prog 34 #[.map (some tb), .string name, .agg #[.int .i64 x.kind, .string x.text, .int .i64 x.act]] w _
  go_enter Tryz.func34, Tryz.ntmps34
  go_wp2_with (first
    | (at_lookup; refine wpN_lookup _ rfl _ _ 53 rfl 58 Tryz.underlying53 (hz _) tb n _ rfl H0.out.map name rfl hsz _ HV.out ?_)
    | (go_at_call 53; refine (addT_any b n (T name.toList) x _ (by omega) HX.out (H0.out.set _ b HG.out).1).mono ?_; rintro e w2 ⟨rfl, hS2, hg2⟩; have S2 := hide hS2; have G2 := hide hg2; clear hS2 hg2))
  go_end0
  obtain ⟨hset, hb1, hb2⟩ := H0.out.set _ b HG.out
  refine ⟨rfl, H0.out.told ?_ S2.out hb1 hb2 (fun s hs e => hs (H0.out.inj _ _ b e HG.out)) (fun s b' hs hb' => G2.out.block b' (H0.out.set s b' hb').1.lt (fun e => hs (H0.out.inj _ _ b' hb' (HG.out.trans e.symm)))), K0.out.trans (KM.of_grown G2.out (Nat.le_trans hlo K0.out.below.size) hb1 (fun _ => hset.isMap))⟩
  refine ((H0.out.map.blk (G2.out.block tb H0.out.map.lt (fun e => hb2 (by cases e; rfl)))).mono (Nat.le_succ n)).congr fun s => ?_
  by_cases e : s = name.toList
  · rw [if_pos e, e, HG.out]
  · rw [if_neg e]

set_option maxRecDepth 100000 in
set_option maxHeartbeats 4000000 in
theorem tell_fresh (lo tb n : Nat) (G : List UInt8 → Option Nat) (T : List UInt8 → Told → Prop) (name : ByteArray) (x : Told) (w : World) (hn : (n : Int) ≤ 1000000) (hsz : name.size ≤ maxLen) (hx : TOk x) (hlo : lo ≤ w.heap.size) (h : TaleG w lo tb n G T) (hG : G name.toList = none) :
    Calls Tryz.prog 34 #[.map (some tb), .string name, tv x] w fun e w' => e = .returned (.tuple #[]) ∧ Tale w' lo tb (n + 1) (fun s t => (s = name.toList ∧ t = x) ∨ T s t) ∧ KM lo w w' := by
  have K0 := hide (KM.alloc w (.cells #[.int .i64 x.kind, .string x.text, .int .i64 x.act] 84) hlo)
  have H0 := hide (h.blk (w' := w.alloc (.cells #[.int .i64 x.kind, .string x.text, .int .i64 x.act] 84)) (fun i _ hi _ => (MapKept.heap_alloc w _).2 i hi))
  have hc0 : (w.alloc (.cells #[.int .i64 x.kind, .string x.text, .int .i64 x.act] 84)).cell? ⟨w.heap.size, 0, none⟩ = some (.int .i64 x.kind) ∧ (w.alloc (.cells #[.int .i64 x.kind, .string x.text, .int .i64 x.act] 84)).cell? ⟨w.heap.size, 1, none⟩ = some (.string x.text) ∧ (w.alloc (.cells #[.int .i64 x.kind, .string x.text, .int .i64 x.act] 84)).cell? ⟨w.heap.size, 2, none⟩ = some (.int .i64 x.act) := by simp [go_sem]
  have E0 := hide (show w.heap.size < (w.alloc (.cells #[.int .i64 x.kind, .string x.text, .int .i64 x.act] 84)).heap.size by simp)
  have HC := hide hc0
  have L0 := hide (Nat.le_trans hlo K0.out.below.size)
  have HX := hide hx
  have HV := hide (show ((G name.toList).map fun b => Value.map (some b)).getD (.map none) = .map none by rw [hG]; rfl)
  have HG := hide hG
  clear h hG hx hc0
  have hz := zeroSetT
  have qT : ∀ (w : World) (r : Option Nat), (binOp .eql 58 (.map r) (.map none)).run Tryz.prog w = .ok (.bool r.isNone) w := fun w r => run_eql_map_nil w _ _ _ r Tryz.underlying58
  have hmm := @run_makeMap Tryz.prog
  show Calls Tryz.prog 34 #[.map (some tb), .string name, .agg #[.int .i64 x.kind, .string x.text, .int .i64 x.act]] w _
  go_enter Tryz.func34, Tryz.ntmps34
  go_wp2_with (first
    | (at_lookup; generalize w.alloc (.cells #[.int .i64 x.kind, .string x.text, .int .i64 x.act] 84) = W at K0 H0 HC E0 L0 ⊢; generalize w.heap.size = bx at HC E0 ⊢; have H1 := hide (H0.out.blk (w' := W.alloc (.map #[] 0)) (fun i _ hi _ => (MapKept.heap_alloc W _).2 i hi)); have K1 := hide (KM.alloc W (.map #[] 0) L0.out); have S1 := hide (setT_new W); refine wpN_lookup _ rfl _ _ 53 rfl 58 Tryz.underlying53 (hz _) tb n _ rfl H0.out.map name rfl hsz _ HV.out ?_)
    | (at_mapUpdate; refine wpN_update _ rfl _ _ _ 53 rfl 58 Tryz.underlying53 tb n _ rfl H1.out.map (by unfold maxLen; omega) name (.map (some W.heap.size)) rfl rfl hsz ?_; intro w2 hM2 hg2; have M2 := hide hM2; have G2 := hide hg2; clear hM2 hg2; have K2 := hide (KM.of_grown G2.out (Nat.le_trans L0.out K1.out.below.size) H0.out.ge (fun _ => H1.out.map.isMap)); have S2 := hide (S1.out.blk (G2.out.block W.heap.size (by simp) (fun e => by have := H0.out.map.lt; cases e; omega))); have c0 := K2.out.cell (K1.out.cell HC.out.1); have c1 := K2.out.cell (K1.out.cell HC.out.2.1); have c2 := K2.out.cell (K1.out.cell HC.out.2.2))
    | (at_lookup; refine wpN_lookup _ rfl _ _ 53 rfl 58 Tryz.underlying53 (hz _) tb (n + 1) _ rfl M2.out name rfl hsz (.map (some W.heap.size)) (by rw [if_pos rfl]; rfl) ?_)
    | (go_at_call 53; refine (addT_any W.heap.size 0 (fun _ => False) x _ (by omega) HX.out S2.out).mono ?_; rintro e w3 ⟨rfl, hS3, hg3⟩; have S3 := hide hS3; have G3 := hide hg3; clear hS3 hg3))
  go_end0
  have hlt := H0.out.map.lt
  refine ⟨rfl, H0.out.told (b := W.heap.size) ?_ ?_ L0.out (fun e => by omega) (fun s hs e => by have := (H0.out.set s _ e).1.lt; omega) (fun s b' hs hb' => ?_), K0.out.trans (K1.out.trans (K2.out.trans (KM.of_grown G3.out (Nat.le_trans (Nat.le_trans L0.out K1.out.below.size) K2.out.below.size) L0.out (fun _ => S2.out.isMap))))⟩
  · refine (M2.out.blk (G3.out.block tb M2.out.lt (fun e => by cases e; omega))).congr fun s => ?_
    by_cases e : s = name.toList
    · rw [if_pos e, if_pos e]; rfl
    · rw [if_neg e, if_neg e]
  · have hT : (fun t => t = x ∨ False) = fun t => t = x ∨ T name.toList t := funext fun t => propext ⟨fun h => .inl (h.resolve_right id), fun h => h.elim .inl (fun h => absurd h (H0.out.no _ HG.out t))⟩
    exact hT ▸ (S3.out.mono (by omega))
  · obtain ⟨h1, h2, h3⟩ := H0.out.set s b' hb'
    have hl := h1.lt
    have hl2 : b' < (W.alloc (.map #[] 0)).heap.size := Nat.lt_of_lt_of_le hl K1.out.below.size
    rw [G3.out.block b' (Nat.lt_of_lt_of_le hl2 G2.out.size) (fun e => by cases e; omega), G2.out.block b' hl2 (fun e => h3 (by cases e; rfl))]
    exact (MapKept.heap_alloc W _).2 b' hl

theorem tell_any (lo tb n : Nat) (T : List UInt8 → Told → Prop) (name : ByteArray) (x : Told) (w : World) (hn : (n : Int) ≤ 1000000) (hsz : name.size ≤ maxLen) (hx : TOk x) (hlo : lo ≤ w.heap.size) (h : Tale w lo tb n T) :
    Calls Tryz.prog 34 #[.map (some tb), .string name, tv x] w fun e w' => e = .returned (.tuple #[]) ∧ Tale w' lo tb (n + 1) (fun s t => (s = name.toList ∧ t = x) ∨ T s t) ∧ KM lo w w' := by
  obtain ⟨G, hG⟩ := h
  cases e : G name.toList with
  | none => exact tell_fresh lo tb n G T name x w hn hsz hx hlo hG e
  | some b => exact tell_old lo tb n b G T name x w hn hsz hx hlo hG e

end Go.Proofs.YtkikpcklccdihaaGreatDoor.Vp
