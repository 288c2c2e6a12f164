/-
  Put together of: WhBy, WhTaleOf.
-/
import Derived.Test.YtkikpcklccdihaaGreatDoorZWhActs
import Derived.Test.YtkikpcklccdihaaGreatDoorZB
import Derived.Test.YtkikpcklccdihaaGreatDoorZAcOk
import Derived.Deep.RegionHeld3

/-
  Why, impl: byDeed, byLook.
-/
namespace Go.Proofs.YtkikpcklccdihaaGreatDoor.Vp
open Go.RowKit Go.Maps

def dTold (K : List UInt8 → List KAct) (d : Deed) : Told := if d.kind = 1 then ⟨1, d.text, 0⟩ else if d.kind = 3 then ⟨3, ⟨#[]⟩, (numOf (K d.name.toList) (d.actN, d.act) : Nat)⟩ else ⟨2, ⟨#[]⟩, 0⟩
def dActs (K : List UInt8 → List KAct) (d : Deed) : List UInt8 → List KAct := if d.kind = 3 then kput K d.name.toList (d.actN, d.act) else K
def lTold (l : Link) : Told := ⟨if l.has = true then 0 else 2, ⟨#[]⟩, 0⟩
theorem lTold_ok (l : Link) : TOk (lTold l) := by
  unfold lTold
  cases l.has
  · exact ⟨show (Lit.int .i64 2).wf = true by decide, Nat.zero_le _, show (Lit.int .i64 0).wf = true by decide⟩
  · exact ⟨show (Lit.int .i64 0).wf = true by decide, Nat.zero_le _, show (Lit.int .i64 0).wf = true by decide⟩
theorem dTold_ok {w0 w : World} {kb n : Nat} {K : List UInt8 → List KAct} {d : Deed} (h : Acts w0 w kb n K) (hn : (n : Int) ≤ 1000000) (ht : d.text.size ≤ maxLen) : TOk (dTold K d) := by
  obtain ⟨V, hV⟩ := h
  unfold dTold
  split
  · exact ⟨show (Lit.int .i64 1).wf = true by decide, ht, show (Lit.int .i64 0).wf = true by decide⟩
  · split
    · refine ⟨show (Lit.int .i64 3).wf = true by decide, Nat.zero_le _, ?_⟩
      have h1 := numOf_le (K d.name.toList) (d.actN, d.act)
      have h2 := hV.len d.name.toList
      show (Lit.int .i64 ((numOf (K d.name.toList) (d.actN, d.act) : Nat) : Int)).wf = true
      exact WalkArith.wf_i64 (by constructor <;> omega)
    · exact ⟨show (Lit.int .i64 2).wf = true by decide, Nat.zero_le _, show (Lit.int .i64 0).wf = true by decide⟩
theorem ActsV.blk {w0 w w' : World} {kb n : Nat} {V : List UInt8 → Value} {K : List UInt8 → List KAct} (h : ActsV w0 w kb n V K) (hb : ∀ i, i < w.heap.size → ((∃ es c, w.heap[i]? = some (.map es c)) ∨ ∃ cs fz, w.heap[i]? = some (.cells cs 45 fz)) → w'.heap[i]? = w.heap[i]?) : ActsV w0 w' kb n V K :=
  ⟨h.map.blk (hb _ h.map.lt (.inl h.map.isMap)), h.ge, fun s => by
    obtain ⟨cs, h1, h2⟩ := h.row s
    exact ⟨cs, wa_blk h1 (fun k hk' => by
      obtain ⟨_, h4, h5⟩ := wa_ty h1 k hk'
      exact hb k h4 (.inr h5)), h2⟩, h.nil, h.len, h.inj⟩
theorem Acts.but {w0 w w' : World} {kb n b : Nat} {K : List UInt8 → List KAct} (h : Acts w0 w kb n K) {cs : Array Value} {t : TypeId} {fz : Nat × Nat} (hp : w.heap[b]? = some (.cells cs t fz)) (ht : t ≠ 45) (hk : ∀ i, i ≠ b → w'.heap[i]? = w.heap[i]?) : Acts w0 w' kb n K :=
  h.elim fun V hV => ⟨V, hV.blk fun i _ hi => hk i (fun e => by
    subst e
    rcases hi with ⟨es, c, h1⟩ | ⟨cs', fz', h1⟩
    · rw [hp] at h1; cases h1
    · rw [hp] at h1; simp at h1; exact ht h1.2.1)⟩
theorem KA.then_below {B kb : Nat} {w w' w'' : World} (h : KA B kb w w') (hB : B ≤ w.heap.size) (k : Below w.heap.size w' w'') : KA B kb w w'' :=
  ⟨h.below.trans (k.mono hB), fun i hi hk hm => (k.block i hi).trans (h.blk i hi hk hm)⟩

set_option maxRecDepth 100000 in
set_option maxHeartbeats 2000000 in
theorem byLook_any (l : Link) (w : World) :
    Calls Tryz.prog 36 #[.agg #[.string l.name, .bool l.ask, .bool l.has, .int .i64 l.at_]] w fun e w' => e = .returned (tv (lTold l)) ∧ Below w.heap.size w w' := by
  unfold lTold tv
  cases hh : l.has with
  | true =>
    have A0 := hide (((Below.refl w.heap.size w).alloc (Nat.le_refl _) (.cells #[.string l.name, .bool l.ask, .bool true, .int .i64 l.at_] 78)).alloc (by simp) (.cells #[.int .i64 0, .string ⟨#[]⟩, .int .i64 0] 84))
    go_enter Tryz.func36, Tryz.ntmps36
    go_wp2
    refine bodyPost_ret (v := .agg #[.int .i64 0, .string ⟨#[]⟩, .int .i64 0]) (by simp [results, Tryz.results36, go_sem]) rfl ⟨rfl, A0.out⟩
  | false =>
    have A0 := hide (((Below.refl w.heap.size w).alloc (Nat.le_refl _) (.cells #[.string l.name, .bool l.ask, .bool false, .int .i64 l.at_] 78)).alloc (by simp) (.cells #[.int .i64 2, .string ⟨#[]⟩, .int .i64 0] 84))
    go_enter Tryz.func36, Tryz.ntmps36
    go_wp2
    refine bodyPost_ret (v := .agg #[.int .i64 2, .string ⟨#[]⟩, .int .i64 0]) (by simp [results, Tryz.results36, go_sem]) rfl ⟨rfl, A0.out⟩

set_option maxRecDepth 100000 in
set_option maxHeartbeats 4000000 in
theorem byDeed_any (w0 : World) (kb n : Nat) (K : List UInt8 → List KAct) (d : Deed) (a0 : Option Addr) (c0 : Nat) (a1 : Option Addr) (c1 : Nat) (w : World) (hn : (n : Int) ≤ 1000000) (hsz : d.name.size ≤ maxLen) (hp : d.actN ≤ 1048576) (hb : Below w0.heap.size w0 w) (hI : SlIns w0 a0 d.actN d.act) (h : Acts w0 w kb n K) :
    Calls Tryz.prog 35 #[.map (some kb), .agg #[.string d.name, .int .i64 d.kind, .int .i64 d.code, .string d.text, .slice a0 d.actN c0, .slice a1 d.linksN c1]] w fun e w' => e = .returned (tv (dTold K d)) ∧ Acts w0 w' kb (n + 1) (dActs K d) ∧ KA w0.heap.size kb w w' := by
  have A0 := hide (((Below.refl w.heap.size w).alloc (Nat.le_refl _) (.cells #[.string d.name, .int .i64 d.kind, .int .i64 d.code, .string d.text, .slice a0 d.actN c0, .slice a1 d.linksN c1] 76)))
  have H := hide h
  have HI := hide hI
  have HB := hide hb
  have hw0 := hide hb.size
  clear h hI hb
  by_cases k1 : d.kind = 1
  · have HT := hide (show dTold K d = ⟨1, d.text, 0⟩ by unfold dTold; rw [if_pos k1])
    have HA := hide (show dActs K d = K by unfold dActs; rw [if_neg (by omega)])
    rw [HT.out, HA.out]
    rw [k1] at A0 ⊢
    have A1 := hide (A0.out.alloc (by simp) (.cells #[.int .i64 1, .string d.text, .int .i64 0] 84))
    clear k1
    go_enter Tryz.func35, Tryz.ntmps35
    go_wp2
    refine bodyPost_ret (v := .agg #[.int .i64 1, .string d.text, .int .i64 0]) (by simp [results, Tryz.results35, go_sem]) rfl ⟨rfl, (H.out.below A1.out (Nat.le_refl _)).mono (Nat.le_succ n), KA.of_below A1.out (Nat.le_refl _) hw0.out⟩
  · by_cases k3 : d.kind = 3
    · have HT := hide (show dTold K d = ⟨3, ⟨#[]⟩, (numOf (K d.name.toList) (d.actN, d.act) : Nat)⟩ by unfold dTold; rw [if_neg k1, if_pos k3])
      have HA := hide (show dActs K d = kput K d.name.toList (d.actN, d.act) by unfold dActs; rw [if_pos k3])
      rw [HT.out, HA.out]
      rw [k3] at A0 ⊢
      have A1 := hide (A0.out.alloc (by simp) (.cells #[.int .i64 0, .string ⟨#[]⟩, .int .i64 0] 84))
      clear k1 k3
      have Bx := hide (show ((w.alloc (.cells #[.string d.name, .int .i64 3, .int .i64 d.code, .string d.text, .slice a0 d.actN c0, .slice a1 d.linksN c1] 76)).alloc (.cells #[.int .i64 0, .string ⟨#[]⟩, .int .i64 0] 84)).heap[w.heap.size + 1]? = some (.cells #[.int .i64 0, .string ⟨#[]⟩, .int .i64 0] 84 (0, 0)) by
        have := (MapKept.heap_alloc (w.alloc (.cells #[.string d.name, .int .i64 3, .int .i64 d.code, .string d.text, .slice a0 d.actN c0, .slice a1 d.linksN c1] 76)) (.cells #[.int .i64 0, .string ⟨#[]⟩, .int .i64 0] 84)).1
        simpa using this)
      have hb4 : w.heap.size + 1 ≠ kb := fun e => by have := H.out.lt; omega
      have HQ := hide (fun (V : World) (hK : KA w0.heap.size kb ((w.alloc (.cells #[.string d.name, .int .i64 3, .int .i64 d.code, .string d.text, .slice a0 d.actN c0, .slice a1 d.linksN c1] 76)).alloc (.cells #[.int .i64 0, .string ⟨#[]⟩, .int .i64 0] 84)) V) => by
        have hbx := (hK.blk (w.heap.size + 1) (by simp) hb4 (fun cs fz e => by rw [Bx.out] at e; simp at e)).trans Bx.out
        exact (show V.heap[w.heap.size + 1]? = some (.cells #[.int .i64 0, .string ⟨#[]⟩, .int .i64 0] 84 (0, 0)) ∧ V.cell? ⟨w.heap.size + 1, 0, none⟩ = some (.int .i64 0) ∧ V.cell? ⟨w.heap.size + 1, 1, none⟩ = some (.string ⟨#[]⟩) ∧ V.cell? ⟨w.heap.size + 1, 2, none⟩ = some (.int .i64 0) ∧ V.frozen? ⟨w.heap.size + 1, 0, none⟩ = false ∧ V.frozen? ⟨w.heap.size + 1, 1, none⟩ = false ∧ V.frozen? ⟨w.heap.size + 1, 2, none⟩ = false from
          ⟨hbx, by simp [World.cell?, hbx], by simp [World.cell?, hbx], by simp [World.cell?, hbx], by simp [World.frozen?, hbx], by simp [World.frozen?, hbx], by simp [World.frozen?, hbx]⟩))
      go_enter Tryz.func35, Tryz.ntmps35
      go_wp2_with (go_at_call 54; refine (number_any w0 kb n K d.name (d.actN, d.act) a0 c0 _ hn hsz hp (HB.out.trans (A1.out.mono HB.out.size)) HI.out (H.out.below A1.out (Nat.le_refl _))).mono ?_; rintro e w2 ⟨rfl, hA2, hK2⟩; obtain ⟨hbx, r0, r1, r2, f0, f1, f2⟩ := HQ.out _ hK2; have HX := hide hbx; have HA2 := hide hA2; have HK2 := hide hK2; clear hA2 hK2 hbx)
      generalize numOf (K d.name.toList) (d.actN, d.act) = nn
      refine bodyPost_ret (v := .agg #[.int .i64 3, .string ⟨#[]⟩, .int .i64 nn]) (by simp [results, Tryz.results35, go_sem, r0, r1, r2]) rfl ⟨rfl, HA2.out.but HX.out (by decide) (fun i hi => ?_), ((KA.of_below A1.out (Nat.le_refl _) hw0.out).trans HK2.out).then_below hw0.out ⟨rfl, rfl, rfl, by simp, fun i hi => ?_⟩⟩
      · rw [Below.heap_setCell _ _ _ _ hi, Below.heap_setCell _ _ _ _ hi, Below.heap_setCell _ _ _ _ hi]
      · have hi : i ≠ w.heap.size + 1 := by omega
        rw [Below.heap_setCell _ _ _ _ hi, Below.heap_setCell _ _ _ _ hi, Below.heap_setCell _ _ _ _ hi]
    · have HT := hide (show dTold K d = ⟨2, ⟨#[]⟩, 0⟩ by unfold dTold; rw [if_neg k1, if_neg k3])
      have HA := hide (show dActs K d = K by unfold dActs; rw [if_neg k3])
      rw [HT.out, HA.out]
      have q1 : (d.kind == 1) = false := by simpa using k1
      have q3 : (d.kind == 3) = false := by simpa using k3
      have A1 := hide (A0.out.alloc (by simp) (.cells #[.int .i64 2, .string ⟨#[]⟩, .int .i64 0] 84))
      clear k1 k3
      go_enter Tryz.func35, Tryz.ntmps35
      go_wp2
      refine bodyPost_ret (v := .agg #[.int .i64 2, .string ⟨#[]⟩, .int .i64 0]) (by simp [results, Tryz.results35, go_sem]) rfl ⟨rfl, (H.out.below A1.out (Nat.le_refl _)).mono (Nat.le_succ n), KA.of_below A1.out (Nat.le_refl _) hw0.out⟩

end Go.Proofs.YtkikpcklccdihaaGreatDoor.Vp

/-
  Why, impl: taleOf.
-/
namespace Go.Proofs.YtkikpcklccdihaaGreatDoor.Vp
open Go.RowKit Go.Maps

/-- What is known behind k deeds. -/
def actTo (f : Nat → Deed) (K0 : List UInt8 → List KAct) : Nat → List UInt8 → List KAct
  | 0 => K0
  | k + 1 => dActs (actTo f K0 k) (f k)
def toldLk (g : Nat → Link) (T : List UInt8 → Told → Prop) : Nat → List UInt8 → Told → Prop
  | 0 => T
  | j + 1 => fun s t => ((g j).ask = false ∧ s = (g j).name.toList ∧ t = lTold (g j)) ∨ toldLk g T j s t
/-- What is told by k deeds. -/
def toldTo (f : Nat → Deed) (K0 : List UInt8 → List KAct) : Nat → List UInt8 → Told → Prop
  | 0 => fun _ _ => False
  | k + 1 => toldLk (f k).links (fun s t => (s = (f k).name.toList ∧ t = dTold (actTo f K0 k) (f k)) ∨ toldTo f K0 k s t) (f k).linksN

theorem Tale.ka {w w' : World} {lo tb n B kb : Nat} {T : List UInt8 → Told → Prop} (h : Tale w lo tb n T) (hk : KA B kb w w') (hkb : kb < lo) : Tale w' lo tb n T :=
  h.blk fun i h1 h2 ⟨es, c, h3⟩ => hk.blk i h2 (by omega) (fun cs fz e => by rw [h3] at e; cases e)
theorem Tale.below {w w' : World} {lo tb n B : Nat} {T : List UInt8 → Told → Prop} (h : Tale w lo tb n T) (hk : Below B w w') (hB : w.heap.size ≤ B) : Tale w' lo tb n T :=
  h.blk fun i _ h2 _ => hk.block i (by omega)
theorem Tale.mono {w : World} {lo tb n n' : Nat} {T : List UInt8 → Told → Prop} (h : Tale w lo tb n T) (hn : n ≤ n') : Tale w lo tb n' T := h.elim fun G hG => ⟨G, hG.mono hn⟩
theorem KM.of_below {lo B : Nat} {w w' : World} (h : Below B w w') (hB : w.heap.size ≤ B) (hlo : lo ≤ w.heap.size) : KM lo w w' :=
  ⟨h.mono (Nat.le_trans hlo hB), fun i hi _ => h.block i (Nat.lt_of_lt_of_le hi hB)⟩
theorem toldLk_ask {g : Nat → Link} {T : List UInt8 → Told → Prop} {j : Nat} (h : (g j).ask = true) : ∀ s t, toldLk g T j s t ↔ toldLk g T (j + 1) s t := fun _ _ =>
  ⟨.inr, fun h' => h'.elim (fun h'' => by rw [h] at h''; exact absurd h''.1 (by simp)) id⟩
theorem toldLk_look {g : Nat → Link} {T : List UInt8 → Told → Prop} {j : Nat} (h : (g j).ask = false) : ∀ s t, ((s = (g j).name.toList ∧ t = lTold (g j)) ∨ toldLk g T j s t) ↔ toldLk g T (j + 1) s t := fun _ _ =>
  ⟨fun h' => h'.elim (fun h'' => .inl ⟨h, h''⟩) .inr, fun h' => h'.elim (fun h'' => .inl h''.2) .inr⟩

set_option maxRecDepth 100000 in
set_option maxHeartbeats 8000000 in
theorem taleOf_any (w0 : World) (kb n0 : Nat) (K0 : List UInt8 → List KAct) (b off n cap : Nat) (f : Nat → Deed) (w : World) (hn0 : (n0 : Int) ≤ 1000) (hn1 : 1 ≤ n) (hn4 : n ≤ 400) (hlk : ∀ p, p < n → (f p).linksN ≤ 200) (hsz : ∀ i, i < n → SizedDeed (f i)) (hfit : ∀ i, i < n → FitsDeed (f i)) (hb : Below w0.heap.size w0 w) (hrow : RowDeed w0 b off n f) (h : Acts w0 w kb n0 K0) :
    Calls Tryz.prog 21 #[.map (some kb), .agg #[.slice (some ⟨b, off, none⟩) n cap]] w fun e w' => ∃ tb, e = .returned (.map (some tb)) ∧ Tale w' w.heap.size tb 100000 (toldTo f K0 n) ∧ Acts w0 w' kb (n0 + n) (actTo f K0 n) ∧ KA w0.heap.size kb w w' := by
  have hkb : Hid (kb < w.heap.size) := h.lt
  have HLK := hide hlk
  have HZ := hide hsz
  have HM := hide hfit
  have HR := hide hrow
  have HW := hide hb
  have hw0 := hide hb.size
  have B0 := hide (((Below.refl w.heap.size w).alloc (Nat.le_refl _) (.cells #[.slice (some ⟨b, off, none⟩) n cap] 30)).alloc (by simp) (.map #[] 0))
  have T0 := hide (tale_new (w.alloc (.cells #[.slice (some ⟨b, off, none⟩) n cap] 30)) (lo := w.heap.size) (by simp))
  have A0 := hide (h.below B0.out (Nat.le_refl _))
  clear hlk hsz hfit hrow hb h
  have hmm := @run_makeMap Tryz.prog
  go_enter Tryz.func21, Tryz.ntmps21
  go_wp2
  clear hmm
  obtain ⟨tb, htb⟩ : ∃ tb, tb = (w.alloc (.cells #[.slice (some ⟨b, off, none⟩) n cap] 30)).heap.size := ⟨_, rfl⟩
  have htb2 : w.heap.size + 1 = tb := by rw [htb]; simp
  rw [← htb] at T0
  simp only [htb2]
  clear htb htb2
  generalize (w.alloc (.cells #[.slice (some ⟨b, off, none⟩) n cap] 30)).alloc (.map #[] 0) = W at B0 T0 A0 ⊢
  go_loopw [14] (fun i wr => ∃ k : Nat, k ≤ n ∧ i = .int .i64 k ∧ Hid (Tale wr w.heap.size tb (k * 201) (toldTo f K0 k)) ∧ Hid (Acts w0 wr kb (n0 + k) (actTo f K0 k)) ∧ Hid (KA w0.heap.size kb w wr)) (fun i _ => n - (intOf i).toNat)
  case atStart => exact ⟨0, by omega, rfl, by show Tale _ _ _ _ _; simpa [toldTo] using T0.out, by show Acts _ _ _ _ _; simpa [actTo] using A0.out, KA.of_below B0.out (Nat.le_refl _) hw0.out⟩
  case round =>
    obtain ⟨k, hk, rfl, HT, HA, HK⟩ := hrel
    by_cases hlt : k < n
    · obtain ⟨o0, o1, o2, o3, ⟨a0, cap0, o4, q4⟩, ⟨a1, cap1, o5, q5⟩⟩ := HR.out.2 k hlt
      have DW := HW.out.trans HK.out.below
      have p0 := (DW.cell (p := ⟨b, off + k * 6, none⟩) HR.out.1).trans o0
      have p1 := (DW.cell (p := ⟨b, off + k * 6 + 1, none⟩) HR.out.1).trans o1
      have p2 := (DW.cell (p := ⟨b, off + k * 6 + 2, none⟩) HR.out.1).trans o2
      have p3 := (DW.cell (p := ⟨b, off + k * 6 + 3, none⟩) HR.out.1).trans o3
      have p4 := (DW.cell (p := ⟨b, off + k * 6 + 4, none⟩) HR.out.1).trans o4
      have p5 := (DW.cell (p := ⟨b, off + k * 6 + 5, none⟩) HR.out.1).trans o5
      have Q4 := hide q4
      have Q5 := hide q5
      have DW0 := hide DW
      clear q4 q5 o0 o1 o2 o3 o4 o5 DW
      have hlk := HLK.out k hlt
      have hlo := hide (show w.heap.size ≤ wr.heap.size from HK.out.below.size)
      obtain ⟨d, hd⟩ : ∃ d, d = f k := ⟨_, rfl⟩
      have HD := hide hd
      rw [← hd] at p0 p1 p2 p3 p4 p5 Q4 Q5 hlk
      clear hd
      have B1 := hide ((Below.refl wr.heap.size wr).alloc (Nat.le_refl _) (.cells #[.string d.name, .int .i64 d.kind, .int .i64 d.code, .string d.text, .slice a0 d.actN cap0, .slice a1 d.linksN cap1] 76))
      have X1 := hide (show (wr.alloc (.cells #[.string d.name, .int .i64 d.kind, .int .i64 d.code, .string d.text, .slice a0 d.actN cap0, .slice a1 d.linksN cap1] 76)).heap[wr.heap.size]? = some (.cells #[.string d.name, .int .i64 d.kind, .int .i64 d.code, .string d.text, .slice a0 d.actN cap0, .slice a1 d.linksN cap1] 76 (0, 0)) from (MapKept.heap_alloc wr _).1)
      have E1 := hide (show wr.heap.size < (wr.alloc (.cells #[.string d.name, .int .i64 d.kind, .int .i64 d.code, .string d.text, .slice a0 d.actN cap0, .slice a1 d.linksN cap1] 76)).heap.size by simp)
      have T1 := hide (HT.out.below B1.out (Nat.le_refl _))
      have A1 := hide (HA.out.below B1.out (Nat.le_refl _))
      have K1 := hide (HK.out.trans (KA.of_below B1.out (Nat.le_refl _) (Nat.le_trans hw0.out hlo.out)))
      have C1 := hide (DW0.out.trans (B1.out.mono DW0.out.size))
      have N1 : Hid (w.heap.size ≤ wr.heap.size ∧ wr.heap.size ≠ kb) := ⟨hlo.out, fun e => by have h1 := hlo.out; have h2 := hkb.out; omega⟩
      have L1 := hide (Nat.le_trans hlo.out B1.out.size)
      have F1 := hide ((show d.name.size ≤ maxLen ∧ d.text.size ≤ maxLen ∧ d.actN ≤ 1048576 ∧ ∀ j, j < d.linksN → (d.links j).name.size ≤ maxLen by rw [HD.out]; exact ⟨(HZ.out k hlt).1, (HZ.out k hlt).2.1, (HM.out k hlt).1, (HZ.out k hlt).2.2.2.2⟩))
      go_wp2_with fail
      generalize wr.alloc (.cells #[.string d.name, .int .i64 d.kind, .int .i64 d.code, .string d.text, .slice a0 d.actN cap0, .slice a1 d.linksN cap1] 76) = W1 at B1 X1 E1 T1 A1 K1 C1 L1 ⊢
      clear p0 p1 p2 p3 p4 p5 B1
      generalize wr.heap.size = gd at X1 E1 N1 ⊢
      have SK := hide (fun (V : World) (hV : V.heap[gd]? = W1.heap[gd]?) => (show V.cell? ⟨gd, 0, none⟩ = some (.string d.name) ∧ V.cell? ⟨gd, 1, none⟩ = some (.int .i64 d.kind) ∧ V.cell? ⟨gd, 2, none⟩ = some (.int .i64 d.code) ∧ V.cell? ⟨gd, 3, none⟩ = some (.string d.text) ∧ V.cell? ⟨gd, 4, none⟩ = some (.slice a0 d.actN cap0) ∧ V.cell? ⟨gd, 5, none⟩ = some (.slice a1 d.linksN cap1) from by
        rw [X1.out] at hV
        exact ⟨by simp [World.cell?, hV], by simp [World.cell?, hV], by simp [World.cell?, hV], by simp [World.cell?, hV], by simp [World.cell?, hV], by simp [World.cell?, hV]⟩))
      have SA := hide (fun (V : World) (hV : KA w0.heap.size kb W1 V) => (show V.heap[gd]? = W1.heap[gd]? from hV.blk gd E1.out N1.out.2 (fun cs fz e => by rw [X1.out] at e; simp at e)))
      have SM := hide (fun (V V' : World) (hV : V.heap[gd]? = W1.heap[gd]?) (hK : KM w.heap.size V V') => (show V'.heap[gd]? = W1.heap[gd]? from (hK.blk gd (Array.getElem?_eq_some_iff.1 (hV.trans X1.out)).1 (fun es c e => by rw [hV, X1.out] at e; cases e)).trans hV))
      have BD := hide (fun (V : World) (hV : Below W1.heap.size W1 V) => byDeed_any w0 kb (n0 + k) (actTo f K0 k) d a0 cap0 a1 cap1 V (by omega) F1.out.1 F1.out.2.2.1 (C1.out.trans (hV.mono C1.out.size)) Q4.out (A1.out.below hV (Nat.le_refl _)))
      have OK := hide (dTold_ok (d := d) A1.out (by omega) F1.out.2.1)
      go_region_held3 (fun V => V.cell? ⟨gd, 0, none⟩ = some (.string d.name) ∧ V.cell? ⟨gd, 1, none⟩ = some (.int .i64 d.kind) ∧ V.cell? ⟨gd, 2, none⟩ = some (.int .i64 d.code) ∧ V.cell? ⟨gd, 3, none⟩ = some (.string d.text) ∧ V.cell? ⟨gd, 4, none⟩ = some (.slice a0 d.actN cap0) ∧ V.cell? ⟨gd, 5, none⟩ = some (.slice a1 d.linksN cap1)) (first | exact SK.out _ rfl | exact SK.out _ (SA.out _ K2.out) | exact SK.out _ G3.out)
        (first
        | (go_at_call 35; refine (BD.out _ ?_).mono ?_; (first | exact Below.refl _ _ | exact (Below.refl _ _).drew); rintro e w2 ⟨rfl, hA2, hK2⟩; have K2 : Hid (KA w0.heap.size kb W1 w2) := ⟨⟨hK2.below.os, hK2.below.tape, hK2.below.output, hK2.below.size, hK2.below.block⟩, hK2.blk⟩; have A2 := hide hA2; clear hA2 hK2; have T2 := hide (T1.out.ka K2.out hkb.out); have L2 := hide (Nat.le_trans L1.out K2.out.below.size); have TL := hide (fun (V : World) (hV : Below w2.heap.size w2 V) => tell_any w.heap.size tb (k * 201) (toldTo f K0 k) d.name (dTold (actTo f K0 k) d) V (by omega) F1.out.1 OK.out (Nat.le_trans L2.out hV.size) (T2.out.below hV (Nat.le_refl _))))
        | (go_at_call 34; refine (TL.out _ ?_).mono ?_; (first | exact Below.refl _ _ | exact (Below.refl _ _).drew); rintro e w3 ⟨rfl, hT3, hM3⟩; have M3 : Hid (KM w.heap.size w2 w3) := ⟨⟨hM3.below.os, hM3.below.tape, hM3.below.output, hM3.below.size, hM3.below.block⟩, hM3.blk⟩; have T3 := hide hT3; clear hT3 hM3; have G3 := hide (SM.out w2 w3 (SA.out _ K2.out) M3.out)))
      go_simp
      obtain ⟨c0, c1, c2, c3, c4, c5⟩ := SK.out _ G3.out
      have K3 := hide ((K1.out.trans K2.out).then_below hw0.out M3.out.below)
      have A3 := hide (A2.out.km M3.out hkb.out)
      have L3 := hide (Nat.le_trans L2.out M3.out.below.size)
      have S3 := hide (show toldTo f K0 (k + 1) = toldLk d.links (fun s t => (s = d.name.toList ∧ t = dTold (actTo f K0 k) d) ∨ toldTo f K0 k s t) d.linksN by rw [HD.out]; rfl)
      have S4 := hide (show actTo f K0 (k + 1) = dActs (actTo f K0 k) d by rw [HD.out]; rfl)
      clear SK SA SM BD TL T1 A1 K1 K2 A2 T2 L2 M3 G3 L1 X1 E1 N1 C1 OK
      go_wp2
      clear c0 c1 c2 c3 c4 c5
      go_loopw [28] (fun i wz => ∃ j : Nat, j ≤ d.linksN ∧ i = .int .i64 j ∧ Hid (Tale wz w.heap.size tb (k * 201 + 1 + j) (toldLk d.links (fun s t => (s = d.name.toList ∧ t = dTold (actTo f K0 k) d) ∨ toldTo f K0 k s t) j)) ∧ Hid (KM w.heap.size w3 wz)) (fun i _ => d.linksN - (intOf i).toNat)
      case atStart => exact ⟨0, by omega, rfl, by show Tale _ _ _ _ _; simpa [toldLk] using T3.out, KM.refl _ _⟩
      case round =>
        obtain ⟨j, hj, rfl, HT2, HM2⟩ := hrel
        have D5 := hide (HW.out.trans (K3.out.below.trans (HM2.out.below.mono hw0.out)))
        by_cases hjl : j < d.linksN
        · obtain ⟨b4, off4, rfl, hr4⟩ := (Q5.out.below D5.out (Nat.le_refl _)).resolve_left (by omega)
          obtain ⟨r0, r1, r2, r3⟩ := hr4.2 j hjl
          clear hr4
          have hnm := F1.out.2.2.2 j hjl
          obtain ⟨l, hl⟩ : ∃ l, l = d.links j := ⟨_, rfl⟩
          have HL := hide hl
          rw [← hl] at r0 r1 r2 r3 hnm
          clear hl
          have B5 := hide ((Below.refl wr.heap.size wr).alloc (Nat.le_refl _) (.cells #[.string l.name, .bool l.ask, .bool l.has, .int .i64 l.at_] 78))
          have L5 := hide (Nat.le_trans L3.out HM2.out.below.size)
          have M5 := hide (HM2.out.trans (KM.of_below B5.out (Nat.le_refl _) L5.out))
          have T5 := hide (HT2.out.below B5.out (Nat.le_refl _))
          have X5 := hide (show (wr.alloc (.cells #[.string l.name, .bool l.ask, .bool l.has, .int .i64 l.at_] 78)).heap[wr.heap.size]? = some (.cells #[.string l.name, .bool l.ask, .bool l.has, .int .i64 l.at_] 78 (0, 0)) from (MapKept.heap_alloc wr _).1)
          have E5 := hide (show wr.heap.size < (wr.alloc (.cells #[.string l.name, .bool l.ask, .bool l.has, .int .i64 l.at_] 78)).heap.size by simp)
          cases hask : l.ask with
          | true =>
            rw [hask] at r1 B5 M5 T5 X5 E5
            have HQ := hide (show (d.links j).ask = true by rw [← HL.out]; exact hask)
            clear hask
            go_wp2
            exact ⟨⟨j + 1, by omega, by go_num, (T5.out.mono (by omega)).congr (toldLk_ask HQ.out), M5.out⟩, by simp [intOf]; omega⟩
          | false =>
            rw [hask] at r1 B5 M5 T5 X5 E5
            have HQ := hide (show (d.links j).ask = false by rw [← HL.out]; exact hask)
            have hbl := byLook_any l
            rw [hask] at hbl
            have BL := hide hbl
            clear hask hbl
            go_wp2_with fail
            generalize wr.alloc (.cells #[.string l.name, .bool false, .bool l.has, .int .i64 l.at_] 78) = W5 at B5 M5 T5 X5 E5 ⊢
            clear r0 r1 r2 r3
            generalize wr.heap.size = ge at X5 E5 B5 L5 ⊢
            have L6 := hide (Nat.le_trans L3.out M5.out.below.size)
            have SK := hide (fun (V : World) (hV : V.heap[ge]? = W5.heap[ge]?) => (show V.cell? ⟨ge, 0, none⟩ = some (.string l.name) ∧ V.cell? ⟨ge, 1, none⟩ = some (.bool false) ∧ V.cell? ⟨ge, 2, none⟩ = some (.bool l.has) ∧ V.cell? ⟨ge, 3, none⟩ = some (.int .i64 l.at_) from by
              rw [X5.out] at hV
              exact ⟨by simp [World.cell?, hV], by simp [World.cell?, hV], by simp [World.cell?, hV], by simp [World.cell?, hV]⟩))
            have SM := hide (fun (V V' : World) (hV : V.heap[ge]? = W5.heap[ge]?) (hK : KM w.heap.size V V') => (show V'.heap[ge]? = W5.heap[ge]? from (hK.blk ge (Array.getElem?_eq_some_iff.1 (hV.trans X5.out)).1 (fun es c e => by rw [hV, X5.out] at e; cases e)).trans hV))
            go_region_held3 (fun V => V.cell? ⟨ge, 0, none⟩ = some (.string l.name) ∧ V.cell? ⟨ge, 1, none⟩ = some (.bool false) ∧ V.cell? ⟨ge, 2, none⟩ = some (.bool l.has) ∧ V.cell? ⟨ge, 3, none⟩ = some (.int .i64 l.at_)) (first | exact SK.out _ rfl | exact SK.out _ G6.out | exact SK.out _ G7.out)
              (first
              | (go_at_call 36; refine (BL.out _).mono ?_; rintro e w6 ⟨rfl, hB6⟩; have B6 : Hid (Below W5.heap.size W5 w6) := ⟨hB6.os, hB6.tape, hB6.output, hB6.size, hB6.block⟩; clear hB6; have G6 := hide (B6.out.block ge E5.out); have TL := hide (fun (V : World) (hV : Below w6.heap.size w6 V) => tell_any w.heap.size tb (k * 201 + 1 + j) _ l.name (lTold l) V (by omega) hnm (lTold_ok l) (Nat.le_trans (Nat.le_trans L6.out B6.out.size) hV.size) ((T5.out.below B6.out (Nat.le_refl _)).below hV (Nat.le_refl _))))
              | (go_at_call 34; refine (TL.out _ ?_).mono ?_; (first | exact Below.refl _ _ | exact (Below.refl _ _).drew); rintro e w7 ⟨rfl, hT7, hM7⟩; have M7 : Hid (KM w.heap.size w6 w7) := ⟨⟨hM7.below.os, hM7.below.tape, hM7.below.output, hM7.below.size, hM7.below.block⟩, hM7.blk⟩; have T7 := hide hT7; clear hT7 hM7; have G7 := hide (SM.out w6 w7 G6.out M7.out)))
            go_simp
            have M8 := hide (M5.out.trans ((KM.of_below B6.out (Nat.le_refl _) L6.out).trans M7.out))
            clear SK SM TL BL
            go_wp2
            refine ⟨⟨j + 1, by omega, by go_num, T7.out.congr ?_, M8.out⟩, by simp [intOf]; omega⟩
            rw [HL.out]
            exact toldLk_look HQ.out
        · obtain rfl : j = d.linksN := by omega
          go_wp2
          refine ⟨⟨k + 1, by omega, by go_num, ?_, ?_, ?_⟩, by simp [intOf]; omega⟩
          · show Tale _ _ _ _ _
            rw [S3.out]
            exact HT2.out.mono (by omega)
          · show Acts _ _ _ _ _
            rw [S4.out]
            exact A3.out.km HM2.out hkb.out
          · exact K3.out.then_below hw0.out HM2.out.below
    · obtain rfl : k = n := by omega
      go_wp2
      go_ret
      exact ⟨tb, rfl, HT.out.mono (by omega), HA.out, HK.out⟩

end Go.Proofs.YtkikpcklccdihaaGreatDoor.Vp
