/-
  Put together of: WhMap, WhSet.
-/
import Derived.Test.YtkgddbcjmejfaaaGreatDoorZM
import Derived.Test.YtkgddbcjmejfaaaGreatDoorZN
import Derived.Maps.OwnSet
import Derived.Maps.Views
import Derived.Maps.RangeWalk
import Derived.Maps.AppendAt
import Derived.StringKeys
import Derived.DeepKeys4

/-
  Why, impl: maps keyed by names whose elements lead to memory; sets of what is told.
-/
namespace Go.Proofs.YtkgddbcjmejfaaaGreatDoor.Vp
open Go.RowKit Go.Maps

section
variable (w : World) {ops : Array Oper} {rest : List Oper} {o : Oper} {a : Act} {Q : Exit → Act → World → Prop}

/-- A range over such a map under way: the names still to come. -/
def RgN (w : World) (b r n : Nat) (G : List UInt8 → Option Value) (left : List UInt8 → Bool) (cnt : Nat) : Prop :=
  ∃ (D : DataW Value) (L : Lit → Bool), w.ranges Tryz.prog 9 valElem b r n D L cnt ∧ (∀ s, Maps.has D (.string s) = (G s).isSome ∧ ∀ v, G s = some v → ∀ zd, D.atKey (.string s) zd = .held v) ∧ ∀ s, left s = L (.string s)
theorem RgN.map {w : World} {b r n : Nat} {G : List UInt8 → Option Value} {left : List UInt8 → Bool} {cnt : Nat} (h : RgN w b r n G left cnt) : MapN w b n G := by
  obtain ⟨D, L, h1, h2, -⟩ := h
  exact ⟨D, h1.owns, h2⟩
theorem RgN.left_eq {w : World} {b r n : Nat} {G : List UInt8 → Option Value} {left : List UInt8 → Bool} {cnt : Nat} (h : RgN w b r n G left cnt) : w.rangeLeft b r = cnt := by
  obtain ⟨D, L, h1, -, -⟩ := h
  exact h1.left_eq
theorem RgN.blk {w w' : World} {b r n : Nat} {G : List UInt8 → Option Value} {left : List UInt8 → Bool} {cnt : Nat} (h : RgN w b r n G left cnt) (hb : w'.heap[b]? = w.heap[b]?) (hr : w'.heap[r]? = w.heap[r]?) : RgN w' b r n G left cnt := by
  obtain ⟨D, L, ⟨es, clock, since, seen, c0, h1, h2, h3, h4, h5, h6⟩, hG, hL⟩ := h
  exact ⟨D, L, ⟨es, clock, since, seen, c0, hb.trans h1, h2, h3, h4, hr.trans h5, h6⟩, hG, hL⟩
theorem RgN.lt {w : World} {b r n : Nat} {G : List UInt8 → Option Value} {left : List UInt8 → Bool} {cnt : Nat} (h : RgN w b r n G left cnt) : b < w.heap.size ∧ r < w.heap.size ∧ r ≠ b := by
  obtain ⟨D, L, h1, -, -⟩ := h
  exact ⟨h1.owns.lt, h1.lt, h1.ne⟩

/-- 'range m'. -/
theorem wpN_range (hg : o.guard = none) (m : Operand) (t : TypeId) (hop : o.op = Op.range t m) (e : TypeId) (ht : Tryz.prog.underlying t = some (.map 9 e)) (b n : Nat) (G : List UInt8 → Option Value)
    (hm : a.eval m = .map (some b)) (hown : MapN w b n G)
    (hK : ∀ w' cnt, RgN w' b w.heap.size n G (fun s => (G s).isSome) cnt → w.grownBy w' none → w'.heap.size = w.heap.size + 1 → wpList Tryz.prog ops Q rest (a.put o.dst (.pointer (some ⟨w.heap.size, 0, none⟩))) w') :
    wpList Tryz.prog ops Q (o :: rest) a w := by
  obtain ⟨D, hD, hG⟩ := hown
  exact wpList_range_own w hg m t hop 9 e str_key ht valElem b n D hm hD fun w' h1 h2 h3 => hK w' _ ⟨D, _, h1, hG, fun s => (hG s).1.symm⟩ h2 h3

/-- The step. -/
theorem wpN_next (hg : o.guard = none) (it : Operand) (hop : o.op = Op.next it false) (b r n : Nat) (G : List UInt8 → Option Value) (left : List UInt8 → Bool) (cnt : Nat)
    (hit : a.eval it = .pointer (some ⟨r, 0, none⟩)) (h : RgN w b r n G left cnt)
    (hDone : (∀ s, left s = false) → wpList Tryz.prog ops Q rest (a.put o.dst (.tuple #[.bool false])) w)
    (hMore : ∀ (x : ByteArray) (v : Value) (w' : World) (cnt' : Nat), x.size ≤ maxLen → left x.toList = true → G x.toList = some v → RgN w' b r n G (fun s => left s && decide (s ≠ x.toList)) cnt' → cnt' < cnt →
      w.grownBy w' (some r) → w'.heap.size = w.heap.size → (Instr.entry (.pointer (some ⟨r, 0, none⟩))).run Tryz.prog w' = .ok (.tuple #[.string x, v]) w' → wpList Tryz.prog ops Q rest (a.put o.dst (.tuple #[.bool true, .string x, v])) w') :
    wpList Tryz.prog ops Q (o :: rest) a w := by
  obtain ⟨D, L, hR, hG, hL⟩ := h
  refine wpList_plain hg fun K' hK' => ?_
  unfold Oper.wp
  rcases hR.next str_key o.type with ⟨h0, hl, hrun⟩ | ⟨key, v, kl, y, w', cnt', hkey, hlk, hv, hat, hrun, hrg, hlt, hgr, hsz, hen⟩
  · simp [execOp, hop, hit, hrun, Result.andThen]
    exact hK' _ _ (hDone fun s => by rw [hL, hl])
  · obtain ⟨x, rfl, rfl, hx⟩ := WideMaps.string_of_keyOf Tryz.underlying9 hkey
    simp [execOp, hop, hit, hrun, Result.andThen]
    have hhas : Maps.has D (.string x.toList) = true := by
      rw [ByteArray.toList_eq]
      exact Maps.has_true_of_atKey hat
    obtain ⟨u, hu⟩ : ∃ u, G x.toList = some u := by
      rw [(hG _).1] at hhas
      exact Option.isSome_iff_exists.1 hhas
    have huv : u = v := by
      have h1 := (hG _).2 u hu (.held u)
      rw [ByteArray.toList_eq, hat] at h1
      unfold valElem at hv
      simp only [Option.some.injEq] at hv
      rw [← hv] at h1
      simpa using h1.symm
    subst huv
    refine hK' _ _ (hMore x u w' cnt' hx (by rw [hL, ByteArray.toList_eq]; exact hlk) hu ⟨D, _, hrg, hG, fun s => ?_⟩ hlt hgr hsz hen)
    show (left s && decide (s ≠ x.toList)) = _
    rw [hL, ByteArray.toList_eq]
    by_cases e : s = x.data.toList
    · rw [e, WideAt.sameKey_self (by simp [WideAt.IsKeyLit])]
      simp
    · rw [Maps.sameKey_ne (by simpa using e)]
      simp [e]

end

end Go.Proofs.YtkgddbcjmejfaaaGreatDoor.Vp

/-
  Why, impl: sets of what is told of a name.
-/
namespace Go.Proofs.YtkgddbcjmejfaaaGreatDoor.Vp
open Go.RowKit Go.Maps

/-- What impl is told of a name. -/
structure Told where
  kind : Int
  text : ByteArray
  act : Int
def tv (t : Told) : Value := .agg #[.int .i64 t.kind, .string t.text, .int .i64 t.act]
def TOk (t : Told) : Prop := (Lit.int .i64 t.kind).wf = true ∧ t.text.size ≤ maxLen ∧ (Lit.int .i64 t.act).wf = true
theorem tv_inj {t u : Told} (h : tv t = tv u) : t = u := by
  cases t; cases u
  simp [tv] at h
  simp [h]
def tk (t : Told) : Lit := .string (keyBytes [.int .i64 t.kind, .string t.text.data.toList, .int .i64 t.act])
theorem laidOut0 : laidOutB Tryz.prog = true := by kernel_rfl
theorem told_row : (104 : TypeId) < Tryz.prog.types.size := of_decide_eq_true (by kernel_rfl)
theorem told_wide : (match Tryz.prog.underlying 104 with | some (.array _ _) | some (.struct _) => true | _ => false) = true := by rw [Tryz.underlying104]
theorem told_at : Tryz.prog.keyTypeAt 2 104 = true := by kernel_rfl
set_option maxRecDepth 100000 in
theorem told_law : WideMaps.KeyLaw Tryz.prog 104 := deep_law_laid laidOut0 (m := 2) (by omega) told_row told_at told_wide
theorem told_key : Keyed Tryz.prog 104 := Keyed.of_law told_law
theorem told_cells : Tryz.prog.cellsOf 104 = 3 := by kernel_rfl
theorem told_int : Tryz.prog.cellsOf 3 = 1 := by kernel_rfl
theorem told_str : Tryz.prog.cellsOf 9 = 1 := by kernel_rfl
theorem told_type : Tryz.prog.keyType 104 = true := by kernel_rfl
theorem types_size : ∃ m, Tryz.prog.types.size = m + 1 := by
  have h : (104 : Nat) < Tryz.prog.types.size := told_row
  generalize Tryz.prog.types.size = k at h ⊢
  exact ⟨k - 1, by omega⟩
theorem tk_key {t : Told} (h : TOk t) : keyOf Tryz.prog 104 (tv t) = some (tk t) := by
  obtain ⟨h0, h1, h2⟩ := h
  obtain ⟨m, hm⟩ := types_size
  unfold keyOf
  rw [Tryz.underlying104]
  simp only []
  rw [if_pos (by rw [told_type]; simp [tv, Value.formed, Tryz.underlying104, told_cells]), hm]
  have hl : Tryz.prog.keyLits (m + 1 + 1) 104 (tv t).cells.toList = some [.int .i64 t.kind, .string t.text.data.toList, .int .i64 t.act] := by
    simp [Program.keyLits, Tryz.underlying104, told_cells, told_int, told_str, tv, Value.cells, Tryz.underlying3, Tryz.underlying9, h0, h1, h2]
  rw [hl]
  rfl
theorem tk_lit {t : Told} (h : TOk t) : WideAt.IsKeyLit (tk t) := told_key.key (tk_key h)
theorem tk_inj {t u : Told} (ht : TOk t) (hu : TOk u) (h : tk t = tk u) : t = u :=
  tv_inj (told_key.inj (tk_key ht) (h ▸ tk_key hu))

/-- Block b is a set of what is told: S. -/
def SetT (w : World) (b n : Nat) (S : Told → Prop) : Prop :=
  ∃ D : DataW Unit, w.ownsMap Tryz.prog 104 unitElem b n D ∧ (∀ kl, Maps.has D kl = true → ∃ t, S t ∧ kl = tk t) ∧ ∀ t, S t → TOk t ∧ Maps.has D (tk t) = true
theorem setT_new (w : World) : SetT (w.alloc (.map #[] 0)) w.heap.size 0 (fun _ => False) :=
  ⟨_, World.ownsMap_made w Tryz.prog 104 unitElem, fun kl h => by simp [Maps.has] at h, fun t h => h.elim⟩
theorem SetT.lt {w : World} {b n : Nat} {S : Told → Prop} (h : SetT w b n S) : b < w.heap.size := by
  obtain ⟨D, h1, -⟩ := h
  exact h1.lt
theorem SetT.isMap {w : World} {b n : Nat} {S : Told → Prop} (h : SetT w b n S) : ∃ es c, w.heap[b]? = some (.map es c) := by
  obtain ⟨D, ⟨es, clock, h1, -⟩, -⟩ := h
  exact ⟨es, clock, h1⟩
theorem SetT.blk {w w' : World} {b n : Nat} {S : Told → Prop} (h : SetT w b n S) (hb : w'.heap[b]? = w.heap[b]?) : SetT w' b n S := by
  obtain ⟨D, ⟨es, clock, h1, r⟩, h2⟩ := h
  exact ⟨D, ⟨es, clock, hb.trans h1, r⟩, h2⟩
theorem SetT.mono {w : World} {b n n' : Nat} {S : Told → Prop} (h : SetT w b n S) (hn : n ≤ n') : SetT w b n' S := by
  obtain ⟨D, h1, h2⟩ := h
  exact ⟨D, h1.mono hn, h2⟩
theorem SetT.ok {w : World} {b n : Nat} {S : Told → Prop} (h : SetT w b n S) {t : Told} (ht : S t) : TOk t := by
  obtain ⟨D, -, -, h3⟩ := h
  exact (h3 t ht).1

set_option maxRecDepth 100000 in
set_option maxHeartbeats 4000000 in
theorem addT_any (b n : Nat) (S : Told → Prop) (x : Told) (w : World) (hn : (n : Int) ≤ 1048576) (hx : TOk x) (h : SetT w b n S) :
    Calls Tryz.prog 69 #[.map (some b), tv x] w fun e w' => e = .returned (.tuple #[]) ∧ SetT w' b (n + 1) (fun t => t = x ∨ S t) ∧ w.grownBy w' (some b) := by
  obtain ⟨D, hown, h1, h2⟩ := h
  have A0 := hide (World.grownBy_alloc w (.cells #[.int .i64 x.kind, .string x.text, .int .i64 x.act] 104) (some b))
  have HM := hide (hown.alloc (.cells #[.int .i64 x.kind, .string x.text, .int .i64 x.act] 104))
  have HK := hide (tk_key hx)
  have HP := hide (show (∀ kl, Maps.has (D.put (tk x) (.agg [])) kl = true → ∃ t, (t = x ∨ S t) ∧ kl = tk t) ∧ ∀ t, (t = x ∨ S t) → TOk t ∧ Maps.has (D.put (tk x) (.agg [])) (tk t) = true from by
    refine ⟨fun kl hkl => ?_, fun t ht => ?_⟩
    · by_cases e : kl = tk x
      · exact ⟨x, .inl rfl, e⟩
      · rw [Maps.has_put_other e] at hkl
        obtain ⟨t, ht, rfl⟩ := h1 kl hkl
        exact ⟨t, .inr ht, rfl⟩
    · by_cases e : t = x
      · subst e
        exact ⟨hx, Maps.has_put_same hown.isMap (tk_lit hx) _⟩
      · have ht : S t := ht.resolve_left e
        have h3 := h2 t ht
        exact ⟨h3.1, by rw [Maps.has_put_other (fun h => e (tk_inj h3.1 hx h))]; exact h3.2⟩)
  clear hown h1 h2
  show Calls Tryz.prog 69 #[.map (some b), .agg #[.int .i64 x.kind, .string x.text, .int .i64 x.act]] w _
  have HKEY := hide (show keyOf Tryz.prog 104 (.agg #[.int .i64 x.kind, .string x.text, .int .i64 x.act]) = some (tk x) from HK.out)
  go_enter Tryz.func69, Tryz.ntmps69
  go_wp2_with (at_mapUpdate; refine wpList_mapUpdate_own _ rfl _ _ _ 77 rfl 104 82 told_key Tryz.underlying77 unitElem b n D rfl HM.out (by unfold maxLen; omega) _ _ _ rfl rfl HKEY.out _ [] unitElem_mk ?_; intro w1 hown1 hgrow1; have M1 := hide hown1; have G1 := hide hgrow1; clear hown1 hgrow1)
  go_end0
  exact ⟨rfl, ⟨_, M1.out, HP.out⟩, A0.out.trans G1.out⟩

/-- What a set that may be nil holds. -/
def SetO (w : World) (mb : Option Nat) (n : Nat) (S : Told → Prop) : Prop := match mb with | none => ∀ t, ¬ S t | some b => SetT w b n S
theorem SetO.ok {w : World} {mb : Option Nat} {n : Nat} {S : Told → Prop} (h : SetO w mb n S) {t : Told} (ht : S t) : TOk t := by
  cases mb with
  | none => exact absurd ht (h t)
  | some b => exact SetT.ok h ht
/-- A range over such a set under way: what is still to come. -/
def RgT (w : World) (mb : Option Nat) (r n : Nat) (S L : Told → Prop) (cnt : Nat) : Prop :=
  match mb with
  | none => (∀ t, ¬ S t) ∧ (∀ t, ¬ L t) ∧ cnt = 0 ∧ w.heap[r]? = some (.mapIter none 0 #[] 0)
  | some b => ∃ (D : DataW Unit) (l : Lit → Bool), w.ranges Tryz.prog 104 unitElem b r n D l cnt ∧ (∀ kl, l kl = true → ∃ t, L t ∧ kl = tk t) ∧ ∀ t, L t → S t ∧ TOk t ∧ l (tk t) = true
def rgLeft (w : World) (mb : Option Nat) (r : Nat) : Nat := match mb with | none => 0 | some b => w.rangeLeft b r
theorem RgT.left_eq {w : World} {mb : Option Nat} {r n : Nat} {S L : Told → Prop} {cnt : Nat} (h : RgT w mb r n S L cnt) : rgLeft w mb r = cnt := by
  cases mb with
  | none => exact h.2.2.1.symm
  | some b => obtain ⟨D, l, h1, -⟩ := h; exact h1.left_eq
theorem RgT.blk {w w' : World} {mb : Option Nat} {r n : Nat} {S L : Told → Prop} {cnt : Nat} (h : RgT w mb r n S L cnt) (hb : ∀ b, mb = some b → w'.heap[b]? = w.heap[b]?) (hr : w'.heap[r]? = w.heap[r]?) : RgT w' mb r n S L cnt := by
  cases mb with
  | none => exact ⟨h.1, h.2.1, h.2.2.1, hr.trans h.2.2.2⟩
  | some b =>
    obtain ⟨D, l, ⟨es, clock, since, seen, c0, h1, h2, h3, h4, h5, h6⟩, hL⟩ := h
    exact ⟨D, l, ⟨es, clock, since, seen, c0, (hb b rfl).trans h1, h2, h3, h4, hr.trans h5, h6⟩, hL⟩
theorem RgT.lt {w : World} {mb : Option Nat} {r n : Nat} {S L : Told → Prop} {cnt : Nat} (h : RgT w mb r n S L cnt) : r < w.heap.size ∧ ∀ b, mb = some b → b < w.heap.size ∧ b ≠ r := by
  cases mb with
  | none => exact ⟨(Array.getElem?_eq_some_iff.1 h.2.2.2).1, fun b e => by cases e⟩
  | some b =>
    obtain ⟨D, l, h1, -⟩ := h
    exact ⟨h1.lt, fun b' e => by cases e; exact ⟨h1.owns.lt, fun e => h1.ne e.symm⟩⟩

section
variable (w : World) {ops : Array Oper} {rest : List Oper} {o : Oper} {a : Act} {Q : Exit → Act → World → Prop}

/-- 'range m'. -/
theorem wpT_range (hg : o.guard = none) (m : Operand) (hop : o.op = Op.range 77 m) (mb : Option Nat) (n : Nat) (S : Told → Prop)
    (hm : a.eval m = .map mb) (hown : SetO w mb n S)
    (hK : ∀ w' cnt, RgT w' mb w.heap.size n S S cnt → w.grownBy w' none → w'.heap.size = w.heap.size + 1 → wpList Tryz.prog ops Q rest (a.put o.dst (.pointer (some ⟨w.heap.size, 0, none⟩))) w') :
    wpList Tryz.prog ops Q (o :: rest) a w := by
  cases mb with
  | none =>
    refine wpList_plain hg fun K' hK' => ?_
    unfold Oper.wp
    have hrun := run_range_nilMap (P := Tryz.prog) w 77 104 82 Tryz.underlying77
    simp [execOp, hop, hm, hrun, Result.andThen]
    exact hK' _ _ (hK _ 0 ⟨hown, hown, rfl, (MapKept.heap_alloc w _).1⟩ (World.grownBy_alloc w _ none) (by simp))
  | some b =>
    obtain ⟨D, hD, h1, h2⟩ := hown
    exact wpList_range_own w hg m _ hop 104 82 told_key Tryz.underlying77 unitElem b n D hm hD fun w' k1 k2 k3 => hK w' _ ⟨D, _, k1, fun kl hkl => h1 kl hkl, fun t ht => ⟨ht, h2 t ht⟩⟩ k2 k3

/-- The step. -/
theorem wpT_next (hg : o.guard = none) (it : Operand) (hop : o.op = Op.next it false) (mb : Option Nat) (r n : Nat) (S L : Told → Prop) (cnt : Nat)
    (hit : a.eval it = .pointer (some ⟨r, 0, none⟩)) (h : RgT w mb r n S L cnt)
    (hDone : (∀ t, ¬ L t) → wpList Tryz.prog ops Q rest (a.put o.dst (.tuple #[.bool false])) w)
    (hMore : ∀ (t : Told) (w' : World) (cnt' : Nat), S t → L t → RgT w' mb r n S (fun u => L u ∧ u ≠ t) cnt' → cnt' < cnt →
      w.grownBy w' (some r) → w'.heap.size = w.heap.size → (Instr.entry (.pointer (some ⟨r, 0, none⟩))).run Tryz.prog w' = .ok (.tuple #[.agg #[.int .i64 t.kind, .string t.text, .int .i64 t.act], .agg #[]]) w' → wpList Tryz.prog ops Q rest (a.put o.dst (.tuple #[.bool true, .agg #[.int .i64 t.kind, .string t.text, .int .i64 t.act], .agg #[]])) w') :
    wpList Tryz.prog ops Q (o :: rest) a w := by
  cases mb with
  | none =>
    obtain ⟨h0, h1, h2, h3⟩ := h
    refine wpList_plain hg fun K' hK' => ?_
    unfold Oper.wp
    have hrun : (Instr.next (.pointer (some ⟨r, 0, none⟩)) false o.type).run Tryz.prog w = .ok (.tuple #[.bool false]) w := by
      simp only [Instr.next, getObj, Sem.run_bind, Sem.run, h3, Result.andThen]
      rfl
    simp [execOp, hop, hit, hrun, Result.andThen]
    exact hK' _ _ (hDone h1)
  | some b =>
    obtain ⟨D, l, hR, hl1, hl2⟩ := h
    refine wpList_plain hg fun K' hK' => ?_
    unfold Oper.wp
    rcases hR.next told_key o.type with ⟨h0, hl, hrun⟩ | ⟨key, v, kl, y, w', cnt', hkey, hlk, hv, hat, hrun, hrg, hlt, hgr, hsz, hen⟩
    · simp [execOp, hop, hit, hrun, Result.andThen]
      exact hK' _ _ (hDone fun t ht => by have := (hl2 t ht).2.2; rw [hl] at this; cases this)
    · obtain ⟨t, hLt, rfl⟩ := hl1 kl hlk
      obtain ⟨hS, hok, hlt2⟩ := hl2 t hLt
      obtain rfl : key = tv t := told_key.inj hkey (tk_key hok)
      obtain ⟨rfl, -⟩ := unitElem_inv hv
      simp [execOp, hop, hit, hrun, Result.andThen]
      refine hK' _ _ (hMore t w' cnt' hS hLt ⟨D, _, hrg, fun kl hkl => ?_, fun u hu => ?_⟩ hlt hgr hsz hen)
      · simp only [Bool.and_eq_true, Bool.not_eq_true'] at hkl
        obtain ⟨u, hu, rfl⟩ := hl1 kl hkl.1
        refine ⟨u, ⟨hu, fun e => ?_⟩, rfl⟩
        subst e
        rw [WideAt.sameKey_self (tk_lit hok)] at hkl
        exact absurd hkl.2 (by simp)
      · obtain ⟨k1, k2, k3⟩ := hl2 u hu.1
        refine ⟨k1, k2, ?_⟩
        show (l (tk u) && !(tk u).sameKey (tk t)) = true
        rw [k3, Maps.sameKey_ne (fun e => hu.2 (tk_inj k2 hok e))]
        rfl

end

end Go.Proofs.YtkgddbcjmejfaaaGreatDoor.Vp
