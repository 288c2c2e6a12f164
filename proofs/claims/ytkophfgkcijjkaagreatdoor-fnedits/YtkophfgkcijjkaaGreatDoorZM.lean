import Derived.Test.YtkophfgkcijjkaaGreatDoorZC
import Derived.Maps.OwnSet
import Derived.Maps.Views
import Derived.Maps.RangeWalk
import Derived.Maps.AppendAt
import Derived.StringKeys
import Derived.DeepKeys4
namespace Go.Proofs.YtkophfgkcijjkaaGreatDoor.Vp
open Go.RowKit Go.Maps
def valElem (v : Value) : Option (DataW Value × List MemPlace) := some (.held v, [])
theorem str_key : Keyed Tryz.prog 9 := Maps.string_keyed Tryz.underlying9
def MapN (w : World) (b n : Nat) (G : List UInt8 → Option Value) : Prop :=
  ∃ D : DataW Value, w.ownsMap Tryz.prog 9 valElem b n D ∧ ∀ s, Maps.has D (.string s) = (G s).isSome ∧ ∀ v, G s = some v → ∀ zd, D.atKey (.string s) zd = .held v
theorem mapN_new (w : World) : MapN (w.alloc (.map #[] 0)) w.heap.size 0 (fun _ => none) :=
  ⟨_, World.ownsMap_made w Tryz.prog 9 valElem, fun s => ⟨by simp [Maps.has], fun v h => by cases h⟩⟩
theorem MapN.lt {w : World} {b n : Nat} {G : List UInt8 → Option Value} (h : MapN w b n G) : b < w.heap.size := by
  obtain ⟨D, h1, -⟩ := h
  exact h1.lt
theorem MapN.isMap {w : World} {b n : Nat} {G : List UInt8 → Option Value} (h : MapN w b n G) : ∃ es c, w.heap[b]? = some (.map es c) := by
  obtain ⟨D, ⟨es, clock, h1, -⟩, -⟩ := h
  exact ⟨es, clock, h1⟩
theorem MapN.blk {w w' : World} {b n : Nat} {G : List UInt8 → Option Value} (h : MapN w b n G) (hb : w'.heap[b]? = w.heap[b]?) : MapN w' b n G := by
  obtain ⟨D, ⟨es, clock, h1, r⟩, h2⟩ := h
  exact ⟨D, ⟨es, clock, hb.trans h1, r⟩, h2⟩
theorem MapN.mono {w : World} {b n n' : Nat} {G : List UInt8 → Option Value} (h : MapN w b n G) (hn : n ≤ n') : MapN w b n' G := by
  obtain ⟨D, h1, h2⟩ := h
  exact ⟨D, h1.mono hn, h2⟩
theorem MapN.congr {w : World} {b n : Nat} {G G' : List UInt8 → Option Value} (h : MapN w b n G) (hG : ∀ s, G s = G' s) : MapN w b n G' := by
  obtain rfl : G = G' := funext hG
  exact h
theorem mapN_put {D : DataW Value} {G : List UInt8 → Option Value} {x : List UInt8} {v : Value} (hD : Maps.IsMap D) (h : ∀ s, Maps.has D (.string s) = (G s).isSome ∧ ∀ v, G s = some v → ∀ zd, D.atKey (.string s) zd = .held v) :
    ∀ s, Maps.has (D.put (.string x) (.held v)) (.string s) = ((if s = x then some v else G s : Option Value)).isSome ∧ ∀ u, (if s = x then some v else G s) = some u → ∀ zd, (D.put (.string x) (.held v)).atKey (.string s) zd = .held u := by
  intro s
  by_cases e : s = x
  · subst e
    refine ⟨?_, fun u hu zd => ?_⟩
    · rw [Maps.has_put_same hD (by simp [WideAt.IsKeyLit])]
      simp
    · simp at hu
      subst hu
      exact Maps.atKey_put_same hD (by simp [WideAt.IsKeyLit]) _ _
  · have hne : Lit.string s ≠ .string x := by simpa using e
    refine ⟨?_, fun u hu zd => ?_⟩
    · rw [Maps.has_put_other hne, if_neg e]
      exact (h s).1
    · rw [if_neg e] at hu
      rw [Maps.atKey_put_other hne]
      exact (h s).2 u hu zd
section
variable (w : World) {ops : Array Oper} {rest : List Oper} {o : Oper} {a : Act} {Q : Exit → Act → World → Prop}
theorem wpN_update (hg : o.guard = none) (m x v : Operand) (t : TypeId) (hop : o.op = Op.mapUpdate t m x v) (e : TypeId) (ht : Tryz.prog.underlying t = some (.map 9 e)) (b n : Nat) (G : List UInt8 → Option Value)
    (hm : a.eval m = .map (some b)) (hown : MapN w b n G) (hn : n < maxLen) (key : ByteArray) (val : Value) (hx : a.eval x = .string key) (hv : a.eval v = val) (hk : key.size ≤ maxLen)
    (hK : ∀ w', MapN w' b (n + 1) (fun s => if s = key.toList then some val else G s) → w.grownBy w' (some b) → wpList Tryz.prog ops Q rest (a.put o.dst undef) w') :
    wpList Tryz.prog ops Q (o :: rest) a w := by
  obtain ⟨D, hD, hG⟩ := hown
  refine wpList_mapUpdate_own w hg m x v t hop 9 e str_key ht valElem b n D hm hD hn (.string key) val _ hx hv (WideMaps.keyOf_string_mk Tryz.underlying9 hk) (.held val) [] rfl ?_
  intro w1 h1 h2
  refine hK w1 ⟨_, h1, ?_⟩ h2
  have := mapN_put (x := key.toList) (v := val) hD.isMap hG
  rw [ByteArray.toList_eq] at this ⊢
  exact this
theorem wpN_lookup_ok (hg : o.guard = none) (m x : Operand) (t : TypeId) (hop : o.op = Op.lookup t m x true) (e : TypeId) (ht : Tryz.prog.underlying t = some (.map 9 e)) {z : Value} (hz : (zeroValue e).run Tryz.prog w = .ok z w) (b n : Nat) (G : List UInt8 → Option Value)
    (hm : a.eval m = .map (some b)) (hown : MapN w b n G) (key : ByteArray) (hx : a.eval x = .string key) (hk : key.size ≤ maxLen) (u : Value) (hu : (G key.toList).getD z = u) (f : Bool) (hf : (G key.toList).isSome = f)
    (hK : wpList Tryz.prog ops Q rest (a.put o.dst (.tuple #[u, .bool f])) w) :
    wpList Tryz.prog ops Q (o :: rest) a w := by
  obtain ⟨D, hD, hG⟩ := hown
  refine wpList_lookup_own_ok w hg m x t hop 9 e str_key ht valElem hz (.held z) [] rfl b n D hm hD _ _ hx (WideMaps.keyOf_string_mk Tryz.underlying9 hk) ?_
  intro v ps hv
  have hv1 : DataW.held v = D.atKey (.string key.data.toList) (.held z) := by
    unfold valElem at hv
    simp only [Option.some.injEq, Prod.mk.injEq] at hv
    exact hv.1
  rw [← ByteArray.toList_eq] at hv1 ⊢
  have e1 : v = u := by
    rw [← hu]
    cases hg : G key.toList with
    | none =>
      have h0 : Maps.has D (.string key.toList) = false := by rw [(hG _).1, hg]; rfl
      rw [Maps.atKey_of_not_has h0] at hv1
      simpa using hv1
    | some u =>
      rw [(hG _).2 u hg] at hv1
      simpa using hv1
  rw [(hG _).1, hf, e1]
  exact hK
end
end Go.Proofs.YtkophfgkcijjkaaGreatDoor.Vp
