/-
  Put together of: NmSet.
-/
import Derived.Test.YtkgddbcjmejfaaaGreatDoorZN
import Derived.Test.YtkgddbcjmejfaaaGreatDoorZB
import Derived.Maps.OwnSet
import Derived.Maps.Views
import Derived.StringKeys

/-
  impl: a set of names: add, sorted.
-/
namespace Go.Proofs.YtkgddbcjmejfaaaGreatDoor.Vp
open Go.RowKit Go.Maps Go.Sort Go.Shelf

/-- the map in block mb is a set of just the names of L. -/
def SetIs (w : World) (mb n : Nat) (L : List (List UInt8)) : Prop :=
  ∃ D : DataW Unit, w.ownsMap Tryz.prog 9 unitElem mb n D ∧ ∀ x, x ∈ L ↔ Maps.has D (.string x) = true
theorem setIs_new (w : World) : SetIs (w.alloc (.map #[] 0)) w.heap.size 0 [] :=
  ⟨_, World.ownsMap_made w Tryz.prog 9 unitElem, fun x => by simp [Maps.has]⟩
theorem SetIs.grown {w w' : World} {mb n : Nat} {L : List (List UInt8)} (h : SetIs w mb n L) {B : Nat} (hb : Below B w w') (hB : mb < B) : SetIs w' mb n L := by
  obtain ⟨D, ⟨es, clock, h1, Ft, hs, hD⟩, h2⟩ := h
  exact ⟨D, ⟨es, clock, (hb.block mb hB).trans h1, Ft, hs, hD⟩, h2⟩
theorem SetIs.lt {w : World} {mb n : Nat} {L : List (List UInt8)} (h : SetIs w mb n L) : mb < w.heap.size := by
  obtain ⟨D, h1, -⟩ := h
  exact h1.lt
theorem has_lput {D : DataW Unit} {L : List (List UInt8)} {x : List UInt8} (hD : Maps.IsMap D) (h : ∀ z, z ∈ L ↔ Maps.has D (.string z) = true) (d : DataW Unit) : ∀ z, z ∈ lput L x ↔ Maps.has (D.put (.string x) d) (.string z) = true := by
  intro z
  rw [mem_lput]
  by_cases e : z = x
  · subst e
    rw [Maps.has_put_same hD (by simp [WideAt.IsKeyLit])]
    simp
  · rw [Maps.has_put_other (by simpa using e), ← h z]
    simp [e]

set_option maxRecDepth 100000 in
set_option maxHeartbeats 4000000 in
theorem add_any (mb n : Nat) (L : List (List UInt8)) (x : ByteArray) (w : World) (hn : (n : Int) ≤ 1048576) (hx : x.size ≤ maxLen) (h : SetIs w mb n L) :
    Calls Tryz.prog 24 #[.map (some mb), .string x] w fun e w' => e = .returned (.tuple #[]) ∧ SetIs w' mb (n + 1) (lput L x.toList) ∧ w.grownBy w' (some mb) := by
  obtain ⟨D, hown, hh⟩ := h
  have HM := hide hown
  have HH := hide (has_lput hown.isMap (x := x.toList) hh (.agg []))
  clear hh hown
  have hkey := WideMaps.keyOf_string_mk (P := Tryz.prog) (k := 9) Tryz.underlying9 hx
  have HKEY := hide hkey
  clear hkey
  go_enter Tryz.func24, Tryz.ntmps24
  go_wp2_with (at_mapUpdate; refine wpList_mapUpdate_own _ rfl _ _ _ 57 rfl 9 82 (Maps.string_keyed Tryz.underlying9) Tryz.underlying57 unitElem mb n D rfl HM.out (by unfold maxLen; omega) _ _ _ rfl rfl HKEY.out _ [] unitElem_mk ?_; intro w1 hown1 hgrow1; have M1 := hide hown1; have G1 := hide hgrow1; clear hown1 hgrow1)
  go_end0
  refine ⟨rfl, ⟨_, M1.out, ?_⟩, G1.out⟩
  have := HH.out
  simp only [ByteArray.toList_eq] at this ⊢
  exact this

set_option maxRecDepth 100000 in
set_option maxHeartbeats 4000000 in
theorem sorted_any (mb n : Nat) (L : List (List UInt8)) (w : World) (hn : (n : Int) ≤ 1048576) (hL : L.Pairwise (· < ·)) (h : SetIs w mb n L) :
    Calls Tryz.prog 27 #[.map (some mb)] w fun e w' => ∃ v, e = .returned v ∧ w'.ownsRow w.heap.size 9 1 v L.length (L.map encStr) ∧ Below w.heap.size w w' := by
  obtain ⟨D, hown, hh⟩ := h
  have hsz := hown.size_le
  have hnd : L.Nodup := hL.imp fun h e => by subst e; exact List.lt_irrefl _ h
  have hp : L.Perm (strKeys D) := Collected.perm (left := fun _ => false) ⟨hnd, fun x => by rw [hh x]; simp⟩ hown (Maps.string_keyed Tryz.underlying9) Tryz.underlying9 (fun _ => rfl)
  have HP := hide hp
  have HN := hide hnd
  have HL := hide hL
  clear hp hnd hL hh
  refine (callsIn_wide (n := 6)).1 ?_
  have hfK : Fence.wide.fn 43 := trivial
  have hfS : Fence.wide.fn 42 := trivial
  refine callsIn_of_wp Tryz.func27 rfl trivial ?_ rfl
  simp only [Tryz.ntmps27, List.size_toArray, List.length_cons, List.length_nil, Nat.reduceAdd, Nat.reduceSub, Array.replicate_succ, Array.replicate_zero, List.push_toArray, List.append_toArray, List.nil_append, List.cons_append]
  gi_wp2_with (first
    | (gi_at_call 43; refine (Tryz.maps_Keys_43 _ _).mono ?_; rintro e w' ⟨rfl, rfl⟩)
    | (gi_at_call 42; refine (Tryz.slices_Sorted_keys_42_43 mb n D unitElem w hown (by unfold maxLen; omega) (by omega)).mono ?_; rintro e w' ⟨v, ss, rfl, hS, hrow, hnil, hb⟩))
  go_ret
  have hss : ss.Perm L := hS.trans HP.out.symm
  have hms : ss.mergeSort (fun x y => decide (x ≤ y)) = L := sort_is (hss.nodup_iff.2 HN.out) HL.out (fun z => hss.mem_iff)
  rw [hms, hss.length_eq] at hrow
  exact ⟨v, rfl, ownsRow_base_a hrow (by simp), ((Below.refl _ w).alloc (Nat.le_refl _) _).trans (hb.mono (by simp))⟩

theorem SetIs.mono {w : World} {mb n n' : Nat} {L : List (List UInt8)} (h : SetIs w mb n L) (hn : n ≤ n') : SetIs w mb n' L := by
  obtain ⟨D, h1, h2⟩ := h
  exact ⟨D, h1.mono hn, h2⟩

end Go.Proofs.YtkgddbcjmejfaaaGreatDoor.Vp
