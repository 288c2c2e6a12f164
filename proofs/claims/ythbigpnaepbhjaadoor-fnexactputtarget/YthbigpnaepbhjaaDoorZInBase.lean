/-
  slices.Insert at elements of two cells: at the end; copies of rows.
-/
import Derived.Test.YthbigpnaepbhjaaDoorZM
import Derived.Shelf.Spec.SlicesInsert
import Derived.Laws.CopyRow
import Derived.Lib.AppendZerosOnto
import Derived.Deep.RegionLaw
namespace Go.Proofs.YthbigpnaepbhjaaDoor.Vp
open Go.RowKit

/-- copy between rows of elements of any size. -/
theorem run_copy_wide {P : Program} (w : World) (dT sT ty elem : TypeId) (g o dLen dCap : Nat) (a : Addr) (sLen sCap size : Nat) (cur : Array Value) (t : TypeId) (cs : List Value)
    (hu : P.underlying dT = some (.slice elem)) (hs : (P.info? elem).map (·.size) = some size)
    (hg : w.heap[g]? = some (.cells cur t (0, 0))) (hn : cs.length = Nat.min sLen dLen * size)
    (hsrc : ∀ j v, cs[j]? = some v → w.cell? (a.add j) = some v) (hfit : o + cs.length ≤ cur.size) (h1 : ∀ v ∈ cs, v.oneCell' = true) :
    (Builtin.copy_ #[dT, sT] ty #[.slice (some ⟨g, o, none⟩) dLen dCap, .slice (some a) sLen sCap]).run P w =
      .ok (goInt (Nat.min sLen dLen)) (w.setRow g (cur.toList.take o ++ cs ++ cur.toList.drop (o + cs.length)).toArray) := by
  have hl := run_loadCells_list (P := P) w a cs hsrc
  have hst := run_storeCells_at P g o t cs 0 cur w hg (by simpa using hfit) h1
  cases hq : P.info? elem with
  | none => simp [hq] at hs
  | some i =>
    have hi : i.size = size := by simpa [hq] using hs
    simp [Builtin.copy_, run_underlying hu, Builtin.lenOf, Builtin.firstCells, sizeOf, typeInfo, hq, hi, ← hn, hl, hst]

theorem two_at {w : World} {vb : Nat} {p q : Value} {e : TypeId} (hx : w.heap[vb]? = some (.cells #[p, q] e (0, 0))) : ∀ j u, [p, q][j]? = some u → w.cell? ((⟨vb, 0, none⟩ : Addr).add j) = some u := by
  intro j u hj
  rw [Addr.add_lit, Nat.zero_add]
  have e : w.cell? ⟨vb, j, none⟩ = #[p, q][j]? := by simp [World.cell?, hx]
  rw [e, ← hj]
  simp

set_option maxRecDepth 100000 in
set_option maxHeartbeats 4000000 in
theorem insertSource_end (base : Nat) (v : Value) (n : Nat) (xs : List Value) (vb : Nat) (p q : ByteArray) (w : World) (hn : (n : Int) ≤ 1048576) (hown : w.ownsRow base 57 2 v n xs) (hx : w.heap[vb]? = some (.cells #[.string p, .string q] 57 (0, 0))) (hbase : base ≤ w.heap.size) :
    Calls Tryd.prog 30 #[v, .int .i64 n, .slice (some ⟨vb, 0, none⟩) 1 1] w fun e w' => ∃ v', e = .returned v' ∧ w'.ownsRow base 57 2 v' (n + 1) (xs ++ [.string p, .string q]) ∧ w.grownBy w' v.ownBlock := by
  obtain ⟨i0, hi, hz0, hz1, hz2⟩ := info_parts infoSource
  have OW := hide hown
  have HX := hide hx
  have HB := hide hbase
  clear hx hbase
  rcases hown.2 with ⟨rfl, rfl⟩ | ⟨g, cap, cur, rfl, -, -, hc1, hc2, -, -⟩
  · clear hown
    go_enter Tryd.func30, Tryd.ntmps30
    go_wp2_with (at_builtin; (refine wpList_append_own _ rfl (.tmp 23) (.tmp 24) 27 rfl base 57 i0 (.agg #[.string ⟨#[]⟩, .string ⟨#[]⟩]) 2 32 Tryd.underlying27 hi hz0 hz1 hz2 rfl (by decide) (.slice none 0 0) 0 xs (by simp [Act.eval]) OW.out ⟨vb, 0, none⟩ 1 1 [.string p, .string q] (by simp [Act.eval]) rfl (two_at HX.out) (by simp [Value.oneCell']) (by unfold maxLen; omega) (by omega) HB.out ?_; intro v' w' ho hgr _; have O2 := hide ho; have G2 := hide hgr; clear ho hgr))
    go_ret
    exact ⟨_, rfl, O2.out, G2.out⟩
  · clear hown
    have hc3 : cap ≤ 9223372036854775807 := by unfold maxLen at hc2; omega
    go_enter Tryd.func30, Tryd.ntmps30
    go_wp2_with (at_builtin; (refine wpList_append_own _ rfl (.tmp 23) (.tmp 24) 27 rfl base 57 i0 (.agg #[.string ⟨#[]⟩, .string ⟨#[]⟩]) 2 32 Tryd.underlying27 hi hz0 hz1 hz2 rfl (by decide) (.slice (some ⟨g, 0, none⟩) n cap) n xs (by simp [Act.eval]) OW.out ⟨vb, 0, none⟩ 1 1 [.string p, .string q] (by simp [Act.eval]) rfl (two_at HX.out) (by simp [Value.oneCell']) (by unfold maxLen; omega) (by omega) HB.out ?_; intro v' w' ho hgr _; have O2 := hide ho; have G2 := hide hgr; clear ho hgr))
    all_goals (go_ret; exact ⟨_, rfl, O2.out, G2.out⟩)

end Go.Proofs.YthbigpnaepbhjaaDoor.Vp
