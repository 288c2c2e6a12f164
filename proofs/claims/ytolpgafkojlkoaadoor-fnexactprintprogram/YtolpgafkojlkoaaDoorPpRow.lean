/-
  Rows of bytes that the call itself grows: append as the walk meets it.
-/
import Derived.Test.YtolpgafkojlkoaaDoorPpDef
import Derived.Lib.AppendStr
import Derived.Deep.RegionLaw
namespace Go.Proofs.YtolpgafkojlkoaaDoor.Vp
open Go.RowKit

theorem info5 : (Tryd.prog.info? 5).map (fun i => (i.zero, i.size, i.bytes)) = some (some (.int .u8 0), 1, 1) := by kernel_rfl

/-- The slice v is a row of the call's own (from base on) that holds the bytes l. -/
def Bs (w : World) (base : Nat) (v : Value) (l : List UInt8) : Prop := w.ownsRow base 5 1 v l.length (Lib.byteCells l)

theorem Bs.form {w : World} {base : Nat} {v : Value} {l : List UInt8} (h : Bs w base v l) (h0 : l ≠ []) : ∃ g cap, v = .slice (some ⟨g, 0, none⟩) l.length cap ∧ base ≤ g ∧ g < w.heap.size := by
  have hl : 0 < l.length := by cases l with | nil => exact absurd rfl h0 | cons _ _ => simp
  obtain ⟨g, cap, e⟩ := Joins.ownsRow_form h hl
  have := h.lt g (by rw [e]; rfl)
  exact ⟨g, cap, e, this.1, this.2⟩
theorem Bs.below {w w' : World} {base B : Nat} {v : Value} {l : List UInt8} (h : Bs w base v l) (hb : Below B w w') (hB : w.heap.size ≤ B) : Bs w' base v l := by
  refine ⟨h.1, ?_⟩
  rcases h.2 with hn | ⟨g, cap, cur, hv, hg, hh, r⟩
  · exact .inl hn
  · exact .inr ⟨g, cap, cur, hv, hg, by rw [hb.block g (Nat.lt_of_lt_of_le (Array.getElem?_eq_some_iff.1 hh).1 hB)]; exact hh, r⟩
theorem Bs.cell {w : World} {base g cap n : Nat} {l : List UInt8} (h : Bs w base (.slice (some ⟨g, 0, none⟩) n cap) l) (j : Nat) (hj : j < l.length) : w.cell? ((⟨g, 0, none⟩ : Addr).add j) = some (.int .u8 l[j].toNat) := by
  refine World.ownsRow.cells h (g := g) rfl j _ ?_
  simp [Lib.byteCells, hj]
theorem Bs.lit (w : World) (base : Nat) (l : List UInt8) (hb : base ≤ w.heap.size) (hl : l.length ≤ maxLen) (cs : Array Value) (hc : cs.toList = Lib.byteCells l) : Bs (w.alloc (.cells cs 5)) base (.slice (some ⟨w.heap.size, 0, none⟩) l.length l.length) l := by
  have h := World.ownsRow_lit (base := base) (e := 5) (size := 1) w cs l.length hb hl (by rw [← Array.length_toList, hc]; simp [Lib.byteCells])
  rw [hc] at h
  exact h

/-- What append(v, l2...) makes. -/
theorem run_app (w : World) (base : Nat) (ty : TypeId) (v : Value) (l : List UInt8) (hown : Bs w base v l) (ad : Addr) (c : Nat) (l2 : List UInt8)
    (hcells : ∀ j (h : j < l2.length), w.cell? (ad.add j) = some (.int .u8 l2[j].toNat)) (hb : l.length + l2.length ≤ 140737488355328) (hbase : base ≤ w.heap.size) :
    ∃ v' w', (Builtin.append_ #[31, 31] ty #[v, .slice (some ad) l2.length c]).run Tryd.prog w = .ok v' w' ∧ Bs w' base v' (l ++ l2) ∧ w.grownBy w' v.ownBlock := by
  obtain ⟨i, hi, hz⟩ := Option.map_eq_some_iff.1 info5
  simp only [Prod.mk.injEq] at hz
  obtain ⟨h1, h2, h3⟩ := hz
  obtain ⟨v', w', hr, ho, hg, _⟩ := run_append_own (P := Tryd.prog) w base 31 ty 5 i (.int .u8 0) 1 1 Tryd.underlying31 hi h1 h2 h3 rfl (by decide) v l.length (Lib.byteCells l) hown ad l2.length c (Lib.byteCells l2)
    (by simp [Lib.byteCells]) (fun j u hj => by
      have hj' : j < l2.length := by have := (List.getElem?_eq_some_iff.1 hj).1; simpa [Lib.byteCells] using this
      rw [hcells j hj']
      simp only [Lib.byteCells, List.getElem?_map, List.getElem?_eq_getElem hj', Option.map_some, Option.some.injEq] at hj
      rw [← hj])
    (fun u hu => by simp only [Lib.byteCells, List.mem_map] at hu; obtain ⟨b, _, rfl⟩ := hu; rfl) (by unfold maxLen; omega) (by omega) hbase
  refine ⟨v', w', hr, ?_, hg⟩
  unfold Bs
  rw [List.length_append]
  have e : Lib.byteCells (l ++ l2) = Lib.byteCells l ++ Lib.byteCells l2 := by simp [Lib.byteCells]
  rw [e]
  exact ho

theorem wp_app {ops : Array Oper} {rest : List Oper} {o : Oper} {a : Act} {Q : Exit → Act → World → Prop} {w : World} (hgd : o.guard = none) (s x : Operand)
    (ho : o.op = .call { callee := .builtin .append, args := #[s, x], argTypes := #[31, 31] }) (base : Nat) (v : Value) (l : List UInt8) (hs : a.eval s = v) (hown : Bs w base v l)
    (ad : Addr) (c : Nat) (l2 : List UInt8) (hx : a.eval x = .slice (some ad) l2.length c)
    (hcells : ∀ j (h : j < l2.length), w.cell? (ad.add j) = some (.int .u8 l2[j].toNat)) (hb : l.length + l2.length ≤ 140737488355328) (hbase : base ≤ w.heap.size)
    (h : ∀ v' w', Bs w' base v' (l ++ l2) → w.grownBy w' v.ownBlock → wpList Tryd.prog ops Q rest (a.put o.dst v') w') : wpList Tryd.prog ops Q (o :: rest) a w := by
  refine wpList_plain hgd fun K hK => ?_
  obtain ⟨v', w', hr, h2, h3⟩ := run_app w base o.type v l hown ad c l2 hcells hb hbase
  unfold Oper.wp execOp
  simp only [ho, resolve, invoke, builtin, Sem.run_bind, Sem.run_pure, Result.andThen_ok, List.map_toArray, List.map_cons, List.map_nil, hs, hx, hr]
  exact hK _ _ (h v' w' h2 h3)

theorem step_app {ops : Array Oper} {o : Oper} {a : Act} {w : World} {K : Act → World → Prop} {Q : Exit → Act → World → Prop} {E : Prop} (hgd : o.guard = none) (s x : Operand)
    (ho : o.op = .call { callee := .builtin .append, args := #[s, x], argTypes := #[31, 31] }) (base : Nat) (v : Value) (l : List UInt8) (hs : a.eval s = v) (hown : Bs w base v l)
    (ad : Addr) (c : Nat) (l2 : List UInt8) (hx : a.eval x = .slice (some ad) l2.length c)
    (hcells : ∀ j (h : j < l2.length), w.cell? (ad.add j) = some (.int .u8 l2[j].toNat)) (hb : l.length + l2.length ≤ 140737488355328) (hbase : base ≤ w.heap.size)
    (h : ∀ v' w', Bs w' base v' (l ++ l2) → w.grownBy w' v.ownBlock → K (a.put o.dst v') w') : if Region.wanted o (yielded ops a.tmps) = true then Oper.wp Tryd.prog o a w K Q else E := by
  have hw : Region.wanted o (yielded ops a.tmps) = true := by simp [Region.wanted, hgd]
  rw [if_pos hw]
  obtain ⟨v', w', hr, h2, h3⟩ := run_app w base o.type v l hown ad c l2 hcells hb hbase
  unfold Oper.wp
  simp [execOp, ho, resolve, invoke, builtin, hs, hx, hr, Result.andThen]
  exact h v' w' h2 h3

/-- append(v, s...), s a string. -/
theorem wp_app_str {ops : Array Oper} {rest : List Oper} {o : Oper} {a : Act} {Q : Exit → Act → World → Prop} {w : World} (hgd : o.guard = none) (sl x : Operand)
    (ho : o.op = .call { callee := .builtin .append, args := #[sl, x], argTypes := #[31, 9] }) (base : Nat) (v : Value) (l : List UInt8) (hs : a.eval sl = v) (hown : Bs w base v l)
    (l2 : List UInt8) (hx : a.eval x = .string ⟨l2.toArray⟩) (hb : l.length + l2.length ≤ 140737488355328) (hbase : base ≤ w.heap.size)
    (h : ∀ v' w', Bs w' base v' (l ++ l2) → w.grownBy w' v.ownBlock → wpList Tryd.prog ops Q rest (a.put o.dst v') w') : wpList Tryd.prog ops Q (o :: rest) a w := by
  obtain ⟨i, hi, hz⟩ := Option.map_eq_some_iff.1 info5
  simp only [Prod.mk.injEq] at hz
  obtain ⟨h1, h2, h3⟩ := hz
  have hsz : (⟨l2.toArray⟩ : ByteArray).size = l2.length := by simp [ByteArray.size]
  refine Lib.wpList_append_own_string w hgd sl x 31 9 ho base 5 i Tryd.underlying31 Tryd.underlying9 hi h1 h2 h3 v l.length (Lib.byteCells l) hs hown ⟨l2.toArray⟩ hx (by unfold maxLen; omega) (by omega) hbase ?_
  intro v' w' hw hg _
  refine h v' w' ?_ hg
  unfold Bs
  rw [hsz] at hw
  have e : Lib.byteCells (l ++ l2) = Lib.byteCells l ++ Lib.strCells ⟨l2.toArray⟩ := by simp [Lib.byteCells, Lib.strCells]
  rw [List.length_append, e]
  exact hw

/-- string(v), v a row of the call's own. -/
theorem conv_row (w : World) (base : Nat) (v : Value) (l : List UInt8) (h : Bs w base v l) (h0 : l ≠ []) : (convert 31 9 v).run Tryd.prog w = .ok (.string ⟨l.toArray⟩) w := by
  obtain ⟨g, cap, rfl, _, _⟩ := h.form h0
  exact run_convert_bytes_back w 31 9 5 ⟨g, 0, none⟩ cap l Tryd.underlying31 Tryd.underlying5 Tryd.underlying9 (fun j hj => h.cell j hj)
theorem one_atP {w : World} {g : Nat} {b : UInt8} (h : w.cell? ⟨g, 0, none⟩ = some (.int .u8 b.toNat)) : ∀ j (hj : j < [b].length), w.cell? ((⟨g, 0, none⟩ : Addr).add j) = some (.int .u8 [b][j].toNat) := by
  intro j hj
  obtain rfl : j = 0 := by simpa using hj
  simpa [Addr.add] using h

end Go.Proofs.YtolpgafkojlkoaaDoor.Vp
