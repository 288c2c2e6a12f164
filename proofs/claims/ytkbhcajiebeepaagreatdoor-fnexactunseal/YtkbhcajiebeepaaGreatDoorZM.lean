/-
  Put together of: PpRow, PpQuote, PpLine, SeDig.
-/
import Derived.Test.YtkbhcajiebeepaaGreatDoorZK
import Derived.Lib.AppendStr
import Derived.Deep.RegionLaw
import Derived.Test.YtkbhcajiebeepaaGreatDoorZE

/-
  Rows of bytes that the call itself grows: append as the walk meets it.
-/
namespace Go.Proofs.YtkbhcajiebeepaaGreatDoor.Vp
open Go.RowKit

theorem info5 : (Tryz.prog.info? 5).map (fun i => (i.zero, i.size, i.bytes)) = some (some (.int .u8 0), 1, 1) := by kernel_rfl

/-- The slice v is a row of the call's own (from base on) that holds the bytes l. -/
def Bs (w : World) (base : Nat) (v : Value) (l : List UInt8) : Prop := w.ownsRow base 5 1 v l.length (Lib.byteCells l)

theorem Bs.form {w : World} {base : Nat} {v : Value} {l : List UInt8} (h : Bs w base v l) (h0 : l ≠ []) : ∃ g cap, v = .slice (some ⟨g, 0, none⟩) l.length cap ∧ base ≤ g ∧ g < w.heap.size := by
  have hl : 0 < l.length := by cases l with | nil => exact absurd rfl h0 | cons _ _ => simp
  obtain ⟨g, cap, e⟩ := Joins.ownsRow_form h hl
  have := h.lt g (by rw [e]; rfl)
  exact ⟨g, cap, e, this.1, this.2⟩
theorem Bs.below {w w' : World} {base B : Nat} {v : Value} {l : List UInt8} (h : Bs w base v l) (hb : Below B w w') (hB : w.heap.size ≤ B) : Bs w' base v l := by
  refine ⟨h.1, ?_⟩
  rcases h.2 with hn | ⟨g, cap, cur, hv, hg, hh, r⟩
  · exact .inl hn
  · exact .inr ⟨g, cap, cur, hv, hg, by rw [hb.block g (Nat.lt_of_lt_of_le (Array.getElem?_eq_some_iff.1 hh).1 hB)]; exact hh, r⟩
theorem Bs.cell {w : World} {base g cap n : Nat} {l : List UInt8} (h : Bs w base (.slice (some ⟨g, 0, none⟩) n cap) l) (j : Nat) (hj : j < l.length) : w.cell? ((⟨g, 0, none⟩ : Addr).add j) = some (.int .u8 l[j].toNat) := by
  refine World.ownsRow.cells h (g := g) rfl j _ ?_
  simp [Lib.byteCells, hj]
theorem Bs.lit (w : World) (base : Nat) (l : List UInt8) (hb : base ≤ w.heap.size) (hl : l.length ≤ maxLen) (cs : Array Value) (hc : cs.toList = Lib.byteCells l) : Bs (w.alloc (.cells cs 5)) base (.slice (some ⟨w.heap.size, 0, none⟩) l.length l.length) l := by
  have h := World.ownsRow_lit (base := base) (e := 5) (size := 1) w cs l.length hb hl (by rw [← Array.length_toList, hc]; simp [Lib.byteCells])
  rw [hc] at h
  exact h

/-- What append(v, l2...) makes. -/
theorem run_app (w : World) (base : Nat) (ty : TypeId) (v : Value) (l : List UInt8) (hown : Bs w base v l) (ad : Addr) (c : Nat) (l2 : List UInt8)
    (hcells : ∀ j (h : j < l2.length), w.cell? (ad.add j) = some (.int .u8 l2[j].toNat)) (hb : l.length + l2.length ≤ 140737488355328) (hbase : base ≤ w.heap.size) :
    ∃ v' w', (Builtin.append_ #[60, 60] ty #[v, .slice (some ad) l2.length c]).run Tryz.prog w = .ok v' w' ∧ Bs w' base v' (l ++ l2) ∧ w.grownBy w' v.ownBlock := by
  obtain ⟨i, hi, hz⟩ := Option.map_eq_some_iff.1 info5
  simp only [Prod.mk.injEq] at hz
  obtain ⟨h1, h2, h3⟩ := hz
  obtain ⟨v', w', hr, ho, hg, _⟩ := run_append_own (P := Tryz.prog) w base 60 ty 5 i (.int .u8 0) 1 1 Tryz.underlying60 hi h1 h2 h3 rfl (by decide) v l.length (Lib.byteCells l) hown ad l2.length c (Lib.byteCells l2)
    (by simp [Lib.byteCells]) (fun j u hj => by
      have hj' : j < l2.length := by have := (List.getElem?_eq_some_iff.1 hj).1; simpa [Lib.byteCells] using this
      rw [hcells j hj']
      simp only [Lib.byteCells, List.getElem?_map, List.getElem?_eq_getElem hj', Option.map_some, Option.some.injEq] at hj
      rw [← hj])
    (fun u hu => by simp only [Lib.byteCells, List.mem_map] at hu; obtain ⟨b, _, rfl⟩ := hu; rfl) (by unfold maxLen; omega) (by omega) hbase
  refine ⟨v', w', hr, ?_, hg⟩
  unfold Bs
  rw [List.length_append]
  have e : Lib.byteCells (l ++ l2) = Lib.byteCells l ++ Lib.byteCells l2 := by simp [Lib.byteCells]
  rw [e]
  exact ho

theorem wp_app {ops : Array Oper} {rest : List Oper} {o : Oper} {a : Act} {Q : Exit → Act → World → Prop} {w : World} (hgd : o.guard = none) (s x : Operand)
    (ho : o.op = .call { callee := .builtin .append, args := #[s, x], argTypes := #[60, 60] }) (base : Nat) (v : Value) (l : List UInt8) (hs : a.eval s = v) (hown : Bs w base v l)
    (ad : Addr) (c : Nat) (l2 : List UInt8) (hx : a.eval x = .slice (some ad) l2.length c)
    (hcells : ∀ j (h : j < l2.length), w.cell? (ad.add j) = some (.int .u8 l2[j].toNat)) (hb : l.length + l2.length ≤ 140737488355328) (hbase : base ≤ w.heap.size)
    (h : ∀ v' w', Bs w' base v' (l ++ l2) → w.grownBy w' v.ownBlock → wpList Tryz.prog ops Q rest (a.put o.dst v') w') : wpList Tryz.prog ops Q (o :: rest) a w := by
  refine wpList_plain hgd fun K hK => ?_
  obtain ⟨v', w', hr, h2, h3⟩ := run_app w base o.type v l hown ad c l2 hcells hb hbase
  unfold Oper.wp execOp
  simp only [ho, resolve, invoke, builtin, Sem.run_bind, Sem.run_pure, Result.andThen_ok, List.map_toArray, List.map_cons, List.map_nil, hs, hx, hr]
  exact hK _ _ (h v' w' h2 h3)

theorem step_app {ops : Array Oper} {o : Oper} {a : Act} {w : World} {K : Act → World → Prop} {Q : Exit → Act → World → Prop} {E : Prop} (hgd : o.guard = none) (s x : Operand)
    (ho : o.op = .call { callee := .builtin .append, args := #[s, x], argTypes := #[60, 60] }) (base : Nat) (v : Value) (l : List UInt8) (hs : a.eval s = v) (hown : Bs w base v l)
    (ad : Addr) (c : Nat) (l2 : List UInt8) (hx : a.eval x = .slice (some ad) l2.length c)
    (hcells : ∀ j (h : j < l2.length), w.cell? (ad.add j) = some (.int .u8 l2[j].toNat)) (hb : l.length + l2.length ≤ 140737488355328) (hbase : base ≤ w.heap.size)
    (h : ∀ v' w', Bs w' base v' (l ++ l2) → w.grownBy w' v.ownBlock → K (a.put o.dst v') w') : if Region.wanted o (yielded ops a.tmps) = true then Oper.wp Tryz.prog o a w K Q else E := by
  have hw : Region.wanted o (yielded ops a.tmps) = true := by simp [Region.wanted, hgd]
  rw [if_pos hw]
  obtain ⟨v', w', hr, h2, h3⟩ := run_app w base o.type v l hown ad c l2 hcells hb hbase
  unfold Oper.wp
  simp [execOp, ho, resolve, invoke, builtin, hs, hx, hr, Result.andThen]
  exact h v' w' h2 h3

/-- append(v, s...), s a string. -/
theorem wp_app_str {ops : Array Oper} {rest : List Oper} {o : Oper} {a : Act} {Q : Exit → Act → World → Prop} {w : World} (hgd : o.guard = none) (sl x : Operand)
    (ho : o.op = .call { callee := .builtin .append, args := #[sl, x], argTypes := #[60, 9] }) (base : Nat) (v : Value) (l : List UInt8) (hs : a.eval sl = v) (hown : Bs w base v l)
    (l2 : List UInt8) (hx : a.eval x = .string ⟨l2.toArray⟩) (hb : l.length + l2.length ≤ 140737488355328) (hbase : base ≤ w.heap.size)
    (h : ∀ v' w', Bs w' base v' (l ++ l2) → w.grownBy w' v.ownBlock → wpList Tryz.prog ops Q rest (a.put o.dst v') w') : wpList Tryz.prog ops Q (o :: rest) a w := by
  obtain ⟨i, hi, hz⟩ := Option.map_eq_some_iff.1 info5
  simp only [Prod.mk.injEq] at hz
  obtain ⟨h1, h2, h3⟩ := hz
  have hsz : (⟨l2.toArray⟩ : ByteArray).size = l2.length := by simp [ByteArray.size]
  refine Lib.wpList_append_own_string w hgd sl x 60 9 ho base 5 i Tryz.underlying60 Tryz.underlying9 hi h1 h2 h3 v l.length (Lib.byteCells l) hs hown ⟨l2.toArray⟩ hx (by unfold maxLen; omega) (by omega) hbase ?_
  intro v' w' hw hg _
  refine h v' w' ?_ hg
  unfold Bs
  rw [hsz] at hw
  have e : Lib.byteCells (l ++ l2) = Lib.byteCells l ++ Lib.strCells ⟨l2.toArray⟩ := by simp [Lib.byteCells, Lib.strCells]
  rw [List.length_append, e]
  exact hw

/-- string(v), v a row of the call's own. -/
theorem conv_row (w : World) (base : Nat) (v : Value) (l : List UInt8) (h : Bs w base v l) (h0 : l ≠ []) : (convert 60 9 v).run Tryz.prog w = .ok (.string ⟨l.toArray⟩) w := by
  obtain ⟨g, cap, rfl, _, _⟩ := h.form h0
  exact run_convert_bytes_back w 60 9 5 ⟨g, 0, none⟩ cap l Tryz.underlying60 Tryz.underlying5 Tryz.underlying9 (fun j hj => h.cell j hj)
theorem one_at {w : World} {g : Nat} {b : UInt8} (h : w.cell? ⟨g, 0, none⟩ = some (.int .u8 b.toNat)) : ∀ j (hj : j < [b].length), w.cell? ((⟨g, 0, none⟩ : Addr).add j) = some (.int .u8 [b][j].toNat) := by
  intro j hj
  obtain rfl : j = 0 := by simpa using hj
  simpa [Addr.add] using h

end Go.Proofs.YtkbhcajiebeepaaGreatDoor.Vp

/-
  l1Quote: a text in quotes.
-/
namespace Go.Proofs.YtkbhcajiebeepaaGreatDoor.Vp
open Go.RowKit

/-- The two digits lie in block h. -/
def HexAt (w : World) (h : Nat) (c : UInt8) : Prop := ∀ j (hj : j < (hex2 c).length), w.cell? ((⟨h, 0, none⟩ : Addr).add j) = some (.int .u8 (hex2 c)[j].toNat)
theorem add_block (h j : Nat) : ((⟨h, 0, none⟩ : Addr).add j).block = h := by
  unfold Addr.add
  split <;> rfl
theorem HexAt.kept {w w' : World} {h : Nat} {c : UInt8} (H : HexAt w h c) (e : w'.heap[h]? = w.heap[h]?) : HexAt w' h c := fun j hj => (World.cell?_of_block (w := w) (a := (⟨h, 0, none⟩ : Addr).add j) (by rw [add_block]; exact e)).trans (H j hj)
theorem l1Hex_at (c : UInt8) (w : World) :
    Calls Tryz.prog 76 #[.int .u8 c.toNat] w fun e w' => e = .returned (.slice (some ⟨w.heap.size, 0, none⟩) 2 2) ∧ HexAt w' w.heap.size c ∧ w.heap.size < w'.heap.size ∧ Below w.heap.size w w' :=
  (l1Hex_any c w).mono fun _ _ ⟨he, ho, hb⟩ => ⟨he, fun j hj => Bs.cell (l := hex2 c) ho j hj, (ho.lt w.heap.size rfl).2, hb⟩
set_option linter.unusedSimpArgs false in
set_option maxRecDepth 100000 in
set_option maxHeartbeats 2000000 in
theorem l1Quote_any (s : ByteArray) (w : World) (hs : s.size ≤ 2000) :
    Calls Tryz.prog 53 #[.string s] w fun e w' => e = .returned (.string ⟨(quoteB s.data.toList).toArray⟩) ∧ Below w.heap.size w w' := by
  go_enter Tryz.func53, Tryz.ntmps53
  go_wp2
  go_loopw [3, 4] (fun v i wr => ∃ k : Nat, k ≤ s.size ∧ i = .int .i64 k ∧ Bs wr w.heap.size v (qTo s.data.toList k) ∧ Below w.heap.size w wr) (fun _ i _ => s.size - (intOf i).toNat)
  case atStart => exact ⟨0, by omega, rfl, Bs.lit w _ [34] (Nat.le_refl _) (by unfold maxLen; simp) _ rfl, (Below.refl _ _).alloc (Nat.le_refl _) _⟩
  case round =>
    obtain ⟨k, hk, rfl, hO, hB⟩ := hrel
    have HB := hide hB
    have HO := hide hO
    have hsz : w.heap.size ≤ wr.heap.size := hB.size
    clear hB hO
    have hql := qTo_le s.data.toList k
    obtain ⟨g, cap, rfl, hg0, hg1⟩ := HO.out.form (qTo_ne _ _)
    by_cases hlt : k < s.size
    · have HQ := hide (qTo_succ s k hlt)
      have hc := s[k].toNat_lt
      by_cases hp : 32 ≤ (s[k].toNat : Int) ∧ (s[k].toNat : Int) ≤ 126 ∧ ((s[k].toNat : Int) != 34) = true ∧ ((s[k].toNat : Int) != 92) = true
      · obtain ⟨p1, p2, p3, p4⟩ := hp
        go_wp2_with (at_builtin; refine wp_app rfl _ _ rfl w.heap.size _ (qTo s.data.toList k) rfl ?h1 ⟨wr.heap.size, 0, none⟩ 1 [s[k]] rfl ?h2 ?h3 ?h4 ?_)
        case h1 => exact HO.out.below ((Below.refl _ _).alloc (Nat.le_refl _) _) (Nat.le_refl _)
        case h2 =>
          intro j hj
          obtain rfl : j = 0 := by simpa using hj
          simp [Addr.add]
        case h3 => simp only [List.length_cons, List.length_nil]; omega
        case h4 => simp; omega
        intro v' w' hv' hg'
        have HV' := hide hv'
        have HG' : Hid (Below w.heap.size w w') := (HB.out.alloc hsz _).grown hg' (by simp; omega) (fun x hx => by simp [Value.ownBlock] at hx; omega)
        clear hv' hg'
        go_wp2
        exact ⟨⟨k + 1, by omega, by go_num, by rw [HQ.out]; unfold enc; rw [if_pos (by simp [plainC] at *; omega)]; exact HV'.out, HG'.out⟩, by simp [intOf]; omega⟩
      · have hn : (s[k].toNat : Int) < 32 ∨ (32 ≤ (s[k].toNat : Int) ∧ 126 < (s[k].toNat : Int)) ∨ (32 ≤ (s[k].toNat : Int) ∧ (s[k].toNat : Int) ≤ 126 ∧ ((s[k].toNat : Int) != 34) = false) ∨ (32 ≤ (s[k].toNat : Int) ∧ (s[k].toNat : Int) ≤ 126 ∧ ((s[k].toNat : Int) != 34) = true ∧ ((s[k].toNat : Int) != 92) = false) := by
          simp only [bne_iff_ne, ne_eq, bne_eq_false_iff_eq] at hp ⊢
          omega
        have HE : Hid (enc s[k] = [92] ++ hex2 s[k]) := by
          show enc s[k] = [92] ++ hex2 s[k]
          unfold enc
          rw [if_neg]
          · rfl
          · simp only [bne_iff_ne, ne_eq] at hp
            simp [plainC]
            omega
        clear hp
        rcases hn with p1 | ⟨p1, p2⟩ | ⟨p1, p2, p3⟩ | ⟨p1, p2, p3, p4⟩
        all_goals
          go_wp2_with fail
          go_region_law (first
            | (refine step_app rfl (.tmp 40) (.tmp 41) rfl w.heap.size (.slice (some ⟨g, 0, none⟩) (qTo s.data.toList k).length cap) (qTo s.data.toList k) (by simp [Act.eval, Act.put]) ?_ ⟨wr.heap.size, 0, none⟩ 1 [92] (by simp [Act.eval, Act.put]) ?_ ?_ ?_ ?_
               · exact HO.out.below ((Below.refl _ _).alloc (Nat.le_refl _) _).drew (Nat.le_refl _)
               · exact one_at (by simp)
               · simp only [List.length_append, List.length_cons, List.length_nil, hex2]; omega
               · first | (simp; omega) | omega
               intro v1 wA hv1 hgA
               obtain ⟨g1, cap1, rfl, hg2, hg3⟩ := hv1.form (by simp)
               have HV1 := hide hv1
               have HGA : Hid (Below w.heap.size w wA) := Below.grown ((HB.out.alloc hsz _).drew) hgA (by first | (simp; omega) | omega) (fun x hx => by simp [Value.ownBlock] at hx; omega)
               have hsA : w.heap.size ≤ wA.heap.size := HGA.out.size
               clear hv1 hgA)
            | (refine step_app rfl (.tmp 42) (.tmp 46) rfl w.heap.size (.slice (some ⟨g1, 0, none⟩) (qTo s.data.toList k ++ [92]).length cap1) (qTo s.data.toList k ++ [92]) (by simp [Act.eval, Act.put]) ?_ ⟨wA.heap.size, 0, none⟩ 2 (hex2 s[k]) (by simp [Act.eval, Act.put, hex2]) ?_ ?_ ?_ ?_
               · exact HV1.out.below HBH.out (Nat.le_refl _)
               · exact HH.out
               · simp only [List.length_append, List.length_cons, List.length_nil, hex2]; omega
               · first | (simp; omega) | omega
               intro v2 wZ hv2 hgZ
               have HV2 := hide hv2
               have HGZ : Hid (Below w.heap.size w wZ) := Below.grown (HGA.out.trans (HBH.out.mono hsA)) hgZ (by first | (simp; omega) | omega) (fun x hx => by simp [Value.ownBlock] at hx; omega)
               clear hv2 hgZ)
            | (refine step_app rfl (.tmp 40) (.tmp 41) rfl w.heap.size (.slice (some ⟨g, 0, none⟩) (qTo s.data.toList k).length cap) (qTo s.data.toList k) (by simp [Act.eval, Act.put]) ?_ ⟨wr.heap.size, 0, none⟩ 1 [92] (by simp [Act.eval, Act.put]) ?_ ?_ ?_ ?_
               · exact HO.out.below (((Below.refl _ _).alloc (Nat.le_refl _) _).drew.trans (HBH.out.mono (by simp))) (Nat.le_refl _)
               · exact one_at ((HBH.out.cell (p := ⟨wr.heap.size, 0, none⟩) (by simp)).trans (by simp))
               · simp only [List.length_append, List.length_cons, List.length_nil, hex2]; omega
               · first | (simp; omega) | omega
               intro v1 wA hv1 hgA
               obtain ⟨g1, cap1, rfl, hg2, hg3⟩ := hv1.form (by simp)
               have HV1 := hide hv1
               have HGA : Hid (Below w.heap.size w wA) := Below.grown ((HB.out.alloc hsz _).drew.trans (HBH.out.mono (by simp; omega))) hgA (by first | (simp; omega) | omega) (fun x hx => by simp [Value.ownBlock] at hx; omega)
               have hsA : w.heap.size ≤ wA.heap.size := HGA.out.size
               have HHA : Hid (HexAt wA (wr.heap.size + 1) s[k]) := HH.out.kept (hgA.block _ (by simpa using hHl) (by simp [Value.ownBlock]; omega))
               clear hv1 hgA)
            | (refine step_app rfl (.tmp 40) (.tmp 41) rfl w.heap.size (.slice (some ⟨g, 0, none⟩) (qTo s.data.toList k).length cap) (qTo s.data.toList k) (by simp [Act.eval, Act.put]) ?_ ⟨wH.heap.size, 0, none⟩ 1 [92] (by simp [Act.eval, Act.put]) ?_ ?_ ?_ ?_
               · exact HO.out.below (((Below.refl _ _).drew.trans HBH.out).alloc HBH.out.size _) (Nat.le_refl _)
               · exact one_at (by simp)
               · simp only [List.length_append, List.length_cons, List.length_nil, hex2]; omega
               · first | (simp; omega) | omega
               intro v1 wA hv1 hgA
               obtain ⟨g1, cap1, rfl, hg2, hg3⟩ := hv1.form (by simp)
               have HV1 := hide hv1
               have HGA : Hid (Below w.heap.size w wA) := Below.grown (((HB.out.drew.trans (HBH.out.mono hsz)).alloc (Nat.le_trans hsz HBH.out.size) _)) hgA (by first | (simp; omega) | omega) (fun x hx => by simp [Value.ownBlock] at hx; omega)
               have hsA : w.heap.size ≤ wA.heap.size := HGA.out.size
               have HHA : Hid (HexAt wA wr.heap.size s[k]) := (HH.out.kept (Below.heap_alloc _ _ _ hHl)).kept (hgA.block _ (by simp; omega) (by simp [Value.ownBlock]; omega))
               clear hv1 hgA)
            | (refine step_app rfl (.tmp 42) (.tmp 46) rfl w.heap.size (.slice (some ⟨g1, 0, none⟩) (qTo s.data.toList k ++ [92]).length cap1) (qTo s.data.toList k ++ [92]) (by simp [Act.eval, Act.put]) ?_ ⟨wr.heap.size + 1, 0, none⟩ 2 (hex2 s[k]) (by simp [Act.eval, Act.put, hex2]) ?_ ?_ ?_ ?_
               · exact HV1.out
               · exact HHA.out
               · simp only [List.length_append, List.length_cons, List.length_nil, hex2]; omega
               · first | (simp; omega) | omega
               intro v2 wZ hv2 hgZ
               have HV2 := hide hv2
               have HGZ : Hid (Below w.heap.size w wZ) := Below.grown (HGA.out) hgZ (by first | (simp; omega) | omega) (fun x hx => by simp [Value.ownBlock] at hx; omega)
               clear hv2 hgZ)
            | (refine step_app rfl (.tmp 42) (.tmp 46) rfl w.heap.size (.slice (some ⟨g1, 0, none⟩) (qTo s.data.toList k ++ [92]).length cap1) (qTo s.data.toList k ++ [92]) (by simp [Act.eval, Act.put]) ?_ ⟨wr.heap.size, 0, none⟩ 2 (hex2 s[k]) (by simp [Act.eval, Act.put, hex2]) ?_ ?_ ?_ ?_
               · exact HV1.out
               · exact HHA.out
               · simp only [List.length_append, List.length_cons, List.length_nil, hex2]; omega
               · first | (simp; omega) | omega
               intro v2 wZ hv2 hgZ
               have HV2 := hide hv2
               have HGZ : Hid (Below w.heap.size w wZ) := Below.grown (HGA.out) hgZ (by first | (simp; omega) | omega) (fun x hx => by simp [Value.ownBlock] at hx; omega)
               clear hv2 hgZ)
            | (go_simp; go_at_call 76; refine (l1Hex_at _ _).mono ?_; rintro e wH ⟨rfl, hH, hHl, hBH⟩; have HH := hide hH; have HBH := hide hBH; clear hH hBH))
          all_goals
            go_wp2
            exact ⟨⟨k + 1, by omega, by go_num, by rw [HQ.out, HE.out, ← List.append_assoc]; exact HV2.out, HGZ.out⟩, by simp [intOf]; omega⟩
    · have e : k = s.size := by omega
      subst e
      have HQ : Hid (quoteB s.data.toList = qTo s.data.toList s.size ++ [34]) := by
        show quoteB s.data.toList = qTo s.data.toList s.size ++ [34]
        unfold quoteB
        simp
      go_wp2_with (at_builtin; refine wp_app rfl _ _ rfl w.heap.size _ (qTo s.data.toList s.size) rfl ?h1 ⟨wr.heap.size, 0, none⟩ 1 [34] rfl ?h2 ?h3 ?h4 ?_)
      case h1 => exact HO.out.below ((Below.refl _ _).alloc (Nat.le_refl _) _) (Nat.le_refl _)
      case h2 => exact one_at (by simp)
      case h3 => simp only [List.length_cons, List.length_nil]; omega
      case h4 => simp; omega
      intro v' w' hv' hg'
      have HG' : Hid (Below w.heap.size w w') := (HB.out.alloc hsz _).grown hg' (by simp; omega) (fun x hx => by simp [Value.ownBlock] at hx; omega)
      have hcv := conv_row w' _ v' _ hv' (by simp)
      rw [← HQ.out] at hcv
      clear hv' hg'
      go_wp2
      go_ret
      exact ⟨rfl, HG'.out⟩

end Go.Proofs.YtkbhcajiebeepaaGreatDoor.Vp

/-
  l1Line: the line of a right instruction.
-/
namespace Go.Proofs.YtkbhcajiebeepaaGreatDoor.Vp
open Go.RowKit

set_option maxRecDepth 100000 in
set_option maxHeartbeats 1000000 in
theorem l1Line_lit (s : ByteArray) (w : World) (hs : s.size ≤ 2000) :
    Calls Tryz.prog 51 #[.agg #[.int .i64 1, .string s, .int .i64 0]] w fun e w' => e = .returned (.string ⟨(lineB 1 s.data.toList 0).toArray⟩) ∧ Below w.heap.size w w' := by
  have hq := quoteB_le s.data.toList
  have hl : s.data.toList.length = s.size := by simp
  rw [hl] at hq
  clear hl
  go_enter Tryz.func51, Tryz.ntmps51
  go_wp2_with (first | (go_at_call 53; refine (l1Quote_any _ _ hs).mono ?_; rintro e w' ⟨rfl, hB⟩) | go_in)
  all_goals go_ret
  refine ⟨ret_str ?_, ((Below.refl _ _).alloc (Nat.le_refl _) _).trans (hB.mono (by simp))⟩
  apply ByteArray.ext
  simp [lineB, kind, word]

set_option maxRecDepth 100000 in
set_option maxHeartbeats 2000000 in
theorem l1Line_num (op : Int) (m : Nat) (w : World) (hop : op = 3 ∨ op = 4 ∨ op = 5 ∨ op = 10 ∨ op = 11) (hm : m ≤ 2000) :
    Calls Tryz.prog 51 #[.agg #[.int .i64 op, .string ⟨#[]⟩, .int .i64 m]] w fun e w' => e = .returned (.string ⟨(lineB op [] m).toArray⟩) ∧ Below w.heap.size w w' := by
  have hq := dec_len m hm
  rcases hop with rfl | rfl | rfl | rfl | rfl
  all_goals
    go_enter Tryz.func51, Tryz.ntmps51
    go_wp2_with (first | (go_at_call 27; refine (l1Dec_any m (by omega) _).mono ?_; rintro e w' ⟨rfl, hB⟩) | go_in)
    all_goals go_ret
    refine ⟨ret_str ?_, ((Below.refl _ _).alloc (Nat.le_refl _) _).trans (hB.mono (by simp))⟩
    apply ByteArray.ext
    simp [lineB, kind, word]

set_option maxRecDepth 100000 in
set_option maxHeartbeats 2000000 in
theorem l1Line_bare (op : Int) (w : World) (hop : op = 2 ∨ op = 6 ∨ op = 7 ∨ op = 8 ∨ op = 9 ∨ op = 12 ∨ op = 13 ∨ op = 14 ∨ op = 15) :
    Calls Tryz.prog 51 #[.agg #[.int .i64 op, .string ⟨#[]⟩, .int .i64 0]] w fun e w' => e = .returned (.string ⟨(lineB op [] 0).toArray⟩) ∧ Below w.heap.size w w' := by
  rcases hop with rfl | rfl | rfl | rfl | rfl | rfl | rfl | rfl | rfl
  all_goals
    go_enter Tryz.func51, Tryz.ntmps51
    go_wp2
    go_ret
    exact ⟨rfl, (Below.refl _ _).alloc (Nat.le_refl _) _⟩

theorem l1Line_any (op : Int) (s : ByteArray) (n : Int) (w : World) (h : insOk op s.size n = true) :
    Calls Tryz.prog 51 #[.agg #[.int .i64 op, .string s, .int .i64 n]] w fun e w' => e = .returned (.string ⟨(lineB op s.data.toList n).toArray⟩) ∧ Below w.heap.size w w' := by
  rcases insOk_cases h with ⟨rfl, hs, rfl⟩ | ⟨hop, rfl, m, rfl, hm⟩ | ⟨hop, rfl, rfl⟩
  · exact l1Line_lit s w hs
  · exact l1Line_num op m w hop hm
  · exact l1Line_bare op w hop

end Go.Proofs.YtkbhcajiebeepaaGreatDoor.Vp

/-
  Seal: the sixteen digits: spec.l6Digits.
-/
namespace Go.Proofs.YtkbhcajiebeepaaGreatDoor.Vp
open Go.RowKit

/-- the last k digits of a number. -/
def digTo (z : Nat) : Nat → List UInt8
  | 0 => []
  | k + 1 => hexD (z / 16 ^ k % 16) :: digTo z k
theorem digTo_len (z k : Nat) : (digTo z k).length = k := by
  induction k with
  | zero => rfl
  | succ k ih => simp [digTo, ih]
theorem hexAt64 (k : Nat) (h : k < 16) (w : World) : (Instr.index 9 (.string ⟨#[48, 49, 50, 51, 52, 53, 54, 55, 56, 57, 97, 98, 99, 100, 101, 102]⟩) (.int .u64 (k : Int))).run Tryz.prog w = .ok (.int .u8 (hexD k).toNat) w := by
  rcases (show k = 0 ∨ k = 1 ∨ k = 2 ∨ k = 3 ∨ k = 4 ∨ k = 5 ∨ k = 6 ∨ k = 7 ∨ k = 8 ∨ k = 9 ∨ k = 10 ∨ k = 11 ∨ k = 12 ∨ k = 13 ∨ k = 14 ∨ k = 15 by omega) with rfl | rfl | rfl | rfl | rfl | rfl | rfl | rfl | rfl | rfl | rfl | rfl | rfl | rfl | rfl | rfl
  all_goals kernel_rfl

set_option maxRecDepth 100000 in
set_option maxHeartbeats 2000000 in
theorem l6Digits_any (s : ByteArray) (w : World) (hs : (s.size : Int) ≤ 1048576) :
    Calls Tryz.prog 44 #[.string s] w fun e w' => e = .returned (.string ⟨(digTo (sumTo s s.size).toNat 16).toArray⟩) ∧ Below w.heap.size w w' := by
  obtain ⟨T, hT⟩ : ∃ T, T = digTo (sumTo s s.size).toNat 16 := ⟨_, rfl⟩
  rw [← hT]
  have HT := hide hT
  clear hT
  go_enter Tryz.func44, Tryz.ntmps44
  go_wp2
  go_loop [3, 4] (fun c i => ∃ (k : Nat) (z : Int), k ≤ s.size ∧ 0 ≤ z ∧ z ≤ 18446744073709551615 ∧ Hid (z = sumTo s k) ∧ c = .int .u64 z ∧ i = .int .i64 k) (fun _ i => s.size - (intOf i).toNat)
  case atStart => exact ⟨0, 14695981039346656037, by omega, by omega, by omega, rfl, rfl, rfl⟩
  case round =>
    obtain ⟨k, z, hk, hz0, hz1, HZ, rfl, rfl⟩ := hrel
    by_cases hlt : k < s.size
    · have HS : Hid (IntKind.u64.wrap (bits BinOp.xor IntKind.u64 z (IntKind.u64.wrap (s[k].toNat : Int)) * 1099511628211) = sumTo s (k + 1)) := by show _ = _; rw [HZ.out]; exact (sumTo_succ s k hlt).symm
      have HI := hide (sumTo_in s (k + 1))
      go_wp2
      rw [HS.out]
      exact ⟨⟨k + 1, _, by omega, HI.out.1, HI.out.2, rfl, rfl, by go_num⟩, by simp [intOf]; omega⟩
    · obtain rfl : k = s.size := by omega
      obtain ⟨N, hN⟩ : ∃ N : Nat, z = (N : Int) := ⟨z.toNat, by omega⟩
      have HN : Hid ((sumTo s s.size).toNat = N) := by show _ = _; rw [← HZ.out, hN]; rfl
      have HT2 : Hid (T = digTo N 16) := by show _ = _; rw [HT.out, HN.out]
      subst hN
      have hNb : N ≤ 18446744073709551615 := by omega
      clear HZ HN hz0 hz1
      go_wp2
      go_loopw [3, 5, 6] (fun c v i wr => ∃ (k q g cp : Nat), k ≤ 16 ∧ Hid (q = N / 16 ^ k) ∧ q ≤ 18446744073709551615 ∧ c = .int .u64 q ∧ v = .slice (some ⟨g, 0, none⟩) k cp ∧ i = .int .i64 k ∧ Hid (Bs wr w.heap.size (.slice (some ⟨g, 0, none⟩) k cp) (digTo N k)) ∧ Hid (Below w.heap.size w wr)) (fun _ _ i _ => 16 - (intOf i).toNat)
      case atStart => exact ⟨0, N, w.heap.size, 0, by omega, by show _ = _; simp, hNb, rfl, rfl, rfl, Bs.lit w _ [] (Nat.le_refl _) (by simp) _ rfl, (Below.refl _ _).alloc (Nat.le_refl _) _⟩
      case round =>
        obtain ⟨k, q, g, cp, hk, HQ, hqb, rfl, rfl, rfl, HO, HB⟩ := hrel
        have zr : w.heap.size ≤ wr.heap.size := HB.out.size
        by_cases hlt : k < 16
        · obtain ⟨d, hd⟩ : ∃ d : Nat, d = q % 16 := ⟨_, rfl⟩
          obtain ⟨e, he⟩ : ∃ e : Nat, e = q / 16 := ⟨_, rfl⟩
          have hd16 : d < 16 := by omega
          have hix := hexAt64 d hd16
          have hm1 : (q : Int).tmod 16 = (d : Int) := by rw [Int.tmod_eq_emod_of_nonneg (by omega)]; omega
          have hd1 : (q : Int).tdiv 16 = (e : Int) := by rw [Int.tdiv_eq_ediv_of_nonneg (by omega)]; omega
          have HD : Hid (digTo N (k + 1) = hexD d :: digTo N k) := by show _ = _; rw [digTo, ← HQ.out, ← hd]
          have HE : Hid (e = N / 16 ^ (k + 1)) := by show _ = _; rw [he, HQ.out, Nat.div_div_eq_div_mul, Nat.pow_succ]
          have heb : e ≤ 18446744073709551615 := by omega
          have hlen := digTo_len N k
          clear hd he
          go_wp2_with (at_builtin; refine wp_app rfl _ _ rfl w.heap.size _ [hexD d] rfl ?h1 ⟨g, 0, none⟩ cp (digTo N k) (by rw [hlen]; rfl) ?h2 ?h3 ?h4 ?_)
          case h1 => exact Bs.lit wr _ [hexD d] zr (by simp [maxLen]) _ (by simp [Lib.byteCells])
          case h2 => exact fun j hj => HO.out.below ((Below.refl wr.heap.size wr).alloc (Nat.le_refl _) _) (Nat.le_refl _) |>.cell j hj
          case h3 => simp only [List.length_cons, List.length_nil, hlen]; omega
          case h4 => simp; omega
          intro v8 w8 hv8 hg8
          obtain ⟨g8, c8, rfl, _, _⟩ := hv8.form (by simp)
          have M8 := hide hv8
          have B8 := hide (Below.grown (HB.out.alloc zr _) hg8 (by simp; omega) (fun j e => by simp [Value.ownBlock] at e; omega))
          clear hv8 hg8
          go_wp2
          refine ⟨⟨k + 1, e, g8, c8, by omega, HE.out, heb, rfl, ?_, by go_num, ?_, B8.out⟩, by simp [intOf]; omega⟩
          · have hl : (hexD d :: digTo N k).length = k + 1 := by simp [hlen]
            rw [hl]
          · have h := M8.out
            have hl : (hexD d :: digTo N k).length = k + 1 := by simp [hlen]
            rw [hl] at h
            show Bs _ _ _ _
            rw [HD.out]
            exact h
        · obtain rfl : k = 16 := by omega
          have hcv : (convert 60 9 (.slice (some ⟨g, 0, none⟩) 16 cp)).run Tryz.prog wr = .ok (.string ⟨(digTo N 16).toArray⟩) wr := by
            have h := run_convert_bytes_back (P := Tryz.prog) wr 60 9 5 ⟨g, 0, none⟩ cp (digTo N 16) Tryz.underlying60 Tryz.underlying5 Tryz.underlying9 (fun j hj => HO.out.cell j hj)
            rw [digTo_len] at h
            exact h
          rw [← HT2.out] at hcv
          go_wp2
          go_ret
          exact ⟨rfl, HB.out⟩

end Go.Proofs.YtkbhcajiebeepaaGreatDoor.Vp
