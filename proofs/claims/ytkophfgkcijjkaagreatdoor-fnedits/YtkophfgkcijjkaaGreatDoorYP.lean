import Derived.Test.YtkophfgkcijjkaaGreatDoorYO
import Derived.Test.YtkophfgkcijjkaaGreatDoorZA
import Derived.Test.YtkophfgkcijjkaaGreatDoorZX
import Derived.Test.YtkophfgkcijjkaaGreatDoorZB
namespace Go.Proofs.YtkophfgkcijjkaaGreatDoor.Vp
open Go.RowKit
theorem zeroMark (w : World) : (zeroValue 258).run Tryz.prog w = .ok (.agg #[.int .i64 0, .pointer none]) w := by kernel_rfl
theorem find_same (made : List Ent) (nm : ByteArray) : made.find? (fun e => e.name.toList == nm.toList) = entOf made nm := rfl
theorem markF_hit {G : ByteArray → Nat} {mm : List ByteArray} {made : List Ent} {nm : ByteArray} {e : Ent} (h : entOf made nm = some e) : markF G mm made nm.toList = some (.agg #[.int .i64 0, .pointer (some ⟨G e.name, 0, none⟩)]) := by
  unfold markF
  rw [find_same, h]
theorem markF_begun {G : ByteArray → Nat} {mm : List ByteArray} {made : List Ent} {nm : ByteArray} (h : entOf made nm = none) : markF G mm made nm.toList = (atL mm nm).map fun (i : Nat) => .agg #[.int .i64 (i : Int), .pointer none] := by
  unfold markF
  rw [find_same, h]
  rfl
section
variable {w0 : World} {S : Spc} {mb mp : Nat} {s0 s1 mk md : Value} {mm making : List ByteArray} {made : List Ent} {G : ByteArray → Nat} {V : ByteArray → Value}
set_option maxRecDepth 100000 in
set_option maxHeartbeats 4000000 in
theorem lies_hit (w : World) (nm : ByteArray) (h : MI w0 S mb mp s0 s1 w mm making made G V mk md) (hn : nm.size ≤ 60) (e : Ent) (he : entOf made nm = some e) :
    Calls Tryz.prog 145 #[.pointer (some ⟨mb, 0, none⟩), .string nm] w fun r w' => r = .returned (.pointer (some ⟨G e.name, 0, none⟩)) ∧ Below w.heap.size w w' := by
  have HV := hide (show (markF G mm made nm.toList).getD (.agg #[.int .i64 0, .pointer none]) = .agg #[.int .i64 0, .pointer (some ⟨G e.name, 0, none⟩)] by rw [markF_hit he]; rfl)
  have HF := hide (show (markF G mm made nm.toList).isSome = true by rw [markF_hit he]; rfl)
  have HM := hide h
  obtain ⟨hl, -, -, c2, -, -, -⟩ := h.box.facts
  have hsz : nm.size ≤ maxLen := by unfold maxLen; omega
  have hz := zeroMark
  have B1 := hide ((Below.refl w.heap.size w).alloc (Nat.le_refl _) (.cells #[.int .i64 0, .pointer (some ⟨G e.name, 0, none⟩)] 258))
  clear h he
  go_enter Tryz.func145, Tryz.ntmps145
  go_wp2_with (first
    | (at_lookup; refine wpN_lookup_ok _ rfl _ _ 190 rfl 258 Tryz.underlying190 (hz _) mp _ _ rfl HM.out.map nm rfl hsz _ HV.out true HF.out ?_)
    | fail)
  go_ret
  exact ⟨rfl, B1.out⟩
set_option maxRecDepth 100000 in
set_option maxHeartbeats 4000000 in
theorem lies_circle (w : World) (nm : ByteArray) (h : MI w0 S mb mp s0 s1 w making making made G V mk md) (hn : nm.size ≤ 60) (hm : making.length ≤ 60) (he : entOf made nm = none) (i : Nat) (hi : atL making nm = some i) :
    Calls Tryz.prog 145 #[.pointer (some ⟨mb, 0, none⟩), .string nm] w fun r w' => ∃ v, r = .panicked [{ v := .iface 253 (.agg #[v]), recovered := false }] ∧ w'.ownsRow w.heap.size 9 1 v (making.drop i).length (strV (making.drop i)) ∧ Below w.heap.size w w' := by
  have HV := hide (show (markF G making made nm.toList).getD (.agg #[.int .i64 0, .pointer none]) = .agg #[.int .i64 (i : Int), .pointer none] by rw [markF_begun he, hi]; rfl)
  have HF := hide (show (markF G making made nm.toList).isSome = true by rw [markF_begun he, hi]; rfl)
  have HM := hide h
  obtain ⟨hl, -, -, c2, c3, -, -⟩ := h.box.facts
  have hil : i < making.length := by
    unfold atL at hi
    exact (List.findIdx?_eq_some_iff_findIdx_eq.1 hi).1
  obtain ⟨g, cap, cur, rfl, hg1, hg2, hg3, hg4, hg5, hg6⟩ := h.rmk.2.resolve_left fun h => by omega
  have HC := hide (h.rmk.cells (g := g) rfl)
  have hsz : nm.size ≤ maxLen := by unfold maxLen; omega
  have hz := zeroMark
  have B1 := hide ((Below.refl w.heap.size w).alloc (Nat.le_refl _) (.cells #[.int .i64 (i : Int), .pointer none] 258))
  have hgl : g < w.heap.size := heap_lt hg2
  obtain ⟨n, hnn⟩ : ∃ n, n = making.length := ⟨_, rfl⟩
  rw [← hnn] at hil hm c3 hg3
  have HNN := hide hnn
  clear hnn
  have c3' := (B1.out.cell (p := ⟨mb, 3, none⟩) hl).trans c3
  have k0 : (w.alloc (.cells #[.int .i64 (i : Int), .pointer none] 258)).cell? ⟨w.heap.size, 0, none⟩ = some (.int .i64 (i : Int)) := by simp
  clear h he hg2 hg5 hg6 hi
  go_enter Tryz.func145, Tryz.ntmps145
  go_wp2_with (first
    | (at_lookup; refine wpN_lookup_ok _ rfl _ _ 190 rfl 258 Tryz.underlying190 (hz _) mp _ _ rfl HM.out.map nm rfl hsz _ HV.out true HF.out ?_)
    | fail)
  clear c2 c3
  have hw0 : w.heap.size < (w.alloc (.cells #[.int .i64 (i : Int), .pointer none] 258)).heap.size := by simp
  generalize w.alloc (.cells #[.int .i64 (i : Int), .pointer none] 258) = W1 at B1 c3' k0 hw0 ⊢
  have hI0 : (0 : Int) ≤ (i : Int) := by omega
  have hI1 : (i : Int) ≤ (n : Int) := by omega
  have hI2 : (n : Int) ≤ (cap : Int) := by omega
  have hcl : ¬ cap = i := by omega
  have hl1 : mb < W1.heap.size := by have := B1.out.size; omega
  have hw1 : w.heap.size < W1.heap.size := hw0
  have HCC : Hid (∀ W, Below w.heap.size w W → ∀ j, j < (making.drop i).length → W.cell? ⟨g, i + j, none⟩ = some (.string ((making.drop i).getD j ByteArray.empty))) := fun W hW j hj => by
    rw [List.length_drop] at hj
    have h1 := HC.out (i + j) (.string ((making.drop i).getD j ByteArray.empty)) (by
      rw [strV, List.getElem?_map, List.getElem?_eq_getElem (by omega)]
      simp [List.getD_eq_getElem?_getD, List.getElem?_drop, List.getElem?_eq_getElem (show i + j < making.length by omega)])
    exact (hW.cell (p := ⟨g, i + j, none⟩) hgl).trans (by rw [addr_add, Nat.zero_add] at h1; exact h1)
  refine wp_region_held_drew (S := fun V => V.cell? ⟨mb, 3, none⟩ = some (.slice (some ⟨g, 0, none⟩) n cap) ∧ V.cell? ⟨w.heap.size, 0, none⟩ = some (.int .i64 (i : Int))) (by as_aux_lemma => kernel_rfl) ⟨c3', k0⟩ (fun hS => ?_)
  have HS := hide hS
  clear hS
  iterate 3
    refine anyS_nx 0 (v := ?_) rfl rfl (by as_aux_lemma => kernel_rfl) (fun _ _ _ h => h) rfl ?_ HS.out ?_
    rotate_left
    · (intro wz hSw; obtain ⟨s0, s1⟩ := hSw; go_simp)
      (try with_reducible rfl)
    (try simp only [Act.put, nzL])
  refine anyS_nx 4 (v := ?_) rfl rfl (by as_aux_lemma => kernel_rfl) (fun _ _ _ h => h) rfl ?_ HS.out ?_
  rotate_left
  · (intro wz hSw; obtain ⟨s0, s1⟩ := hSw; go_simp)
    (try with_reducible rfl)
  (try simp only [Act.put, nzL])
  refine anyS_nx 3 (v := ?_) rfl rfl (by as_aux_lemma => kernel_rfl) (fun _ _ _ h => h) rfl ?_ HS.out ?_
  rotate_left
  · (intro wz hSw; obtain ⟨s0, s1⟩ := hSw; go_simp)
    (try with_reducible rfl)
  (try simp only [Act.put, nzL])
  iterate 2
    refine anyS_nx 5 (v := ?_) rfl rfl (by as_aux_lemma => kernel_rfl) (fun _ _ _ h => h) rfl ?_ HS.out ?_
    rotate_left
    · (intro wz hSw; obtain ⟨s0, s1⟩ := hSw; go_simp)
      (try with_reducible rfl)
    (try simp only [Act.put, nzL])
  refine anyS_one (i := 7) rfl (by as_aux_lemma => kernel_rfl) (fun K hK => ?_)
  go_simp
  go_at_call 192
  refine (Tryz.slices_Clone_string g i (n - i) (cap - i) (making.drop i) _ (by rw [List.length_drop, ← HNN.out]; exact Nat.le_refl _) (by omega) (HCC.out _ B1.out.drew)).mono ?_
  rintro e w2 ⟨v2, rfl, hown, hne, hB⟩
  have O2 := hide hown
  obtain ⟨g2, cap2, cur2, rfl, q1, q2⟩ := hown.2.resolve_left (fun h => hne h.1)
  have B2 : Hid (Below W1.heap.size W1 w2) := ⟨hB.os, hB.tape, hB.output, hB.size, hB.block⟩
  clear hown hB q1 q2 hne
  refine hK.out _ _ ⟨(B2.out.cell (p := ⟨mb, 3, none⟩) hl1).trans c3', (B2.out.cell (p := ⟨w.heap.size, 0, none⟩) hw1).trans k0⟩ ?_
  clear hK K HS
  have HS : Hid (w2.cell? ⟨mb, 3, none⟩ = some (.slice (some ⟨g, 0, none⟩) n cap) ∧ w2.cell? ⟨w.heap.size, 0, none⟩ = some (.int .i64 (i : Int))) := ⟨(B2.out.cell (p := ⟨mb, 3, none⟩) hl1).trans c3', (B2.out.cell (p := ⟨w.heap.size, 0, none⟩) hw1).trans k0⟩
  (try simp only [Act.put, nzL])
  iterate 2
    refine anyS_nx 8 (v := ?_) rfl rfl (by as_aux_lemma => kernel_rfl) (fun _ _ _ h => h) rfl ?_ HS.out ?_
    rotate_left
    · (intro wz hSw; obtain ⟨s0, s1⟩ := hSw; go_simp)
      (try with_reducible rfl)
    (try simp only [Act.put, nzL])
  refine anyS_one (i := 10) rfl (by as_aux_lemma => kernel_rfl) (fun K hK => ?_)
  go_simp
  refine ⟨rfl, _, rfl, ?_, ?_⟩
  · have h1 := own_mono (base' := w.heap.size) O2.out B1.out.size
    have e1 : (making.drop i).length = n - i := by rw [List.length_drop, ← HNN.out]
    rw [e1]
    rw [List.take_of_length_le (by omega)] at h1
    exact h1
  · exact B1.out.trans (B2.out.mono B1.out.size)
end
end Go.Proofs.YtkophfgkcijjkaaGreatDoor.Vp
namespace Go.Proofs.YtkophfgkcijjkaaGreatDoor.Vp
open Go.RowKit
def updB {α : Type} (f : ByteArray → α) (nm : ByteArray) (v : α) : ByteArray → α := fun t => if t.toList = nm.toList then v else f t
theorem updB_same {α : Type} (f : ByteArray → α) (nm : ByteArray) (v : α) : updB f nm v nm = v := if_pos rfl
theorem updB_other {α : Type} (f : ByteArray → α) {nm t : ByteArray} (v : α) (h : t ≠ nm) : updB f nm v t = f t := if_neg fun e => h (bytes_eq e)
theorem mark_begin {G : ByteArray → Nat} {making : List ByteArray} {made : List Ent} {nm : ByteArray} (h0 : entOf made nm = none) (h1 : atL making nm = none) (s : List UInt8) :
    (if s = nm.toList then some (.agg #[.int .i64 (making.length : Int), .pointer none]) else markF G making made s) = markF G (making ++ [nm]) made s := by
  unfold markF
  by_cases e : s = nm.toList
  · subst e
    rw [if_pos rfl, find_same, h0, List.findIdx?_append, show List.findIdx? (fun x : ByteArray => x.toList == nm.toList) making = none from h1]
    simp [List.findIdx?_cons]
  · rw [if_neg e, List.findIdx?_append]
    have hn : (nm.toList == s) = false := by simpa using fun h => e h.symm
    cases made.find? (fun e => e.name.toList == s) with
    | some x => rfl
    | none => simp [List.findIdx?_cons, hn]
theorem mark_end {G G' : ByteArray → Nat} {mm making : List ByteArray} {made : List Ent} {nm : ByteArray} {x : Ent} {eb : Nat} (h0 : entOf made nm = none) (hx : x.name = nm) (hG : ∀ y ∈ made, G' y.name = G y.name) (he : G' nm = eb) (hm : mm = making ∨ mm = making ++ [nm]) (s : List UInt8) :
    (if s = nm.toList then some (.agg #[.int .i64 0, .pointer (some ⟨eb, 0, none⟩)]) else markF G mm made s) = markF G' making (made ++ [x]) s := by
  unfold markF
  rw [List.find?_append]
  by_cases e : s = nm.toList
  · subst e
    rw [if_pos rfl, find_same, h0]
    simp [hx, he]
  · rw [if_neg e]
    have hn : (nm.toList == s) = false := by simpa using fun h => e h.symm
    cases hf : made.find? (fun e => e.name.toList == s) with
    | some y =>
      simp only [Option.some_or]
      rw [hG y (List.mem_of_find?_eq_some hf)]
    | none =>
      have h2 : List.find? (fun e : Ent => e.name.toList == s) [x] = none := by simp [hx, hn]
      rw [h2]
      rcases hm with rfl | rfl
      · rfl
      · simp [List.findIdx?_append, List.findIdx?_cons, hn]
section
variable {w0 w : World} {S : Spc} {mb mp : Nat} {s0 s1 mk md : Value} {mm making : List ByteArray} {made : List Ent} {G : ByteArray → Nat} {V : ByteArray → Value}
theorem EntAt.congr {G' : ByteArray → Nat} {b : Nat} {v : Value} {x : Ent} (h : EntAt w0 S G w b v x) (hG : ∀ l ∈ x.looks, l.ask = true → G' l.name = G l.name) : EntAt w0 S G' w b v x := by
  obtain ⟨h1, h2, h3⟩ := h
  refine ⟨h1, h2, ?_⟩
  rw [tiesV_congr hG]
  exact h3
theorem MIg.added {nm : ByteArray} {x : Ent} {eb cnt : Nat} {v : Value} (h : MIg w0 S mb mp s0 s1 w cnt (fun s => if s = nm.toList then some (.agg #[.int .i64 0, .pointer (some ⟨eb, 0, none⟩)]) else markF G mm made s) making.length (strV making) (made.length + 1) (ptrV G made ++ [.pointer (some ⟨eb, 0, none⟩)]) made G V mk md) (hp : PG S making made) (h0 : entOf made nm = none) (hx : x.name = nm)
    (hm : mm = making ∨ mm = making ++ [nm]) (hc : cnt ≤ 2 * (made.length + 1) + making.length) (he : EntAt w0 S G w eb v x) (hf : ∀ y ∈ made, G y.name ≠ eb) (ha : ∀ l ∈ x.looks, l.ask = true → ∃ y ∈ made, y.name = l.name) :
    MI w0 S mb mp s0 s1 w making making (made ++ [x]) (updB G nm eb) (updB V nm v) mk md := by
  have hne := entOf_none h0
  have hG : ∀ y ∈ made, updB G nm eb y.name = G y.name := fun y hy => updB_other _ _ (hne y hy)
  have hV : ∀ y ∈ made, updB V nm v y.name = V y.name := fun y hy => updB_other _ _ (hne y hy)
  have hl : (made ++ [x]).length = made.length + 1 := by simp
  refine ⟨h.bel, h.mbB, h.mpB, h.box, h.rmk, ?_, ?_, fun y hy => ?_, ?_⟩
  · have e : ptrV (updB G nm eb) (made ++ [x]) = ptrV G made ++ [.pointer (some ⟨eb, 0, none⟩)] := by
      simp only [ptrV, List.map_append, List.map_cons, List.map_nil, hx, updB_same]
      rw [List.map_congr_left fun y hy => by rw [hG y hy]]
    rw [e, hl]
    exact h.rmd
  · rw [hl]
    exact (h.map.mono hc).congr fun s => mark_end h0 hx hG (updB_same _ _ _) hm s
  · rcases List.mem_append.1 hy with hy | hy
    · rw [hG y hy, hV y hy]
      refine (h.ents y hy).congr fun l hl ha => ?_
      obtain ⟨i, hi⟩ := List.getElem?_of_mem hy
      obtain ⟨j, z, _, hz, hn⟩ := hp.ord i y hi l hl ha
      rw [← hn]
      exact hG z (List.mem_of_getElem? hz)
    · rw [List.mem_singleton.1 hy, hx, updB_same, updB_same]
      refine he.congr fun l hl ha2 => ?_
      obtain ⟨z, hz, hn⟩ := ha l hl ha2
      rw [← hn]
      exact hG z hz
  · rw [List.pairwise_append]
    refine ⟨?_, List.pairwise_singleton _ _, fun a ha b hb => ?_⟩
    · exact h.dist.imp_of_mem fun {a b} ha hb h => by rw [hG a ha, hG b hb]; exact h
    · rw [List.mem_singleton.1 hb, hx, updB_same, hG a ha]
      exact hf a ha
structure Ext (n : Nat) (made made' : List Ent) (G G' : ByteArray → Nat) (V V' : ByteArray → Value) : Prop where
  pre : ∃ more, made' = made ++ more
  same : ∀ x ∈ made, G' x.name = G x.name ∧ V' x.name = V x.name
  new : ∀ x ∈ made', x ∈ made ∨ (n ≤ G' x.name ∧ ∀ k, (V' x.name).ownBlock = some k → n ≤ k)
theorem Ext.refl (n : Nat) (made : List Ent) (G : ByteArray → Nat) (V : ByteArray → Value) : Ext n made made G G V V := ⟨⟨[], by simp⟩, fun _ _ => ⟨rfl, rfl⟩, fun _ h => .inl h⟩
theorem Ext.mem {n : Nat} {made made' : List Ent} {G G' : ByteArray → Nat} {V V' : ByteArray → Value} (h : Ext n made made' G G' V V') : ∀ x ∈ made, x ∈ made' := by
  obtain ⟨more, e⟩ := h.pre
  intro x hx
  rw [e]
  exact List.mem_append_left _ hx
theorem Ext.trans {n m : Nat} {a b c : List Ent} {G0 G1 G2 : ByteArray → Nat} {V0 V1 V2 : ByteArray → Value} (h : Ext n a b G0 G1 V0 V1) (k : Ext m b c G1 G2 V1 V2) (hnm : n ≤ m) : Ext n a c G0 G2 V0 V2 := by
  obtain ⟨p, hp⟩ := h.pre
  obtain ⟨q, hq⟩ := k.pre
  refine ⟨⟨p ++ q, by rw [hq, hp, List.append_assoc]⟩, fun x hx => ?_, fun x hx => ?_⟩
  · obtain ⟨e1, e2⟩ := h.same x hx
    obtain ⟨e3, e4⟩ := k.same x (h.mem x hx)
    exact ⟨e3.trans e1, e4.trans e2⟩
  · rcases k.new x hx with hb | ⟨h1, h2⟩
    · obtain ⟨e3, e4⟩ := k.same x hb
      rcases h.new x hb with ha | ⟨h1, h2⟩
      · exact .inl ha
      · exact .inr ⟨by rw [e3]; exact h1, by rw [e4]; exact h2⟩
    · exact .inr ⟨Nat.le_trans hnm h1, fun k hk => Nat.le_trans hnm (h2 k hk)⟩
theorem Ext.mono {n m : Nat} {a b : List Ent} {G0 G1 : ByteArray → Nat} {V0 V1 : ByteArray → Value} (h : Ext n a b G0 G1 V0 V1) (hnm : m ≤ n) : Ext m a b G0 G1 V0 V1 :=
  ⟨h.pre, h.same, fun x hx => (h.new x hx).imp id fun ⟨h1, h2⟩ => ⟨Nat.le_trans hnm h1, fun k hk => Nat.le_trans hnm (h2 k hk)⟩⟩
theorem ext_add {n : Nat} {made : List Ent} {nm : ByteArray} {x : Ent} {eb : Nat} {v : Value} (h0 : entOf made nm = none) (hx : x.name = nm) (h1 : n ≤ eb) (h2 : ∀ k, v.ownBlock = some k → n ≤ k) : Ext n made (made ++ [x]) G (updB G nm eb) V (updB V nm v) := by
  refine ⟨⟨_, rfl⟩, fun y hy => ⟨updB_other _ _ (entOf_none h0 y hy), updB_other _ _ (entOf_none h0 y hy)⟩, fun y hy => ?_⟩
  rcases List.mem_append.1 hy with hy | hy
  · exact .inl hy
  · rw [List.mem_singleton.1 hy, hx, updB_same, updB_same]
    exact .inr ⟨h1, h2⟩
theorem EU.step {w' : World} {eb tg : Nat} {nm : ByteArray} {ls : List Lk} {v : Value} {made' : List Ent} {G' : ByteArray → Nat} {V' : ByteArray → Value} (h : EU w0 S w eb nm tg G ls v made V) (hk : KX w0.heap.size XN w w') (he : Ext w.heap.size made made' G G' V V') : EU w0 S w' eb nm tg G' ls v made' V' := by
  obtain ⟨⟨a, cap, hb, ha⟩, hge, hr, hf, hap, has⟩ := h
  have hG : ∀ l ∈ ls, l.ask = true → G' l.name = G l.name := fun l hl ha => by
    obtain ⟨x, hx, e⟩ := has l hl ha
    rw [← e]
    exact (he.same x hx).1
  have hebl := heap_lt hb
  refine ⟨⟨a, cap, (hk.blk _ _ _ _ hb (by decide) (by decide) (by decide) fun h => h).trans hb, ha⟩, hge, ?_, fun x hx => ?_, fun x hx k hk2 => ?_, fun l hl ha => ?_⟩
  · rw [tiesV_congr hG]
    refine own_blk hr fun k hk2 => ?_
    obtain ⟨_, _, cs, hc⟩ := own_cellsM hr k hk2
    exact hk.blk k _ _ _ hc (by decide) (by decide) (by decide) fun h => h
  · rcases he.new x hx with hx | ⟨h1, _⟩
    · rw [(he.same x hx).1]; exact hf x hx
    · omega
  · rcases he.new x hx with hx | ⟨_, h1⟩
    · rw [(he.same x hx).2]; exact hap x hx k hk2
    · intro e
      have := h1 k e
      have := (own_cellsM hr k hk2).2.1
      omega
  · obtain ⟨x, hx, e⟩ := has l hl ha
    exact ⟨x, he.mem x hx, e⟩
end
end Go.Proofs.YtkophfgkcijjkaaGreatDoor.Vp
namespace Go.Proofs.YtkophfgkcijjkaaGreatDoor.Vp
open Go.RowKit
structure Ctx (w0 : World) (S : Spc) (a0 : Option Addr) (c0 : Nat) (a1 : Option Addr) (c1 : Nat) : Prop where
  src : SlSource w0 a0 S.n0 S.f0
  tgt : SlTarget w0 a1 S.n1 S.f1
  ok : SpcOk S
  tab : Tab2 w0
  pow : Pow w0
  sz : ∀ i, i < S.n0 → (S.f0 i).text.size ≤ maxLen
def LiesPost (w0 : World) (S : Spc) (mb mp : Nat) (s0 s1 : Value) (making : List ByteArray) (made : List Ent) (G : ByteArray → Nat) (V : ByteArray → Value) (w : World) (e : Ending) (w' : World) : Out Ent → Prop
  | .inl (made', x) => ∃ G' V' mk' md', e = .returned (.pointer (some ⟨G' x.name, 0, none⟩)) ∧ MI w0 S mb mp s0 s1 w' making making made' G' V' mk' md' ∧ Ext w.heap.size made made' G G' V V' ∧ KX w0.heap.size XN w w'
  | .inr (.inl c) => ∃ v, e = .panicked [{ v := .iface 253 (.agg #[v]), recovered := false }] ∧ w'.ownsRow w0.heap.size 9 1 v c.length (strV c) ∧ Below w0.heap.size w w'
  | .inr (.inr d) => e = .panicked [{ v := .iface 255 (.agg #[.string d]), recovered := false }] ∧ Below w0.heap.size w w'
def roomN (S : Spc) (making : List ByteArray) (made : List Ent) (k : Nat) : Prop := made.length + 201 * leftN S making made + k ≤ 50000
def LiesOk (w0 : World) (S : Spc) (mb mp : Nat) (s0 s1 : Value) (n : Nat) : Prop := ∀ making made G V mk md w nm, making.length + n = 60 → MI w0 S mb mp s0 s1 w making making made G V mk md → PG S making made → roomN S making made 1 → nameOk nm = true →
  Calls Tryz.prog 145 #[.pointer (some ⟨mb, 0, none⟩), .string nm] w fun e w' => LiesPost w0 S mb mp s0 s1 making made G V w e w' (liesP S n making made nm)
theorem infoM2 {e : TypeId} {z : Value} {a b : Nat} (h : (Tryz.prog.info? e).map (fun i => (i.zero, i.size, i.bytes)) = some (some z, a, b)) : ∃ i, Tryz.prog.info? e = some i ∧ i.zero = some z ∧ i.size = a ∧ i.bytes = b := by
  cases hi : Tryz.prog.info? e with
  | none => rw [hi] at h; cases h
  | some i =>
    rw [hi] at h
    simp only [Option.map_some, Option.some.injEq, Prod.mk.injEq] at h
    exact ⟨i, rfl, h⟩
theorem infoTie : (Tryz.prog.info? 214).map (fun i => (i.zero, i.size, i.bytes)) = some (some (.agg #[.string ⟨#[]⟩, .bool false, .bool false, .int .i64 0, .pointer none]), 5, 40) := by kernel_rfl
theorem infoStrM : (Tryz.prog.info? 9).map (fun i => (i.zero, i.size, i.bytes)) = some (some (.string ⟨#[]⟩), 1, 16) := by kernel_rfl
theorem infoPtrM : (Tryz.prog.info? 135).map (fun i => (i.zero, i.size, i.bytes)) = some (some (.pointer none), 1, 8) := by kernel_rfl
abbrev offT (t : TypeId) : Prop := t ≠ 9 ∧ t ≠ 135 ∧ t ≠ 192 ∧ t ≠ 138 ∧ t ≠ 214
section
variable {w0 w : World} {S : Spc} {mb mp : Nat} {s0 s1 mk md : Value} {cnt nk np : Nat} {F : List UInt8 → Option Value} {ks ps : List Value} {made : List Ent} {G : ByteArray → Nat} {V : ByteArray → Value}
theorem MIg.setOff {b : Nat} {cs : Array Value} {t : TypeId} {fz : Nat × Nat} (h : MIg w0 S mb mp s0 s1 w cnt F nk ks np ps made G V mk md) (hb : w.heap[b]? = some (.cells cs t fz)) (ht : offT t) (hB : w0.heap.size ≤ b) (j : Nat) (u : Value) : MIg w0 S mb mp s0 s1 (w.setCell ⟨b, j, none⟩ u) cnt F nk ks np ps made G V mk md := by
  have hk : KX w0.heap.size (fun i => i = b) w (w.setCell ⟨b, j, none⟩ u) := KX.setCell (X := fun i => i = b) w hB (Or.inl rfl) u
  obtain ⟨t1, t2, t3, t4, t5⟩ := ht
  refine h.kx hk (fun i o hi hne => Below.heap_setCell _ _ _ _ fun e => hne e) (fun e => ?_) (fun e => ?_) (fun k hk2 e => ?_) (fun k hk2 e => ?_) (fun x hx => ⟨fun e => ?_, fun k hk2 e => ?_⟩)
  · subst e; exact t3 (two_types hb h.box)
  · obtain ⟨es, c, hm⟩ := h.map.isMap
    rw [e, hb] at hm; cases hm
  · subst e; obtain ⟨_, _, cs, hc⟩ := own_cellsM h.rmk _ hk2; exact t1 (two_types hb hc)
  · subst e; obtain ⟨_, _, cs, hc⟩ := own_cellsM h.rmd _ hk2; exact t2 (two_types hb hc)
  · obtain ⟨act, hbl, _⟩ := (h.ents x hx).blk
    rw [e] at hbl
    exact t4 (two_types hb hbl)
  · subst e; obtain ⟨_, _, cs, hc⟩ := own_cellsM (h.ents x hx).row _ hk2; exact t5 (two_types hb hc)
theorem EU.setOff {b eb tg : Nat} {nm : ByteArray} {ls : List Lk} {v : Value} {cs : Array Value} {t : TypeId} {fz : Nat × Nat} (h : EU w0 S w eb nm tg G ls v made V) (hb : w.heap[b]? = some (.cells cs t fz)) (ht : offT t) (j : Nat) (u : Value) : EU w0 S (w.setCell ⟨b, j, none⟩ u) eb nm tg G ls v made V := by
  obtain ⟨⟨a, cap, hbl, ha⟩, hge, hr, hf, hap, has⟩ := h
  obtain ⟨t1, t2, t3, t4, t5⟩ := ht
  refine ⟨⟨a, cap, (Below.heap_setCell _ _ _ _ fun e => ?_).trans hbl, ha⟩, hge, own_other hr (fun e => ?_) _ _, hf, hap, has⟩
  · simp at e; subst e; exact t4 (two_types hb hbl)
  · obtain ⟨_, _, cs, hc⟩ := own_cellsM hr _ e; exact t5 (two_types hb hc)
theorem EU.below {w' : World} {eb tg C : Nat} {nm : ByteArray} {ls : List Lk} {v : Value} (h : EU w0 S w eb nm tg G ls v made V) (hb : Below C w w') (hC : w.heap.size ≤ C) : EU w0 S w' eb nm tg G ls v made V := by
  obtain ⟨⟨a, cap, hbl, ha⟩, hge, hr, hf, hap, has⟩ := h
  exact ⟨⟨a, cap, (hb.block _ (Nat.lt_of_lt_of_le (heap_lt hbl) hC)).trans hbl, ha⟩, hge, own_below hr hb hC, hf, hap, has⟩
theorem EntBlk.facts {b : Nat} {nm text : ByteArray} {kind code place : Int} {act ties : Value} (h : EntBlk w b nm kind code text act ties place) : b < w.heap.size ∧ w.cell? ⟨b, 0, none⟩ = some (.string nm) ∧ w.cell? ⟨b, 1, none⟩ = some (.int .i64 kind) ∧ w.cell? ⟨b, 2, none⟩ = some (.int .i64 code) ∧ w.cell? ⟨b, 3, none⟩ = some (.string text) ∧ w.cell? ⟨b, 4, none⟩ = some act ∧ w.cell? ⟨b, 5, none⟩ = some (.slice none 0 0) ∧ w.cell? ⟨b, 6, none⟩ = some ties ∧ w.cell? ⟨b, 7, none⟩ = some (.int .i64 place) ∧ ∀ j, w.frozen? ⟨b, j, none⟩ = false := by
  unfold EntBlk at h
  refine ⟨heap_lt h, ?_, ?_, ?_, ?_, ?_, ?_, ?_, ?_, fun j => ?_⟩
  all_goals simp [World.cell?, World.frozen?, h]
theorem EU.tied {w1 : World} {eb tg : Nat} {nm : ByteArray} {ls : List Lk} {v v' : Value} {l : Lk} (h : EU w0 S w eb nm tg G ls v made V) (hl : l.ask = true → ∃ x ∈ made, x.name = l.name) (hg : w.grownBy w1 v.ownBlock) (hr : w1.ownsRow w0.heap.size 214 5 v' (ls.length + 1) (tiesV G ls ++ tieV G l)) (hv : v'.ownBlock = v.ownBlock ∨ v'.ownBlock = some w.heap.size) (hV : ∀ x ∈ made, ∀ k, (V x.name).ownBlock = some k → k < w.heap.size) :
    EU w0 S (w1.setCell ⟨eb, 6, none⟩ v') eb nm tg G (ls ++ [l]) v' made V := by
  obtain ⟨⟨a, cap, hbl, ha⟩, hge, hr0, hf, hap, has⟩ := h
  have hne : some eb ≠ v.ownBlock := fun e => by
    obtain ⟨_, _, cs, hc⟩ := own_cellsM hr0 eb e.symm
    exact absurd (two_types hbl hc) (by decide)
  have hbl1 : w1.heap[eb]? = _ := (hg.block eb (heap_lt hbl) hne).trans hbl
  refine ⟨⟨a, cap, heap_setCell_at hbl1 v', ha⟩, hge, ?_, hf, fun x hx k hk => ?_, fun z hz hza => ?_⟩
  · rw [tiesV_add, List.length_append, List.length_singleton]
    refine own_other hr (fun e => ?_) _ _
    obtain ⟨_, _, cs, hc⟩ := own_cellsM hr eb e
    exact absurd (two_types hbl1 hc) (by decide)
  · rcases hv with e | e
    · exact hap x hx k (by rw [← e]; exact hk)
    · rw [e] at hk
      cases hk
      intro e2
      have := hV x hx _ e2
      omega
  · rcases List.mem_append.1 hz with hz | hz
    · exact has z hz hza
    · rw [List.mem_singleton.1 hz] at hza ⊢; exact hl hza
theorem MIg.tied {w1 : World} {eb tg : Nat} {nm : ByteArray} {ls : List Lk} {v v' : Value} (h : MIg w0 S mb mp s0 s1 w cnt F nk ks np ps made G V mk md) (hu : EU w0 S w eb nm tg G ls v made V) (hg : w.grownBy w1 v.ownBlock) : MIg w0 S mb mp s0 s1 (w1.setCell ⟨eb, 6, none⟩ v') cnt F nk ks np ps made G V mk md ∧ KX w0.heap.size (fun i => i = eb ∨ v.ownBlock = some i) w (w1.setCell ⟨eb, 6, none⟩ v') := by
  obtain ⟨⟨a, cap, hbl, ha⟩, hge, hr0, hf, hap, has⟩ := hu
  have k1 : KX w0.heap.size (fun i => i = eb ∨ v.ownBlock = some i) w w1 := KX.of_grown hg h.lt fun j hj => ⟨(own_cellsM hr0 j hj).1, .inl (.inr hj)⟩
  have k2 : KX w0.heap.size (fun i => i = eb ∨ v.ownBlock = some i) w1 (w1.setCell ⟨eb, 6, none⟩ v') := KX.setCell w1 hge (.inl (.inl rfl)) v'
  have hk := k1.trans k2 fun _ _ h => h
  refine ⟨h.kx hk (fun i o hi hne => ?_) (fun e => ?_) (fun e => ?_) (fun k hk2 e => ?_) (fun k hk2 e => ?_) (fun x hx => ⟨fun e => ?_, fun k hk2 e => ?_⟩), hk⟩
  · exact (Below.heap_setCell _ _ _ _ fun e => hne (.inl e)).trans (hg.block i (heap_lt hi) fun e => hne (.inr e.symm))
  · rcases e with e | e
    · rw [← e] at hbl; exact absurd (two_types hbl h.box) (by decide)
    · obtain ⟨_, _, cs, hc⟩ := own_cellsM hr0 _ e; exact absurd (two_types hc h.box) (by decide)
  · obtain ⟨es, c, hm⟩ := h.map.isMap
    rcases e with e | e
    · unfold EntBlk at hbl; rw [← e, hm] at hbl; cases hbl
    · obtain ⟨_, _, cs, hc⟩ := own_cellsM hr0 _ e; rw [hm] at hc; cases hc
  · obtain ⟨_, _, cs, hc⟩ := own_cellsM h.rmk _ hk2
    rcases e with e | e
    · rw [← e] at hbl; exact absurd (two_types hbl hc) (by decide)
    · obtain ⟨_, _, cs2, hc2⟩ := own_cellsM hr0 _ e; exact absurd (two_types hc hc2) (by decide)
  · obtain ⟨_, _, cs, hc⟩ := own_cellsM h.rmd _ hk2
    rcases e with e | e
    · rw [← e] at hbl; exact absurd (two_types hbl hc) (by decide)
    · obtain ⟨_, _, cs2, hc2⟩ := own_cellsM hr0 _ e; exact absurd (two_types hc hc2) (by decide)
  · rcases e with e | e
    · exact hf x hx e
    · obtain ⟨act, hbl2, _⟩ := (h.ents x hx).blk
      obtain ⟨_, _, cs2, hc2⟩ := own_cellsM hr0 _ e; exact absurd (two_types hbl2 hc2) (by decide)
  · rcases e with e | e
    · obtain ⟨_, _, cs2, hc2⟩ := own_cellsM (h.ents x hx).row _ hk2
      rw [← e] at hbl; exact absurd (two_types hbl hc2) (by decide)
    · exact hap x hx k e hk2
theorem MIg.vlt (h : MIg w0 S mb mp s0 s1 w cnt F nk ks np ps made G V mk md) : ∀ x ∈ made, ∀ k, (V x.name).ownBlock = some k → k < w.heap.size := fun x hx k hk => (own_cellsM (h.ents x hx).row k hk).2.1
end
end Go.Proofs.YtkophfgkcijjkaaGreatDoor.Vp
namespace Go.Proofs.YtkophfgkcijjkaaGreatDoor.Vp
open Go.RowKit Go.Proofs.YtkophfgkcijjkaaGreatDoor.Ca
theorem own_sliceM {w : World} {base size n : Nat} {e : TypeId} {v : Value} {xs : List Value} (h : w.ownsRow base e size v n xs) : ∃ a cap, v = .slice a n cap := by
  obtain ⟨_, ⟨rfl, rfl⟩ | ⟨g, cap, cur, rfl, _⟩⟩ := h
  · exact ⟨none, 0, rfl⟩
  · exact ⟨_, _, rfl⟩
theorem five_at (w : World) (v0 v1 v2 v3 v4 : Value) (t : TypeId) : ∀ j u, [v0, v1, v2, v3, v4][j]? = some u → (w.alloc (.cells #[v0, v1, v2, v3, v4] t)).cell? ((⟨w.heap.size, 0, none⟩ : Addr).add j) = some u := by
  intro j u h
  rw [addr_add]
  have hj : j < 5 := by
    rcases Nat.lt_or_ge j 5 with h' | h'
    · exact h'
    · rw [List.getElem?_eq_none (by simp; omega)] at h; cases h
  rcases (show j = 0 ∨ j = 1 ∨ j = 2 ∨ j = 3 ∨ j = 4 by omega) with rfl | rfl | rfl | rfl | rfl
  all_goals
    simp at h
    subst h
    simp
section
variable {w0 : World} {S : Spc} {a0 a1 : Option Addr} {c0 c1 mb mp : Nat} {mk md : Value} {making : List ByteArray} {made : List Ent} {G : ByteArray → Nat} {V : ByteArray → Value}
def RepSt (w0 : World) (S : Spc) (mb mp : Nat) (s0 s1 : Value) (w w' : World) (making : List ByteArray) (made : List Ent) (G : ByteArray → Nat) (V : ByteArray → Value) (mk md : Value) (eb tg : Nat) (nm : ByteArray) (ls : List Lk) (v v' : Value) : Prop :=
  MI w0 S mb mp s0 s1 w' making making made G V mk md ∧ EU w0 S w' eb nm tg G ls v' made V ∧ KX w0.heap.size (fun i => i = eb ∨ v.ownBlock = some i) w w' ∧ ∀ k, v'.ownBlock = some k → v.ownBlock = some k ∨ w.heap.size ≤ k
theorem RepSt.set {w W : World} {s0 s1 : Value} {eb tg rb : Nat} {nm : ByteArray} {ls : List Lk} {v v' : Value} {cs : Array Value} {t : TypeId} (h : RepSt w0 S mb mp s0 s1 w W making made G V mk md eb tg nm ls v v') (hb : W.heap[rb]? = some (.cells cs t (0, 0))) (ht : offT t) (hB : w0.heap.size ≤ w.heap.size) (hrb : w.heap.size ≤ rb) (j : Nat) (u : Value) :
    RepSt w0 S mb mp s0 s1 w (W.setCell ⟨rb, j, none⟩ u) making made G V mk md eb tg nm ls v v' ∧ (W.setCell ⟨rb, j, none⟩ u).heap[rb]? = some (.cells (cs.setIfInBounds j u) t (0, 0)) :=
  ⟨⟨h.1.setOff hb ht (Nat.le_trans hB hrb) j u, h.2.1.setOff hb ht j u, h.2.2.1.trans (KX.setCell (X := fun i => i = rb) W (Nat.le_trans hB hrb) (Or.inl rfl) u) (fun i hi e => by have e2 : i = rb := e; omega), h.2.2.2⟩, heap_setCell_at hb u⟩
theorem three_facts {w : World} {b : Nat} {v0 v1 v2 : Value} {t : TypeId} (h : w.heap[b]? = some (.cells #[v0, v1, v2] t (0, 0))) : b < w.heap.size ∧ w.cell? ⟨b, 0, none⟩ = some v0 ∧ w.cell? ⟨b, 1, none⟩ = some v1 ∧ w.cell? ⟨b, 2, none⟩ = some v2 ∧ ∀ j, w.frozen? ⟨b, j, none⟩ = false := by
  refine ⟨heap_lt h, ?_, ?_, ?_, fun j => ?_⟩
  all_goals simp [World.cell?, World.frozen?, h]
set_option maxRecDepth 1000000 in
set_option maxHeartbeats 8000000 in
theorem reply_has (C : Ctx w0 S a0 c0 a1 c1) (w : World) (eb tg : Nat) (nm : ByteArray) (ls : List Lk) (v : Value) (T : Turn) (h : MI w0 S mb mp (.slice a0 S.n0 c0) (.slice a1 S.n1 c1) w making making made G V mk md) (hu : EU w0 S w eb nm tg G ls v made V) (hls : ls.length ≤ 200) (hask : T.ask = false) :
    Calls Tryz.prog 254 #[.pointer (some ⟨mb, 0, none⟩), .pointer (some ⟨eb, 0, none⟩), T.v] w fun e w' => e = .returned (.agg #[.bool (hasS S T.name), .int .i64 0, .string ⟨#[]⟩]) ∧ ∃ v', RepSt w0 S mb mp (.slice a0 S.n0 c0) (.slice a1 S.n1 c1) w w' making made G V mk md eb tg nm (ls ++ [⟨T.name, false, hasS S T.name⟩]) v v' := by
  obtain ⟨i1, hi, hy0, hy1, hy2⟩ := infoM2 infoTie
  obtain ⟨av, cv, rfl⟩ := own_sliceM hu.row
  obtain ⟨over, code, text, ask, name, steps⟩ := T
  simp only at hask
  subst hask
  have A0 := hide (((Below.refl w.heap.size w).alloc (Nat.le_refl _) (.cells #[.bool over, .int .i64 code, .string text, .bool false, .string name, .int .i64 steps] 70)).alloc (by simp) (.cells #[.bool false, .int .i64 0, .string ⟨#[]⟩] 75))
  have kt3 : ((w.alloc (.cells #[.bool over, .int .i64 code, .string text, .bool false, .string name, .int .i64 steps] 70)).alloc (.cells #[.bool false, .int .i64 0, .string ⟨#[]⟩] 75)).cell? ⟨w.heap.size, 3, none⟩ = some (.bool false) := by simp [go_sem]
  have kt4 : ((w.alloc (.cells #[.bool over, .int .i64 code, .string text, .bool false, .string name, .int .i64 steps] 70)).alloc (.cells #[.bool false, .int .i64 0, .string ⟨#[]⟩] 75)).cell? ⟨w.heap.size, 4, none⟩ = some (.string name) := by simp [go_sem]
  have hz0 : ((w.alloc (.cells #[.bool over, .int .i64 code, .string text, .bool false, .string name, .int .i64 steps] 70)).alloc (.cells #[.bool false, .int .i64 0, .string ⟨#[]⟩] 75)).heap.size = w.heap.size + 2 := by simp
  have kr : Hid (((w.alloc (.cells #[.bool over, .int .i64 code, .string text, .bool false, .string name, .int .i64 steps] 70)).alloc (.cells #[.bool false, .int .i64 0, .string ⟨#[]⟩] 75)).heap[w.heap.size + 1]? = some (.cells #[.bool false, .int .i64 0, .string ⟨#[]⟩] 75 (0, 0))) := by
    have h2 := heap_alloc_new (w.alloc (.cells #[.bool over, .int .i64 code, .string text, .bool false, .string name, .int .i64 steps] 70)) (.cells #[.bool false, .int .i64 0, .string ⟨#[]⟩] 75)
    rw [show (w.alloc (.cells #[.bool over, .int .i64 code, .string text, .bool false, .string name, .int .i64 steps] 70)).heap.size = w.heap.size + 1 by simp] at h2
    exact h2
  have M0 := hide (h.below A0.out (Nat.le_refl _))
  have U0 := hide (hu.below A0.out (Nat.le_refl _))
  have CC := hide C
  have hB0 : w0.heap.size ≤ w.heap.size := h.lt
  have heb0 : eb < w.heap.size := by obtain ⟨⟨aa, ca, hbl, ha⟩, -⟩ := hu; exact heap_lt hbl
  have TN2 : Hid (some (w.heap.size + 1) ≠ (Value.slice av ls.length cv).ownBlock) := fun e => by have := (own_cellsM hu.row _ e.symm).2.1; omega
  have TN : Hid (some w.heap.size ≠ (Value.slice av ls.length cv).ownBlock) := fun e => by have := (own_cellsM hu.row _ e.symm).2.1; omega
  clear h hu C
  show Calls Tryz.prog 254 #[.pointer (some ⟨mb, 0, none⟩), .pointer (some ⟨eb, 0, none⟩), .agg #[.bool over, .int .i64 code, .string text, .bool false, .string name, .int .i64 steps]] w _
  obtain ⟨hb, hhb⟩ : ∃ hb, hb = hasS S name := ⟨_, rfl⟩
  have HHB := hide hhb
  rw [← hhb]
  clear hhb
  go_enter Tryz.func254, Tryz.ntmps254
  go_wp2_with fail
  clear kt3
  generalize (w.alloc (.cells #[.bool over, .int .i64 code, .string text, .bool false, .string name, .int .i64 steps] 70)).alloc (.cells #[.bool false, .int .i64 0, .string ⟨#[]⟩] 75) = W0 at A0 kt4 hz0 kr M0 U0 ⊢
  obtain ⟨hml, m0, m1, -⟩ := M0.out.box.facts
  refine wp_region_held_drew (S := fun V => V.cell? ⟨mb, 0, none⟩ = some (.slice a0 S.n0 c0) ∧ V.cell? ⟨mb, 1, none⟩ = some (.slice a1 S.n1 c1) ∧ V.cell? ⟨w.heap.size, 4, none⟩ = some (.string name)) (by as_aux_lemma => kernel_rfl) ⟨m0, m1, kt4⟩ (fun hS => ?_)
  have HS := hide hS
  clear hS
  iterate 3
    refine anyS_nx 0 (v := ?_) rfl rfl (by as_aux_lemma => kernel_rfl) (fun _ _ _ h => h) rfl ?_ HS.out ?_
    rotate_left
    · (intro wz hSw; obtain ⟨s0, s1, s2⟩ := hSw; go_simp)
      (try with_reducible rfl)
    (try simp only [Act.put, nzL])
  refine anyS_nx 4 (v := ?_) rfl rfl (by as_aux_lemma => kernel_rfl) (fun _ _ _ h => h) rfl ?_ HS.out ?_
  rotate_left
  · (intro wz hSw; obtain ⟨s0, s1, s2⟩ := hSw; go_simp)
    (try with_reducible rfl)
  (try simp only [Act.put, nzL])
  refine anyS_nx 3 (v := ?_) rfl rfl (by as_aux_lemma => kernel_rfl) (fun _ _ _ h => h) rfl ?_ HS.out ?_
  rotate_left
  · (intro wz hSw; obtain ⟨s0, s1, s2⟩ := hSw; go_simp)
    (try with_reducible rfl)
  (try simp only [Act.put, nzL])
  refine anyS_nx 5 (v := ?_) rfl rfl (by as_aux_lemma => kernel_rfl) (fun _ _ _ h => h) rfl ?_ HS.out ?_
  rotate_left
  · (intro wz hSw; obtain ⟨s0, s1, s2⟩ := hSw; go_simp)
    (try with_reducible rfl)
  (try simp only [Act.put, nzL])
  refine anyS_one (i := 6) rfl (by as_aux_lemma => kernel_rfl) (fun K hK => ?_)
  go_simp
  go_at_call 82
  have hWW : Hid (Below w0.heap.size w0 W0.drew) := M0.out.bel.drew
  refine (has_any a0 S.n0 c0 S.f0 a1 S.n1 c1 S.f1 name _ (by have := CC.out.ok.small; omega) (by have := CC.out.ok.small; omega) (CC.out.src.below hWW.out (Nat.le_refl _)) (CC.out.tgt.below hWW.out (Nat.le_refl _)) CC.out.ok.asc0 CC.out.ok.asc1).mono ?_
  rintro e w1 ⟨he, hB⟩
  rw [show (isIn (nm0 S.f0) S.n0 name || isIn (nm1 S.f1) S.n1 name) = hb from HHB.out.symm] at he
  subst he
  have B1 : Hid (Below W0.heap.size W0 w1) := ⟨hB.os, hB.tape, hB.output, hB.size, hB.block⟩
  clear hB hWW
  have hw1 : w.heap.size < W0.heap.size := by omega
  refine hK.out _ _ ⟨(B1.out.cell (p := ⟨mb, 0, none⟩) hml).trans m0, (B1.out.cell (p := ⟨mb, 1, none⟩) hml).trans m1, (B1.out.cell (p := ⟨w.heap.size, 4, none⟩) hw1).trans kt4⟩ ?_
  clear hK K HS
  have HS : Hid (w1.cell? ⟨mb, 0, none⟩ = some (.slice a0 S.n0 c0) ∧ w1.cell? ⟨mb, 1, none⟩ = some (.slice a1 S.n1 c1) ∧ w1.cell? ⟨w.heap.size, 4, none⟩ = some (.string name)) := ⟨(B1.out.cell (p := ⟨mb, 0, none⟩) hml).trans m0, (B1.out.cell (p := ⟨mb, 1, none⟩) hml).trans m1, (B1.out.cell (p := ⟨w.heap.size, 4, none⟩) hw1).trans kt4⟩
  (try simp only [Act.put, nzL])
  refine anyS_nx 7 (v := ?_) rfl rfl (by as_aux_lemma => kernel_rfl) (fun _ _ _ h => h) rfl ?_ HS.out ?_
  rotate_left
  · (intro wz hSw; obtain ⟨s0, s1, s2⟩ := hSw; go_simp)
    (try with_reducible rfl)
  (try simp only [Act.put, nzL])
  refine wpAnyH_done (by as_aux_lemma => kernel_rfl) ?_ _
  have A1 := hide (A0.out.trans (B1.out.mono A0.out.size))
  have KW := hide (KX.of_below (X := XN) A1.out (Nat.le_refl _) hB0)
  have M1 := hide (M0.out.below B1.out (Nat.le_refl _))
  have U1 := hide (U0.out.below B1.out (Nat.le_refl _))
  have n4 := HS.out.2.2
  have kr1 : Hid (w1.heap[w.heap.size + 1]? = some (.cells #[.bool false, .int .i64 0, .string ⟨#[]⟩] 75 (0, 0))) := (B1.out.block _ (by omega)).trans kr.out
  have hz1 : w.heap.size + 2 ≤ w1.heap.size := by have := B1.out.size; omega
  clear HS m0 m1 kt4 M0 U0 kr A0
  go_wp2_with fail
  obtain ⟨⟨aa, ca, hbl, ha⟩, -⟩ := U1.out
  obtain ⟨hel, -, -, -, -, -, -, e6, -, ef⟩ := hbl.facts
  have ef6 := ef 6
  have hebB : w0.heap.size ≤ eb := U1.out.ge
  clear hbl ha ef
  have SQ : Hid (∀ V : World, (∀ k, k < w1.heap.size → some k ≠ (Value.slice av ls.length cv).ownBlock → V.heap[k]? = w1.heap[k]?) → V.cell? ⟨eb, 6, none⟩ = some (.slice av ls.length cv) ∧ V.cell? ⟨w.heap.size, 4, none⟩ = some (.string name)) := fun V hV => by
    have hne : some eb ≠ (Value.slice av ls.length cv).ownBlock := fun e => by
      obtain ⟨⟨aa, ca, hbl, ha⟩, -⟩ := U1.out
      obtain ⟨_, _, cs, hc⟩ := own_cellsM U1.out.row eb e.symm
      exact absurd (two_types hbl hc) (by decide)
    have hne2 : some w.heap.size ≠ (Value.slice av ls.length cv).ownBlock := TN.out
    exact ⟨(World.cell?_of_block (a := ⟨eb, 6, none⟩) (hV eb hel hne)).trans e6, (World.cell?_of_block (a := ⟨w.heap.size, 4, none⟩) (hV w.heap.size (by omega) hne2)).trans n4⟩
  have HS := hide (SQ.out w1.drew (fun k hk _ => rfl))
  have UD : Hid (EU w0 S w1.drew eb nm tg G ls (.slice av ls.length cv) made V) := U1.out.below (Below.refl _ _).drew (Nat.le_refl _)
  have MD : Hid (MI w0 S mb mp (.slice a0 S.n0 c0) (.slice a1 S.n1 c1) w1.drew making making made G V mk md) := M1.out.below (Below.refl _ _).drew (Nat.le_refl _)
  refine wp_region_N (fun V => V.cell? ⟨eb, 6, none⟩ = some (.slice av ls.length cv) ∧ V.cell? ⟨w.heap.size, 4, none⟩ = some (.string name)) 14 (by as_aux_lemma => kernel_rfl) ?_
  clear e6 n4
  iterate 4
    refine anyN_nx 0 (v := ?_) rfl rfl (by as_aux_lemma => kernel_rfl) (fun _ _ _ h => h) rfl ?_ HS.out ?_
    rotate_left
    · (intro wz hSw; obtain ⟨s0, s1⟩ := hSw; go_simp)
      (try with_reducible rfl)
    (try simp only [Act.put, nzL])
  refine anyN_nx 5 (v := ?_) rfl rfl (by as_aux_lemma => kernel_rfl) (fun _ _ _ h => h) rfl ?_ HS.out ?_
  rotate_left
  · (intro wz hSw; obtain ⟨s0, s1⟩ := hSw; go_simp)
    (try with_reducible rfl)
  (try simp only [Act.put, nzL])
  refine anyN_nx 4 (v := ?_) rfl rfl (by as_aux_lemma => kernel_rfl) (fun _ _ _ h => h) rfl ?_ HS.out ?_
  rotate_left
  · (intro wz hSw; obtain ⟨s0, s1⟩ := hSw; go_simp)
    (try with_reducible rfl)
  (try simp only [Act.put, nzL])
  iterate 4
    refine anyN_nx 6 (v := ?_) rfl rfl (by as_aux_lemma => kernel_rfl) (fun _ _ _ h => h) rfl ?_ HS.out ?_
    rotate_left
    · (intro wz hSw; obtain ⟨s0, s1⟩ := hSw; go_simp)
      (try with_reducible rfl)
    (try simp only [Act.put, nzL])
  refine anyN_one (i := 10) rfl (by as_aux_lemma => kernel_rfl) (fun K hK => ?_)
  go_simp
  have AB := hide ((Below.refl w1.heap.size w1.drew).alloc (Nat.le_refl _) (.cells #[.string name, .bool false, .bool hb, .int .i64 0, .pointer none] 214))
  have UA := hide (UD.out.below AB.out (Nat.le_refl _))
  have MA := hide (MD.out.below AB.out (Nat.le_refl _))
  refine hK.out _ _ (fun _ => SQ.out _ (fun k hk _ => AB.out.block k hk)) ?_
  clear hK K
  (try simp only [Act.put, nzL])
  refine anyN_one (i := 11) rfl (by as_aux_lemma => kernel_rfl) (fun K hK => ?_)
  refine step_append_own_at rfl (.tmp 23) (.tmp 29) 136 rfl w0.heap.size 214 i1 (.agg #[.string ⟨#[]⟩, .bool false, .bool false, .int .i64 0, .pointer none]) 5 40 Tryz.underlying136 hi hy0 hy1 hy2 rfl (by decide) (.slice av ls.length cv) ls.length (tiesV G ls) (by simp [Act.eval]) UA.out.row ⟨w1.heap.size, 0, none⟩ 1 1 [.string name, .bool false, .bool hb, .int .i64 0, .pointer none] (by simp [Act.eval]) rfl (five_at w1.drew _ _ _ _ _ _) (by simp [Value.oneCell']) (by unfold maxLen; omega) (by omega) MA.out.lt ?_
  intro v' w3 hown hgrow hat
  have O3 := hide hown
  have G3 := hide hgrow
  have AT3 := hide hat
  have S3 := hide (SQ.out w3 (fun k hk hne => (hgrow.block k (Nat.lt_of_lt_of_le hk (by first | (simp; done) | (simp; omega))) hne).trans (AB.out.block k hk)))
  obtain ⟨av', cv', rfl⟩ := own_sliceM hown
  clear hown hgrow hat
  refine hK.out _ _ (fun _ => S3.out) ?_
  clear hK K HS
  (try simp only [Act.put, nzL])
  iterate 2
    refine anyN_on 12 rfl rfl (by as_aux_lemma => kernel_rfl) (fun K hK => ?_)
    go_simp
    refine hK.out _ _ (fun _ => S3.out) ?_
    clear hK K
    (try simp only [Act.put, nzL])
  have M4 := hide (MA.out.tied UA.out G3.out (v' := .slice av' (ls.length + 1) cv'))
  have U4 := hide (UA.out.tied (l := ⟨name, false, hb⟩) (fun h => by cases h) G3.out O3.out AT3.out MA.out.vlt)
  have s6 := S3.out.1
  have hf6 : w3.frozen? ⟨eb, 6, none⟩ = false := by
    obtain ⟨⟨aa, ca, hbl, ha⟩, -⟩ := UA.out
    have hne : some eb ≠ (Value.slice av ls.length cv).ownBlock := fun e => by
      obtain ⟨_, _, cs, hc⟩ := own_cellsM UA.out.row eb e.symm
      exact absurd (two_types hbl hc) (by decide)
    exact (World.frozen?_of_block (a := ⟨eb, 6, none⟩) (G3.out.block eb (heap_lt hbl) hne)).trans (hbl.facts.2.2.2.2.2.2.2.2.2 6)
  have hz3 : w1.heap.size ≤ w3.heap.size := Nat.le_trans (by first | (simp; done) | (simp; omega)) G3.out.size
  have hel3 : eb < w3.heap.size := Nat.lt_of_lt_of_le hel hz3
  refine anyN_one (i := 14) rfl (by as_aux_lemma => kernel_rfl) (fun K hK => ?_)
  go_simp
  refine hK.out _ _ (fun h => absurd rfl h) ?_
  clear hK K s6 hf6
  (try simp only [Act.put, nzL])
  refine anyN_done (by as_aux_lemma => kernel_rfl) ?_ _
  have RB : Hid ((w3.setCell ⟨eb, 6, none⟩ (.slice av' (ls.length + 1) cv')).heap[w.heap.size + 1]? = some (.cells #[.bool false, .int .i64 0, .string ⟨#[]⟩] 75 (0, 0))) := (Below.heap_setCell _ _ _ _ (show w.heap.size + 1 ≠ eb by omega)).trans ((G3.out.block _ (Nat.lt_of_lt_of_le (show w.heap.size + 1 < w1.heap.size by omega) (by first | (simp; done) | (simp; omega))) TN2.out).trans ((AB.out.block _ (by omega)).trans kr1.out))
  have R4 : Hid (RepSt w0 S mb mp (.slice a0 S.n0 c0) (.slice a1 S.n1 c1) w (w3.setCell ⟨eb, 6, none⟩ (.slice av' (ls.length + 1) cv')) making made G V mk md eb tg nm (ls ++ [⟨name, false, hb⟩]) (.slice av ls.length cv) (.slice av' (ls.length + 1) cv')) := by
    refine ⟨M4.out.1, U4.out, ?_, fun k hk => ?_⟩
    · exact ((KW.out.to (KX.of_below (X := XN) (⟨AB.out.os, AB.out.tape, AB.out.output, AB.out.size, AB.out.block⟩ : Below w1.heap.size w1 _) (Nat.le_refl _) (by omega))).weak).trans M4.out.2 (fun _ _ h => h)
    · rcases AT3.out with e | e
      · exact .inl (by rw [← e]; exact hk)
      · rw [e] at hk
        cases hk
        exact .inr (Nat.le_trans (show w.heap.size ≤ w1.heap.size by omega) (by first | (simp; done) | (simp; omega)))
  generalize w3.setCell ⟨eb, 6, none⟩ (.slice av' (ls.length + 1) cv') = W4 at RB R4 ⊢
  obtain ⟨rl, r0, r1, r2, rf⟩ := three_facts RB.out
  have rf0 := rf 0
  have rf1 := rf 1
  have rf2 := rf 2
  clear rf M4 U4
  go_wp2_with fail
  refine bodyPost_ret (v := .agg #[.bool hb, .int .i64 0, .string ⟨#[]⟩]) (by simp [results, Tryz.results254, go_sem, r0, r1, r2]) rfl ⟨rfl, .slice av' (ls.length + 1) cv', ?_⟩
  have X0 := R4.out.set RB.out (by decide) hB0 (Nat.le_succ _) 0 (.bool hb)
  have X1 := X0.1.set X0.2 (by decide) hB0 (Nat.le_succ _) 1 (.int .i64 0)
  have X2 := X1.1.set X1.2 (by decide) hB0 (Nat.le_succ _) 2 (.string ⟨#[]⟩)
  exact X2.1
def AskPost (w0 : World) (S : Spc) (mb mp : Nat) (s0 s1 : Value) (making : List ByteArray) (made : List Ent) (G : ByteArray → Nat) (V : ByteArray → Value) (w : World) (eb tg : Nat) (nm name : ByteArray) (ls : List Lk) (v : Value) (e : Ending) (w' : World) : Out Ent → Prop
  | .inl (made', x) => e = .returned (.agg #[.bool (decide (¬ x.kind = 2)), .int .i64 x.code, .string x.text]) ∧ ∃ G' V' mk' md' v', RepSt w0 S mb mp s0 s1 w w' making made' G' V' mk' md' eb tg nm (ls ++ [⟨name, true, false⟩]) v v' ∧ Ext w.heap.size made made' G G' V V'
  | .inr (.inl c) => ∃ v, e = .panicked [{ v := .iface 253 (.agg #[v]), recovered := false }] ∧ w'.ownsRow w0.heap.size 9 1 v c.length (strV c) ∧ Below w0.heap.size w w'
  | .inr (.inr d) => e = .panicked [{ v := .iface 255 (.agg #[.string d]), recovered := false }] ∧ Below w0.heap.size w w'
set_option maxRecDepth 1000000 in
set_option maxHeartbeats 8000000 in
theorem reply_ask (C : Ctx w0 S a0 c0 a1 c1) (n : Nat) (HL : LiesOk w0 S mb mp (.slice a0 S.n0 c0) (.slice a1 S.n1 c1) n) (w : World) (eb tg : Nat) (nm : ByteArray) (ls : List Lk) (v : Value) (T : Turn) (hlen : making.length + n = 60) (h : MI w0 S mb mp (.slice a0 S.n0 c0) (.slice a1 S.n1 c1) w making making made G V mk md) (hp : PG S making made) (hroom : roomN S making made 1) (hu : EU w0 S w eb nm tg G ls v made V) (hls : ls.length ≤ 200) (hask : T.ask = true) (hn : nameOk T.name = true) :
    Calls Tryz.prog 254 #[.pointer (some ⟨mb, 0, none⟩), .pointer (some ⟨eb, 0, none⟩), T.v] w fun e w' => AskPost w0 S mb mp (.slice a0 S.n0 c0) (.slice a1 S.n1 c1) making made G V w eb tg nm T.name ls v e w' (liesP S n making made T.name) := by
  obtain ⟨i1, hi, hy0, hy1, hy2⟩ := infoM2 infoTie
  obtain ⟨av, cv, rfl⟩ := own_sliceM hu.row
  obtain ⟨over, code, text, ask, name, steps⟩ := T
  simp only at hask hn
  subst hask
  have A0 := hide (((Below.refl w.heap.size w).alloc (Nat.le_refl _) (.cells #[.bool over, .int .i64 code, .string text, .bool true, .string name, .int .i64 steps] 70)).alloc (by simp) (.cells #[.bool false, .int .i64 0, .string ⟨#[]⟩] 75))
  have kt3 : ((w.alloc (.cells #[.bool over, .int .i64 code, .string text, .bool true, .string name, .int .i64 steps] 70)).alloc (.cells #[.bool false, .int .i64 0, .string ⟨#[]⟩] 75)).cell? ⟨w.heap.size, 3, none⟩ = some (.bool true) := by simp [go_sem]
  have kt4 : ((w.alloc (.cells #[.bool over, .int .i64 code, .string text, .bool true, .string name, .int .i64 steps] 70)).alloc (.cells #[.bool false, .int .i64 0, .string ⟨#[]⟩] 75)).cell? ⟨w.heap.size, 4, none⟩ = some (.string name) := by simp [go_sem]
  have hz0 : ((w.alloc (.cells #[.bool over, .int .i64 code, .string text, .bool true, .string name, .int .i64 steps] 70)).alloc (.cells #[.bool false, .int .i64 0, .string ⟨#[]⟩] 75)).heap.size = w.heap.size + 2 := by simp
  have kr : Hid (((w.alloc (.cells #[.bool over, .int .i64 code, .string text, .bool true, .string name, .int .i64 steps] 70)).alloc (.cells #[.bool false, .int .i64 0, .string ⟨#[]⟩] 75)).heap[w.heap.size + 1]? = some (.cells #[.bool false, .int .i64 0, .string ⟨#[]⟩] 75 (0, 0))) := by
    have h2 := heap_alloc_new (w.alloc (.cells #[.bool over, .int .i64 code, .string text, .bool true, .string name, .int .i64 steps] 70)) (.cells #[.bool false, .int .i64 0, .string ⟨#[]⟩] 75)
    rw [show (w.alloc (.cells #[.bool over, .int .i64 code, .string text, .bool true, .string name, .int .i64 steps] 70)).heap.size = w.heap.size + 1 by simp] at h2
    exact h2
  have kt : Hid (((w.alloc (.cells #[.bool over, .int .i64 code, .string text, .bool true, .string name, .int .i64 steps] 70)).alloc (.cells #[.bool false, .int .i64 0, .string ⟨#[]⟩] 75)).heap[w.heap.size]? = some (.cells #[.bool over, .int .i64 code, .string text, .bool true, .string name, .int .i64 steps] 70 (0, 0))) := by
    have h2 := heap_alloc_new w (.cells #[.bool over, .int .i64 code, .string text, .bool true, .string name, .int .i64 steps] 70)
    exact (((Below.refl (w.heap.size + 1) _).alloc (by simp) _).block w.heap.size (by omega)).trans h2
  have M0 := hide (h.below A0.out (Nat.le_refl _))
  have U0 := hide (hu.below A0.out (Nat.le_refl _))
  have CC := hide C
  have HLL := hide HL
  have PP := hide hp
  have hB0 : w0.heap.size ≤ w.heap.size := h.lt
  have heb0 : eb < w.heap.size := by obtain ⟨⟨aa, ca, hbl, ha⟩, -⟩ := hu; exact heap_lt hbl
  have TN2 : Hid (some (w.heap.size + 1) ≠ (Value.slice av ls.length cv).ownBlock) := fun e => by have := (own_cellsM hu.row _ e.symm).2.1; omega
  have TN : Hid (some w.heap.size ≠ (Value.slice av ls.length cv).ownBlock) := fun e => by have := (own_cellsM hu.row _ e.symm).2.1; omega
  clear h hu C HL hp
  show Calls Tryz.prog 254 #[.pointer (some ⟨mb, 0, none⟩), .pointer (some ⟨eb, 0, none⟩), .agg #[.bool over, .int .i64 code, .string text, .bool true, .string name, .int .i64 steps]] w _
  obtain ⟨R, hR⟩ : ∃ R, R = liesP S n making made name := ⟨_, rfl⟩
  have HR := hide hR
  simp only
  rw [← hR]
  clear hR
  go_enter Tryz.func254, Tryz.ntmps254
  go_wp2_with fail
  clear kt3 kt4
  generalize (w.alloc (.cells #[.bool over, .int .i64 code, .string text, .bool true, .string name, .int .i64 steps] 70)).alloc (.cells #[.bool false, .int .i64 0, .string ⟨#[]⟩] 75) = W0 at A0 hz0 kr kt M0 U0 ⊢
  refine (HLL.out making made G V mk md W0 name hlen M0.out PP.out hroom hn).mono ?_
  intro e w1 hpost
  rw [← HR.out] at hpost
  rcases R with ⟨made', x⟩ | c | d
  · obtain ⟨G', V', mk', md', rfl, hM, hE, hK⟩ := hpost
    obtain ⟨hp', -, hx, hxn⟩ := liesP_good CC.out.ok n making made name made' x PP.out hn HR.out.symm
    have M1 := hide hM
    have U1 := hide (U0.out.step hK hE)
    have E1 := hide (hE.mono (show w.heap.size ≤ W0.heap.size by omega))
    have KW := hide ((KX.of_below (X := XN) A0.out (Nat.le_refl _) hB0).to hK)
    have HX := hide hx
    have HXN := hide hxn
    have hz1 : w.heap.size + 2 ≤ w1.heap.size := by have := hK.below.size; omega
    have kr1 : Hid (w1.heap[w.heap.size + 1]? = some (.cells #[.bool false, .int .i64 0, .string ⟨#[]⟩] 75 (0, 0))) := (hK.blk _ _ _ _ kr.out (by decide) (by decide) (by decide) fun h => h).trans kr.out
    have kt1 := (hK.blk _ _ _ _ kt.out (by decide) (by decide) (by decide) fun h => h).trans kt.out
    have n4 : w1.cell? ⟨w.heap.size, 4, none⟩ = some (.string name) := by simp [World.cell?, kt1]
    rw [hxn]
    clear hM hE hK hx hxn hp' kt1 M0 U0 kr kt
    go_wp2_with fail
    obtain ⟨⟨aa, ca, hbl, ha⟩, -⟩ := U1.out
    obtain ⟨hel, -, -, -, -, -, -, e6, -, ef⟩ := hbl.facts
    have ef6 := ef 6
    have hebB : w0.heap.size ≤ eb := U1.out.ge
    clear hbl ha ef
    have SQ : Hid (∀ V : World, (∀ k, k < w1.heap.size → some k ≠ (Value.slice av ls.length cv).ownBlock → V.heap[k]? = w1.heap[k]?) → V.cell? ⟨eb, 6, none⟩ = some (.slice av ls.length cv) ∧ V.cell? ⟨w.heap.size, 4, none⟩ = some (.string name)) := fun V hV => by
      have hne : some eb ≠ (Value.slice av ls.length cv).ownBlock := fun e => by
        obtain ⟨⟨aa, ca, hbl, ha⟩, -⟩ := U1.out
        obtain ⟨_, _, cs, hc⟩ := own_cellsM U1.out.row eb e.symm
        exact absurd (two_types hbl hc) (by decide)
      have hne2 : some w.heap.size ≠ (Value.slice av ls.length cv).ownBlock := TN.out
      exact ⟨(World.cell?_of_block (a := ⟨eb, 6, none⟩) (hV eb hel hne)).trans e6, (World.cell?_of_block (a := ⟨w.heap.size, 4, none⟩) (hV w.heap.size (by omega) hne2)).trans n4⟩
    have HS := hide (SQ.out w1.drew (fun k hk _ => rfl))
    have UD : Hid (EU w0 S w1.drew eb nm tg G' ls (.slice av ls.length cv) made' V') := U1.out.below (Below.refl _ _).drew (Nat.le_refl _)
    have MD : Hid (MI w0 S mb mp (.slice a0 S.n0 c0) (.slice a1 S.n1 c1) w1.drew making making made' G' V' mk' md') := M1.out.below (Below.refl _ _).drew (Nat.le_refl _)
    refine wp_region_N (fun V => V.cell? ⟨eb, 6, none⟩ = some (.slice av ls.length cv) ∧ V.cell? ⟨w.heap.size, 4, none⟩ = some (.string name)) 14 (by as_aux_lemma => kernel_rfl) ?_
    clear e6 n4
    iterate 4
      refine anyN_nx 0 (v := ?_) rfl rfl (by as_aux_lemma => kernel_rfl) (fun _ _ _ h => h) rfl ?_ HS.out ?_
      rotate_left
      · (intro wz hSw; obtain ⟨s0, s1⟩ := hSw; go_simp)
        (try with_reducible rfl)
      (try simp only [Act.put, nzL])
    refine anyN_nx 5 (v := ?_) rfl rfl (by as_aux_lemma => kernel_rfl) (fun _ _ _ h => h) rfl ?_ HS.out ?_
    rotate_left
    · (intro wz hSw; obtain ⟨s0, s1⟩ := hSw; go_simp)
      (try with_reducible rfl)
    (try simp only [Act.put, nzL])
    refine anyN_nx 4 (v := ?_) rfl rfl (by as_aux_lemma => kernel_rfl) (fun _ _ _ h => h) rfl ?_ HS.out ?_
    rotate_left
    · (intro wz hSw; obtain ⟨s0, s1⟩ := hSw; go_simp)
      (try with_reducible rfl)
    (try simp only [Act.put, nzL])
    iterate 4
      refine anyN_nx 6 (v := ?_) rfl rfl (by as_aux_lemma => kernel_rfl) (fun _ _ _ h => h) rfl ?_ HS.out ?_
      rotate_left
      · (intro wz hSw; obtain ⟨s0, s1⟩ := hSw; go_simp)
        (try with_reducible rfl)
      (try simp only [Act.put, nzL])
    refine anyN_one (i := 10) rfl (by as_aux_lemma => kernel_rfl) (fun K hK => ?_)
    go_simp
    have AB := hide ((Below.refl w1.heap.size w1.drew).alloc (Nat.le_refl _) (.cells #[.string name, .bool true, .bool false, .int .i64 0, .pointer (some ⟨G' name, 0, none⟩)] 214))
    have UA := hide (UD.out.below AB.out (Nat.le_refl _))
    have MA := hide (MD.out.below AB.out (Nat.le_refl _))
    refine hK.out _ _ (fun _ => SQ.out _ (fun k hk _ => AB.out.block k hk)) ?_
    clear hK K
    (try simp only [Act.put, nzL])
    refine anyN_one (i := 11) rfl (by as_aux_lemma => kernel_rfl) (fun K hK => ?_)
    refine step_append_own_at rfl (.tmp 43) (.tmp 49) 136 rfl w0.heap.size 214 i1 (.agg #[.string ⟨#[]⟩, .bool false, .bool false, .int .i64 0, .pointer none]) 5 40 Tryz.underlying136 hi hy0 hy1 hy2 rfl (by decide) (.slice av ls.length cv) ls.length (tiesV G' ls) (by simp [Act.eval]) UA.out.row ⟨w1.heap.size, 0, none⟩ 1 1 [.string name, .bool true, .bool false, .int .i64 0, .pointer (some ⟨G' name, 0, none⟩)] (by simp [Act.eval]) rfl (five_at w1.drew _ _ _ _ _ _) (by simp [Value.oneCell']) (by unfold maxLen; omega) (by omega) MA.out.lt ?_
    intro v' w3 hown hgrow hat
    have O3 := hide hown
    have G3 := hide hgrow
    have AT3 := hide hat
    have S3 := hide (SQ.out w3 (fun k hk hne => (hgrow.block k (Nat.lt_of_lt_of_le hk (by first | (simp; done) | (simp; omega))) hne).trans (AB.out.block k hk)))
    obtain ⟨av', cv', rfl⟩ := own_sliceM hown
    clear hown hgrow hat
    refine hK.out _ _ (fun _ => S3.out) ?_
    clear hK K HS
    (try simp only [Act.put, nzL])
    iterate 2
      refine anyN_on 12 rfl rfl (by as_aux_lemma => kernel_rfl) (fun K hK => ?_)
      go_simp
      refine hK.out _ _ (fun _ => S3.out) ?_
      clear hK K
      (try simp only [Act.put, nzL])
    have M4 := hide (MA.out.tied UA.out G3.out (v' := .slice av' (ls.length + 1) cv'))
    have U4 := hide (UA.out.tied (l := ⟨name, true, false⟩) (fun _=>⟨x, HX.out, HXN.out⟩) G3.out O3.out AT3.out MA.out.vlt)
    have s6 := S3.out.1
    have hf6 : w3.frozen? ⟨eb, 6, none⟩ = false := by
      obtain ⟨⟨aa, ca, hbl, ha⟩, -⟩ := UA.out
      have hne : some eb ≠ (Value.slice av ls.length cv).ownBlock := fun e => by
        obtain ⟨_, _, cs, hc⟩ := own_cellsM UA.out.row eb e.symm
        exact absurd (two_types hbl hc) (by decide)
      exact (World.frozen?_of_block (a := ⟨eb, 6, none⟩) (G3.out.block eb (heap_lt hbl) hne)).trans (hbl.facts.2.2.2.2.2.2.2.2.2 6)
    have hz3 : w1.heap.size ≤ w3.heap.size := Nat.le_trans (by first | (simp; done) | (simp; omega)) G3.out.size
    have hel3 : eb < w3.heap.size := Nat.lt_of_lt_of_le hel hz3
    refine anyN_one (i := 14) rfl (by as_aux_lemma => kernel_rfl) (fun K hK => ?_)
    go_simp
    refine hK.out _ _ (fun h => absurd rfl h) ?_
    clear hK K s6 hf6
    (try simp only [Act.put, nzL])
    refine anyN_done (by as_aux_lemma => kernel_rfl) ?_ _
    have RB : Hid ((w3.setCell ⟨eb, 6, none⟩ (.slice av' (ls.length + 1) cv')).heap[w.heap.size + 1]? = some (.cells #[.bool false, .int .i64 0, .string ⟨#[]⟩] 75 (0, 0))) := (Below.heap_setCell _ _ _ _ (show w.heap.size + 1 ≠ eb by omega)).trans ((G3.out.block _ (Nat.lt_of_lt_of_le (show w.heap.size + 1 < w1.heap.size by omega) (by first | (simp; done) | (simp; omega))) TN2.out).trans ((AB.out.block _ (by omega)).trans kr1.out))
    have R4 : Hid (RepSt w0 S mb mp (.slice a0 S.n0 c0) (.slice a1 S.n1 c1) w (w3.setCell ⟨eb, 6, none⟩ (.slice av' (ls.length + 1) cv')) making made' G' V' mk' md' eb tg nm (ls ++ [⟨name, true, false⟩]) (.slice av ls.length cv) (.slice av' (ls.length + 1) cv')) := by
      refine ⟨M4.out.1, U4.out, ?_, fun k hk => ?_⟩
      · exact ((KW.out.to (KX.of_below (X := XN) (⟨AB.out.os, AB.out.tape, AB.out.output, AB.out.size, AB.out.block⟩ : Below w1.heap.size w1 _) (Nat.le_refl _) (by omega))).weak).trans M4.out.2 (fun _ _ h => h)
      · rcases AT3.out with e | e
        · exact .inl (by rw [← e]; exact hk)
        · rw [e] at hk
          cases hk
          exact .inr (Nat.le_trans (show w.heap.size ≤ w1.heap.size by omega) (by first | (simp; done) | (simp; omega)))
    generalize w3.setCell ⟨eb, 6, none⟩ (.slice av' (ls.length + 1) cv') = W4 at RB R4 ⊢
    obtain ⟨rl, r0, r1, r2, rf⟩ := three_facts RB.out
    have rf0 := rf 0
    have rf1 := rf 1
    have rf2 := rf 2
    clear rf M4 U4
    have EX := hide (R4.out.1.ents x HX.out)
    obtain ⟨act, hbl, hac⟩ := EX.out.blk
    rw [HXN.out] at hbl
    obtain ⟨q, q0, q1, q2, q3, q4, q5, -, -, -⟩ := hbl.facts
    obtain ⟨aa, na, ca, rfl⟩ : ∃ a n c, act = .slice a n c := by
      unfold ActOk at hac
      split at hac
      · obtain ⟨_, a, c, e, _⟩ := hac; exact ⟨a, _, c, e⟩
      · exact ⟨_, _, _, hac⟩
    clear hbl hac
    go_wp2_with fail
    refine (reply_any ⟨name, x.kind, x.code, x.text, na, fun _ => ⟨0, ⟨#[]⟩, 0⟩, 0, fun _ => ⟨⟨#[]⟩, false, false, 0⟩⟩ aa ca none 0 W4).mono ?_
    rintro e w5 ⟨rfl, hB5⟩
    have RB5 : Hid (w5.heap[w.heap.size + 1]? = some (.cells #[.bool false, .int .i64 0, .string ⟨#[]⟩] 75 (0, 0))) := (hB5.block _ rl).trans RB.out
    have R5 : Hid (RepSt w0 S mb mp (.slice a0 S.n0 c0) (.slice a1 S.n1 c1) w w5 making made' G' V' mk' md' eb tg nm (ls ++ [⟨name, true, false⟩]) (.slice av ls.length cv) (.slice av' (ls.length + 1) cv')) := ⟨R4.out.1.below hB5 (Nat.le_refl _), R4.out.2.1.below hB5 (Nat.le_refl _), R4.out.2.2.1.to (KX.of_below hB5 (Nat.le_refl _) R4.out.1.lt), R4.out.2.2.2⟩
    clear r0 r1 r2 rf0 rf1 rf2 q0 q1 q2 q3 q4 q5 hB5
    obtain ⟨rl5, r0, r1, r2, rf⟩ := three_facts RB5.out
    have rf0 := rf 0
    have rf1 := rf 1
    have rf2 := rf 2
    clear rf
    obtain ⟨kb, hkb⟩ : ∃ kb, kb = decide (¬ x.kind = 2) := ⟨_, rfl⟩
    have HKB := hide hkb
    simp only
    rw [← hkb]
    clear hkb
    go_wp2_with fail
    refine bodyPost_ret (v := .agg #[.bool kb, .int .i64 x.code, .string x.text]) (by simp [results, Tryz.results254, go_sem, r0, r1, r2]) rfl ?_
    show AskPost w0 S mb mp (.slice a0 S.n0 c0) (.slice a1 S.n1 c1) making made G V w eb tg nm name ls (.slice av ls.length cv) _ _ (.inl (made', x))
    refine ⟨by rw [HKB.out], G', V', mk', md', .slice av' (ls.length + 1) cv', ?_, E1.out⟩
    have X0 := R5.out.set RB5.out (by decide) hB0 (Nat.le_succ _) 0 (.bool kb)
    have X1 := X0.1.set X0.2 (by decide) hB0 (Nat.le_succ _) 1 (.int .i64 x.code)
    have X2 := X1.1.set X1.2 (by decide) hB0 (Nat.le_succ _) 2 (.string x.text)
    exact X2.1
  · obtain ⟨u, rfl, h1, h2⟩ := hpost
    go_wp2_with fail
    exact ⟨rfl, u, rfl, h1, (A0.out.mono hB0).trans h2⟩
  · obtain ⟨rfl, h2⟩ := hpost
    go_wp2_with fail
    exact ⟨rfl, rfl, (A0.out.mono hB0).trans h2⟩
end
end Go.Proofs.YtkophfgkcijjkaaGreatDoor.Vp
namespace Go.Proofs.YtkophfgkcijjkaaGreatDoor.Vp
open Go.RowKit
set_option maxRecDepth 100000 in
set_option maxHeartbeats 4000000 in
theorem begin_ty (pb po cnt cap : Nat) (w : World) :
    Calls Tryz.prog 253 #[.agg #[.slice (some ⟨pb, po, none⟩) cnt cap]] w fun e w' => ∃ b, e = .returned (.func (.func 272) #[] #[.pointer (some ⟨b, 0, none⟩)]) ∧ w.heap.size ≤ b ∧ MAt w' b (.slice (some ⟨pb, po, none⟩) cnt cap) m0 ∧ (∃ cs, w'.heap[b]? = some (.cells cs 147 (0, 0))) ∧ Below w.heap.size w w' := by
  have A0 := hide ((Below.refl w.heap.size w).alloc (Nat.le_refl _) (.cells #[.slice (some ⟨pb, po, none⟩) cnt cap] 31))
  have k0 : (w.alloc (.cells #[.slice (some ⟨pb, po, none⟩) cnt cap] 31)).cell? ⟨w.heap.size, 0, none⟩ = some (.slice (some ⟨pb, po, none⟩) cnt cap) := by simp
  have z0 : (w.alloc (.cells #[.slice (some ⟨pb, po, none⟩) cnt cap] 31)).heap.size = w.heap.size + 1 := by simp
  have HM0 := hide (mach0_is (w.alloc (.cells #[.slice (some ⟨pb, po, none⟩) cnt cap] 31)) (some ⟨pb, po, none⟩) cnt cap)
  have HM1 := hide (by have := HM0.out; rw [z0] at this; exact this)
  have A1 := hide (A0.out.alloc A0.out.size (.cells (mach0 (.slice (some ⟨pb, po, none⟩) cnt cap)) 147))
  have TY : Hid (∃ cs, ((w.alloc (.cells #[.slice (some ⟨pb, po, none⟩) cnt cap] 31)).alloc (.cells (mach0 (.slice (some ⟨pb, po, none⟩) cnt cap)) 147)).heap[w.heap.size + 1]? = some (.cells cs 147 (0, 0))) := by
    have h2 := heap_alloc_new (w.alloc (.cells #[.slice (some ⟨pb, po, none⟩) cnt cap] 31)) (.cells (mach0 (.slice (some ⟨pb, po, none⟩) cnt cap)) 147)
    rw [z0] at h2
    exact ⟨_, h2⟩
  go_enter Tryz.func253, Tryz.ntmps253
  go_wp2_with (first
    | (refine build_is rfl 147 #[(1, .tmp 5)] rfl [(1, .slice (some ⟨pb, po, none⟩) cnt cap)] (mach0 (.slice (some ⟨pb, po, none⟩) cnt cap)) (by simp [Act.eval]) (built0 _ _ _) ?_)
    | (refine wpList_store_row rfl 147 (.tmp 3) (.tmp 6) rfl (w.heap.size + 1) (mach0 (.slice (some ⟨pb, po, none⟩) cnt cap)) rfl rfl _ _ (by rw [← z0]; exact heap_alloc_last _ _) (infoM.trans (by rw [mach0_size])) (by rw [mach0_size]; rfl) (mach0_one _ _ _) ?_; rw [← z0, World.setRow_alloc_new])
    | fail)
  go_ret
  exact ⟨_, rfl, by first | (simp; done) | (simp; omega), HM1.out, TY.out, A1.out⟩
section
variable {w0 w w' : World} {S : Spc} {mb mp : Nat} {s0 s1 mk md : Value} {cnt nk np : Nat} {F : List UInt8 → Option Value} {ks ps : List Value} {made : List Ent} {G : ByteArray → Nat} {V : ByteArray → Value}
theorem MIg.only {b : Nat} {cs : Array Value} {t : TypeId} {fz : Nat × Nat} (h : MIg w0 S mb mp s0 s1 w cnt F nk ks np ps made G V mk md) (hb : w.heap[b]? = some (.cells cs t fz)) (ht : offT t) (hB : w0.heap.size ≤ b) (ho : Only b w w') : MIg w0 S mb mp s0 s1 w' cnt F nk ks np ps made G V mk md := by
  have hk : KX w0.heap.size (fun i => i = b) w w' := KX.of_only ho rfl h.lt hB
  obtain ⟨t1, t2, t3, t4, t5⟩ := ht
  refine h.kx hk (fun i o hi hne => ho.block i (heap_lt hi) hne) (fun e => ?_) (fun e => ?_) (fun k hk2 e => ?_) (fun k hk2 e => ?_) (fun x hx => ⟨fun e => ?_, fun k hk2 e => ?_⟩)
  · subst e; exact t3 (two_types hb h.box)
  · obtain ⟨es, c, hm⟩ := h.map.isMap
    rw [e, hb] at hm; cases hm
  · subst e; obtain ⟨_, _, cs, hc⟩ := own_cellsM h.rmk _ hk2; exact t1 (two_types hb hc)
  · subst e; obtain ⟨_, _, cs, hc⟩ := own_cellsM h.rmd _ hk2; exact t2 (two_types hb hc)
  · obtain ⟨act, hbl, _⟩ := (h.ents x hx).blk
    rw [e] at hbl
    exact t4 (two_types hb hbl)
  · subst e; obtain ⟨_, _, cs, hc⟩ := own_cellsM (h.ents x hx).row _ hk2; exact t5 (two_types hb hc)
theorem EU.only {b eb tg : Nat} {nm : ByteArray} {ls : List Lk} {v : Value} {cs : Array Value} {t : TypeId} {fz : Nat × Nat} (h : EU w0 S w eb nm tg G ls v made V) (hb : w.heap[b]? = some (.cells cs t fz)) (ht : offT t) (ho : Only b w w') : EU w0 S w' eb nm tg G ls v made V := by
  obtain ⟨⟨a, cap, hbl, ha⟩, hge, hr, hf, hap, has⟩ := h
  obtain ⟨t1, t2, t3, t4, t5⟩ := ht
  refine ⟨⟨a, cap, (ho.block _ (heap_lt hbl) fun e => ?_).trans hbl, ha⟩, hge, own_blk hr fun k hk => ?_, hf, hap, has⟩
  · subst e; exact t4 (two_types hb hbl)
  · obtain ⟨_, hl, cs, hc⟩ := own_cellsM hr _ hk
    exact ho.block k hl fun e => t5 (two_types hb (e ▸ hc))
theorem MIg.entOnly {eb : Nat} {cs : Array Value} {fz : Nat × Nat} (h : MIg w0 S mb mp s0 s1 w cnt F nk ks np ps made G V mk md) (hb : w.heap[eb]? = some (.cells cs 138 fz)) (hf : ∀ x ∈ made, G x.name ≠ eb) (hB : w0.heap.size ≤ eb) (ho : Only eb w w') : MIg w0 S mb mp s0 s1 w' cnt F nk ks np ps made G V mk md := by
  have hk : KX w0.heap.size (fun i => i = eb) w w' := KX.of_only ho rfl h.lt hB
  refine h.kx hk (fun i o hi hne => ho.block i (heap_lt hi) hne) (fun e => ?_) (fun e => ?_) (fun k hk2 e => ?_) (fun k hk2 e => ?_) (fun x hx => ⟨fun e => hf x hx e, fun k hk2 e => ?_⟩)
  · subst e; exact absurd (two_types hb h.box) (by decide)
  · obtain ⟨es, c, hm⟩ := h.map.isMap
    rw [e, hb] at hm; cases hm
  · subst e; obtain ⟨_, _, cs, hc⟩ := own_cellsM h.rmk _ hk2; exact absurd (two_types hb hc) (by decide)
  · subst e; obtain ⟨_, _, cs, hc⟩ := own_cellsM h.rmd _ hk2; exact absurd (two_types hb hc) (by decide)
  · subst e; obtain ⟨_, _, cs, hc⟩ := own_cellsM (h.ents x hx).row _ hk2; exact absurd (two_types hb hc) (by decide)
end
theorem MAt.blk {w w' : World} {b : Nat} {cv : Value} {m : Mst} (h : MAt w b cv m) (hb : w'.heap[b]? = w.heap[b]?) (hs : w.heap.size ≤ w'.heap.size) : MAt w' b cv m :=
  ⟨Nat.lt_of_lt_of_le h.1 hs, fun j hj => ⟨(World.cell?_of_block (a := ⟨b, j, none⟩) hb).trans (h.2 j hj).1, (World.frozen?_of_block (a := ⟨b, j, none⟩) hb).trans (h.2 j hj).2⟩⟩
def TB (w : World) (g : Nat) (t : Turn) : Prop := w.heap[g]? = some (.cells #[.bool t.over, .int .i64 t.code, .string t.text, .bool t.ask, .string t.name, .int .i64 t.steps] 70 (0, 0))
theorem TB.facts {w : World} {g : Nat} {t : Turn} (h : TB w g t) : g < w.heap.size ∧ w.cell? ⟨g, 0, none⟩ = some (.bool t.over) ∧ w.cell? ⟨g, 1, none⟩ = some (.int .i64 t.code) ∧ w.cell? ⟨g, 2, none⟩ = some (.string t.text) ∧ w.cell? ⟨g, 3, none⟩ = some (.bool t.ask) ∧ w.cell? ⟨g, 4, none⟩ = some (.string t.name) ∧ w.cell? ⟨g, 5, none⟩ = some (.int .i64 t.steps) ∧ ∀ j, w.frozen? ⟨g, j, none⟩ = false := by
  unfold TB at h
  refine ⟨heap_lt h, ?_, ?_, ?_, ?_, ?_, ?_, fun j => ?_⟩
  all_goals simp [World.cell?, World.frozen?, h]
theorem TB.put {w : World} {g : Nat} {u : Turn} (h : TB w g u) (t : Turn) : TB (putTurn w g t) g t :=
  heap_setCell_at (heap_setCell_at (heap_setCell_at (heap_setCell_at (heap_setCell_at (heap_setCell_at h (j := 0) _) (j := 1) _) (j := 2) _) (j := 3) _) (j := 4) _) (j := 5) _
theorem TB.only {w w' : World} {g b : Nat} {t : Turn} (h : TB w g t) (ho : Only b w w') (hg : g ≠ b) : TB w' g t := (ho.block g (heap_lt h) hg).trans h
end Go.Proofs.YtkophfgkcijjkaaGreatDoor.Vp
namespace Go.Proofs.YtkophfgkcijjkaaGreatDoor.Vp
open Go.RowKit Go.Proofs.YtkophfgkcijjkaaGreatDoor.Ca
def ContOk (S : Spc) (tg : Nat) (ys : List Reply) (H : Halt) : Prop := ∀ (y : Nat → Reply) (n : Nat), ys.length ≤ n → (∀ i, i < ys.length → y i = yL ys i) → contP (S.f1 tg).act (S.f1 tg).actN y n H = nextP (S.f1 tg).act (S.f1 tg).actN y n 2001 0 0 0 []
theorem ContOk.turn {S : Spc} {tg : Nat} {ys : List Reply} {H : Halt} {m : Mst} (h : ContOk S tg ys H) (hS : Stands m H) (hL : looksOf ys.length H) : m.t = turnY S tg ys := by
  rw [← stands_turn (f := (S.f1 tg).act) (cnt := (S.f1 tg).actN) (y := yL ys) hS hL]
  exact h (yL ys) ys.length (Nat.le_refl _) fun _ _ => rfl
theorem ContOk.step {S : Spc} {tg : Nat} {ys : List Reply} {a : Bool} {nm : ByteArray} {s : List ByteArray} {p st : Nat} {H' : Halt} {r : Reply} (h : ContOk S tg ys (.inr (a, nm, s, p, st, (ys.length + 1)))) (hc : ∀ y n, ys.length + 1 ≤ n → y (ys.length + 1 - 1) = r → contP (S.f1 tg).act (S.f1 tg).actN y n (.inr (a, nm, s, p, st, (ys.length + 1))) = contP (S.f1 tg).act (S.f1 tg).actN y n H') : ContOk S tg (ys ++ [r]) H' := by
  intro y n hn hy
  rw [List.length_append, List.length_singleton] at hn hy
  rw [← hc y n hn (by rw [Nat.add_sub_cancel, hy _ (Nat.lt_succ_self _), yL_at])]
  exact h y n (by omega) fun i hi => by rw [hy i (by omega), yL_old ys r hi]
structure RI (w0 : World) (S : Spc) (mb mp : Nat) (s0 s1 : Value) (w : World) (n : Nat) (making : List ByteArray) (eb tg : Nat) (nm : ByteArray) (b : Nat) (cv : Value) (tb : Nat) (made0 : List Ent) (G0 : ByteArray → Nat) (V0 : ByteArray → Value) (R0 : Out (Turn × List Lk)) (wr : World) (ys : List Reply) (ls : List Lk) (made : List Ent) (G : ByteArray → Nat) (V : ByteArray → Value) (mk md v : Value) (m : Mst) (H : Halt) : Prop where
  mi : MI w0 S mb mp s0 s1 wr making making made G V mk md
  pg : PG S making made
  rg : RG S made ys ls
  room : roomN S making made (201 - ys.length)
  eu : EU w0 S wr eb nm tg G ls v made V
  ma : MAt wr b cv m
  ty : ∃ cs, wr.heap[b]? = some (.cells cs 147 (0, 0))
  tb : TB wr tb m.t
  st : Stands m H
  lk : looksOf ys.length H
  co : ContOk S tg ys H
  run : runL S (liesP S n making) tg (201 - ys.length) made ys ls = R0
  le : ys.length ≤ 200
  ext : Ext w.heap.size made0 made G0 G V0 V
  kx : KX w0.heap.size (fun i => i = eb) w wr
  vn : ∀ k, v.ownBlock = some k → w.heap.size ≤ k
def RunPost (w0 : World) (S : Spc) (mb mp : Nat) (s0 s1 : Value) (making : List ByteArray) (made : List Ent) (G : ByteArray → Nat) (V : ByteArray → Value) (w : World) (eb tg : Nat) (nm : ByteArray) (e : Ending) (w' : World) : Out (Turn × List Lk) → Prop
  | .inl (made', x) => e = .returned (.tuple #[]) ∧ ∃ G' V' mk' md' v', MI w0 S mb mp s0 s1 w' making making made' G' V' mk' md' ∧ EntAt w0 S G' w' eb v' ⟨nm, 3, x.1.code, x.1.text, tg, x.2⟩ ∧ (∀ y ∈ made', G' y.name ≠ eb) ∧ (∀ k, v'.ownBlock = some k → w.heap.size ≤ k) ∧ Ext w.heap.size made made' G G' V V' ∧ KX w0.heap.size (fun i => i = eb) w w'
  | .inr (.inl c) => ∃ v, e = .panicked [{ v := .iface 253 (.agg #[v]), recovered := false }] ∧ w'.ownsRow w0.heap.size 9 1 v c.length (strV c) ∧ Below w0.heap.size w w'
  | .inr (.inr d) => e = .panicked [{ v := .iface 255 (.agg #[.string d]), recovered := false }] ∧ Below w0.heap.size w w'
section
variable {w0 : World} {S : Spc} {a0 a1 : Option Addr} {c0 c1 mb mp : Nat} {making : List ByteArray}
set_option maxRecDepth 1000000 in
set_option maxHeartbeats 8000000 in
theorem mrun_any (C : Ctx w0 S a0 c0 a1 c1) (n : Nat) (HL : LiesOk w0 S mb mp (.slice a0 S.n0 c0) (.slice a1 S.n1 c1) n) (made0 : List Ent) (G0 : ByteArray → Nat) (V0 : ByteArray → Value) (mk0 md0 : Value) (w : World) (eb tg : Nat) (nm : ByteArray) (hlen : making.length + n = 60) (h : MI w0 S mb mp (.slice a0 S.n0 c0) (.slice a1 S.n1 c1) w making making made0 G0 V0 mk0 md0) (hp : PG S making made0) (hroom : roomN S making made0 201) (htg : tg < S.n1) (hu : EU w0 S w eb nm tg G0 [] (.slice none 0 0) made0 V0) :
    Calls Tryz.prog 235 #[.pointer (some ⟨mb, 0, none⟩), .pointer (some ⟨eb, 0, none⟩)] w fun e w' => RunPost w0 S mb mp (.slice a0 S.n0 c0) (.slice a1 S.n1 c1) making made0 G0 V0 w eb tg nm e w' (runL S (liesP S n making) tg 201 made0 [] []) := by
  obtain ⟨hok, hc1, hc2⟩ := valid_parts (C.ok.act tg htg)
  obtain ⟨⟨av, cap, hbl, hsl⟩, hge, hrow0, hfree0, -, -⟩ := hu
  obtain ⟨pb, po, rfl, hri⟩ : ∃ pb po, av = some ⟨pb, po, none⟩ ∧ RowIns w0 pb po (S.f1 tg).actN (S.f1 tg).act := by
    rcases hsl with h | ⟨b, off, e, hr⟩
    · omega
    · exact ⟨b, off, e, hr⟩
  obtain ⟨hel, -, -, -, -, e4, -, -, -, -⟩ := hbl.facts
  have HU : Hid (EU w0 S w eb nm tg G0 [] (.slice none 0 0) made0 V0) := ⟨⟨_, _, hbl, hsl⟩, hge, hrow0, hfree0, fun _ _ k hk => (by cases hk), fun _ hl => absurd hl List.not_mem_nil⟩
  have HM := hide h
  have HP := hide hp
  have HRI := hide hri
  have CC := hide C
  have HLL := hide HL
  have hB0 : w0.heap.size ≤ w.heap.size := h.lt
  have HENV : Hid (∀ W b, Below w0.heap.size w0 W → w0.heap.size ≤ b → Env W b pb po (S.f1 tg).actN (S.f1 tg).act) := fun W b hW hb => ⟨hri.below hW (Nat.le_refl _), C.tab.below hW C.tab.1, C.pow.below hW (Nat.le_refl _), Nat.lt_of_lt_of_le hri.1 hb, Nat.lt_of_lt_of_le C.tab.1 hb, Nat.lt_of_lt_of_le C.pow.lt hb⟩
  obtain ⟨R0, hR0⟩ : ∃ R0, R0 = runL S (liesP S n making) tg 201 made0 [] [] := ⟨_, rfl⟩
  rw [← hR0]
  have HR0 := hide hR0
  clear h hp hri C HL hbl hsl hrow0 hfree0 hR0
  obtain ⟨H0, hH0⟩ := runP_some (S.f1 tg).act (S.f1 tg).actN 2001 0 0 0 [] (by omega) (by omega)
  have HG0 : Hid (Goes (S.f1 tg).act (S.f1 tg).actN m0 H0) := .inl ⟨rfl, 0, 0, 0, [], ⟨trivial, rfl, by simp, rfl, rfl, rfl, fun x hx => absurd hx List.not_mem_nil, by omega, by omega, by omega⟩, hH0⟩
  have HNR := hide (fun y n => next_run (S.f1 tg).act (S.f1 tg).actN y n 2001 0 0 0 [] H0 (by omega) rfl hH0)
  clear hH0
  go_enter Tryz.func235, Tryz.ntmps235
  go_wp2_with fail
  refine (begin_ty pb po (S.f1 tg).actN cap w).mono ?_
  rintro e w1 ⟨b, rfl, hb, hM1, hty1, hB1⟩
  have MA1 := hide hM1
  have TY1 := hide hty1
  have B1 := hide hB1
  clear hM1 hty1 hB1 e4
  go_wp2_with fail
  refine (goOn_start b pb po (S.f1 tg).actN cap (S.f1 tg).act m0 H0 ⟨false, 0, ⟨#[]⟩⟩ _ MA1.out (HENV.out _ _ (HM.out.bel.trans (B1.out.mono hB0)) (Nat.le_trans hB0 hb)) rfl (by omega) hok HG0.out).mono ?_
  rintro e w2 ⟨m1, rfl, hM2, hS2, hO2⟩
  have MA2 := hide hM2
  have ST2 := hide hS2
  have O2 := hide hO2
  have TY2 : Hid (∃ cs, w2.heap[b]? = some (.cells cs 147 (0, 0))) := by obtain ⟨cs, hc⟩ := TY1.out; exact hO2.ty cs _ _ hc
  have hz2 : w1.heap.size ≤ w2.heap.size := hO2.size
  have B2 := hide (B1.out.trans (hO2.below hb B1.out.size))
  clear hM2 hS2 hO2
  simp only [Turn.v]
  have A3 := hide ((Below.refl w2.heap.size w2).alloc (Nat.le_refl _) (.cells #[.bool m1.t.over, .int .i64 m1.t.code, .string m1.t.text, .bool m1.t.ask, .string m1.t.name, .int .i64 m1.t.steps] 70))
  have TB3 : Hid (TB (w2.alloc (.cells #[.bool m1.t.over, .int .i64 m1.t.code, .string m1.t.text, .bool m1.t.ask, .string m1.t.name, .int .i64 m1.t.steps] 70)) w2.heap.size m1.t) := heap_alloc_new _ _
  have hbl2 : b < w2.heap.size := MA2.out.lt
  go_wp2
  generalize w2.alloc (.cells #[.bool m1.t.over, .int .i64 m1.t.code, .string m1.t.text, .bool m1.t.ask, .string m1.t.name, .int .i64 m1.t.steps] 70) = W3 at A3 TB3 ⊢
  obtain ⟨tb, htb⟩ : ∃ tb, tb = w2.heap.size := ⟨_, rfl⟩
  rw [← htb] at TB3 ⊢
  have htbw : w.heap.size ≤ tb := by have := B2.out.size; omega
  have hbtb : b < tb := by omega
  have B3 := hide (B2.out.trans (A3.out.mono B2.out.size))
  have RI0 : Hid (RI w0 S mb mp (.slice a0 S.n0 c0) (.slice a1 S.n1 c1) w n making eb tg nm b (.slice (some ⟨pb, po, none⟩) (S.f1 tg).actN cap) tb made0 G0 V0 R0 W3 [] [] made0 G0 V0 mk0 md0 (.slice none 0 0) m1 H0) :=
    ⟨HM.out.below B3.out (Nat.le_refl _), HP.out, rg_nil S made0, hroom, HU.out.below B3.out (Nat.le_refl _), MA2.out.below A3.out hbl2, (by obtain ⟨cs, hc⟩ := TY2.out; exact ⟨cs, (A3.out.block b hbl2).trans hc⟩), TB3.out, ST2.out, (HNR.out (yL []) 0).2, fun y n _ _ => (HNR.out y n).1.symm, HR0.out.symm, Nat.zero_le _, Ext.refl _ _ _ _, KX.of_below B3.out (Nat.le_refl _) hB0, fun k hk => (by cases hk)⟩
  clear htb TB3 A3 B2 MA1 TY1 MA2 TY2 ST2 O2 HG0 HNR B1 HM HU hroom HP B3 hz2 hbl2
  go_loopg [] 202 (fun g wr => ∃ ys ls made G V mk md v m H, Hid (RI w0 S mb mp (.slice a0 S.n0 c0) (.slice a1 S.n1 c1) w n making eb tg nm b (.slice (some ⟨pb, po, none⟩) (S.f1 tg).actN cap) tb made0 G0 V0 R0 wr ys ls made G V mk md v m H) ∧ 201 - ys.length ≤ g)
  case atStart => exact ⟨[], [], made0, G0, V0, mk0, md0, _, m1, H0, RI0, by simp⟩
  case round =>
    clear RI0
    obtain ⟨ys, ls, made, G, V, mk, md, v, m, H, HI, hg⟩ := hrel
    have HT := hide (HI.out.co.turn HI.out.st HI.out.lk)
    obtain ⟨tbl, t0, t1, t2, t3, t4, t5, tf⟩ := HI.out.tb.facts
    have tf0 := tf 0
    have tf1 := tf 1
    have tf2 := tf 2
    have tf3 := tf 3
    have tf4 := tf 4
    have tf5 := tf 5
    clear tf
    have hbw : w.heap.size ≤ b := hb
    have heb : eb ≠ b := by omega
    have hetb : eb ≠ tb := by omega
    cases ho : m.t.over with
    | true =>
      rw [ho] at t0
      have HR1 : Hid (R0 = .inl (made, (m.t, ls))) := by
        show _ = _
        rw [← HI.out.run, show 201 - ys.length = (200 - ys.length) + 1 by have := HI.out.le; omega, runL, ← HT.out, if_pos ho]
      obtain ⟨⟨ax, cx, hbl, hsl⟩, -⟩ := HI.out.eu
      obtain ⟨hel2, -, -, e2, e3, -, -, -, -, ef⟩ := hbl.facts
      have ef2 := ef 2
      have ef3 := ef 3
      have HBL := hide hbl
      have HSL := hide hsl
      clear hbl hsl ef
      obtain ⟨code, hcode⟩ : ∃ code, code = m.t.code := ⟨_, rfl⟩
      obtain ⟨text, htext⟩ : ∃ text, text = m.t.text := ⟨_, rfl⟩
      rw [← hcode] at t1
      rw [← htext] at t2
      have HC := hide hcode
      have HX := hide htext
      clear hcode htext
      go_wp2_with fail
      clear t0 t3 t4 t5 tf0 tf1 tf2 tf3 tf4 tf5
      refine wp_region_held_drew (S := fun V => V.cell? ⟨tb, 1, none⟩ = some (.int .i64 code) ∧ V.cell? ⟨tb, 2, none⟩ = some (.string text)) (by as_aux_lemma => kernel_rfl) ⟨t1, t2⟩ (fun hS => ?_)
      have HS := hide hS
      clear hS
      iterate 3
        refine anyS_nx 0 (v := ?_) rfl rfl (by as_aux_lemma => kernel_rfl) (fun _ _ _ h => h) rfl ?_ HS.out ?_
        rotate_left
        · (intro wz hSw; obtain ⟨s0, s1⟩ := hSw; go_simp)
          (try with_reducible rfl)
        (try simp only [Act.put, nzL])
      refine anyS_nx 4 (v := ?_) rfl rfl (by as_aux_lemma => kernel_rfl) (fun _ _ _ h => h) rfl ?_ HS.out ?_
      rotate_left
      · (intro wz hSw; obtain ⟨s0, s1⟩ := hSw; go_simp)
        (try with_reducible rfl)
      (try simp only [Act.put, nzL])
      refine anyS_nx 3 (v := ?_) rfl rfl (by as_aux_lemma => kernel_rfl) (fun _ _ _ h => h) rfl ?_ HS.out ?_
      rotate_left
      · (intro wz hSw; obtain ⟨s0, s1⟩ := hSw; go_simp)
        (try with_reducible rfl)
      (try simp only [Act.put, nzL])
      iterate 4
        refine anyS_nx 5 (v := ?_) rfl rfl (by as_aux_lemma => kernel_rfl) (fun _ _ _ h => h) rfl ?_ HS.out ?_
        rotate_left
        · (intro wz hSw; obtain ⟨s0, s1⟩ := hSw; go_simp)
          (try with_reducible rfl)
        (try simp only [Act.put, nzL])
      have S5 : Hid ((wr.drew.setCell ⟨eb, 2, none⟩ (.int .i64 code)).cell? ⟨tb, 1, none⟩ = some (.int .i64 code) ∧ (wr.drew.setCell ⟨eb, 2, none⟩ (.int .i64 code)).cell? ⟨tb, 2, none⟩ = some (.string text)) := ⟨(cell_far _ _ _ _ hetb).trans HS.out.1, (cell_far _ _ _ _ hetb).trans HS.out.2⟩
      refine anyS_one (i := 9) rfl (by as_aux_lemma => kernel_rfl) (fun K hK => ?_)
      go_simp
      refine hK.out _ _ S5.out ?_
      clear hK K HS
      (try simp only [Act.put, nzL])
      have HS := S5
      iterate 3
        refine anyS_nx 10 (v := ?_) rfl rfl (by as_aux_lemma => kernel_rfl) (fun _ _ _ h => h) rfl ?_ HS.out ?_
        rotate_left
        · (intro wz hSw; obtain ⟨s0, s1⟩ := hSw; go_simp)
          (try with_reducible rfl)
        (try simp only [Act.put, nzL])
      have S6 : Hid (((wr.drew.setCell ⟨eb, 2, none⟩ (.int .i64 code)).setCell ⟨eb, 3, none⟩ (.string text)).cell? ⟨tb, 1, none⟩ = some (.int .i64 code) ∧ ((wr.drew.setCell ⟨eb, 2, none⟩ (.int .i64 code)).setCell ⟨eb, 3, none⟩ (.string text)).cell? ⟨tb, 2, none⟩ = some (.string text)) := ⟨(cell_far _ _ _ _ hetb).trans S5.out.1, (cell_far _ _ _ _ hetb).trans S5.out.2⟩
      refine anyS_one (i := 13) rfl (by as_aux_lemma => kernel_rfl) (fun K hK => ?_)
      go_simp
      refine hK.out _ _ S6.out ?_
      clear hK K
      (try simp only [Act.put, nzL])
      refine wpAnyH_done (by as_aux_lemma => kernel_rfl) ?_ _
      have OE : Hid (Only eb wr ((wr.setCell ⟨eb, 2, none⟩ (.int .i64 code)).setCell ⟨eb, 3, none⟩ (.string text)).drew) := (bset (bset (Only.refl eb wr) 2 _) 3 _).drew
      have HB6 : Hid (EntBlk ((wr.setCell ⟨eb, 2, none⟩ (.int .i64 code)).setCell ⟨eb, 3, none⟩ (.string text)).drew eb nm 3 code text (.slice ax (S.f1 tg).actN cx) v 0) := heap_setCell_at (heap_setCell_at HBL.out (j := 2) _) (j := 3) _
      generalize ((wr.setCell ⟨eb, 2, none⟩ (.int .i64 code)).setCell ⟨eb, 3, none⟩ (.string text)).drew = W6 at OE HB6 ⊢
      go_end0
      rw [HR1.out]
      refine ⟨rfl, G, V, mk, md, v, HI.out.mi.entOnly HBL.out HI.out.eu.free hge OE.out, ⟨⟨_, by rw [← HC.out, ← HX.out]; exact HB6.out, by rw [ActOk, if_pos rfl]; exact ⟨htg, _, _, rfl, HSL.out⟩⟩, hge, own_blk HI.out.eu.row fun k hk => ?_⟩, HI.out.eu.free, HI.out.vn, HI.out.ext, HI.out.kx.trans (KX.of_only (X := fun i => i = eb) OE.out rfl HI.out.mi.lt hge) (fun _ _ h => h)⟩
      obtain ⟨_, hl, cs, hc⟩ := own_cellsM HI.out.eu.row k hk
      exact OE.out.block k hl fun e => absurd (two_types HBL.out (e ▸ hc)) (by decide)
    | false =>
      obtain ⟨a, nm2, s2, pp, st, l, rfl⟩ := stands_look HI.out.st ho
      have el : l = ys.length + 1 := HI.out.lk
      subst el
      obtain ⟨htt, hsim, hnm2, -⟩ := HI.out.st
      have hylt : ys.length < 200 := by have := hsim.lk; omega
      have HTT := hide htt
      rw [htt] at t0 t1 t2 t3 t4 t5
      simp only at t0 t1 t2 t3 t4 t5
      have HSM := hide hsim
      have HN2 := hide hnm2
      have HTY : Hid (turnY S tg ys = ⟨false, 0, ⟨#[]⟩, a, nm2, st⟩) := HT.out.symm.trans htt
      have hls : ls.length ≤ 200 := by have := HI.out.rg.len; omega
      clear htt hsim hnm2
      have HVB : Hid (∀ k, v.ownBlock = some k → k ≠ b ∧ k ≠ tb) := fun k hk => by
        obtain ⟨_, _, cs, hc⟩ := own_cellsM HI.out.eu.row k hk
        obtain ⟨cs2, hc2⟩ := HI.out.ty
        exact ⟨fun e => absurd (two_types hc2 (e ▸ hc)) (by decide), fun e => absurd (two_types (show wr.heap[tb]? = _ from HI.out.tb) (e ▸ hc)) (by decide)⟩
      cases a with
      | false =>
        go_wp2_with fail
        clear t0 t1 t2 t3 t4 t5 tf0 tf1 tf2 tf3 tf4 tf5
        refine (reply_has CC.out wr eb tg nm ls v ⟨false, 0, ⟨#[]⟩, false, nm2, st⟩ HI.out.mi HI.out.eu hls rfl).mono ?_
        rintro e w3 ⟨rfl, v', hRS⟩
        have RS := hide hRS
        clear hRS
        obtain ⟨hbv, hhbv⟩ : ∃ hbv, hbv = hasS S nm2 := ⟨_, rfl⟩
        have HHB := hide hhbv
        simp only at RS ⊢
        rw [← hhbv] at RS ⊢
        clear hhbv
        have NX : Hid (runL S (liesP S n making) tg (200 - ys.length) made (ys ++ [⟨hbv, 0, ⟨#[]⟩⟩]) (ls ++ [⟨nm2, false, hbv⟩]) = R0) := by
          show _ = _
          have := HI.out.run
          rw [show 201 - ys.length = (200 - ys.length) + 1 by omega, runL, HTY.out, if_neg (by simp), if_pos rfl, ← HHB.out] at this
          exact this
        have PG2 := hide HI.out.pg
        have RG2 : Hid (RG S made (ys ++ [⟨hbv, 0, ⟨#[]⟩⟩]) (ls ++ [⟨nm2, false, hbv⟩])) := HI.out.rg.add (by rw [HHB.out]; exact hasS_ok _ _) HN2.out (fun h => by cases h)
        have RM2 : Hid (roomN S making made (200 - ys.length)) := by have := HI.out.room; unfold roomN at this ⊢; show _ ≤ _; omega
        have EX2 := hide HI.out.ext
        have RSZ : Hid ((⟨hbv, 0, ⟨#[]⟩⟩ : Reply).text.size ≤ 2000) := Nat.zero_le _
        have BK : Hid (w3.heap[b]? = wr.heap[b]?) := by
          obtain ⟨cs, hc⟩ := HI.out.ty
          exact RS.out.2.2.1.blk b _ _ _ hc (by decide) (by decide) (by decide) fun h => by rcases h with h | h; exact heb h.symm; exact (HVB.out b h).1 rfl
        have TK : Hid (TB w3 tb ⟨false, 0, ⟨#[]⟩, false, nm2, st⟩) := by
          have h0 := HI.out.tb
          rw [HTT.out] at h0
          exact (RS.out.2.2.1.blk tb _ _ _ h0 (by decide) (by decide) (by decide) fun h => by rcases h with h | h; exact hetb h.symm; exact (HVB.out tb h).2 rfl).trans h0
        have hsz3 : wr.heap.size ≤ w3.heap.size := RS.out.2.2.1.below.size
        have MA3 := hide (HI.out.ma.blk BK.out hsz3)
        have TY3 : Hid (∃ cs, w3.heap[b]? = some (.cells cs 147 (0, 0))) := by obtain ⟨cs, hc⟩ := HI.out.ty; exact ⟨cs, BK.out.trans hc⟩
        go_wp2_with fail
        refine (goOn_look b pb po (S.f1 tg).actN cap (S.f1 tg).act m false nm2 s2 pp st (ys.length + 1) ⟨hbv, 0, ⟨#[]⟩⟩ _ MA3.out (HENV.out _ _ RS.out.1.bel (Nat.le_trans hB0 hb)) HI.out.st (by omega) RSZ.out (by omega) hok).mono ?_
        rintro e w4 ⟨m2, H2, rfl, hM4, hS4, hL4, hC4, hO4⟩
        have MA4 := hide hM4
        have ST4 := hide hS4
        have LK4 := hide hL4
        have CO4 := hide (HI.out.co.step hC4)
        have O4 := hide hO4
        obtain ⟨cs3, hcs3⟩ := TY3.out
        have MI4 := hide (RS.out.1.only hcs3 (by decide) (Nat.le_trans hB0 hb) hO4)
        have EU4 := hide (RS.out.2.1.only hcs3 (by decide) hO4)
        have TB4 := hide (TK.out.only hO4 (by omega))
        have TY4 := hide (hO4.ty _ _ _ hcs3)
        have K4 := hide ((HI.out.kx.trans RS.out.2.2.1 (fun i hi h => by rcases h with h | h; exact h; exact absurd (HI.out.vn i h) (by omega))).trans (KX.of_only (X := fun i => i = b) hO4 rfl RS.out.1.lt (Nat.le_trans hB0 hb)) (fun i hi h => by have e2 : i = b := h; omega))
        have VN4 : Hid (∀ k, v'.ownBlock = some k → w.heap.size ≤ k) := fun k hk => by
          rcases RS.out.2.2.2 k hk with h | h
          · exact HI.out.vn k h
          · exact Nat.le_trans HI.out.kx.below.size h
        clear hM4 hS4 hL4 hC4 hO4 hcs3
        obtain ⟨ul, u0, u1, u2, u3, u4, u5, uf⟩ := TB4.out.facts
        have uf0 := uf 0
        have uf1 := uf 1
        have uf2 := uf 2
        have uf3 := uf 3
        have uf4 := uf 4
        have uf5 := uf 5
        clear uf
        obtain ⟨g, rfl⟩ : ∃ g, gk = g + 1 := ⟨gk - 1, by omega⟩
        have TB5 := hide (TB4.out.put m2.t)
        have OP : Hid (Only tb w4 (putTurn w4 tb m2.t)) := set_only m2.t
        have htB : w0.heap.size ≤ tb := Nat.le_trans hB0 htbw
        have hlen1 : (ys ++ [(⟨hbv, 0, ⟨#[]⟩⟩ : Reply)]).length = ys.length + 1 := by simp
        have RI5 : Hid (RI w0 S mb mp (.slice a0 S.n0 c0) (.slice a1 S.n1 c1) w n making eb tg nm b (.slice (some ⟨pb, po, none⟩) (S.f1 tg).actN cap) tb made0 G0 V0 R0 (putTurn w4 tb m2.t) (ys ++ [⟨hbv, 0, ⟨#[]⟩⟩]) (ls ++ [⟨nm2, false, hbv⟩]) made G V mk md v' m2 H2) :=
          ⟨MI4.out.only TB4.out (by decide) htB OP.out, PG2.out, RG2.out, (by rw [hlen1, show 201 - (ys.length + 1) = 200 - ys.length by omega]; exact RM2.out), EU4.out.only TB4.out (by decide) OP.out, MA4.out.boxed (by omega) m2.t, (by obtain ⟨cs, hc⟩ := TY4.out; exact ⟨cs, (OP.out.block b (heap_lt hc) (by omega)).trans hc⟩), TB5.out, ST4.out, (by rw [hlen1]; exact LK4.out), CO4.out, (by rw [hlen1, show 201 - (ys.length + 1) = 200 - ys.length by omega]; exact NX.out), (by rw [hlen1]; omega), EX2.out, K4.out.trans (KX.of_only (X := fun i => i = tb) OP.out rfl MI4.out.lt htB) (fun i hi h => by have e2 : i = tb := h; omega), VN4.out⟩
        simp only [Turn.v]
        go_wp2
        go_roundg g
        case measure => omega
        case rel => exact ⟨_, _, _, _, _, _, _, _, _, _, RI5, by rw [hlen1]; omega⟩
      | true =>
        go_wp2_with fail
        clear t0 t1 t2 t3 t4 t5 tf0 tf1 tf2 tf3 tf4 tf5
        refine (reply_ask CC.out n HLL.out wr eb tg nm ls v ⟨false, 0, ⟨#[]⟩, true, nm2, st⟩ hlen HI.out.mi HI.out.pg (by have := HI.out.room; unfold roomN at this ⊢; omega) HI.out.eu hls rfl HN2.out).mono ?_
        intro e w3 hpost
        simp only at hpost
        have hrun := HI.out.run
        rw [show 201 - ys.length = (200 - ys.length) + 1 by omega, runL, HTY.out, if_neg (by simp), if_neg (by simp)] at hrun
        simp only at hrun
        rcases hr : liesP S n making made nm2 with ⟨made2, x⟩ | c | d
        · rw [hr] at hpost hrun
          dsimp only at hrun
          obtain ⟨rfl, G2, V2, mk2, md2, v', hRS, hEx⟩ := hpost
          obtain ⟨hp2, -, hx, hxn⟩ := liesP_good CC.out.ok n making made nm2 made2 x HI.out.pg HN2.out hr
          have hgrow := liesP_grow S n making made nm2 made2 x hr
          have RS := hide hRS
          have NX := hide hrun
          have PG2 := hide hp2
          have hreq : repE x = ⟨decide (¬ x.kind = 2), x.code, x.text⟩ := rfl
          have RG2 : Hid (RG S made2 (ys ++ [repE x]) (ls ++ [⟨nm2, true, false⟩])) := (HI.out.rg.mono hEx.mem).add (repE_ok (hp2.ents x hx)) HN2.out (fun _ => ⟨x, hx, hxn⟩)
          have RM2 : Hid (roomN S making made2 (200 - ys.length)) := by have := HI.out.room; unfold roomN at this ⊢; unfold Grow at hgrow; show _ ≤ _; omega
          have EX2 := hide (HI.out.ext.trans hEx HI.out.kx.below.size)
          have RSZ : Hid ((repE x).text.size ≤ 2000) := (hp2.ents x hx).tx
          rw [hreq] at NX RG2 RSZ
          clear hRS hrun hp2 hx hxn hgrow hEx hr hreq
          obtain ⟨kb, hkb⟩ : ∃ kb, kb = decide (¬ x.kind = 2) := ⟨_, rfl⟩
          rw [← hkb] at NX RG2 RSZ ⊢
          clear hkb
          have BK : Hid (w3.heap[b]? = wr.heap[b]?) := by
            obtain ⟨cs, hc⟩ := HI.out.ty
            exact RS.out.2.2.1.blk b _ _ _ hc (by decide) (by decide) (by decide) fun h => by rcases h with h | h; exact heb h.symm; exact (HVB.out b h).1 rfl
          have TK : Hid (TB w3 tb ⟨false, 0, ⟨#[]⟩, true, nm2, st⟩) := by
            have h0 := HI.out.tb
            rw [HTT.out] at h0
            exact (RS.out.2.2.1.blk tb _ _ _ h0 (by decide) (by decide) (by decide) fun h => by rcases h with h | h; exact hetb h.symm; exact (HVB.out tb h).2 rfl).trans h0
          have hsz3 : wr.heap.size ≤ w3.heap.size := RS.out.2.2.1.below.size
          have MA3 := hide (HI.out.ma.blk BK.out hsz3)
          have TY3 : Hid (∃ cs, w3.heap[b]? = some (.cells cs 147 (0, 0))) := by obtain ⟨cs, hc⟩ := HI.out.ty; exact ⟨cs, BK.out.trans hc⟩
          go_wp2_with fail
          refine (goOn_look b pb po (S.f1 tg).actN cap (S.f1 tg).act m true nm2 s2 pp st (ys.length + 1) ⟨kb, x.code, x.text⟩ _ MA3.out (HENV.out _ _ RS.out.1.bel (Nat.le_trans hB0 hb)) HI.out.st (by omega) RSZ.out (by omega) hok).mono ?_
          rintro e w4 ⟨m2, H2, rfl, hM4, hS4, hL4, hC4, hO4⟩
          have MA4 := hide hM4
          have ST4 := hide hS4
          have LK4 := hide hL4
          have CO4 := hide (HI.out.co.step hC4)
          have O4 := hide hO4
          obtain ⟨cs3, hcs3⟩ := TY3.out
          have MI4 := hide (RS.out.1.only hcs3 (by decide) (Nat.le_trans hB0 hb) hO4)
          have EU4 := hide (RS.out.2.1.only hcs3 (by decide) hO4)
          have TB4 := hide (TK.out.only hO4 (by omega))
          have TY4 := hide (hO4.ty _ _ _ hcs3)
          have K4 := hide ((HI.out.kx.trans RS.out.2.2.1 (fun i hi h => by rcases h with h | h; exact h; exact absurd (HI.out.vn i h) (by omega))).trans (KX.of_only (X := fun i => i = b) hO4 rfl RS.out.1.lt (Nat.le_trans hB0 hb)) (fun i hi h => by have e2 : i = b := h; omega))
          have VN4 : Hid (∀ k, v'.ownBlock = some k → w.heap.size ≤ k) := fun k hk => by
            rcases RS.out.2.2.2 k hk with h | h
            · exact HI.out.vn k h
            · exact Nat.le_trans HI.out.kx.below.size h
          clear hM4 hS4 hL4 hC4 hO4 hcs3
          obtain ⟨ul, u0, u1, u2, u3, u4, u5, uf⟩ := TB4.out.facts
          have uf0 := uf 0
          have uf1 := uf 1
          have uf2 := uf 2
          have uf3 := uf 3
          have uf4 := uf 4
          have uf5 := uf 5
          clear uf
          obtain ⟨g, rfl⟩ : ∃ g, gk = g + 1 := ⟨gk - 1, by omega⟩
          have TB5 := hide (TB4.out.put m2.t)
          have OP : Hid (Only tb w4 (putTurn w4 tb m2.t)) := set_only m2.t
          have htB : w0.heap.size ≤ tb := Nat.le_trans hB0 htbw
          have hlen1 : (ys ++ [(⟨kb, x.code, x.text⟩ : Reply)]).length = ys.length + 1 := by simp
          have RI5 : Hid (RI w0 S mb mp (.slice a0 S.n0 c0) (.slice a1 S.n1 c1) w n making eb tg nm b (.slice (some ⟨pb, po, none⟩) (S.f1 tg).actN cap) tb made0 G0 V0 R0 (putTurn w4 tb m2.t) (ys ++ [⟨kb, x.code, x.text⟩]) (ls ++ [⟨nm2, true, false⟩]) made2 G2 V2 mk2 md2 v' m2 H2) :=
            ⟨MI4.out.only TB4.out (by decide) htB OP.out, PG2.out, RG2.out, (by rw [hlen1, show 201 - (ys.length + 1) = 200 - ys.length by omega]; exact RM2.out), EU4.out.only TB4.out (by decide) OP.out, MA4.out.boxed (by omega) m2.t, (by obtain ⟨cs, hc⟩ := TY4.out; exact ⟨cs, (OP.out.block b (heap_lt hc) (by omega)).trans hc⟩), TB5.out, ST4.out, (by rw [hlen1]; exact LK4.out), CO4.out, (by rw [hlen1, show 201 - (ys.length + 1) = 200 - ys.length by omega]; exact NX.out), (by rw [hlen1]; omega), EX2.out, K4.out.trans (KX.of_only (X := fun i => i = tb) OP.out rfl MI4.out.lt htB) (fun i hi h => by have e2 : i = tb := h; omega), VN4.out⟩
          simp only [Turn.v]
          go_wp2
          go_roundg g
          case measure => omega
          case rel => exact ⟨_, _, _, _, _, _, _, _, _, _, RI5, by rw [hlen1]; omega⟩
        · rw [hr] at hpost hrun
          obtain ⟨u, rfl, h1, h2⟩ := hpost
          subst hrun
          go_wp2_with fail
          exact ⟨rfl, u, rfl, h1, HI.out.kx.below.trans h2⟩
        · rw [hr] at hpost hrun
          obtain ⟨rfl, h2⟩ := hpost
          subst hrun
          go_wp2_with fail
          exact ⟨rfl, rfl, HI.out.kx.below.trans h2⟩
end
end Go.Proofs.YtkophfgkcijjkaaGreatDoor.Vp
