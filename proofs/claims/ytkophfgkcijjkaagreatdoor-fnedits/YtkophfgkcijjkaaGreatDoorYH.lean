import Derived.Test.YtkophfgkcijjkaaGreatDoorZZ
import Derived.Test.YtkophfgkcijjkaaGreatDoorZR
namespace Go.Proofs.YtkophfgkcijjkaaGreatDoor.Vp
open Go.RowKit
theorem TRow.only {w w' : World} {base X : Nat} {v : Value} {R : List TR} (h : TRow w base v R) (ho : Only X w w') (hX : X < base) : TRow w' base v R := by
  refine ⟨own_only h.own ho hX, fun r hr => ?_, h.up⟩
  obtain ⟨h1, ⟨F, h2⟩, h3, h4⟩ := h.act r hr
  have e := ho.block r.2.1 h1.1 (by omega)
  exact ⟨h1.block ho.size e, ⟨F, h2.block ho.size e⟩, h3.block e, h4⟩
theorem TRow.more2 {w1 w2 : World} {base g c : Nat} {v v' : Value} {R : List TR} {x : Target} (h : TRow w1 base v R) (hd : ∀ r ∈ R, r.2.1 ≠ g) (hbase : base ≤ g)
    (hO : w1.ownsRow base 176 3 (.slice (some ⟨g, 0, none⟩) x.actN c) x.actN (insL x.act x.actN)) (hown : w2.ownsRow base 104 2 v' (R.length + 1) (R.flatMap tgtV ++ tgtV (x, g, c))) (hgr : w1.grownBy w2 v.ownBlock) : TRow w2 base v' (R ++ [(x, g, c)]) := by
  have hne : ∀ k, TypeAt w1 k 176 → some k ≠ v.ownBlock := fun k hk e => type_ne hk (h.type k e.symm) (by decide) rfl
  refine ⟨by simpa using hown, fun r hr => ?_, ?_⟩
  · rcases List.mem_append.1 hr with hr | hr
    · obtain ⟨h1, ⟨F, h2⟩, h3, h4⟩ := h.act r hr
      have e := hgr.block r.2.1 h1.1 (hne _ h3)
      exact ⟨h1.block hgr.size e, ⟨F, h2.block hgr.size e⟩, h3.block e, h4⟩
    · simp at hr
      subst hr
      obtain ⟨h1, F, h2⟩ := own_ins hO
      have h3 := own_type hO
      have e := hgr.block g h1.1 (hne _ h3)
      exact ⟨h1.block hgr.size e, ⟨F, h2.block hgr.size e⟩, h3.block e, hbase⟩
  · rw [List.pairwise_append]
    refine ⟨h.up, by simp, fun a ha b hb' => ?_⟩
    simp at hb'
    subst hb'
    exact hd a ha
structure SpG (LS : List Source) (RT : List TR) : Prop where
  s : ∀ x ∈ LS, x.name.size ≤ 5000 ∧ x.text.size ≤ 5000
  t : ∀ r ∈ RT, r.1.name.size ≤ 5000 ∧ (1 ≤ r.1.actN ∧ r.1.actN ≤ 200) ∧ ∀ j, j < r.1.actN → (r.1.act j).s.size ≤ 5000
theorem spg_nil : SpG [] [] := ⟨fun _ h => absurd h List.not_mem_nil, fun _ h => absurd h List.not_mem_nil⟩
theorem SpG.addS {LS : List Source} {RT : List TR} (h : SpG LS RT) {x : Source} (h1 : x.name.size ≤ 5000) (h2 : x.text.size ≤ 5000) : SpG (LS ++ [x]) RT := by
  refine ⟨fun y hy => ?_, h.t⟩
  rcases List.mem_append.1 hy with hy | hy
  · exact h.s y hy
  · rw [List.mem_singleton.1 hy]; exact ⟨h1, h2⟩
theorem SpG.addT {LS : List Source} {RT : List TR} (h : SpG LS RT) {r : TR} (h1 : r.1.name.size ≤ 5000) (h2 : 1 ≤ r.1.actN ∧ r.1.actN ≤ 200) (h3 : ∀ j, j < r.1.actN → (r.1.act j).s.size ≤ 5000) : SpG LS (RT ++ [r]) := by
  refine ⟨h.s, fun y hy => ?_⟩
  rcases List.mem_append.1 hy with hy | hy
  · exact h.t y hy
  · rw [List.mem_singleton.1 hy]; exact ⟨h1, h2, h3⟩
structure SpB (rb : Nat) (W : World) (v0 v1 : Value) (LS : List Source) (RT : List TR) : Prop where
  res : W.heap[rb]? = some (.cells #[.slice none 0 0, .slice none 0 0] 26 (0, 0))
  box : W.heap[rb + 1]? = some (.cells #[v0, v1] 26 (0, 0))
  src : W.ownsRow (rb + 2) 100 2 v0 LS.length (LS.flatMap srcV)
  tgt : TRow W (rb + 2) v1 RT
theorem trow_grown {w w' : World} {base : Nat} {v : Value} {R : List TR} {row : Option Nat} (h : TRow w base v R) (hg : w.grownBy w' row) (hr : ∀ k, row = some k → TypeAt w k 100) : TRow w' base v R := by
  refine ⟨h.own.kept hg ?_, fun r hr' => ?_, h.up⟩
  · cases hv : v.ownBlock with
    | none => exact .inl rfl
    | some k => exact .inr fun e => type_ne (h.type k hv) (hr k e.symm) (by decide) rfl
  · obtain ⟨h1, ⟨F, h2⟩, h3, h4⟩ := h.act r hr'
    have e := hg.block r.2.1 h1.1 (fun e1 => type_ne h3 (hr _ e1.symm) (by decide) rfl)
    exact ⟨h1.block hg.size e, ⟨F, h2.block hg.size e⟩, h3.block e, h4⟩
theorem own_typeD {w : World} {base size n : Nat} {e : TypeId} {v : Value} {xs : List Value} (h : w.ownsRow base e size v n xs) : ∀ k, v.ownBlock = some k → TypeAt w k e := by
  intro k hk
  rcases h.2 with ⟨rfl, _⟩ | ⟨g, cap, cur, rfl, _, hg, _⟩
  · cases hk
  · cases hk
    exact ⟨cur, hg⟩
section
variable {W W' : World} {R rb : Nat} {v0 v1 : Value} {LS : List Source} {RT : List TR}
theorem SpB.lt (h : SpB rb W v0 v1 LS RT) : rb + 1 < W.heap.size := heap_in h.box
theorem SpB.cells (h : SpB rb W v0 v1 LS RT) : W.cell? ⟨rb + 1, 0, none⟩ = some v0 ∧ W.cell? ⟨rb + 1, 1, none⟩ = some v1 := by
  have hb := h.box
  refine ⟨?_, ?_⟩ <;> simp [World.cell?, hb]
theorem SpB.open (h : SpB rb W v0 v1 LS RT) : W.frozen? ⟨rb + 1, 0, none⟩ = false ∧ W.frozen? ⟨rb + 1, 1, none⟩ = false := by
  have hb := h.box
  refine ⟨?_, ?_⟩ <;> simp [World.frozen?, hb]
theorem SpB.below (h : SpB rb W v0 v1 LS RT) (hb : Below W.heap.size W W') : SpB rb W' v0 v1 LS RT :=
  have hl := h.lt
  ⟨(hb.block rb (by omega)).trans h.res, (hb.block (rb + 1) h.lt).trans h.box, own_below h.src hb (Nat.le_refl _), h.tgt.below hb (Nat.le_refl _)⟩
theorem SpB.only (h : SpB rb W v0 v1 LS RT) (ho : Only R W W') (hR : R < rb) : SpB rb W' v0 v1 LS RT := by
  have hl := h.lt
  exact ⟨(ho.block rb (by omega) (by omega)).trans h.res, (ho.block (rb + 1) h.lt (by omega)).trans h.box, own_only h.src ho (by omega), h.tgt.only ho (by omega)⟩
theorem spb_new (w : World) : SpB w.heap.size ((w.alloc (.cells #[.slice none 0 0, .slice none 0 0] 26)).alloc (.cells #[.slice none 0 0, .slice none 0 0] 26)) (.slice none 0 0) (.slice none 0 0) [] [] := by
  have hz : (w.alloc (.cells #[.slice none 0 0, .slice none 0 0] 26)).heap.size = w.heap.size + 1 := by simp
  refine ⟨?_, ?_, World.ownsRow_nil _ _ _ _, tRow_nil _ _⟩
  · exact (((Below.refl (w.heap.size + 1) _).alloc (by rw [hz]; exact Nat.le_refl _) _).block w.heap.size (Nat.lt_succ_self _)).trans (heap_alloc_new w _)
  · have h2 := heap_alloc_new (w.alloc (.cells #[.slice none 0 0, .slice none 0 0] 26)) (.cells #[.slice none 0 0, .slice none 0 0] 26)
    rw [hz] at h2
    exact h2
theorem SpB.addS {x : Source} {v' : Value} (h : SpB rb W v0 v1 LS RT) (hown : W'.ownsRow (rb + 2) 100 2 v' (LS.length + 1) (LS.flatMap srcV ++ srcV x)) (hg : W.grownBy W' v0.ownBlock) : SpB rb (W'.setCell ⟨rb + 1, 0, none⟩ v') v' v1 (LS ++ [x]) RT ∧ Below (rb + 1) W (W'.setCell ⟨rb + 1, 0, none⟩ v') := by
  have hlt := h.lt
  have B1 : Below (rb + 2) W W' := (Below.refl (rb + 2) W).grown hg (by omega) fun k hk => (h.src.lt k hk).1
  have B2 : Below (rb + 1) W (W'.setCell ⟨rb + 1, 0, none⟩ v') := (B1.mono (Nat.le_succ _)).setCell (p := ⟨rb + 1, 0, none⟩) (Nat.le_refl _) v'
  refine ⟨⟨(B2.block rb (Nat.lt_succ_self _)).trans h.res, ?_, ?_, ?_⟩, B2⟩
  · exact heap_set_at ((B1.block (rb + 1) (Nat.lt_succ_self _)).trans h.box) v'
  · have h2 := own_set (R := rb + 1) (j := 0) hown (Nat.lt_succ_self _) v'
    rw [List.length_append, List.flatMap_append]
    simpa using h2
  · exact (trow_grown h.tgt hg fun k hk => own_typeD h.src k hk).set (Nat.lt_succ_self _) v'
theorem SpB.addT {x : Target} {g c : Nat} {v' : Value} (h : SpB rb W v0 v1 LS RT) (hd : ∀ r ∈ RT, r.2.1 ≠ g) (hO : W.ownsRow (rb + 2) 176 3 (.slice (some ⟨g, 0, none⟩) x.actN c) x.actN (insL x.act x.actN))
    (hown : W'.ownsRow (rb + 2) 104 2 v' (RT.length + 1) (RT.flatMap tgtV ++ tgtV (x, g, c))) (hg : W.grownBy W' v1.ownBlock) : SpB rb (W'.setCell ⟨rb + 1, 1, none⟩ v') v0 v' LS (RT ++ [(x, g, c)]) ∧ Below (rb + 1) W (W'.setCell ⟨rb + 1, 1, none⟩ v') := by
  have hlt := h.lt
  have hb : rb + 2 ≤ g := (hO.lt g rfl).1
  have B1 : Below (rb + 2) W W' := (Below.refl (rb + 2) W).grown hg (by omega) fun k hk => (h.tgt.own.lt k hk).1
  have B2 : Below (rb + 1) W (W'.setCell ⟨rb + 1, 1, none⟩ v') := (B1.mono (Nat.le_succ _)).setCell (p := ⟨rb + 1, 1, none⟩) (Nat.le_refl _) v'
  refine ⟨⟨(B2.block rb (Nat.lt_succ_self _)).trans h.res, ?_, ?_, ?_⟩, B2⟩
  · exact heap_set_at ((B1.block (rb + 1) (Nat.lt_succ_self _)).trans h.box) v'
  · refine own_set (R := rb + 1) (j := 1) (h.src.kept hg ?_) (Nat.lt_succ_self _) v'
    cases hv : v0.ownBlock with
    | none => exact .inl rfl
    | some k => exact .inr fun e => type_ne (own_typeD h.src k hv) (h.tgt.type k e.symm) (by decide) rfl
  · exact (h.tgt.more2 hd hb hO hown hg).set (Nat.lt_succ_self _) v'
end
end Go.Proofs.YtkophfgkcijjkaaGreatDoor.Vp
namespace Go.Proofs.YtkophfgkcijjkaaGreatDoor.Vp
open Go.RowKit
def Agr (base : Nat) (w V : World) : Prop := w.heap.size ≤ V.heap.size ∧ ∀ k, base ≤ k → k < w.heap.size → V.heap[k]? = w.heap[k]?
theorem Agr.refl (base : Nat) (w : World) : Agr base w w := ⟨Nat.le_refl _, fun _ _ _ => rfl⟩
theorem Agr.trans {base : Nat} {w v u : World} (h : Agr base w v) (k : Agr base v u) : Agr base w u :=
  ⟨Nat.le_trans h.1 k.1, fun i h1 h2 => (k.2 i h1 (Nat.lt_of_lt_of_le h2 h.1)).trans (h.2 i h1 h2)⟩
theorem Only.agr {R base : Nat} {w V : World} (h : Only R w V) (hR : R < base) : Agr base w V := ⟨h.size, fun k h1 h2 => h.block k h2 (by omega)⟩
theorem agr_below {base B : Nat} {w V : World} (h : Below B w V) (hB : w.heap.size ≤ B) : Agr base w V := ⟨h.size, fun k _ h2 => h.block k (by omega)⟩
theorem Agr.mono {b b' : Nat} {w V : World} (h : Agr b w V) (hb : b ≤ b') : Agr b' w V := ⟨h.1, fun k h1 h2 => h.2 k (by omega) h2⟩
theorem own_agr {w V : World} {base n size : Nat} {e : TypeId} {v : Value} {xs : List Value} (h : w.ownsRow base e size v n xs) (ha : Agr base w V) : V.ownsRow base e size v n xs := by
  refine ⟨h.1, ?_⟩
  rcases h.2 with h1 | ⟨g, cap, cur, rfl, hb, hg, h2⟩
  · exact .inl h1
  · exact .inr ⟨g, cap, cur, rfl, hb, (ha.2 g hb (heap_in hg)).trans hg, h2⟩
theorem TRow.agr {w V : World} {base : Nat} {v : Value} {R : List TR} (h : TRow w base v R) (ha : Agr base w V) : TRow V base v R := by
  refine ⟨own_agr h.own ha, fun r hr => ?_, h.up⟩
  obtain ⟨h1, ⟨F, h2⟩, h3, h4⟩ := h.act r hr
  have e := ha.2 r.2.1 h4 h1.1
  exact ⟨h1.block ha.1 e, ⟨F, h2.block ha.1 e⟩, h3.block e, h4⟩
structure HSp (base : Nat) (w : World) (a0 : Option Addr) (n0 : Nat) (f0 : Nat → Source) (a1 : Option Addr) (n1 : Nat) (f1 : Nat → Target) : Prop where
  sl : ∀ V, Agr base w V → SlSource V a0 n0 f0 ∧ SlTarget V a1 n1 f1
  hn0 : n0 ≤ 300
  hn1 : n1 ≤ 300
  fit : ∀ i, i < n1 → (f1 i).actN ≤ 300 ∧ ∀ j, j < (f1 i).actN → ((f1 i).act j).s.size ≤ 5000
theorem HSp.agr {base : Nat} {w V : World} {a0 : Option Addr} {n0 : Nat} {f0 : Nat → Source} {a1 : Option Addr} {n1 : Nat} {f1 : Nat → Target} (h : HSp base w a0 n0 f0 a1 n1 f1) (ha : Agr base w V) : HSp base V a0 n0 f0 a1 n1 f1 :=
  ⟨fun U hU => h.sl U (ha.trans hU), h.hn0, h.hn1, h.fit⟩
theorem HSp.mono {b b' : Nat} {w : World} {a0 : Option Addr} {n0 : Nat} {f0 : Nat → Source} {a1 : Option Addr} {n1 : Nat} {f1 : Nat → Target} (h : HSp b w a0 n0 f0 a1 n1 f1) (hb : b' ≤ b) : HSp b' w a0 n0 f0 a1 n1 f1 :=
  ⟨fun U hU => h.sl U (hU.mono hb), h.hn0, h.hn1, h.fit⟩
theorem hsp_of {w : World} {base n0 c0 n1 c1 : Nat} {a0 a1 : Option Addr} {LS : List Source} {RT : List TR} (hs : w.ownsRow base 100 2 (.slice a0 n0 c0) LS.length (LS.flatMap srcV)) (e0 : n0 = LS.length) (ht : TRow w base (.slice a1 n1 c1) RT) (e1 : n1 = RT.length) (h0 : LS.length ≤ 300) (h1 : RT.length ≤ 300)
    (hf : ∀ r ∈ RT, r.1.actN ≤ 300 ∧ ∀ j, j < r.1.actN → (r.1.act j).s.size ≤ 5000) : HSp base w a0 n0 (srcF LS) a1 n1 (tgtF (RT.map (·.1))) := by
  subst e0 e1
  refine ⟨fun V hV => ⟨own_src (own_agr hs hV), trow_tgt (ht.agr hV)⟩, h0, h1, fun i hi => ?_⟩
  have e : tgtF (RT.map (·.1)) i = RT[i].1 := by simp [tgtF, hi]
  rw [e]
  exact hf _ (List.getElem_mem hi)
def DH (w : World) (R q : Nat) (e : Ending) (w' : World) : Prop := ∃ (a0 : Option Addr) (n0 c0 : Nat) (f0 : Nat → Source) (a1 : Option Addr) (n1 c1 : Nat) (f1 : Nat → Target), e = .returned (.agg #[.slice a0 n0 c0, .slice a1 n1 c1]) ∧ HSp w.heap.size w' a0 n0 f0 a1 n1 f1 ∧ ∃ q' : Nat, q' ≤ q ∧ Rd w' R q' ∧ Only R w w'
end Go.Proofs.YtkophfgkcijjkaaGreatDoor.Vp
