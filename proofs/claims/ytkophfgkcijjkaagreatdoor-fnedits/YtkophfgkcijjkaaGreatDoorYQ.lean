import Derived.Test.YtkophfgkcijjkaaGreatDoorYP
import Derived.WalkSmall
namespace Go.Proofs.YtkophfgkcijjkaaGreatDoor.Vp
open Go.RowKit Go.Proofs.YtkophfgkcijjkaaGreatDoor.Ca Go.Maps
theorem stepN_update {w : World} {ops : Array Oper} {o : Oper} {a : Act} {K : Act → World → Prop} {Q : Exit → Act → World → Prop} {E : Prop} (hg : o.guard = none) (m x v : Operand) (t : TypeId) (hop : o.op = Op.mapUpdate t m x v) (e : TypeId) (ht : Tryz.prog.underlying t = some (.map 9 e)) (b n : Nat) (G : List UInt8 → Option Value)
    (hm : a.eval m = .map (some b)) (hown : MapN w b n G) (hn : n < maxLen) (key : ByteArray) (val : Value) (hx : a.eval x = .string key) (hv : a.eval v = val) (hk : key.size ≤ maxLen)
    (hK : ∀ w', MapN w' b (n + 1) (fun s => if s = key.toList then some val else G s) → w.grownBy w' (some b) → K (a.put o.dst undef) w') :
    if Region.wanted o (yielded ops a.tmps) = true then Oper.wp Tryz.prog o a w K Q else E := by
  have hw : Region.wanted o (yielded ops a.tmps) = true := by simp [Region.wanted, hg]
  rw [if_pos hw]
  obtain ⟨D, hD, hG⟩ := hown
  obtain ⟨w', hrun, r1, r2⟩ := hD.update str_key ht hn (WideMaps.keyOf_string_mk Tryz.underlying9 hk) (val := val) (d := .held val) (ps := []) rfl
  unfold Oper.wp
  simp [execOp, hop, hm, hx, hv, hrun, Result.andThen]
  refine hK w' ⟨_, r1, ?_⟩ r2
  have := mapN_put (x := key.toList) (v := val) hD.isMap hG
  rw [ByteArray.toList_eq] at this ⊢
  exact this
theorem one_at (w : World) (v : Value) (t : TypeId) : ∀ j u, [v][j]? = some u → (w.alloc (.cells #[v] t)).cell? ((⟨w.heap.size, 0, none⟩ : Addr).add j) = some u := by
  intro j u h
  rw [addr_add]
  have hj : j = 0 := by
    rcases Nat.lt_or_ge j 1 with h' | h'
    · omega
    · rw [List.getElem?_eq_none (by simp; omega)] at h; cases h
  subst hj
  simp at h
  subst h
  simp
theorem wrapM {z : Int} (h0 : 0 ≤ z) (h1 : z ≤ 1048576) : IntKind.i64.wrap z = z := by
  rw [IntKind.wrap_i64]
  omega
def FreshPost (w0 : World) (S : Spc) (mb mp : Nat) (s0 s1 : Value) (making : List ByteArray) (made : List Ent) (G : ByteArray → Nat) (V : ByteArray → Value) (w : World) (nm : ByteArray) (e : Ending) (w' : World) : Out Ent → Prop
  | .inl (made', x) => ∃ made1 mm G' V' mk' md' v' eb, made' = made1 ++ [x] ∧ (mm = making ∨ mm = making ++ [nm]) ∧ e = .returned (.pointer (some ⟨eb, 0, none⟩)) ∧ MI w0 S mb mp s0 s1 w' mm making made1 G' V' mk' md' ∧ EntAt w0 S G' w' eb v' x ∧ x.name = nm ∧ (∀ y ∈ made1, y.name ≠ nm) ∧ PG S making made1 ∧ (∀ l ∈ x.looks, l.ask = true → ∃ y ∈ made1, y.name = l.name) ∧ (∀ y ∈ made1, G' y.name ≠ eb) ∧ w.heap.size ≤ eb ∧ (∀ k, v'.ownBlock = some k → w.heap.size ≤ k) ∧ Ext w.heap.size made made1 G G' V V' ∧ KX w0.heap.size XN w w'
  | .inr (.inl c) => ∃ v, e = .panicked [{ v := .iface 253 (.agg #[v]), recovered := false }] ∧ w'.ownsRow w0.heap.size 9 1 v c.length (strV c) ∧ Below w0.heap.size w w'
  | .inr (.inr d) => e = .panicked [{ v := .iface 255 (.agg #[.string d]), recovered := false }] ∧ Below w0.heap.size w w'
section
variable {w0 : World} {S : Spc} {a0 a1 : Option Addr} {c0 c1 mb mp : Nat} {mk md : Value} {making : List ByteArray} {made : List Ent} {G : ByteArray → Nat} {V : ByteArray → Value}
set_option maxRecDepth 1000000 in
set_option maxHeartbeats 8000000 in
theorem target_deep (w : World) (a : Option Addr) (cnt cap : Nat) (nm : ByteArray) (h : MI w0 S mb mp (.slice a0 S.n0 c0) (.slice a1 S.n1 c1) w making making made G V mk md) (hlen : making.length = 60) :
    Calls Tryz.prog 218 #[.pointer (some ⟨mb, 0, none⟩), .agg #[.string nm, .slice a cnt cap]] w fun e w' => e = .panicked [{ v := .iface 255 (.agg #[.string nm]), recovered := false }] ∧ Below w.heap.size w w' := by
  obtain ⟨ak, ck, rfl⟩ := own_sliceM h.rmk
  have A0 := hide ((Below.refl w.heap.size w).alloc (Nat.le_refl _) (.cells #[.string nm, .slice a cnt cap] 104))
  have M0 := hide (h.below A0.out (Nat.le_refl _))
  obtain ⟨hml, -, -, -, m3, -, -⟩ := M0.out.box.facts
  have k0 : (w.alloc (.cells #[.string nm, .slice a cnt cap] 104)).cell? ⟨w.heap.size, 0, none⟩ = some (.string nm) := by simp
  rw [hlen] at m3
  clear h M0 hlen
  go_enter Tryz.func218, Tryz.ntmps218
  go_wp2_with fail
  exact ⟨rfl, rfl, A0.out⟩
set_option maxRecDepth 1000000 in
set_option maxHeartbeats 8000000 in
theorem target_any (C : Ctx w0 S a0 c0 a1 c1) (n : Nat) (HL : LiesOk w0 S mb mp (.slice a0 S.n0 c0) (.slice a1 S.n1 c1) n) (w : World) (a : Option Addr) (cap tg : Nat) (nm : ByteArray) (hlen : making.length + (n + 1) = 60) (h : MI w0 S mb mp (.slice a0 S.n0 c0) (.slice a1 S.n1 c1) w making making made G V mk md) (hp : PG S making made) (hroom : roomN S making made 1) (hn : nameOk nm = true) (h0 : entOf made nm = none) (h1 : atL making nm = none) (h2 : atI (nm1 S.f1) S.n1 nm = some tg) (hsl : SlIns w0 a (S.f1 tg).actN (S.f1 tg).act) :
    Calls Tryz.prog 218 #[.pointer (some ⟨mb, 0, none⟩), .agg #[.string nm, .slice a (S.f1 tg).actN cap]] w fun e w' => FreshPost w0 S mb mp (.slice a0 S.n0 c0) (.slice a1 S.n1 c1) making made G V w nm e w' (tgtP S (n + 1) making made nm tg) := by
  obtain ⟨i1, hi, hy0, hy1, hy2⟩ := infoM2 infoStrM
  obtain ⟨ak, ck, rfl⟩ := own_sliceM h.rmk
  have hB0 : w0.heap.size ≤ w.heap.size := h.lt
  have hsz : nm.size ≤ maxLen := by have := name_size hn; unfold maxLen; omega
  have A0 := hide ((Below.refl w.heap.size w).alloc (Nat.le_refl _) (.cells #[.string nm, .slice a (S.f1 tg).actN cap] 104))
  have kt : Hid ((w.alloc (.cells #[.string nm, .slice a (S.f1 tg).actN cap] 104)).heap[w.heap.size]? = some (.cells #[.string nm, .slice a (S.f1 tg).actN cap] 104 (0, 0))) := heap_alloc_new _ _
  have M0 := hide (h.below A0.out (Nat.le_refl _))
  have CC := hide C
  have HLL := hide HL
  have HP := hide hp
  have HN := hide hn
  have H0 := hide h0
  have H1 := hide h1
  have H2 := hide h2
  have HSL := hide hsl
  have hmade : made.length ≤ 50000 := by unfold roomN at hroom; omega
  have HRM := hide hroom
  clear h C HL hp hn h0 h1 h2 hsl hroom
  obtain ⟨L, hL⟩ : ∃ L, L = making.length := ⟨_, rfl⟩
  have HLN := hide hL
  have hL60 : L < 60 := by omega
  obtain ⟨hml, -, -, m2, m3, -, -⟩ := M0.out.box.facts
  obtain ⟨-, k0, -⟩ := (show (w.alloc (.cells #[.string nm, .slice a (S.f1 tg).actN cap] 104)).cell? ⟨w.heap.size, 0, none⟩ = some (.string nm) ∧ (w.alloc (.cells #[.string nm, .slice a (S.f1 tg).actN cap] 104)).cell? ⟨w.heap.size, 0, none⟩ = some (.string nm) ∧ True from ⟨by simp, by simp, trivial⟩)
  rw [← hL] at m3
  clear hL
  have hL60i : ((L : Int) == 60) = false := by simp; omega
  go_enter Tryz.func218, Tryz.ntmps218
  go_wp2_with fail
  generalize w.alloc (.cells #[.string nm, .slice a (S.f1 tg).actN cap] 104) = W0 at A0 kt M0 m2 m3 hml k0 ⊢
  refine wp_region_held_drew (S := fun V => V.cell? ⟨mb, 2, none⟩ = some (.map (some mp)) ∧ V.cell? ⟨mb, 3, none⟩ = some (.slice ak L ck) ∧ V.cell? ⟨w.heap.size, 0, none⟩ = some (.string nm)) (by as_aux_lemma => kernel_rfl) ⟨m2, m3, k0⟩ (fun hS => ?_)
  have HS := hide hS
  clear hS
  iterate 12
    refine anyS_nx 0 (v := ?_) rfl rfl (by as_aux_lemma => kernel_rfl) (fun _ _ _ h => h) rfl ?_ HS.out ?_
    rotate_left
    · (intro wz hSw; obtain ⟨s0, s1, s2⟩ := hSw; go_simp)
      (try with_reducible rfl)
    (try simp only [Act.put, nzL])
  have MD := hide (M0.out.below (Below.refl _ W0).drew (Nat.le_refl _))
  refine anyS_one (i := 12) rfl (by as_aux_lemma => kernel_rfl) (fun K hK => ?_)
  refine stepN_update rfl _ _ _ 190 rfl 258 Tryz.underlying190 mp (2 * made.length + making.length) (markF G making made) rfl MD.out.map (by unfold maxLen; omega) nm (.agg #[.int .i64 (L : Int), .pointer none]) rfl rfl hsz ?_
  intro w1 hm1 hg1
  have HMK := hide (MD.out.mapped (cnt' := 2 * made.length + (making ++ [nm]).length) (F' := markF G (making ++ [nm]) made) hg1 ((hm1.congr fun s => by rw [← mark_begin H0.out H1.out s, ← HLN.out]).mono (by simp; omega)))
  clear hm1 hg1
  have M1 := hide HMK.out.1
  have K1 : Hid (KX w0.heap.size XN w w1) := (KX.of_below (X := XN) (A0.out.trans ((Below.refl _ W0).drew.mono A0.out.size)) (Nat.le_refl _) hB0).to HMK.out.2
  have kt1 : Hid (w1.heap[w.heap.size]? = some (.cells #[.string nm, .slice a (S.f1 tg).actN cap] 104 (0, 0))) := (HMK.out.2.blk _ _ _ _ kt.out (by decide) (by decide) (by decide) fun h => h).trans kt.out
  clear HS m2 m3 k0 hml HMK
  obtain ⟨hml, -, -, m2, m3, -, -⟩ := M1.out.box.facts
  rw [← HLN.out] at m3
  have hwl : w.heap.size < w1.heap.size := heap_lt kt1.out
  have k0 : w1.cell? ⟨w.heap.size, 0, none⟩ = some (.string nm) := by simp [World.cell?, kt1.out]
  refine hK.out _ _ ⟨m2, m3, k0⟩ ?_
  clear hK K
  (try simp only [Act.put])
  refine wpAnyH_done (by as_aux_lemma => kernel_rfl) ?_ _
  clear MD M0 kt
  go_wp2_with fail
  have SQ : Hid (∀ V : World, (∀ k, k < w1.heap.size → some k ≠ (Value.slice ak L ck).ownBlock → V.heap[k]? = w1.heap[k]?) → V.cell? ⟨mb, 3, none⟩ = some (.slice ak L ck) ∧ V.cell? ⟨w.heap.size, 0, none⟩ = some (.string nm)) := fun V hV => by
    have hne : some mb ≠ (Value.slice ak L ck).ownBlock := fun e => by
      obtain ⟨_, _, cs, hc⟩ := own_cellsM M1.out.rmk mb (by rw [← HLN.out]; exact e.symm)
      exact absurd (two_types M1.out.box hc) (by decide)
    have hne2 : some w.heap.size ≠ (Value.slice ak L ck).ownBlock := fun e => by
      obtain ⟨_, _, cs, hc⟩ := own_cellsM M1.out.rmk w.heap.size (by rw [← HLN.out]; exact e.symm)
      exact absurd (two_types kt1.out hc) (by decide)
    exact ⟨(World.cell?_of_block (a := ⟨mb, 3, none⟩) (hV mb hml hne)).trans m3, (World.cell?_of_block (a := ⟨w.heap.size, 0, none⟩) (hV w.heap.size hwl hne2)).trans k0⟩
  have HS := hide (SQ.out w1.drew (fun k hk _ => rfl))
  refine wp_region_N (fun V => V.cell? ⟨mb, 3, none⟩ = some (.slice ak L ck) ∧ V.cell? ⟨w.heap.size, 0, none⟩ = some (.string nm)) 11 (by as_aux_lemma => kernel_rfl) ?_
  clear m2 m3 k0
  iterate 4
    refine anyN_nx 0 (v := ?_) rfl rfl (by as_aux_lemma => kernel_rfl) (fun _ _ _ h => h) rfl ?_ HS.out ?_
    rotate_left
    · (intro wz hSw; obtain ⟨s0, s1⟩ := hSw; go_simp)
      (try with_reducible rfl)
    (try simp only [Act.put, nzL])
  refine anyN_nx 5 (v := ?_) rfl rfl (by as_aux_lemma => kernel_rfl) (fun _ _ _ h => h) rfl ?_ HS.out ?_
  rotate_left
  · (intro wz hSw; obtain ⟨s0, s1⟩ := hSw; go_simp)
    (try with_reducible rfl)
  (try simp only [Act.put, nzL])
  refine anyN_nx 4 (v := ?_) rfl rfl (by as_aux_lemma => kernel_rfl) (fun _ _ _ h => h) rfl ?_ HS.out ?_
  rotate_left
  · (intro wz hSw; obtain ⟨s0, s1⟩ := hSw; go_simp)
    (try with_reducible rfl)
  (try simp only [Act.put, nzL])
  refine anyN_nx 6 (v := ?_) rfl rfl (by as_aux_lemma => kernel_rfl) (fun _ _ _ h => h) rfl ?_ HS.out ?_
  rotate_left
  · (intro wz hSw; obtain ⟨s0, s1⟩ := hSw; go_simp)
    (try with_reducible rfl)
  (try simp only [Act.put, nzL])
  refine anyN_one (i := 7) rfl (by as_aux_lemma => kernel_rfl) (fun K hK => ?_)
  go_simp
  have AB := hide (((Below.refl w1.heap.size w1).drew).alloc (Nat.le_refl _) (.cells #[.string nm] 9))
  have MA := hide (M1.out.below AB.out (Nat.le_refl _))
  refine hK.out _ _ (fun _ => SQ.out _ (fun k hk _ => AB.out.block k hk)) ?_
  clear hK K
  (try simp only [Act.put, nzL])
  have RK := hide (by have h := MA.out.rmk; rw [← HLN.out] at h; exact h)
  refine anyN_one (i := 8) rfl (by as_aux_lemma => kernel_rfl) (fun K hK => ?_)
  refine step_append_own_at rfl (.tmp 32) (.tmp 35) 39 rfl w0.heap.size 9 i1 (.string ⟨#[]⟩) 1 16 Tryz.underlying39 hi hy0 hy1 hy2 rfl (by decide) (.slice ak L ck) L (strV making) (by simp [Act.eval]) RK.out ⟨w1.heap.size, 0, none⟩ 1 1 [.string nm] (by simp [Act.eval]) rfl (one_at w1.drew _ _) (by simp [Value.oneCell']) (by unfold maxLen; omega) (by omega) MA.out.lt ?_
  intro v' w3 hown hgrow hat
  have O3 := hide hown
  have G3 := hide hgrow
  have S3 := hide (SQ.out w3 (fun k hk hne => (hgrow.block k (Nat.lt_of_lt_of_le hk (by first | (simp; done) | (simp; omega))) hne).trans (AB.out.block k hk)))
  obtain ⟨g4, cap4, cur4, rfl, hcl⟩ := hown.2.resolve_left (fun h => by omega)
  clear hcl
  clear hown hgrow hat
  refine hK.out _ _ (fun _ => S3.out) ?_
  clear hK K HS
  (try simp only [Act.put, nzL])
  iterate 2
    refine anyN_on 9 rfl rfl (by as_aux_lemma => kernel_rfl) (fun K hK => ?_)
    go_simp
    refine hK.out _ _ (fun _ => S3.out) ?_
    clear hK K
    (try simp only [Act.put, nzL])
  have M4 : Hid (MI w0 S mb mp (.slice a0 S.n0 c0) (.slice a1 S.n1 c1) (w3.setCell ⟨mb, 3, none⟩ (.slice (some ⟨g4, 0, none⟩) (L + 1) cap4)) (making ++ [nm]) (making ++ [nm]) made G V (.slice (some ⟨g4, 0, none⟩) (L + 1) cap4) md ∧ KX w0.heap.size XN w1 (w3.setCell ⟨mb, 3, none⟩ (.slice (some ⟨g4, 0, none⟩) (L + 1) cap4))) := by
    have h4 := MA.out.mked (w' := w3) (nk' := (making ++ [nm]).length) (ks' := strV (making ++ [nm])) (v := .slice (some ⟨g4, 0, none⟩) (L + 1) cap4) (by rw [← HLN.out]; exact G3.out) (by rw [List.length_append, List.length_singleton, ← HLN.out]; simpa [strV] using O3.out)
    exact ⟨h4.1, (KX.of_below (X := XN) AB.out (Nat.le_refl _) M1.out.lt).to h4.2⟩
  have s3 := S3.out.1
  have hml3 : mb < w3.heap.size := Nat.lt_of_lt_of_le hml (Nat.le_trans (by first | (simp; done) | (simp; omega)) G3.out.size)
  have hf3 : w3.frozen? ⟨mb, 3, none⟩ = false := by
    have hne : some mb ≠ (Value.slice ak L ck).ownBlock := fun e => by
      obtain ⟨_, _, cs, hc⟩ := own_cellsM RK.out mb e.symm
      exact absurd (two_types MA.out.box hc) (by decide)
    exact (World.frozen?_of_block (a := ⟨mb, 3, none⟩) (G3.out.block mb (heap_lt MA.out.box) hne)).trans (MA.out.box.facts.2.2.2.2.2.2 3)
  refine anyN_one (i := 11) rfl (by as_aux_lemma => kernel_rfl) (fun K hK => ?_)
  go_simp
  refine hK.out _ _ (fun h => absurd rfl h) ?_
  clear hK K s3 hf3
  (try simp only [Act.put, nzL])
  refine anyN_done (by as_aux_lemma => kernel_rfl) ?_ _
  have M4a := hide M4.out.1
  have K4 := hide (K1.out.to M4.out.2)
  have kt4 := hide ((M4.out.2.blk _ _ _ _ kt1.out (by decide) (by decide) (by decide) fun h => h).trans kt1.out)
  clear M4 RK MA AB S3 O3 G3 SQ K1 M1 hml3
  generalize w3.setCell ⟨mb, 3, none⟩ (.slice (some ⟨g4, 0, none⟩) (L + 1) cap4) = W4 at M4a K4 kt4 ⊢
  have hwl4 : w.heap.size < W4.heap.size := heap_lt kt4.out
  have k0 : W4.cell? ⟨w.heap.size, 0, none⟩ = some (.string nm) := by simp [World.cell?, kt4.out]
  have k1 : W4.cell? ⟨w.heap.size, 1, none⟩ = some (.slice a (S.f1 tg).actN cap) := by simp [World.cell?, kt4.out]
  have A5 := hide ((Below.refl W4.heap.size W4).alloc (Nat.le_refl _) (.cells #[.string nm, .int .i64 3, .int .i64 0, .string ⟨#[]⟩, .slice a (S.f1 tg).actN cap, .slice none 0 0, .slice none 0 0, .int .i64 0] 138))
  have hB4 : w0.heap.size ≤ W4.heap.size := M4a.out.lt
  have U5 : Hid (EU w0 S (W4.alloc (.cells #[.string nm, .int .i64 3, .int .i64 0, .string ⟨#[]⟩, .slice a (S.f1 tg).actN cap, .slice none 0 0, .slice none 0 0, .int .i64 0] 138)) W4.heap.size nm tg G [] (.slice none 0 0) made V) := ⟨⟨a, cap, heap_alloc_new _ _, HSL.out⟩, hB4, ⟨rfl, .inl ⟨rfl, rfl⟩⟩, fun x hx => by
    obtain ⟨act, hbl, _⟩ := (M4a.out.ents x hx).blk
    have := heap_lt hbl
    omega, fun _ _ k hk => (by cases hk), fun _ hl => absurd hl List.not_mem_nil⟩
  have M5 := hide (M4a.out.below A5.out (Nat.le_refl _))
  have RM5 : Hid (roomN S (making ++ [nm]) made 201) := by
    have h1 := leftN_begin (atI_some H2.out).1 (atI_some H2.out).2 H0.out H1.out
    have h2 := HRM.out
    unfold roomN at h2 ⊢
    show _ ≤ _
    omega
  have hz5 : (W4.alloc (.cells #[.string nm, .int .i64 3, .int .i64 0, .string ⟨#[]⟩, .slice a (S.f1 tg).actN cap, .slice none 0 0, .slice none 0 0, .int .i64 0] 138)).heap.size = W4.heap.size + 1 := by simp
  go_wp2_with fail
  clear k0 k1
  generalize W4.alloc (.cells #[.string nm, .int .i64 3, .int .i64 0, .string ⟨#[]⟩, .slice a (S.f1 tg).actN cap, .slice none 0 0, .slice none 0 0, .int .i64 0] 138) = W5 at A5 U5 M5 hz5 ⊢
  obtain ⟨eb, heb⟩ : ∃ eb, eb = W4.heap.size := ⟨_, rfl⟩
  rw [← heb] at U5 ⊢
  have HEB := hide heb
  have hweb : w.heap.size ≤ eb := by omega
  clear heb
  refine (mrun_any CC.out n HLL.out made G V _ md W5 eb tg nm (by simp; omega) M5.out (off_add HP.out H0.out) RM5.out (atI_some H2.out).1 U5.out).mono ?_
  intro e w6 hpost
  obtain ⟨R1, hR1⟩ : ∃ R1, R1 = runL S (liesP S n (making ++ [nm])) tg 201 made [] [] := ⟨_, rfl⟩
  have HT : Hid (tgtP S (n + 1) making made nm tg = finE nm tg R1) := by rw [hR1]; rfl
  rw [← hR1] at hpost
  have HR1 := hide hR1
  clear hR1
  have K5 : Hid (KX w0.heap.size XN w W5) := K4.out.to (KX.of_below (X := XN) A5.out (Nat.le_refl _) hB4)
  rcases R1 with ⟨made1, x⟩ | c | d
  · obtain ⟨rfl, G1, V1, mk1, md1, v1, hM6, hE6, hf6, hv6, hX6, hK6⟩ := hpost
    have GD := hide (runL_good CC.out.ok (atI_some H2.out).1 (liesP_good CC.out.ok n (making ++ [nm])) _ _ _ _ _ _ (off_add HP.out H0.out) (rg_nil S made) rfl HR1.out.symm)
    have M6 := hide hM6
    have E6 := hide hE6
    have F6 := hide hf6
    have V6 := hide hv6
    have X6 := hide hX6
    have K6 : Hid (KX w0.heap.size XN w w6) := K5.out.trans hK6 (fun i hi h => by have e2 : i = eb := h; omega)
    have hz6 : W5.heap.size ≤ w6.heap.size := hK6.below.size
    have hln : (making ++ [nm]).length = L + 1 := by rw [List.length_append, List.length_singleton, ← HLN.out]
    have hr6 := hM6.rmk
    rw [hln] at hr6
    obtain ⟨g7, cap7, cur7, rfl, hcl⟩ := hr6.2.resolve_left (fun h => by omega)
    have hcap7 : L + 1 ≤ cap7 := hcl.2.2.1
    have R6 := hide (ownsRow_pop (n := L) (xs := strV making) (last := [.string nm]) (by rw [strV, List.length_map, Nat.mul_one]; exact HLN.out.symm) (by simpa [strV] using hr6))
    clear hM6 hE6 hf6 hv6 hX6 hK6 hcl hr6 hln
    obtain ⟨hml6, -, -, -, m3, -, mf⟩ := M6.out.box.facts
    have mf3 := mf 3
    clear mf
    go_wp2_with fail
    have hwr : IntKind.i64.wrap (L : Int) = (L : Int) := wrapM (by omega) (by omega)
    have hI0 : (0 : Int) ≤ (L : Int) := by omega
    have hI1 : (L : Int) ≤ (cap7 : Int) := by omega
    refine wp_region_N (fun V => V.cell? ⟨mb, 3, none⟩ = some (.slice (some ⟨g7, 0, none⟩) (L + 1) cap7)) 14 (by as_aux_lemma => kernel_rfl) ?_
    have HS : Hid (w6.drew.cell? ⟨mb, 3, none⟩ = some (.slice (some ⟨g7, 0, none⟩) (L + 1) cap7)) := m3
    iterate 10
      refine anyN_nx 0 (v := ?_) rfl rfl (by as_aux_lemma => kernel_rfl) (fun _ _ _ h => h) rfl ?_ HS.out ?_
      rotate_left
      · (intro wz s0; go_simp)
        (try with_reducible rfl)
      (try simp only [Act.put, nzL])
    refine anyN_take (i := 10) (v := .int .i64 (L : Int)) rfl (by as_aux_lemma => kernel_rfl) (by as_aux_lemma => kernel_rfl) (by as_aux_lemma => kernel_rfl) (by as_aux_lemma => kernel_rfl) (fun _ _ _ h => h) rfl ?_ HS.out ?_
    · intro wz s0
      go_simp
    (try simp only [Act.put, nzL])
    refine anyN_take (i := 11) (v := .slice (some ⟨g7, 0, none⟩) L cap7) rfl (by as_aux_lemma => kernel_rfl) (by as_aux_lemma => kernel_rfl) (by as_aux_lemma => kernel_rfl) (by as_aux_lemma => kernel_rfl) (fun _ _ _ h => h) rfl ?_ HS.out ?_
    · intro wz s0
      go_simp
    (try simp only [Act.put, nzL])
    iterate 2
      refine anyN_on 12 rfl rfl (by as_aux_lemma => kernel_rfl) (fun K hK => ?_)
      go_simp
      refine hK.out _ _ (fun _ => HS.out) ?_
      clear hK K
      (try simp only [Act.put, nzL])
    have M7 := hide (M6.out.mked (w' := w6) (nk' := making.length) (ks' := strV making) (v := .slice (some ⟨g7, 0, none⟩) L cap7) (World.grownBy.refl _ _) (by rw [← HLN.out]; exact R6.out))
    refine anyN_one (i := 14) rfl (by as_aux_lemma => kernel_rfl) (fun K hK => ?_)
    go_simp
    refine hK.out _ _ (fun h => absurd rfl h) ?_
    clear hK K HS m3 mf3
    (try simp only [Act.put])
    refine anyN_done (by as_aux_lemma => kernel_rfl) ?_ _
    have D7 : Hid (Below (w6.setCell ⟨mb, 3, none⟩ (.slice (some ⟨g7, 0, none⟩) L cap7)).heap.size (w6.setCell ⟨mb, 3, none⟩ (.slice (some ⟨g7, 0, none⟩) L cap7)) (w6.setCell ⟨mb, 3, none⟩ (.slice (some ⟨g7, 0, none⟩) L cap7)).drew) := (Below.refl _ _).drew
    go_wp2_with fail
    go_ret
    rw [HT.out]
    have M8 := M7.out.1.below D7.out (Nat.le_refl _)
    have K8 := M7.out.2.to (KX.of_below (X := XN) D7.out (Nat.le_refl _) M7.out.1.lt)
    obtain ⟨g1, -, -, -, -, g6⟩ := GD.out
    exact ⟨made1, making ++ [nm], G1, V1, _, md1, v1, eb, rfl, .inr rfl, rfl, M8, E6.out.kx K8 (fun h => h) (fun _ _ h => h), rfl, (off_sub g1).2, (off_sub g1).1, g6, F6.out, hweb, fun k hk => Nat.le_trans (by omega) (V6.out k hk), X6.out.mono (by omega), K6.out.to K8⟩
  · obtain ⟨u, rfl, g1, g2⟩ := hpost
    go_wp2_with fail
    rw [HT.out]
    exact ⟨rfl, u, rfl, g1, K5.out.below.trans g2⟩
  · obtain ⟨rfl, g2⟩ := hpost
    go_wp2_with fail
    rw [HT.out]
    exact ⟨rfl, rfl, K5.out.below.trans g2⟩
end
end Go.Proofs.YtkophfgkcijjkaaGreatDoor.Vp
namespace Go.Proofs.YtkophfgkcijjkaaGreatDoor.Vp
open Go.RowKit Go.Maps
theorem isIn_atI (g : Nat → ByteArray) (n : Nat) (t : ByteArray) : isIn g n t = (atI g n t).isSome := by
  unfold isIn atI
  rw [Bool.eq_iff_iff, List.find?_isSome, List.any_eq_true]
theorem atI_of {g : Nat → ByteArray} {n i j : Nat} {t : ByteArray} (hs : ascTo g n = true) (hj : atI g n t = some j) (hi : i ≤ n) (h1 : ∀ m, m < i → tless (g m) t = true) (h2 : ∀ m, i ≤ m → m < n → tless (g m) t = false) : i = j := by
  have h3 := isIn_at hs hi h1 h2
  rw [isIn_atI, hj, Option.isSome_some] at h3
  have h4 := h3.symm
  rw [Bool.and_eq_true, decide_eq_true_eq] at h4
  have h5 := atI_some hj
  exact asc_one hs h4.1 h5.1 h4.2 (by rw [h5.2]; simp)
section
variable {w0 : World} {S : Spc} {a0 a1 : Option Addr} {c0 c1 mb mp : Nat} {mk md : Value} {making : List ByteArray} {made : List Ent} {G : ByteArray → Nat} {V : ByteArray → Value}
theorem fresh_new {w w1 : World} {s0 s1 : Value} (h : MI w0 S mb mp s0 s1 w making making made G V mk md) (hp : PG S making made) {nm : ByteArray} (h0 : entOf made nm = none) (hb : Below w.heap.size w w1) (kd : Int) (hk : kd ≠ 3) (tx : ByteArray) :
    FreshPost w0 S mb mp s0 s1 making made G V w nm (.returned (.pointer (some ⟨w1.heap.size, 0, none⟩))) (w1.alloc (.cells #[.string nm, .int .i64 kd, .int .i64 0, .string tx, .slice none 0 0, .slice none 0 0, .slice none 0 0, .int .i64 0] 138)) (addE made ⟨nm, kd, 0, tx, 0, []⟩) := by
  have h1 := h.below hb (Nat.le_refl _)
  have hb2 := (Below.refl w1.heap.size w1).alloc (Nat.le_refl _) (.cells #[.string nm, .int .i64 kd, .int .i64 0, .string tx, .slice none 0 0, .slice none 0 0, .slice none 0 0, .int .i64 0] 138)
  refine ⟨made, making, G, V, mk, md, .slice none 0 0, w1.heap.size, rfl, .inl rfl, rfl, h1.below hb2 (Nat.le_refl _), ⟨⟨.slice none 0 0, heap_alloc_new _ _, ?_⟩, h1.lt, ⟨rfl, .inl ⟨rfl, rfl⟩⟩⟩, rfl, entOf_none h0, hp, fun l hl => absurd hl List.not_mem_nil, fun y hy => ?_, hb.size, fun k hk => (by cases hk), Ext.refl _ _ _ _, (KX.of_below (X := XN) hb (Nat.le_refl _) h.lt).to (KX.of_below hb2 (Nat.le_refl _) h1.lt)⟩
  · rw [ActOk, if_neg hk]
  · obtain ⟨act, hbl, _⟩ := (h1.ents y hy).blk
    have := heap_lt hbl
    omega
set_option maxRecDepth 100000 in
set_option maxHeartbeats 4000000 in
theorem fresh_src (C : Ctx w0 S a0 c0 a1 c1) (w : World) (nm : ByteArray) (i : Nat) (h : MI w0 S mb mp (.slice a0 S.n0 c0) (.slice a1 S.n1 c1) w making making made G V mk md) (hp : PG S making made) (h0 : entOf made nm = none) (h2 : atI (nm0 S.f0) S.n0 nm = some i) :
    Calls Tryz.prog 193 #[.pointer (some ⟨mb, 0, none⟩), .string nm] w fun e w' => FreshPost w0 S mb mp (.slice a0 S.n0 c0) (.slice a1 S.n1 c1) making made G V w nm e w' (addE made ⟨nm, 1, 0, (S.f0 i).text, 0, []⟩) := by
  obtain ⟨hml, m0, m1, -⟩ := h.box.facts
  have HM := hide h
  have HP := hide hp
  have H0 := hide h0
  have H2 := hide h2
  have CC := hide C
  have hin : isIn (nm0 S.f0) S.n0 nm = true := by rw [isIn_atI, h2]; rfl
  have hil : i < S.n0 := (atI_some h2).1
  have hsm := C.ok.small
  obtain ⟨bs, os, rfl, hrow⟩ := C.src.resolve_left (by omega)
  have HROW := hide hrow
  clear h hp h0 h2 C hrow
  go_enter Tryz.func193, Tryz.ntmps193
  go_wp2_with fail
  refine (findSource_any _ S.n0 c0 a1 S.n1 c1 S.f0 nm w (by omega) (CC.out.src.below HM.out.bel (Nat.le_refl _)) CC.out.ok.asc0).mono ?_
  rintro e w1 ⟨j, rfl, hj, g1, g2, hB⟩
  obtain rfl : j = i := atI_of CC.out.ok.asc0 H2.out hj g1 g2
  have B1 := hide hB
  have M1 := hide (HM.out.below hB (Nat.le_refl _))
  obtain ⟨q0, q1⟩ := (HROW.out.below M1.out.bel (Nat.le_refl _)).2 j hil
  have hbs := (HROW.out.below M1.out.bel (Nat.le_refl _)).1
  clear hB g1 g2 hj m0 m1 hml
  obtain ⟨hml, m0, m1, -⟩ := M1.out.box.facts
  rw [hin]
  have hI : (j : Int) < S.n0 := by omega
  go_wp2_with fail
  go_ret
  exact fresh_new HM.out HP.out H0.out B1.out 1 (by decide) _
set_option maxRecDepth 100000 in
set_option maxHeartbeats 4000000 in
theorem fresh_none (C : Ctx w0 S a0 c0 a1 c1) (w : World) (nm : ByteArray) (h : MI w0 S mb mp (.slice a0 S.n0 c0) (.slice a1 S.n1 c1) w making making made G V mk md) (hp : PG S making made) (h0 : entOf made nm = none) (h2 : atI (nm0 S.f0) S.n0 nm = none) (h3 : atI (nm1 S.f1) S.n1 nm = none) :
    Calls Tryz.prog 193 #[.pointer (some ⟨mb, 0, none⟩), .string nm] w fun e w' => FreshPost w0 S mb mp (.slice a0 S.n0 c0) (.slice a1 S.n1 c1) making made G V w nm e w' (addE made ⟨nm, 2, 0, ⟨#[]⟩, 0, []⟩) := by
  obtain ⟨hml, m0, m1, -⟩ := h.box.facts
  have HM := hide h
  have HP := hide hp
  have H0 := hide h0
  have CC := hide C
  have hin : isIn (nm0 S.f0) S.n0 nm = false := by rw [isIn_atI, h2]; rfl
  have hin1 : isIn (nm1 S.f1) S.n1 nm = false := by rw [isIn_atI, h3]; rfl
  have hsm := C.ok.small
  clear h hp h0 h2 h3 C
  go_enter Tryz.func193, Tryz.ntmps193
  go_wp2_with fail
  refine (findSource_any _ S.n0 c0 a1 S.n1 c1 S.f0 nm w (by omega) (CC.out.src.below HM.out.bel (Nat.le_refl _)) CC.out.ok.asc0).mono ?_
  rintro e w1 ⟨j, rfl, hj, g1, g2, hB⟩
  have B1 := hide hB
  have M1 := hide (HM.out.below hB (Nat.le_refl _))
  clear hB g1 g2 hj m0 m1 hml
  obtain ⟨hml, m0, m1, -⟩ := M1.out.box.facts
  rw [hin]
  go_wp2_with fail
  refine (findTarget_any a0 S.n0 c0 _ S.n1 c1 S.f1 nm w1 (by omega) (CC.out.tgt.below M1.out.bel (Nat.le_refl _)) CC.out.ok.asc1).mono ?_
  rintro e w2 ⟨j2, rfl, hj, g1, g2, hB⟩
  have B2 := hide (B1.out.trans (hB.mono B1.out.size))
  clear hB g1 g2 hj m0 m1 hml
  rw [hin1]
  go_wp2_with fail
  go_ret
  exact fresh_new HM.out HP.out H0.out B2.out 2 (by decide) _
set_option maxRecDepth 100000 in
set_option maxHeartbeats 4000000 in
theorem fresh_tgt (C : Ctx w0 S a0 c0 a1 c1) (n : Nat) (HL : ∀ m, n = m + 1 → LiesOk w0 S mb mp (.slice a0 S.n0 c0) (.slice a1 S.n1 c1) m) (w : World) (nm : ByteArray) (tg : Nat) (hlen : making.length + n = 60) (h : MI w0 S mb mp (.slice a0 S.n0 c0) (.slice a1 S.n1 c1) w making making made G V mk md) (hp : PG S making made) (hroom : roomN S making made 1) (hn : nameOk nm = true) (h0 : entOf made nm = none) (h1 : atL making nm = none) (h2 : atI (nm0 S.f0) S.n0 nm = none) (h3 : atI (nm1 S.f1) S.n1 nm = some tg) :
    Calls Tryz.prog 193 #[.pointer (some ⟨mb, 0, none⟩), .string nm] w fun e w' => FreshPost w0 S mb mp (.slice a0 S.n0 c0) (.slice a1 S.n1 c1) making made G V w nm e w' (tgtP S n making made nm tg) := by
  obtain ⟨hml, m0, m1, -⟩ := h.box.facts
  have HM := hide h
  have CC := hide C
  have H3 := hide h3
  have hin : isIn (nm0 S.f0) S.n0 nm = false := by rw [isIn_atI, h2]; rfl
  have hin1 : isIn (nm1 S.f1) S.n1 nm = true := by rw [isIn_atI, h3]; rfl
  have hil : tg < S.n1 := (atI_some h3).1
  have hnm : (S.f1 tg).name = nm := (atI_some h3).2
  have hsm := C.ok.small
  obtain ⟨bs, os, rfl, hrow⟩ := C.tgt.resolve_left (by omega)
  have HROW := hide hrow
  have HX : Hid (∀ (w2 : World) (a : Option Addr) (cap : Nat), Below w.heap.size w w2 → SlIns w0 a (S.f1 tg).actN (S.f1 tg).act → Calls Tryz.prog 218 #[.pointer (some ⟨mb, 0, none⟩), .agg #[.string nm, .slice a (S.f1 tg).actN cap]] w2 fun e w' => FreshPost w0 S mb mp (.slice a0 S.n0 c0) (.slice (some ⟨bs, os, none⟩) S.n1 c1) making made G V w nm e w' (tgtP S n making made nm tg)) := by
    intro w2 a cap hb hsl
    have hw : ∀ e w' res, FreshPost w0 S mb mp (.slice a0 S.n0 c0) (.slice (some ⟨bs, os, none⟩) S.n1 c1) making made G V w2 nm e w' res → FreshPost w0 S mb mp (.slice a0 S.n0 c0) (.slice (some ⟨bs, os, none⟩) S.n1 c1) making made G V w nm e w' res := by
      intro e w' res hres
      have hb0 : Below w0.heap.size w w2 := hb.mono h.lt
      rcases res with ⟨made', x⟩ | c | d
      · obtain ⟨made1, mm, G', V', mk', md', v', eb, q1, q2, q3, q4, q5, q6, q7, q8, q9, q10, q11, q12, q13, q14⟩ := hres
        exact ⟨made1, mm, G', V', mk', md', v', eb, q1, q2, q3, q4, q5, q6, q7, q8, q9, q10, Nat.le_trans hb.size q11, fun k hk => Nat.le_trans hb.size (q12 k hk), q13.mono hb.size, (KX.of_below (X := XN) hb (Nat.le_refl _) h.lt).to q14⟩
      · obtain ⟨u, q1, q2, q3⟩ := hres; exact ⟨u, q1, q2, hb0.trans q3⟩
      · obtain ⟨q1, q3⟩ := hres; exact ⟨q1, hb0.trans q3⟩
    cases n with
    | zero =>
      refine (target_deep w2 a _ cap nm (h.below hb (Nat.le_refl _)) (by omega)).mono ?_
      rintro e w' ⟨q1, q2⟩
      exact hw _ _ _ ⟨q1, q2.mono (Nat.le_trans h.lt hb.size)⟩
    | succ m =>
      exact (target_any C m (HL m rfl) w2 a cap tg nm hlen (h.below hb (Nat.le_refl _)) hp hroom hn h0 h1 h3 hsl).mono fun e w' q => hw _ _ _ q
  obtain ⟨R, hR⟩ : ∃ R, R = tgtP S n making made nm tg := ⟨_, rfl⟩
  rw [← hR] at HX ⊢
  clear h hp h0 h1 h2 h3 C hrow hroom HL hn hR
  go_enter Tryz.func193, Tryz.ntmps193
  go_wp2_with fail
  refine (findSource_any _ S.n0 c0 _ S.n1 c1 S.f0 nm w (by omega) (CC.out.src.below HM.out.bel (Nat.le_refl _)) CC.out.ok.asc0).mono ?_
  rintro e w1 ⟨j, rfl, hj, g1, g2, hB⟩
  have B1 := hide hB
  have M1 := hide (HM.out.below hB (Nat.le_refl _))
  clear hB g1 g2 hj m0 m1 hml
  obtain ⟨hml, m0, m1, -⟩ := M1.out.box.facts
  rw [hin]
  go_wp2_with fail
  refine (findTarget_any a0 S.n0 c0 _ S.n1 c1 S.f1 nm w1 (by omega) (CC.out.tgt.below M1.out.bel (Nat.le_refl _)) CC.out.ok.asc1).mono ?_
  rintro e w2 ⟨j2, rfl, hj, g1, g2, hB⟩
  obtain rfl : j2 = tg := atI_of CC.out.ok.asc1 H3.out hj g1 g2
  have B2 := hide (B1.out.trans (hB.mono B1.out.size))
  have M2 := hide (HM.out.below B2.out (Nat.le_refl _))
  clear hB g1 g2 hj m0 m1 hml
  obtain ⟨hml, m0, m1, -⟩ := M2.out.box.facts
  obtain ⟨q0, aa, ca, q1, -⟩ := (HROW.out.below M2.out.bel (Nat.le_refl _)).2 j2 hil
  obtain ⟨-, aa', ca', q1', hsl⟩ := HROW.out.2 j2 hil
  have hbs0 := HROW.out.1
  have e1 := (M2.out.bel.cell (p := ⟨bs, os + j2 * 2 + 1, none⟩) hbs0).trans q1'
  rw [q1] at e1
  simp only [Option.some.injEq, Value.slice.injEq, true_and] at e1
  obtain ⟨rfl, rfl⟩ := e1
  have HSL := hide hsl
  have hbs := (HROW.out.below M2.out.bel (Nat.le_refl _)).1
  rw [hnm] at q0
  clear q1' hsl
  rw [hin1]
  have hI : (j2 : Int) < S.n1 := by omega
  go_wp2_with fail
  refine (HX.out w2 aa ca B2.out HSL.out).mono ?_
  intro e w3 hpost
  rcases R with ⟨made', x⟩ | c | d
  · have HPO := hide hpost
    obtain ⟨made1, mm, G', V', mk', md', v', eb, -, -, rfl, -⟩ := hpost
    go_wp2_with fail
    go_ret
    exact HPO.out
  · obtain ⟨u, rfl, q1, q2⟩ := hpost
    go_wp2_with fail
    exact ⟨rfl, u, rfl, q1, q2⟩
  · obtain ⟨rfl, q2⟩ := hpost
    go_wp2_with fail
    exact ⟨rfl, rfl, q2⟩
end
end Go.Proofs.YtkophfgkcijjkaaGreatDoor.Vp
namespace Go.Proofs.YtkophfgkcijjkaaGreatDoor.Vp
open Go.RowKit Go.Maps
section
variable {w0 : World} {S : Spc} {a0 a1 : Option Addr} {c0 c1 mb mp : Nat} {mk md : Value} {making : List ByteArray} {made : List Ent} {G : ByteArray → Nat} {V : ByteArray → Value}
theorem fresh_from {s0 s1 : Value} {w w2 : World} {nm : ByteArray} (hB : w0.heap.size ≤ w.heap.size) (hb : Below w.heap.size w w2) : ∀ e w' res, FreshPost w0 S mb mp s0 s1 making made G V w2 nm e w' res → FreshPost w0 S mb mp s0 s1 making made G V w nm e w' res := by
  intro e w' res hres
  have hb0 : Below w0.heap.size w w2 := hb.mono hB
  rcases res with ⟨made', x⟩ | c | d
  · obtain ⟨made1, mm, G', V', mk', md', v', eb, q1, q2, q3, q4, q5, q6, q7, q8, q9, q10, q11, q12, q13, q14⟩ := hres
    exact ⟨made1, mm, G', V', mk', md', v', eb, q1, q2, q3, q4, q5, q6, q7, q8, q9, q10, Nat.le_trans hb.size q11, fun k hk => Nat.le_trans hb.size (q12 k hk), q13.mono hb.size, (KX.of_below (X := XN) hb (Nat.le_refl _) hB).to q14⟩
  · obtain ⟨u, q1, q2, q3⟩ := hres; exact ⟨u, q1, q2, hb0.trans q3⟩
  · obtain ⟨q1, q3⟩ := hres; exact ⟨q1, hb0.trans q3⟩
set_option maxRecDepth 1000000 in
set_option maxHeartbeats 8000000 in
theorem lies_new (w : World) (nm : ByteArray) (R : Out Ent) (h : MI w0 S mb mp (.slice a0 S.n0 c0) (.slice a1 S.n1 c1) w making making made G V mk md) (hml60 : making.length ≤ 60) (hn : nm.size ≤ 60) (h0 : entOf made nm = none) (h1 : atL making nm = none) (hbound : ∀ made' x, R = .inl (made', x) → made'.length ≤ 60000)
    (HF : ∀ W, Below w.heap.size w W → Calls Tryz.prog 193 #[.pointer (some ⟨mb, 0, none⟩), .string nm] W fun e w' => FreshPost w0 S mb mp (.slice a0 S.n0 c0) (.slice a1 S.n1 c1) making made G V w nm e w' R) :
    Calls Tryz.prog 145 #[.pointer (some ⟨mb, 0, none⟩), .string nm] w fun e w' => LiesPost w0 S mb mp (.slice a0 S.n0 c0) (.slice a1 S.n1 c1) making made G V w e w' R := by
  obtain ⟨i1, hi, hy0, hy1, hy2⟩ := infoM2 infoPtrM
  have HV := hide (show (markF G making made nm.toList).getD (.agg #[.int .i64 0, .pointer none]) = .agg #[.int .i64 0, .pointer none] by rw [markF_begun h0, h1]; rfl)
  have HFF := hide (show (markF G making made nm.toList).isSome = false by rw [markF_begun h0, h1]; rfl)
  have HM := hide h
  have HFR := hide HF
  have HBD := hide hbound
  obtain ⟨hl, -, -, c2, -, -, -⟩ := h.box.facts
  have hsz : nm.size ≤ maxLen := by unfold maxLen; omega
  have hz := zeroMark
  have B1 := hide ((Below.refl w.heap.size w).alloc (Nat.le_refl _) (.cells #[.int .i64 0, .pointer none] 258))
  clear h h0 h1 HF hbound
  go_enter Tryz.func145, Tryz.ntmps145
  go_wp2_with (first
    | (at_lookup; refine wpN_lookup_ok _ rfl _ _ 190 rfl 258 Tryz.underlying190 (hz _) mp _ _ rfl HM.out.map nm rfl hsz _ HV.out false HFF.out ?_)
    | fail)
  clear c2
  generalize w.alloc (.cells #[.int .i64 0, .pointer none] 258) = W1 at B1 ⊢
  refine (HFR.out W1 B1.out).mono ?_
  intro e w1 hpost
  rcases R with ⟨made', x⟩ | c | d
  · obtain ⟨made1, mm, G1, V1, mk1, md1, v1, eb, rfl, hmm, rfl, hM1, hE1, hxn, hne, hP1, has, hf1, heb, hv1, hX1, hK1⟩ := hpost
    have hle : made1.length ≤ 60000 := by have := HBD.out _ _ rfl; simp at this; omega
    have hmml : mm.length ≤ making.length + 1 := by rcases hmm with rfl | rfl <;> simp
    obtain ⟨ap, cp, rfl⟩ := own_sliceM hM1.rmd
    have M1 := hide hM1
    have E1 := hide hE1
    have XN1 := hide hxn
    have NE1 := hide hne
    have P1 := hide hP1
    have AS1 := hide has
    have F1 := hide hf1
    have V1' := hide hv1
    have X1 := hide hX1
    have K1 := hide hK1
    have MM := hide hmm
    obtain ⟨L1, hL1⟩ : ∃ L1, L1 = made1.length := ⟨_, rfl⟩
    have HL1 := hide hL1
    obtain ⟨hml, -, -, m2, -, m4, -⟩ := hM1.box.facts
    rw [← hL1] at m4 hle
    clear hM1 hE1 hxn hne hP1 has hf1 hv1 hX1 hK1 hmm hL1
    go_wp2_with (first
      | (at_mapUpdate; refine wpN_update _ rfl _ _ _ 190 rfl 258 Tryz.underlying190 mp _ _ rfl M1.out.map (by unfold maxLen; have := HL1.out; omega) nm (.agg #[.int .i64 0, .pointer (some ⟨eb, 0, none⟩)]) rfl rfl hsz ?_; intro w2 hm2 hg2; have M2 := hide (M1.out.mapped hg2 hm2); clear hm2 hg2 m2 m4 hml; obtain ⟨hml, -, -, -, -, m4, mf⟩ := M2.out.1.box.facts; rw [← HL1.out] at m4; have AB := hide ((Below.refl w2.heap.size w2).alloc (Nat.le_refl _) (.cells #[.pointer (some ⟨eb, 0, none⟩)] 135)); have MA := hide (M2.out.1.below AB.out (Nat.le_refl _)); have RD := hide (by have h := MA.out.rmd; rw [← HL1.out] at h; exact h))
      | (at_builtin; refine wpList_append_own _ rfl (.tmp 49) (.tmp 51) 113 rfl w0.heap.size 135 i1 (.pointer none) 1 8 Tryz.underlying113 hi hy0 hy1 hy2 rfl (by decide) (.slice ap L1 cp) L1 (ptrV G1 made1) (by simp [Act.eval]) RD.out ⟨w2.heap.size, 0, none⟩ 1 1 [.pointer (some ⟨eb, 0, none⟩)] (by simp [Act.eval]) rfl (one_at w2 _ _) (by simp [Value.oneCell']) (by unfold maxLen; omega) (by omega) MA.out.lt ?_; intro v3 w3 hown hgrow hiff; have O3 := hide hown; have G3 := hide hgrow; obtain ⟨g4, cap4, cur4, rfl, hcl⟩ := hown.2.resolve_left (fun h => by omega); clear hcl hown hgrow hiff; have hne3 : Hid (some mb ≠ (Value.slice ap L1 cp).ownBlock) := (fun e => by obtain ⟨_, _, cs, hc⟩ := own_cellsM RD.out mb e.symm; exact absurd (two_types MA.out.box hc) (by decide)); have s4 := (World.cell?_of_block (a := ⟨mb, 4, none⟩) (G3.out.block mb (heap_lt MA.out.box) hne3.out)).trans MA.out.box.facts.2.2.2.2.2.1; have f4 := (World.frozen?_of_block (a := ⟨mb, 4, none⟩) (G3.out.block mb (heap_lt MA.out.box) hne3.out)).trans (MA.out.box.facts.2.2.2.2.2.2 4); have hml3 : mb < w3.heap.size := Nat.lt_of_lt_of_le (heap_lt MA.out.box) G3.out.size)
      | fail)
    go_ret
    have h5 := MA.out.mded (w' := w3) (np' := made1.length + 1) (ps' := ptrV G1 made1 ++ [.pointer (some ⟨eb, 0, none⟩)]) (v := .slice (some ⟨g4, 0, none⟩) (L1 + 1) cap4) (by rw [← HL1.out]; exact G3.out) (by rw [← HL1.out]; exact O3.out)
    have hK5 : KX w0.heap.size XN w1 (w3.setCell ⟨mb, 4, none⟩ (.slice (some ⟨g4, 0, none⟩) (L1 + 1) cap4)) := (M2.out.2.to (KX.of_below (X := XN) AB.out (Nat.le_refl _) M2.out.1.lt)).to h5.2
    have h0' : entOf made1 nm = none := List.find?_eq_none.2 fun y hy => by
      intro e2
      exact NE1.out y hy (bytes_beq e2)
    have h6 := MIg.added (x := x) h5.1 P1.out h0' XN1.out MM.out (by omega) (E1.out.kx hK5 (fun h => h) (fun _ _ h => h)) F1.out AS1.out
    exact ⟨_, _, _, _, (by rw [XN1.out, updB_same]; rfl), h6, X1.out.trans (ext_add (n := w.heap.size) h0' XN1.out heb V1'.out) (Nat.le_refl _), K1.out.to hK5⟩
  · obtain ⟨u, rfl, q1, q2⟩ := hpost
    go_wp2_with fail
    exact ⟨rfl, u, rfl, q1, q2⟩
  · obtain ⟨rfl, q2⟩ := hpost
    go_wp2_with fail
    exact ⟨rfl, rfl, q2⟩
theorem lies_all (C : Ctx w0 S a0 c0 a1 c1) : ∀ n, LiesOk w0 S mb mp (.slice a0 S.n0 c0) (.slice a1 S.n1 c1) n := by
  have key : ∀ n, (∀ m, n = m + 1 → LiesOk w0 S mb mp (.slice a0 S.n0 c0) (.slice a1 S.n1 c1) m) → LiesOk w0 S mb mp (.slice a0 S.n0 c0) (.slice a1 S.n1 c1) n := by
    intro n hind making made G V mk md w nm hlen h hp hroom hn
    have hsz := name_size hn
    have hg := liesP_grow S n making made nm
    rw [liesP_eq] at hg ⊢
    unfold liesB at hg ⊢
    cases h0 : entOf made nm with
    | some e =>
      refine (lies_hit w nm h hsz e h0).mono ?_
      rintro r w' ⟨rfl, hb⟩
      exact ⟨G, V, mk, md, rfl, h.below hb (Nat.le_refl _), Ext.refl _ _ _ _, KX.of_below hb (Nat.le_refl _) h.lt⟩
    | none =>
      cases h1 : atL making nm with
      | some i =>
        refine (lies_circle w nm h hsz (by omega) h0 i h1).mono ?_
        rintro r w' ⟨u, rfl, q1, q2⟩
        exact ⟨u, rfl, own_mono q1 h.lt, q2.mono h.lt⟩
      | none =>
        rw [h0] at hg
        simp only [h1] at hg
        dsimp only
        refine lies_new w nm _ h (by omega) hsz h0 h1 (fun made' x he => ?_) (fun W hW => ?_)
        · have := hg made' x he
          unfold roomN at hroom
          unfold Grow at this
          omega
        · refine Calls.mono ?_ (fun e w' => fresh_from h.lt hW e w' _)
          have hW2 := h.below hW (Nat.le_refl _)
          unfold freshB
          cases h2 : atI (nm0 S.f0) S.n0 nm with
          | some i => exact fresh_src C W nm i hW2 hp h0 h2
          | none =>
            cases h3 : atI (nm1 S.f1) S.n1 nm with
            | some t => exact fresh_tgt C n hind W nm t hlen hW2 hp hroom hn h0 h1 h2 h3
            | none => exact fresh_none C W nm hW2 hp h0 h2 h3
  intro n
  induction n with
  | zero => exact key 0 fun m e => by omega
  | succ n ih => exact key (n + 1) fun m e => by cases e; exact ih
end
end Go.Proofs.YtkophfgkcijjkaaGreatDoor.Vp
