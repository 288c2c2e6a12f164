import Derived.Test.YtkophfgkcijjkaaGreatDoorZG
import Derived.Test.YtkophfgkcijjkaaGreatDoorZH
import Derived.Lib.SliceRun
namespace Go.Proofs.YtkophfgkcijjkaaGreatDoor.Vp
open Go.RowKit
theorem addr_add (b off j : Nat) : (⟨b, off, none⟩ : Addr).add j = ⟨b, off + j, none⟩ := by
  unfold Addr.add
  split <;> simp_all
theorem flat_at {α : Type} (g : α → List Value) (C : Nat) (hC : ∀ x, (g x).length = C) : ∀ (L : List α) (i j : Nat) (_ : j < C) (x : α), L[i]? = some x → (L.flatMap g)[i * C + j]? = (g x)[j]?
  | [], i, j, _, x, h => by simp at h
  | y :: L, 0, j, hj, x, h => by
    simp at h
    subst h
    rw [List.flatMap_cons, Nat.zero_mul, Nat.zero_add, List.getElem?_append_left (by rw [hC]; exact hj)]
  | y :: L, i + 1, j, hj, x, h => by
    simp at h
    rw [List.flatMap_cons, List.getElem?_append_right (by rw [hC, Nat.succ_mul]; omega), hC, show (i + 1) * C + j - C = i * C + j by rw [Nat.succ_mul]; omega]
    exact flat_at g C hC L i j hj x h
theorem flat_len {α : Type} (g : α → List Value) (C : Nat) (hC : ∀ x, (g x).length = C) : ∀ L : List α, (L.flatMap g).length = L.length * C
  | [] => by simp
  | y :: L => by rw [List.flatMap_cons, List.length_append, hC, flat_len g C hC L, List.length_cons, Nat.succ_mul]; omega
def insV (x : Ins) : List Value := [.int .i64 x.op, .string x.s, .int .i64 x.n]
def insL (f : Nat → Ins) (n : Nat) : List Value := ((List.range n).map f).flatMap insV
theorem insL_len (f : Nat → Ins) (n : Nat) : (insL f n).length = n * 3 := by
  rw [insL, flat_len insV 3 (fun _ => rfl)]
  simp
theorem insL_at (f : Nat → Ins) {n i : Nat} (hi : i < n) (j : Nat) (hj : j < 3) : (insL f n)[i * 3 + j]? = (insV (f i))[j]? :=
  flat_at insV 3 (fun _ => rfl) _ i j hj (f i) (by simp [hi])
theorem insL_one (f : Nat → Ins) (n : Nat) : ∀ u ∈ insL f n, u.oneCell' = true := by
  intro u hu
  simp only [insL, List.mem_flatMap, insV] at hu
  obtain ⟨x, _, hx⟩ := hu
  simp at hx
  rcases hx with rfl | rfl | rfl <;> simp [Value.oneCell']
theorem row_ins {w : World} {b off n : Nat} {f : Nat → Ins} (h : RowIns w b off n f) : ∀ j u, (insL f n)[j]? = some u → w.cell? ((⟨b, off, none⟩ : Addr).add j) = some u := by
  intro j u hu
  have hl : j < n * 3 := by
    have := (List.getElem?_eq_some_iff.1 hu).1
    rwa [insL_len] at this
  have e : j = j / 3 * 3 + j % 3 := by omega
  have hi : j / 3 < n := by omega
  obtain ⟨h0, h1, h2⟩ := h.2 (j / 3) hi
  have hm : j % 3 < 3 := Nat.mod_lt _ (by omega)
  rw [e, insL_at f hi (j % 3) hm] at hu
  have ha : (⟨b, off, none⟩ : Addr).add j = ⟨b, off + j, none⟩ := addr_add _ _ _
  rw [ha]
  rcases (show j % 3 = 0 ∨ j % 3 = 1 ∨ j % 3 = 2 by omega) with q | q | q
  all_goals rw [q] at hu; simp [insV] at hu; subst hu
  · rw [show off + j = off + j / 3 * 3 by omega]; exact h0
  · rw [show off + j = off + j / 3 * 3 + 1 by omega]; exact h1
  · rw [show off + j = off + j / 3 * 3 + 2 by omega]; exact h2
theorem own_cell {w : World} {base size n g cap : Nat} {e : TypeId} {xs : List Value} (h : w.ownsRow base e size (.slice (some ⟨g, 0, none⟩) n cap) n xs) {j : Nat} {u : Value} (hu : xs[j]? = some u) : w.cell? ⟨g, j, none⟩ = some u ∧ w.frozen? ⟨g, j, none⟩ = false := by
  refine ⟨?_, ?_⟩
  · have := h.cells (g := g) rfl j u hu
    have ha : (⟨g, 0, none⟩ : Addr).add j = ⟨g, j, none⟩ := by rw [addr_add]; simp
    rwa [ha] at this
  · rcases h.2 with ⟨hv, _⟩ | ⟨g', cap', cur, hv, _, hg, _⟩
    · simp at hv
    · simp at hv
      obtain ⟨rfl, rfl⟩ := hv
      simp [World.frozen?, hg]
theorem own_lt {w : World} {base size n g cap : Nat} {e : TypeId} {xs : List Value} (h : w.ownsRow base e size (.slice (some ⟨g, 0, none⟩) n cap) n xs) : base ≤ g ∧ g < w.heap.size := h.lt g rfl
def TypeAt (w : World) (g : Nat) (e : TypeId) : Prop := ∃ cur, w.heap[g]? = some (.cells cur e (0, 0))
theorem own_type {w : World} {base size n g cap : Nat} {e : TypeId} {xs : List Value} (h : w.ownsRow base e size (.slice (some ⟨g, 0, none⟩) n cap) n xs) : TypeAt w g e := by
  rcases h.2 with ⟨hv, _⟩ | ⟨g', cap', cur, hv, _, hg, _⟩
  · simp at hv
  · simp at hv
    obtain ⟨rfl, rfl⟩ := hv
    exact ⟨cur, hg⟩
theorem type_ne {w : World} {g k : Nat} {e e' : TypeId} (h : TypeAt w g e) (h' : TypeAt w k e') (hne : e ≠ e') : g ≠ k := by
  rintro rfl
  obtain ⟨c, hc⟩ := h
  obtain ⟨d, hd⟩ := h'
  rw [hc] at hd
  simp at hd
  exact hne hd.2
theorem own_set {w : World} {base size n R j : Nat} {e : TypeId} {v : Value} {xs : List Value} (h : w.ownsRow base e size v n xs) (hR : R < base) (u : Value) : (w.setCell ⟨R, j, none⟩ u).ownsRow base e size v n xs := by
  refine h.kept (row := some R) ⟨rfl, rfl, rfl, by simp [World.setCell], fun k _ hne => Below.heap_setCell _ _ _ _ (by simpa using hne)⟩ ?_
  rcases h.2 with ⟨rfl, _⟩ | ⟨g, cap, cur, rfl, hg, _⟩
  · exact .inl rfl
  · right
    simp [Value.ownBlock]
    omega
theorem own_ins {w : World} {base n g cap : Nat} {f : Nat → Ins} (h : w.ownsRow base 176 3 (.slice (some ⟨g, 0, none⟩) n cap) n (insL f n)) : RowIns w g 0 n f ∧ ∃ F, Cells w g 0 (n * 3) F := by
  have hlt := (own_lt h).2
  refine ⟨⟨hlt, fun i hi => ⟨?_, ?_, ?_⟩⟩, fun j => (insL f n)[j]?.getD undef, hlt, fun j hj => ?_⟩
  · have := (own_cell h (j := i * 3) (u := .int .i64 (f i).op) (by have := insL_at f hi 0 (by omega); simpa [insV] using this)).1
    rwa [show 0 + i * 3 = i * 3 by omega]
  · have := (own_cell h (j := i * 3 + 1) (u := .string (f i).s) (by have := insL_at f hi 1 (by omega); simpa [insV] using this)).1
    rwa [show 0 + i * 3 + 1 = i * 3 + 1 by omega]
  · have := (own_cell h (j := i * 3 + 2) (u := .int .i64 (f i).n) (by have := insL_at f hi 2 (by omega); simpa [insV] using this)).1
    rwa [show 0 + i * 3 + 2 = i * 3 + 2 by omega]
  · rw [Nat.zero_add]
    have hl : j < (insL f n).length := by rw [insL_len]; exact hj
    have := own_cell h (j := j) (u := (insL f n)[j]) (by rw [List.getElem?_eq_getElem hl])
    show w.cell? _ = some ((insL f n)[j]?.getD undef) ∧ _
    rw [List.getElem?_eq_getElem hl]
    exact this
end Go.Proofs.YtkophfgkcijjkaaGreatDoor.Vp
namespace Go.Proofs.YtkophfgkcijjkaaGreatDoor.Vp
open Go.RowKit
set_option maxRecDepth 100000 in
set_option maxHeartbeats 2000000 in
theorem clone_row (b off n cap : Nat) (f : Nat → Ins) (w : World) (hn : (n : Int) ≤ 1048576) (hr : RowIns w b off n f) :
    Calls Tryz.prog 151 #[.slice (some ⟨b, off, none⟩) n cap] w fun e w' => ∃ g c, e = .returned (.slice (some ⟨g, 0, none⟩) n c) ∧ w'.ownsRow w.heap.size 176 3 (.slice (some ⟨g, 0, none⟩) n c) n (insL f n) ∧ Below w.heap.size w w' := by
  have A0 := hide ((Below.refl w.heap.size w).alloc (Nat.le_refl _) (.cells #[] 176))
  have HR := hide (hr.below A0.out (Nat.le_refl _))
  clear hr
  obtain ⟨i0', hi, hy0, hy1, hy2⟩ := info_parts infoIns
  have hnl : ∀ w : World, (binOp .eql 29 (.slice (some ⟨b, off, none⟩) n cap) (.slice none 0 0)).run Tryz.prog w = .ok (.bool false) w := fun w => Lib.run_eql_slice_nil w _ _ _ _ _ _ _ Tryz.underlying29
  go_enter Tryz.func151, Tryz.ntmps151
  go_wp2_with (at_builtin; refine wpList_append_own _ rfl (.tmp 5) (.tmp 6) 29 rfl w.heap.size 176 i0' (.agg #[.int .i64 0, .string ⟨#[]⟩, .int .i64 0]) 3 32 Tryz.underlying29 hi hy0 hy1 hy2 rfl (by decide) (.slice (some ⟨w.heap.size, 0, none⟩) 0 0) 0 [] (by simp [Act.eval]) (World.ownsRow_made w #[] 0 (Nat.le_refl _) (by unfold maxLen; omega) rfl) ⟨b, off, none⟩ n cap (insL f n) (by simp [Act.eval]) (insL_len f n) (row_ins HR.out) (insL_one f n) (by unfold maxLen; omega) (by omega) (by simp) ?_; intro v' w2 hown hgrow hnil; simp only [Nat.zero_add, List.nil_append] at hown; have OW := hide hown; have HN := hide hnil; have B2 := hide (Below.grown A0.out hgrow (by simp) (fun j e => by simp [Value.ownBlock] at e; omega)); clear hown hgrow hnil)
  go_ret
  rcases OW.out.2 with ⟨rfl, _⟩ | ⟨g, c, cur, rfl, _⟩
  · have := HN.out.1 rfl
    simp at this
  · exact ⟨g, c, rfl, OW.out, B2.out⟩
set_option maxRecDepth 100000 in
set_option maxHeartbeats 2000000 in
theorem copyProgram_row (b off n cap : Nat) (f : Nat → Ins) (w : World) (hn : (n : Int) ≤ 1048576) (hr : RowIns w b off n f) :
    Calls Tryz.prog 78 #[.agg #[.slice (some ⟨b, off, none⟩) n cap]] w fun e w' => ∃ g c, e = .returned (.agg #[.slice (some ⟨g, 0, none⟩) n c]) ∧ w'.ownsRow w.heap.size 176 3 (.slice (some ⟨g, 0, none⟩) n c) n (insL f n) ∧ Below w.heap.size w w' := by
  have A0 := hide (((Below.refl w.heap.size w).alloc (Nat.le_refl _) (.cells #[.slice (some ⟨b, off, none⟩) n cap] 31)).alloc (by simp) (.cells #[.slice none 0 0] 31))
  have HR := hide (hr.below A0.out (Nat.le_refl _))
  have k0 : ((w.alloc (.cells #[.slice (some ⟨b, off, none⟩) n cap] 31)).alloc (.cells #[.slice none 0 0] 31)).cell? ⟨w.heap.size + 1, 0, none⟩ = some (.slice none 0 0) := by simp
  clear hr
  go_enter Tryz.func78, Tryz.ntmps78
  go_wp2_with fail
  refine (clone_row b off n cap f _ hn HR.out).mono ?_
  rintro e w1 ⟨g, c, rfl, hO, hB⟩
  have j0 := (hB.cell (p := ⟨w.heap.size + 1, 0, none⟩) (by simp)).trans k0
  have O1 := hide (own_mono (own_set (R := w.heap.size + 1) (j := 0) hO (by simp) (.slice (some ⟨g, 0, none⟩) n c)) (base' := w.heap.size) (by simp; omega))
  have B1 := hide ((A0.out.trans (hB.mono (by simp; omega))).setCell (p := ⟨w.heap.size + 1, 0, none⟩) (by simp) (.slice (some ⟨g, 0, none⟩) n c))
  have z0 : w1.frozen? ⟨w.heap.size + 1, 0, none⟩ = false := (hB.frozen (p := ⟨w.heap.size + 1, 0, none⟩) (by simp)).trans (by simp)
  clear hO hB k0
  go_wp2
  exact bodyPost_ret (v := .agg #[.slice (some ⟨g, 0, none⟩) n c]) (by simp [results, Tryz.results78, go_sem, j0]) rfl ⟨g, c, rfl, O1.out, B1.out⟩
set_option maxRecDepth 100000 in
set_option maxHeartbeats 2000000 in
theorem l2Program_row (b off n cap : Nat) (f : Nat → Ins) (w : World) (hn : (n : Int) ≤ 1048576) (hr : RowIns w b off n f) :
    Calls Tryz.prog 80 #[.agg #[.slice (some ⟨b, off, none⟩) n cap]] w fun e w' => ∃ g c, e = .returned (.agg #[.slice (some ⟨g, 0, none⟩) n c]) ∧ w'.ownsRow w.heap.size 176 3 (.slice (some ⟨g, 0, none⟩) n c) n (insL f n) ∧ Below w.heap.size w w' := by
  have A0 := hide (((Below.refl w.heap.size w).alloc (Nat.le_refl _) (.cells #[.slice (some ⟨b, off, none⟩) n cap] 31)).alloc (by simp) (.cells #[.slice none 0 0] 31))
  have k0 : ((w.alloc (.cells #[.slice (some ⟨b, off, none⟩) n cap] 31)).alloc (.cells #[.slice none 0 0] 31)).cell? ⟨w.heap.size + 1, 0, none⟩ = some (.slice none 0 0) := by simp
  have k1 : ((w.alloc (.cells #[.slice (some ⟨b, off, none⟩) n cap] 31)).alloc (.cells #[.slice none 0 0] 31)).cell? ⟨w.heap.size, 0, none⟩ = some (.slice (some ⟨b, off, none⟩) n cap) := by simp
  have z0 : ((w.alloc (.cells #[.slice (some ⟨b, off, none⟩) n cap] 31)).alloc (.cells #[.slice none 0 0] 31)).frozen? ⟨w.heap.size + 1, 0, none⟩ = false := by simp
  have hz : ((w.alloc (.cells #[.slice (some ⟨b, off, none⟩) n cap] 31)).alloc (.cells #[.slice none 0 0] 31)).heap.size = w.heap.size + 1 + 1 := by simp
  have HR0 := hide (hr.below A0.out (Nat.le_refl _))
  clear hr
  obtain ⟨i0', hi, hy0, hy1, hy2⟩ := info_parts infoIns
  go_enter Tryz.func80, Tryz.ntmps80
  have A1 := hide ((Below.refl (w.heap.size + 1 + 1) ((w.alloc (.cells #[.slice (some ⟨b, off, none⟩) n cap] 31)).alloc (.cells #[.slice none 0 0] 31))).alloc (by simp) (.cells #[] 176))
  have HR := hide (HR0.out.below A1.out (by simp))
  go_wp2_with (at_builtin; refine wpList_append_own _ rfl (.tmp 3) (.tmp 5) 29 rfl (w.heap.size + 1 + 1) 176 i0' (.agg #[.int .i64 0, .string ⟨#[]⟩, .int .i64 0]) 3 32 Tryz.underlying29 hi hy0 hy1 hy2 rfl (by decide) (.slice (some ⟨w.heap.size + 1 + 1, 0, none⟩) 0 0) 0 [] (by simp [Act.eval]) (by have := World.ownsRow_made (base := w.heap.size + 1 + 1) (e := 176) (size := 3) ((w.alloc (.cells #[.slice (some ⟨b, off, none⟩) n cap] 31)).alloc (.cells #[.slice none 0 0] 31)) #[] 0 (by simp) (by unfold maxLen; omega) rfl; simpa using this) ⟨b, off, none⟩ n cap (insL f n) (by simp [Act.eval]) (insL_len f n) (row_ins HR.out) (insL_one f n) (by unfold maxLen; omega) (by omega) (by first | (simp; done) | (simp; omega)) ?_; intro v' w2 hown hgrow hnil; simp only [Nat.zero_add, List.nil_append] at hown; obtain ⟨g, c, rfl⟩ : ∃ g c, v' = .slice (some ⟨g, 0, none⟩) n c := (by rcases hown.2 with ⟨rfl, _⟩ | ⟨g, c, cur, rfl, _⟩; (have := hnil.1 rfl; simp at this); exact ⟨g, c, rfl⟩); have B2 := hide (Below.grown A1.out hgrow (by first | (simp; done) | (simp; omega)) (fun j e => by simp [Value.ownBlock] at e; omega)); have D2 := hide (A0.out.trans (B2.out.mono (by omega))); have l0 := (B2.out.cell (p := ⟨w.heap.size + 1, 0, none⟩) (by simp)).trans k0; have lz := (B2.out.frozen (p := ⟨w.heap.size + 1, 0, none⟩) (by simp)).trans z0; have OW := hide (own_mono (own_set (R := w.heap.size + 1) (j := 0) hown (by omega) (.slice (some ⟨g, 0, none⟩) n c)) (base' := w.heap.size) (by omega)); clear hown hgrow hnil k0 k1 z0)
  exact bodyPost_ret (v := .agg #[.slice (some ⟨g, 0, none⟩) n c]) (by simp [results, Tryz.results80, go_sem, l0]) rfl ⟨g, c, rfl, OW.out, D2.out.setCell (by simp) _⟩
end Go.Proofs.YtkophfgkcijjkaaGreatDoor.Vp
namespace Go.Proofs.YtkophfgkcijjkaaGreatDoor.Vp
open Go.RowKit
def srcV (x : Source) : List Value := [.string x.name, .string x.text]
end Go.Proofs.YtkophfgkcijjkaaGreatDoor.Vp
namespace Go.Proofs.YtkophfgkcijjkaaGreatDoor.Vp
open Go.RowKit
set_option maxRecDepth 100000 in
set_option maxHeartbeats 2000000 in
theorem l2Program_nil (a : Option Addr) (cap : Nat) (w : World) :
    Calls Tryz.prog 80 #[.agg #[.slice a 0 cap]] w fun e w' => ∃ g c, e = .returned (.agg #[.slice (some ⟨g, 0, none⟩) 0 c]) ∧ w'.ownsRow w.heap.size 176 3 (.slice (some ⟨g, 0, none⟩) 0 c) 0 [] ∧ Below w.heap.size w w' := by
  have hz : ((w.alloc (.cells #[.slice a 0 cap] 31)).alloc (.cells #[.slice (some ⟨w.heap.size + 1 + 1, 0, none⟩) 0 0] 31)).heap.size = w.heap.size + 1 + 1 := by simp
  have A1 := hide ((((Below.refl w.heap.size w).alloc (Nat.le_refl _) (.cells #[.slice a 0 cap] 31)).alloc (by simp) (.cells #[.slice (some ⟨w.heap.size + 1 + 1, 0, none⟩) 0 0] 31)).alloc (by rw [hz]; omega) (.cells #[] 176))
  have O1 : Hid ((((w.alloc (.cells #[.slice a 0 cap] 31)).alloc (.cells #[.slice (some ⟨w.heap.size + 1 + 1, 0, none⟩) 0 0] 31)).alloc (.cells #[] 176)).ownsRow w.heap.size 176 3 (.slice (some ⟨w.heap.size + 1 + 1, 0, none⟩) 0 0) 0 []) := by
    have h := World.ownsRow_made (base := w.heap.size) (e := 176) (size := 3) ((w.alloc (.cells #[.slice a 0 cap] 31)).alloc (.cells #[.slice (some ⟨w.heap.size + 1 + 1, 0, none⟩) 0 0] 31)) #[] 0 (by rw [hz]; omega) (by unfold maxLen; omega) rfl
    rw [hz] at h
    exact h
  have k0 : ((w.alloc (.cells #[.slice a 0 cap] 31)).alloc (.cells #[.slice none 0 0] 31)).cell? ⟨w.heap.size + 1, 0, none⟩ = some (.slice none 0 0) := by simp
  have k1 : ((w.alloc (.cells #[.slice a 0 cap] 31)).alloc (.cells #[.slice none 0 0] 31)).cell? ⟨w.heap.size, 0, none⟩ = some (.slice a 0 cap) := by simp
  have z0 : ((w.alloc (.cells #[.slice a 0 cap] 31)).alloc (.cells #[.slice none 0 0] 31)).frozen? ⟨w.heap.size + 1, 0, none⟩ = false := by simp
  cases a with
  | none =>
    clear k0 k1 z0
    go_enter Tryz.func80, Tryz.ntmps80
    go_wp2
    exact bodyPost_ret (v := .agg #[.slice (some ⟨w.heap.size + 1 + 1, 0, none⟩) 0 0]) (by simp [results, Tryz.results80, go_sem]) rfl ⟨_, _, rfl, O1.out, A1.out⟩
  | some ad =>
    have A0 := hide (((Below.refl w.heap.size w).alloc (Nat.le_refl _) (.cells #[.slice (some ad) 0 cap] 31)).alloc (by simp) (.cells #[.slice none 0 0] 31))
    have hz2 : ((w.alloc (.cells #[.slice (some ad) 0 cap] 31)).alloc (.cells #[.slice none 0 0] 31)).heap.size = w.heap.size + 1 + 1 := by simp
    obtain ⟨i0', hi, hy0, hy1, hy2⟩ := info_parts infoIns
    have A2 := hide ((Below.refl (w.heap.size + 1 + 1) ((w.alloc (.cells #[.slice (some ad) 0 cap] 31)).alloc (.cells #[.slice none 0 0] 31))).alloc (by simp) (.cells #[] 176))
    clear A1 O1 hz
    go_enter Tryz.func80, Tryz.ntmps80
    go_wp2_with (at_builtin; refine wpList_append_own _ rfl (.tmp 3) (.tmp 5) 29 rfl (w.heap.size + 1 + 1) 176 i0' (.agg #[.int .i64 0, .string ⟨#[]⟩, .int .i64 0]) 3 32 Tryz.underlying29 hi hy0 hy1 hy2 rfl (by decide) (.slice (some ⟨w.heap.size + 1 + 1, 0, none⟩) 0 0) 0 [] (by simp [Act.eval]) (by have := World.ownsRow_made (base := w.heap.size + 1 + 1) (e := 176) (size := 3) ((w.alloc (.cells #[.slice (some ad) 0 cap] 31)).alloc (.cells #[.slice none 0 0] 31)) #[] 0 (by simp) (by unfold maxLen; omega) rfl; simpa using this) ad 0 cap [] (by simp [Act.eval]) rfl (fun j u hu => by simp at hu) (fun u hu => by simp at hu) (by unfold maxLen; omega) (by omega) (by first | (simp; done) | (simp; omega)) ?_; intro v' w2 hown hgrow hnil; simp only [Nat.zero_add, List.nil_append] at hown; obtain ⟨g, c, rfl⟩ : ∃ g c, v' = .slice (some ⟨g, 0, none⟩) 0 c := (by rcases hown.2 with ⟨rfl, _⟩ | ⟨g, c, cur, rfl, _⟩; (have := hnil.1 rfl; simp at this); exact ⟨g, c, rfl⟩); have B2 := hide (Below.grown A2.out hgrow (by first | (simp; done) | (simp; omega)) (fun j e => by simp [Value.ownBlock] at e; omega)); have D2 := hide (A0.out.trans (B2.out.mono (by omega))); have l0 := (B2.out.cell (p := ⟨w.heap.size + 1, 0, none⟩) (by simp)).trans k0; have lz := (B2.out.frozen (p := ⟨w.heap.size + 1, 0, none⟩) (by simp)).trans z0; have OW := hide (own_mono (own_set (R := w.heap.size + 1) (j := 0) hown (by omega) (.slice (some ⟨g, 0, none⟩) 0 c)) (base' := w.heap.size) (by omega)); clear hown hgrow hnil k0 k1 z0)
    exact bodyPost_ret (v := .agg #[.slice (some ⟨g, 0, none⟩) 0 c]) (by simp [results, Tryz.results80, go_sem, l0]) rfl ⟨g, c, rfl, OW.out, D2.out.setCell (by simp) _⟩
theorem l2Program_any (a : Option Addr) (n cap : Nat) (f : Nat → Ins) (w : World) (hn : (n : Int) ≤ 1048576) (hr : SlIns w a n f) :
    Calls Tryz.prog 80 #[.agg #[.slice a n cap]] w fun e w' => ∃ g c, e = .returned (.agg #[.slice (some ⟨g, 0, none⟩) n c]) ∧ w'.ownsRow w.heap.size 176 3 (.slice (some ⟨g, 0, none⟩) n c) n (insL f n) ∧ Below w.heap.size w w' := by
  rcases hr with rfl | ⟨b, off, rfl, hr⟩
  · exact l2Program_nil a cap w
  · exact l2Program_row b off n cap f w hn hr
end Go.Proofs.YtkophfgkcijjkaaGreatDoor.Vp
