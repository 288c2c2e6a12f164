/-
  impl: PutSource.
-/
import Derived.Test.YthbigpnaepbhjaaDoorZPsPure
import Derived.Test.YthbigpnaepbhjaaDoorZRfImpl
import Derived.Test.YthbigpnaepbhjaaDoorZInGrow
namespace Go.Proofs.YthbigpnaepbhjaaDoor.Vp
open Go.RowKit

theorem room_put (n0 : Nat) (f0 : Nat → Source) (n1 : Nat) (f1 : Nat → Target) (t tx : ByteArray) (rt : Bool) (h : rt = decide ((tx.size : Int) ≤ 2000)) : putC n0 f0 n1 f1 t tx = roomC n0 f0 n1 f1 t rt := by
  subst h
  unfold roomC putC
  have e : (nameOk t = false ∨ 2000 < (tx.size : Int)) = (nameOk t = false ∨ decide ((tx.size : Int) ≤ 2000) = false) := by simp
  simp only [e]

theorem put_zero {n0 : Nat} {f0 : Nat → Source} {n1 : Nat} {f1 : Nat → Target} {t tx : ByteArray} (h : putC n0 f0 n1 f1 t tx = 0) : checkC n0 f0 n1 f1 = 0 := by
  unfold putC at h
  split at h
  · omega
  · rename_i h1
    exact Decidable.not_not.1 h1
theorem ty_ne {w : World} {g h : Nat} {e e' : TypeId} (h1 : TypeAt w g e) (h2 : TypeAt w h e') (hne : e ≠ e') : g ≠ h := by
  rintro rfl
  obtain ⟨c, hc⟩ := h1
  obtain ⟨d, hd⟩ := h2
  rw [hc] at hd
  simp at hd
  exact hne hd.2
theorem own_ty {w : World} {base size n : Nat} {e : TypeId} {v : Value} {xs : List Value} (h : w.ownsRow base e size v n xs) : ∀ k, v.ownBlock = some k → TypeAt w k e := by
  intro k hk
  rcases h.2 with ⟨rfl, _⟩ | ⟨g, cap, cur, rfl, _, hg, _⟩
  · cases hk
  · cases hk
    exact ⟨cur, hg⟩
theorem TypeAt.grown {w w' : World} {X : Nat} {e e' : TypeId} {row : Option Nat} (h : TypeAt w X e) (hg : w.grownBy w' row) (hr : ∀ k, row = some k → TypeAt w k e') (hne : e ≠ e') : TypeAt w' X e := by
  have hlt : X < w.heap.size := by obtain ⟨c, hc⟩ := h; exact (Array.getElem?_eq_some_iff.1 hc).1
  exact h.block (hg.block X hlt (fun e1 => ty_ne h (hr X e1.symm) hne rfl))
theorem TRow.grown {w w' : World} {base : Nat} {v : Value} {R : List TR} {row : Option Nat} (h : TRow w base v R) (hg : w.grownBy w' row) (hr : ∀ k, row = some k → TypeAt w k 57) : TRow w' base v R := by
  refine ⟨h.own.kept hg ?_, fun r hr' => ?_, h.up⟩
  · cases hv : v.ownBlock with
    | none => exact .inl rfl
    | some k => exact .inr fun e => ty_ne (h.type k hv) (hr k e.symm) (by decide) rfl
  · obtain ⟨h1, ⟨F, h2⟩, h3, h4⟩ := h.act r hr'
    have e := hg.block r.2.1 h1.1 (fun e1 => ty_ne h3 (hr _ e1.symm) (by decide) rfl)
    exact ⟨h1.block hg.size e, ⟨F, h2.block hg.size e⟩, h3.block e, h4⟩
theorem grown_set (w : World) (X j : Nat) (u : Value) : w.grownBy (w.setCell ⟨X, j, none⟩ u) (some X) := ⟨rfl, rfl, rfl, by simp [World.setCell], fun k _ hne => Below.heap_setCell _ _ _ _ (by simpa using hne)⟩
theorem own_setT {w : World} {base size n X j : Nat} {e e' : TypeId} {v : Value} {xs : List Value} (h : w.ownsRow base e size v n xs) (hX : TypeAt w X e') (hne : e ≠ e') (u : Value) : (w.setCell ⟨X, j, none⟩ u).ownsRow base e size v n xs := by
  refine h.kept (grown_set w X j u) ?_
  cases hv : v.ownBlock with
  | none => exact .inl rfl
  | some k => exact .inr fun e1 => by cases e1; exact ty_ne (own_ty h _ hv) hX hne rfl
theorem TRow.setT {w : World} {base X j : Nat} {v : Value} {R : List TR} (h : TRow w base v R) (hX : TypeAt w X 30) (u : Value) : TRow (w.setCell ⟨X, j, none⟩ u) base v R := by
  refine ⟨own_setT h.own hX (by decide) u, fun r hr => ?_, h.up⟩
  obtain ⟨h1, ⟨F, h2⟩, h3, h4⟩ := h.act r hr
  have e : (w.setCell ⟨X, j, none⟩ u).heap[r.2.1]? = w.heap[r.2.1]? := Below.heap_setCell _ _ _ _ (by show r.2.1 ≠ X; exact ty_ne h3 hX (by decide))
  exact ⟨h1.block (by simp) e, ⟨F, h2.block (by simp) e⟩, h3.block e, h4⟩
theorem type_box (w : World) (c : Array Value) (e : TypeId) : TypeAt (w.alloc (.cells c e)) w.heap.size e := ⟨c, heap_alloc_new w _⟩

set_option maxRecDepth 100000 in
set_option maxHeartbeats 4000000 in
theorem implPutS_any (a0 : Option Addr) (n0 c0 : Nat) (f0 : Nat → Source) (a1 : Option Addr) (n1 c1 : Nat) (f1 : Nat → Target) (t tx : ByteArray) (w : World) (hn0 : (n0 : Int) ≤ 1048576) (hn1 : (n1 : Int) ≤ 1048576) (hv0 : SlSource w a0 n0 f0) (hv1 : SlTarget w a1 n1 f1) (hfit : ∀ i, i < n1 → FitsTarget (f1 i)) (hT : Tab w) :
    Calls Tryd.prog 9 #[.agg #[.slice a0 n0 c0, .slice a1 n1 c1], .string t, .string tx] w fun e w' => ∃ v0 v1 R, e = .returned (.tuple #[.agg #[v0, v1], .int .i64 (putC n0 f0 n1 f1 t tx)]) ∧ w'.ownsRow w.heap.size 57 2 v0 (putS n0 f0 n1 f1 t tx).length ((putS n0 f0 n1 f1 t tx).flatMap srcV) ∧ TRow w' w.heap.size v1 R ∧ R.map (·.1) = putT n0 f0 n1 f1 t tx ∧ Below w.heap.size w w' := by
  have V0 := hide hv0
  have V1 := hide hv1
  have HF := hide hfit
  have HT := hide hT
  clear hv0 hv1 hfit hT
  obtain ⟨D, hD⟩ : ∃ D, D = putC n0 f0 n1 f1 t tx := ⟨_, rfl⟩
  obtain ⟨LS, hLS⟩ : ∃ LS, LS = putS n0 f0 n1 f1 t tx := ⟨_, rfl⟩
  obtain ⟨LT, hLT⟩ : ∃ LT, LT = putT n0 f0 n1 f1 t tx := ⟨_, rfl⟩
  rw [← hD, ← hLS, ← hLT]
  have HLS := hide (hLS.trans (by unfold putS; rw [← hD]))
  have HLT := hide (hLT.trans (by unfold putT; rw [← hD]))
  have HD := hide hD
  clear hD hLS hLT
  have A0 := hide (((Below.refl w.heap.size w).alloc (Nat.le_refl _) (.cells #[.slice a0 n0 c0, .slice a1 n1 c1] 30)).alloc (by simp) (.cells #[.slice none 0 0, .slice none 0 0] 30))
  have X0 := hide (pair_new w (.slice a0 n0 c0) (.slice a1 n1 c1) 30)
  go_enter Tryd.func9, Tryd.ntmps9
  go_wp2_with fail
  generalize (w.alloc (.cells #[.slice a0 n0 c0, .slice a1 n1 c1] 30)).alloc (.cells #[.slice none 0 0, .slice none 0 0] 30) = W at A0 X0 ⊢
  generalize hrt : decide ((tx.size : Int) ≤ 2000) = rt
  refine (roomFor_any a0 n0 c0 f0 a1 n1 c1 f1 t rt _ hn0 hn1 (V0.out.below A0.out (Nat.le_refl _)) (V1.out.below A0.out (Nat.le_refl _)) HF.out (HT.out.below A0.out HT.out.1)).mono ?_
  rintro e w1 ⟨v0, v1, R, rfl, hO, hR, hM, hB⟩
  have hrc : roomC n0 f0 n1 f1 t rt = D := by rw [HD.out]; exact (room_put n0 f0 n1 f1 t tx rt hrt.symm).symm
  rw [hrc]
  unfold roomS at hO
  unfold roomT at hM
  rw [hrc] at hO hM
  have hltW := X0.out.lt
  have hW1 : W.heap.size ≤ w1.heap.size := hB.size
  have X1 := hide (X0.out.below hB X0.out.lt')
  have B1 := hide (A0.out.trans (hB.mono A0.out.size))
  clear hB A0 X0 hrc hrt
  obtain ⟨sa, sc, rfl⟩ := own_slice hO
  obtain ⟨ta, tc, rfl⟩ := own_slice hR.own
  by_cases hc : D = 0
  case neg =>
    rw [if_neg hc] at hO hM
    have hls := HLS.out
    rw [if_neg hc] at hls
    have hlt := HLT.out
    rw [if_neg hc] at hlt
    subst hls hlt
    have hc' : (D == 0) = false := by simpa using hc
    have hx8 : w.heap.size + 1 < w1.heap.size := X1.out.lt
    obtain ⟨r0, q0⟩ := X1.out.r0
    obtain ⟨r1, q1⟩ := X1.out.r1
    clear hO hR hM
    rw [if_neg hc]
    go_wp2
    exact bodyPost_ret (v := .tuple #[.agg #[.slice none 0 0, .slice none 0 0], .int .i64 D]) (by simp [results, Tryd.results9, go_sem, r0, r1, hx8]) rfl ⟨_, _, [], rfl, World.ownsRow_nil _ _ _ _, tRow_nil _ _, rfl, ((B1.out.setCell (by simp) _).setCell (by simp) _).alloc (by have := B1.out.size; simp; omega) _⟩
  subst hc
  rw [if_pos rfl] at hO hM
  rw [if_pos rfl]
  have hls := HLS.out
  rw [if_pos rfl] at hls
  have hlt := HLT.out
  rw [if_pos rfl] at hlt
  have hz := check_zero (put_zero HD.out.symm)
  have hfew := check_few (put_zero HD.out.symm)
  have HA := hide (keepS_asc t hz.1)
  have HN := hide (keepS_not (f := f0) (n := n0) (t := t))
  have eR : R.length = (keepT f1 t n1).length := by rw [← hM]; simp
  have hl0 := keepS_len f0 t n0
  have hl1 := keepT_len f1 t n1
  obtain ⟨L, hL⟩ : ∃ L, L = keepS f0 t n0 := ⟨_, rfl⟩
  rw [← hL] at hO hl0 hls HA HN ⊢
  rw [← hlt] at hM
  have hlr : (R.length : Int) ≤ 1048576 := by omega
  have hll : (L.length : Int) ≤ 1048576 := by omega
  have HLS2 := hide hls
  have HM := hide hM
  have O1 := hide hO
  have T1 := hide hR
  have hx8 : w.heap.size + 1 < w1.heap.size := X1.out.lt
  have DB := hide ((Below.refl w1.heap.size w1).alloc (Nat.le_refl _) (.cells #[.slice sa L.length sc, .slice ta R.length tc] 30))
  have K2 := hide (twoF_box w1 (.slice sa L.length sc) (.slice ta R.length tc) 30)
  have Y2 := hide (type_box w1 #[.slice sa L.length sc, .slice ta R.length tc] 30)
  have HW2 := hide (Nat.le_trans hW1 DB.out.size)
  have X2 := hide (X1.out.below DB.out X1.out.lt')
  have B2 := hide (B1.out.trans (DB.out.mono B1.out.size))
  have O2 := hide (own_below O1.out DB.out (Nat.le_refl _))
  have T2 := hide (T1.out.below DB.out (Nat.le_refl _))
  clear hW1 HLS HLT HD hls hlt hz hfew eR hl0 hl1 hL hM hO hR DB X1 B1 O1 T1
  go_wp2_with fail
  generalize w1.alloc (.cells #[.slice sa L.length sc, .slice ta R.length tc] 30) = w2 at K2 Y2 HW2 X2 B2 O2 T2 ⊢
  generalize w1.heap.size = X at K2 Y2 hx8 ⊢
  refine (findSource_any sa L.length sc ta R.length tc (srcF L) t _ hll (own_src O2.out) HA.out).mono ?_
  rintro e w3 ⟨i, rfl, hi, hp1, hp2, hB⟩
  have hW3 : W.heap.size ≤ w3.heap.size := Nat.le_trans HW2.out hB.size
  have X3 := hide (X2.out.below hB X2.out.lt')
  have B3 := hide (B2.out.trans (hB.mono B2.out.size))
  have O3 := hide (own_below O2.out hB (Nat.le_refl _))
  have T3 := hide (T2.out.below hB (Nat.le_refl _))
  have hX3 : X < w3.heap.size := Nat.lt_of_lt_of_le K2.out.lt hB.size
  have Y3 := hide (Y2.out.block (hB.block X K2.out.lt))
  have c8 := (hB.cell (p := ⟨X, 0, none⟩) K2.out.lt).trans K2.out.c0
  have c9 := (hB.cell (p := ⟨X, 1, none⟩) K2.out.lt).trans K2.out.c1
  have y8 := (hB.frozen (p := ⟨X, 0, none⟩) K2.out.lt).trans K2.out.z0
  have HI : Hid (LS = L.take i ++ ⟨t, tx⟩ :: L.drop i) := HLS2.out.trans (insF_at hi hp1 hp2 HN.out)
  clear hB X2 B2 O2 T2 K2 Y2 HLS2 HN HA hp1 hp2
  go_wp2_with fail
  have hz4 : (w3.alloc (.cells #[.string t, .string tx] 57)).heap.size = w3.heap.size + 1 := by simp
  have hx4 : (w3.alloc (.cells #[.string t, .string tx] 57)).heap[w3.heap.size]? = some (.cells #[.string t, .string tx] 57 (0, 0)) := heap_alloc_new w3 _
  have E4 := hide ((Below.refl w3.heap.size w3).alloc (Nat.le_refl _) (.cells #[.string t, .string tx] 57))
  have X4 := hide (X3.out.below E4.out X3.out.lt')
  have B4 := hide (B3.out.trans (E4.out.mono B3.out.size))
  have O4 := hide (own_below O3.out E4.out (Nat.le_refl _))
  have T4 := hide (T3.out.below E4.out (Nat.le_refl _))
  have Y4 := hide (Y3.out.block (E4.out.block X hX3))
  have d8 := (E4.out.cell (p := ⟨X, 0, none⟩) hX3).trans c8
  have d9 := (E4.out.cell (p := ⟨X, 1, none⟩) hX3).trans c9
  have u8 := (E4.out.frozen (p := ⟨X, 0, none⟩) hX3).trans y8
  have hne : (Value.slice sa L.length sc).ownBlock ≠ some w3.heap.size := fun e => by have := (O3.out.lt _ e).2; omega
  have hbase : W.heap.size ≤ w3.heap.size + 1 := by
    have := hz4
    omega
  generalize w3.alloc (.cells #[.string t, .string tx] 57) = w4 at hz4 hx4 E4 X4 B4 O4 T4 Y4 d8 d9 u8 ⊢
  refine (insertSource_own W.heap.size (.slice sa L.length sc) L.length i (L.flatMap srcV) w3.heap.size t tx _ hll hi O4.out (by intro u hu; simp only [List.mem_flatMap, srcV] at hu; obtain ⟨a, _, ha⟩ := hu; simp at ha; rcases ha with rfl | rfl <;> rfl) hx4 hne (by omega)).mono ?_
  rintro e w5 ⟨v', rfl, hO5, hg5⟩
  have rows := own_ty O4.out
  have G5 := hide (Below.grown (Below.refl W.heap.size w4) hg5 (by omega) (fun j e => (O4.out.lt j e).1))
  have T5 := hide (T4.out.grown hg5 rows)
  have Y5 := hide (Y4.out.grown hg5 rows (by decide))
  have hXb : w5.heap[X]? = w4.heap[X]? := hg5.block X (by omega) (fun e1 => ty_ne Y4.out (rows X e1.symm) (by decide) rfl)
  have f8 := (World.cell?_of_block (a := ⟨X, 0, none⟩) hXb).trans d8
  have f9 := (World.cell?_of_block (a := ⟨X, 1, none⟩) hXb).trans d9
  have g8 := (World.frozen?_of_block (a := ⟨X, 0, none⟩) hXb).trans u8
  have X5 := hide (X4.out.below G5.out hltW)
  have B5 := hide (B4.out.trans (G5.out.mono (by omega)))
  obtain ⟨g', c', rfl⟩ := own_some hO5 (by omega)
  have O5 : Hid (w5.ownsRow W.heap.size 57 2 (.slice (some ⟨g', 0, none⟩) (L.length + 1) c') LS.length (LS.flatMap srcV)) := by
    show World.ownsRow _ _ _ _ _ _ _
    have e1 : LS.length = L.length + 1 := by rw [HI.out]; simp; omega
    have e2 : LS.flatMap srcV = (L.flatMap srcV).take (i * 2) ++ [.string t, .string tx] ++ (L.flatMap srcV).drop (i * 2) := by rw [HI.out, (take_flat L i).1, (take_flat L i).2]; simp [srcV]
    rw [e1, e2]
    exact hO5
  have O6 := hide (own_mono (own_set (own_set (R := w.heap.size + 1) (j := 0) (own_setT (j := 0) O5.out Y5.out (by decide) (.slice (some ⟨g', 0, none⟩) (L.length + 1) c')) (by omega) (.slice (some ⟨g', 0, none⟩) (L.length + 1) c')) (R := w.heap.size + 1) (j := 1) (by omega) (.slice ta R.length tc)) (base' := w.heap.size) (by omega))
  have T6 := hide (tRow_mono (((T5.out.setT (j := 0) Y5.out (.slice (some ⟨g', 0, none⟩) (L.length + 1) c')).set (X := w.heap.size + 1) (j := 0) (by omega) (.slice (some ⟨g', 0, none⟩) (L.length + 1) c')).set (X := w.heap.size + 1) (j := 1) (by omega) (.slice ta R.length tc)) (base' := w.heap.size) (by omega))
  obtain ⟨r0, q0⟩ := X5.out.r0
  obtain ⟨r1, q1⟩ := X5.out.r1
  clear hO5 hg5 rows G5 T5 Y5 hXb X4 B4 O4 T4 Y4 d8 d9 u8 hx4 c8 c9 y8 O5 E4 hne X3 B3 O3 T3 Y3 HI
  go_wp2
  exact bodyPost_ret (v := .tuple #[.agg #[.slice (some ⟨g', 0, none⟩) (L.length + 1) c', .slice ta R.length tc], .int .i64 0]) (by simp [results, Tryd.results9, go_sem, r0, r1]) rfl ⟨_, _, R, rfl, O6.out, T6.out, HM.out, ((B5.out.setCell (by simp; omega) _).setCell (by simp) _).setCell (by simp) _⟩

end Go.Proofs.YthbigpnaepbhjaaDoor.Vp
