/-
  Put together of: UnImpl.
-/
import Derived.Test.YtkbhcajiebeepaaGreatDoorYU
import Derived.Test.YtkbhcajiebeepaaGreatDoorYH
import Derived.Deep.RegionHeld
import Derived.BigQuiet

/-
  Unseal: what is answered; impl's.
-/
namespace Go.Proofs.YtkbhcajiebeepaaGreatDoor.Vp
open Go.RowKit Go.Proofs.YtkbhcajiebeepaaGreatDoor.Ca

/-- The seal stands ahead of the rest. -/
def Sealed (s k : ByteArray) : Prop := 17 ≤ s.size ∧ k.size ≤ 60 ∧ s.extract 0 17 = ⟨(sealT (s.extract 17 s.size) k).toArray⟩
/-- What is answered to a text and a key. -/
def IsUn (s k : ByteArray) (r : Option (List Deed)) : Prop := (Sealed s k → IsRd (s.extract 17 s.size).data.toList r) ∧ (¬ Sealed s k → r = none)
theorem isUn_one {s k : ByteArray} {r r' : Option (List Deed)} (h : IsUn s k r) (h' : IsUn s k r') : r = r' := by
  by_cases hs : Sealed s k
  · exact isRd_one (h.1 hs) (h'.1 hs)
  · rw [h.2 hs, h'.2 hs]
theorem isUn_no {s k : ByteArray} (h : ¬ Sealed s k) : IsUn s k none := ⟨fun x => absurd x h, fun _ => rfl⟩
/-- What Unseal answers. -/
def UnPost (w : World) (s k : ByteArray) (e : Ending) (w' : World) : Prop :=
  ∃ (r : Option (List Deed)) (a : Option Addr) (c : Nat) (R : List DR), IsUn s k r ∧ e = .returned (.tuple #[.agg #[.slice a R.length c], .bool r.isSome]) ∧ DRow w' w.heap.size (.slice a R.length c) R ∧ R.map (·.1) = r.getD [] ∧ SzD 300001 (R.map (·.1)) ∧ Below w.heap.size w w'
theorem ext_size (s : ByteArray) (h : 17 ≤ s.size) : (s.extract 17 s.size).size = s.size - 17 := by
  rw [ByteArray.size_extract]
  omega
theorem bytes_ne {a b : ByteArray} (h : ¬ a = b) : ¬ a.toList = b.toList := fun e => h (by
  rw [ByteArray.toList_eq, ByteArray.toList_eq] at e
  exact ByteArray.ext (Array.ext' e))
theorem bytes_nb {a b : ByteArray} (h : ¬ a = b) : (a.toList == b.toList) = false := by simpa using bytes_ne h

section
variable {P : Program} {ops : Array Oper} {Q : Exit → Act → World → Prop} {md : Region.Mode}
theorem anyH_takeL {i : Nat} {oi : Oper} {v : Value} {k : Nat} {l : Array Bool} {a : Act} {w : World} (hi : ops.toList[i]? = some oi) (hs : Region.noSelect ops = true) (hf : Region.free md ops l i = true) (hr : (Region.ready md ops l).contains i = true)
    (hQ : ∀ c a w, Q (.panic c) (a.put oi.dst v) w → Q (.panic c) a w) (hg : Region.wanted oi (yielded ops a.tmps) = true) (hy : ∀ w, (execOp a.eval oi).run P w = .ok (.value v) w)
    (h : wpAnyH P md ops Q (fun _ => True) k (l.setIfInBounds i true) (a.put oi.dst v) w) : wpAnyH P md ops Q (fun _ => True) (k + 1) l a w := by
  rw [Array.getElem?_toList] at hi
  exact wpAnyH_take hi hs hf hr hQ (.inl ⟨hg, fun w _ => hy w⟩) trivial h
theorem anyH_oneL {i : Nat} {o : Oper} {k : Nat} {l : Array Bool} {a : Act} {w : World} (ho : ops.toList[i]? = some o) (hr : Region.ready md ops l = [i])
    (h : ∀ K' : Act → World → Prop, Shut (∀ a w, wpAnyH P md ops Q (fun _ => True) k (l.setIfInBounds i true) a w → K' a w) → if Region.wanted o (yielded ops a.tmps) = true then Oper.wp P o a w K' Q else K' (a.put o.dst undef) w) :
    wpAnyH P md ops Q (fun _ => True) (k + 1) l a w := by
  rw [Array.getElem?_toList] at ho
  exact wpAnyH_ready hr (List.cons_ne_nil _ _) (AllReadyH.cons ho (fun K' hK => h K' (fun a w hW => hK.out a w trivial (fun _ => hW))) AllReadyH.nil)
end

set_option maxRecDepth 100000 in
set_option maxHeartbeats 4000000 in
theorem implUnseal_short (s k : ByteArray) (w : World) (h : s.size < 17) : Calls Tryz.prog 11 #[.string s, .string k] w fun e w' => UnPost w s k e w' := by
  have IS : Hid (IsUn s k none) := isUn_no fun x => by have := x.1; omega
  have A0 := hide ((Below.refl w.heap.size w).alloc (Nat.le_refl _) (.cells #[.slice none 0 0] 24))
  have B0 : Hid (AB (w.alloc (.cells #[.slice none 0 0] 24)) w.heap.size (.slice none 0 0)) := heap_alloc_new w _
  have h1 : (s.size : Int) < 17 := by omega
  unfold UnPost
  go_enter Tryz.func11, Tryz.ntmps11
  go_upto_region 1 with fail
  generalize w.alloc (.cells #[.slice none 0 0] 24) = W at A0 B0 ⊢
  have l0 := B0.out.lt
  go_quiet (fail)
  have E1 := below_drewN (Below.refl W.heap.size W) nq
  have B2 := hide (B0.out.below E1 l0)
  have A2 := hide (A0.out.trans (E1.mono A0.out.size))
  clear E1 l0
  generalize W.drewN nq = V at B2 A2 ⊢
  have c0 := B2.out.c0
  have f0 := B2.out.fz 0
  have l0 := B2.out.lt
  have B1 := hide (B2.out.set (.slice none 0 0))
  have A1 := hide (A2.out.setCell (p := ⟨w.heap.size, 0, none⟩) (Nat.le_refl _) (.slice none 0 0))
  go_wp2
  try simp only [Exit.inBlock, Exit.then]
  refine bodyPost_ret (res_acc rfl _ _ w.heap.size _ rfl B1.out) rfl ?_
  exact ⟨none, none, 0, [], IS.out, rfl, dRow_nil _ _, rfl, SzD.nil _, A1.out⟩

set_option maxRecDepth 100000 in
set_option maxHeartbeats 4000000 in
theorem implUnseal_key (s k : ByteArray) (w : World) (h : 17 ≤ s.size) (hk : 60 < k.size) (hkm : k.size ≤ maxLen) (hsm : s.size ≤ maxLen) : Calls Tryz.prog 11 #[.string s, .string k] w fun e w' => UnPost w s k e w' := by
  have IS : Hid (IsUn s k none) := isUn_no fun x => by have := x.2.1; omega
  have A0 := hide ((Below.refl w.heap.size w).alloc (Nat.le_refl _) (.cells #[.slice none 0 0] 24))
  have B0 : Hid (AB (w.alloc (.cells #[.slice none 0 0] 24)) w.heap.size (.slice none 0 0)) := heap_alloc_new w _
  unfold maxLen at hkm hsm
  have h1 : decide ((s.size : Int) < 17) = false := by simp; omega
  have h2 : (60 : Int) < (k.size : Int) := by omega
  unfold UnPost
  go_enter Tryz.func11, Tryz.ntmps11
  go_upto_region 1 with fail
  generalize w.alloc (.cells #[.slice none 0 0] 24) = W at A0 B0 ⊢
  have l0 := B0.out.lt
  go_quiet (fail)
  have E1 := below_drewN (Below.refl W.heap.size W) nq
  have B2 := hide (B0.out.below E1 l0)
  have A2 := hide (A0.out.trans (E1.mono A0.out.size))
  clear E1 l0
  generalize W.drewN nq = V at B2 A2 ⊢
  have c0 := B2.out.c0
  have f0 := B2.out.fz 0
  have l0 := B2.out.lt
  have B1 := hide (B2.out.set (.slice none 0 0))
  have A1 := hide (A2.out.setCell (p := ⟨w.heap.size, 0, none⟩) (Nat.le_refl _) (.slice none 0 0))
  go_wp2
  try simp only [Exit.inBlock, Exit.then]
  refine bodyPost_ret (res_acc rfl _ _ w.heap.size _ rfl B1.out) rfl ?_
  exact ⟨none, none, 0, [], IS.out, rfl, dRow_nil _ _, rfl, SzD.nil _, A1.out⟩

set_option maxRecDepth 100000 in
set_option maxHeartbeats 4000000 in
theorem implUnseal_in (s k : ByteArray) (w : World) (h : 17 ≤ s.size) (hs : s.size ≤ 1048576) (hk : k.size ≤ 60) (hL : Lay w) (hE : EV w 1) (hD : Deb w) (hg : 10 < w.heap.size) : Calls Tryz.prog 11 #[.string s, .string k] w fun e w' => UnPost w s k e w' := by
  have A0 := hide ((Below.refl w.heap.size w).alloc (Nat.le_refl _) (.cells #[.slice none 0 0] 24))
  have B0 : Hid (AB (w.alloc (.cells #[.slice none 0 0] 24)) w.heap.size (.slice none 0 0)) := heap_alloc_new w _
  have h1 : decide ((s.size : Int) < 17) = false := by simp; omega
  have h2 : decide ((60 : Int) < (k.size : Int)) = false := by simp; omega
  have g1 : ¬ (s.size : Int) < 17 := by omega
  have g2 : ¬ (60 : Int) < (k.size : Int) := by omega
  have h3 : (17 : Int) ≤ (s.size : Int) := by omega
  have hxs := ext_size s h
  have SO := hide (fun V (hB : Below w.heap.size w V) => sealOf_any (s.extract 17 s.size) k V (by omega) hk ((hB.cell (p := ⟨10, 15, none⟩) hg).trans hD) (Nat.lt_of_lt_of_le hg hB.size))
  have RA := hide (fun V (hB : Below w.heap.size w V) => implReadAcc_any (s.extract 17 s.size) V (by unfold maxLen; omega) (hL.below hB (Nat.le_refl _)) (hE.below hB hE.1))
  have IU := hide (show ∀ r, IsUn s k r ↔ _ from fun r => Iff.rfl)
  unfold RaPost at RA
  clear hL hE hD
  by_cases heq : s.extract 0 17 = ⟨(sealT (s.extract 17 s.size) k).toArray⟩
  · have hSd : Sealed s k := ⟨h, hk, heq⟩
    have IS := hide (fun r (x : IsRd (s.extract 17 s.size).data.toList r) => (show IsUn s k r from ⟨fun _ => x, fun y => absurd hSd y⟩))
    rw [← heq] at SO
    clear heq hSd IU
    unfold UnPost
    go_enter Tryz.func11, Tryz.ntmps11
    go_upto_region 1 with fail
    generalize w.alloc (.cells #[.slice none 0 0] 24) = W at A0 B0 ⊢
    have l0 := B0.out.lt
    -- WALK0
    refine wp_region_held_drew (S := fun _ => True) (by kernel_rfl) trivial (fun _ => ?_)
    refine anyH_takeL (i := 0) (v := ?_) rfl (by kernel_rfl) (by kernel_rfl) (by kernel_rfl) (fun _ _ _ h => h) (by rfl) ?_ ?_
    rotate_left
    · (intro wz; go_simp)
      (try with_reducible rfl)
    (try simp only [Act.put, List.setIfInBounds_toArray, List.set_cons_zero, List.set_cons_succ])
    refine anyH_takeL (i := 1) (v := ?_) rfl (by kernel_rfl) (by kernel_rfl) (by kernel_rfl) (fun _ _ _ h => h) (by rfl) ?_ ?_
    rotate_left
    · (intro wz; go_simp)
      (try with_reducible rfl)
    (try simp only [Act.put, List.setIfInBounds_toArray, List.set_cons_zero, List.set_cons_succ])
    refine anyH_takeL (i := 2) (v := .bool false) rfl (by kernel_rfl) (by kernel_rfl) (by kernel_rfl) (fun _ _ _ h => h) (by rfl) ?_ ?_
    · (intro wz; go_simp)
    (try simp only [Act.put, List.setIfInBounds_toArray, List.set_cons_zero, List.set_cons_succ])
    refine anyH_takeL (i := 3) (v := ?_) rfl (by kernel_rfl) (by kernel_rfl) (by kernel_rfl) (fun _ _ _ h => h) (by rfl) ?_ ?_
    rotate_left
    · (intro wz; go_simp)
      (try with_reducible rfl)
    (try simp only [Act.put, List.setIfInBounds_toArray, List.set_cons_zero, List.set_cons_succ])
    refine anyH_takeL (i := 4) (v := ?_) rfl (by kernel_rfl) (by kernel_rfl) (by kernel_rfl) (fun _ _ _ h => h) (by rfl) ?_ ?_
    rotate_left
    · (intro wz; go_simp)
      (try with_reducible rfl)
    (try simp only [Act.put, List.setIfInBounds_toArray, List.set_cons_zero, List.set_cons_succ])
    refine anyH_takeL (i := 5) (v := ?_) rfl (by kernel_rfl) (by kernel_rfl) (by kernel_rfl) (fun _ _ _ h => h) (by rfl) ?_ ?_
    rotate_left
    · (intro wz; go_simp)
      (try with_reducible rfl)
    (try simp only [Act.put, List.setIfInBounds_toArray, List.set_cons_zero, List.set_cons_succ])
    refine anyH_takeL (i := 6) (v := .bool false) rfl (by kernel_rfl) (by kernel_rfl) (by kernel_rfl) (fun _ _ _ h => h) (by rfl) ?_ ?_
    · (intro wz; go_simp)
    (try simp only [Act.put, List.setIfInBounds_toArray, List.set_cons_zero, List.set_cons_succ])
    refine anyH_takeL (i := 7) (v := .bool false) rfl (by kernel_rfl) (by kernel_rfl) (by kernel_rfl) (fun _ _ _ h => h) (by rfl) ?_ ?_
    · (intro wz; go_simp)
    (try simp only [Act.put, List.setIfInBounds_toArray, List.set_cons_zero, List.set_cons_succ])
    refine anyH_takeL (i := 8) (v := ?_) rfl (by kernel_rfl) (by kernel_rfl) (by kernel_rfl) (fun _ _ _ h => h) (by rfl) ?_ ?_
    rotate_left
    · (intro wz; go_simp)
      (try with_reducible rfl)
    (try simp only [Act.put, List.setIfInBounds_toArray, List.set_cons_zero, List.set_cons_succ])
    refine anyH_takeL (i := 9) (v := ?_) rfl (by kernel_rfl) (by kernel_rfl) (by kernel_rfl) (fun _ _ _ h => h) (by rfl) ?_ ?_
    rotate_left
    · (intro wz; go_simp)
      (try with_reducible rfl)
    (try simp only [Act.put, List.setIfInBounds_toArray, List.set_cons_zero, List.set_cons_succ])
    refine anyH_takeL (i := 10) (v := ?_) rfl (by kernel_rfl) (by kernel_rfl) (by kernel_rfl) (fun _ _ _ h => h) (by rfl) ?_ ?_
    rotate_left
    · (intro wz; go_simp)
      (try with_reducible rfl)
    (try simp only [Act.put, List.setIfInBounds_toArray, List.set_cons_zero, List.set_cons_succ])
    refine anyH_takeL (i := 11) (v := ?_) rfl (by kernel_rfl) (by kernel_rfl) (by kernel_rfl) (fun _ _ _ h => h) (by rfl) ?_ ?_
    rotate_left
    · (intro wz; go_simp)
      (try with_reducible rfl)
    (try simp only [Act.put, List.setIfInBounds_toArray, List.set_cons_zero, List.set_cons_succ])
    refine anyH_takeL (i := 12) (v := ?_) rfl (by kernel_rfl) (by kernel_rfl) (by kernel_rfl) (fun _ _ _ h => h) (by rfl) ?_ ?_
    rotate_left
    · (intro wz; go_simp)
      (try with_reducible rfl)
    (try simp only [Act.put, List.setIfInBounds_toArray, List.set_cons_zero, List.set_cons_succ])
    refine anyH_takeL (i := 13) (v := ?_) rfl (by kernel_rfl) (by kernel_rfl) (by kernel_rfl) (fun _ _ _ h => h) (by rfl) ?_ ?_
    rotate_left
    · (intro wz; go_simp)
      (try with_reducible rfl)
    (try simp only [Act.put, List.setIfInBounds_toArray, List.set_cons_zero, List.set_cons_succ])
    refine anyH_oneL (i := 14) rfl (by kernel_rfl) (fun K hK => ?_)
    go_simp
    go_at_call 20
    refine (SO.out _ (by first | exact A0.out | exact A0.out.drew)).mono ?_
    rintro e w2 ⟨rfl, hB2⟩
    have B2 : Hid (Below W.heap.size W w2) := ⟨hB2.os, hB2.tape, hB2.output, hB2.size, hB2.block⟩
    clear hB2
    refine hK.out _ _ ?_
    clear hK K
    (try simp only [Act.put, List.setIfInBounds_toArray, List.set_cons_zero, List.set_cons_succ])
    refine anyH_takeL (i := 15) (v := .bool false) rfl (by kernel_rfl) (by kernel_rfl) (by kernel_rfl) (fun _ _ _ h => h) (by rfl) ?_ ?_
    · (intro wz; go_simp)
    (try simp only [Act.put, List.setIfInBounds_toArray, List.set_cons_zero, List.set_cons_succ])
    refine anyH_takeL (i := 16) (v := .bool false) rfl (by kernel_rfl) (by kernel_rfl) (by kernel_rfl) (fun _ _ _ h => h) (by rfl) ?_ ?_
    · (intro wz; go_simp)
    (try simp only [Act.put, List.setIfInBounds_toArray, List.set_cons_zero, List.set_cons_succ])
    refine wpAnyH_done (by kernel_rfl) ?_ _
    -- END0
    have A2 := hide (A0.out.trans (B2.out.mono A0.out.size))
    have C2 := hide (B0.out.below B2.out l0)
    go_wp2_with fail
    refine (RA.out w2 A2.out).mono ?_
    rintro e w3 ⟨r, a, c, R, hIs, rfl, hDR, hM, hZ, hB3⟩
    have IR := hide (IS.out r hIs)
    have A3 := hide (A2.out.trans (hB3.mono A2.out.size))
    have B3 := hide (C2.out.below hB3 C2.out.lt)
    have c0 := B3.out.c0
    have f0 := B3.out.fz 0
    have l3 := B3.out.lt
    have hz2 : w.heap.size < w2.heap.size := C2.out.lt
    have B5 := hide (B3.out.set (.slice a R.length c))
    have A5 := hide (A3.out.setCell (p := ⟨w.heap.size, 0, none⟩) (Nat.le_refl _) (.slice a R.length c))
    have D5 := hide ((hDR.set (p := ⟨w.heap.size, 0, none⟩) (e := 0) (.inl hz2) (.slice a R.length c)).mono (show w.heap.size ≤ w2.heap.size by omega))
    have HM := hide hM
    have HZ := hide hZ
    clear hIs hDR hM hZ hB3
    go_wp2
    try simp only [Exit.inBlock, Exit.then]
    refine bodyPost_ret (res_acc rfl _ _ w.heap.size _ rfl B5.out) rfl ?_
    exact ⟨r, a, c, R, IR.out, rfl, D5.out, HM.out, HZ.out, A5.out⟩
  · have IS : Hid (IsUn s k none) := isUn_no fun x => heq x.2.2
    have e1 := bytes_ne heq
    have e2 := bytes_nb heq
    generalize (⟨(sealT (s.extract 17 s.size) k).toArray⟩ : ByteArray) = T at SO heq e1 e2 ⊢
    clear IU RA
    go_enter Tryz.func11, Tryz.ntmps11
    go_upto_region 1 with fail
    generalize w.alloc (.cells #[.slice none 0 0] 24) = W at A0 B0 ⊢
    have l0 := B0.out.lt
    -- WALK1
    refine wp_region_held_drew (S := fun _ => True) (by kernel_rfl) trivial (fun _ => ?_)
    refine anyH_takeL (i := 0) (v := ?_) rfl (by kernel_rfl) (by kernel_rfl) (by kernel_rfl) (fun _ _ _ h => h) (by rfl) ?_ ?_
    rotate_left
    · (intro wz; go_simp)
      (try with_reducible rfl)
    (try simp only [Act.put, List.setIfInBounds_toArray, List.set_cons_zero, List.set_cons_succ])
    refine anyH_takeL (i := 1) (v := ?_) rfl (by kernel_rfl) (by kernel_rfl) (by kernel_rfl) (fun _ _ _ h => h) (by rfl) ?_ ?_
    rotate_left
    · (intro wz; go_simp)
      (try with_reducible rfl)
    (try simp only [Act.put, List.setIfInBounds_toArray, List.set_cons_zero, List.set_cons_succ])
    refine anyH_takeL (i := 2) (v := .bool false) rfl (by kernel_rfl) (by kernel_rfl) (by kernel_rfl) (fun _ _ _ h => h) (by rfl) ?_ ?_
    · (intro wz; go_simp)
    (try simp only [Act.put, List.setIfInBounds_toArray, List.set_cons_zero, List.set_cons_succ])
    refine anyH_takeL (i := 3) (v := ?_) rfl (by kernel_rfl) (by kernel_rfl) (by kernel_rfl) (fun _ _ _ h => h) (by rfl) ?_ ?_
    rotate_left
    · (intro wz; go_simp)
      (try with_reducible rfl)
    (try simp only [Act.put, List.setIfInBounds_toArray, List.set_cons_zero, List.set_cons_succ])
    refine anyH_takeL (i := 4) (v := ?_) rfl (by kernel_rfl) (by kernel_rfl) (by kernel_rfl) (fun _ _ _ h => h) (by rfl) ?_ ?_
    rotate_left
    · (intro wz; go_simp)
      (try with_reducible rfl)
    (try simp only [Act.put, List.setIfInBounds_toArray, List.set_cons_zero, List.set_cons_succ])
    refine anyH_takeL (i := 5) (v := ?_) rfl (by kernel_rfl) (by kernel_rfl) (by kernel_rfl) (fun _ _ _ h => h) (by rfl) ?_ ?_
    rotate_left
    · (intro wz; go_simp)
      (try with_reducible rfl)
    (try simp only [Act.put, List.setIfInBounds_toArray, List.set_cons_zero, List.set_cons_succ])
    refine anyH_takeL (i := 6) (v := .bool false) rfl (by kernel_rfl) (by kernel_rfl) (by kernel_rfl) (fun _ _ _ h => h) (by rfl) ?_ ?_
    · (intro wz; go_simp)
    (try simp only [Act.put, List.setIfInBounds_toArray, List.set_cons_zero, List.set_cons_succ])
    refine anyH_takeL (i := 7) (v := .bool false) rfl (by kernel_rfl) (by kernel_rfl) (by kernel_rfl) (fun _ _ _ h => h) (by rfl) ?_ ?_
    · (intro wz; go_simp)
    (try simp only [Act.put, List.setIfInBounds_toArray, List.set_cons_zero, List.set_cons_succ])
    refine anyH_takeL (i := 8) (v := ?_) rfl (by kernel_rfl) (by kernel_rfl) (by kernel_rfl) (fun _ _ _ h => h) (by rfl) ?_ ?_
    rotate_left
    · (intro wz; go_simp)
      (try with_reducible rfl)
    (try simp only [Act.put, List.setIfInBounds_toArray, List.set_cons_zero, List.set_cons_succ])
    refine anyH_takeL (i := 9) (v := ?_) rfl (by kernel_rfl) (by kernel_rfl) (by kernel_rfl) (fun _ _ _ h => h) (by rfl) ?_ ?_
    rotate_left
    · (intro wz; go_simp)
      (try with_reducible rfl)
    (try simp only [Act.put, List.setIfInBounds_toArray, List.set_cons_zero, List.set_cons_succ])
    refine anyH_takeL (i := 10) (v := ?_) rfl (by kernel_rfl) (by kernel_rfl) (by kernel_rfl) (fun _ _ _ h => h) (by rfl) ?_ ?_
    rotate_left
    · (intro wz; go_simp)
      (try with_reducible rfl)
    (try simp only [Act.put, List.setIfInBounds_toArray, List.set_cons_zero, List.set_cons_succ])
    refine anyH_takeL (i := 11) (v := ?_) rfl (by kernel_rfl) (by kernel_rfl) (by kernel_rfl) (fun _ _ _ h => h) (by rfl) ?_ ?_
    rotate_left
    · (intro wz; go_simp)
      (try with_reducible rfl)
    (try simp only [Act.put, List.setIfInBounds_toArray, List.set_cons_zero, List.set_cons_succ])
    refine anyH_takeL (i := 12) (v := ?_) rfl (by kernel_rfl) (by kernel_rfl) (by kernel_rfl) (fun _ _ _ h => h) (by rfl) ?_ ?_
    rotate_left
    · (intro wz; go_simp)
      (try with_reducible rfl)
    (try simp only [Act.put, List.setIfInBounds_toArray, List.set_cons_zero, List.set_cons_succ])
    refine anyH_takeL (i := 13) (v := ?_) rfl (by kernel_rfl) (by kernel_rfl) (by kernel_rfl) (fun _ _ _ h => h) (by rfl) ?_ ?_
    rotate_left
    · (intro wz; go_simp)
      (try with_reducible rfl)
    (try simp only [Act.put, List.setIfInBounds_toArray, List.set_cons_zero, List.set_cons_succ])
    refine anyH_oneL (i := 14) rfl (by kernel_rfl) (fun K hK => ?_)
    go_simp
    go_at_call 20
    refine (SO.out _ (by first | exact A0.out | exact A0.out.drew)).mono ?_
    rintro e w2 ⟨rfl, hB2⟩
    have B2 : Hid (Below W.heap.size W w2) := ⟨hB2.os, hB2.tape, hB2.output, hB2.size, hB2.block⟩
    clear hB2
    refine hK.out _ _ ?_
    clear hK K
    (try simp only [Act.put, List.setIfInBounds_toArray, List.set_cons_zero, List.set_cons_succ])
    refine anyH_takeL (i := 15) (v := .bool true) rfl (by kernel_rfl) (by kernel_rfl) (by kernel_rfl) (fun _ _ _ h => h) (by rfl) ?_ ?_
    · (intro wz; go_simp)
    (try simp only [Act.put, List.setIfInBounds_toArray, List.set_cons_zero, List.set_cons_succ])
    refine anyH_takeL (i := 16) (v := .bool true) rfl (by kernel_rfl) (by kernel_rfl) (by kernel_rfl) (fun _ _ _ h => h) (by rfl) ?_ ?_
    · (intro wz; go_simp)
    (try simp only [Act.put, List.setIfInBounds_toArray, List.set_cons_zero, List.set_cons_succ])
    refine wpAnyH_done (by kernel_rfl) ?_ _
    -- END1
    have A2 := hide (A0.out.trans (B2.out.mono A0.out.size))
    have C2 := hide (B0.out.below B2.out l0)
    have c0 := C2.out.c0
    have f0 := C2.out.fz 0
    have l2 := C2.out.lt
    have B5 := hide (C2.out.set (.slice none 0 0))
    have A5 := hide (A2.out.setCell (p := ⟨w.heap.size, 0, none⟩) (Nat.le_refl _) (.slice none 0 0))
    go_wp2
    try simp only [Exit.inBlock, Exit.then]
    refine bodyPost_ret (res_acc rfl _ _ w.heap.size _ rfl B5.out) rfl ?_
    unfold UnPost
    exact ⟨none, none, 0, [], IS.out, rfl, dRow_nil _ _, rfl, SzD.nil _, A5.out⟩

theorem implUnseal_any (s k : ByteArray) (w : World) (hs : s.size ≤ 1048576) (hk : k.size ≤ 1048576) (hL : Lay w) (hE : EV w 1) (hD : Deb w) (hg : 10 < w.heap.size) : Calls Tryz.prog 11 #[.string s, .string k] w fun e w' => UnPost w s k e w' := by
  by_cases h : s.size < 17
  · exact implUnseal_short s k w h
  by_cases h2 : 60 < k.size
  · exact implUnseal_key s k w (by omega) h2 (by unfold maxLen; omega) (by unfold maxLen; omega)
  · exact implUnseal_in s k w (by omega) hs (by omega) hL hE hD hg

end Go.Proofs.YtkbhcajiebeepaaGreatDoor.Vp
