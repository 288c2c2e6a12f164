/-
  ParseProgram, impl.
-/
import Derived.Test.YtpefignfaooonaaGreatDoorZPaImplP
namespace Go.Proofs.YtpefignfaooonaaGreatDoor.Vp
open Go.RowKit

/-- What is answered: a code, a line, the instructions. -/
def parsed (S : List UInt8) : Int × Int × List I3 :=
  if S = [] then (1, 0, [])
  else if (pgm 0 (linesL S)).1 = 0 then (if 200 < (pgm 0 (linesL S)).2.2.length then (3, 0, []) else (0, 0, (pgm 0 (linesL S)).2.2))
  else (2, (pgm 0 (linesL S)).2.1, [])
theorem res_two {fn : Func} {p q : Tmp} (h : fn.results = #[.cell p 24, .cell q 26]) (tmps : Array Value) (w : World) (g f : Nat) (v x y : Value) (hp : tmps.getD p undef = .pointer (some ⟨g, 0, none⟩)) (hq : tmps.getD q undef = .pointer (some ⟨f, 0, none⟩)) (hC : PB w g v) (hF : FB w f x y) :
    (results fn tmps).run Tryz.prog w = .ok (.tuple #[.agg #[v], .agg #[x, y]]) w := by
  have hp' : tmps[p]?.getD undef = .pointer (some ⟨g, 0, none⟩) := by simpa using hp
  have hq' : tmps[q]?.getD undef = .pointer (some ⟨f, 0, none⟩) := by simpa using hq
  simp [results, h, hp', hq', asAddr, Sem.run_bind, Result.andThen, run_loadVar_row w g 24 24 #[v] (0, 0) _ hC Tryz.underlying24 rfl sizeProgram, run_loadVar_row w f 26 26 #[x, y] (0, 0) _ hF Tryz.underlying26 rfl sizeFault]
theorem FB.other {w : World} {b : Nat} {x y : Value} (h : FB w b x y) (p : Addr) (hp : p.block ≠ b) (u : Value) : FB (w.setCell p u) b x y := by
  unfold FB at *
  simp [World.setCell, Array.getElem?_modify, hp, h]

set_option maxRecDepth 100000 in
set_option maxHeartbeats 1000000 in
theorem readProgram_nil (ps pm : Addr) (w : World) (hE : EM w ps pm) :
    Calls Tryz.prog 18 #[.string ⟨#[]⟩] w fun e w' => e = .returned (.tuple #[.agg #[.slice none 0 0], .iface 165 (.pointer (some ps))]) ∧ Below w.heap.size w w' := by
  have A0 := hide ((Below.refl w.heap.size w).alloc (Nat.le_refl _) (.cells #[.slice none 0 0] 24))
  have R0 : Hid (PB (w.alloc (.cells #[.slice none 0 0] 24)) w.heap.size (.slice none 0 0)) := heap_alloc_new w _
  have E0 := hide (hE.below A0.out (Nat.le_refl _))
  have g0 : ¬ w.heap.size = 0 := by have := hE.1; omega
  have g0' : ¬ 0 = w.heap.size := by omega
  clear hE
  go_enter Tryz.func18, Tryz.ntmps18
  go_wp2_with fail
  generalize w.alloc (.cells #[.slice none 0 0] 24) = W at A0 R0 E0 ⊢
  obtain ⟨e1, _, e3, _⟩ := E0.out
  have z0 : w.heap.size < W.heap.size := R0.out.lt
  have d0 := R0.out.c0
  have f0 := R0.out.fz 0
  go_region
  all_goals
    go_wp2
    try simp only [Exit.inBlock, Exit.then]
    refine bodyPost_ret (res_prog rfl _ _ w.heap.size _ rfl (R0.out.set _)) rfl ?_
    exact ⟨rfl, (below_drewN A0.out _).setCell (p := ⟨w.heap.size, 0, none⟩) (Nat.le_refl _) _⟩

/-- The blocks of the two results. -/
theorem two_new (w : World) : PB ((w.alloc (.cells #[.slice none 0 0] 24)).alloc (.cells #[.int .i64 0, .int .i64 0] 26)) w.heap.size (.slice none 0 0) ∧ FB ((w.alloc (.cells #[.slice none 0 0] 24)).alloc (.cells #[.int .i64 0, .int .i64 0] 26)) (w.heap.size + 1) (.int .i64 0) (.int .i64 0) := by
  refine ⟨?_, heap_alloc2_new w _ _⟩
  show _ = _
  rw [heap_alloc_old _ _ (by simp)]
  exact heap_alloc_new w _

set_option maxRecDepth 100000 in
set_option maxHeartbeats 1000000 in
theorem parse_err (src : ByteArray) (w : World) (t : TypeId) (G : Value → Prop) (code line : Int)
    (RP : ∀ V, Below w.heap.size w V → Calls Tryz.prog 18 #[.string src] V fun e w' => (∃ p, G p ∧ e = .returned (.tuple #[.agg #[.slice none 0 0], .iface t p])) ∧ Below V.heap.size V w')
    (FO : ∀ V p, G p → Below w.heap.size w V → Calls Tryz.prog 19 #[.iface t p] V fun e w' => e = .returned (.agg #[.int .i64 code, .int .i64 line]) ∧ Below V.heap.size V w') :
    Calls Tryz.prog 6 #[.string src] w fun e w' => e = .returned (.tuple #[.agg #[.slice none 0 0], .agg #[.int .i64 code, .int .i64 line]]) ∧ Below w.heap.size w w' := by
  have A0 := hide ((Below.refl w.heap.size w).alloc (Nat.le_refl _) (.cells #[.slice none 0 0] 24))
  have A1 := hide (A0.out.alloc A0.out.size (.cells #[.int .i64 0, .int .i64 0] 26))
  have R1 := hide (two_new w).1
  have F1 := hide (two_new w).2
  have HRP := hide RP
  have HFO := hide FO
  clear RP FO
  go_enter Tryz.func6, Tryz.ntmps6
  go_wp2_with fail
  generalize (w.alloc (.cells #[.slice none 0 0] 24)).alloc (.cells #[.int .i64 0, .int .i64 0] 26) = W1 at A1 R1 F1 ⊢
  have z1 : w.heap.size + 1 < W1.heap.size := F1.out.lt
  refine (HRP.out W1 A1.out).mono ?_
  rintro e w2 ⟨⟨p, hGp, rfl⟩, hB2⟩
  have HG := hide hGp
  clear hGp
  have X3 := hB2.alloc hB2.size (.cells #[.slice none 0 0] 24)
  have R3 := hide (R1.out.below X3 (by omega))
  have F3 := hide (F1.out.below X3 z1)
  have B3 := hide (A1.out.trans (X3.mono (by omega)))
  clear X3 hB2 A0 A1 R1 F1
  go_upto_region 2 with fail
  generalize w2.alloc (.cells #[.slice none 0 0] 24) = W3 at R3 F3 B3 ⊢
  have z3 : w.heap.size + 1 < W3.heap.size := F3.out.lt
  go_wp2_with fail
  refine (HFO.out W3 p HG.out B3.out).mono ?_
  rintro e w4 ⟨rfl, hB4⟩
  have R4 := hide (R3.out.below hB4 (by omega))
  have F4 := hide (F3.out.below hB4 z3)
  have B4 := hide (B3.out.trans (hB4.mono (by omega)))
  have z4 : w.heap.size + 1 < w4.heap.size := F4.out.lt
  have d0 := R4.out.c0
  have d1 := R4.out.fz 0
  have f0 := F4.out.c0
  have f1 := F4.out.c1
  have g0 := F4.out.fz 0
  have g1 := F4.out.fz 1
  clear hB4
  go_wp2
  try simp only [Exit.inBlock, Exit.then]
  refine bodyPost_ret (res_two rfl _ _ w.heap.size (w.heap.size + 1) _ _ _ rfl rfl ((((R4.out.set _).other _ (by show w.heap.size + 1 ≠ _; omega) _)).other _ (by show w.heap.size + 1 ≠ _; omega) _) ((F4.out.other _ (by show w.heap.size ≠ _; omega) _).all _ _)) rfl ?_
  exact ⟨rfl, ((B4.out.setCell (p := ⟨w.heap.size, 0, none⟩) (Nat.le_refl _) _).setCell (p := ⟨w.heap.size + 1, 0, none⟩) (by show w.heap.size ≤ w.heap.size + 1; omega) _).setCell (p := ⟨w.heap.size + 1, 1, none⟩) (by show w.heap.size ≤ w.heap.size + 1; omega) _⟩

set_option maxRecDepth 100000 in
set_option maxHeartbeats 1000000 in
theorem parse_ok (src : ByteArray) (w : World) (n : Nat) (xs : List Value)
    (RP : ∀ V, Below w.heap.size w V → Calls Tryz.prog 18 #[.string src] V fun e w' => (∃ v, e = .returned (.tuple #[.agg #[v], .nilIface]) ∧ w'.ownsRow (V.heap.size + 2) 41 3 v n xs) ∧ Below V.heap.size V w') :
    Calls Tryz.prog 6 #[.string src] w fun e w' => (∃ v, e = .returned (.tuple #[.agg #[v], .agg #[.int .i64 0, .int .i64 0]]) ∧ w'.ownsRow (w.heap.size + 2) 41 3 v n xs) ∧ Below w.heap.size w w' := by
  have A0 := hide ((Below.refl w.heap.size w).alloc (Nat.le_refl _) (.cells #[.slice none 0 0] 24))
  have A1 := hide (A0.out.alloc A0.out.size (.cells #[.int .i64 0, .int .i64 0] 26))
  have R1 := hide (two_new w).1
  have F1 := hide (two_new w).2
  have HRP := hide RP
  clear RP
  go_enter Tryz.func6, Tryz.ntmps6
  go_wp2_with fail
  generalize (w.alloc (.cells #[.slice none 0 0] 24)).alloc (.cells #[.int .i64 0, .int .i64 0] 26) = W1 at A1 R1 F1 ⊢
  have z1 : w.heap.size + 1 < W1.heap.size := F1.out.lt
  refine (HRP.out W1 A1.out).mono ?_
  rintro e w2 ⟨⟨v, rfl, ho⟩, hB2⟩
  obtain ⟨a, cap, rfl⟩ := own_slP ho
  have X3 := hB2.alloc hB2.size (.cells #[.slice a n cap] 24)
  have R3 := hide (R1.out.below X3 (by omega))
  have F3 := hide (F1.out.below X3 z1)
  have B3 := hide (A1.out.trans (X3.mono (by omega)))
  have O3 := hide (own_mono (ho.alloc (.cells #[.slice a n cap] 24)) (show w.heap.size + 2 ≤ W1.heap.size + 2 by omega))
  have P3 : Hid (PB (w2.alloc (.cells #[.slice a n cap] 24)) w2.heap.size (.slice a n cap)) := heap_alloc_new w2 _
  clear X3 hB2 A0 A1 R1 F1 ho
  go_upto_region 2 with fail
  generalize w2.alloc (.cells #[.slice a n cap] 24) = W3 at R3 F3 B3 O3 P3 ⊢
  have z3 : w.heap.size + 1 < W3.heap.size := F3.out.lt
  have p0 := P3.out.c0
  have zp := P3.out.lt
  have d0 := R3.out.c0
  have d1 := R3.out.fz 0
  have f0 := F3.out.c0
  have f1 := F3.out.c1
  have g0 := F3.out.fz 0
  have g1 := F3.out.fz 1
  go_wp2
  try simp only [Exit.inBlock, Exit.then]
  refine bodyPost_ret (res_two rfl _ _ w.heap.size (w.heap.size + 1) _ _ _ rfl rfl ((((R3.out.set _).other _ (by show w.heap.size + 1 ≠ _; omega) _)).other _ (by show w.heap.size + 1 ≠ _; omega) _) ((F3.out.other _ (by show w.heap.size ≠ _; omega) _).all _ _)) rfl ?_
  exact ⟨⟨_, rfl, own_setP (own_setP (own_setP O3.out (by omega) _) (by omega) _) (by omega) _⟩, ((B3.out.setCell (p := ⟨w.heap.size, 0, none⟩) (Nat.le_refl _) _).setCell (p := ⟨w.heap.size + 1, 0, none⟩) (by show w.heap.size ≤ w.heap.size + 1; omega) _).setCell (p := ⟨w.heap.size + 1, 1, none⟩) (by show w.heap.size ≤ w.heap.size + 1; omega) _⟩

theorem implParse_any (src : ByteArray) (ps pm : Addr) (w : World) (hs : src.size ≤ 1500000) (hL : LayP w) (hE : EM w ps pm) (hg : ET w) :
    Calls Tryz.prog 6 #[.string src] w fun e w' => (∃ v, e = .returned (.tuple #[.agg #[v], .agg #[.int .i64 (parsed src.data.toList).1, .int .i64 (parsed src.data.toList).2.1]]) ∧ w'.ownsRow w.heap.size 41 3 v (parsed src.data.toList).2.2.length (i3L (parsed src.data.toList).2.2)) ∧ Below w.heap.size w w' := by
  have nil_own : ∀ V : World, V.ownsRow w.heap.size 41 3 (.slice none 0 0) 0 [] := fun V => World.ownsRow_nil _ _ _ _
  unfold parsed
  by_cases hS : src.data.toList = []
  · rw [if_pos hS]
    have hsrc : src = ⟨#[]⟩ := by
      refine ByteArray.ext (Array.ext' ?_)
      rw [hS]
    subst hsrc
    refine (parse_err ⟨#[]⟩ w _ (fun p => p = .pointer (some ps)) 1 0 (fun V hV => (readProgram_nil ps pm V (hE.below hV (Nat.le_refl _))).mono fun _ _ h => ⟨⟨_, rfl, h.1⟩, h.2⟩) (fun V p hp hV => hp ▸ faultOf_size ps pm V (hg.below hV (Nat.le_refl _)) (hE.below hV (Nat.le_refl _)))).mono ?_
    rintro e w' ⟨rfl, hb⟩
    exact ⟨⟨_, rfl, nil_own w'⟩, hb⟩
  · rw [if_neg hS]
    have RP := fun (V : World) (hV : Below w.heap.size w V) => readProgram_any src ps pm V hs hS (hL.below hV (Nat.le_refl _)) (hE.below hV (Nat.le_refl _))
    unfold RpPost at RP
    by_cases h0 : (pgm 0 (linesL src.data.toList)).1 = 0
    · simp only [if_pos h0] at RP
      rw [if_pos h0]
      by_cases h2 : 200 < (pgm 0 (linesL src.data.toList)).2.2.length
      · simp only [if_pos h2] at RP
        rw [if_pos h2]
        refine (parse_err src w _ (fun p => p = .pointer (some pm)) 3 0 (fun V hV => (RP V hV).mono fun _ _ h => ⟨⟨_, rfl, h.1⟩, h.2⟩) (fun V p hp hV => hp ▸ faultOf_many ps pm V (hg.below hV (Nat.le_refl _)) (hE.below hV (Nat.le_refl _)))).mono ?_
        rintro e w' ⟨rfl, hb⟩
        exact ⟨⟨_, rfl, nil_own w'⟩, hb⟩
      · simp only [if_neg h2] at RP
        rw [if_neg h2]
        refine (parse_ok src w _ _ RP).mono ?_
        rintro e w' ⟨⟨v, rfl, ho⟩, hb⟩
        exact ⟨⟨v, rfl, own_mono ho (by omega)⟩, hb⟩
    · simp only [if_neg h0] at RP
      rw [if_neg h0]
      refine (parse_err src w _ (fun p => ∃ er, er.oneCell' = true ∧ p = .agg #[.int .i64 (pgm 0 (linesL src.data.toList)).2.1, er]) 2 (pgm 0 (linesL src.data.toList)).2.1 (fun V hV => (RP V hV).mono fun _ _ h => by
        obtain ⟨⟨er, h1, h2⟩, h3⟩ := h
        exact ⟨⟨_, ⟨er, h1, rfl⟩, h2⟩, h3⟩) (fun V p hp hV => by
        obtain ⟨er, h1, rfl⟩ := hp
        exact faultOf_line _ er V (hg.below hV (Nat.le_refl _)) h1)).mono ?_
      rintro e w' ⟨rfl, hb⟩
      exact ⟨⟨_, rfl, nil_own w'⟩, hb⟩

end Go.Proofs.YtpefignfaooonaaGreatDoor.Vp
