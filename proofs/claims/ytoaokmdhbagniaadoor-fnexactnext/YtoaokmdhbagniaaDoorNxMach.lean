/-
  The machine's memory: 61 cells in one block. put, take, bears, end.
-/
import Derived.Test.YtoaokmdhbagniaaDoorVpImpl
namespace Go.Proofs.YtoaokmdhbagniaaDoor.Vp
open Go.RowKit

/-- Block b's first n cells. -/
def Cs (w : World) (b n : Nat) (F : Nat → Value) : Prop := b < w.heap.size ∧ ∀ j, j < n → w.cell? ⟨b, j, none⟩ = some (F j) ∧ w.frozen? ⟨b, j, none⟩ = false
theorem Cs.below {w w' : World} {B b n : Nat} {F : Nat → Value} (h : Cs w b n F) (hb : Below B w w') (hB : b < B) : Cs w' b n F :=
  ⟨Nat.lt_of_lt_of_le h.1 hb.size, fun j hj => ⟨(hb.cell (p := ⟨b, _, none⟩) hB).trans (h.2 j hj).1, (hb.frozen (p := ⟨b, _, none⟩) hB).trans (h.2 j hj).2⟩⟩
theorem Cs.set {w : World} {b n : Nat} {F G : Nat → Value} (h : Cs w b n F) (j : Nat) (v : Value) (hG : ∀ x, x < n → G x = if x = j then v else F x) : Cs (w.setCell ⟨b, j, none⟩ v) b n G := by
  refine ⟨by simpa using h.1, fun x hx => ⟨?_, ?_⟩⟩
  · rw [hG x hx]
    by_cases e : x = j
    · subst e
      exact (World.cell?_setCell_same' _ _ _ (by rw [(h.2 x hx).1]; rfl)).trans (by simp)
    · have hne : (⟨b, j, none⟩ : Addr) ≠ ⟨b, x, none⟩ := by
        intro q
        exact e (by simpa using q.symm)
      exact (World.cell?_setCell_other _ _ _ _ hne).trans ((h.2 x hx).1.trans (by simp [e]))
  · have := (h.2 x hx).2
    simpa using this

structure Turn where
  over : Bool
  code : Int
  text : ByteArray
  ask : Bool
  name : ByteArray
  steps : Int
def Turn.v (t : Turn) : Value := .agg #[.bool t.over, .int .i64 t.code, .string t.text, .bool t.ask, .string t.name, .int .i64 t.steps]
def noTurn : Turn := ⟨false, 0, ⟨#[]⟩, false, ⟨#[]⟩, 0⟩
structure Mst where
  S : Nat → ByteArray
  size : Nat
  place : Int
  steps : Int
  looks : Int
  t : Turn
def Mst.F (cv : Value) (m : Mst) (j : Nat) : Value :=
  if j < 50 then .string (m.S j) else if j = 50 then .int .i64 m.size else if j = 51 then cv else if j = 52 then .int .i64 m.place else if j = 53 then .int .i64 m.steps else if j = 54 then .int .i64 m.looks
  else if j = 55 then .bool m.t.over else if j = 56 then .int .i64 m.t.code else if j = 57 then .string m.t.text else if j = 58 then .bool m.t.ask else if j = 59 then .string m.t.name else if j = 60 then .int .i64 m.t.steps else .int .i64 0
def MAt (w : World) (b : Nat) (cv : Value) (m : Mst) : Prop := Cs w b 61 (m.F cv)
theorem MAt.below {w w' : World} {B b : Nat} {cv : Value} {m : Mst} (h : MAt w b cv m) (hb : Below B w w') (hB : b < B) : MAt w' b cv m := Cs.below h hb hB
theorem MAt.lt {w : World} {b : Nat} {cv : Value} {m : Mst} (h : MAt w b cv m) : b < w.heap.size := h.1
theorem MAt.txt {w : World} {b : Nat} {cv : Value} {m : Mst} (h : MAt w b cv m) (j : Nat) (hj : j < 50) : w.cell? ⟨b, j, none⟩ = some (.string (m.S j)) ∧ w.frozen? ⟨b, j, none⟩ = false :=
  ⟨(h.2 j (by omega)).1.trans (by simp [Mst.F, hj]), (h.2 j (by omega)).2⟩
theorem MAt.fld {w : World} {b : Nat} {cv : Value} {m : Mst} (h : MAt w b cv m) (j : Nat) (v : Value) (hj : j < 61) (hv : m.F cv j = v) : w.cell? ⟨b, j, none⟩ = some v ∧ w.frozen? ⟨b, j, none⟩ = false :=
  ⟨(h.2 j hj).1.trans (by rw [hv]), (h.2 j hj).2⟩
def upd (S : Nat → ByteArray) (k : Nat) (t : ByteArray) (j : Nat) : ByteArray := if j = k then t else S j
theorem MAt.setTxt {w : World} {b : Nat} {cv : Value} {m : Mst} (h : MAt w b cv m) (k : Nat) (hk : k < 50) (t : ByteArray) : MAt (w.setCell ⟨b, k, none⟩ (.string t)) b cv { m with S := upd m.S k t } :=
  Cs.set h k _ (fun x _ => by
    by_cases e : x = k
    · subst e; simp [Mst.F, hk, upd]
    · simp [Mst.F, upd, e])
theorem MAt.setSize {w : World} {b : Nat} {cv : Value} {m : Mst} (h : MAt w b cv m) (k : Nat) (z : Int) (hz : z = k) : MAt (w.setCell ⟨b, 50, none⟩ (.int .i64 z)) b cv { m with size := k } := by
  subst hz
  exact Cs.set h 50 _ (fun x _ => by
    by_cases e : x = 50
    · subst e; simp [Mst.F]
    · simp [Mst.F, e])
theorem MAt.setPlace {w : World} {b : Nat} {cv : Value} {m : Mst} (h : MAt w b cv m) (k : Int) : MAt (w.setCell ⟨b, 52, none⟩ (.int .i64 k)) b cv { m with place := k } :=
  Cs.set h 52 _ (fun x _ => by
    by_cases e : x = 52
    · subst e; simp [Mst.F]
    · simp [Mst.F, e])
theorem MAt.setSteps {w : World} {b : Nat} {cv : Value} {m : Mst} (h : MAt w b cv m) (k : Int) : MAt (w.setCell ⟨b, 53, none⟩ (.int .i64 k)) b cv { m with steps := k } :=
  Cs.set h 53 _ (fun x _ => by
    by_cases e : x = 53
    · subst e; simp [Mst.F]
    · simp [Mst.F, e])
theorem MAt.setLooks {w : World} {b : Nat} {cv : Value} {m : Mst} (h : MAt w b cv m) (k : Int) : MAt (w.setCell ⟨b, 54, none⟩ (.int .i64 k)) b cv { m with looks := k } :=
  Cs.set h 54 _ (fun x _ => by
    by_cases e : x = 54
    · subst e; simp [Mst.F]
    · simp [Mst.F, e])
theorem MAt.set55 {w : World} {b : Nat} {cv : Value} {m : Mst} (h : MAt w b cv m) (x : Bool) : MAt (w.setCell ⟨b, 55, none⟩ (.bool x)) b cv { m with t := { m.t with over := x } } :=
  Cs.set h 55 _ (fun y hy => by
    by_cases e : y = 55
    · subst e; simp [Mst.F]
    · simp only [Mst.F, e, if_false])
theorem MAt.set56 {w : World} {b : Nat} {cv : Value} {m : Mst} (h : MAt w b cv m) (x : Int) : MAt (w.setCell ⟨b, 56, none⟩ (.int .i64 x)) b cv { m with t := { m.t with code := x } } :=
  Cs.set h 56 _ (fun y hy => by
    by_cases e : y = 56
    · subst e; simp [Mst.F]
    · simp only [Mst.F, e, if_false])
theorem MAt.set57 {w : World} {b : Nat} {cv : Value} {m : Mst} (h : MAt w b cv m) (x : ByteArray) : MAt (w.setCell ⟨b, 57, none⟩ (.string x)) b cv { m with t := { m.t with text := x } } :=
  Cs.set h 57 _ (fun y hy => by
    by_cases e : y = 57
    · subst e; simp [Mst.F]
    · simp only [Mst.F, e, if_false])
theorem MAt.set58 {w : World} {b : Nat} {cv : Value} {m : Mst} (h : MAt w b cv m) (x : Bool) : MAt (w.setCell ⟨b, 58, none⟩ (.bool x)) b cv { m with t := { m.t with ask := x } } :=
  Cs.set h 58 _ (fun y hy => by
    by_cases e : y = 58
    · subst e; simp [Mst.F]
    · simp only [Mst.F, e, if_false])
theorem MAt.set59 {w : World} {b : Nat} {cv : Value} {m : Mst} (h : MAt w b cv m) (x : ByteArray) : MAt (w.setCell ⟨b, 59, none⟩ (.string x)) b cv { m with t := { m.t with name := x } } :=
  Cs.set h 59 _ (fun y hy => by
    by_cases e : y = 59
    · subst e; simp [Mst.F]
    · simp only [Mst.F, e, if_false])
theorem MAt.set60 {w : World} {b : Nat} {cv : Value} {m : Mst} (h : MAt w b cv m) (x : Int) : MAt (w.setCell ⟨b, 60, none⟩ (.int .i64 x)) b cv { m with t := { m.t with steps := x } } :=
  Cs.set h 60 _ (fun y hy => by
    by_cases e : y = 60
    · subst e; simp [Mst.F]
    · simp only [Mst.F, e, if_false])
theorem MAt.setTurn {w : World} {b : Nat} {cv : Value} {m : Mst} (h : MAt w b cv m) (t : Turn) :
    MAt ((((((w.setCell ⟨b, 55, none⟩ (.bool t.over)).setCell ⟨b, 56, none⟩ (.int .i64 t.code)).setCell ⟨b, 57, none⟩ (.string t.text)).setCell ⟨b, 58, none⟩ (.bool t.ask)).setCell ⟨b, 59, none⟩ (.string t.name)).setCell ⟨b, 60, none⟩ (.int .i64 t.steps)) b cv { m with t := t } :=
  (((((h.set55 t.over).set56 t.code).set57 t.text).set58 t.ask).set59 t.name).set60 t.steps

/-- Of the blocks that were there, b alone may have changed. -/
structure Only (b : Nat) (w w' : World) : Prop where
  os : w'.os = w.os
  tape : w'.tape = w.tape
  output : w'.output = w.output
  size : w.heap.size ≤ w'.heap.size
  block : ∀ k, k < w.heap.size → k ≠ b → w'.heap[k]? = w.heap[k]?
theorem Only.refl (b : Nat) (w : World) : Only b w w := ⟨rfl, rfl, rfl, Nat.le_refl _, fun _ _ _ => rfl⟩
theorem Only.trans {b : Nat} {u v w : World} (h : Only b u v) (k : Only b v w) : Only b u w :=
  ⟨k.os.trans h.os, k.tape.trans h.tape, k.output.trans h.output, Nat.le_trans h.size k.size, fun i hi ho => (k.block i (Nat.lt_of_lt_of_le hi h.size) ho).trans (h.block i hi ho)⟩
theorem Only.of_below {b : Nat} {w w' : World} (h : Below w.heap.size w w') : Only b w w' := ⟨h.os, h.tape, h.output, h.size, fun i hi _ => h.block i hi⟩
theorem Only.drew {b : Nat} {u w : World} (h : Only b u w) : Only b u w.drew := h.trans (Only.of_below (Below.refl _ _).drew)
theorem Only.al {b : Nat} {u w : World} (h : Only b u w) (o : Obj) : Only b u (w.alloc o) := h.trans (Only.of_below ((Below.refl _ _).alloc (Nat.le_refl _) _))
theorem Only.below {b B : Nat} {w w' : World} (h : Only b w w') (hB : B ≤ b) (hw : B ≤ w.heap.size) : Below B w w' := ⟨h.os, h.tape, h.output, h.size, fun k hk => h.block k (by omega) (by omega)⟩
theorem Only.cell {b : Nat} {w w' : World} (h : Only b w w') (k o : Nat) (hk : k < w.heap.size) (hb : k ≠ b) : w'.cell? ⟨k, o, none⟩ = w.cell? ⟨k, o, none⟩ := World.cell?_of_block (w := w) (a := ⟨k, o, none⟩) (h.block k hk hb)
theorem bset {a w : World} {b : Nat} (h : Only b a w) (j : Nat) (v : Value) : Only b a (w.setCell ⟨b, j, none⟩ v) :=
  h.trans ⟨rfl, rfl, rfl, by simp [World.setCell], fun k _ ho => Below.heap_setCell _ _ _ _ (by simpa using ho)⟩
theorem end0 {P : Program} {fn : Func} {R : Ending → World → Prop} {a : Act} {w : World} (hr : fn.results = #[]) (hd : a.defers = []) (hR : R (.returned (.tuple #[])) w) : bodyPost P fn R .normal a w :=
  bodyPost_end (v := .tuple #[]) (by simp [results, hr]) hd hR

theorem ret0 {P : Program} {fn : Func} {R : Ending → World → Prop} {a : Act} {w : World} (hr : fn.results = #[]) (hd : a.defers = []) (hR : R (.returned (.tuple #[])) w) : bodyPost P fn R .ret a w :=
  bodyPost_ret (v := .tuple #[]) (by simp [results, hr]) hd hR
theorem MAt.turn {w : World} {b : Nat} {cv : Value} {m : Mst} (h : MAt w b cv m) : (w.cell? ⟨b, 55, none⟩ = some (.bool m.t.over) ∧ w.frozen? ⟨b, 55, none⟩ = false) ∧ (w.cell? ⟨b, 56, none⟩ = some (.int .i64 m.t.code) ∧ w.frozen? ⟨b, 56, none⟩ = false) ∧ (w.cell? ⟨b, 57, none⟩ = some (.string m.t.text) ∧ w.frozen? ⟨b, 57, none⟩ = false) ∧ (w.cell? ⟨b, 58, none⟩ = some (.bool m.t.ask) ∧ w.frozen? ⟨b, 58, none⟩ = false) ∧ (w.cell? ⟨b, 59, none⟩ = some (.string m.t.name) ∧ w.frozen? ⟨b, 59, none⟩ = false) ∧ (w.cell? ⟨b, 60, none⟩ = some (.int .i64 m.t.steps) ∧ w.frozen? ⟨b, 60, none⟩ = false) :=
  ⟨h.fld 55 _ (by omega) (by simp [Mst.F]), h.fld 56 _ (by omega) (by simp [Mst.F]), h.fld 57 _ (by omega) (by simp [Mst.F]), h.fld 58 _ (by omega) (by simp [Mst.F]), h.fld 59 _ (by omega) (by simp [Mst.F]), h.fld 60 _ (by omega) (by simp [Mst.F])⟩
theorem bset6 {a w : World} {b : Nat} (h : Only b a w) (t : Turn) : Only b a ((((((w.setCell ⟨b, 55, none⟩ (.bool t.over)).setCell ⟨b, 56, none⟩ (.int .i64 t.code)).setCell ⟨b, 57, none⟩ (.string t.text)).setCell ⟨b, 58, none⟩ (.bool t.ask)).setCell ⟨b, 59, none⟩ (.string t.name)).setCell ⟨b, 60, none⟩ (.int .i64 t.steps)) :=
  bset (bset (bset (bset (bset (bset h _ _) _ _) _ _) _ _) _ _) _ _

set_option maxHeartbeats 1000000 in
theorem put_any (b : Nat) (cv : Value) (m : Mst) (t : ByteArray) (w : World) (hM : MAt w b cv m) (hs : m.size < 50) :
    Calls Tryd.prog 94 #[.pointer (some ⟨b, 0, none⟩), .string t] w fun e w' => e = .returned (.tuple #[]) ∧ MAt w' b cv { m with S := upd m.S m.size t, size := m.size + 1 } ∧ Only b w w' := by
  have HM := hide hM
  obtain ⟨c0, z0⟩ := hM.fld 50 (.int .i64 m.size) (by omega) (by simp [Mst.F])
  obtain ⟨c1, z1⟩ := hM.txt m.size hs
  clear hM
  go_enter Tryd.func94, Tryd.ntmps94
  go_wp2
  go_region_with fail
  have HM1 := hide ((HM.out.setTxt m.size hs t).below (Below.refl _ _).drew (Nat.lt_succ_self _))
  clear c0 z0 c1 z1
  obtain ⟨c0, z0⟩ := HM1.out.fld 50 (.int .i64 m.size) (by omega) (by simp [Mst.F])
  go_wp2
  refine end0 rfl rfl ?_
  exact ⟨rfl, HM1.out.setSize (m.size + 1) _ (by simp), bset (bset (Only.refl _ _) _ _).drew _ _⟩

set_option maxHeartbeats 1000000 in
theorem take_any (b : Nat) (cv : Value) (m : Mst) (k : Nat) (w : World) (hM : MAt w b cv m) (hk : m.size = k + 1) (hs : k < 50) :
    Calls Tryd.prog 114 #[.pointer (some ⟨b, 0, none⟩)] w fun e w' => e = .returned (.string (m.S k)) ∧ MAt w' b cv { m with size := k } ∧ Only b w w' := by
  have HM := hide hM
  obtain ⟨c0, z0⟩ := hM.fld 50 (.int .i64 (k + 1)) (by omega) (by simp [Mst.F, hk])
  clear hM
  go_enter Tryd.func114, Tryd.ntmps114
  go_wp2_with fail
  have HM1 := hide (HM.out.setSize k k rfl)
  obtain ⟨c1, z1⟩ := HM1.out.txt k hs
  obtain ⟨c2, z2⟩ := HM1.out.fld 50 (.int .i64 k) (by omega) (by simp [Mst.F])
  clear c0 z0
  go_region_with fail
  go_wp2
  go_ret
  exact ⟨rfl, HM1.out.below (Below.refl _ _).drew (Nat.lt_succ_self _), (bset (Only.refl _ _) _ _).drew⟩

set_option maxHeartbeats 1000000 in
theorem end_any (b : Nat) (cv : Value) (m : Mst) (c : Int) (t : ByteArray) (w : World) (hM : MAt w b cv m) :
    Calls Tryd.prog 96 #[.pointer (some ⟨b, 0, none⟩), .int .i64 c, .string t] w fun e w' => e = .returned (.tuple #[]) ∧ MAt w' b cv { m with t := ⟨true, c, t, false, ⟨#[]⟩, m.steps⟩ } ∧ Only b w w' := by
  have HM := hide hM
  obtain ⟨c0, z0⟩ := hM.fld 53 (.int .i64 m.steps) (by omega) (by simp [Mst.F])
  obtain ⟨c5, z5⟩ := hM.fld 55 (.bool m.t.over) (by omega) (by simp [Mst.F])
  obtain ⟨c6, z6⟩ := hM.fld 56 (.int .i64 m.t.code) (by omega) (by simp [Mst.F])
  obtain ⟨c7, z7⟩ := hM.fld 57 (.string m.t.text) (by omega) (by simp [Mst.F])
  obtain ⟨c8, z8⟩ := hM.fld 58 (.bool m.t.ask) (by omega) (by simp [Mst.F])
  obtain ⟨c9, z9⟩ := hM.fld 59 (.string m.t.name) (by omega) (by simp [Mst.F])
  obtain ⟨c10, z10⟩ := hM.fld 60 (.int .i64 m.t.steps) (by omega) (by simp [Mst.F])
  clear hM
  go_enter Tryd.func96, Tryd.ntmps96
  go_wp2
  refine end0 rfl rfl ?_
  exact ⟨rfl, HM.out.setTurn ⟨true, c, t, false, ⟨#[]⟩, m.steps⟩, bset (bset (bset (bset (bset (bset (Only.refl _ _) _ _) _ _) _ _) _ _) _ _) _ _⟩

/-- What an operation takes from the stack, and puts there. -/
def takesOf (k : Nat) : Nat := if k = 2 ∨ k = 6 ∨ k = 8 then 2 else if k = 0 ∨ k = 1 ∨ k = 10 ∨ 15 < k then 0 else 1
def putsOf (k : Nat) : Nat := if k = 7 ∨ k = 8 then 2 else if k = 0 ∨ k = 9 ∨ k = 10 ∨ k = 11 ∨ 13 < k then 0 else 1
/-- The table's last two columns. -/
def Tab2 (w : World) : Prop := 0 < w.heap.size ∧ ∀ k : Nat, k < 16 → w.cell? ⟨0, k * 5 + 3, none⟩ = some (.int .i64 (takesOf k)) ∧ w.cell? ⟨0, k * 5 + 4, none⟩ = some (.int .i64 (putsOf k))
theorem Tab2.below {w w' : World} {B : Nat} (h : Tab2 w) (hb : Below B w w') (hB : 0 < B) : Tab2 w' :=
  ⟨Nat.lt_of_lt_of_le h.1 hb.size, fun k hk => ⟨(hb.cell (p := ⟨0, _, none⟩) hB).trans (h.2 k hk).1, (hb.cell (p := ⟨0, _, none⟩) hB).trans (h.2 k hk).2⟩⟩

set_option maxHeartbeats 1000000 in
theorem bears_any (b : Nat) (cv : Value) (m : Mst) (k : Nat) (w : World) (hM : MAt w b cv m) (hT : Tab2 w) (h1 : 1 ≤ (k : Int)) (h2 : (k : Int) ≤ 15) (hs : m.size ≤ 50) :
    Calls Tryd.prog 106 #[.pointer (some ⟨b, 0, none⟩), .int .i64 k] w fun e w' => e = .returned (.bool (decide (takesOf k ≤ m.size ∧ m.size - takesOf k + putsOf k ≤ 50))) ∧ Below w.heap.size w w' := by
  have hT0 := hT.1
  obtain ⟨c0, z0⟩ := hM.fld 50 (.int .i64 m.size) (by omega) (by simp [Mst.F])
  obtain ⟨t0, t1⟩ := hT.2 k (by omega)
  have k1 : takesOf k ≤ 2 := by unfold takesOf; split <;> (try split) <;> omega
  have k2 : putsOf k ≤ 2 := by unfold putsOf; split <;> (try split) <;> omega
  clear hM hT
  generalize takesOf k = x at *
  generalize putsOf k = y at *
  by_cases hx : x ≤ m.size
  · go_enter Tryd.func106, Tryd.ntmps106
    go_wp2_with fail
    go_quiet (fail)
    go_wp2
    go_ret
    refine ⟨ret_bool ?_, below_drewN (Below.refl _ _) _⟩
    rw [Bool.eq_iff_iff]
    simp
    omega
  · go_enter Tryd.func106, Tryd.ntmps106
    go_wp2_with fail
    go_quiet (fail)
    go_wp2_with fail
    go_ret
    refine ⟨ret_bool ?_, below_drewN (Below.refl _ _) _⟩
    rw [Bool.eq_iff_iff]
    simp
    omega

end Go.Proofs.YtoaokmdhbagniaaDoor.Vp
