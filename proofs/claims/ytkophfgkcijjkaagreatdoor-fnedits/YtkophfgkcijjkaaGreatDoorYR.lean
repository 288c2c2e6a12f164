import Derived.Test.YtkophfgkcijjkaaGreatDoorYQ
import Derived.Defers
import Derived.Recover
namespace Go.Proofs.YtkophfgkcijjkaaGreatDoor.Vp
open Go.RowKit Go.Maps
theorem is_circle (v : Value) (xT : TypeId) (w : World) : (Instr.typeAssert (.iface 253 v) xT 253 true).run Tryz.prog w = .ok (.tuple #[v, .bool true]) w := by kernel_rfl
theorem no_circle (v : Value) (xT : TypeId) (w : World) : (Instr.typeAssert (.iface 255 v) xT 253 true).run Tryz.prog w = .ok (.tuple #[.agg #[.slice none 0 0], .bool false]) w := by kernel_rfl
theorem is_deep (v : Value) (xT : TypeId) (w : World) : (Instr.typeAssert (.iface 255 v) xT 255 true).run Tryz.prog w = .ok (.tuple #[v, .bool true]) w := by kernel_rfl
set_option maxRecDepth 100000 in
set_option maxHeartbeats 4000000 in
theorem endOfAll_circle (a : Option Addr) (n cap : Nat) (w : World) :
    Calls Tryz.prog 144 #[.iface 253 (.agg #[.slice a n cap])] w fun e w' => e = .returned (.agg #[.int .i64 6, .string ⟨#[]⟩, .slice a n cap]) ∧ Below w.heap.size w w' := by
  have t1 := is_circle
  have t2 := no_circle
  have t3 := is_deep
  go_enter Tryz.func144, Tryz.ntmps144
  go_wp2
  refine bodyPost_ret (v := .agg #[.int .i64 6, .string ⟨#[]⟩, .slice a n cap]) (by simp [results, Tryz.results144, go_sem]) rfl ⟨rfl, ?_⟩
  exact ((Below.refl w.heap.size w).alloc (Nat.le_refl _) _).alloc (by simp) _
set_option maxRecDepth 100000 in
set_option maxHeartbeats 4000000 in
theorem endOfAll_deep (d : ByteArray) (w : World) :
    Calls Tryz.prog 144 #[.iface 255 (.agg #[.string d])] w fun e w' => e = .returned (.agg #[.int .i64 7, .string d, .slice none 0 0]) ∧ Below w.heap.size w w' := by
  have t1 := is_circle
  have t2 := no_circle
  have t3 := is_deep
  go_enter Tryz.func144, Tryz.ntmps144
  go_wp2
  refine bodyPost_ret (v := .agg #[.int .i64 7, .string d, .slice none 0 0]) (by simp [results, Tryz.results144, go_sem]) rfl ⟨rfl, ?_⟩
  exact ((Below.refl w.heap.size w).alloc (Nat.le_refl _) _).alloc (by simp) _
theorem catch_idle (p q : Addr) (w : World) :
    CallsD Tryz.prog 143 #[.pointer (some p), .pointer (some q)] .returning w fun e u' w' => e = .returned (.tuple #[]) ∧ u' = .returning ∧ w' = w := by
  have hq : ∀ w : World, (binOp BinOp.neq 20 .nilIface .nilIface).run Tryz.prog w = .ok (.bool false) w := fun _ => by kernel_rfl
  refine callsD_of_wpS Tryz.func143 rfl fun c₀ cs hu => ?_
  apply wpS_seq
  apply wpS_region
  simp [wpOpsS, go_sem, recoverD, hu, Tryz.ntmps143, Exit.thenS]
  refine wpS_of_wp ?_
  go_wp2
  cases c₀
  simp_all [bodyPostS, results, Tryz.results143]
set_option maxRecDepth 100000 in
set_option maxHeartbeats 4000000 in
theorem catch_panic (p q : Nat) (T : TypeId) (pv : Value) (older : List PanicEntry) (c : Int) (t : ByteArray) (sa : Option Addr) (sn sc : Nat) (w : World) (hE : Calls Tryz.prog 144 #[.iface T pv] w fun e w' => e = .returned (.agg #[.int .i64 c, .string t, .slice sa sn sc]) ∧ Below w.heap.size w w') (v0 v1 v2 v3 : Value) (tp tq : TypeId) (hp : w.heap[p]? = some (.cells #[v0] tp (0, 0))) (hq : w.heap[q]? = some (.cells #[v1, v2, v3] tq (0, 0))) (hpq : ¬ p = q) :
    CallsD Tryz.prog 143 #[.pointer (some ⟨p, 0, none⟩), .pointer (some ⟨q, 0, none⟩)] (.panicking ({ v := .iface T pv, recovered := false } :: older)) w fun e u' w' => e = .returned (.tuple #[]) ∧ u' = .panicking ({ v := .iface T pv, recovered := true } :: older) ∧ ∃ w1, Below w.heap.size w w1 ∧ w' = (((w1.setCell ⟨p, 0, none⟩ (.slice none 0 0)).setCell ⟨q, 0, none⟩ (.int .i64 c)).setCell ⟨q, 1, none⟩ (.string t)).setCell ⟨q, 2, none⟩ (.slice sa sn sc) := by
  refine callsD_of_wpS Tryz.func143 rfl fun c₀ cs hu => ?_
  apply wpS_seq
  apply wpS_region
  simp [wpOpsS, go_sem, recoverD, hu, Tryz.ntmps143, Exit.thenS]
  have hnq : ∀ (w : World) (v : Value), (binOp BinOp.neq 20 (.iface T v) .nilIface).run Tryz.prog w = .ok (.bool true) w := fun _ _ => by kernel_rfl
  have HU := hide hu
  have HP := hide hp
  have HQ := hide hq
  have hpl := heap_lt hp
  have hql := heap_lt hq
  clear hu hp hq
  refine wpS_of_wp ?_
  go_wp2_with fail
  refine hE.mono ?_
  rintro e w1 ⟨rfl, hB⟩
  have B1 := hide hB
  have hp1 := (hB.block p hpl).trans HP.out
  obtain ⟨rl, r0, r1, r2, rf⟩ := three_facts ((hB.block q hql).trans HQ.out)
  have rf0 := rf 0
  have rf1 := rf 1
  have rf2 := rf 2
  have p0 : w1.cell? ⟨p, 0, none⟩ = some v0 := by simp [World.cell?, hp1]
  have pf0 : w1.frozen? ⟨p, 0, none⟩ = false := by simp [World.frozen?, hp1]
  have hpl1 := heap_lt hp1
  have hqp : ¬ q = p := fun e => hpq e.symm
  clear rf hB hp1
  go_wp2
  have hm := HU.out
  cases c₀
  simp only at hm
  subst hm
  refine ⟨rfl, _, rfl, .tuple #[], by simp [results, Tryz.results143], rfl, rfl, w1, B1.out, rfl⟩
end Go.Proofs.YtkophfgkcijjkaaGreatDoor.Vp
