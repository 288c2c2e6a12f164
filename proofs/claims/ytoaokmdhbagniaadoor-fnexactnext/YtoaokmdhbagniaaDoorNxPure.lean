/-
  A run, told without a machine: the stack is a list, its top first.
-/
import Derived.Test.YtoaokmdhbagniaaDoorNxOps
import Derived.Test.YtoaokmdhbagniaaDoorNxWord
namespace Go.Proofs.YtoaokmdhbagniaaDoor.Vp
open Go.RowKit

def Rep (S : Nat → ByteArray) : List ByteArray → Prop
  | [] => True
  | x :: r => S r.length = x ∧ Rep S r
theorem Rep.upd {S : Nat → ByteArray} {r : List ByteArray} {k : Nat} (x : ByteArray) (h : Rep S r) (hk : r.length ≤ k) : Rep (upd S k x) r := by
  induction r with
  | nil => trivial
  | cons y r ih =>
    simp only [List.length_cons] at hk
    refine ⟨?_, ih h.2 (by omega)⟩
    unfold Vp.upd
    rw [if_neg (by omega)]
    exact h.1
theorem Rep.push {S : Nat → ByteArray} {r : List ByteArray} (x : ByteArray) (h : Rep S r) : Rep (Vp.upd S r.length x) (x :: r) :=
  ⟨by simp [Vp.upd], h.upd x (Nat.le_refl _)⟩
theorem Rep.push' {S : Nat → ByteArray} {r : List ByteArray} {x v : ByteArray} (h : Rep S r) (e : x = v) : Rep (Vp.upd S r.length x) (v :: r) := e ▸ h.push x
theorem Rep.at {S : Nat → ByteArray} {r : List ByteArray} {k : Nat} (h : Rep S r) (hk : k < r.length) : S k ∈ r := by
  induction r with
  | nil => simp at hk
  | cons y r ih =>
    by_cases e : k = r.length
    · subst e; simp [h.1]
    · exact List.mem_cons_of_mem _ (ih h.2 (by simp at hk; omega))

inductive Res where
  | go (stk : List ByteArray) (place : Nat)
  | over (code : Int) (text : ByteArray)
  | look (ask : Bool) (name : ByteArray) (stk : List ByteArray)

def lookP (ask : Bool) (a : ByteArray) (r : List ByteArray) (here looks : Nat) : Res :=
  if nameOk a = false then .over 2 (decT here) else if looks = 200 then .over 3 ⟨#[]⟩ else .look ask a r
/-- An instruction for which the stack bears. -/
def performP (op n : Nat) (t : ByteArray) (here looks : Nat) (stk : List ByteArray) : Res :=
  match op, stk with
  | 1, stk => .go (t :: stk) (here + 1)
  | 2, b :: a :: r => if a.size + b.size ≤ 2000 then .go ((a ++ b) :: r) (here + 1) else .over 2 (decT here)
  | 3, a :: r => .go ((if n < a.size then a.extract 0 n else a) :: r) (here + 1)
  | 4, a :: r => .go ((if n < a.size then a.extract n a.size else ⟨#[]⟩) :: r) (here + 1)
  | 5, a :: r => .go (wordT a n :: r) (here + 1)
  | 6, b :: a :: r => .go (flagT (b.toList == a.toList) :: r) (here + 1)
  | 7, a :: r => .go (a :: a :: r) (here + 1)
  | 8, b :: a :: r => .go (a :: b :: r) (here + 1)
  | 9, _ :: r => .go r (here + 1)
  | 10, stk => .go stk n
  | 11, a :: r => .go r (if a.toList = [] ∨ (a.toList == [48]) = true then n else here + 1)
  | 12, a :: r => lookP true a r here looks
  | 13, a :: r => lookP false a r here looks
  | 14, a :: _ => .over 1 a
  | 15, a :: _ => .over 0 a
  | _, _ => .over 0 ⟨#[]⟩

/-- The machine behind a step. -/
def After (m m' : Mst) (res : Res) : Prop := m'.steps = m.steps ∧ match res with
  | .go stk p => Rep m'.S stk ∧ m'.size = stk.length ∧ m'.place = p ∧ m'.looks = m.looks ∧ m'.t = m.t
  | .over c x => m'.t = ⟨true, c, x, false, ⟨#[]⟩, m.steps⟩
  | .look ask name stk => Rep m'.S stk ∧ m'.size = stk.length ∧ m'.place = m.place ∧ m'.looks = m.looks + 1 ∧ m'.t = ⟨false, 0, ⟨#[]⟩, ask, name, m.steps⟩

theorem MAt.bel {w w' : World} {b : Nat} {cv : Value} {m : Mst} (h : MAt w b cv m) (hB : Below w.heap.size w w') : MAt w' b cv m := h.below hB h.lt
theorem Only.bel {b : Nat} {u w w' : World} (h : Only b u w) (hB : Below w.heap.size w w') : Only b u w' := h.trans (Only.of_below hB)
theorem Only.frozen {b : Nat} {w w' : World} (h : Only b w w') (k o : Nat) (hk : k < w.heap.size) (hb : k ≠ b) : w'.frozen? ⟨k, o, none⟩ = w.frozen? ⟨k, o, none⟩ := World.frozen?_of_block (w := w) (a := ⟨k, o, none⟩) (h.block k hk hb)
theorem Only.setNew {b : Nat} {w W : World} (h : Only b w W) (k o : Nat) (v : Value) (hk : w.heap.size ≤ k) : Only b w (W.setCell ⟨k, o, none⟩ v) :=
  ⟨h.os, h.tape, h.output, by simpa [World.setCell] using h.size, fun i hi ho => (Below.heap_setCell _ _ _ _ (by simp; omega)).trans (h.block i hi ho)⟩
theorem MAt.other {w : World} {b : Nat} {cv : Value} {m : Mst} (h : MAt w b cv m) (k o : Nat) (v : Value) (hk : k ≠ b) : MAt (w.setCell ⟨k, o, none⟩ v) b cv m :=
  ⟨by simpa using h.1, fun j hj => ⟨(cell_far w ⟨k, o, none⟩ ⟨b, j, none⟩ v hk).trans (h.2 j hj).1, by have := (h.2 j hj).2; simpa using this⟩⟩
theorem take_is (b : Nat) (cv : Value) (m : Mst) (k : Nat) (v : ByteArray) (w : World) (hM : MAt w b cv m) (hk : m.size = k + 1) (hs : k < 50) (hv : m.S k = v) :
    Calls Tryd.prog 114 #[.pointer (some ⟨b, 0, none⟩)] w fun e w' => e = .returned (.string v) ∧ MAt w' b cv { m with size := k } ∧ Only b w w' := by
  rw [← hv]
  exact take_any b cv m k w hM hk hs
theorem MAt.drew {w : World} {b : Nat} {cv : Value} {m : Mst} (h : MAt w b cv m) : MAt w.drew b cv m := h.below (Below.refl _ _).drew (Nat.lt_succ_self _)
theorem MAt.al {w : World} {b : Nat} {cv : Value} {m : Mst} (h : MAt w b cv m) (o : Obj) : MAt (w.alloc o) b cv m := h.below ((Below.refl w.heap.size _).alloc (Nat.le_refl _) _) h.lt

end Go.Proofs.YtoaokmdhbagniaaDoor.Vp
