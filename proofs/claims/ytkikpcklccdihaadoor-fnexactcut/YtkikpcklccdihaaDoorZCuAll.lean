/-
  The copies of the deeds, their links under way to the new places.
-/
import Derived.Test.YtkikpcklccdihaaDoorZCuCopy
namespace Go.Proofs.YtkikpcklccdihaaDoor.Vp
open Go.RowKit Go.Proofs.YtkikpcklccdihaaDoor.Ca

/-- A row of deeds in blocks of [base, X), each with rows of its own there; the links of deed q are cur q. -/
structure AllB (w : World) (base X : Nat) (va : Value) (R : List DR) (cur : Nat → Nat → Link) : Prop where
  own : w.ownsRow base 49 6 va R.length (R.flatMap ddV)
  act : ∀ (q : Nat) (r : DR), R[q]? = some r → w.ownsRow base 92 3 r.2.1 r.1.actN (insL r.1.act r.1.actN)
  lnk : ∀ (q : Nat) (r : DR), R[q]? = some r → w.ownsRow base 51 4 r.2.2 r.1.linksN (lnkL (cur q) r.1.linksN)
  apart : R.Pairwise fun a b => Apt a.2.2 b.2.2
  top : ∀ k, va.ownBlock = some k → k < X
  topA : ∀ (q : Nat) (r : DR), R[q]? = some r → ∀ k, r.2.1.ownBlock = some k → k < X
  topL : ∀ (q : Nat) (r : DR), R[q]? = some r → ∀ k, r.2.2.ownBlock = some k → k < X
theorem DRow.allB {w : World} {base : Nat} {va : Value} {R : List DR} (h : DRow w base va R) : AllB w base w.heap.size va R (fun q => (rAt R q).1.links) :=
  ⟨h.own, fun q r hr => (h.sub r (List.mem_of_getElem? hr)).act, fun q r hr => by rw [rAt_eq hr]; exact (h.sub r (List.mem_of_getElem? hr)).lnk, h.up.imp fun hh => hh.2, fun k hk => (h.own.lt k hk).2, fun q r hr k hk => ((h.sub r (List.mem_of_getElem? hr)).act.lt k hk).2, fun q r hr k hk => ((h.sub r (List.mem_of_getElem? hr)).lnk.lt k hk).2⟩
theorem AllB.keep {w w' : World} {base X : Nat} {va : Value} {R : List DR} {cur : Nat → Nat → Link} (h : AllB w base X va R cur) (hk : ∀ k, base ≤ k → k < X → w'.heap[k]? = w.heap[k]?) : AllB w' base X va R cur :=
  ⟨cu_blk h.own fun k e _ => hk k (h.own.lt k e).1 (h.top k e), fun q r hr => cu_blk (h.act q r hr) fun k e _ => hk k ((h.act q r hr).lt k e).1 (h.topA q r hr k e), fun q r hr => cu_blk (h.lnk q r hr) fun k e _ => hk k ((h.lnk q r hr).lt k e).1 (h.topL q r hr k e), h.apart, h.top, h.topA, h.topL⟩
theorem AllB.below {w w' : World} {base X B : Nat} {va : Value} {R : List DR} {cur : Nat → Nat → Link} (h : AllB w base X va R cur) (hb : Below B w w') (hB : X ≤ B) : AllB w' base X va R cur := h.keep fun k _ hX => hb.block k (by omega)
theorem AllB.set {w : World} {base X : Nat} {va : Value} {R : List DR} {cur : Nat → Nat → Link} (h : AllB w base X va R cur) {p : Addr} (hp : X ≤ p.block) (v : Value) : AllB (w.setCell p v) base X va R cur := h.keep fun k _ hX => Below.heap_setCell _ _ _ _ (by omega)
theorem AllB.congr {w : World} {base X : Nat} {va : Value} {R : List DR} {cur cur' : Nat → Nat → Link} (h : AllB w base X va R cur) (he : ∀ (q : Nat) (r : DR), R[q]? = some r → lnkL (cur q) r.1.linksN = lnkL (cur' q) r.1.linksN) : AllB w base X va R cur' :=
  ⟨h.own, h.act, fun q r hr => by rw [← he q r hr]; exact h.lnk q r hr, h.apart, h.top, h.topA, h.topL⟩
theorem AllB.setLink {w : World} {base X : Nat} {va : Value} {R : List DR} {cur : Nat → Nat → Link} (h : AllB w base X va R cur) {q : Nat} {r : DR} (hr : R[q]? = some r) {g c k : Nat} (hg : r.2.2 = .slice (some ⟨g, 0, none⟩) r.1.linksN c) (hk : k < r.1.linksN) (x : Int) :
    AllB (w.setCell ⟨g, k * 4 + 3, none⟩ (.int .i64 x)) base X va R (fun q' => if q' = q then (fun j => if j = k then { cur q j with at_ := x } else cur q j) else cur q') := by
  have hl := h.lnk q r hr
  rw [hg] at hl
  have htg := cu_ty hl g rfl
  have far : ∀ {e : TypeId} (k' : Nat), OfTy w k' e → e ≠ 51 → (w.setCell ⟨g, k * 4 + 3, none⟩ (.int .i64 x)).heap[k']? = w.heap[k']? := fun k' ht hne => Below.heap_setCell _ _ _ _ (fun e => by
    subst e
    exact htg.ne hne ht)
  refine ⟨cu_blk h.own fun k' _ ht => far k' ht (by decide), fun q' r' hr' => cu_blk (h.act q' r' hr') fun k' _ ht => far k' ht (by decide), fun q' r' hr' => ?_, h.apart, h.top, h.topA, h.topL⟩
  by_cases e : q' = q
  · subst e
    rw [hr] at hr'
    cases hr'
    rw [if_pos rfl, hg]
    exact own_setLink hl hk x
  · rw [if_neg e]
    refine cu_blk (h.lnk q' r' hr') fun k' hk' _ => Below.heap_setCell _ _ _ _ (fun e' => ?_)
    subst e'
    have hi := (List.getElem?_eq_some_iff.1 hr).1
    have hi' := (List.getElem?_eq_some_iff.1 hr').1
    have e1 := (List.getElem?_eq_some_iff.1 hr).2
    have e2 := (List.getElem?_eq_some_iff.1 hr').2
    rcases Nat.lt_or_gt_of_ne e with hlt | hlt
    · have := List.pairwise_iff_getElem.1 h.apart q' q hi' hi hlt
      rw [e1, e2, Apt, hk', hg] at this
      simp [Value.ownBlock] at this
    · have := List.pairwise_iff_getElem.1 h.apart q q' hi hi' hlt
      rw [e1, e2, Apt, hk', hg] at this
      simp [Value.ownBlock] at this
/-- A row of some of them. -/
theorem AllB.rows {w : World} {base X base2 c : Nat} {va : Value} {a : Option Addr} {R : List DR} {cur : Nat → Nat → Link} {pre : List Nat} (h : AllB w base X va R cur) (ho : w.ownsRow base2 49 6 (.slice a pre.length c) pre.length ((pre.map (rAt R)).flatMap ddV)) (hpre : ∀ q ∈ pre, q < R.length) (g : Nat → Deed)
    (hg : ∀ i (hi : i < pre.length), (g i).name = (rAt R pre[i]).1.name ∧ (g i).kind = (rAt R pre[i]).1.kind ∧ (g i).code = (rAt R pre[i]).1.code ∧ (g i).text = (rAt R pre[i]).1.text ∧ (g i).actN = (rAt R pre[i]).1.actN ∧ (g i).act = (rAt R pre[i]).1.act ∧ (g i).linksN = (rAt R pre[i]).1.linksN ∧ lnkL (g i).links (g i).linksN = lnkL (cur pre[i]) (g i).linksN) : SlDeed w a pre.length g := by
  by_cases hz : pre.length = 0
  · exact .inl hz
  · obtain ⟨gb, c', e⟩ := cu_some ho (by omega)
    cases e
    refine .inr ⟨gb, 0, rfl, (own_lt ho).2, fun i hi => ?_⟩
    obtain ⟨g0, g1, g2, g3, g4, g5, g6, g7⟩ := hg i hi
    have hq := hpre pre[i] (List.getElem_mem hi)
    have hr : R[pre[i]]? = some (rAt R pre[i]) := by
      rw [List.getElem?_eq_getElem hq]
      exact congrArg some (rAt_eq (List.getElem?_eq_getElem hq)).symm
    have hm : (pre.map (rAt R))[i]? = some (rAt R pre[i]) := by rw [List.getElem?_map, List.getElem?_eq_getElem hi]; rfl
    have c : ∀ j, j < 6 → ∀ u, (ddV (rAt R pre[i]))[j]? = some u → w.cell? ⟨gb, 0 + i * 6 + j, none⟩ = some u := fun j hj u hu => by
      rw [show 0 + i * 6 + j = i * 6 + j by omega]
      exact (own_cell ho (j := i * 6 + j) (u := u) (by rw [flat_at ddV 6 (fun _ => rfl) _ i j hj _ hm]; exact hu)).1
    have hA := h.act _ _ hr
    have hL := h.lnk _ _ hr
    generalize rAt R pre[i] = r at hA hL c g0 g1 g2 g3 g4 g5 g6
    have hs : DSub w base ({ name := r.1.name, kind := r.1.kind, code := r.1.code, text := r.1.text, actN := r.1.actN, act := r.1.act, linksN := r.1.linksN, links := cur pre[i] }, r.2) := ⟨hA, hL⟩
    obtain ⟨a4, c4, e4, h4⟩ := hs.ins
    obtain ⟨a5, c5, e5, h5⟩ := hs.links
    refine ⟨by rw [g0]; exact c 0 (by omega) _ rfl, by rw [g1]; exact c 1 (by omega) _ rfl, by rw [g2]; exact c 2 (by omega) _ rfl, by rw [g3]; exact c 3 (by omega) _ rfl, ⟨a4, c4, by rw [g4, ← show r.2.1 = Value.slice a4 r.1.actN c4 from e4]; exact c 4 (by omega) _ rfl, by rw [g4, g5]; exact h4⟩, ⟨a5, c5, by rw [g6, ← show r.2.2 = Value.slice a5 r.1.linksN c5 from e5]; exact c 5 (by omega) _ rfl, ?_⟩⟩
    rw [g6]
    rw [g6] at g7
    by_cases hz5 : r.1.linksN = 0
    · exact .inl hz5
    · obtain ⟨gl, cl, el⟩ := cu_some hL (by omega)
      rw [el] at hL
      have e5' : r.2.2 = Value.slice a5 r.1.linksN c5 := e5
      rw [el] at e5'
      cases e5'
      rw [← g7] at hL
      exact .inr ⟨gl, 0, rfl, own_link hL⟩

end Go.Proofs.YtkikpcklccdihaaDoor.Vp
