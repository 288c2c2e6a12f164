/-
  impl: listing: what is ranged over.
-/
import Derived.Test.YtolpgafkojlkoabDoorCaList
namespace Go.Proofs.YtolpgafkojlkoabDoor.Vp
open Go.RowKit Go.Shelf Go.Proofs.YtolpgafkojlkoabDoor.Ca

attribute [local go_sem] Oper.semAt_some

theorem roundAny {F : Fence} (hd : F.depth = none) {m m' : Nat} {P : Program} {l : Nat} {f : FuncId} {tmps : Array Value} {assign body : Code} {w : World} {R : Ending → World → Prop}
    (h : RoundIn F m P l f tmps assign body w R) : RoundIn F m' P l f tmps assign body w R := ⟨h.1, fun c cs _ => h.2 c cs (fun d h => by rw [hd] at h; cases h)⟩
theorem yieldAny {F : Fence} (hd : F.depth = none) {m : Nat} (m' : Nat) {P : Program} {l : Nat} {args : Array Value} {W : World} {R : Ending → World → Prop} (h : YieldAt F m P l args W R) : YieldAt F m' P l args W R := by
  obtain ⟨fn, tmps, assign, body, hy, hR⟩ := h
  exact ⟨fn, tmps, assign, body, hy, roundAny hd hR⟩

theorem infoBool : (Tryd.prog.info? 4).map (fun i => (i.zero, i.size, i.bytes)) = some (some (.bool false), 1, 1) := by kernel_rfl
def zerosBool (n : Nat) : Array Value := madeCells (Value.bool false).cells n
theorem mkBool (n : Nat) (hn : n ≤ 1048576) (w : World) : (Instr.makeSlice 44 (.int .i64 (n : Int)) (.int .i64 (n : Int))).run Tryd.prog w = .ok (.slice (some ⟨w.heap.size, 0, none⟩) n n) (w.alloc (.cells (zerosBool n) 4)) := by
  obtain ⟨i, hi, hz⟩ := Option.map_eq_some_iff.1 infoBool
  simp only [Prod.mk.injEq] at hz
  obtain ⟨h1, h2, h3⟩ := hz
  have h := run_make (P := Tryd.prog) w 44 4 i _ Tryd.underlying44 hi h1 .i64 .i64 n n (by omega) (Int.le_refl _) (by rw [h3]; omega) (by omega)
  rw [h2] at h
  simpa [zerosBool] using h
theorem zerosBool_at (n q : Nat) (h : q < n) : (zerosBool n)[q]? = some (.bool false) := by
  unfold zerosBool madeCells
  simp [Value.cells, h, Nat.mod_one]
theorem cell_M (W : World) (n q : Nat) (h : q < n) : (W.alloc (.cells (zerosBool n) 4)).cell? ⟨W.heap.size, q, none⟩ = some (.bool false) ∧ (W.alloc (.cells (zerosBool n) 4)).frozen? ⟨W.heap.size, q, none⟩ = false := by
  have e := heap_alloc_new W (.cells (zerosBool n) 4)
  refine ⟨?_, ?_⟩
  · rw [cell_of_row _ _ _ _ _ _ e]
    exact zerosBool_at n q h
  · unfold World.frozen?
    rw [e]
    simp
theorem lst_new1 {w0 W : World} {b off n cap l : Nat} (hlow : Below w0.heap.size w0 W) : LSt w0 ((W.alloc (.cells (zerosBool n) 4)).alloc (.cells #[.slice (some ⟨b, off, none⟩) n cap, .slice (some ⟨W.heap.size, 0, none⟩) n n, .func (.yield l) #[] #[]] 78)).drew W.heap.size b off n cap (W.heap.size + 1) W.heap.size l (fun _ => false) := by
  have hz : (W.alloc (.cells (zerosBool n) 4)).heap.size = W.heap.size + 1 := by simp
  have D : Below (W.heap.size + 1) (W.alloc (.cells (zerosBool n) 4)) ((W.alloc (.cells (zerosBool n) 4)).alloc (.cells #[.slice (some ⟨b, off, none⟩) n cap, .slice (some ⟨W.heap.size, 0, none⟩) n n, .func (.yield l) #[] #[]] 78)).drew := ((Below.refl _ _).alloc (by omega) _).drew
  refine ⟨?_, ?_, ?_, fun q hq => ?_, ((hlow.alloc hlow.size _).alloc (by simp; have := hlow.size; omega) _).drew, by simp, by simp; omega, by omega, hlow.size, ?_, ?_⟩
  · simp
  · simp
  · simp
  · exact ⟨(D.cell (p := ⟨W.heap.size, q, none⟩) (Nat.lt_succ_self _)).trans (cell_M W n q hq).1, (D.frozen (p := ⟨W.heap.size, q, none⟩) (Nat.lt_succ_self _)).trans (cell_M W n q hq).2⟩
  · exact (OfTy.new W _ _).eq (D.block _ (Nat.lt_succ_self _))
  · have h := OfTy.new (W.alloc (.cells (zerosBool n) 4)) #[.slice (some ⟨b, off, none⟩) n cap, .slice (some ⟨W.heap.size, 0, none⟩) n n, .func (.yield l) #[] #[]] 78
    rw [hz] at h
    exact h.eq rfl
theorem lst_new2 {w0 W : World} {b off n cap l : Nat} (hlow : Below w0.heap.size w0 W) : LSt w0 ((W.alloc (.cells #[.slice (some ⟨b, off, none⟩) n cap, .slice (some ⟨W.heap.size + 1, 0, none⟩) n n, .func (.yield l) #[] #[]] 78)).alloc (.cells (zerosBool n) 4)).drew W.heap.size b off n cap W.heap.size (W.heap.size + 1) l (fun _ => false) := by
  have hz : (W.alloc (.cells #[.slice (some ⟨b, off, none⟩) n cap, .slice (some ⟨W.heap.size + 1, 0, none⟩) n n, .func (.yield l) #[] #[]] 78)).heap.size = W.heap.size + 1 := by simp
  have D : Below (W.heap.size + 1) (W.alloc (.cells #[.slice (some ⟨b, off, none⟩) n cap, .slice (some ⟨W.heap.size + 1, 0, none⟩) n n, .func (.yield l) #[] #[]] 78)) ((W.alloc (.cells #[.slice (some ⟨b, off, none⟩) n cap, .slice (some ⟨W.heap.size + 1, 0, none⟩) n n, .func (.yield l) #[] #[]] 78)).alloc (.cells (zerosBool n) 4)).drew := ((Below.refl _ _).alloc (by omega) _).drew
  refine ⟨(D.cell (p := ⟨W.heap.size, 0, none⟩) (Nat.lt_succ_self _)).trans (by simp), (D.cell (p := ⟨W.heap.size, 1, none⟩) (Nat.lt_succ_self _)).trans (by simp), (D.cell (p := ⟨W.heap.size, 2, none⟩) (Nat.lt_succ_self _)).trans (by simp), fun q hq => ?_, ((hlow.alloc hlow.size _).alloc (by simp; have := hlow.size; omega) _).drew, by simp; omega, by simp, by omega, hlow.size, ?_, ?_⟩
  · have h := cell_M (W.alloc (.cells #[.slice (some ⟨b, off, none⟩) n cap, .slice (some ⟨W.heap.size + 1, 0, none⟩) n n, .func (.yield l) #[] #[]] 78)) n q hq
    rw [hz] at h
    exact h
  · have h := OfTy.new (W.alloc (.cells #[.slice (some ⟨b, off, none⟩) n cap, .slice (some ⟨W.heap.size + 1, 0, none⟩) n n, .func (.yield l) #[] #[]] 78)) (zerosBool n) 4
    rw [hz] at h
    exact h.eq rfl
  · exact (OfTy.new W _ _).eq (D.block _ (Nat.lt_succ_self _))

/-- listing(a) hands over a function that has caught the box of a. -/
theorem listing_in (v : Value) (w : World) (nn : Nat) :
    CallsIn Fence.wide nn Tryd.prog 25 #[.agg #[v]] w fun e w' => e = .returned (.func (.func 36) #[] #[.pointer (some ⟨w.heap.size, 0, none⟩)]) ∧ w' = w.alloc (.cells #[v] 30) := by
  refine callsIn_of_wp Tryd.func25 rfl trivial ?_ rfl
  simp only [Tryd.ntmps25, List.size_toArray, List.length_cons, List.length_nil, Nat.reduceAdd, Nat.reduceSub, Array.replicate_succ, Array.replicate_zero, List.push_toArray, List.append_toArray, List.nil_append, List.cons_append]
  gi_wp2
  go_ret
  exact ⟨rfl, rfl⟩

set_option maxRecDepth 100000 in
set_option maxHeartbeats 4000000 in
theorem listing_seq2 {T : TypeId} (hT : T ≠ 4 ∧ T ≠ 78) (w0 : World) (b off n cap Bx nn : Nat) (f : Nat → Deed) (w : World) (hA : Ahead f n) (hn1 : 1 ≤ n) (hn : (n : Int) ≤ 400) (hf : RowDeed w0 b off n f) (hlk : ∀ p, p < n → (f p).linksN ≤ 200) (hlow : Below w0.heap.size w0 w) (hBx : w.cell? ⟨Bx, 0, none⟩ = some (.slice (some ⟨b, off, none⟩) n cap)) (hlt : Bx < w.heap.size) :
    SeqT2 T 4 Fence.wide nn Tryd.prog 36 #[.pointer (some ⟨Bx, 0, none⟩)] (fun x : Nat × Nat => #[Value.int .i64 (x.1 : Int), Value.int .i64 (x.2 : Int)]) (fun pre x => x.1 < n ∧ pre ++ [x] <+: listing f n) w0.heap.size (fun xs => xs = listing f n) (fun pre => pre <+: listing f n) w := by
  intro l J Jx W hW hJ hJx hY h0
  have hl := list_in hT w0 W.heap.size b off n cap
  have HLI := hide hl
  clear hl
  have hB := (hW.cell (p := ⟨Bx, 0, none⟩) hlt).trans hBx
  have hmk := fun w => mkBool n (by omega) w
  have hwb : IntKind.i64.wrap ((n : Int) - 1) = (n : Int) - 1 := by rw [IntKind.wrap_i64]; omega
  have HJ := hide hJ
  have HJx := hide hJx
  have HY := hide hY
  have H0 := hide h0
  have HA := hide hA
  have HF := hide hf
  have HLK := hide hlk
  have HLOW := hide (hlow.trans (hW.mono hlow.size))
  have hBl : Bx < W.heap.size := Nat.lt_of_lt_of_le hlt hW.size
  clear hJ hJx hY h0 hA hf hlk hlow hW hBx hlt
  refine callsIn_of_wp Tryd.func36 rfl trivial ?_ rfl
  simp only [Tryd.ntmps36, List.size_toArray, List.length_cons, List.length_nil, Nat.reduceAdd, Nat.reduceSub, Array.replicate_succ, Array.replicate_zero, List.push_toArray, List.append_toArray, List.nil_append, List.cons_append]
  have key : ∀ L M W2, LSt w0 W2 W.heap.size b off n cap L M l (fun _ => false) → Below W.heap.size W W2 → CallsIn Fence.wide (nn - 1) Tryd.prog 37 #[.pointer (some ⟨L, 0, none⟩), .int .i64 ((n : Int) - 1), .int .i64 0] W2 fun e W' =>
      ∃ r : Bool, e = .returned (.bool r) ∧ Hid ((∃ xs, xs = listing f n ∧ J xs W') ∨ (∃ pre, pre <+: listing f n ∧ Jx pre W')) := by
    intro L M W2 hS hB2
    have h := HLI.out L M l (listing f n) f J Jx HA hn HF HLK HJ HJx (fun m pre x W1 h0 h1 h2 h3 => yieldAny rfl m (HY pre x W1 ⟨h0, h2⟩ h1 h3)) n (n - 1) 0 (fun _ => false) [] W2 (nn - 1) (by omega) (by omega) (by omega) hS rfl (HJ _ _ _ H0 (Itr.of_below hB2 (Nat.le_refl _) (Nat.le_refl _))) (by simp [listing])
    rw [show ((n - 1 : Nat) : Int) = (n : Int) - 1 by omega] at h
    refine h.mono fun e W' h => ?_
    rcases h with ⟨he, hj, _⟩ | ⟨he, q, hq, hx⟩
    · exact ⟨true, he, .inl ⟨_, rfl, by simpa [listing] using hj⟩⟩
    · exact ⟨false, he, .inr ⟨q, hq, by simpa using hx⟩⟩
  have HKEY := hide key
  have D1 := hide (((Below.refl W.heap.size W).alloc (Nat.le_refl _) (.cells (zerosBool n) 4)).alloc (by simp) (.cells #[.slice (some ⟨b, off, none⟩) n cap, .slice (some ⟨W.heap.size, 0, none⟩) n n, .func (.yield l) #[] #[]] 78)).drew
  have D2 := hide (((Below.refl W.heap.size W).alloc (Nat.le_refl _) (.cells #[.slice (some ⟨b, off, none⟩) n cap, .slice (some ⟨W.heap.size + 1, 0, none⟩) n n, .func (.yield l) #[] #[]] 78)).alloc (by simp) (.cells (zerosBool n) 4)).drew
  have hfw : ∀ f, Fence.wide.fn f = True := fun _ => rfl
  clear key HLI HJ HJx HY H0 HA HF HLK
  gi_upto_region 0 with fail
  gi_cut [3] from 4 (fun s3 wx => ∃ L, s3 = .pointer (some ⟨L, 0, none⟩) ∧ Hid (∃ M, LSt w0 wx W.heap.size b off n cap L M l (fun _ => false)) ∧ Hid (Below W.heap.size W wx))
  case first =>
    have hsf := fun (w : World) (a : Addr) (m : Mode) => run_store Tryd.prog w a (.func (.yield l) #[] #[]) m rfl
    gi_region_with fail
    all_goals
      gi_wp2_with fail
      gi_meet
      first
        | exact ⟨W.heap.size + 1, rfl, ⟨W.heap.size, lst_new1 HLOW⟩, D1⟩
        | exact ⟨W.heap.size, rfl, ⟨W.heap.size + 1, lst_new2 HLOW⟩, D2⟩
  case rest =>
  obtain ⟨L, rfl, HS, HB⟩ := hcut
  have hB1 := (HB.cell (p := ⟨Bx, 0, none⟩) hBl).trans hB
  have HC : Hid (CallsIn Fence.wide (nn - 1) Tryd.prog 37 #[.pointer (some ⟨L, 0, none⟩), .int .i64 ((n : Int) - 1), .int .i64 0] wc fun e W' => ∃ r : Bool, e = .returned (.bool r) ∧ Hid ((∃ xs, xs = listing f n ∧ J xs W') ∨ (∃ pre, pre <+: listing f n ∧ Jx pre W'))) := by
    obtain ⟨M, hS⟩ := HS.out
    exact HKEY L M wc hS HB
  clear HKEY HS hmk HB HLOW D1 D2 hB
  gi_wp2_with ((try refine ⟨fun h => (by cases h), ?_⟩); gi_at_call 37; refine HC.mono ?_; rintro e W3 ⟨r, rfl, H3⟩)
  go_end0
  exact ⟨⟨_, rfl⟩, H3⟩

theorem listing_seq (w0 : World) (b off n cap Bx nn : Nat) (f : Nat → Deed) (w : World) (hA : Ahead f n) (hn1 : 1 ≤ n) (hn : (n : Int) ≤ 400) (hf : RowDeed w0 b off n f) (hlk : ∀ p, p < n → (f p).linksN ≤ 200) (hlow : Below w0.heap.size w0 w) (hBx : w.cell? ⟨Bx, 0, none⟩ = some (.slice (some ⟨b, off, none⟩) n cap)) (hlt : Bx < w.heap.size) :
    SeqT Fence.wide nn Tryd.prog 36 #[.pointer (some ⟨Bx, 0, none⟩)] (fun x : Nat × Nat => #[Value.int .i64 (x.1 : Int), Value.int .i64 (x.2 : Int)]) (fun x => x.1 < n) w0.heap.size (fun xs => xs = listing f n) (fun pre => pre <+: listing f n) (listing f n).length w :=
  (listing_seq2 (T := 41) ⟨by decide, by decide⟩ w0 b off n cap Bx nn f w hA hn1 hn hf hlk hlow hBx hlt).plain fun pre x h => ⟨h.1, by have := h.2.length_le; simp at this; omega⟩

end Go.Proofs.YtolpgafkojlkoabDoor.Vp
