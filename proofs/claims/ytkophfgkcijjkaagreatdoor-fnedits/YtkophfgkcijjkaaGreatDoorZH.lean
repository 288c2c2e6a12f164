import Derived.OneCell
import Derived.Maps.AppendAt
import Derived.Deep.RegionLaw
import Derived.Test.YtkophfgkcijjkaaGreatDoorZE
namespace Go.Proofs.YtkophfgkcijjkaaGreatDoor.Vp
open Go.RowKit
theorem one_new (w : World) (x : Value) (t : TypeId) : ∀ j u, [x][j]? = some u → (w.alloc (.cells #[x] t)).cell? ((⟨w.heap.size, 0, none⟩ : Addr).add j) = some u := by
  intro j u hj
  match j, hj with
  | 0, hj => simp at hj; subst hj; simp [Addr.add]
theorem step_append_own {P : Program} {w : World} {ops : Array Oper} {o : Oper} {a : Act} {K : Act → World → Prop} {Q : Exit → Act → World → Prop} {E : Prop} (hg : o.guard = none) (s x : Operand) (t : TypeId)
    (ho : o.op = .call { callee := .builtin .append, args := #[s, x], argTypes := #[t, t] })
    (base : Nat) (e : TypeId) (i : TypeInfo) (z : Value) (size bytes : Nat) (ht : P.underlying t = some (.slice e)) (hi : P.info? e = some i) (hz : i.zero = some z)
    (hsize : i.size = size) (hby : i.bytes = bytes) (hzs : z.cells.size = size) (hsz : 0 < size)
    (v : Value) (n : Nat) (xs : List Value) (hs : a.eval s = v) (hown : w.ownsRow base e size v n xs)
    (ad : Addr) (m c : Nat) (news : List Value) (hx : a.eval x = .slice (some ad) m c) (hl : news.length = m * size) (hnews : ∀ j u, news[j]? = some u → w.cell? (ad.add j) = some u) (h1 : ∀ u ∈ news, u.oneCell' = true)
    (h63 : n + m ≤ maxLen) (hbytes : (n + m) * bytes ≤ 140737488355328) (hbase : base ≤ w.heap.size)
    (h : ∀ v' w', w'.ownsRow base e size v' (n + m) (xs ++ news) → w.grownBy w' v.ownBlock → (v' = .slice none 0 0 ↔ v = .slice none 0 0 ∧ m = 0) → K (a.put o.dst v') w') :
    if Region.wanted o (yielded ops a.tmps) = true then Oper.wp P o a w K Q else E := by
  have hw : Region.wanted o (yielded ops a.tmps) = true := by simp [Region.wanted, hg]
  rw [if_pos hw]
  exact wp_append_own w s x t ho base e i z size bytes ht hi hz hsize hby hzs hsz v n xs hs hown ad m c news hx hl hnews h1 h63 hbytes hbase h
theorem own_below {w w' : World} {base B : Nat} {e : TypeId} {size n : Nat} {v : Value} {xs : List Value} (h : w.ownsRow base e size v n xs) (hb : Below B w w') (hB : w.heap.size ≤ B) : w'.ownsRow base e size v n xs :=
  h.kept (row := none) ⟨hb.os, hb.tape, hb.output, hb.size, fun k hk _ => hb.block k (Nat.lt_of_lt_of_le hk hB)⟩ (by cases v.ownBlock <;> simp)
theorem own_mono {w : World} {base base' : Nat} {e : TypeId} {size n : Nat} {v : Value} {xs : List Value} (h : w.ownsRow base e size v n xs) (hb : base' ≤ base) : w.ownsRow base' e size v n xs := by
  refine ⟨h.1, ?_⟩
  rcases h.2 with h | ⟨g, cap, cur, hv, hg, r⟩
  · exact .inl h
  · exact .inr ⟨g, cap, cur, hv, Nat.le_trans hb hg, r⟩
theorem box1 (W : World) (cs : Array Value) (ty : TypeId) (g j : Nat) (v : Value) (hg : g = W.heap.size) (hv : cs[j]? = some v) : (W.alloc (.cells cs ty)).cell? ⟨g, j, none⟩ = some v := by
  subst hg
  simp [hv]
theorem own_form {w : World} {base n : Nat} {e : TypeId} {v : Value} {xs : List Value} (h : w.ownsRow base e 1 v n xs) (hn : 0 < n) : ∃ g cap, v = .slice (some ⟨g, 0, none⟩) n cap := by
  rcases h.2 with ⟨_, h0⟩ | ⟨g, cap, cur, hv, _⟩
  · omega
  · exact ⟨g, cap, hv⟩
end Go.Proofs.YtkophfgkcijjkaaGreatDoor.Vp
namespace Go.Proofs.YtkophfgkcijjkaaGreatDoor.Vp
open Go.RowKit
def rowL (g : Nat → ByteArray) (n : Nat) : List Value := (List.range n).map fun i => .string (g i)
theorem rowL_succ (g : Nat → ByteArray) (n : Nat) : rowL g (n + 1) = rowL g n ++ [.string (g n)] := by simp [rowL, List.range_succ]
theorem own_sl {w : World} {base n : Nat} {e : TypeId} {v : Value} {g : Nat → ByteArray} (h : w.ownsRow base e 1 v n (rowL g n)) : ∃ a cap, v = .slice a n cap ∧ SlStr w a n g := by
  rcases h.2 with ⟨rfl, rfl⟩ | ⟨b, cap, cur, rfl, hb, hg, _⟩
  · exact ⟨none, 0, rfl, .inl rfl⟩
  · refine ⟨_, cap, rfl, .inr ⟨b, 0, rfl, lt_of_block hg, fun i hi => ?_⟩⟩
    have := h.cells (g := b) rfl i (.string (g i)) (by simp [rowL, hi])
    rw [Nat.zero_add]
    have ha : (⟨b, 0, none⟩ : Addr).add i = ⟨b, i, none⟩ := by
      unfold Addr.add
      split <;> simp_all
    rwa [ha] at this
set_option maxRecDepth 100000 in
set_option maxHeartbeats 2000000 in
theorem sourceNames_row (b off n c0 : Nat) (v1 : Value) (a1 : Option Addr) (n1 c1 : Nat) (hv1 : v1 = .slice a1 n1 c1) (f : Nat → Source) (w : World) (hn : (n : Int) ≤ 1048576) (hr : RowSource w b off n f) :
    Calls Tryz.prog 65 #[.agg #[.slice (some ⟨b, off, none⟩) n c0, v1]] w fun e w' => ∃ a cap, e = .returned (.slice a n cap) ∧ SlStr w' a n (fun i => (f i).name) ∧ Below w.heap.size w w' := by
  subst hv1
  have HR := hide hr
  clear hr
  obtain ⟨i0', hi, hy0, hy1, hy2⟩ := info_parts infoString
  have A0 := hide ((Below.refl w.heap.size w).alloc (Nat.le_refl _) (.cells #[.slice (some ⟨b, off, none⟩) n c0, .slice a1 n1 c1] 26))
  go_enter Tryz.func65, Tryz.ntmps65
  go_wp2
  go_loopw [3, 9] (fun v i wr => ∃ k : Nat, k ≤ n ∧ i = .int .i64 k ∧ Hid (wr.ownsRow w.heap.size 9 1 v k (rowL (fun i => (f i).name) k)) ∧ Below w.heap.size w wr) (fun _ i _ => n - (intOf i).toNat)
  case atStart => exact ⟨0, by omega, rfl, World.ownsRow_nil _ _ _ _, A0.out⟩
  case round =>
    obtain ⟨k, hk, rfl, OW, hB⟩ := hrel
    have HB := hide hB
    have hsz : w.heap.size ≤ wr.heap.size := hB.size
    clear hB
    by_cases hlt : k < n
    · obtain ⟨d0, d1⟩ := (HR.out.2 k hlt).below HB.out HR.out.1
      go_wp2_with (at_builtin; refine wpList_append_own _ rfl (.tmp 13) (.tmp 16) 39 rfl w.heap.size 9 i0' (.string ⟨#[]⟩) 1 16 Tryz.underlying39 hi hy0 hy1 hy2 rfl (by decide) _ k (rowL (fun i => (f i).name) k) (by simp [Act.eval]) ((OW.out.alloc _).alloc _) ⟨wr.heap.size + 1, 0, none⟩ 1 1 [.string (f k).name] (by simp [Act.eval]) rfl (by rw [show wr.heap.size + 1 = (wr.alloc (.cells #[.string (f k).name, .string (f k).text] 100)).heap.size by simp]; exact one_new _ _ _) (by simp [Value.oneCell']) (by unfold maxLen; omega) (by omega) (by simp; omega) ?_; intro v' w2 hown hgrow hnil; have O2 := hide hown; have B2 := hide (Below.grown ((HB.out.alloc hsz (.cells #[.string (f k).name, .string (f k).text] 100)).alloc (by simp; omega) (.cells #[.string (f k).name] 9)) hgrow (by simp; omega) (fun j e => (OW.out.lt j e).1)); clear hown hgrow hnil)
      exact ⟨⟨k + 1, by omega, by go_num, by show World.ownsRow _ _ _ _ _ _ _; rw [rowL_succ]; exact O2.out, B2.out⟩, by simp [intOf]; omega⟩
    · have e : k = n := by omega
      subst e
      obtain ⟨a, cap, rfl, hsl⟩ := own_sl OW.out
      have HSl := hide hsl
      clear hsl
      go_wp2
      go_ret
      exact ⟨a, cap, rfl, HSl.out, HB.out⟩
set_option maxHeartbeats 1000000 in
theorem sourceNames_nil (a0 : Option Addr) (c0 : Nat) (a1 : Option Addr) (n1 c1 : Nat) (g : Nat → ByteArray) (w : World) :
    Calls Tryz.prog 65 #[.agg #[.slice a0 0 c0, .slice a1 n1 c1]] w fun e w' => ∃ a cap, e = .returned (.slice a 0 cap) ∧ SlStr w' a 0 g ∧ Below w.heap.size w w' := by
  have A0 := hide ((Below.refl w.heap.size w).alloc (Nat.le_refl _) (.cells #[.slice a0 0 c0, .slice a1 n1 c1] 26))
  go_enter Tryz.func65, Tryz.ntmps65
  go_wp2
  go_loopw [3, 9] (fun v i wr => v = .slice none 0 0 ∧ i = .int .i64 0 ∧ Below w.heap.size w wr) (fun _ _ _ => 0)
  case atStart => exact ⟨rfl, rfl, A0.out⟩
  case round =>
    obtain ⟨rfl, rfl, hB⟩ := hrel
    have HB := hide hB
    clear hB
    go_wp2
    go_ret
    exact ⟨none, 0, rfl, .inl rfl, HB.out⟩
theorem sourceNames_any (a0 : Option Addr) (n c0 : Nat) (a1 : Option Addr) (n1 c1 : Nat) (f : Nat → Source) (w : World) (hn : (n : Int) ≤ 1048576) (hr : SlSource w a0 n f) :
    Calls Tryz.prog 65 #[.agg #[.slice a0 n c0, .slice a1 n1 c1]] w fun e w' => ∃ a cap, e = .returned (.slice a n cap) ∧ SlStr w' a n (fun i => (f i).name) ∧ Below w.heap.size w w' := by
  rcases hr with rfl | ⟨b, off, rfl, hr⟩
  · exact sourceNames_nil a0 c0 a1 n1 c1 _ w
  · exact sourceNames_row b off n c0 _ a1 n1 c1 rfl f w hn hr
set_option maxRecDepth 100000 in
set_option maxHeartbeats 2000000 in
theorem targetNames_row (b off n c0 : Nat) (v1 : Value) (a1 : Option Addr) (n1 c1 : Nat) (hv1 : v1 = .slice a1 n1 c1) (f : Nat → Target) (w : World) (hn : (n : Int) ≤ 1048576) (hr : RowTarget w b off n f) :
    Calls Tryz.prog 66 #[.agg #[v1, .slice (some ⟨b, off, none⟩) n c0]] w fun e w' => ∃ a cap, e = .returned (.slice a n cap) ∧ SlStr w' a n (fun i => (f i).name) ∧ Below w.heap.size w w' := by
  subst hv1
  have HR := hide hr
  clear hr
  obtain ⟨i0', hi, hy0, hy1, hy2⟩ := info_parts infoString
  have A0 := hide ((Below.refl w.heap.size w).alloc (Nat.le_refl _) (.cells #[.slice a1 n1 c1, .slice (some ⟨b, off, none⟩) n c0] 26))
  go_enter Tryz.func66, Tryz.ntmps66
  go_wp2
  go_loopw [3, 9] (fun v i wr => ∃ k : Nat, k ≤ n ∧ i = .int .i64 k ∧ Hid (wr.ownsRow w.heap.size 9 1 v k (rowL (fun i => (f i).name) k)) ∧ Below w.heap.size w wr) (fun _ i _ => n - (intOf i).toNat)
  case atStart => exact ⟨0, by omega, rfl, World.ownsRow_nil _ _ _ _, A0.out⟩
  case round =>
    obtain ⟨k, hk, rfl, OW, hB⟩ := hrel
    have HB := hide hB
    have hsz : w.heap.size ≤ wr.heap.size := hB.size
    clear hB
    by_cases hlt : k < n
    · obtain ⟨d0, ka, kc, d1, _⟩ := (HR.out.2 k hlt).below HB.out (Nat.le_refl _) HR.out.1
      go_wp2_with (at_builtin; refine wpList_append_own _ rfl (.tmp 13) (.tmp 16) 39 rfl w.heap.size 9 i0' (.string ⟨#[]⟩) 1 16 Tryz.underlying39 hi hy0 hy1 hy2 rfl (by decide) _ k (rowL (fun i => (f i).name) k) (by simp [Act.eval]) ((OW.out.alloc _).alloc _) ⟨wr.heap.size + 1, 0, none⟩ 1 1 [.string (f k).name] (by simp [Act.eval]) rfl (by rw [show wr.heap.size + 1 = (wr.alloc (.cells #[.string (f k).name, .slice ka (f k).actN kc] 104)).heap.size by simp]; exact one_new _ _ _) (by simp [Value.oneCell']) (by unfold maxLen; omega) (by omega) (by simp; omega) ?_; intro v' w2 hown hgrow hnil; have O2 := hide hown; have B2 := hide (Below.grown ((HB.out.alloc hsz (.cells #[.string (f k).name, .slice ka (f k).actN kc] 104)).alloc (by simp; omega) (.cells #[.string (f k).name] 9)) hgrow (by simp; omega) (fun j e => (OW.out.lt j e).1)); clear hown hgrow hnil)
      exact ⟨⟨k + 1, by omega, by go_num, by show World.ownsRow _ _ _ _ _ _ _; rw [rowL_succ]; exact O2.out, B2.out⟩, by simp [intOf]; omega⟩
    · have e : k = n := by omega
      subst e
      obtain ⟨a, cap, rfl, hsl⟩ := own_sl OW.out
      have HSl := hide hsl
      clear hsl
      go_wp2
      go_ret
      exact ⟨a, cap, rfl, HSl.out, HB.out⟩
set_option maxHeartbeats 1000000 in
theorem targetNames_nil (a0 : Option Addr) (c0 : Nat) (a1 : Option Addr) (n1 c1 : Nat) (g : Nat → ByteArray) (w : World) :
    Calls Tryz.prog 66 #[.agg #[.slice a1 n1 c1, .slice a0 0 c0]] w fun e w' => ∃ a cap, e = .returned (.slice a 0 cap) ∧ SlStr w' a 0 g ∧ Below w.heap.size w w' := by
  have A0 := hide ((Below.refl w.heap.size w).alloc (Nat.le_refl _) (.cells #[.slice a1 n1 c1, .slice a0 0 c0] 26))
  go_enter Tryz.func66, Tryz.ntmps66
  go_wp2
  go_loopw [3, 9] (fun v i wr => v = .slice none 0 0 ∧ i = .int .i64 0 ∧ Below w.heap.size w wr) (fun _ _ _ => 0)
  case atStart => exact ⟨rfl, rfl, A0.out⟩
  case round =>
    obtain ⟨rfl, rfl, hB⟩ := hrel
    have HB := hide hB
    clear hB
    go_wp2
    go_ret
    exact ⟨none, 0, rfl, .inl rfl, HB.out⟩
theorem targetNames_any (a0 : Option Addr) (n c0 : Nat) (a1 : Option Addr) (n1 c1 : Nat) (f : Nat → Target) (w : World) (hn : (n : Int) ≤ 1048576) (hr : SlTarget w a0 n f) :
    Calls Tryz.prog 66 #[.agg #[.slice a1 n1 c1, .slice a0 n c0]] w fun e w' => ∃ a cap, e = .returned (.slice a n cap) ∧ SlStr w' a n (fun i => (f i).name) ∧ Below w.heap.size w w' := by
  rcases hr with rfl | ⟨b, off, rfl, hr⟩
  · exact targetNames_nil a0 c0 a1 n1 c1 _ w
  · exact targetNames_row b off n c0 _ a1 n1 c1 rfl f w hn hr
end Go.Proofs.YtkophfgkcijjkaaGreatDoor.Vp
