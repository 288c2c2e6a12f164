/-
  Put together of: WhSpec2.
-/
import Derived.Test.YtkgddbcjmejfaaaGreatDoorZO
import Derived.Test.YtkgddbcjmejfaaaGreatDoorZA
import Derived.Test.YtkgddbcjmejfaaaGreatDoorZK
import Derived.Deep.DeepCutAuto

/-
  spec: l5Tells.
-/
namespace Go.Proofs.YtkgddbcjmejfaaaGreatDoor.Vp
open Go.RowKit Go.Proofs.YtkgddbcjmejfaaaGreatDoor.Ca

/-- What is told, its action as it lies there. -/
abbrev TlR := Tl × Option Addr × Nat
def tlV (r : TlR) : List Value := [.int .i64 r.1.kind, .string r.1.text, .slice r.2.1 r.1.actN r.2.2]
theorem infoTold : (Tryz.prog.info? 69).map (fun i => (i.zero, i.size, i.bytes)) = some (some (.agg #[.int .i64 0, .string ⟨#[]⟩, .slice none 0 0]), 3, 48) := by kernel_rfl
theorem wh_ty {w : World} {base size n : Nat} {e : TypeId} {v : Value} {xs : List Value} (h : w.ownsRow base e size v n xs) : ∀ k, v.ownBlock = some k → OfTy w k e := by
  intro k hk
  rcases h.2 with ⟨rfl, _⟩ | ⟨g, cap, cur, rfl, _, hg, _⟩
  · simp [Value.ownBlock] at hk
  · simp [Value.ownBlock] at hk
    subst hk
    exact ⟨cur, _, hg⟩
theorem thr_cells (w : World) (v0 v1 v2 : Value) (t : TypeId) : ∀ j u, [v0, v1, v2][j]? = some u → (w.alloc (.cells #[v0, v1, v2] t)).cell? ((⟨w.heap.size, 0, none⟩ : Addr).add j) = some u := by
  intro j u hu
  have hj : j < 3 := by have := (List.getElem?_eq_some_iff.1 hu).1; simpa using this
  have h := thr_new w v0 v1 v2 t
  have ha : (⟨w.heap.size, 0, none⟩ : Addr).add j = ⟨w.heap.size, 0 + j, none⟩ := by
    unfold Addr.add
    split <;> simp_all
  rw [ha, Nat.zero_add]
  rcases (show j = 0 ∨ j = 1 ∨ j = 2 by omega) with rfl | rfl | rfl
  all_goals simp only [List.getElem?_cons_zero, List.getElem?_cons_succ, Option.some.injEq] at hu; subst hu
  · exact h.c0
  · exact h.c1
  · exact h.c2
theorem wh_blk {w w' : World} {base size n : Nat} {e : TypeId} {v : Value} {xs : List Value} (h : w.ownsRow base e size v n xs) (hb : ∀ k, v.ownBlock = some k → w'.heap[k]? = w.heap[k]?) : w'.ownsRow base e size v n xs := by
  refine ⟨h.1, ?_⟩
  rcases h.2 with hn | ⟨g, cap, cur, rfl, hb', hgg, rest⟩
  · exact .inl hn
  · exact .inr ⟨g, cap, cur, rfl, hb', (hb g rfl).trans hgg, rest⟩
theorem wh_some {w : World} {base size n : Nat} {e : TypeId} {v : Value} {xs : List Value} (h : w.ownsRow base e size v n xs) (hn : 0 < n) : ∃ g cap, v = .slice (some ⟨g, 0, none⟩) n cap := by
  rcases h.2 with ⟨_, h2⟩ | ⟨g, c, cur, h1, _⟩
  · omega
  · exact ⟨g, c, h1⟩
/-- The cells of a deed's box. -/
structure DBx (w : World) (b : Nat) (x : Deed) (a4 : Option Addr) (c4 : Nat) (a5 : Option Addr) (c5 : Nat) : Prop where
  lt : b < w.heap.size
  ty : OfTy w b 51
  c0 : w.cell? ⟨b, 0, none⟩ = some (.string x.name)
  c1 : w.cell? ⟨b, 1, none⟩ = some (.int .i64 x.kind)
  c3 : w.cell? ⟨b, 3, none⟩ = some (.string x.text)
  c4 : w.cell? ⟨b, 4, none⟩ = some (.slice a4 x.actN c4)
  c5 : w.cell? ⟨b, 5, none⟩ = some (.slice a5 x.linksN c5)
theorem DBx.blk {w w' : World} {b : Nat} {x : Deed} {a4 : Option Addr} {c4 : Nat} {a5 : Option Addr} {c5 : Nat} (h : DBx w b x a4 c4 a5 c5) (hz : w.heap.size ≤ w'.heap.size) (e : w'.heap[b]? = w.heap[b]?) : DBx w' b x a4 c4 a5 c5 :=
  have c : ∀ o, w'.cell? ⟨b, o, none⟩ = w.cell? ⟨b, o, none⟩ := fun o => World.cell?_of_block (a := ⟨b, o, none⟩) e
  ⟨Nat.lt_of_lt_of_le h.lt hz, h.ty.eq e, (c 0).trans h.c0, (c 1).trans h.c1, (c 3).trans h.c3, (c 4).trans h.c4, (c 5).trans h.c5⟩
theorem dbx_new (w : World) (x : Deed) (a4 : Option Addr) (c4 : Nat) (a5 : Option Addr) (c5 : Nat) : DBx (w.alloc (.cells #[.string x.name, .int .i64 x.kind, .int .i64 x.code, .string x.text, .slice a4 x.actN c4, .slice a5 x.linksN c5] 51)) w.heap.size x a4 c4 a5 c5 :=
  ⟨by simp, OfTy.new _ _ _, by simp, by simp, by simp, by simp, by simp⟩

/-- What stands in a round of l5Tells: the account's box, the row so far, the deed's box. -/
structure TSt (w W : World) (b off n cap : Nat) (D : Nat) (x : Deed) (a4 : Option Addr) (c4 : Nat) (a5 : Option Addr) (c5 : Nat) (v : Value) (T : List TlR) : Prop where
  lt : w.heap.size < W.heap.size
  ca : W.cell? ⟨w.heap.size, 0, none⟩ = some (.slice (some ⟨b, off, none⟩) n cap)
  ta : OfTy W w.heap.size 40
  d : DBx W D x a4 c4 a5 c5
  own : W.ownsRow w.heap.size 69 3 v T.length (T.flatMap tlV)
  low : Below w.heap.size w W
theorem TSt.below {w W W' : World} {b off n cap D : Nat} {x : Deed} {a4 : Option Addr} {c4 : Nat} {a5 : Option Addr} {c5 : Nat} {v : Value} {T : List TlR} (s : TSt w W b off n cap D x a4 c4 a5 c5 v T) (hb : Below W.heap.size W W') : TSt w W' b off n cap D x a4 c4 a5 c5 v T :=
  ⟨Nat.lt_of_lt_of_le s.lt hb.size, (hb.cell (p := ⟨w.heap.size, 0, none⟩) s.lt).trans s.ca, s.ta.eq (hb.block _ s.lt), s.d.blk hb.size (hb.block _ s.d.lt), own_below s.own hb (Nat.le_refl _), s.low.trans (hb.mono s.low.size)⟩
theorem TSt.more {w W W1 W' : World} {b off n cap D : Nat} {x : Deed} {a4 : Option Addr} {c4 : Nat} {a5 : Option Addr} {c5 : Nat} {v v' : Value} {T : List TlR} {r : TlR} (s : TSt w W b off n cap D x a4 c4 a5 c5 v T) (hb : Below W.heap.size W W1) (hown : W'.ownsRow w.heap.size 69 3 v' (T.length + 1) (T.flatMap tlV ++ tlV r)) (hg : W1.grownBy W' v.ownBlock) : TSt w W' b off n cap D x a4 c4 a5 c5 v' (T ++ [r]) := by
  have s1 := s.below hb
  have e1 := hg.block w.heap.size s1.lt (fun e => (wh_ty s1.own _ e.symm).ne (by decide) s1.ta)
  have e2 := hg.block D s1.d.lt (fun e => (wh_ty s1.own _ e.symm).ne (by decide) s1.d.ty)
  exact ⟨Nat.lt_of_lt_of_le s1.lt hg.size, (World.cell?_of_block (a := ⟨w.heap.size, 0, none⟩) e1).trans s1.ca, s1.ta.eq e1, s1.d.blk hg.size e2, by simpa using hown, Below.grown s1.low hg (Nat.le_of_lt s1.lt) (fun j e => (s1.own.lt j e).1)⟩

set_option maxRecDepth 100000 in
set_option maxHeartbeats 8000000 in
theorem l5Tells_any (b off n cap : Nat) (f : Nat → Deed) (t : ByteArray) (w : World) (hn : (n : Int) ≤ 400) (hf : RowDeed w b off n f) (hlk : ∀ p, p < n → (f p).linksN ≤ 200) :
    Calls Tryz.prog 32 #[.agg #[.slice (some ⟨b, off, none⟩) n cap], .string t] w fun e w' => ∃ (a : Option Addr) (c : Nat) (T : List TlR), e = .returned (.slice a T.length c) ∧ w'.ownsRow w.heap.size 69 3 (.slice a T.length c) T.length (T.flatMap tlV) ∧ (∀ r ∈ T, SlIns w r.2.1 r.1.actN r.1.act) ∧ T.map (fun r => r.1) = tellsTo f t.toList n ∧ Below w.heap.size w w' := by
  have HF := hide hf
  have HL := hide hlk
  clear hf hlk
  obtain ⟨i1, hi, hy0, hy1, hy2⟩ := info_parts infoTold
  have A0 := hide (((Below.refl w.heap.size w).alloc (Nat.le_refl _) (.cells #[.slice (some ⟨b, off, none⟩) n cap] 40)).alloc (by simp) (.cells #[] 69))
  have k0 : ((w.alloc (.cells #[.slice (some ⟨b, off, none⟩) n cap] 40)).alloc (.cells #[] 69)).cell? ⟨w.heap.size, 0, none⟩ = some (.slice (some ⟨b, off, none⟩) n cap) := by simp
  have t0 : OfTy ((w.alloc (.cells #[.slice (some ⟨b, off, none⟩) n cap] 40)).alloc (.cells #[] 69)) w.heap.size 40 := (OfTy.new w _ _).eq (heap_alloc_old _ _ (by simp))
  have z0 : w.heap.size < ((w.alloc (.cells #[.slice (some ⟨b, off, none⟩) n cap] 40)).alloc (.cells #[] 69)).heap.size := by simp; omega
  have O0 : ((w.alloc (.cells #[.slice (some ⟨b, off, none⟩) n cap] 40)).alloc (.cells #[] 69)).ownsRow w.heap.size 69 3 (.slice (some ⟨w.heap.size + 1, 0, none⟩) 0 0) 0 [] := by
    have := World.ownsRow_made (base := w.heap.size) (e := 69) (size := 3) (w.alloc (.cells #[.slice (some ⟨b, off, none⟩) n cap] 40)) #[] 0 (by simp) (by unfold maxLen; omega) rfl
    simpa using this
  have HK0 := hide k0
  have HT0 := hide t0
  have HO0 := hide O0
  clear k0 t0 O0
  go_enter Tryz.func32, Tryz.ntmps32
  go_wp2
  generalize (w.alloc (.cells #[.slice (some ⟨b, off, none⟩) n cap] 40)).alloc (.cells #[] 69) = W at A0 HK0 HT0 HO0 z0 ⊢
  go_loopw [5, 6] (fun v i wr => ∃ (k : Nat) (T : List TlR) (a : Option Addr) (c : Nat), k ≤ n ∧ i = .int .i64 k ∧ v = .slice a T.length c ∧ w.heap.size < wr.heap.size ∧ Hid (wr.cell? ⟨w.heap.size, 0, none⟩ = some (.slice (some ⟨b, off, none⟩) n cap) ∧ OfTy wr w.heap.size 40) ∧ Hid (wr.ownsRow w.heap.size 69 3 (.slice a T.length c) T.length (T.flatMap tlV)) ∧ Hid (∀ r ∈ T, SlIns w r.2.1 r.1.actN r.1.act) ∧ Hid (T.map (fun r => r.1) = tellsTo f t.toList k) ∧ Hid (Below w.heap.size w wr)) (fun _ i _ => n - (intOf i).toNat)
  case atStart => exact ⟨0, [], some ⟨w.heap.size + 1, 0, none⟩, 0, by omega, rfl, rfl, z0, ⟨HK0.out, HT0.out⟩, HO0.out, fun r hr => absurd hr (by simp), rfl, A0.out⟩
  case round =>
    clear A0 HK0 HT0 HO0 z0
    obtain ⟨k, T, a, c, hk, rfl, rfl, hzr, CA, OW, SI, HE, HB⟩ := hrel
    have ca := CA.out.1
    by_cases hlt : k < n
    · obtain ⟨p0, p1, p2, p3, ⟨a4, c4, p4, q4⟩, ⟨a5, c5, p5, q5⟩⟩ := (HF.out.below HB.out (Nat.le_refl _)).2 k hlt
      have q4w : Hid (SlIns w a4 (f k).actN (f k).act) := by
        obtain ⟨_, _, _, _, ⟨a4', c4', p4', q4'⟩, _⟩ := HF.out.2 k hlt
        have := (HB.out.cell (p := ⟨b, off + k * 6 + 4, none⟩) HF.out.1).trans p4'
        rw [p4] at this
        cases this
        exact q4'
      have Q5 : Hid (SlLink w a5 (f k).linksN (f k).links) := by
        obtain ⟨_, _, _, _, _, ⟨a5', c5', p5', q5'⟩⟩ := HF.out.2 k hlt
        have := (HB.out.cell (p := ⟨b, off + k * 6 + 5, none⟩) HF.out.1).trans p5'
        rw [p5] at this
        cases this
        exact q5'
      have hl2 := HL.out k hlt
      have HTS : Hid (tellsTo f t.toList (k + 1) = tellsTo f t.toList k ++ (if (f k).name.toList = t.toList then [dTell (f k)] else []) ++ tellLk (f k).links t.toList (f k).linksN) := rfl
      have hTl : T.length ≤ k * 201 := by
        have h1 := congrArg List.length HE.out
        rw [List.length_map] at h1
        rw [h1]
        exact tellsTo_len fun p hp => HL.out p (by omega)
      clear q4 q5
      generalize f k = x at p0 p1 p2 p3 p4 p5 q4w Q5 hl2 HTS
      have A2 := hide ((Below.refl wr.heap.size wr).alloc (Nat.le_refl _) (.cells #[.string x.name, .int .i64 x.kind, .int .i64 x.code, .string x.text, .slice a4 x.actN c4, .slice a5 x.linksN c5] 51))
      have S2 : Hid (TSt w (wr.alloc (.cells #[.string x.name, .int .i64 x.kind, .int .i64 x.code, .string x.text, .slice a4 x.actN c4, .slice a5 x.linksN c5] 51)) b off n cap wr.heap.size x a4 c4 a5 c5 (.slice a T.length c) T) := ⟨Nat.lt_of_lt_of_le hzr A2.out.size, (A2.out.cell (p := ⟨w.heap.size, 0, none⟩) hzr).trans ca, CA.out.2.eq (A2.out.block _ hzr), dbx_new wr x a4 c4 a5 c5, OW.out.alloc _, HB.out.trans (A2.out.mono HB.out.size)⟩
      have d0 := S2.out.d.c0
      go_upto_if 27 with fail
      generalize wr.alloc (.cells #[.string x.name, .int .i64 x.kind, .int .i64 x.code, .string x.text, .slice a4 x.actN c4, .slice a5 x.linksN c5] 51) = W2 at S2 d0 ⊢
      generalize wr.heap.size = D at S2 d0 ⊢
      clear A2 CA OW HB ca p0 p1 p2 p3 p4 p5 hzr
      go_cut [5] (fun v wx => ∃ (T2 : List TlR) (a2 : Option Addr) (c2 : Nat), v = .slice a2 T2.length c2 ∧ T2.length ≤ k * 201 + 1 ∧ Hid (TSt w wx b off n cap D x a4 c4 a5 c5 (.slice a2 T2.length c2) T2) ∧ Hid (∀ r ∈ T2, SlIns w r.2.1 r.1.actN r.1.act) ∧ Hid (T2.map (fun r => r.1) = tellsTo f t.toList k ++ (if x.name.toList = t.toList then [dTell x] else [])))
      case first =>
        cases hb : (x.name.toList == t.toList) with
        | false =>
          have hne : ¬ x.name.toList = t.toList := by simpa using hb
          have HE2 : Hid (T.map (fun r => r.1) = tellsTo f t.toList k ++ (if x.name.toList = t.toList then [dTell x] else [])) := by show _ = _; rw [if_neg hne, List.append_nil]; exact HE.out
          clear hne
          go_wp2
          go_meet
          exact ⟨T, a, c, rfl, by omega, S2.out, SI.out, HE2.out⟩
        | true =>
          have heq : x.name.toList = t.toList := by simpa using hb
          have HEQ := hide heq
          clear heq
          have d1 := S2.out.d.c1
          have d3 := S2.out.d.c3
          have d4 := S2.out.d.c4
          have Bx := hide ((Below.refl W2.heap.size W2).alloc (Nat.le_refl _) (.cells #[.int .i64 x.kind, .string ⟨#[]⟩, .slice a4 x.actN c4] 69))
          have x1 := (Bx.out.cell (p := ⟨D, 1, none⟩) S2.out.d.lt).trans d1
          have x3 := (Bx.out.cell (p := ⟨D, 3, none⟩) S2.out.d.lt).trans d3
          cases h1 : (x.kind == 1) with
          | false =>
            have hk1 : ¬ x.kind = 1 := by simpa using h1
            have HDT : Hid (dTell x = ⟨x.kind, ⟨#[]⟩, x.actN, x.act⟩) := by show _ = _; rw [dTell, if_neg hk1]
            clear hk1
            have B3 := hide (((Below.refl W2.heap.size W2).alloc (Nat.le_refl _) (.cells #[.int .i64 x.kind, .string ⟨#[]⟩, .slice a4 x.actN c4] 69)).alloc (by simp) (.cells #[.int .i64 x.kind, .string ⟨#[]⟩, .slice a4 x.actN c4] 69))
            go_wp2_with (at_builtin; refine wpList_append_own _ rfl (.tmp 39) (.tmp 41) 65 rfl w.heap.size 69 i1 (.agg #[.int .i64 0, .string ⟨#[]⟩, .slice none 0 0]) 3 48 Tryz.underlying65 hi hy0 hy1 hy2 rfl (by decide) (.slice a T.length c) T.length (T.flatMap tlV) (by simp [Act.eval]) ((S2.out.own.alloc _).alloc _) ⟨W2.heap.size + 1, 0, none⟩ 1 1 [.int .i64 x.kind, .string ⟨#[]⟩, .slice a4 x.actN c4] (by simp [Act.eval]) rfl (by rw [show W2.heap.size + 1 = (W2.alloc (.cells #[.int .i64 x.kind, .string ⟨#[]⟩, .slice a4 x.actN c4] 69)).heap.size by simp]; exact thr_cells _ _ _ _ _) (by simp [Value.oneCell']) (by unfold maxLen; omega) (by omega) (by have := S2.out.lt; simp; omega) ?_; intro v' w8 hown hgrow hnil; obtain ⟨gs, cs, rfl⟩ := wh_some hown (by omega); have S3 := hide (S2.out.more (r := (⟨x.kind, ⟨#[]⟩, x.actN, x.act⟩, a4, c4)) B3.out hown hgrow); clear hown hgrow hnil)
            go_meet
            refine ⟨T ++ [(⟨x.kind, ⟨#[]⟩, x.actN, x.act⟩, a4, c4)], some ⟨gs, 0, none⟩, cs, by simp, by simp; omega, by show TSt _ _ _ _ _ _ _ _ _ _ _ _ _ _; simpa using S3.out, ?_, ?_⟩
            · intro r hr
              rcases List.mem_append.1 hr with hr | hr
              · exact SI.out r hr
              · simp at hr; subst hr; exact q4w.out
            · show _ = _
              rw [if_pos HEQ.out, List.map_append, HE.out, HDT.out]
              rfl
          | true =>
            have hk1 : x.kind = 1 := by simpa using h1
            have HDT : Hid (dTell x = ⟨x.kind, x.text, x.actN, x.act⟩) := by show _ = _; rw [dTell, if_pos hk1]
            clear hk1
            have B3 := hide (((Below.refl W2.heap.size W2).alloc (Nat.le_refl _) (.cells #[.int .i64 x.kind, .string x.text, .slice a4 x.actN c4] 69)).alloc (by simp) (.cells #[.int .i64 x.kind, .string x.text, .slice a4 x.actN c4] 69))
            go_upto_region 10 with fail
            clear h1 Bx x1 x3 d1 d3 d4
            go_wp2_with (at_builtin; refine wpList_append_own _ rfl (.tmp 39) (.tmp 41) 65 rfl w.heap.size 69 i1 (.agg #[.int .i64 0, .string ⟨#[]⟩, .slice none 0 0]) 3 48 Tryz.underlying65 hi hy0 hy1 hy2 rfl (by decide) (.slice a T.length c) T.length (T.flatMap tlV) (by simp [Act.eval]) ((S2.out.own.alloc _).alloc _) ⟨W2.heap.size + 1, 0, none⟩ 1 1 [.int .i64 x.kind, .string x.text, .slice a4 x.actN c4] (by simp [Act.eval]) rfl (by rw [show W2.heap.size + 1 = (W2.alloc (.cells #[.int .i64 x.kind, .string x.text, .slice a4 x.actN c4] 69)).heap.size by simp]; exact thr_cells _ _ _ _ _) (by simp [Value.oneCell']) (by unfold maxLen; omega) (by omega) (by have := S2.out.lt; simp; omega) ?_; intro v' w8 hown hgrow hnil; obtain ⟨gs, cs, rfl⟩ := wh_some hown (by omega); have S5 := hide (S2.out.more (r := (⟨x.kind, x.text, x.actN, x.act⟩, a4, c4)) B3.out hown hgrow); clear hown hgrow hnil)
            go_meet
            refine ⟨T ++ [(⟨x.kind, x.text, x.actN, x.act⟩, a4, c4)], some ⟨gs, 0, none⟩, cs, by simp, by simp; omega, by show TSt _ _ _ _ _ _ _ _ _ _ _ _ _ _; simpa using S5.out, ?_, ?_⟩
            · intro r hr
              rcases List.mem_append.1 hr with hr | hr
              · exact SI.out r hr
              · simp at hr; subst hr; exact q4w.out
            · show _ = _
              rw [if_pos HEQ.out, List.map_append, HE.out, HDT.out]
              rfl
      case rest =>
      clear S2 d0 SI HE hTl
      obtain ⟨T2, a2, c2, rfl, hT2, S2, SI2, HE2⟩ := hcut
      have d5 := S2.out.d.c5
      generalize hln : x.linksN = ln at d5 Q5 HTS hl2
      have HLN := hide hln
      clear hln
      go_wp2
      go_loopw [5, 9] (fun v j wr => ∃ (m : Nat) (T3 : List TlR) (a3 : Option Addr) (c3 : Nat), m ≤ ln ∧ j = .int .i64 m ∧ v = .slice a3 T3.length c3 ∧ Hid (TSt w wr b off n cap D x a4 c4 a5 c5 (.slice a3 T3.length c3) T3) ∧ Hid (∀ r ∈ T3, SlIns w r.2.1 r.1.actN r.1.act) ∧ T3.length ≤ k * 201 + 1 + m ∧ Hid (T3.map (fun r => r.1) = (tellsTo f t.toList k ++ (if x.name.toList = t.toList then [dTell x] else [])) ++ tellLk x.links t.toList m)) (fun _ j _ => ln - (intOf j).toNat)
      case atStart => exact ⟨0, T2, a2, c2, by omega, rfl, rfl, S2.out, SI2.out, by omega, by show _ = _; rw [tellLk, List.append_nil]; exact HE2.out⟩
      case round =>
        clear S2 SI2 HE2 hT2 d5
        obtain ⟨m, T3, a3, c3, hm, rfl, rfl, S3, SI3, hT3, HE3⟩ := hrel
        have d5 := S3.out.d.c5
        rw [HLN.out] at d5
        by_cases hlt2 : m < ln
        · obtain ⟨b6, o6, rfl, hr6⟩ := (Q5.out.below S3.out.low (Nat.le_refl _)).resolve_left (by omega)
          obtain ⟨r0, r1, r2, r3⟩ := hr6.2 m hlt2
          have hb6 := hr6.1
          have HTN : Hid (tellLk x.links t.toList (m + 1) = tellLk x.links t.toList m ++ (if (x.links m).name.toList = t.toList ∧ (x.links m).ask = false then [lTell (x.links m)] else [])) := rfl
          clear r3 hr6
          generalize x.links m = y at r0 r1 r2 HTN
          cases hb : (y.name.toList == t.toList) with
          | false =>
            have hne : ¬ y.name.toList = t.toList := by simpa using hb
            have HTN2 : Hid (tellLk x.links t.toList (m + 1) = tellLk x.links t.toList m) := by show _ = _; rw [HTN.out, if_neg (fun h => hne h.1), List.append_nil]
            clear hne
            go_wp2
            exact ⟨⟨m + 1, T3, a3, c3, by omega, by go_num, rfl, S3.out, SI3.out, by omega, by show _ = _; rw [HTN2.out]; exact HE3.out⟩, by simp [intOf]; omega⟩
          | true =>
            have heq : y.name.toList = t.toList := by simpa using hb
            have HEQ := hide heq
            clear heq
            cases hask : y.ask with
            | true =>
              have HTN2 : Hid (tellLk x.links t.toList (m + 1) = tellLk x.links t.toList m) := by show _ = _; rw [HTN.out, if_neg (fun h => by rw [hask] at h; cases h.2), List.append_nil]
              rw [hask] at r1
              go_wp2
              exact ⟨⟨m + 1, T3, a3, c3, by omega, by go_num, rfl, S3.out, SI3.out, by omega, by show _ = _; rw [HTN2.out]; exact HE3.out⟩, by simp [intOf]; omega⟩
            | false =>
              have HTP : Hid (tellLk x.links t.toList (m + 1) = tellLk x.links t.toList m ++ [lTell y]) := by show _ = _; rw [HTN.out, if_pos ⟨HEQ.out, hask⟩]
              rw [hask] at r1
              have Bx := (Below.refl wr.heap.size wr).alloc (Nat.le_refl _) (.cells #[.int .i64 5, .string ⟨#[]⟩, .slice none 0 0] 69)
              have x5 := (Bx.cell (p := ⟨D, 5, none⟩) S3.out.d.lt).trans d5
              have x2 := (Bx.cell (p := ⟨b6, o6 + m * 4 + 2, none⟩) hb6).trans r2
              clear Bx
              cases hhas : y.has with
              | true =>
                rw [hhas] at r2 x2
                have B4 := hide (((Below.refl wr.heap.size wr).alloc (Nat.le_refl _) (.cells #[.int .i64 4, .string ⟨#[]⟩, .slice none 0 0] 69)).alloc (by simp) (.cells #[.int .i64 4, .string ⟨#[]⟩, .slice none 0 0] 69))
                have HLT : Hid (lTell y = ⟨4, ⟨#[]⟩, 0, noAct⟩) := by show _ = _; rw [lTell, hhas]; rfl
                go_upto_region 18 with fail
                clear x5 x2 d5 r0 r1 r2
                go_wp2_with (at_builtin; refine wpList_append_own _ rfl (.tmp 75) (.tmp 77) 65 rfl w.heap.size 69 i1 (.agg #[.int .i64 0, .string ⟨#[]⟩, .slice none 0 0]) 3 48 Tryz.underlying65 hi hy0 hy1 hy2 rfl (by decide) (.slice a3 T3.length c3) T3.length (T3.flatMap tlV) (by simp [Act.eval]) ((S3.out.own.alloc _).alloc _) ⟨wr.heap.size + 1, 0, none⟩ 1 1 [.int .i64 4, .string ⟨#[]⟩, .slice none 0 0] (by simp [Act.eval]) rfl (by rw [show wr.heap.size + 1 = (wr.alloc (.cells #[.int .i64 4, .string ⟨#[]⟩, .slice none 0 0] 69)).heap.size by simp]; exact thr_cells _ _ _ _ _) (by simp [Value.oneCell']) (by unfold maxLen; omega) (by omega) (by have := S3.out.lt; simp; omega) ?_; intro v' w8 hown hgrow hnil; obtain ⟨gs, cs, rfl⟩ := wh_some hown (by omega); have S5 := hide (S3.out.more (r := (⟨4, ⟨#[]⟩, 0, noAct⟩, none, 0)) B4.out hown hgrow); clear hown hgrow hnil)
                refine ⟨⟨m + 1, T3 ++ [(⟨4, ⟨#[]⟩, 0, noAct⟩, none, 0)], some ⟨gs, 0, none⟩, cs, by omega, by go_num, by simp, by show TSt _ _ _ _ _ _ _ _ _ _ _ _ _ _; simpa using S5.out, ?_, by simp; omega, ?_⟩, by simp [intOf]; omega⟩
                · intro r hr
                  rcases List.mem_append.1 hr with hr | hr
                  · exact SI3.out r hr
                  · simp at hr; subst hr; exact .inl rfl
                · show _ = _
                  rw [HTP.out, List.map_append, HE3.out, HLT.out, List.append_assoc]
                  rfl
              | false =>
                rw [hhas] at r2 x2
                have B4 := hide (((Below.refl wr.heap.size wr).alloc (Nat.le_refl _) (.cells #[.int .i64 5, .string ⟨#[]⟩, .slice none 0 0] 69)).alloc (by simp) (.cells #[.int .i64 5, .string ⟨#[]⟩, .slice none 0 0] 69))
                have HLT : Hid (lTell y = ⟨5, ⟨#[]⟩, 0, noAct⟩) := by show _ = _; rw [lTell, hhas]; rfl
                go_upto_region 18 with fail
                clear x5 x2 d5 r0 r1 r2
                go_wp2_with (at_builtin; refine wpList_append_own _ rfl (.tmp 75) (.tmp 77) 65 rfl w.heap.size 69 i1 (.agg #[.int .i64 0, .string ⟨#[]⟩, .slice none 0 0]) 3 48 Tryz.underlying65 hi hy0 hy1 hy2 rfl (by decide) (.slice a3 T3.length c3) T3.length (T3.flatMap tlV) (by simp [Act.eval]) ((S3.out.own.alloc _).alloc _) ⟨wr.heap.size + 1, 0, none⟩ 1 1 [.int .i64 5, .string ⟨#[]⟩, .slice none 0 0] (by simp [Act.eval]) rfl (by rw [show wr.heap.size + 1 = (wr.alloc (.cells #[.int .i64 5, .string ⟨#[]⟩, .slice none 0 0] 69)).heap.size by simp]; exact thr_cells _ _ _ _ _) (by simp [Value.oneCell']) (by unfold maxLen; omega) (by omega) (by have := S3.out.lt; simp; omega) ?_; intro v' w8 hown hgrow hnil; obtain ⟨gs, cs, rfl⟩ := wh_some hown (by omega); have S5 := hide (S3.out.more (r := (⟨5, ⟨#[]⟩, 0, noAct⟩, none, 0)) B4.out hown hgrow); clear hown hgrow hnil)
                refine ⟨⟨m + 1, T3 ++ [(⟨5, ⟨#[]⟩, 0, noAct⟩, none, 0)], some ⟨gs, 0, none⟩, cs, by omega, by go_num, by simp, by show TSt _ _ _ _ _ _ _ _ _ _ _ _ _ _; simpa using S5.out, ?_, by simp; omega, ?_⟩, by simp [intOf]; omega⟩
                · intro r hr
                  rcases List.mem_append.1 hr with hr | hr
                  · exact SI3.out r hr
                  · simp at hr; subst hr; exact .inl rfl
                · show _ = _
                  rw [HTP.out, List.map_append, HE3.out, HLT.out, List.append_assoc]
                  rfl
        · have em : m = ln := by omega
          subst em
          go_wp2
          refine ⟨⟨k + 1, T3, a3, c3, by omega, by go_num, rfl, S3.out.lt, ⟨S3.out.ca, S3.out.ta⟩, S3.out.own, SI3.out, ?_, S3.out.low⟩, by simp [intOf]; omega⟩
          show _ = _
          rw [HE3.out, HTS.out]
    · have e : k = n := by omega
      subst e
      go_wp2
      go_ret
      exact ⟨a, c, T, rfl, OW.out, SI.out, HE.out, HB.out⟩

end Go.Proofs.YtkgddbcjmejfaaaGreatDoor.Vp
