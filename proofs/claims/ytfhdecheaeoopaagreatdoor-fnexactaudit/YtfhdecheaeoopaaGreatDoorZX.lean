/-
  Put together of: FlAns, FlRunA, FlRun, FlReply, FlBox, FlReplay.
-/
import Derived.Test.YtfhdecheaeoopaaGreatDoorZW
import Derived.Test.YtfhdecheaeoopaaGreatDoorZF
import Derived.Deep.QuietTactic
import Derived.BigQuiet
import Derived.Test.YtfhdecheaeoopaaGreatDoorZC
import Derived.Test.YtfhdecheaeoopaaGreatDoorZQ

/-
  spec: l4Answer.
-/
namespace Go.Proofs.YtfhdecheaeoopaaGreatDoor.Vp
open Go.RowKit

set_option maxRecDepth 100000 in
set_option maxHeartbeats 4000000 in
theorem l4Answer_any (bd offd n cap : Nat) (f : Nat → Deed) (l : Link) (w : World) (hrow : RowDeed w bd offd n f) (hl : l.ask = true → 0 ≤ l.at_ ∧ l.at_.toNat < n) :
    Calls Tryz.prog 40 #[.agg #[.slice (some ⟨bd, offd, none⟩) n cap], .agg #[.string l.name, .bool l.ask, .bool l.has, .int .i64 l.at_]] w fun e w' => e = .returned (.agg #[.bool (ansR f l).has, .int .i64 (ansR f l).code, .string (ansR f l).text]) ∧ Below w.heap.size w w' := by
  have HR := hide hrow
  have HL := hide hl
  have HN := hide (show ansR f l = if l.ask = true then (if (f l.at_.toNat).kind = 1 then ⟨true, 0, (f l.at_.toNat).text⟩ else if (f l.at_.toNat).kind = 3 then ⟨true, (f l.at_.toNat).code, (f l.at_.toNat).text⟩ else ⟨false, 0, ⟨#[]⟩⟩) else ⟨l.has, 0, ⟨#[]⟩⟩ from rfl)
  clear hrow hl
  obtain ⟨R, hR⟩ : ∃ R, R = ansR f l := ⟨_, rfl⟩
  rw [← hR] at HN ⊢
  clear hR
  obtain ⟨nm, ask, hs, at_⟩ := l
  dsimp only at HL HN ⊢
  have A0 := hide ((((Below.refl w.heap.size w).alloc (Nat.le_refl _) (.cells #[.slice (some ⟨bd, offd, none⟩) n cap] 30)).alloc (by simp) (.cells #[.string nm, .bool ask, .bool hs, .int .i64 at_] 70)).alloc (by simp; omega) (.cells #[.bool false, .int .i64 0, .string ⟨#[]⟩] 88))
  cases ask with
  | false =>
    obtain rfl : R = ⟨hs, 0, ⟨#[]⟩⟩ := by have := HN.out; simpa using this
    dsimp only
    go_enter Tryz.func40, Tryz.ntmps40
    go_wp2
    exact bodyPost_ret (v := .agg #[.bool hs, .int .i64 0, .string ⟨#[]⟩]) (by simp [results, Tryz.results40, go_sem]) rfl ⟨rfl, by
      repeat (first | exact Below.refl _ _ | refine Below.alloc ?_ (by first | (simp; done) | (simp; omega)) _)⟩
  | true =>
    obtain ⟨h1, h2⟩ := HL.out rfl
    obtain ⟨p, rfl⟩ := Int.eq_ofNat_of_zero_le h1
    have hp : p < n := by simpa using h2
    have HN2 := hide (show R = if (f p).kind = 1 then ⟨true, 0, (f p).text⟩ else if (f p).kind = 3 then ⟨true, (f p).code, (f p).text⟩ else ⟨false, 0, ⟨#[]⟩⟩ by have := HN.out; simpa using this)
    clear HN
    obtain ⟨p0, p1, p2, p3, ⟨a2, cap2, p4, q4⟩, ⟨a3, cap3, p5, q5⟩⟩ := (HR.out.below A0.out (Nat.le_refl _)).2 p hp
    clear q4 q5 HL
    have hpn : (p : Int) < n := by omega
    go_enter Tryz.func40, Tryz.ntmps40
    by_cases hk1 : (f p).kind = 1
    · obtain rfl : R = ⟨true, 0, (f p).text⟩ := by rw [HN2.out, if_pos hk1]
      go_wp2
      exact bodyPost_ret (v := .agg #[.bool true, .int .i64 0, .string (f p).text]) (by simp [results, Tryz.results40, go_sem]) rfl ⟨rfl, by
        repeat (first | exact Below.refl _ _ | refine Below.alloc ?_ (by first | (simp; done) | (simp; omega)) _)⟩
    · by_cases hk3 : (f p).kind = 3
      · obtain rfl : R = ⟨true, (f p).code, (f p).text⟩ := by rw [HN2.out, if_neg hk1, if_pos hk3]
        go_wp2
        exact bodyPost_ret (v := .agg #[.bool true, .int .i64 (f p).code, .string (f p).text]) (by simp [results, Tryz.results40, go_sem]) rfl ⟨rfl, by
          repeat (first | exact Below.refl _ _ | refine Below.alloc ?_ (by first | (simp; done) | (simp; omega)) _)⟩
      · obtain rfl : R = ⟨false, 0, ⟨#[]⟩⟩ := by rw [HN2.out, if_neg hk1, if_neg hk3]
        go_wp2
        exact bodyPost_ret (v := .agg #[.bool false, .int .i64 0, .string ⟨#[]⟩]) (by simp [results, Tryz.results40, go_sem]) rfl ⟨rfl, by
          repeat (first | exact Below.refl _ _ | refine Below.alloc ?_ (by first | (simp; done) | (simp; omega)) _)⟩

end Go.Proofs.YtfhdecheaeoopaaGreatDoor.Vp

/-
  spec: l4Run: rows of replies; where a run stops.
-/
namespace Go.Proofs.YtfhdecheaeoopaaGreatDoor.Vp
open Go.RowKit

def replyV (y : Nat → Reply) (i : Nat) : List Value := [.bool (y i).has, .int .i64 (y i).code, .string (y i).text]
def repL (y : Nat → Reply) : Nat → List Value
  | 0 => []
  | k + 1 => repL y k ++ replyV y k
theorem repL_len (y : Nat → Reply) (k : Nat) : (repL y k).length = k * 3 := by
  induction k with
  | zero => rfl
  | succ k ih => simp [repL, replyV, ih]; omega
theorem repL_at (y : Nat → Reply) {i j : Nat} (hj : j < 3) : ∀ k, i < k → (repL y k)[i * 3 + j]? = (replyV y i)[j]?
  | 0, h => absurd h (Nat.not_lt_zero _)
  | k + 1, h => by
    rw [repL]
    by_cases e : i = k
    · subst e
      rw [List.getElem?_append_right (by rw [repL_len]; omega), repL_len, show i * 3 + j - i * 3 = j by omega]
    · rw [List.getElem?_append_left (by rw [repL_len]; omega)]
      exact repL_at y hj k (by omega)
theorem row_replies {w : World} {base g c k : Nat} {y : Nat → Reply} (h : w.ownsRow base 88 3 (.slice (some ⟨g, 0, none⟩) k c) k (repL y k)) : RowReply w g 0 k y := by
  rcases h.2 with ⟨hv, h0⟩ | ⟨g', cap, cur, hv, hb, hg, hc1, hc2, hc3, hc4⟩
  · simp at hv
  · simp only [Value.slice.injEq, Option.some.injEq, Addr.mk.injEq] at hv
    obtain ⟨⟨rfl, -⟩, -, rfl⟩ := hv
    have hlt : g < w.heap.size := by
      rcases Nat.lt_or_ge g w.heap.size with h1 | h1
      · exact h1
      · rw [Array.getElem?_eq_none h1] at hg; simp at hg
    have each : ∀ i j, i < k → j < 3 → w.cell? ⟨g, 0 + i * 3 + j, none⟩ = (replyV y i)[j]? := by
      intro i j hi hj
      have e1 : w.cell? ⟨g, 0 + i * 3 + j, none⟩ = cur[i * 3 + j]? := by simp [World.cell?, hg]
      have e2 : (cur.toList.take (k * 3))[i * 3 + j]? = (repL y k)[i * 3 + j]? := by rw [hc4]
      rw [List.getElem?_take, if_pos (by omega), Array.getElem?_toList, repL_at y hj k hi] at e2
      rw [e1, e2]
    refine ⟨hlt, fun i hi => ⟨?_, ?_, ?_⟩⟩
    · exact each i 0 hi (by omega)
    · exact each i 1 hi (by omega)
    · exact each i 2 hi (by omega)
theorem three_new (w : World) (x y z : Value) (t : TypeId) : ∀ j u, [x, y, z][j]? = some u → (w.alloc (.cells #[x, y, z] t)).cell? ((⟨w.heap.size, 0, none⟩ : Addr).add j) = some u := by
  intro j u hj
  match j, hj with
  | 0, hj => simp at hj; subst hj; simp [Addr.add]
  | 1, hj => simp at hj; subst hj; simp [Addr.add]
  | 2, hj => simp at hj; subst hj; simp [Addr.add]
theorem infoReply : (Tryz.prog.info? 88).map (fun i => (i.zero, i.size, i.bytes)) = some (some (.agg #[.bool false, .int .i64 0, .string ⟨#[]⟩]), 3, 32) := by kernel_rfl
theorem own_slice3 {w : World} {base n : Nat} {e : TypeId} {v : Value} {xs : List Value} (h : w.ownsRow base e 3 v n xs) (hn : 0 < n) : ∃ g c, v = .slice (some ⟨g, 0, none⟩) n c := by
  rcases h.2 with ⟨hv, h0⟩ | ⟨g, cap, cur, hv, _⟩
  · omega
  · exact ⟨g, cap, hv⟩
def slLen : Value → Nat
  | .slice _ n _ => n
  | _ => 0

theorem stop_from {f : Nat → Deed} {p : Nat} : ∀ k, k ≤ (f p).linksN → (∀ i, i < k → offK f p i = false) → stopK f p ((f p).linksN - k) k = stopAt f p
  | 0, _, _ => rfl
  | k + 1, hk, h => by
    have := stop_from (f := f) (p := p) k (by omega) fun i hi => h i (by omega)
    rw [← this, show (f p).linksN - k = ((f p).linksN - (k + 1)) + 1 by omega, stopK_go (h k (by omega))]
theorem stop_off {f : Nat → Deed} {p k : Nat} (hk : k < (f p).linksN) (h : ∀ i, i < k → offK f p i = false) (ho : offK f p k = true) : stopAt f p = k := by
  rw [← stop_from k (by omega) h, show (f p).linksN - k = ((f p).linksN - (k + 1)) + 1 by omega, stopK_at ho]
theorem stop_end {f : Nat → Deed} {p : Nat} (h : ∀ i, i < (f p).linksN → offK f p i = false) : stopAt f p = (f p).linksN := by
  rw [← stop_from (f p).linksN (Nat.le_refl _) h, Nat.sub_self]
  rfl
theorem code_off {f : Nat → Deed} {p k : Nat} (hk : k < (f p).linksN) (h : ∀ i, i < k → offK f p i = false) (ho : offK f p k = true) : codeR f p = 4 := by
  unfold codeR
  rw [stop_off hk h ho, if_pos hk]
theorem code_end {f : Nat → Deed} {p : Nat} (h : ∀ i, i < (f p).linksN → offK f p i = false) : codeR f p = if (turnK f p (f p).linksN).over = false then 4 else if (turnK f p (f p).linksN).code = (f p).code ∧ (turnK f p (f p).linksN).text.toList = (f p).text.toList then 0 else 5 := by
  unfold codeR
  rw [stop_end h, if_neg (Nat.lt_irrefl _)]
theorem nextA_is {f : Nat → Deed} {n p k : Nat} (hacc : accOk f n = true) (hp : p < n) (hk3 : (f p).kind = 3) (hk : k ≤ (f p).linksN) : nextA (f p).act (f p).actN (yOf f p) k = turnK f p k := by
  have hd : valid (f p).act (f p).actN = true ∧ (f p).linksN ≤ 200 := by
    rcases (accOk_deed hacc p hp).2 with h | h | h
    · omega
    · omega
    · exact ⟨h.2.2.2.1, h.2.2.2.2⟩
  have hr : repliesTo (yOf f p) k = true := repliesTo_of fun i hi => ansR_ok hacc fun ha => Nat.lt_trans (accOk_ask hacc p hp i (by omega) ha).2.1 hp
  unfold nextA turnK
  rw [if_neg (by rw [hd.1]; simp), if_neg (by omega), if_neg (by rw [hr]; simp)]

end Go.Proofs.YtfhdecheaeoopaaGreatDoor.Vp

/-
  spec: l4Run.
-/
namespace Go.Proofs.YtfhdecheaeoopaaGreatDoor.Vp
open Go.RowKit

set_option maxRecDepth 1000000 in
set_option maxHeartbeats 8000000 in
theorem l4Run_any (bd offd n cap : Nat) (f : Nat → Deed) (p : Nat) (w : World) (_hn : (n : Int) ≤ 400) (hacc : accOk f n = true) (hp : p < n) (hk : (f p).kind = 3) (hrow : RowDeed w bd offd n f) (hsz : SizedDeed (f p)) :
    Calls Tryz.prog 17 #[.agg #[.slice (some ⟨bd, offd, none⟩) n cap], .int .i64 p] w fun e w' => e = .returned (.int .i64 (codeR f p)) ∧ Below w.heap.size w w' := by
  obtain ⟨i0, hi, hy0, hy1, hy2⟩ := info_parts infoReply
  have hN : (f p).linksN ≤ 200 := by
    rcases (accOk_deed hacc p hp).2 with h | h | h
    · omega
    · omega
    · exact h.2.2.2.2
  have hv : valid (f p).act (f p).actN = true := by
    rcases (accOk_deed hacc p hp).2 with h | h | h
    · omega
    · omega
    · exact h.2.2.2.1
  have hc2 : (f p).actN ≤ 200 := by have := (valid_parts hv).2.2; omega
  have HNX := hide (fun k (hk2 : k ≤ (f p).linksN) => nextA_is hacc hp hk hk2)
  have HASK := hide (fun j (hj : j < (f p).linksN) (ha : ((f p).links j).ask = true) => (⟨(accOk_ask hacc p hp j hj ha).1, Nat.lt_trans (accOk_ask hacc p hp j hj ha).2.1 hp⟩ : 0 ≤ ((f p).links j).at_ ∧ ((f p).links j).at_.toNat < n))
  have HSZ := hide (show ∀ i, i < (f p).actN → ((f p).act i).s.size ≤ maxLen from hsz.2.2.1.2)
  have HROW := hide hrow
  obtain ⟨o0, o1, o2, o3, ⟨a0, cap0, o4, hI⟩, ⟨a1, cap1, o5, hLk⟩⟩ := hrow.2 p hp
  obtain ⟨pb, po, rfl, hri⟩ : ∃ pb po, a0 = some ⟨pb, po, none⟩ ∧ RowIns w pb po (f p).actN (f p).act := by
    have := (valid_parts hv).2
    rcases hI with h | ⟨b, off, e, hr⟩
    · omega
    · exact ⟨b, off, e, hr⟩
  have HI := hide hri
  have HLK := hide hLk
  have hbd := hrow.1
  clear hri hI hLk hrow hsz hacc hk hv
  have hpn : (p : Int) < n := by omega
  obtain ⟨C, hC⟩ : ∃ C, C = codeR f p := ⟨_, rfl⟩
  rw [← hC]
  have HC := hide hC
  clear hC
  have A0 := hide ((Below.refl w.heap.size w).alloc (Nat.le_refl _) (.cells #[.slice (some ⟨bd, offd, none⟩) n cap] 30))
  have AD := hide (A0.out.alloc A0.out.size (.cells #[.string (f p).name, .int .i64 (f p).kind, .int .i64 (f p).code, .string (f p).text, .slice (some ⟨pb, po, none⟩) (f p).actN cap0, .slice a1 (f p).linksN cap1] 54))
  have zD : ((w.alloc (.cells #[.slice (some ⟨bd, offd, none⟩) n cap] 30)).alloc (.cells #[.string (f p).name, .int .i64 (f p).kind, .int .i64 (f p).code, .string (f p).text, .slice (some ⟨pb, po, none⟩) (f p).actN cap0, .slice a1 (f p).linksN cap1] 54)).heap.size = w.heap.size + 2 := by simp
  have kA : ((w.alloc (.cells #[.slice (some ⟨bd, offd, none⟩) n cap] 30)).alloc (.cells #[.string (f p).name, .int .i64 (f p).kind, .int .i64 (f p).code, .string (f p).text, .slice (some ⟨pb, po, none⟩) (f p).actN cap0, .slice a1 (f p).linksN cap1] 54)).cell? ⟨w.heap.size, 0, none⟩ = some (.slice (some ⟨bd, offd, none⟩) n cap) := by simp [go_sem]
  have kD2 : ((w.alloc (.cells #[.slice (some ⟨bd, offd, none⟩) n cap] 30)).alloc (.cells #[.string (f p).name, .int .i64 (f p).kind, .int .i64 (f p).code, .string (f p).text, .slice (some ⟨pb, po, none⟩) (f p).actN cap0, .slice a1 (f p).linksN cap1] 54)).cell? ⟨w.heap.size + 1, 2, none⟩ = some (.int .i64 (f p).code) := by simp [go_sem]
  have kD3 : ((w.alloc (.cells #[.slice (some ⟨bd, offd, none⟩) n cap] 30)).alloc (.cells #[.string (f p).name, .int .i64 (f p).kind, .int .i64 (f p).code, .string (f p).text, .slice (some ⟨pb, po, none⟩) (f p).actN cap0, .slice a1 (f p).linksN cap1] 54)).cell? ⟨w.heap.size + 1, 3, none⟩ = some (.string (f p).text) := by simp [go_sem]
  have kD4 : ((w.alloc (.cells #[.slice (some ⟨bd, offd, none⟩) n cap] 30)).alloc (.cells #[.string (f p).name, .int .i64 (f p).kind, .int .i64 (f p).code, .string (f p).text, .slice (some ⟨pb, po, none⟩) (f p).actN cap0, .slice a1 (f p).linksN cap1] 54)).cell? ⟨w.heap.size + 1, 4, none⟩ = some (.slice (some ⟨pb, po, none⟩) (f p).actN cap0) := by simp [go_sem]
  have kD5 : ((w.alloc (.cells #[.slice (some ⟨bd, offd, none⟩) n cap] 30)).alloc (.cells #[.string (f p).name, .int .i64 (f p).kind, .int .i64 (f p).code, .string (f p).text, .slice (some ⟨pb, po, none⟩) (f p).actN cap0, .slice a1 (f p).linksN cap1] 54)).cell? ⟨w.heap.size + 1, 5, none⟩ = some (.slice a1 (f p).linksN cap1) := by simp [go_sem]
  have p0 := (A0.out.cell (p := ⟨bd, offd + p * 6, none⟩) hbd).trans o0
  have p1 := (A0.out.cell (p := ⟨bd, offd + p * 6 + 1, none⟩) hbd).trans o1
  have p2 := (A0.out.cell (p := ⟨bd, offd + p * 6 + 2, none⟩) hbd).trans o2
  have p3 := (A0.out.cell (p := ⟨bd, offd + p * 6 + 3, none⟩) hbd).trans o3
  have p4 := (A0.out.cell (p := ⟨bd, offd + p * 6 + 4, none⟩) hbd).trans o4
  have p5 := (A0.out.cell (p := ⟨bd, offd + p * 6 + 5, none⟩) hbd).trans o5
  clear o0 o1 o2 o3 o4 o5
  have OL := hide (by have h := own_lit ((w.alloc (.cells #[.slice (some ⟨bd, offd, none⟩) n cap] 30)).alloc (.cells #[.string (f p).name, .int .i64 (f p).kind, .int .i64 (f p).code, .string (f p).text, .slice (some ⟨pb, po, none⟩) (f p).actN cap0, .slice a1 (f p).linksN cap1] 54)) 88 3; rw [zD] at h; exact h)
  have BL := hide ((Below.refl (w.heap.size + 2) ((w.alloc (.cells #[.slice (some ⟨bd, offd, none⟩) n cap] 30)).alloc (.cells #[.string (f p).name, .int .i64 (f p).kind, .int .i64 (f p).code, .string (f p).text, .slice (some ⟨pb, po, none⟩) (f p).actN cap0, .slice a1 (f p).linksN cap1] 54))).alloc (by rw [zD]; exact Nat.le_refl _) (.cells #[] 88))
  go_enter Tryz.func17, Tryz.ntmps17
  go_wp2
  clear p0 p1 p2 p3 p4 p5
  generalize (w.alloc (.cells #[.slice (some ⟨bd, offd, none⟩) n cap] 30)).alloc (.cells #[.string (f p).name, .int .i64 (f p).kind, .int .i64 (f p).code, .string (f p).text, .slice (some ⟨pb, po, none⟩) (f p).actN cap0, .slice a1 (f p).linksN cap1] 54) = WDx at AD zD kA kD2 kD3 kD4 kD5 OL BL ⊢
  generalize WDx.alloc (.cells #[] 88) = W0 at OL BL ⊢
  go_loopw [6] (fun v wr => ∃ (k g c : Nat), k ≤ (f p).linksN ∧ v = .slice (some ⟨g, 0, none⟩) k c ∧ Hid (wr.ownsRow (w.heap.size + 2) 88 3 (.slice (some ⟨g, 0, none⟩) k c) k (repL (yOf f p) k)) ∧ Hid (∀ i, i < k → offK f p i = false) ∧ Hid (Below (w.heap.size + 2) WDx wr)) (fun v _ => (f p).linksN + 1 - slLen v)
  case atStart => exact ⟨0, w.heap.size + 2, 0, by omega, rfl, OL.out, fun i hi => absurd hi (Nat.not_lt_zero _), BL.out⟩
  case round =>
    obtain ⟨k, g, c, hkN, rfl, HO, HF, HB⟩ := hrel
    have RW := hide (AD.out.trans (HB.out.mono (by omega)))
    have d4 := (HB.out.cell (p := ⟨w.heap.size + 1, 4, none⟩) (show w.heap.size + 1 < w.heap.size + 2 by omega)).trans kD4
    go_wp2_with fail
    clear d4
    refine (specNext_any pb po (f p).actN cap0 g 0 k c (f p).act (yOf f p) _ (by omega) (HI.out.below RW.out (Nat.le_refl _)) (row_replies HO.out) HSZ.out).mono ?_
    rintro e w1 ⟨rfl, hB1⟩
    rw [HNX.out k hkN]
    obtain ⟨t, ht⟩ : ∃ t, t = turnK f p k := ⟨_, rfl⟩
    rw [← ht]
    have HTT := hide ht
    have B1 := hide (HB.out.trans (hB1.mono (by have := HB.out.size; omega)))
    have O1 := hide (own_below HO.out hB1 (Nat.le_refl _))
    have hz1 : w.heap.size + 2 ≤ w1.heap.size := by have := B1.out.size; omega
    have hz2 : w.heap.size + 1 < w1.heap.size := by omega
    have hz3 : w.heap.size < w1.heap.size := by omega
    have d2 := (B1.out.cell (p := ⟨w.heap.size + 1, 2, none⟩) (show w.heap.size + 1 < w.heap.size + 2 by omega)).trans kD2
    have d3 := (B1.out.cell (p := ⟨w.heap.size + 1, 3, none⟩) (show w.heap.size + 1 < w.heap.size + 2 by omega)).trans kD3
    have d5 := (B1.out.cell (p := ⟨w.heap.size + 1, 5, none⟩) (show w.heap.size + 1 < w.heap.size + 2 by omega)).trans kD5
    have BT := hide (B1.out.alloc hz1 (.cells #[.bool t.over, .int .i64 t.code, .string t.text, .bool t.ask, .string t.name, .int .i64 t.steps] 85))
    have RT := hide (AD.out.trans (BT.out.mono (by omega)))
    have OT := hide (O1.out.alloc (.cells #[.bool t.over, .int .i64 t.code, .string t.text, .bool t.ask, .string t.name, .int .i64 t.steps] 85))
    clear ht hB1 HO HB
    simp only [Turn.v]
    cases ho : t.over with
    | true =>
      rw [ho] at BT RT OT
      by_cases hlt : k < (f p).linksN
      · have hlt2 : (k : Int) < (f p).linksN := by omega
        have HOFF : Hid (offK f p k = true) := by show _ = _; unfold offK; rw [← HTT.out]; rw [ho]; rfl
        have HCC : Hid (C = 4) := by show _ = _; rw [HC.out]; exact code_off hlt HF.out HOFF.out
        go_wp2
        go_ret
        exact ⟨by simp [HCC.out], RT.out⟩
      · obtain rfl : k = (f p).linksN := by omega
        have HCE := hide (code_end HF.out)
        by_cases hc : t.code = (f p).code
        · cases htx : (t.text.toList == (f p).text.toList) with
          | true =>
            have HCC : Hid (C = 0) := by show _ = _; rw [HC.out, HCE.out, ← HTT.out, ho, if_neg (by simp), if_pos ⟨hc, beq_iff_eq.1 htx⟩]
            go_wp2
            go_ret
            exact ⟨by simp [HCC.out], AD.out.trans ((B1.out.alloc hz1 _).mono (by omega))⟩
          | false =>
            have HCC : Hid (C = 5) := by show _ = _; rw [HC.out, HCE.out, ← HTT.out, ho, if_neg (by simp), if_neg (fun h => by rw [h.2] at htx; simp at htx)]
            go_wp2
            go_ret
            exact ⟨by simp [HCC.out], AD.out.trans ((B1.out.alloc hz1 _).mono (by omega))⟩
        · have HCC : Hid (C = 5) := by show _ = _; rw [HC.out, HCE.out, ← HTT.out, ho, if_neg (by simp), if_neg (fun h => hc h.1)]
          have hc2 : (t.code == (f p).code) = false := by simpa using hc
          go_wp2
          go_ret
          exact ⟨by simp [HCC.out], AD.out.trans ((B1.out.alloc hz1 _).mono (by omega))⟩
    | false =>
      rw [ho] at BT RT OT
      by_cases hlt : k < (f p).linksN
      · have hlt2 : (k : Int) < (f p).linksN := by omega
        have hge : decide ((f p).linksN ≤ k) = false := by simp; omega
        obtain ⟨bl, offl, rfl, hrl⟩ := (HLK.out.below RT.out (Nat.le_refl _)).resolve_left (by omega)
        obtain ⟨r0, r1, r2, r3⟩ := hrl.2 k hlt
        obtain ⟨l, hl⟩ : ∃ l, (f p).links k = l := ⟨_, rfl⟩
        rw [hl] at r0 r1 r2 r3
        obtain ⟨nm, ask, hs, at_⟩ := l
        dsimp only at r0 r1 r2 r3
        have HLL := hide hl
        clear hrl hl
        cases hn : (nm.toList == t.name.toList) with
        | false =>
          have hn2 : (t.name.toList == nm.toList) = false := by rw [beq_eq_false_iff_ne] at hn ⊢; exact fun h => hn h.symm
          have HOFF : Hid (offK f p k = true) := by show _ = _; unfold offK; rw [← HTT.out, HLL.out]; simp [hn2]
          have HCC : Hid (C = 4) := by show _ = _; rw [HC.out]; exact code_off hlt HF.out HOFF.out
          go_wp2_with fail
          go_quiet (fail)
          have BQ := hide (below_drewN RT.out nq)
          clear r0 r1 r2 r3 BT RT OT d2 d3 d5
          generalize (w1.alloc (.cells #[.bool false, .int .i64 t.code, .string t.text, .bool t.ask, .string t.name, .int .i64 t.steps] 85)).drewN nq = WQ at BQ ⊢
          go_wp2
          go_ret
          exact ⟨by simp [HCC.out], BQ.out⟩
        | true =>
          have hn2 : (t.name.toList == nm.toList) = true := by rw [beq_iff_eq] at hn ⊢; exact hn.symm
          cases hta : t.ask with
          | true =>
            rw [hta] at BT RT OT r0 r1 r2 r3
            cases ask with
            | true =>
              have HOFF : Hid (offK f p k = false) := by show _ = _; unfold offK; rw [← HTT.out, HLL.out]; simp [ho, hn2, hta]
              have HY : Hid (ansR f ⟨nm, true, hs, at_⟩ = yOf f p k) := by show _ = _; unfold yOf; rw [HLL.out]
              have HAT : Hid (0 ≤ at_ ∧ at_.toNat < n) := by have := HASK.out k hlt (by rw [HLL.out]); rw [HLL.out] at this; exact this
              go_wp2_with fail
              go_quiet (fail)
              have BQ := hide (below_drewN BT.out nq)
              have RQ := hide (AD.out.trans (BQ.out.mono (by omega)))
              have OQ := hide (own_below OT.out (below_drewN (Below.refl _ _) nq) (Nat.le_refl _))
              clear r0 r1 r2 r3 BT RT OT d2 d3 d5
              generalize (w1.alloc (.cells #[.bool false, .int .i64 t.code, .string t.text, .bool true, .string t.name, .int .i64 t.steps] 85)).drewN nq = WQ at BQ RQ OQ ⊢
              have kA2 := (BQ.out.cell (p := ⟨w.heap.size, 0, none⟩) (show w.heap.size < w.heap.size + 2 by omega)).trans kA
              have d5 := (BQ.out.cell (p := ⟨w.heap.size + 1, 5, none⟩) (show w.heap.size + 1 < w.heap.size + 2 by omega)).trans kD5
              have hrl2 := (HLK.out.below RQ.out (Nat.le_refl _)).resolve_left (by omega)
              obtain ⟨bl2, offl2, eb, hrl3⟩ := hrl2
              simp only [Option.some.injEq, Addr.mk.injEq, and_true] at eb
              obtain ⟨rfl, rfl⟩ := eb
              obtain ⟨r0, r1, r2, r3⟩ := hrl3.2 k hlt
              rw [HLL.out] at r0 r1 r2 r3
              dsimp only at r0 r1 r2 r3
              have hqz : w.heap.size + 2 ≤ WQ.heap.size := by have := BQ.out.size; omega
              clear hrl3
              go_wp2_with fail
              go_region_law (first
                | (refine step_append_own rfl (.tmp 67) (.tmp 75) 83 rfl (w.heap.size + 2) 88 i0 (.agg #[.bool false, .int .i64 0, .string ⟨#[]⟩]) 3 32 Tryz.underlying83 hi hy0 hy1 hy2 rfl (by decide) (.slice (some ⟨g, 0, none⟩) k c) k (repL (yOf f p) k) (by simp [Act.eval]) (by first | exact O5.out.alloc _ | exact O5.out.drew.alloc _ | exact O5.out.drew.drew.alloc _) ⟨w5.heap.size, 0, none⟩ 1 1 (replyV (yOf f p) k) (by simp [Act.eval]) rfl (by first | exact three_new w5 _ _ _ _ | exact three_new w5.drew _ _ _ _ | exact three_new w5.drew.drew _ _ _ _) (by simp [replyV, Value.oneCell']) (by unfold maxLen; omega) (by omega) (by first | (simp; done) | (simp; omega)) ?_; intro v6 w6 hown hgrow hnil; have O6 := hide hown; (first | have B6 := hide (Below.grown (B5.out.alloc h5z _) hgrow (by first | (simp; done) | (simp; omega)) (fun j e => (O5.out.lt j e).1)) | have B6 := hide (Below.grown (B5.out.drew.alloc (by simpa using h5z) _) hgrow (by first | (simp; done) | (simp; omega)) (fun j e => (O5.out.lt j e).1))); clear hown hgrow hnil)
                | (go_simp; go_at_call 40; refine (l4Answer_any bd offd n cap f ⟨nm, true, hs, at_⟩ _ ?_ (fun _ => HAT.out)).mono ?_; (first | exact HROW.out.below RQ.out (Nat.le_refl _) | exact HROW.out.below RQ.out.drew (Nat.le_refl _) | exact HROW.out.below RQ.out.drew.drew (Nat.le_refl _) | exact HROW.out.below RQ.out.drew.drew.drew (Nat.le_refl _)); rintro e w5 ⟨rfl, hB5⟩; rw [HY.out]; have D5 : Hid (Below WQ.heap.size WQ w5) := ⟨hB5.os, hB5.tape, hB5.output, hB5.size, hB5.block⟩; have O5 := hide (own_below OQ.out D5.out (Nat.le_refl _)); have B5 := hide (BQ.out.trans (D5.out.mono hqz)); have h5z : w.heap.size + 2 ≤ w5.heap.size := (Nat.le_trans hqz D5.out.size); clear hB5))
              all_goals
                obtain ⟨g6, c6, rfl⟩ := own_slice3 O6.out (by omega)
                go_simp
                go_wp2
                exact ⟨⟨k + 1, g6, c6, by omega, rfl, O6.out, fun i hi => by
                  by_cases e : i = k
                  · subst e; exact HOFF.out
                  · exact HF.out i (by omega), B6.out⟩, by simp [slLen]; omega⟩
            | false =>
              have HOFF : Hid (offK f p k = true) := by show _ = _; unfold offK; rw [← HTT.out, HLL.out]; simp [hta]
              have HCC : Hid (C = 4) := by show _ = _; rw [HC.out]; exact code_off hlt HF.out HOFF.out
              go_wp2_with fail
              go_quiet (fail)
              have BQ := hide (below_drewN RT.out nq)
              clear r0 r1 r2 r3 BT RT OT d2 d3 d5
              generalize (w1.alloc (.cells #[.bool false, .int .i64 t.code, .string t.text, .bool true, .string t.name, .int .i64 t.steps] 85)).drewN nq = WQ at BQ ⊢
              go_wp2
              go_ret
              exact ⟨by simp [HCC.out], BQ.out⟩
          | false =>
            rw [hta] at BT RT OT r0 r1 r2 r3
            cases ask with
            | true =>
              have HOFF : Hid (offK f p k = true) := by show _ = _; unfold offK; rw [← HTT.out, HLL.out]; simp [hta]
              have HCC : Hid (C = 4) := by show _ = _; rw [HC.out]; exact code_off hlt HF.out HOFF.out
              go_wp2_with fail
              go_quiet (fail)
              have BQ := hide (below_drewN RT.out nq)
              clear r0 r1 r2 r3 BT RT OT d2 d3 d5
              generalize (w1.alloc (.cells #[.bool false, .int .i64 t.code, .string t.text, .bool false, .string t.name, .int .i64 t.steps] 85)).drewN nq = WQ at BQ ⊢
              go_wp2
              go_ret
              exact ⟨by simp [HCC.out], BQ.out⟩
            | false =>
              have HOFF : Hid (offK f p k = false) := by show _ = _; unfold offK; rw [← HTT.out, HLL.out]; simp [ho, hn2, hta]
              have HY : Hid (ansR f ⟨nm, false, hs, at_⟩ = yOf f p k) := by show _ = _; unfold yOf; rw [HLL.out]
              go_wp2_with fail
              go_quiet (fail)
              have BQ := hide (below_drewN BT.out nq)
              have RQ := hide (AD.out.trans (BQ.out.mono (by omega)))
              have OQ := hide (own_below OT.out (below_drewN (Below.refl _ _) nq) (Nat.le_refl _))
              clear r0 r1 r2 r3 BT RT OT d2 d3 d5
              generalize (w1.alloc (.cells #[.bool false, .int .i64 t.code, .string t.text, .bool false, .string t.name, .int .i64 t.steps] 85)).drewN nq = WQ at BQ RQ OQ ⊢
              have kA2 := (BQ.out.cell (p := ⟨w.heap.size, 0, none⟩) (show w.heap.size < w.heap.size + 2 by omega)).trans kA
              have d5 := (BQ.out.cell (p := ⟨w.heap.size + 1, 5, none⟩) (show w.heap.size + 1 < w.heap.size + 2 by omega)).trans kD5
              have hrl2 := (HLK.out.below RQ.out (Nat.le_refl _)).resolve_left (by omega)
              obtain ⟨bl2, offl2, eb, hrl3⟩ := hrl2
              simp only [Option.some.injEq, Addr.mk.injEq, and_true] at eb
              obtain ⟨rfl, rfl⟩ := eb
              obtain ⟨r0, r1, r2, r3⟩ := hrl3.2 k hlt
              rw [HLL.out] at r0 r1 r2 r3
              dsimp only at r0 r1 r2 r3
              have hqz : w.heap.size + 2 ≤ WQ.heap.size := by have := BQ.out.size; omega
              clear hrl3
              go_wp2_with fail
              go_region_law (first
                | (refine step_append_own rfl (.tmp 67) (.tmp 75) 83 rfl (w.heap.size + 2) 88 i0 (.agg #[.bool false, .int .i64 0, .string ⟨#[]⟩]) 3 32 Tryz.underlying83 hi hy0 hy1 hy2 rfl (by decide) (.slice (some ⟨g, 0, none⟩) k c) k (repL (yOf f p) k) (by simp [Act.eval]) (by first | exact O5.out.alloc _ | exact O5.out.drew.alloc _ | exact O5.out.drew.drew.alloc _) ⟨w5.heap.size, 0, none⟩ 1 1 (replyV (yOf f p) k) (by simp [Act.eval]) rfl (by first | exact three_new w5 _ _ _ _ | exact three_new w5.drew _ _ _ _ | exact three_new w5.drew.drew _ _ _ _) (by simp [replyV, Value.oneCell']) (by unfold maxLen; omega) (by omega) (by first | (simp; done) | (simp; omega)) ?_; intro v6 w6 hown hgrow hnil; have O6 := hide hown; (first | have B6 := hide (Below.grown (B5.out.alloc h5z _) hgrow (by first | (simp; done) | (simp; omega)) (fun j e => (O5.out.lt j e).1)) | have B6 := hide (Below.grown (B5.out.drew.alloc (by simpa using h5z) _) hgrow (by first | (simp; done) | (simp; omega)) (fun j e => (O5.out.lt j e).1))); clear hown hgrow hnil)
                | (go_simp; go_at_call 40; refine (l4Answer_any bd offd n cap f ⟨nm, false, hs, at_⟩ _ ?_ (fun h => by cases h)).mono ?_; (first | exact HROW.out.below RQ.out (Nat.le_refl _) | exact HROW.out.below RQ.out.drew (Nat.le_refl _) | exact HROW.out.below RQ.out.drew.drew (Nat.le_refl _) | exact HROW.out.below RQ.out.drew.drew.drew (Nat.le_refl _)); rintro e w5 ⟨rfl, hB5⟩; rw [HY.out]; have D5 : Hid (Below WQ.heap.size WQ w5) := ⟨hB5.os, hB5.tape, hB5.output, hB5.size, hB5.block⟩; have O5 := hide (own_below OQ.out D5.out (Nat.le_refl _)); have B5 := hide (BQ.out.trans (D5.out.mono hqz)); have h5z : w.heap.size + 2 ≤ w5.heap.size := (Nat.le_trans hqz D5.out.size); clear hB5))
              all_goals
                obtain ⟨g6, c6, rfl⟩ := own_slice3 O6.out (by omega)
                go_simp
                go_wp2
                exact ⟨⟨k + 1, g6, c6, by omega, rfl, O6.out, fun i hi => by
                  by_cases e : i = k
                  · subst e; exact HOFF.out
                  · exact HF.out i (by omega), B6.out⟩, by simp [slLen]; omega⟩
      · obtain rfl : k = (f p).linksN := by omega
        have HCE := hide (code_end HF.out)
        have HCC : Hid (C = 4) := by show _ = _; rw [HC.out, HCE.out, ← HTT.out, ho, if_pos rfl]
        go_wp2_with fail
        go_quiet (fail)
        go_wp2
        go_ret
        exact ⟨by simp [HCC.out], by first | exact below_drewN RT.out _ | exact RT.out⟩

end Go.Proofs.YtfhdecheaeoopaaGreatDoor.Vp

/-
  impl: reply, replyOf.
-/
namespace Go.Proofs.YtfhdecheaeoopaaGreatDoor.Vp
open Go.RowKit

set_option maxRecDepth 100000 in
set_option maxHeartbeats 4000000 in
theorem replyOf_any (bd offd n cap : Nat) (f : Nat → Deed) (l : Link) (w : World) (hacc : accOk f n = true) (hrow : RowDeed w bd offd n f) (hl : l.ask = true → 0 ≤ l.at_ ∧ l.at_.toNat < n) :
    Calls Tryz.prog 83 #[.agg #[.slice (some ⟨bd, offd, none⟩) n cap], .agg #[.string l.name, .bool l.ask, .bool l.has, .int .i64 l.at_]] w fun e w' => e = .returned (.agg #[.bool (ansR f l).has, .int .i64 (ansR f l).code, .string (ansR f l).text]) ∧ Below w.heap.size w w' := by
  have HR := hide hrow
  have HA := hide (fun ha : l.ask = true => ansR_impl hacc ha (hl ha).2)
  have HL := hide hl
  have HN := hide (show l.ask = false → ansR f l = ⟨l.has, 0, ⟨#[]⟩⟩ from fun h => by unfold ansR; rw [if_neg (by rw [h]; simp)])
  clear hrow hacc hl
  obtain ⟨R, hR⟩ : ∃ R, R = ansR f l := ⟨_, rfl⟩
  rw [← hR] at HA HN ⊢
  clear hR
  obtain ⟨nm, ask, hs, at_⟩ := l
  dsimp only at HA HL HN ⊢
  have A0 := hide ((((Below.refl w.heap.size w).alloc (Nat.le_refl _) (.cells #[.slice (some ⟨bd, offd, none⟩) n cap] 30)).alloc (by simp) (.cells #[.string nm, .bool ask, .bool hs, .int .i64 at_] 70)).alloc (by simp; omega) (.cells #[.bool false, .int .i64 0, .string ⟨#[]⟩] 88))
  cases ask with
  | false =>
    obtain rfl : R = ⟨hs, 0, ⟨#[]⟩⟩ := HN.out rfl
    dsimp only
    go_enter Tryz.func83, Tryz.ntmps83
    go_wp2
    exact bodyPost_ret (v := .agg #[.bool hs, .int .i64 0, .string ⟨#[]⟩]) (by simp [results, Tryz.results83, go_sem]) rfl ⟨rfl, by
      repeat (first | exact Below.refl _ _ | refine Below.alloc ?_ (by first | (simp; done) | (simp; omega)) _)⟩
  | true =>
    obtain ⟨h1, h2⟩ := HL.out rfl
    obtain ⟨p, rfl⟩ := Int.eq_ofNat_of_zero_le h1
    have hp : p < n := by simpa using h2
    obtain rfl : R = ⟨decide (¬ (f p).kind = 2), (f p).code, (f p).text⟩ := by have := HA.out rfl; simpa using this
    dsimp only
    obtain ⟨p0, p1, p2, p3, ⟨a2, cap2, p4, q4⟩, ⟨a3, cap3, p5, q5⟩⟩ := (HR.out.below A0.out (Nat.le_refl _)).2 p hp
    clear q4 q5 HA HN HL
    have hpn : (p : Int) < n := by omega
    go_enter Tryz.func83, Tryz.ntmps83
    go_wp2_with fail
    clear p0 p1 p2 p3 p4 p5
    have z0 : (((w.alloc (.cells #[.slice (some ⟨bd, offd, none⟩) n cap] 30)).alloc (.cells #[.string nm, .bool true, .bool hs, .int .i64 (p : Int)] 70)).alloc (.cells #[.bool false, .int .i64 0, .string ⟨#[]⟩] 88)).heap.size = w.heap.size + 3 := by simp
    have c0 : (((w.alloc (.cells #[.slice (some ⟨bd, offd, none⟩) n cap] 30)).alloc (.cells #[.string nm, .bool true, .bool hs, .int .i64 (p : Int)] 70)).alloc (.cells #[.bool false, .int .i64 0, .string ⟨#[]⟩] 88)).cell? ⟨w.heap.size + 1 + 1, 0, none⟩ = some (.bool false) := by simp [go_sem]
    have y0 : (((w.alloc (.cells #[.slice (some ⟨bd, offd, none⟩) n cap] 30)).alloc (.cells #[.string nm, .bool true, .bool hs, .int .i64 (p : Int)] 70)).alloc (.cells #[.bool false, .int .i64 0, .string ⟨#[]⟩] 88)).frozen? ⟨w.heap.size + 1 + 1, 0, none⟩ = false := by simp [go_sem]
    have c1 : (((w.alloc (.cells #[.slice (some ⟨bd, offd, none⟩) n cap] 30)).alloc (.cells #[.string nm, .bool true, .bool hs, .int .i64 (p : Int)] 70)).alloc (.cells #[.bool false, .int .i64 0, .string ⟨#[]⟩] 88)).cell? ⟨w.heap.size + 1 + 1, 1, none⟩ = some (.int .i64 0) := by simp [go_sem]
    have y1 : (((w.alloc (.cells #[.slice (some ⟨bd, offd, none⟩) n cap] 30)).alloc (.cells #[.string nm, .bool true, .bool hs, .int .i64 (p : Int)] 70)).alloc (.cells #[.bool false, .int .i64 0, .string ⟨#[]⟩] 88)).frozen? ⟨w.heap.size + 1 + 1, 1, none⟩ = false := by simp [go_sem]
    have c2 : (((w.alloc (.cells #[.slice (some ⟨bd, offd, none⟩) n cap] 30)).alloc (.cells #[.string nm, .bool true, .bool hs, .int .i64 (p : Int)] 70)).alloc (.cells #[.bool false, .int .i64 0, .string ⟨#[]⟩] 88)).cell? ⟨w.heap.size + 1 + 1, 2, none⟩ = some (.string ⟨#[]⟩) := by simp [go_sem]
    have y2 : (((w.alloc (.cells #[.slice (some ⟨bd, offd, none⟩) n cap] 30)).alloc (.cells #[.string nm, .bool true, .bool hs, .int .i64 (p : Int)] 70)).alloc (.cells #[.bool false, .int .i64 0, .string ⟨#[]⟩] 88)).frozen? ⟨w.heap.size + 1 + 1, 2, none⟩ = false := by simp [go_sem]
    generalize ((w.alloc (.cells #[.slice (some ⟨bd, offd, none⟩) n cap] 30)).alloc (.cells #[.string nm, .bool true, .bool hs, .int .i64 (p : Int)] 70)).alloc (.cells #[.bool false, .int .i64 0, .string ⟨#[]⟩] 88) = W0 at A0 z0 c0 c1 c2 y0 y1 y2 ⊢
    refine (reply_any (f p) a2 cap2 a3 cap3 _).mono ?_
    rintro e w1 ⟨rfl, hB⟩
    have hlt : w.heap.size + 1 + 1 < W0.heap.size := by omega
    have d0 := (hB.cell (p := ⟨w.heap.size + 1 + 1, 0, none⟩) hlt).trans c0
    have d1 := (hB.cell (p := ⟨w.heap.size + 1 + 1, 1, none⟩) hlt).trans c1
    have d2 := (hB.cell (p := ⟨w.heap.size + 1 + 1, 2, none⟩) hlt).trans c2
    have e0 := (hB.frozen (p := ⟨w.heap.size + 1 + 1, 0, none⟩) hlt).trans y0
    have e1 := (hB.frozen (p := ⟨w.heap.size + 1 + 1, 1, none⟩) hlt).trans y1
    have e2 := (hB.frozen (p := ⟨w.heap.size + 1 + 1, 2, none⟩) hlt).trans y2
    have B1 := hide (A0.out.trans (hB.mono A0.out.size))
    have hz1 : w.heap.size + 1 + 1 < w1.heap.size := Nat.lt_of_lt_of_le hlt hB.size
    clear hB c0 c1 c2 y0 y1 y2
    go_wp2
    exact bodyPost_ret (v := .agg #[.bool (decide (¬ (f p).kind = 2)), .int .i64 (f p).code, .string (f p).text]) (by simp [results, Tryz.results83, go_sem, d0, d1, d2]) rfl ⟨rfl, ((B1.out.setCell (p := ⟨w.heap.size + 1 + 1, 0, none⟩) (by simp; omega) _).setCell (p := ⟨w.heap.size + 1 + 1, 1, none⟩) (by simp; omega) _).setCell (p := ⟨w.heap.size + 1 + 1, 2, none⟩) (by simp; omega) _⟩

end Go.Proofs.YtfhdecheaeoopaaGreatDoor.Vp

/-
  Turns in boxes.
-/

/-
  impl: replay.
-/
namespace Go.Proofs.YtfhdecheaeoopaaGreatDoor.Vp
open Go.RowKit

set_option maxRecDepth 100000 in
set_option maxHeartbeats 8000000 in
theorem replay_any (bd offd n cap : Nat) (f : Nat → Deed) (p pb po cap0 : Nat) (a1 : Option Addr) (cap1 : Nat) (w : World) (hacc : accOk f n = true) (hp : p < n) (hk : (f p).kind = 3) (hrow : RowDeed w bd offd n f) (hI : RowIns w pb po (f p).actN (f p).act) (hLk : SlLink w a1 (f p).linksN (f p).links) (hT2 : Tab2 w) (hPow : Pow w) :
    Calls Tryz.prog 43 #[.agg #[.slice (some ⟨bd, offd, none⟩) n cap], .agg #[.string (f p).name, .int .i64 (f p).kind, .int .i64 (f p).code, .string (f p).text, .slice (some ⟨pb, po, none⟩) (f p).actN cap0, .slice a1 (f p).linksN cap1]] w fun e w' => e = .returned (.tuple #[(turnK f p (stopAt f p)).v, .int .i64 (((f p).linksN : Int) - (stopAt f p : Int))]) ∧ Below w.heap.size w w' := by
  have hval : valid (f p).act (f p).actN = true ∧ (f p).linksN ≤ 200 := by
    rcases (accOk_deed hacc p hp).2 with h | h | h
    · omega
    · omega
    · exact ⟨h.2.2.2.1, h.2.2.2.2⟩
  obtain ⟨hv, hN⟩ := hval
  have hc2 : (f p).actN ≤ 200 := by have := (valid_parts hv).2.2; omega
  have HOK := hide (valid_parts hv).1
  have HACC := hide hacc
  have HASK := hide (fun j (hj : j < (f p).linksN) (ha : ((f p).links j).ask = true) => (⟨(accOk_ask hacc p hp j hj ha).1, Nat.lt_trans (accOk_ask hacc p hp j hj ha).2.1 hp⟩ : 0 ≤ ((f p).links j).at_ ∧ ((f p).links j).at_.toNat < n))
  have HROW := hide hrow
  have HI := hide hI
  have HLK := hide hLk
  have HT2 := hide hT2
  have HPOW := hide hPow
  have hib := hI.1
  have htb := hT2.1
  have hpwb := hPow.lt
  clear hacc hrow hI hLk hT2 hPow hv hk
  obtain ⟨R1, hR1⟩ : ∃ R1, R1 = turnK f p (stopAt f p) := ⟨_, rfl⟩
  obtain ⟨R2, hR2⟩ : ∃ R2, R2 = stopAt f p := ⟨_, rfl⟩
  rw [← hR1, ← hR2]
  have HR1 := hide hR1
  have HR2 := hide hR2
  clear hR1 hR2
  have AW := hide (show Below w.heap.size w (((w.alloc (.cells #[.slice (some ⟨bd, offd, none⟩) n cap] 30)).alloc (.cells #[.string (f p).name, .int .i64 (f p).kind, .int .i64 (f p).code, .string (f p).text, .slice (some ⟨pb, po, none⟩) (f p).actN cap0, .slice a1 (f p).linksN cap1] 54)).alloc (.cells #[.bool false, .int .i64 0, .string ⟨#[]⟩, .bool false, .string ⟨#[]⟩, .int .i64 0] 85)) from (((Below.refl w.heap.size w).alloc (Nat.le_refl _) (.cells #[.slice (some ⟨bd, offd, none⟩) n cap] 30)).alloc (by simp) (.cells #[.string (f p).name, .int .i64 (f p).kind, .int .i64 (f p).code, .string (f p).text, .slice (some ⟨pb, po, none⟩) (f p).actN cap0, .slice a1 (f p).linksN cap1] 54)).alloc (by simp; omega) (.cells #[.bool false, .int .i64 0, .string ⟨#[]⟩, .bool false, .string ⟨#[]⟩, .int .i64 0] 85))
  have zA : (((w.alloc (.cells #[.slice (some ⟨bd, offd, none⟩) n cap] 30)).alloc (.cells #[.string (f p).name, .int .i64 (f p).kind, .int .i64 (f p).code, .string (f p).text, .slice (some ⟨pb, po, none⟩) (f p).actN cap0, .slice a1 (f p).linksN cap1] 54)).alloc (.cells #[.bool false, .int .i64 0, .string ⟨#[]⟩, .bool false, .string ⟨#[]⟩, .int .i64 0] 85)).heap.size = w.heap.size + 3 := by simp
  have kA : (((w.alloc (.cells #[.slice (some ⟨bd, offd, none⟩) n cap] 30)).alloc (.cells #[.string (f p).name, .int .i64 (f p).kind, .int .i64 (f p).code, .string (f p).text, .slice (some ⟨pb, po, none⟩) (f p).actN cap0, .slice a1 (f p).linksN cap1] 54)).alloc (.cells #[.bool false, .int .i64 0, .string ⟨#[]⟩, .bool false, .string ⟨#[]⟩, .int .i64 0] 85)).cell? ⟨w.heap.size, 0, none⟩ = some (.slice (some ⟨bd, offd, none⟩) n cap) := by simp [go_sem]
  have kD4 : (((w.alloc (.cells #[.slice (some ⟨bd, offd, none⟩) n cap] 30)).alloc (.cells #[.string (f p).name, .int .i64 (f p).kind, .int .i64 (f p).code, .string (f p).text, .slice (some ⟨pb, po, none⟩) (f p).actN cap0, .slice a1 (f p).linksN cap1] 54)).alloc (.cells #[.bool false, .int .i64 0, .string ⟨#[]⟩, .bool false, .string ⟨#[]⟩, .int .i64 0] 85)).cell? ⟨w.heap.size + 1, 4, none⟩ = some (.slice (some ⟨pb, po, none⟩) (f p).actN cap0) := by simp [go_sem]
  have kD5 : (((w.alloc (.cells #[.slice (some ⟨bd, offd, none⟩) n cap] 30)).alloc (.cells #[.string (f p).name, .int .i64 (f p).kind, .int .i64 (f p).code, .string (f p).text, .slice (some ⟨pb, po, none⟩) (f p).actN cap0, .slice a1 (f p).linksN cap1] 54)).alloc (.cells #[.bool false, .int .i64 0, .string ⟨#[]⟩, .bool false, .string ⟨#[]⟩, .int .i64 0] 85)).cell? ⟨w.heap.size + 1, 5, none⟩ = some (.slice a1 (f p).linksN cap1) := by simp [go_sem]
  have XA := hide (by have h := six_new ((w.alloc (.cells #[.slice (some ⟨bd, offd, none⟩) n cap] 30)).alloc (.cells #[.string (f p).name, .int .i64 (f p).kind, .int .i64 (f p).code, .string (f p).text, .slice (some ⟨pb, po, none⟩) (f p).actN cap0, .slice a1 (f p).linksN cap1] 54)) (.bool false) (.int .i64 0) (.string ⟨#[]⟩) (.bool false) (.string ⟨#[]⟩) (.int .i64 0) 85; rw [show ((w.alloc (.cells #[.slice (some ⟨bd, offd, none⟩) n cap] 30)).alloc (.cells #[.string (f p).name, .int .i64 (f p).kind, .int .i64 (f p).code, .string (f p).text, .slice (some ⟨pb, po, none⟩) (f p).actN cap0, .slice a1 (f p).linksN cap1] 54)).heap.size = w.heap.size + 1 + 1 by simp] at h; exact h)
  have S0 : Sim m0 0 0 0 [] := ⟨trivial, rfl, by simp, rfl, rfl, rfl, by simp, by omega, by omega, by omega⟩
  obtain ⟨H0, hG0, hL0, hC0⟩ := goes_all (f := (f p).act) (cnt := (f p).actN) (m := m0) rfl S0
  have HG0 := hide hG0
  have HL0 := hide hL0
  have HC0 := hide hC0
  clear hG0 hL0 hC0 S0
  go_enter Tryz.func43, Tryz.ntmps43
  go_wp2_with fail
  generalize ((w.alloc (.cells #[.slice (some ⟨bd, offd, none⟩) n cap] 30)).alloc (.cells #[.string (f p).name, .int .i64 (f p).kind, .int .i64 (f p).code, .string (f p).text, .slice (some ⟨pb, po, none⟩) (f p).actN cap0, .slice a1 (f p).linksN cap1] 54)).alloc (.cells #[.bool false, .int .i64 0, .string ⟨#[]⟩, .bool false, .string ⟨#[]⟩, .int .i64 0] 85) = WA at AW zA kA kD4 kD5 XA ⊢
  refine (begin_any pb po (f p).actN cap0 _).mono ?_
  rintro e w1 ⟨b, rfl, hb, hM1, hB1⟩
  have HM1 := hide hM1
  have B1 : Hid (Below (w.heap.size + 3) WA w1) := by show Below _ _ _; rw [← zA]; exact hB1
  have hbl : w.heap.size + 3 ≤ b := by omega
  have hb1 : b < w1.heap.size := hM1.lt
  have BW1 := hide (AW.out.trans (B1.out.mono (by omega)))
  clear hM1 hB1 hb
  have HE1 : Hid (Env w1 b pb po (f p).actN (f p).act) := ⟨HI.out.below BW1.out (Nat.le_refl _), HT2.out.below BW1.out htb, HPOW.out.below BW1.out (Nat.le_refl _), by omega, by omega, by omega⟩
  go_wp2_with fail
  refine (goOn_start b pb po (f p).actN cap0 (f p).act m0 H0 ⟨false, 0, ⟨#[]⟩⟩ _ HM1.out HE1.out rfl hc2 HOK.out HG0.out).mono ?_
  rintro e w2 ⟨m1, rfl, hM2, hS2, hO2⟩
  have HM2 := hide hM2
  have HS2 := hide hS2
  have B2 := hide (B1.out.trans (hO2.below hbl (by have := B1.out.size; omega)))
  clear hM2 hS2 hO2 HM1 HE1
  simp only [Turn.v]
  have HM3 := hide (HM2.out.al (.cells #[.bool m1.t.over, .int .i64 m1.t.code, .string m1.t.text, .bool m1.t.ask, .string m1.t.name, .int .i64 m1.t.steps] 85))
  have TB0 := hide (turn_box w2 m1.t 85)
  have B3 := hide (B2.out.alloc (by have := B2.out.size; omega) (.cells #[.bool m1.t.over, .int .i64 m1.t.code, .string m1.t.text, .bool m1.t.ask, .string m1.t.name, .int .i64 m1.t.steps] 85))
  have d5 := (B3.out.cell (p := ⟨w.heap.size + 1, 5, none⟩) (show w.heap.size + 1 < w.heap.size + 3 by omega)).trans kD5
  have hg7 : w.heap.size + 3 ≤ w2.heap.size := by have := B2.out.size; omega
  have hbg : b < w2.heap.size := HM2.out.lt
  go_wp2
  clear d5 HM2 B2
  generalize w2.alloc (.cells #[.bool m1.t.over, .int .i64 m1.t.code, .string m1.t.text, .bool m1.t.ask, .string m1.t.name, .int .i64 m1.t.steps] 85) = W3 at HM3 TB0 B3 ⊢
  generalize w2.heap.size = g7 at TB0 hg7 hbg ⊢
  go_loopw [19] (fun i wr => ∃ (k : Nat) (m' : Mst) (H : Halt), k ≤ (f p).linksN ∧ i = .int .i64 k ∧ Hid (MAt wr b (.slice (some ⟨pb, po, none⟩) (f p).actN cap0) m') ∧ Hid (TurnBox wr g7 m'.t) ∧ Hid (Stands m' H) ∧ Hid (looksOf k H) ∧ Hid (∀ n, k ≤ n → contP (f p).act (f p).actN (yOf f p) n H = nextP (f p).act (f p).actN (yOf f p) n 2001 0 0 0 []) ∧ Hid (stopK f p ((f p).linksN - k) k = stopAt f p) ∧ Hid (Below (w.heap.size + 3) WA wr)) (fun i _ => (f p).linksN - (intOf i).toNat)
  case atStart => exact ⟨0, m1, H0, by omega, rfl, HM3.out, TB0.out, HS2.out, HL0.out, fun n _ => HC0.out (yOf f p) n, rfl, B3.out⟩
  case round =>
    obtain ⟨k, m', H, hkN, rfl, HM, TB, HS, HL, HC, HSK, BW⟩ := hrel
    have BWW := hide (AW.out.trans (BW.out.mono (by omega)))
    have HTK : Hid (m'.t = turnK f p k) := by show _ = _; rw [← stands_turn (f := (f p).act) (cnt := (f p).actN) (y := yOf f p) HS.out HL.out]; exact HC.out k (Nat.le_refl _)
    by_cases hlt : k < (f p).linksN
    · obtain ⟨bl, offl, rfl, hrl⟩ := (HLK.out.below BWW.out (Nat.le_refl _)).resolve_left (by omega)
      obtain ⟨r0, r1, r2, r3⟩ := hrl.2 k hlt
      obtain ⟨l, hl⟩ : ∃ l, (f p).links k = l := ⟨_, rfl⟩
      rw [hl] at r0 r1 r2 r3
      obtain ⟨nm, ask, hs, at_⟩ := l
      dsimp only at r0 r1 r2 r3
      have HLL := hide hl
      clear hrl hl
      obtain ⟨j0, hj0⟩ : ∃ j0, (f p).linksN - k = j0 + 1 := ⟨(f p).linksN - k - 1, by omega⟩
      have CL := hide (BW.out.alloc (by have := BW.out.size; omega) (.cells #[.string nm, .bool ask, .bool hs, .int .i64 at_] 70))
      have TL := hide (TB.out.below ((Below.refl wr.heap.size wr).alloc (Nat.le_refl _) (.cells #[.string nm, .bool ask, .bool hs, .int .i64 at_] 70)) TB.out.1)
      have ML := hide (HM.out.al (.cells #[.string nm, .bool ask, .bool hs, .int .i64 at_] 70))
      obtain ⟨tl, ⟨t0, t1, t2, t3, t4, t5⟩, tz⟩ := TL.out
      clear tz
      cases ho : m'.t.over with
      | true =>
        rw [ho] at t0
        have HOFF : Hid (offK f p k = true) := by show _ = _; unfold offK; rw [← HTK.out, HLL.out]; rw [ho]; rfl
        have HST : Hid (R2 = k) := by show _ = _; rw [HR2.out, ← HSK.out, hj0, stopK_at HOFF.out]
        have HRT : Hid (R1 = m'.t) := by show _ = _; rw [HR1.out, ← HR2.out, HST.out, HTK.out]
        have d5 := (CL.out.cell (p := ⟨w.heap.size + 1, 5, none⟩) (show w.heap.size + 1 < w.heap.size + 3 by omega)).trans kD5
        have CW := hide (AW.out.trans (CL.out.mono (by omega)))
        have SX := hide (XA.out.below CL.out (by omega))
        have hx := SX.out.1
        obtain ⟨v0, q0, y0⟩ := SX.out.2 0 (by omega)
        obtain ⟨v1, q1, y1⟩ := SX.out.2 1 (by omega)
        obtain ⟨v2, q2, y2⟩ := SX.out.2 2 (by omega)
        obtain ⟨v3, q3, y3⟩ := SX.out.2 3 (by omega)
        obtain ⟨v4, q4, y4⟩ := SX.out.2 4 (by omega)
        obtain ⟨v5, q5, y5⟩ := SX.out.2 5 (by omega)
        go_wp2_with fail
        go_region
        all_goals
          go_wp2
          exact bodyPost_ret (v := .tuple #[R1.v, .int .i64 (((f p).linksN : Int) - (R2 : Int))]) (by rw [HRT.out, HST.out]; simp [results, Tryz.results43, go_sem, Turn.v, ho, q0, q1, q2, q3, q4, q5]) rfl ⟨rfl, (six_set CW.out (by omega) _ _ _ _ _ _).drew⟩
      | false =>
        rw [ho] at t0
        cases hn : (m'.t.name.toList == nm.toList) with
        | false =>
          have HOFF : Hid (offK f p k = true) := by show _ = _; unfold offK; rw [← HTK.out, HLL.out]; simp [ho, hn]
          have HST : Hid (R2 = k) := by show _ = _; rw [HR2.out, ← HSK.out, hj0, stopK_at HOFF.out]
          have HRT : Hid (R1 = m'.t) := by show _ = _; rw [HR1.out, ← HR2.out, HST.out, HTK.out]
          have d5 := (CL.out.cell (p := ⟨w.heap.size + 1, 5, none⟩) (show w.heap.size + 1 < w.heap.size + 3 by omega)).trans kD5
          have CW := hide (AW.out.trans (CL.out.mono (by omega)))
          have SX := hide (XA.out.below CL.out (by omega))
          have hx := SX.out.1
          obtain ⟨v0, q0, y0⟩ := SX.out.2 0 (by omega)
          obtain ⟨v1, q1, y1⟩ := SX.out.2 1 (by omega)
          obtain ⟨v2, q2, y2⟩ := SX.out.2 2 (by omega)
          obtain ⟨v3, q3, y3⟩ := SX.out.2 3 (by omega)
          obtain ⟨v4, q4, y4⟩ := SX.out.2 4 (by omega)
          obtain ⟨v5, q5, y5⟩ := SX.out.2 5 (by omega)
          go_wp2_with fail
          go_region
          all_goals
            go_wp2
            exact bodyPost_ret (v := .tuple #[R1.v, .int .i64 (((f p).linksN : Int) - (R2 : Int))]) (by rw [HRT.out, HST.out]; simp [results, Tryz.results43, go_sem, Turn.v, ho, q0, q1, q2, q3, q4, q5]) rfl ⟨rfl, (six_set CW.out (by omega) _ _ _ _ _ _).drew⟩
        | true =>
          cases hak : m'.t.ask with
          | true =>
            rw [hak] at t3
            cases ask with
            | true =>
              have HOFF : Hid (offK f p k = false) := by show _ = _; unfold offK; rw [← HTK.out, HLL.out]; simp [ho, hn, hak]
              obtain ⟨a, nm2, s2, pp, st, l, rfl⟩ := stands_look HS.out ho
              have el : l = k + 1 := HL.out
              subst el
              have kA2 := (CL.out.cell (p := ⟨w.heap.size, 0, none⟩) (show w.heap.size < w.heap.size + 3 by omega)).trans kA
              have CW := hide (AW.out.trans (CL.out.mono (by omega)))
              have HY : Hid (ansR f ⟨nm, true, hs, at_⟩ = yOf f p k) := by show _ = _; unfold yOf; rw [HLL.out]
              have HRO := hide (ansR_ok (l := ⟨nm, true, hs, at_⟩) HACC.out (fun ha => by have := HASK.out k hlt (by rw [HLL.out]); rw [HLL.out] at this; exact this.2))
              have HSZ : Hid ((ansR f ⟨nm, true, hs, at_⟩).text.size ≤ 2000) := by have := HRO.out; simp only [replyOk, decide_eq_true_eq] at this; exact this.1
              have HAT : Hid (0 ≤ at_ ∧ at_.toNat < n) := by have := HASK.out k hlt (by rw [HLL.out]); rw [HLL.out] at this; exact this
              go_wp2_with fail
              clear t0 t1 t2 t3 t4 t5 r0 r1 r2 r3
              generalize wr.alloc (.cells #[.string nm, .bool true, .bool hs, .int .i64 at_] 70) = WL at CL TL ML CW kA2 tl ⊢
              refine (replyOf_any bd offd n cap f ⟨nm, true, hs, at_⟩ _ HACC.out (HROW.out.below CW.out (Nat.le_refl _)) (fun _ => HAT.out)).mono ?_
              rintro e w4 ⟨rfl, hB4⟩
              have hlb : b < WL.heap.size := ML.out.lt
              have M4 := hide (ML.out.below hB4 hlb)
              have T4 := hide (TL.out.below hB4 tl)
              have B4 := hide (CL.out.trans (hB4.mono (by have := CL.out.size; omega)))
              have BW4 := hide (AW.out.trans (B4.out.mono (by omega)))
              have HE4 : Hid (Env w4 b pb po (f p).actN (f p).act) := ⟨HI.out.below BW4.out (Nat.le_refl _), HT2.out.below BW4.out htb, HPOW.out.below BW4.out (Nat.le_refl _), by omega, by omega, by omega⟩
              clear hB4 kA2
              go_wp2_with fail
              refine (goOn_look b pb po (f p).actN cap0 (f p).act m' a nm2 s2 pp st (k + 1) (ansR f ⟨nm, true, hs, at_⟩) _ M4.out HE4.out HS.out (by omega) HSZ.out hc2 HOK.out).mono ?_
              rintro e w5 ⟨m2, H2, rfl, hM5, hS5, hL5, hC5, hO5⟩
              have hgb : g7 ≠ b := by omega
              have T5 := hide (T4.out.only hO5 hgb)
              have M5 := hide (hM5.boxed hgb m2.t)
              have X5 := hide (set_box m2.t T5.out)
              have B5 := hide (B4.out.trans (hO5.below hbl (by have := B4.out.size; omega)))
              have B6 := hide (B5.out.trans ((set_only (w := w5) (g := g7) m2.t).below hg7 (by have := B5.out.size; omega)))
              have HS5 := hide hS5
              have HL5 := hide hL5
              have HC5 : Hid (∀ n, k + 1 ≤ n → contP (f p).act (f p).actN (yOf f p) n H2 = nextP (f p).act (f p).actN (yOf f p) n 2001 0 0 0 []) := fun n hn => (hC5 (yOf f p) n hn (by rw [Nat.add_sub_cancel]; exact HY.out.symm)).symm.trans (HC.out n (by omega))
              have HK5 : Hid (stopK f p ((f p).linksN - (k + 1)) (k + 1) = stopAt f p) := by show _ = _; rw [← HSK.out, hj0, stopK_go HOFF.out, show (f p).linksN - (k + 1) = j0 by omega]
              obtain ⟨ul, ⟨u0, u1, u2, u3, u4, u5⟩, uz⟩ := T5.out
              have z0 := uz 0
              have z1 := uz 1
              have z2 := uz 2
              have z3 := uz 3
              have z4 := uz 4
              have z5 := uz 5
              clear hM5 hS5 hL5 hC5 hO5 M4 T4 uz
              simp only [Turn.v]
              go_wp2
              exact ⟨⟨k + 1, m2, H2, by omega, by go_num, M5.out, X5.out, HS5.out, HL5.out, HC5.out, HK5.out, B6.out⟩, by simp [intOf]; omega⟩
            | false =>
              have HOFF : Hid (offK f p k = true) := by show _ = _; unfold offK; rw [← HTK.out, HLL.out]; simp [ho, hn, hak]
              have HST : Hid (R2 = k) := by show _ = _; rw [HR2.out, ← HSK.out, hj0, stopK_at HOFF.out]
              have HRT : Hid (R1 = m'.t) := by show _ = _; rw [HR1.out, ← HR2.out, HST.out, HTK.out]
              have d5 := (CL.out.cell (p := ⟨w.heap.size + 1, 5, none⟩) (show w.heap.size + 1 < w.heap.size + 3 by omega)).trans kD5
              have CW := hide (AW.out.trans (CL.out.mono (by omega)))
              have SX := hide (XA.out.below CL.out (by omega))
              have hx := SX.out.1
              obtain ⟨v0, q0, y0⟩ := SX.out.2 0 (by omega)
              obtain ⟨v1, q1, y1⟩ := SX.out.2 1 (by omega)
              obtain ⟨v2, q2, y2⟩ := SX.out.2 2 (by omega)
              obtain ⟨v3, q3, y3⟩ := SX.out.2 3 (by omega)
              obtain ⟨v4, q4, y4⟩ := SX.out.2 4 (by omega)
              obtain ⟨v5, q5, y5⟩ := SX.out.2 5 (by omega)
              go_wp2_with fail
              go_region
              all_goals
                go_wp2
                exact bodyPost_ret (v := .tuple #[R1.v, .int .i64 (((f p).linksN : Int) - (R2 : Int))]) (by rw [HRT.out, HST.out]; simp [results, Tryz.results43, go_sem, Turn.v, ho, hak, q0, q1, q2, q3, q4, q5]) rfl ⟨rfl, (six_set CW.out (by omega) _ _ _ _ _ _).drew⟩
          | false =>
            rw [hak] at t3
            cases ask with
            | true =>
              have HOFF : Hid (offK f p k = true) := by show _ = _; unfold offK; rw [← HTK.out, HLL.out]; simp [ho, hn, hak]
              have HST : Hid (R2 = k) := by show _ = _; rw [HR2.out, ← HSK.out, hj0, stopK_at HOFF.out]
              have HRT : Hid (R1 = m'.t) := by show _ = _; rw [HR1.out, ← HR2.out, HST.out, HTK.out]
              have d5 := (CL.out.cell (p := ⟨w.heap.size + 1, 5, none⟩) (show w.heap.size + 1 < w.heap.size + 3 by omega)).trans kD5
              have CW := hide (AW.out.trans (CL.out.mono (by omega)))
              have SX := hide (XA.out.below CL.out (by omega))
              have hx := SX.out.1
              obtain ⟨v0, q0, y0⟩ := SX.out.2 0 (by omega)
              obtain ⟨v1, q1, y1⟩ := SX.out.2 1 (by omega)
              obtain ⟨v2, q2, y2⟩ := SX.out.2 2 (by omega)
              obtain ⟨v3, q3, y3⟩ := SX.out.2 3 (by omega)
              obtain ⟨v4, q4, y4⟩ := SX.out.2 4 (by omega)
              obtain ⟨v5, q5, y5⟩ := SX.out.2 5 (by omega)
              go_wp2_with fail
              go_region
              all_goals
                go_wp2
                exact bodyPost_ret (v := .tuple #[R1.v, .int .i64 (((f p).linksN : Int) - (R2 : Int))]) (by rw [HRT.out, HST.out]; simp [results, Tryz.results43, go_sem, Turn.v, ho, hak, q0, q1, q2, q3, q4, q5]) rfl ⟨rfl, (six_set CW.out (by omega) _ _ _ _ _ _).drew⟩
            | false =>
              have HOFF : Hid (offK f p k = false) := by show _ = _; unfold offK; rw [← HTK.out, HLL.out]; simp [ho, hn, hak]
              obtain ⟨a, nm2, s2, pp, st, l, rfl⟩ := stands_look HS.out ho
              have el : l = k + 1 := HL.out
              subst el
              have kA2 := (CL.out.cell (p := ⟨w.heap.size, 0, none⟩) (show w.heap.size < w.heap.size + 3 by omega)).trans kA
              have CW := hide (AW.out.trans (CL.out.mono (by omega)))
              have HY : Hid (ansR f ⟨nm, false, hs, at_⟩ = yOf f p k) := by show _ = _; unfold yOf; rw [HLL.out]
              have HRO := hide (ansR_ok (l := ⟨nm, false, hs, at_⟩) HACC.out (fun ha => by have := HASK.out k hlt (by rw [HLL.out]; exact ha); rw [HLL.out] at this; exact this.2))
              have HSZ : Hid ((ansR f ⟨nm, false, hs, at_⟩).text.size ≤ 2000) := by have := HRO.out; simp only [replyOk, decide_eq_true_eq] at this; exact this.1
              go_wp2_with fail
              clear t0 t1 t2 t3 t4 t5 r0 r1 r2 r3
              generalize wr.alloc (.cells #[.string nm, .bool false, .bool hs, .int .i64 at_] 70) = WL at CL TL ML CW kA2 tl ⊢
              refine (replyOf_any bd offd n cap f ⟨nm, false, hs, at_⟩ _ HACC.out (HROW.out.below CW.out (Nat.le_refl _)) (fun h => by cases h)).mono ?_
              rintro e w4 ⟨rfl, hB4⟩
              have hlb : b < WL.heap.size := ML.out.lt
              have M4 := hide (ML.out.below hB4 hlb)
              have T4 := hide (TL.out.below hB4 tl)
              have B4 := hide (CL.out.trans (hB4.mono (by have := CL.out.size; omega)))
              have BW4 := hide (AW.out.trans (B4.out.mono (by omega)))
              have HE4 : Hid (Env w4 b pb po (f p).actN (f p).act) := ⟨HI.out.below BW4.out (Nat.le_refl _), HT2.out.below BW4.out htb, HPOW.out.below BW4.out (Nat.le_refl _), by omega, by omega, by omega⟩
              clear hB4 kA2
              go_wp2_with fail
              refine (goOn_look b pb po (f p).actN cap0 (f p).act m' a nm2 s2 pp st (k + 1) (ansR f ⟨nm, false, hs, at_⟩) _ M4.out HE4.out HS.out (by omega) HSZ.out hc2 HOK.out).mono ?_
              rintro e w5 ⟨m2, H2, rfl, hM5, hS5, hL5, hC5, hO5⟩
              have hgb : g7 ≠ b := by omega
              have T5 := hide (T4.out.only hO5 hgb)
              have M5 := hide (hM5.boxed hgb m2.t)
              have X5 := hide (set_box m2.t T5.out)
              have B5 := hide (B4.out.trans (hO5.below hbl (by have := B4.out.size; omega)))
              have B6 := hide (B5.out.trans ((set_only (w := w5) (g := g7) m2.t).below hg7 (by have := B5.out.size; omega)))
              have HS5 := hide hS5
              have HL5 := hide hL5
              have HC5 : Hid (∀ n, k + 1 ≤ n → contP (f p).act (f p).actN (yOf f p) n H2 = nextP (f p).act (f p).actN (yOf f p) n 2001 0 0 0 []) := fun n hn => (hC5 (yOf f p) n hn (by rw [Nat.add_sub_cancel]; exact HY.out.symm)).symm.trans (HC.out n (by omega))
              have HK5 : Hid (stopK f p ((f p).linksN - (k + 1)) (k + 1) = stopAt f p) := by show _ = _; rw [← HSK.out, hj0, stopK_go HOFF.out, show (f p).linksN - (k + 1) = j0 by omega]
              obtain ⟨ul, ⟨u0, u1, u2, u3, u4, u5⟩, uz⟩ := T5.out
              have z0 := uz 0
              have z1 := uz 1
              have z2 := uz 2
              have z3 := uz 3
              have z4 := uz 4
              have z5 := uz 5
              clear hM5 hS5 hL5 hC5 hO5 M4 T4 uz
              simp only [Turn.v]
              go_wp2
              exact ⟨⟨k + 1, m2, H2, by omega, by go_num, M5.out, X5.out, HS5.out, HL5.out, HC5.out, HK5.out, B6.out⟩, by simp [intOf]; omega⟩
    · obtain rfl : k = (f p).linksN := by omega
      have HST : Hid (R2 = (f p).linksN) := by show _ = _; rw [HR2.out, ← HSK.out, Nat.sub_self]; rfl
      have HRT : Hid (R1 = m'.t) := by show _ = _; rw [HR1.out, ← HR2.out, HST.out, HTK.out]
      obtain ⟨tl, ⟨t0, t1, t2, t3, t4, t5⟩, tz⟩ := TB.out
      have SX := hide (XA.out.below BW.out (by omega))
      have hx := SX.out.1
      obtain ⟨v0, q0, y0⟩ := SX.out.2 0 (by omega)
      obtain ⟨v1, q1, y1⟩ := SX.out.2 1 (by omega)
      obtain ⟨v2, q2, y2⟩ := SX.out.2 2 (by omega)
      obtain ⟨v3, q3, y3⟩ := SX.out.2 3 (by omega)
      obtain ⟨v4, q4, y4⟩ := SX.out.2 4 (by omega)
      obtain ⟨v5, q5, y5⟩ := SX.out.2 5 (by omega)
      clear tz
      go_wp2
      exact bodyPost_ret (v := .tuple #[R1.v, .int .i64 (((f p).linksN : Int) - (R2 : Int))]) (by rw [HRT.out, HST.out]; simp [results, Tryz.results43, go_sem, Turn.v, q0, q1, q2, q3, q4, q5]) rfl ⟨rfl, by first | exact six_set BWW.out (by omega) _ _ _ _ _ _ | exact six_set BWW.out.drew (by omega) _ _ _ _ _ _⟩

end Go.Proofs.YtfhdecheaeoopaaGreatDoor.Vp
