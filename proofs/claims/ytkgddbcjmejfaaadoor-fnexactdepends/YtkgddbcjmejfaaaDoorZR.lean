/-
  Put together of: DeImpl.
-/
import Derived.Test.YtkgddbcjmejfaaaDoorZP
import Derived.Test.YtkgddbcjmejfaaaDoorZN
import Derived.Test.YtkgddbcjmejfaaaDoorZL

/-
  impl: Depends.
-/
namespace Go.Proofs.YtkgddbcjmejfaaaDoor.Vp
open Go.RowKit Go.Maps Go.Sort

set_option maxRecDepth 100000 in
set_option maxHeartbeats 4000000 in
theorem has_any (mb n : Nat) (L : List (List UInt8)) (x : ByteArray) (w : World) (hx : x.size ≤ maxLen) (h : SetIs w mb n L) :
    Calls Tryd.prog 41 #[.map (some mb), .string x] w fun e w' => e = .returned (.bool (decide (x.toList ∈ L))) ∧ Below w.heap.size w w' := by
  obtain ⟨D, hown, hh⟩ := h
  have HM := hide hown
  obtain ⟨r, hr⟩ : ∃ r, r = decide (x.toList ∈ L) := ⟨_, rfl⟩
  rw [← hr]
  have hd : Maps.has D (.string x.data.toList) = r := by
    rw [hr]
    have := hh x.toList
    rw [ByteArray.toList_eq] at this ⊢
    cases hc : Maps.has D (.string x.data.toList) with
    | true => rw [hc] at this; simp at this; simp [this]
    | false => rw [hc] at this; simp at this; simp [this]
  have HD := hide hd
  clear hh hown hr hd
  have hkey := WideMaps.keyOf_string_mk (P := Tryd.prog) (k := 9) Tryd.underlying9 hx
  have HKEY := hide hkey
  clear hkey
  have hz : (zeroValue 84).run Tryd.prog w = .ok (.agg #[]) w := by rfl
  have HZ := hide hz
  clear hz
  go_enter Tryd.func41, Tryd.ntmps41
  go_wp2_with (refine wpList_lookup_own_unit _ rfl _ _ 63 rfl 9 84 (Maps.string_keyed Tryd.underlying9) Tryd.underlying63 HZ.out mb n D rfl HM.out _ _ rfl HKEY.out ?_; rw [HD.out])
  go_ret
  exact ⟨rfl, (Below.refl _ _).alloc (Nat.le_refl _) _⟩

/-- what the closure says of a link. -/
def depQ (L : List (List UInt8)) (t : ByteArray) (l : Link) : Bool := l.name.toList == t.toList || (l.ask && decide (l.name.toList ∈ L))
def depQs (L : List (List UInt8)) (t : ByteArray) (g : Nat → Link) : Nat → Bool
  | 0 => false
  | k + 1 => depQs L t g k || depQ L t (g k)
theorem depQs_true {L : List (List UInt8)} {t : ByteArray} {g : Nat → Link} {k n : Nat} (h : k < n) (hk : depQ L t (g k) = true) : depQs L t g n = true := by
  induction n with
  | zero => omega
  | succ m ih =>
    by_cases e : k = m
    · subst e; simp [depQs, hk]
    · simp [depQs, ih (by omega)]
theorem depQs_is {L : List (List UInt8)} {D : Nat → Bool} {t : ByteArray} {x : Deed} {n : Nat} (h : ∀ j, j < n → (x.links j).ask = true → ((x.links j).name.toList ∈ L ↔ D (x.links j).at_.toNat = true)) : depQs L t x.links n = depLk D t x n := by
  induction n with
  | zero => rfl
  | succ n ih =>
    rw [depQs, depLk, ih fun j hj => h j (by omega)]
    congr 1
    unfold depQ depC
    cases ha : (x.links n).ask with
    | false => rfl
    | true =>
      have := h n (by omega) ha
      cases hd : D (x.links n).at_.toNat with
      | true => rw [hd] at this; simp [this.2 rfl]
      | false => rw [hd] at this; simp at this; simp [this]

set_option maxRecDepth 100000 in
set_option maxHeartbeats 4000000 in
theorem dep1_any (l : Link) (bn bm mb n : Nat) (L : List (List UInt8)) (t : ByteArray) (w : World) (hx : l.name.size ≤ maxLen) (h : SetIs w mb n L) (hn : w.cell? ⟨bn, 0, none⟩ = some (.string t)) (hnl : bn < w.heap.size) (hm : w.cell? ⟨bm, 0, none⟩ = some (.map (some mb))) (hml : bm < w.heap.size) :
    Calls Tryd.prog 40 #[.agg #[.string l.name, .bool l.ask, .bool l.has, .int .i64 l.at_], .pointer (some ⟨bn, 0, none⟩), .pointer (some ⟨bm, 0, none⟩)] w fun e w' => e = .returned (.bool (depQ L t l)) ∧ Below w.heap.size w w' := by
  have A0 := hide ((Below.refl w.heap.size w).alloc (Nat.le_refl _) (.cells #[.string l.name, .bool l.ask, .bool l.has, .int .i64 l.at_] 60))
  have M0 := hide (h.grown A0.out h.lt)
  have n0 := (A0.out.cell (p := ⟨bn, 0, none⟩) hnl).trans hn
  have m0 := (A0.out.cell (p := ⟨bm, 0, none⟩) hml).trans hm
  obtain ⟨r, hr⟩ : ∃ r, r = depQ L t l := ⟨_, rfl⟩
  rw [← hr]
  have HR := hide (show r = (l.name.toList == t.toList || (l.ask && decide (l.name.toList ∈ L))) from hr)
  clear h hr hn hm
  obtain ⟨nm, ask, hs, at_⟩ := l
  dsimp only at hx A0 M0 n0 m0 HR ⊢
  go_enter Tryd.func40, Tryd.ntmps40
  cases he : (nm.toList == t.toList) with
  | true =>
    obtain rfl : r = true := by have := HR.out; rw [he] at this; simpa using this
    go_wp2
    go_ret
    exact ⟨rfl, A0.out⟩
  | false =>
    cases ask with
    | false =>
      obtain rfl : r = false := by have := HR.out; rw [he] at this; simpa using this
      go_wp2
      go_ret
      exact ⟨rfl, A0.out⟩
    | true =>
      have HR2 := hide (show r = decide (nm.toList ∈ L) by have := HR.out; rw [he] at this; simpa using this)
      clear HR
      go_wp2_with (go_at_call 41; refine (has_any mb n L nm _ hx M0.out).mono ?_; rintro e w1 ⟨rfl, hB⟩; rw [← HR2.out]; have B1 := hide (A0.out.trans (hB.mono A0.out.size)); clear hB)
      go_ret
      exact ⟨rfl, B1.out⟩

set_option maxRecDepth 100000 in
set_option maxHeartbeats 4000000 in
theorem idxLink_row (b off m c : Nat) (g : Nat → Link) (bn bm mb n : Nat) (L : List (List UInt8)) (t : ByteArray) (w : World) (hmm : (m : Int) ≤ 1048576) (hrow : RowLink w b off m g) (hz : ∀ j, j < m → (g j).name.size ≤ maxLen) (h : SetIs w mb n L) (hn : w.cell? ⟨bn, 0, none⟩ = some (.string t)) (hnl : bn < w.heap.size) (hm : w.cell? ⟨bm, 0, none⟩ = some (.map (some mb))) (hml : bm < w.heap.size) :
    Calls Tryd.prog 52 #[.slice (some ⟨b, off, none⟩) m c, .func (.func 40) #[] #[.pointer (some ⟨bn, 0, none⟩), .pointer (some ⟨bm, 0, none⟩)]] w fun e w' => ∃ r : Int, e = .returned (.int .i64 r) ∧ decide (0 ≤ r) = depQs L t g m ∧ Below w.heap.size w w' := by
  have HW := hide hrow
  have HZ := hide hz
  have HS := hide h
  have HN := hide hn
  have HM := hide hm
  clear hrow hz h hn hm
  go_enter Tryd.func52, Tryd.ntmps52
  go_wp2
  go_loopw [8] (fun i wr => ∃ k : Nat, k ≤ m ∧ i = .int .i64 k ∧ Hid (depQs L t g k = false) ∧ Hid (Below w.heap.size w wr)) (fun i _ => m - (intOf i).toNat)
  case atStart => exact ⟨0, by omega, rfl, rfl, Below.refl _ _⟩
  case round =>
    obtain ⟨k, hk, rfl, HK, HB⟩ := hrel
    by_cases hlt : k < m
    · obtain ⟨c0, c1, c2, c3⟩ := (HW.out.below HB.out (Nat.le_refl _)).2 k hlt
      cases hb : depQ L t (g k) with
      | true =>
        have HQ := hide hb
        clear hb
        go_wp2_with (go_at_call 40; refine (dep1_any (g k) bn bm mb n L t _ (HZ.out k hlt) (HS.out.grown HB.out HS.out.lt) ((HB.out.cell (p := ⟨bn, 0, none⟩) hnl).trans HN.out) (Nat.lt_of_lt_of_le hnl HB.out.size) ((HB.out.cell (p := ⟨bm, 0, none⟩) hml).trans HM.out) (Nat.lt_of_lt_of_le hml HB.out.size)).mono ?_; rintro e w1 ⟨rfl, hB⟩; rw [HQ.out]; have B1 := hide (HB.out.trans (hB.mono HB.out.size)); clear hB)
        go_ret
        exact ⟨k, rfl, by rw [depQs_true hlt HQ.out]; simp, B1.out⟩
      | false =>
        have HQ := hide hb
        clear hb
        go_wp2_with (go_at_call 40; refine (dep1_any (g k) bn bm mb n L t _ (HZ.out k hlt) (HS.out.grown HB.out HS.out.lt) ((HB.out.cell (p := ⟨bn, 0, none⟩) hnl).trans HN.out) (Nat.lt_of_lt_of_le hnl HB.out.size) ((HB.out.cell (p := ⟨bm, 0, none⟩) hml).trans HM.out) (Nat.lt_of_lt_of_le hml HB.out.size)).mono ?_; rintro e w1 ⟨rfl, hB⟩; rw [HQ.out]; have B1 := hide (HB.out.trans (hB.mono HB.out.size)); clear hB)
        exact ⟨⟨k + 1, by omega, by go_num, by show depQs _ _ _ (k + 1) = false; simp [depQs, HK.out, HQ.out], B1.out⟩, by simp [intOf]; omega⟩
    · have e : k = m := by omega
      subst e
      go_wp2
      go_ret
      exact ⟨-1, rfl, by rw [HK.out]; rfl, HB.out⟩

set_option maxHeartbeats 1000000 in
theorem idxLink_nil (a0 : Option Addr) (c : Nat) (fv : Value) (bn bm : Nat) (hf : fv = .func (.func 40) #[] #[.pointer (some ⟨bn, 0, none⟩), .pointer (some ⟨bm, 0, none⟩)]) (w : World) :
    Calls Tryd.prog 52 #[.slice a0 0 c, fv] w fun e w' => ∃ r : Int, e = .returned (.int .i64 r) ∧ decide (0 ≤ r) = false ∧ w' = w := by
  subst hf
  go_enter Tryd.func52, Tryd.ntmps52
  go_wp2
  go_loop [8] (fun i => i = .int .i64 0) (fun _ => 0)
  case atStart => rfl
  case round =>
    subst hrel
    go_wp2
    go_ret
    first
      | exact ⟨-1, rfl, rfl, rfl⟩
      | exact ⟨-1, rfl, by decide, rfl⟩
      | exact ⟨⟨-1, rfl, by decide⟩, rfl⟩
      | exact ⟨-1, by decide, rfl⟩
theorem idxLink_any (a0 : Option Addr) (m c : Nat) (g : Nat → Link) (bn bm mb n : Nat) (L : List (List UInt8)) (t : ByteArray) (w : World) (hmm : (m : Int) ≤ 1048576) (hrow : SlLink w a0 m g) (hz : ∀ j, j < m → (g j).name.size ≤ maxLen) (h : SetIs w mb n L) (hn : w.cell? ⟨bn, 0, none⟩ = some (.string t)) (hnl : bn < w.heap.size) (hm : w.cell? ⟨bm, 0, none⟩ = some (.map (some mb))) (hml : bm < w.heap.size) :
    Calls Tryd.prog 52 #[.slice a0 m c, .func (.func 40) #[] #[.pointer (some ⟨bn, 0, none⟩), .pointer (some ⟨bm, 0, none⟩)]] w fun e w' => ∃ r : Int, e = .returned (.int .i64 r) ∧ decide (0 ≤ r) = depQs L t g m ∧ Below w.heap.size w w' := by
  rcases hrow with rfl | ⟨b, off, rfl, hrow⟩
  · exact (idxLink_nil a0 c _ bn bm rfl w).mono fun e w' ⟨r, h1, h2, h3⟩ => ⟨r, h1, h2, by rw [h3]; exact Below.refl _ _⟩
  · exact idxLink_row b off m c g bn bm mb n L t w hmm hrow hz h hn hnl hm hml
set_option maxHeartbeats 1000000 in
theorem conLink_any (a0 : Option Addr) (m c : Nat) (g : Nat → Link) (bn bm mb n : Nat) (L : List (List UInt8)) (t : ByteArray) (w : World) (hmm : (m : Int) ≤ 1048576) (hrow : SlLink w a0 m g) (hz : ∀ j, j < m → (g j).name.size ≤ maxLen) (h : SetIs w mb n L) (hn : w.cell? ⟨bn, 0, none⟩ = some (.string t)) (hnl : bn < w.heap.size) (hm : w.cell? ⟨bm, 0, none⟩ = some (.map (some mb))) (hml : bm < w.heap.size) :
    Calls Tryd.prog 39 #[.slice a0 m c, .func (.func 40) #[] #[.pointer (some ⟨bn, 0, none⟩), .pointer (some ⟨bm, 0, none⟩)]] w fun e w' => e = .returned (.bool (depQs L t g m)) ∧ Below w.heap.size w w' := by
  have HQ := hide (idxLink_any a0 m c g bn bm mb n L t w hmm hrow hz h hn hnl hm hml)
  obtain ⟨A, hA⟩ : ∃ A, A = depQs L t g m := ⟨_, rfl⟩
  rw [← hA]
  rw [← hA] at HQ
  clear hA hrow hz h hn hm
  go_enter Tryd.func39, Tryd.ntmps39
  go_wp2_with fail
  refine HQ.out.mono ?_
  rintro e w1 ⟨r, rfl, hd, hB⟩
  have HD := hide hd
  have HB := hide hB
  clear hd hB
  go_wp2
  go_ret
  exact ⟨ret_bool HD.out, HB.out⟩

set_option maxRecDepth 100000 in
set_option maxHeartbeats 4000000 in
theorem implDepends_any (a : Option Addr) (n cap : Nat) (f : Nat → Deed) (t : ByteArray) (w : World) (hn : (n : Int) ≤ 1048576) (hv : SlDeed w a n f) (hcap : (n : Int) ≤ cap) (hfit : ∀ i, i < n → FitsDeed (f i)) (hsz : ∀ i, i < n → SizedDeed (f i)) (hT : Tab w) :
    Calls Tryd.prog 19 #[.agg #[.slice a n cap], .string t] w fun e w' => ∃ v, e = .returned v ∧ w'.ownsRow w.heap.size 9 1 v (deps f n t).length ((deps f n t).map encStr) ∧ Below w.heap.size w w' := by
  have HV := hide hv
  have HM := hide hfit
  have HZ := hide hsz
  have HT := hide hT
  clear hv hfit hsz hT
  have A0 := hide (((Below.refl w.heap.size w).alloc (Nat.le_refl _) (.cells #[.slice a n cap] 30)).alloc (by simp) (.cells #[.string t] 9))
  have k0 : ((w.alloc (.cells #[.slice a n cap] 30)).alloc (.cells #[.string t] 9)).cell? ⟨w.heap.size, 0, none⟩ = some (.slice a n cap) := by simp
  have j0 : ((w.alloc (.cells #[.slice a n cap] 30)).alloc (.cells #[.string t] 9)).cell? ⟨w.heap.size + 1, 0, none⟩ = some (.string t) := by simp
  have hz : w.heap.size + 1 < ((w.alloc (.cells #[.slice a n cap] 30)).alloc (.cells #[.string t] 9)).heap.size := by simp
  obtain ⟨T, hT⟩ : ∃ T, T = deps f n t := ⟨_, rfl⟩
  rw [← hT]
  have HE := hide (show T = if accOk f n = true then depL f t n else [] from hT)
  clear hT
  go_enter Tryd.func19, Tryd.ntmps19
  go_wp2_with fail
  generalize (w.alloc (.cells #[.slice a n cap] 30)).alloc (.cells #[.string t] 9) = W at A0 k0 j0 hz ⊢
  refine (validAccount_any a n cap f _ hn (HV.out.below A0.out (Nat.le_refl _)) hcap HM.out (HT.out.below A0.out HT.out.1)).mono ?_
  rintro e w1 ⟨rfl, hB⟩
  have B1 := hide (A0.out.trans (hB.mono A0.out.size))
  have k1 := (hB.cell (p := ⟨w.heap.size, 0, none⟩) (Nat.lt_of_succ_lt hz)).trans k0
  have j1 := (hB.cell (p := ⟨w.heap.size + 1, 0, none⟩) hz).trans j0
  have hz1 : w.heap.size + 1 < w1.heap.size := Nat.lt_of_lt_of_le hz hB.size
  clear hB A0 k0 j0 hz
  have HO := hide (fun h : accOk f n = true => (⟨accOk_n h, accOk_links h, fun p hp j hj ha => depL_has (t := t) h hp hj ha⟩ : (1 ≤ n ∧ n ≤ 400 ∧ firstNo (deedOk f) n = -1) ∧ (∀ p, p < n → (f p).linksN ≤ 200) ∧ ∀ p, p < n → ∀ j, j < (f p).linksN → ((f p).links j).ask = true → (((f p).links j).name.toList ∈ depL f t p ↔ depIn f t p ((f p).links j).at_.toNat = true)))
  generalize accOk f n = r at HE HO ⊢
  cases r with
  | false =>
    obtain rfl : T = [] := HE.out
    go_wp2
    go_ret
    exact ⟨_, rfl, ⟨by simp, .inl ⟨rfl, rfl⟩⟩, B1.out⟩
  | true =>
    obtain rfl : T = depL f t n := HE.out
    obtain ⟨⟨hn1, hn4, -⟩, hl, hhas⟩ := HO.out rfl
    have HLK := hide hl
    have HHS := hide hhas
    clear hl hhas HE HO HM
    obtain ⟨b, off, rfl, hrow⟩ := HV.out.resolve_left (by omega)
    have HR := hide hrow
    clear HV hrow
    have A1 := hide (((Below.refl w1.heap.size w1).alloc (Nat.le_refl _) (.map #[] 0)).alloc (by simp) (.cells #[.map (some w1.heap.size)] 63))
    have M0 := hide ((setIs_new w1).grown ((Below.refl _ (w1.alloc (.map #[] 0))).alloc (Nat.le_refl _) (.cells #[.map (some w1.heap.size)] 63)) (by simp))
    have k2 := (A1.out.cell (p := ⟨w.heap.size, 0, none⟩) (Nat.lt_of_succ_lt hz1)).trans k1
    have x2 : ((w1.alloc (.map #[] 0)).alloc (.cells #[.map (some w1.heap.size)] 63)).cell? ⟨w1.heap.size + 1, 0, none⟩ = some (.map (some w1.heap.size)) := by simp
    have y2 : w1.heap.size + 1 < ((w1.alloc (.map #[] 0)).alloc (.cells #[.map (some w1.heap.size)] 63)).heap.size := by simp
    have hmm := @run_makeMap Tryd.prog
    go_wp2
    clear hmm k2
    generalize (w1.alloc (.map #[] 0)).alloc (.cells #[.map (some w1.heap.size)] 63) = W1 at M0 A1 x2 y2 ⊢
    have X2 := hide x2
    clear x2
    obtain ⟨mb, hmb⟩ : ∃ mb, mb = w1.heap.size := ⟨_, rfl⟩
    rw [← hmb] at M0 X2 y2 ⊢
    have HMB := hide hmb
    clear hmb
    go_loopw [15] (fun i wr => ∃ k : Nat, k ≤ n ∧ i = .int .i64 k ∧ Hid (SetIs wr mb k (depL f t k)) ∧ Hid (wr.cell? ⟨mb + 1, 0, none⟩ = some (.map (some mb)) ∧ mb + 1 < wr.heap.size) ∧ Hid (Below w1.heap.size w1 wr)) (fun i _ => n - (intOf i).toNat)
    case atStart => exact ⟨0, by omega, rfl, M0.out, ⟨X2.out, y2⟩, A1.out⟩
    case round =>
      obtain ⟨k, hk, rfl, HK, HX, HB⟩ := hrel
      by_cases hlt : k < n
      · obtain ⟨p0, p1, p2, p3, ⟨a0, cap0, p4, q4⟩, ⟨a1, cap1, p5, q5⟩⟩ := (HR.out.below (B1.out.trans (HB.out.mono B1.out.size)) (Nat.le_refl _)).2 k hlt
        have hlk := HLK.out k hlt
        have HS := hide (show depL f t (k + 1) = if depIn f t (k + 1) k = true then lput (depL f t k) (f k).name.toList else depL f t k from rfl)
        have HI := hide ((depQs_is (t := t) (D := depIn f t k) (HHS.out k hlt)).trans (depIn_self f t k).symm)
        have D2 := hide ((Below.refl wr.heap.size wr).alloc (Nat.le_refl _) (.cells #[.string (f k).name, .int .i64 (f k).kind, .int .i64 (f k).code, .string (f k).text, .slice a0 (f k).actN cap0, .slice a1 (f k).linksN cap1] 58))
        have C2 := hide (HB.out.alloc HB.out.size (.cells #[.string (f k).name, .int .i64 (f k).kind, .int .i64 (f k).code, .string (f k).text, .slice a0 (f k).actN cap0, .slice a1 (f k).linksN cap1] 58))
        have K2 := hide (HK.out.grown D2.out HK.out.lt)
        have Q5 := hide (q5.below D2.out (Nat.le_refl _))
        have X0 := hide (show (wr.alloc (.cells #[.string (f k).name, .int .i64 (f k).kind, .int .i64 (f k).code, .string (f k).text, .slice a0 (f k).actN cap0, .slice a1 (f k).linksN cap1] 58)).cell? ⟨wr.heap.size, 0, none⟩ = some (.string (f k).name) by simp)
        have X1 := hide (show (wr.alloc (.cells #[.string (f k).name, .int .i64 (f k).kind, .int .i64 (f k).code, .string (f k).text, .slice a0 (f k).actN cap0, .slice a1 (f k).linksN cap1] 58)).heap.size = wr.heap.size + 1 by simp)
        clear q4 q5
        go_wp2_with fail
        clear p0 p1 p2 p3 p4 p5
        generalize wr.alloc (.cells #[.string (f k).name, .int .i64 (f k).kind, .int .i64 (f k).code, .string (f k).text, .slice a0 (f k).actN cap0, .slice a1 (f k).linksN cap1] 58) = W2 at D2 C2 K2 Q5 X0 X1 ⊢
        have hbn : w.heap.size + 1 < W2.heap.size := Nat.lt_of_lt_of_le hz1 C2.out.size
        have hbm : mb + 1 < W2.heap.size := Nat.lt_of_lt_of_le HX.out.2 D2.out.size
        refine (conLink_any a1 (f k).linksN cap1 (f k).links (w.heap.size + 1) (mb + 1) mb k (depL f t k) t _ (by omega) Q5.out (fun j hj => (HZ.out k hlt).2.2.2.2 j hj) K2.out ((C2.out.cell (p := ⟨w.heap.size + 1, 0, none⟩) hz1).trans j1) hbn ((D2.out.cell (p := ⟨mb + 1, 0, none⟩) HX.out.2).trans HX.out.1) hbm).mono ?_
        rintro e w2 ⟨rfl, hB⟩
        rw [HI.out]
        have B2 := hide (C2.out.trans (hB.mono C2.out.size))
        have S2 := hide (K2.out.grown hB K2.out.lt)
        have y0 := (hB.cell (p := ⟨wr.heap.size, 0, none⟩) (by show wr.heap.size < W2.heap.size; rw [X1.out]; omega)).trans X0.out
        have y1 := (hB.cell (p := ⟨mb + 1, 0, none⟩) hbm).trans ((D2.out.cell (p := ⟨mb + 1, 0, none⟩) HX.out.2).trans HX.out.1)
        have y2 : mb + 1 < w2.heap.size := Nat.lt_of_lt_of_le hbm hB.size
        clear hB
        cases hc : depIn f t (k + 1) k with
        | true =>
          have HC := hide hc
          have Y1 := hide y1
          clear hc
          go_wp2_with (go_at_call 34; refine (add_any mb k (depL f t k) (f k).name _ (by omega) (HZ.out k hlt).1 S2.out).mono ?_; rintro e w3 ⟨rfl, hs3, hg3⟩; have S3 := hide hs3; have B3 := hide (Below.grown B2.out hg3 B2.out.size (fun j e => by cases e; exact Nat.le_of_eq HMB.out.symm)); have Y3 := hide (hg3.cell Y1.out (by simp)); have z3 : mb + 1 < w3.heap.size := Nat.lt_of_lt_of_le y2 hg3.size; clear hs3 hg3)
          exact ⟨⟨k + 1, by omega, by go_num, by rw [HS.out, if_pos HC.out]; exact S3.out, ⟨Y3.out, z3⟩, B3.out⟩, by simp [intOf]; omega⟩
        | false =>
          have HC := hide hc
          clear hc
          have Y1 := hide y1
          go_wp2
          exact ⟨⟨k + 1, by omega, by go_num, by rw [HS.out, if_neg (by rw [HC.out]; simp)]; exact S2.out.mono (by omega), ⟨Y1.out, y2⟩, B2.out⟩, by simp [intOf]; omega⟩
      · obtain rfl : k = n := by omega
        have D2 := hide (B1.out.trans (HB.out.mono B1.out.size))
        have y1 := HX.out.1
        go_wp2_with (go_at_call 35; refine (sorted_any mb k (depL f t k) _ (by omega) (depL_asc f t k) HK.out).mono ?_; rintro e w2 ⟨v, rfl, ho, hB⟩; have O2 := hide (own_mono ho D2.out.size); have B2 := hide (D2.out.trans (hB.mono D2.out.size)); clear ho hB)
        go_ret
        exact ⟨v, rfl, O2.out, B2.out⟩

end Go.Proofs.YtkgddbcjmejfaaaDoor.Vp
