/-
  spec: l1Step, as the run without a machine tells it.
-/
import Derived.Test.YtoaokmdhbagniaaDoorNxStp4
import Derived.Test.YtoaokmdhbagniaaDoorNxStp5
import Derived.Test.YtoaokmdhbagniaaDoorNxStp6
import Derived.Test.YtoaokmdhbagniaaDoorNxStp7
import Derived.Test.YtoaokmdhbagniaaDoorNxStp8
import Derived.Test.YtoaokmdhbagniaaDoorNxStp9
import Derived.Test.YtoaokmdhbagniaaDoorNxStp10
import Derived.Test.YtoaokmdhbagniaaDoorNxStp11
import Derived.Test.YtoaokmdhbagniaaDoorNxStp12
namespace Go.Proofs.YtoaokmdhbagniaaDoor.Vp
open Go.RowKit

def soOf (y : Nat → Reply) (n place st looks : Nat) : Res → SO
  | .over c x => .over c x st
  | .go s' p => .go p st looks s'
  | .look a nm s' => afterLook y n a nm s' (place + 1) st looks
def sstepP (f : Nat → Ins) (cnt : Nat) (y : Nat → Reply) (n place steps looks : Nat) (s : List ByteArray) : SO := soOf y n place (stepN cnt place steps) looks (stepP f cnt place steps looks s)
theorem own_cases {w : World} {base n cap : Nat} {e : TypeId} {a : Option Addr} {xs : List Value} (h : w.ownsRow base e 1 (.slice a n cap) n xs) : (a = none ∧ n = 0 ∧ cap = 0) ∨ ∃ g, a = some ⟨g, 0, none⟩ := by
  rcases h.2 with ⟨h0, _⟩ | ⟨g, c, cur, hv, _⟩
  · simp only [Value.slice.injEq] at h0
    exact .inl h0
  · simp only [Value.slice.injEq] at hv
    exact .inr ⟨g, hv.1⟩

theorem fits_plain (op k : Nat) (t a b : ByteArray) (h1 : 1 ≤ op) (h11 : op ≤ 11) (h2 : op ≠ 2) (ht : t.size ≤ 2000) (ha : a.size ≤ 2000) (hb : b.size ≤ 2000) : (plainL op k t a b).all (fun x => decide (x.size ≤ 2000)) = true := by
  rcases (show op = 1 ∨ op = 3 ∨ op = 4 ∨ op = 5 ∨ op = 6 ∨ op = 7 ∨ op = 8 ∨ op = 9 ∨ op = 10 ∨ op = 11 by omega) with rfl | rfl | rfl | rfl | rfl | rfl | rfl | rfl | rfl | rfl
  · simp [plainL, ht]
  · simp only [plainL, List.all_cons, List.all_nil, Bool.and_true, decide_eq_true_eq]
    split
    · simp; omega
    · exact ha
  · simp only [plainL, List.all_cons, List.all_nil, Bool.and_true, decide_eq_true_eq]
    split
    · simp; omega
    · decide
  · simp only [plainL, List.all_cons, List.all_nil, Bool.and_true, decide_eq_true_eq]
    exact Nat.le_trans (wordT_size _ _) ha
  · simp only [plainL, List.all_cons, List.all_nil, Bool.and_true, decide_eq_true_eq]
    exact flagT_size _
  · simp [plainL, ha]
  · simp [plainL, ha, hb]
  · rfl
  · rfl
  · rfl
theorem plainSO_go (op k : Nat) (t a b pl : ByteArray) (r : List ByteArray) (p st l : Nat) (h1 : 1 ≤ op) (h11 : op ≤ 11) (h2 : op ≠ 2) (ht : t.size ≤ 2000) (ha : a.size ≤ 2000) (hb : b.size ≤ 2000) : plainSO (plainL op k t a b) pl r p st l = .go p st l ((plainL op k t a b).reverse ++ r) := by
  unfold plainSO
  rw [fits_plain op k t a b h1 h11 h2 ht ha hb]
  rfl

theorem cat_so (k : Nat) (t x z : ByteArray) (r : List ByteArray) (y : Nat → Reply) (n place st looks : Nat) : soOf y n place st looks (performP 2 k t place looks (x :: z :: r)) = plainSO (plainL 2 k t x z) (decT place) r (place + 1) st looks := by
  unfold plainSO
  simp only [performP, plainL, List.all_cons, List.all_nil, Bool.and_true, ByteArray.size_append]
  by_cases h : z.size + x.size ≤ 2000
  · rw [if_pos h, if_pos (by simpa using h)]
    rfl
  · rw [if_neg h, if_neg (by simpa using h)]
    rfl
theorem look_so (op : Nat) (y : Nat → Reply) (n place st looks : Nat) (x : ByteArray) (r : List ByteArray) (b : Bool) (hb : ((op : Int) == 12) = b) : soOf y n place st looks (lookP b x r place looks) = lookSO y n op (decT place) x r (place + 1) st looks := by
  unfold lookP lookSO
  rw [hb]
  by_cases h1 : nameOk x = false
  · rw [if_pos h1, if_pos h1]
    rfl
  · rw [if_neg h1, if_neg h1]
    by_cases h2 : looks = 200
    · rw [if_pos h2, if_pos h2]
      rfl
    · rw [if_neg h2, if_neg h2]
      rfl

set_option maxHeartbeats 1000000 in
theorem l1Step_any (pb po cnt cap1 place steps looks : Nat) (f : Nat → Ins) (a : Option Addr) (s : List ByteArray) (cap b2 o2 n cap2 base : Nat) (y : Nat → Reply) (w : World)
    (hP : RowIns w pb po cnt f) (hY : RowReply w b2 o2 n y) (hO : w.ownsRow base 9 1 (.slice a s.length cap) s.length (strs s)) (hp : place ≤ 2000) (hst : steps ≤ 2000) (hlk : looks ≤ 200) (hs : s.length ≤ 50) (hle : ∀ x ∈ s, x.size ≤ 2000) (hok : okTo f cnt = true) :
    Calls Tryd.prog 64 #[.agg #[.slice (some ⟨pb, po, none⟩) cnt cap1], runV place (.slice a s.length cap) steps looks false 0 ⟨#[]⟩ false ⟨#[]⟩ false, .slice (some ⟨b2, o2, none⟩) n cap2] w fun e w' => ∃ v, e = .returned v ∧ SoIs w' w.heap.size v (sstepP f cnt y n place steps looks s) ∧ Below w.heap.size w w' := by
  by_cases h1 : cnt ≤ place
  · have e1 : sstepP f cnt y n place steps looks s = .over 2 (decT place) steps := by simp [sstepP, soOf, stepP, stepN, h1]
    rw [e1]
    exact step_off pb po cnt cap1 place steps looks f a s cap b2 o2 n cap2 base y w hP hY hO hp (by omega)
  have h1' : (place : Int) < cnt := by omega
  by_cases h2 : steps = 2000
  · have e1 : sstepP f cnt y n place steps looks s = .over 3 ⟨#[]⟩ steps := by simp [sstepP, soOf, stepP, stepN, h1, h2]
    rw [e1]
    exact step_spent pb po cnt cap1 place steps looks f a s cap b2 o2 n cap2 base y w hP hY hO hp h1' (by simp; omega)
  have h2' : ((steps : Int) == 2000) = false := by simp; omega
  have hi := ok_at hok (show place < cnt by omega)
  simp only [insOk, decide_eq_true_eq] at hi
  obtain ⟨i1, i2, i3, i4, i5⟩ := hi
  obtain ⟨op, hop⟩ := Int.eq_ofNat_of_zero_le (show 0 ≤ (f place).op by omega)
  obtain ⟨k, hk⟩ := Int.eq_ofNat_of_zero_le i4
  have hmt : mostN (f place).op ≤ 2000 := by unfold mostN; split <;> (try split) <;> omega
  have hmt2 : mostText (f place).op ≤ 2000 := by unfold mostText; split <;> omega
  have hk2 : k ≤ 2000 := by omega
  have ht2 : (f place).s.size ≤ 2000 := by omega
  have ho1 : 1 ≤ op := by omega
  have ho2 : op ≤ 15 := by omega
  have eS : stepP f cnt place steps looks s = if bearsP op s = false then .over 2 (decT place) else performP op k (f place).s place looks s := by
    simp only [stepP, h1, h2, if_false, hop, hk, Int.toNat_natCast]
  have eN : stepN cnt place steps = steps + 1 := by simp [stepN, h1, h2]
  by_cases hb : bearsP op s = false
  · have e1 : sstepP f cnt y n place steps looks s = .over 2 (decT place) (steps + 1) := by simp only [sstepP, soOf, eS, eN, hb, if_true]
    rw [e1]
    by_cases hA : (s.length : Int) < (takesOf op : Nat)
    · exact step_few pb po cnt cap1 place steps looks f a s cap b2 o2 n cap2 base y w hP hY hO hp hst h1' h2' op k hop hk ho1 ho2 hA
    · refine step_many pb po cnt cap1 place steps looks f a s cap b2 o2 n cap2 base y w hP hY hO hp hst h1' h2' op k hop hk ho1 ho2 hs hA ?_ (puts_two op)
      simp only [bearsP, decide_eq_false_iff_not] at hb
      omega
  have hb' : bearsP op s = true := by simpa using hb
  rw [if_neg hb] at eS
  simp only [bearsP, decide_eq_true_eq] at hb'
  obtain ⟨b1, bb2⟩ := hb'
  have eP : sstepP f cnt y n place steps looks s = soOf y n place (steps + 1) looks (performP op k (f place).s place looks s) := by simp only [sstepP, eS, eN]
  rw [eP]
  clear eP eS eN hb
  have someOf : s ≠ [] → ∃ g, a = some ⟨g, 0, none⟩ := fun hne => by
    obtain ⟨g, c, e⟩ := own_form hO (List.length_pos_iff.2 hne)
    simp only [Value.slice.injEq] at e
    exact ⟨g, e.1⟩
  rcases (show op = 1 ∨ op = 2 ∨ op = 3 ∨ op = 4 ∨ op = 5 ∨ op = 6 ∨ op = 7 ∨ op = 8 ∨ op = 9 ∨ op = 10 ∨ op = 11 ∨ op = 12 ∨ op = 13 ∨ op = 14 ∨ op = 15 by omega) with rfl | rfl | rfl | rfl | rfl | rfl | rfl | rfl | rfl | rfl | rfl | rfl | rfl | rfl | rfl
  all_goals simp only [takesOf, putsOf] at b1 bb2
  · rw [show soOf y n place (steps + 1) looks (performP 1 k (f place).s place looks s) = plainSO (plainL 1 k (f place).s ⟨#[]⟩ ⟨#[]⟩) (decT place) s (place + 1) (steps + 1) looks by rw [plainSO_go 1 k _ ⟨#[]⟩ ⟨#[]⟩ _ s _ _ _ (by omega) (by omega) (by omega) ht2 (by decide) (by decide)]; rfl]
    rcases own_cases hO with ⟨rfl, hz, rfl⟩ | ⟨g, rfl⟩
    · obtain rfl : s = [] := List.length_eq_zero_iff.1 hz
      exact step_plainN pb po cnt cap1 place steps looks f b2 o2 n cap2 base y w hP hY hO hp hst h1' h2' 1 k hop hk ho1 ho2 rfl (by simp [putsOf]) (by omega) hk2 (by simp) (by simp) (by simp) (by simp) (by simp) (by simp) _ ⟨rfl, plainL_len _ _ _ _ _ (by omega) (by omega)⟩
    · exact step_plain0 pb po cnt cap1 place steps looks f g s cap b2 o2 n cap2 base y w hP hY hO hp hst h1' h2' 1 k hop hk ho1 ho2 hs rfl (by simp [putsOf] at bb2 ⊢; omega) (by omega) hk2 (by simp) (by simp) (by simp) (by simp) (by simp) (by simp) _ ⟨rfl, plainL_len _ _ _ _ _ (by omega) (by omega)⟩
  · match s, b1 with
    | x :: z :: r, _ =>
      obtain ⟨g, rfl⟩ := someOf (by simp)
      rw [show soOf y n place (steps + 1) looks (performP 2 k (f place).s place looks (x :: z :: r)) = plainSO (plainL 2 k (f place).s x z) (decT place) r (place + 1) (steps + 1) looks by exact cat_so k _ x z r y n place (steps + 1) looks]
      exact step_plain2 pb po cnt cap1 place steps looks f g x z r cap b2 o2 n cap2 base y w hP hY hO hp hst h1' h2' 2 k hop hk ho1 ho2 (by simp at hs; omega) rfl (by simp [putsOf] at bb2 ⊢; omega) (by omega) hk2 (hle x (by simp)) (hle z (by simp)) (by simp) (by simp) (by simp) (by simp) (by simp) (by simp) _ ⟨rfl, plainL_len _ _ _ _ _ (by omega) (by omega)⟩
  · match s, b1 with
    | x :: r, _ =>
      obtain ⟨g, rfl⟩ := someOf (by simp)
      rw [show soOf y n place (steps + 1) looks (performP 3 k (f place).s place looks (x :: r)) = plainSO (plainL 3 k (f place).s x ⟨#[]⟩) (decT place) r (place + 1) (steps + 1) looks by rw [plainSO_go 3 k _ x ⟨#[]⟩ _ r _ _ _ (by omega) (by omega) (by omega) ht2 (hle x (by simp)) (by decide)]; rfl]
      exact step_plain1 pb po cnt cap1 place steps looks f g x r cap b2 o2 n cap2 base y w hP hY hO hp hst h1' h2' 3 k hop hk ho1 ho2 (by simp at hs; omega) rfl (by simp [putsOf] at bb2 ⊢; omega) (by omega) hk2 (hle x (by simp)) (by simp) (by simp) (by simp) (by simp) (by simp) (by simp) _ ⟨rfl, plainL_len _ _ _ _ _ (by omega) (by omega)⟩
  · match s, b1 with
    | x :: r, _ =>
      obtain ⟨g, rfl⟩ := someOf (by simp)
      rw [show soOf y n place (steps + 1) looks (performP 4 k (f place).s place looks (x :: r)) = plainSO (plainL 4 k (f place).s x ⟨#[]⟩) (decT place) r (place + 1) (steps + 1) looks by rw [plainSO_go 4 k _ x ⟨#[]⟩ _ r _ _ _ (by omega) (by omega) (by omega) ht2 (hle x (by simp)) (by decide)]; rfl]
      exact step_plain1 pb po cnt cap1 place steps looks f g x r cap b2 o2 n cap2 base y w hP hY hO hp hst h1' h2' 4 k hop hk ho1 ho2 (by simp at hs; omega) rfl (by simp [putsOf] at bb2 ⊢; omega) (by omega) hk2 (hle x (by simp)) (by simp) (by simp) (by simp) (by simp) (by simp) (by simp) _ ⟨rfl, plainL_len _ _ _ _ _ (by omega) (by omega)⟩
  · match s, b1 with
    | x :: r, _ =>
      obtain ⟨g, rfl⟩ := someOf (by simp)
      rw [show soOf y n place (steps + 1) looks (performP 5 k (f place).s place looks (x :: r)) = plainSO (plainL 5 k (f place).s x ⟨#[]⟩) (decT place) r (place + 1) (steps + 1) looks by rw [plainSO_go 5 k _ x ⟨#[]⟩ _ r _ _ _ (by omega) (by omega) (by omega) ht2 (hle x (by simp)) (by decide)]; rfl]
      exact step_plain1 pb po cnt cap1 place steps looks f g x r cap b2 o2 n cap2 base y w hP hY hO hp hst h1' h2' 5 k hop hk ho1 ho2 (by simp at hs; omega) rfl (by simp [putsOf] at bb2 ⊢; omega) (by omega) hk2 (hle x (by simp)) (by simp) (by simp) (by simp) (by simp) (by simp) (by simp) _ ⟨rfl, plainL_len _ _ _ _ _ (by omega) (by omega)⟩
  · match s, b1 with
    | x :: z :: r, _ =>
      obtain ⟨g, rfl⟩ := someOf (by simp)
      rw [show soOf y n place (steps + 1) looks (performP 6 k (f place).s place looks (x :: z :: r)) = plainSO (plainL 6 k (f place).s x z) (decT place) r (place + 1) (steps + 1) looks by rw [plainSO_go 6 k _ x z _ r _ _ _ (by omega) (by omega) (by omega) ht2 (hle x (by simp)) (hle z (by simp))]; rfl]
      exact step_plain2 pb po cnt cap1 place steps looks f g x z r cap b2 o2 n cap2 base y w hP hY hO hp hst h1' h2' 6 k hop hk ho1 ho2 (by simp at hs; omega) rfl (by simp [putsOf] at bb2 ⊢; omega) (by omega) hk2 (hle x (by simp)) (hle z (by simp)) (by simp) (by simp) (by simp) (by simp) (by simp) (by simp) _ ⟨rfl, plainL_len _ _ _ _ _ (by omega) (by omega)⟩
  · match s, b1 with
    | x :: r, _ =>
      obtain ⟨g, rfl⟩ := someOf (by simp)
      rw [show soOf y n place (steps + 1) looks (performP 7 k (f place).s place looks (x :: r)) = plainSO (plainL 7 k (f place).s x ⟨#[]⟩) (decT place) r (place + 1) (steps + 1) looks by rw [plainSO_go 7 k _ x ⟨#[]⟩ _ r _ _ _ (by omega) (by omega) (by omega) ht2 (hle x (by simp)) (by decide)]; rfl]
      exact step_plain1 pb po cnt cap1 place steps looks f g x r cap b2 o2 n cap2 base y w hP hY hO hp hst h1' h2' 7 k hop hk ho1 ho2 (by simp at hs; omega) rfl (by simp [putsOf] at bb2 ⊢; omega) (by omega) hk2 (hle x (by simp)) (by simp) (by simp) (by simp) (by simp) (by simp) (by simp) _ ⟨rfl, plainL_len _ _ _ _ _ (by omega) (by omega)⟩
  · match s, b1 with
    | x :: z :: r, _ =>
      obtain ⟨g, rfl⟩ := someOf (by simp)
      rw [show soOf y n place (steps + 1) looks (performP 8 k (f place).s place looks (x :: z :: r)) = plainSO (plainL 8 k (f place).s x z) (decT place) r (place + 1) (steps + 1) looks by rw [plainSO_go 8 k _ x z _ r _ _ _ (by omega) (by omega) (by omega) ht2 (hle x (by simp)) (hle z (by simp))]; rfl]
      exact step_plain2 pb po cnt cap1 place steps looks f g x z r cap b2 o2 n cap2 base y w hP hY hO hp hst h1' h2' 8 k hop hk ho1 ho2 (by simp at hs; omega) rfl (by simp [putsOf] at bb2 ⊢; omega) (by omega) hk2 (hle x (by simp)) (hle z (by simp)) (by simp) (by simp) (by simp) (by simp) (by simp) (by simp) _ ⟨rfl, plainL_len _ _ _ _ _ (by omega) (by omega)⟩
  · match s, b1 with
    | x :: r, _ =>
      obtain ⟨g, rfl⟩ := someOf (by simp)
      rw [show soOf y n place (steps + 1) looks (performP 9 k (f place).s place looks (x :: r)) = plainSO (plainL 9 k (f place).s x ⟨#[]⟩) (decT place) r (place + 1) (steps + 1) looks by rw [plainSO_go 9 k _ x ⟨#[]⟩ _ r _ _ _ (by omega) (by omega) (by omega) ht2 (hle x (by simp)) (by decide)]; rfl]
      exact step_plain1 pb po cnt cap1 place steps looks f g x r cap b2 o2 n cap2 base y w hP hY hO hp hst h1' h2' 9 k hop hk ho1 ho2 (by simp at hs; omega) rfl (by simp [putsOf] at bb2 ⊢; omega) (by omega) hk2 (hle x (by simp)) (by simp) (by simp) (by simp) (by simp) (by simp) (by simp) _ ⟨rfl, plainL_len _ _ _ _ _ (by omega) (by omega)⟩
  · rw [show soOf y n place (steps + 1) looks (performP 10 k (f place).s place looks s) = plainSO (plainL 10 k (f place).s ⟨#[]⟩ ⟨#[]⟩) (decT place) s k (steps + 1) looks by rw [plainSO_go 10 k _ ⟨#[]⟩ ⟨#[]⟩ _ s _ _ _ (by omega) (by omega) (by omega) ht2 (by decide) (by decide)]; rfl]
    rcases own_cases hO with ⟨rfl, hz, rfl⟩ | ⟨g, rfl⟩
    · obtain rfl : s = [] := List.length_eq_zero_iff.1 hz
      exact step_jumpN pb po cnt cap1 place steps looks f b2 o2 n cap2 base y w hP hY hO hp hst h1' h2' 10 k hop hk ho1 ho2 rfl (by simp [putsOf]) (by omega) hk2 (by simp) (by simp) (by simp) (by simp) (by simp) _ ⟨rfl, plainL_len _ _ _ _ _ (by omega) (by omega)⟩
    · exact step_jump pb po cnt cap1 place steps looks f g s cap b2 o2 n cap2 base y w hP hY hO hp hst h1' h2' 10 k hop hk ho1 ho2 hs rfl (by simp [putsOf] at bb2 ⊢; omega) (by omega) hk2 (by simp) (by simp) (by simp) (by simp) (by simp) _ ⟨rfl, plainL_len _ _ _ _ _ (by omega) (by omega)⟩
  · match s, b1 with
    | x :: r, _ =>
      obtain ⟨g, rfl⟩ := someOf (by simp)
      by_cases q1 : x.toList.isEmpty = true
      · rw [show soOf y n place (steps + 1) looks (performP 11 k (f place).s place looks (x :: r)) = plainSO (plainL 11 k (f place).s x ⟨#[]⟩) (decT place) r k (steps + 1) looks by rw [plainSO_go 11 k _ x ⟨#[]⟩ _ r _ _ _ (by omega) (by omega) (by omega) ht2 (hle x (by simp)) (by decide)]; simp only [performP, soOf, plainL, List.reverse_nil, List.nil_append]; rw [if_pos (.inl (List.isEmpty_iff.1 q1))]]
        exact step_unlessE pb po cnt cap1 place steps looks f g x r cap b2 o2 n cap2 base y w hP hY hO hp hst h1' h2' 11 k hop hk ho1 ho2 (by simp at hs; omega) rfl (by simp [putsOf] at bb2 ⊢; omega) (by omega) hk2 (hle x (by simp)) (by simp) (by simp) (by simp) (by simp) (by simp) (by simp) q1 _ ⟨rfl, plainL_len _ _ _ _ _ (by omega) (by omega)⟩
      · have q1' : x.toList.isEmpty = false := by simpa using q1
        have qn : ¬ x.toList = [] := fun e => q1 (by rw [e]; rfl)
        by_cases q2 : (x.toList == [48]) = true
        · rw [show soOf y n place (steps + 1) looks (performP 11 k (f place).s place looks (x :: r)) = plainSO (plainL 11 k (f place).s x ⟨#[]⟩) (decT place) r k (steps + 1) looks by rw [plainSO_go 11 k _ x ⟨#[]⟩ _ r _ _ _ (by omega) (by omega) (by omega) ht2 (hle x (by simp)) (by decide)]; simp only [performP, soOf, plainL, List.reverse_nil, List.nil_append]; rw [if_pos (.inr q2)]]
          exact step_unlessZ pb po cnt cap1 place steps looks f g x r cap b2 o2 n cap2 base y w hP hY hO hp hst h1' h2' 11 k hop hk ho1 ho2 (by simp at hs; omega) rfl (by simp [putsOf] at bb2 ⊢; omega) (by omega) hk2 (hle x (by simp)) (by simp) (by simp) (by simp) (by simp) (by simp) (by simp) q1' q2 _ ⟨rfl, plainL_len _ _ _ _ _ (by omega) (by omega)⟩
        · rw [show soOf y n place (steps + 1) looks (performP 11 k (f place).s place looks (x :: r)) = plainSO (plainL 11 k (f place).s x ⟨#[]⟩) (decT place) r (place + 1) (steps + 1) looks by rw [plainSO_go 11 k _ x ⟨#[]⟩ _ r _ _ _ (by omega) (by omega) (by omega) ht2 (hle x (by simp)) (by decide)]; simp only [performP, soOf, plainL, List.reverse_nil, List.nil_append]; rw [if_neg (fun h => h.elim qn q2)]]
          exact step_unlessN pb po cnt cap1 place steps looks f g x r cap b2 o2 n cap2 base y w hP hY hO hp hst h1' h2' 11 k hop hk ho1 ho2 (by simp at hs; omega) rfl (by simp [putsOf] at bb2 ⊢; omega) (by omega) hk2 (hle x (by simp)) (by simp) (by simp) (by simp) (by simp) (by simp) (by simp) q1' (by simpa using q2) _ ⟨rfl, plainL_len _ _ _ _ _ (by omega) (by omega)⟩
  · match s, b1 with
    | x :: r, _ =>
      obtain ⟨g, rfl⟩ := someOf (by simp)
      rw [show soOf y n place (steps + 1) looks (performP 12 k (f place).s place looks (x :: r)) = lookSO y n 12 (decT place) x r (place + 1) (steps + 1) looks from look_so 12 y n place (steps + 1) looks x r true rfl]
      exact step_look12 pb po cnt cap1 place steps looks f g x r cap b2 o2 n cap2 base y w hP hY hO hp hst h1' h2' 12 k hop hk ho1 ho2 (by simp at hs; omega) rfl (by simp [putsOf] at bb2 ⊢; omega) hlk (by omega) (by simp) (by simp) (by simp)
  · match s, b1 with
    | x :: r, _ =>
      obtain ⟨g, rfl⟩ := someOf (by simp)
      rw [show soOf y n place (steps + 1) looks (performP 13 k (f place).s place looks (x :: r)) = lookSO y n 13 (decT place) x r (place + 1) (steps + 1) looks from look_so 13 y n place (steps + 1) looks x r false rfl]
      exact step_look13 pb po cnt cap1 place steps looks f g x r cap b2 o2 n cap2 base y w hP hY hO hp hst h1' h2' 13 k hop hk ho1 ho2 (by simp at hs; omega) rfl (by simp [putsOf] at bb2 ⊢; omega) hlk (by omega) (by simp) (by simp) (by simp) (by simp)
  · match s, b1 with
    | x :: r, _ =>
      obtain ⟨g, rfl⟩ := someOf (by simp)
      exact step_fail pb po cnt cap1 place steps looks f g x r cap b2 o2 n cap2 base y w hP hY hO hp hst h1' h2' 14 k hop hk ho1 ho2 (by simp at hs; omega) rfl (by simp [putsOf] at bb2 ⊢; omega) (by simp) (by simp)
  · match s, b1 with
    | x :: r, _ =>
      obtain ⟨g, rfl⟩ := someOf (by simp)
      exact step_end pb po cnt cap1 place steps looks f g x r cap b2 o2 n cap2 base y w hP hY hO hp hst h1' h2' 15 k hop hk ho1 ho2 (by simp at hs; omega) rfl (by simp [putsOf] at bb2 ⊢; omega) (by simp)

end Go.Proofs.YtoaokmdhbagniaaDoor.Vp
