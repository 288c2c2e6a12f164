import Derived.Test.YtkophfgkcijjkaaGreatDoorProg
import Derived.WalkKit
import Derived.WalkSpells
import Derived.WalkLawsBesides
import Derived.Deep.OwnRows
import Derived.Deep.RegionWith
import Derived.Deep.QuietTactic
import Derived.BigQuiet
set_option maxHeartbeats 1000000
namespace Go.Proofs.YtkophfgkcijjkaaGreatDoor.Vp
open RowKit
theorem ll {a b c:Nat}(h:a<b)(g:b≤c):a<c:=Nat.lt_of_lt_of_le h g
theorem br {B:Nat}{w:World}:Below B w w:=Below.refl _ _
theorem lr {n:Nat}:n≤n:=Nat.le_refl n
theorem ae {p:Prop}(h:p):Hid p:=h
theorem nzL {α:Type}:(∀ (l:List α) (i:Nat) (a:α),l.toArray.setIfInBounds i a=(l.set i a).toArray)∧(∀ (a b:α) (l:List α),(a :: l).set 0 b=b :: l)∧∀ (a b:α) (l:List α) (i:Nat),(a :: l).set (i+1) b=a :: l.set i b :=
 ⟨fun _ _ _=>List.setIfInBounds_toArray ..,fun _ _ _=>rfl,fun _ _ _ _=>rfl⟩
theorem wW {W w1:World}(hb:Below W.heap.size W w1):(∀ b o,b<W.heap.size→w1.cell? ⟨b,o,none⟩=W.cell? ⟨b,o,none⟩)∧(∀ b o,b<W.heap.size→w1.frozen? ⟨b,o,none⟩=W.frozen? ⟨b,o,none⟩) :=
 ⟨fun b o h=>hb.cell (p:=⟨b,o,none⟩) h,fun b o h=>hb.frozen (p:=⟨b,o,none⟩) h⟩
theorem cell_far (w:World)(p a:Addr)(v:Value)(h:p.block≠a.block):(w.setCell p v).cell? a=w.cell? a :=
 World.cell?_of_block (w:=w) (a:=a) (Below.heap_setCell w p v a.block (fun e=>h e.symm))
theorem aQ {a b:Bool}(h:a=b):Ending.returned (.bool a)=.returned (.bool b):=by rw [h]
theorem eG {a b:ByteArray}(h:a=b):Ending.returned (.string a)=.returned (.string b):=by rw [h]
theorem iA {s:ByteArray}(h:s.size=0):s=⟨#[]⟩:=by
 obtain ⟨a⟩:=s
 have:a.size=0:=h
 rw [Array.eq_empty_of_size_eq_zero this]
theorem iG {s:ByteArray}(h:¬ s.size=0):¬ s.toList=[]:=by
 intro e
 have h2:s.toList.length=s.size:=by rw [ByteArray.toList_eq];rfl
 rw [e] at h2
 simp at h2
 omega
structure Ins where
 op:Int
 s:ByteArray
 n:Int
def AtIns (w:World)(b off i:Nat)(x:Ins):Prop :=
 w.cell? ⟨b,off+i*3,none⟩=some (.int .i64 x.op)∧w.cell? ⟨b,off+i*3+1,none⟩=some (.string x.s)∧w.cell? ⟨b,off+i*3+2,none⟩=some (.int .i64 x.n)
theorem AtIns.below {w w':World}{B b off i:Nat}{x:Ins}(h:AtIns w b off i x)(hb:Below B w w')(hB:b<B):AtIns w' b off i x :=
 ⟨(hb.cell (p:=⟨b,_,none⟩) hB).trans h.1,(hb.cell (p:=⟨b,_,none⟩) hB).trans h.2.1,(hb.cell (p:=⟨b,_,none⟩) hB).trans h.2.2⟩
def RowIns (w:World)(b off n:Nat)(f:Nat→Ins):Prop:=b<w.heap.size∧∀ i,i<n→AtIns w b off i (f i)
theorem RowIns.below {w w':World}{B b off n:Nat}{f:Nat→Ins}(h:RowIns w b off n f)(hb:Below B w w')(hB:w.heap.size≤B):RowIns w' b off n f :=
 ⟨Nat.lt_of_lt_of_le h.1 hb.size,fun i hi=>(h.2 i hi).below hb (Nat.lt_of_lt_of_le h.1 hB)⟩
theorem RowIns.setOther {w:World}{g n off:Nat}{f:Nat→Ins}(h:RowIns w g off n f)(p:Addr)(hp:p.block≠g)(v:Value):RowIns (w.setCell p v) g off n f:=by
 refine ⟨by simpa using h.1,fun i hi=>?_⟩
 have h:=h.2 i hi
 have far:∀ o,(w.setCell p v).cell? ⟨g,o,none⟩=w.cell? ⟨g,o,none⟩:=fun o=>World.cell?_of_block (w:=w) (a:=⟨g,o,none⟩) (Below.heap_setCell w p v g (fun e=>hp e.symm))
 exact ⟨(far _).trans h.1,(far _).trans h.2.1,(far _).trans h.2.2⟩
def SlIns (w:World)(a:Option Addr)(n:Nat)(f:Nat→Ins):Prop:=n=0∨∃ b off,a=some ⟨b,off,none⟩∧RowIns w b off n f
theorem SlIns.below {w w':World}{B:Nat}{a:Option Addr}{n:Nat}{f:Nat→Ins}(h:SlIns w a n f)(hb:Below B w w')(hB:w.heap.size≤B):SlIns w' a n f:=by
 rcases h with h | ⟨b,off,hv,hr⟩
 ·exact .inl h
 ·exact .inr ⟨b,off,hv,hr.below hb hB⟩
theorem RowIns.sl {w:World}{b off n:Nat}{f:Nat→Ins}(h:RowIns w b off n f):SlIns w (some ⟨b,off,none⟩) n f:=.inr ⟨b,off,rfl,h⟩
theorem jc:(Tryz.prog.info? 176).map (fun i=>(i.zero,i.size,i.bytes))=some (some (.agg #[.int .i64 0,.string ⟨#[]⟩,.int .i64 0]),3,32):=by kernel_rfl
def OwnIns (w:World)(g n k:Nat)(f:Nat→Ins):Prop :=
 ∃ F,w.rowIs g 176 (n*3) F∧∀ i,i<k→F (i*3)=.int .i64 (f i).op∧F (i*3+1)=.string (f i).s∧F (i*3+2)=.int .i64 (f i).n
theorem OwnIns.step {w:World}{g n k:Nat}{f:Nat→Ins}(h:OwnIns w g n k f) :
  OwnIns (((w.setCell ⟨g,k*3,none⟩ (.int .i64 (f k).op)).setCell ⟨g,k*3+1,none⟩ (.string (f k).s)).setCell ⟨g,k*3+2,none⟩ (.int .i64 (f k).n)) g n (k+1) f:=by
 obtain ⟨F,hr,hF⟩:=h
 refine ⟨_,(((hr.set _ _).set _ _).set _ _),fun i hi=>?_⟩
 by_cases e:i=k
 ·subst e
  exact ⟨by simp,by simp,by simp⟩
 ·have h:=hF i (by omega)
  refine ⟨?_,?_,?_⟩
  ·show (if _ then _ else if _ then _ else if _ then _ else _)=_
   rw [if_neg (by omega),if_neg (by omega),if_neg (by omega),h.1]
  ·show (if _ then _ else if _ then _ else if _ then _ else _)=_
   rw [if_neg (by omega),if_neg (by omega),if_neg (by omega),h.2.1]
  ·show (if _ then _ else if _ then _ else if _ then _ else _)=_
   rw [if_neg (by omega),if_neg (by omega),if_neg (by omega),h.2.2]
theorem OwnIns.below {w w':World}{g n k:Nat}{f:Nat→Ins}{B:Nat}(h:OwnIns w g n k f)(hb:Below B w w')(hB:g<B):OwnIns w' g n k f:=by
 obtain ⟨F,hr,hF⟩:=h
 exact ⟨F,hr.of_block (hb.block g hB),hF⟩
theorem OwnIns.row {w:World}{g n:Nat}{f:Nat→Ins}(h:OwnIns w g n n f):RowIns w g 0 n f:=by
 obtain ⟨F,hr,hF⟩:=h
 refine ⟨hr.lt,fun i hi=>?_⟩
 have h:=hF i hi
 refine ⟨?_,?_,?_⟩
 ·rw [Nat.zero_add,hr.cell (by omega),h.1]
 ·rw [Nat.zero_add,hr.cell (by omega),h.2.1]
 ·rw [Nat.zero_add,hr.cell (by omega),h.2.2]
def kind:Int→Int
 | 1=>1 | 3=>2 | 4=>2 | 5=>2 | 10=>3 | 11=>3 | _=>0
def bI (op:Int):Int:=if op=1 then 2000 else 0
def cX (op:Int):Int:=if op=3∨op=4∨op=5 then 2000 else if op=10∨op=11 then 200 else 0
def bT (op:Int)(sz:Nat)(n:Int):Bool:=decide (1≤op∧op≤15∧(sz:Int)≤bI op∧0≤n∧n≤cX op)
theorem qe (op:Int)(s:ByteArray)(n:Int)(w:World)(hs:s.size≤maxLen)(hz:¬ s.toList=[])(h0:0<s.size) :
  Calls Tryz.prog 152 #[.agg #[.int .i64 op,.string s,.int .i64 n]] w fun e w'=>e=.returned (.bool (bT op s.size n))∧Below w.heap.size w w':=by
 unfold maxLen at hs
 by_cases h:1≤op∧op≤15
 ·have hc:op=1∨op=2∨op=3∨op=4∨op=5∨op=6∨op=7∨op=8∨op=9∨op=10∨op=11∨op=12∨op=13∨op=14∨op=15:=by omega
  clear h
  rcases hc with rfl | rfl | rfl | rfl | rfl | rfl | rfl | rfl | rfl | rfl | rfl | rfl | rfl | rfl | rfl
  all_goals
   go_enter Tryz.func152,Tryz.ntmps152
   go_wp2
   all_goals go_ret
   all_goals refine ⟨aQ ?_,(Below.refl _ _).alloc (Nat.le_refl _) _⟩
   all_goals (rw [Bool.eq_iff_iff];generalize s.size=z at *;simp [bT,bI,cX];try omega)
 ·rcases (show op<1∨15<op by omega) with h | h
  all_goals
   go_enter Tryz.func152,Tryz.ntmps152
   go_wp2
   go_ret
   refine ⟨aQ ?_,(Below.refl _ _).alloc (Nat.le_refl _) _⟩
   rw [Bool.eq_iff_iff];simp [bT];omega
theorem qg (op:Int)(n:Int)(w:World) :
  Calls Tryz.prog 152 #[.agg #[.int .i64 op,.string ⟨#[]⟩,.int .i64 n]] w fun e w'=>e=.returned (.bool (bT op 0 n))∧Below w.heap.size w w':=by
 by_cases h:1≤op∧op≤15
 ·have hc:op=1∨op=2∨op=3∨op=4∨op=5∨op=6∨op=7∨op=8∨op=9∨op=10∨op=11∨op=12∨op=13∨op=14∨op=15:=by omega
  clear h
  rcases hc with rfl | rfl | rfl | rfl | rfl | rfl | rfl | rfl | rfl | rfl | rfl | rfl | rfl | rfl | rfl
  all_goals
   go_enter Tryz.func152,Tryz.ntmps152
   go_wp2
   all_goals go_ret
   all_goals refine ⟨aQ ?_,(Below.refl _ _).alloc (Nat.le_refl _) _⟩
   all_goals (rw [Bool.eq_iff_iff];simp [bT,bI,cX];try omega)
 ·rcases (show op<1∨15<op by omega) with h | h
  all_goals
   go_enter Tryz.func152,Tryz.ntmps152
   go_wp2
   go_ret
   refine ⟨aQ ?_,(Below.refl _ _).alloc (Nat.le_refl _) _⟩
   rw [Bool.eq_iff_iff];simp [bT];omega
theorem oH (op:Int)(s:ByteArray)(n:Int)(w:World)(hs:s.size≤maxLen) :
  Calls Tryz.prog 152 #[.agg #[.int .i64 op,.string s,.int .i64 n]] w fun e w'=>e=.returned (.bool (bT op s.size n))∧Below w.heap.size w w':=by
 by_cases h:s.size=0
 ·have e:=iA h
  subst e
  exact qg op n w
 ·exact qe op s n w hs (iG h) (by omega)
theorem qh (k:Nat)(s:ByteArray)(n mt mn:Int)(w:World)(h1:1≤(k:Int))(h2:(k:Int)≤15)
  (hT:w.cell? ⟨0,k*5+1,none⟩=some (.int .i64 mt)) (hN:w.cell? ⟨0,k*5+2,none⟩=some (.int .i64 mn)) (hz:0<w.heap.size)
  (ht:(s.size:Int)≤mt) (hn:0≤n) :
  Calls Tryz.prog 142 #[.agg #[.int .i64 k,.string s,.int .i64 n]] w fun e w'=>e=.returned (.bool (decide (n≤mn)))∧Below w.heap.size w w':=by
 go_enter Tryz.func142,Tryz.ntmps142
 go_wp2
 go_quiet (fail)
 go_wp2
 go_ret
 exact ⟨rfl,below_drewN ((Below.refl _ _).alloc (Nat.le_refl _) _) _⟩
theorem qi (k:Nat)(s:ByteArray)(n mt:Int)(w:World)(h1:1≤(k:Int))(h2:(k:Int)≤15)
  (hT:w.cell? ⟨0,k*5+1,none⟩=some (.int .i64 mt)) (hz:0<w.heap.size)
  (ht:(s.size:Int)≤mt) (hn:n<0) :
  Calls Tryz.prog 142 #[.agg #[.int .i64 k,.string s,.int .i64 n]] w fun e w'=>e=.returned (.bool false)∧Below w.heap.size w w':=by
 have hd:decide (0≤n)=false:=by simp;omega
 go_enter Tryz.func142,Tryz.ntmps142
 go_wp2
 go_quiet (fail)
 go_wp2
 go_ret
 exact ⟨rfl,below_drewN ((Below.refl _ _).alloc (Nat.le_refl _) _) _⟩
theorem qj (k:Nat)(s:ByteArray)(n mt:Int)(w:World)(h1:1≤(k:Int))(h2:(k:Int)≤15)
  (hT:w.cell? ⟨0,k*5+1,none⟩=some (.int .i64 mt)) (hz:0<w.heap.size)
  (ht:mt<(s.size:Int)) :
  Calls Tryz.prog 142 #[.agg #[.int .i64 k,.string s,.int .i64 n]] w fun e w'=>e=.returned (.bool false)∧Below w.heap.size w w':=by
 have hd:decide ((s.size:Int)≤mt)=false:=by simp;omega
 go_enter Tryz.func142,Tryz.ntmps142
 go_wp2
 go_quiet (fail)
 go_wp2
 go_ret
 exact ⟨rfl,below_drewN ((Below.refl _ _).alloc (Nat.le_refl _) _) _⟩
theorem qk (op:Int)(s:ByteArray)(n:Int)(w:World)(h:op<1∨15<op) :
  Calls Tryz.prog 142 #[.agg #[.int .i64 op,.string s,.int .i64 n]] w fun e w'=>e=.returned (.bool false)∧Below w.heap.size w w':=by
 rcases h with h | h
 all_goals
  go_enter Tryz.func142,Tryz.ntmps142
  go_wp2
  go_ret
  exact ⟨rfl,(Below.refl _ _).alloc (Nat.le_refl _) _⟩
def Tab (w:World):Prop:=0<w.heap.size∧∀ k:Nat,k<16→w.cell? ⟨0,k*5+1,none⟩=some (.int .i64 (bI k))∧w.cell? ⟨0,k*5+2,none⟩=some (.int .i64 (cX k))
theorem mO (op:Int)(s:ByteArray)(n:Int)(w:World)(hT:Tab w) :
  Calls Tryz.prog 142 #[.agg #[.int .i64 op,.string s,.int .i64 n]] w fun e w'=>e=.returned (.bool (bT op s.size n))∧Below w.heap.size w w':=by
 by_cases h:1≤op∧op≤15
 ·obtain ⟨k,rfl⟩:=Int.eq_ofNat_of_zero_le (show 0≤op by omega)
  obtain ⟨h1,h2⟩:=h
  obtain ⟨t1,t2⟩:=hT.2 k (by omega)
  by_cases ht:(s.size:Int)≤bI k
  ·by_cases hn:0≤n
   ·have e:bT (k:Int) s.size n=decide (n≤cX k):=by
     unfold bT
     rw [Bool.eq_iff_iff,decide_eq_true_eq,decide_eq_true_eq]
     exact ⟨fun h=>h.2.2.2.2,fun h=>⟨h1,h2,ht,hn,h⟩⟩
    rw [e]
    exact qh k s n _ _ w h1 h2 t1 t2 hT.1 ht hn
   ·have e:bT (k:Int) s.size n=false:=by
     unfold bT
     rw [decide_eq_false_iff_not]
     exact fun h=>hn h.2.2.2.1
    rw [e]
    exact qi k s n _ w h1 h2 t1 hT.1 ht (by omega)
  ·have e:bT (k:Int) s.size n=false:=by
    unfold bT
    rw [decide_eq_false_iff_not]
    exact fun h=>ht h.2.2.1
   rw [e]
   exact qj k s n _ w h1 h2 t1 hT.1 (by omega)
 ·have e:bT op s.size n=false:=by
   unfold bT
   rw [decide_eq_false_iff_not]
   exact fun g=>h ⟨g.1,g.2.1⟩
  rw [e]
  exact qk op s n w (by omega)
def cG (f:Nat→Ins):Nat→Bool
 | 0=>true
 | k+1=>cG f k && bT (f k).op (f k).s.size (f k).n
theorem lC {f:Nat→Ins}{k n:Nat}(h:k≤n)(hn:cG f n=true):cG f k=true:=by
 induction n with
 | zero =>
  obtain rfl:k=0:=by omega
  exact hn
 | succ m ih =>
  by_cases e:k=m+1
  ·subst e;exact hn
  ·simp only [cG,Bool.and_eq_true] at hn
   exact ih (by omega) hn.1
theorem jQ {f:Nat→Ins}{k n:Nat}(h:k<n)(hk:bT (f k).op (f k).s.size (f k).n=false):cG f n=false:=by
 cases e:cG f n with
 | false=>rfl
 | true =>
  have h2:=lC (show k+1≤n by omega) e
  simp [cG,hk] at h2
def valid (f:Nat→Ins)(n:Nat):Bool:=cG f n && decide (1≤(n:Int)∧(n:Int)≤200)
theorem bR {f:Nat→Ins}{n:Nat}(h:valid f n=true):cG f n=true∧1≤(n:Int)∧(n:Int)≤200:=by
 unfold valid at h
 rw [Bool.and_eq_true,decide_eq_true_eq] at h
 exact h
theorem jd {f:Nat→Ins}{k n:Nat}(h:cG f n=true)(hk:k<n):bT (f k).op (f k).s.size (f k).n=true:=by
 have:=lC (show k+1≤n by omega) h
 simp only [cG,Bool.and_eq_true] at this
 exact this.2
theorem dO (b off n cap:Nat)(f:Nat→Ins)(w:World)(hn:n≤1048576)(hb:b<w.heap.size)(hf:∀ i,i<n→AtIns w b off i (f i))(hs:∀ i,i<n→(f i).s.size≤maxLen) :
  Calls Tryz.prog 79 #[.agg #[.slice (some ⟨b,off,none⟩) n cap]] w fun e w'=>e=.returned (.bool (valid f n))∧Below w.heap.size w w':=by
 have HF:=ae hf
 have HS:=ae hs
 clear hf hs
 go_enter Tryz.func79,Tryz.ntmps79
 go_wp2
 go_loopw [3] (fun i wr=>∃ k:Nat,k≤n∧i=.int .i64 k∧cG f k=true∧Below (w.heap.size+1) (w.alloc (.cells #[.slice (some ⟨b,off,none⟩) n cap] 31)) wr) (fun i _=>n - (intOf i).toNat)
 case atStart=>exact ⟨0,by omega,rfl,rfl,Below.refl _ _⟩
 case round =>
  obtain ⟨k,hk,rfl,hok,hB⟩:=hrel
  have HB:=ae hB
  have HK:=ae hok
  have hc0:wr.cell? ⟨w.heap.size,0,none⟩=some (.slice (some ⟨b,off,none⟩) n cap):=by
   rw [hB.cell (p:=⟨w.heap.size,0,none⟩) (by simp)];simp
  have HW:Hid (Below w.heap.size w wr):=((Below.refl _ _).alloc (Nat.le_refl _) _).trans (hB.mono (by omega))
  have hsz:w.heap.size+1≤wr.heap.size:=by have:=hB.size;simpa using this
  clear hB hok
  by_cases hlt:k<n
  ·obtain ⟨c0,c1,c2⟩:=(HF.out k hlt).below HW.out hb
   go_wp2_with fail
   refine (oH _ _ _ _ (HS.out k hlt)).mono ?_
   rintro e w' ⟨rfl,hB'⟩
   have HB':=ae hB'
   clear hB' c0 c1 c2 hc0
   cases hi:bT (f k).op (f k).s.size (f k).n with
   | false =>
    have HI:=ae hi
    clear hi
    go_wp2
    go_ret
    refine ⟨aQ ?_,HW.out.trans (HB'.out.mono HW.out.size)⟩
    simp [valid,jQ hlt HI.out]
   | true =>
    have HI:=ae hi
    clear hi
    go_wp2
    exact ⟨⟨k+1,by omega,by go_num,by simp [cG,HK.out,HI.out],HB.out.trans (HB'.out.mono hsz)⟩,by simp [intOf];omega⟩
  ·have e:k=n:=by omega
   subst e
   by_cases h1:1≤(k:Int)
   all_goals
    go_wp2
    go_ret
    refine ⟨aQ ?_,HW.out⟩
    rw [Bool.eq_iff_iff]
    simp [valid,HK.out]
    try omega
theorem Tab.below {w w':World}{B:Nat}(h:Tab w)(hb:Below B w w')(hB:0<B):Tab w' :=
 ⟨Nat.lt_of_lt_of_le h.1 hb.size,fun k hk=>⟨(hb.cell (p:=⟨0,_,none⟩) hB).trans (h.2 k hk).1,(hb.cell (p:=⟨0,_,none⟩) hB).trans (h.2 k hk).2⟩⟩
theorem iH (a:Option Addr)(n cap:Nat)(f:Nat→Ins)(w:World)(hn:n≤1048576)(h:(n:Int)<1∨200<(n:Int)) :
  Calls Tryz.prog 74 #[.agg #[.slice a n cap]] w fun e w'=>e=.returned (.bool (valid f n))∧Below w.heap.size w w':=by
 have e:valid f n=false:=by
  unfold valid
  rw [show decide (1≤(n:Int)∧(n:Int)≤200)=false by simp;omega,Bool.and_false]
 rw [e]
 clear e
 rcases h with h | h
 all_goals
  go_enter Tryz.func74,Tryz.ntmps74
  go_wp2
  go_ret
  exact ⟨rfl,(Below.refl _ _).alloc (Nat.le_refl _) _⟩
theorem mh (b off n cap:Nat)(f:Nat→Ins)(w:World)(h1:1≤(n:Int))(h2:(n:Int)≤200)(hb:b<w.heap.size)(hf:∀ i,i<n→AtIns w b off i (f i))(hT:Tab w) :
  Calls Tryz.prog 74 #[.agg #[.slice (some ⟨b,off,none⟩) n cap]] w fun e w'=>e=.returned (.bool (valid f n))∧Below w.heap.size w w':=by
 have HF:=ae hf
 have HT:=ae hT
 have hT0:=hT.1
 have HV:Hid (valid f n=cG f n):=by
  show valid f n=cG f n
  unfold valid
  rw [show decide (1≤(n:Int)∧(n:Int)≤200)=true by simp;omega,Bool.and_true]
 clear hf hT
 go_enter Tryz.func74,Tryz.ntmps74
 go_wp2
 go_loopw [18] (fun i wr=>∃ k:Nat,k≤n∧i=.int .i64 k∧cG f k=true∧Below w.heap.size w wr) (fun i _=>n - (intOf i).toNat)
 case atStart=>exact ⟨0,by omega,rfl,rfl,(Below.refl _ _).alloc (Nat.le_refl _) _⟩
 case round =>
  obtain ⟨k,hk,rfl,hok,hB⟩:=hrel
  have HB:=ae hB
  have HK:=ae hok
  have hsz:w.heap.size≤wr.heap.size:=hB.size
  clear hB hok
  by_cases hlt:k<n
  ·obtain ⟨c0,c1,c2⟩:=(HF.out k hlt).below HB.out hb
   go_wp2_with fail
   refine (mO _ _ _ _ (HT.out.below (HB.out.alloc hsz _) hT0)).mono ?_
   rintro e w' ⟨rfl,hB'⟩
   have HB':Hid (Below w.heap.size w w'):=(HB.out.alloc hsz _).trans (hB'.mono (by simp;omega))
   clear hB' c0 c1 c2
   cases hi:bT (f k).op (f k).s.size (f k).n with
   | false =>
    have HI:=ae hi
    clear hi
    go_wp2
    go_ret
    refine ⟨aQ ?_,HB'.out⟩
    rw [HV.out,jQ hlt HI.out]
   | true =>
    have HI:=ae hi
    clear hi
    go_wp2
    exact ⟨⟨k+1,by omega,by go_num,by simp [cG,HK.out,HI.out],HB'.out⟩,by simp [intOf];omega⟩
  ·have e:k=n:=by omega
   subst e
   go_wp2
   go_ret
   exact ⟨aQ (by rw [HV.out,HK.out]),HB.out⟩
theorem eD (b off n cap:Nat)(f:Nat→Ins)(w:World)(hn:n≤1048576)(hb:b<w.heap.size)(hf:∀ i,i<n→AtIns w b off i (f i))(hT:Tab w) :
  Calls Tryz.prog 74 #[.agg #[.slice (some ⟨b,off,none⟩) n cap]] w fun e w'=>e=.returned (.bool (valid f n))∧Below w.heap.size w w':=by
 by_cases h:(n:Int)<1∨200<(n:Int)
 ·exact iH _ n cap f w hn h
 ·exact mh b off n cap f w (by omega) (by omega) hb hf hT
structure Only (b:Nat)(w w':World):Prop where
 os:w'.os=w.os
 tape:w'.tape=w.tape
 output:w'.output=w.output
 size:w.heap.size≤w'.heap.size
 block:∀ k,k<w.heap.size→k≠b→w'.heap[k]?=w.heap[k]?
 ty:∀ cs t fz,w.heap[b]?=some (.cells cs t fz)→∃ cs',w'.heap[b]?=some (.cells cs' t fz)
theorem Only.refl (b:Nat)(w:World):Only b w w:=⟨rfl,rfl,rfl,Nat.le_refl _,fun _ _ _=>rfl,fun cs _ _ h=>⟨cs,h⟩⟩
theorem az {w:World}{i:Nat}{o:Obj}(h:w.heap[i]?=some o):i<w.heap.size:=by
 rcases Nat.lt_or_ge i w.heap.size with h' | h'
 ·exact h'
 ·rw [Array.getElem?_eq_none h'] at h;cases h
theorem dv {w:World}{b j:Nat}{cs:Array Value}{t:TypeId}{fz:Nat × Nat}(h:w.heap[b]?=some (.cells cs t fz))(v:Value):(w.setCell ⟨b,j,none⟩ v).heap[b]?=some (.cells (cs.setIfInBounds j v) t fz):=by
 simp only [World.setCell,Array.getElem?_modify,if_pos,h,Option.map_some]
 rfl
theorem Only.trans {b:Nat}{u v w:World}(h:Only b u v)(k:Only b v w):Only b u w :=
 ⟨k.os.trans h.os,k.tape.trans h.tape,k.output.trans h.output,Nat.le_trans h.size k.size,fun i hi ho=>(k.block i (Nat.lt_of_lt_of_le hi h.size) ho).trans (h.block i hi ho),fun cs t fz hb=>let ⟨cs1,h1⟩:=h.ty cs t fz hb;k.ty cs1 t fz h1⟩
theorem Only.of_below {b:Nat}{w w':World}(h:Below w.heap.size w w'):Only b w w':=⟨h.os,h.tape,h.output,h.size,fun i hi _=>h.block i hi,fun cs _ _ hb=>⟨cs,(h.block b (az hb)).trans hb⟩⟩
theorem Only.drew {b:Nat}{u w:World}(h:Only b u w):Only b u w.drew:=h.trans (Only.of_below (Below.refl _ _).drew)
theorem Only.al {b:Nat}{u w:World}(h:Only b u w)(o:Obj):Only b u (w.alloc o):=h.trans (Only.of_below ((Below.refl _ _).alloc (Nat.le_refl _) _))
theorem Only.below {b B:Nat}{w w':World}(h:Only b w w')(hB:B≤b)(hw:B≤w.heap.size):Below B w w':=⟨h.os,h.tape,h.output,h.size,fun k hk=>h.block k (by omega) (by omega)⟩
theorem Only.cell {b:Nat}{w w':World}(h:Only b w w')(k o:Nat)(hk:k<w.heap.size)(hb:k≠b):w'.cell? ⟨k,o,none⟩=w.cell? ⟨k,o,none⟩:=World.cell?_of_block (w:=w) (a:=⟨k,o,none⟩) (h.block k hk hb)
theorem bC {a w:World}{b:Nat}(h:Only b a w)(j:Nat)(v:Value):Only b a (w.setCell ⟨b,j,none⟩ v) :=
 h.trans ⟨rfl,rfl,rfl,by simp [World.setCell],fun k _ ho=>Below.heap_setCell _ _ _ _ (by simpa using ho),fun _ _ _ hb=>⟨_,dv hb v⟩⟩
theorem cB {P:Program}{fn:Func}{R:Ending→World→Prop}{a:Act}{w:World}(hr:fn.results=#[])(hd:a.defers=[])(hR:R (.returned (.tuple #[])) w):bodyPost P fn R .normal a w :=
 bodyPost_end (v:=.tuple #[]) (by simp [results,hr]) hd hR
theorem kT {P:Program}{fn:Func}{R:Ending→World→Prop}{a:Act}{w:World}(hr:fn.results=#[])(hd:a.defers=[])(hR:R (.returned (.tuple #[])) w):bodyPost P fn R .ret a w :=
 bodyPost_ret (v:=.tuple #[]) (by simp [results,hr]) hd hR
def Cs (w:World)(b n:Nat)(F:Nat→Value):Prop:=b<w.heap.size∧∀ j,j<n→w.cell? ⟨b,j,none⟩=some (F j)∧w.frozen? ⟨b,j,none⟩=false
theorem Cs.below {w w':World}{B b n:Nat}{F:Nat→Value}(h:Cs w b n F)(hb:Below B w w')(hB:b<B):Cs w' b n F :=
 ⟨Nat.lt_of_lt_of_le h.1 hb.size,fun j hj=>⟨(hb.cell (p:=⟨b,_,none⟩) hB).trans (h.2 j hj).1,(hb.frozen (p:=⟨b,_,none⟩) hB).trans (h.2 j hj).2⟩⟩
theorem Cs.set {w:World}{b n:Nat}{F G:Nat→Value}(h:Cs w b n F)(j:Nat)(v:Value)(hG:∀ x,x<n→G x=if x=j then v else F x):Cs (w.setCell ⟨b,j,none⟩ v) b n G:=by
 refine ⟨by simpa using h.1,fun x hx=>⟨?_,?_⟩⟩
 ·rw [hG x hx]
  by_cases e:x=j
  ·subst e
   exact (World.cell?_setCell_same' _ _ _ (by rw [(h.2 x hx).1];rfl)).trans (by simp)
  ·have hne:(⟨b,j,none⟩:Addr)≠⟨b,x,none⟩:=by
    intro q
    exact e (by simpa using q.symm)
   exact (World.cell?_setCell_other _ _ _ _ hne).trans ((h.2 x hx).1.trans (by simp [e]))
 ·have:=(h.2 x hx).2
  simpa using this
structure Turn where
 over:Bool
 code:Int
 text:ByteArray
 ask:Bool
 name:ByteArray
 steps:Int
def Turn.v (t:Turn):Value:=.agg #[.bool t.over,.int .i64 t.code,.string t.text,.bool t.ask,.string t.name,.int .i64 t.steps]
def bw:Turn:=⟨false,0,⟨#[]⟩,false,⟨#[]⟩,0⟩
structure Mst where
 S:Nat→ByteArray
 size:Nat
 place:Int
 steps:Int
 looks:Int
 t:Turn
def Mst.F (cv:Value)(m:Mst)(j:Nat):Value :=
 if j<50 then .string (m.S j) else if j=50 then .int .i64 m.size else if j=51 then cv else if j=52 then .int .i64 m.place else if j=53 then .int .i64 m.steps else if j=54 then .int .i64 m.looks
 else if j=55 then .bool m.t.over else if j=56 then .int .i64 m.t.code else if j=57 then .string m.t.text else if j=58 then .bool m.t.ask else if j=59 then .string m.t.name else if j=60 then .int .i64 m.t.steps else .int .i64 0
def MAt (w:World)(b:Nat)(cv:Value)(m:Mst):Prop:=Cs w b 61 (m.F cv)
theorem MAt.below {w w':World}{B b:Nat}{cv:Value}{m:Mst}(h:MAt w b cv m)(hb:Below B w w')(hB:b<B):MAt w' b cv m:=Cs.below h hb hB
theorem MAt.lt {w:World}{b:Nat}{cv:Value}{m:Mst}(h:MAt w b cv m):b<w.heap.size:=h.1
theorem MAt.txt {w:World}{b:Nat}{cv:Value}{m:Mst}(h:MAt w b cv m)(j:Nat)(hj:j<50):w.cell? ⟨b,j,none⟩=some (.string (m.S j))∧w.frozen? ⟨b,j,none⟩=false :=
 ⟨(h.2 j (by omega)).1.trans (by simp [Mst.F,hj]),(h.2 j (by omega)).2⟩
theorem MAt.fld {w:World}{b:Nat}{cv:Value}{m:Mst}(h:MAt w b cv m)(j:Nat)(v:Value)(hj:j<61)(hv:m.F cv j=v):w.cell? ⟨b,j,none⟩=some v∧w.frozen? ⟨b,j,none⟩=false :=
 ⟨(h.2 j hj).1.trans (by rw [hv]),(h.2 j hj).2⟩
def upd (S:Nat→ByteArray)(k:Nat)(t:ByteArray)(j:Nat):ByteArray:=if j=k then t else S j
theorem MAt.setTxt {w:World}{b:Nat}{cv:Value}{m:Mst}(h:MAt w b cv m)(k:Nat)(hk:k<50)(t:ByteArray):MAt (w.setCell ⟨b,k,none⟩ (.string t)) b cv { m with S:=upd m.S k t } :=
 Cs.set h k _ (fun x _=>by
  by_cases e:x=k
  ·subst e;simp [Mst.F,hk,upd]
  ·simp [Mst.F,upd,e])
theorem MAt.setSize {w:World}{b:Nat}{cv:Value}{m:Mst}(h:MAt w b cv m)(k:Nat)(z:Int)(hz:z=k):MAt (w.setCell ⟨b,50,none⟩ (.int .i64 z)) b cv { m with size:=k }:=by
 subst hz
 exact Cs.set h 50 _ (fun x _=>by
  by_cases e:x=50
  ·subst e;simp [Mst.F]
  ·simp [Mst.F,e])
theorem MAt.setPlace {w:World}{b:Nat}{cv:Value}{m:Mst}(h:MAt w b cv m)(k:Int):MAt (w.setCell ⟨b,52,none⟩ (.int .i64 k)) b cv { m with place:=k } :=
 Cs.set h 52 _ (fun x _=>by
  by_cases e:x=52
  ·subst e;simp [Mst.F]
  ·simp [Mst.F,e])
theorem MAt.setSteps {w:World}{b:Nat}{cv:Value}{m:Mst}(h:MAt w b cv m)(k:Int):MAt (w.setCell ⟨b,53,none⟩ (.int .i64 k)) b cv { m with steps:=k } :=
 Cs.set h 53 _ (fun x _=>by
  by_cases e:x=53
  ·subst e;simp [Mst.F]
  ·simp [Mst.F,e])
theorem MAt.setLooks {w:World}{b:Nat}{cv:Value}{m:Mst}(h:MAt w b cv m)(k:Int):MAt (w.setCell ⟨b,54,none⟩ (.int .i64 k)) b cv { m with looks:=k } :=
 Cs.set h 54 _ (fun x _=>by
  by_cases e:x=54
  ·subst e;simp [Mst.F]
  ·simp [Mst.F,e])
theorem MAt.set55 {w:World}{b:Nat}{cv:Value}{m:Mst}(h:MAt w b cv m)(x:Bool):MAt (w.setCell ⟨b,55,none⟩ (.bool x)) b cv { m with t:={ m.t with over:=x } } :=
 Cs.set h 55 _ (fun y hy=>by
  by_cases e:y=55
  ·subst e;simp [Mst.F]
  ·simp only [Mst.F,e,if_false])
theorem MAt.set56 {w:World}{b:Nat}{cv:Value}{m:Mst}(h:MAt w b cv m)(x:Int):MAt (w.setCell ⟨b,56,none⟩ (.int .i64 x)) b cv { m with t:={ m.t with code:=x } } :=
 Cs.set h 56 _ (fun y hy=>by
  by_cases e:y=56
  ·subst e;simp [Mst.F]
  ·simp only [Mst.F,e,if_false])
theorem MAt.set57 {w:World}{b:Nat}{cv:Value}{m:Mst}(h:MAt w b cv m)(x:ByteArray):MAt (w.setCell ⟨b,57,none⟩ (.string x)) b cv { m with t:={ m.t with text:=x } } :=
 Cs.set h 57 _ (fun y hy=>by
  by_cases e:y=57
  ·subst e;simp [Mst.F]
  ·simp only [Mst.F,e,if_false])
theorem MAt.set58 {w:World}{b:Nat}{cv:Value}{m:Mst}(h:MAt w b cv m)(x:Bool):MAt (w.setCell ⟨b,58,none⟩ (.bool x)) b cv { m with t:={ m.t with ask:=x } } :=
 Cs.set h 58 _ (fun y hy=>by
  by_cases e:y=58
  ·subst e;simp [Mst.F]
  ·simp only [Mst.F,e,if_false])
theorem MAt.set59 {w:World}{b:Nat}{cv:Value}{m:Mst}(h:MAt w b cv m)(x:ByteArray):MAt (w.setCell ⟨b,59,none⟩ (.string x)) b cv { m with t:={ m.t with name:=x } } :=
 Cs.set h 59 _ (fun y hy=>by
  by_cases e:y=59
  ·subst e;simp [Mst.F]
  ·simp only [Mst.F,e,if_false])
theorem MAt.set60 {w:World}{b:Nat}{cv:Value}{m:Mst}(h:MAt w b cv m)(x:Int):MAt (w.setCell ⟨b,60,none⟩ (.int .i64 x)) b cv { m with t:={ m.t with steps:=x } } :=
 Cs.set h 60 _ (fun y hy=>by
  by_cases e:y=60
  ·subst e;simp [Mst.F]
  ·simp only [Mst.F,e,if_false])
theorem MAt.setTurn {w:World}{b:Nat}{cv:Value}{m:Mst}(h:MAt w b cv m)(t:Turn) :
  MAt ((((((w.setCell ⟨b,55,none⟩ (.bool t.over)).setCell ⟨b,56,none⟩ (.int .i64 t.code)).setCell ⟨b,57,none⟩ (.string t.text)).setCell ⟨b,58,none⟩ (.bool t.ask)).setCell ⟨b,59,none⟩ (.string t.name)).setCell ⟨b,60,none⟩ (.int .i64 t.steps)) b cv { m with t:=t } :=
 (((((h.set55 t.over).set56 t.code).set57 t.text).set58 t.ask).set59 t.name).set60 t.steps
theorem MAt.turn {w:World}{b:Nat}{cv:Value}{m:Mst}(h:MAt w b cv m):(w.cell? ⟨b,55,none⟩=some (.bool m.t.over)∧w.frozen? ⟨b,55,none⟩=false)∧(w.cell? ⟨b,56,none⟩=some (.int .i64 m.t.code)∧w.frozen? ⟨b,56,none⟩=false)∧(w.cell? ⟨b,57,none⟩=some (.string m.t.text)∧w.frozen? ⟨b,57,none⟩=false)∧(w.cell? ⟨b,58,none⟩=some (.bool m.t.ask)∧w.frozen? ⟨b,58,none⟩=false)∧(w.cell? ⟨b,59,none⟩=some (.string m.t.name)∧w.frozen? ⟨b,59,none⟩=false)∧(w.cell? ⟨b,60,none⟩=some (.int .i64 m.t.steps)∧w.frozen? ⟨b,60,none⟩=false) :=
 ⟨h.fld 55 _ (by omega) (by simp [Mst.F]),h.fld 56 _ (by omega) (by simp [Mst.F]),h.fld 57 _ (by omega) (by simp [Mst.F]),h.fld 58 _ (by omega) (by simp [Mst.F]),h.fld 59 _ (by omega) (by simp [Mst.F]),h.fld 60 _ (by omega) (by simp [Mst.F])⟩
theorem jR {a w:World}{b:Nat}(h:Only b a w)(t:Turn):Only b a ((((((w.setCell ⟨b,55,none⟩ (.bool t.over)).setCell ⟨b,56,none⟩ (.int .i64 t.code)).setCell ⟨b,57,none⟩ (.string t.text)).setCell ⟨b,58,none⟩ (.bool t.ask)).setCell ⟨b,59,none⟩ (.string t.name)).setCell ⟨b,60,none⟩ (.int .i64 t.steps)) :=
 bC (bC (bC (bC (bC (bC h _ _) _ _) _ _) _ _) _ _) _ _
theorem cS (b:Nat)(cv:Value)(m:Mst)(t:ByteArray)(w:World)(hM:MAt w b cv m)(hs:m.size<50) :
  Calls Tryz.prog 165 #[.pointer (some ⟨b,0,none⟩),.string t] w fun e w'=>e=.returned (.tuple #[])∧MAt w' b cv { m with S:=upd m.S m.size t,size:=m.size+1 }∧Only b w w':=by
 have HM:=ae hM
 obtain ⟨c0,z0⟩:=hM.fld 50 (.int .i64 m.size) (by omega) (by simp [Mst.F])
 obtain ⟨c1,z1⟩:=hM.txt m.size hs
 clear hM
 go_enter Tryz.func165,Tryz.ntmps165
 go_wp2
 go_region_with fail
 have HM1:=ae ((HM.out.setTxt m.size hs t).below (Below.refl _ _).drew (Nat.lt_succ_self _))
 clear c0 z0 c1 z1
 obtain ⟨c0,z0⟩:=HM1.out.fld 50 (.int .i64 m.size) (by omega) (by simp [Mst.F])
 go_wp2
 refine cB rfl rfl ?_
 exact ⟨rfl,HM1.out.setSize (m.size+1) _ (by simp),bC (bC (Only.refl _ _) _ _).drew _ _⟩
theorem gN (b:Nat)(cv:Value)(m:Mst)(k:Nat)(w:World)(hM:MAt w b cv m)(hk:m.size=k+1)(hs:k<50) :
  Calls Tryz.prog 228 #[.pointer (some ⟨b,0,none⟩)] w fun e w'=>e=.returned (.string (m.S k))∧MAt w' b cv { m with size:=k }∧Only b w w':=by
 have HM:=ae hM
 obtain ⟨c0,z0⟩:=hM.fld 50 (.int .i64 (k+1)) (by omega) (by simp [Mst.F,hk])
 clear hM
 go_enter Tryz.func228,Tryz.ntmps228
 go_wp2_with fail
 have HM1:=ae (HM.out.setSize k k rfl)
 obtain ⟨c1,z1⟩:=HM1.out.txt k hs
 obtain ⟨c2,z2⟩:=HM1.out.fld 50 (.int .i64 k) (by omega) (by simp [Mst.F])
 clear c0 z0
 go_region_with fail
 go_wp2
 go_ret
 exact ⟨rfl,HM1.out.below (Below.refl _ _).drew (Nat.lt_succ_self _),(bC (Only.refl _ _) _ _).drew⟩
theorem fc (b:Nat)(cv:Value)(m:Mst)(c:Int)(t:ByteArray)(w:World)(hM:MAt w b cv m) :
  Calls Tryz.prog 167 #[.pointer (some ⟨b,0,none⟩),.int .i64 c,.string t] w fun e w'=>e=.returned (.tuple #[])∧MAt w' b cv { m with t:=⟨true,c,t,false,⟨#[]⟩,m.steps⟩ }∧Only b w w':=by
 have HM:=ae hM
 obtain ⟨c0,z0⟩:=hM.fld 53 (.int .i64 m.steps) (by omega) (by simp [Mst.F])
 obtain ⟨c5,z5⟩:=hM.fld 55 (.bool m.t.over) (by omega) (by simp [Mst.F])
 obtain ⟨c6,z6⟩:=hM.fld 56 (.int .i64 m.t.code) (by omega) (by simp [Mst.F])
 obtain ⟨c7,z7⟩:=hM.fld 57 (.string m.t.text) (by omega) (by simp [Mst.F])
 obtain ⟨c8,z8⟩:=hM.fld 58 (.bool m.t.ask) (by omega) (by simp [Mst.F])
 obtain ⟨c9,z9⟩:=hM.fld 59 (.string m.t.name) (by omega) (by simp [Mst.F])
 obtain ⟨c10,z10⟩:=hM.fld 60 (.int .i64 m.t.steps) (by omega) (by simp [Mst.F])
 clear hM
 go_enter Tryz.func167,Tryz.ntmps167
 go_wp2
 refine cB rfl rfl ?_
 exact ⟨rfl,HM.out.setTurn ⟨true,c,t,false,⟨#[]⟩,m.steps⟩,bC (bC (bC (bC (bC (bC (Only.refl _ _) _ _) _ _) _ _) _ _) _ _) _ _⟩
def aB (k:Nat):Nat:=if k=2∨k=6∨k=8 then 2 else if k=0∨k=1∨k=10∨15<k then 0 else 1
def bi (k:Nat):Nat:=if k=7∨k=8 then 2 else if k=0∨k=9∨k=10∨k=11∨13<k then 0 else 1
def Tab2 (w:World):Prop:=0<w.heap.size∧∀ k:Nat,k<16→w.cell? ⟨0,k*5+3,none⟩=some (.int .i64 (aB k))∧w.cell? ⟨0,k*5+4,none⟩=some (.int .i64 (bi k))
theorem Tab2.below {w w':World}{B:Nat}(h:Tab2 w)(hb:Below B w w')(hB:0<B):Tab2 w' :=
 ⟨Nat.lt_of_lt_of_le h.1 hb.size,fun k hk=>⟨(hb.cell (p:=⟨0,_,none⟩) hB).trans (h.2 k hk).1,(hb.cell (p:=⟨0,_,none⟩) hB).trans (h.2 k hk).2⟩⟩
theorem bears_any (b:Nat)(cv:Value)(m:Mst)(k:Nat)(w:World)(hM:MAt w b cv m)(hT:Tab2 w)(h1:1≤(k:Int))(h2:(k:Int)≤15)(hs:m.size≤50) :
  Calls Tryz.prog 205 #[.pointer (some ⟨b,0,none⟩),.int .i64 k] w fun e w'=>e=.returned (.bool (decide (aB k≤m.size∧m.size - aB k+bi k≤50)))∧Below w.heap.size w w':=by
 have hT0:=hT.1
 obtain ⟨c0,z0⟩:=hM.fld 50 (.int .i64 m.size) (by omega) (by simp [Mst.F])
 obtain ⟨t0,t1⟩:=hT.2 k (by omega)
 have k1:aB k≤2:=by unfold aB;split<;>(try split)<;>omega
 have k2:bi k≤2:=by unfold bi;split<;>(try split)<;>omega
 clear hM hT
 generalize aB k=x at *
 generalize bi k=y at *
 by_cases hx:x≤m.size
 ·go_enter Tryz.func205,Tryz.ntmps205
  go_wp2_with fail
  go_quiet (fail)
  go_wp2
  go_ret
  refine ⟨aQ ?_,below_drewN (Below.refl _ _) _⟩
  rw [Bool.eq_iff_iff]
  simp
  omega
 ·go_enter Tryz.func205,Tryz.ntmps205
  go_wp2_with fail
  go_quiet (fail)
  go_wp2_with fail
  go_ret
  refine ⟨aQ ?_,below_drewN (Below.refl _ _) _⟩
  rw [Bool.eq_iff_iff]
  simp
  omega
def cC (s:ByteArray):Nat→Bool
 | 0=>true
 | k+1=>cC s k && (match s.data[k]? with | some c=>decide (33≤c.toNat∧c.toNat≤126) | none=>false)
def au (s:ByteArray):Bool:=decide (1≤s.size∧s.size≤60) && cC s s.size
theorem oI {s:ByteArray}{k n:Nat}(h:k≤n)(hn:cC s n=true):cC s k=true:=by
 induction n with
 | zero =>
  obtain rfl:k=0:=by omega
  exact hn
 | succ m ih =>
  by_cases e:k=m+1
  ·subst e;exact hn
  ·simp only [cC,Bool.and_eq_true] at hn
   exact ih (by omega) hn.1
theorem fs {s:ByteArray}{k:Nat}(h:k<s.size):cC s (k+1)=(cC s k && decide (33≤s[k].toNat∧s[k].toNat≤126)):=by
 have e:s.data[k]?=some s[k]:=by rw [Array.getElem?_eq_getElem h];rfl
 rw [cC,e]
theorem dA {s:ByteArray}{k:Nat}(h:k<s.size)(hk:¬ (33≤s[k].toNat∧s[k].toNat≤126)):cC s s.size=false:=by
 cases e:cC s s.size with
 | false=>rfl
 | true =>
  have h2:=oI (show k+1≤s.size by omega) e
  rw [fs h] at h2
  simp at h2
  omega
theorem dm (s:ByteArray)(w:World):Calls Tryz.prog 81 #[.string s] w fun e w'=>e=.returned (.bool (au s))∧Below w.heap.size w w':=by
 by_cases h1:1≤(s.size:Int)
 ·by_cases h2:(s.size:Int)≤60
  ·have HV:Hid (au s=cC s s.size):=by
    show au s=cC s s.size
    unfold au
    rw [show decide (1≤s.size∧s.size≤60)=true by simp;omega,Bool.true_and]
   go_enter Tryz.func81,Tryz.ntmps81
   go_wp2
   go_loopw [14] (fun i wr=>∃ k:Nat,k≤s.size∧i=.int .i64 k∧cC s k=true∧Below w.heap.size w wr) (fun i _=>s.size - (intOf i).toNat)
   case atStart=>exact ⟨0,by omega,rfl,rfl,Below.refl _ _⟩
   case round =>
    obtain ⟨k,hk,rfl,hok,hB⟩:=hrel
    have HB:=ae hB
    have HK:=ae hok
    clear hB hok
    by_cases hlt:k<s.size
    ·by_cases p1:33≤(s[k].toNat:Int)
     ·by_cases p2:(s[k].toNat:Int)≤126
      ·go_wp2
       exact ⟨⟨k+1,by omega,by go_num,by rw [fs hlt,HK.out];simp;omega,HB.out⟩,by simp [intOf];omega⟩
      ·go_wp2
       go_ret
       exact ⟨aQ (by rw [HV.out,dA hlt (by omega)]),HB.out⟩
     ·go_wp2
      go_ret
      exact ⟨aQ (by rw [HV.out,dA hlt (by omega)]),HB.out⟩
    ·have e:k=s.size:=by omega
     subst e
     go_wp2
     go_ret
     exact ⟨aQ (by rw [HV.out,HK.out]),HB.out⟩
  ·have e:au s=false:=by
    unfold au
    rw [show decide (1≤s.size∧s.size≤60)=false by simp;omega,Bool.false_and]
   rw [e]
   clear e
   go_enter Tryz.func81,Tryz.ntmps81
   go_wp2
   go_ret
   exact ⟨rfl,Below.refl _ _⟩
 ·have e:au s=false:=by
   unfold au
   rw [show decide (1≤s.size∧s.size≤60)=false by simp;omega,Bool.false_and]
  rw [e]
  clear e
  go_enter Tryz.func81,Tryz.ntmps81
  go_wp2
  go_ret
  exact ⟨rfl,Below.refl _ _⟩
theorem bN (s:ByteArray)(w:World):Calls Tryz.prog 61 #[.string s] w fun e w'=>e=.returned (.bool (au s))∧Below w.heap.size w w':=by
 by_cases h1:1≤(s.size:Int)
 ·by_cases h2:(s.size:Int)≤60
  ·have HV:Hid (au s=cC s s.size):=by
    show au s=cC s s.size
    unfold au
    rw [show decide (1≤s.size∧s.size≤60)=true by simp;omega,Bool.true_and]
   go_enter Tryz.func61,Tryz.ntmps61
   go_wp2
   go_loopw [3] (fun i wr=>∃ k:Nat,k≤s.size∧i=.int .i64 k∧cC s k=true∧Below w.heap.size w wr) (fun i _=>s.size - (intOf i).toNat)
   case atStart=>exact ⟨0,by omega,rfl,rfl,Below.refl _ _⟩
   case round =>
    obtain ⟨k,hk,rfl,hok,hB⟩:=hrel
    have HB:=ae hB
    have HK:=ae hok
    clear hB hok
    by_cases hlt:k<s.size
    ·by_cases p1:33≤(s[k].toNat:Int)
     ·by_cases p2:(s[k].toNat:Int)≤126
      ·go_wp2
       exact ⟨⟨k+1,by omega,by go_num,by rw [fs hlt,HK.out];simp;omega,HB.out⟩,by simp [intOf];omega⟩
      ·go_wp2
       go_ret
       exact ⟨aQ (by rw [HV.out,dA hlt (by omega)]),HB.out⟩
     ·go_wp2
      go_ret
      exact ⟨aQ (by rw [HV.out,dA hlt (by omega)]),HB.out⟩
    ·have e:k=s.size:=by omega
     subst e
     go_wp2
     go_ret
     exact ⟨aQ (by rw [HV.out,HK.out]),HB.out⟩
  ·have e:au s=false:=by
    unfold au
    rw [show decide (1≤s.size∧s.size≤60)=false by simp;omega,Bool.false_and]
   rw [e]
   clear e
   go_enter Tryz.func61,Tryz.ntmps61
   go_wp2
   go_ret
   exact ⟨rfl,Below.refl _ _⟩
 ·have e:au s=false:=by
   unfold au
   rw [show decide (1≤s.size∧s.size≤60)=false by simp;omega,Bool.false_and]
  rw [e]
  clear e
  go_enter Tryz.func61,Tryz.ntmps61
  go_wp2
  go_ret
  exact ⟨rfl,Below.refl _ _⟩
structure aw where
 has:Bool
 code:Int
 text:ByteArray
def AtReply (w:World)(b off i:Nat)(x:aw):Prop :=
 w.cell? ⟨b,off+i*3,none⟩=some (.bool x.has)∧w.cell? ⟨b,off+i*3+1,none⟩=some (.int .i64 x.code)∧w.cell? ⟨b,off+i*3+2,none⟩=some (.string x.text)
theorem AtReply.below {w w':World}{B b off i:Nat}{x:aw}(h:AtReply w b off i x)(hb:Below B w w')(hB:b<B):AtReply w' b off i x :=
 ⟨(hb.cell (p:=⟨b,_,none⟩) hB).trans h.1,(hb.cell (p:=⟨b,_,none⟩) hB).trans h.2.1,(hb.cell (p:=⟨b,_,none⟩) hB).trans h.2.2⟩
def RowReply (w:World)(b off n:Nat)(f:Nat→aw):Prop:=b<w.heap.size∧∀ i,i<n→AtReply w b off i (f i)
theorem RowReply.below {w w':World}{B b off n:Nat}{f:Nat→aw}(h:RowReply w b off n f)(hb:Below B w w')(hB:w.heap.size≤B):RowReply w' b off n f :=
 ⟨Nat.lt_of_lt_of_le h.1 hb.size,fun i hi=>(h.2 i hi).below hb (Nat.lt_of_lt_of_le h.1 hB)⟩
theorem RowReply.setOther {w:World}{g n off:Nat}{f:Nat→aw}(h:RowReply w g off n f)(p:Addr)(hp:p.block≠g)(v:Value):RowReply (w.setCell p v) g off n f:=by
 refine ⟨by simpa using h.1,fun i hi=>?_⟩
 have h:=h.2 i hi
 have far:∀ o,(w.setCell p v).cell? ⟨g,o,none⟩=w.cell? ⟨g,o,none⟩:=fun o=>World.cell?_of_block (w:=w) (a:=⟨g,o,none⟩) (Below.heap_setCell w p v g (fun e=>hp e.symm))
 exact ⟨(far _).trans h.1,(far _).trans h.2.1,(far _).trans h.2.2⟩
def SlReply (w:World)(a:Option Addr)(n:Nat)(f:Nat→aw):Prop:=n=0∨∃ b off,a=some ⟨b,off,none⟩∧RowReply w b off n f
theorem SlReply.below {w w':World}{B:Nat}{a:Option Addr}{n:Nat}{f:Nat→aw}(h:SlReply w a n f)(hb:Below B w w')(hB:w.heap.size≤B):SlReply w' a n f:=by
 rcases h with h | ⟨b,off,hv,hr⟩
 ·exact .inl h
 ·exact .inr ⟨b,off,hv,hr.below hb hB⟩
theorem RowReply.sl {w:World}{b off n:Nat}{f:Nat→aw}(h:RowReply w b off n f):SlReply w (some ⟨b,off,none⟩) n f:=.inr ⟨b,off,rfl,h⟩
structure Source where
 name:ByteArray
 text:ByteArray
def AtSource (w:World)(b off i:Nat)(x:Source):Prop :=
 w.cell? ⟨b,off+i*2,none⟩=some (.string x.name)∧w.cell? ⟨b,off+i*2+1,none⟩=some (.string x.text)
theorem AtSource.below {w w':World}{B b off i:Nat}{x:Source}(h:AtSource w b off i x)(hb:Below B w w')(hB:b<B):AtSource w' b off i x :=
 ⟨(hb.cell (p:=⟨b,_,none⟩) hB).trans h.1,(hb.cell (p:=⟨b,_,none⟩) hB).trans h.2⟩
def RowSource (w:World)(b off n:Nat)(f:Nat→Source):Prop:=b<w.heap.size∧∀ i,i<n→AtSource w b off i (f i)
theorem RowSource.below {w w':World}{B b off n:Nat}{f:Nat→Source}(h:RowSource w b off n f)(hb:Below B w w')(hB:w.heap.size≤B):RowSource w' b off n f :=
 ⟨Nat.lt_of_lt_of_le h.1 hb.size,fun i hi=>(h.2 i hi).below hb (Nat.lt_of_lt_of_le h.1 hB)⟩
theorem RowSource.setOther {w:World}{g n off:Nat}{f:Nat→Source}(h:RowSource w g off n f)(p:Addr)(hp:p.block≠g)(v:Value):RowSource (w.setCell p v) g off n f:=by
 refine ⟨by simpa using h.1,fun i hi=>?_⟩
 have h:=h.2 i hi
 have far:∀ o,(w.setCell p v).cell? ⟨g,o,none⟩=w.cell? ⟨g,o,none⟩:=fun o=>World.cell?_of_block (w:=w) (a:=⟨g,o,none⟩) (Below.heap_setCell w p v g (fun e=>hp e.symm))
 exact ⟨(far _).trans h.1,(far _).trans h.2⟩
def SlSource (w:World)(a:Option Addr)(n:Nat)(f:Nat→Source):Prop:=n=0∨∃ b off,a=some ⟨b,off,none⟩∧RowSource w b off n f
theorem SlSource.below {w w':World}{B:Nat}{a:Option Addr}{n:Nat}{f:Nat→Source}(h:SlSource w a n f)(hb:Below B w w')(hB:w.heap.size≤B):SlSource w' a n f:=by
 rcases h with h | ⟨b,off,hv,hr⟩
 ·exact .inl h
 ·exact .inr ⟨b,off,hv,hr.below hb hB⟩
theorem RowSource.sl {w:World}{b off n:Nat}{f:Nat→Source}(h:RowSource w b off n f):SlSource w (some ⟨b,off,none⟩) n f:=.inr ⟨b,off,rfl,h⟩
theorem gO:(Tryz.prog.info? 100).map (fun i=>(i.zero,i.size,i.bytes))=some (some (.agg #[.string ⟨#[]⟩,.string ⟨#[]⟩]),2,32):=by kernel_rfl
def OwnSource (w:World)(g n k:Nat)(f:Nat→Source):Prop :=
 ∃ F,w.rowIs g 100 (n*2) F∧∀ i,i<k→F (i*2)=.string (f i).name∧F (i*2+1)=.string (f i).text
theorem OwnSource.step {w:World}{g n k:Nat}{f:Nat→Source}(h:OwnSource w g n k f) :
  OwnSource ((w.setCell ⟨g,k*2,none⟩ (.string (f k).name)).setCell ⟨g,k*2+1,none⟩ (.string (f k).text)) g n (k+1) f:=by
 obtain ⟨F,hr,hF⟩:=h
 refine ⟨_,((hr.set _ _).set _ _),fun i hi=>?_⟩
 by_cases e:i=k
 ·subst e
  exact ⟨by simp,by simp⟩
 ·have h:=hF i (by omega)
  refine ⟨?_,?_⟩
  ·show (if _ then _ else if _ then _ else _)=_
   rw [if_neg (by omega),if_neg (by omega),h.1]
  ·show (if _ then _ else if _ then _ else _)=_
   rw [if_neg (by omega),if_neg (by omega),h.2]
theorem OwnSource.below {w w':World}{g n k:Nat}{f:Nat→Source}{B:Nat}(h:OwnSource w g n k f)(hb:Below B w w')(hB:g<B):OwnSource w' g n k f:=by
 obtain ⟨F,hr,hF⟩:=h
 exact ⟨F,hr.of_block (hb.block g hB),hF⟩
theorem OwnSource.row {w:World}{g n:Nat}{f:Nat→Source}(h:OwnSource w g n n f):RowSource w g 0 n f:=by
 obtain ⟨F,hr,hF⟩:=h
 refine ⟨hr.lt,fun i hi=>?_⟩
 have h:=hF i hi
 refine ⟨?_,?_⟩
 ·rw [Nat.zero_add,hr.cell (by omega),h.1]
 ·rw [Nat.zero_add,hr.cell (by omega),h.2]
structure Target where
 name:ByteArray
 actN:Nat
 act:Nat→Ins
def bh (x:Target):Prop:=x.actN≤1048576
def AtTarget (w:World)(b off i:Nat)(x:Target):Prop :=
 w.cell? ⟨b,off+i*2,none⟩=some (.string x.name)∧(∃ a cap,w.cell? ⟨b,off+i*2+1,none⟩=some (.slice a x.actN cap)∧SlIns w a x.actN x.act)
theorem AtTarget.below {w w':World}{B b off i:Nat}{x:Target}(h:AtTarget w b off i x)(hb:Below B w w')(hB:w.heap.size≤B)(hl:b<w.heap.size):AtTarget w' b off i x:=by
 obtain ⟨p0,⟨a0,cap0,s0,r0⟩⟩:=h
 refine ⟨(hb.cell (p:=⟨b,_,none⟩) (Nat.lt_of_lt_of_le hl hB)).trans p0,⟨a0,cap0,(hb.cell (p:=⟨b,_,none⟩) (Nat.lt_of_lt_of_le hl hB)).trans s0,r0.below hb hB⟩⟩
def RowTarget (w:World)(b off n:Nat)(f:Nat→Target):Prop:=b<w.heap.size∧∀ i,i<n→AtTarget w b off i (f i)
theorem RowTarget.below {w w':World}{B b off n:Nat}{f:Nat→Target}(h:RowTarget w b off n f)(hb:Below B w w')(hB:w.heap.size≤B):RowTarget w' b off n f :=
 ⟨Nat.lt_of_lt_of_le h.1 hb.size,fun i hi=>(h.2 i hi).below hb hB h.1⟩
def SlTarget (w:World)(a:Option Addr)(n:Nat)(f:Nat→Target):Prop:=n=0∨∃ b off,a=some ⟨b,off,none⟩∧RowTarget w b off n f
theorem SlTarget.below {w w':World}{B:Nat}{a:Option Addr}{n:Nat}{f:Nat→Target}(h:SlTarget w a n f)(hb:Below B w w')(hB:w.heap.size≤B):SlTarget w' a n f:=by
 rcases h with h | ⟨b,off,hv,hr⟩
 ·exact .inl h
 ·exact .inr ⟨b,off,hv,hr.below hb hB⟩
theorem RowTarget.sl {w:World}{b off n:Nat}{f:Nat→Target}(h:RowTarget w b off n f):SlTarget w (some ⟨b,off,none⟩) n f:=.inr ⟨b,off,rfl,h⟩
theorem fK:(Tryz.prog.info? 104).map (fun i=>(i.zero,i.size,i.bytes))=some (some (.agg #[.string ⟨#[]⟩,.slice none 0 0]),2,40):=by kernel_rfl
def OwnTarget (w:World)(g n k:Nat)(f:Nat→Target):Prop :=
 ∃ (F:Nat→Value) (G0:Nat→Nat),w.rowIs g 104 (n*2) F∧∀ i,i<k→F (i*2)=.string (f i).name∧(F (i*2+1)=.slice (some ⟨G0 i,0,none⟩) (f i).actN (f i).actN∧RowIns w (G0 i) 0 (f i).actN (f i).act∧g<G0 i)
theorem OwnTarget.lt {w:World}{g n k:Nat}{f:Nat→Target}(h:OwnTarget w g n k f):g<w.heap.size:=by
 obtain ⟨F,G0,hr,_⟩:=h
 exact hr.lt
theorem OwnTarget.step {w:World}{g n k g0:Nat}{f:Nat→Target}(h:OwnTarget w g n k f)(R0:RowIns w g0 0 (f k).actN (f k).act)(hg0:g<g0) :
  OwnTarget ((w.setCell ⟨g,k*2,none⟩ (.string (f k).name)).setCell ⟨g,k*2+1,none⟩ (.slice (some ⟨g0,0,none⟩) (f k).actN (f k).actN)) g n (k+1) f:=by
 obtain ⟨F,G0,hr,hF⟩:=h
 refine ⟨_,fun i=>if i=k then g0 else G0 i,((hr.set _ _).set _ _),fun i hi=>?_⟩
 by_cases e:i=k
 ·subst e
  exact ⟨by simp,⟨by simp,by dsimp only;rw [if_pos rfl];exact ((R0).setOther _ (by first | (simp;omega) | simp) _).setOther _ (by first | (simp;omega) | simp) _,by dsimp only;rw [if_pos rfl];exact hg0⟩⟩
 ·obtain ⟨p0,⟨s0,r0,u0⟩⟩:=hF i (by omega)
  refine ⟨?_,?_⟩
  ·show (if _ then _ else if _ then _ else _)=_
   rw [if_neg (by omega),if_neg (by omega),p0]
  ·dsimp only
   rw [if_neg e]
   refine ⟨?_,((r0).setOther _ (by first | (simp;omega) | simp) _).setOther _ (by first | (simp;omega) | simp) _,u0⟩
   show (if _ then _ else if _ then _ else _)=_
   rw [if_neg (by omega),if_neg (by omega),s0]
theorem OwnTarget.below {w w':World}{g n k:Nat}{f:Nat→Target}{B:Nat}(h:OwnTarget w g n k f)(hb:Below B w w')(hB:w.heap.size≤B):OwnTarget w' g n k f:=by
 have hl:=h.lt
 obtain ⟨F,G0,hr,hF⟩:=h
 refine ⟨F,G0,hr.of_block (hb.block g (Nat.lt_of_lt_of_le hl hB)),fun i hi=>?_⟩
 obtain ⟨p0,⟨s0,r0,u0⟩⟩:=hF i hi
 exact ⟨p0,⟨s0,r0.below hb hB,u0⟩⟩
theorem OwnTarget.setOther {w:World}{g n k:Nat}{f:Nat→Target}(h:OwnTarget w g n k f)(p:Addr)(hp:p.block<g)(v:Value):OwnTarget (w.setCell p v) g n k f:=by
 obtain ⟨F,G0,hr,hF⟩:=h
 refine ⟨F,G0,hr.setOther (by omega) v,fun i hi=>?_⟩
 obtain ⟨p0,⟨s0,r0,u0⟩⟩:=hF i hi
 exact ⟨p0,⟨s0,r0.setOther p (by omega) v,u0⟩⟩
theorem OwnTarget.row {w:World}{g n:Nat}{f:Nat→Target}(h:OwnTarget w g n n f):RowTarget w g 0 n f:=by
 obtain ⟨F,G0,hr,hF⟩:=h
 refine ⟨hr.lt,fun i hi=>?_⟩
 obtain ⟨p0,⟨s0,r0,u0⟩⟩:=hF i hi
 refine ⟨?_,?_⟩
 ·rw [Nat.zero_add,hr.cell (by omega),p0]
 ·exact ⟨_,_,by rw [Nat.zero_add,hr.cell (by omega),s0],r0.sl⟩
def RowStr (w:World)(b off n:Nat)(f:Nat→ByteArray):Prop:=b<w.heap.size∧∀ i,i<n→w.cell? ⟨b,off+i,none⟩=some (.string (f i))
theorem RowStr.below {w w':World}{B b off n:Nat}{f:Nat→ByteArray}(h:RowStr w b off n f)(hb:Below B w w')(hB:w.heap.size≤B):RowStr w' b off n f :=
 ⟨Nat.lt_of_lt_of_le h.1 hb.size,fun i hi=>(hb.cell (p:=⟨b,_,none⟩) (Nat.lt_of_lt_of_le h.1 hB)).trans (h.2 i hi)⟩
theorem RowStr.low {w w':World}{B b off n:Nat}{f:Nat→ByteArray}(h:RowStr w b off n f)(hb:Below B w w')(hB:b<B):RowStr w' b off n f :=
 ⟨Nat.lt_of_lt_of_le h.1 hb.size,fun i hi=>(hb.cell (p:=⟨b,_,none⟩) hB).trans (h.2 i hi)⟩
theorem RowStr.setOther {w:World}{g n off:Nat}{f:Nat→ByteArray}(h:RowStr w g off n f)(p:Addr)(hp:p.block≠g)(v:Value):RowStr (w.setCell p v) g off n f :=
 ⟨by simpa using h.1,fun i hi=>(World.cell?_of_block (w:=w) (a:=⟨g,off+i,none⟩) (Below.heap_setCell w p v g (fun e=>hp e.symm))).trans (h.2 i hi)⟩
def SlStr (w:World)(a:Option Addr)(n:Nat)(f:Nat→ByteArray):Prop:=n=0∨∃ b off,a=some ⟨b,off,none⟩∧RowStr w b off n f
theorem SlStr.below {w w':World}{B:Nat}{a:Option Addr}{n:Nat}{f:Nat→ByteArray}(h:SlStr w a n f)(hb:Below B w w')(hB:w.heap.size≤B):SlStr w' a n f:=by
 rcases h with h | ⟨b,off,hv,hr⟩
 ·exact .inl h
 ·exact .inr ⟨b,off,hv,hr.below hb hB⟩
theorem RowStr.sl {w:World}{b off n:Nat}{f:Nat→ByteArray}(h:RowStr w b off n f):SlStr w (some ⟨b,off,none⟩) n f:=.inr ⟨b,off,rfl,h⟩
theorem ec:(Tryz.prog.info? 9).map (fun i=>(i.zero,i.size,i.bytes))=some (some (.string ⟨#[]⟩),1,16):=by kernel_rfl
theorem qn (f:Nat→Ins):valid f 0=false:=by simp [valid]
theorem iI (a:Option Addr)(n cap:Nat)(f:Nat→Ins)(w:World)(hn:n≤1048576)(hv:SlIns w a n f)(hT:Tab w) :
  Calls Tryz.prog 74 #[.agg #[.slice a n cap]] w fun e w'=>e=.returned (.bool (valid f n))∧Below w.heap.size w w':=by
 rcases hv with rfl | ⟨b,off,rfl,hr⟩
 ·exact iH a 0 cap f w (by omega) (by simp)
 ·exact eD b off n cap f w hn hr.1 hr.2 hT
theorem mj (a:Option Addr)(cap:Nat)(f:Nat→Ins)(w:World):Calls Tryz.prog 79 #[.agg #[.slice a 0 cap]] w fun e w'=>e=.returned (.bool (valid f 0))∧Below w.heap.size w w':=by
 rw [qn]
 have A0:=ae ((Below.refl w.heap.size w).alloc (Nat.le_refl _) (.cells #[.slice a 0 cap] 31))
 go_enter Tryz.func79,Tryz.ntmps79
 go_wp2
 go_loop [3] (fun i=>i=.int .i64 0) (fun _=>0)
 case atStart=>rfl
 case round =>
  subst hrel
  go_wp2
  go_ret
  exact ⟨rfl,A0.out⟩
theorem mP (a:Option Addr)(n cap:Nat)(f:Nat→Ins)(w:World)(hn:n≤1048576)(hv:SlIns w a n f)(hs:∀ i,i<n→(f i).s.size≤maxLen) :
  Calls Tryz.prog 79 #[.agg #[.slice a n cap]] w fun e w'=>e=.returned (.bool (valid f n))∧Below w.heap.size w w':=by
 rcases hv with rfl | ⟨b,off,rfl,hr⟩
 ·exact mj a cap f w
 ·exact dO b off n cap f w hn hr.1 hr.2 hs
structure Link where
 name:ByteArray
 ask:Bool
 has:Bool
 at_:Int
def AtLink (w:World)(b off i:Nat)(x:Link):Prop :=
 w.cell? ⟨b,off+i*4,none⟩=some (.string x.name)∧w.cell? ⟨b,off+i*4+1,none⟩=some (.bool x.ask)∧w.cell? ⟨b,off+i*4+2,none⟩=some (.bool x.has)∧w.cell? ⟨b,off+i*4+3,none⟩=some (.int .i64 x.at_)
theorem AtLink.below {w w':World}{B b off i:Nat}{x:Link}(h:AtLink w b off i x)(hb:Below B w w')(hB:b<B):AtLink w' b off i x :=
 ⟨(hb.cell (p:=⟨b,_,none⟩) hB).trans h.1,(hb.cell (p:=⟨b,_,none⟩) hB).trans h.2.1,(hb.cell (p:=⟨b,_,none⟩) hB).trans h.2.2.1,(hb.cell (p:=⟨b,_,none⟩) hB).trans h.2.2.2⟩
def RowLink (w:World)(b off n:Nat)(f:Nat→Link):Prop:=b<w.heap.size∧∀ i,i<n→AtLink w b off i (f i)
theorem RowLink.below {w w':World}{B b off n:Nat}{f:Nat→Link}(h:RowLink w b off n f)(hb:Below B w w')(hB:w.heap.size≤B):RowLink w' b off n f :=
 ⟨Nat.lt_of_lt_of_le h.1 hb.size,fun i hi=>(h.2 i hi).below hb (Nat.lt_of_lt_of_le h.1 hB)⟩
theorem RowLink.setOther {w:World}{g n off:Nat}{f:Nat→Link}(h:RowLink w g off n f)(p:Addr)(hp:p.block≠g)(v:Value):RowLink (w.setCell p v) g off n f:=by
 refine ⟨by simpa using h.1,fun i hi=>?_⟩
 have h:=h.2 i hi
 have far:∀ o,(w.setCell p v).cell? ⟨g,o,none⟩=w.cell? ⟨g,o,none⟩:=fun o=>World.cell?_of_block (w:=w) (a:=⟨g,o,none⟩) (Below.heap_setCell w p v g (fun e=>hp e.symm))
 exact ⟨(far _).trans h.1,(far _).trans h.2.1,(far _).trans h.2.2.1,(far _).trans h.2.2.2⟩
def SlLink (w:World)(a:Option Addr)(n:Nat)(f:Nat→Link):Prop:=n=0∨∃ b off,a=some ⟨b,off,none⟩∧RowLink w b off n f
theorem SlLink.below {w w':World}{B:Nat}{a:Option Addr}{n:Nat}{f:Nat→Link}(h:SlLink w a n f)(hb:Below B w w')(hB:w.heap.size≤B):SlLink w' a n f:=by
 rcases h with h | ⟨b,off,hv,hr⟩
 ·exact .inl h
 ·exact .inr ⟨b,off,hv,hr.below hb hB⟩
theorem RowLink.sl {w:World}{b off n:Nat}{f:Nat→Link}(h:RowLink w b off n f):SlLink w (some ⟨b,off,none⟩) n f:=.inr ⟨b,off,rfl,h⟩
theorem tK:(Tryz.prog.info? 73).map (fun i=>(i.zero,i.size,i.bytes))=some (some (.agg #[.string ⟨#[]⟩,.bool false,.bool false,.int .i64 0]),4,32):=by kernel_rfl
def OwnLink (w:World)(g n k:Nat)(f:Nat→Link):Prop :=
 ∃ F,w.rowIs g 73 (n*4) F∧∀ i,i<k→F (i*4)=.string (f i).name∧F (i*4+1)=.bool (f i).ask∧F (i*4+2)=.bool (f i).has∧F (i*4+3)=.int .i64 (f i).at_
theorem OwnLink.step {w:World}{g n k:Nat}{f:Nat→Link}(h:OwnLink w g n k f) :
  OwnLink ((((w.setCell ⟨g,k*4,none⟩ (.string (f k).name)).setCell ⟨g,k*4+1,none⟩ (.bool (f k).ask)).setCell ⟨g,k*4+2,none⟩ (.bool (f k).has)).setCell ⟨g,k*4+3,none⟩ (.int .i64 (f k).at_)) g n (k+1) f:=by
 obtain ⟨F,hr,hF⟩:=h
 refine ⟨_,((((hr.set _ _).set _ _).set _ _).set _ _),fun i hi=>?_⟩
 by_cases e:i=k
 ·subst e
  exact ⟨by simp,by simp,by simp,by simp⟩
 ·have h:=hF i (by omega)
  refine ⟨?_,?_,?_,?_⟩
  ·show (if _ then _ else if _ then _ else if _ then _ else if _ then _ else _)=_
   rw [if_neg (by omega),if_neg (by omega),if_neg (by omega),if_neg (by omega),h.1]
  ·show (if _ then _ else if _ then _ else if _ then _ else if _ then _ else _)=_
   rw [if_neg (by omega),if_neg (by omega),if_neg (by omega),if_neg (by omega),h.2.1]
  ·show (if _ then _ else if _ then _ else if _ then _ else if _ then _ else _)=_
   rw [if_neg (by omega),if_neg (by omega),if_neg (by omega),if_neg (by omega),h.2.2.1]
  ·show (if _ then _ else if _ then _ else if _ then _ else if _ then _ else _)=_
   rw [if_neg (by omega),if_neg (by omega),if_neg (by omega),if_neg (by omega),h.2.2.2]
theorem OwnLink.below {w w':World}{g n k:Nat}{f:Nat→Link}{B:Nat}(h:OwnLink w g n k f)(hb:Below B w w')(hB:g<B):OwnLink w' g n k f:=by
 obtain ⟨F,hr,hF⟩:=h
 exact ⟨F,hr.of_block (hb.block g hB),hF⟩
theorem OwnLink.row {w:World}{g n:Nat}{f:Nat→Link}(h:OwnLink w g n n f):RowLink w g 0 n f:=by
 obtain ⟨F,hr,hF⟩:=h
 refine ⟨hr.lt,fun i hi=>?_⟩
 have h:=hF i hi
 refine ⟨?_,?_,?_,?_⟩
 ·rw [Nat.zero_add,hr.cell (by omega),h.1]
 ·rw [Nat.zero_add,hr.cell (by omega),h.2.1]
 ·rw [Nat.zero_add,hr.cell (by omega),h.2.2.1]
 ·rw [Nat.zero_add,hr.cell (by omega),h.2.2.2]
structure aD where
 name:ByteArray
 kind:Int
 code:Int
 text:ByteArray
 actN:Nat
 act:Nat→Ins
 linksN:Nat
 links:Nat→Link
def gP (x:aD):Prop:=x.actN≤1048576∧x.linksN≤1048576
def AtDeed (w:World)(b off i:Nat)(x:aD):Prop :=
 w.cell? ⟨b,off+i*6,none⟩=some (.string x.name)∧w.cell? ⟨b,off+i*6+1,none⟩=some (.int .i64 x.kind)∧w.cell? ⟨b,off+i*6+2,none⟩=some (.int .i64 x.code)∧w.cell? ⟨b,off+i*6+3,none⟩=some (.string x.text)∧(∃ a cap,w.cell? ⟨b,off+i*6+4,none⟩=some (.slice a x.actN cap)∧SlIns w a x.actN x.act)∧(∃ a cap,w.cell? ⟨b,off+i*6+5,none⟩=some (.slice a x.linksN cap)∧SlLink w a x.linksN x.links)
theorem AtDeed.below {w w':World}{B b off i:Nat}{x:aD}(h:AtDeed w b off i x)(hb:Below B w w')(hB:w.heap.size≤B)(hl:b<w.heap.size):AtDeed w' b off i x:=by
 obtain ⟨p0,p1,p2,p3,⟨a0,cap0,s0,r0⟩,⟨a1,cap1,s1,r1⟩⟩:=h
 refine ⟨(hb.cell (p:=⟨b,_,none⟩) (Nat.lt_of_lt_of_le hl hB)).trans p0,(hb.cell (p:=⟨b,_,none⟩) (Nat.lt_of_lt_of_le hl hB)).trans p1,(hb.cell (p:=⟨b,_,none⟩) (Nat.lt_of_lt_of_le hl hB)).trans p2,(hb.cell (p:=⟨b,_,none⟩) (Nat.lt_of_lt_of_le hl hB)).trans p3,⟨a0,cap0,(hb.cell (p:=⟨b,_,none⟩) (Nat.lt_of_lt_of_le hl hB)).trans s0,r0.below hb hB⟩,⟨a1,cap1,(hb.cell (p:=⟨b,_,none⟩) (Nat.lt_of_lt_of_le hl hB)).trans s1,r1.below hb hB⟩⟩
def RowDeed (w:World)(b off n:Nat)(f:Nat→aD):Prop:=b<w.heap.size∧∀ i,i<n→AtDeed w b off i (f i)
theorem RowDeed.below {w w':World}{B b off n:Nat}{f:Nat→aD}(h:RowDeed w b off n f)(hb:Below B w w')(hB:w.heap.size≤B):RowDeed w' b off n f :=
 ⟨Nat.lt_of_lt_of_le h.1 hb.size,fun i hi=>(h.2 i hi).below hb hB h.1⟩
def SlDeed (w:World)(a:Option Addr)(n:Nat)(f:Nat→aD):Prop:=n=0∨∃ b off,a=some ⟨b,off,none⟩∧RowDeed w b off n f
theorem SlDeed.below {w w':World}{B:Nat}{a:Option Addr}{n:Nat}{f:Nat→aD}(h:SlDeed w a n f)(hb:Below B w w')(hB:w.heap.size≤B):SlDeed w' a n f:=by
 rcases h with h | ⟨b,off,hv,hr⟩
 ·exact .inl h
 ·exact .inr ⟨b,off,hv,hr.below hb hB⟩
theorem RowDeed.sl {w:World}{b off n:Nat}{f:Nat→aD}(h:RowDeed w b off n f):SlDeed w (some ⟨b,off,none⟩) n f:=.inr ⟨b,off,rfl,h⟩
theorem tL:(Tryz.prog.info? 67).map (fun i=>(i.zero,i.size,i.bytes))=some (some (.agg #[.string ⟨#[]⟩,.int .i64 0,.int .i64 0,.string ⟨#[]⟩,.slice none 0 0,.slice none 0 0]),6,96):=by kernel_rfl
def OwnDeed (w:World)(g n k:Nat)(f:Nat→aD):Prop :=
 ∃ (F:Nat→Value) (G0 G1:Nat→Nat),w.rowIs g 67 (n*6) F∧∀ i,i<k→F (i*6)=.string (f i).name∧F (i*6+1)=.int .i64 (f i).kind∧F (i*6+2)=.int .i64 (f i).code∧F (i*6+3)=.string (f i).text∧(F (i*6+4)=.slice (some ⟨G0 i,0,none⟩) (f i).actN (f i).actN∧RowIns w (G0 i) 0 (f i).actN (f i).act∧g<G0 i)∧(F (i*6+5)=.slice (some ⟨G1 i,0,none⟩) (f i).linksN (f i).linksN∧RowLink w (G1 i) 0 (f i).linksN (f i).links∧g<G1 i)
theorem OwnDeed.lt {w:World}{g n k:Nat}{f:Nat→aD}(h:OwnDeed w g n k f):g<w.heap.size:=by
 obtain ⟨F,G0,G1,hr,_⟩:=h
 exact hr.lt
theorem OwnDeed.step {w:World}{g n k g0 g1:Nat}{f:Nat→aD}(h:OwnDeed w g n k f)(R0:RowIns w g0 0 (f k).actN (f k).act)(hg0:g<g0)(R1:RowLink w g1 0 (f k).linksN (f k).links)(hg1:g<g1) :
  OwnDeed ((((((w.setCell ⟨g,k*6,none⟩ (.string (f k).name)).setCell ⟨g,k*6+1,none⟩ (.int .i64 (f k).kind)).setCell ⟨g,k*6+2,none⟩ (.int .i64 (f k).code)).setCell ⟨g,k*6+3,none⟩ (.string (f k).text)).setCell ⟨g,k*6+4,none⟩ (.slice (some ⟨g0,0,none⟩) (f k).actN (f k).actN)).setCell ⟨g,k*6+5,none⟩ (.slice (some ⟨g1,0,none⟩) (f k).linksN (f k).linksN)) g n (k+1) f:=by
 obtain ⟨F,G0,G1,hr,hF⟩:=h
 refine ⟨_,fun i=>if i=k then g0 else G0 i,fun i=>if i=k then g1 else G1 i,((((((hr.set _ _).set _ _).set _ _).set _ _).set _ _).set _ _),fun i hi=>?_⟩
 by_cases e:i=k
 ·subst e
  exact ⟨by simp,by simp,by simp,by simp,⟨by simp,by dsimp only;rw [if_pos rfl];exact ((((((R0).setOther _ (by first | (simp;omega) | simp) _).setOther _ (by first | (simp;omega) | simp) _).setOther _ (by first | (simp;omega) | simp) _).setOther _ (by first | (simp;omega) | simp) _).setOther _ (by first | (simp;omega) | simp) _).setOther _ (by first | (simp;omega) | simp) _,by dsimp only;rw [if_pos rfl];exact hg0⟩,⟨by simp,by dsimp only;rw [if_pos rfl];exact ((((((R1).setOther _ (by first | (simp;omega) | simp) _).setOther _ (by first | (simp;omega) | simp) _).setOther _ (by first | (simp;omega) | simp) _).setOther _ (by first | (simp;omega) | simp) _).setOther _ (by first | (simp;omega) | simp) _).setOther _ (by first | (simp;omega) | simp) _,by dsimp only;rw [if_pos rfl];exact hg1⟩⟩
 ·obtain ⟨p0,p1,p2,p3,⟨s0,r0,u0⟩,⟨s1,r1,u1⟩⟩:=hF i (by omega)
  refine ⟨?_,?_,?_,?_,?_,?_⟩
  ·show (if _ then _ else if _ then _ else if _ then _ else if _ then _ else if _ then _ else if _ then _ else _)=_
   rw [if_neg (by omega),if_neg (by omega),if_neg (by omega),if_neg (by omega),if_neg (by omega),if_neg (by omega),p0]
  ·show (if _ then _ else if _ then _ else if _ then _ else if _ then _ else if _ then _ else if _ then _ else _)=_
   rw [if_neg (by omega),if_neg (by omega),if_neg (by omega),if_neg (by omega),if_neg (by omega),if_neg (by omega),p1]
  ·show (if _ then _ else if _ then _ else if _ then _ else if _ then _ else if _ then _ else if _ then _ else _)=_
   rw [if_neg (by omega),if_neg (by omega),if_neg (by omega),if_neg (by omega),if_neg (by omega),if_neg (by omega),p2]
  ·show (if _ then _ else if _ then _ else if _ then _ else if _ then _ else if _ then _ else if _ then _ else _)=_
   rw [if_neg (by omega),if_neg (by omega),if_neg (by omega),if_neg (by omega),if_neg (by omega),if_neg (by omega),p3]
  ·dsimp only
   rw [if_neg e]
   refine ⟨?_,((((((r0).setOther _ (by first | (simp;omega) | simp) _).setOther _ (by first | (simp;omega) | simp) _).setOther _ (by first | (simp;omega) | simp) _).setOther _ (by first | (simp;omega) | simp) _).setOther _ (by first | (simp;omega) | simp) _).setOther _ (by first | (simp;omega) | simp) _,u0⟩
   show (if _ then _ else if _ then _ else if _ then _ else if _ then _ else if _ then _ else if _ then _ else _)=_
   rw [if_neg (by omega),if_neg (by omega),if_neg (by omega),if_neg (by omega),if_neg (by omega),if_neg (by omega),s0]
  ·dsimp only
   rw [if_neg e]
   refine ⟨?_,((((((r1).setOther _ (by first | (simp;omega) | simp) _).setOther _ (by first | (simp;omega) | simp) _).setOther _ (by first | (simp;omega) | simp) _).setOther _ (by first | (simp;omega) | simp) _).setOther _ (by first | (simp;omega) | simp) _).setOther _ (by first | (simp;omega) | simp) _,u1⟩
   show (if _ then _ else if _ then _ else if _ then _ else if _ then _ else if _ then _ else if _ then _ else _)=_
   rw [if_neg (by omega),if_neg (by omega),if_neg (by omega),if_neg (by omega),if_neg (by omega),if_neg (by omega),s1]
theorem OwnDeed.below {w w':World}{g n k:Nat}{f:Nat→aD}{B:Nat}(h:OwnDeed w g n k f)(hb:Below B w w')(hB:w.heap.size≤B):OwnDeed w' g n k f:=by
 have hl:=h.lt
 obtain ⟨F,G0,G1,hr,hF⟩:=h
 refine ⟨F,G0,G1,hr.of_block (hb.block g (Nat.lt_of_lt_of_le hl hB)),fun i hi=>?_⟩
 obtain ⟨p0,p1,p2,p3,⟨s0,r0,u0⟩,⟨s1,r1,u1⟩⟩:=hF i hi
 exact ⟨p0,p1,p2,p3,⟨s0,r0.below hb hB,u0⟩,⟨s1,r1.below hb hB,u1⟩⟩
theorem OwnDeed.setOther {w:World}{g n k:Nat}{f:Nat→aD}(h:OwnDeed w g n k f)(p:Addr)(hp:p.block<g)(v:Value):OwnDeed (w.setCell p v) g n k f:=by
 obtain ⟨F,G0,G1,hr,hF⟩:=h
 refine ⟨F,G0,G1,hr.setOther (by omega) v,fun i hi=>?_⟩
 obtain ⟨p0,p1,p2,p3,⟨s0,r0,u0⟩,⟨s1,r1,u1⟩⟩:=hF i hi
 exact ⟨p0,p1,p2,p3,⟨s0,r0.setOther p (by omega) v,u0⟩,⟨s1,r1.setOther p (by omega) v,u1⟩⟩
theorem OwnDeed.row {w:World}{g n:Nat}{f:Nat→aD}(h:OwnDeed w g n n f):RowDeed w g 0 n f:=by
 obtain ⟨F,G0,G1,hr,hF⟩:=h
 refine ⟨hr.lt,fun i hi=>?_⟩
 obtain ⟨p0,p1,p2,p3,⟨s0,r0,u0⟩,⟨s1,r1,u1⟩⟩:=hF i hi
 refine ⟨?_,?_,?_,?_,?_,?_⟩
 ·rw [Nat.zero_add,hr.cell (by omega),p0]
 ·rw [Nat.zero_add,hr.cell (by omega),p1]
 ·rw [Nat.zero_add,hr.cell (by omega),p2]
 ·rw [Nat.zero_add,hr.cell (by omega),p3]
 ·exact ⟨_,_,by rw [Nat.zero_add,hr.cell (by omega),s0],r0.sl⟩
 ·exact ⟨_,_,by rw [Nat.zero_add,hr.cell (by omega),s1],r1.sl⟩
theorem rT (x:aD)(a0:Option Addr)(cap0:Nat)(a1:Option Addr)(cap1:Nat)(w:World) :
  Calls Tryz.prog 273 #[.agg #[.string x.name,.int .i64 x.kind,.int .i64 x.code,.string x.text,.slice a0 x.actN cap0,.slice a1 x.linksN cap1]] w fun e w'=>e=.returned (.agg #[.bool (decide (¬ x.kind=2)),.int .i64 x.code,.string x.text])∧Below w.heap.size w w':=by
 have A0:=ae ((Below.refl w.heap.size w).alloc (Nat.le_refl _) (.cells #[.string x.name,.int .i64 x.kind,.int .i64 x.code,.string x.text,.slice a0 x.actN cap0,.slice a1 x.linksN cap1] 67))
 obtain ⟨r,hr⟩:∃ r,r=decide (¬ x.kind=2):=⟨_,rfl⟩
 rw [← hr]
 have HR:=ae hr
 clear hr
 go_enter Tryz.func273,Tryz.ntmps273
 by_cases hk:x.kind=2
 ·obtain rfl:r=false:=by rw [HR.out];simp [hk]
  go_wp2
  exact bodyPost_ret (v:=.agg #[.bool false,.int .i64 x.code,.string x.text]) (by simp [results,Tryz.results273,go_sem]) rfl ⟨rfl,by
   repeat (first | exact A0.out | exact Below.refl _ _ | refine Below.alloc ?_ (by simp<;>omega) _)⟩
 ·obtain rfl:r=true:=by rw [HR.out];simp [hk]
  go_wp2
  exact bodyPost_ret (v:=.agg #[.bool true,.int .i64 x.code,.string x.text]) (by simp [results,Tryz.results273,go_sem,hk]) rfl ⟨rfl,by
   repeat (first | exact A0.out | exact Below.refl _ _ | refine Below.alloc ?_ (by simp<;>omega) _)⟩
def eP (f:Nat→aD)(p:Nat)(l:Link):Bool :=
 au l.name && (if l.ask=true then !l.has && decide (0≤l.at_) && decide (l.at_<(p:Int)) && ((f l.at_.toNat).name.toList == l.name.toList) else decide (l.at_=0))
def cb (f:Nat→aD)(p:Nat)(x:aD):Nat→Bool
 | 0=>true
 | k+1=>cb f p x k && eP f p (x.links k)
def bO (x:aD):Bool:=decide (x.code=0) && decide (x.actN=0) && decide (x.linksN=0)
def dE (f:Nat→aD)(p:Nat)(x:aD):Bool:=decide (0≤x.code) && decide (x.code≤5) && valid x.act x.actN && decide (x.linksN≤200) && cb f p x x.linksN
def kindOk (f:Nat→aD)(p:Nat)(x:aD):Bool :=
 if x.kind=1 then bO x else if x.kind=2 then bO x && decide (x.text.size=0) else if x.kind=3 then dE f p x else false
def bE (f:Nat→aD)(p:Nat):Bool:=au (f p).name && decide ((f p).text.size≤2000) && kindOk f p (f p)
def bK (f:Nat→aD)(p:Nat):Nat→Bool
 | 0=>true
 | k+1=>bK f p k && !((f k).name.toList == (f p).name.toList)
def aI (g:Nat→Bool):Nat→Int
 | 0=>-1
 | k+1=>if aI g k=-1 then (if g k=true then -1 else k) else aI g k
theorem ew {g:Nat→Bool}{n:Nat}(h:∀ i,i<n→g i=true):aI g n=-1:=by
 induction n with
 | zero=>rfl
 | succ k ih =>
  rw [aI,if_pos (ih fun i hi=>h i (by omega)),if_pos (h k (by omega))]
theorem jS {g:Nat→Bool}{n i:Nat}(hi:i<n)(hg:g i=false)(h:∀ j,j<i→g j=true):aI g n=i:=by
 induction n with
 | zero=>omega
 | succ k ih =>
  rw [aI]
  by_cases e:i=k
  ·subst e
   rw [if_pos (ew h),if_neg (by rw [hg];simp)]
  ·have:=ih (by omega)
   rw [this,if_neg (by omega)]
theorem gQ {g:Nat→Bool}{n:Nat}(h:aI g n=-1):∀ i,i<n→g i=true:=by
 induction n with
 | zero=>intro i hi;omega
 | succ k ih =>
  rw [aI] at h
  split at h
  ·rename_i h1
   intro i hi
   by_cases e:i=k
   ·subst e
    cases hg:g i with
    | true=>rfl
    | false=>rw [hg] at h;simp at h
   ·exact ih h1 i (by omega)
  ·rename_i h1
   exact absurd h h1
theorem qp {f:Nat→aD}{p:Nat}{x:aD}{n:Nat}(h:cb f p x n=true):∀ i,i<n→eP f p (x.links i)=true:=by
 induction n with
 | zero=>intro i hi;omega
 | succ k ih =>
  simp only [cb,Bool.and_eq_true] at h
  intro i hi
  by_cases e:i=k
  ·subst e;exact h.2
  ·exact ih h.1 i (by omega)
def lks (go:Nat→Nat→(Nat→Bool)→(Nat→Bool) × List (Nat × Nat))(x:aD)(d:Nat)(s:Nat→Bool):Nat→(Nat→Bool) × List (Nat × Nat)
 | 0=>(s,[])
 | j+1=>if (x.links j).ask=true∧(lks go x d s j).1 (x.links j).at_.toNat=false then ((go (x.links j).at_.toNat (d+1) (lks go x d s j).1).1,(lks go x d s j).2++(go (x.links j).at_.toNat (d+1) (lks go x d s j).1).2) else lks go x d s j
def put (s:Nat→Bool)(p:Nat):Nat→Bool:=fun q=>q == p || s q
def lst (f:Nat→aD):Nat→Nat→Nat→(Nat→Bool)→(Nat→Bool) × List (Nat × Nat)
 | 0,_,_,s=>(s,[])
 | k+1,p,d,s=>(put (lks (lst f k) (f p) d s (f p).linksN).1 p,(lks (lst f k) (f p) d s (f p).linksN).2++[(p,d)])
def fL (f:Nat→aD)(n:Nat):Prop:=∀ p,p<n→∀ i,i<(f p).linksN→((f p).links i).ask=true→((f p).links i).at_.toNat<p∧0≤((f p).links i).at_
def cnt (s:Nat→Bool):Nat→Nat
 | 0=>0
 | k+1=>cnt s k+(if s k=true then 1 else 0)
theorem wu (s:Nat→Bool)(n:Nat):cnt s n≤n:=by
 induction n with
 | zero=>simp [cnt]
 | succ k ih=>rw [cnt];split<;>omega
theorem rU {s s':Nat→Bool}{n:Nat}(h:∀ q,q<n→s q=s' q):cnt s n=cnt s' n:=by
 induction n with
 | zero=>rfl
 | succ k ih=>rw [cnt,cnt,ih fun q hq=>h q (by omega),h k (by omega)]
theorem vo {s:Nat→Bool}{p n:Nat}(hp:p<n)(h:s p=false):cnt (put s p) n=cnt s n+1:=by
 induction n with
 | zero=>omega
 | succ k ih =>
  rw [cnt,cnt]
  by_cases e:p=k
  ·subst e
   have h1:cnt (put s p) p=cnt s p:=rU fun q hq=>by simp [put];omega
   simp [h1,put,h]
  ·have h1:put s p k=s k:=by simp [put];omega
   rw [ih (by omega),h1]
   omega
structure Lsd (n p d:Nat)(s:Nat→Bool)(r:(Nat→Bool) × List (Nat × Nat)):Prop where
 far:∀ q,p<q→r.1 q=s q
 old:∀ q,s q=true→r.1 q=true
 num:cnt r.1 n=cnt s n+r.2.length
 last:∃ o,r.2=o++[(p,d)]
 le:∀ x∈r.2,x.1≤p
theorem pw {f:Nat→aD}{n k p d:Nat}{s:Nat→Bool}(hA:fL f n)(hp:p<n)(go:∀ q d s,q<p→s q=false→Lsd n q d s (lst f k q d s)) :
  ∀ j,j≤(f p).linksN→(∀ q,p≤q→(lks (lst f k) (f p) d s j).1 q=s q)∧(∀ q,s q=true→(lks (lst f k) (f p) d s j).1 q=true)∧cnt (lks (lst f k) (f p) d s j).1 n=cnt s n+(lks (lst f k) (f p) d s j).2.length∧∀ x∈(lks (lst f k) (f p) d s j).2,x.1<p
 | 0,_=>⟨fun _ _=>rfl,fun _ h=>h,by simp [lks],by simp [lks]⟩
 | j+1,hj=>by
  obtain ⟨h1,h2,h3,h4⟩:=pw (d:=d) (s:=s) hA hp go j (by omega)
  rw [lks]
  split
  ·rename_i hc
   have ha:=(hA p hp j (by omega) hc.1).1
   have g:=go _ (d+1) _ ha hc.2
   refine ⟨fun q hq=>(g.far q (by omega)).trans (h1 q hq),fun q hq=>g.old q (h2 q hq),?_,fun x hx=>?_⟩
   ·show cnt (lst f k _ (d+1) _).1 n=_
    rw [g.num,h3,List.length_append]
    omega
   ·rcases List.mem_append.1 hx with hx | hx
    ·exact h4 x hx
    ·have:=g.le x hx
     omega
  ·exact ⟨h1,h2,h3,h4⟩
theorem px {f:Nat→aD}{n:Nat}(hA:fL f n):∀ k p d s,p<k→p<n→s p=false→Lsd n p d s (lst f k p d s)
 | 0,_,_,_,h,_,_=>absurd h (Nat.not_lt_zero _)
 | k+1,p,d,s,hk,hn,hs=>by
  obtain ⟨h1,h2,h3,h4⟩:=pw (d:=d) (s:=s) hA hn (fun q d s hq hs=>px hA k q d s (by omega) (by omega) hs) (f p).linksN (Nat.le_refl _)
  have hp:=(h1 p (Nat.le_refl _)).trans hs
  refine ⟨fun q hq=>?_,fun q hq=>?_,?_,⟨_,rfl⟩,fun x hx=>?_⟩
  ·show put _ p q=s q
   rw [put,h1 q (by omega)]
   simp;omega
  ·show put _ p q=true
   rw [put,h2 q hq]
   simp
  ·show cnt (put _ p) n=_
   rw [vo hn hp,h3]
   simp [lst,List.length_append]
   omega
  ·rcases List.mem_append.1 hx with hx | hx
   ·exact Nat.le_of_lt (h4 x hx)
   ·simp at hx
    subst hx
    exact Nat.le_refl _
def bJ:Nat→List (Nat × Nat)→Int
 | _,[]=>-1
 | i,x :: xs=>if x.1=i then bJ (i+1) xs else i
def bo (f:Nat→aD):List (Nat × Nat)→Int
 | []=>-1
 | x :: xs=>if (f x.1).kind=3∧60≤x.2 then x.1 else bo f xs
def aJ (f:Nat→aD)(n:Nat):List (Nat × Nat):=(lst f n (n - 1) 0 (fun _=>false)).2
def gR (f:Nat→aD)(n:Nat):Int × Int :=
 if n=0∨400<n then (1,0) else
 if aI (bE f) n≠-1 then (2,aI (bE f) n) else
 if aI (fun p=>bK f p p) n≠-1 then (3,aI (fun p=>bK f p p) n) else
 if bJ 0 (aJ f n)≠-1 then (4,bJ 0 (aJ f n)) else
 if bo f (aJ f n)≠-1 then (5,bo f (aJ f n)) else (0,0)
theorem jz {f:Nat→aD}{n:Nat}(h:aI (bE f) n=-1):fL f n:=by
 intro p hp i hi ha
 have h1:=gQ h p hp
 simp only [bE,Bool.and_eq_true,kindOk] at h1
 obtain ⟨_,h2⟩:=h1
 split at h2
 ·simp [bO] at h2
  omega
 ·split at h2
  ·simp [bO] at h2
   omega
  ·split at h2
   ·simp only [dE,Bool.and_eq_true] at h2
    have h3:=qp h2.2 i hi
    simp only [eP,ha,if_true,Bool.and_eq_true,decide_eq_true_eq] at h3
    omega
   ·cases h2
theorem oJ (s:ByteArray)(w:World):Calls Tryz.prog 81 #[.string s] w fun e w'=>e=.returned (.bool (au s))∧w'=w:=by
 by_cases h1:1≤(s.size:Int)
 ·by_cases h2:(s.size:Int)≤60
  ·have HV:Hid (au s=cC s s.size):=by
    show au s=cC s s.size
    unfold au
    rw [show decide (1≤s.size∧s.size≤60)=true by simp;omega,Bool.true_and]
   go_enter Tryz.func81,Tryz.ntmps81
   go_wp2
   go_loopw [14] (fun i wr=>∃ k:Nat,k≤s.size∧i=.int .i64 k∧cC s k=true∧wr=w) (fun i _=>s.size - (intOf i).toNat)
   case atStart=>exact ⟨0,by omega,rfl,rfl,rfl⟩
   case round =>
    obtain ⟨k,hk,rfl,hok,hB⟩:=hrel
    have HB:=ae hB
    have HK:=ae hok
    clear hB hok
    by_cases hlt:k<s.size
    ·by_cases p1:33≤(s[k].toNat:Int)
     ·by_cases p2:(s[k].toNat:Int)≤126
      ·go_wp2
       exact ⟨⟨k+1,by omega,by go_num,by rw [fs hlt,HK.out];simp;omega,HB.out⟩,by simp [intOf];omega⟩
      ·go_wp2
       go_ret
       exact ⟨aQ (by rw [HV.out,dA hlt (by omega)]),HB.out⟩
     ·go_wp2
      go_ret
      exact ⟨aQ (by rw [HV.out,dA hlt (by omega)]),HB.out⟩
    ·have e:k=s.size:=by omega
     subst e
     go_wp2
     go_ret
     exact ⟨aQ (by rw [HV.out,HK.out]),HB.out⟩
  ·have e:au s=false:=by
    unfold au
    rw [show decide (1≤s.size∧s.size≤60)=false by simp;omega,Bool.false_and]
   rw [e]
   clear e
   go_enter Tryz.func81,Tryz.ntmps81
   go_wp2
   go_ret
   exact ⟨rfl,rfl⟩
 ·have e:au s=false:=by
   unfold au
   rw [show decide (1≤s.size∧s.size≤60)=false by simp;omega,Bool.false_and]
  rw [e]
  clear e
  go_enter Tryz.func81,Tryz.ntmps81
  go_wp2
  go_ret
  exact ⟨rfl,rfl⟩
structure Result where
 code:Int
 text:ByteArray
 chainN:Nat
 chain:Nat→ByteArray
def AtResult (w:World)(b off i:Nat)(x:Result):Prop :=
 w.cell? ⟨b,off+i*3,none⟩=some (.int .i64 x.code)∧w.cell? ⟨b,off+i*3+1,none⟩=some (.string x.text)∧(∃ a cap,w.cell? ⟨b,off+i*3+2,none⟩=some (.slice a x.chainN cap)∧SlStr w a x.chainN x.chain)
theorem AtResult.below {w w':World}{B b off i:Nat}{x:Result}(h:AtResult w b off i x)(hb:Below B w w')(hB:w.heap.size≤B)(hl:b<w.heap.size):AtResult w' b off i x:=by
 obtain ⟨p0,p1,⟨a0,cap0,s0,r0⟩⟩:=h
 refine ⟨(hb.cell (p:=⟨b,_,none⟩) (Nat.lt_of_lt_of_le hl hB)).trans p0,(hb.cell (p:=⟨b,_,none⟩) (Nat.lt_of_lt_of_le hl hB)).trans p1,⟨a0,cap0,(hb.cell (p:=⟨b,_,none⟩) (Nat.lt_of_lt_of_le hl hB)).trans s0,r0.below hb hB⟩⟩
def RowResult (w:World)(b off n:Nat)(f:Nat→Result):Prop:=b<w.heap.size∧∀ i,i<n→AtResult w b off i (f i)
theorem RowResult.below {w w':World}{B b off n:Nat}{f:Nat→Result}(h:RowResult w b off n f)(hb:Below B w w')(hB:w.heap.size≤B):RowResult w' b off n f :=
 ⟨Nat.lt_of_lt_of_le h.1 hb.size,fun i hi=>(h.2 i hi).below hb hB h.1⟩
def SlResult (w:World)(a:Option Addr)(n:Nat)(f:Nat→Result):Prop:=n=0∨∃ b off,a=some ⟨b,off,none⟩∧RowResult w b off n f
theorem SlResult.below {w w':World}{B:Nat}{a:Option Addr}{n:Nat}{f:Nat→Result}(h:SlResult w a n f)(hb:Below B w w')(hB:w.heap.size≤B):SlResult w' a n f:=by
 rcases h with h | ⟨b,off,hv,hr⟩
 ·exact .inl h
 ·exact .inr ⟨b,off,hv,hr.below hb hB⟩
theorem RowResult.sl {w:World}{b off n:Nat}{f:Nat→Result}(h:RowResult w b off n f):SlResult w (some ⟨b,off,none⟩) n f:=.inr ⟨b,off,rfl,h⟩
end Go.Proofs.YtkophfgkcijjkaaGreatDoor.Vp
