import Derived.Test.YtkophfgkcijjkaaGreatDoorProg
import Derived.WalkKit
import Derived.WalkSpells
import Derived.WalkLawsBesides
import Derived.Deep.OwnRows
import Derived.Deep.RegionWith
import Derived.Deep.QuietTactic
import Derived.BigQuiet
set_option maxHeartbeats 1000000
namespace Go.Proofs.YtkophfgkcijjkaaGreatDoor.Vp
open RowKit
theorem lj {a b c:Nat}(h:a<b)(g:b<=c):a<c:=Nat.lt_of_lt_of_le h g
theorem q9 (w:World):Below w.heap.size w w:=Below.refl _ _
theorem br {B:Nat}{w:World}:Below B w w:=Below.refl _ _
abbrev sq:=@World.cell?_setCell_other
abbrev qh:=@Below.heap_setCell
abbrev bp:=@bodyPost_ret
abbrev gq:=@List.getElem?_eq_getElem
abbrev cq:=@World.cell?_of_block
abbrev bg:=@Below.grown
abbrev gz:=@List.getElem_mem
abbrev nj:=@List.not_mem_nil
abbrev mq:=@List.mem_cons_of_mem
theorem ly {n:Nat}:n<=n:=Nat.le_refl n
theorem ae {p:Prop}(h:p):Hid p:=h
theorem nzL {c:Type}:(∀ (l:List c) (i:Nat) (a:c),l.toArray.setIfInBounds i a=(l.set i a).toArray)/\(∀ (a b:c) (l:List c),(a :: l).set 0 b=b :: l)/\∀ (a b:c) (l:List c) (i:Nat),(a :: l).set (i+1) b=a :: l.set i b :=
 ⟨fun _ _ _=>List.setIfInBounds_toArray ..,fun _ _ _=>rfl,fun _ _ _ _=>rfl⟩
theorem ze {W c:World}(hb:Below W.heap.size W c):(∀ b o,b<W.heap.size->c.cell? ⟨b,o,none⟩=W.cell? ⟨b,o,none⟩)/\(∀ b o,b<W.heap.size->c.frozen? ⟨b,o,none⟩=W.frozen? ⟨b,o,none⟩) :=
 ⟨fun b o h=>hb.cell (p:=⟨b,o,none⟩) h,fun b o h=>hb.frozen (p:=⟨b,o,none⟩) h⟩
theorem cell_far (w:World)(p a:Addr)(v:Value)(h:p.block≠a.block):(w.setCell p v).cell? a=w.cell? a :=
 World.cell?_of_block (w:=w) (a:=a) (Below.heap_setCell w p v a.block (fun e=>h e.symm))
theorem bW {a b:Bool}(h:a=b):Ending.returned (.bool a)=.returned (.bool b):=by rw[h]
theorem j6 {a b:ByteArray}(h:a=b):Ending.returned (.string a)=.returned (.string b):=by rw[h]
theorem oe {s:ByteArray}(h:s.size=0):s=⟨#[]⟩:=by obtain⟨a⟩:=s;have:a.size=0:=h;rw[Array.eq_empty_of_size_eq_zero this]
theorem tU {s:ByteArray}(h:¬ s.size=0):¬ s.toList=[]:=by
 intro e;have b:s.toList.length=s.size:=by rw[ByteArray.toList_eq];rfl
 rw[e] at b;simp at b;omega
structure Ins where
 op:Int
 s:ByteArray
 n:Int
def AtIns (w:World)(b off i:Nat)(x:Ins):Prop :=
 w.cell? ⟨b,off+i*3,none⟩=some (.int .i64 x.op)/\w.cell? ⟨b,off+i*3+1,none⟩=some (.string x.s)/\w.cell? ⟨b,off+i*3+2,none⟩=some (.int .i64 x.n)
theorem AtIns.below {w d:World}{B b off i:Nat}{x:Ins}(h:AtIns w b off i x)(hb:Below B w d)(c:b<B):AtIns d b off i x :=
 ⟨(hb.cell (p:=⟨b,_,none⟩) c).trans h.1,(hb.cell (p:=⟨b,_,none⟩) c).trans h.2.1,(hb.cell (p:=⟨b,_,none⟩) c).trans h.2.2⟩
def RowIns (w:World)(b off n:Nat)(f:Nat->Ins):Prop:=b<w.heap.size/\∀ i,i<n->AtIns w b off i (f i)
theorem RowIns.below {w c:World}{B b off n:Nat}{f:Nat->Ins}(h:RowIns w b off n f)(hb:Below B w c)(d:w.heap.size<=B):RowIns c b off n f :=
 ⟨Nat.lt_of_lt_of_le h.1 hb.size,fun i hi=>(h.2 i hi).below hb (Nat.lt_of_lt_of_le h.1 d)⟩
theorem RowIns.setOther {w:World}{g n off:Nat}{f:Nat->Ins}(h:RowIns w g off n f)(p:Addr)(b:p.block≠g)(v:Value):RowIns (w.setCell p v) g off n f:=by refine⟨by simpa using h.1,fun i hi=>?_⟩;have h:=h.2 i hi;have far:∀ o,(w.setCell p v).cell? ⟨g,o,none⟩=w.cell? ⟨g,o,none⟩:=fun o=>World.cell?_of_block (w:=w) (a:=⟨g,o,none⟩) (Below.heap_setCell w p v g (fun e=>b e.symm));exact⟨(far _).trans h.1,(far _).trans h.2.1,(far _).trans h.2.2⟩
def SlIns (w:World)(a:Option Addr)(n:Nat)(f:Nat->Ins):Prop:=n=0∨∃ b off,a=some ⟨b,off,none⟩/\RowIns w b off n f
theorem SlIns.below {w c:World}{B:Nat}{a:Option Addr}{n:Nat}{f:Nat->Ins}(h:SlIns w a n f)(hb:Below B w c)(g:w.heap.size<=B):SlIns c a n f:=by
 rcases h with h | ⟨b,off,d,i⟩
 ·exact .inl h
 ·exact .inr ⟨b,off,d,i.below hb g⟩
theorem RowIns.sl {w:World}{b off n:Nat}{f:Nat->Ins}(h:RowIns w b off n f):SlIns w (some ⟨b,off,none⟩) n f:=.inr ⟨b,off,rfl,h⟩
theorem j7:(Tryz.prog.info? 176).map (fun i=>(i.zero,i.size,i.bytes))=some (some (.agg #[.int .i64 0,.string ⟨#[]⟩,.int .i64 0]),3,32):=by kernel_rfl
def OwnIns (w:World)(g n k:Nat)(f:Nat->Ins):Prop :=
 ∃ F,w.rowIs g 176 (n*3) F/\∀ i,i<k->F (i*3)=.int .i64 (f i).op/\F (i*3+1)=.string (f i).s/\F (i*3+2)=.int .i64 (f i).n
theorem OwnIns.step {w:World}{g n k:Nat}{f:Nat->Ins}(h:OwnIns w g n k f):OwnIns (((w.setCell ⟨g,k*3,none⟩ (.int .i64 (f k).op)).setCell ⟨g,k*3+1,none⟩ (.string (f k).s)).setCell ⟨g,k*3+2,none⟩ (.int .i64 (f k).n)) g n (k+1) f:=by
 obtain⟨F,b,hF⟩:=h;refine⟨_,(((b.set _ _).set _ _).set _ _),fun i hi=>?_⟩;by_cases e:i=k
 ·subst e
  exact⟨by simp,by simp,by simp⟩
 ·have h:=hF i (by omega)
  refine⟨?_,?_,?_⟩
  ·show(if _ then _ else if _ then _ else if _ then _ else _)=_
   rw[if_neg (by omega),if_neg (by omega),if_neg (by omega),h.1]
  ·show(if _ then _ else if _ then _ else if _ then _ else _)=_
   rw[if_neg (by omega),if_neg (by omega),if_neg (by omega),h.2.1]
  ·show(if _ then _ else if _ then _ else if _ then _ else _)=_
   rw[if_neg (by omega),if_neg (by omega),if_neg (by omega),h.2.2]
theorem OwnIns.below {w b:World}{g n k:Nat}{f:Nat->Ins}{B:Nat}(h:OwnIns w g n k f)(hb:Below B w b)(c:g<B):OwnIns b g n k f:=by obtain⟨F,d,hF⟩:=h;exact⟨F,d.of_block (hb.block g c),hF⟩
theorem OwnIns.row {w:World}{g n:Nat}{f:Nat->Ins}(h:OwnIns w g n n f):RowIns w g 0 n f:=by
 obtain⟨F,b,hF⟩:=h;refine⟨b.lt,fun i hi=>?_⟩;have h:=hF i hi;refine⟨?_,?_,?_⟩
 ·rw[Nat.zero_add,b.cell (by omega),h.1]
 ·rw[Nat.zero_add,b.cell (by omega),h.2.1]
 ·rw[Nat.zero_add,b.cell (by omega),h.2.2]
def kind:Int->Int
 | 1=>1 | 3=>2 | 4=>2 | 5=>2 | 10=>3 | 11=>3 | _=>0
def bF (op:Int):Int:=if op=1 then 2000 else 0
def ec (op:Int):Int:=if op=3∨op=4∨op=5 then 2000 else if op=10∨op=11 then 200 else 0
def cC (op:Int)(sz:Nat)(n:Int):Bool:=decide (1<=op/\op<=15/\(sz:Int)<=bF op/\0<=n/\n<=ec op)
theorem sy (op:Int)(s:ByteArray)(n:Int)(w:World)(c:s.size<=maxLen)(hz:¬ s.toList=[])(h0:0<s.size):Calls Tryz.prog 152 #[.agg #[.int .i64 op,.string s,.int .i64 n]] w fun e b=>e=.returned (.bool (cC op s.size n))/\Below w.heap.size w b:=by
 unfold maxLen at c;by_cases h:1<=op/\op<=15
 ·have d:op=1∨op=2∨op=3∨op=4∨op=5∨op=6∨op=7∨op=8∨op=9∨op=10∨op=11∨op=12∨op=13∨op=14∨op=15:=by omega
  clear h;rcases d with rfl | rfl | rfl | rfl | rfl | rfl | rfl | rfl | rfl | rfl | rfl | rfl | rfl | rfl | rfl;all_goals
   go_enter Tryz.func152,Tryz.ntmps152;go_wp2;all_goals go_ret
   all_goals refine⟨bW ?_,(Below.refl _ _).alloc (Nat.le_refl _) _⟩
   all_goals (rw[Bool.eq_iff_iff];generalize s.size=z at *;simp[cC,bF,ec];try omega)
 ·rcases(show op<1∨15<op by omega) with h | h
  all_goals
   go_enter Tryz.func152,Tryz.ntmps152;go_wp2;go_ret;refine⟨bW ?_,(Below.refl _ _).alloc (Nat.le_refl _) _⟩;rw[Bool.eq_iff_iff];simp[cC];omega
theorem sA (op:Int)(n:Int)(w:World):Calls Tryz.prog 152 #[.agg #[.int .i64 op,.string ⟨#[]⟩,.int .i64 n]] w fun e c=>e=.returned (.bool (cC op 0 n))/\Below w.heap.size w c:=by
 by_cases h:1<=op/\op<=15
 ·have b:op=1∨op=2∨op=3∨op=4∨op=5∨op=6∨op=7∨op=8∨op=9∨op=10∨op=11∨op=12∨op=13∨op=14∨op=15:=by omega
  clear h;rcases b with rfl | rfl | rfl | rfl | rfl | rfl | rfl | rfl | rfl | rfl | rfl | rfl | rfl | rfl | rfl;all_goals
   go_enter Tryz.func152,Tryz.ntmps152;go_wp2;all_goals go_ret
   all_goals refine⟨bW ?_,(Below.refl _ _).alloc (Nat.le_refl _) _⟩
   all_goals (rw[Bool.eq_iff_iff];simp[cC,bF,ec];try omega)
 ·rcases(show op<1∨15<op by omega) with h | h
  all_goals
   go_enter Tryz.func152,Tryz.ntmps152;go_wp2;go_ret;refine⟨bW ?_,(Below.refl _ _).alloc (Nat.le_refl _) _⟩;rw[Bool.eq_iff_iff];simp[cC];omega
theorem qC (op:Int)(s:ByteArray)(n:Int)(w:World)(c:s.size<=maxLen):Calls Tryz.prog 152 #[.agg #[.int .i64 op,.string s,.int .i64 n]] w fun e b=>e=.returned (.bool (cC op s.size n))/\Below w.heap.size w b:=by
 by_cases h:s.size=0
 ·have e:=oe h
  subst e;exact sA op n w
 ·exact sy op s n w c (tU h) (by omega)
theorem sB (k:Nat)(s:ByteArray)(n c b:Int)(w:World)(h1:1<=(k:Int))(h2:(k:Int)<=15)
  (hT:w.cell? ⟨0,k*5+1,none⟩=some (.int .i64 c)) (hN:w.cell? ⟨0,k*5+2,none⟩=some (.int .i64 b)) (hz:0<w.heap.size)
  (ht:(s.size:Int)<=c) (hn:0<=n) :
  Calls Tryz.prog 142 #[.agg #[.int .i64 k,.string s,.int .i64 n]] w fun e d=>e=.returned (.bool (decide (n<=b)))/\Below w.heap.size w d:=by
 go_enter Tryz.func142,Tryz.ntmps142;go_wp2;go_quiet (fail);go_wp2;go_ret;exact⟨rfl,below_drewN ((Below.refl _ _).alloc (Nat.le_refl _) _) _⟩
theorem sC (k:Nat)(s:ByteArray)(n b:Int)(w:World)(h1:1<=(k:Int))(h2:(k:Int)<=15)
  (hT:w.cell? ⟨0,k*5+1,none⟩=some (.int .i64 b)) (hz:0<w.heap.size)
  (ht:(s.size:Int)<=b) (hn:n<0) :
  Calls Tryz.prog 142 #[.agg #[.int .i64 k,.string s,.int .i64 n]] w fun e c=>e=.returned (.bool false)/\Below w.heap.size w c:=by
 have hd:decide (0<=n)=false:=by simp;omega
 go_enter Tryz.func142,Tryz.ntmps142;go_wp2;go_quiet (fail);go_wp2;go_ret;exact⟨rfl,below_drewN ((Below.refl _ _).alloc (Nat.le_refl _) _) _⟩
theorem sD (k:Nat)(s:ByteArray)(n b:Int)(w:World)(h1:1<=(k:Int))(h2:(k:Int)<=15)
  (hT:w.cell? ⟨0,k*5+1,none⟩=some (.int .i64 b)) (hz:0<w.heap.size)
  (ht:b<(s.size:Int)) :
  Calls Tryz.prog 142 #[.agg #[.int .i64 k,.string s,.int .i64 n]] w fun e c=>e=.returned (.bool false)/\Below w.heap.size w c:=by
 have hd:decide ((s.size:Int)<=b)=false:=by simp;omega
 go_enter Tryz.func142,Tryz.ntmps142;go_wp2;go_quiet (fail);go_wp2;go_ret;exact⟨rfl,below_drewN ((Below.refl _ _).alloc (Nat.le_refl _) _) _⟩
theorem sE (op:Int)(s:ByteArray)(n:Int)(w:World)(h:op<1∨15<op):Calls Tryz.prog 142 #[.agg #[.int .i64 op,.string s,.int .i64 n]] w fun e b=>e=.returned (.bool false)/\Below w.heap.size w b:=by
 rcases h with h | h;all_goals
  go_enter Tryz.func142,Tryz.ntmps142;go_wp2;go_ret;exact⟨rfl,(Below.refl _ _).alloc (Nat.le_refl _) _⟩
def Tab (w:World):Prop:=0<w.heap.size/\∀ k:Nat,k<16->w.cell? ⟨0,k*5+1,none⟩=some (.int .i64 (bF k))/\w.cell? ⟨0,k*5+2,none⟩=some (.int .i64 (ec k))
theorem oK (op:Int)(s:ByteArray)(n:Int)(w:World)(b:Tab w):Calls Tryz.prog 142 #[.agg #[.int .i64 op,.string s,.int .i64 n]] w fun e j=>e=.returned (.bool (cC op s.size n))/\Below w.heap.size w j:=by
 by_cases h:1<=op/\op<=15
 ·obtain⟨k,rfl⟩:=Int.eq_ofNat_of_zero_le (show 0<=op by omega)
  obtain⟨d,c⟩:=h;obtain⟨i,l⟩:=b.2 k (by omega);by_cases f:(s.size:Int)<=bF k
  ·by_cases hn:0<=n
   ·have e:cC (k:Int) s.size n=decide (n<=ec k):=by
     unfold cC;rw[Bool.eq_iff_iff,decide_eq_true_eq,decide_eq_true_eq];exact⟨fun h=>h.2.2.2.2,fun h=>⟨d,c,f,hn,h⟩⟩
    rw[e];exact sB k s n _ _ w d c i l b.1 f hn
   ·have e:cC (k:Int) s.size n=false:=by
     unfold cC;rw[decide_eq_false_iff_not];exact fun h=>hn h.2.2.2.1
    rw[e];exact sC k s n _ w d c i b.1 f (by omega)
  ·have e:cC (k:Int) s.size n=false:=by
    unfold cC;rw[decide_eq_false_iff_not];exact fun h=>f h.2.2.1
   rw[e];exact sD k s n _ w d c i b.1 (by omega)
 ·have e:cC op s.size n=false:=by
   unfold cC;rw[decide_eq_false_iff_not];exact fun g=>h ⟨g.1,g.2.1⟩
  rw[e];exact sE op s n w (by omega)
def dK (f:Nat->Ins):Nat->Bool
 | 0=>true
 | k+1=>dK f k && cC (f k).op (f k).s.size (f k).n
theorem nw {f:Nat->Ins}{k n:Nat}(h:k<=n)(hn:dK f n=true):dK f k=true:=by
 induction n with
 | zero =>
  obtain rfl:k=0:=by omega
  exact hn
 | succ m b =>
  by_cases e:k=m+1
  ·subst e;exact hn
  ·simp only[dK,Bool.and_eq_true] at hn
   exact b (by omega) hn.1
theorem lH {f:Nat->Ins}{k n:Nat}(h:k<n)(b:cC (f k).op (f k).s.size (f k).n=false):dK f n=false:=by
 cases e:dK f n with
 | false=>rfl
 | true =>have c:=nw (show k+1<=n by omega) e;simp[dK,b] at c
def valid (f:Nat->Ins)(n:Nat):Bool:=dK f n && decide (1<=(n:Int)/\(n:Int)<=200)
theorem cH {f:Nat->Ins}{n:Nat}(h:valid f n=true):dK f n=true/\1<=(n:Int)/\(n:Int)<=200:=by unfold valid at h;rw[Bool.and_eq_true,decide_eq_true_eq] at h;exact h
theorem j8 {f:Nat->Ins}{k n:Nat}(h:dK f n=true)(hk:k<n):cC (f k).op (f k).s.size (f k).n=true:=by have:=nw (show k+1<=n by omega) h;simp only[dK,Bool.and_eq_true] at this;exact this.2
theorem ep (b off n cap:Nat)(f:Nat->Ins)(w:World)(hn:n<=1048576)(hb:b<w.heap.size)(x:∀ i,i<n->AtIns w b off i (f i))(t:∀ i,i<n->(f i).s.size<=maxLen):Calls Tryz.prog 79 #[.agg #[.slice (some ⟨b,off,none⟩) n cap]] w fun e u=>e=.returned (.bool (valid f n))/\Below w.heap.size w u:=by
 have z:=ae x;have y:=ae t;clear x t;go_enter Tryz.func79,Tryz.ntmps79;go_wp2;go_loopw [3] (fun i wr=>∃ k:Nat,k<=n/\i=.int .i64 k/\dK f k=true/\Below (w.heap.size+1) (w.alloc (.cells #[.slice (some ⟨b,off,none⟩) n cap] 31)) wr) (fun i _=>n - (intOf i).toNat);case atStart=>exact⟨0,by omega,rfl,rfl,Below.refl _ _⟩
 case round =>
  obtain⟨k,hk,rfl,l,d⟩:=hrel;have A:=ae d;have q:=ae l;have r:wr.cell? ⟨w.heap.size,0,none⟩=some (.slice (some ⟨b,off,none⟩) n cap):=by rw[d.cell (p:=⟨w.heap.size,0,none⟩) (by simp)];simp
  have g:Hid (Below w.heap.size w wr):=((Below.refl _ _).alloc (Nat.le_refl _) _).trans (d.mono (by omega));have o:w.heap.size+1<=wr.heap.size:=by have:=d.size;simpa using this
  clear d l;by_cases c:k<n
  ·obtain⟨c0,c1,c2⟩:=(z.out k c).below g.out hb
   go_wp2_with fail;refine(qC _ _ _ _ (y.out k c)).mono ?_;rintro e u ⟨rfl,j⟩;have h:=ae j;clear j c0 c1 c2 r;cases hi:cC (f k).op (f k).s.size (f k).n with
   | false =>have m:=ae hi;clear hi;go_wp2;go_ret;refine⟨bW ?_,g.out.trans (h.out.mono g.out.size)⟩;simp[valid,lH c m.out]
   | true =>have m:=ae hi;clear hi;go_wp2;exact⟨⟨k+1,by omega,by go_num,by simp[dK,q.out,m.out],A.out.trans (h.out.mono o)⟩,by simp[intOf];omega⟩
  ·have e:k=n:=by omega
   subst e;by_cases h1:1<=(k:Int)
   all_goals
    go_wp2;go_ret;refine⟨bW ?_,g.out⟩;rw[Bool.eq_iff_iff];simp[valid,q.out];try omega
theorem Tab.below {w d:World}{B:Nat}(h:Tab w)(hb:Below B w d)(c:0<B):Tab d :=
 ⟨Nat.lt_of_lt_of_le h.1 hb.size,fun k b=>⟨(hb.cell (p:=⟨0,_,none⟩) c).trans (h.2 k b).1,(hb.cell (p:=⟨0,_,none⟩) c).trans (h.2 k b).2⟩⟩
theorem jH (a:Option Addr)(n cap:Nat)(f:Nat->Ins)(w:World)(hn:n<=1048576)(h:(n:Int)<1∨200<(n:Int)):Calls Tryz.prog 74 #[.agg #[.slice a n cap]] w fun e b=>e=.returned (.bool (valid f n))/\Below w.heap.size w b:=by
 have e:valid f n=false:=by unfold valid;rw[show decide (1<=(n:Int)/\(n:Int)<=200)=false by simp;omega,Bool.and_false]
 rw[e];clear e;rcases h with h | h;all_goals
  go_enter Tryz.func74,Tryz.ntmps74;go_wp2;go_ret;exact⟨rfl,(Below.refl _ _).alloc (Nat.le_refl _) _⟩
theorem og (b off n cap:Nat)(f:Nat->Ins)(w:World)(h1:1<=(n:Int))(h2:(n:Int)<=200)(hb:b<w.heap.size)(x:∀ i,i<n->AtIns w b off i (f i))(o:Tab w):Calls Tryz.prog 74 #[.agg #[.slice (some ⟨b,off,none⟩) n cap]] w fun e p=>e=.returned (.bool (valid f n))/\Below w.heap.size w p:=by
 have y:=ae x;have z:=ae o;have u:=o.1;have t:Hid (valid f n=dK f n):=by show valid f n=dK f n;unfold valid;rw[show decide (1<=(n:Int)/\(n:Int)<=200)=true by simp;omega,Bool.and_true]
 clear x o;go_enter Tryz.func74,Tryz.ntmps74;go_wp2;go_loopw [18] (fun i wr=>∃ k:Nat,k<=n/\i=.int .i64 k/\dK f k=true/\Below w.heap.size w wr) (fun i _=>n - (intOf i).toNat);case atStart=>exact⟨0,by omega,rfl,rfl,(Below.refl _ _).alloc (Nat.le_refl _) _⟩
 case round =>
  obtain⟨k,hk,rfl,l,m⟩:=hrel;have c:=ae m;have r:=ae l;have h:w.heap.size<=wr.heap.size:=m.size;clear m l;by_cases j:k<n
  ·obtain⟨c0,c1,c2⟩:=(y.out k j).below c.out hb
   go_wp2_with fail;refine(oK _ _ _ _ (z.out.below (c.out.alloc h _) u)).mono ?_;rintro e p ⟨rfl,g⟩;have d:Hid (Below w.heap.size w p):=(c.out.alloc h _).trans (g.mono (by simp;omega));clear g c0 c1 c2;cases hi:cC (f k).op (f k).s.size (f k).n with
   | false =>have q:=ae hi;clear hi;go_wp2;go_ret;refine⟨bW ?_,d.out⟩;rw[t.out,lH j q.out]
   | true =>have q:=ae hi;clear hi;go_wp2;exact⟨⟨k+1,by omega,by go_num,by simp[dK,r.out,q.out],d.out⟩,by simp[intOf];omega⟩
  ·have e:k=n:=by omega
   subst e;go_wp2;go_ret;exact⟨bW (by rw[t.out,r.out]),c.out⟩
theorem oh (b off n cap:Nat)(f:Nat->Ins)(w:World)(hn:n<=1048576)(hb:b<w.heap.size)(g:∀ i,i<n->AtIns w b off i (f i))(c:Tab w):Calls Tryz.prog 74 #[.agg #[.slice (some ⟨b,off,none⟩) n cap]] w fun e d=>e=.returned (.bool (valid f n))/\Below w.heap.size w d:=by
 by_cases h:(n:Int)<1∨200<(n:Int)
 ·exact jH _ n cap f w hn h
 ·exact og b off n cap f w (by omega) (by omega) hb g c
structure Only (b:Nat)(w w':World):Prop where
 os:w'.os=w.os
 tape:w'.tape=w.tape
 output:w'.output=w.output
 size:w.heap.size<=w'.heap.size
 block:∀ k,k<w.heap.size->k≠b->w'.heap[k]?=w.heap[k]?
 ty:∀ cs t fz,w.heap[b]?=some (.cells cs t fz)->∃ cs',w'.heap[b]?=some (.cells cs' t fz)
theorem Only.refl (b:Nat)(w:World):Only b w w:=⟨rfl,rfl,rfl,Nat.le_refl _,fun _ _ _=>rfl,fun c _ _ h=>⟨c,h⟩⟩
theorem au {w:World}{i:Nat}{o:Obj}(h:w.heap[i]?=some o):i<w.heap.size:=by
 rcases Nat.lt_or_ge i w.heap.size with b | b
 ·exact b
 ·rw[Array.getElem?_eq_none b] at h;cases h
theorem bG {w:World}{b j:Nat}{c:Array Value}{t:TypeId}{fz:Nat × Nat}(h:w.heap[b]?=some (.cells c t fz))(v:Value):(w.setCell ⟨b,j,none⟩ v).heap[b]?=some (.cells (c.setIfInBounds j v) t fz):=by simp only[World.setCell,Array.getElem?_modify,if_pos,h,Option.map_some];rfl
theorem Only.trans {b:Nat}{u v w:World}(h:Only b u v)(k:Only b v w):Only b u w :=
 ⟨k.os.trans h.os,k.tape.trans h.tape,k.output.trans h.output,Nat.le_trans h.size k.size,fun i hi c=>(k.block i (Nat.lt_of_lt_of_le hi h.size) c).trans (h.block i hi c),fun d t fz hb=>let ⟨cs1,h1⟩:=h.ty d t fz hb;k.ty cs1 t fz h1⟩
theorem Only.of_below {b:Nat}{w c:World}(h:Below w.heap.size w c):Only b w c:=⟨h.os,h.tape,h.output,h.size,fun i hi _=>h.block i hi,fun d _ _ hb=>⟨d,(h.block b (au hb)).trans hb⟩⟩
theorem Only.drew {b:Nat}{u w:World}(h:Only b u w):Only b u w.drew:=h.trans (Only.of_below (Below.refl _ _).drew)
theorem Only.al {b:Nat}{u w:World}(h:Only b u w)(o:Obj):Only b u (w.alloc o):=h.trans (Only.of_below ((Below.refl _ _).alloc (Nat.le_refl _) _))
theorem Only.below {b B:Nat}{w c:World}(h:Only b w c)(hB:B<=b)(hw:B<=w.heap.size):Below B w c:=⟨h.os,h.tape,h.output,h.size,fun k hk=>h.block k (by omega) (by omega)⟩
theorem Only.cell {b:Nat}{w c:World}(h:Only b w c)(k o:Nat)(d:k<w.heap.size)(hb:k≠b):c.cell? ⟨k,o,none⟩=w.cell? ⟨k,o,none⟩:=World.cell?_of_block (w:=w) (a:=⟨k,o,none⟩) (h.block k d hb)
theorem fG {a w:World}{b:Nat}(h:Only b a w)(j:Nat)(v:Value):Only b a (w.setCell ⟨b,j,none⟩ v) :=
 h.trans ⟨rfl,rfl,rfl,by simp[World.setCell],fun k _ c=>Below.heap_setCell _ _ _ _ (by simpa using c),fun _ _ _ hb=>⟨_,bG hb v⟩⟩
def Cs (w:World)(b n:Nat)(F:Nat->Value):Prop:=b<w.heap.size/\∀ j,j<n->w.cell? ⟨b,j,none⟩=some (F j)/\w.frozen? ⟨b,j,none⟩=false
theorem Cs.below {w c:World}{B b n:Nat}{F:Nat->Value}(h:Cs w b n F)(hb:Below B w c)(f:b<B):Cs c b n F :=
 ⟨Nat.lt_of_lt_of_le h.1 hb.size,fun j d=>⟨(hb.cell (p:=⟨b,_,none⟩) f).trans (h.2 j d).1,(hb.frozen (p:=⟨b,_,none⟩) f).trans (h.2 j d).2⟩⟩
theorem Cs.set {w:World}{b n:Nat}{F G:Nat->Value}(h:Cs w b n F)(j:Nat)(v:Value)(f:∀ x,x<n->G x=if x=j then v else F x):Cs (w.setCell ⟨b,j,none⟩ v) b n G:=by
 refine⟨by simpa using h.1,fun x c=>⟨?_,?_⟩⟩
 ·rw[f x c]
  by_cases e:x=j
  ·subst e
   exact(World.cell?_setCell_same' _ _ _ (by rw[(h.2 x c).1];rfl)).trans (by simp)
  ·have d:(⟨b,j,none⟩:Addr)≠⟨b,x,none⟩:=by
    intro q;exact e (by simpa using q.symm)
   exact(World.cell?_setCell_other _ _ _ _ d).trans ((h.2 x c).1.trans (by simp[e]))
 ·have:=(h.2 x c).2
  simpa using this
structure Turn where
 over:Bool
 code:Int
 text:ByteArray
 ask:Bool
 name:ByteArray
 steps:Int
def Turn.v (t:Turn):Value:=.agg #[.bool t.over,.int .i64 t.code,.string t.text,.bool t.ask,.string t.name,.int .i64 t.steps]
def oL:Turn:=⟨false,0,⟨#[]⟩,false,⟨#[]⟩,0⟩
structure Mst where
 S:Nat->ByteArray
 size:Nat
 place:Int
 steps:Int
 looks:Int
 t:Turn
def Mst.F (b:Value)(m:Mst)(j:Nat):Value :=
 if j<50 then .string (m.S j) else if j=50 then .int .i64 m.size else if j=51 then b else if j=52 then .int .i64 m.place else if j=53 then .int .i64 m.steps else if j=54 then .int .i64 m.looks
 else if j=55 then .bool m.t.over else if j=56 then .int .i64 m.t.code else if j=57 then .string m.t.text else if j=58 then .bool m.t.ask else if j=59 then .string m.t.name else if j=60 then .int .i64 m.t.steps else .int .i64 0
def MAt (w:World)(b:Nat)(c:Value)(m:Mst):Prop:=Cs w b 61 (m.F c)
theorem MAt.below {w c:World}{B b:Nat}{d:Value}{m:Mst}(h:MAt w b d m)(hb:Below B w c)(f:b<B):MAt c b d m:=Cs.below h hb f
theorem MAt.lt {w:World}{b:Nat}{c:Value}{m:Mst}(h:MAt w b c m):b<w.heap.size:=h.1
theorem MAt.fld {w:World}{b:Nat}{c:Value}{m:Mst}(h:MAt w b c m)(j:Nat)(v:Value)(d:j<61)(f:m.F c j=v):w.cell? ⟨b,j,none⟩=some v/\w.frozen? ⟨b,j,none⟩=false :=
 ⟨(h.2 j d).1.trans (by rw[f]),(h.2 j d).2⟩
def upd (S:Nat->ByteArray)(k:Nat)(t:ByteArray)(j:Nat):ByteArray:=if j=k then t else S j
def aX (k:Nat):Nat:=if k=2∨k=6∨k=8 then 2 else if k=0∨k=1∨k=10∨15<k then 0 else 1
def bT (k:Nat):Nat:=if k=7∨k=8 then 2 else if k=0∨k=9∨k=10∨k=11∨13<k then 0 else 1
def Tab2 (w:World):Prop:=0<w.heap.size/\∀ k:Nat,k<16->w.cell? ⟨0,k*5+3,none⟩=some (.int .i64 (aX k))/\w.cell? ⟨0,k*5+4,none⟩=some (.int .i64 (bT k))
theorem Tab2.below {w d:World}{B:Nat}(h:Tab2 w)(hb:Below B w d)(c:0<B):Tab2 d :=
 ⟨Nat.lt_of_lt_of_le h.1 hb.size,fun k b=>⟨(hb.cell (p:=⟨0,_,none⟩) c).trans (h.2 k b).1,(hb.cell (p:=⟨0,_,none⟩) c).trans (h.2 k b).2⟩⟩
def cU (s:ByteArray):Nat->Bool
 | 0=>true
 | k+1=>cU s k && (match s.data[k]? with | some c=>decide (33<=c.toNat/\c.toNat<=126) | none=>false)
def aw (s:ByteArray):Bool:=decide (1<=s.size/\s.size<=60) && cU s s.size
theorem qD {s:ByteArray}{k n:Nat}(h:k<=n)(hn:cU s n=true):cU s k=true:=by
 induction n with
 | zero =>
  obtain rfl:k=0:=by omega
  exact hn
 | succ m b =>
  by_cases e:k=m+1
  ·subst e;exact hn
  ·simp only[cU,Bool.and_eq_true] at hn
   exact b (by omega) hn.1
theorem fR {s:ByteArray}{k:Nat}(h:k<s.size):cU s (k+1)=(cU s k && decide (33<=s[k].toNat/\s[k].toNat<=126)):=by
 have e:s.data[k]?=some s[k]:=by rw[Array.getElem?_eq_getElem h];rfl
 rw[cU,e]
theorem dS {s:ByteArray}{k:Nat}(h:k<s.size)(hk:¬ (33<=s[k].toNat/\s[k].toNat<=126)):cU s s.size=false:=by
 cases e:cU s s.size with
 | false=>rfl
 | true =>have b:=qD (show k+1<=s.size by omega) e;rw[fR h] at b;simp at b;omega
theorem gA (s:ByteArray)(w:World):Calls Tryz.prog 81 #[.string s] w fun e j=>e=.returned (.bool (aw s))/\Below w.heap.size w j:=by
 by_cases h1:1<=(s.size:Int)
 ·by_cases h2:(s.size:Int)<=60
  ·have f:Hid (aw s=cU s s.size):=by
    show aw s=cU s s.size;unfold aw;rw[show decide (1<=s.size/\s.size<=60)=true by simp;omega,Bool.true_and]
   go_enter Tryz.func81,Tryz.ntmps81;go_wp2;go_loopw [14] (fun i wr=>∃ k:Nat,k<=s.size/\i=.int .i64 k/\cU s k=true/\Below w.heap.size w wr) (fun i _=>s.size - (intOf i).toNat);case atStart=>exact⟨0,by omega,rfl,rfl,Below.refl _ _⟩
   case round =>
    obtain⟨k,hk,rfl,d,h⟩:=hrel;have c:=ae h;have g:=ae d;clear h d;by_cases b:k<s.size
    ·by_cases p1:33<=(s[k].toNat:Int)
     ·by_cases p2:(s[k].toNat:Int)<=126
      ·go_wp2
       exact⟨⟨k+1,by omega,by go_num,by rw[fR b,g.out];simp;omega,c.out⟩,by simp[intOf];omega⟩
      ·go_wp2
       go_ret;exact⟨bW (by rw[f.out,dS b (by omega)]),c.out⟩
     ·go_wp2
      go_ret;exact⟨bW (by rw[f.out,dS b (by omega)]),c.out⟩
    ·have e:k=s.size:=by omega
     subst e;go_wp2;go_ret;exact⟨bW (by rw[f.out,g.out]),c.out⟩
  ·have e:aw s=false:=by
    unfold aw;rw[show decide (1<=s.size/\s.size<=60)=false by simp;omega,Bool.false_and]
   rw[e];clear e;go_enter Tryz.func81,Tryz.ntmps81;go_wp2;go_ret;exact⟨rfl,Below.refl _ _⟩
 ·have e:aw s=false:=by
   unfold aw;rw[show decide (1<=s.size/\s.size<=60)=false by simp;omega,Bool.false_and]
  rw[e];clear e;go_enter Tryz.func81,Tryz.ntmps81;go_wp2;go_ret;exact⟨rfl,Below.refl _ _⟩
theorem bk (s:ByteArray)(w:World):Calls Tryz.prog 61 #[.string s] w fun e j=>e=.returned (.bool (aw s))/\Below w.heap.size w j:=by
 by_cases h1:1<=(s.size:Int)
 ·by_cases h2:(s.size:Int)<=60
  ·have f:Hid (aw s=cU s s.size):=by
    show aw s=cU s s.size;unfold aw;rw[show decide (1<=s.size/\s.size<=60)=true by simp;omega,Bool.true_and]
   go_enter Tryz.func61,Tryz.ntmps61;go_wp2;go_loopw [3] (fun i wr=>∃ k:Nat,k<=s.size/\i=.int .i64 k/\cU s k=true/\Below w.heap.size w wr) (fun i _=>s.size - (intOf i).toNat);case atStart=>exact⟨0,by omega,rfl,rfl,Below.refl _ _⟩
   case round =>
    obtain⟨k,hk,rfl,d,h⟩:=hrel;have c:=ae h;have g:=ae d;clear h d;by_cases b:k<s.size
    ·by_cases p1:33<=(s[k].toNat:Int)
     ·by_cases p2:(s[k].toNat:Int)<=126
      ·go_wp2
       exact⟨⟨k+1,by omega,by go_num,by rw[fR b,g.out];simp;omega,c.out⟩,by simp[intOf];omega⟩
      ·go_wp2
       go_ret;exact⟨bW (by rw[f.out,dS b (by omega)]),c.out⟩
     ·go_wp2
      go_ret;exact⟨bW (by rw[f.out,dS b (by omega)]),c.out⟩
    ·have e:k=s.size:=by omega
     subst e;go_wp2;go_ret;exact⟨bW (by rw[f.out,g.out]),c.out⟩
  ·have e:aw s=false:=by
    unfold aw;rw[show decide (1<=s.size/\s.size<=60)=false by simp;omega,Bool.false_and]
   rw[e];clear e;go_enter Tryz.func61,Tryz.ntmps61;go_wp2;go_ret;exact⟨rfl,Below.refl _ _⟩
 ·have e:aw s=false:=by
   unfold aw;rw[show decide (1<=s.size/\s.size<=60)=false by simp;omega,Bool.false_and]
  rw[e];clear e;go_enter Tryz.func61,Tryz.ntmps61;go_wp2;go_ret;exact⟨rfl,Below.refl _ _⟩
structure aC where
 has:Bool
 code:Int
 text:ByteArray
def AtReply (w:World)(b off i:Nat)(x:aC):Prop :=
 w.cell? ⟨b,off+i*3,none⟩=some (.bool x.has)/\w.cell? ⟨b,off+i*3+1,none⟩=some (.int .i64 x.code)/\w.cell? ⟨b,off+i*3+2,none⟩=some (.string x.text)
theorem AtReply.below {w d:World}{B b off i:Nat}{x:aC}(h:AtReply w b off i x)(hb:Below B w d)(c:b<B):AtReply d b off i x :=
 ⟨(hb.cell (p:=⟨b,_,none⟩) c).trans h.1,(hb.cell (p:=⟨b,_,none⟩) c).trans h.2.1,(hb.cell (p:=⟨b,_,none⟩) c).trans h.2.2⟩
def RowReply (w:World)(b off n:Nat)(f:Nat->aC):Prop:=b<w.heap.size/\∀ i,i<n->AtReply w b off i (f i)
theorem RowReply.below {w c:World}{B b off n:Nat}{f:Nat->aC}(h:RowReply w b off n f)(hb:Below B w c)(d:w.heap.size<=B):RowReply c b off n f :=
 ⟨Nat.lt_of_lt_of_le h.1 hb.size,fun i hi=>(h.2 i hi).below hb (Nat.lt_of_lt_of_le h.1 d)⟩
theorem RowReply.setOther {w:World}{g n off:Nat}{f:Nat->aC}(h:RowReply w g off n f)(p:Addr)(b:p.block≠g)(v:Value):RowReply (w.setCell p v) g off n f:=by refine⟨by simpa using h.1,fun i hi=>?_⟩;have h:=h.2 i hi;have far:∀ o,(w.setCell p v).cell? ⟨g,o,none⟩=w.cell? ⟨g,o,none⟩:=fun o=>World.cell?_of_block (w:=w) (a:=⟨g,o,none⟩) (Below.heap_setCell w p v g (fun e=>b e.symm));exact⟨(far _).trans h.1,(far _).trans h.2.1,(far _).trans h.2.2⟩
def SlReply (w:World)(a:Option Addr)(n:Nat)(f:Nat->aC):Prop:=n=0∨∃ b off,a=some ⟨b,off,none⟩/\RowReply w b off n f
theorem SlReply.below {w c:World}{B:Nat}{a:Option Addr}{n:Nat}{f:Nat->aC}(h:SlReply w a n f)(hb:Below B w c)(g:w.heap.size<=B):SlReply c a n f:=by
 rcases h with h | ⟨b,off,d,i⟩
 ·exact .inl h
 ·exact .inr ⟨b,off,d,i.below hb g⟩
theorem RowReply.sl {w:World}{b off n:Nat}{f:Nat->aC}(h:RowReply w b off n f):SlReply w (some ⟨b,off,none⟩) n f:=.inr ⟨b,off,rfl,h⟩
structure Source where
 name:ByteArray
 text:ByteArray
def AtSource (w:World)(b off i:Nat)(x:Source):Prop :=
 w.cell? ⟨b,off+i*2,none⟩=some (.string x.name)/\w.cell? ⟨b,off+i*2+1,none⟩=some (.string x.text)
theorem AtSource.below {w c:World}{B b off i:Nat}{x:Source}(h:AtSource w b off i x)(hb:Below B w c)(d:b<B):AtSource c b off i x :=
 ⟨(hb.cell (p:=⟨b,_,none⟩) d).trans h.1,(hb.cell (p:=⟨b,_,none⟩) d).trans h.2⟩
def RowSource (w:World)(b off n:Nat)(f:Nat->Source):Prop:=b<w.heap.size/\∀ i,i<n->AtSource w b off i (f i)
theorem RowSource.below {w c:World}{B b off n:Nat}{f:Nat->Source}(h:RowSource w b off n f)(hb:Below B w c)(d:w.heap.size<=B):RowSource c b off n f :=
 ⟨Nat.lt_of_lt_of_le h.1 hb.size,fun i hi=>(h.2 i hi).below hb (Nat.lt_of_lt_of_le h.1 d)⟩
theorem RowSource.setOther {w:World}{g n off:Nat}{f:Nat->Source}(h:RowSource w g off n f)(p:Addr)(b:p.block≠g)(v:Value):RowSource (w.setCell p v) g off n f:=by refine⟨by simpa using h.1,fun i hi=>?_⟩;have h:=h.2 i hi;have far:∀ o,(w.setCell p v).cell? ⟨g,o,none⟩=w.cell? ⟨g,o,none⟩:=fun o=>World.cell?_of_block (w:=w) (a:=⟨g,o,none⟩) (Below.heap_setCell w p v g (fun e=>b e.symm));exact⟨(far _).trans h.1,(far _).trans h.2⟩
def SlSource (w:World)(a:Option Addr)(n:Nat)(f:Nat->Source):Prop:=n=0∨∃ b off,a=some ⟨b,off,none⟩/\RowSource w b off n f
theorem SlSource.below {w c:World}{B:Nat}{a:Option Addr}{n:Nat}{f:Nat->Source}(h:SlSource w a n f)(hb:Below B w c)(g:w.heap.size<=B):SlSource c a n f:=by
 rcases h with h | ⟨b,off,d,i⟩
 ·exact .inl h
 ·exact .inr ⟨b,off,d,i.below hb g⟩
theorem RowSource.sl {w:World}{b off n:Nat}{f:Nat->Source}(h:RowSource w b off n f):SlSource w (some ⟨b,off,none⟩) n f:=.inr ⟨b,off,rfl,h⟩
theorem iP:(Tryz.prog.info? 100).map (fun i=>(i.zero,i.size,i.bytes))=some (some (.agg #[.string ⟨#[]⟩,.string ⟨#[]⟩]),2,32):=by kernel_rfl
def OwnSource (w:World)(g n k:Nat)(f:Nat->Source):Prop :=
 ∃ F,w.rowIs g 100 (n*2) F/\∀ i,i<k->F (i*2)=.string (f i).name/\F (i*2+1)=.string (f i).text
theorem OwnSource.step {w:World}{g n k:Nat}{f:Nat->Source}(h:OwnSource w g n k f):OwnSource ((w.setCell ⟨g,k*2,none⟩ (.string (f k).name)).setCell ⟨g,k*2+1,none⟩ (.string (f k).text)) g n (k+1) f:=by
 obtain⟨F,b,hF⟩:=h;refine⟨_,((b.set _ _).set _ _),fun i hi=>?_⟩;by_cases e:i=k
 ·subst e
  exact⟨by simp,by simp⟩
 ·have h:=hF i (by omega)
  refine⟨?_,?_⟩
  ·show(if _ then _ else if _ then _ else _)=_
   rw[if_neg (by omega),if_neg (by omega),h.1]
  ·show(if _ then _ else if _ then _ else _)=_
   rw[if_neg (by omega),if_neg (by omega),h.2]
theorem OwnSource.below {w b:World}{g n k:Nat}{f:Nat->Source}{B:Nat}(h:OwnSource w g n k f)(hb:Below B w b)(c:g<B):OwnSource b g n k f:=by obtain⟨F,d,hF⟩:=h;exact⟨F,d.of_block (hb.block g c),hF⟩
theorem OwnSource.row {w:World}{g n:Nat}{f:Nat->Source}(h:OwnSource w g n n f):RowSource w g 0 n f:=by
 obtain⟨F,b,hF⟩:=h;refine⟨b.lt,fun i hi=>?_⟩;have h:=hF i hi;refine⟨?_,?_⟩
 ·rw[Nat.zero_add,b.cell (by omega),h.1]
 ·rw[Nat.zero_add,b.cell (by omega),h.2]
structure Target where
 name:ByteArray
 actN:Nat
 act:Nat->Ins
def bD (x:Target):Prop:=x.actN<=1048576
def AtTarget (w:World)(b off i:Nat)(x:Target):Prop :=
 w.cell? ⟨b,off+i*2,none⟩=some (.string x.name)/\(∃ a cap,w.cell? ⟨b,off+i*2+1,none⟩=some (.slice a x.actN cap)/\SlIns w a x.actN x.act)
theorem AtTarget.below {w f:World}{B b off i:Nat}{x:Target}(h:AtTarget w b off i x)(hb:Below B w f)(d:w.heap.size<=B)(g:b<w.heap.size):AtTarget f b off i x:=by obtain⟨j,⟨a0,c,s0,r0⟩⟩:=h;refine⟨(hb.cell (p:=⟨b,_,none⟩) (Nat.lt_of_lt_of_le g d)).trans j,⟨a0,c,(hb.cell (p:=⟨b,_,none⟩) (Nat.lt_of_lt_of_le g d)).trans s0,r0.below hb d⟩⟩
def RowTarget (w:World)(b off n:Nat)(f:Nat->Target):Prop:=b<w.heap.size/\∀ i,i<n->AtTarget w b off i (f i)
theorem RowTarget.below {w c:World}{B b off n:Nat}{f:Nat->Target}(h:RowTarget w b off n f)(hb:Below B w c)(d:w.heap.size<=B):RowTarget c b off n f :=
 ⟨Nat.lt_of_lt_of_le h.1 hb.size,fun i hi=>(h.2 i hi).below hb d h.1⟩
def SlTarget (w:World)(a:Option Addr)(n:Nat)(f:Nat->Target):Prop:=n=0∨∃ b off,a=some ⟨b,off,none⟩/\RowTarget w b off n f
theorem SlTarget.below {w c:World}{B:Nat}{a:Option Addr}{n:Nat}{f:Nat->Target}(h:SlTarget w a n f)(hb:Below B w c)(g:w.heap.size<=B):SlTarget c a n f:=by
 rcases h with h | ⟨b,off,d,i⟩
 ·exact .inl h
 ·exact .inr ⟨b,off,d,i.below hb g⟩
theorem RowTarget.sl {w:World}{b off n:Nat}{f:Nat->Target}(h:RowTarget w b off n f):SlTarget w (some ⟨b,off,none⟩) n f:=.inr ⟨b,off,rfl,h⟩
theorem ft:(Tryz.prog.info? 104).map (fun i=>(i.zero,i.size,i.bytes))=some (some (.agg #[.string ⟨#[]⟩,.slice none 0 0]),2,40):=by kernel_rfl
def OwnTarget (w:World)(g n k:Nat)(f:Nat->Target):Prop :=
 ∃ (F:Nat->Value) (b:Nat->Nat),w.rowIs g 104 (n*2) F/\∀ i,i<k->F (i*2)=.string (f i).name/\(F (i*2+1)=.slice (some ⟨b i,0,none⟩) (f i).actN (f i).actN/\RowIns w (b i) 0 (f i).actN (f i).act/\g<b i)
theorem OwnTarget.lt {w:World}{g n k:Nat}{f:Nat->Target}(h:OwnTarget w g n k f):g<w.heap.size:=by obtain⟨F,G0,b,_⟩:=h;exact b.lt
theorem OwnTarget.step {w:World}{g n k b:Nat}{f:Nat->Target}(h:OwnTarget w g n k f)(d:RowIns w b 0 (f k).actN (f k).act)(c:g<b):OwnTarget ((w.setCell ⟨g,k*2,none⟩ (.string (f k).name)).setCell ⟨g,k*2+1,none⟩ (.slice (some ⟨b,0,none⟩) (f k).actN (f k).actN)) g n (k+1) f:=by
 obtain⟨F,l,j,hF⟩:=h;refine⟨_,fun i=>if i=k then b else l i,((j.set _ _).set _ _),fun i hi=>?_⟩;by_cases e:i=k
 ·subst e
  exact⟨by simp,⟨by simp,by dsimp only;rw[if_pos rfl];exact((d).setOther _ (by first | (simp;omega) | simp) _).setOther _ (by first | (simp;omega) | simp) _,by dsimp only;rw[if_pos rfl];exact c⟩⟩
 ·obtain⟨m,⟨s0,r0,u0⟩⟩:=hF i (by omega)
  refine⟨?_,?_⟩
  ·show(if _ then _ else if _ then _ else _)=_
   rw[if_neg (by omega),if_neg (by omega),m]
  ·dsimp only
   rw[if_neg e];refine⟨?_,((r0).setOther _ (by first | (simp;omega) | simp) _).setOther _ (by first | (simp;omega) | simp) _,u0⟩;show(if _ then _ else if _ then _ else _)=_;rw[if_neg (by omega),if_neg (by omega),s0]
theorem OwnTarget.below {w b:World}{g n k:Nat}{f:Nat->Target}{B:Nat}(h:OwnTarget w g n k f)(hb:Below B w b)(c:w.heap.size<=B):OwnTarget b g n k f:=by have l:=h.lt;obtain⟨F,j,d,hF⟩:=h;refine⟨F,j,d.of_block (hb.block g (Nat.lt_of_lt_of_le l c)),fun i hi=>?_⟩;obtain⟨m,⟨s0,r0,u0⟩⟩:=hF i hi;exact⟨m,⟨s0,r0.below hb c,u0⟩⟩
theorem OwnTarget.setOther {w:World}{g n k:Nat}{f:Nat->Target}(h:OwnTarget w g n k f)(p:Addr)(hp:p.block<g)(v:Value):OwnTarget (w.setCell p v) g n k f:=by obtain⟨F,c,b,hF⟩:=h;refine⟨F,c,b.setOther (by omega) v,fun i hi=>?_⟩;obtain⟨d,⟨s0,r0,u0⟩⟩:=hF i hi;exact⟨d,⟨s0,r0.setOther p (by omega) v,u0⟩⟩
theorem OwnTarget.row {w:World}{g n:Nat}{f:Nat->Target}(h:OwnTarget w g n n f):RowTarget w g 0 n f:=by
 obtain⟨F,G0,b,hF⟩:=h;refine⟨b.lt,fun i hi=>?_⟩;obtain⟨c,⟨s0,r0,u0⟩⟩:=hF i hi;refine⟨?_,?_⟩
 ·rw[Nat.zero_add,b.cell (by omega),c]
 ·exact⟨_,_,by rw[Nat.zero_add,b.cell (by omega),s0],r0.sl⟩
def RowStr (w:World)(b off n:Nat)(f:Nat->ByteArray):Prop:=b<w.heap.size/\∀ i,i<n->w.cell? ⟨b,off+i,none⟩=some (.string (f i))
theorem RowStr.below {w c:World}{B b off n:Nat}{f:Nat->ByteArray}(h:RowStr w b off n f)(hb:Below B w c)(d:w.heap.size<=B):RowStr c b off n f :=
 ⟨Nat.lt_of_lt_of_le h.1 hb.size,fun i hi=>(hb.cell (p:=⟨b,_,none⟩) (Nat.lt_of_lt_of_le h.1 d)).trans (h.2 i hi)⟩
theorem RowStr.low {w c:World}{B b off n:Nat}{f:Nat->ByteArray}(h:RowStr w b off n f)(hb:Below B w c)(d:b<B):RowStr c b off n f :=
 ⟨Nat.lt_of_lt_of_le h.1 hb.size,fun i hi=>(hb.cell (p:=⟨b,_,none⟩) d).trans (h.2 i hi)⟩
theorem RowStr.setOther {w:World}{g n off:Nat}{f:Nat->ByteArray}(h:RowStr w g off n f)(p:Addr)(b:p.block≠g)(v:Value):RowStr (w.setCell p v) g off n f :=
 ⟨by simpa using h.1,fun i hi=>(World.cell?_of_block (w:=w) (a:=⟨g,off+i,none⟩) (Below.heap_setCell w p v g (fun e=>b e.symm))).trans (h.2 i hi)⟩
def SlStr (w:World)(a:Option Addr)(n:Nat)(f:Nat->ByteArray):Prop:=n=0∨∃ b off,a=some ⟨b,off,none⟩/\RowStr w b off n f
theorem SlStr.below {w c:World}{B:Nat}{a:Option Addr}{n:Nat}{f:Nat->ByteArray}(h:SlStr w a n f)(hb:Below B w c)(g:w.heap.size<=B):SlStr c a n f:=by
 rcases h with h | ⟨b,off,d,i⟩
 ·exact .inl h
 ·exact .inr ⟨b,off,d,i.below hb g⟩
theorem RowStr.sl {w:World}{b off n:Nat}{f:Nat->ByteArray}(h:RowStr w b off n f):SlStr w (some ⟨b,off,none⟩) n f:=.inr ⟨b,off,rfl,h⟩
theorem gB:(Tryz.prog.info? 9).map (fun i=>(i.zero,i.size,i.bytes))=some (some (.string ⟨#[]⟩),1,16):=by kernel_rfl
theorem sF (f:Nat->Ins):valid f 0=false:=by simp[valid]
theorem oM (a:Option Addr)(n cap:Nat)(f:Nat->Ins)(w:World)(hn:n<=1048576)(g:SlIns w a n f)(d:Tab w):Calls Tryz.prog 74 #[.agg #[.slice a n cap]] w fun e h=>e=.returned (.bool (valid f n))/\Below w.heap.size w h:=by
 rcases g with rfl | ⟨b,off,rfl,c⟩
 ·exact jH a 0 cap f w (by omega) (by simp)
 ·exact oh b off n cap f w hn c.1 c.2 d
theorem ol (a:Option Addr)(cap:Nat)(f:Nat->Ins)(w:World):Calls Tryz.prog 79 #[.agg #[.slice a 0 cap]] w fun e b=>e=.returned (.bool (valid f 0))/\Below w.heap.size w b:=by
 rw[sF];have c:=ae ((Below.refl w.heap.size w).alloc (Nat.le_refl _) (.cells #[.slice a 0 cap] 31));go_enter Tryz.func79,Tryz.ntmps79;go_wp2;go_loop [3] (fun i=>i=.int .i64 0) (fun _=>0);case atStart=>rfl
 case round =>subst hrel;go_wp2;go_ret;exact⟨rfl,c.out⟩
theorem gJ (a:Option Addr)(n cap:Nat)(f:Nat->Ins)(w:World)(hn:n<=1048576)(d:SlIns w a n f)(h:∀ i,i<n->(f i).s.size<=maxLen):Calls Tryz.prog 79 #[.agg #[.slice a n cap]] w fun e g=>e=.returned (.bool (valid f n))/\Below w.heap.size w g:=by
 rcases d with rfl | ⟨b,off,rfl,c⟩
 ·exact ol a cap f w
 ·exact ep b off n cap f w hn c.1 c.2 h
structure Link where
 name:ByteArray
 ask:Bool
 has:Bool
 at_:Int
def AtLink (w:World)(b off i:Nat)(x:Link):Prop :=
 w.cell? ⟨b,off+i*4,none⟩=some (.string x.name)/\w.cell? ⟨b,off+i*4+1,none⟩=some (.bool x.ask)/\w.cell? ⟨b,off+i*4+2,none⟩=some (.bool x.has)/\w.cell? ⟨b,off+i*4+3,none⟩=some (.int .i64 x.at_)
theorem AtLink.below {w d:World}{B b off i:Nat}{x:Link}(h:AtLink w b off i x)(hb:Below B w d)(c:b<B):AtLink d b off i x :=
 ⟨(hb.cell (p:=⟨b,_,none⟩) c).trans h.1,(hb.cell (p:=⟨b,_,none⟩) c).trans h.2.1,(hb.cell (p:=⟨b,_,none⟩) c).trans h.2.2.1,(hb.cell (p:=⟨b,_,none⟩) c).trans h.2.2.2⟩
def RowLink (w:World)(b off n:Nat)(f:Nat->Link):Prop:=b<w.heap.size/\∀ i,i<n->AtLink w b off i (f i)
theorem RowLink.below {w c:World}{B b off n:Nat}{f:Nat->Link}(h:RowLink w b off n f)(hb:Below B w c)(d:w.heap.size<=B):RowLink c b off n f :=
 ⟨Nat.lt_of_lt_of_le h.1 hb.size,fun i hi=>(h.2 i hi).below hb (Nat.lt_of_lt_of_le h.1 d)⟩
theorem RowLink.setOther {w:World}{g n off:Nat}{f:Nat->Link}(h:RowLink w g off n f)(p:Addr)(b:p.block≠g)(v:Value):RowLink (w.setCell p v) g off n f:=by refine⟨by simpa using h.1,fun i hi=>?_⟩;have h:=h.2 i hi;have far:∀ o,(w.setCell p v).cell? ⟨g,o,none⟩=w.cell? ⟨g,o,none⟩:=fun o=>World.cell?_of_block (w:=w) (a:=⟨g,o,none⟩) (Below.heap_setCell w p v g (fun e=>b e.symm));exact⟨(far _).trans h.1,(far _).trans h.2.1,(far _).trans h.2.2.1,(far _).trans h.2.2.2⟩
def SlLink (w:World)(a:Option Addr)(n:Nat)(f:Nat->Link):Prop:=n=0∨∃ b off,a=some ⟨b,off,none⟩/\RowLink w b off n f
theorem SlLink.below {w c:World}{B:Nat}{a:Option Addr}{n:Nat}{f:Nat->Link}(h:SlLink w a n f)(hb:Below B w c)(g:w.heap.size<=B):SlLink c a n f:=by
 rcases h with h | ⟨b,off,d,i⟩
 ·exact .inl h
 ·exact .inr ⟨b,off,d,i.below hb g⟩
theorem RowLink.sl {w:World}{b off n:Nat}{f:Nat->Link}(h:RowLink w b off n f):SlLink w (some ⟨b,off,none⟩) n f:=.inr ⟨b,off,rfl,h⟩
theorem iQ:(Tryz.prog.info? 73).map (fun i=>(i.zero,i.size,i.bytes))=some (some (.agg #[.string ⟨#[]⟩,.bool false,.bool false,.int .i64 0]),4,32):=by kernel_rfl
def OwnLink (w:World)(g n k:Nat)(f:Nat->Link):Prop :=
 ∃ F,w.rowIs g 73 (n*4) F/\∀ i,i<k->F (i*4)=.string (f i).name/\F (i*4+1)=.bool (f i).ask/\F (i*4+2)=.bool (f i).has/\F (i*4+3)=.int .i64 (f i).at_
theorem OwnLink.step {w:World}{g n k:Nat}{f:Nat->Link}(h:OwnLink w g n k f):OwnLink ((((w.setCell ⟨g,k*4,none⟩ (.string (f k).name)).setCell ⟨g,k*4+1,none⟩ (.bool (f k).ask)).setCell ⟨g,k*4+2,none⟩ (.bool (f k).has)).setCell ⟨g,k*4+3,none⟩ (.int .i64 (f k).at_)) g n (k+1) f:=by
 obtain⟨F,b,hF⟩:=h;refine⟨_,((((b.set _ _).set _ _).set _ _).set _ _),fun i hi=>?_⟩;by_cases e:i=k
 ·subst e
  exact⟨by simp,by simp,by simp,by simp⟩
 ·have h:=hF i (by omega)
  refine⟨?_,?_,?_,?_⟩
  ·show(if _ then _ else if _ then _ else if _ then _ else if _ then _ else _)=_
   rw[if_neg (by omega),if_neg (by omega),if_neg (by omega),if_neg (by omega),h.1]
  ·show(if _ then _ else if _ then _ else if _ then _ else if _ then _ else _)=_
   rw[if_neg (by omega),if_neg (by omega),if_neg (by omega),if_neg (by omega),h.2.1]
  ·show(if _ then _ else if _ then _ else if _ then _ else if _ then _ else _)=_
   rw[if_neg (by omega),if_neg (by omega),if_neg (by omega),if_neg (by omega),h.2.2.1]
  ·show(if _ then _ else if _ then _ else if _ then _ else if _ then _ else _)=_
   rw[if_neg (by omega),if_neg (by omega),if_neg (by omega),if_neg (by omega),h.2.2.2]
theorem OwnLink.below {w b:World}{g n k:Nat}{f:Nat->Link}{B:Nat}(h:OwnLink w g n k f)(hb:Below B w b)(c:g<B):OwnLink b g n k f:=by obtain⟨F,d,hF⟩:=h;exact⟨F,d.of_block (hb.block g c),hF⟩
theorem OwnLink.row {w:World}{g n:Nat}{f:Nat->Link}(h:OwnLink w g n n f):RowLink w g 0 n f:=by
 obtain⟨F,b,hF⟩:=h;refine⟨b.lt,fun i hi=>?_⟩;have h:=hF i hi;refine⟨?_,?_,?_,?_⟩
 ·rw[Nat.zero_add,b.cell (by omega),h.1]
 ·rw[Nat.zero_add,b.cell (by omega),h.2.1]
 ·rw[Nat.zero_add,b.cell (by omega),h.2.2.1]
 ·rw[Nat.zero_add,b.cell (by omega),h.2.2.2]
structure ar where
 name:ByteArray
 kind:Int
 code:Int
 text:ByteArray
 actN:Nat
 act:Nat->Ins
 linksN:Nat
 links:Nat->Link
def dD (x:ar):Prop:=x.name.size<=maxLen/\x.text.size<=maxLen/\((x.actN:Int)<=9223372036854775807/\∀ j,j<x.actN->(x.act j).s.size<=maxLen)/\((x.linksN:Int)<=9223372036854775807/\∀ j,j<x.linksN->(x.links j).name.size<=maxLen)
def cK (x:ar):Prop:=x.actN<=1048576/\x.linksN<=1048576
def AtDeed (w:World)(b off i:Nat)(x:ar):Prop :=
 w.cell? ⟨b,off+i*6,none⟩=some (.string x.name)/\w.cell? ⟨b,off+i*6+1,none⟩=some (.int .i64 x.kind)/\w.cell? ⟨b,off+i*6+2,none⟩=some (.int .i64 x.code)/\w.cell? ⟨b,off+i*6+3,none⟩=some (.string x.text)/\(∃ a cap,w.cell? ⟨b,off+i*6+4,none⟩=some (.slice a x.actN cap)/\SlIns w a x.actN x.act)/\(∃ a cap,w.cell? ⟨b,off+i*6+5,none⟩=some (.slice a x.linksN cap)/\SlLink w a x.linksN x.links)
theorem AtDeed.below {w j:World}{B b off i:Nat}{x:ar}(h:AtDeed w b off i x)(hb:Below B w j)(c:w.heap.size<=B)(d:b<w.heap.size):AtDeed j b off i x:=by obtain⟨m,k,l,n,⟨a0,f,s0,r0⟩,⟨a1,g,s1,r1⟩⟩:=h;refine⟨(hb.cell (p:=⟨b,_,none⟩) (Nat.lt_of_lt_of_le d c)).trans m,(hb.cell (p:=⟨b,_,none⟩) (Nat.lt_of_lt_of_le d c)).trans k,(hb.cell (p:=⟨b,_,none⟩) (Nat.lt_of_lt_of_le d c)).trans l,(hb.cell (p:=⟨b,_,none⟩) (Nat.lt_of_lt_of_le d c)).trans n,⟨a0,f,(hb.cell (p:=⟨b,_,none⟩) (Nat.lt_of_lt_of_le d c)).trans s0,r0.below hb c⟩,⟨a1,g,(hb.cell (p:=⟨b,_,none⟩) (Nat.lt_of_lt_of_le d c)).trans s1,r1.below hb c⟩⟩
def RowDeed (w:World)(b off n:Nat)(f:Nat->ar):Prop:=b<w.heap.size/\∀ i,i<n->AtDeed w b off i (f i)
theorem RowDeed.below {w c:World}{B b off n:Nat}{f:Nat->ar}(h:RowDeed w b off n f)(hb:Below B w c)(d:w.heap.size<=B):RowDeed c b off n f :=
 ⟨Nat.lt_of_lt_of_le h.1 hb.size,fun i hi=>(h.2 i hi).below hb d h.1⟩
def SlDeed (w:World)(a:Option Addr)(n:Nat)(f:Nat->ar):Prop:=n=0∨∃ b off,a=some ⟨b,off,none⟩/\RowDeed w b off n f
theorem SlDeed.below {w c:World}{B:Nat}{a:Option Addr}{n:Nat}{f:Nat->ar}(h:SlDeed w a n f)(hb:Below B w c)(g:w.heap.size<=B):SlDeed c a n f:=by
 rcases h with h | ⟨b,off,d,i⟩
 ·exact .inl h
 ·exact .inr ⟨b,off,d,i.below hb g⟩
theorem RowDeed.sl {w:World}{b off n:Nat}{f:Nat->ar}(h:RowDeed w b off n f):SlDeed w (some ⟨b,off,none⟩) n f:=.inr ⟨b,off,rfl,h⟩
theorem fH:(Tryz.prog.info? 67).map (fun i=>(i.zero,i.size,i.bytes))=some (some (.agg #[.string ⟨#[]⟩,.int .i64 0,.int .i64 0,.string ⟨#[]⟩,.slice none 0 0,.slice none 0 0]),6,96):=by kernel_rfl
def dc (n:Nat):Array Value:=madeCells (Value.agg #[.string ⟨#[]⟩,.int .i64 0,.int .i64 0,.string ⟨#[]⟩,.slice none 0 0,.slice none 0 0]).cells (n*6)
theorem yB (n:Nat)(hn:n<=1048576)(w:World):(Instr.makeSlice 57 (.int .i64 (n:Int)) (.int .i64 (n:Int))).run Tryz.prog w=.ok (.slice (some ⟨w.heap.size,0,none⟩) n n) (w.alloc (.cells (dc n) 67)):=by obtain⟨i,hi,hz⟩:=Option.map_eq_some_iff.1 fH;simp only[Prod.mk.injEq] at hz;obtain⟨c,d,b⟩:=hz;have h:=run_make (P:=Tryz.prog) w 57 67 i _ Tryz.underlying57 hi c .i64 .i64 n n (by omega) (Int.le_refl _) (by rw[b];omega) (by omega);rw[d] at h;simpa[dc] using h
def OwnDeed (w:World)(g n k:Nat)(f:Nat->ar):Prop :=
 ∃ (F:Nat->Value) (b c:Nat->Nat),w.rowIs g 67 (n*6) F/\∀ i,i<k->F (i*6)=.string (f i).name/\F (i*6+1)=.int .i64 (f i).kind/\F (i*6+2)=.int .i64 (f i).code/\F (i*6+3)=.string (f i).text/\(F (i*6+4)=.slice (some ⟨b i,0,none⟩) (f i).actN (f i).actN/\RowIns w (b i) 0 (f i).actN (f i).act/\g<b i)/\(F (i*6+5)=.slice (some ⟨c i,0,none⟩) (f i).linksN (f i).linksN/\RowLink w (c i) 0 (f i).linksN (f i).links/\g<c i)
theorem OwnDeed.lt {w:World}{g n k:Nat}{f:Nat->ar}(h:OwnDeed w g n k f):g<w.heap.size:=by obtain⟨F,G0,G1,b,_⟩:=h;exact b.lt
theorem OwnDeed.step {w:World}{g n k b c:Nat}{f:Nat->ar}(h:OwnDeed w g n k f)(m:RowIns w b 0 (f k).actN (f k).act)(j:g<b)(q:RowLink w c 0 (f k).linksN (f k).links)(d:g<c):OwnDeed ((((((w.setCell ⟨g,k*6,none⟩ (.string (f k).name)).setCell ⟨g,k*6+1,none⟩ (.int .i64 (f k).kind)).setCell ⟨g,k*6+2,none⟩ (.int .i64 (f k).code)).setCell ⟨g,k*6+3,none⟩ (.string (f k).text)).setCell ⟨g,k*6+4,none⟩ (.slice (some ⟨b,0,none⟩) (f k).actN (f k).actN)).setCell ⟨g,k*6+5,none⟩ (.slice (some ⟨c,0,none⟩) (f k).linksN (f k).linksN)) g n (k+1) f:=by
 obtain⟨F,p,u,o,hF⟩:=h;refine⟨_,fun i=>if i=k then b else p i,fun i=>if i=k then c else u i,((((((o.set _ _).set _ _).set _ _).set _ _).set _ _).set _ _),fun i hi=>?_⟩;by_cases e:i=k
 ·subst e
  exact⟨by simp,by simp,by simp,by simp,⟨by simp,by dsimp only;rw[if_pos rfl];exact((((((m).setOther _ (by first | (simp;omega) | simp) _).setOther _ (by first | (simp;omega) | simp) _).setOther _ (by first | (simp;omega) | simp) _).setOther _ (by first | (simp;omega) | simp) _).setOther _ (by first | (simp;omega) | simp) _).setOther _ (by first | (simp;omega) | simp) _,by dsimp only;rw[if_pos rfl];exact j⟩,⟨by simp,by dsimp only;rw[if_pos rfl];exact((((((q).setOther _ (by first | (simp;omega) | simp) _).setOther _ (by first | (simp;omega) | simp) _).setOther _ (by first | (simp;omega) | simp) _).setOther _ (by first | (simp;omega) | simp) _).setOther _ (by first | (simp;omega) | simp) _).setOther _ (by first | (simp;omega) | simp) _,by dsimp only;rw[if_pos rfl];exact d⟩⟩
 ·obtain⟨s,l,r,t,⟨s0,r0,u0⟩,⟨s1,r1,u1⟩⟩:=hF i (by omega)
  refine⟨?_,?_,?_,?_,?_,?_⟩
  ·show(if _ then _ else if _ then _ else if _ then _ else if _ then _ else if _ then _ else if _ then _ else _)=_
   rw[if_neg (by omega),if_neg (by omega),if_neg (by omega),if_neg (by omega),if_neg (by omega),if_neg (by omega),s]
  ·show(if _ then _ else if _ then _ else if _ then _ else if _ then _ else if _ then _ else if _ then _ else _)=_
   rw[if_neg (by omega),if_neg (by omega),if_neg (by omega),if_neg (by omega),if_neg (by omega),if_neg (by omega),l]
  ·show(if _ then _ else if _ then _ else if _ then _ else if _ then _ else if _ then _ else if _ then _ else _)=_
   rw[if_neg (by omega),if_neg (by omega),if_neg (by omega),if_neg (by omega),if_neg (by omega),if_neg (by omega),r]
  ·show(if _ then _ else if _ then _ else if _ then _ else if _ then _ else if _ then _ else if _ then _ else _)=_
   rw[if_neg (by omega),if_neg (by omega),if_neg (by omega),if_neg (by omega),if_neg (by omega),if_neg (by omega),t]
  ·dsimp only
   rw[if_neg e];refine⟨?_,((((((r0).setOther _ (by first | (simp;omega) | simp) _).setOther _ (by first | (simp;omega) | simp) _).setOther _ (by first | (simp;omega) | simp) _).setOther _ (by first | (simp;omega) | simp) _).setOther _ (by first | (simp;omega) | simp) _).setOther _ (by first | (simp;omega) | simp) _,u0⟩;show(if _ then _ else if _ then _ else if _ then _ else if _ then _ else if _ then _ else if _ then _ else _)=_;rw[if_neg (by omega),if_neg (by omega),if_neg (by omega),if_neg (by omega),if_neg (by omega),if_neg (by omega),s0]
  ·dsimp only
   rw[if_neg e];refine⟨?_,((((((r1).setOther _ (by first | (simp;omega) | simp) _).setOther _ (by first | (simp;omega) | simp) _).setOther _ (by first | (simp;omega) | simp) _).setOther _ (by first | (simp;omega) | simp) _).setOther _ (by first | (simp;omega) | simp) _).setOther _ (by first | (simp;omega) | simp) _,u1⟩;show(if _ then _ else if _ then _ else if _ then _ else if _ then _ else if _ then _ else if _ then _ else _)=_;rw[if_neg (by omega),if_neg (by omega),if_neg (by omega),if_neg (by omega),if_neg (by omega),if_neg (by omega),s1]
theorem OwnDeed.below {w c:World}{g n k:Nat}{f:Nat->ar}{B:Nat}(h:OwnDeed w g n k f)(hb:Below B w c)(b:w.heap.size<=B):OwnDeed c g n k f:=by have o:=h.lt;obtain⟨F,l,r,j,hF⟩:=h;refine⟨F,l,r,j.of_block (hb.block g (Nat.lt_of_lt_of_le o b)),fun i hi=>?_⟩;obtain⟨p,d,m,q,⟨s0,r0,u0⟩,⟨s1,r1,u1⟩⟩:=hF i hi;exact⟨p,d,m,q,⟨s0,r0.below hb b,u0⟩,⟨s1,r1.below hb b,u1⟩⟩
theorem OwnDeed.setOther {w:World}{g n k:Nat}{f:Nat->ar}(h:OwnDeed w g n k f)(p:Addr)(hp:p.block<g)(v:Value):OwnDeed (w.setCell p v) g n k f:=by obtain⟨F,j,o,c,hF⟩:=h;refine⟨F,j,o,c.setOther (by omega) v,fun i hi=>?_⟩;obtain⟨m,b,l,d,⟨s0,r0,u0⟩,⟨s1,r1,u1⟩⟩:=hF i hi;exact⟨m,b,l,d,⟨s0,r0.setOther p (by omega) v,u0⟩,⟨s1,r1.setOther p (by omega) v,u1⟩⟩
theorem OwnDeed.row {w:World}{g n:Nat}{f:Nat->ar}(h:OwnDeed w g n n f):RowDeed w g 0 n f:=by
 obtain⟨F,G0,G1,b,hF⟩:=h;refine⟨b.lt,fun i hi=>?_⟩;obtain⟨j,c,d,k,⟨s0,r0,u0⟩,⟨s1,r1,u1⟩⟩:=hF i hi;refine⟨?_,?_,?_,?_,?_,?_⟩
 ·rw[Nat.zero_add,b.cell (by omega),j]
 ·rw[Nat.zero_add,b.cell (by omega),c]
 ·rw[Nat.zero_add,b.cell (by omega),d]
 ·rw[Nat.zero_add,b.cell (by omega),k]
 ·exact⟨_,_,by rw[Nat.zero_add,b.cell (by omega),s0],r0.sl⟩
 ·exact⟨_,_,by rw[Nat.zero_add,b.cell (by omega),s1],r1.sl⟩
def eC (f:Nat->ar)(p:Nat)(l:Link):Bool :=
 aw l.name && (if l.ask=true then !l.has && decide (0<=l.at_) && decide (l.at_<(p:Int)) && ((f l.at_.toNat).name.toList == l.name.toList) else decide (l.at_=0))
def bQ (f:Nat->ar)(p:Nat)(x:ar):Nat->Bool
 | 0=>true
 | k+1=>bQ f p x k && eC f p (x.links k)
def aT (x:ar):Bool:=decide (x.code=0) && decide (x.actN=0) && decide (x.linksN=0)
def cj (f:Nat->ar)(p:Nat)(x:ar):Bool:=decide (0<=x.code) && decide (x.code<=5) && valid x.act x.actN && decide (x.linksN<=200) && bQ f p x x.linksN
def kindOk (f:Nat->ar)(p:Nat)(x:ar):Bool :=
 if x.kind=1 then aT x else if x.kind=2 then aT x && decide (x.text.size=0) else if x.kind=3 then cj f p x else false
def aZ (f:Nat->ar)(p:Nat):Bool:=aw (f p).name && decide ((f p).text.size<=2000) && kindOk f p (f p)
def aS (f:Nat->ar)(p:Nat):Nat->Bool
 | 0=>true
 | k+1=>aS f p k && !((f k).name.toList == (f p).name.toList)
def aG (g:Nat->Bool):Nat->Int
 | 0=>-1
 | k+1=>if aG g k=-1 then (if g k=true then -1 else k) else aG g k
theorem ez {g:Nat->Bool}{n:Nat}(h:∀ i,i<n->g i=true):aG g n=-1:=by
 induction n with
 | zero=>rfl
 | succ k b =>rw[aG,if_pos (b fun i hi=>h i (by omega)),if_pos (h k (by omega))]
theorem eF {g:Nat->Bool}{n i:Nat}(hi:i<n)(c:g i=false)(h:∀ j,j<i->g j=true):aG g n=i:=by
 induction n with
 | zero=>omega
 | succ k b =>
  rw[aG];by_cases e:i=k
  ·subst e
   rw[if_pos (ez h),if_neg (by rw[c];simp)]
  ·have:=b (by omega)
   rw[this,if_neg (by omega)]
theorem eG {g:Nat->Bool}{n:Nat}(h:aG g n=-1):∀ i,i<n->g i=true:=by
 induction n with
 | zero=>intro i hi;omega
 | succ k c =>
  rw[aG] at h;split at h
  ·rename_i b
   intro i hi;by_cases e:i=k
   ·subst e
    cases hg:g i with
    | true=>rfl
    | false=>rw[hg] at h;simp at h
   ·exact c b i (by omega)
  ·rename_i b
   exact absurd h b
theorem lI {f:Nat->ar}{p:Nat}{x:ar}{n:Nat}(h:bQ f p x n=true):∀ i,i<n->eC f p (x.links i)=true:=by
 induction n with
 | zero=>intro i hi;omega
 | succ k b =>
  simp only[bQ,Bool.and_eq_true] at h;intro i hi;by_cases e:i=k
  ·subst e;exact h.2
  ·exact b h.1 i (by omega)
def lks (go:Nat->Nat->(Nat->Bool)->(Nat->Bool) × List (Nat × Nat))(x:ar)(d:Nat)(s:Nat->Bool):Nat->(Nat->Bool) × List (Nat × Nat)
 | 0=>(s,[])
 | j+1=>if (x.links j).ask=true/\(lks go x d s j).1 (x.links j).at_.toNat=false then ((go (x.links j).at_.toNat (d+1) (lks go x d s j).1).1,(lks go x d s j).2++(go (x.links j).at_.toNat (d+1) (lks go x d s j).1).2) else lks go x d s j
def put (s:Nat->Bool)(p:Nat):Nat->Bool:=fun q=>q == p || s q
def lst (f:Nat->ar):Nat->Nat->Nat->(Nat->Bool)->(Nat->Bool) × List (Nat × Nat)
 | 0,_,_,s=>(s,[])
 | k+1,p,d,s=>(put (lks (lst f k) (f p) d s (f p).linksN).1 p,(lks (lst f k) (f p) d s (f p).linksN).2++[(p,d)])
def fa (f:Nat->ar)(n:Nat):Prop:=∀ p,p<n->∀ i,i<(f p).linksN->((f p).links i).ask=true->((f p).links i).at_.toNat<p/\0<=((f p).links i).at_
def cnt (s:Nat->Bool):Nat->Nat
 | 0=>0
 | k+1=>cnt s k+(if s k=true then 1 else 0)
theorem yD (s:Nat->Bool)(n:Nat):cnt s n<=n:=by
 induction n with
 | zero=>simp[cnt]
 | succ k ih=>rw[cnt];split<;>omega
theorem tV {s b:Nat->Bool}{n:Nat}(h:∀ q,q<n->s q=b q):cnt s n=cnt b n:=by
 induction n with
 | zero=>rfl
 | succ k c=>rw[cnt,cnt,c fun q hq=>h q (by omega),h k (by omega)]
theorem xD {s:Nat->Bool}{p n:Nat}(hp:p<n)(h:s p=false):cnt (put s p) n=cnt s n+1:=by
 induction n with
 | zero=>omega
 | succ k c =>
  rw[cnt,cnt];by_cases e:p=k
  ·subst e
   have b:cnt (put s p) p=cnt s p:=tV fun q hq=>by simp[put];omega
   simp[b,put,h]
  ·have b:put s p k=s k:=by simp[put];omega
   rw[c (by omega),b];omega
structure Lsd (n p d:Nat)(s:Nat->Bool)(r:(Nat->Bool) × List (Nat × Nat)):Prop where
 far:∀ q,p<q->r.1 q=s q
 old:∀ q,s q=true->r.1 q=true
 num:cnt r.1 n=cnt s n+r.2.length
 last:∃ o,r.2=o++[(p,d)]
 le:∀ x∈r.2,x.1<=p
theorem rE {f:Nat->ar}{n k p d:Nat}{s:Nat->Bool}(u:fa f n)(m:p<n)(go:∀ q d s,q<p->s q=false->Lsd n q d s (lst f k q d s)):∀ j,j<=(f p).linksN->(∀ q,p<=q->(lks (lst f k) (f p) d s j).1 q=s q)/\(∀ q,s q=true->(lks (lst f k) (f p) d s j).1 q=true)/\cnt (lks (lst f k) (f p) d s j).1 n=cnt s n+(lks (lst f k) (f p) d s j).2.length/\∀ x∈(lks (lst f k) (f p) d s j).2,x.1<p
 | 0,_=>⟨fun _ _=>rfl,fun _ h=>h,by simp[lks],by simp[lks]⟩
 | j+1,hj=>by
  obtain⟨t,o,i,r⟩:=rE (d:=d) (s:=s) u m go j (by omega);rw[lks];split
  ·rename_i l
   have y:=(u p m j (by omega) l.1).1;have g:=go _ (d+1) _ y l.2;refine⟨fun q c=>(g.far q (by omega)).trans (t q c),fun q c=>g.old q (o q c),?_,fun x b=>?_⟩
   ·show cnt (lst f k _ (d+1) _).1 n=_
    rw[g.num,i,List.length_append];omega
   ·rcases List.mem_append.1 b with b | b
    ·exact r x b
    ·have:=g.le x b
     omega
  ·exact⟨t,o,i,r⟩
theorem rF {f:Nat->ar}{n:Nat}(j:fa f n):∀ k p d s,p<k->p<n->s p=false->Lsd n p d s (lst f k p d s)
 | 0,_,_,_,h,_,_=>absurd h (Nat.not_lt_zero _)
 | k+1,p,d,s,hk,hn,g=>by
  obtain⟨i,o,m,r⟩:=rE (d:=d) (s:=s) j hn (fun q d s c g=>rF j k q d s (by omega) (by omega) g) (f p).linksN (Nat.le_refl _);have l:=(i p (Nat.le_refl _)).trans g;refine⟨fun q c=>?_,fun q c=>?_,?_,⟨_,rfl⟩,fun x b=>?_⟩
  ·show put _ p q=s q
   rw[put,i q (by omega)];simp;omega
  ·show put _ p q=true
   rw[put,o q c];simp
  ·show cnt (put _ p) n=_
   rw[xD hn l,m];simp[lst,List.length_append];omega
  ·rcases List.mem_append.1 b with b | b
   ·exact Nat.le_of_lt (r x b)
   ·simp at b
    subst b;exact Nat.le_refl _
theorem rG {f:Nat->ar}{n:Nat}(g:fa f n):∀ k p d s q,p<n->p<q->lst f k p d (put s q)=(put (lst f k p d s).1 q,(lst f k p d s).2)
 | 0,_,_,_,_,_,_=>rfl
 | k+1,p,d,s,q,hn,hq=>by
  have c:∀ j,j<=(f p).linksN->lks (lst f k) (f p) d (put s q) j=(put (lks (lst f k) (f p) d s j).1 q,(lks (lst f k) (f p) d s j).2):=by
   intro j;induction j with
   | zero=>intro _;rfl
   | succ j l =>
    intro hj;have e:=l (by omega);rw[lks,lks,e];by_cases b:((f p).links j).ask=true
    ·have ha:=(g p hn j (by omega) b).1
     have i:put (lks (lst f k) (f p) d s j).1 q ((f p).links j).at_.toNat=(lks (lst f k) (f p) d s j).1 ((f p).links j).at_.toNat:=by simp[put];omega
     simp only[i,b,true_and];split
     ·rw[rG g k _ (d+1) _ q (by omega) (by omega)]
     ·rfl
    ·rw[if_neg (fun h=>b h.1),if_neg (fun h=>b h.1)]
  have e:=c (f p).linksN (Nat.le_refl _);rw[lst,lst,e];simp only[Prod.mk.injEq,and_true];funext x;simp only[put];cases h1:x == p<;>cases h2:x == q<;>simp
def bj:Nat->List (Nat × Nat)->Int
 | _,[]=>-1
 | i,x :: xs=>if x.1=i then bj (i+1) xs else i
def aW (f:Nat->ar):List (Nat × Nat)->Int
 | []=>-1
 | x :: xs=>if (f x.1).kind=3/\60<=x.2 then x.1 else aW f xs
def aE (f:Nat->ar)(n:Nat):List (Nat × Nat):=(lst f n (n - 1) 0 (fun _=>false)).2
def dy (f:Nat->ar)(n:Nat):Int × Int :=
 if n=0∨400<n then (1,0) else
 if aG (aZ f) n≠-1 then (2,aG (aZ f) n) else
 if aG (fun p=>aS f p p) n≠-1 then (3,aG (fun p=>aS f p p) n) else
 if bj 0 (aE f n)≠-1 then (4,bj 0 (aE f n)) else
 if aW f (aE f n)≠-1 then (5,aW f (aE f n)) else (0,0)
theorem gK {f:Nat->ar}{n:Nat}(h:aG (aZ f) n=-1):fa f n:=by
 intro p d i hi j;have c:=eG h p d;simp only[aZ,Bool.and_eq_true,kindOk] at c;obtain⟨_,b⟩:=c;split at b
 ·simp[aT] at b
  omega
 ·split at b
  ·simp[aT] at b
   omega
  ·split at b
   ·simp only[cj,Bool.and_eq_true] at b
    have g:=lI b.2 i hi;simp only[eC,j,if_true,Bool.and_eq_true,decide_eq_true_eq] at g;omega
   ·cases b
theorem qE (s:ByteArray)(w:World):Calls Tryz.prog 81 #[.string s] w fun e j=>e=.returned (.bool (aw s))/\j=w:=by
 by_cases h1:1<=(s.size:Int)
 ·by_cases h2:(s.size:Int)<=60
  ·have f:Hid (aw s=cU s s.size):=by
    show aw s=cU s s.size;unfold aw;rw[show decide (1<=s.size/\s.size<=60)=true by simp;omega,Bool.true_and]
   go_enter Tryz.func81,Tryz.ntmps81;go_wp2;go_loopw [14] (fun i wr=>∃ k:Nat,k<=s.size/\i=.int .i64 k/\cU s k=true/\wr=w) (fun i _=>s.size - (intOf i).toNat);case atStart=>exact⟨0,by omega,rfl,rfl,rfl⟩
   case round =>
    obtain⟨k,hk,rfl,d,h⟩:=hrel;have c:=ae h;have g:=ae d;clear h d;by_cases b:k<s.size
    ·by_cases p1:33<=(s[k].toNat:Int)
     ·by_cases p2:(s[k].toNat:Int)<=126
      ·go_wp2
       exact⟨⟨k+1,by omega,by go_num,by rw[fR b,g.out];simp;omega,c.out⟩,by simp[intOf];omega⟩
      ·go_wp2
       go_ret;exact⟨bW (by rw[f.out,dS b (by omega)]),c.out⟩
     ·go_wp2
      go_ret;exact⟨bW (by rw[f.out,dS b (by omega)]),c.out⟩
    ·have e:k=s.size:=by omega
     subst e;go_wp2;go_ret;exact⟨bW (by rw[f.out,g.out]),c.out⟩
  ·have e:aw s=false:=by
    unfold aw;rw[show decide (1<=s.size/\s.size<=60)=false by simp;omega,Bool.false_and]
   rw[e];clear e;go_enter Tryz.func81,Tryz.ntmps81;go_wp2;go_ret;exact⟨rfl,rfl⟩
 ·have e:aw s=false:=by
   unfold aw;rw[show decide (1<=s.size/\s.size<=60)=false by simp;omega,Bool.false_and]
  rw[e];clear e;go_enter Tryz.func81,Tryz.ntmps81;go_wp2;go_ret;exact⟨rfl,rfl⟩
end Go.Proofs.YtkophfgkcijjkaaGreatDoor.Vp
