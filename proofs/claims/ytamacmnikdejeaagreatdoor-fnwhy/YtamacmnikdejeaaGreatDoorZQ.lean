import Derived.Test.YtamacmnikdejeaaGreatDoorZM
import Derived.Sort.Walk0
set_option maxRecDepth 100000
set_option maxHeartbeats 16000000
set_option linter.unusedSimpArgs false
open Go.Addr renaming mk->T
open Go.Value renaming slice->Y,string->U,int->I,agg->QV
open Option renaming none->Z,some->N
open Go.Obj renaming cells->Q
open Go.IntKind renaming i64->J
open Go renaming World->H
open Bool renaming false->QQ,true->QR
open Go.Ending renaming returned->QU
namespace Go.Proofs.YtamacmnikdejeaaGreatDoor.Vp
open RowKit Go.Sort
abbrev aL (a b:ByteArray):Bool:=Op.bytesLess a.toList b.toList
theorem kj {a b c:ByteArray}(h1:aL a b=QR)(h2:aL b c=QR):aL a c=QR:=by simp only[aL,bytesLess_eq,kP] at *;exact List.lt_trans h1 h2
theorem mJ (a:ByteArray):aL a a=QQ:=by simp only[aL,bytesLess_eq,JX];exact MX _
theorem pk {g:Nat->ByteArray}{n:Nat}(h:bQ g n=QR){i j:Nat}(hij:i<j)(hj:j<n):aL (g i) (g j)=QR:=by
 induction j with
 | zero=>omega
 | succ m b =>
  have h2:=gL (show m+2<=n by omega) h;simp only[bQ,gB] at h2;by_cases e:i=m
  ·subst e;exact h2.2
  ·exact kj (b (by omega) (by omega)) h2.2
def bF (g:Nat->ByteArray)(n:Nat)(t:ByteArray):Bool:=(List.range n).any fun i=>(g i).toList == t.toList
end Go.Proofs.YtamacmnikdejeaaGreatDoor.Vp
namespace Go.Proofs.YtamacmnikdejeaaGreatDoor.Vp
open RowKit
theorem qV (g:Nat->ByteArray)(t:ByteArray):bF g 0 t=QQ:=rfl
def bT (p:Nat->Bool):Nat->Bool
 | 0=>QQ
 | k+1=>bT p k || p k
theorem eJ {p:Nat->Bool}{k n:Nat}(h:k<n)(b:p k=QR):bT p n=QR:=by
 induction n with
 | zero=>omega
 | succ m c =>
  by_cases e:k=m
  ·subst e;simp[bT,b]
  ·simp[bT,c (by omega)]
def jT (x:Source):Bool:=decide (2000<(x.text.size:Int))
def dE (x:Target):Bool:=!valid x.act x.actN
abbrev nm0 (f0:Nat->Source):Nat->ByteArray:=fun i=>(f0 i).name
abbrev nm1 (f1:Nat->Target):Nat->ByteArray:=fun i=>(f1 i).name
def bw (n0:Nat)(f0:Nat->Source)(n1:Nat)(f1:Nat->Target):Int :=
 if 200<n0+n1 then 1 else if cE (nm0 f0) n0=QQ then 2 else if cE (nm1 f1) n1=QQ then 2 else if bQ (nm0 f0) n0=QQ then 3 else if bQ (nm1 f1) n1=QQ then 4
 else if bT (fun i=>bF (nm1 f1) n1 (nm0 f0 i)) n0=QR then 5 else if bT (fun i=>jT (f0 i)) n0=QR then 6 else if bT (fun i=>dE (f1 i)) n1=QR then 7 else 0
theorem jU (g:Nat->ByteArray)(k:Nat)(t:ByteArray):bF g (k+1) t=(bF g k t || ((g k).toList == t.toList)):=by simp[bF,KV]
theorem fe {g:Nat->ByteArray}{k n:Nat}{t:ByteArray}(h:k<n)(b:((g k).toList == t.toList)=QR):bF g n t=QR:=by simp only[bF,LM,H7];exact⟨k,h,b⟩
theorem sQ (a0:Option Addr)(n0 c0 b off n1 c1:Nat)(f1:Nat->Target)(t:ByteArray)(w:H)(hn1:(n1:Int)<=1048576)(h:RowTarget w b off n1 f1):Calls Tryz.prog 74 #[QV #[Y a0 n0 c0,Y (N (T b off Z)) n1 c1],U t] w fun e o=>∃ r:Int,e=QU (I J r)/\decide (0<=r)=bF (nm1 f1) n1 t/\Below w.heap.size w o:=by
 have c:=ae ((q9 w).alloc ly (Q #[Y a0 n0 c0,Y (N (T b off Z)) n1 c1] 29));have l:=ae (h.below c ly);have n:(w.alloc (Q #[Y a0 n0 c0,Y (N (T b off Z)) n1 c1] 29)).cell? (T w.heap.size 1 Z)=N (Y (N (T b off Z)) n1 c1):=by simp
 clear h;go_enter Tryz.func74,Tryz.ntmps74;go_wp2;generalize w.alloc (Q #[Y a0 n0 c0,Y (N (T b off Z)) n1 c1] 29)=W at c l n ⊢;go_loop [5] (fun i=>∃ k:Nat,k<=n1/\i=I J k/\Hid (bF (nm1 f1) k t=QQ)) (fun i=>n1 - (intOf i).toNat);case atStart=>exact⟨0,by omega,rfl,rfl⟩
 case round =>
  obtain⟨k,hk,rfl,m⟩:=hrel;by_cases f:k<n1
  ·obtain⟨d0,ka,kc,d1,_⟩:=l.2 k f
   cases hb:((f1 k).name.toList == t.toList) with
   | true =>have j:=ae hb;go_wp2;go_ret;exact⟨k,rfl,by rw[fe (g:=nm1 f1) f j.out];simp,c.out⟩
   | false =>have j:=ae hb;go_wp2;exact⟨⟨k+1,by omega,by go_num,by show bF (nm1 f1) (k+1) t=QQ;rw[jU,m.out];exact j⟩,by simp[intOf];omega⟩
  ·have e:k=n1:=by omega
   subst e;go_wp2;go_ret;exact⟨-1,rfl,by rw[m.out];rfl,c⟩
theorem ew {a b:ByteArray}(h:a.toList=b.toList):a=b:=by rw[D0,D0] at h;exact PO (Array.toList_inj.1 h)
theorem bytes_beq {a b:ByteArray}(h:(a.toList == b.toList)=QR):a=b:=ew (by simpa using h)
theorem asc_one {g:Nat->ByteArray}{n i j:Nat}{t:ByteArray}(b:bQ g n=QR)(hi:i<n)(l:j<n)(h1:((g i).toList == t.toList)=QR)(h2:((g j).toList == t.toList)=QR):i=j:=by
 have f:=bytes_beq h1;have c:=bytes_beq h2;rcases Nat.lt_trichotomy i j with h | h | h
 ·have:=pk b h l
  rw[f,c,mJ] at this;cases this
 ·exact h
 ·have:=pk b h hi
  rw[f,c,mJ] at this;cases this
theorem gE {p:Nat->Bool}{n:Nat}(h:bT p n=QR):∃ k,k<n/\p k=QR:=by
 induction n with
 | zero=>simp[bT] at h
 | succ m c =>
  simp only[bT,Bool.or_eq_true] at h;rcases h with h | h
  ·obtain⟨k,hk,b⟩:=c h
   exact⟨k,by omega,b⟩
  ·exact⟨m,by omega,h⟩
theorem sR {g:Nat->ByteArray}{n:Nat}{t:ByteArray}(h:bF g n t=QR):∃ k,k<n/\((g k).toList == t.toList)=QR:=by simp only[bF,LM,H7] at h;exact h
theorem yY {n0:Nat}{f0:Nat->Source}{n1:Nat}{f1:Nat->Target}(h:bw n0 f0 n1 f1=0):bQ (nm0 f0) n0=QR/\bQ (nm1 f1) n1=QR/\n0+n1<=200:=by
 unfold bw at h;split at h;· omega
 split at h;· omega
 split at h;· omega
 split at h;· omega
 split at h;· omega
 rename_i h0 _ _ c b;exact⟨by simpa using c,by simpa using b,by omega⟩
def fS (n0:Nat)(f0:Nat->Source)(n1:Nat)(f1:Nat->Target)(t:ByteArray):Bool:=bF (nm0 f0) n0 t || bF (nm1 f1) n1 t
def lA (n0:Nat)(f0:Nat->Source)(t x:ByteArray):Bool:=bT (fun i=>((nm0 f0 i).toList == t.toList) && ((f0 i).text.toList == x.toList)) n0
def jy (n1:Nat)(f1:Nat->Target)(t:ByteArray)(n:Nat)(f:Nat->Ins):Bool:=bT (fun i=>((nm1 f1 i).toList == t.toList) && bu (f1 i).act f (f1 i).actN n) n1
def oA (n0:Nat)(f0:Nat->Source)(n1:Nat)(f1:Nat->Target)(d:aj):Bool :=
 if d.kind=1 then !lA n0 f0 d.name d.text else if d.kind=3 then !jy n1 f1 d.name d.actN d.act else fS n0 f0 n1 f1 d.name
def sS (n0:Nat)(f0:Nat->Source)(n1:Nat)(f1:Nat->Target)(l:Link):Bool:=!l.ask && !(l.has == fS n0 f0 n1 f1 l.name)
def hasB (n0:Nat)(f0:Nat->Source)(n1:Nat)(f1:Nat->Target)(d:aj):Bool:=bT (fun k=>sS n0 f0 n1 f1 (d.links k)) d.linksN
theorem slS {w:H}{a:Option Addr}{n:Nat}{f:Nat->Source}(h:SlSource w a n f)(hn:n≠0):∃ b off,a=N (T b off Z)/\RowSource w b off n f:=h.resolve_left hn
theorem slT {w:H}{a:Option Addr}{n:Nat}{f:Nat->Target}(h:SlTarget w a n f)(hn:n≠0):∃ b off,a=N (T b off Z)/\RowTarget w b off n f:=h.resolve_left hn
theorem bx2 {w W b:H}{u v:Value}(z:w.heap.size<W.heap.size)(g:W.cell? (T w.heap.size 0 Z)=N u)(f:W.cell? (T w.heap.size 1 Z)=N v)(A:Hid (Below w.heap.size w W))(c:Below W.heap.size W b):b.cell? (T w.heap.size 0 Z)=N u/\b.cell? (T w.heap.size 1 Z)=N v/\w.heap.size<b.heap.size/\Hid (Below w.heap.size w b) :=
 ⟨(c.cell (p:=(T w.heap.size 0 Z)) z).trans g,(c.cell (p:=(T w.heap.size 1 Z)) z).trans f,lj z c.size,A.trans (c.mono A.size)⟩
theorem sT (a0:Option Addr)(n0 c0:Nat)(a1:Option Addr)(c1:Nat)(g:Nat->ByteArray)(t:ByteArray)(w:H):Calls Tryz.prog 74 #[QV #[Y a0 n0 c0,Y a1 0 c1],U t] w fun e b=>∃ r:Int,e=QU (I J r)/\decide (0<=r)=bF g 0 t/\Below w.heap.size w b:=by
 have c:=ae ((q9 w).alloc ly (Q #[Y a0 n0 c0,Y a1 0 c1] 29));go_enter Tryz.func74,Tryz.ntmps74;go_wp2;go_loop [5] (fun i=>i=I J 0) (fun _=>0);case atStart=>rfl
 case round =>subst hrel;go_wp2;go_ret;exact⟨-1,rfl,by rw[qV];rfl,c⟩
theorem mK (a0:Option Addr)(n0 c0:Nat)(a1:Option Addr)(n1 c1:Nat)(f1:Nat->Target)(t:ByteArray)(w:H)(hn1:(n1:Int)<=1048576)(c:SlTarget w a1 n1 f1):Calls Tryz.prog 74 #[QV #[Y a0 n0 c0,Y a1 n1 c1],U t] w fun e g=>∃ r:Int,e=QU (I J r)/\decide (0<=r)=bF (nm1 f1) n1 t/\Below w.heap.size w g:=by
 rcases c with rfl | ⟨b,off,rfl,f⟩
 ·exact sT a0 n0 c0 a1 c1 (nm1 f1) t w
 ·exact sQ a0 n0 c0 b off n1 c1 f1 t w hn1 f
theorem fs (a0:Option Addr)(n0 c0:Nat)(f0:Nat->Source)(a1:Option Addr)(n1 c1:Nat)(f1:Nat->Target)(w:H)(hn0:(n0:Int)<=1048576)(hn1:(n1:Int)<=1048576)(la:SlSource w a0 n0 f0)(ld:SlTarget w a1 n1 f1)(W:∀ i,i<n1->bP (f1 i))(hs:∀ i,i<n1->∀ j,j<(f1 i).actN->((f1 i).act j).s.size<=maxLen):Calls Tryz.prog 43 #[QV #[Y a0 n0 c0,Y a1 n1 c1]] w fun e w'=>e=QU (I J (bw n0 f0 n1 f1))/\Below w.heap.size w w':=by
 have V0:=ae la;have R:=ae ld;have HF:=ae W;have HS:=ae hs;clear la ld W hs;obtain⟨C,hC⟩:∃ C,C=bw n0 f0 n1 f1:=⟨_,rfl⟩
 rw[<-hC];unfold bw at hC;have HC:=ae hC;clear hC;have A0:=ae ((q9 w).alloc ly (Q #[Y a0 n0 c0,Y a1 n1 c1] 29));have B:(w.alloc (Q #[Y a0 n0 c0,Y a1 n1 c1] 29)).cell? (T w.heap.size 0 Z)=N (Y a0 n0 c0):=by simp
 have L:(w.alloc (Q #[Y a0 n0 c0,Y a1 n1 c1] 29)).cell? (T w.heap.size 1 Z)=N (Y a1 n1 c1):=by simp
 have z0:w.heap.size<(w.alloc (Q #[Y a0 n0 c0,Y a1 n1 c1] 29)).heap.size:=by simp
 go_enter Tryz.func43,Tryz.ntmps43;by_cases h1:(200:Int)<n0+n1
 ·have c:=HC.out
  rw[gA (by omega)] at c;subst c;go_wp2;go_ret;exact⟨rfl,A0⟩
 have Q2:=HC.out;rw[eI (by omega)] at Q2;have S:=ae Q2;clear Q2 HC;go_wp2;generalize w.alloc (Q #[Y a0 n0 c0,Y a1 n1 c1] 29)=W0 at A0 B L z0 ⊢;go_loopw [5] (fun i wr=>∃ k:Nat,k<=n0/\i=I J k/\Hid (cE (nm0 f0) k=QR)/\Below W0.heap.size W0 wr) (fun i _=>n0 - (intOf i).toNat);case atStart=>exact⟨0,by omega,rfl,rfl,eL _ _⟩
 case round =>
  obtain⟨k,O,rfl,n,m⟩:=hrel;obtain⟨z,ZA,z1,A1⟩:=bx2 z0 B L A0 m;have o:=ae m;clear m;by_cases f:k<n0
  ·obtain⟨b,off,rfl,h⟩:=slS V0 (by omega)
   obtain⟨u,x⟩:=(h.2 k f).below A1 h.1;clear h B L;go_wp2_with fail;refine(cY _ _).mono ?_;rintro e w1 ⟨rfl,q⟩;have t:=ae (o.trans (q.mono o.size));clear q;cases l:av (f0 k).name with
   | true =>have p:=ae l;clear l;go_wp2;exact⟨⟨k+1,by omega,by go_num,by show cE (nm0 f0) (k+1)=QR;simp[cE,n.out,p.out],t.out⟩,by simp[intOf];omega⟩
   | false =>have p:=ae l;have c:=S.out;rw[gA (mC (g:=(nm0 f0)) f p.out)] at c;subst c;clear l;go_wp2;go_ret;exact⟨rfl,A0.trans (t.mono A0.size)⟩
  ·have e:n0=k:=by omega
   subst e;have c:=S.out;rw[eI (by simp[n.out])] at c;have fd:=ae c;clear c S n o B L;go_wp2;generalize wr=W1 at z ZA z1 A1 ⊢;go_loopw [6] (fun i wr=>∃ k:Nat,k<=n1/\i=I J k/\Hid (cE (nm1 f1) k=QR)/\Below W1.heap.size W1 wr) (fun i _=>n1 - (intOf i).toNat);case atStart=>exact⟨0,by omega,rfl,rfl,eL _ _⟩
   case round =>
    obtain⟨k,O,rfl,n,m⟩:=hrel;obtain⟨A,D,z2,QW⟩:=bx2 z1 z ZA A1 m;have o:=ae m;clear m;by_cases f:k<n1
    ·obtain⟨b,off,rfl,h⟩:=slT R (by omega)
     obtain⟨u,ka,kc,x,_⟩:=(h.2 k f).below QW ly h.1;clear h z ZA;go_wp2_with fail;refine(cY _ _).mono ?_;rintro e w1 ⟨rfl,q⟩;have t:=ae (o.trans (q.mono o.size));clear q;cases l:av (f1 k).name with
     | true =>have p:=ae l;clear l;go_wp2;exact⟨⟨k+1,by omega,by go_num,by show cE (nm1 f1) (k+1)=QR;simp[cE,n.out,p.out],t.out⟩,by simp[intOf];omega⟩
     | false =>have p:=ae l;have c:=fd.out;rw[gA (mC (g:=(nm1 f1)) f p.out)] at c;subst c;clear l;go_wp2;go_ret;exact⟨rfl,A1.trans (t.mono A1.size)⟩
    ·have e:n1=k:=by omega
     subst e;have c:=fd.out;rw[eI (by simp[n.out])] at c;have QY:=ae c;clear c fd n o z ZA;go_wp2;generalize wr=W2 at A D z2 QW ⊢;go_loopw [7] (fun i wr=>∃ k:Nat,(k+1<=n0∨k=0)/\i=I J ((k:Int)+1)/\Hid (bQ (nm0 f0) (k+1)=QR)/\Below W2.heap.size W2 wr) (fun i _=>n0+1 - (intOf i).toNat);case atStart=>exact⟨0,.inr rfl,rfl,rfl,eL _ _⟩
     case round =>
      obtain⟨k,O,rfl,n,m⟩:=hrel;obtain⟨Q9,K,z3,QZ⟩:=bx2 z2 A D QW m;have o:=ae m;clear m;by_cases f:k+1<n0
      ·obtain⟨b,off,rfl,h⟩:=slS V0 (by omega)
       obtain⟨u,x⟩:=(h.2 k (by omega)).below QZ h.1;obtain⟨e0,e1⟩:=(h.2 (k+1) f).below QZ h.1;have mv:(k:Int)+1<n0:=by omega
       clear h A D;go_wp2_with fail;go_quiet (fail);have t:=ae (F6 o nq);clear u x e0 e1;generalize wr.drewN nq=X at t ⊢;cases l:Op.bytesLess (f0 k).name.toList (f0 (k+1)).name.toList with
       | true =>have p:=ae l;clear l;go_wp2;exact⟨⟨k+1,.inl (by omega),by go_num,by show bQ (nm0 f0) (k+2)=QR;simp[bQ,n.out,p.out],t.out⟩,by simp[intOf];omega⟩
       | false =>have p:=ae l;have c:=QY.out;rw[gA (nQ (g:=(nm0 f0)) f p.out)] at c;subst c;clear l;go_wp2;go_ret;exact⟨rfl,QW.trans (t.mono QW.size)⟩
      ·have n8:¬ (k:Int)+1<n0:=by omega
       have c:=QY.out;rw[eI (by simp[gL (show n0<=k+1 by omega) n.out])] at c;have V:=ae c;clear c QY n o A D;go_wp2;generalize wr=W3 at Q9 K z3 QZ ⊢;go_loopw [8] (fun i wr=>∃ k:Nat,(k+1<=n1∨k=0)/\i=I J ((k:Int)+1)/\Hid (bQ (nm1 f1) (k+1)=QR)/\Below W3.heap.size W3 wr) (fun i _=>n1+1 - (intOf i).toNat);case atStart=>exact⟨0,.inr rfl,rfl,rfl,eL _ _⟩
       case round =>
        obtain⟨k,O,rfl,n,m⟩:=hrel;obtain⟨M,G,z4,P⟩:=bx2 z3 Q9 K QZ m;have o:=ae m;clear m;by_cases f:k+1<n1
        ·obtain⟨b,off,rfl,h⟩:=slT R (by omega)
         obtain⟨u,ka,kc,x,_⟩:=(h.2 k (by omega)).below P ly h.1;obtain⟨e0,kb,kd,e1,_⟩:=(h.2 (k+1) f).below P ly h.1;have mv:(k:Int)+1<n1:=by omega
         clear h Q9 K;go_wp2_with fail;go_quiet (fail);have t:=ae (F6 o nq);clear u x e0 e1;generalize wr.drewN nq=X at t ⊢;cases l:Op.bytesLess (f1 k).name.toList (f1 (k+1)).name.toList with
         | true =>have p:=ae l;clear l;go_wp2;exact⟨⟨k+1,.inl (by omega),by go_num,by show bQ (nm1 f1) (k+2)=QR;simp[bQ,n.out,p.out],t.out⟩,by simp[intOf];omega⟩
         | false =>have p:=ae l;have c:=V.out;rw[gA (nQ (g:=(nm1 f1)) f p.out)] at c;subst c;clear l;go_wp2;go_ret;exact⟨rfl,QZ.trans (t.mono QZ.size)⟩
        ·have n8:¬ (k:Int)+1<n1:=by omega
         have c:=V.out;rw[eI (by simp[gL (show n1<=k+1 by omega) n.out])] at c;have aq:=ae c;clear c V n o Q9 K;go_wp2;generalize wr=W4 at M G z4 P ⊢;go_loopw [9] (fun i wr=>∃ k:Nat,k<=n0/\i=I J k/\Hid (bT (fun i=>bF (nm1 f1) n1 (nm0 f0 i)) k=QQ)/\Below W4.heap.size W4 wr) (fun i _=>n0 - (intOf i).toNat);case atStart=>exact⟨0,by omega,rfl,rfl,eL _ _⟩
         case round =>
          obtain⟨k,O,rfl,n,m⟩:=hrel;obtain⟨ZB,F,z5,y⟩:=bx2 z4 M G P m;have o:=ae m;clear m;by_cases f:k<n0
          ·obtain⟨b,off,rfl,h⟩:=slS V0 (by omega)
           obtain⟨u,x⟩:=(h.2 k f).below y h.1;clear h M G;go_wp2_with fail;go_region_with (go_at_call 74;refine(mK (N (T b off Z)) n0 c0 a1 n1 c1 f1 (f0 k).name _ hn1 ?_).mono ?_;(first | exact R.below y ly | exact R.below y.drew ly);rintro e w1 ⟨r,rfl,hd,q⟩;have HD:=ae hd;clear hd;have t:Hid (Below wr.heap.size wr w1):=⟨q.os,q.tape,q.output,q.size,q.block⟩;clear q);all_goals
            have B2:=ae (o.trans (t.mono o.size));clear u x t;by_cases l:0<=r
            ·have c:=aq.out
             rw[gA (eJ f (by have:=HD.out;rw[QJ l] at this;exact this.symm))] at c;subst c;go_wp2;go_ret;exact⟨rfl,P.trans (B2.mono P.size)⟩
            ·have p:=ae l
             go_wp2;exact⟨⟨k+1,by omega,by go_num,by show bT _ (k+1)=QQ;have:=HD.out;rw[decide_eq_false p.out] at this;simp[bT,n.out,<-this],B2.out⟩,by simp[intOf];omega⟩
          ·have e:n0=k:=by omega
           subst e;have c:=aq.out;rw[eI (by simp[n.out])] at c;have bt:=ae c;clear c aq n o M G;go_wp2;generalize wr=W5 at ZB F z5 y ⊢;go_loopw [10] (fun i wr=>∃ k:Nat,k<=n0/\i=I J k/\Hid (bT (fun i=>jT (f0 i)) k=QQ)/\Below W5.heap.size W5 wr) (fun i _=>n0 - (intOf i).toNat);case atStart=>exact⟨0,by omega,rfl,rfl,eL _ _⟩
           case round =>
            obtain⟨k,O,rfl,n,m⟩:=hrel;obtain⟨QX,Q0,z6,A6⟩:=bx2 z5 ZB F y m;have o:=ae m;clear m;by_cases f:k<n0
            ·obtain⟨b,off,rfl,h⟩:=slS V0 (by omega)
             obtain⟨u,x⟩:=(h.2 k f).below A6 h.1;clear h ZB F;by_cases l:(2000:Int)<(f0 k).text.size
             ·have c:=bt.out
              rw[gA (eJ f (by simpa[jT] using l))] at c;subst c;go_wp2;go_ret;exact⟨rfl,y.trans (o.mono y.size)⟩
             ·have p:Hid (jT (f0 k)=QQ):=decide_eq_false l
              go_wp2;exact⟨⟨k+1,by omega,by go_num,by show bT _ (k+1)=QQ;simp[bT,n.out,p.out],o.out⟩,by simp[intOf];omega⟩
            ·have e:n0=k:=by omega
             subst e;have c:=bt.out;rw[eI (by simp[n.out])] at c;have n9:=ae c;clear c bt n o ZB F;go_wp2;generalize wr=W6 at QX Q0 z6 A6 ⊢;go_loopw [11,4] (fun i v wr=>∃ (k:Nat) (r:Int),k<=n1/\i=I J k/\v=I J r/\Hid (r=if bT (fun i=>dE (f1 i)) k=QR then 7 else 0)/\Below W6.heap.size W6 wr) (fun i _ _=>n1 - (intOf i).toNat);case atStart=>exact⟨0,0,by omega,rfl,rfl,rfl,eL _ _⟩
             case round =>
              obtain⟨k,r,O,rfl,rfl,n,m⟩:=hrel;obtain⟨k70,k71,z7,A7⟩:=bx2 z6 QX Q0 A6 m;have o:=ae m;clear m;by_cases f:k<n1
              ·obtain⟨b,off,rfl,h⟩:=slT R (by omega)
               obtain⟨u,ka,kc,x,hx⟩:=(h.2 k f).below A7 ly h.1;have HX:=ae hx;clear h hx QX Q0;go_wp2_with fail;refine(jv ka (f1 k).actN kc (f1 k).act _ (HF k f) HX (HS k f)).mono ?_;rintro e w1 ⟨rfl,q⟩;have t:=ae (o.trans (q.mono o.size));clear q u x;cases l:valid (f1 k).act (f1 k).actN with
               | true =>
                have p:=ae l;clear l;have E:Hid (bT (fun i=>dE (f1 i)) (k+1)=bT (fun i=>dE (f1 i)) k):=by show(bT _ k || dE (f1 k))=_;rw[show dE (f1 k)=QQ by unfold dE;rw[p.out];rfl,Bool.or_false]
                go_wp2;exact⟨⟨k+1,r,by omega,by go_num,rfl,by show r=_;rw[E.out];exact n,t⟩,by simp[intOf];omega⟩
               | false =>
                have p:=ae l;clear l;have E:Hid (bT (fun i=>dE (f1 i)) (k+1)=QR):=by show(bT _ k || dE (f1 k))=_;rw[show dE (f1 k)=QR by unfold dE;rw[p.out];rfl,QG]
                go_wp2;exact⟨⟨k+1,7,by omega,by go_num,rfl,by show(7:Int)=_;rw[gA E.out],t.out⟩,by simp[intOf];omega⟩
              ·have e:n1=k:=by omega
               subst e;have c:=n9.out;rw[<-n.out] at c;subst c;go_wp2;go_ret;exact⟨rfl,A6.trans (o.mono A6.size)⟩
end Go.Proofs.YtamacmnikdejeaaGreatDoor.Vp
