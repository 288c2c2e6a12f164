import Derived.Test.YtoddkejemcbkmaaGreatDoorSL
import Derived.Sort.Walk0
set_option maxRecDepth 100000
set_option maxHeartbeats 16000000
set_option linter.unusedSimpArgs false
open Go renaming Addr.mk->Q,Value.slice->Z,Value.string->U,Value.int->J,Obj.cells->N,IntKind.i64->I,World->M,Ending.returned->ZF
open Option renaming none->Y,some->T
open Bool renaming false->ZA,true->ZG
namespace Go.Proofs.YtoddkejemcbkmaaGreatDoor.Vp
open Tryz RowKit Go.Sort
variable {n:Nat}{w:M}{a b:ByteArray}
abbrev ez (a b:ByteArray):Bool:=Op.bytesLess a.toList b.toList
def cH (g:Nat->ByteArray)(n:Nat)(t:ByteArray):Bool:=(List.range n).any λi=>(g i).toList == t.toList
theorem rm (g:Nat->ByteArray)(t:ByteArray):cH g 0 t=ZA:=rfl
def dE (p:Nat->Bool):Nat->Bool
 |0=>ZA
 |k+1=>dE p k || p k
theorem lF{p:Nat->Bool}{k:Nat}(h:k<n)(b:p k=ZG):dE p n=ZG:=by
 induction n with
 |zero=>omega
 |succ m c =>
  by_cases e:k=m;{subst e;simp[dE,b]};{simp[dE,c (by omega)]}
def pn (x:Source):Bool:=decide (2000<(x.h.size:Int))
def eU (x:Target):Bool:=!valid x.G x.f
abbrev nm0 (f0:Nat->Source):Nat->ByteArray:=λi=>(f0 i).e
abbrev nm1 (f1:Nat->Target):Nat->ByteArray:=λi=>(f1 i).e
def ce (n0:Nat)(f0:Nat->Source)(n1:Nat)(f1:Nat->Target):Int :=
 if 200<n0+n1 then 1 else if dM (nm0 f0) n0=ZA then 2 else if dM (nm1 f1) n1=ZA then 2 else if dQ (nm0 f0) n0=ZA then 3 else if dQ (nm1 f1) n1=ZA then 4
 else if dE (λi=>cH (nm1 f1) n1 (nm0 f0 i)) n0=ZG then 5 else if dE (λi=>pn (f0 i)) n0=ZG then 6 else if dE (λi=>eU (f1 i)) n1=ZG then 7 else 0
theorem jX (g:Nat->ByteArray)(k:Nat)(t:ByteArray):cH g (k+1) t=(cH g k t || ((g k).toList == t.toList)):=by simp[cH,MY]
theorem mE{g:Nat->ByteArray}{k:Nat}{t:ByteArray}(h:k<n)(b:((g k).toList == t.toList)=ZG):cH g n t=ZG:=by simp only[cH,List.any_eq_true,NH];exact⟨k,h,b⟩
theorem tv (a0:Option Addr)(n0 c0 b off n1 c1:Nat)(f1:Nat->Target)(t:ByteArray)(w:M)(hn1:(n1:Int)<=1048576)(j:RowTarget w b off n1 f1):Calls Tryz.prog 114 #[.agg #[Z a0 n0 c0,Z (T (Q b off Y)) n1 c1],U t] w λe p=>∃r:Int,e=ZF (J I r)/\decide (0<=r)=cH (nm1 f1) n1 t/\Below w.heap.size w p:=by
 obtain⟨W,c⟩:∃W:M,w.alloc (N #[Z a0 n0 c0,Z (T (Q b off Y)) n1 c1] 44)=W:=⟨_,rfl⟩
 obtain⟨m,-,-⟩:=nb1 c;have f:=ae c;clear c;have o:=ae (j.aa m ly);have k1:W.cell? (Q w.heap.size 1 Y)=T (Z (T (Q b off Y)) n1 c1):=by rw[<-f.out];simp
 clear j;go_enter func114,VB;go_wp2;rw[f.out];clear f;go_loop [5] (λi=>∃k:Nat,k<=n1/\i=J I k/\Hid (cH (nm1 f1) k t=ZA)) (λi=>n1 - (intOf i).toNat);case atStart=>exact⟨0,by omega,rfl,rfl⟩
 case round =>
  obtain⟨k,hk,rfl,n⟩:=hrel;by_cases h:k<n1
  ·obtain⟨d0,ka,kc,d1,_⟩:=o.2 k h;cases hb:((f1 k).e.toList == t.toList) with
   |true =>have l:=ae hb;go_wp2;go_ret;exact⟨k,rfl,by rw[mE (g:=nm1 f1) h l.out];simp,m.out⟩
   |false =>have l:=ae hb;go_wp2;exact⟨⟨k+1,by omega,by go_num,by show cH (nm1 f1) (k+1) t=ZA;rw[jX,n.out];exact l⟩,by simp[intOf];omega⟩
  ·have e:k=n1:=by omega
   subst e;go_wp2;go_ret;exact⟨-1,rfl,by rw[n.out];rfl,m⟩
theorem oB (h:a.toList=b.toList):a=b:=by rw[GC,GC] at h;exact MP (Array.toList_inj.1 h)
theorem bytes_beq (h:(a.toList == b.toList)=ZG):a=b:=oB (by simpa using h)
theorem zO{n0:Nat}{f0:Nat->Source}{n1:Nat}{f1:Nat->Target}(h:ce n0 f0 n1 f1=0):dQ (nm0 f0) n0=ZG/\dQ (nm1 f1) n1=ZG/\n0+n1<=200:=by
 unfold ce at h;split at h;· omega
 split at h;· omega
 split at h;· omega
 split at h;· omega
 split at h;· omega
 rename_i h0 _ _ h3 h4;exact⟨by simpa using h3,by simpa using h4,by omega⟩
theorem slS{a:Option Addr}{f:Nat->Source}(h:SlSource w a n f)(hn:n≠0):∃b off,a=T (Q b off Y)/\RowSource w b off n f:=h.resolve_left hn
theorem slT{a:Option Addr}{f:Nat->Target}(h:SlTarget w a n f)(hn:n≠0):∃b off,a=T (Q b off Y)/\RowTarget w b off n f:=h.resolve_left hn
theorem bx2{W b:M}{u v:Value}(z:w.heap.size<W.heap.size)(g:W.cell? (Q w.heap.size 0 Y)=T u)(f:W.cell? (Q w.heap.size 1 Y)=T v)(A:Hid (Below w.heap.size w W))(c:Below W.heap.size W b):b.cell? (Q w.heap.size 0 Y)=T u/\b.cell? (Q w.heap.size 1 Y)=T v/\w.heap.size<b.heap.size/\Hid (Below w.heap.size w b) :=
 ⟨(c.cell (p:=(Q w.heap.size 0 Y)) z).trans g,(c.cell (p:=(Q w.heap.size 1 Y)) z).trans f,lj z c.size,A.trans (c.mono A.size)⟩
theorem tz (a0:Option Addr)(n0 c0:Nat)(a1:Option Addr)(c1:Nat)(g:Nat->ByteArray)(t:ByteArray)(w:M):Calls Tryz.prog 114 #[.agg #[Z a0 n0 c0,Z a1 0 c1],U t] w λe c=>∃r:Int,e=ZF (J I r)/\decide (0<=r)=cH g 0 t/\Below w.heap.size w c:=by
 have b:=ae ((q9 w).alloc ly (N #[Z a0 n0 c0,Z a1 0 c1] 44));go_enter func114,VB;go_wp2;go_loop [5] (λi=>i=J I 0) (λ_=>0);case atStart=>rfl
 case round =>subst hrel;go_wp2;go_ret;exact⟨-1,rfl,by rw[rm];rfl,b⟩
theorem mF (a0:Option Addr)(n0 c0:Nat)(a1:Option Addr)(n1 c1:Nat)(f1:Nat->Target)(t:ByteArray)(w:M)(hn1:(n1:Int)<=1048576)(c:SlTarget w a1 n1 f1):Calls Tryz.prog 114 #[.agg #[Z a0 n0 c0,Z a1 n1 c1],U t] w λe g=>∃r:Int,e=ZF (J I r)/\decide (0<=r)=cH (nm1 f1) n1 t/\Below w.heap.size w g:=by
 rcases c with rfl|⟨b,off,rfl,f⟩
 {exact tz a0 n0 c0 a1 c1 (nm1 f1) t w};{exact tv a0 n0 c0 b off n1 c1 f1 t w hn1 f}
theorem fu (a0:Option Addr)(n0 c0:Nat)(f0:Nat->Source)(a1:Option Addr)(n1 c1:Nat)(f1:Nat->Target)(w:M)(hn0:(n0:Int)<=1048576)(hn1:(n1:Int)<=1048576)(la:SlSource w a0 n0 f0)(ld:SlTarget w a1 n1 f1)(R:∀i,i<n1->cR (f1 i))(hs:∀i,i<n1->∀j,j<(f1 i).f->((f1 i).G j).s.size<=maxLen):Calls Tryz.prog 71 #[.agg #[Z a0 n0 c0,Z a1 n1 c1]] w λe w'=>e=ZF (J I (ce n0 f0 n1 f1))/\Below w.heap.size w w':=by
 have V0:=ae la;have ZJ:=ae ld;have HF:=ae R;have HS:=ae hs;clear la ld R hs;obtain⟨C,hC⟩:∃C,C=ce n0 f0 n1 f1:=⟨_,rfl⟩
 rw[<-hC];unfold ce at hC;have HC:=ae hC;clear hC;have A0:=ae ((q9 w).alloc ly (N #[Z a0 n0 c0,Z a1 n1 c1] 44));have z:(w.alloc (N #[Z a0 n0 c0,Z a1 n1 c1] 44)).cell? (Q w.heap.size 0 Y)=T (Z a0 n0 c0):=by simp
 have K:(w.alloc (N #[Z a0 n0 c0,Z a1 n1 c1] 44)).cell? (Q w.heap.size 1 Y)=T (Z a1 n1 c1):=by simp
 have z0:w.heap.size<(w.alloc (N #[Z a0 n0 c0,Z a1 n1 c1] 44)).heap.size:=by simp
 go_enter func71,ntmps71;by_cases h1:(200:Int)<n0+n1;{have c:=HC.out;rw[p7 (by omega)] at c;subst c;go_wp2;go_ret;exact⟨rfl,A0⟩};have dg:=HC.out;rw[nD (by omega)] at dg;have ZI:=ae dg;clear dg HC;go_wp2;generalize World.alloc w _=W0 at A0 z K z0 ⊢;go_loopw [5] (λi wr=>∃k:Nat,k<=n0/\i=J I k/\Hid (dM (nm0 f0) k=ZG)/\Below W0.heap.size W0 wr) (λi _=>n0 - (intOf i).toNat);case atStart=>exact⟨0,by omega,rfl,rfl,eL _ _⟩
 case round =>
  obtain⟨k,P,rfl,n,m⟩:=hrel;obtain⟨ZP,A,z1,V⟩:=bx2 z0 z K A0 m;have o:=ae m;clear m;by_cases f:k<n0
  ·obtain⟨b,off,rfl,h⟩:=slS V0 (by omega);obtain⟨u,x⟩:=(h.2 k f).aa V h.1;clear h z K;go_wp2_with fail;refine(cZ _ _).mono ?_;rintro e w1 ⟨rfl,p⟩;have t:=ae (o.trans (p.mono o.size));clear p;cases l:aw (f0 k).e with
   |true =>have q:=ae l;clear l;go_wp2;exact⟨⟨k+1,by omega,by go_num,by show dM (nm0 f0) (k+1)=ZG;simp[dM,n.out,q.out],t.out⟩,by simp[intOf];omega⟩
   |false =>have q:=ae l;have c:=ZI.out;rw[p7 (mu (g:=(nm0 f0)) f q.out)] at c;subst c;clear l;go_wp2;go_ret;exact⟨rfl,A0.trans (t.mono A0.size)⟩
  ·have e:n0=k:=by omega
   subst e;have c:=ZI.out;rw[nD (by simp[n.out])] at c;have bt:=ae c;clear c ZI n o z K;go_wp2;generalize wr=W1 at ZP A z1 V ⊢;go_loopw [6] (λi wr=>∃k:Nat,k<=n1/\i=J I k/\Hid (dM (nm1 f1) k=ZG)/\Below W1.heap.size W1 wr) (λi _=>n1 - (intOf i).toNat);case atStart=>exact⟨0,by omega,rfl,rfl,eL _ _⟩
   case round =>
    obtain⟨k,P,rfl,n,m⟩:=hrel;obtain⟨G,ZQ,z2,A2⟩:=bx2 z1 ZP A V m;have o:=ae m;clear m;by_cases f:k<n1
    ·obtain⟨b,off,rfl,h⟩:=slT ZJ (by omega);obtain⟨u,ka,kc,x,_⟩:=(h.2 k f).aa A2 ly h.1;clear h ZP A;go_wp2_with fail;refine(cZ _ _).mono ?_;rintro e w1 ⟨rfl,p⟩;have t:=ae (o.trans (p.mono o.size));clear p;cases l:aw (f1 k).e with
     |true =>have q:=ae l;clear l;go_wp2;exact⟨⟨k+1,by omega,by go_num,by show dM (nm1 f1) (k+1)=ZG;simp[dM,n.out,q.out],t.out⟩,by simp[intOf];omega⟩
     |false =>have q:=ae l;have c:=bt.out;rw[p7 (mu (g:=(nm1 f1)) f q.out)] at c;subst c;clear l;go_wp2;go_ret;exact⟨rfl,V.trans (t.mono V.size)⟩
    ·have e:n1=k:=by omega
     subst e;have c:=bt.out;rw[nD (by simp[n.out])] at c;have ZL:=ae c;clear c bt n o ZP A;go_wp2;generalize wr=W2 at G ZQ z2 A2 ⊢;go_loopw [7] (λi wr=>∃k:Nat,(k+1<=n0∨k=0)/\i=J I ((k:Int)+1)/\Hid (dQ (nm0 f0) (k+1)=ZG)/\Below W2.heap.size W2 wr) (λi _=>n0+1 - (intOf i).toNat);case atStart=>exact⟨0,.inr rfl,rfl,rfl,eL _ _⟩
     case round =>
      obtain⟨k,P,rfl,n,m⟩:=hrel;obtain⟨D,ZO,z3,ZN⟩:=bx2 z2 G ZQ A2 m;have o:=ae m;clear m;by_cases f:k+1<n0
      ·obtain⟨b,off,rfl,h⟩:=slS V0 (by omega);obtain⟨u,x⟩:=(h.2 k (by omega)).aa ZN h.1;obtain⟨e0,e1⟩:=(h.2 (k+1) f).aa ZN h.1;have mv:(k:Int)+1<n0:=by omega
       clear h G ZQ;go_wp2_with fail;go_quiet (fail);have t:=ae (AS o nq);clear u x e0 e1;generalize wr.drewN nq=X at t ⊢;cases l:Op.bytesLess (f0 k).e.toList (f0 (k+1)).e.toList with
       |true =>have q:=ae l;clear l;go_wp2;exact⟨⟨k+1,.inl (by omega),by go_num,by show dQ (nm0 f0) (k+2)=ZG;simp[dQ,n.out,q.out],t.out⟩,by simp[intOf];omega⟩
       |false =>have q:=ae l;have c:=ZL.out;rw[p7 (nP (g:=(nm0 f0)) f q.out)] at c;subst c;clear l;go_wp2;go_ret;exact⟨rfl,A2.trans (t.mono A2.size)⟩
      ·have ph:¬ (k:Int)+1<n0:=by omega
       have c:=ZL.out;rw[nD (by simp[lE (show n0<=k+1 by omega) n.out])] at c;have aq:=ae c;clear c ZL n o G ZQ;go_wp2;generalize wr=W3 at D ZO z3 ZN ⊢;go_loopw [8] (λi wr=>∃k:Nat,(k+1<=n1∨k=0)/\i=J I ((k:Int)+1)/\Hid (dQ (nm1 f1) (k+1)=ZG)/\Below W3.heap.size W3 wr) (λi _=>n1+1 - (intOf i).toNat);case atStart=>exact⟨0,.inr rfl,rfl,rfl,eL _ _⟩
       case round =>
        obtain⟨k,P,rfl,n,m⟩:=hrel;obtain⟨L,F,z4,O⟩:=bx2 z3 D ZO ZN m;have o:=ae m;clear m;by_cases f:k+1<n1
        ·obtain⟨b,off,rfl,h⟩:=slT ZJ (by omega);obtain⟨u,ka,kc,x,_⟩:=(h.2 k (by omega)).aa O ly h.1;obtain⟨e0,kb,kd,e1,_⟩:=(h.2 (k+1) f).aa O ly h.1;have mv:(k:Int)+1<n1:=by omega
         clear h D ZO;go_wp2_with fail;go_quiet (fail);have t:=ae (AS o nq);clear u x e0 e1;generalize wr.drewN nq=X at t ⊢;cases l:Op.bytesLess (f1 k).e.toList (f1 (k+1)).e.toList with
         |true =>have q:=ae l;clear l;go_wp2;exact⟨⟨k+1,.inl (by omega),by go_num,by show dQ (nm1 f1) (k+2)=ZG;simp[dQ,n.out,q.out],t.out⟩,by simp[intOf];omega⟩
         |false =>have q:=ae l;have c:=aq.out;rw[p7 (nP (g:=(nm1 f1)) f q.out)] at c;subst c;clear l;go_wp2;go_ret;exact⟨rfl,ZN.trans (t.mono ZN.size)⟩
        ·have ph:¬ (k:Int)+1<n1:=by omega
         have c:=aq.out;rw[nD (by simp[lE (show n1<=k+1 by omega) n.out])] at c;have S:=ae c;clear c aq n o D ZO;go_wp2;generalize wr=W4 at L F z4 O ⊢;go_loopw [9] (λi wr=>∃k:Nat,k<=n0/\i=J I k/\Hid (dE (λi=>cH (nm1 f1) n1 (nm0 f0 i)) k=ZA)/\Below W4.heap.size W4 wr) (λi _=>n0 - (intOf i).toNat);case atStart=>exact⟨0,by omega,rfl,rfl,eL _ _⟩
         case round =>
          obtain⟨k,P,rfl,n,m⟩:=hrel;obtain⟨H,B,z5,y⟩:=bx2 z4 L F O m;have o:=ae m;clear m;by_cases f:k<n0
          ·obtain⟨b,off,rfl,h⟩:=slS V0 (by omega);obtain⟨u,x⟩:=(h.2 k f).aa y h.1;clear h L F;go_wp2_with fail;go_region_with (go_at_call 114;refine(mF (T (Q b off Y)) n0 c0 a1 n1 c1 f1 (f0 k).e _ hn1 ?_).mono ?_;(first|exact ZJ.aa y ly|exact ZJ.aa y.drew ly);rintro e w1 ⟨r,rfl,hd,p⟩;have HD:=ae hd;clear hd;have t:Hid (Below wr.heap.size wr w1):=⟨p.os,p.tape,p.output,p.size,p.block⟩;clear p);all_goals
            have B2:=ae (o.trans (t.mono o.size));clear u x t;by_cases l:0<=r
            ·have c:=S.out
             rw[p7 (lF f (by have:=HD.out;rw[decide_eq_true l] at this;exact this.symm))] at c;subst c;go_wp2;go_ret;exact⟨rfl,O.trans (B2.mono O.size)⟩
            ·have q:=ae l
             go_wp2;exact⟨⟨k+1,by omega,by go_num,by show dE _ (k+1)=ZA;have:=HD.out;rw[decide_eq_false q.out] at this;simp[dE,n.out,<-this],B2.out⟩,by simp[intOf];omega⟩
          ·have e:n0=k:=by omega
           subst e;have c:=S.out;rw[nD (by simp[n.out])] at c;have ZK:=ae c;clear c S n o L F;go_wp2;generalize wr=W5 at H B z5 y ⊢;go_loopw [10] (λi wr=>∃k:Nat,k<=n0/\i=J I k/\Hid (dE (λi=>pn (f0 i)) k=ZA)/\Below W5.heap.size W5 wr) (λi _=>n0 - (intOf i).toNat);case atStart=>exact⟨0,by omega,rfl,rfl,eL _ _⟩
           case round =>
            obtain⟨k,P,rfl,n,m⟩:=hrel;obtain⟨fd,ZM,z6,W⟩:=bx2 z5 H B y m;have o:=ae m;clear m;by_cases f:k<n0;{obtain⟨b,off,rfl,h⟩:=slS V0 (by omega);obtain⟨u,x⟩:=(h.2 k f).aa W h.1;clear h H B;by_cases l:(2000:Int)<(f0 k).h.size;{have c:=ZK.out;rw[p7 (lF f (by simpa[pn] using l))] at c;subst c;go_wp2;go_ret;exact⟨rfl,y.trans (o.mono y.size)⟩};{have q:Hid (pn (f0 k)=ZA):=decide_eq_false l;go_wp2;exact⟨⟨k+1,by omega,by go_num,by show dE _ (k+1)=ZA;simp[dE,n.out,q.out],o.out⟩,by simp[intOf];omega⟩}}
            ·have e:n0=k:=by omega
             subst e;have c:=ZK.out;rw[nD (by simp[n.out])] at c;have n9:=ae c;clear c ZK n o H B;go_wp2;generalize wr=W6 at fd ZM z6 W ⊢;go_loopw [11,4] (λi v wr=>∃(k:Nat) (r:Int),k<=n1/\i=J I k/\v=J I r/\Hid (r=if dE (λi=>eU (f1 i)) k=ZG then 7 else 0)/\Below W6.heap.size W6 wr) (λi _ _=>n1 - (intOf i).toNat);case atStart=>exact⟨0,0,by omega,rfl,rfl,rfl,eL _ _⟩
             case round =>
              obtain⟨k,r,P,rfl,rfl,n,m⟩:=hrel;obtain⟨k70,k71,z7,A7⟩:=bx2 z6 fd ZM W m;have o:=ae m;clear m;by_cases f:k<n1
              ·obtain⟨b,off,rfl,h⟩:=slT ZJ (by omega);obtain⟨u,ka,kc,x,hx⟩:=(h.2 k f).aa A7 ly h.1;have HX:=ae hx;clear h hx fd ZM;go_wp2_with fail;refine(jB ka (f1 k).f kc (f1 k).G _ (HF k f) HX (HS k f)).mono ?_;rintro e w1 ⟨rfl,p⟩;have t:=ae (o.trans (p.mono o.size));clear p u x;cases l:valid (f1 k).G (f1 k).f with
               |true =>
                have q:=ae l;clear l;have E:Hid (dE (λi=>eU (f1 i)) (k+1)=dE (λi=>eU (f1 i)) k):=by show(dE _ k || eU (f1 k))=_;rw[show eU (f1 k)=ZA by unfold eU;rw[q.out];rfl,Bool.or_false]
                go_wp2;exact⟨⟨k+1,r,by omega,by go_num,rfl,by show r=_;rw[E.out];exact n,t⟩,by simp[intOf];omega⟩
               |false =>
                have q:=ae l;clear l;have E:Hid (dE (λi=>eU (f1 i)) (k+1)=ZG):=by show(dE _ k || eU (f1 k))=_;rw[show eU (f1 k)=ZG by unfold eU;rw[q.out];rfl,Bool.or_true]
                go_wp2;exact⟨⟨k+1,7,by omega,by go_num,rfl,by show(7:Int)=_;rw[p7 E.out],t.out⟩,by simp[intOf];omega⟩
              ·have e:n1=k:=by omega
               subst e;have c:=n9.out;rw[<-n.out] at c;subst c;go_wp2;go_ret;exact⟨rfl,W.trans (o.mono W.size)⟩
