import Derived.Test.YtoddkejemcbkmaaGreatDoorSD
import Derived.Deep.DeepCutAuto
set_option maxRecDepth 100000
set_option maxHeartbeats 4000000
open Go renaming Addr.mk->Q,Value.slice->Z,Value.string->U,Value.int->J,Value.bool->ZD,Obj.cells->N,IntKind.i64->I,World->M,Value->ZC,Ending.returned->ZF,World.alloc->A,Proofs.Tryz.prog->Pg
open Option renaming none->Y,some->T
open Bool renaming false->ZA,true->ZG
namespace Go.Proofs.YtoddkejemcbkmaaGreatDoor.Vp
open Tryz RowKit
abbrev Fy (x:Deed)(a0:Option Addr)(b:Nat)(a1:Option Addr)(c:Nat):ZC:=.agg #[U x.e,J I x.E,J I x.B,U x.h,Z a0 x.f b,Z a1 x.b c]
abbrev IP (l:Link):ZC:=.agg #[U l.e,ZD l.ask,ZD l.has,J I l.L]
theorem pm (x:Deed)(a0:Option Addr)(b:Nat)(a1:Option Addr)(c:Nat)(w:M):Calls Pg 147 #[Fy x a0 b a1 c] w λe i=>e=ZF (ZD (aX x))/\Below w.heap.size w i:=by
 have g:=ae ((q9 w).alloc ly (N #[U x.e,J I x.E,J I x.B,U x.h,Z a0 x.f b,Z a1 x.b c] 62));obtain⟨r,h⟩:∃r,r=aX x:=⟨_,rfl⟩
 rw[<-h];have f:=ae h;clear h;go_enter func147,ntmps147;cases h1:(x.B == 0) with
 |false =>
  obtain rfl:r=ZA:=by rw[f.out];simp at h1;simp[aX,h1]
  go_wp2;go_ret;exact⟨rfl,g⟩
 |true =>
  cases h2:((x.f:Int) == 0) with
  |false =>
   obtain rfl:r=ZA:=by rw[f.out];simp at h2;simp[aX];omega
   go_wp2;go_ret;exact⟨rfl,g⟩
  |true =>
   cases h3:((x.b:Int) == 0) with
   |false =>
    obtain rfl:r=ZA:=by rw[f.out];simp at h3;simp[aX];omega
    go_wp2;go_ret;exact⟨rfl,g⟩
   |true =>
    obtain rfl:r=ZG:=by rw[f.out];simp at h1 h2 h3;simp[aX,h1,h2,h3]
    go_wp2;go_ret;exact⟨rfl,g⟩
def dK (f:Nat->Deed)(p:Nat)(l:Link):Bool:=if l.ask=ZG then !l.has && decide (0<=l.L) && decide (l.L<(p:Int)) && ((f l.L.toNat).e.toList == l.e.toList) else decide (l.L=0)
theorem dS (f:Nat->Deed)(p:Nat)(l:Link):ew f p l=(aw l.e && dK f p l):=rfl
theorem mr (b off n p cap:Nat)(f:Nat->Deed)(l:Link)(w:M)(hp:p<=n)(i:RowDeed w b off n f):Calls Pg 166 #[Z (T (Q b off Y)) p cap,IP l] w λe o=>e=ZF (ZD (dK f p l))/\Below w.heap.size w o:=by
 have c:=ae ((q9 w).alloc ly (N #[U l.e,ZD l.ask,ZD l.has,J I l.L] 93));have m:=ae (i.aa c ly);have hb:=i.1;clear i;obtain⟨r,h⟩:∃r,r=dK f p l:=⟨_,rfl⟩
 rw[<-h];have g:=ae h;clear h;obtain⟨nm,ask,has,at_⟩:=l;go_enter func166,ntmps166;cases ask with
 |false =>
  cases h1:(at_ == 0) with
  |true =>
   obtain rfl:r=ZG:=by rw[g.out];simp at h1;simp[dK,h1]
   go_wp2;go_ret;exact⟨rfl,c⟩
  |false =>
   obtain rfl:r=ZA:=by rw[g.out];simp at h1;simp[dK,h1]
   go_wp2;go_ret;exact⟨rfl,c⟩
 |true =>
  cases has with
  |true =>
   obtain rfl:r=ZA:=by rw[g.out];simp[dK]
   go_wp2_with fail;go_quiet (fail);go_wp2;go_ret;exact⟨rfl,AS c _⟩
  |false =>
   by_cases h1:0<=at_
   ·by_cases h2:at_<(p:Int)
    ·obtain⟨q,rfl⟩:∃q:Nat,at_=(q:Int):=⟨at_.toNat,by omega⟩
     have j:q<n:=by omega
     have d0:=(m.2 q j).1;have e:r=((f q).e.toList == nm.toList):=by rw[g.out];simp[dK,h2]
     cases h:((f q).e.toList == nm.toList) with
     |true =>rw[h] at e;subst e;go_wp2_with fail;go_quiet (fail);go_wp2;go_ret;exact⟨rfl,AS c _⟩
     |false =>rw[h] at e;subst e;go_wp2_with fail;go_quiet (fail);go_wp2;go_ret;exact⟨rfl,AS c _⟩
    ·obtain rfl:r=ZA:=by rw[g.out];simp[dK,h2]
     have h3:decide (at_<(p:Int))=ZA:=by simpa using h2
     go_wp2_with fail;go_quiet (fail);go_wp2;go_ret;exact⟨rfl,AS c _⟩
   ·obtain rfl:r=ZA:=by rw[g.out];simp[dK,h1]
    have h3:decide (0<=at_)=ZA:=by simpa using h1
    go_wp2_with fail;go_quiet (fail);go_wp2;go_ret;exact⟨rfl,AS c _⟩
theorem lA {f:Nat->Deed}{p:Nat}{x:Deed}{k m:Nat}(hk:k<m)(h:bM f p x (k+1)=ZA):bM f p x m=ZA:=by
 induction m with
 |zero=>omega
 |succ j b =>
  by_cases e:k=j;{subst e;exact h};{rw[bM,b (by omega)];rfl}
theorem qt (b off n cap p:Nat)(f:Nat->Deed)(w:M)(hp:p<n)(ZP:RowDeed w b off n f)(hcap:(p:Int)<=cap):Calls Pg 149 #[.agg #[Z (T (Q b off Y)) n cap],J I (p:Int)] w λe R=>e=ZF (ZD (decide ((f p).b<=200) && bM f p (f p) (f p).b))/\Below w.heap.size w R:=by
 have j:=ae ((q9 w).alloc ly (N #[Z (T (Q b off Y)) n cap] 25));have HF:=ae ZP;obtain⟨_,_,_,_,_,⟨a1,cap1,K,r1⟩⟩:=ZP.2 p hp;have hb:=ZP.1;have k0:(A w (N #[Z (T (Q b off Y)) n cap] 25)).cell? (Q w.heap.size 0 Y)=T (Z (T (Q b off Y)) n cap):=by simp
 have p5:=(j.cell (p:=(Q b (off+p*6+5) Y)) hb).trans K;have HL:=ae r1;have u:w.heap.size<(A w (N #[Z (T (Q b off Y)) n cap] 25)).heap.size:=by simp
 clear r1 K ZP;obtain⟨m,ZI⟩:∃m,m=(f p).b:=⟨_,rfl⟩
 obtain⟨L,hL⟩:∃L,L=(f p).m:=⟨_,rfl⟩
 rw[<-ZI] at p5 HL ⊢;rw[<-hL] at HL;have HM:=ae ZI;have dg:=ae hL;clear ZI hL;by_cases hbig:(200:Int)<(m:Int)
 ·obtain⟨r,ZM⟩:∃r,r=(decide (m<=200) && bM f p (f p) m):=⟨_,rfl⟩
  rw[<-ZM];obtain rfl:r=ZA:=by rw[ZM];simp;omega
  clear ZM;go_enter func149,ntmps149;go_wp2;go_ret;exact⟨rfl,j⟩
 have hd:decide (m<=200)=ZG:=by simp;omega
 rw[hd,SS];clear hd;go_enter func149,ntmps149;go_wp2;generalize World.alloc w _=W at j k0 u ⊢;clear p5;go_loopw [19] (λi wr=>∃k:Nat,k<=m/\i=J I k/\Hid (bM f p (f p) k=ZG)/\Hid (Below W.heap.size W wr)) (λi _=>m - (intOf i).toNat);case atStart=>exact⟨0,by omega,rfl,rfl,eL _ _⟩
 case round =>
  obtain⟨k,hk,rfl,ZN,q⟩:=hrel;by_cases x:k<m
  ·obtain⟨lb,lo,rfl,aq,t⟩:=HL.resolve_left (by omega);have hx:=(t k x).aa (j.trans (q.mono j.size)) aq;obtain⟨l,ZQ⟩:∃l,l=L k:=⟨_,rfl⟩
   rw[<-ZQ] at hx;have bt:=ae ZQ;obtain⟨d0,d1,d2,d3⟩:=hx;clear ZQ t;have S:Hid (bM f p (f p) (k+1)=ew f p l):=by show(bM f p (f p) k && ew f p ((f p).m k))=_;rw[ZN.out,SS,<-dg.out,<-bt.out]
   have s:=ae ((j.trans (q.mono j.size)).alloc (by have:=j.size;have:=q.size;omega) (N #[U l.e,ZD l.ask,ZD l.has,J I l.L] 93));have C:=ae ((q).alloc q.size (N #[U l.e,ZD l.ask,ZD l.has,J I l.L] 93));have F:(A wr (N #[U l.e,ZD l.ask,ZD l.has,J I l.L] 93)).cell? (Q wr.heap.size 0 Y)=T (U l.e):=by simp
   have D:(A wr (N #[U l.e,ZD l.ask,ZD l.has,J I l.L] 93)).cell? (Q wr.heap.size 1 Y)=T (ZD l.ask):=by simp
   have E:(A wr (N #[U l.e,ZD l.ask,ZD l.has,J I l.L] 93)).cell? (Q wr.heap.size 2 Y)=T (ZD l.has):=by simp
   have H:(A wr (N #[U l.e,ZD l.ask,ZD l.has,J I l.L] 93)).cell? (Q wr.heap.size 3 Y)=T (J I l.L):=by simp
   have hX:wr.heap.size<(A wr (N #[U l.e,ZD l.ask,ZD l.has,J I l.L] 93)).heap.size:=by simp
   have ZK:=(C.cell (p:=(Q w.heap.size 0 Y)) u).trans k0;have y:w.heap.size<(A wr (N #[U l.e,ZD l.ask,ZD l.has,J I l.L] 93)).heap.size:=lj u C.size;have P:=ae (HF.aa s ly);go_upto_region 7 with fail;clear d0 d1 d2 d3;generalize World.alloc wr _=G at s C F D E H hX ZK y P ⊢;generalize wr.heap.size=X at F D E H hX ⊢;have hp0:0<=(p:Int):=by omega
   have hpn:(p:Int)<=n:=by omega
   have ZO:p<=n:=by omega
   have hcap':p<=cap:=by omega
   cases hnm:aw l.e with
   |false =>
    have hq:∀w,Calls Pg 146 #[U l.e] w λe R=>e=ZF (ZD ZA)/\R=w:=λw=>by rw[<-hnm];exact vw l.e w
    go_quiet ((go_at_call 146;exact Calls.quiet_of_same (hq _)));have hN:ew f p l=ZA:=by rw[dS,hnm];rfl
    have ZR:=ae (S.trans hN);have B:=ae x;have G1:=ae (AS s nq);clear hN;go_wp2;go_ret;exact⟨AP (λz=>Ending.returned (ZD z)) (lA B ZR).symm,G1⟩
   |true =>
    cases hla:dK f p l with
    |true =>
     go_region_with (first
      |(go_at_call 146;refine(jl _ _).mono ?_;rintro e O ⟨h,c⟩;rw[hnm] at h;subst h;have g:Hid (Below G.heap.size G O):=⟨c.os,c.tape,c.output,c.size,c.block⟩;have f0:=(g.cell (p:=(Q X 0 Y)) hX).trans F;have f1:=(g.cell (p:=(Q X 1 Y)) hX).trans D;have f2:=(g.cell (p:=(Q X 2 Y)) hX).trans E;have f3:=(g.cell (p:=(Q X 3 Y)) hX).trans H;have k2:=(g.cell (p:=(Q w.heap.size 0 Y)) y).trans ZK;have ZJ:=ae (P.aa g ly);clear c)
      |(go_at_call 166;refine(mr b off n p cap f l _ ZO ZJ).mono ?_;rintro e w2 ⟨h,o⟩;rw[hla] at h;subst h;have ZL:=ae (g.trans (o.mono g.size));clear o))
     all_goals
      have ZR:Hid (bM f p (f p) (k+1)=ZG):=S.trans (by rw[dS,hnm,hla];rfl);have V:=ae (C.trans (ZL.mono C.size));go_wp2;exact⟨⟨k+1,by omega,by go_num,ZR,V⟩,by simp[intOf];omega⟩
    |false =>
     go_region_with (first
      |(go_at_call 146;refine(jl _ _).mono ?_;rintro e O ⟨h,c⟩;rw[hnm] at h;subst h;have g:Hid (Below G.heap.size G O):=⟨c.os,c.tape,c.output,c.size,c.block⟩;have f0:=(g.cell (p:=(Q X 0 Y)) hX).trans F;have f1:=(g.cell (p:=(Q X 1 Y)) hX).trans D;have f2:=(g.cell (p:=(Q X 2 Y)) hX).trans E;have f3:=(g.cell (p:=(Q X 3 Y)) hX).trans H;have k2:=(g.cell (p:=(Q w.heap.size 0 Y)) y).trans ZK;have ZJ:=ae (P.aa g ly);clear c)
      |(go_at_call 166;refine(mr b off n p cap f l _ ZO ZJ).mono ?_;rintro e w2 ⟨h,o⟩;rw[hla] at h;subst h;have ZL:=ae (g.trans (o.mono g.size));clear o))
     all_goals
      have ZR:Hid (bM f p (f p) (k+1)=ZA):=S.trans (by rw[dS,hnm,hla];rfl);have B:=ae x;have V:=ae (s.trans (ZL.mono (by have:=s.size;omega)));go_wp2;go_ret;exact⟨AP (λz=>Ending.returned (ZD z)) (lA B ZR).symm,V⟩
  ·have e:m=k:=by omega
   subst e;go_wp2;go_ret;exact⟨by rw[HM.out] at ZN;rw[HM.out];exact AP (λz=>Ending.returned (ZD z)) ZN.symm,j.trans (q.mono j.size)⟩
structure SixB (w:M)(b:Nat)(v0 v1 v2 v3 v4 v5:ZC):Prop where
 lt:b<w.heap.size
 c0:w.cell? (Q b 0 Y)=T v0
 c1:w.cell? (Q b 1 Y)=T v1
 c2:w.cell? (Q b 2 Y)=T v2
 c3:w.cell? (Q b 3 Y)=T v3
 c4:w.cell? (Q b 4 Y)=T v4
 c5:w.cell? (Q b 5 Y)=T v5
theorem SixB.aa {w m:M}{b:Nat}{c l i f g j:ZC}(h:SixB w b c l i f g j)(hb:Below w.heap.size w m):SixB m b c l i f g j :=
 ⟨lj h.lt hb.size,(hb.cell (p:=(Q b 0 Y)) h.lt).trans h.c0,(hb.cell (p:=(Q b 1 Y)) h.lt).trans h.c1,(hb.cell (p:=(Q b 2 Y)) h.lt).trans h.c2,(hb.cell (p:=(Q b 3 Y)) h.lt).trans h.c3,(hb.cell (p:=(Q b 4 Y)) h.lt).trans h.c4,(hb.cell (p:=(Q b 5 Y)) h.lt).trans h.c5⟩
theorem lC (w:M)(b i f g c h:ZC)(t:TypeId):SixB (A w (N #[b,i,f,g,c,h] t)) w.heap.size b i f g c h:=⟨by simp,by simp,by simp,by simp,by simp,by simp,by simp⟩
theorem lD (t:ByteArray):t.toList.isEmpty=decide (t.size=0):=by rw[GC];obtain⟨⟨l⟩⟩:=t;cases l<;>simp[ByteArray.size]
theorem zM {a b:Bool}(h:a=b):Ending.returned (ZD a)=Ending.returned (ZD b):=by rw[h]
theorem sG (b off n cap p:Nat)(f:Nat->Deed)(w:M)(O:p<n)(F:RowDeed w b off n f)(H:(p:Int)<=cap)(s:(f p).f<=1048576)(ZM:Tab w):Calls Pg 123 #[.agg #[Z (T (Q b off Y)) n cap],J I (p:Int)] w λe ZJ=>e=ZF (ZD (be f p))/\Below w.heap.size w ZJ:=by
 have ZI:=ae F;have P:=ae ZM;have hb:=F.1;obtain⟨ZK,R,X,S,⟨a0,l,ZN,ZO⟩,⟨a1,o,ZQ,q5⟩⟩:=F.2 p O;obtain⟨r,G⟩:∃r,r=be f p:=⟨_,rfl⟩
 rw[<-G];have E:=ae G;obtain⟨x,K⟩:∃x,x=f p:=⟨_,rfl⟩
 rw[<-K] at ZK R X S ZN ZQ ZO s;have C:=ae K;have Q4:=ae ZO;clear G K ZO q5 F ZM;obtain⟨W,u⟩:∃W:M,(A w (N #[Z (T (Q b off Y)) n cap] 25)).alloc (N #[U x.e,J I x.E,J I x.B,U x.h,Z a0 x.f l,Z a1 x.b o] 62)=W:=⟨_,rfl⟩
 obtain⟨z,-,-,-⟩:=nb2 u;have y:=ae u;clear u;have q:=ae (lC (A w (N #[Z (T (Q b off Y)) n cap] 25)) (U x.e) (J I x.E) (J I x.B) (U x.h) (Z a0 x.f l) (Z a1 x.b o) 62);have hz:(A w (N #[Z (T (Q b off Y)) n cap] 25)).heap.size=w.heap.size+1:=by simp
 rw[hz] at q;have ZL:Hid (W.cell? (Q w.heap.size 0 Y)=T (Z (T (Q b off Y)) n cap)):=by rw[<-y.out];show World.cell? _ _=_;simp
 clear hz;go_enter func123,ntmps123;go_wp2_with fail;rw[y.out] at q ⊢;clear y;clear ZK R X S ZN ZQ;cases hnm:aw x.e with
 |false =>
  refine(jl x.e _).mono ?_;rintro e w1 ⟨g,c⟩;rw[hnm] at g;subst g;have h:=ae (z.trans (c.mono z.size));obtain rfl:r=ZA:=by rw[E.out];unfold be;rw[<-C.out,hnm];rfl
  clear c;go_wp2;go_ret;exact⟨rfl,h⟩
 |true =>
 refine(jl x.e _).mono ?_;rintro e w1 ⟨g,c⟩;rw[hnm] at g;subst g;have h:=ae (z.trans (c.mono z.size));have j:=ae (q.aa c);have K1:=ae ((c.cell (p:=(Q w.heap.size 0 Y)) (TN q.lt)).trans ZL);have c1:=j.c1;have c2:=j.c2;have c3:=j.c3;clear c z q ZL;by_cases hbig:(2000:Int)<(x.h.size:Int)
 ·obtain rfl:r=ZA:=by rw[E.out];unfold be;rw[<-C.out,hnm];simp;omega
  go_wp2;go_ret;exact⟨rfl,h⟩
 have D:Hid (r=kindOk f p x):=by show r=_;rw[E.out];unfold be;rw[<-C.out,hnm,show decide (x.h.size<=2000)=ZG by simp;omega];rfl
 clear E;cases h1:(x.E == 1) with
 |true =>
  have B:x.E=1:=by simpa using h1
  have i:Hid (aX x=r):=(D.trans (by unfold kindOk;rw[p7 B])).symm;clear B;have c0:=j.c0;have c4:=j.c4;have c5:=j.c5;go_wp2_with fail;refine(pm x a0 l a1 o _).mono ?_;rintro e ZP ⟨rfl,c⟩;have m:=ae (h.trans (c.mono h.size));clear c;go_wp2;go_ret;exact⟨zM i,m⟩
 |false =>
 cases h2:(x.E == 2) with
 |true =>
  have B:x.E=2:=by simpa using h2
  have i:Hid (r=(aX x && decide (x.h.size=0))):=D.trans (by unfold kindOk;rw[nD (by omega),p7 B]);clear B;have c0:=j.c0;have c4:=j.c4;have c5:=j.c5;go_wp2_with fail;refine(pm x a0 l a1 o _).mono ?_;rintro e ZP ⟨g,c⟩;have m:=ae (h.trans (c.mono h.size));have d3:=(j.aa c).c3;clear c;cases hu:aX x with
  |false =>
   rw[hu] at g;subst g;obtain rfl:r=ZA:=by rw[i.out,hu];rfl
   go_wp2;go_ret;exact⟨rfl,m⟩
  |true =>
   rw[hu] at g;subst g;have ZR:Hid (decide (x.h.size=0)=r):=by show _=r;rw[i.out,hu];rfl
   go_wp2;go_ret;exact⟨cF (by rw[lD];exact ZR),m⟩
 |false =>
 cases h3:(x.E == 3) with
 |false =>
  obtain rfl:r=ZA:=by rw[D.out];unfold kindOk;simp at h1 h2 h3;rw[nD h1,nD h2,nD h3]
  go_wp2;go_ret;exact⟨rfl,h⟩
 |true =>
 have i:Hid (r=cG f p x):=D.trans (by unfold kindOk;simp at h1 h2 h3;rw[nD h1,nD h2,p7 h3]);by_cases L:0<=x.B
 ·by_cases V:x.B<=5
  ·have c4:=j.c4;go_wp2_with fail;refine(tj a0 x.f l x.G _ s (Q4.aa h ly) (P.aa h P.1)).mono ?_;rintro e ZP ⟨g,c⟩;have m:=ae (h.trans (c.mono h.size));have K2:=(c.cell (p:=(Q w.heap.size 0 Y)) (TN j.lt)).trans K1;clear c;cases hv:valid x.G x.f with
   |false =>
    rw[hv] at g;subst g;obtain rfl:r=ZA:=by rw[i.out];simp[cG,hv]
    go_wp2;go_ret;exact⟨rfl,m⟩
   |true =>
    rw[hv] at g;subst g;have ZR:Hid ((decide (x.b<=200) && bM f p x x.b)=r):=by show _=r;rw[i.out];simp[cG,hv,L,V]
    have t:=ae (qt b off n cap p f ZP O (ZI.aa m ly) H);rw[<-C.out] at t;rw[ZR.out] at t;go_wp2_with fail;refine t.mono ?_;rintro e w3 ⟨rfl,c⟩;have B3:=ae (m.trans (c.mono m.size));clear c;go_wp2;go_ret;exact⟨rfl,B3⟩
  ·obtain rfl:r=ZA:=by rw[i.out];simp[cG,V]
   go_wp2;go_ret;exact⟨rfl,h⟩
 ·obtain rfl:r=ZA:=by rw[i.out];simp[cG,L]
  go_wp2;go_ret;exact⟨rfl,h⟩
theorem sH (b off n cap:Nat)(f:Nat->Deed)(w:M)(hn:(n:Int)<=400)(C:RowDeed w b off n f)(hcap:(n:Int)<=cap)(g:∀i,i<n->dk (f i))(z:Tab w):Calls Pg 86 #[.agg #[Z (T (Q b off Y)) n cap]] w λe K=>e=ZF (J I (aM (be f) n))/\Below w.heap.size w K:=by
 have ZO:=ae C;have x:=ae z;have G:=ae g;clear C z g;obtain⟨W,m⟩:∃W:M,A w (N #[Z (T (Q b off Y)) n cap] 25)=W:=⟨_,rfl⟩
 obtain⟨ZR,-,-⟩:=nb1 m;have c:=ae m;clear m;have F:W.cell? (Q w.heap.size 0 Y)=T (Z (T (Q b off Y)) n cap):=by rw[<-c.out];simp
 have y:w.heap.size<W.heap.size:=by rw[<-c.out];simp
 obtain⟨r,t⟩:∃r,r=aM (be f) n:=⟨_,rfl⟩
 rw[<-t];have D:=ae t;clear t;go_enter func86,ntmps86;go_wp2;rw[c.out];clear c;go_loopw [7] (λi wr=>∃k:Nat,k<=n/\i=J I k/\Hid (∀j,j<k->be f j=ZG)/\Hid (Below W.heap.size W wr)) (λi _=>n - (intOf i).toNat);case atStart=>exact⟨0,by omega,rfl,λj B=>absurd B (NV _),eL _ _⟩
 case round =>
  obtain⟨k,hk,rfl,s,o⟩:=hrel;have k1:=(o.cell (p:=(Q w.heap.size 0 Y)) y).trans F;have h:=ae (ZR.trans (o.mono ZR.size));by_cases l:k<n
  ·go_wp2_with fail;refine(sG b off n cap k f _ l (ZO.aa h ly) (by omega) (G k l).1 (x.aa h x.1)).mono ?_;rintro e w2 ⟨q,u⟩;have ZP:=ae (h.trans (u.mono h.size));have E:=ae (o.trans (u.mono o.size));clear u;cases hd:be f k with
   |true =>
    rw[hd] at q;subst q;have H:=ae hd;clear hd;go_wp2
    exact⟨⟨k+1,by omega,by go_num,λj B=>by
     by_cases e:j=k;{subst e;exact H}
     ·exact s j (by omega),E⟩,by simp[intOf];omega⟩
   |false =>
    rw[hd] at q;subst q;obtain rfl:r=k:=by rw[D.out];exact fK l hd s
    clear hd;go_wp2;go_ret;exact⟨rfl,ZP⟩
  ·have e:n=k:=by omega
   subst e;obtain rfl:r=-1:=by rw[D.out];exact fw s
   go_wp2;go_ret;exact⟨rfl,h⟩
theorem tk (x:Deed)(a0:Option Addr)(c:Nat)(a1:Option Addr)(g:Nat)(w:M):Calls Pg 132 #[Fy x a0 c a1 g] w λe j=>e=ZF (ZD (decide (x.h.size<=2000) && aX x))/\Below w.heap.size w j:=by
 have f:=ae ((q9 w).alloc ly (N #[U x.e,J I x.E,J I x.B,U x.h,Z a0 x.f c,Z a1 x.b g] 62));obtain⟨r,h⟩:∃r,r=(decide (x.h.size<=2000) && aX x):=⟨_,rfl⟩
 rw[<-h];have b:=ae h;clear h;go_enter func132,ntmps132;cases h1:(x.B == 0) with
 |false =>
  obtain rfl:r=ZA:=by rw[b.out];simp at h1;simp[aX,h1]
  go_wp2;go_ret;exact⟨rfl,f⟩
 |true =>
  by_cases h4:(x.h.size:Int)<=2000
  ·have i:decide (x.h.size<=2000)=ZG:=by simp;omega
   cases h2:((x.f:Int) == 0) with
   |false =>
    obtain rfl:r=ZA:=by rw[b.out];simp at h2;simp[aX];omega
    go_wp2;go_ret;exact⟨rfl,f⟩
   |true =>
    cases h3:((x.b:Int) == 0) with
    |false =>
     obtain rfl:r=ZA:=by rw[b.out];simp at h3;simp[aX];omega
     go_wp2;go_ret;exact⟨rfl,f⟩
    |true =>
     obtain rfl:r=ZG:=by rw[b.out,i];simp at h1 h2 h3;simp[aX,h1,h2,h3]
     go_wp2;go_ret;exact⟨rfl,f⟩
  ·obtain rfl:r=ZA:=by rw[b.out];simp;omega
   go_wp2;go_ret;exact⟨rfl,f⟩
theorem qu (b off n cap p:Nat)(f:Nat->Deed)(w:M)(hp:p<n)(S:RowDeed w b off n f)(F:(f p).f<=1048576)(ZP:∀j,j<(f p).f->((f p).G j).s.size<=maxLen):Calls Pg 133 #[.agg #[Z (T (Q b off Y)) n cap],J I (p:Int)] w λe w'=>e=ZF (ZD (decide ((f p).h.size<=2000) && cG f p (f p)))/\Below w.heap.size w w':=by
 have HF:=ae S;have hb:=S.1;obtain⟨p0,p1,p2,p3,⟨a0,o,p4,q4⟩,⟨a1,z,p5,q5⟩⟩:=S.2 p hp;obtain⟨x,hx⟩:∃x,x=f p:=⟨_,rfl⟩
 rw[<-hx] at p0 p1 p2 p3 p4 p5 q4 q5 F ZP ⊢;have HX:=ae hx;have Q4:=ae q4;have Q5:=ae q5;have HZ:=ae ZP;clear hx q4 q5 S ZP;have y:=ae (((q9 w).alloc ly (N #[Z (T (Q b off Y)) n cap] 25)).alloc (by simp) (N #[U x.e,J I x.E,J I x.B,U x.h,Z a0 x.f o,Z a1 x.b z] 62));have u:=ae (lC (A w (N #[Z (T (Q b off Y)) n cap] 25)) (U x.e) (J I x.E) (J I x.B) (U x.h) (Z a0 x.f o) (Z a1 x.b z) 62);have hz:(A w (N #[Z (T (Q b off Y)) n cap] 25)).heap.size=w.heap.size+1:=by simp
 rw[hz] at u;have K0:Hid (((A w (N #[Z (T (Q b off Y)) n cap] 25)).alloc (N #[U x.e,J I x.E,J I x.B,U x.h,Z a0 x.f o,Z a1 x.b z] 62)).cell? (Q w.heap.size 0 Y)=T (Z (T (Q b off Y)) n cap)):=by show World.cell? _ _=_;simp
 clear hz;obtain⟨r,C⟩:∃r,r=(decide (x.h.size<=2000) && cG f p x):=⟨_,rfl⟩
 rw[<-C];have E:=ae C;clear C;have c2:=u.c2;have c3:=u.c3;have c4:=u.c4;have c5:=u.c5;by_cases g1:0<=x.B;case neg =>
  obtain rfl:r=ZA:=by rw[E.out];simp[cG,g1]
  go_enter func133,VA;go_wp2;go_ret;exact⟨rfl,y⟩
 by_cases g2:x.B<=5;case neg =>
  obtain rfl:r=ZA:=by rw[E.out];simp[cG,g2]
  go_enter func133,VA;go_wp2;go_ret;exact⟨rfl,y⟩
 by_cases g3:(x.h.size:Int)<=2000;case neg =>
  obtain rfl:r=ZA:=by rw[E.out];simp;omega
  go_enter func133,VA;go_wp2;go_ret;exact⟨rfl,y⟩
 have V:decide (x.h.size<=2000)=ZG:=by simp;omega
 go_enter func133,VA;go_wp2_with fail;generalize World.alloc (World.alloc w _) _=W at y u K0 ⊢;clear p0 p1 p2 p3 p4 p5;refine(jB a0 x.f o x.G _ F (Q4.aa y ly) HZ).mono ?_;rintro e w1 ⟨t,c⟩;have ZQ:=ae (y.trans (c.mono y.size));have S1:=ae (u.aa c);have K1:=ae ((c.cell (p:=(Q w.heap.size 0 Y)) (TN u.lt)).trans K0);clear c y u K0 c2 c3 c4 c5;have c5:=S1.c5;cases hv:valid x.G x.f with
 |false =>
  rw[hv] at t;subst t;obtain rfl:r=ZA:=by rw[E.out];simp[cG,hv]
  go_wp2;go_ret;exact⟨rfl,ZQ⟩
 |true =>
 rw[hv] at t;subst t;have ZO:Hid (r=(decide (x.b<=200) && bM f p x x.b)):=by show r=_;rw[E.out,V];simp[cG,hv,g1,g2]
 clear E V hv;by_cases hbig:(200:Int)<(x.b:Int)
 ·obtain rfl:r=ZA:=by rw[ZO.out];simp;omega
  go_wp2;go_ret;exact⟨rfl,ZQ⟩
 have ZL:Hid (r=bM f p x x.b):=by show r=_;rw[ZO.out,show decide (x.b<=200)=ZG by simp;omega];rfl
 clear ZO;go_wp2;have aq:w.heap.size+1<w1.heap.size:=S1.lt;go_loopw [6] (λi wr=>∃k:Nat,k<=x.b/\i=J I k/\Hid (bM f p x k=ZG)/\Hid (Below w1.heap.size w1 wr)) (λi _=>x.b - (intOf i).toNat);case atStart=>exact⟨0,by omega,rfl,rfl,eL _ _⟩
 case round =>
  obtain⟨k,hk,rfl,HK,K⟩:=hrel;have e5:=(K.cell (p:=(Q (w.heap.size+1) 5 Y)) aq).trans c5;have O:=ae (ZQ.trans (K.mono ZQ.size));by_cases H:k<x.b
  ·obtain⟨lb,lo,rfl,G⟩:=(Q5.aa O ly).resolve_left (by omega);have ZK:=G.2 k H;obtain⟨l,hl⟩:∃l,l=x.m k:=⟨_,rfl⟩
   rw[<-hl] at ZK;obtain⟨d0,d1,d2,d3⟩:=ZK;have HS:Hid (bM f p x (k+1)=ew f p l):=by show(bM f p x k && ew f p (x.m k))=_;rw[HK.out,SS,<-hl]
   clear hl G;have ZM:=ae (O.alloc O.size (N #[U l.e,ZD l.ask,ZD l.has,J I l.L] 93));have D:=ae (K.alloc K.size (N #[U l.e,ZD l.ask,ZD l.has,J I l.L] 93));have P:(A wr (N #[U l.e,ZD l.ask,ZD l.has,J I l.L] 93)).cell? (Q wr.heap.size 0 Y)=T (U l.e):=by simp
   have L:(A wr (N #[U l.e,ZD l.ask,ZD l.has,J I l.L] 93)).cell? (Q wr.heap.size 1 Y)=T (ZD l.ask):=by simp
   have ZN:(A wr (N #[U l.e,ZD l.ask,ZD l.has,J I l.L] 93)).cell? (Q wr.heap.size 2 Y)=T (ZD l.has):=by simp
   have R:(A wr (N #[U l.e,ZD l.ask,ZD l.has,J I l.L] 93)).cell? (Q wr.heap.size 3 Y)=T (J I l.L):=by simp
   have g:wr.heap.size<(A wr (N #[U l.e,ZD l.ask,ZD l.has,J I l.L] 93)).heap.size:=by simp
   have kA:=(D.cell (p:=(Q w.heap.size 0 Y)) (by show w.heap.size<_;omega)).trans K1;have ZI:w.heap.size<(A wr (N #[U l.e,ZD l.ask,ZD l.has,J I l.L] 93)).heap.size:=by have:=D.size;omega
   go_wp2_with fail;clear d0 d1 d2 d3 e5;generalize World.alloc wr _=W1 at ZM D P L ZN R g kA ZI ⊢;generalize wr.heap.size=X at P L ZN R g ⊢;refine(cZ l.e _).mono ?_;rintro e w2 ⟨t,c⟩;have B:=ae (ZM.trans (c.mono ZM.size));have C2:=ae (D.trans (c.mono D.size));have f0:=(c.cell (p:=(Q X 0 Y)) g).trans P;have f1:=(c.cell (p:=(Q X 1 Y)) g).trans L;have f2:=(c.cell (p:=(Q X 2 Y)) g).trans ZN;have f3:=(c.cell (p:=(Q X 3 Y)) g).trans R;have kB:=(c.cell (p:=(Q w.heap.size 0 Y)) ZI).trans kA;have FR:=ae (HF.aa B ly);clear c P L ZN R kA ZM D;have HLT:=ae H;have no:ew f p l=ZA->r=ZA:=λh=>by rw[ZL.out];exact lA H (HS.trans h)
   have m:=ae no;clear no;cases hnm:aw l.e with
   |false =>rw[hnm] at t;subst t;obtain rfl:r=ZA:=m.out (by rw[dS,hnm];rfl);go_wp2;go_ret;exact⟨rfl,B⟩
   |true =>
   rw[hnm] at t;subst t;cases hask:l.ask with
   |false =>
    rw[hask] at f1;cases h1:(l.L == 0) with
    |false =>obtain rfl:r=ZA:=m.out (by simp at h1;rw[dS,hnm];simp[dK,hask,h1]);go_wp2;go_ret;exact⟨rfl,B⟩
    |true =>have HN:Hid (bM f p x (k+1)=ZG):=HS.trans (by simp at h1;rw[dS,hnm];simp[dK,hask,h1]);go_wp2_with fail;go_quiet (fail);have C3:=ae (AS C2 nq);go_wp2;exact⟨⟨k+1,by omega,by go_num,HN,C3⟩,by simp[intOf];omega⟩
   |true =>
    rw[hask] at f1;cases hhas:l.has with
    |true =>rw[hhas] at f2;obtain rfl:r=ZA:=m.out (by rw[dS,hnm];simp[dK,hask,hhas]);go_wp2_with fail;go_quiet (fail);have ZR:=ae (AS B nq);go_wp2;go_ret;exact⟨rfl,ZR⟩
    |false =>
     rw[hhas] at f2;by_cases g4:0<=l.L
     ·by_cases g5:l.L<(p:Int)
      ·obtain⟨q,hq⟩:∃q:Nat,l.L=(q:Int):=⟨l.L.toNat,by omega⟩
       rw[hq] at f3 g5;have bt:q<n:=by omega
       have d0:=(FR.2 q bt).1;have h5:decide ((p:Int)<=(q:Int))=ZA:=by simp;omega
       have h5n:decide (p<=q)=ZA:=by simp;omega
       have h6:decide ((q:Int)<0)=ZA:=by simp
       have hq0:(0:Int)<=q:=by omega
       have hqn':(q:Int)<n:=by omega
       have ZJ:Hid (dK f p l=((f q).e.toList == l.e.toList)):=by show dK f p l=_;simp[dK,hask,hhas,hq,g5]
       cases C:((f q).e.toList == l.e.toList) with
       |true =>have HN:Hid (bM f p x (k+1)=ZG):=HS.trans (by rw[dS,hnm,ZJ.out,C];rfl);go_wp2_with fail;go_quiet (fail);have C3:=ae (AS C2 nq);go_wp2;exact⟨⟨k+1,by omega,by go_num,HN,C3⟩,by simp[intOf];omega⟩
       |false =>obtain rfl:r=ZA:=m.out (by rw[dS,hnm,ZJ.out,C];rfl);go_wp2_with fail;go_quiet (fail);have ZR:=ae (AS B nq);go_wp2;go_ret;exact⟨rfl,ZR⟩
      ·obtain rfl:r=ZA:=m.out (by rw[dS,hnm];simp[dK,hask,g5]);have h5:(p:Int)<=l.L:=by omega
       have h6:decide (l.L<0)=ZA:=by simpa using g4
       go_wp2_with fail;go_quiet (fail);have ZR:=ae (AS B nq);go_wp2;go_ret;exact⟨rfl,ZR⟩
     ·obtain rfl:r=ZA:=m.out (by rw[dS,hnm];simp[dK,hask,g4]);have h6:l.L<0:=by omega
      go_wp2_with fail;go_quiet (fail);have ZR:=ae (AS B nq);go_wp2;go_ret;exact⟨rfl,ZR⟩
  ·have e:x.b=k:=by omega
   obtain rfl:r=ZG:=by rw[ZL.out,e];exact HK
   have h5:((k:Int)<(x.b:Int))=False:=by simp;omega
   go_wp2;go_ret;exact⟨rfl,O⟩
theorem tm (b off n cap p:Nat)(f:Nat->Deed)(w:M)(ZQ:p<n)(E:RowDeed w b off n f)(o:(f p).f<=1048576)(z:∀j,j<(f p).f->((f p).G j).s.size<=maxLen):Calls Pg 96 #[.agg #[Z (T (Q b off Y)) n cap],J I (p:Int)] w λe C=>e=ZF (ZD (be f p))/\Below w.heap.size w C:=by
 have u:=ae (λC (hb:Below w.heap.size w C)=>qu b off n cap p f C ZQ (E.aa hb ly) o z);obtain⟨r,ZP⟩:∃r,r=be f p:=⟨_,rfl⟩
 rw[<-ZP];have K:=ae ZP;clear ZP;have hb:=E.1;obtain⟨ZL,ZM,ZK,R,⟨a0,l,P,S⟩,⟨a1,m,L,O⟩⟩:=E.2 p ZQ;obtain⟨x,ZO⟩:∃x,x=f p:=⟨_,rfl⟩
 rw[<-ZO] at ZL ZM ZK R P L S O o z u;have ZN:=ae ZO;clear ZO S O E z o;have D:=ae (((q9 w).alloc ly (N #[Z (T (Q b off Y)) n cap] 25)).alloc (by simp) (N #[U x.e,J I x.E,J I x.B,U x.h,Z a0 x.f l,Z a1 x.b m] 62));have y:=ae (lC (A w (N #[Z (T (Q b off Y)) n cap] 25)) (U x.e) (J I x.E) (J I x.B) (U x.h) (Z a0 x.f l) (Z a1 x.b m) 62);have hz:(A w (N #[Z (T (Q b off Y)) n cap] 25)).heap.size=w.heap.size+1:=by simp
 rw[hz] at y;have G:Hid (((A w (N #[Z (T (Q b off Y)) n cap] 25)).alloc (N #[U x.e,J I x.E,J I x.B,U x.h,Z a0 x.f l,Z a1 x.b m] 62)).cell? (Q w.heap.size 0 Y)=T (Z (T (Q b off Y)) n cap)):=by show World.cell? _ _=_;simp
 clear hz;go_enter func96,ntmps96;go_wp2_with fail;generalize World.alloc (World.alloc w _) _=W at D y G ⊢;clear ZL ZM ZK R P L;refine(cZ x.e _).mono ?_;rintro e X ⟨B,i⟩;have g:=ae (D.trans (i.mono D.size));have q:=ae (y.aa i);have ZJ:=ae ((i.cell (p:=(Q w.heap.size 0 Y)) (TN y.lt)).trans G);clear i D y G;cases hnm:aw x.e with
 |false =>
  rw[hnm] at B;subst B;obtain rfl:r=ZA:=by rw[K.out];unfold be;rw[<-ZN.out,hnm];rfl
  go_wp2;go_ret;exact⟨rfl,g⟩
 |true =>
 rw[hnm] at B;subst B;have t:Hid (r=(decide (x.h.size<=2000) && kindOk f p x)):=by show r=_;rw[K.out];unfold be;rw[<-ZN.out,hnm];rfl
 clear K;have c0:=q.c0;have c1:=q.c1;have c2:=q.c2;have c3:=q.c3;have c4:=q.c4;have c5:=q.c5;cases h1:(x.E == 1) with
 |true =>
  have ZR:x.E=1:=by simpa using h1
  have c:Hid ((decide (x.h.size<=2000) && aX x)=r):=(t.trans (by unfold kindOk;rw[p7 ZR])).symm;clear ZR;go_wp2_with fail;refine(tk x a0 l a1 m _).mono ?_;rintro e V ⟨rfl,i⟩;have H:=ae (g.trans (i.mono g.size));clear i;go_wp2;go_ret;exact⟨zM c,H⟩
 |false =>
 cases h2:(x.E == 2) with
 |true =>
  have ZR:x.E=2:=by simpa using h2
  have c:Hid (r=(aX x && decide (x.h.size=0))):=t.trans (by
   unfold kindOk;rw[nD (by omega),p7 ZR];by_cases h:x.h.size=0;{simp[h]}
   ·simp[h])
  clear ZR t;cases g1:(x.B == 0) with
  |false =>
   obtain rfl:r=ZA:=by rw[c.out];simp at g1;simp[aX,g1]
   go_wp2;go_ret;exact⟨rfl,g⟩
  |true =>
  cases g2:x.h.toList.isEmpty with
  |false =>
   obtain rfl:r=ZA:=by rw[c.out,<-lD,g2];simp
   go_wp2;go_ret;exact⟨rfl,g⟩
  |true =>
  cases g3:((x.f:Int) == 0) with
  |false =>
   obtain rfl:r=ZA:=by rw[c.out];simp at g3;simp[aX];omega
   go_wp2;go_ret;exact⟨rfl,g⟩
  |true =>
  cases g4:((x.b:Int) == 0) with
  |false =>
   obtain rfl:r=ZA:=by rw[c.out];simp at g4;simp[aX];omega
   go_wp2;go_ret;exact⟨rfl,g⟩
  |true =>
   obtain rfl:r=ZG:=by rw[c.out,<-lD,g2];simp at g1 g3 g4;simp[aX,g1,g3,g4]
   go_wp2;go_ret;exact⟨rfl,g⟩
 |false =>
 cases h3:(x.E == 3) with
 |false =>
  obtain rfl:r=ZA:=by rw[t.out];unfold kindOk;simp at h1 h2 h3;rw[nD h1,nD h2,nD h3];simp
  go_wp2;go_ret;exact⟨rfl,g⟩
 |true =>have c:Hid ((decide (x.h.size<=2000) && cG f p x)=r):=(t.trans (by unfold kindOk;simp at h1 h2 h3;rw[nD h1,nD h2,p7 h3])).symm;have k1:=ZJ.out;have F:=ae (u X g);rw[c.out] at F;clear u t;go_wp2_with fail;refine F.mono ?_;rintro e V ⟨rfl,i⟩;have H:=ae (g.trans (i.mono g.size));clear i;go_wp2;go_ret;exact⟨rfl,H⟩
