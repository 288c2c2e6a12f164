import Derived.Test.YtcnilonhfpimnaaGreatDoorGE
import Derived.Deep.DeepCutAuto
set_option linter.all false
set_option maxRecDepth 100000
set_option maxHeartbeats 4000000
open Go renaming Addr.mk->T,Value.slice->Y,Value.string->U,Value.int->J,Value.bool->ZF,Value.agg->ZJ,Obj.cells->N,IntKind.i64->I,World->E,Value->ZB,Ending.returned->ZI,World.heap->z,World.alloc->ZU,World.cell?->ZV,Proofs.Tryz.prog->Pg,Calls->Qw
open Option renaming none->Z,some->Q
open Bool renaming false->ZA,true->ZH
open Array renaming size->A
namespace Go.Proofs.YtcnilonhfpimnaaGreatDoor.Vp
open Tryz RowKit
abbrev GF (x:au)(a0:O_)(b:Nat)(a1:O_)(f:Nat):ZB:=ZJ #[U x.e,J I x.L,J I x.M,U x.H,Y a0 x.h b,Y a1 x.f f]
abbrev Jm (l:Link):ZB:=ZJ #[U l.e,ZF l.ask,ZF l.has,J I l.G]
def pU (x:au)(a0:O_)(b:Nat)(a1:O_)(f:Nat)(w:E):Qw Pg 164 #[GF x a0 b a1 f] w λe j=>e=ZI (ZF (aY x))/\Below (A (z w)) w j:=by
 have h:=ae ((BS w).alloc ly (N #[U x.e,J I x.L,J I x.M,U x.H,Y a0 x.h b,Y a1 x.f f] 62));obtain⟨r,i⟩:∃r,r=aY x:=⟨_,rfl⟩
 rw[<-i];have g:=ae i;clear i;go_enter func164,ntmps164;cases h1:(x.M == 0) with
 |false =>
  obtain rfl:r=ZA:=by rw[g.i];simp at h1;simp[aY,h1]
  go_wp2;go_ret;exact⟨rfl,h⟩
 |true =>
  cases h2:((x.h:Int) == 0) with
  |false =>
   obtain rfl:r=ZA:=by rw[g.i];simp at h2;simp[aY];omega
   go_wp2;go_ret;exact⟨rfl,h⟩
  |true =>
   cases h3:((x.f:Int) == 0) with
   |false =>
    obtain rfl:r=ZA:=by rw[g.i];simp at h3;simp[aY];omega
    go_wp2;go_ret;exact⟨rfl,h⟩
   |true =>
    obtain rfl:r=ZH:=by rw[g.i];simp at h1 h2 h3;simp[aY,h1,h2,h3]
    go_wp2;go_ret;exact⟨rfl,h⟩
def dC (f:Nat->au)(p:Nat)(l:Link):Bool:=if l.ask=ZH then !l.has && decide (0<=l.G) && decide (l.G<(p:Int)) && ((f l.G.toNat).e.toList == l.e.toList) else decide (l.G=0)
def dN (f:Nat->au)(p:Nat)(l:Link):dW f p l=(aA l.e && dC f p l):=rfl
def mS (b off n p j_:Nat)(f:Nat->au)(l:Link)(w:E)(hp:p<=n)(j:Qk w b off n f):Qw Pg 186 #[Y (Q (T b off Z)) p j_,Jm l] w λe s=>e=ZI (ZF (dC f p l))/\Below (A (z w)) w s:=by
 have g:=ae ((BS w).alloc ly (N #[U l.e,ZF l.ask,ZF l.has,J I l.G] 65));have t:=ae (j.aa g ly);have hb:=j.1;clear j;obtain⟨r,h⟩:∃r,r=dC f p l:=⟨_,rfl⟩
 rw[<-h];have i:=ae h;clear h;obtain⟨nm,ask,has,at_⟩:=l;go_enter func186,ntmps186;cases ask with
 |false =>
  cases h1:(at_ == 0) with
  |true =>
   obtain rfl:r=ZH:=by rw[i.i];simp at h1;simp[dC,h1]
   go_wp2;go_ret;exact⟨rfl,g⟩
  |false =>
   obtain rfl:r=ZA:=by rw[i.i];simp at h1;simp[dC,h1]
   go_wp2;go_ret;exact⟨rfl,g⟩
 |true =>
  cases has with
  |true =>
   obtain rfl:r=ZA:=by rw[i.i];simp[dC]
   go_wp2_with fail;go_quiet (fail);go_wp2;go_ret;exact⟨rfl,AD g _⟩
  |false =>
   by_cases h1:0<=at_
   ·by_cases h2:at_<(p:Int)
    ·obtain⟨q,rfl⟩:∃q:Nat,at_=(q:Int):=⟨at_.toNat,by omega⟩
     have m:q<n:=by omega
     have d0:=(t.2 q m).1;have e:r=((f q).e.toList == nm.toList):=by rw[i.i];simp[dC,h2]
     cases h:((f q).e.toList == nm.toList) with
     |true =>rw[h] at e;subst e;go_wp2_with fail;go_quiet (fail);go_wp2;go_ret;exact⟨rfl,AD g _⟩
     |false =>rw[h] at e;subst e;go_wp2_with fail;go_quiet (fail);go_wp2;go_ret;exact⟨rfl,AD g _⟩
    ·obtain rfl:r=ZA:=by rw[i.i];simp[dC,h2]
     have o:decide (at_<(p:Int))=ZA:=by simpa using h2
     go_wp2_with fail;go_quiet (fail);go_wp2;go_ret;exact⟨rfl,AD g _⟩
   ·obtain rfl:r=ZA:=by rw[i.i];simp[dC,h1]
    have o:decide (0<=at_)=ZA:=by simpa using h1
    go_wp2_with fail;go_quiet (fail);go_wp2;go_ret;exact⟨rfl,AD g _⟩
def lJ {f:Nat->au}{p:Nat}{x:au}{k m:Nat}(hk:k<m)(h:bX f p x (k+1)=ZA):bX f p x m=ZA:=by
 induction m with
 |zero=>omega
 |succ j b =>
  by_cases e:k=j;{subst e;exact h};{rw[bX,b (by omega)];rfl}
def ri (b off n j_ p:Nat)(f:Nat->au)(w:E)(hp:p<n)(ZR:Qk w b off n f)(hcap:(p:Int)<=j_):Qw Pg 165 #[ZJ #[Y (Q (T b off Z)) n j_],J I (p:Int)] w λe ZO=>e=ZI (ZF (decide ((f p).f<=200) && bX f p (f p) (f p).f))/\Below (A (z w)) w ZO:=by
 have o:=ae ((BS w).alloc ly (N #[Y (Q (T b off Z)) n j_] 25));have HF:=ae ZR;obtain⟨_,_,_,_,_,⟨a1,cap1,ZQ,r1⟩⟩:=ZR.2 p hp;have hb:=ZR.1;have k0:ZV (ZU w (N #[Y (Q (T b off Z)) n j_] 25)) (T (A (z w)) 0 Z)=Q (Y (Q (T b off Z)) n j_):=by simp
 have p5:=(o.O (p:=(T b (off+p*6+5) Z)) hb).k ZQ;have O:=ae r1;have x:A (z w)<A (z (ZU w (N #[Y (Q (T b off Z)) n j_] 25))):=by simp
 clear r1 ZQ ZR;obtain⟨m,S⟩:∃m,m=(f p).f:=⟨_,rfl⟩
 obtain⟨L,hL⟩:∃L,L=(f p).m:=⟨_,rfl⟩
 rw[<-S] at p5 O ⊢;rw[<-hL] at O;have HM:=ae S;have aq:=ae hL;clear S hL;by_cases hbig:(200:Int)<(m:Int)
 ·obtain⟨r,hr⟩:∃r,r=(decide (m<=200) && bX f p (f p) m):=⟨_,rfl⟩
  rw[<-hr];obtain rfl:r=ZA:=by rw[hr];simp;omega
  clear hr;go_enter func165,ntmps165;go_wp2;go_ret;exact⟨rfl,o⟩
 have hd:decide (m<=200)=ZH:=by simp;omega
 rw[hd,P9];clear hd;go_enter func165,ntmps165;go_wp2;generalize World.alloc w _=W at o k0 x ⊢;clear p5;go_loopw [19] (λi wr=>∃k:Nat,k<=m/\i=J I k/\Hid (bX f p (f p) k=ZH)/\Hid (Below (A (z W)) W wr)) (λi _=>m - (intOf i).toNat);case atStart=>exact⟨0,by omega,rfl,rfl,a8 _ _⟩
 case round =>
  obtain⟨k,hk,rfl,ZM,s⟩:=hrel;by_cases u:k<m
  ·obtain⟨lb,lo,rfl,ex,y⟩:=O.resolve_left (by omega);have hx:=(y k u).aa (o.k (s.P o.size)) ex;obtain⟨l,ZP⟩:∃l,l=L k:=⟨_,rfl⟩
   rw[<-ZP] at hx;have bt:=ae ZP;obtain⟨d0,d1,d2,d3⟩:=hx;clear ZP y;have HS:Hid (bX f p (f p) (k+1)=dW f p l):=by show(bX f p (f p) k && dW f p ((f p).m k))=_;rw[ZM.i,P9,<-aq.i,<-bt.i]
   have t:=ae ((o.k (s.P o.size)).alloc (by have:=o.size;have:=s.size;omega) (N #[U l.e,ZF l.ask,ZF l.has,J I l.G] 65));have C:=ae ((s).alloc s.size (N #[U l.e,ZF l.ask,ZF l.has,J I l.G] 65));have ZT:ZV (ZU wr (N #[U l.e,ZF l.ask,ZF l.has,J I l.G] 65)) (T (A (z wr)) 0 Z)=Q (U l.e):=by simp
   have ZS:ZV (ZU wr (N #[U l.e,ZF l.ask,ZF l.has,J I l.G] 65)) (T (A (z wr)) 1 Z)=Q (ZF l.ask):=by simp
   have K:ZV (ZU wr (N #[U l.e,ZF l.ask,ZF l.has,J I l.G] 65)) (T (A (z wr)) 2 Z)=Q (ZF l.has):=by simp
   have H:ZV (ZU wr (N #[U l.e,ZF l.ask,ZF l.has,J I l.G] 65)) (T (A (z wr)) 3 Z)=Q (J I l.G):=by simp
   have hX:A (z wr)<A (z (ZU wr (N #[U l.e,ZF l.ask,ZF l.has,J I l.G] 65))):=by simp
   have P:=(C.O (p:=(T (A (z w)) 0 Z)) x).k k0;have ZW:A (z w)<A (z (ZU wr (N #[U l.e,ZF l.ask,ZF l.has,J I l.G] 65))):=lj x C.size;have ZL:=ae (HF.aa t ly);go_upto_region 7 with fail;clear d0 d1 d2 d3;generalize World.alloc wr _=G at t C ZT ZS K H hX P ZW ZL ⊢;generalize (A (z wr))=X at ZT ZS K H hX ⊢;have hp0:0<=(p:Int):=by omega
   have hpn:(p:Int)<=n:=by omega
   have M:p<=n:=by omega
   have hcap':p<=j_:=by omega
   cases hnm:aA l.e with
   |false =>
    have hq:∀w,Qw Pg 113 #[U l.e] w λe ZO=>e=ZI (ZF ZA)/\ZO=w:=λw=>by rw[<-hnm];exact wU l.e w
    go_quiet ((go_at_call 113;exact Calls.quiet_of_same (hq _)));have hN:dW f p l=ZA:=by rw[dN,hnm];rfl
    have B:=ae (HS.k hN);have D:=ae u;have G1:=ae (AD t nq);clear hN;go_wp2;go_ret;exact⟨xT (λZX=>Ending.returned (ZF ZX)) (lJ D B).c,G1⟩
   |true =>
    cases hla:dC f p l with
    |true =>
     go_region_with (first
      |(go_at_call 113;refine(fu _ _).P ?_;rintro e ZN⟨j,g⟩;rw[hnm] at j;subst j;have h:Hid (Below (A (z G)) G ZN):=⟨g.os,g.tape,g.output,g.size,g.p⟩;have f0:=(h.O (p:=(T X 0 Z)) hX).k ZT;have f1:=(h.O (p:=(T X 1 Z)) hX).k ZS;have f2:=(h.O (p:=(T X 2 Z)) hX).k K;have f3:=(h.O (p:=(T X 3 Z)) hX).k H;have k2:=(h.O (p:=(T (A (z w)) 0 Z)) ZW).k P;have V:=ae (ZL.aa h ly);clear g)
      |(go_at_call 186;refine(mS b off n p j_ f l _ M V).P ?_;rintro e w2⟨j,q⟩;rw[hla] at j;subst j;have D2:=ae (h.k (q.P h.size));clear q))
     all_goals
      have B:Hid (bX f p (f p) (k+1)=ZH):=HS.k (by rw[dN,hnm,hla];rfl);have R:=ae (C.k (D2.P C.size));go_wp2;exact⟨⟨k+1,by omega,by go_num,B,R⟩,by simp[intOf];omega⟩
    |false =>
     go_region_with (first
      |(go_at_call 113;refine(fu _ _).P ?_;rintro e ZN⟨j,g⟩;rw[hnm] at j;subst j;have h:Hid (Below (A (z G)) G ZN):=⟨g.os,g.tape,g.output,g.size,g.p⟩;have f0:=(h.O (p:=(T X 0 Z)) hX).k ZT;have f1:=(h.O (p:=(T X 1 Z)) hX).k ZS;have f2:=(h.O (p:=(T X 2 Z)) hX).k K;have f3:=(h.O (p:=(T X 3 Z)) hX).k H;have k2:=(h.O (p:=(T (A (z w)) 0 Z)) ZW).k P;have V:=ae (ZL.aa h ly);clear g)
      |(go_at_call 186;refine(mS b off n p j_ f l _ M V).P ?_;rintro e w2⟨j,q⟩;rw[hla] at j;subst j;have D2:=ae (h.k (q.P h.size));clear q))
     all_goals
      have B:Hid (bX f p (f p) (k+1)=ZA):=HS.k (by rw[dN,hnm,hla];rfl);have D:=ae u;have R:=ae (t.k (D2.P (by have:=t.size;omega)));go_wp2;go_ret;exact⟨xT (λZX=>Ending.returned (ZF ZX)) (lJ D B).c,R⟩
  ·have e:m=k:=by omega
   subst e;go_wp2;go_ret;exact⟨by rw[HM.i] at ZM;rw[HM.i];exact xT (λZX=>Ending.returned (ZF ZX)) ZM.c,o.k (s.P o.size)⟩
structure SixB (w:E)(b:Nat)(v0 v1 v2 v3 v4 v5:ZB):Prop where
 lt:b<A (z w)
 c0:ZV w (T b 0 Z)=Q v0
 c1:ZV w (T b 1 Z)=Q v1
 c2:ZV w (T b 2 Z)=Q v2
 c3:ZV w (T b 3 Z)=Q v3
 c4:ZV w (T b 4 Z)=Q v4
 c5:ZV w (T b 5 Z)=Q v5
def SixB.aa {w l:E}{b:Nat}{n f g j m i:ZB}(h:SixB w b n f g j m i)(hb:Below (A (z w)) w l):SixB l b n f g j m i:=
 ⟨lj h.lt hb.size,(hb.O (p:=(T b 0 Z)) h.lt).k h.c0,(hb.O (p:=(T b 1 Z)) h.lt).k h.c1,(hb.O (p:=(T b 2 Z)) h.lt).k h.c2,(hb.O (p:=(T b 3 Z)) h.lt).k h.c3,(hb.O (p:=(T b 4 Z)) h.lt).k h.c4,(hb.O (p:=(T b 5 Z)) h.lt).k h.c5⟩
def lK (w:E)(j h i g b f:ZB)(t:TypeId):SixB (ZU w (N #[j,h,i,g,b,f] t)) (A (z w)) j h i g b f:=⟨by simp,by simp,by simp,by simp,by simp,by simp,by simp⟩
def lL (t:F_):t.toList.isEmpty=decide (t.size=0):=by rw[NJ];obtain⟨⟨l⟩⟩:=t;cases l<;>simp[ByteArray.size]
def AJ {a b:Bool}(h:a=b):Ending.returned (ZF a)=Ending.returned (ZF b):=by rw[h]
def tD (b off n j_ p:Nat)(f:Nat->au)(w:E)(X:p<n)(H:Qk w b off n f)(L:(p:Int)<=j_)(u:(f p).h<=1048576)(R:Tab w):Qw Pg 145 #[ZJ #[Y (Q (T b off Z)) n j_],J I (p:Int)] w λe w'=>e=ZI (ZF (bw f p))/\Below (A (z w)) w w':=by
 have HF:=ae H;have P:=ae R;have hb:=H.1;obtain⟨ZL,O,ZO,ZM,⟨a0,m,ZQ,ZR⟩,⟨a1,q,ZN,q5⟩⟩:=H.2 p X;obtain⟨r,M⟩:∃r,r=bw f p:=⟨_,rfl⟩
 rw[<-M];have ZT:=ae M;obtain⟨x,ZS⟩:∃x,x=f p:=⟨_,rfl⟩
 rw[<-ZS] at ZL O ZO ZM ZQ ZN ZR u;have G:=ae ZS;have Q4:=ae ZR;clear M ZS ZR q5 H R;obtain⟨W,C⟩:∃W:E,ZU (ZU w (N #[Y (Q (T b off Z)) n j_] 25)) (N #[U x.e,J I x.L,J I x.M,U x.H,Y a0 x.h m,Y a1 x.f q] 62)=W:=⟨_,rfl⟩
 obtain⟨B,-,-,-⟩:=nb2 C;have ZW:=ae C;clear C;have ZX:=ae (lK (ZU w (N #[Y (Q (T b off Z)) n j_] 25)) (U x.e) (J I x.L) (J I x.M) (U x.H) (Y a0 x.h m) (Y a1 x.f q) 62);have hz:A (z (ZU w (N #[Y (Q (T b off Z)) n j_] 25)))=A (z w)+1:=by simp
 rw[hz] at ZX;have S:Hid (ZV W (T (A (z w)) 0 Z)=Q (Y (Q (T b off Z)) n j_)):=by rw[<-ZW.i];show World.cell? _ _=_;simp
 clear hz;go_enter func145,ntmps145;go_wp2_with fail;rw[ZW.i] at ZX ⊢;clear ZW;clear ZL O ZO ZM ZQ ZN;cases hnm:aA x.e with
 |false =>
  refine(fu x.e _).P ?_;rintro e w1⟨h,g⟩;rw[hnm] at h;subst h;have i:=ae (B.k (g.P B.size));obtain rfl:r=ZA:=by rw[ZT.i];unfold bw;rw[<-G.i,hnm];rfl
  clear g;go_wp2;go_ret;exact⟨rfl,i⟩
 |true =>
 refine(fu x.e _).P ?_;rintro e w1⟨h,g⟩;rw[hnm] at h;subst h;have i:=ae (B.k (g.P B.size));have l:=ae (ZX.aa g);have K1:=ae ((g.O (p:=(T (A (z w)) 0 Z)) (VM ZX.lt)).k S);have c1:=l.c1;have c2:=l.c2;have c3:=l.c3;clear g B ZX S;by_cases hbig:(2000:Int)<(x.H.size:Int)
 ·obtain rfl:r=ZA:=by rw[ZT.i];unfold bw;rw[<-G.i,hnm];simp;omega
  go_wp2;go_ret;exact⟨rfl,i⟩
 have D:Hid (r=kindOk f p x):=by show r=_;rw[ZT.i];unfold bw;rw[<-G.i,hnm,show decide (x.H.size<=2000)=ZH by simp;omega];rfl
 clear ZT;cases h1:(x.L == 1) with
 |true =>
  have t:x.L=1:=by simpa using h1
  have j:Hid (aY x=r):=(D.k (by unfold kindOk;rw[eT t])).c;clear t;have c0:=l.c0;have c4:=l.c4;have c5:=l.c5;go_wp2_with fail;refine(pU x a0 m a1 q _).P ?_;rintro e K⟨rfl,g⟩;have o:=ae (i.k (g.P i.size));clear g;go_wp2;go_ret;exact⟨AJ j,o⟩
 |false =>
 cases h2:(x.L == 2) with
 |true =>
  have t:x.L=2:=by simpa using h2
  have j:Hid (r=(aY x && decide (x.H.size=0))):=D.k (by unfold kindOk;rw[eI (by omega),eT t]);clear t;have c0:=l.c0;have c4:=l.c4;have c5:=l.c5;go_wp2_with fail;refine(pU x a0 m a1 q _).P ?_;rintro e K⟨h,g⟩;have o:=ae (i.k (g.P i.size));have d3:=(l.aa g).c3;clear g;cases hu:aY x with
  |false =>
   rw[hu] at h;subst h;obtain rfl:r=ZA:=by rw[j.i,hu];rfl
   go_wp2;go_ret;exact⟨rfl,o⟩
  |true =>
   rw[hu] at h;subst h;have s:Hid (decide (x.H.size=0)=r):=by show _=r;rw[j.i,hu];rfl
   go_wp2;go_ret;exact⟨bv (by rw[lL];exact s),o⟩
 |false =>
 cases h3:(x.L == 3) with
 |false =>
  obtain rfl:r=ZA:=by rw[D.i];unfold kindOk;simp at h1 h2 h3;rw[eI h1,eI h2,eI h3]
  go_wp2;go_ret;exact⟨rfl,i⟩
 |true =>
 have j:Hid (r=cC f p x):=D.k (by unfold kindOk;simp at h1 h2 h3;rw[eI h1,eI h2,eT h3]);by_cases V:0<=x.M
 ·by_cases ZP:x.M<=5
  ·have c4:=l.c4;go_wp2_with fail;refine(nf a0 x.h m x.q _ u (Q4.aa i ly) (P.aa i P.1)).P ?_;rintro e K⟨h,g⟩;have o:=ae (i.k (g.P i.size));have K2:=(g.O (p:=(T (A (z w)) 0 Z)) (VM l.lt)).k K1;clear g;cases hv:valid x.q x.h with
   |false =>
    rw[hv] at h;subst h;obtain rfl:r=ZA:=by rw[j.i];simp[cC,hv]
    go_wp2;go_ret;exact⟨rfl,o⟩
   |true =>
    rw[hv] at h;subst h;have s:Hid ((decide (x.f<=200) && bX f p x x.f)=r):=by show _=r;rw[j.i];simp[cC,hv,V,ZP]
    have y:=ae (ri b off n j_ p f K X (HF.aa o ly) L);rw[<-G.i] at y;rw[s.i] at y;go_wp2_with fail;refine y.P ?_;rintro e w3⟨rfl,g⟩;have B3:=ae (o.k (g.P o.size));clear g;go_wp2;go_ret;exact⟨rfl,B3⟩
  ·obtain rfl:r=ZA:=by rw[j.i];simp[cC,ZP]
   go_wp2;go_ret;exact⟨rfl,i⟩
 ·obtain rfl:r=ZA:=by rw[j.i];simp[cC,V]
  go_wp2;go_ret;exact⟨rfl,i⟩
def tE (b off n j_:Nat)(f:Nat->au)(w:E)(hn:(n:Int)<=400)(D:Qk w b off n f)(hcap:(n:Int)<=j_)(o:∀i,i<n->cX (f i))(ZX:Tab w):Qw Pg 105 #[ZJ #[Y (Q (T b off Z)) n j_]] w λe H=>e=ZI (J I (aQ (bw f) n))/\Below (A (z w)) w H:=by
 have M:=ae D;have y:=ae ZX;have K:=ae o;clear D ZX o;obtain⟨W,m⟩:∃W:E,ZU w (N #[Y (Q (T b off Z)) n j_] 25)=W:=⟨_,rfl⟩
 obtain⟨ZT,-,-⟩:=nb1 m;have g:=ae m;clear m;have G:ZV W (T (A (z w)) 0 Z)=Q (Y (Q (T b off Z)) n j_):=by rw[<-g.i];simp
 have B:A (z w)<A (z W):=by rw[<-g.i];simp
 obtain⟨r,x⟩:∃r,r=aQ (bw f) n:=⟨_,rfl⟩
 rw[<-x];have C:=ae x;clear x;go_enter func105,ntmps105;go_wp2;rw[g.i];clear g;go_loopw [7] (λi wr=>∃k:Nat,k<=n/\i=J I k/\Hid (∀j,j<k->bw f j=ZH)/\Hid (Below (A (z W)) W wr)) (λi _=>n - (intOf i).toNat);case atStart=>exact⟨0,by omega,rfl,λj ZW=>absurd ZW (NE _),a8 _ _⟩
 case round =>
  obtain⟨k,hk,rfl,t,q⟩:=hrel;have k1:=(q.O (p:=(T (A (z w)) 0 Z)) B).k G;have l:=ae (ZT.k (q.P ZT.size));by_cases h:k<n
  ·go_wp2_with fail;refine(tD b off n j_ k f _ h (M.aa l ly) (by omega) (K k h).1 (y.aa l y.1)).P ?_;rintro e w2⟨s,u⟩;have ZR:=ae (l.k (u.P l.size));have ZS:=ae (q.k (u.P q.size));clear u;cases hd:bw f k with
   |true =>
    rw[hd] at s;subst s;have L:=ae hd;clear hd;go_wp2
    exact⟨⟨k+1,by omega,by go_num,λj ZW=>by
     by_cases e:j=k;{subst e;exact L}
     ·exact t j (by omega),ZS⟩,by simp[intOf];omega⟩
   |false =>
    rw[hd] at s;subst s;obtain rfl:r=k:=by rw[C.i];exact fQ h hd t
    clear hd;go_wp2;go_ret;exact⟨rfl,ZR⟩
  ·have e:n=k:=by omega
   subst e;obtain rfl:r=-1:=by rw[C.i];exact ej t
   go_wp2;go_ret;exact⟨rfl,l⟩
def ug (x:au)(a0:O_)(b:Nat)(a1:O_)(f:Nat)(w:E):Qw Pg 138 #[GF x a0 b a1 f] w λe l=>e=ZI (ZF (decide (x.H.size<=2000) && aY x))/\Below (A (z w)) w l:=by
 have h:=ae ((BS w).alloc ly (N #[U x.e,J I x.L,J I x.M,U x.H,Y a0 x.h b,Y a1 x.f f] 62));obtain⟨r,i⟩:∃r,r=(decide (x.H.size<=2000) && aY x):=⟨_,rfl⟩
 rw[<-i];have g:=ae i;clear i;go_enter func138,ntmps138;cases h1:(x.M == 0) with
 |false =>
  obtain rfl:r=ZA:=by rw[g.i];simp at h1;simp[aY,h1]
  go_wp2;go_ret;exact⟨rfl,h⟩
 |true =>
  by_cases h4:(x.H.size:Int)<=2000
  ·have j:decide (x.H.size<=2000)=ZH:=by simp;omega
   cases h2:((x.h:Int) == 0) with
   |false =>
    obtain rfl:r=ZA:=by rw[g.i];simp at h2;simp[aY];omega
    go_wp2;go_ret;exact⟨rfl,h⟩
   |true =>
    cases h3:((x.f:Int) == 0) with
    |false =>
     obtain rfl:r=ZA:=by rw[g.i];simp at h3;simp[aY];omega
     go_wp2;go_ret;exact⟨rfl,h⟩
    |true =>
     obtain rfl:r=ZH:=by rw[g.i,j];simp at h1 h2 h3;simp[aY,h1,h2,h3]
     go_wp2;go_ret;exact⟨rfl,h⟩
  ·obtain rfl:r=ZA:=by rw[g.i];simp;omega
   go_wp2;go_ret;exact⟨rfl,h⟩
def rj (b off n j_ p:Nat)(f:Nat->au)(w:E)(hp:p<n)(ZP:Qk w b off n f)(K:(f p).h<=1048576)(ZS:∀j,j<(f p).h->((f p).q j).s.size<=maxLen):Qw Pg 139 #[ZJ #[Y (Q (T b off Z)) n j_],J I (p:Int)] w λe w'=>e=ZI (ZF (decide ((f p).H.size<=2000) && cC f p (f p)))/\Below (A (z w)) w w':=by
 have HF:=ae ZP;have hb:=ZP.1;obtain⟨p0,p1,p2,p3,⟨a0,u,p4,q4⟩,⟨a1,C,p5,q5⟩⟩:=ZP.2 p hp;obtain⟨x,hx⟩:∃x,x=f p:=⟨_,rfl⟩
 rw[<-hx] at p0 p1 p2 p3 p4 p5 q4 q5 K ZS ⊢;have HX:=ae hx;have Q4:=ae q4;have Q5:=ae q5;have HZ:=ae ZS;clear hx q4 q5 ZP ZS;have ZX:=ae (((BS w).alloc ly (N #[Y (Q (T b off Z)) n j_] 25)).alloc (by simp) (N #[U x.e,J I x.L,J I x.M,U x.H,Y a0 x.h u,Y a1 x.f C] 62));have y:=ae (lK (ZU w (N #[Y (Q (T b off Z)) n j_] 25)) (U x.e) (J I x.L) (J I x.M) (U x.H) (Y a0 x.h u) (Y a1 x.f C) 62);have hz:A (z (ZU w (N #[Y (Q (T b off Z)) n j_] 25)))=A (z w)+1:=by simp
 rw[hz] at y;have K0:Hid (ZV (ZU (ZU w (N #[Y (Q (T b off Z)) n j_] 25)) (N #[U x.e,J I x.L,J I x.M,U x.H,Y a0 x.h u,Y a1 x.f C] 62)) (T (A (z w)) 0 Z)=Q (Y (Q (T b off Z)) n j_)):=by show World.cell? _ _=_;simp
 clear hz;obtain⟨r,ZT⟩:∃r,r=(decide (x.H.size<=2000) && cC f p x):=⟨_,rfl⟩
 rw[<-ZT];have D:=ae ZT;clear ZT;have c2:=y.c2;have c3:=y.c3;have c4:=y.c4;have c5:=y.c5;by_cases g1:0<=x.M;case neg =>
  obtain rfl:r=ZA:=by rw[D.i];simp[cC,g1]
  go_enter func139,YT;go_wp2;go_ret;exact⟨rfl,ZX⟩
 by_cases g2:x.M<=5;case neg =>
  obtain rfl:r=ZA:=by rw[D.i];simp[cC,g2]
  go_enter func139,YT;go_wp2;go_ret;exact⟨rfl,ZX⟩
 by_cases g3:(x.H.size:Int)<=2000;case neg =>
  obtain rfl:r=ZA:=by rw[D.i];simp;omega
  go_enter func139,YT;go_wp2;go_ret;exact⟨rfl,ZX⟩
 have ZL:decide (x.H.size<=2000)=ZH:=by simp;omega
 go_enter func139,YT;go_wp2_with fail;generalize World.alloc (World.alloc w _) _=W at ZX y K0 ⊢;clear p0 p1 p2 p3 p4 p5;refine(jD a0 x.h u x.q _ K (Q4.aa ZX ly) HZ).P ?_;rintro e w1⟨t,g⟩;have ZQ:=ae (ZX.k (g.P ZX.size));have S1:=ae (y.aa g);have K1:=ae ((g.O (p:=(T (A (z w)) 0 Z)) (VM y.lt)).k K0);clear g ZX y K0 c2 c3 c4 c5;have c5:=S1.c5;cases hv:valid x.q x.h with
 |false =>
  rw[hv] at t;subst t;obtain rfl:r=ZA:=by rw[D.i];simp[cC,hv]
  go_wp2;go_ret;exact⟨rfl,ZQ⟩
 |true =>
 rw[hv] at t;subst t;have L:Hid (r=(decide (x.f<=200) && bX f p x x.f)):=by show r=_;rw[D.i,ZL];simp[cC,hv,g1,g2]
 clear D ZL hv;by_cases hbig:(200:Int)<(x.f:Int)
 ·obtain rfl:r=ZA:=by rw[L.i];simp;omega
  go_wp2;go_ret;exact⟨rfl,ZQ⟩
 have aq:Hid (r=bX f p x x.f):=by show r=_;rw[L.i,show decide (x.f<=200)=ZH by simp;omega];rfl
 clear L;go_wp2;have ex:A (z w)+1<A (z w1):=S1.lt;go_loopw [6] (λi wr=>∃k:Nat,k<=x.f/\i=J I k/\Hid (bX f p x k=ZH)/\Hid (Below (A (z w1)) w1 wr)) (λi _=>x.f - (intOf i).toNat);case atStart=>exact⟨0,by omega,rfl,rfl,a8 _ _⟩
 case round =>
  obtain⟨k,hk,rfl,HK,M⟩:=hrel;have e5:=(M.O (p:=(T (A (z w)+1) 5 Z)) ex).k c5;have ZO:=ae (ZQ.k (M.P ZQ.size));by_cases H:k<x.f
  ·obtain⟨lb,lo,rfl,ZR⟩:=(Q5.aa ZO ly).resolve_left (by omega);have ZM:=ZR.2 k H;obtain⟨l,hl⟩:∃l,l=x.m k:=⟨_,rfl⟩
   rw[<-hl] at ZM;obtain⟨d0,d1,d2,d3⟩:=ZM;have HS:Hid (bX f p x (k+1)=dW f p l):=by show(bX f p x k && dW f p (x.m k))=_;rw[HK.i,P9,<-hl]
   clear hl ZR;have R:=ae (ZO.alloc ZO.size (N #[U l.e,ZF l.ask,ZF l.has,J I l.G] 65));have G:=ae (M.alloc M.size (N #[U l.e,ZF l.ask,ZF l.has,J I l.G] 65));have O:ZV (ZU wr (N #[U l.e,ZF l.ask,ZF l.has,J I l.G] 65)) (T (A (z wr)) 0 Z)=Q (U l.e):=by simp
   have S:ZV (ZU wr (N #[U l.e,ZF l.ask,ZF l.has,J I l.G] 65)) (T (A (z wr)) 1 Z)=Q (ZF l.ask):=by simp
   have ZN:ZV (ZU wr (N #[U l.e,ZF l.ask,ZF l.has,J I l.G] 65)) (T (A (z wr)) 2 Z)=Q (ZF l.has):=by simp
   have P:ZV (ZU wr (N #[U l.e,ZF l.ask,ZF l.has,J I l.G] 65)) (T (A (z wr)) 3 Z)=Q (J I l.G):=by simp
   have o:A (z wr)<A (z (ZU wr (N #[U l.e,ZF l.ask,ZF l.has,J I l.G] 65))):=by simp
   have kA:=(G.O (p:=(T (A (z w)) 0 Z)) (by show (A (z w))<_;omega)).k K1;have V:A (z w)<A (z (ZU wr (N #[U l.e,ZF l.ask,ZF l.has,J I l.G] 65))):=by have:=G.size;omega
   go_wp2_with fail;clear d0 d1 d2 d3 e5;generalize World.alloc wr _=W1 at R G O S ZN P o kA V ⊢;generalize (A (z wr))=X at O S ZN P o ⊢;refine(dl l.e _).P ?_;rintro e w2⟨t,g⟩;have ZW:=ae (R.k (g.P R.size));have C2:=ae (G.k (g.P G.size));have f0:=(g.O (p:=(T X 0 Z)) o).k O;have f1:=(g.O (p:=(T X 1 Z)) o).k S;have f2:=(g.O (p:=(T X 2 Z)) o).k ZN;have f3:=(g.O (p:=(T X 3 Z)) o).k P;have kB:=(g.O (p:=(T (A (z w)) 0 Z)) V).k kA;have FR:=ae (HF.aa ZW ly);clear g O S ZN P kA R G;have HLT:=ae H;have no:dW f p l=ZA->r=ZA:=λh=>by rw[aq.i];exact lJ H (HS.k h)
   have m:=ae no;clear no;cases hnm:aA l.e with
   |false =>rw[hnm] at t;subst t;obtain rfl:r=ZA:=m.i (by rw[dN,hnm];rfl);go_wp2;go_ret;exact⟨rfl,ZW⟩
   |true =>
   rw[hnm] at t;subst t;cases hask:l.ask with
   |false =>
    rw[hask] at f1;cases h1:(l.G == 0) with
    |false =>obtain rfl:r=ZA:=m.i (by simp at h1;rw[dN,hnm];simp[dC,hask,h1]);go_wp2;go_ret;exact⟨rfl,ZW⟩
    |true =>have HN:Hid (bX f p x (k+1)=ZH):=HS.k (by simp at h1;rw[dN,hnm];simp[dC,hask,h1]);go_wp2_with fail;go_quiet (fail);have C3:=ae (AD C2 nq);go_wp2;exact⟨⟨k+1,by omega,by go_num,HN,C3⟩,by simp[intOf];omega⟩
   |true =>
    rw[hask] at f1;cases hhas:l.has with
    |true =>rw[hhas] at f2;obtain rfl:r=ZA:=m.i (by rw[dN,hnm];simp[dC,hask,hhas]);go_wp2_with fail;go_quiet (fail);have B:=ae (AD ZW nq);go_wp2;go_ret;exact⟨rfl,B⟩
    |false =>
     rw[hhas] at f2;by_cases g4:0<=l.G
     ·by_cases g5:l.G<(p:Int)
      ·obtain⟨q,hq⟩:∃q:Nat,l.G=(q:Int):=⟨l.G.toNat,by omega⟩
       rw[hq] at f3 g5;have fd:q<n:=by omega
       have d0:=(FR.2 q fd).1;have h5:decide ((p:Int)<=(q:Int))=ZA:=by simp;omega
       have h5n:decide (p<=q)=ZA:=by simp;omega
       have h6:decide ((q:Int)<0)=ZA:=by simp
       have hq0:(0:Int)<=q:=by omega
       have hqn':(q:Int)<n:=by omega
       have bt:Hid (dC f p l=((f q).e.toList == l.e.toList)):=by show dC f p l=_;simp[dC,hask,hhas,hq,g5]
       cases ZT:((f q).e.toList == l.e.toList) with
       |true =>have HN:Hid (bX f p x (k+1)=ZH):=HS.k (by rw[dN,hnm,bt.i,ZT];rfl);go_wp2_with fail;go_quiet (fail);have C3:=ae (AD C2 nq);go_wp2;exact⟨⟨k+1,by omega,by go_num,HN,C3⟩,by simp[intOf];omega⟩
       |false =>obtain rfl:r=ZA:=m.i (by rw[dN,hnm,bt.i,ZT];rfl);go_wp2_with fail;go_quiet (fail);have B:=ae (AD ZW nq);go_wp2;go_ret;exact⟨rfl,B⟩
      ·obtain rfl:r=ZA:=m.i (by rw[dN,hnm];simp[dC,hask,g5]);have h5:(p:Int)<=l.G:=by omega
       have h6:decide (l.G<0)=ZA:=by simpa using g4
       go_wp2_with fail;go_quiet (fail);have B:=ae (AD ZW nq);go_wp2;go_ret;exact⟨rfl,B⟩
     ·obtain rfl:r=ZA:=m.i (by rw[dN,hnm];simp[dC,hask,g4]);have h6:l.G<0:=by omega
      go_wp2_with fail;go_quiet (fail);have B:=ae (AD ZW nq);go_wp2;go_ret;exact⟨rfl,B⟩
  ·have e:x.f=k:=by omega
   obtain rfl:r=ZH:=by rw[aq.i,e];exact HK
   have h5:((k:Int)<(x.f:Int))=False:=by simp;omega
   go_wp2;go_ret;exact⟨rfl,ZO⟩
def uh (b off n j_ p:Nat)(f:Nat->au)(w:E)(ZN:p<n)(ZT:Qk w b off n f)(q:(f p).h<=1048576)(ZX:∀j,j<(f p).h->((f p).q j).s.size<=maxLen):Qw Pg 102 #[ZJ #[Y (Q (T b off Z)) n j_],J I (p:Int)] w λe C=>e=ZI (ZF (bw f p))/\Below (A (z w)) w C:=by
 have ZW:=ae (λC (hb:Below (A (z w)) w C)=>rj b off n j_ p f C ZN (ZT.aa hb ly) q ZX);obtain⟨r,M⟩:∃r,r=bw f p:=⟨_,rfl⟩
 rw[<-M];have L:=ae M;clear M;have hb:=ZT.1;obtain⟨V,P,S,X,⟨a0,m,O,ZO⟩,⟨a1,o,ZP,ZQ⟩⟩:=ZT.2 p ZN;obtain⟨x,ZS⟩:∃x,x=f p:=⟨_,rfl⟩
 rw[<-ZS] at V P S X O ZP ZO ZQ q ZX ZW;have R:=ae ZS;clear ZS ZO ZQ ZT ZX q;have G:=ae (((BS w).alloc ly (N #[Y (Q (T b off Z)) n j_] 25)).alloc (by simp) (N #[U x.e,J I x.L,J I x.M,U x.H,Y a0 x.h m,Y a1 x.f o] 62));have B:=ae (lK (ZU w (N #[Y (Q (T b off Z)) n j_] 25)) (U x.e) (J I x.L) (J I x.M) (U x.H) (Y a0 x.h m) (Y a1 x.f o) 62);have hz:A (z (ZU w (N #[Y (Q (T b off Z)) n j_] 25)))=A (z w)+1:=by simp
 rw[hz] at B;have ZR:Hid (ZV (ZU (ZU w (N #[Y (Q (T b off Z)) n j_] 25)) (N #[U x.e,J I x.L,J I x.M,U x.H,Y a0 x.h m,Y a1 x.f o] 62)) (T (A (z w)) 0 Z)=Q (Y (Q (T b off Z)) n j_)):=by show World.cell? _ _=_;simp
 clear hz;go_enter func102,ntmps102;go_wp2_with fail;generalize World.alloc (World.alloc w _) _=W at G B ZR ⊢;clear V P S X O ZP;refine(dl x.e _).P ?_;rintro e ZL⟨D,l⟩;have i:=ae (G.k (l.P G.size));have u:=ae (B.aa l);have K1:=ae ((l.O (p:=(T (A (z w)) 0 Z)) (VM B.lt)).k ZR);clear l G B ZR;cases hnm:aA x.e with
 |false =>
  rw[hnm] at D;subst D;obtain rfl:r=ZA:=by rw[L.i];unfold bw;rw[<-R.i,hnm];rfl
  go_wp2;go_ret;exact⟨rfl,i⟩
 |true =>
 rw[hnm] at D;subst D;have t:Hid (r=(decide (x.H.size<=2000) && kindOk f p x)):=by show r=_;rw[L.i];unfold bw;rw[<-R.i,hnm];rfl
 clear L;have c0:=u.c0;have c1:=u.c1;have c2:=u.c2;have c3:=u.c3;have c4:=u.c4;have c5:=u.c5;cases h1:(x.L == 1) with
 |true =>
  have y:x.L=1:=by simpa using h1
  have g:Hid ((decide (x.H.size<=2000) && aY x)=r):=(t.k (by unfold kindOk;rw[eT y])).c;clear y;go_wp2_with fail;refine(ug x a0 m a1 o _).P ?_;rintro e ZM⟨rfl,l⟩;have K:=ae (i.k (l.P i.size));clear l;go_wp2;go_ret;exact⟨AJ g,K⟩
 |false =>
 cases h2:(x.L == 2) with
 |true =>
  have y:x.L=2:=by simpa using h2
  have g:Hid (r=(aY x && decide (x.H.size=0))):=t.k (by
   unfold kindOk;rw[eI (by omega),eT y];by_cases h:x.H.size=0;{simp[h]}
   ·simp[h])
  clear y t;cases g1:(x.M == 0) with
  |false =>
   obtain rfl:r=ZA:=by rw[g.i];simp at g1;simp[aY,g1]
   go_wp2;go_ret;exact⟨rfl,i⟩
  |true =>
  cases g2:x.H.toList.isEmpty with
  |false =>
   obtain rfl:r=ZA:=by rw[g.i,<-lL,g2];simp
   go_wp2;go_ret;exact⟨rfl,i⟩
  |true =>
  cases g3:((x.h:Int) == 0) with
  |false =>
   obtain rfl:r=ZA:=by rw[g.i];simp at g3;simp[aY];omega
   go_wp2;go_ret;exact⟨rfl,i⟩
  |true =>
  cases g4:((x.f:Int) == 0) with
  |false =>
   obtain rfl:r=ZA:=by rw[g.i];simp at g4;simp[aY];omega
   go_wp2;go_ret;exact⟨rfl,i⟩
  |true =>
   obtain rfl:r=ZH:=by rw[g.i,<-lL,g2];simp at g1 g3 g4;simp[aY,g1,g3,g4]
   go_wp2;go_ret;exact⟨rfl,i⟩
 |false =>
 cases h3:(x.L == 3) with
 |false =>
  obtain rfl:r=ZA:=by rw[t.i];unfold kindOk;simp at h1 h2 h3;rw[eI h1,eI h2,eI h3];simp
  go_wp2;go_ret;exact⟨rfl,i⟩
 |true =>have g:Hid ((decide (x.H.size<=2000) && cC f p x)=r):=(t.k (by unfold kindOk;simp at h1 h2 h3;rw[eI h1,eI h2,eT h3])).c;have k1:=K1.i;have H:=ae (ZW ZL i);rw[g.i] at H;clear ZW t;go_wp2_with fail;refine H.P ?_;rintro e ZM⟨rfl,l⟩;have K:=ae (i.k (l.P i.size));clear l;go_wp2;go_ret;exact⟨rfl,K⟩
