import Derived.Test.YthkgkfehliinfaaGreatDoorGE
import Derived.Deep.DeepCutAuto
set_option linter.all false
set_option maxRecDepth 100000
set_option maxHeartbeats 4000000
open Go renaming Addr.mk->Q,Value.slice->Y,Value.string->U,Value.int->J,Value.bool->ZF,Value.agg->ZJ,Obj.cells->N,IntKind.i64->I,World->E,Value->ZB,Ending.returned->ZI,World.heap->B,World.alloc->ZU,World.cell?->ZV,Proofs.Tryz.prog->Pg
open Option renaming none->Z,some->T
open Bool renaming false->ZA,true->ZH
open Array renaming size->A
namespace Go.Proofs.YthkgkfehliinfaaGreatDoor.Vp
open Tryz RowKit
abbrev GF (x:au)(a0:O_)(b:Nat)(a1:O_)(f:Nat):ZB:=ZJ #[U x.e,J I x.m,J I x.M,U x.H,Y a0 x.h b,Y a1 x.f f]
abbrev Jm (l:Link):ZB:=ZJ #[U l.e,ZF l.ask,ZF l.has,J I l.G]
def pU (x:au)(a0:O_)(f:Nat)(a1:O_)(b:Nat)(w:E):Calls Pg 180 #[GF x a0 f a1 b] w λe j=>e=ZI (ZF (aY x))/\Below (A (B w)) w j:=by
 have h:=ae ((BS w).alloc ly (N #[U x.e,J I x.m,J I x.M,U x.H,Y a0 x.h f,Y a1 x.f b] 58));obtain⟨r,i⟩:∃r,r=aY x:=⟨_,rfl⟩
 rw[<-i];have g:=ae i;clear i;go_enter func180,ntmps180;cases h1:(x.M == 0) with
 |false =>
  obtain rfl:r=ZA:=by rw[g.i];simp at h1;simp[aY,h1]
  go_wp2;go_ret;exact⟨rfl,h⟩
 |true =>
  cases h2:((x.h:Int) == 0) with
  |false =>
   obtain rfl:r=ZA:=by rw[g.i];simp at h2;simp[aY];omega
   go_wp2;go_ret;exact⟨rfl,h⟩
  |true =>
   cases h3:((x.f:Int) == 0) with
   |false =>
    obtain rfl:r=ZA:=by rw[g.i];simp at h3;simp[aY];omega
    go_wp2;go_ret;exact⟨rfl,h⟩
   |true =>
    obtain rfl:r=ZH:=by rw[g.i];simp at h1 h2 h3;simp[aY,h1,h2,h3]
    go_wp2;go_ret;exact⟨rfl,h⟩
def dC (f:Nat->au)(p:Nat)(l:Link):Bool:=if l.ask=ZH then !l.has && decide (0<=l.G) && decide (l.G<(p:Int)) && ((f l.G.toNat).e.toList == l.e.toList) else decide (l.G=0)
def dN (f:Nat->au)(p:Nat)(l:Link):dW f p l=(aA l.e && dC f p l):=rfl
def mS (b off n p j_:Nat)(f:Nat->au)(l:Link)(w:E)(hp:p<=n)(j:Qk w b off n f):Calls Pg 199 #[Y (T (Q b off Z)) p j_,Jm l] w λe s=>e=ZI (ZF (dC f p l))/\Below (A (B w)) w s:=by
 have g:=ae ((BS w).alloc ly (N #[U l.e,ZF l.ask,ZF l.has,J I l.G] 74));have o:=ae (j.aa g ly);have hb:=j.1;clear j;obtain⟨r,h⟩:∃r,r=dC f p l:=⟨_,rfl⟩
 rw[<-h];have i:=ae h;clear h;obtain⟨nm,ask,has,at_⟩:=l;go_enter func199,ntmps199;cases ask with
 |false =>
  cases h1:(at_ == 0) with
  |true =>
   obtain rfl:r=ZH:=by rw[i.i];simp at h1;simp[dC,h1]
   go_wp2;go_ret;exact⟨rfl,g⟩
  |false =>
   obtain rfl:r=ZA:=by rw[i.i];simp at h1;simp[dC,h1]
   go_wp2;go_ret;exact⟨rfl,g⟩
 |true =>
  cases has with
  |true =>
   obtain rfl:r=ZA:=by rw[i.i];simp[dC]
   go_wp2_with fail;go_quiet (fail);go_wp2;go_ret;exact⟨rfl,AD g _⟩
  |false =>
   by_cases h1:0<=at_
   ·by_cases h2:at_<(p:Int)
    ·obtain⟨q,rfl⟩:∃q:Nat,at_=(q:Int):=⟨at_.toNat,by omega⟩
     have t:q<n:=by omega
     have d0:=(o.2 q t).1;have e:r=((f q).e.toList == nm.toList):=by rw[i.i];simp[dC,h2]
     cases h:((f q).e.toList == nm.toList) with
     |true =>rw[h] at e;subst e;go_wp2_with fail;go_quiet (fail);go_wp2;go_ret;exact⟨rfl,AD g _⟩
     |false =>rw[h] at e;subst e;go_wp2_with fail;go_quiet (fail);go_wp2;go_ret;exact⟨rfl,AD g _⟩
    ·obtain rfl:r=ZA:=by rw[i.i];simp[dC,h2]
     have m:decide (at_<(p:Int))=ZA:=by simpa using h2
     go_wp2_with fail;go_quiet (fail);go_wp2;go_ret;exact⟨rfl,AD g _⟩
   ·obtain rfl:r=ZA:=by rw[i.i];simp[dC,h1]
    have m:decide (0<=at_)=ZA:=by simpa using h1
    go_wp2_with fail;go_quiet (fail);go_wp2;go_ret;exact⟨rfl,AD g _⟩
def lJ {f:Nat->au}{p:Nat}{x:au}{k m:Nat}(hk:k<m)(h:bX f p x (k+1)=ZA):bX f p x m=ZA:=by
 induction m with
 |zero=>omega
 |succ j b =>
  by_cases e:k=j;{subst e;exact h};{rw[bX,b (by omega)];rfl}
def ri (b off n j_ p:Nat)(f:Nat->au)(w:E)(hp:p<n)(G:Qk w b off n f)(hcap:(p:Int)<=j_):Calls Pg 181 #[ZJ #[Y (T (Q b off Z)) n j_],J I (p:Int)] w λe ZM=>e=ZI (ZF (decide ((f p).f<=200) && bX f p (f p) (f p).f))/\Below (A (B w)) w ZM:=by
 have o:=ae ((BS w).alloc ly (N #[Y (T (Q b off Z)) n j_] 25));have HF:=ae G;obtain⟨_,_,_,_,_,⟨a1,cap1,M,r1⟩⟩:=G.2 p hp;have hb:=G.1;have k0:ZV (ZU w (N #[Y (T (Q b off Z)) n j_] 25)) (Q (A (B w)) 0 Z)=T (Y (T (Q b off Z)) n j_):=by simp
 have p5:=(o.O (p:=(Q b (off+p*6+5) Z)) hb).k M;have ZL:=ae r1;have D:A (B w)<A (B (ZU w (N #[Y (T (Q b off Z)) n j_] 25))):=by simp
 clear r1 M G;obtain⟨m,R⟩:∃m,m=(f p).f:=⟨_,rfl⟩
 obtain⟨L,hL⟩:∃L,L=(f p).l:=⟨_,rfl⟩
 rw[<-R] at p5 ZL ⊢;rw[<-hL] at ZL;have HM:=ae R;have ex:=ae hL;clear R hL;by_cases hbig:(200:Int)<(m:Int)
 ·obtain⟨r,ZP⟩:∃r,r=(decide (m<=200) && bX f p (f p) m):=⟨_,rfl⟩
  rw[<-ZP];obtain rfl:r=ZA:=by rw[ZP];simp;omega
  clear ZP;go_enter func181,ntmps181;go_wp2;go_ret;exact⟨rfl,o⟩
 have hd:decide (m<=200)=ZH:=by simp;omega
 rw[hd,QB];clear hd;go_enter func181,ntmps181;go_wp2;generalize World.alloc w _=W at o k0 D ⊢;clear p5;go_loopw [19] (λi wr=>∃k:Nat,k<=m/\i=J I k/\Hid (bX f p (f p) k=ZH)/\Hid (Below (A (B W)) W wr)) (λi _=>m - (intOf i).toNat);case atStart=>exact⟨0,by omega,rfl,rfl,a8 _ _⟩
 case round =>
  obtain⟨k,hk,rfl,P,s⟩:=hrel;by_cases t:k<m
  ·obtain⟨lb,lo,rfl,bt,ZW⟩:=ZL.resolve_left (by omega);have hx:=(ZW k t).aa (o.k (s.P o.size)) bt;obtain⟨l,hl⟩:∃l,l=L k:=⟨_,rfl⟩
   rw[<-hl] at hx;have aq:=ae hl;obtain⟨d0,d1,d2,d3⟩:=hx;clear hl ZW;have S:Hid (bX f p (f p) (k+1)=dW f p l):=by show(bX f p (f p) k && dW f p ((f p).l k))=_;rw[P.i,QB,<-ex.i,<-aq.i]
   have u:=ae ((o.k (s.P o.size)).alloc (by have:=o.size;have:=s.size;omega) (N #[U l.e,ZF l.ask,ZF l.has,J I l.G] 74));have y:=ae ((s).alloc s.size (N #[U l.e,ZF l.ask,ZF l.has,J I l.G] 74));have ZT:ZV (ZU wr (N #[U l.e,ZF l.ask,ZF l.has,J I l.G] 74)) (Q (A (B wr)) 0 Z)=T (U l.e):=by simp
   have ZS:ZV (ZU wr (N #[U l.e,ZF l.ask,ZF l.has,J I l.G] 74)) (Q (A (B wr)) 1 Z)=T (ZF l.ask):=by simp
   have H:ZV (ZU wr (N #[U l.e,ZF l.ask,ZF l.has,J I l.G] 74)) (Q (A (B wr)) 2 Z)=T (ZF l.has):=by simp
   have ZR:ZV (ZU wr (N #[U l.e,ZF l.ask,ZF l.has,J I l.G] 74)) (Q (A (B wr)) 3 Z)=T (J I l.G):=by simp
   have hX:A (B wr)<A (B (ZU wr (N #[U l.e,ZF l.ask,ZF l.has,J I l.G] 74))):=by simp
   have O:=(y.O (p:=(Q (A (B w)) 0 Z)) D).k k0;have C:A (B w)<A (B (ZU wr (N #[U l.e,ZF l.ask,ZF l.has,J I l.G] 74))):=lj D y.size;have ZO:=ae (HF.aa u ly);go_upto_region 7 with fail;clear d0 d1 d2 d3;generalize World.alloc wr _=K at u y ZT ZS H ZR hX O C ZO ⊢;generalize (A (B wr))=X at ZT ZS H ZR hX ⊢;have hp0:0<=(p:Int):=by omega
   have hpn:(p:Int)<=n:=by omega
   have ZQ:p<=n:=by omega
   have hcap':p<=j_:=by omega
   cases hnm:aA l.e with
   |false =>
    have hq:∀w,Calls Pg 131 #[U l.e] w λe ZM=>e=ZI (ZF ZA)/\ZM=w:=λw=>by rw[<-hnm];exact wU l.e w
    go_quiet ((go_at_call 131;exact Calls.quiet_of_same (hq _)));have hN:dW f p l=ZA:=by rw[dN,hnm];rfl
    have ZX:=ae (S.k hN);have x:=ae t;have G1:=ae (AD u nq);clear hN;go_wp2;go_ret;exact⟨xT (λz=>Ending.returned (ZF z)) (lJ x ZX).c,G1⟩
   |true =>
    cases hla:dC f p l with
    |true =>
     go_region_with (first
      |(go_at_call 131;refine(fu _ _).P ?_;rintro e w1⟨j,g⟩;rw[hnm] at j;subst j;have h:Hid (Below (A (B K)) K w1):=⟨g.os,g.tape,g.output,g.size,g.p⟩;have f0:=(h.O (p:=(Q X 0 Z)) hX).k ZT;have f1:=(h.O (p:=(Q X 1 Z)) hX).k ZS;have f2:=(h.O (p:=(Q X 2 Z)) hX).k H;have f3:=(h.O (p:=(Q X 3 Z)) hX).k ZR;have k2:=(h.O (p:=(Q (A (B w)) 0 Z)) C).k O;have F2:=ae (ZO.aa h ly);clear g)
      |(go_at_call 199;refine(mS b off n p j_ f l _ ZQ F2).P ?_;rintro e w2⟨j,q⟩;rw[hla] at j;subst j;have ZN:=ae (h.k (q.P h.size));clear q))
     all_goals
      have ZX:Hid (bX f p (f p) (k+1)=ZH):=S.k (by rw[dN,hnm,hla];rfl);have V:=ae (y.k (ZN.P y.size));go_wp2;exact⟨⟨k+1,by omega,by go_num,ZX,V⟩,by simp[intOf];omega⟩
    |false =>
     go_region_with (first
      |(go_at_call 131;refine(fu _ _).P ?_;rintro e w1⟨j,g⟩;rw[hnm] at j;subst j;have h:Hid (Below (A (B K)) K w1):=⟨g.os,g.tape,g.output,g.size,g.p⟩;have f0:=(h.O (p:=(Q X 0 Z)) hX).k ZT;have f1:=(h.O (p:=(Q X 1 Z)) hX).k ZS;have f2:=(h.O (p:=(Q X 2 Z)) hX).k H;have f3:=(h.O (p:=(Q X 3 Z)) hX).k ZR;have k2:=(h.O (p:=(Q (A (B w)) 0 Z)) C).k O;have F2:=ae (ZO.aa h ly);clear g)
      |(go_at_call 199;refine(mS b off n p j_ f l _ ZQ F2).P ?_;rintro e w2⟨j,q⟩;rw[hla] at j;subst j;have ZN:=ae (h.k (q.P h.size));clear q))
     all_goals
      have ZX:Hid (bX f p (f p) (k+1)=ZA):=S.k (by rw[dN,hnm,hla];rfl);have x:=ae t;have V:=ae (u.k (ZN.P (by have:=u.size;omega)));go_wp2;go_ret;exact⟨xT (λz=>Ending.returned (ZF z)) (lJ x ZX).c,V⟩
  ·have e:m=k:=by omega
   subst e;go_wp2;go_ret;exact⟨by rw[HM.i] at P;rw[HM.i];exact xT (λz=>Ending.returned (ZF z)) P.c,o.k (s.P o.size)⟩
structure SixB (w:E)(b:Nat)(v0 v1 v2 v3 v4 v5:ZB):Prop where
 lt:b<A (B w)
 c0:ZV w (Q b 0 Z)=T v0
 c1:ZV w (Q b 1 Z)=T v1
 c2:ZV w (Q b 2 Z)=T v2
 c3:ZV w (Q b 3 Z)=T v3
 c4:ZV w (Q b 4 Z)=T v4
 c5:ZV w (Q b 5 Z)=T v5
def SixB.aa {w m:E}{b:Nat}{f g j i l n:ZB}(h:SixB w b f g j i l n)(hb:Below (A (B w)) w m):SixB m b f g j i l n:=
 ⟨lj h.lt hb.size,(hb.O (p:=(Q b 0 Z)) h.lt).k h.c0,(hb.O (p:=(Q b 1 Z)) h.lt).k h.c1,(hb.O (p:=(Q b 2 Z)) h.lt).k h.c2,(hb.O (p:=(Q b 3 Z)) h.lt).k h.c3,(hb.O (p:=(Q b 4 Z)) h.lt).k h.c4,(hb.O (p:=(Q b 5 Z)) h.lt).k h.c5⟩
def lK (w:E)(g h f i j b:ZB)(t:TypeId):SixB (ZU w (N #[g,h,f,i,j,b] t)) (A (B w)) g h f i j b:=⟨by simp,by simp,by simp,by simp,by simp,by simp,by simp⟩
def lL (t:F_):t.toList.isEmpty=decide (t.size=0):=by rw[NM];obtain⟨⟨l⟩⟩:=t;cases l<;>simp[ByteArray.size]
def AJ {a b:Bool}(h:a=b):Ending.returned (ZF a)=Ending.returned (ZF b):=by rw[h]
def tD (b off n j_ p:Nat)(f:Nat->au)(w:E)(O:p<n)(ZT:Qk w b off n f)(ZR:(p:Int)<=j_)(y:(f p).h<=1048576)(ZN:Tab w):Calls Pg 162 #[ZJ #[Y (T (Q b off Z)) n j_],J I (p:Int)] w λe w'=>e=ZI (ZF (bw f p))/\Below (A (B w)) w w':=by
 have HF:=ae ZT;have V:=ae ZN;have hb:=ZT.1;obtain⟨ZQ,ZO,ZP,R,⟨a0,m,P,ZS⟩,⟨a1,q,ZL,q5⟩⟩:=ZT.2 p O;obtain⟨r,K⟩:∃r,r=bw f p:=⟨_,rfl⟩
 rw[<-K];have D:=ae K;obtain⟨x,L⟩:∃x,x=f p:=⟨_,rfl⟩
 rw[<-L] at ZQ ZO ZP R P ZL ZS y;have G:=ae L;have Q4:=ae ZS;clear K L ZS q5 ZT ZN;obtain⟨W,t⟩:∃W:E,ZU (ZU w (N #[Y (T (Q b off Z)) n j_] 25)) (N #[U x.e,J I x.m,J I x.M,U x.H,Y a0 x.h m,Y a1 x.f q] 58)=W:=⟨_,rfl⟩
 obtain⟨ZW,-,-,-⟩:=nb2 t;have s:=ae t;clear t;have C:=ae (lK (ZU w (N #[Y (T (Q b off Z)) n j_] 25)) (U x.e) (J I x.m) (J I x.M) (U x.H) (Y a0 x.h m) (Y a1 x.f q) 58);have hz:A (B (ZU w (N #[Y (T (Q b off Z)) n j_] 25)))=A (B w)+1:=by simp
 rw[hz] at C;have S:Hid (ZV W (Q (A (B w)) 0 Z)=T (Y (T (Q b off Z)) n j_)):=by rw[<-s.i];show World.cell? _ _=_;simp
 clear hz;go_enter func162,ntmps162;go_wp2_with fail;rw[s.i] at C ⊢;clear s;clear ZQ ZO ZP R P ZL;cases hnm:aA x.e with
 |false =>
  refine(fu x.e _).P ?_;rintro e w1⟨h,g⟩;rw[hnm] at h;subst h;have i:=ae (ZW.k (g.P ZW.size));obtain rfl:r=ZA:=by rw[D.i];unfold bw;rw[<-G.i,hnm];rfl
  clear g;go_wp2;go_ret;exact⟨rfl,i⟩
 |true =>
 refine(fu x.e _).P ?_;rintro e w1⟨h,g⟩;rw[hnm] at h;subst h;have i:=ae (ZW.k (g.P ZW.size));have l:=ae (C.aa g);have K1:=ae ((g.O (p:=(Q (A (B w)) 0 Z)) (VM C.lt)).k S);have c1:=l.c1;have c2:=l.c2;have c3:=l.c3;clear g ZW C S;by_cases hbig:(2000:Int)<(x.H.size:Int)
 ·obtain rfl:r=ZA:=by rw[D.i];unfold bw;rw[<-G.i,hnm];simp;omega
  go_wp2;go_ret;exact⟨rfl,i⟩
 have H:Hid (r=kindOk f p x):=by show r=_;rw[D.i];unfold bw;rw[<-G.i,hnm,show decide (x.H.size<=2000)=ZH by simp;omega];rfl
 clear D;cases h1:(x.m == 1) with
 |true =>
  have ZX:x.m=1:=by simpa using h1
  have j:Hid (aY x=r):=(H.k (by unfold kindOk;rw[eT ZX])).c;clear ZX;have c0:=l.c0;have c4:=l.c4;have c5:=l.c5;go_wp2_with fail;refine(pU x a0 m a1 q _).P ?_;rintro e M⟨rfl,g⟩;have o:=ae (i.k (g.P i.size));clear g;go_wp2;go_ret;exact⟨AJ j,o⟩
 |false =>
 cases h2:(x.m == 2) with
 |true =>
  have ZX:x.m=2:=by simpa using h2
  have j:Hid (r=(aY x && decide (x.H.size=0))):=H.k (by unfold kindOk;rw[eI (by omega),eT ZX]);clear ZX;have c0:=l.c0;have c4:=l.c4;have c5:=l.c5;go_wp2_with fail;refine(pU x a0 m a1 q _).P ?_;rintro e M⟨h,g⟩;have o:=ae (i.k (g.P i.size));have d3:=(l.aa g).c3;clear g;cases hu:aY x with
  |false =>
   rw[hu] at h;subst h;obtain rfl:r=ZA:=by rw[j.i,hu];rfl
   go_wp2;go_ret;exact⟨rfl,o⟩
  |true =>
   rw[hu] at h;subst h;have z:Hid (decide (x.H.size=0)=r):=by show _=r;rw[j.i,hu];rfl
   go_wp2;go_ret;exact⟨bv (by rw[lL];exact z),o⟩
 |false =>
 cases h3:(x.m == 3) with
 |false =>
  obtain rfl:r=ZA:=by rw[H.i];unfold kindOk;simp at h1 h2 h3;rw[eI h1,eI h2,eI h3]
  go_wp2;go_ret;exact⟨rfl,i⟩
 |true =>
 have j:Hid (r=cC f p x):=H.k (by unfold kindOk;simp at h1 h2 h3;rw[eI h1,eI h2,eT h3]);by_cases X:0<=x.M
 ·by_cases ZM:x.M<=5
  ·have c4:=l.c4;go_wp2_with fail;refine(nf a0 x.h m x.u _ y (Q4.aa i ly) (V.aa i V.1)).P ?_;rintro e M⟨h,g⟩;have o:=ae (i.k (g.P i.size));have K2:=(g.O (p:=(Q (A (B w)) 0 Z)) (VM l.lt)).k K1;clear g;cases hv:valid x.u x.h with
   |false =>
    rw[hv] at h;subst h;obtain rfl:r=ZA:=by rw[j.i];simp[cC,hv]
    go_wp2;go_ret;exact⟨rfl,o⟩
   |true =>
    rw[hv] at h;subst h;have z:Hid ((decide (x.f<=200) && bX f p x x.f)=r):=by show _=r;rw[j.i];simp[cC,hv,X,ZM]
    have u:=ae (ri b off n j_ p f M O (HF.aa o ly) ZR);rw[<-G.i] at u;rw[z.i] at u;go_wp2_with fail;refine u.P ?_;rintro e w3⟨rfl,g⟩;have B3:=ae (o.k (g.P o.size));clear g;go_wp2;go_ret;exact⟨rfl,B3⟩
  ·obtain rfl:r=ZA:=by rw[j.i];simp[cC,ZM]
   go_wp2;go_ret;exact⟨rfl,i⟩
 ·obtain rfl:r=ZA:=by rw[j.i];simp[cC,X]
  go_wp2;go_ret;exact⟨rfl,i⟩
def tE (b off n j_:Nat)(f:Nat->au)(w:E)(hn:(n:Int)<=400)(y:Qk w b off n f)(hcap:(n:Int)<=j_)(o:∀i,i<n->cX (f i))(z:Tab w):Calls Pg 123 #[ZJ #[Y (T (Q b off Z)) n j_]] w λe L=>e=ZI (J I (aQ (bw f) n))/\Below (A (B w)) w L:=by
 have G:=ae y;have D:=ae z;have ZS:=ae o;clear y z o;obtain⟨W,l⟩:∃W:E,ZU w (N #[Y (T (Q b off Z)) n j_] 25)=W:=⟨_,rfl⟩
 obtain⟨ZT,-,-⟩:=nb1 l;have g:=ae l;clear l;have ZR:ZV W (Q (A (B w)) 0 Z)=T (Y (T (Q b off Z)) n j_):=by rw[<-g.i];simp
 have C:A (B w)<A (B W):=by rw[<-g.i];simp
 obtain⟨r,x⟩:∃r,r=aQ (bw f) n:=⟨_,rfl⟩
 rw[<-x];have ZX:=ae x;clear x;go_enter func123,ntmps123;go_wp2;rw[g.i];clear g;go_loopw [7] (λi wr=>∃k:Nat,k<=n/\i=J I k/\Hid (∀j,j<k->bw f j=ZH)/\Hid (Below (A (B W)) W wr)) (λi _=>n - (intOf i).toNat);case atStart=>exact⟨0,by omega,rfl,λj ZW=>absurd ZW (NF _),a8 _ _⟩
 case round =>
  obtain⟨k,hk,rfl,u,s⟩:=hrel;have k1:=(s.O (p:=(Q (A (B w)) 0 Z)) C).k ZR;have m:=ae (ZT.k (s.P ZT.size));by_cases h:k<n
  ·go_wp2_with fail;refine(tD b off n j_ k f _ h (G.aa m ly) (by omega) (ZS k h).1 (D.aa m D.1)).P ?_;rintro e w2⟨q,t⟩;have K:=ae (m.k (t.P m.size));have M:=ae (s.k (t.P s.size));clear t;cases hd:bw f k with
   |true =>
    rw[hd] at q;subst q;have H:=ae hd;clear hd;go_wp2
    exact⟨⟨k+1,by omega,by go_num,λj ZW=>by
     by_cases e:j=k;{subst e;exact H}
     ·exact u j (by omega),M⟩,by simp[intOf];omega⟩
   |false =>
    rw[hd] at q;subst q;obtain rfl:r=k:=by rw[ZX.i];exact fQ h hd u
    clear hd;go_wp2;go_ret;exact⟨rfl,K⟩
  ·have e:n=k:=by omega
   subst e;obtain rfl:r=-1:=by rw[ZX.i];exact ej u
   go_wp2;go_ret;exact⟨rfl,m⟩
def ug (x:au)(a0:O_)(h:Nat)(a1:O_)(g:Nat)(w:E):Calls Pg 156 #[GF x a0 h a1 g] w λe l=>e=ZI (ZF (decide (x.H.size<=2000) && aY x))/\Below (A (B w)) w l:=by
 have f:=ae ((BS w).alloc ly (N #[U x.e,J I x.m,J I x.M,U x.H,Y a0 x.h h,Y a1 x.f g] 58));obtain⟨r,i⟩:∃r,r=(decide (x.H.size<=2000) && aY x):=⟨_,rfl⟩
 rw[<-i];have b:=ae i;clear i;go_enter func156,ntmps156;cases h1:(x.M == 0) with
 |false =>
  obtain rfl:r=ZA:=by rw[b.i];simp at h1;simp[aY,h1]
  go_wp2;go_ret;exact⟨rfl,f⟩
 |true =>
  by_cases h4:(x.H.size:Int)<=2000
  ·have j:decide (x.H.size<=2000)=ZH:=by simp;omega
   cases h2:((x.h:Int) == 0) with
   |false =>
    obtain rfl:r=ZA:=by rw[b.i];simp at h2;simp[aY];omega
    go_wp2;go_ret;exact⟨rfl,f⟩
   |true =>
    cases h3:((x.f:Int) == 0) with
    |false =>
     obtain rfl:r=ZA:=by rw[b.i];simp at h3;simp[aY];omega
     go_wp2;go_ret;exact⟨rfl,f⟩
    |true =>
     obtain rfl:r=ZH:=by rw[b.i,j];simp at h1 h2 h3;simp[aY,h1,h2,h3]
     go_wp2;go_ret;exact⟨rfl,f⟩
  ·obtain rfl:r=ZA:=by rw[b.i];simp;omega
   go_wp2;go_ret;exact⟨rfl,f⟩
def rj (b off n j_ p:Nat)(f:Nat->au)(w:E)(hp:p<n)(ZQ:Qk w b off n f)(L:(f p).h<=1048576)(ZR:∀j,j<(f p).h->((f p).u j).s.size<=maxLen):Calls Pg 157 #[ZJ #[Y (T (Q b off Z)) n j_],J I (p:Int)] w λe w'=>e=ZI (ZF (decide ((f p).H.size<=2000) && cC f p (f p)))/\Below (A (B w)) w w':=by
 have HF:=ae ZQ;have hb:=ZQ.1;obtain⟨p0,p1,p2,p3,⟨a0,y,p4,q4⟩,⟨a1,ZX,p5,q5⟩⟩:=ZQ.2 p hp;obtain⟨x,hx⟩:∃x,x=f p:=⟨_,rfl⟩
 rw[<-hx] at p0 p1 p2 p3 p4 p5 q4 q5 L ZR ⊢;have HX:=ae hx;have Q4:=ae q4;have Q5:=ae q5;have HZ:=ae ZR;clear hx q4 q5 ZQ ZR;have z:=ae (((BS w).alloc ly (N #[Y (T (Q b off Z)) n j_] 25)).alloc (by simp) (N #[U x.e,J I x.m,J I x.M,U x.H,Y a0 x.h y,Y a1 x.f ZX] 58));have t:=ae (lK (ZU w (N #[Y (T (Q b off Z)) n j_] 25)) (U x.e) (J I x.m) (J I x.M) (U x.H) (Y a0 x.h y) (Y a1 x.f ZX) 58);have hz:A (B (ZU w (N #[Y (T (Q b off Z)) n j_] 25)))=A (B w)+1:=by simp
 rw[hz] at t;have K0:Hid (ZV (ZU (ZU w (N #[Y (T (Q b off Z)) n j_] 25)) (N #[U x.e,J I x.m,J I x.M,U x.H,Y a0 x.h y,Y a1 x.f ZX] 58)) (Q (A (B w)) 0 Z)=T (Y (T (Q b off Z)) n j_)):=by show World.cell? _ _=_;simp
 clear hz;obtain⟨r,D⟩:∃r,r=(decide (x.H.size<=2000) && cC f p x):=⟨_,rfl⟩
 rw[<-D];have G:=ae D;clear D;have c2:=t.c2;have c3:=t.c3;have c4:=t.c4;have c5:=t.c5;by_cases g1:0<=x.M;case neg =>
  obtain rfl:r=ZA:=by rw[G.i];simp[cC,g1]
  go_enter func157,YT;go_wp2;go_ret;exact⟨rfl,z⟩
 by_cases g2:x.M<=5;case neg =>
  obtain rfl:r=ZA:=by rw[G.i];simp[cC,g2]
  go_enter func157,YT;go_wp2;go_ret;exact⟨rfl,z⟩
 by_cases g3:(x.H.size:Int)<=2000;case neg =>
  obtain rfl:r=ZA:=by rw[G.i];simp;omega
  go_enter func157,YT;go_wp2;go_ret;exact⟨rfl,z⟩
 have ZM:decide (x.H.size<=2000)=ZH:=by simp;omega
 go_enter func157,YT;go_wp2_with fail;generalize World.alloc (World.alloc w _) _=W at z t K0 ⊢;clear p0 p1 p2 p3 p4 p5;refine(jD a0 x.h y x.u _ L (Q4.aa z ly) HZ).P ?_;rintro e w1⟨u,g⟩;have O:=ae (z.k (g.P z.size));have S1:=ae (t.aa g);have K1:=ae ((g.O (p:=(Q (A (B w)) 0 Z)) (VM t.lt)).k K0);clear g z t K0 c2 c3 c4 c5;have c5:=S1.c5;cases hv:valid x.u x.h with
 |false =>
  rw[hv] at u;subst u;obtain rfl:r=ZA:=by rw[G.i];simp[cC,hv]
  go_wp2;go_ret;exact⟨rfl,O⟩
 |true =>
 rw[hv] at u;subst u;have ZS:Hid (r=(decide (x.f<=200) && bX f p x x.f)):=by show r=_;rw[G.i,ZM];simp[cC,hv,g1,g2]
 clear G ZM hv;by_cases hbig:(200:Int)<(x.f:Int)
 ·obtain rfl:r=ZA:=by rw[ZS.i];simp;omega
  go_wp2;go_ret;exact⟨rfl,O⟩
 have ZL:Hid (r=bX f p x x.f):=by show r=_;rw[ZS.i,show decide (x.f<=200)=ZH by simp;omega];rfl
 clear ZS;go_wp2;have ex:A (B w)+1<A (B w1):=S1.lt;go_loopw [6] (λi wr=>∃k:Nat,k<=x.f/\i=J I k/\Hid (bX f p x k=ZH)/\Hid (Below (A (B w1)) w1 wr)) (λi _=>x.f - (intOf i).toNat);case atStart=>exact⟨0,by omega,rfl,rfl,a8 _ _⟩
 case round =>
  obtain⟨k,hk,rfl,HK,ZN⟩:=hrel;have e5:=(ZN.O (p:=(Q (A (B w)+1) 5 Z)) ex).k c5;have S:=ae (O.k (ZN.P O.size));by_cases H:k<x.f
  ·obtain⟨lb,lo,rfl,K⟩:=(Q5.aa S ly).resolve_left (by omega);have bt:=K.2 k H;obtain⟨l,hl⟩:∃l,l=x.l k:=⟨_,rfl⟩
   rw[<-hl] at bt;obtain⟨d0,d1,d2,d3⟩:=bt;have HS:Hid (bX f p x (k+1)=dW f p l):=by show(bX f p x k && dW f p (x.l k))=_;rw[HK.i,QB,<-hl]
   clear hl K;have R:=ae (S.alloc S.size (N #[U l.e,ZF l.ask,ZF l.has,J I l.G] 74));have ZT:=ae (ZN.alloc ZN.size (N #[U l.e,ZF l.ask,ZF l.has,J I l.G] 74));have M:ZV (ZU wr (N #[U l.e,ZF l.ask,ZF l.has,J I l.G] 74)) (Q (A (B wr)) 0 Z)=T (U l.e):=by simp
   have ZP:ZV (ZU wr (N #[U l.e,ZF l.ask,ZF l.has,J I l.G] 74)) (Q (A (B wr)) 1 Z)=T (ZF l.ask):=by simp
   have P:ZV (ZU wr (N #[U l.e,ZF l.ask,ZF l.has,J I l.G] 74)) (Q (A (B wr)) 2 Z)=T (ZF l.has):=by simp
   have ZO:ZV (ZU wr (N #[U l.e,ZF l.ask,ZF l.has,J I l.G] 74)) (Q (A (B wr)) 3 Z)=T (J I l.G):=by simp
   have m:A (B wr)<A (B (ZU wr (N #[U l.e,ZF l.ask,ZF l.has,J I l.G] 74))):=by simp
   have kA:=(ZT.O (p:=(Q (A (B w)) 0 Z)) (by show (A (B w))<_;omega)).k K1;have V:A (B w)<A (B (ZU wr (N #[U l.e,ZF l.ask,ZF l.has,J I l.G] 74))):=by have:=ZT.size;omega
   go_wp2_with fail;clear d0 d1 d2 d3 e5;generalize World.alloc wr _=W1 at R ZT M ZP P ZO m kA V ⊢;generalize (A (B wr))=X at M ZP P ZO m ⊢;refine(dl l.e _).P ?_;rintro e w2⟨u,g⟩;have C:=ae (R.k (g.P R.size));have C2:=ae (ZT.k (g.P ZT.size));have f0:=(g.O (p:=(Q X 0 Z)) m).k M;have f1:=(g.O (p:=(Q X 1 Z)) m).k ZP;have f2:=(g.O (p:=(Q X 2 Z)) m).k P;have f3:=(g.O (p:=(Q X 3 Z)) m).k ZO;have kB:=(g.O (p:=(Q (A (B w)) 0 Z)) V).k kA;have FR:=ae (HF.aa C ly);clear g M ZP P ZO kA R ZT;have HLT:=ae H;have no:dW f p l=ZA->r=ZA:=λh=>by rw[ZL.i];exact lJ H (HS.k h)
   have o:=ae no;clear no;cases hnm:aA l.e with
   |false =>rw[hnm] at u;subst u;obtain rfl:r=ZA:=o.i (by rw[dN,hnm];rfl);go_wp2;go_ret;exact⟨rfl,C⟩
   |true =>
   rw[hnm] at u;subst u;cases hask:l.ask with
   |false =>
    rw[hask] at f1;cases h1:(l.G == 0) with
    |false =>obtain rfl:r=ZA:=o.i (by simp at h1;rw[dN,hnm];simp[dC,hask,h1]);go_wp2;go_ret;exact⟨rfl,C⟩
    |true =>have HN:Hid (bX f p x (k+1)=ZH):=HS.k (by simp at h1;rw[dN,hnm];simp[dC,hask,h1]);go_wp2_with fail;go_quiet (fail);have C3:=ae (AD C2 nq);go_wp2;exact⟨⟨k+1,by omega,by go_num,HN,C3⟩,by simp[intOf];omega⟩
   |true =>
    rw[hask] at f1;cases hhas:l.has with
    |true =>rw[hhas] at f2;obtain rfl:r=ZA:=o.i (by rw[dN,hnm];simp[dC,hask,hhas]);go_wp2_with fail;go_quiet (fail);have ZW:=ae (AD C nq);go_wp2;go_ret;exact⟨rfl,ZW⟩
    |false =>
     rw[hhas] at f2;by_cases g4:0<=l.G
     ·by_cases g5:l.G<(p:Int)
      ·obtain⟨q,hq⟩:∃q:Nat,l.G=(q:Int):=⟨l.G.toNat,by omega⟩
       rw[hq] at f3 g5;have fd:q<n:=by omega
       have d0:=(FR.2 q fd).1;have h5:decide ((p:Int)<=(q:Int))=ZA:=by simp;omega
       have h5n:decide (p<=q)=ZA:=by simp;omega
       have h6:decide ((q:Int)<0)=ZA:=by simp
       have hq0:(0:Int)<=q:=by omega
       have hqn':(q:Int)<n:=by omega
       have aq:Hid (dC f p l=((f q).e.toList == l.e.toList)):=by show dC f p l=_;simp[dC,hask,hhas,hq,g5]
       cases D:((f q).e.toList == l.e.toList) with
       |true =>have HN:Hid (bX f p x (k+1)=ZH):=HS.k (by rw[dN,hnm,aq.i,D];rfl);go_wp2_with fail;go_quiet (fail);have C3:=ae (AD C2 nq);go_wp2;exact⟨⟨k+1,by omega,by go_num,HN,C3⟩,by simp[intOf];omega⟩
       |false =>obtain rfl:r=ZA:=o.i (by rw[dN,hnm,aq.i,D];rfl);go_wp2_with fail;go_quiet (fail);have ZW:=ae (AD C nq);go_wp2;go_ret;exact⟨rfl,ZW⟩
      ·obtain rfl:r=ZA:=o.i (by rw[dN,hnm];simp[dC,hask,g5]);have h5:(p:Int)<=l.G:=by omega
       have h6:decide (l.G<0)=ZA:=by simpa using g4
       go_wp2_with fail;go_quiet (fail);have ZW:=ae (AD C nq);go_wp2;go_ret;exact⟨rfl,ZW⟩
     ·obtain rfl:r=ZA:=o.i (by rw[dN,hnm];simp[dC,hask,g4]);have h6:l.G<0:=by omega
      go_wp2_with fail;go_quiet (fail);have ZW:=ae (AD C nq);go_wp2;go_ret;exact⟨rfl,ZW⟩
  ·have e:x.f=k:=by omega
   obtain rfl:r=ZH:=by rw[ZL.i,e];exact HK
   have h5:((k:Int)<(x.f:Int))=False:=by simp;omega
   go_wp2;go_ret;exact⟨rfl,S⟩
def uh (b off n j_ p:Nat)(f:Nat->au)(w:E)(S:p<n)(C:Qk w b off n f)(q:(f p).h<=1048576)(ZW:∀j,j<(f p).h->((f p).u j).s.size<=maxLen):Calls Pg 121 #[ZJ #[Y (T (Q b off Z)) n j_],J I (p:Int)] w λe ZT=>e=ZI (ZF (bw f p))/\Below (A (B w)) w ZT:=by
 have z:=ae (λZT (hb:Below (A (B w)) w ZT)=>rj b off n j_ p f ZT S (C.aa hb ly) q ZW);obtain⟨r,ZS⟩:∃r,r=bw f p:=⟨_,rfl⟩
 rw[<-ZS];have K:=ae ZS;clear ZS;have hb:=C.1;obtain⟨R,ZP,P,ZN,⟨a0,o,ZO,ZQ⟩,⟨a1,m,X,O⟩⟩:=C.2 p S;obtain⟨x,M⟩:∃x,x=f p:=⟨_,rfl⟩
 rw[<-M] at R ZP P ZN ZO X ZQ O q ZW z;have V:=ae M;clear M ZQ O C ZW q;have G:=ae (((BS w).alloc ly (N #[Y (T (Q b off Z)) n j_] 25)).alloc (by simp) (N #[U x.e,J I x.m,J I x.M,U x.H,Y a0 x.h o,Y a1 x.f m] 58));have y:=ae (lK (ZU w (N #[Y (T (Q b off Z)) n j_] 25)) (U x.e) (J I x.m) (J I x.M) (U x.H) (Y a0 x.h o) (Y a1 x.f m) 58);have hz:A (B (ZU w (N #[Y (T (Q b off Z)) n j_] 25)))=A (B w)+1:=by simp
 rw[hz] at y;have L:Hid (ZV (ZU (ZU w (N #[Y (T (Q b off Z)) n j_] 25)) (N #[U x.e,J I x.m,J I x.M,U x.H,Y a0 x.h o,Y a1 x.f m] 58)) (Q (A (B w)) 0 Z)=T (Y (T (Q b off Z)) n j_)):=by show World.cell? _ _=_;simp
 clear hz;go_enter func121,ntmps121;go_wp2_with fail;generalize World.alloc (World.alloc w _) _=W at G y L ⊢;clear R ZP P ZN ZO X;refine(dl x.e _).P ?_;rintro e ZL⟨D,l⟩;have i:=ae (G.k (l.P G.size));have u:=ae (y.aa l);have ZM:=ae ((l.O (p:=(Q (A (B w)) 0 Z)) (VM y.lt)).k L);clear l G y L;cases hnm:aA x.e with
 |false =>
  rw[hnm] at D;subst D;obtain rfl:r=ZA:=by rw[K.i];unfold bw;rw[<-V.i,hnm];rfl
  go_wp2;go_ret;exact⟨rfl,i⟩
 |true =>
 rw[hnm] at D;subst D;have t:Hid (r=(decide (x.H.size<=2000) && kindOk f p x)):=by show r=_;rw[K.i];unfold bw;rw[<-V.i,hnm];rfl
 clear K;have c0:=u.c0;have c1:=u.c1;have c2:=u.c2;have c3:=u.c3;have c4:=u.c4;have c5:=u.c5;cases h1:(x.m == 1) with
 |true =>
  have ZX:x.m=1:=by simpa using h1
  have g:Hid ((decide (x.H.size<=2000) && aY x)=r):=(t.k (by unfold kindOk;rw[eT ZX])).c;clear ZX;go_wp2_with fail;refine(ug x a0 o a1 m _).P ?_;rintro e w2⟨rfl,l⟩;have ZR:=ae (i.k (l.P i.size));clear l;go_wp2;go_ret;exact⟨AJ g,ZR⟩
 |false =>
 cases h2:(x.m == 2) with
 |true =>
  have ZX:x.m=2:=by simpa using h2
  have g:Hid (r=(aY x && decide (x.H.size=0))):=t.k (by
   unfold kindOk;rw[eI (by omega),eT ZX];by_cases h:x.H.size=0;{simp[h]}
   ·simp[h])
  clear ZX t;cases g1:(x.M == 0) with
  |false =>
   obtain rfl:r=ZA:=by rw[g.i];simp at g1;simp[aY,g1]
   go_wp2;go_ret;exact⟨rfl,i⟩
  |true =>
  cases g2:x.H.toList.isEmpty with
  |false =>
   obtain rfl:r=ZA:=by rw[g.i,<-lL,g2];simp
   go_wp2;go_ret;exact⟨rfl,i⟩
  |true =>
  cases g3:((x.h:Int) == 0) with
  |false =>
   obtain rfl:r=ZA:=by rw[g.i];simp at g3;simp[aY];omega
   go_wp2;go_ret;exact⟨rfl,i⟩
  |true =>
  cases g4:((x.f:Int) == 0) with
  |false =>
   obtain rfl:r=ZA:=by rw[g.i];simp at g4;simp[aY];omega
   go_wp2;go_ret;exact⟨rfl,i⟩
  |true =>
   obtain rfl:r=ZH:=by rw[g.i,<-lL,g2];simp at g1 g3 g4;simp[aY,g1,g3,g4]
   go_wp2;go_ret;exact⟨rfl,i⟩
 |false =>
 cases h3:(x.m == 3) with
 |false =>
  obtain rfl:r=ZA:=by rw[t.i];unfold kindOk;simp at h1 h2 h3;rw[eI h1,eI h2,eI h3];simp
  go_wp2;go_ret;exact⟨rfl,i⟩
 |true =>have g:Hid ((decide (x.H.size<=2000) && cC f p x)=r):=(t.k (by unfold kindOk;simp at h1 h2 h3;rw[eI h1,eI h2,eT h3])).c;have k1:=ZM.i;have H:=ae (z ZL i);rw[g.i] at H;clear z t;go_wp2_with fail;refine H.P ?_;rintro e w2⟨rfl,l⟩;have ZR:=ae (i.k (l.P i.size));clear l;go_wp2;go_ret;exact⟨rfl,ZR⟩
