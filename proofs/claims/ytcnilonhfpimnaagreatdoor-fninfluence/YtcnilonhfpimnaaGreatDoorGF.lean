import Derived.Test.YtcnilonhfpimnaaGreatDoorGE
import Derived.Deep.DeepCutAuto
set_option linter.all false
set_option maxRecDepth 100000
set_option maxHeartbeats 4000000
open Go renaming Addr.mk->T,Value.slice->Z,Value.string->U,Value.int->J,Value.bool->ZF,Value.agg->ZJ,Obj.cells->N,IntKind.i64->I,World->E,Value->ZB,Ending.returned->ZI,World.heap->A,World.alloc->ZU,World.cell?->ZV,Proofs.Tryz.prog->Pg
open Option renaming none->Y,some->Q
open Bool renaming false->ZA,true->ZH
open Array renaming size->z
namespace Go.Proofs.YtcnilonhfpimnaaGreatDoor.Vp
open Tryz RowKit
abbrev GF (x:au)(a0:O_)(f:Nat)(a1:O_)(b:Nat):ZB:=ZJ #[U x.e,J I x.L,J I x.M,U x.H,Z a0 x.h f,Z a1 x.f b]
abbrev Jm (l:Link):ZB:=ZJ #[U l.e,ZF l.ask,ZF l.has,J I l.G]
def pU (x:au)(a0:O_)(f:Nat)(a1:O_)(b:Nat)(w:E):Calls Pg 164 #[GF x a0 f a1 b] w λe j=>e=ZI (ZF (aY x))/\Below (z (A w)) w j:=by
 have h:=ae ((BS w).alloc ly (N #[U x.e,J I x.L,J I x.M,U x.H,Z a0 x.h f,Z a1 x.f b] 62));obtain⟨r,i⟩:∃r,r=aY x:=⟨_,rfl⟩
 rw[<-i];have g:=ae i;clear i;go_enter func164,ntmps164;cases h1:(x.M == 0) with
 |false =>
  obtain rfl:r=ZA:=by rw[g.i];simp at h1;simp[aY,h1]
  go_wp2;go_ret;exact⟨rfl,h⟩
 |true =>
  cases h2:((x.h:Int) == 0) with
  |false =>
   obtain rfl:r=ZA:=by rw[g.i];simp at h2;simp[aY];omega
   go_wp2;go_ret;exact⟨rfl,h⟩
  |true =>
   cases h3:((x.f:Int) == 0) with
   |false =>
    obtain rfl:r=ZA:=by rw[g.i];simp at h3;simp[aY];omega
    go_wp2;go_ret;exact⟨rfl,h⟩
   |true =>
    obtain rfl:r=ZH:=by rw[g.i];simp at h1 h2 h3;simp[aY,h1,h2,h3]
    go_wp2;go_ret;exact⟨rfl,h⟩
def dC (f:Nat->au)(p:Nat)(l:Link):Bool:=if l.ask=ZH then !l.has && decide (0<=l.G) && decide (l.G<(p:Int)) && ((f l.G.toNat).e.toList == l.e.toList) else decide (l.G=0)
def dN (f:Nat->au)(p:Nat)(l:Link):dW f p l=(aA l.e && dC f p l):=rfl
def mS (b off n p j_:Nat)(f:Nat->au)(l:Link)(w:E)(hp:p<=n)(j:Qv w b off n f):Calls Pg 186 #[Z (Q (T b off Y)) p j_,Jm l] w λe t=>e=ZI (ZF (dC f p l))/\Below (z (A w)) w t:=by
 have g:=ae ((BS w).alloc ly (N #[U l.e,ZF l.ask,ZF l.has,J I l.G] 65));have m:=ae (j.aa g ly);have hb:=j.1;clear j;obtain⟨r,i⟩:∃r,r=dC f p l:=⟨_,rfl⟩
 rw[<-i];have h:=ae i;clear i;obtain⟨nm,ask,has,at_⟩:=l;go_enter func186,ntmps186;cases ask with
 |false =>
  cases h1:(at_ == 0) with
  |true =>
   obtain rfl:r=ZH:=by rw[h.i];simp at h1;simp[dC,h1]
   go_wp2;go_ret;exact⟨rfl,g⟩
  |false =>
   obtain rfl:r=ZA:=by rw[h.i];simp at h1;simp[dC,h1]
   go_wp2;go_ret;exact⟨rfl,g⟩
 |true =>
  cases has with
  |true =>
   obtain rfl:r=ZA:=by rw[h.i];simp[dC]
   go_wp2_with fail;go_quiet (fail);go_wp2;go_ret;exact⟨rfl,AD g _⟩
  |false =>
   by_cases h1:0<=at_
   ·by_cases h2:at_<(p:Int)
    ·obtain⟨q,rfl⟩:∃q:Nat,at_=(q:Int):=⟨at_.toNat,by omega⟩
     have s:q<n:=by omega
     have d0:=(m.2 q s).1;have e:r=((f q).e.toList == nm.toList):=by rw[h.i];simp[dC,h2]
     cases i:((f q).e.toList == nm.toList) with
     |true =>rw[i] at e;subst e;go_wp2_with fail;go_quiet (fail);go_wp2;go_ret;exact⟨rfl,AD g _⟩
     |false =>rw[i] at e;subst e;go_wp2_with fail;go_quiet (fail);go_wp2;go_ret;exact⟨rfl,AD g _⟩
    ·obtain rfl:r=ZA:=by rw[h.i];simp[dC,h2]
     have o:decide (at_<(p:Int))=ZA:=by simpa using h2
     go_wp2_with fail;go_quiet (fail);go_wp2;go_ret;exact⟨rfl,AD g _⟩
   ·obtain rfl:r=ZA:=by rw[h.i];simp[dC,h1]
    have o:decide (0<=at_)=ZA:=by simpa using h1
    go_wp2_with fail;go_quiet (fail);go_wp2;go_ret;exact⟨rfl,AD g _⟩
def lJ {f:Nat->au}{p:Nat}{x:au}{k m:Nat}(hk:k<m)(h:bX f p x (k+1)=ZA):bX f p x m=ZA:=by
 induction m with
 |zero=>omega
 |succ j b =>
  by_cases e:k=j;{subst e;exact h};{rw[bX,b (by omega)];rfl}
def ri (b off n j_ p:Nat)(f:Nat->au)(w:E)(hp:p<n)(H:Qv w b off n f)(hcap:(p:Int)<=j_):Calls Pg 165 #[ZJ #[Z (Q (T b off Y)) n j_],J I (p:Int)] w λe ZP=>e=ZI (ZF (decide ((f p).f<=200) && bX f p (f p) (f p).f))/\Below (z (A w)) w ZP:=by
 have o:=ae ((BS w).alloc ly (N #[Z (Q (T b off Y)) n j_] 25));have HF:=ae H;obtain⟨_,_,_,_,_,⟨a1,cap1,ZQ,r1⟩⟩:=H.2 p hp;have hb:=H.1;have k0:ZV (ZU w (N #[Z (Q (T b off Y)) n j_] 25)) (T (z (A w)) 0 Y)=Q (Z (Q (T b off Y)) n j_):=by simp
 have p5:=(o.O (p:=(T b (off+p*6+5) Y)) hb).k ZQ;have ZO:=ae r1;have t:z (A w)<z (A (ZU w (N #[Z (Q (T b off Y)) n j_] 25))):=by simp
 clear r1 ZQ H;obtain⟨m,S⟩:∃m,m=(f p).f:=⟨_,rfl⟩
 obtain⟨L,hL⟩:∃L,L=(f p).m:=⟨_,rfl⟩
 rw[<-S] at p5 ZO ⊢;rw[<-hL] at ZO;have HM:=ae S;have aq:=ae hL;clear S hL;by_cases hbig:(200:Int)<(m:Int)
 ·obtain⟨r,O⟩:∃r,r=(decide (m<=200) && bX f p (f p) m):=⟨_,rfl⟩
  rw[<-O];obtain rfl:r=ZA:=by rw[O];simp;omega
  clear O;go_enter func165,ntmps165;go_wp2;go_ret;exact⟨rfl,o⟩
 have hd:decide (m<=200)=ZH:=by simp;omega
 rw[hd,QB];clear hd;go_enter func165,ntmps165;go_wp2;generalize World.alloc w _=W at o k0 t ⊢;clear p5;go_loopw [19] (λi wr=>∃k:Nat,k<=m/\i=J I k/\Hid (bX f p (f p) k=ZH)/\Hid (Below (z (A W)) W wr)) (λi _=>m - (intOf i).toNat);case atStart=>exact⟨0,by omega,rfl,rfl,a8 _ _⟩
 case round =>
  obtain⟨k,hk,rfl,R,s⟩:=hrel;by_cases D:k<m
  ·obtain⟨lb,lo,rfl,bt,B⟩:=ZO.resolve_left (by omega);have hx:=(B k D).aa (o.k (s.P o.size)) bt;obtain⟨l,ZL⟩:∃l,l=L k:=⟨_,rfl⟩
   rw[<-ZL] at hx;have ex:=ae ZL;obtain⟨d0,d1,d2,d3⟩:=hx;clear ZL B;have HS:Hid (bX f p (f p) (k+1)=dW f p l):=by show(bX f p (f p) k && dW f p ((f p).m k))=_;rw[R.i,QB,<-aq.i,<-ex.i]
   have y:=ae ((o.k (s.P o.size)).alloc (by have:=o.size;have:=s.size;omega) (N #[U l.e,ZF l.ask,ZF l.has,J I l.G] 65));have ZX:=ae ((s).alloc s.size (N #[U l.e,ZF l.ask,ZF l.has,J I l.G] 65));have ZR:ZV (ZU wr (N #[U l.e,ZF l.ask,ZF l.has,J I l.G] 65)) (T (z (A wr)) 0 Y)=Q (U l.e):=by simp
   have K:ZV (ZU wr (N #[U l.e,ZF l.ask,ZF l.has,J I l.G] 65)) (T (z (A wr)) 1 Y)=Q (ZF l.ask):=by simp
   have G:ZV (ZU wr (N #[U l.e,ZF l.ask,ZF l.has,J I l.G] 65)) (T (z (A wr)) 2 Y)=Q (ZF l.has):=by simp
   have ZT:ZV (ZU wr (N #[U l.e,ZF l.ask,ZF l.has,J I l.G] 65)) (T (z (A wr)) 3 Y)=Q (J I l.G):=by simp
   have hX:z (A wr)<z (A (ZU wr (N #[U l.e,ZF l.ask,ZF l.has,J I l.G] 65))):=by simp
   have P:=(ZX.O (p:=(T (z (A w)) 0 Y)) t).k k0;have x:z (A w)<z (A (ZU wr (N #[U l.e,ZF l.ask,ZF l.has,J I l.G] 65))):=lj t ZX.size;have FR:=ae (HF.aa y ly);go_upto_region 7 with fail;clear d0 d1 d2 d3;generalize World.alloc wr _=ZS at y ZX ZR K G ZT hX P x FR ⊢;generalize (z (A wr))=X at ZR K G ZT hX ⊢;have hp0:0<=(p:Int):=by omega
   have hpn:(p:Int)<=n:=by omega
   have M:p<=n:=by omega
   have hcap':p<=j_:=by omega
   cases hnm:aA l.e with
   |false =>
    have hq:∀w,Calls Pg 113 #[U l.e] w λe ZP=>e=ZI (ZF ZA)/\ZP=w:=λw=>by rw[<-hnm];exact wU l.e w
    go_quiet ((go_at_call 113;exact Calls.quiet_of_same (hq _)));have hN:dW f p l=ZA:=by rw[dN,hnm];rfl
    have C:=ae (HS.k hN);have u:=ae D;have G1:=ae (AD y nq);clear hN;go_wp2;go_ret;exact⟨xT (λZW=>Ending.returned (ZF ZW)) (lJ u C).c,G1⟩
   |true =>
    cases hla:dC f p l with
    |true =>
     go_region_with (first
      |(go_at_call 113;refine(fu _ _).P ?_;rintro e w1⟨j,g⟩;rw[hnm] at j;subst j;have h:Hid (Below (z (A ZS)) ZS w1):=⟨g.os,g.tape,g.output,g.size,g.p⟩;have f0:=(h.O (p:=(T X 0 Y)) hX).k ZR;have f1:=(h.O (p:=(T X 1 Y)) hX).k K;have f2:=(h.O (p:=(T X 2 Y)) hX).k G;have f3:=(h.O (p:=(T X 3 Y)) hX).k ZT;have k2:=(h.O (p:=(T (z (A w)) 0 Y)) x).k P;have V:=ae (FR.aa h ly);clear g)
      |(go_at_call 186;refine(mS b off n p j_ f l _ M V).P ?_;rintro e w2⟨j,q⟩;rw[hla] at j;subst j;have ZN:=ae (h.k (q.P h.size));clear q))
     all_goals
      have C:Hid (bX f p (f p) (k+1)=ZH):=HS.k (by rw[dN,hnm,hla];rfl);have ZM:=ae (ZX.k (ZN.P ZX.size));go_wp2;exact⟨⟨k+1,by omega,by go_num,C,ZM⟩,by simp[intOf];omega⟩
    |false =>
     go_region_with (first
      |(go_at_call 113;refine(fu _ _).P ?_;rintro e w1⟨j,g⟩;rw[hnm] at j;subst j;have h:Hid (Below (z (A ZS)) ZS w1):=⟨g.os,g.tape,g.output,g.size,g.p⟩;have f0:=(h.O (p:=(T X 0 Y)) hX).k ZR;have f1:=(h.O (p:=(T X 1 Y)) hX).k K;have f2:=(h.O (p:=(T X 2 Y)) hX).k G;have f3:=(h.O (p:=(T X 3 Y)) hX).k ZT;have k2:=(h.O (p:=(T (z (A w)) 0 Y)) x).k P;have V:=ae (FR.aa h ly);clear g)
      |(go_at_call 186;refine(mS b off n p j_ f l _ M V).P ?_;rintro e w2⟨j,q⟩;rw[hla] at j;subst j;have ZN:=ae (h.k (q.P h.size));clear q))
     all_goals
      have C:Hid (bX f p (f p) (k+1)=ZA):=HS.k (by rw[dN,hnm,hla];rfl);have u:=ae D;have ZM:=ae (y.k (ZN.P (by have:=y.size;omega)));go_wp2;go_ret;exact⟨xT (λZW=>Ending.returned (ZF ZW)) (lJ u C).c,ZM⟩
  ·have e:m=k:=by omega
   subst e;go_wp2;go_ret;exact⟨by rw[HM.i] at R;rw[HM.i];exact xT (λZW=>Ending.returned (ZF ZW)) R.c,o.k (s.P o.size)⟩
structure SixB (w:E)(b:Nat)(v0 v1 v2 v3 v4 v5:ZB):Prop where
 lt:b<z (A w)
 c0:ZV w (T b 0 Y)=Q v0
 c1:ZV w (T b 1 Y)=Q v1
 c2:ZV w (T b 2 Y)=Q v2
 c3:ZV w (T b 3 Y)=Q v3
 c4:ZV w (T b 4 Y)=Q v4
 c5:ZV w (T b 5 Y)=Q v5
def SixB.aa {w n:E}{b:Nat}{i g f l m j:ZB}(h:SixB w b i g f l m j)(hb:Below (z (A w)) w n):SixB n b i g f l m j:=
 ⟨lj h.lt hb.size,(hb.O (p:=(T b 0 Y)) h.lt).k h.c0,(hb.O (p:=(T b 1 Y)) h.lt).k h.c1,(hb.O (p:=(T b 2 Y)) h.lt).k h.c2,(hb.O (p:=(T b 3 Y)) h.lt).k h.c3,(hb.O (p:=(T b 4 Y)) h.lt).k h.c4,(hb.O (p:=(T b 5 Y)) h.lt).k h.c5⟩
def lK (w:E)(h g f j b i:ZB)(t:TypeId):SixB (ZU w (N #[h,g,f,j,b,i] t)) (z (A w)) h g f j b i:=⟨by simp,by simp,by simp,by simp,by simp,by simp,by simp⟩
def lL (t:F_):t.toList.isEmpty=decide (t.size=0):=by rw[NM];obtain⟨⟨l⟩⟩:=t;cases l<;>simp[ByteArray.size]
def AJ {a b:Bool}(h:a=b):Ending.returned (ZF a)=Ending.returned (ZF b):=by rw[h]
def tD (b off n j_ p:Nat)(f:Nat->au)(w:E)(O:p<n)(ZT:Qv w b off n f)(ZS:(p:Int)<=j_)(u:(f p).h<=1048576)(ZN:Tab w):Calls Pg 145 #[ZJ #[Z (Q (T b off Y)) n j_],J I (p:Int)] w λe w'=>e=ZI (ZF (bw f p))/\Below (z (A w)) w w':=by
 have HF:=ae ZT;have P:=ae ZN;have hb:=ZT.1;obtain⟨X,ZP,ZM,ZO,⟨a0,m,ZL,M⟩,⟨a1,q,R,q5⟩⟩:=ZT.2 p O;obtain⟨r,L⟩:∃r,r=bw f p:=⟨_,rfl⟩
 rw[<-L];have G:=ae L;obtain⟨x,K⟩:∃x,x=f p:=⟨_,rfl⟩
 rw[<-K] at X ZP ZM ZO ZL R M u;have H:=ae K;have Q4:=ae M;clear L K M q5 ZT ZN;obtain⟨W,C⟩:∃W:E,ZU (ZU w (N #[Z (Q (T b off Y)) n j_] 25)) (N #[U x.e,J I x.L,J I x.M,U x.H,Z a0 x.h m,Z a1 x.f q] 62)=W:=⟨_,rfl⟩
 obtain⟨B,-,-,-⟩:=nb2 C;have y:=ae C;clear C;have s:=ae (lK (ZU w (N #[Z (Q (T b off Y)) n j_] 25)) (U x.e) (J I x.L) (J I x.M) (U x.H) (Z a0 x.h m) (Z a1 x.f q) 62);have hz:z (A (ZU w (N #[Z (Q (T b off Y)) n j_] 25)))=z (A w)+1:=by simp
 rw[hz] at s;have S:Hid (ZV W (T (z (A w)) 0 Y)=Q (Z (Q (T b off Y)) n j_)):=by rw[<-y.i];show World.cell? _ _=_;simp
 clear hz;go_enter func145,ntmps145;go_wp2_with fail;rw[y.i] at s ⊢;clear y;clear X ZP ZM ZO ZL R;cases hnm:aA x.e with
 |false =>
  refine(fu x.e _).P ?_;rintro e w1⟨h,g⟩;rw[hnm] at h;subst h;have i:=ae (B.k (g.P B.size));obtain rfl:r=ZA:=by rw[G.i];unfold bw;rw[<-H.i,hnm];rfl
  clear g;go_wp2;go_ret;exact⟨rfl,i⟩
 |true =>
 refine(fu x.e _).P ?_;rintro e w1⟨h,g⟩;rw[hnm] at h;subst h;have i:=ae (B.k (g.P B.size));have l:=ae (s.aa g);have K1:=ae ((g.O (p:=(T (z (A w)) 0 Y)) (VM s.lt)).k S);have c1:=l.c1;have c2:=l.c2;have c3:=l.c3;clear g B s S;by_cases hbig:(2000:Int)<(x.H.size:Int)
 ·obtain rfl:r=ZA:=by rw[G.i];unfold bw;rw[<-H.i,hnm];simp;omega
  go_wp2;go_ret;exact⟨rfl,i⟩
 have D:Hid (r=kindOk f p x):=by show r=_;rw[G.i];unfold bw;rw[<-H.i,hnm,show decide (x.H.size<=2000)=ZH by simp;omega];rfl
 clear G;cases h1:(x.L == 1) with
 |true =>
  have ZX:x.L=1:=by simpa using h1
  have j:Hid (aY x=r):=(D.k (by unfold kindOk;rw[eT ZX])).c;clear ZX;have c0:=l.c0;have c4:=l.c4;have c5:=l.c5;go_wp2_with fail;refine(pU x a0 m a1 q _).P ?_;rintro e ZR⟨rfl,g⟩;have o:=ae (i.k (g.P i.size));clear g;go_wp2;go_ret;exact⟨AJ j,o⟩
 |false =>
 cases h2:(x.L == 2) with
 |true =>
  have ZX:x.L=2:=by simpa using h2
  have j:Hid (r=(aY x && decide (x.H.size=0))):=D.k (by unfold kindOk;rw[eI (by omega),eT ZX]);clear ZX;have c0:=l.c0;have c4:=l.c4;have c5:=l.c5;go_wp2_with fail;refine(pU x a0 m a1 q _).P ?_;rintro e ZR⟨h,g⟩;have o:=ae (i.k (g.P i.size));have d3:=(l.aa g).c3;clear g;cases hu:aY x with
  |false =>
   rw[hu] at h;subst h;obtain rfl:r=ZA:=by rw[j.i,hu];rfl
   go_wp2;go_ret;exact⟨rfl,o⟩
  |true =>
   rw[hu] at h;subst h;have t:Hid (decide (x.H.size=0)=r):=by show _=r;rw[j.i,hu];rfl
   go_wp2;go_ret;exact⟨bv (by rw[lL];exact t),o⟩
 |false =>
 cases h3:(x.L == 3) with
 |false =>
  obtain rfl:r=ZA:=by rw[D.i];unfold kindOk;simp at h1 h2 h3;rw[eI h1,eI h2,eI h3]
  go_wp2;go_ret;exact⟨rfl,i⟩
 |true =>
 have j:Hid (r=cC f p x):=D.k (by unfold kindOk;simp at h1 h2 h3;rw[eI h1,eI h2,eT h3]);by_cases ZQ:0<=x.M
 ·by_cases V:x.M<=5
  ·have c4:=l.c4;go_wp2_with fail;refine(nf a0 x.h m x.q _ u (Q4.aa i ly) (P.aa i P.1)).P ?_;rintro e ZR⟨h,g⟩;have o:=ae (i.k (g.P i.size));have K2:=(g.O (p:=(T (z (A w)) 0 Y)) (VM l.lt)).k K1;clear g;cases hv:valid x.q x.h with
   |false =>
    rw[hv] at h;subst h;obtain rfl:r=ZA:=by rw[j.i];simp[cC,hv]
    go_wp2;go_ret;exact⟨rfl,o⟩
   |true =>
    rw[hv] at h;subst h;have t:Hid ((decide (x.f<=200) && bX f p x x.f)=r):=by show _=r;rw[j.i];simp[cC,hv,ZQ,V]
    have ZW:=ae (ri b off n j_ p f ZR O (HF.aa o ly) ZS);rw[<-H.i] at ZW;rw[t.i] at ZW;go_wp2_with fail;refine ZW.P ?_;rintro e w3⟨rfl,g⟩;have B3:=ae (o.k (g.P o.size));clear g;go_wp2;go_ret;exact⟨rfl,B3⟩
  ·obtain rfl:r=ZA:=by rw[j.i];simp[cC,V]
   go_wp2;go_ret;exact⟨rfl,i⟩
 ·obtain rfl:r=ZA:=by rw[j.i];simp[cC,ZQ]
  go_wp2;go_ret;exact⟨rfl,i⟩
def tE (b off n j_:Nat)(f:Nat->au)(w:E)(hn:(n:Int)<=400)(D:Qv w b off n f)(hcap:(n:Int)<=j_)(l:∀i,i<n->cX (f i))(C:Tab w):Calls Pg 105 #[ZJ #[Z (Q (T b off Y)) n j_]] w λe M=>e=ZI (J I (aQ (bw f) n))/\Below (z (A w)) w M:=by
 have G:=ae D;have y:=ae C;have L:=ae l;clear D C l;obtain⟨W,o⟩:∃W:E,ZU w (N #[Z (Q (T b off Y)) n j_] 25)=W:=⟨_,rfl⟩
 obtain⟨ZT,-,-⟩:=nb1 o;have g:=ae o;clear o;have K:ZV W (T (z (A w)) 0 Y)=Q (Z (Q (T b off Y)) n j_):=by rw[<-g.i];simp
 have ZW:z (A w)<z (A W):=by rw[<-g.i];simp
 obtain⟨r,t⟩:∃r,r=aQ (bw f) n:=⟨_,rfl⟩
 rw[<-t];have B:=ae t;clear t;go_enter func105,ntmps105;go_wp2;rw[g.i];clear g;go_loopw [7] (λi wr=>∃k:Nat,k<=n/\i=J I k/\Hid (∀j,j<k->bw f j=ZH)/\Hid (Below (z (A W)) W wr)) (λi _=>n - (intOf i).toNat);case atStart=>exact⟨0,by omega,rfl,λj ZX=>absurd ZX (NF _),a8 _ _⟩
 case round =>
  obtain⟨k,hk,rfl,x,s⟩:=hrel;have k1:=(s.O (p:=(T (z (A w)) 0 Y)) ZW).k K;have h:=ae (ZT.k (s.P ZT.size));by_cases m:k<n
  ·go_wp2_with fail;refine(tD b off n j_ k f _ m (G.aa h ly) (by omega) (L k m).1 (y.aa h y.1)).P ?_;rintro e w2⟨q,u⟩;have ZS:=ae (h.k (u.P h.size));have H:=ae (s.k (u.P s.size));clear u;cases hd:bw f k with
   |true =>
    rw[hd] at q;subst q;have ZR:=ae hd;clear hd;go_wp2
    exact⟨⟨k+1,by omega,by go_num,λj ZX=>by
     by_cases e:j=k;{subst e;exact ZR}
     ·exact x j (by omega),H⟩,by simp[intOf];omega⟩
   |false =>
    rw[hd] at q;subst q;obtain rfl:r=k:=by rw[B.i];exact fQ m hd x
    clear hd;go_wp2;go_ret;exact⟨rfl,ZS⟩
  ·have e:n=k:=by omega
   subst e;obtain rfl:r=-1:=by rw[B.i];exact ej x
   go_wp2;go_ret;exact⟨rfl,h⟩
def ug (x:au)(a0:O_)(h:Nat)(a1:O_)(f:Nat)(w:E):Calls Pg 138 #[GF x a0 h a1 f] w λe l=>e=ZI (ZF (decide (x.H.size<=2000) && aY x))/\Below (z (A w)) w l:=by
 have g:=ae ((BS w).alloc ly (N #[U x.e,J I x.L,J I x.M,U x.H,Z a0 x.h h,Z a1 x.f f] 62));obtain⟨r,i⟩:∃r,r=(decide (x.H.size<=2000) && aY x):=⟨_,rfl⟩
 rw[<-i];have b:=ae i;clear i;go_enter func138,ntmps138;cases h1:(x.M == 0) with
 |false =>
  obtain rfl:r=ZA:=by rw[b.i];simp at h1;simp[aY,h1]
  go_wp2;go_ret;exact⟨rfl,g⟩
 |true =>
  by_cases h4:(x.H.size:Int)<=2000
  ·have j:decide (x.H.size<=2000)=ZH:=by simp;omega
   cases h2:((x.h:Int) == 0) with
   |false =>
    obtain rfl:r=ZA:=by rw[b.i];simp at h2;simp[aY];omega
    go_wp2;go_ret;exact⟨rfl,g⟩
   |true =>
    cases h3:((x.f:Int) == 0) with
    |false =>
     obtain rfl:r=ZA:=by rw[b.i];simp at h3;simp[aY];omega
     go_wp2;go_ret;exact⟨rfl,g⟩
    |true =>
     obtain rfl:r=ZH:=by rw[b.i,j];simp at h1 h2 h3;simp[aY,h1,h2,h3]
     go_wp2;go_ret;exact⟨rfl,g⟩
  ·obtain rfl:r=ZA:=by rw[b.i];simp;omega
   go_wp2;go_ret;exact⟨rfl,g⟩
def rj (b off n j_ p:Nat)(f:Nat->au)(w:E)(hp:p<n)(O:Qv w b off n f)(ZS:(f p).h<=1048576)(H:∀j,j<(f p).h->((f p).q j).s.size<=maxLen):Calls Pg 139 #[ZJ #[Z (Q (T b off Y)) n j_],J I (p:Int)] w λe w'=>e=ZI (ZF (decide ((f p).H.size<=2000) && cC f p (f p)))/\Below (z (A w)) w w':=by
 have HF:=ae O;have hb:=O.1;obtain⟨p0,p1,p2,p3,⟨a0,u,p4,q4⟩,⟨a1,ZX,p5,q5⟩⟩:=O.2 p hp;obtain⟨x,hx⟩:∃x,x=f p:=⟨_,rfl⟩
 rw[<-hx] at p0 p1 p2 p3 p4 p5 q4 q5 ZS H ⊢;have HX:=ae hx;have Q4:=ae q4;have Q5:=ae q5;have HZ:=ae H;clear hx q4 q5 O H;have ZW:=ae (((BS w).alloc ly (N #[Z (Q (T b off Y)) n j_] 25)).alloc (by simp) (N #[U x.e,J I x.L,J I x.M,U x.H,Z a0 x.h u,Z a1 x.f ZX] 62));have y:=ae (lK (ZU w (N #[Z (Q (T b off Y)) n j_] 25)) (U x.e) (J I x.L) (J I x.M) (U x.H) (Z a0 x.h u) (Z a1 x.f ZX) 62);have hz:z (A (ZU w (N #[Z (Q (T b off Y)) n j_] 25)))=z (A w)+1:=by simp
 rw[hz] at y;have K0:Hid (ZV (ZU (ZU w (N #[Z (Q (T b off Y)) n j_] 25)) (N #[U x.e,J I x.L,J I x.M,U x.H,Z a0 x.h u,Z a1 x.f ZX] 62)) (T (z (A w)) 0 Y)=Q (Z (Q (T b off Y)) n j_)):=by show World.cell? _ _=_;simp
 clear hz;obtain⟨r,D⟩:∃r,r=(decide (x.H.size<=2000) && cC f p x):=⟨_,rfl⟩
 rw[<-D];have ZT:=ae D;clear D;have c2:=y.c2;have c3:=y.c3;have c4:=y.c4;have c5:=y.c5;by_cases g1:0<=x.M;case neg =>
  obtain rfl:r=ZA:=by rw[ZT.i];simp[cC,g1]
  go_enter func139,YT;go_wp2;go_ret;exact⟨rfl,ZW⟩
 by_cases g2:x.M<=5;case neg =>
  obtain rfl:r=ZA:=by rw[ZT.i];simp[cC,g2]
  go_enter func139,YT;go_wp2;go_ret;exact⟨rfl,ZW⟩
 by_cases g3:(x.H.size:Int)<=2000;case neg =>
  obtain rfl:r=ZA:=by rw[ZT.i];simp;omega
  go_enter func139,YT;go_wp2;go_ret;exact⟨rfl,ZW⟩
 have bt:decide (x.H.size<=2000)=ZH:=by simp;omega
 go_enter func139,YT;go_wp2_with fail;generalize World.alloc (World.alloc w _) _=W at ZW y K0 ⊢;clear p0 p1 p2 p3 p4 p5;refine(jD a0 x.h u x.q _ ZS (Q4.aa ZW ly) HZ).P ?_;rintro e w1⟨t,g⟩;have ZO:=ae (ZW.k (g.P ZW.size));have S1:=ae (y.aa g);have K1:=ae ((g.O (p:=(T (z (A w)) 0 Y)) (VM y.lt)).k K0);clear g ZW y K0 c2 c3 c4 c5;have c5:=S1.c5;cases hv:valid x.q x.h with
 |false =>
  rw[hv] at t;subst t;obtain rfl:r=ZA:=by rw[ZT.i];simp[cC,hv]
  go_wp2;go_ret;exact⟨rfl,ZO⟩
 |true =>
 rw[hv] at t;subst t;have K:Hid (r=(decide (x.f<=200) && bX f p x x.f)):=by show r=_;rw[ZT.i,bt];simp[cC,hv,g1,g2]
 clear ZT bt hv;by_cases hbig:(200:Int)<(x.f:Int)
 ·obtain rfl:r=ZA:=by rw[K.i];simp;omega
  go_wp2;go_ret;exact⟨rfl,ZO⟩
 have ZL:Hid (r=bX f p x x.f):=by show r=_;rw[K.i,show decide (x.f<=200)=ZH by simp;omega];rfl
 clear K;go_wp2;have ex:z (A w)+1<z (A w1):=S1.lt;go_loopw [6] (λi wr=>∃k:Nat,k<=x.f/\i=J I k/\Hid (bX f p x k=ZH)/\Hid (Below (z (A w1)) w1 wr)) (λi _=>x.f - (intOf i).toNat);case atStart=>exact⟨0,by omega,rfl,rfl,a8 _ _⟩
 case round =>
  obtain⟨k,hk,rfl,HK,P⟩:=hrel;have e5:=(P.O (p:=(T (z (A w)+1) 5 Y)) ex).k c5;have ZN:=ae (ZO.k (P.P ZO.size));by_cases L:k<x.f
  ·obtain⟨lb,lo,rfl,ZR⟩:=(Q5.aa ZN ly).resolve_left (by omega);have aq:=ZR.2 k L;obtain⟨l,hl⟩:∃l,l=x.m k:=⟨_,rfl⟩
   rw[<-hl] at aq;obtain⟨d0,d1,d2,d3⟩:=aq;have HS:Hid (bX f p x (k+1)=dW f p l):=by show(bX f p x k && dW f p (x.m k))=_;rw[HK.i,QB,<-hl]
   clear hl ZR;have ZP:=ae (ZN.alloc ZN.size (N #[U l.e,ZF l.ask,ZF l.has,J I l.G] 65));have G:=ae (P.alloc P.size (N #[U l.e,ZF l.ask,ZF l.has,J I l.G] 65));have R:ZV (ZU wr (N #[U l.e,ZF l.ask,ZF l.has,J I l.G] 65)) (T (z (A wr)) 0 Y)=Q (U l.e):=by simp
   have S:ZV (ZU wr (N #[U l.e,ZF l.ask,ZF l.has,J I l.G] 65)) (T (z (A wr)) 1 Y)=Q (ZF l.ask):=by simp
   have ZQ:ZV (ZU wr (N #[U l.e,ZF l.ask,ZF l.has,J I l.G] 65)) (T (z (A wr)) 2 Y)=Q (ZF l.has):=by simp
   have M:ZV (ZU wr (N #[U l.e,ZF l.ask,ZF l.has,J I l.G] 65)) (T (z (A wr)) 3 Y)=Q (J I l.G):=by simp
   have m:z (A wr)<z (A (ZU wr (N #[U l.e,ZF l.ask,ZF l.has,J I l.G] 65))):=by simp
   have kA:=(G.O (p:=(T (z (A w)) 0 Y)) (by show (z (A w))<_;omega)).k K1;have ZM:z (A w)<z (A (ZU wr (N #[U l.e,ZF l.ask,ZF l.has,J I l.G] 65))):=by have:=G.size;omega
   go_wp2_with fail;clear d0 d1 d2 d3 e5;generalize World.alloc wr _=W1 at ZP G R S ZQ M m kA ZM ⊢;generalize (z (A wr))=X at R S ZQ M m ⊢;refine(dl l.e _).P ?_;rintro e w2⟨t,g⟩;have C:=ae (ZP.k (g.P ZP.size));have C2:=ae (G.k (g.P G.size));have f0:=(g.O (p:=(T X 0 Y)) m).k R;have f1:=(g.O (p:=(T X 1 Y)) m).k S;have f2:=(g.O (p:=(T X 2 Y)) m).k ZQ;have f3:=(g.O (p:=(T X 3 Y)) m).k M;have kB:=(g.O (p:=(T (z (A w)) 0 Y)) ZM).k kA;have FR:=ae (HF.aa C ly);clear g R S ZQ M kA ZP G;have HLT:=ae L;have no:dW f p l=ZA->r=ZA:=λh=>by rw[ZL.i];exact lJ L (HS.k h)
   have o:=ae no;clear no;cases hnm:aA l.e with
   |false =>rw[hnm] at t;subst t;obtain rfl:r=ZA:=o.i (by rw[dN,hnm];rfl);go_wp2;go_ret;exact⟨rfl,C⟩
   |true =>
   rw[hnm] at t;subst t;cases hask:l.ask with
   |false =>
    rw[hask] at f1;cases h1:(l.G == 0) with
    |false =>obtain rfl:r=ZA:=o.i (by simp at h1;rw[dN,hnm];simp[dC,hask,h1]);go_wp2;go_ret;exact⟨rfl,C⟩
    |true =>have HN:Hid (bX f p x (k+1)=ZH):=HS.k (by simp at h1;rw[dN,hnm];simp[dC,hask,h1]);go_wp2_with fail;go_quiet (fail);have C3:=ae (AD C2 nq);go_wp2;exact⟨⟨k+1,by omega,by go_num,HN,C3⟩,by simp[intOf];omega⟩
   |true =>
    rw[hask] at f1;cases hhas:l.has with
    |true =>rw[hhas] at f2;obtain rfl:r=ZA:=o.i (by rw[dN,hnm];simp[dC,hask,hhas]);go_wp2_with fail;go_quiet (fail);have B:=ae (AD C nq);go_wp2;go_ret;exact⟨rfl,B⟩
    |false =>
     rw[hhas] at f2;by_cases g4:0<=l.G
     ·by_cases g5:l.G<(p:Int)
      ·obtain⟨q,hq⟩:∃q:Nat,l.G=(q:Int):=⟨l.G.toNat,by omega⟩
       rw[hq] at f3 g5;have fd:q<n:=by omega
       have d0:=(FR.2 q fd).1;have h5:decide ((p:Int)<=(q:Int))=ZA:=by simp;omega
       have h5n:decide (p<=q)=ZA:=by simp;omega
       have h6:decide ((q:Int)<0)=ZA:=by simp
       have hq0:(0:Int)<=q:=by omega
       have hqn':(q:Int)<n:=by omega
       have V:Hid (dC f p l=((f q).e.toList == l.e.toList)):=by show dC f p l=_;simp[dC,hask,hhas,hq,g5]
       cases D:((f q).e.toList == l.e.toList) with
       |true =>have HN:Hid (bX f p x (k+1)=ZH):=HS.k (by rw[dN,hnm,V.i,D];rfl);go_wp2_with fail;go_quiet (fail);have C3:=ae (AD C2 nq);go_wp2;exact⟨⟨k+1,by omega,by go_num,HN,C3⟩,by simp[intOf];omega⟩
       |false =>obtain rfl:r=ZA:=o.i (by rw[dN,hnm,V.i,D];rfl);go_wp2_with fail;go_quiet (fail);have B:=ae (AD C nq);go_wp2;go_ret;exact⟨rfl,B⟩
      ·obtain rfl:r=ZA:=o.i (by rw[dN,hnm];simp[dC,hask,g5]);have h5:(p:Int)<=l.G:=by omega
       have h6:decide (l.G<0)=ZA:=by simpa using g4
       go_wp2_with fail;go_quiet (fail);have B:=ae (AD C nq);go_wp2;go_ret;exact⟨rfl,B⟩
     ·obtain rfl:r=ZA:=o.i (by rw[dN,hnm];simp[dC,hask,g4]);have h6:l.G<0:=by omega
      go_wp2_with fail;go_quiet (fail);have B:=ae (AD C nq);go_wp2;go_ret;exact⟨rfl,B⟩
  ·have e:x.f=k:=by omega
   obtain rfl:r=ZH:=by rw[ZL.i,e];exact HK
   have h5:((k:Int)<(x.f:Int))=False:=by simp;omega
   go_wp2;go_ret;exact⟨rfl,ZN⟩
def uh (b off n j_ p:Nat)(f:Nat->au)(w:E)(O:p<n)(ZT:Qv w b off n f)(q:(f p).h<=1048576)(ZW:∀j,j<(f p).h->((f p).q j).s.size<=maxLen):Calls Pg 102 #[ZJ #[Z (Q (T b off Y)) n j_],J I (p:Int)] w λe D=>e=ZI (ZF (bw f p))/\Below (z (A w)) w D:=by
 have y:=ae (λD (hb:Below (z (A w)) w D)=>rj b off n j_ p f D O (ZT.aa hb ly) q ZW);obtain⟨r,ZR⟩:∃r,r=bw f p:=⟨_,rfl⟩
 rw[<-ZR];have K:=ae ZR;clear ZR;have hb:=ZT.1;obtain⟨X,R,ZP,P,⟨a0,m,ZN,V⟩,⟨a1,o,ZO,ZQ⟩⟩:=ZT.2 p O;obtain⟨x,ZS⟩:∃x,x=f p:=⟨_,rfl⟩
 rw[<-ZS] at X R ZP P ZN ZO V ZQ q ZW y;have S:=ae ZS;clear ZS V ZQ ZT ZW q;have G:=ae (((BS w).alloc ly (N #[Z (Q (T b off Y)) n j_] 25)).alloc (by simp) (N #[U x.e,J I x.L,J I x.M,U x.H,Z a0 x.h m,Z a1 x.f o] 62));have ZX:=ae (lK (ZU w (N #[Z (Q (T b off Y)) n j_] 25)) (U x.e) (J I x.L) (J I x.M) (U x.H) (Z a0 x.h m) (Z a1 x.f o) 62);have hz:z (A (ZU w (N #[Z (Q (T b off Y)) n j_] 25)))=z (A w)+1:=by simp
 rw[hz] at ZX;have M:Hid (ZV (ZU (ZU w (N #[Z (Q (T b off Y)) n j_] 25)) (N #[U x.e,J I x.L,J I x.M,U x.H,Z a0 x.h m,Z a1 x.f o] 62)) (T (z (A w)) 0 Y)=Q (Z (Q (T b off Y)) n j_)):=by show World.cell? _ _=_;simp
 clear hz;go_enter func102,ntmps102;go_wp2_with fail;generalize World.alloc (World.alloc w _) _=W at G ZX M ⊢;clear X R ZP P ZN ZO;refine(dl x.e _).P ?_;rintro e w1⟨C,l⟩;have i:=ae (G.k (l.P G.size));have t:=ae (ZX.aa l);have ZL:=ae ((l.O (p:=(T (z (A w)) 0 Y)) (VM ZX.lt)).k M);clear l G ZX M;cases hnm:aA x.e with
 |false =>
  rw[hnm] at C;subst C;obtain rfl:r=ZA:=by rw[K.i];unfold bw;rw[<-S.i,hnm];rfl
  go_wp2;go_ret;exact⟨rfl,i⟩
 |true =>
 rw[hnm] at C;subst C;have u:Hid (r=(decide (x.H.size<=2000) && kindOk f p x)):=by show r=_;rw[K.i];unfold bw;rw[<-S.i,hnm];rfl
 clear K;have c0:=t.c0;have c1:=t.c1;have c2:=t.c2;have c3:=t.c3;have c4:=t.c4;have c5:=t.c5;cases h1:(x.L == 1) with
 |true =>
  have B:x.L=1:=by simpa using h1
  have g:Hid ((decide (x.H.size<=2000) && aY x)=r):=(u.k (by unfold kindOk;rw[eT B])).c;clear B;go_wp2_with fail;refine(ug x a0 m a1 o _).P ?_;rintro e ZM⟨rfl,l⟩;have L:=ae (i.k (l.P i.size));clear l;go_wp2;go_ret;exact⟨AJ g,L⟩
 |false =>
 cases h2:(x.L == 2) with
 |true =>
  have B:x.L=2:=by simpa using h2
  have g:Hid (r=(aY x && decide (x.H.size=0))):=u.k (by
   unfold kindOk;rw[eI (by omega),eT B];by_cases h:x.H.size=0;{simp[h]}
   ·simp[h])
  clear B u;cases g1:(x.M == 0) with
  |false =>
   obtain rfl:r=ZA:=by rw[g.i];simp at g1;simp[aY,g1]
   go_wp2;go_ret;exact⟨rfl,i⟩
  |true =>
  cases g2:x.H.toList.isEmpty with
  |false =>
   obtain rfl:r=ZA:=by rw[g.i,<-lL,g2];simp
   go_wp2;go_ret;exact⟨rfl,i⟩
  |true =>
  cases g3:((x.h:Int) == 0) with
  |false =>
   obtain rfl:r=ZA:=by rw[g.i];simp at g3;simp[aY];omega
   go_wp2;go_ret;exact⟨rfl,i⟩
  |true =>
  cases g4:((x.f:Int) == 0) with
  |false =>
   obtain rfl:r=ZA:=by rw[g.i];simp at g4;simp[aY];omega
   go_wp2;go_ret;exact⟨rfl,i⟩
  |true =>
   obtain rfl:r=ZH:=by rw[g.i,<-lL,g2];simp at g1 g3 g4;simp[aY,g1,g3,g4]
   go_wp2;go_ret;exact⟨rfl,i⟩
 |false =>
 cases h3:(x.L == 3) with
 |false =>
  obtain rfl:r=ZA:=by rw[u.i];unfold kindOk;simp at h1 h2 h3;rw[eI h1,eI h2,eI h3];simp
  go_wp2;go_ret;exact⟨rfl,i⟩
 |true =>have g:Hid ((decide (x.H.size<=2000) && cC f p x)=r):=(u.k (by unfold kindOk;simp at h1 h2 h3;rw[eI h1,eI h2,eT h3])).c;have k1:=ZL.i;have H:=ae (y w1 i);rw[g.i] at H;clear y u;go_wp2_with fail;refine H.P ?_;rintro e ZM⟨rfl,l⟩;have L:=ae (i.k (l.P i.size));clear l;go_wp2;go_ret;exact⟨rfl,L⟩
