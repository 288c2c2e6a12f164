import Derived.Test.YtpmnbjkjpnclaaaGreatDoorME
import Derived.Deep.DeepCutAuto
set_option maxRecDepth 100000
set_option maxHeartbeats 4000000
open Go renaming Addr.mk->N,Value.slice->Y,Value.string->U,Value.int->Q,Value.bool->ZC,Value.agg->ZG,Obj.cells->J,IntKind.i64->I,World->M,Value->ZB,Ending.returned->ZD,World.heap->B,World.alloc->z,Proofs.Tryz.prog->Pg
open Option renaming none->Z,some->T
open Bool renaming false->ZA,true->ZF
open Array renaming size->A
namespace Go.Proofs.YtpmnbjkjpnclaaaGreatDoor.Vp
open Tryz RowKit
abbrev Cq (x:aj)(a0:Option Addr)(b:Nat)(a1:Option Addr)(f:Nat):ZB:=ZG #[U x.e,Q I x.H,Q I x.E,U x.y,Y a0 x.m b,Y a1 x.l f]
abbrev Fo (l:Link):ZB:=ZG #[U l.e,ZC l.ask,ZC l.has,Q I l.G]
theorem nN (x:aj)(a0:Option Addr)(b:Nat)(a1:Option Addr)(f:Nat)(w:M):Calls Pg 251 #[Cq x a0 b a1 f] w λe j=>e=ZD (ZC (aN x))/\Below (A (B w)) w j:=by
 have g:=ae ((BS w).alloc ly (J #[U x.e,Q I x.H,Q I x.E,U x.y,Y a0 x.m b,Y a1 x.l f] 46));obtain⟨r,i⟩:∃r,r=aN x:=⟨_,rfl⟩
 rw[<-i];have h:=ae i;clear i;go_enter func251,ntmps251;cases h1:(x.E == 0) with
 |false =>
  obtain rfl:r=ZA:=by rw[h.out];simp at h1;simp[aN,h1]
  go_wp2;go_ret;exact⟨rfl,g⟩
 |true =>
  cases h2:((x.m:Int) == 0) with
  |false =>
   obtain rfl:r=ZA:=by rw[h.out];simp at h2;simp[aN];omega
   go_wp2;go_ret;exact⟨rfl,g⟩
  |true =>
   cases h3:((x.l:Int) == 0) with
   |false =>
    obtain rfl:r=ZA:=by rw[h.out];simp at h3;simp[aN];omega
    go_wp2;go_ret;exact⟨rfl,g⟩
   |true =>
    obtain rfl:r=ZF:=by rw[h.out];simp at h1 h2 h3;simp[aN,h1,h2,h3]
    go_wp2;go_ret;exact⟨rfl,g⟩
def cW (f:Nat->aj)(p:Nat)(l:Link):Bool:=if l.ask=ZF then !l.has && decide (0<=l.G) && decide (l.G<(p:Int)) && ((f l.G.toNat).e.toList == l.e.toList) else decide (l.G=0)
theorem dl (f:Nat->aj)(p:Nat)(l:Link):dU f p l=(aA l.e && cW f p l):=rfl
theorem kF (b off n p cap:Nat)(f:Nat->aj)(l:Link)(w:M)(hp:p<=n)(j:RowDeed w b off n f):Calls Pg 284 #[Y (T (N b off Z)) p cap,Fo l] w λe t=>e=ZD (ZC (cW f p l))/\Below (A (B w)) w t:=by
 have g:=ae ((BS w).alloc ly (J #[U l.e,ZC l.ask,ZC l.has,Q I l.G] 91));have o:=ae (j.aa g ly);have hb:=j.1;clear j;obtain⟨r,h⟩:∃r,r=cW f p l:=⟨_,rfl⟩
 rw[<-h];have i:=ae h;clear h;obtain⟨nm,ask,has,at_⟩:=l;go_enter func284,ntmps284;cases ask with
 |false =>
  cases h1:(at_ == 0) with
  |true =>
   obtain rfl:r=ZF:=by rw[i.out];simp at h1;simp[cW,h1]
   go_wp2;go_ret;exact⟨rfl,g⟩
  |false =>
   obtain rfl:r=ZA:=by rw[i.out];simp at h1;simp[cW,h1]
   go_wp2;go_ret;exact⟨rfl,g⟩
 |true =>
  cases has with
  |true =>
   obtain rfl:r=ZA:=by rw[i.out];simp[cW]
   go_wp2_with fail;go_quiet (fail);go_wp2;go_ret;exact⟨rfl,E9 g _⟩
  |false =>
   by_cases h1:0<=at_
   ·by_cases h2:at_<(p:Int)
    ·obtain⟨q,rfl⟩:∃q:Nat,at_=(q:Int):=⟨at_.toNat,by omega⟩
     have m:q<n:=by omega
     have d0:=(o.2 q m).1;have e:r=((f q).e.toList == nm.toList):=by rw[i.out];simp[cW,h2]
     cases h:((f q).e.toList == nm.toList) with
     |true =>rw[h] at e;subst e;go_wp2_with fail;go_quiet (fail);go_wp2;go_ret;exact⟨rfl,E9 g _⟩
     |false =>rw[h] at e;subst e;go_wp2_with fail;go_quiet (fail);go_wp2;go_ret;exact⟨rfl,E9 g _⟩
    ·obtain rfl:r=ZA:=by rw[i.out];simp[cW,h2]
     have s:decide (at_<(p:Int))=ZA:=by simpa using h2
     go_wp2_with fail;go_quiet (fail);go_wp2;go_ret;exact⟨rfl,E9 g _⟩
   ·obtain rfl:r=ZA:=by rw[i.out];simp[cW,h1]
    have s:decide (0<=at_)=ZA:=by simpa using h1
    go_wp2_with fail;go_quiet (fail);go_wp2;go_ret;exact⟨rfl,E9 g _⟩
theorem jJ {f:Nat->aj}{p:Nat}{x:aj}{k m:Nat}(hk:k<m)(h:bP f p x (k+1)=ZA):bP f p x m=ZA:=by
 induction m with
 |zero=>omega
 |succ j b =>
  by_cases e:k=j;{subst e;exact h};{rw[bP,b (by omega)];rfl}
theorem oT (b off n cap p:Nat)(f:Nat->aj)(w:M)(hp:p<n)(G:RowDeed w b off n f)(hcap:(p:Int)<=cap):Calls Pg 252 #[ZG #[Y (T (N b off Z)) n cap],Q I (p:Int)] w λe P=>e=ZD (ZC (decide ((f p).l<=200) && bP f p (f p) (f p).l))/\Below (A (B w)) w P:=by
 have o:=ae ((BS w).alloc ly (J #[Y (T (N b off Z)) n cap] 37));have HF:=ae G;obtain⟨_,_,_,_,_,⟨a1,cap1,ZM,r1⟩⟩:=G.2 p hp;have hb:=G.1;have k0:(z w (J #[Y (T (N b off Z)) n cap] 37)).cell? (N (A (B w)) 0 Z)=T (Y (T (N b off Z)) n cap):=by simp
 have p5:=(o.cell (p:=(N b (off+p*6+5) Z)) hb).trans ZM;have O:=ae r1;have ZS:A (B w)<(z w (J #[Y (T (N b off Z)) n cap] 37)).heap.size:=by simp
 clear r1 ZM G;obtain⟨m,hm⟩:∃m,m=(f p).l:=⟨_,rfl⟩
 obtain⟨L,hL⟩:∃L,L=(f p).u:=⟨_,rfl⟩
 rw[<-hm] at p5 O ⊢;rw[<-hL] at O;have HM:=ae hm;have ex:=ae hL;clear hm hL;by_cases hbig:(200:Int)<(m:Int)
 ·obtain⟨r,V⟩:∃r,r=(decide (m<=200) && bP f p (f p) m):=⟨_,rfl⟩
  rw[<-V];obtain rfl:r=ZA:=by rw[V];simp;omega
  clear V;go_enter func252,ntmps252;go_wp2;go_ret;exact⟨rfl,o⟩
 have hd:decide (m<=200)=ZF:=by simp;omega
 rw[hd,ND];clear hd;go_enter func252,ntmps252;go_wp2;generalize World.alloc w _=W at o k0 ZS ⊢;clear p5;go_loopw [19] (λi wr=>∃k:Nat,k<=m/\i=Q I k/\Hid (bP f p (f p) k=ZF)/\Hid (Below (A (B W)) W wr)) (λi _=>m - (intOf i).toNat);case atStart=>exact⟨0,by omega,rfl,rfl,cM _ _⟩
 case round =>
  obtain⟨k,hk,rfl,ZJ,s⟩:=hrel;by_cases x:k<m
  ·obtain⟨lb,lo,rfl,aq,u⟩:=O.resolve_left (by omega);have hx:=(u k x).aa (o.trans (s.mono o.size)) aq;obtain⟨l,ZL⟩:∃l,l=L k:=⟨_,rfl⟩
   rw[<-ZL] at hx;have bt:=ae ZL;obtain⟨d0,d1,d2,d3⟩:=hx;clear ZL u;have HS:Hid (bP f p (f p) (k+1)=dU f p l):=by show(bP f p (f p) k && dU f p ((f p).u k))=_;rw[ZJ.out,ND,<-ex.out,<-bt.out]
   have t:=ae ((o.trans (s.mono o.size)).alloc (by have:=o.size;have:=s.size;omega) (J #[U l.e,ZC l.ask,ZC l.has,Q I l.G] 91));have ZR:=ae ((s).alloc s.size (J #[U l.e,ZC l.ask,ZC l.has,Q I l.G] 91));have ZP:(z wr (J #[U l.e,ZC l.ask,ZC l.has,Q I l.G] 91)).cell? (N (A (B wr)) 0 Z)=T (U l.e):=by simp
   have E:(z wr (J #[U l.e,ZC l.ask,ZC l.has,Q I l.G] 91)).cell? (N (A (B wr)) 1 Z)=T (ZC l.ask):=by simp
   have ZO:(z wr (J #[U l.e,ZC l.ask,ZC l.has,Q I l.G] 91)).cell? (N (A (B wr)) 2 Z)=T (ZC l.has):=by simp
   have H:(z wr (J #[U l.e,ZC l.ask,ZC l.has,Q I l.G] 91)).cell? (N (A (B wr)) 3 Z)=T (Q I l.G):=by simp
   have hX:A (B wr)<(z wr (J #[U l.e,ZC l.ask,ZC l.has,Q I l.G] 91)).heap.size:=by simp
   have ZI:=(ZR.cell (p:=(N (A (B w)) 0 Z)) ZS).trans k0;have D:A (B w)<(z wr (J #[U l.e,ZC l.ask,ZC l.has,Q I l.G] 91)).heap.size:=lj ZS ZR.size;have S:=ae (HF.aa t ly);go_upto_region 7 with fail;clear d0 d1 d2 d3;generalize World.alloc wr _=K at t ZR ZP E ZO H hX ZI D S ⊢;generalize (A (B wr))=X at ZP E ZO H hX ⊢;have hp0:0<=(p:Int):=by omega
   have hpn:(p:Int)<=n:=by omega
   have ZQ:p<=n:=by omega
   have hcap':p<=cap:=by omega
   cases hnm:aA l.e with
   |false =>
    have hq:∀w,Calls Pg 109 #[U l.e] w λe P=>e=ZD (ZC ZA)/\P=w:=λw=>by rw[<-hnm];exact tR l.e w
    go_quiet ((go_at_call 109;exact Calls.quiet_of_same (hq _)));have hN:dU f p l=ZA:=by rw[dl,hnm];rfl
    have C:=ae (HS.trans hN);have y:=ae x;have G1:=ae (E9 t nq);clear hN;go_wp2;go_ret;exact⟨A9 (λZT=>Ending.returned (ZC ZT)) (jJ y C).symm,G1⟩
   |true =>
    cases hla:cW f p l with
    |true =>
     go_region_with (first
      |(go_at_call 109;refine(eh _ _).mono ?_;rintro e ZN ⟨j,g⟩;rw[hnm] at j;subst j;have h:Hid (Below (A (B K)) K ZN):=⟨g.os,g.tape,g.output,g.size,g.block⟩;have f0:=(h.cell (p:=(N X 0 Z)) hX).trans ZP;have f1:=(h.cell (p:=(N X 1 Z)) hX).trans E;have f2:=(h.cell (p:=(N X 2 Z)) hX).trans ZO;have f3:=(h.cell (p:=(N X 3 Z)) hX).trans H;have k2:=(h.cell (p:=(N (A (B w)) 0 Z)) D).trans ZI;have R:=ae (S.aa h ly);clear g)
      |(go_at_call 284;refine(kF b off n p cap f l _ ZQ R).mono ?_;rintro e w2 ⟨j,q⟩;rw[hla] at j;subst j;have ZK:=ae (h.trans (q.mono h.size));clear q))
     all_goals
      have C:Hid (bP f p (f p) (k+1)=ZF):=HS.trans (by rw[dl,hnm,hla];rfl);have G2:=ae (ZR.trans (ZK.mono ZR.size));go_wp2;exact⟨⟨k+1,by omega,by go_num,C,G2⟩,by simp[intOf];omega⟩
    |false =>
     go_region_with (first
      |(go_at_call 109;refine(eh _ _).mono ?_;rintro e ZN ⟨j,g⟩;rw[hnm] at j;subst j;have h:Hid (Below (A (B K)) K ZN):=⟨g.os,g.tape,g.output,g.size,g.block⟩;have f0:=(h.cell (p:=(N X 0 Z)) hX).trans ZP;have f1:=(h.cell (p:=(N X 1 Z)) hX).trans E;have f2:=(h.cell (p:=(N X 2 Z)) hX).trans ZO;have f3:=(h.cell (p:=(N X 3 Z)) hX).trans H;have k2:=(h.cell (p:=(N (A (B w)) 0 Z)) D).trans ZI;have R:=ae (S.aa h ly);clear g)
      |(go_at_call 284;refine(kF b off n p cap f l _ ZQ R).mono ?_;rintro e w2 ⟨j,q⟩;rw[hla] at j;subst j;have ZK:=ae (h.trans (q.mono h.size));clear q))
     all_goals
      have C:Hid (bP f p (f p) (k+1)=ZA):=HS.trans (by rw[dl,hnm,hla];rfl);have y:=ae x;have G2:=ae (t.trans (ZK.mono (by have:=t.size;omega)));go_wp2;go_ret;exact⟨A9 (λZT=>Ending.returned (ZC ZT)) (jJ y C).symm,G2⟩
  ·have e:m=k:=by omega
   subst e;go_wp2;go_ret;exact⟨by rw[HM.out] at ZJ;rw[HM.out];exact A9 (λZT=>Ending.returned (ZC ZT)) ZJ.symm,o.trans (s.mono o.size)⟩
structure SixB (w:M)(b:Nat)(v0 v1 v2 v3 v4 v5:ZB):Prop where
 lt:b<A (B w)
 c0:w.cell? (N b 0 Z)=T v0
 c1:w.cell? (N b 1 Z)=T v1
 c2:w.cell? (N b 2 Z)=T v2
 c3:w.cell? (N b 3 Z)=T v3
 c4:w.cell? (N b 4 Z)=T v4
 c5:w.cell? (N b 5 Z)=T v5
theorem SixB.aa {w j:M}{b:Nat}{i g m f l n:ZB}(h:SixB w b i g m f l n)(hb:Below (A (B w)) w j):SixB j b i g m f l n :=
 ⟨lj h.lt hb.size,(hb.cell (p:=(N b 0 Z)) h.lt).trans h.c0,(hb.cell (p:=(N b 1 Z)) h.lt).trans h.c1,(hb.cell (p:=(N b 2 Z)) h.lt).trans h.c2,(hb.cell (p:=(N b 3 Z)) h.lt).trans h.c3,(hb.cell (p:=(N b 4 Z)) h.lt).trans h.c4,(hb.cell (p:=(N b 5 Z)) h.lt).trans h.c5⟩
theorem jK (w:M)(f h i b g j:ZB)(t:TypeId):SixB (z w (J #[f,h,i,b,g,j] t)) (A (B w)) f h i b g j:=⟨by simp,by simp,by simp,by simp,by simp,by simp,by simp⟩
theorem jL (t:ByteArray):t.toList.isEmpty=decide (t.size=0):=by rw[JO];obtain⟨⟨l⟩⟩:=t;cases l<;>simp[ByteArray.size]
theorem xL {a b:Bool}(h:a=b):Ending.returned (ZC a)=Ending.returned (ZC b):=by rw[h]
theorem qF (b off n cap p:Nat)(f:Nat->aj)(w:M)(V:p<n)(G:RowDeed w b off n f)(L:(p:Int)<=cap)(y:(f p).m<=1048576)(ZK:Tab w):Calls Pg 205 #[ZG #[Y (T (N b off Z)) n cap],Q I (p:Int)] w λe w'=>e=ZD (ZC (bc f p))/\Below (A (B w)) w w':=by
 have HF:=ae G;have S:=ae ZK;have hb:=G.1;obtain⟨ZN,ZJ,ZM,ZI,⟨a0,m,P,ZO⟩,⟨a1,o,R,q5⟩⟩:=G.2 p V;obtain⟨r,ZP⟩:∃r,r=bc f p:=⟨_,rfl⟩
 rw[<-ZP];have D:=ae ZP;obtain⟨x,ZQ⟩:∃x,x=f p:=⟨_,rfl⟩
 rw[<-ZQ] at ZN ZJ ZM ZI P R ZO y;have H:=ae ZQ;have Q4:=ae ZO;clear ZP ZQ ZO q5 G ZK;obtain⟨W,ZR⟩:∃W:M,(z w (J #[Y (T (N b off Z)) n cap] 37)).alloc (J #[U x.e,Q I x.H,Q I x.E,U x.y,Y a0 x.m m,Y a1 x.l o] 46)=W:=⟨_,rfl⟩
 obtain⟨s,-,-,-⟩:=nb2 ZR;have u:=ae ZR;clear ZR;have ZS:=ae (jK (z w (J #[Y (T (N b off Z)) n cap] 37)) (U x.e) (Q I x.H) (Q I x.E) (U x.y) (Y a0 x.m m) (Y a1 x.l o) 46);have hz:(z w (J #[Y (T (N b off Z)) n cap] 37)).heap.size=A (B w)+1:=by simp
 rw[hz] at ZS;have ZL:Hid (W.cell? (N (A (B w)) 0 Z)=T (Y (T (N b off Z)) n cap)):=by rw[<-u.out];show World.cell? _ _=_;simp
 clear hz;go_enter func205,ntmps205;go_wp2_with fail;rw[u.out] at ZS ⊢;clear u;clear ZN ZJ ZM ZI P R;cases hnm:aA x.e with
 |false =>
  refine(eh x.e _).mono ?_;rintro e w1 ⟨h,g⟩;rw[hnm] at h;subst h;have j:=ae (s.trans (g.mono s.size));obtain rfl:r=ZA:=by rw[D.out];unfold bc;rw[<-H.out,hnm];rfl
  clear g;go_wp2;go_ret;exact⟨rfl,j⟩
 |true =>
 refine(eh x.e _).mono ?_;rintro e w1 ⟨h,g⟩;rw[hnm] at h;subst h;have j:=ae (s.trans (g.mono s.size));have l:=ae (ZS.aa g);have K1:=ae ((g.cell (p:=(N (A (B w)) 0 Z)) (P7 ZS.lt)).trans ZL);have c1:=l.c1;have c2:=l.c2;have c3:=l.c3;clear g s ZS ZL;by_cases hbig:(2000:Int)<(x.y.size:Int)
 ·obtain rfl:r=ZA:=by rw[D.out];unfold bc;rw[<-H.out,hnm];simp;omega
  go_wp2;go_ret;exact⟨rfl,j⟩
 have E:Hid (r=kindOk f p x):=by show r=_;rw[D.out];unfold bc;rw[<-H.out,hnm,show decide (x.y.size<=2000)=ZF by simp;omega];rfl
 clear D;cases h1:(x.H == 1) with
 |true =>
  have t:x.H=1:=by simpa using h1
  have i:Hid (aN x=r):=(E.trans (by unfold kindOk;rw[nL t])).symm;clear t;have c0:=l.c0;have c4:=l.c4;have c5:=l.c5;go_wp2_with fail;refine(nN x a0 m a1 o _).mono ?_;rintro e K ⟨rfl,g⟩;have q:=ae (j.trans (g.mono j.size));clear g;go_wp2;go_ret;exact⟨xL i,q⟩
 |false =>
 cases h2:(x.H == 2) with
 |true =>
  have t:x.H=2:=by simpa using h2
  have i:Hid (r=(aN x && decide (x.y.size=0))):=E.trans (by unfold kindOk;rw[eT (by omega),nL t]);clear t;have c0:=l.c0;have c4:=l.c4;have c5:=l.c5;go_wp2_with fail;refine(nN x a0 m a1 o _).mono ?_;rintro e K ⟨h,g⟩;have q:=ae (j.trans (g.mono j.size));have d3:=(l.aa g).c3;clear g;cases hu:aN x with
  |false =>
   rw[hu] at h;subst h;obtain rfl:r=ZA:=by rw[i.out,hu];rfl
   go_wp2;go_ret;exact⟨rfl,q⟩
  |true =>
   rw[hu] at h;subst h;have ZT:Hid (decide (x.y.size=0)=r):=by show _=r;rw[i.out,hu];rfl
   go_wp2;go_ret;exact⟨bq (by rw[jL];exact ZT),q⟩
 |false =>
 cases h3:(x.H == 3) with
 |false =>
  obtain rfl:r=ZA:=by rw[E.out];unfold kindOk;simp at h1 h2 h3;rw[eT h1,eT h2,eT h3]
  go_wp2;go_ret;exact⟨rfl,j⟩
 |true =>
 have i:Hid (r=bV f p x):=E.trans (by unfold kindOk;simp at h1 h2 h3;rw[eT h1,eT h2,nL h3]);by_cases O:0<=x.E
 ·by_cases X:x.E<=5
  ·have c4:=l.c4;go_wp2_with fail;refine(kL a0 x.m m x.D _ y (Q4.aa j ly) (S.aa j S.1)).mono ?_;rintro e K ⟨h,g⟩;have q:=ae (j.trans (g.mono j.size));have K2:=(g.cell (p:=(N (A (B w)) 0 Z)) (P7 l.lt)).trans K1;clear g;cases hv:valid x.D x.m with
   |false =>
    rw[hv] at h;subst h;obtain rfl:r=ZA:=by rw[i.out];simp[bV,hv]
    go_wp2;go_ret;exact⟨rfl,q⟩
   |true =>
    rw[hv] at h;subst h;have ZT:Hid ((decide (x.l<=200) && bP f p x x.l)=r):=by show _=r;rw[i.out];simp[bV,hv,O,X]
    have C:=ae (oT b off n cap p f K V (HF.aa q ly) L);rw[<-H.out] at C;rw[ZT.out] at C;go_wp2_with fail;refine C.mono ?_;rintro e w3 ⟨rfl,g⟩;have B3:=ae (q.trans (g.mono q.size));clear g;go_wp2;go_ret;exact⟨rfl,B3⟩
  ·obtain rfl:r=ZA:=by rw[i.out];simp[bV,X]
   go_wp2;go_ret;exact⟨rfl,j⟩
 ·obtain rfl:r=ZA:=by rw[i.out];simp[bV,O]
  go_wp2;go_ret;exact⟨rfl,j⟩
theorem qG (b off n cap:Nat)(f:Nat->aj)(w:M)(hn:(n:Int)<=400)(C:RowDeed w b off n f)(hcap:(n:Int)<=cap)(l:∀i,i<n->dQ (f i))(ZT:Tab w):Calls Pg 148 #[ZG #[Y (T (N b off Z)) n cap]] w λe K=>e=ZD (Q I (aK (bc f) n))/\Below (A (B w)) w K:=by
 have ZO:=ae C;have D:=ae ZT;have ZP:=ae l;clear C ZT l;obtain⟨W,m⟩:∃W:M,z w (J #[Y (T (N b off Z)) n cap] 37)=W:=⟨_,rfl⟩
 obtain⟨ZS,-,-⟩:=nb1 m;have g:=ae m;clear m;have G:W.cell? (N (A (B w)) 0 Z)=T (Y (T (N b off Z)) n cap):=by rw[<-g.out];simp
 have E:A (B w)<A (B W):=by rw[<-g.out];simp
 obtain⟨r,t⟩:∃r,r=aK (bc f) n:=⟨_,rfl⟩
 rw[<-t];have y:=ae t;clear t;go_enter func148,ntmps148;go_wp2;rw[g.out];clear g;go_loopw [7] (λi wr=>∃k:Nat,k<=n/\i=Q I k/\Hid (∀j,j<k->bc f j=ZF)/\Hid (Below (A (B W)) W wr)) (λi _=>n - (intOf i).toNat);case atStart=>exact⟨0,by omega,rfl,λj ZR=>absurd ZR (JI _),cM _ _⟩
 case round =>
  obtain⟨k,hk,rfl,u,q⟩:=hrel;have k1:=(q.cell (p:=(N (A (B w)) 0 Z)) E).trans G;have o:=ae (ZS.trans (q.mono ZS.size));by_cases h:k<n
  ·go_wp2_with fail;refine(qF b off n cap k f _ h (ZO.aa o ly) (by omega) (ZP k h).1 (D.aa o D.1)).mono ?_;rintro e w2 ⟨s,x⟩;have ZQ:=ae (o.trans (x.mono o.size));have H:=ae (q.trans (x.mono q.size));clear x;cases hd:bc f k with
   |true =>
    rw[hd] at s;subst s;have L:=ae hd;clear hd;go_wp2
    exact⟨⟨k+1,by omega,by go_num,λj ZR=>by
     by_cases e:j=k;{subst e;exact L}
     ·exact u j (by omega),H⟩,by simp[intOf];omega⟩
   |false =>
    rw[hd] at s;subst s;obtain rfl:r=k:=by rw[y.out];exact eW h hd u
    clear hd;go_wp2;go_ret;exact⟨rfl,ZQ⟩
  ·have e:n=k:=by omega
   subst e;obtain rfl:r=-1:=by rw[y.out];exact eF u
   go_wp2;go_ret;exact⟨rfl,o⟩
theorem rm (x:aj)(a0:Option Addr)(g:Nat)(a1:Option Addr)(h:Nat)(w:M):Calls Pg 209 #[Cq x a0 g a1 h] w λe l=>e=ZD (ZC (decide (x.y.size<=2000) && aN x))/\Below (A (B w)) w l:=by
 have b:=ae ((BS w).alloc ly (J #[U x.e,Q I x.H,Q I x.E,U x.y,Y a0 x.m g,Y a1 x.l h] 46));obtain⟨r,i⟩:∃r,r=(decide (x.y.size<=2000) && aN x):=⟨_,rfl⟩
 rw[<-i];have f:=ae i;clear i;go_enter func209,ntmps209;cases h1:(x.E == 0) with
 |false =>
  obtain rfl:r=ZA:=by rw[f.out];simp at h1;simp[aN,h1]
  go_wp2;go_ret;exact⟨rfl,b⟩
 |true =>
  by_cases h4:(x.y.size:Int)<=2000
  ·have j:decide (x.y.size<=2000)=ZF:=by simp;omega
   cases h2:((x.m:Int) == 0) with
   |false =>
    obtain rfl:r=ZA:=by rw[f.out];simp at h2;simp[aN];omega
    go_wp2;go_ret;exact⟨rfl,b⟩
   |true =>
    cases h3:((x.l:Int) == 0) with
    |false =>
     obtain rfl:r=ZA:=by rw[f.out];simp at h3;simp[aN];omega
     go_wp2;go_ret;exact⟨rfl,b⟩
    |true =>
     obtain rfl:r=ZF:=by rw[f.out,j];simp at h1 h2 h3;simp[aN,h1,h2,h3]
     go_wp2;go_ret;exact⟨rfl,b⟩
  ·obtain rfl:r=ZA:=by rw[f.out];simp;omega
   go_wp2;go_ret;exact⟨rfl,b⟩
theorem oU (b off n cap p:Nat)(f:Nat->aj)(w:M)(hp:p<n)(O:RowDeed w b off n f)(L:(f p).m<=1048576)(H:∀j,j<(f p).m->((f p).D j).s.size<=maxLen):Calls Pg 210 #[ZG #[Y (T (N b off Z)) n cap],Q I (p:Int)] w λe w'=>e=ZD (ZC (decide ((f p).y.size<=2000) && bV f p (f p)))/\Below (A (B w)) w w':=by
 have HF:=ae O;have hb:=O.1;obtain⟨p0,p1,p2,p3,⟨a0,t,p4,q4⟩,⟨a1,ZR,p5,q5⟩⟩:=O.2 p hp;obtain⟨x,hx⟩:∃x,x=f p:=⟨_,rfl⟩
 rw[<-hx] at p0 p1 p2 p3 p4 p5 q4 q5 L H ⊢;have HX:=ae hx;have Q4:=ae q4;have Q5:=ae q5;have HZ:=ae H;clear hx q4 q5 O H;have ZT:=ae (((BS w).alloc ly (J #[Y (T (N b off Z)) n cap] 37)).alloc (by simp) (J #[U x.e,Q I x.H,Q I x.E,U x.y,Y a0 x.m t,Y a1 x.l ZR] 46));have u:=ae (jK (z w (J #[Y (T (N b off Z)) n cap] 37)) (U x.e) (Q I x.H) (Q I x.E) (U x.y) (Y a0 x.m t) (Y a1 x.l ZR) 46);have hz:(z w (J #[Y (T (N b off Z)) n cap] 37)).heap.size=A (B w)+1:=by simp
 rw[hz] at u;have K0:Hid (((z w (J #[Y (T (N b off Z)) n cap] 37)).alloc (J #[U x.e,Q I x.H,Q I x.E,U x.y,Y a0 x.m t,Y a1 x.l ZR] 46)).cell? (N (A (B w)) 0 Z)=T (Y (T (N b off Z)) n cap)):=by show World.cell? _ _=_;simp
 clear hz;obtain⟨r,E⟩:∃r,r=(decide (x.y.size<=2000) && bV f p x):=⟨_,rfl⟩
 rw[<-E];have D:=ae E;clear E;have c2:=u.c2;have c3:=u.c3;have c4:=u.c4;have c5:=u.c5;by_cases g1:0<=x.E;case neg =>
  obtain rfl:r=ZA:=by rw[D.out];simp[bV,g1]
  go_enter func210,TZ;go_wp2;go_ret;exact⟨rfl,ZT⟩
 by_cases g2:x.E<=5;case neg =>
  obtain rfl:r=ZA:=by rw[D.out];simp[bV,g2]
  go_enter func210,TZ;go_wp2;go_ret;exact⟨rfl,ZT⟩
 by_cases g3:(x.y.size:Int)<=2000;case neg =>
  obtain rfl:r=ZA:=by rw[D.out];simp;omega
  go_enter func210,TZ;go_wp2;go_ret;exact⟨rfl,ZT⟩
 have aq:decide (x.y.size<=2000)=ZF:=by simp;omega
 go_enter func210,TZ;go_wp2_with fail;generalize World.alloc (World.alloc w _) _=W at ZT u K0 ⊢;clear p0 p1 p2 p3 p4 p5;refine(iH a0 x.m t x.D _ L (Q4.aa ZT ly) HZ).mono ?_;rintro e w1 ⟨y,g⟩;have ZQ:=ae (ZT.trans (g.mono ZT.size));have S1:=ae (u.aa g);have K1:=ae ((g.cell (p:=(N (A (B w)) 0 Z)) (P7 u.lt)).trans K0);clear g ZT u K0 c2 c3 c4 c5;have c5:=S1.c5;cases hv:valid x.D x.m with
 |false =>
  rw[hv] at y;subst y;obtain rfl:r=ZA:=by rw[D.out];simp[bV,hv]
  go_wp2;go_ret;exact⟨rfl,ZQ⟩
 |true =>
 rw[hv] at y;subst y;have ZP:Hid (r=(decide (x.l<=200) && bP f p x x.l)):=by show r=_;rw[D.out,aq];simp[bV,hv,g1,g2]
 clear D aq hv;by_cases hbig:(200:Int)<(x.l:Int)
 ·obtain rfl:r=ZA:=by rw[ZP.out];simp;omega
  go_wp2;go_ret;exact⟨rfl,ZQ⟩
 have ZI:Hid (r=bP f p x x.l):=by show r=_;rw[ZP.out,show decide (x.l<=200)=ZF by simp;omega];rfl
 clear ZP;go_wp2;have ex:A (B w)+1<A (B w1):=S1.lt;go_loopw [6] (λi wr=>∃k:Nat,k<=x.l/\i=Q I k/\Hid (bP f p x k=ZF)/\Hid (Below (A (B w1)) w1 wr)) (λi _=>x.l - (intOf i).toNat);case atStart=>exact⟨0,by omega,rfl,rfl,cM _ _⟩
 case round =>
  obtain⟨k,hk,rfl,HK,ZL⟩:=hrel;have e5:=(ZL.cell (p:=(N (A (B w)+1) 5 Z)) ex).trans c5;have S:=ae (ZQ.trans (ZL.mono ZQ.size));by_cases K:k<x.l
  ·obtain⟨lb,lo,rfl,ZO⟩:=(Q5.aa S ly).resolve_left (by omega);have bt:=ZO.2 k K;obtain⟨l,hl⟩:∃l,l=x.u k:=⟨_,rfl⟩
   rw[<-hl] at bt;obtain⟨d0,d1,d2,d3⟩:=bt;have HS:Hid (bP f p x (k+1)=dU f p l):=by show(bP f p x k && dU f p (x.u k))=_;rw[HK.out,ND,<-hl]
   clear hl ZO;have ZN:=ae (S.alloc S.size (J #[U l.e,ZC l.ask,ZC l.has,Q I l.G] 91));have G:=ae (ZL.alloc ZL.size (J #[U l.e,ZC l.ask,ZC l.has,Q I l.G] 91));have R:(z wr (J #[U l.e,ZC l.ask,ZC l.has,Q I l.G] 91)).cell? (N (A (B wr)) 0 Z)=T (U l.e):=by simp
   have ZM:(z wr (J #[U l.e,ZC l.ask,ZC l.has,Q I l.G] 91)).cell? (N (A (B wr)) 1 Z)=T (ZC l.ask):=by simp
   have ZK:(z wr (J #[U l.e,ZC l.ask,ZC l.has,Q I l.G] 91)).cell? (N (A (B wr)) 2 Z)=T (ZC l.has):=by simp
   have P:(z wr (J #[U l.e,ZC l.ask,ZC l.has,Q I l.G] 91)).cell? (N (A (B wr)) 3 Z)=T (Q I l.G):=by simp
   have o:A (B wr)<(z wr (J #[U l.e,ZC l.ask,ZC l.has,Q I l.G] 91)).heap.size:=by simp
   have kA:=(G.cell (p:=(N (A (B w)) 0 Z)) (by show (A (B w))<_;omega)).trans K1;have V:A (B w)<(z wr (J #[U l.e,ZC l.ask,ZC l.has,Q I l.G] 91)).heap.size:=by have:=G.size;omega
   go_wp2_with fail;clear d0 d1 d2 d3 e5;generalize World.alloc wr _=W1 at ZN G R ZM ZK P o kA V ⊢;generalize (A (B wr))=X at R ZM ZK P o ⊢;refine(cH l.e _).mono ?_;rintro e w2 ⟨y,g⟩;have C:=ae (ZN.trans (g.mono ZN.size));have C2:=ae (G.trans (g.mono G.size));have f0:=(g.cell (p:=(N X 0 Z)) o).trans R;have f1:=(g.cell (p:=(N X 1 Z)) o).trans ZM;have f2:=(g.cell (p:=(N X 2 Z)) o).trans ZK;have f3:=(g.cell (p:=(N X 3 Z)) o).trans P;have kB:=(g.cell (p:=(N (A (B w)) 0 Z)) V).trans kA;have FR:=ae (HF.aa C ly);clear g R ZM ZK P kA ZN G;have HLT:=ae K;have no:dU f p l=ZA->r=ZA:=λh=>by rw[ZI.out];exact jJ K (HS.trans h)
   have m:=ae no;clear no;cases hnm:aA l.e with
   |false =>rw[hnm] at y;subst y;obtain rfl:r=ZA:=m.out (by rw[dl,hnm];rfl);go_wp2;go_ret;exact⟨rfl,C⟩
   |true =>
   rw[hnm] at y;subst y;cases hask:l.ask with
   |false =>
    rw[hask] at f1;cases h1:(l.G == 0) with
    |false =>obtain rfl:r=ZA:=m.out (by simp at h1;rw[dl,hnm];simp[cW,hask,h1]);go_wp2;go_ret;exact⟨rfl,C⟩
    |true =>have HN:Hid (bP f p x (k+1)=ZF):=HS.trans (by simp at h1;rw[dl,hnm];simp[cW,hask,h1]);go_wp2_with fail;go_quiet (fail);have C3:=ae (E9 C2 nq);go_wp2;exact⟨⟨k+1,by omega,by go_num,HN,C3⟩,by simp[intOf];omega⟩
   |true =>
    rw[hask] at f1;cases hhas:l.has with
    |true =>rw[hhas] at f2;obtain rfl:r=ZA:=m.out (by rw[dl,hnm];simp[cW,hask,hhas]);go_wp2_with fail;go_quiet (fail);have ZS:=ae (E9 C nq);go_wp2;go_ret;exact⟨rfl,ZS⟩
    |false =>
     rw[hhas] at f2;by_cases g4:0<=l.G
     ·by_cases g5:l.G<(p:Int)
      ·obtain⟨q,hq⟩:∃q:Nat,l.G=(q:Int):=⟨l.G.toNat,by omega⟩
       rw[hq] at f3 g5;have fd:q<n:=by omega
       have d0:=(FR.2 q fd).1;have h5:decide ((p:Int)<=(q:Int))=ZA:=by simp;omega
       have h5n:decide (p<=q)=ZA:=by simp;omega
       have h6:decide ((q:Int)<0)=ZA:=by simp
       have hq0:(0:Int)<=q:=by omega
       have hqn':(q:Int)<n:=by omega
       have ZJ:Hid (cW f p l=((f q).e.toList == l.e.toList)):=by show cW f p l=_;simp[cW,hask,hhas,hq,g5]
       cases E:((f q).e.toList == l.e.toList) with
       |true =>have HN:Hid (bP f p x (k+1)=ZF):=HS.trans (by rw[dl,hnm,ZJ.out,E];rfl);go_wp2_with fail;go_quiet (fail);have C3:=ae (E9 C2 nq);go_wp2;exact⟨⟨k+1,by omega,by go_num,HN,C3⟩,by simp[intOf];omega⟩
       |false =>obtain rfl:r=ZA:=m.out (by rw[dl,hnm,ZJ.out,E];rfl);go_wp2_with fail;go_quiet (fail);have ZS:=ae (E9 C nq);go_wp2;go_ret;exact⟨rfl,ZS⟩
      ·obtain rfl:r=ZA:=m.out (by rw[dl,hnm];simp[cW,hask,g5]);have h5:(p:Int)<=l.G:=by omega
       have h6:decide (l.G<0)=ZA:=by simpa using g4
       go_wp2_with fail;go_quiet (fail);have ZS:=ae (E9 C nq);go_wp2;go_ret;exact⟨rfl,ZS⟩
     ·obtain rfl:r=ZA:=m.out (by rw[dl,hnm];simp[cW,hask,g4]);have h6:l.G<0:=by omega
      go_wp2_with fail;go_quiet (fail);have ZS:=ae (E9 C nq);go_wp2;go_ret;exact⟨rfl,ZS⟩
  ·have e:x.l=k:=by omega
   obtain rfl:r=ZF:=by rw[ZI.out,e];exact HK
   have h5:((k:Int)<(x.l:Int))=False:=by simp;omega
   go_wp2;go_ret;exact⟨rfl,S⟩
theorem rp (b off n cap p:Nat)(f:Nat->aj)(w:M)(V:p<n)(G:RowDeed w b off n f)(q:(f p).m<=1048576)(ZT:∀j,j<(f p).m->((f p).D j).s.size<=maxLen):Calls Pg 155 #[ZG #[Y (T (N b off Z)) n cap],Q I (p:Int)] w λe D=>e=ZD (ZC (bc f p))/\Below (A (B w)) w D:=by
 have ZS:=ae (λD (hb:Below (A (B w)) w D)=>oU b off n cap p f D V (G.aa hb ly) q ZT);obtain⟨r,ZP⟩:∃r,r=bc f p:=⟨_,rfl⟩
 rw[<-ZP];have ZO:=ae ZP;clear ZP;have hb:=G.1;obtain⟨S,P,ZN,X,⟨a0,m,R,ZM⟩,⟨a1,o,ZL,ZK⟩⟩:=G.2 p V;obtain⟨x,ZQ⟩:∃x,x=f p:=⟨_,rfl⟩
 rw[<-ZQ] at S P ZN X R ZL ZM ZK q ZT ZS;have O:=ae ZQ;clear ZQ ZM ZK G ZT q;have E:=ae (((BS w).alloc ly (J #[Y (T (N b off Z)) n cap] 37)).alloc (by simp) (J #[U x.e,Q I x.H,Q I x.E,U x.y,Y a0 x.m m,Y a1 x.l o] 46));have ZR:=ae (jK (z w (J #[Y (T (N b off Z)) n cap] 37)) (U x.e) (Q I x.H) (Q I x.E) (U x.y) (Y a0 x.m m) (Y a1 x.l o) 46);have hz:(z w (J #[Y (T (N b off Z)) n cap] 37)).heap.size=A (B w)+1:=by simp
 rw[hz] at ZR;have L:Hid (((z w (J #[Y (T (N b off Z)) n cap] 37)).alloc (J #[U x.e,Q I x.H,Q I x.E,U x.y,Y a0 x.m m,Y a1 x.l o] 46)).cell? (N (A (B w)) 0 Z)=T (Y (T (N b off Z)) n cap)):=by show World.cell? _ _=_;simp
 clear hz;go_enter func155,ntmps155;go_wp2_with fail;generalize World.alloc (World.alloc w _) _=W at E ZR L ⊢;clear S P ZN X R ZL;refine(cH x.e _).mono ?_;rintro e ZJ ⟨C,l⟩;have i:=ae (E.trans (l.mono E.size));have u:=ae (ZR.aa l);have ZI:=ae ((l.cell (p:=(N (A (B w)) 0 Z)) (P7 ZR.lt)).trans L);clear l E ZR L;cases hnm:aA x.e with
 |false =>
  rw[hnm] at C;subst C;obtain rfl:r=ZA:=by rw[ZO.out];unfold bc;rw[<-O.out,hnm];rfl
  go_wp2;go_ret;exact⟨rfl,i⟩
 |true =>
 rw[hnm] at C;subst C;have t:Hid (r=(decide (x.y.size<=2000) && kindOk f p x)):=by show r=_;rw[ZO.out];unfold bc;rw[<-O.out,hnm];rfl
 clear ZO;have c0:=u.c0;have c1:=u.c1;have c2:=u.c2;have c3:=u.c3;have c4:=u.c4;have c5:=u.c5;cases h1:(x.H == 1) with
 |true =>
  have y:x.H=1:=by simpa using h1
  have g:Hid ((decide (x.y.size<=2000) && aN x)=r):=(t.trans (by unfold kindOk;rw[nL y])).symm;clear y;go_wp2_with fail;refine(rm x a0 m a1 o _).mono ?_;rintro e w2 ⟨rfl,l⟩;have K:=ae (i.trans (l.mono i.size));clear l;go_wp2;go_ret;exact⟨xL g,K⟩
 |false =>
 cases h2:(x.H == 2) with
 |true =>
  have y:x.H=2:=by simpa using h2
  have g:Hid (r=(aN x && decide (x.y.size=0))):=t.trans (by
   unfold kindOk;rw[eT (by omega),nL y];by_cases h:x.y.size=0;{simp[h]}
   ·simp[h])
  clear y t;cases g1:(x.E == 0) with
  |false =>
   obtain rfl:r=ZA:=by rw[g.out];simp at g1;simp[aN,g1]
   go_wp2;go_ret;exact⟨rfl,i⟩
  |true =>
  cases g2:x.y.toList.isEmpty with
  |false =>
   obtain rfl:r=ZA:=by rw[g.out,<-jL,g2];simp
   go_wp2;go_ret;exact⟨rfl,i⟩
  |true =>
  cases g3:((x.m:Int) == 0) with
  |false =>
   obtain rfl:r=ZA:=by rw[g.out];simp at g3;simp[aN];omega
   go_wp2;go_ret;exact⟨rfl,i⟩
  |true =>
  cases g4:((x.l:Int) == 0) with
  |false =>
   obtain rfl:r=ZA:=by rw[g.out];simp at g4;simp[aN];omega
   go_wp2;go_ret;exact⟨rfl,i⟩
  |true =>
   obtain rfl:r=ZF:=by rw[g.out,<-jL,g2];simp at g1 g3 g4;simp[aN,g1,g3,g4]
   go_wp2;go_ret;exact⟨rfl,i⟩
 |false =>
 cases h3:(x.H == 3) with
 |false =>
  obtain rfl:r=ZA:=by rw[t.out];unfold kindOk;simp at h1 h2 h3;rw[eT h1,eT h2,eT h3];simp
  go_wp2;go_ret;exact⟨rfl,i⟩
 |true =>have g:Hid ((decide (x.y.size<=2000) && bV f p x)=r):=(t.trans (by unfold kindOk;simp at h1 h2 h3;rw[eT h1,eT h2,nL h3])).symm;have k1:=ZI.out;have H:=ae (ZS ZJ i);rw[g.out] at H;clear ZS t;go_wp2_with fail;refine H.mono ?_;rintro e w2 ⟨rfl,l⟩;have K:=ae (i.trans (l.mono i.size));clear l;go_wp2;go_ret;exact⟨rfl,K⟩
