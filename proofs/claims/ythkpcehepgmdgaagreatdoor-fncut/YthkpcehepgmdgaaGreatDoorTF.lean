import Derived.Test.YthkpcehepgmdgaaGreatDoorTE
import Derived.Deep.DeepCutAuto
set_option maxRecDepth 100000
set_option maxHeartbeats 4000000
open Go renaming Addr.mk->Q,Value.slice->Z,Value.string->U,Value.int->J,Value.bool->ZC,Value.agg->ZH,Obj.cells->N,IntKind.i64->I,World->G,Value->ZD,Ending.returned->ZG,World.heap->h,World.alloc->ZT,World.cell?->ZU,Proofs.Tryz.prog->Pg
open Option renaming none->Y,some->T
open Bool renaming false->ZB,true->ZF
open Array renaming size->A
namespace Go.Proofs.YthkpcehepgmdgaaGreatDoor.Vp
open Tryz RowKit
abbrev Eg (x:af)(a0:Option Addr)(f:Nat)(a1:Option Addr)(b:Nat):ZD:=ZH #[U x.e,J I x.H,J I x.E,U x.B,Z a0 x.l f,Z a1 x.f b]
abbrev GK (l:Link):ZD:=ZH #[U l.e,ZC l.ask,ZC l.has,J I l.L]
theorem oZ (x:af)(a0:Option Addr)(f:Nat)(a1:Option Addr)(b:Nat)(w:G):Calls Pg 139 #[Eg x a0 f a1 b] w λe j=>e=ZG (ZC (aP x))/\Below (A (h w)) w j:=by
 have g:=ae ((q9 w).alloc ly (N #[U x.e,J I x.H,J I x.E,U x.B,Z a0 x.l f,Z a1 x.f b] 44));obtain⟨r,i⟩:∃r,r=aP x:=⟨_,rfl⟩
 rw[<-i];have ZW:=ae i;clear i;go_enter func139,ntmps139;cases h1:(x.E == 0) with
 |false =>
  obtain rfl:r=ZB:=by rw[ZW.out];simp at h1;simp[aP,h1]
  go_wp2;go_ret;exact⟨rfl,g⟩
 |true =>
  cases h2:((x.l:Int) == 0) with
  |false =>
   obtain rfl:r=ZB:=by rw[ZW.out];simp at h2;simp[aP];omega
   go_wp2;go_ret;exact⟨rfl,g⟩
  |true =>
   cases h3:((x.f:Int) == 0) with
   |false =>
    obtain rfl:r=ZB:=by rw[ZW.out];simp at h3;simp[aP];omega
    go_wp2;go_ret;exact⟨rfl,g⟩
   |true =>
    obtain rfl:r=ZF:=by rw[ZW.out];simp at h1 h2 h3;simp[aP,h1,h2,h3]
    go_wp2;go_ret;exact⟨rfl,g⟩
def dE (f:Nat->af)(p:Nat)(l:Link):Bool:=if l.ask=ZF then !l.has && decide (0<=l.L) && decide (l.L<(p:Int)) && ((f l.L.toNat).e.toList == l.e.toList) else decide (l.L=0)
theorem dP (f:Nat->af)(p:Nat)(l:Link):dD f p l=(av l.e && dE f p l):=rfl
theorem lV (b off n p cap:Nat)(f:Nat->af)(l:Link)(w:G)(hp:p<=n)(j:RowDeed w b off n f):Calls Pg 151 #[Z (T (Q b off Y)) p cap,GK l] w λe t=>e=ZG (ZC (dE f p l))/\Below (A (h w)) w t:=by
 have g:=ae ((q9 w).alloc ly (N #[U l.e,ZC l.ask,ZC l.has,J I l.L] 68));have o:=ae (j.aa g ly);have hb:=j.1;clear j;obtain⟨r,i⟩:∃r,r=dE f p l:=⟨_,rfl⟩
 rw[<-i];have ZW:=ae i;clear i;obtain⟨nm,ask,has,at_⟩:=l;go_enter func151,ntmps151;cases ask with
 |false =>
  cases h1:(at_ == 0) with
  |true =>
   obtain rfl:r=ZF:=by rw[ZW.out];simp at h1;simp[dE,h1]
   go_wp2;go_ret;exact⟨rfl,g⟩
  |false =>
   obtain rfl:r=ZB:=by rw[ZW.out];simp at h1;simp[dE,h1]
   go_wp2;go_ret;exact⟨rfl,g⟩
 |true =>
  cases has with
  |true =>
   obtain rfl:r=ZB:=by rw[ZW.out];simp[dE]
   go_wp2_with fail;go_quiet (fail);go_wp2;go_ret;exact⟨rfl,BG g _⟩
  |false =>
   by_cases h1:0<=at_
   ·by_cases h2:at_<(p:Int)
    ·obtain⟨q,rfl⟩:∃q:Nat,at_=(q:Int):=⟨at_.toNat,by omega⟩
     have s:q<n:=by omega
     have d0:=(o.2 q s).1;have e:r=((f q).e.toList == nm.toList):=by rw[ZW.out];simp[dE,h2]
     cases i:((f q).e.toList == nm.toList) with
     |true =>rw[i] at e;subst e;go_wp2_with fail;go_quiet (fail);go_wp2;go_ret;exact⟨rfl,BG g _⟩
     |false =>rw[i] at e;subst e;go_wp2_with fail;go_quiet (fail);go_wp2;go_ret;exact⟨rfl,BG g _⟩
    ·obtain rfl:r=ZB:=by rw[ZW.out];simp[dE,h2]
     have m:decide (at_<(p:Int))=ZB:=by simpa using h2
     go_wp2_with fail;go_quiet (fail);go_wp2;go_ret;exact⟨rfl,BG g _⟩
   ·obtain rfl:r=ZB:=by rw[ZW.out];simp[dE,h1]
    have m:decide (0<=at_)=ZB:=by simpa using h1
    go_wp2_with fail;go_quiet (fail);go_wp2;go_ret;exact⟨rfl,BG g _⟩
theorem kL {f:Nat->af}{p:Nat}{x:af}{k m:Nat}(hk:k<m)(ZW:bE f p x (k+1)=ZB):bE f p x m=ZB:=by
 induction m with
 |zero=>omega
 |succ j b =>
  by_cases e:k=j;{subst e;exact ZW};{rw[bE,b (by omega)];rfl}
theorem pX (b off n cap p:Nat)(f:Nat->af)(w:G)(hp:p<n)(ZP:RowDeed w b off n f)(hcap:(p:Int)<=cap):Calls Pg 140 #[ZH #[Z (T (Q b off Y)) n cap],J I (p:Int)] w λe S=>e=ZG (ZC (decide ((f p).f<=200) && bE f p (f p) (f p).f))/\Below (A (h w)) w S:=by
 have o:=ae ((q9 w).alloc ly (N #[Z (T (Q b off Y)) n cap] 25));have HF:=ae ZP;obtain⟨_,_,_,_,_,⟨a1,cap1,M,r1⟩⟩:=ZP.2 p hp;have hb:=ZP.1;have k0:ZU (ZT w (N #[Z (T (Q b off Y)) n cap] 25)) (Q (A (h w)) 0 Y)=T (Z (T (Q b off Y)) n cap):=by simp
 have p5:=(o.cell (p:=(Q b (off+p*6+5) Y)) hb).trans M;have ZK:=ae r1;have u:A (h w)<A (h (ZT w (N #[Z (T (Q b off Y)) n cap] 25))):=by simp
 clear r1 M ZP;obtain⟨m,hm⟩:∃m,m=(f p).f:=⟨_,rfl⟩
 obtain⟨L,hL⟩:∃L,L=(f p).m:=⟨_,rfl⟩
 rw[<-hm] at p5 ZK ⊢;rw[<-hL] at ZK;have HM:=ae hm;have aq:=ae hL;clear hm hL;by_cases hbig:(200:Int)<(m:Int)
 ·obtain⟨r,hr⟩:∃r,r=(decide (m<=200) && bE f p (f p) m):=⟨_,rfl⟩
  rw[<-hr];obtain rfl:r=ZB:=by rw[hr];simp;omega
  clear hr;go_enter func140,ntmps140;go_wp2;go_ret;exact⟨rfl,o⟩
 have hd:decide (m<=200)=ZF:=by simp;omega
 rw[hd,MI];clear hd;go_enter func140,ntmps140;go_wp2;generalize World.alloc w _=W at o k0 u ⊢;clear p5;go_loopw [19] (λi wr=>∃k:Nat,k<=m/\i=J I k/\Hid (bE f p (f p) k=ZF)/\Hid (Below (A (h W)) W wr)) (λi _=>m - (intOf i).toNat);case atStart=>exact⟨0,by omega,rfl,rfl,cM _ _⟩
 case round =>
  obtain⟨k,hk,rfl,ZM,s⟩:=hrel;by_cases B:k<m
  ·obtain⟨lb,lo,rfl,ex,D⟩:=ZK.resolve_left (by omega);have hx:=(D k B).aa (o.trans (s.mono o.size)) ex;obtain⟨l,ZN⟩:∃l,l=L k:=⟨_,rfl⟩
   rw[<-ZN] at hx;have bt:=ae ZN;obtain⟨d0,d1,d2,d3⟩:=hx;clear ZN D;have R:Hid (bE f p (f p) (k+1)=dD f p l):=by show(bE f p (f p) k && dD f p ((f p).m k))=_;rw[ZM.out,MI,<-aq.out,<-bt.out]
   have ZV:=ae ((o.trans (s.mono o.size)).alloc (by have:=o.size;have:=s.size;omega) (N #[U l.e,ZC l.ask,ZC l.has,J I l.L] 68));have y:=ae ((s).alloc s.size (N #[U l.e,ZC l.ask,ZC l.has,J I l.L] 68));have E:ZU (ZT wr (N #[U l.e,ZC l.ask,ZC l.has,J I l.L] 68)) (Q (A (h wr)) 0 Y)=T (U l.e):=by simp
   have H:ZU (ZT wr (N #[U l.e,ZC l.ask,ZC l.has,J I l.L] 68)) (Q (A (h wr)) 1 Y)=T (ZC l.ask):=by simp
   have ZS:ZU (ZT wr (N #[U l.e,ZC l.ask,ZC l.has,J I l.L] 68)) (Q (A (h wr)) 2 Y)=T (ZC l.has):=by simp
   have K:ZU (ZT wr (N #[U l.e,ZC l.ask,ZC l.has,J I l.L] 68)) (Q (A (h wr)) 3 Y)=T (J I l.L):=by simp
   have hX:A (h wr)<A (h (ZT wr (N #[U l.e,ZC l.ask,ZC l.has,J I l.L] 68))):=by simp
   have P:=(y.cell (p:=(Q (A (h w)) 0 Y)) u).trans k0;have t:A (h w)<A (h (ZT wr (N #[U l.e,ZC l.ask,ZC l.has,J I l.L] 68))):=lj u y.size;have O:=ae (HF.aa ZV ly);go_upto_region 7 with fail;clear d0 d1 d2 d3;generalize World.alloc wr _=ZQ at ZV y E H ZS K hX P t O ⊢;generalize (A (h wr))=X at E H ZS K hX ⊢;have hp0:0<=(p:Int):=by omega
   have hpn:(p:Int)<=n:=by omega
   have ZO:p<=n:=by omega
   have hcap':p<=cap:=by omega
   cases hnm:av l.e with
   |false =>
    have hq:∀w,Calls Pg 123 #[U l.e] w λe S=>e=ZG (ZC ZB)/\S=w:=λw=>by rw[<-hnm];exact uY l.e w
    go_quiet ((go_at_call 123;exact Calls.quiet_of_same (hq _)));have hN:dD f p l=ZB:=by rw[dP,hnm];rfl
    have C:=ae (R.trans hN);have x:=ae B;have G1:=ae (BG ZV nq);clear hN;go_wp2;go_ret;exact⟨CD (λz=>Ending.returned (ZC z)) (kL x C).symm,G1⟩
   |true =>
    cases hla:dE f p l with
    |true =>
     go_region_with (first
      |(go_at_call 123;refine(fF _ _).mono ?_;rintro e ZJ ⟨j,g⟩;rw[hnm] at j;subst j;have ZW:Hid (Below (A (h ZQ)) ZQ ZJ):=⟨g.os,g.tape,g.output,g.size,g.block⟩;have f0:=(ZW.cell (p:=(Q X 0 Y)) hX).trans E;have f1:=(ZW.cell (p:=(Q X 1 Y)) hX).trans H;have f2:=(ZW.cell (p:=(Q X 2 Y)) hX).trans ZS;have f3:=(ZW.cell (p:=(Q X 3 Y)) hX).trans K;have k2:=(ZW.cell (p:=(Q (A (h w)) 0 Y)) t).trans P;have F2:=ae (O.aa ZW ly);clear g)
      |(go_at_call 151;refine(lV b off n p cap f l _ ZO F2).mono ?_;rintro e w2 ⟨j,q⟩;rw[hla] at j;subst j;have ZL:=ae (ZW.trans (q.mono ZW.size));clear q))
     all_goals
      have C:Hid (bE f p (f p) (k+1)=ZF):=R.trans (by rw[dP,hnm,hla];rfl);have V:=ae (y.trans (ZL.mono y.size));go_wp2;exact⟨⟨k+1,by omega,by go_num,C,V⟩,by simp[intOf];omega⟩
    |false =>
     go_region_with (first
      |(go_at_call 123;refine(fF _ _).mono ?_;rintro e ZJ ⟨j,g⟩;rw[hnm] at j;subst j;have ZW:Hid (Below (A (h ZQ)) ZQ ZJ):=⟨g.os,g.tape,g.output,g.size,g.block⟩;have f0:=(ZW.cell (p:=(Q X 0 Y)) hX).trans E;have f1:=(ZW.cell (p:=(Q X 1 Y)) hX).trans H;have f2:=(ZW.cell (p:=(Q X 2 Y)) hX).trans ZS;have f3:=(ZW.cell (p:=(Q X 3 Y)) hX).trans K;have k2:=(ZW.cell (p:=(Q (A (h w)) 0 Y)) t).trans P;have F2:=ae (O.aa ZW ly);clear g)
      |(go_at_call 151;refine(lV b off n p cap f l _ ZO F2).mono ?_;rintro e w2 ⟨j,q⟩;rw[hla] at j;subst j;have ZL:=ae (ZW.trans (q.mono ZW.size));clear q))
     all_goals
      have C:Hid (bE f p (f p) (k+1)=ZB):=R.trans (by rw[dP,hnm,hla];rfl);have x:=ae B;have V:=ae (ZV.trans (ZL.mono (by have:=ZV.size;omega)));go_wp2;go_ret;exact⟨CD (λz=>Ending.returned (ZC z)) (kL x C).symm,V⟩
  ·have e:m=k:=by omega
   subst e;go_wp2;go_ret;exact⟨by rw[HM.out] at ZM;rw[HM.out];exact CD (λz=>Ending.returned (ZC z)) ZM.symm,o.trans (s.mono o.size)⟩
structure SixB (w:G)(b:Nat)(v0 v1 v2 v3 v4 v5:ZD):Prop where
 lt:b<A (h w)
 c0:ZU w (Q b 0 Y)=T v0
 c1:ZU w (Q b 1 Y)=T v1
 c2:ZU w (Q b 2 Y)=T v2
 c3:ZU w (Q b 3 Y)=T v3
 c4:ZU w (Q b 4 Y)=T v4
 c5:ZU w (Q b 5 Y)=T v5
theorem SixB.aa {w l:G}{b:Nat}{g n m j f i:ZD}(ZW:SixB w b g n m j f i)(hb:Below (A (h w)) w l):SixB l b g n m j f i :=
 ⟨lj ZW.lt hb.size,(hb.cell (p:=(Q b 0 Y)) ZW.lt).trans ZW.c0,(hb.cell (p:=(Q b 1 Y)) ZW.lt).trans ZW.c1,(hb.cell (p:=(Q b 2 Y)) ZW.lt).trans ZW.c2,(hb.cell (p:=(Q b 3 Y)) ZW.lt).trans ZW.c3,(hb.cell (p:=(Q b 4 Y)) ZW.lt).trans ZW.c4,(hb.cell (p:=(Q b 5 Y)) ZW.lt).trans ZW.c5⟩
theorem kM (w:G)(j ZW f b i g:ZD)(t:TypeId):SixB (ZT w (N #[j,ZW,f,b,i,g] t)) (A (h w)) j ZW f b i g:=⟨by simp,by simp,by simp,by simp,by simp,by simp,by simp⟩
theorem kN (t:ByteArray):t.toList.isEmpty=decide (t.size=0):=by rw[LV];obtain⟨⟨l⟩⟩:=t;cases l<;>simp[ByteArray.size]
theorem zm {a b:Bool}(ZW:a=b):Ending.returned (ZC a)=Ending.returned (ZC b):=by rw[ZW]
theorem rT (b off n cap p:Nat)(f:Nat->af)(w:G)(R:p<n)(E:RowDeed w b off n f)(ZQ:(p:Int)<=cap)(C:(f p).l<=1048576)(ZL:Tab w):Calls Pg 113 #[ZH #[Z (T (Q b off Y)) n cap],J I (p:Int)] w λe w'=>e=ZG (ZC (ba f p))/\Below (A (h w)) w w':=by
 have HF:=ae E;have ZN:=ae ZL;have hb:=E.1;obtain⟨S,ZO,O,ZK,⟨a0,m,ZM,M⟩,⟨a1,o,ZJ,q5⟩⟩:=E.2 p R;obtain⟨r,ZP⟩:∃r,r=ba f p:=⟨_,rfl⟩
 rw[<-ZP];have H:=ae ZP;obtain⟨x,K⟩:∃x,x=f p:=⟨_,rfl⟩
 rw[<-K] at S ZO O ZK ZM ZJ M C;have ZS:=ae K;have Q4:=ae M;clear ZP K M q5 E ZL;obtain⟨W,s⟩:∃W:G,ZT (ZT w (N #[Z (T (Q b off Y)) n cap] 25)) (N #[U x.e,J I x.H,J I x.E,U x.B,Z a0 x.l m,Z a1 x.f o] 44)=W:=⟨_,rfl⟩
 obtain⟨y,-,-,-⟩:=nb2 s;have t:=ae s;clear s;have ZV:=ae (kM (ZT w (N #[Z (T (Q b off Y)) n cap] 25)) (U x.e) (J I x.H) (J I x.E) (U x.B) (Z a0 x.l m) (Z a1 x.f o) 44);have hz:A (h (ZT w (N #[Z (T (Q b off Y)) n cap] 25)))=A (h w)+1:=by simp
 rw[hz] at ZV;have P:Hid (ZU W (Q (A (h w)) 0 Y)=T (Z (T (Q b off Y)) n cap)):=by rw[<-t.out];show World.cell? _ _=_;simp
 clear hz;go_enter func113,ntmps113;go_wp2_with fail;rw[t.out] at ZV ⊢;clear t;clear S ZO O ZK ZM ZJ;cases hnm:av x.e with
 |false =>
  refine(fF x.e _).mono ?_;rintro e w1 ⟨ZW,g⟩;rw[hnm] at ZW;subst ZW;have i:=ae (y.trans (g.mono y.size));obtain rfl:r=ZB:=by rw[H.out];unfold ba;rw[<-ZS.out,hnm];rfl
  clear g;go_wp2;go_ret;exact⟨rfl,i⟩
 |true =>
 refine(fF x.e _).mono ?_;rintro e w1 ⟨ZW,g⟩;rw[hnm] at ZW;subst ZW;have i:=ae (y.trans (g.mono y.size));have l:=ae (ZV.aa g);have K1:=ae ((g.cell (p:=(Q (A (h w)) 0 Y)) (RF ZV.lt)).trans P);have c1:=l.c1;have c2:=l.c2;have c3:=l.c3;clear g y ZV P;by_cases hbig:(2000:Int)<(x.B.size:Int)
 ·obtain rfl:r=ZB:=by rw[H.out];unfold ba;rw[<-ZS.out,hnm];simp;omega
  go_wp2;go_ret;exact⟨rfl,i⟩
 have D:Hid (r=kindOk f p x):=by show r=_;rw[H.out];unfold ba;rw[<-ZS.out,hnm,show decide (x.B.size<=2000)=ZF by simp;omega];rfl
 clear H;cases h1:(x.H == 1) with
 |true =>
  have u:x.H=1:=by simpa using h1
  have j:Hid (aP x=r):=(D.trans (by unfold kindOk;rw[hU u])).symm;clear u;have c0:=l.c0;have c4:=l.c4;have c5:=l.c5;go_wp2_with fail;refine(oZ x a0 m a1 o _).mono ?_;rintro e L ⟨rfl,g⟩;have q:=ae (i.trans (g.mono i.size));clear g;go_wp2;go_ret;exact⟨zm j,q⟩
 |false =>
 cases h2:(x.H == 2) with
 |true =>
  have u:x.H=2:=by simpa using h2
  have j:Hid (r=(aP x && decide (x.B.size=0))):=D.trans (by unfold kindOk;rw[eT (by omega),hU u]);clear u;have c0:=l.c0;have c4:=l.c4;have c5:=l.c5;go_wp2_with fail;refine(oZ x a0 m a1 o _).mono ?_;rintro e L ⟨ZW,g⟩;have q:=ae (i.trans (g.mono i.size));have d3:=(l.aa g).c3;clear g;cases hu:aP x with
  |false =>
   rw[hu] at ZW;subst ZW;obtain rfl:r=ZB:=by rw[j.out,hu];rfl
   go_wp2;go_ret;exact⟨rfl,q⟩
  |true =>
   rw[hu] at ZW;subst ZW;have z:Hid (decide (x.B.size=0)=r):=by show _=r;rw[j.out,hu];rfl
   go_wp2;go_ret;exact⟨be (by rw[kN];exact z),q⟩
 |false =>
 cases h3:(x.H == 3) with
 |false =>
  obtain rfl:r=ZB:=by rw[D.out];unfold kindOk;simp at h1 h2 h3;rw[eT h1,eT h2,eT h3]
  go_wp2;go_ret;exact⟨rfl,i⟩
 |true =>
 have j:Hid (r=bT f p x):=D.trans (by unfold kindOk;simp at h1 h2 h3;rw[eT h1,eT h2,hU h3]);by_cases V:0<=x.E
 ·by_cases X:x.E<=5
  ·have c4:=l.c4;go_wp2_with fail;refine(ma a0 x.l m x.u _ C (Q4.aa i ly) (ZN.aa i ZN.1)).mono ?_;rintro e L ⟨ZW,g⟩;have q:=ae (i.trans (g.mono i.size));have K2:=(g.cell (p:=(Q (A (h w)) 0 Y)) (RF l.lt)).trans K1;clear g;cases hv:valid x.u x.l with
   |false =>
    rw[hv] at ZW;subst ZW;obtain rfl:r=ZB:=by rw[j.out];simp[bT,hv]
    go_wp2;go_ret;exact⟨rfl,q⟩
   |true =>
    rw[hv] at ZW;subst ZW;have z:Hid ((decide (x.f<=200) && bE f p x x.f)=r):=by show _=r;rw[j.out];simp[bT,hv,V,X]
    have B:=ae (pX b off n cap p f L R (HF.aa q ly) ZQ);rw[<-ZS.out] at B;rw[z.out] at B;go_wp2_with fail;refine B.mono ?_;rintro e w3 ⟨rfl,g⟩;have B3:=ae (q.trans (g.mono q.size));clear g;go_wp2;go_ret;exact⟨rfl,B3⟩
  ·obtain rfl:r=ZB:=by rw[j.out];simp[bT,X]
   go_wp2;go_ret;exact⟨rfl,i⟩
 ·obtain rfl:r=ZB:=by rw[j.out];simp[bT,V]
  go_wp2;go_ret;exact⟨rfl,i⟩
theorem rU (b off n cap:Nat)(f:Nat->af)(w:G)(hn:(n:Int)<=400)(B:RowDeed w b off n f)(hcap:(n:Int)<=cap)(m:∀i,i<n->bJ (f i))(D:Tab w):Calls Pg 77 #[ZH #[Z (T (Q b off Y)) n cap]] w λe K=>e=ZG (J I (aE (ba f) n))/\Below (A (h w)) w K:=by
 have L:=ae B;have z:=ae D;have ZP:=ae m;clear B D m;obtain⟨W,ZW⟩:∃W:G,ZT w (N #[Z (T (Q b off Y)) n cap] 25)=W:=⟨_,rfl⟩
 obtain⟨y,-,-⟩:=nb1 ZW;have g:=ae ZW;clear ZW;have H:ZU W (Q (A (h w)) 0 Y)=T (Z (T (Q b off Y)) n cap):=by rw[<-g.out];simp
 have C:A (h w)<A (h W):=by rw[<-g.out];simp
 obtain⟨r,x⟩:∃r,r=aE (ba f) n:=⟨_,rfl⟩
 rw[<-x];have ZV:=ae x;clear x;go_enter func77,ntmps77;go_wp2;rw[g.out];clear g;go_loopw [7] (λi wr=>∃k:Nat,k<=n/\i=J I k/\Hid (∀j,j<k->ba f j=ZF)/\Hid (Below (A (h W)) W wr)) (λi _=>n - (intOf i).toNat);case atStart=>exact⟨0,by omega,rfl,λj E=>absurd E (IT _),cM _ _⟩
 case round =>
  obtain⟨k,hk,rfl,u,s⟩:=hrel;have k1:=(s.cell (p:=(Q (A (h w)) 0 Y)) C).trans H;have o:=ae (y.trans (s.mono y.size));by_cases l:k<n
  ·go_wp2_with fail;refine(rT b off n cap k f _ l (L.aa o ly) (by omega) (ZP k l).1 (z.aa o z.1)).mono ?_;rintro e w2 ⟨q,t⟩;have M:=ae (o.trans (t.mono o.size));have ZS:=ae (s.trans (t.mono s.size));clear t;cases hd:ba f k with
   |true =>
    rw[hd] at q;subst q;have ZQ:=ae hd;clear hd;go_wp2
    exact⟨⟨k+1,by omega,by go_num,λj E=>by
     by_cases e:j=k;{subst e;exact ZQ}
     ·exact u j (by omega),ZS⟩,by simp[intOf];omega⟩
   |false =>
    rw[hd] at q;subst q;obtain rfl:r=k:=by rw[ZV.out];exact dX l hd u
    clear hd;go_wp2;go_ret;exact⟨rfl,M⟩
  ·have e:n=k:=by omega
   subst e;obtain rfl:r=-1:=by rw[ZV.out];exact dn u
   go_wp2;go_ret;exact⟨rfl,o⟩
theorem sN (x:af)(a0:Option Addr)(ZW:Nat)(a1:Option Addr)(b:Nat)(w:G):Calls Pg 115 #[Eg x a0 ZW a1 b] w λe l=>e=ZG (ZC (decide (x.B.size<=2000) && aP x))/\Below (A (h w)) w l:=by
 have f:=ae ((q9 w).alloc ly (N #[U x.e,J I x.H,J I x.E,U x.B,Z a0 x.l ZW,Z a1 x.f b] 44));obtain⟨r,i⟩:∃r,r=(decide (x.B.size<=2000) && aP x):=⟨_,rfl⟩
 rw[<-i];have g:=ae i;clear i;go_enter func115,ntmps115;cases h1:(x.E == 0) with
 |false =>
  obtain rfl:r=ZB:=by rw[g.out];simp at h1;simp[aP,h1]
  go_wp2;go_ret;exact⟨rfl,f⟩
 |true =>
  by_cases h4:(x.B.size:Int)<=2000
  ·have j:decide (x.B.size<=2000)=ZF:=by simp;omega
   cases h2:((x.l:Int) == 0) with
   |false =>
    obtain rfl:r=ZB:=by rw[g.out];simp at h2;simp[aP];omega
    go_wp2;go_ret;exact⟨rfl,f⟩
   |true =>
    cases h3:((x.f:Int) == 0) with
    |false =>
     obtain rfl:r=ZB:=by rw[g.out];simp at h3;simp[aP];omega
     go_wp2;go_ret;exact⟨rfl,f⟩
    |true =>
     obtain rfl:r=ZF:=by rw[g.out,j];simp at h1 h2 h3;simp[aP,h1,h2,h3]
     go_wp2;go_ret;exact⟨rfl,f⟩
  ·obtain rfl:r=ZB:=by rw[g.out];simp;omega
   go_wp2;go_ret;exact⟨rfl,f⟩
theorem pY (b off n cap p:Nat)(f:Nat->af)(w:G)(hp:p<n)(R:RowDeed w b off n f)(ZQ:(f p).l<=1048576)(K:∀j,j<(f p).l->((f p).u j).s.size<=maxLen):Calls Pg 116 #[ZH #[Z (T (Q b off Y)) n cap],J I (p:Int)] w λe w'=>e=ZG (ZC (decide ((f p).B.size<=2000) && bT f p (f p)))/\Below (A (h w)) w w':=by
 have HF:=ae R;have hb:=R.1;obtain⟨p0,p1,p2,p3,⟨a0,u,p4,q4⟩,⟨a1,C,p5,q5⟩⟩:=R.2 p hp;obtain⟨x,hx⟩:∃x,x=f p:=⟨_,rfl⟩
 rw[<-hx] at p0 p1 p2 p3 p4 p5 q4 q5 ZQ K ⊢;have HX:=ae hx;have Q4:=ae q4;have Q5:=ae q5;have HZ:=ae K;clear hx q4 q5 R K;have z:=ae (((q9 w).alloc ly (N #[Z (T (Q b off Y)) n cap] 25)).alloc (by simp) (N #[U x.e,J I x.H,J I x.E,U x.B,Z a0 x.l u,Z a1 x.f C] 44));have y:=ae (kM (ZT w (N #[Z (T (Q b off Y)) n cap] 25)) (U x.e) (J I x.H) (J I x.E) (U x.B) (Z a0 x.l u) (Z a1 x.f C) 44);have hz:A (h (ZT w (N #[Z (T (Q b off Y)) n cap] 25)))=A (h w)+1:=by simp
 rw[hz] at y;have K0:Hid (ZU (ZT (ZT w (N #[Z (T (Q b off Y)) n cap] 25)) (N #[U x.e,J I x.H,J I x.E,U x.B,Z a0 x.l u,Z a1 x.f C] 44)) (Q (A (h w)) 0 Y)=T (Z (T (Q b off Y)) n cap)):=by show World.cell? _ _=_;simp
 clear hz;obtain⟨r,ZS⟩:∃r,r=(decide (x.B.size<=2000) && bT f p x):=⟨_,rfl⟩
 rw[<-ZS];have E:=ae ZS;clear ZS;have c2:=y.c2;have c3:=y.c3;have c4:=y.c4;have c5:=y.c5;by_cases g1:0<=x.E;case neg =>
  obtain rfl:r=ZB:=by rw[E.out];simp[bT,g1]
  go_enter func116,UT;go_wp2;go_ret;exact⟨rfl,z⟩
 by_cases g2:x.E<=5;case neg =>
  obtain rfl:r=ZB:=by rw[E.out];simp[bT,g2]
  go_enter func116,UT;go_wp2;go_ret;exact⟨rfl,z⟩
 by_cases g3:(x.B.size:Int)<=2000;case neg =>
  obtain rfl:r=ZB:=by rw[E.out];simp;omega
  go_enter func116,UT;go_wp2;go_ret;exact⟨rfl,z⟩
 have ZK:decide (x.B.size<=2000)=ZF:=by simp;omega
 go_enter func116,UT;go_wp2_with fail;generalize World.alloc (World.alloc w _) _=W at z y K0 ⊢;clear p0 p1 p2 p3 p4 p5;refine(jj a0 x.l u x.u _ ZQ (Q4.aa z ly) HZ).mono ?_;rintro e w1 ⟨t,g⟩;have P:=ae (z.trans (g.mono z.size));have S1:=ae (y.aa g);have K1:=ae ((g.cell (p:=(Q (A (h w)) 0 Y)) (RF y.lt)).trans K0);clear g z y K0 c2 c3 c4 c5;have c5:=S1.c5;cases hv:valid x.u x.l with
 |false =>
  rw[hv] at t;subst t;obtain rfl:r=ZB:=by rw[E.out];simp[bT,hv]
  go_wp2;go_ret;exact⟨rfl,P⟩
 |true =>
 rw[hv] at t;subst t;have H:Hid (r=(decide (x.f<=200) && bE f p x x.f)):=by show r=_;rw[E.out,ZK];simp[bT,hv,g1,g2]
 clear E ZK hv;by_cases hbig:(200:Int)<(x.f:Int)
 ·obtain rfl:r=ZB:=by rw[H.out];simp;omega
  go_wp2;go_ret;exact⟨rfl,P⟩
 have V:Hid (r=bE f p x x.f):=by show r=_;rw[H.out,show decide (x.f<=200)=ZF by simp;omega];rfl
 clear H;go_wp2;have ex:A (h w)+1<A (h w1):=S1.lt;go_loopw [6] (λi wr=>∃k:Nat,k<=x.f/\i=J I k/\Hid (bE f p x k=ZF)/\Hid (Below (A (h w1)) w1 wr)) (λi _=>x.f - (intOf i).toNat);case atStart=>exact⟨0,by omega,rfl,rfl,cM _ _⟩
 case round =>
  obtain⟨k,hk,rfl,HK,ZN⟩:=hrel;have e5:=(ZN.cell (p:=(Q (A (h w)+1) 5 Y)) ex).trans c5;have S:=ae (P.trans (ZN.mono P.size));by_cases ZP:k<x.f
  ·obtain⟨lb,lo,rfl,L⟩:=(Q5.aa S ly).resolve_left (by omega);have ZJ:=L.2 k ZP;obtain⟨l,hl⟩:∃l,l=x.m k:=⟨_,rfl⟩
   rw[<-hl] at ZJ;obtain⟨d0,d1,d2,d3⟩:=ZJ;have HS:Hid (bE f p x (k+1)=dD f p l):=by show(bE f p x k && dD f p (x.m k))=_;rw[HK.out,MI,<-hl]
   clear hl L;have ZL:=ae (S.alloc S.size (N #[U l.e,ZC l.ask,ZC l.has,J I l.L] 68));have D:=ae (ZN.alloc ZN.size (N #[U l.e,ZC l.ask,ZC l.has,J I l.L] 68));have M:ZU (ZT wr (N #[U l.e,ZC l.ask,ZC l.has,J I l.L] 68)) (Q (A (h wr)) 0 Y)=T (U l.e):=by simp
   have O:ZU (ZT wr (N #[U l.e,ZC l.ask,ZC l.has,J I l.L] 68)) (Q (A (h wr)) 1 Y)=T (ZC l.ask):=by simp
   have ZO:ZU (ZT wr (N #[U l.e,ZC l.ask,ZC l.has,J I l.L] 68)) (Q (A (h wr)) 2 Y)=T (ZC l.has):=by simp
   have ZM:ZU (ZT wr (N #[U l.e,ZC l.ask,ZC l.has,J I l.L] 68)) (Q (A (h wr)) 3 Y)=T (J I l.L):=by simp
   have o:A (h wr)<A (h (ZT wr (N #[U l.e,ZC l.ask,ZC l.has,J I l.L] 68))):=by simp
   have kA:=(D.cell (p:=(Q (A (h w)) 0 Y)) (by show (A (h w))<_;omega)).trans K1;have bt:A (h w)<A (h (ZT wr (N #[U l.e,ZC l.ask,ZC l.has,J I l.L] 68))):=by have:=D.size;omega
   go_wp2_with fail;clear d0 d1 d2 d3 e5;generalize World.alloc wr _=W1 at ZL D M O ZO ZM o kA bt ⊢;generalize (A (h wr))=X at M O ZO ZM o ⊢;refine(cV l.e _).mono ?_;rintro e w2 ⟨t,g⟩;have B:=ae (ZL.trans (g.mono ZL.size));have C2:=ae (D.trans (g.mono D.size));have f0:=(g.cell (p:=(Q X 0 Y)) o).trans M;have f1:=(g.cell (p:=(Q X 1 Y)) o).trans O;have f2:=(g.cell (p:=(Q X 2 Y)) o).trans ZO;have f3:=(g.cell (p:=(Q X 3 Y)) o).trans ZM;have kB:=(g.cell (p:=(Q (A (h w)) 0 Y)) bt).trans kA;have FR:=ae (HF.aa B ly);clear g M O ZO ZM kA ZL D;have HLT:=ae ZP;have no:dD f p l=ZB->r=ZB:=λZW=>by rw[V.out];exact kL ZP (HS.trans ZW)
   have m:=ae no;clear no;cases hnm:av l.e with
   |false =>rw[hnm] at t;subst t;obtain rfl:r=ZB:=m.out (by rw[dP,hnm];rfl);go_wp2;go_ret;exact⟨rfl,B⟩
   |true =>
   rw[hnm] at t;subst t;cases hask:l.ask with
   |false =>
    rw[hask] at f1;cases h1:(l.L == 0) with
    |false =>obtain rfl:r=ZB:=m.out (by simp at h1;rw[dP,hnm];simp[dE,hask,h1]);go_wp2;go_ret;exact⟨rfl,B⟩
    |true =>have HN:Hid (bE f p x (k+1)=ZF):=HS.trans (by simp at h1;rw[dP,hnm];simp[dE,hask,h1]);go_wp2_with fail;go_quiet (fail);have C3:=ae (BG C2 nq);go_wp2;exact⟨⟨k+1,by omega,by go_num,HN,C3⟩,by simp[intOf];omega⟩
   |true =>
    rw[hask] at f1;cases hhas:l.has with
    |true =>rw[hhas] at f2;obtain rfl:r=ZB:=m.out (by rw[dP,hnm];simp[dE,hask,hhas]);go_wp2_with fail;go_quiet (fail);have ZV:=ae (BG B nq);go_wp2;go_ret;exact⟨rfl,ZV⟩
    |false =>
     rw[hhas] at f2;by_cases g4:0<=l.L
     ·by_cases g5:l.L<(p:Int)
      ·obtain⟨q,hq⟩:∃q:Nat,l.L=(q:Int):=⟨l.L.toNat,by omega⟩
       rw[hq] at f3 g5;have fd:q<n:=by omega
       have d0:=(FR.2 q fd).1;have h5:decide ((p:Int)<=(q:Int))=ZB:=by simp;omega
       have h5n:decide (p<=q)=ZB:=by simp;omega
       have h6:decide ((q:Int)<0)=ZB:=by simp
       have hq0:(0:Int)<=q:=by omega
       have hqn':(q:Int)<n:=by omega
       have aq:Hid (dE f p l=((f q).e.toList == l.e.toList)):=by show dE f p l=_;simp[dE,hask,hhas,hq,g5]
       cases ZS:((f q).e.toList == l.e.toList) with
       |true =>have HN:Hid (bE f p x (k+1)=ZF):=HS.trans (by rw[dP,hnm,aq.out,ZS];rfl);go_wp2_with fail;go_quiet (fail);have C3:=ae (BG C2 nq);go_wp2;exact⟨⟨k+1,by omega,by go_num,HN,C3⟩,by simp[intOf];omega⟩
       |false =>obtain rfl:r=ZB:=m.out (by rw[dP,hnm,aq.out,ZS];rfl);go_wp2_with fail;go_quiet (fail);have ZV:=ae (BG B nq);go_wp2;go_ret;exact⟨rfl,ZV⟩
      ·obtain rfl:r=ZB:=m.out (by rw[dP,hnm];simp[dE,hask,g5]);have h5:(p:Int)<=l.L:=by omega
       have h6:decide (l.L<0)=ZB:=by simpa using g4
       go_wp2_with fail;go_quiet (fail);have ZV:=ae (BG B nq);go_wp2;go_ret;exact⟨rfl,ZV⟩
     ·obtain rfl:r=ZB:=m.out (by rw[dP,hnm];simp[dE,hask,g4]);have h6:l.L<0:=by omega
      go_wp2_with fail;go_quiet (fail);have ZV:=ae (BG B nq);go_wp2;go_ret;exact⟨rfl,ZV⟩
  ·have e:x.f=k:=by omega
   obtain rfl:r=ZF:=by rw[V.out,e];exact HK
   have h5:((k:Int)<(x.f:Int))=False:=by simp;omega
   go_wp2;go_ret;exact⟨rfl,S⟩
theorem sO (b off n cap p:Nat)(f:Nat->af)(w:G)(ZL:p<n)(ZS:RowDeed w b off n f)(q:(f p).l<=1048576)(B:∀j,j<(f p).l->((f p).u j).s.size<=maxLen):Calls Pg 85 #[ZH #[Z (T (Q b off Y)) n cap],J I (p:Int)] w λe D=>e=ZG (ZC (ba f p))/\Below (A (h w)) w D:=by
 have ZV:=ae (λD (hb:Below (A (h w)) w D)=>pY b off n cap p f D ZL (ZS.aa hb ly) q B);obtain⟨r,K⟩:∃r,r=ba f p:=⟨_,rfl⟩
 rw[<-K];have ZP:=ae K;clear K;have hb:=ZS.1;obtain⟨V,S,ZO,ZN,⟨a0,o,P,X⟩,⟨a1,m,R,O⟩⟩:=ZS.2 p ZL;obtain⟨x,ZQ⟩:∃x,x=f p:=⟨_,rfl⟩
 rw[<-ZQ] at V S ZO ZN P R X O q B ZV;have ZM:=ae ZQ;clear ZQ X O ZS B q;have C:=ae (((q9 w).alloc ly (N #[Z (T (Q b off Y)) n cap] 25)).alloc (by simp) (N #[U x.e,J I x.H,J I x.E,U x.B,Z a0 x.l o,Z a1 x.f m] 44));have z:=ae (kM (ZT w (N #[Z (T (Q b off Y)) n cap] 25)) (U x.e) (J I x.H) (J I x.E) (U x.B) (Z a0 x.l o) (Z a1 x.f m) 44);have hz:A (h (ZT w (N #[Z (T (Q b off Y)) n cap] 25)))=A (h w)+1:=by simp
 rw[hz] at z;have L:Hid (ZU (ZT (ZT w (N #[Z (T (Q b off Y)) n cap] 25)) (N #[U x.e,J I x.H,J I x.E,U x.B,Z a0 x.l o,Z a1 x.f m] 44)) (Q (A (h w)) 0 Y)=T (Z (T (Q b off Y)) n cap)):=by show World.cell? _ _=_;simp
 clear hz;go_enter func85,ntmps85;go_wp2_with fail;generalize World.alloc (World.alloc w _) _=W at C z L ⊢;clear V S ZO ZN P R;refine(cV x.e _).mono ?_;rintro e ZJ ⟨E,l⟩;have i:=ae (C.trans (l.mono C.size));have u:=ae (z.aa l);have ZK:=ae ((l.cell (p:=(Q (A (h w)) 0 Y)) (RF z.lt)).trans L);clear l C z L;cases hnm:av x.e with
 |false =>
  rw[hnm] at E;subst E;obtain rfl:r=ZB:=by rw[ZP.out];unfold ba;rw[<-ZM.out,hnm];rfl
  go_wp2;go_ret;exact⟨rfl,i⟩
 |true =>
 rw[hnm] at E;subst E;have t:Hid (r=(decide (x.B.size<=2000) && kindOk f p x)):=by show r=_;rw[ZP.out];unfold ba;rw[<-ZM.out,hnm];rfl
 clear ZP;have c0:=u.c0;have c1:=u.c1;have c2:=u.c2;have c3:=u.c3;have c4:=u.c4;have c5:=u.c5;cases h1:(x.H == 1) with
 |true =>
  have y:x.H=1:=by simpa using h1
  have g:Hid ((decide (x.B.size<=2000) && aP x)=r):=(t.trans (by unfold kindOk;rw[hU y])).symm;clear y;go_wp2_with fail;refine(sN x a0 o a1 m _).mono ?_;rintro e w2 ⟨rfl,l⟩;have M:=ae (i.trans (l.mono i.size));clear l;go_wp2;go_ret;exact⟨zm g,M⟩
 |false =>
 cases h2:(x.H == 2) with
 |true =>
  have y:x.H=2:=by simpa using h2
  have g:Hid (r=(aP x && decide (x.B.size=0))):=t.trans (by
   unfold kindOk;rw[eT (by omega),hU y];by_cases ZW:x.B.size=0;{simp[ZW]}
   ·simp[ZW])
  clear y t;cases g1:(x.E == 0) with
  |false =>
   obtain rfl:r=ZB:=by rw[g.out];simp at g1;simp[aP,g1]
   go_wp2;go_ret;exact⟨rfl,i⟩
  |true =>
  cases g2:x.B.toList.isEmpty with
  |false =>
   obtain rfl:r=ZB:=by rw[g.out,<-kN,g2];simp
   go_wp2;go_ret;exact⟨rfl,i⟩
  |true =>
  cases g3:((x.l:Int) == 0) with
  |false =>
   obtain rfl:r=ZB:=by rw[g.out];simp at g3;simp[aP];omega
   go_wp2;go_ret;exact⟨rfl,i⟩
  |true =>
  cases g4:((x.f:Int) == 0) with
  |false =>
   obtain rfl:r=ZB:=by rw[g.out];simp at g4;simp[aP];omega
   go_wp2;go_ret;exact⟨rfl,i⟩
  |true =>
   obtain rfl:r=ZF:=by rw[g.out,<-kN,g2];simp at g1 g3 g4;simp[aP,g1,g3,g4]
   go_wp2;go_ret;exact⟨rfl,i⟩
 |false =>
 cases h3:(x.H == 3) with
 |false =>
  obtain rfl:r=ZB:=by rw[t.out];unfold kindOk;simp at h1 h2 h3;rw[eT h1,eT h2,eT h3];simp
  go_wp2;go_ret;exact⟨rfl,i⟩
 |true =>have g:Hid ((decide (x.B.size<=2000) && bT f p x)=r):=(t.trans (by unfold kindOk;simp at h1 h2 h3;rw[eT h1,eT h2,hU h3])).symm;have k1:=ZK.out;have H:=ae (ZV ZJ i);rw[g.out] at H;clear ZV t;go_wp2_with fail;refine H.mono ?_;rintro e w2 ⟨rfl,l⟩;have M:=ae (i.trans (l.mono i.size));clear l;go_wp2;go_ret;exact⟨rfl,M⟩
