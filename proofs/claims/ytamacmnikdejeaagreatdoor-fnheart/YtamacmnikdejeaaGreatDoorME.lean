import Derived.Test.YtamacmnikdejeaaGreatDoorMD
import Derived.Deep.DeepCutAuto
set_option maxRecDepth 100000
set_option maxHeartbeats 4000000
open Go renaming Addr.mk->Q,Value.slice->Y,Value.string->U,Value.int->J,Value.bool->ZC,Value.agg->ZG,Obj.cells->N,IntKind.i64->I,World->E,Value->ZB,Ending.returned->ZF,World.heap->B,World.alloc->z,Proofs.Tryz.prog->Pg
open Option renaming none->Z,some->T
open Bool renaming false->ZA,true->ZD
open Array renaming size->A
namespace Go.Proofs.YtamacmnikdejeaaGreatDoor.Vp
open Tryz RowKit
abbrev Er (x:au)(a0:Option Addr)(b:Nat)(a1:Option Addr)(f:Nat):ZB:=ZG #[U x.e,J I x.L,J I x.M,U x.H,Y a0 x.h b,Y a1 x.f f]
abbrev GH (l:Link):ZB:=ZG #[U l.e,ZC l.ask,ZC l.has,J I l.G]
theorem pd (x:au)(a0:Option Addr)(f:Nat)(a1:Option Addr)(b:Nat)(w:E):Calls Pg 186 #[Er x a0 f a1 b] w λe j=>e=ZF (ZC (aU x))/\Below (A (B w)) w j:=by
 have g:=ae ((BS w).alloc ly (N #[U x.e,J I x.L,J I x.M,U x.H,Y a0 x.h f,Y a1 x.f b] 46));obtain⟨r,i⟩:∃r,r=aU x:=⟨_,rfl⟩
 rw[<-i];have h:=ae i;clear i;go_enter func186,ntmps186;cases h1:(x.M == 0) with
 |false =>
  obtain rfl:r=ZA:=by rw[h.out];simp at h1;simp[aU,h1]
  go_wp2;go_ret;exact⟨rfl,g⟩
 |true =>
  cases h2:((x.h:Int) == 0) with
  |false =>
   obtain rfl:r=ZA:=by rw[h.out];simp at h2;simp[aU];omega
   go_wp2;go_ret;exact⟨rfl,g⟩
  |true =>
   cases h3:((x.f:Int) == 0) with
   |false =>
    obtain rfl:r=ZA:=by rw[h.out];simp at h3;simp[aU];omega
    go_wp2;go_ret;exact⟨rfl,g⟩
   |true =>
    obtain rfl:r=ZD:=by rw[h.out];simp at h1 h2 h3;simp[aU,h1,h2,h3]
    go_wp2;go_ret;exact⟨rfl,g⟩
def dv (f:Nat->au)(p:Nat)(l:Link):Bool:=if l.ask=ZD then !l.has && decide (0<=l.G) && decide (l.G<(p:Int)) && ((f l.G.toNat).e.toList == l.e.toList) else decide (l.G=0)
theorem dI (f:Nat->au)(p:Nat)(l:Link):dH f p l=(aB l.e && dv f p l):=rfl
theorem lU (b off n p cap:Nat)(f:Nat->au)(l:Link)(w:E)(hp:p<=n)(j:RowDeed w b off n f):Calls Pg 209 #[Y (T (Q b off Z)) p cap,GH l] w λe t=>e=ZF (ZC (dv f p l))/\Below (A (B w)) w t:=by
 have g:=ae ((BS w).alloc ly (N #[U l.e,ZC l.ask,ZC l.has,J I l.G] 129));have m:=ae (j.aa g ly);have hb:=j.1;clear j;obtain⟨r,h⟩:∃r,r=dv f p l:=⟨_,rfl⟩
 rw[<-h];have i:=ae h;clear h;obtain⟨nm,ask,has,at_⟩:=l;go_enter func209,ntmps209;cases ask with
 |false =>
  cases h1:(at_ == 0) with
  |true =>
   obtain rfl:r=ZD:=by rw[i.out];simp at h1;simp[dv,h1]
   go_wp2;go_ret;exact⟨rfl,g⟩
  |false =>
   obtain rfl:r=ZA:=by rw[i.out];simp at h1;simp[dv,h1]
   go_wp2;go_ret;exact⟨rfl,g⟩
 |true =>
  cases has with
  |true =>
   obtain rfl:r=ZA:=by rw[i.out];simp[dv]
   go_wp2_with fail;go_quiet (fail);go_wp2;go_ret;exact⟨rfl,AI g _⟩
  |false =>
   by_cases h1:0<=at_
   ·by_cases h2:at_<(p:Int)
    ·obtain⟨q,rfl⟩:∃q:Nat,at_=(q:Int):=⟨at_.toNat,by omega⟩
     have o:q<n:=by omega
     have d0:=(m.2 q o).1;have e:r=((f q).e.toList == nm.toList):=by rw[i.out];simp[dv,h2]
     cases h:((f q).e.toList == nm.toList) with
     |true =>rw[h] at e;subst e;go_wp2_with fail;go_quiet (fail);go_wp2;go_ret;exact⟨rfl,AI g _⟩
     |false =>rw[h] at e;subst e;go_wp2_with fail;go_quiet (fail);go_wp2;go_ret;exact⟨rfl,AI g _⟩
    ·obtain rfl:r=ZA:=by rw[i.out];simp[dv,h2]
     have s:decide (at_<(p:Int))=ZA:=by simpa using h2
     go_wp2_with fail;go_quiet (fail);go_wp2;go_ret;exact⟨rfl,AI g _⟩
   ·obtain rfl:r=ZA:=by rw[i.out];simp[dv,h1]
    have s:decide (0<=at_)=ZA:=by simpa using h1
    go_wp2_with fail;go_quiet (fail);go_wp2;go_ret;exact⟨rfl,AI g _⟩
theorem kH {f:Nat->au}{p:Nat}{x:au}{k m:Nat}(hk:k<m)(h:bI f p x (k+1)=ZA):bI f p x m=ZA:=by
 induction m with
 |zero=>omega
 |succ j b =>
  by_cases e:k=j;{subst e;exact h};{rw[bI,b (by omega)];rfl}
theorem qk (b off n cap p:Nat)(f:Nat->au)(w:E)(hp:p<n)(ZO:RowDeed w b off n f)(hcap:(p:Int)<=cap):Calls Pg 187 #[ZG #[Y (T (Q b off Z)) n cap],J I (p:Int)] w λe V=>e=ZF (ZC (decide ((f p).f<=200) && bI f p (f p) (f p).f))/\Below (A (B w)) w V:=by
 have o:=ae ((BS w).alloc ly (N #[Y (T (Q b off Z)) n cap] 25));have HF:=ae ZO;obtain⟨_,_,_,_,_,⟨a1,cap1,M,r1⟩⟩:=ZO.2 p hp;have hb:=ZO.1;have k0:(z w (N #[Y (T (Q b off Z)) n cap] 25)).cell? (Q (A (B w)) 0 Z)=T (Y (T (Q b off Z)) n cap):=by simp
 have p5:=(o.cell (p:=(Q b (off+p*6+5) Z)) hb).trans M;have HL:=ae r1;have t:A (B w)<(z w (N #[Y (T (Q b off Z)) n cap] 25)).heap.size:=by simp
 clear r1 M ZO;obtain⟨m,S⟩:∃m,m=(f p).f:=⟨_,rfl⟩
 obtain⟨L,hL⟩:∃L,L=(f p).m:=⟨_,rfl⟩
 rw[<-S] at p5 HL ⊢;rw[<-hL] at HL;have HM:=ae S;have ex:=ae hL;clear S hL;by_cases hbig:(200:Int)<(m:Int)
 ·obtain⟨r,ZI⟩:∃r,r=(decide (m<=200) && bI f p (f p) m):=⟨_,rfl⟩
  rw[<-ZI];obtain rfl:r=ZA:=by rw[ZI];simp;omega
  clear ZI;go_enter func187,ntmps187;go_wp2;go_ret;exact⟨rfl,o⟩
 have hd:decide (m<=200)=ZD:=by simp;omega
 rw[hd,MR];clear hd;go_enter func187,ntmps187;go_wp2;generalize World.alloc w _=W at o k0 t ⊢;clear p5;go_loopw [19] (λi wr=>∃k:Nat,k<=m/\i=J I k/\Hid (bI f p (f p) k=ZD)/\Hid (Below (A (B W)) W wr)) (λi _=>m - (intOf i).toNat);case atStart=>exact⟨0,by omega,rfl,rfl,cM _ _⟩
 case round =>
  obtain⟨k,hk,rfl,O,s⟩:=hrel;by_cases D:k<m
  ·obtain⟨lb,lo,rfl,aq,C⟩:=HL.resolve_left (by omega);have hx:=(C k D).aa (o.trans (s.mono o.size)) aq;obtain⟨l,P⟩:∃l,l=L k:=⟨_,rfl⟩
   rw[<-P] at hx;have bt:=ae P;obtain⟨d0,d1,d2,d3⟩:=hx;clear P C;have ZL:Hid (bI f p (f p) (k+1)=dH f p l):=by show(bI f p (f p) k && dH f p ((f p).m k))=_;rw[O.out,MR,<-ex.out,<-bt.out]
   have ZS:=ae ((o.trans (s.mono o.size)).alloc (by have:=o.size;have:=s.size;omega) (N #[U l.e,ZC l.ask,ZC l.has,J I l.G] 129));have x:=ae ((s).alloc s.size (N #[U l.e,ZC l.ask,ZC l.has,J I l.G] 129));have ZP:(z wr (N #[U l.e,ZC l.ask,ZC l.has,J I l.G] 129)).cell? (Q (A (B wr)) 0 Z)=T (U l.e):=by simp
   have G:(z wr (N #[U l.e,ZC l.ask,ZC l.has,J I l.G] 129)).cell? (Q (A (B wr)) 1 Z)=T (ZC l.ask):=by simp
   have ZQ:(z wr (N #[U l.e,ZC l.ask,ZC l.has,J I l.G] 129)).cell? (Q (A (B wr)) 2 Z)=T (ZC l.has):=by simp
   have H:(z wr (N #[U l.e,ZC l.ask,ZC l.has,J I l.G] 129)).cell? (Q (A (B wr)) 3 Z)=T (J I l.G):=by simp
   have hX:A (B wr)<(z wr (N #[U l.e,ZC l.ask,ZC l.has,J I l.G] 129)).heap.size:=by simp
   have k1:=(x.cell (p:=(Q (A (B w)) 0 Z)) t).trans k0;have ZR:A (B w)<(z wr (N #[U l.e,ZC l.ask,ZC l.has,J I l.G] 129)).heap.size:=lj t x.size;have R:=ae (HF.aa ZS ly);go_upto_region 7 with fail;clear d0 d1 d2 d3;generalize World.alloc wr _=K at ZS x ZP G ZQ H hX k1 ZR R ⊢;generalize (A (B wr))=X at ZP G ZQ H hX ⊢;have hp0:0<=(p:Int):=by omega
   have hpn:(p:Int)<=n:=by omega
   have ZN:p<=n:=by omega
   have hcap':p<=cap:=by omega
   cases hnm:aB l.e with
   |false =>
    have hq:∀w,Calls Pg 123 #[U l.e] w λe V=>e=ZF (ZC ZA)/\V=w:=λw=>by rw[<-hnm];exact vj l.e w
    go_quiet ((go_at_call 123;exact Calls.quiet_of_same (hq _)));have hN:dH f p l=ZA:=by rw[dI,hnm];rfl
    have u:=ae (ZL.trans hN);have y:=ae D;have G1:=ae (AI ZS nq);clear hN;go_wp2;go_ret;exact⟨CV (λZT=>Ending.returned (ZC ZT)) (kH y u).symm,G1⟩
   |true =>
    cases hla:dv f p l with
    |true =>
     go_region_with (first
      |(go_at_call 123;refine(eV _ _).mono ?_;rintro e ZJ ⟨j,g⟩;rw[hnm] at j;subst j;have h:Hid (Below (A (B K)) K ZJ):=⟨g.os,g.tape,g.output,g.size,g.block⟩;have f0:=(h.cell (p:=(Q X 0 Z)) hX).trans ZP;have f1:=(h.cell (p:=(Q X 1 Z)) hX).trans G;have f2:=(h.cell (p:=(Q X 2 Z)) hX).trans ZQ;have f3:=(h.cell (p:=(Q X 3 Z)) hX).trans H;have k2:=(h.cell (p:=(Q (A (B w)) 0 Z)) ZR).trans k1;have F2:=ae (R.aa h ly);clear g)
      |(go_at_call 209;refine(lU b off n p cap f l _ ZN F2).mono ?_;rintro e w2 ⟨j,q⟩;rw[hla] at j;subst j;have ZM:=ae (h.trans (q.mono h.size));clear q))
     all_goals
      have u:Hid (bI f p (f p) (k+1)=ZD):=ZL.trans (by rw[dI,hnm,hla];rfl);have ZK:=ae (x.trans (ZM.mono x.size));go_wp2;exact⟨⟨k+1,by omega,by go_num,u,ZK⟩,by simp[intOf];omega⟩
    |false =>
     go_region_with (first
      |(go_at_call 123;refine(eV _ _).mono ?_;rintro e ZJ ⟨j,g⟩;rw[hnm] at j;subst j;have h:Hid (Below (A (B K)) K ZJ):=⟨g.os,g.tape,g.output,g.size,g.block⟩;have f0:=(h.cell (p:=(Q X 0 Z)) hX).trans ZP;have f1:=(h.cell (p:=(Q X 1 Z)) hX).trans G;have f2:=(h.cell (p:=(Q X 2 Z)) hX).trans ZQ;have f3:=(h.cell (p:=(Q X 3 Z)) hX).trans H;have k2:=(h.cell (p:=(Q (A (B w)) 0 Z)) ZR).trans k1;have F2:=ae (R.aa h ly);clear g)
      |(go_at_call 209;refine(lU b off n p cap f l _ ZN F2).mono ?_;rintro e w2 ⟨j,q⟩;rw[hla] at j;subst j;have ZM:=ae (h.trans (q.mono h.size));clear q))
     all_goals
      have u:Hid (bI f p (f p) (k+1)=ZA):=ZL.trans (by rw[dI,hnm,hla];rfl);have y:=ae D;have ZK:=ae (ZS.trans (ZM.mono (by have:=ZS.size;omega)));go_wp2;go_ret;exact⟨CV (λZT=>Ending.returned (ZC ZT)) (kH y u).symm,ZK⟩
  ·have e:m=k:=by omega
   subst e;go_wp2;go_ret;exact⟨by rw[HM.out] at O;rw[HM.out];exact CV (λZT=>Ending.returned (ZC ZT)) O.symm,o.trans (s.mono o.size)⟩
structure SixB (w:E)(b:Nat)(v0 v1 v2 v3 v4 v5:ZB):Prop where
 lt:b<A (B w)
 c0:w.cell? (Q b 0 Z)=T v0
 c1:w.cell? (Q b 1 Z)=T v1
 c2:w.cell? (Q b 2 Z)=T v2
 c3:w.cell? (Q b 3 Z)=T v3
 c4:w.cell? (Q b 4 Z)=T v4
 c5:w.cell? (Q b 5 Z)=T v5
theorem SixB.aa {w m:E}{b:Nat}{i j n f g l:ZB}(h:SixB w b i j n f g l)(hb:Below (A (B w)) w m):SixB m b i j n f g l :=
 ⟨lj h.lt hb.size,(hb.cell (p:=(Q b 0 Z)) h.lt).trans h.c0,(hb.cell (p:=(Q b 1 Z)) h.lt).trans h.c1,(hb.cell (p:=(Q b 2 Z)) h.lt).trans h.c2,(hb.cell (p:=(Q b 3 Z)) h.lt).trans h.c3,(hb.cell (p:=(Q b 4 Z)) h.lt).trans h.c4,(hb.cell (p:=(Q b 5 Z)) h.lt).trans h.c5⟩
theorem kI (w:E)(f g j i b h:ZB)(t:TypeId):SixB (z w (N #[f,g,j,i,b,h] t)) (A (B w)) f g j i b h:=⟨by simp,by simp,by simp,by simp,by simp,by simp,by simp⟩
theorem kJ (t:ByteArray):t.toList.isEmpty=decide (t.size=0):=by rw[LF];obtain⟨⟨l⟩⟩:=t;cases l<;>simp[ByteArray.size]
theorem zi {a b:Bool}(h:a=b):Ending.returned (ZC a)=Ending.returned (ZC b):=by rw[h]
theorem ss (b off n cap p:Nat)(f:Nat->au)(w:E)(ZM:p<n)(ZQ:RowDeed w b off n f)(K:(p:Int)<=cap)(ZR:(f p).h<=1048576)(ZN:Tab w):Calls Pg 164 #[ZG #[Y (T (Q b off Z)) n cap],J I (p:Int)] w λe w'=>e=ZF (ZC (bi f p))/\Below (A (B w)) w w':=by
 have HF:=ae ZQ;have V:=ae ZN;have hb:=ZQ.1;obtain⟨S,ZJ,R,O,⟨a0,m,ZK,M⟩,⟨a1,o,P,q5⟩⟩:=ZQ.2 p ZM;obtain⟨r,ZP⟩:∃r,r=bi f p:=⟨_,rfl⟩
 rw[<-ZP];have H:=ae ZP;obtain⟨x,L⟩:∃x,x=f p:=⟨_,rfl⟩
 rw[<-L] at S ZJ R O ZK P M ZR;have G:=ae L;have Q4:=ae M;clear ZP L M q5 ZQ ZN;obtain⟨W,ZS⟩:∃W:E,(z w (N #[Y (T (Q b off Z)) n cap] 25)).alloc (N #[U x.e,J I x.L,J I x.M,U x.H,Y a0 x.h m,Y a1 x.f o] 46)=W:=⟨_,rfl⟩
 obtain⟨y,-,-,-⟩:=nb2 ZS;have t:=ae ZS;clear ZS;have C:=ae (kI (z w (N #[Y (T (Q b off Z)) n cap] 25)) (U x.e) (J I x.L) (J I x.M) (U x.H) (Y a0 x.h m) (Y a1 x.f o) 46);have hz:(z w (N #[Y (T (Q b off Z)) n cap] 25)).heap.size=A (B w)+1:=by simp
 rw[hz] at C;have ZI:Hid (W.cell? (Q (A (B w)) 0 Z)=T (Y (T (Q b off Z)) n cap)):=by rw[<-t.out];show World.cell? _ _=_;simp
 clear hz;go_enter func164,ntmps164;go_wp2_with fail;rw[t.out] at C ⊢;clear t;clear S ZJ R O ZK P;cases hnm:aB x.e with
 |false =>
  refine(eV x.e _).mono ?_;rintro e w1 ⟨h,g⟩;rw[hnm] at h;subst h;have j:=ae (y.trans (g.mono y.size));obtain rfl:r=ZA:=by rw[H.out];unfold bi;rw[<-G.out,hnm];rfl
  clear g;go_wp2;go_ret;exact⟨rfl,j⟩
 |true =>
 refine(eV x.e _).mono ?_;rintro e w1 ⟨h,g⟩;rw[hnm] at h;subst h;have j:=ae (y.trans (g.mono y.size));have l:=ae (C.aa g);have K1:=ae ((g.cell (p:=(Q (A (B w)) 0 Z)) (RZ C.lt)).trans ZI);have c1:=l.c1;have c2:=l.c2;have c3:=l.c3;clear g y C ZI;by_cases hbig:(2000:Int)<(x.H.size:Int)
 ·obtain rfl:r=ZA:=by rw[H.out];unfold bi;rw[<-G.out,hnm];simp;omega
  go_wp2;go_ret;exact⟨rfl,j⟩
 have D:Hid (r=kindOk f p x):=by show r=_;rw[H.out];unfold bi;rw[<-G.out,hnm,show decide (x.H.size<=2000)=ZD by simp;omega];rfl
 clear H;cases h1:(x.L == 1) with
 |true =>
  have s:x.L=1:=by simpa using h1
  have i:Hid (aU x=r):=(D.trans (by unfold kindOk;rw[j6 s])).symm;clear s;have c0:=l.c0;have c4:=l.c4;have c5:=l.c5;go_wp2_with fail;refine(pd x a0 m a1 o _).mono ?_;rintro e ZO ⟨rfl,g⟩;have q:=ae (j.trans (g.mono j.size));clear g;go_wp2;go_ret;exact⟨zi i,q⟩
 |false =>
 cases h2:(x.L == 2) with
 |true =>
  have s:x.L=2:=by simpa using h2
  have i:Hid (r=(aU x && decide (x.H.size=0))):=D.trans (by unfold kindOk;rw[eT (by omega),j6 s]);clear s;have c0:=l.c0;have c4:=l.c4;have c5:=l.c5;go_wp2_with fail;refine(pd x a0 m a1 o _).mono ?_;rintro e ZO ⟨h,g⟩;have q:=ae (j.trans (g.mono j.size));have d3:=(l.aa g).c3;clear g;cases hu:aU x with
  |false =>
   rw[hu] at h;subst h;obtain rfl:r=ZA:=by rw[i.out,hu];rfl
   go_wp2;go_ret;exact⟨rfl,q⟩
  |true =>
   rw[hu] at h;subst h;have u:Hid (decide (x.H.size=0)=r):=by show _=r;rw[i.out,hu];rfl
   go_wp2;go_ret;exact⟨bj (by rw[kJ];exact u),q⟩
 |false =>
 cases h3:(x.L == 3) with
 |false =>
  obtain rfl:r=ZA:=by rw[D.out];unfold kindOk;simp at h1 h2 h3;rw[eT h1,eT h2,eT h3]
  go_wp2;go_ret;exact⟨rfl,j⟩
 |true =>
 have i:Hid (r=bW f p x):=D.trans (by unfold kindOk;simp at h1 h2 h3;rw[eT h1,eT h2,j6 h3]);by_cases ZL:0<=x.M
 ·by_cases X:x.M<=5
  ·have c4:=l.c4;go_wp2_with fail;refine(me a0 x.h m x.u _ ZR (Q4.aa j ly) (V.aa j V.1)).mono ?_;rintro e ZO ⟨h,g⟩;have q:=ae (j.trans (g.mono j.size));have K2:=(g.cell (p:=(Q (A (B w)) 0 Z)) (RZ l.lt)).trans K1;clear g;cases hv:valid x.u x.h with
   |false =>
    rw[hv] at h;subst h;obtain rfl:r=ZA:=by rw[i.out];simp[bW,hv]
    go_wp2;go_ret;exact⟨rfl,q⟩
   |true =>
    rw[hv] at h;subst h;have u:Hid ((decide (x.f<=200) && bI f p x x.f)=r):=by show _=r;rw[i.out];simp[bW,hv,ZL,X]
    have ZT:=ae (qk b off n cap p f ZO ZM (HF.aa q ly) K);rw[<-G.out] at ZT;rw[u.out] at ZT;go_wp2_with fail;refine ZT.mono ?_;rintro e w3 ⟨rfl,g⟩;have B3:=ae (q.trans (g.mono q.size));clear g;go_wp2;go_ret;exact⟨rfl,B3⟩
  ·obtain rfl:r=ZA:=by rw[i.out];simp[bW,X]
   go_wp2;go_ret;exact⟨rfl,j⟩
 ·obtain rfl:r=ZA:=by rw[i.out];simp[bW,ZL]
  go_wp2;go_ret;exact⟨rfl,j⟩
theorem su (b off n cap:Nat)(f:Nat->au)(w:E)(hn:(n:Int)<=400)(C:RowDeed w b off n f)(hcap:(n:Int)<=cap)(h:∀i,i<n->dw (f i))(y:Tab w):Calls Pg 132 #[ZG #[Y (T (Q b off Z)) n cap]] w λe M=>e=ZF (J I (aI (bi f) n))/\Below (A (B w)) w M:=by
 have ZP:=ae C;have ZR:=ae y;have G:=ae h;clear C y h;obtain⟨W,l⟩:∃W:E,z w (N #[Y (T (Q b off Z)) n cap] 25)=W:=⟨_,rfl⟩
 obtain⟨D,-,-⟩:=nb1 l;have g:=ae l;clear l;have K:W.cell? (Q (A (B w)) 0 Z)=T (Y (T (Q b off Z)) n cap):=by rw[<-g.out];simp
 have ZT:A (B w)<A (B W):=by rw[<-g.out];simp
 obtain⟨r,t⟩:∃r,r=aI (bi f) n:=⟨_,rfl⟩
 rw[<-t];have ZS:=ae t;clear t;go_enter func132,ntmps132;go_wp2;rw[g.out];clear g;go_loopw [7] (λi wr=>∃k:Nat,k<=n/\i=J I k/\Hid (∀j,j<k->bi f j=ZD)/\Hid (Below (A (B W)) W wr)) (λi _=>n - (intOf i).toNat);case atStart=>exact⟨0,by omega,rfl,λj ZQ=>absurd ZQ (KO _),cM _ _⟩
 case round =>
  obtain⟨k,hk,rfl,u,s⟩:=hrel;have k1:=(s.cell (p:=(Q (A (B w)) 0 Z)) ZT).trans K;have m:=ae (D.trans (s.mono D.size));by_cases o:k<n
  ·go_wp2_with fail;refine(ss b off n cap k f _ o (ZP.aa m ly) (by omega) (G k o).1 (ZR.aa m ZR.1)).mono ?_;rintro e w2 ⟨q,x⟩;have L:=ae (m.trans (x.mono m.size));have H:=ae (s.trans (x.mono s.size));clear x;cases hd:bi f k with
   |true =>
    rw[hd] at q;subst q;have ZO:=ae hd;clear hd;go_wp2
    exact⟨⟨k+1,by omega,by go_num,λj ZQ=>by
     by_cases e:j=k;{subst e;exact ZO}
     ·exact u j (by omega),H⟩,by simp[intOf];omega⟩
   |false =>
    rw[hd] at q;subst q;obtain rfl:r=k:=by rw[ZS.out];exact fB o hd u
    clear hd;go_wp2;go_ret;exact⟨rfl,L⟩
  ·have e:n=k:=by omega
   subst e;obtain rfl:r=-1:=by rw[ZS.out];exact dX u
   go_wp2;go_ret;exact⟨rfl,m⟩
theorem sX (x:au)(a0:Option Addr)(h:Nat)(a1:Option Addr)(b:Nat)(w:E):Calls Pg 170 #[Er x a0 h a1 b] w λe l=>e=ZF (ZC (decide (x.H.size<=2000) && aU x))/\Below (A (B w)) w l:=by
 have f:=ae ((BS w).alloc ly (N #[U x.e,J I x.L,J I x.M,U x.H,Y a0 x.h h,Y a1 x.f b] 46));obtain⟨r,i⟩:∃r,r=(decide (x.H.size<=2000) && aU x):=⟨_,rfl⟩
 rw[<-i];have g:=ae i;clear i;go_enter func170,ntmps170;cases h1:(x.M == 0) with
 |false =>
  obtain rfl:r=ZA:=by rw[g.out];simp at h1;simp[aU,h1]
  go_wp2;go_ret;exact⟨rfl,f⟩
 |true =>
  by_cases h4:(x.H.size:Int)<=2000
  ·have j:decide (x.H.size<=2000)=ZD:=by simp;omega
   cases h2:((x.h:Int) == 0) with
   |false =>
    obtain rfl:r=ZA:=by rw[g.out];simp at h2;simp[aU];omega
    go_wp2;go_ret;exact⟨rfl,f⟩
   |true =>
    cases h3:((x.f:Int) == 0) with
    |false =>
     obtain rfl:r=ZA:=by rw[g.out];simp at h3;simp[aU];omega
     go_wp2;go_ret;exact⟨rfl,f⟩
    |true =>
     obtain rfl:r=ZD:=by rw[g.out,j];simp at h1 h2 h3;simp[aU,h1,h2,h3]
     go_wp2;go_ret;exact⟨rfl,f⟩
  ·obtain rfl:r=ZA:=by rw[g.out];simp;omega
   go_wp2;go_ret;exact⟨rfl,f⟩
theorem qn (b off n cap p:Nat)(f:Nat->au)(w:E)(hp:p<n)(ZL:RowDeed w b off n f)(H:(f p).h<=1048576)(ZP:∀j,j<(f p).h->((f p).u j).s.size<=maxLen):Calls Pg 171 #[ZG #[Y (T (Q b off Z)) n cap],J I (p:Int)] w λe w'=>e=ZF (ZC (decide ((f p).H.size<=2000) && bW f p (f p)))/\Below (A (B w)) w w':=by
 have HF:=ae ZL;have hb:=ZL.1;obtain⟨p0,p1,p2,p3,⟨a0,u,p4,q4⟩,⟨a1,ZS,p5,q5⟩⟩:=ZL.2 p hp;obtain⟨x,hx⟩:∃x,x=f p:=⟨_,rfl⟩
 rw[<-hx] at p0 p1 p2 p3 p4 p5 q4 q5 H ZP ⊢;have HX:=ae hx;have Q4:=ae q4;have Q5:=ae q5;have HZ:=ae ZP;clear hx q4 q5 ZL ZP;have ZT:=ae (((BS w).alloc ly (N #[Y (T (Q b off Z)) n cap] 25)).alloc (by simp) (N #[U x.e,J I x.L,J I x.M,U x.H,Y a0 x.h u,Y a1 x.f ZS] 46));have y:=ae (kI (z w (N #[Y (T (Q b off Z)) n cap] 25)) (U x.e) (J I x.L) (J I x.M) (U x.H) (Y a0 x.h u) (Y a1 x.f ZS) 46);have hz:(z w (N #[Y (T (Q b off Z)) n cap] 25)).heap.size=A (B w)+1:=by simp
 rw[hz] at y;have K0:Hid (((z w (N #[Y (T (Q b off Z)) n cap] 25)).alloc (N #[U x.e,J I x.L,J I x.M,U x.H,Y a0 x.h u,Y a1 x.f ZS] 46)).cell? (Q (A (B w)) 0 Z)=T (Y (T (Q b off Z)) n cap)):=by show World.cell? _ _=_;simp
 clear hz;obtain⟨r,G⟩:∃r,r=(decide (x.H.size<=2000) && bW f p x):=⟨_,rfl⟩
 rw[<-G];have D:=ae G;clear G;have c2:=y.c2;have c3:=y.c3;have c4:=y.c4;have c5:=y.c5;by_cases g1:0<=x.M;case neg =>
  obtain rfl:r=ZA:=by rw[D.out];simp[bW,g1]
  go_enter func171,UX;go_wp2;go_ret;exact⟨rfl,ZT⟩
 by_cases g2:x.M<=5;case neg =>
  obtain rfl:r=ZA:=by rw[D.out];simp[bW,g2]
  go_enter func171,UX;go_wp2;go_ret;exact⟨rfl,ZT⟩
 by_cases g3:(x.H.size:Int)<=2000;case neg =>
  obtain rfl:r=ZA:=by rw[D.out];simp;omega
  go_enter func171,UX;go_wp2;go_ret;exact⟨rfl,ZT⟩
 have ZJ:decide (x.H.size<=2000)=ZD:=by simp;omega
 go_enter func171,UX;go_wp2_with fail;generalize World.alloc (World.alloc w _) _=W at ZT y K0 ⊢;clear p0 p1 p2 p3 p4 p5;refine(i8 a0 x.h u x.u _ H (Q4.aa ZT ly) HZ).mono ?_;rintro e w1 ⟨t,g⟩;have S:=ae (ZT.trans (g.mono ZT.size));have S1:=ae (y.aa g);have K1:=ae ((g.cell (p:=(Q (A (B w)) 0 Z)) (RZ y.lt)).trans K0);clear g ZT y K0 c2 c3 c4 c5;have c5:=S1.c5;cases hv:valid x.u x.h with
 |false =>
  rw[hv] at t;subst t;obtain rfl:r=ZA:=by rw[D.out];simp[bW,hv]
  go_wp2;go_ret;exact⟨rfl,S⟩
 |true =>
 rw[hv] at t;subst t;have ZO:Hid (r=(decide (x.f<=200) && bI f p x x.f)):=by show r=_;rw[D.out,ZJ];simp[bW,hv,g1,g2]
 clear D ZJ hv;by_cases hbig:(200:Int)<(x.f:Int)
 ·obtain rfl:r=ZA:=by rw[ZO.out];simp;omega
  go_wp2;go_ret;exact⟨rfl,S⟩
 have V:Hid (r=bI f p x x.f):=by show r=_;rw[ZO.out,show decide (x.f<=200)=ZD by simp;omega];rfl
 clear ZO;go_wp2;have ex:A (B w)+1<A (B w1):=S1.lt;go_loopw [6] (λi wr=>∃k:Nat,k<=x.f/\i=J I k/\Hid (bI f p x k=ZD)/\Hid (Below (A (B w1)) w1 wr)) (λi _=>x.f - (intOf i).toNat);case atStart=>exact⟨0,by omega,rfl,rfl,cM _ _⟩
 case round =>
  obtain⟨k,hk,rfl,HK,O⟩:=hrel;have e5:=(O.cell (p:=(Q (A (B w)+1) 5 Z)) ex).trans c5;have R:=ae (S.trans (O.mono S.size));by_cases L:k<x.f
  ·obtain⟨lb,lo,rfl,K⟩:=(Q5.aa R ly).resolve_left (by omega);have bt:=K.2 k L;obtain⟨l,hl⟩:∃l,l=x.m k:=⟨_,rfl⟩
   rw[<-hl] at bt;obtain⟨d0,d1,d2,d3⟩:=bt;have HS:Hid (bI f p x (k+1)=dH f p l):=by show(bI f p x k && dH f p (x.m k))=_;rw[HK.out,MR,<-hl]
   clear hl K;have ZK:=ae (R.alloc R.size (N #[U l.e,ZC l.ask,ZC l.has,J I l.G] 129));have ZQ:=ae (O.alloc O.size (N #[U l.e,ZC l.ask,ZC l.has,J I l.G] 129));have ZM:(z wr (N #[U l.e,ZC l.ask,ZC l.has,J I l.G] 129)).cell? (Q (A (B wr)) 0 Z)=T (U l.e):=by simp
   have ZN:(z wr (N #[U l.e,ZC l.ask,ZC l.has,J I l.G] 129)).cell? (Q (A (B wr)) 1 Z)=T (ZC l.ask):=by simp
   have M:(z wr (N #[U l.e,ZC l.ask,ZC l.has,J I l.G] 129)).cell? (Q (A (B wr)) 2 Z)=T (ZC l.has):=by simp
   have P:(z wr (N #[U l.e,ZC l.ask,ZC l.has,J I l.G] 129)).cell? (Q (A (B wr)) 3 Z)=T (J I l.G):=by simp
   have o:A (B wr)<(z wr (N #[U l.e,ZC l.ask,ZC l.has,J I l.G] 129)).heap.size:=by simp
   have kA:=(ZQ.cell (p:=(Q (A (B w)) 0 Z)) (by show (A (B w))<_;omega)).trans K1;have aq:A (B w)<(z wr (N #[U l.e,ZC l.ask,ZC l.has,J I l.G] 129)).heap.size:=by have:=ZQ.size;omega
   go_wp2_with fail;clear d0 d1 d2 d3 e5;generalize World.alloc wr _=W1 at ZK ZQ ZM ZN M P o kA aq ⊢;generalize (A (B wr))=X at ZM ZN M P o ⊢;refine(cV l.e _).mono ?_;rintro e w2 ⟨t,g⟩;have C:=ae (ZK.trans (g.mono ZK.size));have C2:=ae (ZQ.trans (g.mono ZQ.size));have f0:=(g.cell (p:=(Q X 0 Z)) o).trans ZM;have f1:=(g.cell (p:=(Q X 1 Z)) o).trans ZN;have f2:=(g.cell (p:=(Q X 2 Z)) o).trans M;have f3:=(g.cell (p:=(Q X 3 Z)) o).trans P;have kB:=(g.cell (p:=(Q (A (B w)) 0 Z)) aq).trans kA;have FR:=ae (HF.aa C ly);clear g ZM ZN M P kA ZK ZQ;have HLT:=ae L;have no:dH f p l=ZA->r=ZA:=λh=>by rw[V.out];exact kH L (HS.trans h)
   have m:=ae no;clear no;cases hnm:aB l.e with
   |false =>rw[hnm] at t;subst t;obtain rfl:r=ZA:=m.out (by rw[dI,hnm];rfl);go_wp2;go_ret;exact⟨rfl,C⟩
   |true =>
   rw[hnm] at t;subst t;cases hask:l.ask with
   |false =>
    rw[hask] at f1;cases h1:(l.G == 0) with
    |false =>obtain rfl:r=ZA:=m.out (by simp at h1;rw[dI,hnm];simp[dv,hask,h1]);go_wp2;go_ret;exact⟨rfl,C⟩
    |true =>have HN:Hid (bI f p x (k+1)=ZD):=HS.trans (by simp at h1;rw[dI,hnm];simp[dv,hask,h1]);go_wp2_with fail;go_quiet (fail);have C3:=ae (AI C2 nq);go_wp2;exact⟨⟨k+1,by omega,by go_num,HN,C3⟩,by simp[intOf];omega⟩
   |true =>
    rw[hask] at f1;cases hhas:l.has with
    |true =>rw[hhas] at f2;obtain rfl:r=ZA:=m.out (by rw[dI,hnm];simp[dv,hask,hhas]);go_wp2_with fail;go_quiet (fail);have ZR:=ae (AI C nq);go_wp2;go_ret;exact⟨rfl,ZR⟩
    |false =>
     rw[hhas] at f2;by_cases g4:0<=l.G
     ·by_cases g5:l.G<(p:Int)
      ·obtain⟨q,hq⟩:∃q:Nat,l.G=(q:Int):=⟨l.G.toNat,by omega⟩
       rw[hq] at f3 g5;have fd:q<n:=by omega
       have d0:=(FR.2 q fd).1;have h5:decide ((p:Int)<=(q:Int))=ZA:=by simp;omega
       have h5n:decide (p<=q)=ZA:=by simp;omega
       have h6:decide ((q:Int)<0)=ZA:=by simp
       have hq0:(0:Int)<=q:=by omega
       have hqn':(q:Int)<n:=by omega
       have ZI:Hid (dv f p l=((f q).e.toList == l.e.toList)):=by show dv f p l=_;simp[dv,hask,hhas,hq,g5]
       cases G:((f q).e.toList == l.e.toList) with
       |true =>have HN:Hid (bI f p x (k+1)=ZD):=HS.trans (by rw[dI,hnm,ZI.out,G];rfl);go_wp2_with fail;go_quiet (fail);have C3:=ae (AI C2 nq);go_wp2;exact⟨⟨k+1,by omega,by go_num,HN,C3⟩,by simp[intOf];omega⟩
       |false =>obtain rfl:r=ZA:=m.out (by rw[dI,hnm,ZI.out,G];rfl);go_wp2_with fail;go_quiet (fail);have ZR:=ae (AI C nq);go_wp2;go_ret;exact⟨rfl,ZR⟩
      ·obtain rfl:r=ZA:=m.out (by rw[dI,hnm];simp[dv,hask,g5]);have h5:(p:Int)<=l.G:=by omega
       have h6:decide (l.G<0)=ZA:=by simpa using g4
       go_wp2_with fail;go_quiet (fail);have ZR:=ae (AI C nq);go_wp2;go_ret;exact⟨rfl,ZR⟩
     ·obtain rfl:r=ZA:=m.out (by rw[dI,hnm];simp[dv,hask,g4]);have h6:l.G<0:=by omega
      go_wp2_with fail;go_quiet (fail);have ZR:=ae (AI C nq);go_wp2;go_ret;exact⟨rfl,ZR⟩
  ·have e:x.f=k:=by omega
   obtain rfl:r=ZD:=by rw[V.out,e];exact HK
   have h5:((k:Int)<(x.f:Int))=False:=by simp;omega
   go_wp2;go_ret;exact⟨rfl,R⟩
theorem sY (b off n cap p:Nat)(f:Nat->au)(w:E)(ZM:p<n)(D:RowDeed w b off n f)(q:(f p).h<=1048576)(ZR:∀j,j<(f p).h->((f p).u j).s.size<=maxLen):Calls Pg 138 #[ZG #[Y (T (Q b off Z)) n cap],J I (p:Int)] w λe G=>e=ZF (ZC (bi f p))/\Below (A (B w)) w G:=by
 have ZT:=ae (λG (hb:Below (A (B w)) w G)=>qn b off n cap p f G ZM (D.aa hb ly) q ZR);obtain⟨r,ZP⟩:∃r,r=bi f p:=⟨_,rfl⟩
 rw[<-ZP];have ZO:=ae ZP;clear ZP;have hb:=D.1;obtain⟨S,ZK,R,ZN,⟨a0,m,V,ZL⟩,⟨a1,o,P,O⟩⟩:=D.2 p ZM;obtain⟨x,L⟩:∃x,x=f p:=⟨_,rfl⟩
 rw[<-L] at S ZK R ZN V P ZL O q ZR ZT;have X:=ae L;clear L ZL O D ZR q;have ZQ:=ae (((BS w).alloc ly (N #[Y (T (Q b off Z)) n cap] 25)).alloc (by simp) (N #[U x.e,J I x.L,J I x.M,U x.H,Y a0 x.h m,Y a1 x.f o] 46));have ZS:=ae (kI (z w (N #[Y (T (Q b off Z)) n cap] 25)) (U x.e) (J I x.L) (J I x.M) (U x.H) (Y a0 x.h m) (Y a1 x.f o) 46);have hz:(z w (N #[Y (T (Q b off Z)) n cap] 25)).heap.size=A (B w)+1:=by simp
 rw[hz] at ZS;have M:Hid (((z w (N #[Y (T (Q b off Z)) n cap] 25)).alloc (N #[U x.e,J I x.L,J I x.M,U x.H,Y a0 x.h m,Y a1 x.f o] 46)).cell? (Q (A (B w)) 0 Z)=T (Y (T (Q b off Z)) n cap)):=by show World.cell? _ _=_;simp
 clear hz;go_enter func138,ntmps138;go_wp2_with fail;generalize World.alloc (World.alloc w _) _=W at ZQ ZS M ⊢;clear S ZK R ZN V P;refine(cV x.e _).mono ?_;rintro e ZJ ⟨C,l⟩;have i:=ae (ZQ.trans (l.mono ZQ.size));have u:=ae (ZS.aa l);have K1:=ae ((l.cell (p:=(Q (A (B w)) 0 Z)) (RZ ZS.lt)).trans M);clear l ZQ ZS M;cases hnm:aB x.e with
 |false =>
  rw[hnm] at C;subst C;obtain rfl:r=ZA:=by rw[ZO.out];unfold bi;rw[<-X.out,hnm];rfl
  go_wp2;go_ret;exact⟨rfl,i⟩
 |true =>
 rw[hnm] at C;subst C;have t:Hid (r=(decide (x.H.size<=2000) && kindOk f p x)):=by show r=_;rw[ZO.out];unfold bi;rw[<-X.out,hnm];rfl
 clear ZO;have c0:=u.c0;have c1:=u.c1;have c2:=u.c2;have c3:=u.c3;have c4:=u.c4;have c5:=u.c5;cases h1:(x.L == 1) with
 |true =>
  have y:x.L=1:=by simpa using h1
  have g:Hid ((decide (x.H.size<=2000) && aU x)=r):=(t.trans (by unfold kindOk;rw[j6 y])).symm;clear y;go_wp2_with fail;refine(sX x a0 m a1 o _).mono ?_;rintro e ZI ⟨rfl,l⟩;have K:=ae (i.trans (l.mono i.size));clear l;go_wp2;go_ret;exact⟨zi g,K⟩
 |false =>
 cases h2:(x.L == 2) with
 |true =>
  have y:x.L=2:=by simpa using h2
  have g:Hid (r=(aU x && decide (x.H.size=0))):=t.trans (by
   unfold kindOk;rw[eT (by omega),j6 y];by_cases h:x.H.size=0;{simp[h]}
   ·simp[h])
  clear y t;cases g1:(x.M == 0) with
  |false =>
   obtain rfl:r=ZA:=by rw[g.out];simp at g1;simp[aU,g1]
   go_wp2;go_ret;exact⟨rfl,i⟩
  |true =>
  cases g2:x.H.toList.isEmpty with
  |false =>
   obtain rfl:r=ZA:=by rw[g.out,<-kJ,g2];simp
   go_wp2;go_ret;exact⟨rfl,i⟩
  |true =>
  cases g3:((x.h:Int) == 0) with
  |false =>
   obtain rfl:r=ZA:=by rw[g.out];simp at g3;simp[aU];omega
   go_wp2;go_ret;exact⟨rfl,i⟩
  |true =>
  cases g4:((x.f:Int) == 0) with
  |false =>
   obtain rfl:r=ZA:=by rw[g.out];simp at g4;simp[aU];omega
   go_wp2;go_ret;exact⟨rfl,i⟩
  |true =>
   obtain rfl:r=ZD:=by rw[g.out,<-kJ,g2];simp at g1 g3 g4;simp[aU,g1,g3,g4]
   go_wp2;go_ret;exact⟨rfl,i⟩
 |false =>
 cases h3:(x.L == 3) with
 |false =>
  obtain rfl:r=ZA:=by rw[t.out];unfold kindOk;simp at h1 h2 h3;rw[eT h1,eT h2,eT h3];simp
  go_wp2;go_ret;exact⟨rfl,i⟩
 |true =>have g:Hid ((decide (x.H.size<=2000) && bW f p x)=r):=(t.trans (by unfold kindOk;simp at h1 h2 h3;rw[eT h1,eT h2,j6 h3])).symm;have k1:=K1.out;have H:=ae (ZT ZJ i);rw[g.out] at H;clear ZT t;go_wp2_with fail;refine H.mono ?_;rintro e ZI ⟨rfl,l⟩;have K:=ae (i.trans (l.mono i.size));clear l;go_wp2;go_ret;exact⟨rfl,K⟩
