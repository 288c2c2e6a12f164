import Derived.Test.YtpmnbjkjpnclaaaGreatDoorSD
import Derived.Deep.DeepCutAuto
set_option maxRecDepth 100000
set_option maxHeartbeats 4000000
open Go renaming Addr.mk->Q,Value.slice->Z,Value.string->Y,Value.int->J,Value.bool->ZD,Obj.cells->N,IntKind.i64->I,World->M,Value->ZC,Ending.returned->ZF,World.alloc->A,Proofs.Tryz.prog->Pg
open Option renaming none->U,some->T
open Bool renaming false->ZA,true->ZG
namespace Go.Proofs.YtpmnbjkjpnclaaaGreatDoor.Vp
open Tryz RowKit
abbrev Gs (x:Deed)(a0:Option Addr)(c:Nat)(a1:Option Addr)(b:Nat):ZC:=.agg #[Y x.e,J I x.m,J I x.E,Y x.B,Z a0 x.f c,Z a1 x.b b]
abbrev JW (l:Link):ZC:=.agg #[Y l.e,ZD l.ask,ZD l.has,J I l.L]
theorem pM (x:Deed)(a0:Option Addr)(c:Nat)(a1:Option Addr)(b:Nat)(w:M):Calls Pg 251 #[Gs x a0 c a1 b] w λe i=>e=ZF (ZD (aY x))/\Below w.heap.size w i:=by
 have f:=ae ((q9 w).alloc ly (N #[Y x.e,J I x.m,J I x.E,Y x.B,Z a0 x.f c,Z a1 x.b b] 46));obtain⟨r,h⟩:∃r,r=aY x:=⟨_,rfl⟩
 rw[<-h];have g:=ae h;clear h;go_enter func251,ntmps251;cases h1:(x.E == 0) with
 |false =>
  obtain rfl:r=ZA:=by rw[g.out];simp at h1;simp[aY,h1]
  go_wp2;go_ret;exact⟨rfl,f⟩
 |true =>
  cases h2:((x.f:Int) == 0) with
  |false =>
   obtain rfl:r=ZA:=by rw[g.out];simp at h2;simp[aY];omega
   go_wp2;go_ret;exact⟨rfl,f⟩
  |true =>
   cases h3:((x.b:Int) == 0) with
   |false =>
    obtain rfl:r=ZA:=by rw[g.out];simp at h3;simp[aY];omega
    go_wp2;go_ret;exact⟨rfl,f⟩
   |true =>
    obtain rfl:r=ZG:=by rw[g.out];simp at h1 h2 h3;simp[aY,h1,h2,h3]
    go_wp2;go_ret;exact⟨rfl,f⟩
def dL (f:Nat->Deed)(p:Nat)(l:Link):Bool:=if l.ask=ZG then !l.has && decide (0<=l.L) && decide (l.L<(p:Int)) && ((f l.L.toNat).e.toList == l.e.toList) else decide (l.L=0)
theorem dT (f:Nat->Deed)(p:Nat)(l:Link):eu f p l=(aw l.e && dL f p l):=rfl
theorem mH (b off n p cap:Nat)(f:Nat->Deed)(l:Link)(w:M)(hp:p<=n)(i:RowDeed w b off n f):Calls Pg 284 #[Z (T (Q b off U)) p cap,JW l] w λe j=>e=ZF (ZD (dL f p l))/\Below w.heap.size w j:=by
 have c:=ae ((q9 w).alloc ly (N #[Y l.e,ZD l.ask,ZD l.has,J I l.L] 91));have o:=ae (i.aa c ly);have hb:=i.1;clear i;obtain⟨r,g⟩:∃r,r=dL f p l:=⟨_,rfl⟩
 rw[<-g];have h:=ae g;clear g;obtain⟨nm,ask,has,at_⟩:=l;go_enter func284,ntmps284;cases ask with
 |false =>
  cases h1:(at_ == 0) with
  |true =>
   obtain rfl:r=ZG:=by rw[h.out];simp at h1;simp[dL,h1]
   go_wp2;go_ret;exact⟨rfl,c⟩
  |false =>
   obtain rfl:r=ZA:=by rw[h.out];simp at h1;simp[dL,h1]
   go_wp2;go_ret;exact⟨rfl,c⟩
 |true =>
  cases has with
  |true =>
   obtain rfl:r=ZA:=by rw[h.out];simp[dL]
   go_wp2_with fail;go_quiet (fail);go_wp2;go_ret;exact⟨rfl,BM c _⟩
  |false =>
   by_cases h1:0<=at_
   ·by_cases h2:at_<(p:Int)
    ·obtain⟨q,rfl⟩:∃q:Nat,at_=(q:Int):=⟨at_.toNat,by omega⟩
     have m:q<n:=by omega
     have d0:=(o.2 q m).1;have e:r=((f q).e.toList == nm.toList):=by rw[h.out];simp[dL,h2]
     cases g:((f q).e.toList == nm.toList) with
     |true =>rw[g] at e;subst e;go_wp2_with fail;go_quiet (fail);go_wp2;go_ret;exact⟨rfl,BM c _⟩
     |false =>rw[g] at e;subst e;go_wp2_with fail;go_quiet (fail);go_wp2;go_ret;exact⟨rfl,BM c _⟩
    ·obtain rfl:r=ZA:=by rw[h.out];simp[dL,h2]
     have h3:decide (at_<(p:Int))=ZA:=by simpa using h2
     go_wp2_with fail;go_quiet (fail);go_wp2;go_ret;exact⟨rfl,BM c _⟩
   ·obtain rfl:r=ZA:=by rw[h.out];simp[dL,h1]
    have h3:decide (0<=at_)=ZA:=by simpa using h1
    go_wp2_with fail;go_quiet (fail);go_wp2;go_ret;exact⟨rfl,BM c _⟩
theorem lL {f:Nat->Deed}{p:Nat}{x:Deed}{k m:Nat}(hk:k<m)(h:bN f p x (k+1)=ZA):bN f p x m=ZA:=by
 induction m with
 |zero=>omega
 |succ j b =>
  by_cases e:k=j;{subst e;exact h};{rw[bN,b (by omega)];rfl}
theorem qS (b off n cap p:Nat)(f:Nat->Deed)(w:M)(hp:p<n)(D:RowDeed w b off n f)(hcap:(p:Int)<=cap):Calls Pg 252 #[.agg #[Z (T (Q b off U)) n cap],J I (p:Int)] w λe ZJ=>e=ZF (ZD (decide ((f p).b<=200) && bN f p (f p) (f p).b))/\Below w.heap.size w ZJ:=by
 have j:=ae ((q9 w).alloc ly (N #[Z (T (Q b off U)) n cap] 37));have HF:=ae D;obtain⟨_,_,_,_,_,⟨a1,cap1,K,r1⟩⟩:=D.2 p hp;have hb:=D.1;have k0:(A w (N #[Z (T (Q b off U)) n cap] 37)).cell? (Q w.heap.size 0 U)=T (Z (T (Q b off U)) n cap):=by simp
 have p5:=(j.cell (p:=(Q b (off+p*6+5) U)) hb).trans K;have R:=ae r1;have B:w.heap.size<(A w (N #[Z (T (Q b off U)) n cap] 37)).heap.size:=by simp
 clear r1 K D;obtain⟨m,ZI⟩:∃m,m=(f p).b:=⟨_,rfl⟩
 obtain⟨L,hL⟩:∃L,L=(f p).D:=⟨_,rfl⟩
 rw[<-ZI] at p5 R ⊢;rw[<-hL] at R;have HM:=ae ZI;have aq:=ae hL;clear ZI hL;by_cases hbig:(200:Int)<(m:Int)
 ·obtain⟨r,ZL⟩:∃r,r=(decide (m<=200) && bN f p (f p) m):=⟨_,rfl⟩
  rw[<-ZL];obtain rfl:r=ZA:=by rw[ZL];simp;omega
  clear ZL;go_enter func252,ntmps252;go_wp2;go_ret;exact⟨rfl,j⟩
 have hd:decide (m<=200)=ZG:=by simp;omega
 rw[hd,UN];clear hd;go_enter func252,ntmps252;go_wp2;generalize World.alloc w _=W at j k0 B ⊢;clear p5;go_loopw [19] (λi wr=>∃k:Nat,k<=m/\i=J I k/\Hid (bN f p (f p) k=ZG)/\Hid (Below W.heap.size W wr)) (λi _=>m - (intOf i).toNat);case atStart=>exact⟨0,by omega,rfl,rfl,dB _ _⟩
 case round =>
  obtain⟨k,hk,rfl,V,q⟩:=hrel;by_cases u:k<m
  ·obtain⟨lb,lo,rfl,dg,y⟩:=R.resolve_left (by omega);have hx:=(y k u).aa (j.trans (q.mono j.size)) dg;obtain⟨l,O⟩:∃l,l=L k:=⟨_,rfl⟩
   rw[<-O] at hx;have bt:=ae O;obtain⟨d0,d1,d2,d3⟩:=hx;clear O y;have ZQ:Hid (bN f p (f p) (k+1)=eu f p l):=by show(bN f p (f p) k && eu f p ((f p).D k))=_;rw[V.out,UN,<-aq.out,<-bt.out]
   have ZR:=ae ((j.trans (q.mono j.size)).alloc (by have:=j.size;have:=q.size;omega) (N #[Y l.e,ZD l.ask,ZD l.has,J I l.L] 91));have C:=ae ((q).alloc q.size (N #[Y l.e,ZD l.ask,ZD l.has,J I l.L] 91));have H:(A wr (N #[Y l.e,ZD l.ask,ZD l.has,J I l.L] 91)).cell? (Q wr.heap.size 0 U)=T (Y l.e):=by simp
   have E:(A wr (N #[Y l.e,ZD l.ask,ZD l.has,J I l.L] 91)).cell? (Q wr.heap.size 1 U)=T (ZD l.ask):=by simp
   have ZP:(A wr (N #[Y l.e,ZD l.ask,ZD l.has,J I l.L] 91)).cell? (Q wr.heap.size 2 U)=T (ZD l.has):=by simp
   have G:(A wr (N #[Y l.e,ZD l.ask,ZD l.has,J I l.L] 91)).cell? (Q wr.heap.size 3 U)=T (J I l.L):=by simp
   have hX:wr.heap.size<(A wr (N #[Y l.e,ZD l.ask,ZD l.has,J I l.L] 91)).heap.size:=by simp
   have ZO:=(C.cell (p:=(Q w.heap.size 0 U)) B).trans k0;have x:w.heap.size<(A wr (N #[Y l.e,ZD l.ask,ZD l.has,J I l.L] 91)).heap.size:=lj B C.size;have ZK:=ae (HF.aa ZR ly);go_upto_region 7 with fail;clear d0 d1 d2 d3;generalize World.alloc wr _=F at ZR C H E ZP G hX ZO x ZK ⊢;generalize wr.heap.size=X at H E ZP G hX ⊢;have hp0:0<=(p:Int):=by omega
   have hpn:(p:Int)<=n:=by omega
   have ZN:p<=n:=by omega
   have hcap':p<=cap:=by omega
   cases hnm:aw l.e with
   |false =>
    have hq:∀w,Calls Pg 109 #[Y l.e] w λe ZJ=>e=ZF (ZD ZA)/\ZJ=w:=λw=>by rw[<-hnm];exact wI l.e w
    go_quiet ((go_at_call 109;exact Calls.quiet_of_same (hq _)));have hN:eu f p l=ZA:=by rw[dT,hnm];rfl
    have t:=ae (ZQ.trans hN);have s:=ae u;have G1:=ae (BM ZR nq);clear hN;go_wp2;go_ret;exact⟨wA (λz=>Ending.returned (ZD z)) (lL s t).symm,G1⟩
   |true =>
    cases hla:dL f p l with
    |true =>
     go_region_with (first
      |(go_at_call 109;refine(ju _ _).mono ?_;rintro e ZM ⟨h,c⟩;rw[hnm] at h;subst h;have g:Hid (Below F.heap.size F ZM):=⟨c.os,c.tape,c.output,c.size,c.block⟩;have f0:=(g.cell (p:=(Q X 0 U)) hX).trans H;have f1:=(g.cell (p:=(Q X 1 U)) hX).trans E;have f2:=(g.cell (p:=(Q X 2 U)) hX).trans ZP;have f3:=(g.cell (p:=(Q X 3 U)) hX).trans G;have k2:=(g.cell (p:=(Q w.heap.size 0 U)) x).trans ZO;have F2:=ae (ZK.aa g ly);clear c)
      |(go_at_call 284;refine(mH b off n p cap f l _ ZN F2).mono ?_;rintro e w2 ⟨h,o⟩;rw[hla] at h;subst h;have S:=ae (g.trans (o.mono g.size));clear o))
     all_goals
      have t:Hid (bN f p (f p) (k+1)=ZG):=ZQ.trans (by rw[dT,hnm,hla];rfl);have P:=ae (C.trans (S.mono C.size));go_wp2;exact⟨⟨k+1,by omega,by go_num,t,P⟩,by simp[intOf];omega⟩
    |false =>
     go_region_with (first
      |(go_at_call 109;refine(ju _ _).mono ?_;rintro e ZM ⟨h,c⟩;rw[hnm] at h;subst h;have g:Hid (Below F.heap.size F ZM):=⟨c.os,c.tape,c.output,c.size,c.block⟩;have f0:=(g.cell (p:=(Q X 0 U)) hX).trans H;have f1:=(g.cell (p:=(Q X 1 U)) hX).trans E;have f2:=(g.cell (p:=(Q X 2 U)) hX).trans ZP;have f3:=(g.cell (p:=(Q X 3 U)) hX).trans G;have k2:=(g.cell (p:=(Q w.heap.size 0 U)) x).trans ZO;have F2:=ae (ZK.aa g ly);clear c)
      |(go_at_call 284;refine(mH b off n p cap f l _ ZN F2).mono ?_;rintro e w2 ⟨h,o⟩;rw[hla] at h;subst h;have S:=ae (g.trans (o.mono g.size));clear o))
     all_goals
      have t:Hid (bN f p (f p) (k+1)=ZA):=ZQ.trans (by rw[dT,hnm,hla];rfl);have s:=ae u;have P:=ae (ZR.trans (S.mono (by have:=ZR.size;omega)));go_wp2;go_ret;exact⟨wA (λz=>Ending.returned (ZD z)) (lL s t).symm,P⟩
  ·have e:m=k:=by omega
   subst e;go_wp2;go_ret;exact⟨by rw[HM.out] at V;rw[HM.out];exact wA (λz=>Ending.returned (ZD z)) V.symm,j.trans (q.mono j.size)⟩
structure SixB (w:M)(b:Nat)(v0 v1 v2 v3 v4 v5:ZC):Prop where
 lt:b<w.heap.size
 c0:w.cell? (Q b 0 U)=T v0
 c1:w.cell? (Q b 1 U)=T v1
 c2:w.cell? (Q b 2 U)=T v2
 c3:w.cell? (Q b 3 U)=T v3
 c4:w.cell? (Q b 4 U)=T v4
 c5:w.cell? (Q b 5 U)=T v5
theorem SixB.aa {w c:M}{b:Nat}{g f i j m l:ZC}(h:SixB w b g f i j m l)(hb:Below w.heap.size w c):SixB c b g f i j m l :=
 ⟨lj h.lt hb.size,(hb.cell (p:=(Q b 0 U)) h.lt).trans h.c0,(hb.cell (p:=(Q b 1 U)) h.lt).trans h.c1,(hb.cell (p:=(Q b 2 U)) h.lt).trans h.c2,(hb.cell (p:=(Q b 3 U)) h.lt).trans h.c3,(hb.cell (p:=(Q b 4 U)) h.lt).trans h.c4,(hb.cell (p:=(Q b 5 U)) h.lt).trans h.c5⟩
theorem lM (w:M)(f c b g i h:ZC)(t:TypeId):SixB (A w (N #[f,c,b,g,i,h] t)) w.heap.size f c b g i h:=⟨by simp,by simp,by simp,by simp,by simp,by simp,by simp⟩
theorem lN (t:ByteArray):t.toList.isEmpty=decide (t.size=0):=by rw[BG];obtain⟨⟨l⟩⟩:=t;cases l<;>simp[ByteArray.size]
theorem AH {a b:Bool}(h:a=b):Ending.returned (ZD a)=Ending.returned (ZD b):=by rw[h]
theorem tz (b off n cap p:Nat)(f:Nat->Deed)(w:M)(O:p<n)(C:RowDeed w b off n f)(ZP:(p:Int)<=cap)(u:(f p).f<=1048576)(ZM:Tab w):Calls Pg 205 #[.agg #[Z (T (Q b off U)) n cap],J I (p:Int)] w λe ZK=>e=ZF (ZD (bi f p))/\Below w.heap.size w ZK:=by
 have HF:=ae C;have ZL:=ae ZM;have hb:=C.1;obtain⟨R,S,L,X,⟨a0,l,ZJ,H⟩,⟨a1,m,ZQ,q5⟩⟩:=C.2 p O;obtain⟨r,ZN⟩:∃r,r=bi f p:=⟨_,rfl⟩
 rw[<-ZN];have D:=ae ZN;obtain⟨x,G⟩:∃x,x=f p:=⟨_,rfl⟩
 rw[<-G] at R S L X ZJ ZQ H u;have F:=ae G;have Q4:=ae H;clear ZN G H q5 C ZM;obtain⟨W,q⟩:∃W:M,(A w (N #[Z (T (Q b off U)) n cap] 37)).alloc (N #[Y x.e,J I x.m,J I x.E,Y x.B,Z a0 x.f l,Z a1 x.b m] 46)=W:=⟨_,rfl⟩
 obtain⟨ZR,-,-,-⟩:=nb2 q;have y:=ae q;clear q;have z:=ae (lM (A w (N #[Z (T (Q b off U)) n cap] 37)) (Y x.e) (J I x.m) (J I x.E) (Y x.B) (Z a0 x.f l) (Z a1 x.b m) 46);have hz:(A w (N #[Z (T (Q b off U)) n cap] 37)).heap.size=w.heap.size+1:=by simp
 rw[hz] at z;have V:Hid (W.cell? (Q w.heap.size 0 U)=T (Z (T (Q b off U)) n cap)):=by rw[<-y.out];show World.cell? _ _=_;simp
 clear hz;go_enter func205,ntmps205;go_wp2_with fail;rw[y.out] at z ⊢;clear y;clear R S L X ZJ ZQ;cases hnm:aw x.e with
 |false =>
  refine(ju x.e _).mono ?_;rintro e w1 ⟨g,c⟩;rw[hnm] at g;subst g;have i:=ae (ZR.trans (c.mono ZR.size));obtain rfl:r=ZA:=by rw[D.out];unfold bi;rw[<-F.out,hnm];rfl
  clear c;go_wp2;go_ret;exact⟨rfl,i⟩
 |true =>
 refine(ju x.e _).mono ?_;rintro e w1 ⟨g,c⟩;rw[hnm] at g;subst g;have i:=ae (ZR.trans (c.mono ZR.size));have j:=ae (z.aa c);have K1:=ae ((c.cell (p:=(Q w.heap.size 0 U)) (U4 z.lt)).trans V);have c1:=j.c1;have c2:=j.c2;have c3:=j.c3;clear c ZR z V;by_cases hbig:(2000:Int)<(x.B.size:Int)
 ·obtain rfl:r=ZA:=by rw[D.out];unfold bi;rw[<-F.out,hnm];simp;omega
  go_wp2;go_ret;exact⟨rfl,i⟩
 have E:Hid (r=kindOk f p x):=by show r=_;rw[D.out];unfold bi;rw[<-F.out,hnm,show decide (x.B.size<=2000)=ZG by simp;omega];rfl
 clear D;cases h1:(x.m == 1) with
 |true =>
  have s:x.m=1:=by simpa using h1
  have h:Hid (aY x=r):=(E.trans (by unfold kindOk;rw[p6 s])).symm;clear s;have c0:=j.c0;have c4:=j.c4;have c5:=j.c5;go_wp2_with fail;refine(pM x a0 l a1 m _).mono ?_;rintro e K ⟨rfl,c⟩;have o:=ae (i.trans (c.mono i.size));clear c;go_wp2;go_ret;exact⟨AH h,o⟩
 |false =>
 cases h2:(x.m == 2) with
 |true =>
  have s:x.m=2:=by simpa using h2
  have h:Hid (r=(aY x && decide (x.B.size=0))):=E.trans (by unfold kindOk;rw[gM (by omega),p6 s]);clear s;have c0:=j.c0;have c4:=j.c4;have c5:=j.c5;go_wp2_with fail;refine(pM x a0 l a1 m _).mono ?_;rintro e K ⟨g,c⟩;have o:=ae (i.trans (c.mono i.size));have d3:=(j.aa c).c3;clear c;cases hu:aY x with
  |false =>
   rw[hu] at g;subst g;obtain rfl:r=ZA:=by rw[h.out,hu];rfl
   go_wp2;go_ret;exact⟨rfl,o⟩
  |true =>
   rw[hu] at g;subst g;have t:Hid (decide (x.B.size=0)=r):=by show _=r;rw[h.out,hu];rfl
   go_wp2;go_ret;exact⟨cG (by rw[lN];exact t),o⟩
 |false =>
 cases h3:(x.m == 3) with
 |false =>
  obtain rfl:r=ZA:=by rw[E.out];unfold kindOk;simp at h1 h2 h3;rw[gM h1,gM h2,gM h3]
  go_wp2;go_ret;exact⟨rfl,i⟩
 |true =>
 have h:Hid (r=cH f p x):=E.trans (by unfold kindOk;simp at h1 h2 h3;rw[gM h1,gM h2,p6 h3]);by_cases ZO:0<=x.E
 ·by_cases P:x.E<=5
  ·have c4:=j.c4;go_wp2_with fail;refine(ub a0 x.f l x.H _ u (Q4.aa i ly) (ZL.aa i ZL.1)).mono ?_;rintro e K ⟨g,c⟩;have o:=ae (i.trans (c.mono i.size));have K2:=(c.cell (p:=(Q w.heap.size 0 U)) (U4 j.lt)).trans K1;clear c;cases hv:valid x.H x.f with
   |false =>
    rw[hv] at g;subst g;obtain rfl:r=ZA:=by rw[h.out];simp[cH,hv]
    go_wp2;go_ret;exact⟨rfl,o⟩
   |true =>
    rw[hv] at g;subst g;have t:Hid ((decide (x.b<=200) && bN f p x x.b)=r):=by show _=r;rw[h.out];simp[cH,hv,ZO,P]
    have B:=ae (qS b off n cap p f K O (HF.aa o ly) ZP);rw[<-F.out] at B;rw[t.out] at B;go_wp2_with fail;refine B.mono ?_;rintro e w3 ⟨rfl,c⟩;have ZI:=ae (o.trans (c.mono o.size));clear c;go_wp2;go_ret;exact⟨rfl,ZI⟩
  ·obtain rfl:r=ZA:=by rw[h.out];simp[cH,P]
   go_wp2;go_ret;exact⟨rfl,i⟩
 ·obtain rfl:r=ZA:=by rw[h.out];simp[cH,ZO]
  go_wp2;go_ret;exact⟨rfl,i⟩
theorem tA (b off n cap:Nat)(f:Nat->Deed)(w:M)(hn:(n:Int)<=400)(x:RowDeed w b off n f)(hcap:(n:Int)<=cap)(h:∀i,i<n->cV (f i))(z:Tab w):Calls Pg 148 #[.agg #[Z (T (Q b off U)) n cap]] w λe ZN=>e=ZF (J I (aM (bi f) n))/\Below w.heap.size w ZN:=by
 have K:=ae x;have ZR:=ae z;have ZP:=ae h;clear x z h;obtain⟨W,g⟩:∃W:M,A w (N #[Z (T (Q b off U)) n cap] 37)=W:=⟨_,rfl⟩
 obtain⟨D,-,-⟩:=nb1 g;have c:=ae g;clear g;have F:W.cell? (Q w.heap.size 0 U)=T (Z (T (Q b off U)) n cap):=by rw[<-c.out];simp
 have B:w.heap.size<W.heap.size:=by rw[<-c.out];simp
 obtain⟨r,s⟩:∃r,r=aM (bi f) n:=⟨_,rfl⟩
 rw[<-s];have C:=ae s;clear s;go_enter func148,ntmps148;go_wp2;rw[c.out];clear c;go_loopw [7] (λi wr=>∃k:Nat,k<=n/\i=J I k/\Hid (∀j,j<k->bi f j=ZG)/\Hid (Below W.heap.size W wr)) (λi _=>n - (intOf i).toNat);case atStart=>exact⟨0,by omega,rfl,λj y=>absurd y (PK _),dB _ _⟩
 case round =>
  obtain⟨k,hk,rfl,t,q⟩:=hrel;have k1:=(q.cell (p:=(Q w.heap.size 0 U)) B).trans F;have m:=ae (D.trans (q.mono D.size));by_cases l:k<n
  ·go_wp2_with fail;refine(tz b off n cap k f _ l (K.aa m ly) (by omega) (ZP k l).1 (ZR.aa m ZR.1)).mono ?_;rintro e w2 ⟨o,u⟩;have E:=ae (m.trans (u.mono m.size));have H:=ae (q.trans (u.mono q.size));clear u;cases hd:bi f k with
   |true =>
    rw[hd] at o;subst o;have G:=ae hd;clear hd;go_wp2
    exact⟨⟨k+1,by omega,by go_num,λj y=>by
     by_cases e:j=k;{subst e;exact G}
     ·exact t j (by omega),H⟩,by simp[intOf];omega⟩
   |false =>
    rw[hd] at o;subst o;obtain rfl:r=k:=by rw[C.out];exact fP l hd t
    clear hd;go_wp2;go_ret;exact⟨rfl,E⟩
  ·have e:n=k:=by omega
   subst e;obtain rfl:r=-1:=by rw[C.out];exact fD t
   go_wp2;go_ret;exact⟨rfl,m⟩
theorem uc (x:Deed)(a0:Option Addr)(f:Nat)(a1:Option Addr)(b:Nat)(w:M):Calls Pg 209 #[Gs x a0 f a1 b] w λe j=>e=ZF (ZD (decide (x.B.size<=2000) && aY x))/\Below w.heap.size w j:=by
 have c:=ae ((q9 w).alloc ly (N #[Y x.e,J I x.m,J I x.E,Y x.B,Z a0 x.f f,Z a1 x.b b] 46));obtain⟨r,h⟩:∃r,r=(decide (x.B.size<=2000) && aY x):=⟨_,rfl⟩
 rw[<-h];have g:=ae h;clear h;go_enter func209,ntmps209;cases h1:(x.E == 0) with
 |false =>
  obtain rfl:r=ZA:=by rw[g.out];simp at h1;simp[aY,h1]
  go_wp2;go_ret;exact⟨rfl,c⟩
 |true =>
  by_cases h4:(x.B.size:Int)<=2000
  ·have i:decide (x.B.size<=2000)=ZG:=by simp;omega
   cases h2:((x.f:Int) == 0) with
   |false =>
    obtain rfl:r=ZA:=by rw[g.out];simp at h2;simp[aY];omega
    go_wp2;go_ret;exact⟨rfl,c⟩
   |true =>
    cases h3:((x.b:Int) == 0) with
    |false =>
     obtain rfl:r=ZA:=by rw[g.out];simp at h3;simp[aY];omega
     go_wp2;go_ret;exact⟨rfl,c⟩
    |true =>
     obtain rfl:r=ZG:=by rw[g.out,i];simp at h1 h2 h3;simp[aY,h1,h2,h3]
     go_wp2;go_ret;exact⟨rfl,c⟩
  ·obtain rfl:r=ZA:=by rw[g.out];simp;omega
   go_wp2;go_ret;exact⟨rfl,c⟩
theorem qT (b off n cap p:Nat)(f:Nat->Deed)(w:M)(hp:p<n)(K:RowDeed w b off n f)(ZN:(f p).f<=1048576)(F:∀j,j<(f p).f->((f p).H j).s.size<=maxLen):Calls Pg 210 #[.agg #[Z (T (Q b off U)) n cap],J I (p:Int)] w λe w'=>e=ZF (ZD (decide ((f p).B.size<=2000) && cH f p (f p)))/\Below w.heap.size w w':=by
 have HF:=ae K;have hb:=K.1;obtain⟨p0,p1,p2,p3,⟨a0,t,p4,q4⟩,⟨a1,z,p5,q5⟩⟩:=K.2 p hp;obtain⟨x,hx⟩:∃x,x=f p:=⟨_,rfl⟩
 rw[<-hx] at p0 p1 p2 p3 p4 p5 q4 q5 ZN F ⊢;have HX:=ae hx;have Q4:=ae q4;have Q5:=ae q5;have HZ:=ae F;clear hx q4 q5 K F;have y:=ae (((q9 w).alloc ly (N #[Z (T (Q b off U)) n cap] 37)).alloc (by simp) (N #[Y x.e,J I x.m,J I x.E,Y x.B,Z a0 x.f t,Z a1 x.b z] 46));have u:=ae (lM (A w (N #[Z (T (Q b off U)) n cap] 37)) (Y x.e) (J I x.m) (J I x.E) (Y x.B) (Z a0 x.f t) (Z a1 x.b z) 46);have hz:(A w (N #[Z (T (Q b off U)) n cap] 37)).heap.size=w.heap.size+1:=by simp
 rw[hz] at u;have K0:Hid (((A w (N #[Z (T (Q b off U)) n cap] 37)).alloc (N #[Y x.e,J I x.m,J I x.E,Y x.B,Z a0 x.f t,Z a1 x.b z] 46)).cell? (Q w.heap.size 0 U)=T (Z (T (Q b off U)) n cap)):=by show World.cell? _ _=_;simp
 clear hz;obtain⟨r,D⟩:∃r,r=(decide (x.B.size<=2000) && cH f p x):=⟨_,rfl⟩
 rw[<-D];have C:=ae D;clear D;have c2:=u.c2;have c3:=u.c3;have c4:=u.c4;have c5:=u.c5;by_cases g1:0<=x.E;case neg =>
  obtain rfl:r=ZA:=by rw[C.out];simp[cH,g1]
  go_enter func210,XG;go_wp2;go_ret;exact⟨rfl,y⟩
 by_cases g2:x.E<=5;case neg =>
  obtain rfl:r=ZA:=by rw[C.out];simp[cH,g2]
  go_enter func210,XG;go_wp2;go_ret;exact⟨rfl,y⟩
 by_cases g3:(x.B.size:Int)<=2000;case neg =>
  obtain rfl:r=ZA:=by rw[C.out];simp;omega
  go_enter func210,XG;go_wp2;go_ret;exact⟨rfl,y⟩
 have ZI:decide (x.B.size<=2000)=ZG:=by simp;omega
 go_enter func210,XG;go_wp2_with fail;generalize World.alloc (World.alloc w _) _=W at y u K0 ⊢;clear p0 p1 p2 p3 p4 p5;refine(jM a0 x.f t x.H _ ZN (Q4.aa y ly) HZ).mono ?_;rintro e w1 ⟨o,c⟩;have R:=ae (y.trans (c.mono y.size));have S1:=ae (u.aa c);have K1:=ae ((c.cell (p:=(Q w.heap.size 0 U)) (U4 u.lt)).trans K0);clear c y u K0 c2 c3 c4 c5;have c5:=S1.c5;cases hv:valid x.H x.f with
 |false =>
  rw[hv] at o;subst o;obtain rfl:r=ZA:=by rw[C.out];simp[cH,hv]
  go_wp2;go_ret;exact⟨rfl,R⟩
 |true =>
 rw[hv] at o;subst o;have G:Hid (r=(decide (x.b<=200) && bN f p x x.b)):=by show r=_;rw[C.out,ZI];simp[cH,hv,g1,g2]
 clear C ZI hv;by_cases hbig:(200:Int)<(x.b:Int)
 ·obtain rfl:r=ZA:=by rw[G.out];simp;omega
  go_wp2;go_ret;exact⟨rfl,R⟩
 have ZJ:Hid (r=bN f p x x.b):=by show r=_;rw[G.out,show decide (x.b<=200)=ZG by simp;omega];rfl
 clear G;go_wp2;have aq:w.heap.size+1<w1.heap.size:=S1.lt;go_loopw [6] (λi wr=>∃k:Nat,k<=x.b/\i=J I k/\Hid (bN f p x k=ZG)/\Hid (Below w1.heap.size w1 wr)) (λi _=>x.b - (intOf i).toNat);case atStart=>exact⟨0,by omega,rfl,rfl,dB _ _⟩
 case round =>
  obtain⟨k,hk,rfl,HK,S⟩:=hrel;have e5:=(S.cell (p:=(Q (w.heap.size+1) 5 U)) aq).trans c5;have ZM:=ae (R.trans (S.mono R.size));by_cases H:k<x.b
  ·obtain⟨lb,lo,rfl,ZP⟩:=(Q5.aa ZM ly).resolve_left (by omega);have V:=ZP.2 k H;obtain⟨l,hl⟩:∃l,l=x.D k:=⟨_,rfl⟩
   rw[<-hl] at V;obtain⟨d0,d1,d2,d3⟩:=V;have HS:Hid (bN f p x (k+1)=eu f p l):=by show(bN f p x k && eu f p (x.D k))=_;rw[HK.out,UN,<-hl]
   clear hl ZP;have L:=ae (ZM.alloc ZM.size (N #[Y l.e,ZD l.ask,ZD l.has,J I l.L] 91));have E:=ae (S.alloc S.size (N #[Y l.e,ZD l.ask,ZD l.has,J I l.L] 91));have O:(A wr (N #[Y l.e,ZD l.ask,ZD l.has,J I l.L] 91)).cell? (Q wr.heap.size 0 U)=T (Y l.e):=by simp
   have ZQ:(A wr (N #[Y l.e,ZD l.ask,ZD l.has,J I l.L] 91)).cell? (Q wr.heap.size 1 U)=T (ZD l.ask):=by simp
   have P:(A wr (N #[Y l.e,ZD l.ask,ZD l.has,J I l.L] 91)).cell? (Q wr.heap.size 2 U)=T (ZD l.has):=by simp
   have ZO:(A wr (N #[Y l.e,ZD l.ask,ZD l.has,J I l.L] 91)).cell? (Q wr.heap.size 3 U)=T (J I l.L):=by simp
   have g:wr.heap.size<(A wr (N #[Y l.e,ZD l.ask,ZD l.has,J I l.L] 91)).heap.size:=by simp
   have kA:=(E.cell (p:=(Q w.heap.size 0 U)) (by show w.heap.size<_;omega)).trans K1;have ZL:w.heap.size<(A wr (N #[Y l.e,ZD l.ask,ZD l.has,J I l.L] 91)).heap.size:=by have:=E.size;omega
   go_wp2_with fail;clear d0 d1 d2 d3 e5;generalize World.alloc wr _=W1 at L E O ZQ P ZO g kA ZL ⊢;generalize wr.heap.size=X at O ZQ P ZO g ⊢;refine(dc l.e _).mono ?_;rintro e w2 ⟨o,c⟩;have B:=ae (L.trans (c.mono L.size));have C2:=ae (E.trans (c.mono E.size));have f0:=(c.cell (p:=(Q X 0 U)) g).trans O;have f1:=(c.cell (p:=(Q X 1 U)) g).trans ZQ;have f2:=(c.cell (p:=(Q X 2 U)) g).trans P;have f3:=(c.cell (p:=(Q X 3 U)) g).trans ZO;have kB:=(c.cell (p:=(Q w.heap.size 0 U)) ZL).trans kA;have FR:=ae (HF.aa B ly);clear c O ZQ P ZO kA L E;have HLT:=ae H;have no:eu f p l=ZA->r=ZA:=λh=>by rw[ZJ.out];exact lL H (HS.trans h)
   have m:=ae no;clear no;cases hnm:aw l.e with
   |false =>rw[hnm] at o;subst o;obtain rfl:r=ZA:=m.out (by rw[dT,hnm];rfl);go_wp2;go_ret;exact⟨rfl,B⟩
   |true =>
   rw[hnm] at o;subst o;cases hask:l.ask with
   |false =>
    rw[hask] at f1;cases h1:(l.L == 0) with
    |false =>obtain rfl:r=ZA:=m.out (by simp at h1;rw[dT,hnm];simp[dL,hask,h1]);go_wp2;go_ret;exact⟨rfl,B⟩
    |true =>have HN:Hid (bN f p x (k+1)=ZG):=HS.trans (by simp at h1;rw[dT,hnm];simp[dL,hask,h1]);go_wp2_with fail;go_quiet (fail);have C3:=ae (BM C2 nq);go_wp2;exact⟨⟨k+1,by omega,by go_num,HN,C3⟩,by simp[intOf];omega⟩
   |true =>
    rw[hask] at f1;cases hhas:l.has with
    |true =>rw[hhas] at f2;obtain rfl:r=ZA:=m.out (by rw[dT,hnm];simp[dL,hask,hhas]);go_wp2_with fail;go_quiet (fail);have ZR:=ae (BM B nq);go_wp2;go_ret;exact⟨rfl,ZR⟩
    |false =>
     rw[hhas] at f2;by_cases g4:0<=l.L
     ·by_cases g5:l.L<(p:Int)
      ·obtain⟨q,hq⟩:∃q:Nat,l.L=(q:Int):=⟨l.L.toNat,by omega⟩
       rw[hq] at f3 g5;have bt:q<n:=by omega
       have d0:=(FR.2 q bt).1;have h5:decide ((p:Int)<=(q:Int))=ZA:=by simp;omega
       have h5n:decide (p<=q)=ZA:=by simp;omega
       have h6:decide ((q:Int)<0)=ZA:=by simp
       have hq0:(0:Int)<=q:=by omega
       have hqn':(q:Int)<n:=by omega
       have ZK:Hid (dL f p l=((f q).e.toList == l.e.toList)):=by show dL f p l=_;simp[dL,hask,hhas,hq,g5]
       cases D:((f q).e.toList == l.e.toList) with
       |true =>have HN:Hid (bN f p x (k+1)=ZG):=HS.trans (by rw[dT,hnm,ZK.out,D];rfl);go_wp2_with fail;go_quiet (fail);have C3:=ae (BM C2 nq);go_wp2;exact⟨⟨k+1,by omega,by go_num,HN,C3⟩,by simp[intOf];omega⟩
       |false =>obtain rfl:r=ZA:=m.out (by rw[dT,hnm,ZK.out,D];rfl);go_wp2_with fail;go_quiet (fail);have ZR:=ae (BM B nq);go_wp2;go_ret;exact⟨rfl,ZR⟩
      ·obtain rfl:r=ZA:=m.out (by rw[dT,hnm];simp[dL,hask,g5]);have h5:(p:Int)<=l.L:=by omega
       have h6:decide (l.L<0)=ZA:=by simpa using g4
       go_wp2_with fail;go_quiet (fail);have ZR:=ae (BM B nq);go_wp2;go_ret;exact⟨rfl,ZR⟩
     ·obtain rfl:r=ZA:=m.out (by rw[dT,hnm];simp[dL,hask,g4]);have h6:l.L<0:=by omega
      go_wp2_with fail;go_quiet (fail);have ZR:=ae (BM B nq);go_wp2;go_ret;exact⟨rfl,ZR⟩
  ·have e:x.b=k:=by omega
   obtain rfl:r=ZG:=by rw[ZJ.out,e];exact HK
   have h5:((k:Int)<(x.b:Int))=False:=by simp;omega
   go_wp2;go_ret;exact⟨rfl,ZM⟩
theorem ud (b off n cap p:Nat)(f:Nat->Deed)(w:M)(ZO:p<n)(B:RowDeed w b off n f)(o:(f p).f<=1048576)(u:∀j,j<(f p).f->((f p).H j).s.size<=maxLen):Calls Pg 155 #[.agg #[Z (T (Q b off U)) n cap],J I (p:Int)] w λe D=>e=ZF (ZD (bi f p))/\Below w.heap.size w D:=by
 have z:=ae (λD (hb:Below w.heap.size w D)=>qT b off n cap p f D ZO (B.aa hb ly) o u);obtain⟨r,H⟩:∃r,r=bi f p:=⟨_,rfl⟩
 rw[<-H];have K:=ae H;clear H;have hb:=B.1;obtain⟨O,S,P,ZJ,⟨a0,m,ZL,L⟩,⟨a1,l,ZQ,ZM⟩⟩:=B.2 p ZO;obtain⟨x,ZN⟩:∃x,x=f p:=⟨_,rfl⟩
 rw[<-ZN] at O S P ZJ ZL ZQ L ZM o u z;have R:=ae ZN;clear ZN L ZM B u o;have E:=ae (((q9 w).alloc ly (N #[Z (T (Q b off U)) n cap] 37)).alloc (by simp) (N #[Y x.e,J I x.m,J I x.E,Y x.B,Z a0 x.f m,Z a1 x.b l] 46));have ZR:=ae (lM (A w (N #[Z (T (Q b off U)) n cap] 37)) (Y x.e) (J I x.m) (J I x.E) (Y x.B) (Z a0 x.f m) (Z a1 x.b l) 46);have hz:(A w (N #[Z (T (Q b off U)) n cap] 37)).heap.size=w.heap.size+1:=by simp
 rw[hz] at ZR;have ZP:Hid (((A w (N #[Z (T (Q b off U)) n cap] 37)).alloc (N #[Y x.e,J I x.m,J I x.E,Y x.B,Z a0 x.f m,Z a1 x.b l] 46)).cell? (Q w.heap.size 0 U)=T (Z (T (Q b off U)) n cap)):=by show World.cell? _ _=_;simp
 clear hz;go_enter func155,ntmps155;go_wp2_with fail;generalize World.alloc (World.alloc w _) _=W at E ZR ZP ⊢;clear O S P ZJ ZL ZQ;refine(dc x.e _).mono ?_;rintro e ZK ⟨C,i⟩;have g:=ae (E.trans (i.mono E.size));have q:=ae (ZR.aa i);have X:=ae ((i.cell (p:=(Q w.heap.size 0 U)) (U4 ZR.lt)).trans ZP);clear i E ZR ZP;cases hnm:aw x.e with
 |false =>
  rw[hnm] at C;subst C;obtain rfl:r=ZA:=by rw[K.out];unfold bi;rw[<-R.out,hnm];rfl
  go_wp2;go_ret;exact⟨rfl,g⟩
 |true =>
 rw[hnm] at C;subst C;have t:Hid (r=(decide (x.B.size<=2000) && kindOk f p x)):=by show r=_;rw[K.out];unfold bi;rw[<-R.out,hnm];rfl
 clear K;have c0:=q.c0;have c1:=q.c1;have c2:=q.c2;have c3:=q.c3;have c4:=q.c4;have c5:=q.c5;cases h1:(x.m == 1) with
 |true =>
  have y:x.m=1:=by simpa using h1
  have c:Hid ((decide (x.B.size<=2000) && aY x)=r):=(t.trans (by unfold kindOk;rw[p6 y])).symm;clear y;go_wp2_with fail;refine(uc x a0 m a1 l _).mono ?_;rintro e V ⟨rfl,i⟩;have G:=ae (g.trans (i.mono g.size));clear i;go_wp2;go_ret;exact⟨AH c,G⟩
 |false =>
 cases h2:(x.m == 2) with
 |true =>
  have y:x.m=2:=by simpa using h2
  have c:Hid (r=(aY x && decide (x.B.size=0))):=t.trans (by
   unfold kindOk;rw[gM (by omega),p6 y];by_cases h:x.B.size=0;{simp[h]}
   ·simp[h])
  clear y t;cases g1:(x.E == 0) with
  |false =>
   obtain rfl:r=ZA:=by rw[c.out];simp at g1;simp[aY,g1]
   go_wp2;go_ret;exact⟨rfl,g⟩
  |true =>
  cases g2:x.B.toList.isEmpty with
  |false =>
   obtain rfl:r=ZA:=by rw[c.out,<-lN,g2];simp
   go_wp2;go_ret;exact⟨rfl,g⟩
  |true =>
  cases g3:((x.f:Int) == 0) with
  |false =>
   obtain rfl:r=ZA:=by rw[c.out];simp at g3;simp[aY];omega
   go_wp2;go_ret;exact⟨rfl,g⟩
  |true =>
  cases g4:((x.b:Int) == 0) with
  |false =>
   obtain rfl:r=ZA:=by rw[c.out];simp at g4;simp[aY];omega
   go_wp2;go_ret;exact⟨rfl,g⟩
  |true =>
   obtain rfl:r=ZG:=by rw[c.out,<-lN,g2];simp at g1 g3 g4;simp[aY,g1,g3,g4]
   go_wp2;go_ret;exact⟨rfl,g⟩
 |false =>
 cases h3:(x.m == 3) with
 |false =>
  obtain rfl:r=ZA:=by rw[t.out];unfold kindOk;simp at h1 h2 h3;rw[gM h1,gM h2,gM h3];simp
  go_wp2;go_ret;exact⟨rfl,g⟩
 |true =>have c:Hid ((decide (x.B.size<=2000) && cH f p x)=r):=(t.trans (by unfold kindOk;simp at h1 h2 h3;rw[gM h1,gM h2,p6 h3])).symm;have k1:=X.out;have F:=ae (z ZK g);rw[c.out] at F;clear z t;go_wp2_with fail;refine F.mono ?_;rintro e V ⟨rfl,i⟩;have G:=ae (g.trans (i.mono g.size));clear i;go_wp2;go_ret;exact⟨rfl,G⟩
