import Derived.Test.YtpmnbjkjpnclaaaGreatDoorSD
import Derived.Deep.DeepCutAuto
set_option maxRecDepth 100000
set_option maxHeartbeats 4000000
open Go renaming Addr.mk->Q,Value.slice->Z,Value.string->U,Value.int->N,Value.bool->ZD,Value.agg->ZH,Obj.cells->J,IntKind.i64->I,World->M,Value->ZC,Ending.returned->ZF,World.alloc->A,Proofs.Tryz.prog->Pg
open Option renaming none->Y,some->T
open Bool renaming false->ZA,true->ZG
namespace Go.Proofs.YtpmnbjkjpnclaaaGreatDoor.Vp
open Tryz RowKit
abbrev Gz (x:Deed)(a0:Option Addr)(c:Nat)(a1:Option Addr)(b:Nat):ZC:=ZH #[U x.e,N I x.m,N I x.E,U x.B,Z a0 x.f c,Z a1 x.b b]
abbrev Kb (l:Link):ZC:=ZH #[U l.e,ZD l.ask,ZD l.has,N I l.L]
theorem pR (x:Deed)(a0:Option Addr)(c:Nat)(a1:Option Addr)(b:Nat)(w:M):Calls Pg 251 #[Gz x a0 c a1 b] w λe i=>e=ZF (ZD (aY x))/\Below w.heap.size w i:=by
 have g:=ae ((q9 w).alloc ly (J #[U x.e,N I x.m,N I x.E,U x.B,Z a0 x.f c,Z a1 x.b b] 46));obtain⟨r,h⟩:∃r,r=aY x:=⟨_,rfl⟩
 rw[<-h];have f:=ae h;clear h;go_enter func251,ntmps251;cases h1:(x.E == 0) with
 |false =>
  obtain rfl:r=ZA:=by rw[f.out];simp at h1;simp[aY,h1]
  go_wp2;go_ret;exact⟨rfl,g⟩
 |true =>
  cases h2:((x.f:Int) == 0) with
  |false =>
   obtain rfl:r=ZA:=by rw[f.out];simp at h2;simp[aY];omega
   go_wp2;go_ret;exact⟨rfl,g⟩
  |true =>
   cases h3:((x.b:Int) == 0) with
   |false =>
    obtain rfl:r=ZA:=by rw[f.out];simp at h3;simp[aY];omega
    go_wp2;go_ret;exact⟨rfl,g⟩
   |true =>
    obtain rfl:r=ZG:=by rw[f.out];simp at h1 h2 h3;simp[aY,h1,h2,h3]
    go_wp2;go_ret;exact⟨rfl,g⟩
def dM (f:Nat->Deed)(p:Nat)(l:Link):Bool:=if l.ask=ZG then !l.has && decide (0<=l.L) && decide (l.L<(p:Int)) && ((f l.L.toNat).e.toList == l.e.toList) else decide (l.L=0)
theorem dU (f:Nat->Deed)(p:Nat)(l:Link):ew f p l=(aw l.e && dM f p l):=rfl
theorem mK (b off n p cap:Nat)(f:Nat->Deed)(l:Link)(w:M)(hp:p<=n)(i:RowDeed w b off n f):Calls Pg 284 #[Z (T (Q b off Y)) p cap,Kb l] w λe m=>e=ZF (ZD (dM f p l))/\Below w.heap.size w m:=by
 have c:=ae ((q9 w).alloc ly (J #[U l.e,ZD l.ask,ZD l.has,N I l.L] 91));have j:=ae (i.aa c ly);have hb:=i.1;clear i;obtain⟨r,h⟩:∃r,r=dM f p l:=⟨_,rfl⟩
 rw[<-h];have g:=ae h;clear h;obtain⟨nm,ask,has,at_⟩:=l;go_enter func284,ntmps284;cases ask with
 |false =>
  cases h1:(at_ == 0) with
  |true =>
   obtain rfl:r=ZG:=by rw[g.out];simp at h1;simp[dM,h1]
   go_wp2;go_ret;exact⟨rfl,c⟩
  |false =>
   obtain rfl:r=ZA:=by rw[g.out];simp at h1;simp[dM,h1]
   go_wp2;go_ret;exact⟨rfl,c⟩
 |true =>
  cases has with
  |true =>
   obtain rfl:r=ZA:=by rw[g.out];simp[dM]
   go_wp2_with fail;go_quiet (fail);go_wp2;go_ret;exact⟨rfl,BM c _⟩
  |false =>
   by_cases h1:0<=at_
   ·by_cases h2:at_<(p:Int)
    ·obtain⟨q,rfl⟩:∃q:Nat,at_=(q:Int):=⟨at_.toNat,by omega⟩
     have o:q<n:=by omega
     have d0:=(j.2 q o).1;have e:r=((f q).e.toList == nm.toList):=by rw[g.out];simp[dM,h2]
     cases h:((f q).e.toList == nm.toList) with
     |true =>rw[h] at e;subst e;go_wp2_with fail;go_quiet (fail);go_wp2;go_ret;exact⟨rfl,BM c _⟩
     |false =>rw[h] at e;subst e;go_wp2_with fail;go_quiet (fail);go_wp2;go_ret;exact⟨rfl,BM c _⟩
    ·obtain rfl:r=ZA:=by rw[g.out];simp[dM,h2]
     have h3:decide (at_<(p:Int))=ZA:=by simpa using h2
     go_wp2_with fail;go_quiet (fail);go_wp2;go_ret;exact⟨rfl,BM c _⟩
   ·obtain rfl:r=ZA:=by rw[g.out];simp[dM,h1]
    have h3:decide (0<=at_)=ZA:=by simpa using h1
    go_wp2_with fail;go_quiet (fail);go_wp2;go_ret;exact⟨rfl,BM c _⟩
theorem lM {f:Nat->Deed}{p:Nat}{x:Deed}{k m:Nat}(hk:k<m)(h:bN f p x (k+1)=ZA):bN f p x m=ZA:=by
 induction m with
 |zero=>omega
 |succ j b =>
  by_cases e:k=j;{subst e;exact h};{rw[bN,b (by omega)];rfl}
theorem qV (b off n cap p:Nat)(f:Nat->Deed)(w:M)(hp:p<n)(ZQ:RowDeed w b off n f)(hcap:(p:Int)<=cap):Calls Pg 252 #[ZH #[Z (T (Q b off Y)) n cap],N I (p:Int)] w λe ZN=>e=ZF (ZD (decide ((f p).b<=200) && bN f p (f p) (f p).b))/\Below w.heap.size w ZN:=by
 have j:=ae ((q9 w).alloc ly (J #[Z (T (Q b off Y)) n cap] 37));have HF:=ae ZQ;obtain⟨_,_,_,_,_,⟨a1,cap1,K,r1⟩⟩:=ZQ.2 p hp;have hb:=ZQ.1;have k0:(A w (J #[Z (T (Q b off Y)) n cap] 37)).cell? (Q w.heap.size 0 Y)=T (Z (T (Q b off Y)) n cap):=by simp
 have p5:=(j.cell (p:=(Q b (off+p*6+5) Y)) hb).trans K;have HL:=ae r1;have B:w.heap.size<(A w (J #[Z (T (Q b off Y)) n cap] 37)).heap.size:=by simp
 clear r1 K ZQ;obtain⟨m,P⟩:∃m,m=(f p).b:=⟨_,rfl⟩
 obtain⟨L,hL⟩:∃L,L=(f p).D:=⟨_,rfl⟩
 rw[<-P] at p5 HL ⊢;rw[<-hL] at HL;have HM:=ae P;have bt:=ae hL;clear P hL;by_cases hbig:(200:Int)<(m:Int)
 ·obtain⟨r,R⟩:∃r,r=(decide (m<=200) && bN f p (f p) m):=⟨_,rfl⟩
  rw[<-R];obtain rfl:r=ZA:=by rw[R];simp;omega
  clear R;go_enter func252,ntmps252;go_wp2;go_ret;exact⟨rfl,j⟩
 have hd:decide (m<=200)=ZG:=by simp;omega
 rw[hd,UV];clear hd;go_enter func252,ntmps252;go_wp2;generalize World.alloc w _=W at j k0 B ⊢;clear p5;go_loopw [19] (λi wr=>∃k:Nat,k<=m/\i=N I k/\Hid (bN f p (f p) k=ZG)/\Hid (Below W.heap.size W wr)) (λi _=>m - (intOf i).toNat);case atStart=>exact⟨0,by omega,rfl,rfl,dB _ _⟩
 case round =>
  obtain⟨k,hk,rfl,ZJ,q⟩:=hrel;by_cases ZS:k<m
  ·obtain⟨lb,lo,rfl,aq,x⟩:=HL.resolve_left (by omega);have hx:=(x k ZS).aa (j.trans (q.mono j.size)) aq;obtain⟨l,ZL⟩:∃l,l=L k:=⟨_,rfl⟩
   rw[<-ZL] at hx;have dg:=ae ZL;obtain⟨d0,d1,d2,d3⟩:=hx;clear ZL x;have ZK:Hid (bN f p (f p) (k+1)=ew f p l):=by show(bN f p (f p) k && ew f p ((f p).D k))=_;rw[ZJ.out,UV,<-bt.out,<-dg.out]
   have y:=ae ((j.trans (q.mono j.size)).alloc (by have:=j.size;have:=q.size;omega) (J #[U l.e,ZD l.ask,ZD l.has,N I l.L] 91));have t:=ae ((q).alloc q.size (J #[U l.e,ZD l.ask,ZD l.has,N I l.L] 91));have E:(A wr (J #[U l.e,ZD l.ask,ZD l.has,N I l.L] 91)).cell? (Q wr.heap.size 0 Y)=T (U l.e):=by simp
   have D:(A wr (J #[U l.e,ZD l.ask,ZD l.has,N I l.L] 91)).cell? (Q wr.heap.size 1 Y)=T (ZD l.ask):=by simp
   have F:(A wr (J #[U l.e,ZD l.ask,ZD l.has,N I l.L] 91)).cell? (Q wr.heap.size 2 Y)=T (ZD l.has):=by simp
   have G:(A wr (J #[U l.e,ZD l.ask,ZD l.has,N I l.L] 91)).cell? (Q wr.heap.size 3 Y)=T (N I l.L):=by simp
   have hX:wr.heap.size<(A wr (J #[U l.e,ZD l.ask,ZD l.has,N I l.L] 91)).heap.size:=by simp
   have ZR:=(t.cell (p:=(Q w.heap.size 0 Y)) B).trans k0;have s:w.heap.size<(A wr (J #[U l.e,ZD l.ask,ZD l.has,N I l.L] 91)).heap.size:=lj B t.size;have ZM:=ae (HF.aa y ly);go_upto_region 7 with fail;clear d0 d1 d2 d3;generalize World.alloc wr _=H at y t E D F G hX ZR s ZM ⊢;generalize wr.heap.size=X at E D F G hX ⊢;have hp0:0<=(p:Int):=by omega
   have hpn:(p:Int)<=n:=by omega
   have ZP:p<=n:=by omega
   have hcap':p<=cap:=by omega
   cases hnm:aw l.e with
   |false =>
    have hq:∀w,Calls Pg 109 #[U l.e] w λe ZN=>e=ZF (ZD ZA)/\ZN=w:=λw=>by rw[<-hnm];exact wL l.e w
    go_quiet ((go_at_call 109;exact Calls.quiet_of_same (hq _)));have hN:ew f p l=ZA:=by rw[dU,hnm];rfl
    have C:=ae (ZK.trans hN);have u:=ae ZS;have G1:=ae (BM y nq);clear hN;go_wp2;go_ret;exact⟨wA (λz=>Ending.returned (ZD z)) (lM u C).symm,G1⟩
   |true =>
    cases hla:dM f p l with
    |true =>
     go_region_with (first
      |(go_at_call 109;refine(jv _ _).mono ?_;rintro e O ⟨h,c⟩;rw[hnm] at h;subst h;have g:Hid (Below H.heap.size H O):=⟨c.os,c.tape,c.output,c.size,c.block⟩;have f0:=(g.cell (p:=(Q X 0 Y)) hX).trans E;have f1:=(g.cell (p:=(Q X 1 Y)) hX).trans D;have f2:=(g.cell (p:=(Q X 2 Y)) hX).trans F;have f3:=(g.cell (p:=(Q X 3 Y)) hX).trans G;have k2:=(g.cell (p:=(Q w.heap.size 0 Y)) s).trans ZR;have ZO:=ae (ZM.aa g ly);clear c)
      |(go_at_call 284;refine(mK b off n p cap f l _ ZP ZO).mono ?_;rintro e w2 ⟨h,o⟩;rw[hla] at h;subst h;have S:=ae (g.trans (o.mono g.size));clear o))
     all_goals
      have C:Hid (bN f p (f p) (k+1)=ZG):=ZK.trans (by rw[dU,hnm,hla];rfl);have V:=ae (t.trans (S.mono t.size));go_wp2;exact⟨⟨k+1,by omega,by go_num,C,V⟩,by simp[intOf];omega⟩
    |false =>
     go_region_with (first
      |(go_at_call 109;refine(jv _ _).mono ?_;rintro e O ⟨h,c⟩;rw[hnm] at h;subst h;have g:Hid (Below H.heap.size H O):=⟨c.os,c.tape,c.output,c.size,c.block⟩;have f0:=(g.cell (p:=(Q X 0 Y)) hX).trans E;have f1:=(g.cell (p:=(Q X 1 Y)) hX).trans D;have f2:=(g.cell (p:=(Q X 2 Y)) hX).trans F;have f3:=(g.cell (p:=(Q X 3 Y)) hX).trans G;have k2:=(g.cell (p:=(Q w.heap.size 0 Y)) s).trans ZR;have ZO:=ae (ZM.aa g ly);clear c)
      |(go_at_call 284;refine(mK b off n p cap f l _ ZP ZO).mono ?_;rintro e w2 ⟨h,o⟩;rw[hla] at h;subst h;have S:=ae (g.trans (o.mono g.size));clear o))
     all_goals
      have C:Hid (bN f p (f p) (k+1)=ZA):=ZK.trans (by rw[dU,hnm,hla];rfl);have u:=ae ZS;have V:=ae (y.trans (S.mono (by have:=y.size;omega)));go_wp2;go_ret;exact⟨wA (λz=>Ending.returned (ZD z)) (lM u C).symm,V⟩
  ·have e:m=k:=by omega
   subst e;go_wp2;go_ret;exact⟨by rw[HM.out] at ZJ;rw[HM.out];exact wA (λz=>Ending.returned (ZD z)) ZJ.symm,j.trans (q.mono j.size)⟩
structure SixB (w:M)(b:Nat)(v0 v1 v2 v3 v4 v5:ZC):Prop where
 lt:b<w.heap.size
 c0:w.cell? (Q b 0 Y)=T v0
 c1:w.cell? (Q b 1 Y)=T v1
 c2:w.cell? (Q b 2 Y)=T v2
 c3:w.cell? (Q b 3 Y)=T v3
 c4:w.cell? (Q b 4 Y)=T v4
 c5:w.cell? (Q b 5 Y)=T v5
theorem SixB.aa {w i:M}{b:Nat}{f m l c g j:ZC}(h:SixB w b f m l c g j)(hb:Below w.heap.size w i):SixB i b f m l c g j :=
 ⟨lj h.lt hb.size,(hb.cell (p:=(Q b 0 Y)) h.lt).trans h.c0,(hb.cell (p:=(Q b 1 Y)) h.lt).trans h.c1,(hb.cell (p:=(Q b 2 Y)) h.lt).trans h.c2,(hb.cell (p:=(Q b 3 Y)) h.lt).trans h.c3,(hb.cell (p:=(Q b 4 Y)) h.lt).trans h.c4,(hb.cell (p:=(Q b 5 Y)) h.lt).trans h.c5⟩
theorem lN (w:M)(c i g b h f:ZC)(t:TypeId):SixB (A w (J #[c,i,g,b,h,f] t)) w.heap.size c i g b h f:=⟨by simp,by simp,by simp,by simp,by simp,by simp,by simp⟩
theorem lO (t:ByteArray):t.toList.isEmpty=decide (t.size=0):=by rw[BG];obtain⟨⟨l⟩⟩:=t;cases l<;>simp[ByteArray.size]
theorem AN {a b:Bool}(h:a=b):Ending.returned (ZD a)=Ending.returned (ZD b):=by rw[h]
theorem tC (b off n cap p:Nat)(f:Nat->Deed)(w:M)(O:p<n)(E:RowDeed w b off n f)(H:(p:Int)<=cap)(q:(f p).f<=1048576)(V:Tab w):Calls Pg 205 #[ZH #[Z (T (Q b off Y)) n cap],N I (p:Int)] w λe w'=>e=ZF (ZD (bi f p))/\Below w.heap.size w w':=by
 have ZJ:=ae E;have ZO:=ae V;have hb:=E.1;obtain⟨ZR,L,ZN,R,⟨a0,l,P,K⟩,⟨a1,o,S,q5⟩⟩:=E.2 p O;obtain⟨r,G⟩:∃r,r=bi f p:=⟨_,rfl⟩
 rw[<-G];have D:=ae G;obtain⟨x,ZP⟩:∃x,x=f p:=⟨_,rfl⟩
 rw[<-ZP] at ZR L ZN R P S K q;have F:=ae ZP;have Q4:=ae K;clear G ZP K q5 E V;obtain⟨W,z⟩:∃W:M,(A w (J #[Z (T (Q b off Y)) n cap] 37)).alloc (J #[U x.e,N I x.m,N I x.E,U x.B,Z a0 x.f l,Z a1 x.b o] 46)=W:=⟨_,rfl⟩
 obtain⟨t,-,-,-⟩:=nb2 z;have B:=ae z;clear z;have u:=ae (lN (A w (J #[Z (T (Q b off Y)) n cap] 37)) (U x.e) (N I x.m) (N I x.E) (U x.B) (Z a0 x.f l) (Z a1 x.b o) 46);have hz:(A w (J #[Z (T (Q b off Y)) n cap] 37)).heap.size=w.heap.size+1:=by simp
 rw[hz] at u;have X:Hid (W.cell? (Q w.heap.size 0 Y)=T (Z (T (Q b off Y)) n cap)):=by rw[<-B.out];show World.cell? _ _=_;simp
 clear hz;go_enter func205,ntmps205;go_wp2_with fail;rw[B.out] at u ⊢;clear B;clear ZR L ZN R P S;cases hnm:aw x.e with
 |false =>
  refine(jv x.e _).mono ?_;rintro e w1 ⟨g,c⟩;rw[hnm] at g;subst g;have h:=ae (t.trans (c.mono t.size));obtain rfl:r=ZA:=by rw[D.out];unfold bi;rw[<-F.out,hnm];rfl
  clear c;go_wp2;go_ret;exact⟨rfl,h⟩
 |true =>
 refine(jv x.e _).mono ?_;rintro e w1 ⟨g,c⟩;rw[hnm] at g;subst g;have h:=ae (t.trans (c.mono t.size));have j:=ae (u.aa c);have K1:=ae ((c.cell (p:=(Q w.heap.size 0 Y)) (VA u.lt)).trans X);have c1:=j.c1;have c2:=j.c2;have c3:=j.c3;clear c t u X;by_cases hbig:(2000:Int)<(x.B.size:Int)
 ·obtain rfl:r=ZA:=by rw[D.out];unfold bi;rw[<-F.out,hnm];simp;omega
  go_wp2;go_ret;exact⟨rfl,h⟩
 have C:Hid (r=kindOk f p x):=by show r=_;rw[D.out];unfold bi;rw[<-F.out,hnm,show decide (x.B.size<=2000)=ZG by simp;omega];rfl
 clear D;cases h1:(x.m == 1) with
 |true =>
  have ZS:x.m=1:=by simpa using h1
  have i:Hid (aY x=r):=(C.trans (by unfold kindOk;rw[p6 ZS])).symm;clear ZS;have c0:=j.c0;have c4:=j.c4;have c5:=j.c5;go_wp2_with fail;refine(pR x a0 l a1 o _).mono ?_;rintro e ZQ ⟨rfl,c⟩;have m:=ae (h.trans (c.mono h.size));clear c;go_wp2;go_ret;exact⟨AN i,m⟩
 |false =>
 cases h2:(x.m == 2) with
 |true =>
  have ZS:x.m=2:=by simpa using h2
  have i:Hid (r=(aY x && decide (x.B.size=0))):=C.trans (by unfold kindOk;rw[gM (by omega),p6 ZS]);clear ZS;have c0:=j.c0;have c4:=j.c4;have c5:=j.c5;go_wp2_with fail;refine(pR x a0 l a1 o _).mono ?_;rintro e ZQ ⟨g,c⟩;have m:=ae (h.trans (c.mono h.size));have d3:=(j.aa c).c3;clear c;cases hu:aY x with
  |false =>
   rw[hu] at g;subst g;obtain rfl:r=ZA:=by rw[i.out,hu];rfl
   go_wp2;go_ret;exact⟨rfl,m⟩
  |true =>
   rw[hu] at g;subst g;have y:Hid (decide (x.B.size=0)=r):=by show _=r;rw[i.out,hu];rfl
   go_wp2;go_ret;exact⟨cG (by rw[lO];exact y),m⟩
 |false =>
 cases h3:(x.m == 3) with
 |false =>
  obtain rfl:r=ZA:=by rw[C.out];unfold kindOk;simp at h1 h2 h3;rw[gM h1,gM h2,gM h3]
  go_wp2;go_ret;exact⟨rfl,h⟩
 |true =>
 have i:Hid (r=cH f p x):=C.trans (by unfold kindOk;simp at h1 h2 h3;rw[gM h1,gM h2,p6 h3]);by_cases ZM:0<=x.E
 ·by_cases ZL:x.E<=5
  ·have c4:=j.c4;go_wp2_with fail;refine(ue a0 x.f l x.H _ q (Q4.aa h ly) (ZO.aa h ZO.1)).mono ?_;rintro e ZQ ⟨g,c⟩;have m:=ae (h.trans (c.mono h.size));have K2:=(c.cell (p:=(Q w.heap.size 0 Y)) (VA j.lt)).trans K1;clear c;cases hv:valid x.H x.f with
   |false =>
    rw[hv] at g;subst g;obtain rfl:r=ZA:=by rw[i.out];simp[cH,hv]
    go_wp2;go_ret;exact⟨rfl,m⟩
   |true =>
    rw[hv] at g;subst g;have y:Hid ((decide (x.b<=200) && bN f p x x.b)=r):=by show _=r;rw[i.out];simp[cH,hv,ZM,ZL]
    have s:=ae (qV b off n cap p f ZQ O (ZJ.aa m ly) H);rw[<-F.out] at s;rw[y.out] at s;go_wp2_with fail;refine s.mono ?_;rintro e w3 ⟨rfl,c⟩;have ZK:=ae (m.trans (c.mono m.size));clear c;go_wp2;go_ret;exact⟨rfl,ZK⟩
  ·obtain rfl:r=ZA:=by rw[i.out];simp[cH,ZL]
   go_wp2;go_ret;exact⟨rfl,h⟩
 ·obtain rfl:r=ZA:=by rw[i.out];simp[cH,ZM]
  go_wp2;go_ret;exact⟨rfl,h⟩
theorem tD (b off n cap:Nat)(f:Nat->Deed)(w:M)(hn:(n:Int)<=400)(B:RowDeed w b off n f)(hcap:(n:Int)<=cap)(h:∀i,i<n->cV (f i))(z:Tab w):Calls Pg 148 #[ZH #[Z (T (Q b off Y)) n cap]] w λe H=>e=ZF (N I (aM (bi f) n))/\Below w.heap.size w H:=by
 have E:=ae B;have C:=ae z;have K:=ae h;clear B z h;obtain⟨W,m⟩:∃W:M,A w (J #[Z (T (Q b off Y)) n cap] 37)=W:=⟨_,rfl⟩
 obtain⟨x,-,-⟩:=nb1 m;have c:=ae m;clear m;have ZP:W.cell? (Q w.heap.size 0 Y)=T (Z (T (Q b off Y)) n cap):=by rw[<-c.out];simp
 have D:w.heap.size<W.heap.size:=by rw[<-c.out];simp
 obtain⟨r,t⟩:∃r,r=aM (bi f) n:=⟨_,rfl⟩
 rw[<-t];have ZS:=ae t;clear t;go_enter func148,ntmps148;go_wp2;rw[c.out];clear c;go_loopw [7] (λi wr=>∃k:Nat,k<=n/\i=N I k/\Hid (∀j,j<k->bi f j=ZG)/\Hid (Below W.heap.size W wr)) (λi _=>n - (intOf i).toNat);case atStart=>exact⟨0,by omega,rfl,λj y=>absurd y (PS _),dB _ _⟩
 case round =>
  obtain⟨k,hk,rfl,s,q⟩:=hrel;have k1:=(q.cell (p:=(Q w.heap.size 0 Y)) D).trans ZP;have g:=ae (x.trans (q.mono x.size));by_cases l:k<n
  ·go_wp2_with fail;refine(tC b off n cap k f _ l (E.aa g ly) (by omega) (K k l).1 (C.aa g C.1)).mono ?_;rintro e w2 ⟨o,u⟩;have G:=ae (g.trans (u.mono g.size));have F:=ae (q.trans (u.mono q.size));clear u;cases hd:bi f k with
   |true =>
    rw[hd] at o;subst o;have ZQ:=ae hd;clear hd;go_wp2
    exact⟨⟨k+1,by omega,by go_num,λj y=>by
     by_cases e:j=k;{subst e;exact ZQ}
     ·exact s j (by omega),F⟩,by simp[intOf];omega⟩
   |false =>
    rw[hd] at o;subst o;obtain rfl:r=k:=by rw[ZS.out];exact fQ l hd s
    clear hd;go_wp2;go_ret;exact⟨rfl,G⟩
  ·have e:n=k:=by omega
   subst e;obtain rfl:r=-1:=by rw[ZS.out];exact fE s
   go_wp2;go_ret;exact⟨rfl,g⟩
theorem uf (x:Deed)(a0:Option Addr)(f:Nat)(a1:Option Addr)(b:Nat)(w:M):Calls Pg 209 #[Gz x a0 f a1 b] w λe j=>e=ZF (ZD (decide (x.B.size<=2000) && aY x))/\Below w.heap.size w j:=by
 have g:=ae ((q9 w).alloc ly (J #[U x.e,N I x.m,N I x.E,U x.B,Z a0 x.f f,Z a1 x.b b] 46));obtain⟨r,h⟩:∃r,r=(decide (x.B.size<=2000) && aY x):=⟨_,rfl⟩
 rw[<-h];have c:=ae h;clear h;go_enter func209,ntmps209;cases h1:(x.E == 0) with
 |false =>
  obtain rfl:r=ZA:=by rw[c.out];simp at h1;simp[aY,h1]
  go_wp2;go_ret;exact⟨rfl,g⟩
 |true =>
  by_cases h4:(x.B.size:Int)<=2000
  ·have i:decide (x.B.size<=2000)=ZG:=by simp;omega
   cases h2:((x.f:Int) == 0) with
   |false =>
    obtain rfl:r=ZA:=by rw[c.out];simp at h2;simp[aY];omega
    go_wp2;go_ret;exact⟨rfl,g⟩
   |true =>
    cases h3:((x.b:Int) == 0) with
    |false =>
     obtain rfl:r=ZA:=by rw[c.out];simp at h3;simp[aY];omega
     go_wp2;go_ret;exact⟨rfl,g⟩
    |true =>
     obtain rfl:r=ZG:=by rw[c.out,i];simp at h1 h2 h3;simp[aY,h1,h2,h3]
     go_wp2;go_ret;exact⟨rfl,g⟩
  ·obtain rfl:r=ZA:=by rw[c.out];simp;omega
   go_wp2;go_ret;exact⟨rfl,g⟩
theorem qW (b off n cap p:Nat)(f:Nat->Deed)(w:M)(hp:p<n)(R:RowDeed w b off n f)(F:(f p).f<=1048576)(H:∀j,j<(f p).f->((f p).H j).s.size<=maxLen):Calls Pg 210 #[ZH #[Z (T (Q b off Y)) n cap],N I (p:Int)] w λe w'=>e=ZF (ZD (decide ((f p).B.size<=2000) && cH f p (f p)))/\Below w.heap.size w w':=by
 have HF:=ae R;have hb:=R.1;obtain⟨p0,p1,p2,p3,⟨a0,t,p4,q4⟩,⟨a1,z,p5,q5⟩⟩:=R.2 p hp;obtain⟨x,hx⟩:∃x,x=f p:=⟨_,rfl⟩
 rw[<-hx] at p0 p1 p2 p3 p4 p5 q4 q5 F H ⊢;have HX:=ae hx;have Q4:=ae q4;have Q5:=ae q5;have HZ:=ae H;clear hx q4 q5 R H;have y:=ae (((q9 w).alloc ly (J #[Z (T (Q b off Y)) n cap] 37)).alloc (by simp) (J #[U x.e,N I x.m,N I x.E,U x.B,Z a0 x.f t,Z a1 x.b z] 46));have u:=ae (lN (A w (J #[Z (T (Q b off Y)) n cap] 37)) (U x.e) (N I x.m) (N I x.E) (U x.B) (Z a0 x.f t) (Z a1 x.b z) 46);have hz:(A w (J #[Z (T (Q b off Y)) n cap] 37)).heap.size=w.heap.size+1:=by simp
 rw[hz] at u;have K0:Hid (((A w (J #[Z (T (Q b off Y)) n cap] 37)).alloc (J #[U x.e,N I x.m,N I x.E,U x.B,Z a0 x.f t,Z a1 x.b z] 46)).cell? (Q w.heap.size 0 Y)=T (Z (T (Q b off Y)) n cap)):=by show World.cell? _ _=_;simp
 clear hz;obtain⟨r,D⟩:∃r,r=(decide (x.B.size<=2000) && cH f p x):=⟨_,rfl⟩
 rw[<-D];have E:=ae D;clear D;have c2:=u.c2;have c3:=u.c3;have c4:=u.c4;have c5:=u.c5;by_cases g1:0<=x.E;case neg =>
  obtain rfl:r=ZA:=by rw[E.out];simp[cH,g1]
  go_enter func210,XO;go_wp2;go_ret;exact⟨rfl,y⟩
 by_cases g2:x.E<=5;case neg =>
  obtain rfl:r=ZA:=by rw[E.out];simp[cH,g2]
  go_enter func210,XO;go_wp2;go_ret;exact⟨rfl,y⟩
 by_cases g3:(x.B.size:Int)<=2000;case neg =>
  obtain rfl:r=ZA:=by rw[E.out];simp;omega
  go_enter func210,XO;go_wp2;go_ret;exact⟨rfl,y⟩
 have ZL:decide (x.B.size<=2000)=ZG:=by simp;omega
 go_enter func210,XO;go_wp2_with fail;generalize World.alloc (World.alloc w _) _=W at y u K0 ⊢;clear p0 p1 p2 p3 p4 p5;refine(jN a0 x.f t x.H _ F (Q4.aa y ly) HZ).mono ?_;rintro e w1 ⟨o,c⟩;have ZO:=ae (y.trans (c.mono y.size));have S1:=ae (u.aa c);have K1:=ae ((c.cell (p:=(Q w.heap.size 0 Y)) (VA u.lt)).trans K0);clear c y u K0 c2 c3 c4 c5;have c5:=S1.c5;cases hv:valid x.H x.f with
 |false =>
  rw[hv] at o;subst o;obtain rfl:r=ZA:=by rw[E.out];simp[cH,hv]
  go_wp2;go_ret;exact⟨rfl,ZO⟩
 |true =>
 rw[hv] at o;subst o;have ZP:Hid (r=(decide (x.b<=200) && bN f p x x.b)):=by show r=_;rw[E.out,ZL];simp[cH,hv,g1,g2]
 clear E ZL hv;by_cases hbig:(200:Int)<(x.b:Int)
 ·obtain rfl:r=ZA:=by rw[ZP.out];simp;omega
  go_wp2;go_ret;exact⟨rfl,ZO⟩
 have ZJ:Hid (r=bN f p x x.b):=by show r=_;rw[ZP.out,show decide (x.b<=200)=ZG by simp;omega];rfl
 clear ZP;go_wp2;have aq:w.heap.size+1<w1.heap.size:=S1.lt;go_loopw [6] (λi wr=>∃k:Nat,k<=x.b/\i=N I k/\Hid (bN f p x k=ZG)/\Hid (Below w1.heap.size w1 wr)) (λi _=>x.b - (intOf i).toNat);case atStart=>exact⟨0,by omega,rfl,rfl,dB _ _⟩
 case round =>
  obtain⟨k,hk,rfl,HK,S⟩:=hrel;have e5:=(S.cell (p:=(Q (w.heap.size+1) 5 Y)) aq).trans c5;have ZR:=ae (ZO.trans (S.mono ZO.size));by_cases ZQ:k<x.b
  ·obtain⟨lb,lo,rfl,G⟩:=(Q5.aa ZR ly).resolve_left (by omega);have V:=G.2 k ZQ;obtain⟨l,hl⟩:∃l,l=x.D k:=⟨_,rfl⟩
   rw[<-hl] at V;obtain⟨d0,d1,d2,d3⟩:=V;have HS:Hid (bN f p x (k+1)=ew f p l):=by show(bN f p x k && ew f p (x.D k))=_;rw[HK.out,UV,<-hl]
   clear hl G;have ZN:=ae (ZR.alloc ZR.size (J #[U l.e,ZD l.ask,ZD l.has,N I l.L] 91));have C:=ae (S.alloc S.size (J #[U l.e,ZD l.ask,ZD l.has,N I l.L] 91));have L:(A wr (J #[U l.e,ZD l.ask,ZD l.has,N I l.L] 91)).cell? (Q wr.heap.size 0 Y)=T (U l.e):=by simp
   have K:(A wr (J #[U l.e,ZD l.ask,ZD l.has,N I l.L] 91)).cell? (Q wr.heap.size 1 Y)=T (ZD l.ask):=by simp
   have O:(A wr (J #[U l.e,ZD l.ask,ZD l.has,N I l.L] 91)).cell? (Q wr.heap.size 2 Y)=T (ZD l.has):=by simp
   have P:(A wr (J #[U l.e,ZD l.ask,ZD l.has,N I l.L] 91)).cell? (Q wr.heap.size 3 Y)=T (N I l.L):=by simp
   have m:wr.heap.size<(A wr (J #[U l.e,ZD l.ask,ZD l.has,N I l.L] 91)).heap.size:=by simp
   have kA:=(C.cell (p:=(Q w.heap.size 0 Y)) (by show w.heap.size<_;omega)).trans K1;have ZM:w.heap.size<(A wr (J #[U l.e,ZD l.ask,ZD l.has,N I l.L] 91)).heap.size:=by have:=C.size;omega
   go_wp2_with fail;clear d0 d1 d2 d3 e5;generalize World.alloc wr _=W1 at ZN C L K O P m kA ZM ⊢;generalize wr.heap.size=X at L K O P m ⊢;refine(dc l.e _).mono ?_;rintro e w2 ⟨o,c⟩;have ZS:=ae (ZN.trans (c.mono ZN.size));have C2:=ae (C.trans (c.mono C.size));have f0:=(c.cell (p:=(Q X 0 Y)) m).trans L;have f1:=(c.cell (p:=(Q X 1 Y)) m).trans K;have f2:=(c.cell (p:=(Q X 2 Y)) m).trans O;have f3:=(c.cell (p:=(Q X 3 Y)) m).trans P;have kB:=(c.cell (p:=(Q w.heap.size 0 Y)) ZM).trans kA;have FR:=ae (HF.aa ZS ly);clear c L K O P kA ZN C;have HLT:=ae ZQ;have no:ew f p l=ZA->r=ZA:=λh=>by rw[ZJ.out];exact lM ZQ (HS.trans h)
   have g:=ae no;clear no;cases hnm:aw l.e with
   |false =>rw[hnm] at o;subst o;obtain rfl:r=ZA:=g.out (by rw[dU,hnm];rfl);go_wp2;go_ret;exact⟨rfl,ZS⟩
   |true =>
   rw[hnm] at o;subst o;cases hask:l.ask with
   |false =>
    rw[hask] at f1;cases h1:(l.L == 0) with
    |false =>obtain rfl:r=ZA:=g.out (by simp at h1;rw[dU,hnm];simp[dM,hask,h1]);go_wp2;go_ret;exact⟨rfl,ZS⟩
    |true =>have HN:Hid (bN f p x (k+1)=ZG):=HS.trans (by simp at h1;rw[dU,hnm];simp[dM,hask,h1]);go_wp2_with fail;go_quiet (fail);have C3:=ae (BM C2 nq);go_wp2;exact⟨⟨k+1,by omega,by go_num,HN,C3⟩,by simp[intOf];omega⟩
   |true =>
    rw[hask] at f1;cases hhas:l.has with
    |true =>rw[hhas] at f2;obtain rfl:r=ZA:=g.out (by rw[dU,hnm];simp[dM,hask,hhas]);go_wp2_with fail;go_quiet (fail);have B:=ae (BM ZS nq);go_wp2;go_ret;exact⟨rfl,B⟩
    |false =>
     rw[hhas] at f2;by_cases g4:0<=l.L
     ·by_cases g5:l.L<(p:Int)
      ·obtain⟨q,hq⟩:∃q:Nat,l.L=(q:Int):=⟨l.L.toNat,by omega⟩
       rw[hq] at f3 g5;have bt:q<n:=by omega
       have d0:=(FR.2 q bt).1;have h5:decide ((p:Int)<=(q:Int))=ZA:=by simp;omega
       have h5n:decide (p<=q)=ZA:=by simp;omega
       have h6:decide ((q:Int)<0)=ZA:=by simp
       have hq0:(0:Int)<=q:=by omega
       have hqn':(q:Int)<n:=by omega
       have ZK:Hid (dM f p l=((f q).e.toList == l.e.toList)):=by show dM f p l=_;simp[dM,hask,hhas,hq,g5]
       cases D:((f q).e.toList == l.e.toList) with
       |true =>have HN:Hid (bN f p x (k+1)=ZG):=HS.trans (by rw[dU,hnm,ZK.out,D];rfl);go_wp2_with fail;go_quiet (fail);have C3:=ae (BM C2 nq);go_wp2;exact⟨⟨k+1,by omega,by go_num,HN,C3⟩,by simp[intOf];omega⟩
       |false =>obtain rfl:r=ZA:=g.out (by rw[dU,hnm,ZK.out,D];rfl);go_wp2_with fail;go_quiet (fail);have B:=ae (BM ZS nq);go_wp2;go_ret;exact⟨rfl,B⟩
      ·obtain rfl:r=ZA:=g.out (by rw[dU,hnm];simp[dM,hask,g5]);have h5:(p:Int)<=l.L:=by omega
       have h6:decide (l.L<0)=ZA:=by simpa using g4
       go_wp2_with fail;go_quiet (fail);have B:=ae (BM ZS nq);go_wp2;go_ret;exact⟨rfl,B⟩
     ·obtain rfl:r=ZA:=g.out (by rw[dU,hnm];simp[dM,hask,g4]);have h6:l.L<0:=by omega
      go_wp2_with fail;go_quiet (fail);have B:=ae (BM ZS nq);go_wp2;go_ret;exact⟨rfl,B⟩
  ·have e:x.b=k:=by omega
   obtain rfl:r=ZG:=by rw[ZJ.out,e];exact HK
   have h5:((k:Int)<(x.b:Int))=False:=by simp;omega
   go_wp2;go_ret;exact⟨rfl,ZR⟩
theorem ug (b off n cap p:Nat)(f:Nat->Deed)(w:M)(ZR:p<n)(C:RowDeed w b off n f)(o:(f p).f<=1048576)(y:∀j,j<(f p).f->((f p).H j).s.size<=maxLen):Calls Pg 155 #[ZH #[Z (T (Q b off Y)) n cap],N I (p:Int)] w λe D=>e=ZF (ZD (bi f p))/\Below w.heap.size w D:=by
 have ZS:=ae (λD (hb:Below w.heap.size w D)=>qW b off n cap p f D ZR (C.aa hb ly) o y);obtain⟨r,K⟩:∃r,r=bi f p:=⟨_,rfl⟩
 rw[<-K];have ZP:=ae K;clear K;have hb:=C.1;obtain⟨L,S,O,P,⟨a0,m,ZO,ZL⟩,⟨a1,l,ZM,ZN⟩⟩:=C.2 p ZR;obtain⟨x,H⟩:∃x,x=f p:=⟨_,rfl⟩
 rw[<-H] at L S O P ZO ZM ZL ZN o y ZS;have R:=ae H;clear H ZL ZN C y o;have B:=ae (((q9 w).alloc ly (J #[Z (T (Q b off Y)) n cap] 37)).alloc (by simp) (J #[U x.e,N I x.m,N I x.E,U x.B,Z a0 x.f m,Z a1 x.b l] 46));have u:=ae (lN (A w (J #[Z (T (Q b off Y)) n cap] 37)) (U x.e) (N I x.m) (N I x.E) (U x.B) (Z a0 x.f m) (Z a1 x.b l) 46);have hz:(A w (J #[Z (T (Q b off Y)) n cap] 37)).heap.size=w.heap.size+1:=by simp
 rw[hz] at u;have ZQ:Hid (((A w (J #[Z (T (Q b off Y)) n cap] 37)).alloc (J #[U x.e,N I x.m,N I x.E,U x.B,Z a0 x.f m,Z a1 x.b l] 46)).cell? (Q w.heap.size 0 Y)=T (Z (T (Q b off Y)) n cap)):=by show World.cell? _ _=_;simp
 clear hz;go_enter func155,ntmps155;go_wp2_with fail;generalize World.alloc (World.alloc w _) _=W at B u ZQ ⊢;clear L S O P ZO ZM;refine(dc x.e _).mono ?_;rintro e V ⟨E,i⟩;have g:=ae (B.trans (i.mono B.size));have t:=ae (u.aa i);have ZK:=ae ((i.cell (p:=(Q w.heap.size 0 Y)) (VA u.lt)).trans ZQ);clear i B u ZQ;cases hnm:aw x.e with
 |false =>
  rw[hnm] at E;subst E;obtain rfl:r=ZA:=by rw[ZP.out];unfold bi;rw[<-R.out,hnm];rfl
  go_wp2;go_ret;exact⟨rfl,g⟩
 |true =>
 rw[hnm] at E;subst E;have q:Hid (r=(decide (x.B.size<=2000) && kindOk f p x)):=by show r=_;rw[ZP.out];unfold bi;rw[<-R.out,hnm];rfl
 clear ZP;have c0:=t.c0;have c1:=t.c1;have c2:=t.c2;have c3:=t.c3;have c4:=t.c4;have c5:=t.c5;cases h1:(x.m == 1) with
 |true =>
  have z:x.m=1:=by simpa using h1
  have c:Hid ((decide (x.B.size<=2000) && aY x)=r):=(q.trans (by unfold kindOk;rw[p6 z])).symm;clear z;go_wp2_with fail;refine(uf x a0 m a1 l _).mono ?_;rintro e X ⟨rfl,i⟩;have G:=ae (g.trans (i.mono g.size));clear i;go_wp2;go_ret;exact⟨AN c,G⟩
 |false =>
 cases h2:(x.m == 2) with
 |true =>
  have z:x.m=2:=by simpa using h2
  have c:Hid (r=(aY x && decide (x.B.size=0))):=q.trans (by
   unfold kindOk;rw[gM (by omega),p6 z];by_cases h:x.B.size=0;{simp[h]}
   ·simp[h])
  clear z q;cases g1:(x.E == 0) with
  |false =>
   obtain rfl:r=ZA:=by rw[c.out];simp at g1;simp[aY,g1]
   go_wp2;go_ret;exact⟨rfl,g⟩
  |true =>
  cases g2:x.B.toList.isEmpty with
  |false =>
   obtain rfl:r=ZA:=by rw[c.out,<-lO,g2];simp
   go_wp2;go_ret;exact⟨rfl,g⟩
  |true =>
  cases g3:((x.f:Int) == 0) with
  |false =>
   obtain rfl:r=ZA:=by rw[c.out];simp at g3;simp[aY];omega
   go_wp2;go_ret;exact⟨rfl,g⟩
  |true =>
  cases g4:((x.b:Int) == 0) with
  |false =>
   obtain rfl:r=ZA:=by rw[c.out];simp at g4;simp[aY];omega
   go_wp2;go_ret;exact⟨rfl,g⟩
  |true =>
   obtain rfl:r=ZG:=by rw[c.out,<-lO,g2];simp at g1 g3 g4;simp[aY,g1,g3,g4]
   go_wp2;go_ret;exact⟨rfl,g⟩
 |false =>
 cases h3:(x.m == 3) with
 |false =>
  obtain rfl:r=ZA:=by rw[q.out];unfold kindOk;simp at h1 h2 h3;rw[gM h1,gM h2,gM h3];simp
  go_wp2;go_ret;exact⟨rfl,g⟩
 |true =>have c:Hid ((decide (x.B.size<=2000) && cH f p x)=r):=(q.trans (by unfold kindOk;simp at h1 h2 h3;rw[gM h1,gM h2,p6 h3])).symm;have k1:=ZK.out;have F:=ae (ZS V g);rw[c.out] at F;clear ZS q;go_wp2_with fail;refine F.mono ?_;rintro e X ⟨rfl,i⟩;have G:=ae (g.trans (i.mono g.size));clear i;go_wp2;go_ret;exact⟨rfl,G⟩
