import Derived.Test.YtamacmnikdejeaaGreatDoorZE
import Derived.Deep.DeepCutAuto
set_option maxRecDepth 100000
set_option maxHeartbeats 4000000
open Go.Addr renaming mk->T
open Go.Value renaming slice->Y,string->U,int->I,bool->QT,agg->QV
open Option renaming none->Z,some->N
open Go.Obj renaming cells->Q
open Go.IntKind renaming i64->J
open Go renaming World->H,Value->QS
open Bool renaming false->QQ,true->QR
open Go.Ending renaming returned->QU
namespace Go.Proofs.YtamacmnikdejeaaGreatDoor.Vp
open RowKit
abbrev Ec (x:aj)(a0:Option Addr)(c:Nat)(a1:Option Addr)(b:Nat):QS:=QV #[U x.name,I J x.kind,I J x.code,U x.text,Y a0 x.actN c,Y a1 x.linksN b]
abbrev Gm (l:Link):QS:=QV #[U l.name,QT l.ask,QT l.has,I J l.at_]
theorem pd (x:aj)(a0:Option Addr)(b:Nat)(a1:Option Addr)(c:Nat)(w:H):Calls Tryz.prog 186 #[Ec x a0 b a1 c] w fun e i=>e=QU (QT (aP x))/\Below w.heap.size w i:=by
 have f:=ae ((q9 w).alloc ly (Q #[U x.name,I J x.kind,I J x.code,U x.text,Y a0 x.actN b,Y a1 x.linksN c] 46));obtain⟨r,h⟩:∃ r,r=aP x:=⟨_,rfl⟩
 rw[<-h];have g:=ae h;clear h;go_enter Tryz.func186,Tryz.ntmps186;cases h1:(x.code == 0) with
 | false =>
  obtain rfl:r=QQ:=by rw[g.out];simp at h1;simp[aP,h1]
  go_wp2;go_ret;exact⟨rfl,f⟩
 | true =>
  cases h2:((x.actN:Int) == 0) with
  | false =>
   obtain rfl:r=QQ:=by rw[g.out];simp at h2;simp[aP];omega
   go_wp2;go_ret;exact⟨rfl,f⟩
  | true =>
   cases h3:((x.linksN:Int) == 0) with
   | false =>
    obtain rfl:r=QQ:=by rw[g.out];simp at h3;simp[aP];omega
    go_wp2;go_ret;exact⟨rfl,f⟩
   | true =>
    obtain rfl:r=QR:=by rw[g.out];simp at h1 h2 h3;simp[aP,h1,h2,h3]
    go_wp2;go_ret;exact⟨rfl,f⟩
def dD (f:Nat->aj)(p:Nat)(l:Link):Bool:=if l.ask=QR then !l.has && decide (0<=l.at_) && decide (l.at_<(p:Int)) && ((f l.at_.toNat).name.toList == l.name.toList) else decide (l.at_=0)
theorem dU (f:Nat->aj)(p:Nat)(l:Link):ee f p l=(av l.name && dD f p l):=rfl
theorem mB (b off n p cap:Nat)(f:Nat->aj)(l:Link)(w:H)(hp:p<=n)(i:RowDeed w b off n f):Calls Tryz.prog 209 #[Y (N (T b off Z)) p cap,Gm l] w fun e s=>e=QU (QT (dD f p l))/\Below w.heap.size w s:=by
 have c:=ae ((q9 w).alloc ly (Q #[U l.name,QT l.ask,QT l.has,I J l.at_] 129));have o:=ae (i.below c ly);have hb:=i.1;clear i;obtain⟨r,g⟩:∃ r,r=dD f p l:=⟨_,rfl⟩
 rw[<-g];have h:=ae g;clear g;obtain⟨nm,ask,has,at_⟩:=l;go_enter Tryz.func209,Tryz.ntmps209;cases ask with
 | false =>
  cases h1:(at_ == 0) with
  | true =>
   obtain rfl:r=QR:=by rw[h.out];simp at h1;simp[dD,h1]
   go_wp2;go_ret;exact⟨rfl,c⟩
  | false =>
   obtain rfl:r=QQ:=by rw[h.out];simp at h1;simp[dD,h1]
   go_wp2;go_ret;exact⟨rfl,c⟩
 | true =>
  cases has with
  | true =>
   obtain rfl:r=QQ:=by rw[h.out];simp[dD]
   go_wp2_with fail;go_quiet (fail);go_wp2;go_ret;exact⟨rfl,F6 c _⟩
  | false =>
   by_cases h1:0<=at_
   ·by_cases h2:at_<(p:Int)
    ·obtain⟨q,rfl⟩:∃ q:Nat,at_=(q:Int):=⟨at_.toNat,by omega⟩
     have j:q<n:=by omega
     have d0:=(o.2 q j).1;have e:r=((f q).name.toList == nm.toList):=by rw[h.out];simp[dD,h2]
     cases g:((f q).name.toList == nm.toList) with
     | true =>rw[g] at e;subst e;go_wp2_with fail;go_quiet (fail);go_wp2;go_ret;exact⟨rfl,F6 c _⟩
     | false =>rw[g] at e;subst e;go_wp2_with fail;go_quiet (fail);go_wp2;go_ret;exact⟨rfl,F6 c _⟩
    ·obtain rfl:r=QQ:=by rw[h.out];simp[dD,h2]
     have m:decide (at_<(p:Int))=QQ:=by simpa using h2
     go_wp2_with fail;go_quiet (fail);go_wp2;go_ret;exact⟨rfl,F6 c _⟩
   ·obtain rfl:r=QQ:=by rw[h.out];simp[dD,h1]
    have m:decide (0<=at_)=QQ:=by simpa using h1
    go_wp2_with fail;go_quiet (fail);go_wp2;go_ret;exact⟨rfl,F6 c _⟩
theorem lu {f:Nat->aj}{p:Nat}{x:aj}{k m:Nat}(hk:k<m)(h:bS f p x (k+1)=QQ):bS f p x m=QQ:=by
 induction m with
 | zero=>omega
 | succ j b =>
  by_cases e:k=j
  ·subst e;exact h
  ·rw[bS,b (by omega)];rfl
theorem qk (b off n cap p:Nat)(f:Nat->aj)(w:H)(hp:p<n)(D:RowDeed w b off n f)(hcap:(p:Int)<=cap):Calls Tryz.prog 187 #[QV #[Y (N (T b off Z)) n cap],I J (p:Int)] w fun e QX=>e=QU (QT (decide ((f p).linksN<=200) && bS f p (f p) (f p).linksN))/\Below w.heap.size w QX:=by
 have j:=ae ((q9 w).alloc ly (Q #[Y (N (T b off Z)) n cap] 25));have HF:=ae D;obtain⟨_,_,_,_,_,⟨a1,cap1,Q9,r1⟩⟩:=D.2 p hp;have hb:=D.1;have k0:(w.alloc (Q #[Y (N (T b off Z)) n cap] 25)).cell? (T w.heap.size 0 Z)=N (Y (N (T b off Z)) n cap):=by simp
 have p5:=(j.cell (p:=(T b (off+p*6+5) Z)) hb).trans Q9;have P:=ae r1;have s:w.heap.size<(w.alloc (Q #[Y (N (T b off Z)) n cap] 25)).heap.size:=by simp
 clear r1 Q9 D;obtain⟨m,QY⟩:∃ m,m=(f p).linksN:=⟨_,rfl⟩
 obtain⟨L,hL⟩:∃ L,L=(f p).links:=⟨_,rfl⟩
 rw[<-QY] at p5 P ⊢;rw[<-hL] at P;have HM:=ae QY;have aq:=ae hL;clear QY hL;by_cases hbig:(200:Int)<(m:Int)
 ·obtain⟨r,S⟩:∃ r,r=(decide (m<=200) && bS f p (f p) m):=⟨_,rfl⟩
  rw[<-S];obtain rfl:r=QQ:=by rw[S];simp;omega
  clear S;go_enter Tryz.func187,Tryz.ntmps187;go_wp2;go_ret;exact⟨rfl,j⟩
 have hd:decide (m<=200)=QR:=by simp;omega
 rw[hd,LA];clear hd;go_enter Tryz.func187,Tryz.ntmps187;go_wp2;generalize w.alloc (Q #[Y (N (T b off Z)) n cap] 25)=W at j k0 s ⊢;clear p5;go_loopw [19] (fun i wr=>∃ k:Nat,k<=m/\i=I J k/\Hid (bS f p (f p) k=QR)/\Hid (Below W.heap.size W wr)) (fun i _=>m - (intOf i).toNat);case atStart=>exact⟨0,by omega,rfl,rfl,eL _ _⟩
 case round =>
  obtain⟨k,hk,rfl,V,q⟩:=hrel;by_cases u:k<m
  ·obtain⟨lb,lo,rfl,fd,C⟩:=P.resolve_left (by omega)
   have hx:=(C k u).below (j.trans (q.mono j.size)) fd;obtain⟨l,Q0⟩:∃ l,l=L k:=⟨_,rfl⟩
   rw[<-Q0] at hx;have bt:=ae Q0;obtain⟨d0,d1,d2,d3⟩:=hx;clear Q0 C;have HS:Hid (bS f p (f p) (k+1)=ee f p l):=by show(bS f p (f p) k && ee f p ((f p).links k))=_;rw[V.out,LA,<-aq.out,<-bt.out]
   have B:=ae ((j.trans (q.mono j.size)).alloc (by have:=j.size;have:=q.size;omega) (Q #[U l.name,QT l.ask,QT l.has,I J l.at_] 129));have A:=ae ((q).alloc q.size (Q #[U l.name,QT l.ask,QT l.has,I J l.at_] 129));have E:(wr.alloc (Q #[U l.name,QT l.ask,QT l.has,I J l.at_] 129)).cell? (T wr.heap.size 0 Z)=N (U l.name):=by simp
   have F:(wr.alloc (Q #[U l.name,QT l.ask,QT l.has,I J l.at_] 129)).cell? (T wr.heap.size 1 Z)=N (QT l.ask):=by simp
   have ZA:(wr.alloc (Q #[U l.name,QT l.ask,QT l.has,I J l.at_] 129)).cell? (T wr.heap.size 2 Z)=N (QT l.has):=by simp
   have G:(wr.alloc (Q #[U l.name,QT l.ask,QT l.has,I J l.at_] 129)).cell? (T wr.heap.size 3 Z)=N (I J l.at_):=by simp
   have hX:wr.heap.size<(wr.alloc (Q #[U l.name,QT l.ask,QT l.has,I J l.at_] 129)).heap.size:=by simp
   have O:=(A.cell (p:=(T w.heap.size 0 Z)) s).trans k0;have x:w.heap.size<(wr.alloc (Q #[U l.name,QT l.ask,QT l.has,I J l.at_] 129)).heap.size:=lj s A.size;have Q2:=ae (HF.below B ly);go_upto_region 7 with fail;clear d0 d1 d2 d3;generalize wr.alloc (Q #[U l.name,QT l.ask,QT l.has,I J l.at_] 129)=ZB at B A E F ZA G hX O x Q2 ⊢;generalize wr.heap.size=X at E F ZA G hX ⊢;have hp0:0<=(p:Int):=by omega
   have hpn:(p:Int)<=n:=by omega
   have K:p<=n:=by omega
   have hcap':p<=cap:=by omega
   cases hnm:av l.name with
   | false =>
    have hq:∀ w,Calls Tryz.prog 123 #[U l.name] w fun e QX=>e=QU (QT QQ)/\QX=w:=fun w=>by rw[<-hnm];exact uQ l.name w
    go_quiet ((go_at_call 123;exact Calls.quiet_of_same (hq _)));have hN:ee f p l=QQ:=by rw[dU,hnm];rfl
    have y:=ae (HS.trans hN);have t:=ae u;have G1:=ae (F6 B nq);clear hN;go_wp2;go_ret;exact⟨JN (fun z=>Ending.returned (QT z)) (lu t y).symm,G1⟩
   | true =>
    cases hla:dD f p l with
    | true =>
     go_region_with (first
      | (go_at_call 123;refine(jb _ _).mono ?_;rintro e R ⟨h,c⟩;rw[hnm] at h;subst h;have g:Hid (Below ZB.heap.size ZB R):=⟨c.os,c.tape,c.output,c.size,c.block⟩;have f0:=(g.cell (p:=(T X 0 Z)) hX).trans E;have f1:=(g.cell (p:=(T X 1 Z)) hX).trans F;have f2:=(g.cell (p:=(T X 2 Z)) hX).trans ZA;have f3:=(g.cell (p:=(T X 3 Z)) hX).trans G;have k2:=(g.cell (p:=(T w.heap.size 0 Z)) x).trans O;have QW:=ae (Q2.below g ly);clear c)
      | (go_at_call 209;refine(mB b off n p cap f l _ K QW).mono ?_;rintro e w2 ⟨h,o⟩;rw[hla] at h;subst h;have QZ:=ae (g.trans (o.mono g.size));clear o))
     all_goals
      have y:Hid (bS f p (f p) (k+1)=QR):=HS.trans (by rw[dU,hnm,hla];rfl);have M:=ae (A.trans (QZ.mono A.size));go_wp2;exact⟨⟨k+1,by omega,by go_num,y,M⟩,by simp[intOf];omega⟩
    | false =>
     go_region_with (first
      | (go_at_call 123;refine(jb _ _).mono ?_;rintro e R ⟨h,c⟩;rw[hnm] at h;subst h;have g:Hid (Below ZB.heap.size ZB R):=⟨c.os,c.tape,c.output,c.size,c.block⟩;have f0:=(g.cell (p:=(T X 0 Z)) hX).trans E;have f1:=(g.cell (p:=(T X 1 Z)) hX).trans F;have f2:=(g.cell (p:=(T X 2 Z)) hX).trans ZA;have f3:=(g.cell (p:=(T X 3 Z)) hX).trans G;have k2:=(g.cell (p:=(T w.heap.size 0 Z)) x).trans O;have QW:=ae (Q2.below g ly);clear c)
      | (go_at_call 209;refine(mB b off n p cap f l _ K QW).mono ?_;rintro e w2 ⟨h,o⟩;rw[hla] at h;subst h;have QZ:=ae (g.trans (o.mono g.size));clear o))
     all_goals
      have y:Hid (bS f p (f p) (k+1)=QQ):=HS.trans (by rw[dU,hnm,hla];rfl);have t:=ae u;have M:=ae (B.trans (QZ.mono (by have:=B.size;omega)));go_wp2;go_ret;exact⟨JN (fun z=>Ending.returned (QT z)) (lu t y).symm,M⟩
  ·have e:m=k:=by omega
   subst e;go_wp2;go_ret;exact⟨by rw[HM.out] at V;rw[HM.out];exact JN (fun z=>Ending.returned (QT z)) V.symm,j.trans (q.mono j.size)⟩
structure SixB (w:H)(b:Nat)(v0 v1 v2 v3 v4 v5:QS):Prop where
 lt:b<w.heap.size
 c0:w.cell? (T b 0 Z)=N v0
 c1:w.cell? (T b 1 Z)=N v1
 c2:w.cell? (T b 2 Z)=N v2
 c3:w.cell? (T b 3 Z)=N v3
 c4:w.cell? (T b 4 Z)=N v4
 c5:w.cell? (T b 5 Z)=N v5
theorem SixB.below {w i:H}{b:Nat}{j l g f c m:QS}(h:SixB w b j l g f c m)(hb:Below w.heap.size w i):SixB i b j l g f c m :=
 ⟨lj h.lt hb.size,(hb.cell (p:=(T b 0 Z)) h.lt).trans h.c0,(hb.cell (p:=(T b 1 Z)) h.lt).trans h.c1,(hb.cell (p:=(T b 2 Z)) h.lt).trans h.c2,(hb.cell (p:=(T b 3 Z)) h.lt).trans h.c3,(hb.cell (p:=(T b 4 Z)) h.lt).trans h.c4,(hb.cell (p:=(T b 5 Z)) h.lt).trans h.c5⟩
theorem lv (w:H)(f g c b i h:QS)(t:TypeId):SixB (w.alloc (Q #[f,g,c,b,i,h] t)) w.heap.size f g c b i h:=⟨by simp,by simp,by simp,by simp,by simp,by simp,by simp⟩
theorem lw (t:ByteArray):t.toList.isEmpty=decide (t.size=0):=by rw[D0];obtain⟨⟨l⟩⟩:=t;cases l<;>simp[ByteArray.size]
theorem yX {a b:Bool}(h:a=b):Ending.returned (QT a)=Ending.returned (QT b):=by rw[h]
theorem r9 (b off n cap p:Nat)(f:Nat->aj)(w:H)(QY:p<n)(A:RowDeed w b off n f)(Q9:(p:Int)<=cap)(z:(f p).actN<=1048576)(Q2:Tab w):Calls Tryz.prog 164 #[QV #[Y (N (T b off Z)) n cap],I J (p:Int)] w fun e w'=>e=QU (QT (bi f p))/\Below w.heap.size w w':=by
 have HF:=ae A;have K:=ae Q2;have hb:=A.1;obtain⟨R,P,O,L,⟨a0,h,M,ZA⟩,⟨a1,l,QZ,QX⟩⟩:=A.2 p QY;obtain⟨r,E⟩:∃ r,r=bi f p:=⟨_,rfl⟩
 rw[<-E];have B:=ae E;obtain⟨x,G⟩:∃ x,x=f p:=⟨_,rfl⟩
 rw[<-G] at R P O L M QZ ZA z;have C:=ae G;have QW:=ae ZA;clear E G ZA QX A Q2;have q:=ae (((q9 w).alloc ly (Q #[Y (N (T b off Z)) n cap] 25)).alloc (by simp) (Q #[U x.name,I J x.kind,I J x.code,U x.text,Y a0 x.actN h,Y a1 x.linksN l] 46));have u:=ae (lv (w.alloc (Q #[Y (N (T b off Z)) n cap] 25)) (U x.name) (I J x.kind) (I J x.code) (U x.text) (Y a0 x.actN h) (Y a1 x.linksN l) 46);have hz:(w.alloc (Q #[Y (N (T b off Z)) n cap] 25)).heap.size=w.heap.size+1:=by simp
 rw[hz] at u;have F:Hid (((w.alloc (Q #[Y (N (T b off Z)) n cap] 25)).alloc (Q #[U x.name,I J x.kind,I J x.code,U x.text,Y a0 x.actN h,Y a1 x.linksN l] 46)).cell? (T w.heap.size 0 Z)=N (Y (N (T b off Z)) n cap)):=by show World.cell? _ _=_;simp
 clear hz;go_enter Tryz.func164,Tryz.ntmps164;go_wp2_with fail;generalize (w.alloc (Q #[Y (N (T b off Z)) n cap] 25)).alloc (Q #[U x.name,I J x.kind,I J x.code,U x.text,Y a0 x.actN h,Y a1 x.linksN l] 46)=W at q u F ⊢;clear R P O L M QZ;cases hnm:av x.name with
 | false =>
  refine(jb x.name _).mono ?_;rintro e V ⟨g,c⟩;rw[hnm] at g;subst g;have j:=ae (q.trans (c.mono q.size));obtain rfl:r=QQ:=by rw[B.out];unfold bi;rw[<-C.out,hnm];rfl
  clear c;go_wp2;go_ret;exact⟨rfl,j⟩
 | true =>
 refine(jb x.name _).mono ?_;rintro e V ⟨g,c⟩;rw[hnm] at g;subst g;have j:=ae (q.trans (c.mono q.size));have m:=ae (u.below c);have K1:=ae ((c.cell (p:=(T w.heap.size 0 Z)) (ON u.lt)).trans F);have c1:=m.c1;have c2:=m.c2;have c3:=m.c3;clear c q u F;by_cases hbig:(2000:Int)<(x.text.size:Int)
 ·obtain rfl:r=QQ:=by rw[B.out];unfold bi;rw[<-C.out,hnm];simp;omega
  go_wp2;go_ret;exact⟨rfl,j⟩
 have D:Hid (r=kindOk f p x):=by show r=_;rw[B.out];unfold bi;rw[<-C.out,hnm,show decide (x.text.size<=2000)=QR by simp;omega];rfl
 clear B;cases h1:(x.kind == 1) with
 | true =>
  have t:x.kind=1:=by simpa using h1
  have i:Hid (aP x=r):=(D.trans (by unfold kindOk;rw[gA t])).symm;clear t;have c0:=m.c0;have c4:=m.c4;have c5:=m.c5;go_wp2_with fail;refine(pd x a0 h a1 l _).mono ?_;rintro e ZB ⟨rfl,c⟩;have o:=ae (j.trans (c.mono j.size));clear c;go_wp2;go_ret;exact⟨yX i,o⟩
 | false =>
 cases h2:(x.kind == 2) with
 | true =>
  have t:x.kind=2:=by simpa using h2
  have i:Hid (r=(aP x && decide (x.text.size=0))):=D.trans (by unfold kindOk;rw[eI (by omega),gA t]);clear t;have c0:=m.c0;have c4:=m.c4;have c5:=m.c5;go_wp2_with fail;refine(pd x a0 h a1 l _).mono ?_;rintro e ZB ⟨g,c⟩;have o:=ae (j.trans (c.mono j.size));have d3:=(m.below c).c3;clear c;cases hu:aP x with
  | false =>
   rw[hu] at g;subst g;obtain rfl:r=QQ:=by rw[i.out,hu];rfl
   go_wp2;go_ret;exact⟨rfl,o⟩
  | true =>
   rw[hu] at g;subst g;have y:Hid (decide (x.text.size=0)=r):=by show _=r;rw[i.out,hu];rfl
   go_wp2;go_ret;exact⟨bm (by rw[lw];exact y),o⟩
 | false =>
 cases h3:(x.kind == 3) with
 | false =>
  obtain rfl:r=QQ:=by rw[D.out];unfold kindOk;simp at h1 h2 h3;rw[eI h1,eI h2,eI h3]
  go_wp2;go_ret;exact⟨rfl,j⟩
 | true =>
 have i:Hid (r=ci f p x):=D.trans (by unfold kindOk;simp at h1 h2 h3;rw[eI h1,eI h2,gA h3]);by_cases Q0:0<=x.code
 ·by_cases S:x.code<=5
  ·have c4:=m.c4
   go_wp2_with fail;refine(sH a0 x.actN h x.act _ z (QW.below j ly) (K.below j K.1)).mono ?_;rintro e ZB ⟨g,c⟩;have o:=ae (j.trans (c.mono j.size));have K2:=(c.cell (p:=(T w.heap.size 0 Z)) (ON m.lt)).trans K1;clear c;cases hv:valid x.act x.actN with
   | false =>
    rw[hv] at g;subst g;obtain rfl:r=QQ:=by rw[i.out];simp[ci,hv]
    go_wp2;go_ret;exact⟨rfl,o⟩
   | true =>
    rw[hv] at g;subst g;have y:Hid ((decide (x.linksN<=200) && bS f p x x.linksN)=r):=by show _=r;rw[i.out];simp[ci,hv,Q0,S]
    have s:=ae (qk b off n cap p f ZB QY (HF.below o ly) Q9);rw[<-C.out] at s;rw[y.out] at s;go_wp2_with fail;refine s.mono ?_;rintro e w3 ⟨rfl,c⟩;have X:=ae (o.trans (c.mono o.size));clear c;go_wp2;go_ret;exact⟨rfl,X⟩
  ·obtain rfl:r=QQ:=by rw[i.out];simp[ci,S]
   go_wp2;go_ret;exact⟨rfl,j⟩
 ·obtain rfl:r=QQ:=by rw[i.out];simp[ci,Q0]
  go_wp2;go_ret;exact⟨rfl,j⟩
theorem sd (b off n cap:Nat)(f:Nat->aj)(w:H)(hn:(n:Int)<=400)(y:RowDeed w b off n f)(hcap:(n:Int)<=cap)(g:∀ i,i<n->cS (f i))(B:Tab w):Calls Tryz.prog 132 #[QV #[Y (N (T b off Z)) n cap]] w fun e G=>e=QU (I J (aK (bi f) n))/\Below w.heap.size w G:=by
 have ZA:=ae y;have x:=ae B;have E:=ae g;clear y B g;have u:=ae ((q9 w).alloc ly (Q #[Y (N (T b off Z)) n cap] 25));have A:(w.alloc (Q #[Y (N (T b off Z)) n cap] 25)).cell? (T w.heap.size 0 Z)=N (Y (N (T b off Z)) n cap):=by simp
 have o:w.heap.size<(w.alloc (Q #[Y (N (T b off Z)) n cap] 25)).heap.size:=by simp
 obtain⟨r,q⟩:∃ r,r=aK (bi f) n:=⟨_,rfl⟩
 rw[<-q];have z:=ae q;clear q;go_enter Tryz.func132,Tryz.ntmps132;go_wp2;generalize w.alloc (Q #[Y (N (T b off Z)) n cap] 25)=W at u A o ⊢;go_loopw [7] (fun i wr=>∃ k:Nat,k<=n/\i=I J k/\Hid (∀ j,j<k->bi f j=QR)/\Hid (Below W.heap.size W wr)) (fun i _=>n - (intOf i).toNat);case atStart=>exact⟨0,by omega,rfl,fun j C=>absurd C (JP _),eL _ _⟩
 case round =>
  obtain⟨k,hk,rfl,t,m⟩:=hrel;have k1:=(m.cell (p:=(T w.heap.size 0 Z)) o).trans A;have h:=ae (u.trans (m.mono u.size));by_cases c:k<n
  ·go_wp2_with fail
   refine(r9 b off n cap k f _ c (ZA.below h ly) (by omega) (E k c).1 (x.below h x.1)).mono ?_;rintro e w2 ⟨l,s⟩;have ZB:=ae (h.trans (s.mono h.size));have D:=ae (m.trans (s.mono m.size));clear s;cases hd:bi f k with
   | true =>
    rw[hd] at l;subst l;have F:=ae hd;clear hd;go_wp2
    exact⟨⟨k+1,by omega,by go_num,fun j C=>by
     by_cases e:j=k
     ·subst e;exact F
     ·exact t j (by omega),D⟩,by simp[intOf];omega⟩
   | false =>
    rw[hd] at l;subst l;obtain rfl:r=k:=by rw[z.out];exact fM c hd t
    clear hd;go_wp2;go_ret;exact⟨rfl,ZB⟩
  ·have e:n=k:=by omega
   subst e;obtain rfl:r=-1:=by rw[z.out];exact ep t
   go_wp2;go_ret;exact⟨rfl,h⟩
theorem sI (x:aj)(a0:Option Addr)(c:Nat)(a1:Option Addr)(f:Nat)(w:H):Calls Tryz.prog 170 #[Ec x a0 c a1 f] w fun e j=>e=QU (QT (decide (x.text.size<=2000) && aP x))/\Below w.heap.size w j:=by
 have b:=ae ((q9 w).alloc ly (Q #[U x.name,I J x.kind,I J x.code,U x.text,Y a0 x.actN c,Y a1 x.linksN f] 46));obtain⟨r,h⟩:∃ r,r=(decide (x.text.size<=2000) && aP x):=⟨_,rfl⟩
 rw[<-h];have g:=ae h;clear h;go_enter Tryz.func170,Tryz.ntmps170;cases h1:(x.code == 0) with
 | false =>
  obtain rfl:r=QQ:=by rw[g.out];simp at h1;simp[aP,h1]
  go_wp2;go_ret;exact⟨rfl,b⟩
 | true =>
  by_cases h4:(x.text.size:Int)<=2000
  ·have i:decide (x.text.size<=2000)=QR:=by simp;omega
   cases h2:((x.actN:Int) == 0) with
   | false =>
    obtain rfl:r=QQ:=by rw[g.out];simp at h2;simp[aP];omega
    go_wp2;go_ret;exact⟨rfl,b⟩
   | true =>
    cases h3:((x.linksN:Int) == 0) with
    | false =>
     obtain rfl:r=QQ:=by rw[g.out];simp at h3;simp[aP];omega
     go_wp2;go_ret;exact⟨rfl,b⟩
    | true =>
     obtain rfl:r=QR:=by rw[g.out,i];simp at h1 h2 h3;simp[aP,h1,h2,h3]
     go_wp2;go_ret;exact⟨rfl,b⟩
  ·obtain rfl:r=QQ:=by rw[g.out];simp;omega
   go_wp2;go_ret;exact⟨rfl,b⟩
theorem qn (b off n cap p:Nat)(f:Nat->aj)(w:H)(hp:p<n)(K:RowDeed w b off n f)(F:(f p).actN<=1048576)(G:∀ j,j<(f p).actN->((f p).act j).s.size<=maxLen):Calls Tryz.prog 171 #[QV #[Y (N (T b off Z)) n cap],I J (p:Int)] w fun e w'=>e=QU (QT (decide ((f p).text.size<=2000) && ci f p (f p)))/\Below w.heap.size w w':=by
 have HF:=ae K;have hb:=K.1;obtain⟨p0,p1,p2,p3,⟨a0,g,p4,q4⟩,⟨a1,u,p5,q5⟩⟩:=K.2 p hp;obtain⟨x,hx⟩:∃ x,x=f p:=⟨_,rfl⟩
 rw[<-hx] at p0 p1 p2 p3 p4 p5 q4 q5 F G ⊢;have HX:=ae hx;have Q4:=ae q4;have Q5:=ae q5;have HZ:=ae G;clear hx q4 q5 K G;have z:=ae (((q9 w).alloc ly (Q #[Y (N (T b off Z)) n cap] 25)).alloc (by simp) (Q #[U x.name,I J x.kind,I J x.code,U x.text,Y a0 x.actN g,Y a1 x.linksN u] 46));have y:=ae (lv (w.alloc (Q #[Y (N (T b off Z)) n cap] 25)) (U x.name) (I J x.kind) (I J x.code) (U x.text) (Y a0 x.actN g) (Y a1 x.linksN u) 46);have hz:(w.alloc (Q #[Y (N (T b off Z)) n cap] 25)).heap.size=w.heap.size+1:=by simp
 rw[hz] at y;have K0:Hid (((w.alloc (Q #[Y (N (T b off Z)) n cap] 25)).alloc (Q #[U x.name,I J x.kind,I J x.code,U x.text,Y a0 x.actN g,Y a1 x.linksN u] 46)).cell? (T w.heap.size 0 Z)=N (Y (N (T b off Z)) n cap)):=by show World.cell? _ _=_;simp
 clear hz;obtain⟨r,C⟩:∃ r,r=(decide (x.text.size<=2000) && ci f p x):=⟨_,rfl⟩
 rw[<-C];have D:=ae C;clear C;have c2:=y.c2;have c3:=y.c3;have c4:=y.c4;have c5:=y.c5;by_cases g1:0<=x.code;case neg =>
  obtain rfl:r=QQ:=by rw[D.out];simp[ci,g1]
  go_enter Tryz.func171,Tryz.ntmps171;go_wp2;go_ret;exact⟨rfl,z⟩
 by_cases g2:x.code<=5;case neg =>
  obtain rfl:r=QQ:=by rw[D.out];simp[ci,g2]
  go_enter Tryz.func171,Tryz.ntmps171;go_wp2;go_ret;exact⟨rfl,z⟩
 by_cases g3:(x.text.size:Int)<=2000;case neg =>
  obtain rfl:r=QQ:=by rw[D.out];simp;omega
  go_enter Tryz.func171,Tryz.ntmps171;go_wp2;go_ret;exact⟨rfl,z⟩
 have Q2:decide (x.text.size<=2000)=QR:=by simp;omega
 go_enter Tryz.func171,Tryz.ntmps171;go_wp2_with fail;generalize (w.alloc (Q #[Y (N (T b off Z)) n cap] 25)).alloc (Q #[U x.name,I J x.kind,I J x.code,U x.text,Y a0 x.actN g,Y a1 x.linksN u] 46)=W at z y K0 ⊢;clear p0 p1 p2 p3 p4 p5;refine(jv a0 x.actN g x.act _ F (Q4.below z ly) HZ).mono ?_;rintro e w1 ⟨t,c⟩;have Q0:=ae (z.trans (c.mono z.size));have S1:=ae (y.below c);have K1:=ae ((c.cell (p:=(T w.heap.size 0 Z)) (ON y.lt)).trans K0);clear c z y K0 c2 c3 c4 c5;have c5:=S1.c5;cases hv:valid x.act x.actN with
 | false =>
  rw[hv] at t;subst t;obtain rfl:r=QQ:=by rw[D.out];simp[ci,hv]
  go_wp2;go_ret;exact⟨rfl,Q0⟩
 | true =>
 rw[hv] at t;subst t;have ZA:Hid (r=(decide (x.linksN<=200) && bS f p x x.linksN)):=by show r=_;rw[D.out,Q2];simp[ci,hv,g1,g2]
 clear D Q2 hv;by_cases hbig:(200:Int)<(x.linksN:Int)
 ·obtain rfl:r=QQ:=by rw[ZA.out];simp;omega
  go_wp2;go_ret;exact⟨rfl,Q0⟩
 have QX:Hid (r=bS f p x x.linksN):=by show r=_;rw[ZA.out,show decide (x.linksN<=200)=QR by simp;omega];rfl
 clear ZA;go_wp2;have aq:w.heap.size+1<w1.heap.size:=S1.lt;go_loopw [6] (fun i wr=>∃ k:Nat,k<=x.linksN/\i=I J k/\Hid (bS f p x k=QR)/\Hid (Below w1.heap.size w1 wr)) (fun i _=>x.linksN - (intOf i).toNat);case atStart=>exact⟨0,by omega,rfl,rfl,eL _ _⟩
 case round =>
  obtain⟨k,hk,rfl,HK,R⟩:=hrel;have e5:=(R.cell (p:=(T (w.heap.size+1) 5 Z)) aq).trans c5;have S:=ae (Q0.trans (R.mono Q0.size));by_cases ZB:k<x.linksN
  ·obtain⟨lb,lo,rfl,Q9⟩:=(Q5.below S ly).resolve_left (by omega)
   have V:=Q9.2 k ZB;obtain⟨l,hl⟩:∃ l,l=x.links k:=⟨_,rfl⟩
   rw[<-hl] at V;obtain⟨d0,d1,d2,d3⟩:=V;have HS:Hid (bS f p x (k+1)=ee f p l):=by show(bS f p x k && ee f p (x.links k))=_;rw[HK.out,LA,<-hl]
   clear hl Q9;have O:=ae (S.alloc S.size (Q #[U l.name,QT l.ask,QT l.has,I J l.at_] 129));have E:=ae (R.alloc R.size (Q #[U l.name,QT l.ask,QT l.has,I J l.at_] 129));have L:(wr.alloc (Q #[U l.name,QT l.ask,QT l.has,I J l.at_] 129)).cell? (T wr.heap.size 0 Z)=N (U l.name):=by simp
   have M:(wr.alloc (Q #[U l.name,QT l.ask,QT l.has,I J l.at_] 129)).cell? (T wr.heap.size 1 Z)=N (QT l.ask):=by simp
   have P:(wr.alloc (Q #[U l.name,QT l.ask,QT l.has,I J l.at_] 129)).cell? (T wr.heap.size 2 Z)=N (QT l.has):=by simp
   have QZ:(wr.alloc (Q #[U l.name,QT l.ask,QT l.has,I J l.at_] 129)).cell? (T wr.heap.size 3 Z)=N (I J l.at_):=by simp
   have m:wr.heap.size<(wr.alloc (Q #[U l.name,QT l.ask,QT l.has,I J l.at_] 129)).heap.size:=by simp
   have kA:=(E.cell (p:=(T w.heap.size 0 Z)) (by show w.heap.size<_;omega)).trans K1;have QY:w.heap.size<(wr.alloc (Q #[U l.name,QT l.ask,QT l.has,I J l.at_] 129)).heap.size:=by have:=E.size;omega
   go_wp2_with fail;clear d0 d1 d2 d3 e5;generalize wr.alloc (Q #[U l.name,QT l.ask,QT l.has,I J l.at_] 129)=W1 at O E L M P QZ m kA QY ⊢;generalize wr.heap.size=X at L M P QZ m ⊢;refine(cY l.name _).mono ?_;rintro e w2 ⟨t,c⟩;have A:=ae (O.trans (c.mono O.size));have C2:=ae (E.trans (c.mono E.size));have f0:=(c.cell (p:=(T X 0 Z)) m).trans L;have f1:=(c.cell (p:=(T X 1 Z)) m).trans M;have f2:=(c.cell (p:=(T X 2 Z)) m).trans P;have f3:=(c.cell (p:=(T X 3 Z)) m).trans QZ;have kB:=(c.cell (p:=(T w.heap.size 0 Z)) QY).trans kA;have FR:=ae (HF.below A ly);clear c L M P QZ kA O E;have HLT:=ae ZB;have no:ee f p l=QQ->r=QQ:=fun h=>by rw[QX.out];exact lu ZB (HS.trans h)
   have o:=ae no;clear no;cases hnm:av l.name with
   | false =>rw[hnm] at t;subst t;obtain rfl:r=QQ:=o.out (by rw[dU,hnm];rfl);go_wp2;go_ret;exact⟨rfl,A⟩
   | true =>
   rw[hnm] at t;subst t;cases hask:l.ask with
   | false =>
    rw[hask] at f1;cases h1:(l.at_ == 0) with
    | false =>obtain rfl:r=QQ:=o.out (by simp at h1;rw[dU,hnm];simp[dD,hask,h1]);go_wp2;go_ret;exact⟨rfl,A⟩
    | true =>have HN:Hid (bS f p x (k+1)=QR):=HS.trans (by simp at h1;rw[dU,hnm];simp[dD,hask,h1]);go_wp2_with fail;go_quiet (fail);have C3:=ae (F6 C2 nq);go_wp2;exact⟨⟨k+1,by omega,by go_num,HN,C3⟩,by simp[intOf];omega⟩
   | true =>
    rw[hask] at f1;cases hhas:l.has with
    | true =>rw[hhas] at f2;obtain rfl:r=QQ:=o.out (by rw[dU,hnm];simp[dD,hask,hhas]);go_wp2_with fail;go_quiet (fail);have B:=ae (F6 A nq);go_wp2;go_ret;exact⟨rfl,B⟩
    | false =>
     rw[hhas] at f2;by_cases g4:0<=l.at_
     ·by_cases g5:l.at_<(p:Int)
      ·obtain⟨q,hq⟩:∃ q:Nat,l.at_=(q:Int):=⟨l.at_.toNat,by omega⟩
       rw[hq] at f3 g5;have bt:q<n:=by omega
       have d0:=(FR.2 q bt).1;have h5:decide ((p:Int)<=(q:Int))=QQ:=by simp;omega
       have h5n:decide (p<=q)=QQ:=by simp;omega
       have h6:decide ((q:Int)<0)=QQ:=by simp
       have hq0:(0:Int)<=q:=by omega
       have hqn':(q:Int)<n:=by omega
       have QW:Hid (dD f p l=((f q).name.toList == l.name.toList)):=by show dD f p l=_;simp[dD,hask,hhas,hq,g5]
       cases C:((f q).name.toList == l.name.toList) with
       | true =>have HN:Hid (bS f p x (k+1)=QR):=HS.trans (by rw[dU,hnm,QW.out,C];rfl);go_wp2_with fail;go_quiet (fail);have C3:=ae (F6 C2 nq);go_wp2;exact⟨⟨k+1,by omega,by go_num,HN,C3⟩,by simp[intOf];omega⟩
       | false =>obtain rfl:r=QQ:=o.out (by rw[dU,hnm,QW.out,C];rfl);go_wp2_with fail;go_quiet (fail);have B:=ae (F6 A nq);go_wp2;go_ret;exact⟨rfl,B⟩
      ·obtain rfl:r=QQ:=o.out (by rw[dU,hnm];simp[dD,hask,g5])
       have h5:(p:Int)<=l.at_:=by omega
       have h6:decide (l.at_<0)=QQ:=by simpa using g4
       go_wp2_with fail;go_quiet (fail);have B:=ae (F6 A nq);go_wp2;go_ret;exact⟨rfl,B⟩
     ·obtain rfl:r=QQ:=o.out (by rw[dU,hnm];simp[dD,hask,g4])
      have h6:l.at_<0:=by omega
      go_wp2_with fail;go_quiet (fail);have B:=ae (F6 A nq);go_wp2;go_ret;exact⟨rfl,B⟩
  ·have e:x.linksN=k:=by omega
   obtain rfl:r=QR:=by rw[QX.out,e];exact HK
   have h5:((k:Int)<(x.linksN:Int))=False:=by simp;omega
   go_wp2;go_ret;exact⟨rfl,S⟩
theorem sJ (b off n cap p:Nat)(f:Nat->aj)(w:H)(Q2:p<n)(C:RowDeed w b off n f)(o:(f p).actN<=1048576)(z:∀ j,j<(f p).actN->((f p).act j).s.size<=maxLen):Calls Tryz.prog 138 #[QV #[Y (N (T b off Z)) n cap],I J (p:Int)] w fun e D=>e=QU (QT (bi f p))/\Below w.heap.size w D:=by
 have A:=ae (fun D (hb:Below w.heap.size w D)=>qn b off n cap p f D Q2 (C.below hb ly) o z);obtain⟨r,G⟩:∃ r,r=bi f p:=⟨_,rfl⟩
 rw[<-G];have ZA:=ae G;clear G;have hb:=C.1;obtain⟨R,Q0,P,L,⟨a0,i,M,QY⟩,⟨a1,l,QZ,S⟩⟩:=C.2 p Q2;obtain⟨x,K⟩:∃ x,x=f p:=⟨_,rfl⟩
 rw[<-K] at R Q0 P L M QZ QY S o z A;have O:=ae K;clear K QY S C z o;have E:=ae (((q9 w).alloc ly (Q #[Y (N (T b off Z)) n cap] 25)).alloc (by simp) (Q #[U x.name,I J x.kind,I J x.code,U x.text,Y a0 x.actN i,Y a1 x.linksN l] 46));have y:=ae (lv (w.alloc (Q #[Y (N (T b off Z)) n cap] 25)) (U x.name) (I J x.kind) (I J x.code) (U x.text) (Y a0 x.actN i) (Y a1 x.linksN l) 46);have hz:(w.alloc (Q #[Y (N (T b off Z)) n cap] 25)).heap.size=w.heap.size+1:=by simp
 rw[hz] at y;have Q9:Hid (((w.alloc (Q #[Y (N (T b off Z)) n cap] 25)).alloc (Q #[U x.name,I J x.kind,I J x.code,U x.text,Y a0 x.actN i,Y a1 x.linksN l] 46)).cell? (T w.heap.size 0 Z)=N (Y (N (T b off Z)) n cap)):=by show World.cell? _ _=_;simp
 clear hz;go_enter Tryz.func138,Tryz.ntmps138;go_wp2_with fail;generalize (w.alloc (Q #[Y (N (T b off Z)) n cap] 25)).alloc (Q #[U x.name,I J x.kind,I J x.code,U x.text,Y a0 x.actN i,Y a1 x.linksN l] 46)=W at E y Q9 ⊢;clear R Q0 P L M QZ;refine(cY x.name _).mono ?_;rintro e V ⟨B,m⟩;have g:=ae (E.trans (m.mono E.size));have q:=ae (y.below m);have QW:=ae ((m.cell (p:=(T w.heap.size 0 Z)) (ON y.lt)).trans Q9);clear m E y Q9;cases hnm:av x.name with
 | false =>
  rw[hnm] at B;subst B;obtain rfl:r=QQ:=by rw[ZA.out];unfold bi;rw[<-O.out,hnm];rfl
  go_wp2;go_ret;exact⟨rfl,g⟩
 | true =>
 rw[hnm] at B;subst B;have t:Hid (r=(decide (x.text.size<=2000) && kindOk f p x)):=by show r=_;rw[ZA.out];unfold bi;rw[<-O.out,hnm];rfl
 clear ZA;have c0:=q.c0;have c1:=q.c1;have c2:=q.c2;have c3:=q.c3;have c4:=q.c4;have c5:=q.c5;cases h1:(x.kind == 1) with
 | true =>
  have u:x.kind=1:=by simpa using h1
  have c:Hid ((decide (x.text.size<=2000) && aP x)=r):=(t.trans (by unfold kindOk;rw[gA u])).symm;clear u;go_wp2_with fail;refine(sI x a0 i a1 l _).mono ?_;rintro e X ⟨rfl,m⟩;have ZB:=ae (g.trans (m.mono g.size));clear m;go_wp2;go_ret;exact⟨yX c,ZB⟩
 | false =>
 cases h2:(x.kind == 2) with
 | true =>
  have u:x.kind=2:=by simpa using h2
  have c:Hid (r=(aP x && decide (x.text.size=0))):=t.trans (by
   unfold kindOk;rw[eI (by omega),gA u];by_cases h:x.text.size=0
   ·simp[h]
   ·simp[h])
  clear u t;cases g1:(x.code == 0) with
  | false =>
   obtain rfl:r=QQ:=by rw[c.out];simp at g1;simp[aP,g1]
   go_wp2;go_ret;exact⟨rfl,g⟩
  | true =>
  cases g2:x.text.toList.isEmpty with
  | false =>
   obtain rfl:r=QQ:=by rw[c.out,<-lw,g2];simp
   go_wp2;go_ret;exact⟨rfl,g⟩
  | true =>
  cases g3:((x.actN:Int) == 0) with
  | false =>
   obtain rfl:r=QQ:=by rw[c.out];simp at g3;simp[aP];omega
   go_wp2;go_ret;exact⟨rfl,g⟩
  | true =>
  cases g4:((x.linksN:Int) == 0) with
  | false =>
   obtain rfl:r=QQ:=by rw[c.out];simp at g4;simp[aP];omega
   go_wp2;go_ret;exact⟨rfl,g⟩
  | true =>
   obtain rfl:r=QR:=by rw[c.out,<-lw,g2];simp at g1 g3 g4;simp[aP,g1,g3,g4]
   go_wp2;go_ret;exact⟨rfl,g⟩
 | false =>
 cases h3:(x.kind == 3) with
 | false =>
  obtain rfl:r=QQ:=by rw[t.out];unfold kindOk;simp at h1 h2 h3;rw[eI h1,eI h2,eI h3];simp
  go_wp2;go_ret;exact⟨rfl,g⟩
 | true =>have c:Hid ((decide (x.text.size<=2000) && ci f p x)=r):=(t.trans (by unfold kindOk;simp at h1 h2 h3;rw[eI h1,eI h2,gA h3])).symm;have k1:=QW.out;have F:=ae (A V g);rw[c.out] at F;clear A t;go_wp2_with fail;refine F.mono ?_;rintro e X ⟨rfl,m⟩;have ZB:=ae (g.trans (m.mono g.size));clear m;go_wp2;go_ret;exact⟨rfl,ZB⟩
end Go.Proofs.YtamacmnikdejeaaGreatDoor.Vp
