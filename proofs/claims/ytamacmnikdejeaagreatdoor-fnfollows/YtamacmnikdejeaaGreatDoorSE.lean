import Derived.Test.YtamacmnikdejeaaGreatDoorSD
import Derived.Deep.DeepCutAuto
set_option maxRecDepth 100000
set_option maxHeartbeats 4000000
open Go.Addr renaming mk->N
open Go.Value renaming slice->Y,string->U,int->J,bool->QC,agg->QG
open Option renaming none->Z,some->T
open Go.Obj renaming cells->Q
open Go.IntKind renaming i64->I
open Go renaming World->G,Value->QE
open Bool renaming false->QB,true->QD
open Go.Ending renaming returned->QF
namespace Go.Proofs.YtamacmnikdejeaaGreatDoor.Vp
open RowKit
abbrev Cb (x:ah)(a0:Option Addr)(b:Nat)(a1:Option Addr)(f:Nat):QE:=QG #[U x.name,J I x.kind,J I x.code,U x.text,Y a0 x.actN b,Y a1 x.linksN f]
abbrev EE (l:Link):QE:=QG #[U l.name,QC l.ask,QC l.has,J I l.at_]
theorem oH (x:ah)(a0:Option Addr)(b:Nat)(a1:Option Addr)(f:Nat)(w:G):Calls Tryz.prog 186 #[Cb x a0 b a1 f] w fun e j=>e=QF (QC (aS x))/\Below w.heap.size w j:=by
 have h:=ae ((q9 w).alloc ly (Q #[U x.name,J I x.kind,J I x.code,U x.text,Y a0 x.actN b,Y a1 x.linksN f] 46));obtain⟨r,i⟩:∃ r,r=aS x:=⟨_,rfl⟩
 rw[<-i];have g:=ae i;clear i;go_enter Tryz.func186,Tryz.ntmps186;cases h1:(x.code == 0) with
 | false =>
  obtain rfl:r=QB:=by rw[g.out];simp at h1;simp[aS,h1]
  go_wp2;go_ret;exact⟨rfl,h⟩
 | true =>
  cases h2:((x.actN:Int) == 0) with
  | false =>
   obtain rfl:r=QB:=by rw[g.out];simp at h2;simp[aS];omega
   go_wp2;go_ret;exact⟨rfl,h⟩
  | true =>
   cases h3:((x.linksN:Int) == 0) with
   | false =>
    obtain rfl:r=QB:=by rw[g.out];simp at h3;simp[aS];omega
    go_wp2;go_ret;exact⟨rfl,h⟩
   | true =>
    obtain rfl:r=QD:=by rw[g.out];simp at h1 h2 h3;simp[aS,h1,h2,h3]
    go_wp2;go_ret;exact⟨rfl,h⟩
def dn (f:Nat->ah)(p:Nat)(l:Link):Bool:=if l.ask=QD then !l.has && decide (0<=l.at_) && decide (l.at_<(p:Int)) && ((f l.at_.toNat).name.toList == l.name.toList) else decide (l.at_=0)
theorem dD (f:Nat->ah)(p:Nat)(l:Link):dm f p l=(au l.name && dn f p l):=rfl
theorem lJ (b off n p cap:Nat)(f:Nat->ah)(l:Link)(w:G)(hp:p<=n)(j:RowDeed w b off n f):Calls Tryz.prog 209 #[Y (T (N b off Z)) p cap,EE l] w fun e t=>e=QF (QC (dn f p l))/\Below w.heap.size w t:=by
 have g:=ae ((q9 w).alloc ly (Q #[U l.name,QC l.ask,QC l.has,J I l.at_] 129));have m:=ae (j.below g ly);have hb:=j.1;clear j;obtain⟨r,h⟩:∃ r,r=dn f p l:=⟨_,rfl⟩
 rw[<-h];have i:=ae h;clear h;obtain⟨nm,ask,has,at_⟩:=l;go_enter Tryz.func209,Tryz.ntmps209;cases ask with
 | false =>
  cases h1:(at_ == 0) with
  | true =>
   obtain rfl:r=QD:=by rw[i.out];simp at h1;simp[dn,h1]
   go_wp2;go_ret;exact⟨rfl,g⟩
  | false =>
   obtain rfl:r=QB:=by rw[i.out];simp at h1;simp[dn,h1]
   go_wp2;go_ret;exact⟨rfl,g⟩
 | true =>
  cases has with
  | true =>
   obtain rfl:r=QB:=by rw[i.out];simp[dn]
   go_wp2_with fail;go_quiet (fail);go_wp2;go_ret;exact⟨rfl,AT g _⟩
  | false =>
   by_cases h1:0<=at_
   ·by_cases h2:at_<(p:Int)
    ·obtain⟨q,rfl⟩:∃ q:Nat,at_=(q:Int):=⟨at_.toNat,by omega⟩
     have s:q<n:=by omega
     have d0:=(m.2 q s).1;have e:r=((f q).name.toList == nm.toList):=by rw[i.out];simp[dn,h2]
     cases h:((f q).name.toList == nm.toList) with
     | true =>rw[h] at e;subst e;go_wp2_with fail;go_quiet (fail);go_wp2;go_ret;exact⟨rfl,AT g _⟩
     | false =>rw[h] at e;subst e;go_wp2_with fail;go_quiet (fail);go_wp2;go_ret;exact⟨rfl,AT g _⟩
    ·obtain rfl:r=QB:=by rw[i.out];simp[dn,h2]
     have o:decide (at_<(p:Int))=QB:=by simpa using h2
     go_wp2_with fail;go_quiet (fail);go_wp2;go_ret;exact⟨rfl,AT g _⟩
   ·obtain rfl:r=QB:=by rw[i.out];simp[dn,h1]
    have o:decide (0<=at_)=QB:=by simpa using h1
    go_wp2_with fail;go_quiet (fail);go_wp2;go_ret;exact⟨rfl,AT g _⟩
theorem km {f:Nat->ah}{p:Nat}{x:ah}{k m:Nat}(hk:k<m)(h:bq f p x (k+1)=QB):bq f p x m=QB:=by
 induction m with
 | zero=>omega
 | succ j b =>
  by_cases e:k=j
  ·subst e;exact h
  ·rw[bq,b (by omega)];rfl
theorem pI (b off n cap p:Nat)(f:Nat->ah)(w:G)(hp:p<n)(QR:RowDeed w b off n f)(hcap:(p:Int)<=cap):Calls Tryz.prog 187 #[QG #[Y (T (N b off Z)) n cap],J I (p:Int)] w fun e QK=>e=QF (QC (decide ((f p).linksN<=200) && bq f p (f p) (f p).linksN))/\Below w.heap.size w QK:=by
 have o:=ae ((q9 w).alloc ly (Q #[Y (T (N b off Z)) n cap] 25));have HF:=ae QR;obtain⟨_,_,_,_,_,⟨a1,cap1,QN,r1⟩⟩:=QR.2 p hp;have hb:=QR.1;have k0:(w.alloc (Q #[Y (T (N b off Z)) n cap] 25)).cell? (N w.heap.size 0 Z)=T (Y (T (N b off Z)) n cap):=by simp
 have p5:=(o.cell (p:=(N b (off+p*6+5) Z)) hb).trans QN;have HL:=ae r1;have t:w.heap.size<(w.alloc (Q #[Y (T (N b off Z)) n cap] 25)).heap.size:=by simp
 clear r1 QN QR;obtain⟨m,R⟩:∃ m,m=(f p).linksN:=⟨_,rfl⟩
 obtain⟨L,hL⟩:∃ L,L=(f p).links:=⟨_,rfl⟩
 rw[<-R] at p5 HL ⊢;rw[<-hL] at HL;have HM:=ae R;have ex:=ae hL;clear R hL;by_cases hbig:(200:Int)<(m:Int)
 ·obtain⟨r,O⟩:∃ r,r=(decide (m<=200) && bq f p (f p) m):=⟨_,rfl⟩
  rw[<-O];obtain rfl:r=QB:=by rw[O];simp;omega
  clear O;go_enter Tryz.func187,Tryz.ntmps187;go_wp2;go_ret;exact⟨rfl,o⟩
 have hd:decide (m<=200)=QD:=by simp;omega
 rw[hd,JJ];clear hd;go_enter Tryz.func187,Tryz.ntmps187;go_wp2;generalize w.alloc (Q #[Y (T (N b off Z)) n cap] 25)=W at o k0 t ⊢;clear p5;go_loopw [19] (fun i wr=>∃ k:Nat,k<=m/\i=J I k/\Hid (bq f p (f p) k=QD)/\Hid (Below W.heap.size W wr)) (fun i _=>m - (intOf i).toNat);case atStart=>exact⟨0,by omega,rfl,rfl,a8 _ _⟩
 case round =>
  obtain⟨k,hk,rfl,QH,s⟩:=hrel;by_cases x:k<m
  ·obtain⟨lb,lo,rfl,aq,D⟩:=HL.resolve_left (by omega)
   have hx:=(D k x).below (o.trans (s.mono o.size)) aq;obtain⟨l,S⟩:∃ l,l=L k:=⟨_,rfl⟩
   rw[<-S] at hx;have bt:=ae S;obtain⟨d0,d1,d2,d3⟩:=hx;clear S D;have QJ:Hid (bq f p (f p) (k+1)=dm f p l):=by show(bq f p (f p) k && dm f p ((f p).links k))=_;rw[QH.out,JJ,<-ex.out,<-bt.out]
   have B:=ae ((o.trans (s.mono o.size)).alloc (by have:=o.size;have:=s.size;omega) (Q #[U l.name,QC l.ask,QC l.has,J I l.at_] 129));have u:=ae ((s).alloc s.size (Q #[U l.name,QC l.ask,QC l.has,J I l.at_] 129));have QP:(wr.alloc (Q #[U l.name,QC l.ask,QC l.has,J I l.at_] 129)).cell? (N wr.heap.size 0 Z)=T (U l.name):=by simp
   have H:(wr.alloc (Q #[U l.name,QC l.ask,QC l.has,J I l.at_] 129)).cell? (N wr.heap.size 1 Z)=T (QC l.ask):=by simp
   have QO:(wr.alloc (Q #[U l.name,QC l.ask,QC l.has,J I l.at_] 129)).cell? (N wr.heap.size 2 Z)=T (QC l.has):=by simp
   have E:(wr.alloc (Q #[U l.name,QC l.ask,QC l.has,J I l.at_] 129)).cell? (N wr.heap.size 3 Z)=T (J I l.at_):=by simp
   have hX:wr.heap.size<(wr.alloc (Q #[U l.name,QC l.ask,QC l.has,J I l.at_] 129)).heap.size:=by simp
   have k1:=(u.cell (p:=(N w.heap.size 0 Z)) t).trans k0;have y:w.heap.size<(wr.alloc (Q #[U l.name,QC l.ask,QC l.has,J I l.at_] 129)).heap.size:=lj t u.size;have P:=ae (HF.below B ly);go_upto_region 7 with fail;clear d0 d1 d2 d3;generalize wr.alloc (Q #[U l.name,QC l.ask,QC l.has,J I l.at_] 129)=K at B u QP H QO E hX k1 y P ⊢;generalize wr.heap.size=X at QP H QO E hX ⊢;have hp0:0<=(p:Int):=by omega
   have hpn:(p:Int)<=n:=by omega
   have M:p<=n:=by omega
   have hcap':p<=cap:=by omega
   cases hnm:au l.name with
   | false =>
    have hq:∀ w,Calls Tryz.prog 123 #[U l.name] w fun e QK=>e=QF (QC QB)/\QK=w:=fun w=>by rw[<-hnm];exact uf l.name w
    go_quiet ((go_at_call 123;exact Calls.quiet_of_same (hq _)));have hN:dm f p l=QB:=by rw[dD,hnm];rfl
    have C:=ae (QJ.trans hN);have A:=ae x;have G1:=ae (AT B nq);clear hN;go_wp2;go_ret;exact⟨BC (fun z=>Ending.returned (QC z)) (km A C).symm,G1⟩
   | true =>
    cases hla:dn f p l with
    | true =>
     go_region_with (first
      | (go_at_call 123;refine(fu _ _).mono ?_;rintro e V ⟨j,g⟩;rw[hnm] at j;subst j;have h:Hid (Below K.heap.size K V):=⟨g.os,g.tape,g.output,g.size,g.block⟩;have f0:=(h.cell (p:=(N X 0 Z)) hX).trans QP;have f1:=(h.cell (p:=(N X 1 Z)) hX).trans H;have f2:=(h.cell (p:=(N X 2 Z)) hX).trans QO;have f3:=(h.cell (p:=(N X 3 Z)) hX).trans E;have k2:=(h.cell (p:=(N w.heap.size 0 Z)) y).trans k1;have QM:=ae (P.below h ly);clear g)
      | (go_at_call 209;refine(lJ b off n p cap f l _ M QM).mono ?_;rintro e w2 ⟨j,q⟩;rw[hla] at j;subst j;have QL:=ae (h.trans (q.mono h.size));clear q))
     all_goals
      have C:Hid (bq f p (f p) (k+1)=QD):=QJ.trans (by rw[dD,hnm,hla];rfl);have G2:=ae (u.trans (QL.mono u.size));go_wp2;exact⟨⟨k+1,by omega,by go_num,C,G2⟩,by simp[intOf];omega⟩
    | false =>
     go_region_with (first
      | (go_at_call 123;refine(fu _ _).mono ?_;rintro e V ⟨j,g⟩;rw[hnm] at j;subst j;have h:Hid (Below K.heap.size K V):=⟨g.os,g.tape,g.output,g.size,g.block⟩;have f0:=(h.cell (p:=(N X 0 Z)) hX).trans QP;have f1:=(h.cell (p:=(N X 1 Z)) hX).trans H;have f2:=(h.cell (p:=(N X 2 Z)) hX).trans QO;have f3:=(h.cell (p:=(N X 3 Z)) hX).trans E;have k2:=(h.cell (p:=(N w.heap.size 0 Z)) y).trans k1;have QM:=ae (P.below h ly);clear g)
      | (go_at_call 209;refine(lJ b off n p cap f l _ M QM).mono ?_;rintro e w2 ⟨j,q⟩;rw[hla] at j;subst j;have QL:=ae (h.trans (q.mono h.size));clear q))
     all_goals
      have C:Hid (bq f p (f p) (k+1)=QB):=QJ.trans (by rw[dD,hnm,hla];rfl);have A:=ae x;have G2:=ae (B.trans (QL.mono (by have:=B.size;omega)));go_wp2;go_ret;exact⟨BC (fun z=>Ending.returned (QC z)) (km A C).symm,G2⟩
  ·have e:m=k:=by omega
   subst e;go_wp2;go_ret;exact⟨by rw[HM.out] at QH;rw[HM.out];exact BC (fun z=>Ending.returned (QC z)) QH.symm,o.trans (s.mono o.size)⟩
structure SixB (w:G)(b:Nat)(v0 v1 v2 v3 v4 v5:QE):Prop where
 lt:b<w.heap.size
 c0:w.cell? (N b 0 Z)=T v0
 c1:w.cell? (N b 1 Z)=T v1
 c2:w.cell? (N b 2 Z)=T v2
 c3:w.cell? (N b 3 Z)=T v3
 c4:w.cell? (N b 4 Z)=T v4
 c5:w.cell? (N b 5 Z)=T v5
theorem SixB.below {w m:G}{b:Nat}{f g i j l n:QE}(h:SixB w b f g i j l n)(hb:Below w.heap.size w m):SixB m b f g i j l n :=
 ⟨lj h.lt hb.size,(hb.cell (p:=(N b 0 Z)) h.lt).trans h.c0,(hb.cell (p:=(N b 1 Z)) h.lt).trans h.c1,(hb.cell (p:=(N b 2 Z)) h.lt).trans h.c2,(hb.cell (p:=(N b 3 Z)) h.lt).trans h.c3,(hb.cell (p:=(N b 4 Z)) h.lt).trans h.c4,(hb.cell (p:=(N b 5 Z)) h.lt).trans h.c5⟩
theorem ko (w:G)(g h i f b j:QE)(t:TypeId):SixB (w.alloc (Q #[g,h,i,f,b,j] t)) w.heap.size g h i f b j:=⟨by simp,by simp,by simp,by simp,by simp,by simp,by simp⟩
theorem kq (t:ByteArray):t.toList.isEmpty=decide (t.size=0):=by rw[IX];obtain⟨⟨l⟩⟩:=t;cases l<;>simp[ByteArray.size]
theorem xS {a b:Bool}(h:a=b):Ending.returned (QC a)=Ending.returned (QC b):=by rw[h]
theorem rq (b off n cap p:Nat)(f:Nat->ah)(w:G)(S:p<n)(C:RowDeed w b off n f)(H:(p:Int)<=cap)(A:(f p).actN<=1048576)(V:Tab w):Calls Tryz.prog 164 #[QG #[Y (T (N b off Z)) n cap],J I (p:Int)] w fun e w'=>e=QF (QC (aW f p))/\Below w.heap.size w w':=by
 have HF:=ae C;have R:=ae V;have hb:=C.1;obtain⟨QN,P,O,QM,⟨a0,i,M,QR⟩,⟨a1,m,X,q5⟩⟩:=C.2 p S;obtain⟨r,QP⟩:∃ r,r=aW f p:=⟨_,rfl⟩
 rw[<-QP];have E:=ae QP;obtain⟨x,QO⟩:∃ x,x=f p:=⟨_,rfl⟩
 rw[<-QO] at QN P O QM M X QR A;have B:=ae QO;have QH:=ae QR;clear QP QO QR q5 C V;have s:=ae (((q9 w).alloc ly (Q #[Y (T (N b off Z)) n cap] 25)).alloc (by simp) (Q #[U x.name,J I x.kind,J I x.code,U x.text,Y a0 x.actN i,Y a1 x.linksN m] 46));have t:=ae (ko (w.alloc (Q #[Y (T (N b off Z)) n cap] 25)) (U x.name) (J I x.kind) (J I x.code) (U x.text) (Y a0 x.actN i) (Y a1 x.linksN m) 46);have hz:(w.alloc (Q #[Y (T (N b off Z)) n cap] 25)).heap.size=w.heap.size+1:=by simp
 rw[hz] at t;have K:Hid (((w.alloc (Q #[Y (T (N b off Z)) n cap] 25)).alloc (Q #[U x.name,J I x.kind,J I x.code,U x.text,Y a0 x.actN i,Y a1 x.linksN m] 46)).cell? (N w.heap.size 0 Z)=T (Y (T (N b off Z)) n cap)):=by show World.cell? _ _=_;simp
 clear hz;go_enter Tryz.func164,Tryz.ntmps164;go_wp2_with fail;generalize (w.alloc (Q #[Y (T (N b off Z)) n cap] 25)).alloc (Q #[U x.name,J I x.kind,J I x.code,U x.text,Y a0 x.actN i,Y a1 x.linksN m] 46)=W at s t K ⊢;clear QN P O QM M X;cases hnm:au x.name with
 | false =>
  refine(fu x.name _).mono ?_;rintro e QJ ⟨h,g⟩;rw[hnm] at h;subst h;have l:=ae (s.trans (g.mono s.size));obtain rfl:r=QB:=by rw[E.out];unfold aW;rw[<-B.out,hnm];rfl
  clear g;go_wp2;go_ret;exact⟨rfl,l⟩
 | true =>
 refine(fu x.name _).mono ?_;rintro e QJ ⟨h,g⟩;rw[hnm] at h;subst h;have l:=ae (s.trans (g.mono s.size));have o:=ae (t.below g);have K1:=ae ((g.cell (p:=(N w.heap.size 0 Z)) (MA t.lt)).trans K);have c1:=o.c1;have c2:=o.c2;have c3:=o.c3;clear g s t K;by_cases hbig:(2000:Int)<(x.text.size:Int)
 ·obtain rfl:r=QB:=by rw[E.out];unfold aW;rw[<-B.out,hnm];simp;omega
  go_wp2;go_ret;exact⟨rfl,l⟩
 have D:Hid (r=kindOk f p x):=by show r=_;rw[E.out];unfold aW;rw[<-B.out,hnm,show decide (x.text.size<=2000)=QD by simp;omega];rfl
 clear E;cases h1:(x.kind == 1) with
 | true =>
  have u:x.kind=1:=by simpa using h1
  have j:Hid (aS x=r):=(D.trans (by unfold kindOk;rw[gM u])).symm;clear u;have c0:=o.c0;have c4:=o.c4;have c5:=o.c5;go_wp2_with fail;refine(oH x a0 i a1 m _).mono ?_;rintro e L ⟨rfl,g⟩;have q:=ae (l.trans (g.mono l.size));clear g;go_wp2;go_ret;exact⟨xS j,q⟩
 | false =>
 cases h2:(x.kind == 2) with
 | true =>
  have u:x.kind=2:=by simpa using h2
  have j:Hid (r=(aS x && decide (x.text.size=0))):=D.trans (by unfold kindOk;rw[cM (by omega),gM u]);clear u;have c0:=o.c0;have c4:=o.c4;have c5:=o.c5;go_wp2_with fail;refine(oH x a0 i a1 m _).mono ?_;rintro e L ⟨h,g⟩;have q:=ae (l.trans (g.mono l.size));have d3:=(o.below g).c3;clear g;cases hu:aS x with
  | false =>
   rw[hu] at h;subst h;obtain rfl:r=QB:=by rw[j.out,hu];rfl
   go_wp2;go_ret;exact⟨rfl,q⟩
  | true =>
   rw[hu] at h;subst h;have y:Hid (decide (x.text.size=0)=r):=by show _=r;rw[j.out,hu];rfl
   go_wp2;go_ret;exact⟨bo (by rw[kq];exact y),q⟩
 | false =>
 cases h3:(x.kind == 3) with
 | false =>
  obtain rfl:r=QB:=by rw[D.out];unfold kindOk;simp at h1 h2 h3;rw[cM h1,cM h2,cM h3]
  go_wp2;go_ret;exact⟨rfl,l⟩
 | true =>
 have j:Hid (r=bQ f p x):=D.trans (by unfold kindOk;simp at h1 h2 h3;rw[cM h1,cM h2,gM h3]);by_cases QK:0<=x.code
 ·by_cases QL:x.code<=5
  ·have c4:=o.c4
   go_wp2_with fail;refine(lP a0 x.actN i x.act _ A (QH.below l ly) (R.below l R.1)).mono ?_;rintro e L ⟨h,g⟩;have q:=ae (l.trans (g.mono l.size));have K2:=(g.cell (p:=(N w.heap.size 0 Z)) (MA o.lt)).trans K1;clear g;cases hv:valid x.act x.actN with
   | false =>
    rw[hv] at h;subst h;obtain rfl:r=QB:=by rw[j.out];simp[bQ,hv]
    go_wp2;go_ret;exact⟨rfl,q⟩
   | true =>
    rw[hv] at h;subst h;have y:Hid ((decide (x.linksN<=200) && bq f p x x.linksN)=r):=by show _=r;rw[j.out];simp[bQ,hv,QK,QL]
    have z:=ae (pI b off n cap p f L S (HF.below q ly) H);rw[<-B.out] at z;rw[y.out] at z;go_wp2_with fail;refine z.mono ?_;rintro e w3 ⟨rfl,g⟩;have B3:=ae (q.trans (g.mono q.size));clear g;go_wp2;go_ret;exact⟨rfl,B3⟩
  ·obtain rfl:r=QB:=by rw[j.out];simp[bQ,QL]
   go_wp2;go_ret;exact⟨rfl,l⟩
 ·obtain rfl:r=QB:=by rw[j.out];simp[bQ,QK]
  go_wp2;go_ret;exact⟨rfl,l⟩
theorem ru (b off n cap:Nat)(f:Nat->ah)(w:G)(hn:(n:Int)<=400)(y:RowDeed w b off n f)(hcap:(n:Int)<=cap)(l:∀ i,i<n->dJ (f i))(D:Tab w):Calls Tryz.prog 132 #[QG #[Y (T (N b off Z)) n cap]] w fun e K=>e=QF (J I (aF (aW f) n))/\Below w.heap.size w K:=by
 have QP:=ae y;have A:=ae D;have E:=ae l;clear y D l;have x:=ae ((q9 w).alloc ly (Q #[Y (T (N b off Z)) n cap] 25));have C:(w.alloc (Q #[Y (T (N b off Z)) n cap] 25)).cell? (N w.heap.size 0 Z)=T (Y (T (N b off Z)) n cap):=by simp
 have q:w.heap.size<(w.alloc (Q #[Y (T (N b off Z)) n cap] 25)).heap.size:=by simp
 obtain⟨r,t⟩:∃ r,r=aF (aW f) n:=⟨_,rfl⟩
 rw[<-t];have z:=ae t;clear t;go_enter Tryz.func132,Tryz.ntmps132;go_wp2;generalize w.alloc (Q #[Y (T (N b off Z)) n cap] 25)=W at x C q ⊢;go_loopw [7] (fun i wr=>∃ k:Nat,k<=n/\i=J I k/\Hid (∀ j,j<k->aW f j=QD)/\Hid (Below W.heap.size W wr)) (fun i _=>n - (intOf i).toNat);case atStart=>exact⟨0,by omega,rfl,fun j B=>absurd B (E4 _),a8 _ _⟩
 case round =>
  obtain⟨k,hk,rfl,u,o⟩:=hrel;have k1:=(o.cell (p:=(N w.heap.size 0 Z)) q).trans C;have g:=ae (x.trans (o.mono x.size));by_cases h:k<n
  ·go_wp2_with fail
   refine(rq b off n cap k f _ h (QP.below g ly) (by omega) (E k h).1 (A.below g A.1)).mono ?_;rintro e w2 ⟨m,s⟩;have QO:=ae (g.trans (s.mono g.size));have H:=ae (o.trans (s.mono o.size));clear s;cases hd:aW f k with
   | true =>
    rw[hd] at m;subst m;have QR:=ae hd;clear hd;go_wp2
    exact⟨⟨k+1,by omega,by go_num,fun j B=>by
     by_cases e:j=k
     ·subst e;exact QR
     ·exact u j (by omega),H⟩,by simp[intOf];omega⟩
   | false =>
    rw[hd] at m;subst m;obtain rfl:r=k:=by rw[z.out];exact fx h hd u
    clear hd;go_wp2;go_ret;exact⟨rfl,QO⟩
  ·have e:n=k:=by omega
   subst e;obtain rfl:r=-1:=by rw[z.out];exact dS u
   go_wp2;go_ret;exact⟨rfl,g⟩
theorem rW (x:ah)(a0:Option Addr)(b:Nat)(a1:Option Addr)(g:Nat)(w:G):Calls Tryz.prog 170 #[Cb x a0 b a1 g] w fun e l=>e=QF (QC (decide (x.text.size<=2000) && aS x))/\Below w.heap.size w l:=by
 have h:=ae ((q9 w).alloc ly (Q #[U x.name,J I x.kind,J I x.code,U x.text,Y a0 x.actN b,Y a1 x.linksN g] 46));obtain⟨r,i⟩:∃ r,r=(decide (x.text.size<=2000) && aS x):=⟨_,rfl⟩
 rw[<-i];have f:=ae i;clear i;go_enter Tryz.func170,Tryz.ntmps170;cases h1:(x.code == 0) with
 | false =>
  obtain rfl:r=QB:=by rw[f.out];simp at h1;simp[aS,h1]
  go_wp2;go_ret;exact⟨rfl,h⟩
 | true =>
  by_cases h4:(x.text.size:Int)<=2000
  ·have j:decide (x.text.size<=2000)=QD:=by simp;omega
   cases h2:((x.actN:Int) == 0) with
   | false =>
    obtain rfl:r=QB:=by rw[f.out];simp at h2;simp[aS];omega
    go_wp2;go_ret;exact⟨rfl,h⟩
   | true =>
    cases h3:((x.linksN:Int) == 0) with
    | false =>
     obtain rfl:r=QB:=by rw[f.out];simp at h3;simp[aS];omega
     go_wp2;go_ret;exact⟨rfl,h⟩
    | true =>
     obtain rfl:r=QD:=by rw[f.out,j];simp at h1 h2 h3;simp[aS,h1,h2,h3]
     go_wp2;go_ret;exact⟨rfl,h⟩
  ·obtain rfl:r=QB:=by rw[f.out];simp;omega
   go_wp2;go_ret;exact⟨rfl,h⟩
theorem pJ (b off n cap p:Nat)(f:Nat->ah)(w:G)(hp:p<n)(O:RowDeed w b off n f)(K:(f p).actN<=1048576)(H:∀ j,j<(f p).actN->((f p).act j).s.size<=maxLen):Calls Tryz.prog 171 #[QG #[Y (T (N b off Z)) n cap],J I (p:Int)] w fun e w'=>e=QF (QC (decide ((f p).text.size<=2000) && bQ f p (f p)))/\Below w.heap.size w w':=by
 have HF:=ae O;have hb:=O.1;obtain⟨p0,p1,p2,p3,⟨a0,m,p4,q4⟩,⟨a1,z,p5,q5⟩⟩:=O.2 p hp;obtain⟨x,hx⟩:∃ x,x=f p:=⟨_,rfl⟩
 rw[<-hx] at p0 p1 p2 p3 p4 p5 q4 q5 K H ⊢;have HX:=ae hx;have Q4:=ae q4;have Q5:=ae q5;have HZ:=ae H;clear hx q4 q5 O H;have A:=ae (((q9 w).alloc ly (Q #[Y (T (N b off Z)) n cap] 25)).alloc (by simp) (Q #[U x.name,J I x.kind,J I x.code,U x.text,Y a0 x.actN m,Y a1 x.linksN z] 46));have u:=ae (ko (w.alloc (Q #[Y (T (N b off Z)) n cap] 25)) (U x.name) (J I x.kind) (J I x.code) (U x.text) (Y a0 x.actN m) (Y a1 x.linksN z) 46);have hz:(w.alloc (Q #[Y (T (N b off Z)) n cap] 25)).heap.size=w.heap.size+1:=by simp
 rw[hz] at u;have K0:Hid (((w.alloc (Q #[Y (T (N b off Z)) n cap] 25)).alloc (Q #[U x.name,J I x.kind,J I x.code,U x.text,Y a0 x.actN m,Y a1 x.linksN z] 46)).cell? (N w.heap.size 0 Z)=T (Y (T (N b off Z)) n cap)):=by show World.cell? _ _=_;simp
 clear hz;obtain⟨r,D⟩:∃ r,r=(decide (x.text.size<=2000) && bQ f p x):=⟨_,rfl⟩
 rw[<-D];have QR:=ae D;clear D;have c2:=u.c2;have c3:=u.c3;have c4:=u.c4;have c5:=u.c5;by_cases g1:0<=x.code;case neg =>
  obtain rfl:r=QB:=by rw[QR.out];simp[bQ,g1]
  go_enter Tryz.func171,Tryz.ntmps171;go_wp2;go_ret;exact⟨rfl,A⟩
 by_cases g2:x.code<=5;case neg =>
  obtain rfl:r=QB:=by rw[QR.out];simp[bQ,g2]
  go_enter Tryz.func171,Tryz.ntmps171;go_wp2;go_ret;exact⟨rfl,A⟩
 by_cases g3:(x.text.size:Int)<=2000;case neg =>
  obtain rfl:r=QB:=by rw[QR.out];simp;omega
  go_enter Tryz.func171,Tryz.ntmps171;go_wp2;go_ret;exact⟨rfl,A⟩
 have bt:decide (x.text.size<=2000)=QD:=by simp;omega
 go_enter Tryz.func171,Tryz.ntmps171;go_wp2_with fail;generalize (w.alloc (Q #[Y (T (N b off Z)) n cap] 25)).alloc (Q #[U x.name,J I x.kind,J I x.code,U x.text,Y a0 x.actN m,Y a1 x.linksN z] 46)=W at A u K0 ⊢;clear p0 p1 p2 p3 p4 p5;refine(iW a0 x.actN m x.act _ K (Q4.below A ly) HZ).mono ?_;rintro e w1 ⟨y,g⟩;have S:=ae (A.trans (g.mono A.size));have S1:=ae (u.below g);have K1:=ae ((g.cell (p:=(N w.heap.size 0 Z)) (MA u.lt)).trans K0);clear g A u K0 c2 c3 c4 c5;have c5:=S1.c5;cases hv:valid x.act x.actN with
 | false =>
  rw[hv] at y;subst y;obtain rfl:r=QB:=by rw[QR.out];simp[bQ,hv]
  go_wp2;go_ret;exact⟨rfl,S⟩
 | true =>
 rw[hv] at y;subst y;have L:Hid (r=(decide (x.linksN<=200) && bq f p x x.linksN)):=by show r=_;rw[QR.out,bt];simp[bQ,hv,g1,g2]
 clear QR bt hv;by_cases hbig:(200:Int)<(x.linksN:Int)
 ·obtain rfl:r=QB:=by rw[L.out];simp;omega
  go_wp2;go_ret;exact⟨rfl,S⟩
 have V:Hid (r=bq f p x x.linksN):=by show r=_;rw[L.out,show decide (x.linksN<=200)=QD by simp;omega];rfl
 clear L;go_wp2;have ex:w.heap.size+1<w1.heap.size:=S1.lt;go_loopw [6] (fun i wr=>∃ k:Nat,k<=x.linksN/\i=J I k/\Hid (bq f p x k=QD)/\Hid (Below w1.heap.size w1 wr)) (fun i _=>x.linksN - (intOf i).toNat);case atStart=>exact⟨0,by omega,rfl,rfl,a8 _ _⟩
 case round =>
  obtain⟨k,hk,rfl,HK,R⟩:=hrel;have e5:=(R.cell (p:=(N (w.heap.size+1) 5 Z)) ex).trans c5;have M:=ae (S.trans (R.mono S.size));by_cases QP:k<x.linksN
  ·obtain⟨lb,lo,rfl,QO⟩:=(Q5.below M ly).resolve_left (by omega)
   have QH:=QO.2 k QP;obtain⟨l,hl⟩:∃ l,l=x.links k:=⟨_,rfl⟩
   rw[<-hl] at QH;obtain⟨d0,d1,d2,d3⟩:=QH;have HS:Hid (bq f p x (k+1)=dm f p l):=by show(bq f p x k && dm f p (x.links k))=_;rw[HK.out,JJ,<-hl]
   clear hl QO;have QK:=ae (M.alloc M.size (Q #[U l.name,QC l.ask,QC l.has,J I l.at_] 129));have E:=ae (R.alloc R.size (Q #[U l.name,QC l.ask,QC l.has,J I l.at_] 129));have QM:(wr.alloc (Q #[U l.name,QC l.ask,QC l.has,J I l.at_] 129)).cell? (N wr.heap.size 0 Z)=T (U l.name):=by simp
   have P:(wr.alloc (Q #[U l.name,QC l.ask,QC l.has,J I l.at_] 129)).cell? (N wr.heap.size 1 Z)=T (QC l.ask):=by simp
   have QL:(wr.alloc (Q #[U l.name,QC l.ask,QC l.has,J I l.at_] 129)).cell? (N wr.heap.size 2 Z)=T (QC l.has):=by simp
   have QN:(wr.alloc (Q #[U l.name,QC l.ask,QC l.has,J I l.at_] 129)).cell? (N wr.heap.size 3 Z)=T (J I l.at_):=by simp
   have o:wr.heap.size<(wr.alloc (Q #[U l.name,QC l.ask,QC l.has,J I l.at_] 129)).heap.size:=by simp
   have kA:=(E.cell (p:=(N w.heap.size 0 Z)) (by show w.heap.size<_;omega)).trans K1;have aq:w.heap.size<(wr.alloc (Q #[U l.name,QC l.ask,QC l.has,J I l.at_] 129)).heap.size:=by have:=E.size;omega
   go_wp2_with fail;clear d0 d1 d2 d3 e5;generalize wr.alloc (Q #[U l.name,QC l.ask,QC l.has,J I l.at_] 129)=W1 at QK E QM P QL QN o kA aq ⊢;generalize wr.heap.size=X at QM P QL QN o ⊢;refine(cP l.name _).mono ?_;rintro e w2 ⟨y,g⟩;have C:=ae (QK.trans (g.mono QK.size));have C2:=ae (E.trans (g.mono E.size));have f0:=(g.cell (p:=(N X 0 Z)) o).trans QM;have f1:=(g.cell (p:=(N X 1 Z)) o).trans P;have f2:=(g.cell (p:=(N X 2 Z)) o).trans QL;have f3:=(g.cell (p:=(N X 3 Z)) o).trans QN;have kB:=(g.cell (p:=(N w.heap.size 0 Z)) aq).trans kA;have FR:=ae (HF.below C ly);clear g QM P QL QN kA QK E;have HLT:=ae QP;have no:dm f p l=QB->r=QB:=fun h=>by rw[V.out];exact km QP (HS.trans h)
   have t:=ae no;clear no;cases hnm:au l.name with
   | false =>rw[hnm] at y;subst y;obtain rfl:r=QB:=t.out (by rw[dD,hnm];rfl);go_wp2;go_ret;exact⟨rfl,C⟩
   | true =>
   rw[hnm] at y;subst y;cases hask:l.ask with
   | false =>
    rw[hask] at f1;cases h1:(l.at_ == 0) with
    | false =>obtain rfl:r=QB:=t.out (by simp at h1;rw[dD,hnm];simp[dn,hask,h1]);go_wp2;go_ret;exact⟨rfl,C⟩
    | true =>have HN:Hid (bq f p x (k+1)=QD):=HS.trans (by simp at h1;rw[dD,hnm];simp[dn,hask,h1]);go_wp2_with fail;go_quiet (fail);have C3:=ae (AT C2 nq);go_wp2;exact⟨⟨k+1,by omega,by go_num,HN,C3⟩,by simp[intOf];omega⟩
   | true =>
    rw[hask] at f1;cases hhas:l.has with
    | true =>rw[hhas] at f2;obtain rfl:r=QB:=t.out (by rw[dD,hnm];simp[dn,hask,hhas]);go_wp2_with fail;go_quiet (fail);have B:=ae (AT C nq);go_wp2;go_ret;exact⟨rfl,B⟩
    | false =>
     rw[hhas] at f2;by_cases g4:0<=l.at_
     ·by_cases g5:l.at_<(p:Int)
      ·obtain⟨q,hq⟩:∃ q:Nat,l.at_=(q:Int):=⟨l.at_.toNat,by omega⟩
       rw[hq] at f3 g5;have fd:q<n:=by omega
       have d0:=(FR.2 q fd).1;have h5:decide ((p:Int)<=(q:Int))=QB:=by simp;omega
       have h5n:decide (p<=q)=QB:=by simp;omega
       have h6:decide ((q:Int)<0)=QB:=by simp
       have hq0:(0:Int)<=q:=by omega
       have hqn':(q:Int)<n:=by omega
       have QJ:Hid (dn f p l=((f q).name.toList == l.name.toList)):=by show dn f p l=_;simp[dn,hask,hhas,hq,g5]
       cases D:((f q).name.toList == l.name.toList) with
       | true =>have HN:Hid (bq f p x (k+1)=QD):=HS.trans (by rw[dD,hnm,QJ.out,D];rfl);go_wp2_with fail;go_quiet (fail);have C3:=ae (AT C2 nq);go_wp2;exact⟨⟨k+1,by omega,by go_num,HN,C3⟩,by simp[intOf];omega⟩
       | false =>obtain rfl:r=QB:=t.out (by rw[dD,hnm,QJ.out,D];rfl);go_wp2_with fail;go_quiet (fail);have B:=ae (AT C nq);go_wp2;go_ret;exact⟨rfl,B⟩
      ·obtain rfl:r=QB:=t.out (by rw[dD,hnm];simp[dn,hask,g5])
       have h5:(p:Int)<=l.at_:=by omega
       have h6:decide (l.at_<0)=QB:=by simpa using g4
       go_wp2_with fail;go_quiet (fail);have B:=ae (AT C nq);go_wp2;go_ret;exact⟨rfl,B⟩
     ·obtain rfl:r=QB:=t.out (by rw[dD,hnm];simp[dn,hask,g4])
      have h6:l.at_<0:=by omega
      go_wp2_with fail;go_quiet (fail);have B:=ae (AT C nq);go_wp2;go_ret;exact⟨rfl,B⟩
  ·have e:x.linksN=k:=by omega
   obtain rfl:r=QD:=by rw[V.out,e];exact HK
   have h5:((k:Int)<(x.linksN:Int))=False:=by simp;omega
   go_wp2;go_ret;exact⟨rfl,M⟩
theorem rX (b off n cap p:Nat)(f:Nat->ah)(w:G)(QK:p<n)(C:RowDeed w b off n f)(q:(f p).actN<=1048576)(z:∀ j,j<(f p).actN->((f p).act j).s.size<=maxLen):Calls Tryz.prog 138 #[QG #[Y (T (N b off Z)) n cap],J I (p:Int)] w fun e QR=>e=QF (QC (aW f p))/\Below w.heap.size w QR:=by
 have B:=ae (fun QR (hb:Below w.heap.size w QR)=>pJ b off n cap p f QR QK (C.below hb ly) q z);obtain⟨r,QP⟩:∃ r,r=aW f p:=⟨_,rfl⟩
 rw[<-QP];have M:=ae QP;clear QP;have hb:=C.1;obtain⟨QM,S,R,QL,⟨a0,m,P,O⟩,⟨a1,l,X,V⟩⟩:=C.2 p QK;obtain⟨x,K⟩:∃ x,x=f p:=⟨_,rfl⟩
 rw[<-K] at QM S R QL P X O V q z B;have QN:=ae K;clear K O V C z q;have D:=ae (((q9 w).alloc ly (Q #[Y (T (N b off Z)) n cap] 25)).alloc (by simp) (Q #[U x.name,J I x.kind,J I x.code,U x.text,Y a0 x.actN m,Y a1 x.linksN l] 46));have y:=ae (ko (w.alloc (Q #[Y (T (N b off Z)) n cap] 25)) (U x.name) (J I x.kind) (J I x.code) (U x.text) (Y a0 x.actN m) (Y a1 x.linksN l) 46);have hz:(w.alloc (Q #[Y (T (N b off Z)) n cap] 25)).heap.size=w.heap.size+1:=by simp
 rw[hz] at y;have L:Hid (((w.alloc (Q #[Y (T (N b off Z)) n cap] 25)).alloc (Q #[U x.name,J I x.kind,J I x.code,U x.text,Y a0 x.actN m,Y a1 x.linksN l] 46)).cell? (N w.heap.size 0 Z)=T (Y (T (N b off Z)) n cap)):=by show World.cell? _ _=_;simp
 clear hz;go_enter Tryz.func138,Tryz.ntmps138;go_wp2_with fail;generalize (w.alloc (Q #[Y (T (N b off Z)) n cap] 25)).alloc (Q #[U x.name,J I x.kind,J I x.code,U x.text,Y a0 x.actN m,Y a1 x.linksN l] 46)=W at D y L ⊢;clear QM S R QL P X;refine(cP x.name _).mono ?_;rintro e QH ⟨E,o⟩;have i:=ae (D.trans (o.mono D.size));have u:=ae (y.below o);have K1:=ae ((o.cell (p:=(N w.heap.size 0 Z)) (MA y.lt)).trans L);clear o D y L;cases hnm:au x.name with
 | false =>
  rw[hnm] at E;subst E;obtain rfl:r=QB:=by rw[M.out];unfold aW;rw[<-QN.out,hnm];rfl
  go_wp2;go_ret;exact⟨rfl,i⟩
 | true =>
 rw[hnm] at E;subst E;have t:Hid (r=(decide (x.text.size<=2000) && kindOk f p x)):=by show r=_;rw[M.out];unfold aW;rw[<-QN.out,hnm];rfl
 clear M;have c0:=u.c0;have c1:=u.c1;have c2:=u.c2;have c3:=u.c3;have c4:=u.c4;have c5:=u.c5;cases h1:(x.kind == 1) with
 | true =>
  have A:x.kind=1:=by simpa using h1
  have g:Hid ((decide (x.text.size<=2000) && aS x)=r):=(t.trans (by unfold kindOk;rw[gM A])).symm;clear A;go_wp2_with fail;refine(rW x a0 m a1 l _).mono ?_;rintro e QJ ⟨rfl,o⟩;have QO:=ae (i.trans (o.mono i.size));clear o;go_wp2;go_ret;exact⟨xS g,QO⟩
 | false =>
 cases h2:(x.kind == 2) with
 | true =>
  have A:x.kind=2:=by simpa using h2
  have g:Hid (r=(aS x && decide (x.text.size=0))):=t.trans (by
   unfold kindOk;rw[cM (by omega),gM A];by_cases h:x.text.size=0
   ·simp[h]
   ·simp[h])
  clear A t;cases g1:(x.code == 0) with
  | false =>
   obtain rfl:r=QB:=by rw[g.out];simp at g1;simp[aS,g1]
   go_wp2;go_ret;exact⟨rfl,i⟩
  | true =>
  cases g2:x.text.toList.isEmpty with
  | false =>
   obtain rfl:r=QB:=by rw[g.out,<-kq,g2];simp
   go_wp2;go_ret;exact⟨rfl,i⟩
  | true =>
  cases g3:((x.actN:Int) == 0) with
  | false =>
   obtain rfl:r=QB:=by rw[g.out];simp at g3;simp[aS];omega
   go_wp2;go_ret;exact⟨rfl,i⟩
  | true =>
  cases g4:((x.linksN:Int) == 0) with
  | false =>
   obtain rfl:r=QB:=by rw[g.out];simp at g4;simp[aS];omega
   go_wp2;go_ret;exact⟨rfl,i⟩
  | true =>
   obtain rfl:r=QD:=by rw[g.out,<-kq,g2];simp at g1 g3 g4;simp[aS,g1,g3,g4]
   go_wp2;go_ret;exact⟨rfl,i⟩
 | false =>
 cases h3:(x.kind == 3) with
 | false =>
  obtain rfl:r=QB:=by rw[t.out];unfold kindOk;simp at h1 h2 h3;rw[cM h1,cM h2,cM h3];simp
  go_wp2;go_ret;exact⟨rfl,i⟩
 | true =>have g:Hid ((decide (x.text.size<=2000) && bQ f p x)=r):=(t.trans (by unfold kindOk;simp at h1 h2 h3;rw[cM h1,cM h2,gM h3])).symm;have k1:=K1.out;have H:=ae (B QH i);rw[g.out] at H;clear B t;go_wp2_with fail;refine H.mono ?_;rintro e QJ ⟨rfl,o⟩;have QO:=ae (i.trans (o.mono i.size));clear o;go_wp2;go_ret;exact⟨rfl,QO⟩
end Go.Proofs.YtamacmnikdejeaaGreatDoor.Vp
