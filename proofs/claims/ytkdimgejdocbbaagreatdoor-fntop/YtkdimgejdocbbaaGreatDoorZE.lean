import Derived.Test.YtkdimgejdocbbaaGreatDoorZD
import Derived.Deep.DeepCutAuto
set_option maxRecDepth 100000
set_option maxHeartbeats 4000000
open Go.Addr renaming mk->J
open Go.Value renaming slice->Y,string->U,int->N,bool->QA,agg->QE
open Option renaming none->Z,some->Q
open Go.Obj renaming cells->T
open Go.IntKind renaming i64->I
open Go renaming World->E,Value->QB
open Bool renaming false->D,true->QC
open Go.Ending renaming returned->QD
namespace Go.Proofs.YtkdimgejdocbbaaGreatDoor.Vp
open RowKit
abbrev Ck (x:aj)(a0:Option Addr)(b:Nat)(a1:Option Addr)(d:Nat):QB:=QE #[U x.name,N I x.kind,N I x.code,U x.text,Y a0 x.actN b,Y a1 x.linksN d]
abbrev EF (l:Link):QB:=QE #[U l.name,QA l.ask,QA l.has,N I l.at_]
theorem nS (x:aj)(a0:Option Addr)(d:Nat)(a1:Option Addr)(b:Nat)(w:E):Calls Tryz.prog 218 #[Ck x a0 d a1 b] w fun e i=>e=QD (QA (aO x))/\Below w.heap.size w i:=by
 have g:=ae ((Qs w).alloc lr (T #[U x.name,N I x.kind,N I x.code,U x.text,Y a0 x.actN d,Y a1 x.linksN b] 58));obtain⟨r,h⟩:∃ r,r=aO x:=⟨_,rfl⟩
 rw[<-h];have f:=ae h;clear h;go_enter Tryz.func218,Tryz.ntmps218;cases h1:(x.code == 0) with
 | false =>
  obtain rfl:r=D:=by rw[f.out];simp at h1;simp[aO,h1]
  go_wp2;go_ret;exact⟨rfl,g⟩
 | true =>
  cases h2:((x.actN:Int) == 0) with
  | false =>
   obtain rfl:r=D:=by rw[f.out];simp at h2;simp[aO];omega
   go_wp2;go_ret;exact⟨rfl,g⟩
  | true =>
   cases h3:((x.linksN:Int) == 0) with
   | false =>
    obtain rfl:r=D:=by rw[f.out];simp at h3;simp[aO];omega
    go_wp2;go_ret;exact⟨rfl,g⟩
   | true =>
    obtain rfl:r=QC:=by rw[f.out];simp at h1 h2 h3;simp[aO,h1,h2,h3]
    go_wp2;go_ret;exact⟨rfl,g⟩
def dn (f:Nat->aj)(p:Nat)(l:Link):Bool:=if l.ask=QC then !l.has && decide (0<=l.at_) && decide (l.at_<(p:Int)) && ((f l.at_.toNat).name.toList == l.name.toList) else decide (l.at_=0)
theorem dA (f:Nat->aj)(p:Nat)(l:Link):dJ f p l=(au l.name && dn f p l):=rfl
theorem lx (b off n p j:Nat)(f:Nat->aj)(l:Link)(w:E)(hp:p<=n)(i:RowDeed w b off n f):Calls Tryz.prog 244 #[Y (Q (J b off Z)) p j,EF l] w fun e m=>e=QD (QA (dn f p l))/\Below w.heap.size w m:=by
 have d:=ae ((Qs w).alloc lr (T #[U l.name,QA l.ask,QA l.has,N I l.at_] 64));have o:=ae (i.below d lr);have hb:=i.1;clear i;obtain⟨r,h⟩:∃ r,r=dn f p l:=⟨_,rfl⟩
 rw[<-h];have g:=ae h;clear h;obtain⟨nm,ask,has,at_⟩:=l;go_enter Tryz.func244,Tryz.ntmps244;cases ask with
 | false =>
  cases h1:(at_ == 0) with
  | true =>
   obtain rfl:r=QC:=by rw[g.out];simp at h1;simp[dn,h1]
   go_wp2;go_ret;exact⟨rfl,d⟩
  | false =>
   obtain rfl:r=D:=by rw[g.out];simp at h1;simp[dn,h1]
   go_wp2;go_ret;exact⟨rfl,d⟩
 | true =>
  cases has with
  | true =>
   obtain rfl:r=D:=by rw[g.out];simp[dn]
   go_wp2_with fail;go_quiet (fail);go_wp2;go_ret;exact⟨rfl,wC d _⟩
  | false =>
   by_cases h1:0<=at_
   ·by_cases h2:at_<(p:Int)
    ·obtain⟨q,rfl⟩:∃ q:Nat,at_=(q:Int):=⟨at_.toNat,by omega⟩
     have s:q<n:=by omega
     have d0:=(o.2 q s).1;have e:r=((f q).name.toList == nm.toList):=by rw[g.out];simp[dn,h2]
     cases h:((f q).name.toList == nm.toList) with
     | true =>rw[h] at e;subst e;go_wp2_with fail;go_quiet (fail);go_wp2;go_ret;exact⟨rfl,wC d _⟩
     | false =>rw[h] at e;subst e;go_wp2_with fail;go_quiet (fail);go_wp2;go_ret;exact⟨rfl,wC d _⟩
    ·obtain rfl:r=D:=by rw[g.out];simp[dn,h2]
     have k:decide (at_<(p:Int))=D:=by simpa using h2
     go_wp2_with fail;go_quiet (fail);go_wp2;go_ret;exact⟨rfl,wC d _⟩
   ·obtain rfl:r=D:=by rw[g.out];simp[dn,h1]
    have k:decide (0<=at_)=D:=by simpa using h1
    go_wp2_with fail;go_quiet (fail);go_wp2;go_ret;exact⟨rfl,wC d _⟩
theorem j8 {f:Nat->aj}{p:Nat}{x:aj}{k m:Nat}(hk:k<m)(h:bQ f p x (k+1)=D):bQ f p x m=D:=by
 induction m with
 | zero=>omega
 | succ j b =>
  by_cases e:k=j
  ·subst e;exact h
  ·rw[bQ,b (by omega)];rfl
theorem oY (b off n h p:Nat)(f:Nat->aj)(w:E)(hp:p<n)(G:RowDeed w b off n f)(hcap:(p:Int)<=h):Calls Tryz.prog 219 #[QE #[Y (Q (J b off Z)) n h],N I (p:Int)] w fun e P=>e=QD (QA (decide ((f p).linksN<=200) && bQ f p (f p) (f p).linksN))/\Below w.heap.size w P:=by
 have o:=ae ((Qs w).alloc lr (T #[Y (Q (J b off Z)) n h] 50));have HF:=ae G;obtain⟨_,_,_,_,_,⟨a1,cap1,O,r1⟩⟩:=G.2 p hp;have hb:=G.1;have k0:(w.alloc (T #[Y (Q (J b off Z)) n h] 50)).cell? (J w.heap.size 0 Z)=Q (Y (Q (J b off Z)) n h):=by simp
 have p5:=(o.cell (p:=(J b (off+p*6+5) Z)) hb).trans O;have V:=ae r1;have A:w.heap.size<(w.alloc (T #[Y (Q (J b off Z)) n h] 50)).heap.size:=by simp
 clear r1 O G;obtain⟨m,R⟩:∃ m,m=(f p).linksN:=⟨_,rfl⟩
 obtain⟨L,hL⟩:∃ L,L=(f p).links:=⟨_,rfl⟩
 rw[<-R] at p5 V ⊢;rw[<-hL] at V;have HM:=ae R;have aq:=ae hL;clear R hL;by_cases hbig:(200:Int)<(m:Int)
 ·obtain⟨r,QJ⟩:∃ r,r=(decide (m<=200) && bQ f p (f p) m):=⟨_,rfl⟩
  rw[<-QJ];obtain rfl:r=D:=by rw[QJ];simp;omega
  clear QJ;go_enter Tryz.func219,Tryz.ntmps219;go_wp2;go_ret;exact⟨rfl,o⟩
 have hd:decide (m<=200)=QC:=by simp;omega
 rw[hd,I9];clear hd;go_enter Tryz.func219,Tryz.ntmps219;go_wp2;generalize w.alloc (T #[Y (Q (J b off Z)) n h] 50)=W at o k0 A ⊢;clear p5;go_loopw [19] (fun i wr=>∃ k:Nat,k<=m/\i=N I k/\Hid (bQ f p (f p) k=QC)/\Hid (Below W.heap.size W wr)) (fun i _=>m - (intOf i).toNat);case atStart=>exact⟨0,by omega,rfl,rfl,eI _ _⟩
 case round =>
  obtain⟨k,hk,rfl,S,t⟩:=hrel;by_cases y:k<m
  ·obtain⟨lb,lo,rfl,bt,C⟩:=V.resolve_left (by omega)
   have hx:=(C k y).below (o.trans (t.mono o.size)) bt;obtain⟨l,QK⟩:∃ l,l=L k:=⟨_,rfl⟩
   rw[<-QK] at hx;have ex:=ae QK;obtain⟨d0,d1,d2,d3⟩:=hx;clear QK C;have HS:Hid (bQ f p (f p) (k+1)=dJ f p l):=by show(bQ f p (f p) k && dJ f p ((f p).links k))=_;rw[S.out,I9,<-aq.out,<-ex.out]
   have QP:=ae ((o.trans (t.mono o.size)).alloc (by have:=o.size;have:=t.size;omega) (T #[U l.name,QA l.ask,QA l.has,N I l.at_] 64));have x:=ae ((t).alloc t.size (T #[U l.name,QA l.ask,QA l.has,N I l.at_] 64));have H:(wr.alloc (T #[U l.name,QA l.ask,QA l.has,N I l.at_] 64)).cell? (J wr.heap.size 0 Z)=Q (U l.name):=by simp
   have K:(wr.alloc (T #[U l.name,QA l.ask,QA l.has,N I l.at_] 64)).cell? (J wr.heap.size 1 Z)=Q (QA l.ask):=by simp
   have M:(wr.alloc (T #[U l.name,QA l.ask,QA l.has,N I l.at_] 64)).cell? (J wr.heap.size 2 Z)=Q (QA l.has):=by simp
   have QN:(wr.alloc (T #[U l.name,QA l.ask,QA l.has,N I l.at_] 64)).cell? (J wr.heap.size 3 Z)=Q (N I l.at_):=by simp
   have q:wr.heap.size<(wr.alloc (T #[U l.name,QA l.ask,QA l.has,N I l.at_] 64)).heap.size:=by simp
   have QL:=(x.cell (p:=(J w.heap.size 0 Z)) A).trans k0;have B:w.heap.size<(wr.alloc (T #[U l.name,QA l.ask,QA l.has,N I l.at_] 64)).heap.size:=ll A x.size;have QG:=ae (HF.below QP lr);go_upto_region 7 with fail;clear d0 d1 d2 d3;generalize wr.alloc (T #[U l.name,QA l.ask,QA l.has,N I l.at_] 64)=QO at QP x H K M QN q QL B QG ⊢;generalize wr.heap.size=X at H K M QN q ⊢;have hp0:0<=(p:Int):=by omega
   have hpn:(p:Int)<=n:=by omega
   have QM:p<=n:=by omega
   have hcap':p<=h:=by omega
   cases hnm:au l.name with
   | false =>
    have hq:∀ w,Calls Tryz.prog 87 #[U l.name] w fun e P=>e=QD (QA D)/\P=w:=fun w=>by rw[<-hnm];exact tL l.name w
    go_quiet ((go_at_call 87;exact Calls.quiet_of_same (hq _)));have hN:dJ f p l=D:=by rw[dA,hnm];rfl
    have QQ:=ae (HS.trans hN);have u:=ae y;have G1:=ae (wC QP nq);clear hN;go_wp2;go_ret;exact⟨vG (fun z=>Ending.returned (QA z)) (j8 u QQ).symm,G1⟩
   | true =>
    cases hla:dn f p l with
    | true =>
     go_region_with (first
      | (go_at_call 87;refine(eO _ _).mono ?_;rintro e QH ⟨j,d⟩;rw[hnm] at j;subst j;have g:Hid (Below QO.heap.size QO QH):=⟨d.os,d.tape,d.output,d.size,d.block⟩;have f0:=(g.cell (p:=(J X 0 Z)) q).trans H;have f1:=(g.cell (p:=(J X 1 Z)) q).trans K;have f2:=(g.cell (p:=(J X 2 Z)) q).trans M;have f3:=(g.cell (p:=(J X 3 Z)) q).trans QN;have k2:=(g.cell (p:=(J w.heap.size 0 Z)) B).trans QL;have F2:=ae (QG.below g lr);clear d)
      | (go_at_call 244;refine(lx b off n p h f l _ QM F2).mono ?_;rintro e w2 ⟨j,s⟩;rw[hla] at j;subst j;have D2:=ae (g.trans (s.mono g.size));clear s))
     all_goals
      have QQ:Hid (bQ f p (f p) (k+1)=QC):=HS.trans (by rw[dA,hnm,hla];rfl);have G2:=ae (x.trans (D2.mono x.size));go_wp2;exact⟨⟨k+1,by omega,by go_num,QQ,G2⟩,by simp[intOf];omega⟩
    | false =>
     go_region_with (first
      | (go_at_call 87;refine(eO _ _).mono ?_;rintro e QH ⟨j,d⟩;rw[hnm] at j;subst j;have g:Hid (Below QO.heap.size QO QH):=⟨d.os,d.tape,d.output,d.size,d.block⟩;have f0:=(g.cell (p:=(J X 0 Z)) q).trans H;have f1:=(g.cell (p:=(J X 1 Z)) q).trans K;have f2:=(g.cell (p:=(J X 2 Z)) q).trans M;have f3:=(g.cell (p:=(J X 3 Z)) q).trans QN;have k2:=(g.cell (p:=(J w.heap.size 0 Z)) B).trans QL;have F2:=ae (QG.below g lr);clear d)
      | (go_at_call 244;refine(lx b off n p h f l _ QM F2).mono ?_;rintro e w2 ⟨j,s⟩;rw[hla] at j;subst j;have D2:=ae (g.trans (s.mono g.size));clear s))
     all_goals
      have QQ:Hid (bQ f p (f p) (k+1)=D):=HS.trans (by rw[dA,hnm,hla];rfl);have u:=ae y;have G2:=ae (QP.trans (D2.mono (by have:=QP.size;omega)));go_wp2;go_ret;exact⟨vG (fun z=>Ending.returned (QA z)) (j8 u QQ).symm,G2⟩
  ·have e:m=k:=by omega
   subst e;go_wp2;go_ret;exact⟨by rw[HM.out] at S;rw[HM.out];exact vG (fun z=>Ending.returned (QA z)) S.symm,o.trans (t.mono o.size)⟩
structure SixB (w:E)(b:Nat)(v0 v1 v2 v3 v4 v5:QB):Prop where
 lt:b<w.heap.size
 c0:w.cell? (J b 0 Z)=Q v0
 c1:w.cell? (J b 1 Z)=Q v1
 c2:w.cell? (J b 2 Z)=Q v2
 c3:w.cell? (J b 3 Z)=Q v3
 c4:w.cell? (J b 4 Z)=Q v4
 c5:w.cell? (J b 5 Z)=Q v5
theorem SixB.below {w k:E}{b:Nat}{i f j g d l:QB}(h:SixB w b i f j g d l)(hb:Below w.heap.size w k):SixB k b i f j g d l :=
 ⟨ll h.lt hb.size,(hb.cell (p:=(J b 0 Z)) h.lt).trans h.c0,(hb.cell (p:=(J b 1 Z)) h.lt).trans h.c1,(hb.cell (p:=(J b 2 Z)) h.lt).trans h.c2,(hb.cell (p:=(J b 3 Z)) h.lt).trans h.c3,(hb.cell (p:=(J b 4 Z)) h.lt).trans h.c4,(hb.cell (p:=(J b 5 Z)) h.lt).trans h.c5⟩
theorem j9 (w:E)(d i g b h f:QB)(t:TypeId):SixB (w.alloc (T #[d,i,g,b,h,f] t)) w.heap.size d i g b h f:=⟨by simp,by simp,by simp,by simp,by simp,by simp,by simp⟩
theorem ke (t:ByteArray):t.toList.isEmpty=decide (t.size=0):=by rw[H7];obtain⟨⟨l⟩⟩:=t;cases l<;>simp[ByteArray.size]
theorem xL {a b:Bool}(h:a=b):Ending.returned (QA a)=Ending.returned (QA b):=by rw[h]
theorem qD (b off n i p:Nat)(f:Nat->aj)(w:E)(QL:p<n)(B:RowDeed w b off n f)(QN:(p:Int)<=i)(t:(f p).actN<=1048576)(S:Tab w):Calls Tryz.prog 168 #[QE #[Y (Q (J b off Z)) n i],N I (p:Int)] w fun e w'=>e=QD (QA (bc f p))/\Below w.heap.size w w':=by
 have QG:=ae B;have L:=ae S;have hb:=B.1;obtain⟨V,R,O,M,⟨a0,g,QJ,QP⟩,⟨a1,l,QM,q5⟩⟩:=B.2 p QL;obtain⟨r,G⟩:∃ r,r=bc f p:=⟨_,rfl⟩
 rw[<-G];have QQ:=ae G;obtain⟨x,QO⟩:∃ x,x=f p:=⟨_,rfl⟩
 rw[<-QO] at V R O M QJ QM QP t;have C:=ae QO;have QH:=ae QP;clear G QO QP q5 B S;have q:=ae (((Qs w).alloc lr (T #[Y (Q (J b off Z)) n i] 50)).alloc (by simp) (T #[U x.name,N I x.kind,N I x.code,U x.text,Y a0 x.actN g,Y a1 x.linksN l] 58));have s:=ae (j9 (w.alloc (T #[Y (Q (J b off Z)) n i] 50)) (U x.name) (N I x.kind) (N I x.code) (U x.text) (Y a0 x.actN g) (Y a1 x.linksN l) 58);have hz:(w.alloc (T #[Y (Q (J b off Z)) n i] 50)).heap.size=w.heap.size+1:=by simp
 rw[hz] at s;have H:Hid (((w.alloc (T #[Y (Q (J b off Z)) n i] 50)).alloc (T #[U x.name,N I x.kind,N I x.code,U x.text,Y a0 x.actN g,Y a1 x.linksN l] 58)).cell? (J w.heap.size 0 Z)=Q (Y (Q (J b off Z)) n i)):=by show World.cell? _ _=_;simp
 clear hz;go_enter Tryz.func168,Tryz.ntmps168;go_wp2_with fail;generalize (w.alloc (T #[Y (Q (J b off Z)) n i] 50)).alloc (T #[U x.name,N I x.kind,N I x.code,U x.text,Y a0 x.actN g,Y a1 x.linksN l] 58)=W at q s H ⊢;clear V R O M QJ QM;cases hnm:au x.name with
 | false =>
  refine(eO x.name _).mono ?_;rintro e w1 ⟨h,d⟩;rw[hnm] at h;subst h;have k:=ae (q.trans (d.mono q.size));obtain rfl:r=D:=by rw[QQ.out];unfold bc;rw[<-C.out,hnm];rfl
  clear d;go_wp2;go_ret;exact⟨rfl,k⟩
 | true =>
 refine(eO x.name _).mono ?_;rintro e w1 ⟨h,d⟩;rw[hnm] at h;subst h;have k:=ae (q.trans (d.mono q.size));have m:=ae (s.below d);have K1:=ae ((d.cell (p:=(J w.heap.size 0 Z)) (LP s.lt)).trans H);have c1:=m.c1;have c2:=m.c2;have c3:=m.c3;clear d q s H;by_cases hbig:(2000:Int)<(x.text.size:Int)
 ·obtain rfl:r=D:=by rw[QQ.out];unfold bc;rw[<-C.out,hnm];simp;omega
  go_wp2;go_ret;exact⟨rfl,k⟩
 have A:Hid (r=kindOk f p x):=by show r=_;rw[QQ.out];unfold bc;rw[<-C.out,hnm,show decide (x.text.size<=2000)=QC by simp;omega];rfl
 clear QQ;cases h1:(x.kind == 1) with
 | true =>
  have z:x.kind=1:=by simpa using h1
  have j:Hid (aO x=r):=(A.trans (by unfold kindOk;rw[eT z])).symm;clear z;have c0:=m.c0;have c4:=m.c4;have c5:=m.c5;go_wp2_with fail;refine(nS x a0 g a1 l _).mono ?_;rintro e K ⟨rfl,d⟩;have o:=ae (k.trans (d.mono k.size));clear d;go_wp2;go_ret;exact⟨xL j,o⟩
 | false =>
 cases h2:(x.kind == 2) with
 | true =>
  have z:x.kind=2:=by simpa using h2
  have j:Hid (r=(aO x && decide (x.text.size=0))):=A.trans (by unfold kindOk;rw[a8 (by omega),eT z]);clear z;have c0:=m.c0;have c4:=m.c4;have c5:=m.c5;go_wp2_with fail;refine(nS x a0 g a1 l _).mono ?_;rintro e K ⟨h,d⟩;have o:=ae (k.trans (d.mono k.size));have d3:=(m.below d).c3;clear d;cases hu:aO x with
  | false =>
   rw[hu] at h;subst h;obtain rfl:r=D:=by rw[j.out,hu];rfl
   go_wp2;go_ret;exact⟨rfl,o⟩
  | true =>
   rw[hu] at h;subst h;have u:Hid (decide (x.text.size=0)=r):=by show _=r;rw[j.out,hu];rfl
   go_wp2;go_ret;exact⟨aW (by rw[ke];exact u),o⟩
 | false =>
 cases h3:(x.kind == 3) with
 | false =>
  obtain rfl:r=D:=by rw[A.out];unfold kindOk;simp at h1 h2 h3;rw[a8 h1,a8 h2,a8 h3]
  go_wp2;go_ret;exact⟨rfl,k⟩
 | true =>
 have j:Hid (r=ce f p x):=A.trans (by unfold kindOk;simp at h1 h2 h3;rw[a8 h1,a8 h2,eT h3]);by_cases P:0<=x.code
 ·by_cases QK:x.code<=5
  ·have c4:=m.c4
   go_wp2_with fail;refine(lJ a0 x.actN g x.act _ t (QH.below k lr) (L.below k L.1)).mono ?_;rintro e K ⟨h,d⟩;have o:=ae (k.trans (d.mono k.size));have K2:=(d.cell (p:=(J w.heap.size 0 Z)) (LP m.lt)).trans K1;clear d;cases hv:valid x.act x.actN with
   | false =>
    rw[hv] at h;subst h;obtain rfl:r=D:=by rw[j.out];simp[ce,hv]
    go_wp2;go_ret;exact⟨rfl,o⟩
   | true =>
    rw[hv] at h;subst h;have u:Hid ((decide (x.linksN<=200) && bQ f p x x.linksN)=r):=by show _=r;rw[j.out];simp[ce,hv,P,QK]
    have y:=ae (oY b off n i p f K QL (QG.below o lr) QN);rw[<-C.out] at y;rw[u.out] at y;go_wp2_with fail;refine y.mono ?_;rintro e w3 ⟨rfl,d⟩;have X:=ae (o.trans (d.mono o.size));clear d;go_wp2;go_ret;exact⟨rfl,X⟩
  ·obtain rfl:r=D:=by rw[j.out];simp[ce,QK]
   go_wp2;go_ret;exact⟨rfl,k⟩
 ·obtain rfl:r=D:=by rw[j.out];simp[ce,P]
  go_wp2;go_ret;exact⟨rfl,k⟩
theorem qE (b off n d:Nat)(f:Nat->aj)(w:E)(hn:(n:Int)<=400)(A:RowDeed w b off n f)(hcap:(n:Int)<=d)(g:∀ i,i<n->cY (f i))(C:Tab w):Calls Tryz.prog 96 #[QE #[Y (Q (J b off Z)) n d]] w fun e G=>e=QD (N I (aJ (bc f) n))/\Below w.heap.size w G:=by
 have QP:=ae A;have z:=ae C;have QO:=ae g;clear A C g;have x:=ae ((Qs w).alloc lr (T #[Y (Q (J b off Z)) n d] 50));have B:(w.alloc (T #[Y (Q (J b off Z)) n d] 50)).cell? (J w.heap.size 0 Z)=Q (Y (Q (J b off Z)) n d):=by simp
 have q:w.heap.size<(w.alloc (T #[Y (Q (J b off Z)) n d] 50)).heap.size:=by simp
 obtain⟨r,u⟩:∃ r,r=aJ (bc f) n:=⟨_,rfl⟩
 rw[<-u];have QQ:=ae u;clear u;go_enter Tryz.func96,Tryz.ntmps96;go_wp2;generalize w.alloc (T #[Y (Q (J b off Z)) n d] 50)=W at x B q ⊢;go_loopw [7] (fun i wr=>∃ k:Nat,k<=n/\i=N I k/\Hid (∀ j,j<k->bc f j=QC)/\Hid (Below W.heap.size W wr)) (fun i _=>n - (intOf i).toNat);case atStart=>exact⟨0,by omega,rfl,fun j y=>absurd y (CS _),eI _ _⟩
 case round =>
  obtain⟨k,hk,rfl,s,o⟩:=hrel;have k1:=(o.cell (p:=(J w.heap.size 0 Z)) q).trans B;have l:=ae (x.trans (o.mono x.size));by_cases h:k<n
  ·go_wp2_with fail
   refine(qD b off n d k f _ h (QP.below l lr) (by omega) (QO k h).1 (z.below l z.1)).mono ?_;rintro e w2 ⟨m,t⟩;have K:=ae (l.trans (t.mono l.size));have QN:=ae (o.trans (t.mono o.size));clear t;cases hd:bc f k with
   | true =>
    rw[hd] at m;subst m;have H:=ae hd;clear hd;go_wp2
    exact⟨⟨k+1,by omega,by go_num,fun j y=>by
     by_cases e:j=k
     ·subst e;exact H
     ·exact s j (by omega),QN⟩,by simp[intOf];omega⟩
   | false =>
    rw[hd] at m;subst m;obtain rfl:r=k:=by rw[QQ.out];exact iy h hd s
    clear hd;go_wp2;go_ret;exact⟨rfl,K⟩
  ·have e:n=k:=by omega
   subst e;obtain rfl:r=-1:=by rw[QQ.out];exact eh s
   go_wp2;go_ret;exact⟨rfl,l⟩
theorem rq (x:aj)(a0:Option Addr)(g:Nat)(a1:Option Addr)(d:Nat)(w:E):Calls Tryz.prog 178 #[Ck x a0 g a1 d] w fun e j=>e=QD (QA (decide (x.text.size<=2000) && aO x))/\Below w.heap.size w j:=by
 have f:=ae ((Qs w).alloc lr (T #[U x.name,N I x.kind,N I x.code,U x.text,Y a0 x.actN g,Y a1 x.linksN d] 58));obtain⟨r,h⟩:∃ r,r=(decide (x.text.size<=2000) && aO x):=⟨_,rfl⟩
 rw[<-h];have b:=ae h;clear h;go_enter Tryz.func178,Tryz.ntmps178;cases h1:(x.code == 0) with
 | false =>
  obtain rfl:r=D:=by rw[b.out];simp at h1;simp[aO,h1]
  go_wp2;go_ret;exact⟨rfl,f⟩
 | true =>
  by_cases h4:(x.text.size:Int)<=2000
  ·have i:decide (x.text.size<=2000)=QC:=by simp;omega
   cases h2:((x.actN:Int) == 0) with
   | false =>
    obtain rfl:r=D:=by rw[b.out];simp at h2;simp[aO];omega
    go_wp2;go_ret;exact⟨rfl,f⟩
   | true =>
    cases h3:((x.linksN:Int) == 0) with
    | false =>
     obtain rfl:r=D:=by rw[b.out];simp at h3;simp[aO];omega
     go_wp2;go_ret;exact⟨rfl,f⟩
    | true =>
     obtain rfl:r=QC:=by rw[b.out,i];simp at h1 h2 h3;simp[aO,h1,h2,h3]
     go_wp2;go_ret;exact⟨rfl,f⟩
  ·obtain rfl:r=D:=by rw[b.out];simp;omega
   go_wp2;go_ret;exact⟨rfl,f⟩
theorem oZ (b off n g p:Nat)(f:Nat->aj)(w:E)(hp:p<n)(M:RowDeed w b off n f)(QO:(f p).actN<=1048576)(H:∀ j,j<(f p).actN->((f p).act j).s.size<=maxLen):Calls Tryz.prog 179 #[QE #[Y (Q (J b off Z)) n g],N I (p:Int)] w fun e w'=>e=QD (QA (decide ((f p).text.size<=2000) && ce f p (f p)))/\Below w.heap.size w w':=by
 have HF:=ae M;have hb:=M.1;obtain⟨p0,p1,p2,p3,⟨a0,m,p4,q4⟩,⟨a1,z,p5,q5⟩⟩:=M.2 p hp;obtain⟨x,hx⟩:∃ x,x=f p:=⟨_,rfl⟩
 rw[<-hx] at p0 p1 p2 p3 p4 p5 q4 q5 QO H ⊢;have HX:=ae hx;have Q4:=ae q4;have Q5:=ae q5;have HZ:=ae H;clear hx q4 q5 M H;have A:=ae (((Qs w).alloc lr (T #[Y (Q (J b off Z)) n g] 50)).alloc (by simp) (T #[U x.name,N I x.kind,N I x.code,U x.text,Y a0 x.actN m,Y a1 x.linksN z] 58));have u:=ae (j9 (w.alloc (T #[Y (Q (J b off Z)) n g] 50)) (U x.name) (N I x.kind) (N I x.code) (U x.text) (Y a0 x.actN m) (Y a1 x.linksN z) 58);have hz:(w.alloc (T #[Y (Q (J b off Z)) n g] 50)).heap.size=w.heap.size+1:=by simp
 rw[hz] at u;have K0:Hid (((w.alloc (T #[Y (Q (J b off Z)) n g] 50)).alloc (T #[U x.name,N I x.kind,N I x.code,U x.text,Y a0 x.actN m,Y a1 x.linksN z] 58)).cell? (J w.heap.size 0 Z)=Q (Y (Q (J b off Z)) n g)):=by show World.cell? _ _=_;simp
 clear hz;obtain⟨r,G⟩:∃ r,r=(decide (x.text.size<=2000) && ce f p x):=⟨_,rfl⟩
 rw[<-G];have QP:=ae G;clear G;have c2:=u.c2;have c3:=u.c3;have c4:=u.c4;have c5:=u.c5;by_cases g1:0<=x.code;case neg =>
  obtain rfl:r=D:=by rw[QP.out];simp[ce,g1]
  go_enter Tryz.func179,Tryz.ntmps179;go_wp2;go_ret;exact⟨rfl,A⟩
 by_cases g2:x.code<=5;case neg =>
  obtain rfl:r=D:=by rw[QP.out];simp[ce,g2]
  go_enter Tryz.func179,Tryz.ntmps179;go_wp2;go_ret;exact⟨rfl,A⟩
 by_cases g3:(x.text.size:Int)<=2000;case neg =>
  obtain rfl:r=D:=by rw[QP.out];simp;omega
  go_enter Tryz.func179,Tryz.ntmps179;go_wp2;go_ret;exact⟨rfl,A⟩
 have aq:decide (x.text.size<=2000)=QC:=by simp;omega
 go_enter Tryz.func179,Tryz.ntmps179;go_wp2_with fail;generalize (w.alloc (T #[Y (Q (J b off Z)) n g] 50)).alloc (T #[U x.name,N I x.kind,N I x.code,U x.text,Y a0 x.actN m,Y a1 x.linksN z] 58)=W at A u K0 ⊢;clear p0 p1 p2 p3 p4 p5;refine(iS a0 x.actN m x.act _ QO (Q4.below A lr) HZ).mono ?_;rintro e w1 ⟨y,d⟩;have QK:=ae (A.trans (d.mono A.size));have S1:=ae (u.below d);have K1:=ae ((d.cell (p:=(J w.heap.size 0 Z)) (LP u.lt)).trans K0);clear d A u K0 c2 c3 c4 c5;have c5:=S1.c5;cases hv:valid x.act x.actN with
 | false =>
  rw[hv] at y;subst y;obtain rfl:r=D:=by rw[QP.out];simp[ce,hv]
  go_wp2;go_ret;exact⟨rfl,QK⟩
 | true =>
 rw[hv] at y;subst y;have K:Hid (r=(decide (x.linksN<=200) && bQ f p x x.linksN)):=by show r=_;rw[QP.out,aq];simp[ce,hv,g1,g2]
 clear QP aq hv;by_cases hbig:(200:Int)<(x.linksN:Int)
 ·obtain rfl:r=D:=by rw[K.out];simp;omega
  go_wp2;go_ret;exact⟨rfl,QK⟩
 have V:Hid (r=bQ f p x x.linksN):=by show r=_;rw[K.out,show decide (x.linksN<=200)=QC by simp;omega];rfl
 clear K;go_wp2;have ex:w.heap.size+1<w1.heap.size:=S1.lt;go_loopw [6] (fun i wr=>∃ k:Nat,k<=x.linksN/\i=N I k/\Hid (bQ f p x k=QC)/\Hid (Below w1.heap.size w1 wr)) (fun i _=>x.linksN - (intOf i).toNat);case atStart=>exact⟨0,by omega,rfl,rfl,eI _ _⟩
 case round =>
  obtain⟨k,hk,rfl,HK,P⟩:=hrel;have e5:=(P.cell (p:=(J (w.heap.size+1) 5 Z)) ex).trans c5;have S:=ae (QK.trans (P.mono QK.size));by_cases QN:k<x.linksN
  ·obtain⟨lb,lo,rfl,L⟩:=(Q5.below S lr).resolve_left (by omega)
   have QH:=L.2 k QN;obtain⟨l,hl⟩:∃ l,l=x.links k:=⟨_,rfl⟩
   rw[<-hl] at QH;obtain⟨d0,d1,d2,d3⟩:=QH;have HS:Hid (bQ f p x (k+1)=dJ f p l):=by show(bQ f p x k && dJ f p (x.links k))=_;rw[HK.out,I9,<-hl]
   clear hl L;have QJ:=ae (S.alloc S.size (T #[U l.name,QA l.ask,QA l.has,N I l.at_] 64));have QQ:=ae (P.alloc P.size (T #[U l.name,QA l.ask,QA l.has,N I l.at_] 64));have QM:(wr.alloc (T #[U l.name,QA l.ask,QA l.has,N I l.at_] 64)).cell? (J wr.heap.size 0 Z)=Q (U l.name):=by simp
   have QL:(wr.alloc (T #[U l.name,QA l.ask,QA l.has,N I l.at_] 64)).cell? (J wr.heap.size 1 Z)=Q (QA l.ask):=by simp
   have R:(wr.alloc (T #[U l.name,QA l.ask,QA l.has,N I l.at_] 64)).cell? (J wr.heap.size 2 Z)=Q (QA l.has):=by simp
   have O:(wr.alloc (T #[U l.name,QA l.ask,QA l.has,N I l.at_] 64)).cell? (J wr.heap.size 3 Z)=Q (N I l.at_):=by simp
   have o:wr.heap.size<(wr.alloc (T #[U l.name,QA l.ask,QA l.has,N I l.at_] 64)).heap.size:=by simp
   have kA:=(QQ.cell (p:=(J w.heap.size 0 Z)) (by show w.heap.size<_;omega)).trans K1;have bt:w.heap.size<(wr.alloc (T #[U l.name,QA l.ask,QA l.has,N I l.at_] 64)).heap.size:=by have:=QQ.size;omega
   go_wp2_with fail;clear d0 d1 d2 d3 e5;generalize wr.alloc (T #[U l.name,QA l.ask,QA l.has,N I l.at_] 64)=W1 at QJ QQ QM QL R O o kA bt ⊢;generalize wr.heap.size=X at QM QL R O o ⊢;refine(cX l.name _).mono ?_;rintro e w2 ⟨y,d⟩;have C:=ae (QJ.trans (d.mono QJ.size));have C2:=ae (QQ.trans (d.mono QQ.size));have f0:=(d.cell (p:=(J X 0 Z)) o).trans QM;have f1:=(d.cell (p:=(J X 1 Z)) o).trans QL;have f2:=(d.cell (p:=(J X 2 Z)) o).trans R;have f3:=(d.cell (p:=(J X 3 Z)) o).trans O;have kB:=(d.cell (p:=(J w.heap.size 0 Z)) bt).trans kA;have FR:=ae (HF.below C lr);clear d QM QL R O kA QJ QQ;have HLT:=ae QN;have no:dJ f p l=D->r=D:=fun h=>by rw[V.out];exact j8 QN (HS.trans h)
   have t:=ae no;clear no;cases hnm:au l.name with
   | false =>rw[hnm] at y;subst y;obtain rfl:r=D:=t.out (by rw[dA,hnm];rfl);go_wp2;go_ret;exact⟨rfl,C⟩
   | true =>
   rw[hnm] at y;subst y;cases hask:l.ask with
   | false =>
    rw[hask] at f1;cases h1:(l.at_ == 0) with
    | false =>obtain rfl:r=D:=t.out (by simp at h1;rw[dA,hnm];simp[dn,hask,h1]);go_wp2;go_ret;exact⟨rfl,C⟩
    | true =>have HN:Hid (bQ f p x (k+1)=QC):=HS.trans (by simp at h1;rw[dA,hnm];simp[dn,hask,h1]);go_wp2_with fail;go_quiet (fail);have C3:=ae (wC C2 nq);go_wp2;exact⟨⟨k+1,by omega,by go_num,HN,C3⟩,by simp[intOf];omega⟩
   | true =>
    rw[hask] at f1;cases hhas:l.has with
    | true =>rw[hhas] at f2;obtain rfl:r=D:=t.out (by rw[dA,hnm];simp[dn,hask,hhas]);go_wp2_with fail;go_quiet (fail);have B:=ae (wC C nq);go_wp2;go_ret;exact⟨rfl,B⟩
    | false =>
     rw[hhas] at f2;by_cases g4:0<=l.at_
     ·by_cases g5:l.at_<(p:Int)
      ·obtain⟨q,hq⟩:∃ q:Nat,l.at_=(q:Int):=⟨l.at_.toNat,by omega⟩
       rw[hq] at f3 g5;have fd:q<n:=by omega
       have d0:=(FR.2 q fd).1;have h5:decide ((p:Int)<=(q:Int))=D:=by simp;omega
       have h5n:decide (p<=q)=D:=by simp;omega
       have h6:decide ((q:Int)<0)=D:=by simp
       have hq0:(0:Int)<=q:=by omega
       have hqn':(q:Int)<n:=by omega
       have QG:Hid (dn f p l=((f q).name.toList == l.name.toList)):=by show dn f p l=_;simp[dn,hask,hhas,hq,g5]
       cases G:((f q).name.toList == l.name.toList) with
       | true =>have HN:Hid (bQ f p x (k+1)=QC):=HS.trans (by rw[dA,hnm,QG.out,G];rfl);go_wp2_with fail;go_quiet (fail);have C3:=ae (wC C2 nq);go_wp2;exact⟨⟨k+1,by omega,by go_num,HN,C3⟩,by simp[intOf];omega⟩
       | false =>obtain rfl:r=D:=t.out (by rw[dA,hnm,QG.out,G];rfl);go_wp2_with fail;go_quiet (fail);have B:=ae (wC C nq);go_wp2;go_ret;exact⟨rfl,B⟩
      ·obtain rfl:r=D:=t.out (by rw[dA,hnm];simp[dn,hask,g5])
       have h5:(p:Int)<=l.at_:=by omega
       have h6:decide (l.at_<0)=D:=by simpa using g4
       go_wp2_with fail;go_quiet (fail);have B:=ae (wC C nq);go_wp2;go_ret;exact⟨rfl,B⟩
     ·obtain rfl:r=D:=t.out (by rw[dA,hnm];simp[dn,hask,g4])
      have h6:l.at_<0:=by omega
      go_wp2_with fail;go_quiet (fail);have B:=ae (wC C nq);go_wp2;go_ret;exact⟨rfl,B⟩
  ·have e:x.linksN=k:=by omega
   obtain rfl:r=QC:=by rw[V.out,e];exact HK
   have h5:((k:Int)<(x.linksN:Int))=False:=by simp;omega
   go_wp2;go_ret;exact⟨rfl,S⟩
theorem ru (b off n g p:Nat)(f:Nat->aj)(w:E)(QL:p<n)(B:RowDeed w b off n f)(o:(f p).actN<=1048576)(y:∀ j,j<(f p).actN->((f p).act j).s.size<=maxLen):Calls Tryz.prog 109 #[QE #[Y (Q (J b off Z)) n g],N I (p:Int)] w fun e QQ=>e=QD (QA (bc f p))/\Below w.heap.size w QQ:=by
 have A:=ae (fun QQ (hb:Below w.heap.size w QQ)=>oZ b off n g p f QQ QL (B.below hb lr) o y);obtain⟨r,H⟩:∃ r,r=bc f p:=⟨_,rfl⟩
 rw[<-H];have L:=ae H;clear H;have hb:=B.1;obtain⟨V,R,P,QM,⟨a0,k,QJ,M⟩,⟨a1,l,O,QK⟩⟩:=B.2 p QL;obtain⟨x,QN⟩:∃ x,x=f p:=⟨_,rfl⟩
 rw[<-QN] at V R P QM QJ O M QK o y A;have S:=ae QN;clear QN M QK B y o;have C:=ae (((Qs w).alloc lr (T #[Y (Q (J b off Z)) n g] 50)).alloc (by simp) (T #[U x.name,N I x.kind,N I x.code,U x.text,Y a0 x.actN k,Y a1 x.linksN l] 58));have u:=ae (j9 (w.alloc (T #[Y (Q (J b off Z)) n g] 50)) (U x.name) (N I x.kind) (N I x.code) (U x.text) (Y a0 x.actN k) (Y a1 x.linksN l) 58);have hz:(w.alloc (T #[Y (Q (J b off Z)) n g] 50)).heap.size=w.heap.size+1:=by simp
 rw[hz] at u;have QO:Hid (((w.alloc (T #[Y (Q (J b off Z)) n g] 50)).alloc (T #[U x.name,N I x.kind,N I x.code,U x.text,Y a0 x.actN k,Y a1 x.linksN l] 58)).cell? (J w.heap.size 0 Z)=Q (Y (Q (J b off Z)) n g)):=by show World.cell? _ _=_;simp
 clear hz;go_enter Tryz.func109,Tryz.ntmps109;go_wp2_with fail;generalize (w.alloc (T #[Y (Q (J b off Z)) n g] 50)).alloc (T #[U x.name,N I x.kind,N I x.code,U x.text,Y a0 x.actN k,Y a1 x.linksN l] 58)=W at C u QO ⊢;clear V R P QM QJ O;refine(cX x.name _).mono ?_;rintro e QG ⟨QP,m⟩;have i:=ae (C.trans (m.mono C.size));have t:=ae (u.below m);have X:=ae ((m.cell (p:=(J w.heap.size 0 Z)) (LP u.lt)).trans QO);clear m C u QO;cases hnm:au x.name with
 | false =>
  rw[hnm] at QP;subst QP;obtain rfl:r=D:=by rw[L.out];unfold bc;rw[<-S.out,hnm];rfl
  go_wp2;go_ret;exact⟨rfl,i⟩
 | true =>
 rw[hnm] at QP;subst QP;have q:Hid (r=(decide (x.text.size<=2000) && kindOk f p x)):=by show r=_;rw[L.out];unfold bc;rw[<-S.out,hnm];rfl
 clear L;have c0:=t.c0;have c1:=t.c1;have c2:=t.c2;have c3:=t.c3;have c4:=t.c4;have c5:=t.c5;cases h1:(x.kind == 1) with
 | true =>
  have z:x.kind=1:=by simpa using h1
  have d:Hid ((decide (x.text.size<=2000) && aO x)=r):=(q.trans (by unfold kindOk;rw[eT z])).symm;clear z;go_wp2_with fail;refine(rq x a0 k a1 l _).mono ?_;rintro e QH ⟨rfl,m⟩;have K:=ae (i.trans (m.mono i.size));clear m;go_wp2;go_ret;exact⟨xL d,K⟩
 | false =>
 cases h2:(x.kind == 2) with
 | true =>
  have z:x.kind=2:=by simpa using h2
  have d:Hid (r=(aO x && decide (x.text.size=0))):=q.trans (by
   unfold kindOk;rw[a8 (by omega),eT z];by_cases h:x.text.size=0
   ·simp[h]
   ·simp[h])
  clear z q;cases g1:(x.code == 0) with
  | false =>
   obtain rfl:r=D:=by rw[d.out];simp at g1;simp[aO,g1]
   go_wp2;go_ret;exact⟨rfl,i⟩
  | true =>
  cases g2:x.text.toList.isEmpty with
  | false =>
   obtain rfl:r=D:=by rw[d.out,<-ke,g2];simp
   go_wp2;go_ret;exact⟨rfl,i⟩
  | true =>
  cases g3:((x.actN:Int) == 0) with
  | false =>
   obtain rfl:r=D:=by rw[d.out];simp at g3;simp[aO];omega
   go_wp2;go_ret;exact⟨rfl,i⟩
  | true =>
  cases g4:((x.linksN:Int) == 0) with
  | false =>
   obtain rfl:r=D:=by rw[d.out];simp at g4;simp[aO];omega
   go_wp2;go_ret;exact⟨rfl,i⟩
  | true =>
   obtain rfl:r=QC:=by rw[d.out,<-ke,g2];simp at g1 g3 g4;simp[aO,g1,g3,g4]
   go_wp2;go_ret;exact⟨rfl,i⟩
 | false =>
 cases h3:(x.kind == 3) with
 | false =>
  obtain rfl:r=D:=by rw[q.out];unfold kindOk;simp at h1 h2 h3;rw[a8 h1,a8 h2,a8 h3];simp
  go_wp2;go_ret;exact⟨rfl,i⟩
 | true =>have d:Hid ((decide (x.text.size<=2000) && ce f p x)=r):=(q.trans (by unfold kindOk;simp at h1 h2 h3;rw[a8 h1,a8 h2,eT h3])).symm;have k1:=X.out;have G:=ae (A QG i);rw[d.out] at G;clear A q;go_wp2_with fail;refine G.mono ?_;rintro e QH ⟨rfl,m⟩;have K:=ae (i.trans (m.mono i.size));clear m;go_wp2;go_ret;exact⟨rfl,K⟩
end Go.Proofs.YtkdimgejdocbbaaGreatDoor.Vp
