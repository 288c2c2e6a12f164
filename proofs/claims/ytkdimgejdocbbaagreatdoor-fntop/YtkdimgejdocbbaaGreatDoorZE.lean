import Derived.Test.YtkdimgejdocbbaaGreatDoorZD
import Derived.Deep.DeepCutAuto
set_option maxRecDepth 100000
set_option maxHeartbeats 4000000
open Go.Addr renaming mk->J
open Go.Value renaming slice->Z,string->U,int->Q,bool->QA,agg->QE
open Option renaming none->Y,some->N
open Go.Obj renaming cells->T
open Go.IntKind renaming i64->I
open Go renaming World->E,Value->QB
open Bool renaming false->D,true->QC
open Go.Ending renaming returned->QD
namespace Go.Proofs.YtkdimgejdocbbaaGreatDoor.Vp
open RowKit
abbrev Ck (x:aj)(a0:Option Addr)(b:Nat)(a1:Option Addr)(d:Nat):QB:=QE #[U x.name,Q I x.kind,Q I x.code,U x.text,Z a0 x.actN b,Z a1 x.linksN d]
abbrev EF (l:Link):QB:=QE #[U l.name,QA l.ask,QA l.has,Q I l.at_]
theorem nS (x:aj)(a0:Option Addr)(d:Nat)(a1:Option Addr)(b:Nat)(w:E):Calls Tryz.prog 218 #[Ck x a0 d a1 b] w fun e i=>e=QD (QA (aO x))/\Below w.heap.size w i:=by
 have g:=ae ((Qs w).alloc lr (T #[U x.name,Q I x.kind,Q I x.code,U x.text,Z a0 x.actN d,Z a1 x.linksN b] 58));obtain⟨r,h⟩:∃ r,r=aO x:=⟨_,rfl⟩
 rw[<-h];have f:=ae h;clear h;go_enter Tryz.func218,Tryz.ntmps218;cases h1:(x.code == 0) with
 | false =>
  obtain rfl:r=D:=by rw[f.out];simp at h1;simp[aO,h1]
  go_wp2;go_ret;exact⟨rfl,g⟩
 | true =>
  cases h2:((x.actN:Int) == 0) with
  | false =>
   obtain rfl:r=D:=by rw[f.out];simp at h2;simp[aO];omega
   go_wp2;go_ret;exact⟨rfl,g⟩
  | true =>
   cases h3:((x.linksN:Int) == 0) with
   | false =>
    obtain rfl:r=D:=by rw[f.out];simp at h3;simp[aO];omega
    go_wp2;go_ret;exact⟨rfl,g⟩
   | true =>
    obtain rfl:r=QC:=by rw[f.out];simp at h1 h2 h3;simp[aO,h1,h2,h3]
    go_wp2;go_ret;exact⟨rfl,g⟩
def dn (f:Nat->aj)(p:Nat)(l:Link):Bool:=if l.ask=QC then !l.has && decide (0<=l.at_) && decide (l.at_<(p:Int)) && ((f l.at_.toNat).name.toList == l.name.toList) else decide (l.at_=0)
theorem dA (f:Nat->aj)(p:Nat)(l:Link):dJ f p l=(au l.name && dn f p l):=rfl
theorem lx (b off n p j:Nat)(f:Nat->aj)(l:Link)(w:E)(hp:p<=n)(i:RowDeed w b off n f):Calls Tryz.prog 244 #[Z (N (J b off Y)) p j,EF l] w fun e o=>e=QD (QA (dn f p l))/\Below w.heap.size w o:=by
 have d:=ae ((Qs w).alloc lr (T #[U l.name,QA l.ask,QA l.has,Q I l.at_] 64));have k:=ae (i.below d lr);have hb:=i.1;clear i;obtain⟨r,g⟩:∃ r,r=dn f p l:=⟨_,rfl⟩
 rw[<-g];have h:=ae g;clear g;obtain⟨nm,ask,has,at_⟩:=l;go_enter Tryz.func244,Tryz.ntmps244;cases ask with
 | false =>
  cases h1:(at_ == 0) with
  | true =>
   obtain rfl:r=QC:=by rw[h.out];simp at h1;simp[dn,h1]
   go_wp2;go_ret;exact⟨rfl,d⟩
  | false =>
   obtain rfl:r=D:=by rw[h.out];simp at h1;simp[dn,h1]
   go_wp2;go_ret;exact⟨rfl,d⟩
 | true =>
  cases has with
  | true =>
   obtain rfl:r=D:=by rw[h.out];simp[dn]
   go_wp2_with fail;go_quiet (fail);go_wp2;go_ret;exact⟨rfl,xT d _⟩
  | false =>
   by_cases h1:0<=at_
   ·by_cases h2:at_<(p:Int)
    ·obtain⟨q,rfl⟩:∃ q:Nat,at_=(q:Int):=⟨at_.toNat,by omega⟩
     have m:q<n:=by omega
     have d0:=(k.2 q m).1;have e:r=((f q).name.toList == nm.toList):=by rw[h.out];simp[dn,h2]
     cases g:((f q).name.toList == nm.toList) with
     | true =>rw[g] at e;subst e;go_wp2_with fail;go_quiet (fail);go_wp2;go_ret;exact⟨rfl,xT d _⟩
     | false =>rw[g] at e;subst e;go_wp2_with fail;go_quiet (fail);go_wp2;go_ret;exact⟨rfl,xT d _⟩
    ·obtain rfl:r=D:=by rw[h.out];simp[dn,h2]
     have s:decide (at_<(p:Int))=D:=by simpa using h2
     go_wp2_with fail;go_quiet (fail);go_wp2;go_ret;exact⟨rfl,xT d _⟩
   ·obtain rfl:r=D:=by rw[h.out];simp[dn,h1]
    have s:decide (0<=at_)=D:=by simpa using h1
    go_wp2_with fail;go_quiet (fail);go_wp2;go_ret;exact⟨rfl,xT d _⟩
theorem j8 {f:Nat->aj}{p:Nat}{x:aj}{k m:Nat}(hk:k<m)(h:bQ f p x (k+1)=D):bQ f p x m=D:=by
 induction m with
 | zero=>omega
 | succ j b =>
  by_cases e:k=j
  ·subst e;exact h
  ·rw[bQ,b (by omega)];rfl
theorem oY (b off n h p:Nat)(f:Nat->aj)(w:E)(hp:p<n)(H:RowDeed w b off n f)(hcap:(p:Int)<=h):Calls Tryz.prog 219 #[QE #[Z (N (J b off Y)) n h],Q I (p:Int)] w fun e R=>e=QD (QA (decide ((f p).linksN<=200) && bQ f p (f p) (f p).linksN))/\Below w.heap.size w R:=by
 have o:=ae ((Qs w).alloc lr (T #[Z (N (J b off Y)) n h] 50));have HF:=ae H;obtain⟨_,_,_,_,_,⟨a1,cap1,O,r1⟩⟩:=H.2 p hp;have hb:=H.1;have k0:(w.alloc (T #[Z (N (J b off Y)) n h] 50)).cell? (J w.heap.size 0 Y)=N (Z (N (J b off Y)) n h):=by simp
 have p5:=(o.cell (p:=(J b (off+p*6+5) Y)) hb).trans O;have QG:=ae r1;have u:w.heap.size<(w.alloc (T #[Z (N (J b off Y)) n h] 50)).heap.size:=by simp
 clear r1 O H;obtain⟨m,QK⟩:∃ m,m=(f p).linksN:=⟨_,rfl⟩
 obtain⟨L,hL⟩:∃ L,L=(f p).links:=⟨_,rfl⟩
 rw[<-QK] at p5 QG ⊢;rw[<-hL] at QG;have HM:=ae QK;have bt:=ae hL;clear QK hL;by_cases hbig:(200:Int)<(m:Int)
 ·obtain⟨r,QJ⟩:∃ r,r=(decide (m<=200) && bQ f p (f p) m):=⟨_,rfl⟩
  rw[<-QJ];obtain rfl:r=D:=by rw[QJ];simp;omega
  clear QJ;go_enter Tryz.func219,Tryz.ntmps219;go_wp2;go_ret;exact⟨rfl,o⟩
 have hd:decide (m<=200)=QC:=by simp;omega
 rw[hd,JA];clear hd;go_enter Tryz.func219,Tryz.ntmps219;go_wp2;generalize w.alloc (T #[Z (N (J b off Y)) n h] 50)=W at o k0 u ⊢;clear p5;go_loopw [19] (fun i wr=>∃ k:Nat,k<=m/\i=Q I k/\Hid (bQ f p (f p) k=QC)/\Hid (Below W.heap.size W wr)) (fun i _=>m - (intOf i).toNat);case atStart=>exact⟨0,by omega,rfl,rfl,eI _ _⟩
 case round =>
  obtain⟨k,hk,rfl,HK,t⟩:=hrel;by_cases A:k<m
  ·obtain⟨lb,lo,rfl,aq,C⟩:=QG.resolve_left (by omega)
   have hx:=(C k A).below (o.trans (t.mono o.size)) aq;obtain⟨l,hl⟩:∃ l,l=L k:=⟨_,rfl⟩
   rw[<-hl] at hx;have ex:=ae hl;obtain⟨d0,d1,d2,d3⟩:=hx;clear hl C;have HS:Hid (bQ f p (f p) (k+1)=dJ f p l):=by show(bQ f p (f p) k && dJ f p ((f p).links k))=_;rw[HK.out,JA,<-bt.out,<-ex.out]
   have B:=ae ((o.trans (t.mono o.size)).alloc (by have:=o.size;have:=t.size;omega) (T #[U l.name,QA l.ask,QA l.has,Q I l.at_] 64));have y:=ae ((t).alloc t.size (T #[U l.name,QA l.ask,QA l.has,Q I l.at_] 64));have M:(wr.alloc (T #[U l.name,QA l.ask,QA l.has,Q I l.at_] 64)).cell? (J wr.heap.size 0 Y)=N (U l.name):=by simp
   have G:(wr.alloc (T #[U l.name,QA l.ask,QA l.has,Q I l.at_] 64)).cell? (J wr.heap.size 1 Y)=N (QA l.ask):=by simp
   have K:(wr.alloc (T #[U l.name,QA l.ask,QA l.has,Q I l.at_] 64)).cell? (J wr.heap.size 2 Y)=N (QA l.has):=by simp
   have QN:(wr.alloc (T #[U l.name,QA l.ask,QA l.has,Q I l.at_] 64)).cell? (J wr.heap.size 3 Y)=N (Q I l.at_):=by simp
   have q:wr.heap.size<(wr.alloc (T #[U l.name,QA l.ask,QA l.has,Q I l.at_] 64)).heap.size:=by simp
   have S:=(y.cell (p:=(J w.heap.size 0 Y)) u).trans k0;have QP:w.heap.size<(wr.alloc (T #[U l.name,QA l.ask,QA l.has,Q I l.at_] 64)).heap.size:=ll u y.size;have FR:=ae (HF.below B lr);go_upto_region 7 with fail;clear d0 d1 d2 d3;generalize wr.alloc (T #[U l.name,QA l.ask,QA l.has,Q I l.at_] 64)=QO at B y M G K QN q S QP FR ⊢;generalize wr.heap.size=X at M G K QN q ⊢;have hp0:0<=(p:Int):=by omega
   have hpn:(p:Int)<=n:=by omega
   have QL:p<=n:=by omega
   have hcap':p<=h:=by omega
   cases hnm:au l.name with
   | false =>
    have hq:∀ w,Calls Tryz.prog 87 #[U l.name] w fun e R=>e=QD (QA D)/\R=w:=fun w=>by rw[<-hnm];exact tL l.name w
    go_quiet ((go_at_call 87;exact Calls.quiet_of_same (hq _)));have hN:dJ f p l=D:=by rw[dA,hnm];rfl
    have QQ:=ae (HS.trans hN);have x:=ae A;have G1:=ae (xT B nq);clear hN;go_wp2;go_ret;exact⟨wC (fun z=>Ending.returned (QA z)) (j8 x QQ).symm,G1⟩
   | true =>
    cases hla:dn f p l with
    | true =>
     go_region_with (first
      | (go_at_call 87;refine(eO _ _).mono ?_;rintro e QM ⟨j,d⟩;rw[hnm] at j;subst j;have g:Hid (Below QO.heap.size QO QM):=⟨d.os,d.tape,d.output,d.size,d.block⟩;have f0:=(g.cell (p:=(J X 0 Y)) q).trans M;have f1:=(g.cell (p:=(J X 1 Y)) q).trans G;have f2:=(g.cell (p:=(J X 2 Y)) q).trans K;have f3:=(g.cell (p:=(J X 3 Y)) q).trans QN;have k2:=(g.cell (p:=(J w.heap.size 0 Y)) QP).trans S;have V:=ae (FR.below g lr);clear d)
      | (go_at_call 244;refine(lx b off n p h f l _ QL V).mono ?_;rintro e w2 ⟨j,s⟩;rw[hla] at j;subst j;have QH:=ae (g.trans (s.mono g.size));clear s))
     all_goals
      have QQ:Hid (bQ f p (f p) (k+1)=QC):=HS.trans (by rw[dA,hnm,hla];rfl);have P:=ae (y.trans (QH.mono y.size));go_wp2;exact⟨⟨k+1,by omega,by go_num,QQ,P⟩,by simp[intOf];omega⟩
    | false =>
     go_region_with (first
      | (go_at_call 87;refine(eO _ _).mono ?_;rintro e QM ⟨j,d⟩;rw[hnm] at j;subst j;have g:Hid (Below QO.heap.size QO QM):=⟨d.os,d.tape,d.output,d.size,d.block⟩;have f0:=(g.cell (p:=(J X 0 Y)) q).trans M;have f1:=(g.cell (p:=(J X 1 Y)) q).trans G;have f2:=(g.cell (p:=(J X 2 Y)) q).trans K;have f3:=(g.cell (p:=(J X 3 Y)) q).trans QN;have k2:=(g.cell (p:=(J w.heap.size 0 Y)) QP).trans S;have V:=ae (FR.below g lr);clear d)
      | (go_at_call 244;refine(lx b off n p h f l _ QL V).mono ?_;rintro e w2 ⟨j,s⟩;rw[hla] at j;subst j;have QH:=ae (g.trans (s.mono g.size));clear s))
     all_goals
      have QQ:Hid (bQ f p (f p) (k+1)=D):=HS.trans (by rw[dA,hnm,hla];rfl);have x:=ae A;have P:=ae (B.trans (QH.mono (by have:=B.size;omega)));go_wp2;go_ret;exact⟨wC (fun z=>Ending.returned (QA z)) (j8 x QQ).symm,P⟩
  ·have e:m=k:=by omega
   subst e;go_wp2;go_ret;exact⟨by rw[HM.out] at HK;rw[HM.out];exact wC (fun z=>Ending.returned (QA z)) HK.symm,o.trans (t.mono o.size)⟩
structure SixB (w:E)(b:Nat)(v0 v1 v2 v3 v4 v5:QB):Prop where
 lt:b<w.heap.size
 c0:w.cell? (J b 0 Y)=N v0
 c1:w.cell? (J b 1 Y)=N v1
 c2:w.cell? (J b 2 Y)=N v2
 c3:w.cell? (J b 3 Y)=N v3
 c4:w.cell? (J b 4 Y)=N v4
 c5:w.cell? (J b 5 Y)=N v5
theorem SixB.below {w j:E}{b:Nat}{l g d f k i:QB}(h:SixB w b l g d f k i)(hb:Below w.heap.size w j):SixB j b l g d f k i :=
 ⟨ll h.lt hb.size,(hb.cell (p:=(J b 0 Y)) h.lt).trans h.c0,(hb.cell (p:=(J b 1 Y)) h.lt).trans h.c1,(hb.cell (p:=(J b 2 Y)) h.lt).trans h.c2,(hb.cell (p:=(J b 3 Y)) h.lt).trans h.c3,(hb.cell (p:=(J b 4 Y)) h.lt).trans h.c4,(hb.cell (p:=(J b 5 Y)) h.lt).trans h.c5⟩
theorem j9 (w:E)(b i d h g f:QB)(t:TypeId):SixB (w.alloc (T #[b,i,d,h,g,f] t)) w.heap.size b i d h g f:=⟨by simp,by simp,by simp,by simp,by simp,by simp,by simp⟩
theorem ke (t:ByteArray):t.toList.isEmpty=decide (t.size=0):=by rw[IA];obtain⟨⟨l⟩⟩:=t;cases l<;>simp[ByteArray.size]
theorem xL {a b:Bool}(h:a=b):Ending.returned (QA a)=Ending.returned (QA b):=by rw[h]
theorem qD (b off n j p:Nat)(f:Nat->aj)(w:E)(S:p<n)(A:RowDeed w b off n f)(G:(p:Int)<=j)(t:(f p).actN<=1048576)(QM:Tab w):Calls Tryz.prog 168 #[QE #[Z (N (J b off Y)) n j],Q I (p:Int)] w fun e w'=>e=QD (QA (bc f p))/\Below w.heap.size w w':=by
 have HF:=ae A;have P:=ae QM;have hb:=A.1;obtain⟨V,QJ,QL,R,⟨a0,g,O,K⟩,⟨a1,l,M,q5⟩⟩:=A.2 p S;obtain⟨r,QP⟩:∃ r,r=bc f p:=⟨_,rfl⟩
 rw[<-QP];have B:=ae QP;obtain⟨x,QN⟩:∃ x,x=f p:=⟨_,rfl⟩
 rw[<-QN] at V QJ QL R O M K t;have QQ:=ae QN;have X:=ae K;clear QP QN K q5 A QM;have q:=ae (((Qs w).alloc lr (T #[Z (N (J b off Y)) n j] 50)).alloc (by simp) (T #[U x.name,Q I x.kind,Q I x.code,U x.text,Z a0 x.actN g,Z a1 x.linksN l] 58));have u:=ae (j9 (w.alloc (T #[Z (N (J b off Y)) n j] 50)) (U x.name) (Q I x.kind) (Q I x.code) (U x.text) (Z a0 x.actN g) (Z a1 x.linksN l) 58);have hz:(w.alloc (T #[Z (N (J b off Y)) n j] 50)).heap.size=w.heap.size+1:=by simp
 rw[hz] at u;have H:Hid (((w.alloc (T #[Z (N (J b off Y)) n j] 50)).alloc (T #[U x.name,Q I x.kind,Q I x.code,U x.text,Z a0 x.actN g,Z a1 x.linksN l] 58)).cell? (J w.heap.size 0 Y)=N (Z (N (J b off Y)) n j)):=by show World.cell? _ _=_;simp
 clear hz;go_enter Tryz.func168,Tryz.ntmps168;go_wp2_with fail;generalize (w.alloc (T #[Z (N (J b off Y)) n j] 50)).alloc (T #[U x.name,Q I x.kind,Q I x.code,U x.text,Z a0 x.actN g,Z a1 x.linksN l] 58)=W at q u H ⊢;clear V QJ QL R O M;cases hnm:au x.name with
 | false =>
  refine(eO x.name _).mono ?_;rintro e w1 ⟨h,d⟩;rw[hnm] at h;subst h;have i:=ae (q.trans (d.mono q.size));obtain rfl:r=D:=by rw[B.out];unfold bc;rw[<-QQ.out,hnm];rfl
  clear d;go_wp2;go_ret;exact⟨rfl,i⟩
 | true =>
 refine(eO x.name _).mono ?_;rintro e w1 ⟨h,d⟩;rw[hnm] at h;subst h;have i:=ae (q.trans (d.mono q.size));have m:=ae (u.below d);have QH:=ae ((d.cell (p:=(J w.heap.size 0 Y)) (LU u.lt)).trans H);have c1:=m.c1;have c2:=m.c2;have c3:=m.c3;clear d q u H;by_cases hbig:(2000:Int)<(x.text.size:Int)
 ·obtain rfl:r=D:=by rw[B.out];unfold bc;rw[<-QQ.out,hnm];simp;omega
  go_wp2;go_ret;exact⟨rfl,i⟩
 have C:Hid (r=kindOk f p x):=by show r=_;rw[B.out];unfold bc;rw[<-QQ.out,hnm,show decide (x.text.size<=2000)=QC by simp;omega];rfl
 clear B;cases h1:(x.kind == 1) with
 | true =>
  have s:x.kind=1:=by simpa using h1
  have k:Hid (aO x=r):=(C.trans (by unfold kindOk;rw[eT s])).symm;clear s;have c0:=m.c0;have c4:=m.c4;have c5:=m.c5;go_wp2_with fail;refine(nS x a0 g a1 l _).mono ?_;rintro e QO ⟨rfl,d⟩;have o:=ae (i.trans (d.mono i.size));clear d;go_wp2;go_ret;exact⟨xL k,o⟩
 | false =>
 cases h2:(x.kind == 2) with
 | true =>
  have s:x.kind=2:=by simpa using h2
  have k:Hid (r=(aO x && decide (x.text.size=0))):=C.trans (by unfold kindOk;rw[a8 (by omega),eT s]);clear s;have c0:=m.c0;have c4:=m.c4;have c5:=m.c5;go_wp2_with fail;refine(nS x a0 g a1 l _).mono ?_;rintro e QO ⟨h,d⟩;have o:=ae (i.trans (d.mono i.size));have d3:=(m.below d).c3;clear d;cases hu:aO x with
  | false =>
   rw[hu] at h;subst h;obtain rfl:r=D:=by rw[k.out,hu];rfl
   go_wp2;go_ret;exact⟨rfl,o⟩
  | true =>
   rw[hu] at h;subst h;have z:Hid (decide (x.text.size=0)=r):=by show _=r;rw[k.out,hu];rfl
   go_wp2;go_ret;exact⟨aW (by rw[ke];exact z),o⟩
 | false =>
 cases h3:(x.kind == 3) with
 | false =>
  obtain rfl:r=D:=by rw[C.out];unfold kindOk;simp at h1 h2 h3;rw[a8 h1,a8 h2,a8 h3]
  go_wp2;go_ret;exact⟨rfl,i⟩
 | true =>
 have k:Hid (r=ce f p x):=C.trans (by unfold kindOk;simp at h1 h2 h3;rw[a8 h1,a8 h2,eT h3]);by_cases QK:0<=x.code
 ·by_cases L:x.code<=5
  ·have c4:=m.c4
   go_wp2_with fail;refine(lJ a0 x.actN g x.act _ t (X.below i lr) (P.below i P.1)).mono ?_;rintro e QO ⟨h,d⟩;have o:=ae (i.trans (d.mono i.size));have K2:=(d.cell (p:=(J w.heap.size 0 Y)) (LU m.lt)).trans QH;clear d;cases hv:valid x.act x.actN with
   | false =>
    rw[hv] at h;subst h;obtain rfl:r=D:=by rw[k.out];simp[ce,hv]
    go_wp2;go_ret;exact⟨rfl,o⟩
   | true =>
    rw[hv] at h;subst h;have z:Hid ((decide (x.linksN<=200) && bQ f p x x.linksN)=r):=by show _=r;rw[k.out];simp[ce,hv,QK,L]
    have y:=ae (oY b off n j p f QO S (HF.below o lr) G);rw[<-QQ.out] at y;rw[z.out] at y;go_wp2_with fail;refine y.mono ?_;rintro e w3 ⟨rfl,d⟩;have QG:=ae (o.trans (d.mono o.size));clear d;go_wp2;go_ret;exact⟨rfl,QG⟩
  ·obtain rfl:r=D:=by rw[k.out];simp[ce,L]
   go_wp2;go_ret;exact⟨rfl,i⟩
 ·obtain rfl:r=D:=by rw[k.out];simp[ce,QK]
  go_wp2;go_ret;exact⟨rfl,i⟩
theorem qE (b off n d:Nat)(f:Nat->aj)(w:E)(hn:(n:Int)<=400)(y:RowDeed w b off n f)(hcap:(n:Int)<=d)(h:∀ i,i<n->cY (f i))(A:Tab w):Calls Tryz.prog 96 #[QE #[Z (N (J b off Y)) n d]] w fun e H=>e=QD (Q I (aJ (bc f) n))/\Below w.heap.size w H:=by
 have G:=ae y;have z:=ae A;have K:=ae h;clear y A h;have t:=ae ((Qs w).alloc lr (T #[Z (N (J b off Y)) n d] 50));have C:(w.alloc (T #[Z (N (J b off Y)) n d] 50)).cell? (J w.heap.size 0 Y)=N (Z (N (J b off Y)) n d):=by simp
 have q:w.heap.size<(w.alloc (T #[Z (N (J b off Y)) n d] 50)).heap.size:=by simp
 obtain⟨r,s⟩:∃ r,r=aJ (bc f) n:=⟨_,rfl⟩
 rw[<-s];have QQ:=ae s;clear s;go_enter Tryz.func96,Tryz.ntmps96;go_wp2;generalize w.alloc (T #[Z (N (J b off Y)) n d] 50)=W at t C q ⊢;go_loopw [7] (fun i wr=>∃ k:Nat,k<=n/\i=Q I k/\Hid (∀ j,j<k->bc f j=QC)/\Hid (Below W.heap.size W wr)) (fun i _=>n - (intOf i).toNat);case atStart=>exact⟨0,by omega,rfl,fun j B=>absurd B (CV _),eI _ _⟩
 case round =>
  obtain⟨k,hk,rfl,x,m⟩:=hrel;have k1:=(m.cell (p:=(J w.heap.size 0 Y)) q).trans C;have g:=ae (t.trans (m.mono t.size));by_cases l:k<n
  ·go_wp2_with fail
   refine(qD b off n d k f _ l (G.below g lr) (by omega) (K k l).1 (z.below g z.1)).mono ?_;rintro e w2 ⟨o,u⟩;have QN:=ae (g.trans (u.mono g.size));have QO:=ae (m.trans (u.mono m.size));clear u;cases hd:bc f k with
   | true =>
    rw[hd] at o;subst o;have QP:=ae hd;clear hd;go_wp2
    exact⟨⟨k+1,by omega,by go_num,fun j B=>by
     by_cases e:j=k
     ·subst e;exact QP
     ·exact x j (by omega),QO⟩,by simp[intOf];omega⟩
   | false =>
    rw[hd] at o;subst o;obtain rfl:r=k:=by rw[QQ.out];exact iy l hd x
    clear hd;go_wp2;go_ret;exact⟨rfl,QN⟩
  ·have e:n=k:=by omega
   subst e;obtain rfl:r=-1:=by rw[QQ.out];exact eh x
   go_wp2;go_ret;exact⟨rfl,g⟩
theorem rq (x:aj)(a0:Option Addr)(f:Nat)(a1:Option Addr)(b:Nat)(w:E):Calls Tryz.prog 178 #[Ck x a0 f a1 b] w fun e j=>e=QD (QA (decide (x.text.size<=2000) && aO x))/\Below w.heap.size w j:=by
 have g:=ae ((Qs w).alloc lr (T #[U x.name,Q I x.kind,Q I x.code,U x.text,Z a0 x.actN f,Z a1 x.linksN b] 58));obtain⟨r,h⟩:∃ r,r=(decide (x.text.size<=2000) && aO x):=⟨_,rfl⟩
 rw[<-h];have d:=ae h;clear h;go_enter Tryz.func178,Tryz.ntmps178;cases h1:(x.code == 0) with
 | false =>
  obtain rfl:r=D:=by rw[d.out];simp at h1;simp[aO,h1]
  go_wp2;go_ret;exact⟨rfl,g⟩
 | true =>
  by_cases h4:(x.text.size:Int)<=2000
  ·have i:decide (x.text.size<=2000)=QC:=by simp;omega
   cases h2:((x.actN:Int) == 0) with
   | false =>
    obtain rfl:r=D:=by rw[d.out];simp at h2;simp[aO];omega
    go_wp2;go_ret;exact⟨rfl,g⟩
   | true =>
    cases h3:((x.linksN:Int) == 0) with
    | false =>
     obtain rfl:r=D:=by rw[d.out];simp at h3;simp[aO];omega
     go_wp2;go_ret;exact⟨rfl,g⟩
    | true =>
     obtain rfl:r=QC:=by rw[d.out,i];simp at h1 h2 h3;simp[aO,h1,h2,h3]
     go_wp2;go_ret;exact⟨rfl,g⟩
  ·obtain rfl:r=D:=by rw[d.out];simp;omega
   go_wp2;go_ret;exact⟨rfl,g⟩
theorem oZ (b off n m p:Nat)(f:Nat->aj)(w:E)(hp:p<n)(O:RowDeed w b off n f)(H:(f p).actN<=1048576)(L:∀ j,j<(f p).actN->((f p).act j).s.size<=maxLen):Calls Tryz.prog 179 #[QE #[Z (N (J b off Y)) n m],Q I (p:Int)] w fun e w'=>e=QD (QA (decide ((f p).text.size<=2000) && ce f p (f p)))/\Below w.heap.size w w':=by
 have HF:=ae O;have hb:=O.1;obtain⟨p0,p1,p2,p3,⟨a0,g,p4,q4⟩,⟨a1,y,p5,q5⟩⟩:=O.2 p hp;obtain⟨x,hx⟩:∃ x,x=f p:=⟨_,rfl⟩
 rw[<-hx] at p0 p1 p2 p3 p4 p5 q4 q5 H L ⊢;have HX:=ae hx;have Q4:=ae q4;have Q5:=ae q5;have HZ:=ae L;clear hx q4 q5 O L;have A:=ae (((Qs w).alloc lr (T #[Z (N (J b off Y)) n m] 50)).alloc (by simp) (T #[U x.name,Q I x.kind,Q I x.code,U x.text,Z a0 x.actN g,Z a1 x.linksN y] 58));have u:=ae (j9 (w.alloc (T #[Z (N (J b off Y)) n m] 50)) (U x.name) (Q I x.kind) (Q I x.code) (U x.text) (Z a0 x.actN g) (Z a1 x.linksN y) 58);have hz:(w.alloc (T #[Z (N (J b off Y)) n m] 50)).heap.size=w.heap.size+1:=by simp
 rw[hz] at u;have K0:Hid (((w.alloc (T #[Z (N (J b off Y)) n m] 50)).alloc (T #[U x.name,Q I x.kind,Q I x.code,U x.text,Z a0 x.actN g,Z a1 x.linksN y] 58)).cell? (J w.heap.size 0 Y)=N (Z (N (J b off Y)) n m)):=by show World.cell? _ _=_;simp
 clear hz;obtain⟨r,QP⟩:∃ r,r=(decide (x.text.size<=2000) && ce f p x):=⟨_,rfl⟩
 rw[<-QP];have G:=ae QP;clear QP;have c2:=u.c2;have c3:=u.c3;have c4:=u.c4;have c5:=u.c5;by_cases g1:0<=x.code;case neg =>
  obtain rfl:r=D:=by rw[G.out];simp[ce,g1]
  go_enter Tryz.func179,Tryz.ntmps179;go_wp2;go_ret;exact⟨rfl,A⟩
 by_cases g2:x.code<=5;case neg =>
  obtain rfl:r=D:=by rw[G.out];simp[ce,g2]
  go_enter Tryz.func179,Tryz.ntmps179;go_wp2;go_ret;exact⟨rfl,A⟩
 by_cases g3:(x.text.size:Int)<=2000;case neg =>
  obtain rfl:r=D:=by rw[G.out];simp;omega
  go_enter Tryz.func179,Tryz.ntmps179;go_wp2;go_ret;exact⟨rfl,A⟩
 have aq:decide (x.text.size<=2000)=QC:=by simp;omega
 go_enter Tryz.func179,Tryz.ntmps179;go_wp2_with fail;generalize (w.alloc (T #[Z (N (J b off Y)) n m] 50)).alloc (T #[U x.name,Q I x.kind,Q I x.code,U x.text,Z a0 x.actN g,Z a1 x.linksN y] 58)=W at A u K0 ⊢;clear p0 p1 p2 p3 p4 p5;refine(iS a0 x.actN g x.act _ H (Q4.below A lr) HZ).mono ?_;rintro e w1 ⟨z,d⟩;have R:=ae (A.trans (d.mono A.size));have S1:=ae (u.below d);have K1:=ae ((d.cell (p:=(J w.heap.size 0 Y)) (LU u.lt)).trans K0);clear d A u K0 c2 c3 c4 c5;have c5:=S1.c5;cases hv:valid x.act x.actN with
 | false =>
  rw[hv] at z;subst z;obtain rfl:r=D:=by rw[G.out];simp[ce,hv]
  go_wp2;go_ret;exact⟨rfl,R⟩
 | true =>
 rw[hv] at z;subst z;have QN:Hid (r=(decide (x.linksN<=200) && bQ f p x x.linksN)):=by show r=_;rw[G.out,aq];simp[ce,hv,g1,g2]
 clear G aq hv;by_cases hbig:(200:Int)<(x.linksN:Int)
 ·obtain rfl:r=D:=by rw[QN.out];simp;omega
  go_wp2;go_ret;exact⟨rfl,R⟩
 have V:Hid (r=bQ f p x x.linksN):=by show r=_;rw[QN.out,show decide (x.linksN<=200)=QC by simp;omega];rfl
 clear QN;go_wp2;have ex:w.heap.size+1<w1.heap.size:=S1.lt;go_loopw [6] (fun i wr=>∃ k:Nat,k<=x.linksN/\i=Q I k/\Hid (bQ f p x k=QC)/\Hid (Below w1.heap.size w1 wr)) (fun i _=>x.linksN - (intOf i).toNat);case atStart=>exact⟨0,by omega,rfl,rfl,eI _ _⟩
 case round =>
  obtain⟨k,hk,rfl,HK,QJ⟩:=hrel;have e5:=(QJ.cell (p:=(J (w.heap.size+1) 5 Y)) ex).trans c5;have QL:=ae (R.trans (QJ.mono R.size));by_cases QO:k<x.linksN
  ·obtain⟨lb,lo,rfl,K⟩:=(Q5.below QL lr).resolve_left (by omega)
   have QH:=K.2 k QO;obtain⟨l,hl⟩:∃ l,l=x.links k:=⟨_,rfl⟩
   rw[<-hl] at QH;obtain⟨d0,d1,d2,d3⟩:=QH;have HS:Hid (bQ f p x (k+1)=dJ f p l):=by show(bQ f p x k && dJ f p (x.links k))=_;rw[HK.out,JA,<-hl]
   clear hl K;have P:=ae (QL.alloc QL.size (T #[U l.name,QA l.ask,QA l.has,Q I l.at_] 64));have QQ:=ae (QJ.alloc QJ.size (T #[U l.name,QA l.ask,QA l.has,Q I l.at_] 64));have QK:(wr.alloc (T #[U l.name,QA l.ask,QA l.has,Q I l.at_] 64)).cell? (J wr.heap.size 0 Y)=N (U l.name):=by simp
   have M:(wr.alloc (T #[U l.name,QA l.ask,QA l.has,Q I l.at_] 64)).cell? (J wr.heap.size 1 Y)=N (QA l.ask):=by simp
   have S:(wr.alloc (T #[U l.name,QA l.ask,QA l.has,Q I l.at_] 64)).cell? (J wr.heap.size 2 Y)=N (QA l.has):=by simp
   have QM:(wr.alloc (T #[U l.name,QA l.ask,QA l.has,Q I l.at_] 64)).cell? (J wr.heap.size 3 Y)=N (Q I l.at_):=by simp
   have o:wr.heap.size<(wr.alloc (T #[U l.name,QA l.ask,QA l.has,Q I l.at_] 64)).heap.size:=by simp
   have kA:=(QQ.cell (p:=(J w.heap.size 0 Y)) (by show w.heap.size<_;omega)).trans K1;have QG:w.heap.size<(wr.alloc (T #[U l.name,QA l.ask,QA l.has,Q I l.at_] 64)).heap.size:=by have:=QQ.size;omega
   go_wp2_with fail;clear d0 d1 d2 d3 e5;generalize wr.alloc (T #[U l.name,QA l.ask,QA l.has,Q I l.at_] 64)=W1 at P QQ QK M S QM o kA QG ⊢;generalize wr.heap.size=X at QK M S QM o ⊢;refine(cX l.name _).mono ?_;rintro e w2 ⟨z,d⟩;have B:=ae (P.trans (d.mono P.size));have C2:=ae (QQ.trans (d.mono QQ.size));have f0:=(d.cell (p:=(J X 0 Y)) o).trans QK;have f1:=(d.cell (p:=(J X 1 Y)) o).trans M;have f2:=(d.cell (p:=(J X 2 Y)) o).trans S;have f3:=(d.cell (p:=(J X 3 Y)) o).trans QM;have kB:=(d.cell (p:=(J w.heap.size 0 Y)) QG).trans kA;have FR:=ae (HF.below B lr);clear d QK M S QM kA P QQ;have HLT:=ae QO;have no:dJ f p l=D->r=D:=fun h=>by rw[V.out];exact j8 QO (HS.trans h)
   have t:=ae no;clear no;cases hnm:au l.name with
   | false =>rw[hnm] at z;subst z;obtain rfl:r=D:=t.out (by rw[dA,hnm];rfl);go_wp2;go_ret;exact⟨rfl,B⟩
   | true =>
   rw[hnm] at z;subst z;cases hask:l.ask with
   | false =>
    rw[hask] at f1;cases h1:(l.at_ == 0) with
    | false =>obtain rfl:r=D:=t.out (by simp at h1;rw[dA,hnm];simp[dn,hask,h1]);go_wp2;go_ret;exact⟨rfl,B⟩
    | true =>have HN:Hid (bQ f p x (k+1)=QC):=HS.trans (by simp at h1;rw[dA,hnm];simp[dn,hask,h1]);go_wp2_with fail;go_quiet (fail);have C3:=ae (xT C2 nq);go_wp2;exact⟨⟨k+1,by omega,by go_num,HN,C3⟩,by simp[intOf];omega⟩
   | true =>
    rw[hask] at f1;cases hhas:l.has with
    | true =>rw[hhas] at f2;obtain rfl:r=D:=t.out (by rw[dA,hnm];simp[dn,hask,hhas]);go_wp2_with fail;go_quiet (fail);have C:=ae (xT B nq);go_wp2;go_ret;exact⟨rfl,C⟩
    | false =>
     rw[hhas] at f2;by_cases g4:0<=l.at_
     ·by_cases g5:l.at_<(p:Int)
      ·obtain⟨q,hq⟩:∃ q:Nat,l.at_=(q:Int):=⟨l.at_.toNat,by omega⟩
       rw[hq] at f3 g5;have fd:q<n:=by omega
       have d0:=(FR.2 q fd).1;have h5:decide ((p:Int)<=(q:Int))=D:=by simp;omega
       have h5n:decide (p<=q)=D:=by simp;omega
       have h6:decide ((q:Int)<0)=D:=by simp
       have hq0:(0:Int)<=q:=by omega
       have hqn':(q:Int)<n:=by omega
       have bt:Hid (dn f p l=((f q).name.toList == l.name.toList)):=by show dn f p l=_;simp[dn,hask,hhas,hq,g5]
       cases QP:((f q).name.toList == l.name.toList) with
       | true =>have HN:Hid (bQ f p x (k+1)=QC):=HS.trans (by rw[dA,hnm,bt.out,QP];rfl);go_wp2_with fail;go_quiet (fail);have C3:=ae (xT C2 nq);go_wp2;exact⟨⟨k+1,by omega,by go_num,HN,C3⟩,by simp[intOf];omega⟩
       | false =>obtain rfl:r=D:=t.out (by rw[dA,hnm,bt.out,QP];rfl);go_wp2_with fail;go_quiet (fail);have C:=ae (xT B nq);go_wp2;go_ret;exact⟨rfl,C⟩
      ·obtain rfl:r=D:=t.out (by rw[dA,hnm];simp[dn,hask,g5])
       have h5:(p:Int)<=l.at_:=by omega
       have h6:decide (l.at_<0)=D:=by simpa using g4
       go_wp2_with fail;go_quiet (fail);have C:=ae (xT B nq);go_wp2;go_ret;exact⟨rfl,C⟩
     ·obtain rfl:r=D:=t.out (by rw[dA,hnm];simp[dn,hask,g4])
      have h6:l.at_<0:=by omega
      go_wp2_with fail;go_quiet (fail);have C:=ae (xT B nq);go_wp2;go_ret;exact⟨rfl,C⟩
  ·have e:x.linksN=k:=by omega
   obtain rfl:r=QC:=by rw[V.out,e];exact HK
   have h5:((k:Int)<(x.linksN:Int))=False:=by simp;omega
   go_wp2;go_ret;exact⟨rfl,QL⟩
theorem ru (b off n g p:Nat)(f:Nat->aj)(w:E)(QM:p<n)(B:RowDeed w b off n f)(o:(f p).actN<=1048576)(u:∀ j,j<(f p).actN->((f p).act j).s.size<=maxLen):Calls Tryz.prog 109 #[QE #[Z (N (J b off Y)) n g],Q I (p:Int)] w fun e QQ=>e=QD (QA (bc f p))/\Below w.heap.size w QQ:=by
 have A:=ae (fun QQ (hb:Below w.heap.size w QQ)=>oZ b off n g p f QQ QM (B.below hb lr) o u);obtain⟨r,H⟩:∃ r,r=bc f p:=⟨_,rfl⟩
 rw[<-H];have K:=ae H;clear H;have hb:=B.1;obtain⟨QK,R,QL,P,⟨a0,l,O,QJ⟩,⟨a1,k,M,S⟩⟩:=B.2 p QM;obtain⟨x,L⟩:∃ x,x=f p:=⟨_,rfl⟩
 rw[<-L] at QK R QL P O M QJ S o u A;have V:=ae L;clear L QJ S B u o;have C:=ae (((Qs w).alloc lr (T #[Z (N (J b off Y)) n g] 50)).alloc (by simp) (T #[U x.name,Q I x.kind,Q I x.code,U x.text,Z a0 x.actN l,Z a1 x.linksN k] 58));have z:=ae (j9 (w.alloc (T #[Z (N (J b off Y)) n g] 50)) (U x.name) (Q I x.kind) (Q I x.code) (U x.text) (Z a0 x.actN l) (Z a1 x.linksN k) 58);have hz:(w.alloc (T #[Z (N (J b off Y)) n g] 50)).heap.size=w.heap.size+1:=by simp
 rw[hz] at z;have QN:Hid (((w.alloc (T #[Z (N (J b off Y)) n g] 50)).alloc (T #[U x.name,Q I x.kind,Q I x.code,U x.text,Z a0 x.actN l,Z a1 x.linksN k] 58)).cell? (J w.heap.size 0 Y)=N (Z (N (J b off Y)) n g)):=by show World.cell? _ _=_;simp
 clear hz;go_enter Tryz.func109,Tryz.ntmps109;go_wp2_with fail;generalize (w.alloc (T #[Z (N (J b off Y)) n g] 50)).alloc (T #[U x.name,Q I x.kind,Q I x.code,U x.text,Z a0 x.actN l,Z a1 x.linksN k] 58)=W at C z QN ⊢;clear QK R QL P O M;refine(cX x.name _).mono ?_;rintro e QH ⟨QP,m⟩;have i:=ae (C.trans (m.mono C.size));have q:=ae (z.below m);have X:=ae ((m.cell (p:=(J w.heap.size 0 Y)) (LU z.lt)).trans QN);clear m C z QN;cases hnm:au x.name with
 | false =>
  rw[hnm] at QP;subst QP;obtain rfl:r=D:=by rw[K.out];unfold bc;rw[<-V.out,hnm];rfl
  go_wp2;go_ret;exact⟨rfl,i⟩
 | true =>
 rw[hnm] at QP;subst QP;have t:Hid (r=(decide (x.text.size<=2000) && kindOk f p x)):=by show r=_;rw[K.out];unfold bc;rw[<-V.out,hnm];rfl
 clear K;have c0:=q.c0;have c1:=q.c1;have c2:=q.c2;have c3:=q.c3;have c4:=q.c4;have c5:=q.c5;cases h1:(x.kind == 1) with
 | true =>
  have y:x.kind=1:=by simpa using h1
  have d:Hid ((decide (x.text.size<=2000) && aO x)=r):=(t.trans (by unfold kindOk;rw[eT y])).symm;clear y;go_wp2_with fail;refine(rq x a0 l a1 k _).mono ?_;rintro e QG ⟨rfl,m⟩;have QO:=ae (i.trans (m.mono i.size));clear m;go_wp2;go_ret;exact⟨xL d,QO⟩
 | false =>
 cases h2:(x.kind == 2) with
 | true =>
  have y:x.kind=2:=by simpa using h2
  have d:Hid (r=(aO x && decide (x.text.size=0))):=t.trans (by
   unfold kindOk;rw[a8 (by omega),eT y];by_cases h:x.text.size=0
   ·simp[h]
   ·simp[h])
  clear y t;cases g1:(x.code == 0) with
  | false =>
   obtain rfl:r=D:=by rw[d.out];simp at g1;simp[aO,g1]
   go_wp2;go_ret;exact⟨rfl,i⟩
  | true =>
  cases g2:x.text.toList.isEmpty with
  | false =>
   obtain rfl:r=D:=by rw[d.out,<-ke,g2];simp
   go_wp2;go_ret;exact⟨rfl,i⟩
  | true =>
  cases g3:((x.actN:Int) == 0) with
  | false =>
   obtain rfl:r=D:=by rw[d.out];simp at g3;simp[aO];omega
   go_wp2;go_ret;exact⟨rfl,i⟩
  | true =>
  cases g4:((x.linksN:Int) == 0) with
  | false =>
   obtain rfl:r=D:=by rw[d.out];simp at g4;simp[aO];omega
   go_wp2;go_ret;exact⟨rfl,i⟩
  | true =>
   obtain rfl:r=QC:=by rw[d.out,<-ke,g2];simp at g1 g3 g4;simp[aO,g1,g3,g4]
   go_wp2;go_ret;exact⟨rfl,i⟩
 | false =>
 cases h3:(x.kind == 3) with
 | false =>
  obtain rfl:r=D:=by rw[t.out];unfold kindOk;simp at h1 h2 h3;rw[a8 h1,a8 h2,a8 h3];simp
  go_wp2;go_ret;exact⟨rfl,i⟩
 | true =>have d:Hid ((decide (x.text.size<=2000) && ce f p x)=r):=(t.trans (by unfold kindOk;simp at h1 h2 h3;rw[a8 h1,a8 h2,eT h3])).symm;have k1:=X.out;have G:=ae (A QH i);rw[d.out] at G;clear A t;go_wp2_with fail;refine G.mono ?_;rintro e QG ⟨rfl,m⟩;have QO:=ae (i.trans (m.mono i.size));clear m;go_wp2;go_ret;exact⟨rfl,QO⟩
end Go.Proofs.YtkdimgejdocbbaaGreatDoor.Vp
