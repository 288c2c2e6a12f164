import Derived.Test.YtkdimgejdocbbaaGreatDoorYE
import Derived.Test.YtkdimgejdocbbaaGreatDoorZN
set_option maxRecDepth 100000
set_option maxHeartbeats 8000000
open Go.Addr renaming mk->J
open Go.Value renaming slice->Z,string->U,int->Q,bool->QA,agg->QE
open Option renaming none->Y,some->N
open Go.Obj renaming cells->T
open Go.IntKind renaming i64->I
open Go renaming World->E,Value->QB
open Bool renaming false->D,true->QC
open Go.Ending renaming returned->QD
namespace Go.Proofs.YtkdimgejdocbbaaGreatDoor.Vp
open RowKit
theorem iY (a:Option Addr)(n b:Nat)(f:Nat->aj)(w:E)(y:(n:Int)<=1048576)(s:SlDeed w a n f)(l:(n:Int)<=b)(g:∀ i,i<n->cY (f i))(q:Tab w):Calls Tryz.prog 104 #[QE #[Z a n b]] w fun e t=>e=QD (QA (aX f n))/\Below w.heap.size w t:=by
 have u:=ae s;have x:=ae g;have o:=ae q;clear s g q;have h:=ae ((Qs w).alloc lr (T #[Z a n b] 50));obtain⟨r,k⟩:∃ r,r=aX f n:=⟨_,rfl⟩
 rw[<-k];have j:=ae (show r=decide ((dr f n).1=0) from k);clear k;go_enter Tryz.func104,Tryz.ntmps104;go_wp2_with fail;refine(tV a n b f _ y (u.below h lr) l x (o.below h o.1)).mono ?_;rintro e w1 ⟨rfl,p⟩;have m:=ae (h.trans (p.mono h.size));clear p;generalize (dr f n).1=c at j ⊢;generalize (dr f n).2=d;cases r with
 | true =>obtain rfl:c=0:=IW j.symm;go_wp2;go_ret;exact⟨rfl,m⟩
 | false =>
  have hc:(c == 0)=D:=by have:¬ c=0:=LK j.symm;simpa using this
  go_wp2;go_ret;exact⟨rfl,m⟩
theorem CF:(Tryz.prog.info? 3).map (fun i=>(i.zero,i.size,i.bytes))=N (N (Q I 0),1,8):=by kernel_rfl
theorem SixB.blk {w w':E}{b:Nat}{k g d f j i:QB}(h:SixB w b k g d f j i)(hz:w.heap.size<=w'.heap.size)(e:w'.heap[b]?=w.heap[b]?):SixB w' b k g d f j i :=
 have c:∀ o,w'.cell? (J b o Y)=w.cell? (J b o Y):=fun o=>cq (a:=(J b o Y)) e
 ⟨ll h.lt hz,(c 0).trans h.c0,(c 1).trans h.c1,(c 2).trans h.c2,(c 3).trans h.c3,(c 4).trans h.c4,(c 5).trans h.c5⟩
theorem TyAt.blk {w w':E}{g:Nat}{e:TypeId}(h:TyAt w g e)(hb:w'.heap[g]?=w.heap[g]?):TyAt w' g e:=by obtain⟨c,b⟩:=h;exact⟨c,hb.trans b⟩
theorem Kpt.grown {H M f n:Nat}{W i:E}{v:QB}{l:List QB}(m:W.ownsRow f 3 1 v n l)(j:W.grownBy i v.ownBlock):Kpt H M W i:=by
 refine⟨j.size,fun k e p o _ _=>?_⟩;obtain⟨c,b⟩:=p;refine j.block k (x5.1 b).1 (fun d=>?_);rcases m.2 with ⟨rfl,_⟩ | ⟨g,cap,cur,rfl,_,h,_⟩
 ·simp[Value.ownBlock] at d
 ·simp[Value.ownBlock] at d
  subst d;rw[h] at b;simp at b;exact o b.2.symm
theorem SLs.app {f W d:E}{n1 b off n g H M:Nat}{s:Nat->Bool}{t v:QB}{ord ord':List Nat}{p:Int}(h:SLs f W n1 b off n g H M s t ord p)(hz:W.heap.size<=d.heap.size)(l:d.heap[H]?=W.heap[H]?)(m:d.heap[M]?=W.heap[M]?)(r:Below f.heap.size f d)(j:d.ownsRow n1 3 1 v ord'.length (ord'.map fun q:Nat=>Value.int I (q:Int))):SLs f (d.setCell (J H 2 Y) v) n1 b off n g H M s v ord' p:=by
 have c:∀ o,d.cell? (J H o Y)=W.cell? (J H o Y):=fun o=>cq (a:=(J H o Y)) l;have z:∀ o,d.frozen? (J H o Y)=W.frozen? (J H o Y):=fun o=>DN (a:=(J H o Y)) l;have i:∀ o,o≠2->(d.setCell (J H 2 Y) v).cell? (J H o Y)=d.cell? (J H o Y):=fun o j=>sq _ _ _ _ (by first | (simp;done) | (simp;exact fun e=>j e.symm) | (simp;omega));refine⟨(i 0 (by omega)).trans ((c 0).trans h.c0),(i 1 (by omega)).trans ((c 1).trans h.c1),⟨AI _ _ _ (by rw[c 2,h.c2.1];rfl),?_⟩,⟨(i 3 (by omega)).trans ((c 3).trans h.c3.1),?_⟩,fun q k=>⟨(sq _ _ _ _ (by first | (simp;done) | (simp;exact fun e=>absurd e.symm h.ne) | (simp;exact fun e=>absurd e h.ne) | (simp;omega))).trans ((cq (a:=(J M q Y)) m).trans (h.row q k).1),?_⟩,mY j h.hH.2 _,r.setCell h.hH.1 _,h.hH,h.hM,h.ne,by have:=h.hz;simp;omega⟩
 ·rw[MK];exact(z 2).trans h.c2.2
 ·rw[MK];exact(z 3).trans h.c3.2
 ·rw[MK];exact(DN (a:=(J M q Y)) m).trans (h.row q k).2
theorem yc (B:E)(n1 b off n o H M:Nat)(f:Nat->aj)(hA:fK f n)(hn:(n:Int)<=400)(hf:RowDeed B b off n f)(hlk:∀ p,p<n->(f p).linksN<=200):∀ (k p d:Nat) (s:Nat->Bool) (QJ:QB) (ord:List Nat) (m:Int) (W:E),p<k->p<n->d+p<=1000->SLs B W n1 b off n o H M s QJ ord m->s p=D->ord.length+(lst f k p d s).2.length<=1000 ->
   Calls Tryz.prog 180 #[.pointer (N (J H 0 Y)),Q I (p:Int),Q I (d:Int)] W fun e W'=>e=QD (.tuple #[])/\∃ u,SLs B W' n1 b off n o H M (lst f k p d s).1 u (ord++(lst f k p d s).2.map (fun z:Nat × Nat=>z.1)) (cH f m (lst f k p d s).2)/\Kpt H M W W':=by
 intro k;induction k with
 | zero=>intro p d s QJ ord m W h;omega
 | succ k ih =>
  intro p d s QJ ord m W hpk X hdp hS hs hN;have HS:=ae hS;have HN:=ae hN;have Fq:=ae ih;have HA:=ae hA;have HF:=ae hf;have HLK:=ae hlk;obtain⟨FC,Fx,Fw,Fu,FG⟩:=IS CF;obtain⟨At,qr,ro,ld,⟨a0,r,ph,q4⟩,⟨a1,t,n9,q5⟩⟩:=hf.2 p X;have S:=ae (hS.mark X);have hb:=hf.1;obtain⟨x,hx⟩:∃ x,x=f p:=⟨_,rfl⟩
  rw[<-hx] at At qr ro ld ph n9 q5;have hm2:x.linksN<=200:=by rw[hx];exact hlk p X
  have HL:=ae q5;have HX:=ae hx;have p0:=(S.low.cell (p:=(J b (off+p*6) Y)) hb).trans At;have p1:=(S.low.cell (p:=(J b (off+p*6+1) Y)) hb).trans qr;have p2:=(S.low.cell (p:=(J b (off+p*6+2) Y)) hb).trans ro;have p3:=(S.low.cell (p:=(J b (off+p*6+3) Y)) hb).trans ld;have p4:=(S.low.cell (p:=(J b (off+p*6+4) Y)) hb).trans ph;have p5:=(S.low.cell (p:=(J b (off+p*6+5) Y)) hb).trans n9;obtain⟨K,hK⟩:∃ K,K=lks (lst f k) (f p) d s:=⟨_,rfl⟩
  have ur:Hid (lst f (k+1) p d s=(put (K x.linksN).1 p,(K x.linksN).2++[(p,d)])):=by rw[hK,hx];rfl
  have FL:Hid (K 0=(s,[])):=by rw[hK];rfl
  have Fs:Hid (∀ j,K (j+1)=if (x.links j).ask=QC/\(K j).1 (x.links j).at_.toNat=D then ((lst f k (x.links j).at_.toNat (d+1) (K j).1).1,(K j).2++(lst f k (x.links j).at_.toNat (d+1) (K j).1).2) else K j):=fun j=>by rw[hK,hx];rfl
  have FD:Hid (∀ i,i<=x.linksN->(K i).2 <+: (K x.linksN).2):=fun i hi=>by rw[hK];exact oe hi
  have QH:Hid (cI f m (p,d)=if x.kind=3/\60<=d/\(m<0∨(p:Int)<m) then (p:Int) else m):=by rw[hx];rfl
  have FF:H<W.heap.size:=by have:=hS.hH;have:=hS.hz;omega
  have Ft:=hS.c1;obtain⟨Fp,Fv⟩:=hS.row p X;have FO:=S.c0;have hp0:(0:Int)<=p:=by omega
  have hpn':(p:Int)<n:=by omega
  have QL:=ae (S.below (br.alloc lr (T #[U x.name,Q I x.kind,Q I x.code,U x.text,Z a0 x.actN r,Z a1 x.linksN t] 58)));have L:=ae (j9 (W.setCell (J M p Y) (QA QC)) (U x.name) (Q I x.kind) (Q I x.code) (U x.text) (Z a0 x.actN r) (Z a1 x.linksN t) 58);have QK:Hid (TyAt ((W.setCell (J M p Y) (QA QC)).alloc (T #[U x.name,Q I x.kind,Q I x.code,U x.text,Z a0 x.actN r,Z a1 x.linksN t] 58)) (W.setCell (J M p Y) (QA QC)).heap.size 58):=⟨_,eL _ _⟩
  have C:=ae ((Kpt.setCell (H:=H) (M:=M) (j:=p) W M (.inr rfl) (QA QC)).trans (Kpt.of_below (br.alloc lr (T #[U x.name,Q I x.kind,Q I x.code,U x.text,Z a0 x.actN r,Z a1 x.linksN t] 58))));have DQ:(W.setCell (J M p Y) (QA QC)).heap.size=W.heap.size:=by simp
  rw[DQ] at L QK;clear hS hN ih hA hf hlk q4 q5 hx hK At qr ro ld ph n9 hs DQ S;go_enter Tryz.func180,Tryz.ntmps180;go_upto_region 2 with fail;generalize (W.setCell (J M p Y) (QA QC)).alloc (T #[U x.name,Q I x.kind,Q I x.code,U x.text,Z a0 x.actN r,Z a1 x.linksN t] 58)=W2 at QL L QK C ⊢;clear p0 p1 p2 p3 p4 p5 Ft Fp Fv FO;obtain⟨td,QG⟩:∃ td,td=decide (x.kind=3/\60<=d):=⟨_,rfl⟩
  have HD:=ae QG;clear QG;have c1:=L.c1;go_cut [28] (fun Fy wx=>Fy=QA td/\wx=W2);case first =>
   cases P:(x.kind == 3) with
   | false =>
    obtain rfl:td=D:=by rw[HD.out];simp at P;simp[P]
    go_wp2;go_meet;exact⟨rfl,rfl⟩
   | true =>
    by_cases h6:(60:Int)<=(d:Int)
    ·obtain rfl:td=QC:=by rw[HD.out];simp at P;simp[P];omega
     go_wp2;go_meet;exact⟨by first | rfl | (simp;done) | (simp;omega),rfl⟩
    ·obtain rfl:td=D:=by rw[HD.out];simp;omega
     go_wp2;go_meet;exact⟨by first | rfl | (simp;done) | (simp;omega),rfl⟩
  case rest =>
  obtain⟨rfl,rfl⟩:=hcut;clear c1;have hHD:H<W.heap.size:=FF;go_upto_if 28 with fail;go_cut [] (fun wx=>Hid (SLs B wx n1 b off n o H M (put s p) QJ ord (cI f m (p,d)))/\Hid (SixB wx W.heap.size (U x.name) (Q I x.kind) (Q I x.code) (U x.text) (Z a0 x.actN r) (Z a1 x.linksN t))/\Hid (TyAt wx W.heap.size 58)/\Hid (Kpt H M W wx));case first =>
   cases td with
   | false =>
    have QN:cI f m (p,d)=m:=by rw[QH.out,a8 (fun h=>by have:=HD.out;simp at this;have:=this h.1;omega)]
    have l:Hid (SLs B wc n1 b off n o H M (put s p) QJ ord (cI f m (p,d))):=by show SLs _ _ _ _ _ _ _ _ _ _ _ _ _;rw[QN];exact QL
    clear QN;go_wp2;go_meet;exact⟨l,L,QK,C⟩
   | true =>
    have QG:x.kind=3/\60<=d:=by have:=HD.out;simpa using this
    obtain⟨e3,z3⟩:=QL.c3;have V:=ae QG;clear QG;have e4:(wc.setCell (J H 3 Y) (Q I (p:Int))).heap[W.heap.size]?=wc.heap[W.heap.size]?:=qh _ _ _ _ (by show W.heap.size≠H;omega);have SP:=ae (QL.deep (p:Int));have DP:=ae (L.blk (w':=wc.setCell (J H 3 Y) (Q I (p:Int))) (by simp) e4);have YP:=ae (QK.blk e4);have DA:=ae (C.trans (Kpt.setCell (H:=H) (M:=M) (j:=3) wc H (.inl rfl) (Q I (p:Int))));clear e4;by_cases g1:m<0
    ·have QN:cI f m (p,d)=(p:Int):=by rw[QH.out,eT ⟨V.1,V.2,.inl g1⟩]
     have l:Hid (SLs B (wc.setCell (J H 3 Y) (Q I (p:Int))) n1 b off n o H M (put s p) QJ ord (cI f m (p,d))):=by show SLs _ _ _ _ _ _ _ _ _ _ _ _ _;rw[QN];exact SP
     clear QN;go_wp2;go_meet;exact⟨l,DP,YP,DA⟩
    ·by_cases g2:(p:Int)<m
     ·have QN:cI f m (p,d)=(p:Int):=by rw[QH.out,eT ⟨V.1,V.2,.inr g2⟩]
      have l:Hid (SLs B (wc.setCell (J H 3 Y) (Q I (p:Int))) n1 b off n o H M (put s p) QJ ord (cI f m (p,d))):=by show SLs _ _ _ _ _ _ _ _ _ _ _ _ _;rw[QN];exact SP
      clear QN;go_wp2;go_meet;exact⟨l,DP,YP,DA⟩
     ·have QN:cI f m (p,d)=m:=by rw[QH.out,a8 (fun h=>by have:=h.2.2;omega)]
      have l:Hid (SLs B wc n1 b off n o H M (put s p) QJ ord (cI f m (p,d))):=by show SLs _ _ _ _ _ _ _ _ _ _ _ _ _;rw[QN];exact QL
      clear QN;go_wp2;go_meet;exact⟨l,L,QK,C⟩
  case rest =>
  clear QL L QK C;obtain⟨QL,L,QK,C⟩:=hcut;obtain⟨QQ,ex⟩:∃ QQ,QQ=cI f m (p,d):=⟨_,rfl⟩
  rw[<-ex] at QL;have Fk:=ae ex;clear ex QH;have FN:Hid (QQ=cI f m (p,d)):=Fk.out;go_wp2;go_loopw [7] (fun i wr=>∃ (j:Nat) (u:QB),j<=x.linksN/\i=Q I j/\Hid (SLs B wr n1 b off n o H M (put (K j).1 p) u (ord++(K j).2.map (fun z:Nat × Nat=>z.1)) (cH f QQ (K j).2))/\Hid (SixB wr W.heap.size (U x.name) (Q I x.kind) (Q I x.code) (U x.text) (Z a0 x.actN r) (Z a1 x.linksN t))/\Hid (TyAt wr W.heap.size 58)/\Hid (Kpt H M W wr)) (fun i _=>x.linksN - (intOf i).toNat);case atStart=>exact⟨0,QJ,by omega,rfl,by rw[FL.out];simp only[LV,NA,cH];exact QL,L,QK,C⟩
  case round =>
   clear QL L QK C;obtain⟨j,u,hj,rfl,l,D3,Y3,la⟩:=hrel;have e5:=D3.c5;have QM:W.heap.size<wr.heap.size:=D3.lt;by_cases Fd:j<x.linksN
   ·obtain⟨lb,lo,rfl,n7⟩:=(HL.below l.low lr).resolve_left (by omega)
    obtain⟨l0,l1,l2,l3⟩:=n7.2 j Fd;have n6:=Fs.out j;have th:(x.links j).ask=QC->(x.links j).at_.toNat<p/\0<=(x.links j).at_:=fun h=>by have:=HA.out p X j (by rw[<-HX.out];exact Fd);rw[<-HX.out] at this;exact this h
    generalize x.links j=y at l0 l1 l2 l3 n6 th;have n8:=ae n6;have Bk:=ae th;clear n6 th l0 l2 n7;cases hask:y.ask with
    | false =>
     rw[hask] at l1;have A:K (j+1)=K j:=by rw[n8.out,a8 (by rw[hask];simp)]
     have aq:=ae A;clear A;go_wp2_with fail;go_quiet (fail);have QP:=ae (xT (Qs wr) nq);have S4:=ae (l.below QP);have D4:=ae (D3.blk QP.size (QP.block _ QM));have Y4:=ae (Y3.blk (QP.block _ QM));have R:=ae (la.trans (Kpt.of_below QP));go_wp2;exact⟨⟨j+1,u,by omega,by go_num,by rw[aq.out];exact S4,D4,Y4,R⟩,by simp[intOf];omega⟩
    | true =>
     rw[hask] at l1;obtain⟨q,hq⟩:∃ q:Nat,y.at_=(q:Int):=⟨y.at_.toNat,by have:=(Bk hask).2;omega⟩
     have FI:q<p:=by have:=(Bk hask).1;rw[hq] at this;simpa using this
     rw[hq] at l3;have f1:=l.c1;obtain⟨f2,_⟩:=l.row q (by omega);have mv:put (K j).1 p q=(K j).1 q:=by simp[put];omega
     rw[mv] at f2;have hq0:(0:Int)<=q:=by omega
     have hqn:(q:Int)<n:=by omega
     have FE:=ae mv;clear mv;cases hl:(K j).1 q with
     | true =>
      rw[hl] at f2;have A:K (j+1)=K j:=by rw[n8.out,a8 (by rw[hq];simp[hl])]
      have aq:=ae A;clear A;go_wp2_with fail;go_quiet (fail);have QP:=ae (xT (Qs wr) nq);have S4:=ae (l.below QP);have D4:=ae (D3.blk QP.size (QP.block _ QM));have Y4:=ae (Y3.blk (QP.block _ QM));have R:=ae (la.trans (Kpt.of_below QP));go_wp2;exact⟨⟨j+1,u,by omega,by go_num,by rw[aq.out];exact S4,D4,Y4,R⟩,by simp[intOf];omega⟩
     | false =>
      rw[hl] at f2;have A:K (j+1)=((lst f k q (d+1) (K j).1).1,(K j).2++(lst f k q (d+1) (K j).1).2):=by rw[n8.out,eT ⟨hask,by rw[hq];simpa using hl⟩,hq];simp
      have aq:=ae A;have sm:=FD.out (j+1) (by omega);rw[A] at sm;have Fm:=ae sm;have FA:=ae hl;clear A sm;have fd:((d+1:Nat):Int)=(d:Int)+1:=by omega
      have HC:Hid (∀ W5,SLs B W5 n1 b off n o H M (put (K j).1 p) u (ord++(K j).2.map (fun z:Nat × Nat=>z.1)) (cH f QQ (K j).2)->Calls Tryz.prog 180 #[.pointer (N (J H 0 Y)),Q I (q:Int),Q I ((d:Int)+1)] W5 fun e W'=>e=QD (.tuple #[])/\∃ QO,SLs B W' n1 b off n o H M (put (K (j+1)).1 p) QO (ord++(K (j+1)).2.map (fun z:Nat × Nat=>z.1)) (cH f QQ (K (j+1)).2)/\Kpt H M W5 W'):=by
       intro W5 h5;have DE:=uC HA.out k q (d+1) (K j).1 p (by omega) FI;have Fl:(ord++(K j).2.map (fun z:Nat × Nat=>z.1)).length+(lst f k q (d+1) (put (K j).1 p)).2.length<=1000:=by rw[DE];have P:=HN.out;rw[ur.out] at P;have h4:=Fm.length_le;simp only[cM,p7,E4,I4] at P h4 ⊢;omega
       have h:=Fq.out q (d+1) (put (K j).1 p) u (ord++(K j).2.map (fun z:Nat × Nat=>z.1)) (cH f QQ (K j).2) W5 (by omega) (by omega) (by omega) h5 (FE.trans FA) Fl;rw[fd,DE] at h;refine h.mono fun e W' h=>?_;obtain⟨he,QO,hs,hk⟩:=h;refine⟨he,QO,?_,hk⟩;rw[aq.out];simp only[FB,ly,<-IB];exact hs
      clear fd;go_wp2_with fail;go_quiet (fail);have QP:=ae (xT (Qs wr) nq);have S4:=ae (l.below QP);have D4:=ae (D3.blk QP.size (QP.block _ QM));have Y4:=ae (Y3.blk (QP.block _ QM));have R:=ae (la.trans (Kpt.of_below QP));have g5:=D4.c5;have Fh:=(QP.cell (p:=(J lb (lo+j*4+3) Y)) (by have:=(HL.below l.low lr);rcases this with h | ⟨b',o',hv,hr⟩;(omega);(cases hv;exact hr.1))).trans l3;clear e5 f1 f2 l1 l3;generalize wr.drewN nq=W5 at S4 D4 Y4 R g5 Fh ⊢;go_wp2_with fail;refine(HC W5 S4).mono ?_;rintro e W6 ⟨rfl,QO,hs,hk⟩;have S5:=ae hs;have eD:=hk.keep W.heap.size _ Y4.out (by decide) (by omega) (by have:=HS.hM;have:=HS.hz;omega);have D5:=ae (D4.blk hk.size eD);have Y5:=ae (Y4.blk eD);have FM:=ae (R.trans hk);clear hs hk eD g5 Fh;go_wp2;exact⟨⟨j+1,QO,by omega,by go_num,S5,D5,Y5,FM⟩,by simp[intOf];omega⟩
   ·have e:j=x.linksN:=by omega
    subst e;obtain⟨f2,z2⟩:=l.c2;obtain⟨oa,oc,rfl⟩:∃ a c,u=Z a (ord++(K x.linksN).2.map (fun z:Nat × Nat=>z.1)).length c:=by
     rcases l.ord.2 with ⟨h1,h2⟩ | ⟨g,c,Fr,h1,_⟩
     ·exact⟨Y,0,by rw[h1,h2]⟩
     ·exact⟨_,_,h1⟩
    have Fz:(ord++(K x.linksN).2.map (fun z:Nat × Nat=>z.1)).length<=1000:=by have P:=HN.out;rw[ur.out] at P;simp only[cM,p7,E4,I4] at P ⊢;omega
    generalize hO:ord++(K x.linksN).2.map (fun z:Nat × Nat=>z.1)=O at l f2 Fz ⊢;have HO:=ae hO;clear hO;have FH:H<wr.heap.size:=by have:=l.hH;have:=l.hz;omega
    have Fo:M<wr.heap.size:=by have:=l.hM;have:=l.hz;omega
    go_wp2_with (at_builtin;refine CD _ rfl (.tmp 88) (.tmp 90) 156 rfl n1 3 FC (Q I 0) 1 8 Tryz.underlying156 Fx Fw Fu FG rfl (by decide) _ O.length (O.map fun q:Nat=>Value.int I (q:Int)) (by simp[Act.eval]) (l.ord.alloc _) (J wr.heap.size 0 Y) 1 1 [Q I (p:Int)] (by simp[Act.eval]) rfl (cell_one_new _ _ _) (by simp[Value.oneCell']) (by unfold maxLen;omega) (by omega) (by have:=l.hz;simp;omega) ?_;intro vy wy bt G Fi;have OW:Hid (wy.ownsRow n1 3 1 vy (O++[p]).length ((O++[p]).map fun q:Nat=>Value.int I (q:Int))):=(by show World.ownsRow _ _ _ _ _ _ _;rw[cM,FB];exact bt);have GR:=ae G;have eH:wy.heap[H]?=wr.heap[H]?:=(G.block H (by simp;omega) (fun e=>by have:=(l.ord.lt H e.symm).1;have:=l.hH.2;omega)).trans (((Qs wr).alloc lr _).block _ FH);have eM:wy.heap[M]?=wr.heap[M]?:=(G.block M (by simp;omega) (fun e=>by have:=(l.ord.lt M e.symm).1;have:=l.hM.2;omega)).trans (((Qs wr).alloc lr _).block _ Fo);have g2:=(cq (a:=(J H 2 Y)) eH).trans f2;have y2:=(DN (a:=(J H 2 Y)) eH).trans z2;obtain⟨gs,cs,rfl⟩:∃ g c,vy=Z (N (J g 0 Y)) (O.length+1) c:=(by rcases bt.2 with ⟨_,h2⟩ | ⟨g,c,Fr,h1,_⟩;(omega);exact⟨g,c,h1⟩);have EH:=ae eH;have EM:=ae eM;clear bt G Fi eH eM);have AL:=(Qs wr).alloc lr (T #[Q I (p:Int)] 3);have FK:wr.heap.size<=wy.heap.size:=j5 AL.size GR.size;have Fj:Below B.heap.size B wy:=bg (l.low.alloc l.low.size (T #[Q I (p:Int)] 3)) GR (by have:=l.low.size;simp;omega) (fun j e=>by have:=(l.ord.lt j e).1;have:=l.hH;omega);have F1:=l.app (v:=Z (N (J gs 0 Y)) (O.length+1) cs) (ord':=O++[p]) FK EH EM Fj OW;have F2:=((la.trans (Kpt.of_below AL)).trans (Kpt.grown (l.ord.alloc (T #[Q I (p:Int)] 3)) GR)).trans (Kpt.setCell (H:=H) (M:=M) (j:=2) wy H (.inl rfl) (Z (N (J gs 0 Y)) (O.length+1) cs));have FJ:cH f m ((K x.linksN).2++[(p,d)])=cH f QQ (K x.linksN).2:=by rw[ly,FN.out,tM];rfl
    have FP:ord++((K x.linksN).2++[(p,d)]).map (fun z:Nat × Nat=>z.1)=O++[p]:=by rw[FB,<-IB,HO.out];rfl
    go_end0;rw[ur.out];refine⟨rfl,Z (N (J gs 0 Y)) (O.length+1) cs,?_,F2⟩;show SLs B _ n1 b off n o H M (put (K x.linksN).1 p) _ (ord++((K x.linksN).2++[(p,d)]).map (fun z:Nat × Nat=>z.1)) (cH f m ((K x.linksN).2++[(p,d)]));rw[FJ,FP];exact F1
theorem yd {L:List (Nat × Nat)}:∀ {i:Nat},(∀ j (h:j<L.length),(L[j]).1=i+j)->bz i L=-1:=by
 induction L with
 | nil=>intro i _;rfl
 | cons x xs d =>intro i h;have b:=h 0 (by simp);simp at b;rw[bz,eT b];refine d fun j f=>?_;have:=h (j+1) (by simpa using f);simp at this;omega
theorem Ad {L:List (Nat × Nat)}:∀ {i j:Nat} (d:j<L.length),(∀ m (h:m<j),(L[m]).1=i+m)->(L[j]).1≠i+j->bz i L=((i+j:Nat):Int):=by
 induction L with
 | nil=>intro i j d;simp at d
 | cons x xs g =>
  intro i j d h b;cases j with
  | zero =>simp at b;rw[bz,a8 b];simp
  | succ j =>
   have f:=h 0 (by omega);simp at f;rw[bz,eT f,g (i:=i+1) (j:=j) (by simpa using d) (fun m hm=>?_) (by simpa[LH,Nat.add_comm 1 j] using b)]
   ·congr 1;omega
   ·have:=h (m+1) (by omega)
    simp at this;omega
theorem mL {f:Nat->aj}{d:Int}:∀ {L:List (Nat × Nat)},0<=d->(∀ x∈L,d<=(x.1:Int))->cH f d L=d
 | [],_,_=>rfl
 | x :: xs,h,hx=>by
  have h1:cI f d x=d:=by unfold cI;rw[a8 (fun h2=>by have:=hx x (by simp);omega)]
  rw[cH,h1];exact mL h fun y b=>hx y (by simp[b])
theorem lT {f:Nat->aj}:∀ {L:List (Nat × Nat)} {i:Nat},(∀ j (h:j<L.length),(L[j]).1=i+j)->cH f (-1) L=aR f L
 | [],_,_=>rfl
 | x :: xs,i,h=>by
  have l:=h 0 (by simp);simp at l;have g:∀ j (d:j<xs.length),(xs[j]).1=i+1+j:=fun j d=>by have:=h (j+1) (by simpa using d);simp at this;omega
  rw[cH,aR];by_cases b:(f x.1).kind=3/\60<=x.2
  ·have h1:cI f (-1) x=(x.1:Int):=by unfold cI;rw[eT ⟨b.1,b.2,.inl (by omega)⟩]
   rw[eT b,h1];refine mL (by omega) fun y k=>?_;obtain⟨j,d,rfl⟩:=J6 k;have:=g j d;omega
  ·have h1:cI f (-1) x=-1:=by unfold cI;rw[a8 (fun h2=>b ⟨h2.1,h2.2.1⟩)]
   rw[a8 b,h1];exact lT g
theorem lU {f:Nat->aj}{n:Nat}(hn:1<=n):∃ o,aB f n=o++[(n - 1,0)]:=by
 obtain⟨k,rfl⟩:∃ k,n=k+1:=⟨n - 1,by omega⟩
 exact⟨_,rfl⟩
theorem se {f:Nat->aj}{n:Nat}(d:1<=n)(h:∀ j (hj:j<(aB f n).length),((aB f n)[j]).1=j):(aB f n).length=n:=by
 obtain⟨o,b⟩:=lU (f:=f) d;have hl:(aB f n).length=o.length+1:=by rw[b];simp
 have:=h o.length (by omega);simp only[b] at this;simp at this;omega
theorem Eg {f:Nat->aj}{p k m:Nat}(hk:k<m)(h:aQ f p (k+1)=D):aQ f p m=D:=by
 induction m with
 | zero=>omega
 | succ j b =>
  by_cases e:k=j
  ·subst e;exact h
  ·rw[aQ,b (by omega)];rfl
structure EO (w:E)(b:Nat)(v0 v1 v2 v3:QB):Prop where
 c0:w.cell? (J b 0 Y)=N v0
 c1:w.cell? (J b 1 Y)=N v1
 c2:w.cell? (J b 2 Y)=N v2
 c3:w.cell? (J b 3 Y)=N v3
 z2:w.frozen? (J b 2 Y)=D
 z3:w.frozen? (J b 3 Y)=D
theorem Ae (w:E)(f g b d:QB)(t:TypeId):EO (w.alloc (T #[f,g,b,d] t)).drew w.heap.size f g b d:=⟨by simp,by simp,by simp,by simp,by simp,by simp⟩
theorem CG {w:E}{b off n d:Nat}:SLs w (((w.alloc (T #[Z (N (J b off Y)) n d] 50)).alloc (T (bD n) 4)).alloc (T #[Z (N (J b off Y)) n d,Z (N (J (w.heap.size+1) 0 Y)) n n,Z Y 0 0,Q I (-1)] 158)).drew (w.heap.size+1+1+1) b off n d (w.heap.size+1+1) (w.heap.size+1) (fun _=>D) (Z Y 0 0) [] (-1):=by
 have h:(w.alloc (T #[Z (N (J b off Y)) n d] 50)).heap.size=w.heap.size+1:=by simp
 have i:((w.alloc (T #[Z (N (J b off Y)) n d] 50)).alloc (T (bD n) 4)).heap.size=w.heap.size+1+1:=by simp
 have A:=(((Qs w).alloc lr (T #[Z (N (J b off Y)) n d] 50)).alloc (by simp) (T (bD n) 4)).alloc (by simp;omega) (T #[Z (N (J b off Y)) n d,Z (N (J (w.heap.size+1) 0 Y)) n n,Z Y 0 0,Q I (-1)] 158);have QQ:Below (w.heap.size+1+1) ((w.alloc (T #[Z (N (J b off Y)) n d] 50)).alloc (T (bD n) 4)) (((w.alloc (T #[Z (N (J b off Y)) n d] 50)).alloc (T (bD n) 4)).alloc (T #[Z (N (J b off Y)) n d,Z (N (J (w.heap.size+1) 0 Y)) n n,Z Y 0 0,Q I (-1)] 158)).drew:=(br.alloc (by omega) _).drew;have hM:=fun q g=>og (w.alloc (T #[Z (N (J b off Y)) n d] 50)) n q g;rw[h] at hM;have f:=Ae ((w.alloc (T #[Z (N (J b off Y)) n d] 50)).alloc (T (bD n) 4)) (Z (N (J b off Y)) n d) (Z (N (J (w.heap.size+1) 0 Y)) n n) (Z Y 0 0) (Q I (-1)) 158;rw[i] at f;refine⟨f.c0,f.c1,⟨f.c2,f.z2⟩,⟨f.c3,f.z3⟩,fun q g=>⟨(QQ.cell (p:=(J (w.heap.size+1) q Y)) (lj _)).trans (hM q g).1,(QQ.frozen (p:=(J (w.heap.size+1) q Y)) (lj _)).trans (hM q g).2⟩,H7 _ _ _ _,A.drew,by omega,by omega,by omega,?_⟩;simp
theorem tY (b off n d:Nat)(f:Nat->aj)(w:E)(k:fK f n)(hn1:1<=n)(x:(n:Int)<=400)(o:RowDeed w b off n f)(hlk:∀ p,p<n->(f p).linksN<=200):Calls Tryz.prog 110 #[QE #[Z (N (J b off Y)) n d],Q I ((n:Int) - 1)] w fun e i=>∃ H j,e=QD (.pointer (N (J H 0 Y)))/\H<i.heap.size/\i.cell? (J H 2 Y)=N j/\i.ownsRow w.heap.size 3 1 j (aB f n).length ((aB f n).map fun z:Nat × Nat=>Value.int I (z.1:Int))/\i.cell? (J H 3 Y)=N (Q I (cH f (-1) (aB f n)))/\Below w.heap.size w i:=by
 have u:(w.alloc (T #[Z (N (J b off Y)) n d] 50)).cell? (J w.heap.size 0 Y)=N (Z (N (J b off Y)) n d):=by simp
 have r:=jD k hn1;have l:=yc w (w.heap.size+1+1+1) b off n d (w.heap.size+1+1) (w.heap.size+1) f k x o hlk n (n - 1) 0 (fun _=>D) (Z Y 0 0) [] (-1) _ (by omega) (by omega) (by omega) CG rfl (by have:=r;unfold aB at this;simp;omega);rw[show((n - 1:Nat):Int)=(n:Int) - 1 by omega] at l;have s:=ae l;have q:=fun w=>x7 n (by omega) w;clear l k o hlk;have HW:Hid (w.heap.size+1+1+1=(((w.alloc (T #[Z (N (J b off Y)) n d] 50)).alloc (T (bD n) 4)).alloc (T #[Z (N (J b off Y)) n d,Z (N (J (w.heap.size+1) 0 Y)) n n,Z Y 0 0,Q I (-1)] 158)).drew.heap.size):=by show _=_;simp
 go_enter Tryz.func110,Tryz.ntmps110;go_wp2_with fail;go_region_with fail;all_goals
  clear q u;go_wp2_with fail;refine s.mono ?_;rintro e w2 ⟨rfl,j,m,t⟩;have g:=ae m;clear m t;go_wp2;go_ret;refine⟨w.heap.size+1+1,j,rfl,?_,g.c2.1,?_,g.c3.1,g.low⟩
  ·have:=g.hz
   omega
  ·have h:=aI g.ord (base':=w.heap.size) (by omega)
   simp only[IN,List.map_map,I4] at h;exact h
theorem ye (b o j:Nat):((J b o Y):Addr).add j=(J b (o+j) Y):=by unfold Addr.add;split<;>simp_all
theorem tZ (a:Option Addr)(n s:Nat)(f:Nat->aj)(w:E)(hn:(n:Int)<=1048576)(hv:SlDeed w a n f)(aq:∀ i,i<n->cY (f i))(ph:∀ i,i<n->gV (f i)):Calls Tryz.prog 34 #[QE #[Z a n s]] w fun e w'=>e=QD (.tuple #[Q I (dr f n).1,Q I (dr f n).2])/\Below w.heap.size w w':=by
 have HV:=ae hv;have HM:=ae aq;have HZ:=ae ph;clear hv aq ph;have A0:=ae ((Qs w).alloc lr (T #[Z a n s] 50));have k0:(w.alloc (T #[Z a n s] 50)).cell? (J w.heap.size 0 Y)=N (Z a n s):=by simp
 obtain⟨c1,c2,QN⟩:∃ c1 c2,dr f n=(c1,c2):=⟨_,_,rfl⟩
 rw[QN];have V:=ae QN;clear QN;by_cases h0:(n:Int)<1
 ·have d:c1=1/\c2=0:=by have:=V.out;unfold dr at this;rw[eT (.inl (by omega))] at this;simp only[C9] at this;omega
  clear V;obtain⟨d,A⟩:=d;subst d A;go_enter Tryz.func34,Tryz.ntmps34;go_wp2;go_ret2;exact⟨rfl,A0⟩
 by_cases h4:(400:Int)<(n:Int)
 ·have d:c1=1/\c2=0:=by have:=V.out;unfold dr at this;rw[eT (.inr (by omega))] at this;simp only[C9] at this;omega
  clear V;obtain⟨d,A⟩:=d;subst d A;go_enter Tryz.func34,Tryz.ntmps34;go_wp2;go_ret2;exact⟨rfl,A0⟩
 have QM:Hid ((if aJ (bc f) n≠-1 then ((2:Int),aJ (bc f) n) else if aJ (fun p=>aQ f p p) n≠-1 then (3,aJ (fun p=>aQ f p p) n) else if bz 0 (aB f n)≠-1 then (4,bz 0 (aB f n)) else if aR f (aB f n)≠-1 then (5,aR f (aB f n)) else (0,0))=(c1,c2)):=by have:=V.out;unfold dr at this;rw[a8 (by omega)] at this;exact this
 clear V;obtain⟨b,off,rfl,fd⟩:=HV.resolve_left (by omega);have HR:=ae fd;clear HV fd;have th:(n:Int)<=400:=by omega
 have QL:w.heap.size<(w.alloc (T #[Z (N (J b off Y)) n s] 50)).heap.size:=by simp
 go_enter Tryz.func34,Tryz.ntmps34;go_wp2;generalize w.alloc (T #[Z (N (J b off Y)) n s] 50)=W at A0 k0 QL ⊢;go_loopw [5] (fun i wr=>∃ k:Nat,k<=n/\i=Q I k/\Hid (∀ j,j<k->bc f j=QC)/\Hid (Below W.heap.size W wr)) (fun i _=>n - (intOf i).toNat);case atStart=>exact⟨0,by omega,rfl,fun j t=>absurd t (CV _),eI _ _⟩
 case round =>
  obtain⟨k,hk,rfl,q,M⟩:=hrel;have k1:=(M.cell (p:=(J w.heap.size 0 Y)) QL).trans k0;have B:=ae (A0.trans (M.mono A0.size));by_cases l:k<n
  ·go_wp2_with fail
   refine(ru b off n s k f _ l (HR.below B lr) (HM k l).1 (HZ k l).2.2.1.2).mono ?_;rintro e w2 ⟨he,QH⟩;have y:=ae (B.trans (QH.mono B.size));have H1:=ae (M.trans (QH.mono M.size));clear QH;cases K:bc f k with
   | true =>
    rw[K] at he;subst he;have HD:=ae K;clear K;go_wp2
    exact⟨⟨k+1,by omega,by go_num,fun j t=>by
     by_cases e:j=k
     ·subst e;exact HD
     ·exact q j (by omega),H1⟩,by simp[intOf];omega⟩
   | false =>
    rw[K] at he;subst he;have u:=iy l K q.out;have d:c1=2/\c2=(k:Int):=by have:=QM.out;rw[eT (by rw[u];omega),u] at this;simp only[C9] at this;omega
    obtain⟨d,A⟩:=d;clear QM u K;subst d A;go_wp2;go_ret2;exact⟨rfl,y⟩
  ·have e:n=k:=by omega
   subst e;have la:=eh q.out;have R:Hid ((if aJ (fun p=>aQ f p p) n≠-1 then ((3:Int),aJ (fun p=>aQ f p p) n) else if bz 0 (aB f n)≠-1 then (4,bz 0 (aB f n)) else if aR f (aB f n)≠-1 then (5,aR f (aB f n)) else (0,0))=(c1,c2)):=by have:=QM.out;rw[a8 (by rw[la];simp)] at this;exact this
   have ex:=ae la;clear QM la q;go_wp2;clear l hk k1;generalize wr=W2 at M B ⊢;have k1:=(M.cell (p:=(J w.heap.size 0 Y)) QL).trans k0;have n8:w.heap.size<W2.heap.size:=ll QL M.size;go_loopw [6] (fun i wr=>∃ k:Nat,k<=n/\i=Q I k/\Hid (∀ j,j<k->aQ f j j=QC)/\Hid (Below W2.heap.size W2 wr)) (fun i _=>n - (intOf i).toNat);case atStart=>exact⟨0,by omega,rfl,fun j t=>absurd t (CV _),eI _ _⟩
   case round =>
    obtain⟨k,hk,rfl,q,QJ⟩:=hrel;by_cases l:k<n
    ·go_wp2
     generalize wr=W3 at QJ ⊢;go_loopw [7] (fun i wr=>∃ m:Nat,m<=k/\i=Q I m/\Hid (aQ f k m=QC)/\Hid (Below W2.heap.size W2 wr)) (fun i _=>k - (intOf i).toNat);case atStart=>exact⟨0,by omega,rfl,rfl,QJ⟩
     case round =>
      obtain⟨m,hm,rfl,HN,S⟩:=hrel;have k2:=(S.cell (p:=(J w.heap.size 0 Y)) n8).trans k1;have y:=ae (B.trans (S.mono B.size));by_cases ur:m<k
      ·have d0:=((HR.below y lr).2 m (by omega)).1
       have d1:=((HR.below y lr).2 k l).1;have hm0:(0:Int)<=m:=by omega
       have hmn:(m:Int)<n:=by omega
       have Bk:(0:Int)<=k:=by omega
       have hkn:(k:Int)<n:=by omega
       cases hq:((f m).name.toList == (f k).name.toList) with
       | true =>
        have mv:aQ f k k=D:=Eg ur (by rw[aQ,hq];simp);have u:=iy (g:=fun p=>aQ f p p) l mv q;have d:c1=3/\c2=(k:Int):=by have:=R.out;rw[eT (by rw[u];omega),u] at this;simp only[C9] at this;omega
        obtain⟨d,A⟩:=d;clear R u mv;subst d A;go_wp2_with fail;go_quiet (fail);have G2:=ae (xT y nq);go_wp2;go_ret2;exact⟨rfl,G2⟩
       | false =>
        have DA:Hid (aQ f k (m+1)=QC):=by show aQ f k (m+1)=QC;rw[aQ,HN.out,hq];rfl
        go_wp2_with fail;go_quiet (fail);have H5:=ae (xT S nq);go_wp2;exact⟨⟨m+1,by omega,by go_num,DA,H5⟩,by simp[intOf];omega⟩
      ·have e:m=k:=by omega
       subst e;go_wp2
       exact⟨⟨m+1,by omega,by go_num,fun j t=>by
        by_cases e:j=m
        ·subst e;exact HN
        ·exact q j (by omega),S⟩,by simp[intOf];omega⟩
    ·have e:n=k:=by omega
     subst e;have n6:=eh (g:=fun p=>aQ f p p) q;have QQ:Hid ((if bz 0 (aB f n)≠-1 then ((4:Int),bz 0 (aB f n)) else if aR f (aB f n)≠-1 then (5,aR f (aB f n)) else (0,0))=(c1,c2)):=by have:=R.out;rw[a8 (by rw[n6];simp)] at this;exact this
     clear R n6 q;have k2:=(QJ.cell (p:=(J w.heap.size 0 Y)) n8).trans k1;have y:=ae (B.trans (QJ.mono B.size));have n9:=ae (jD (iT ex) (n:=n) (by omega));have hn1:1<=n:=by omega
     go_wp2_with fail;refine(tY b off n s f _ (iT ex) hn1 th (HR.below y lr) (nh ex)).mono ?_;rintro e w5 ⟨H,ov,rfl,ld,At,QG,n7,QH⟩;have G5:=ae (y.trans (QH.mono y.size));obtain⟨o,ho⟩:=lU (f:=f) hn1;have ro:0<(aB f n).length:=by rw[ho];simp
     have O:=ae (fun h=>se (f:=f) hn1 h);clear ho o;obtain⟨L,hL⟩:∃ L,L=aB f n:=⟨_,rfl⟩
     rw[<-hL] at QG n7 ro QQ n9 O;clear hL;obtain⟨g,oc,rfl⟩:∃ g c,ov=Z (N (J g 0 Y)) L.length c:=by
      rcases QG.2 with ⟨_,h2⟩ | ⟨g,c,cur,h1,_⟩
      ·omega
      ·exact⟨g,c,h1⟩
     have sm:Hid (∀ j (h:j<L.length),w5.cell? (J g j Y)=N (Q I ((L[j]).1:Int))/\g<w5.heap.size):=by intro j t;have h1:=QG.cells (g:=g) rfl j (Q I ((L[j]).1:Int)) (by rw[IE,gq t];rfl);rw[ye,DC] at h1;exact⟨h1,(QG.lt g rfl).2⟩
     have hll:=n9.out;clear QG QH k2;go_wp2;go_loopw [9] (fun i wr=>∃ k:Nat,k<=n/\i=Q I k/\Hid (∀ j,j<k->∃ h:j<L.length,(L[j]).1=j)/\Hid (Below w5.heap.size w5 wr)) (fun i _=>n - (intOf i).toNat);case atStart=>exact⟨0,by omega,rfl,fun j t=>absurd t (CV _),eI _ _⟩
     case round =>
      obtain⟨k,hk,rfl,q,C⟩:=hrel;have A:=(C.cell (p:=(J H 2 Y)) ld).trans At;have e3:=(C.cell (p:=(J H 3 Y)) ld).trans n7;have G6:=ae (G5.trans (C.mono G5.size));by_cases l:k<n
      ·by_cases bt:k<L.length
       ·obtain⟨q1,q2⟩:=sm.out k bt
        have d0:=(C.cell (p:=(J g k Y)) q2).trans q1;have hkl':(k:Int)<(L.length:Int):=by omega
        have hno:decide ((L.length:Int)<=(k:Int))=D:=by simp;omega
        have hno':decide (L.length<=k)=D:=by simp;omega
        have Bk:(0:Int)<=k:=by omega
        obtain⟨z,hz⟩:∃ z,z=(L[k]).1:=⟨_,rfl⟩
        rw[<-hz] at d0;have QK:=ae hz;clear q1 q2 hz;by_cases x:(z:Int)=(k:Int)
        ·have HN:Hid (∀ j,j<k+1->∃ h:j<L.length,(L[j]).1=j):=fun j t=>by
          by_cases e:j=k
          ·subst e
           exact⟨bt,by rw[<-QK.out];omega⟩
          ·exact q j (by omega)
         obtain rfl:z=k:=by omega
         clear x QK;go_wp2;exact⟨⟨z+1,by omega,by go_num,HN,C⟩,by simp[intOf];omega⟩
        ·have r:bz 0 L=(k:Int):=by
          have:=Ad (L:=L) (i:=0) (j:=k) bt (fun m hm=>by obtain⟨h,e⟩:=q.out m hm;omega) (by rw[<-QK.out];omega);simpa using this
         have d:c1=4/\c2=(k:Int):=by have:=QQ.out;rw[eT (by rw[r];omega),r] at this;simp only[C9] at this;omega
         have hne:((z:Int) != (k:Int))=QC:=by simpa using x
         obtain⟨d,G⟩:=d;clear QQ r QK;subst d G;go_wp2;go_ret2;exact⟨rfl,G6⟩
       ·have:=O.out fun j t=>by obtain⟨h,e⟩:=q.out j (by omega);exact e
        omega
      ·have e:n=k:=by omega
       subst e;have QO:∀ j (h:j<L.length),(L[j]).1=0+j:=fun j t=>by obtain⟨h,e⟩:=q.out j (by omega);omega
       have r:=yd QO;rw[lT QO] at e3;have QP:Hid ((if aR f L≠-1 then ((5:Int),aR f L) else (0,0))=(c1,c2)):=by have:=QQ.out;rw[a8 (by rw[r];simp)] at this;exact this
       have P:=pQ f L;generalize aR f L=X at e3 QP P;have qr:=ae P;clear QQ r QO P A;by_cases x:X=-1
       ·have d:c1=0/\c2=0:=by
         have:=QP.out;rw[a8 (by rw[x];simp)] at this;simp only[C9] at this;omega
        obtain⟨d,G⟩:=d;have K:decide (0<=X)=D:=by rw[x];rfl
        clear QP x;subst d G;go_wp2;go_ret2;exact⟨rfl,G6⟩
       ·have d:c1=5/\c2=X:=by
         have:=QP.out;rw[eT x] at this;simp only[C9] at this;omega
        have P:0<=X:=qr.resolve_left x;obtain⟨d,G⟩:=d;clear QP x qr;subst d G;go_wp2_with fail;go_quiet (fail);have G7:=ae (xT G6 nq);go_wp2;go_ret2;exact⟨rfl,G7⟩
theorem Af (a:Option Addr)(n b:Nat)(f:Nat->aj)(w:E)(x:(n:Int)<=1048576)(p:SlDeed w a n f)(g:∀ i,i<n->cY (f i))(h:∀ i,i<n->gV (f i)):Calls Tryz.prog 107 #[QE #[Z a n b]] w fun e s=>e=QD (QA (aX f n))/\Below w.heap.size w s:=by
 have q:=ae p;have t:=ae g;have u:=ae h;clear p g h;have l:=ae ((Qs w).alloc lr (T #[Z a n b] 50));obtain⟨r,k⟩:∃ r,r=aX f n:=⟨_,rfl⟩
 rw[<-k];have j:=ae (show r=decide ((dr f n).1=0) from k);clear k;go_enter Tryz.func107,Tryz.ntmps107;go_wp2_with fail;refine(tZ a n b f _ x (q.below l lr) t u).mono ?_;rintro e w1 ⟨rfl,o⟩;have m:=ae (l.trans (o.mono l.size));clear o;generalize (dr f n).1=c at j ⊢;generalize (dr f n).2=d;cases r with
 | true =>obtain rfl:c=0:=IW j.symm;go_wp2;go_ret;exact⟨rfl,m⟩
 | false =>
  have hc:(c == 0)=D:=by have:¬ c=0:=LK j.symm;simpa using this
  go_wp2;go_ret;exact⟨rfl,m⟩
end Go.Proofs.YtkdimgejdocbbaaGreatDoor.Vp
