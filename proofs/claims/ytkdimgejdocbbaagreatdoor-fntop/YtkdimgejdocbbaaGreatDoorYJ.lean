import Derived.Test.YtkdimgejdocbbaaGreatDoorYE
import Derived.Test.YtkdimgejdocbbaaGreatDoorZN
set_option maxRecDepth 100000
set_option maxHeartbeats 8000000
set_option linter.unusedSimpArgs false
open Go.Addr renaming mk->J
open Go.Value renaming slice->Y,string->U,int->N,bool->QA,agg->QE
open Option renaming none->Z,some->Q
open Go.Obj renaming cells->T
open Go.IntKind renaming i64->I
open Go renaming World->E,Value->QB
open Bool renaming false->D,true->QC
open Go.Ending renaming returned->QD
namespace Go.Proofs.YtkdimgejdocbbaaGreatDoor.Vp
open RowKit
theorem iY (a:Option Addr)(n b:Nat)(f:Nat->aj)(w:E)(t:(n:Int)<=1048576)(q:SlDeed w a n f)(j:(n:Int)<=b)(g:∀ i,i<n->cY (f i))(s:Tab w):Calls Tryz.prog 104 #[QE #[Y a n b]] w fun e u=>e=QD (QA (aX f n))/\Below w.heap.size w u:=by
 have y:=ae q;have x:=ae g;have m:=ae s;clear q g s;have h:=ae ((Qs w).alloc lr (T #[Y a n b] 50));obtain⟨r,k⟩:∃ r,r=aX f n:=⟨_,rfl⟩
 rw[<-k];have l:=ae (show r=decide ((dr f n).1=0) from k);clear k;go_enter Tryz.func104,Tryz.ntmps104;go_wp2_with fail;refine(tV a n b f _ t (y.below h lr) j x (m.below h m.1)).mono ?_;rintro e w1 ⟨rfl,p⟩;have o:=ae (h.trans (p.mono h.size));clear p;generalize (dr f n).1=c at l ⊢;generalize (dr f n).2=d;cases r with
 | true =>obtain rfl:c=0:=IU l.symm;go_wp2;go_ret;exact⟨rfl,o⟩
 | false =>
  have hc:(c == 0)=D:=by have:¬ c=0:=LH l.symm;simpa using this
  go_wp2;go_ret;exact⟨rfl,o⟩
theorem CF:(Tryz.prog.info? 3).map (fun i=>(i.zero,i.size,i.bytes))=Q (Q (N I 0),1,8):=by kernel_rfl
theorem SixB.blk {w w':E}{b:Nat}{i f j g d k:QB}(h:SixB w b i f j g d k)(hz:w.heap.size<=w'.heap.size)(e:w'.heap[b]?=w.heap[b]?):SixB w' b i f j g d k :=
 have c:∀ o,w'.cell? (J b o Z)=w.cell? (J b o Z):=fun o=>cq (a:=(J b o Z)) e
 ⟨ll h.lt hz,(c 0).trans h.c0,(c 1).trans h.c1,(c 2).trans h.c2,(c 3).trans h.c3,(c 4).trans h.c4,(c 5).trans h.c5⟩
theorem TyAt.blk {w w':E}{g:Nat}{e:TypeId}(h:TyAt w g e)(hb:w'.heap[g]?=w.heap[g]?):TyAt w' g e:=by obtain⟨c,b⟩:=h;exact⟨c,hb.trans b⟩
theorem Kpt.grown {H M d n:Nat}{W j:E}{v:QB}{m:List QB}(o:W.ownsRow d 3 1 v n m)(h:W.grownBy j v.ownBlock):Kpt H M W j:=by
 refine⟨h.size,fun k e l p _ _=>?_⟩;obtain⟨c,b⟩:=l;refine h.block k (x4.1 b).1 (fun f=>?_);rcases o.2 with ⟨rfl,_⟩ | ⟨g,cap,cur,rfl,_,i,_⟩
 ·simp[Value.ownBlock] at f
 ·simp[Value.ownBlock] at f
  subst f;rw[i] at b;simp at b;exact p b.2.symm
theorem SLs.app {f W d:E}{n1 b off n g H M:Nat}{s:Nat->Bool}{t v:QB}{ord ord':List Nat}{k:Int}(h:SLs f W n1 b off n g H M s t ord k)(hz:W.heap.size<=d.heap.size)(m:d.heap[H]?=W.heap[H]?)(l:d.heap[M]?=W.heap[M]?)(r:Below f.heap.size f d)(j:d.ownsRow n1 3 1 v ord'.length (ord'.map fun q:Nat=>Value.int I (q:Int))):SLs f (d.setCell (J H 2 Z) v) n1 b off n g H M s v ord' k:=by
 have c:∀ o,d.cell? (J H o Z)=W.cell? (J H o Z):=fun o=>cq (a:=(J H o Z)) m;have z:∀ o,d.frozen? (J H o Z)=W.frozen? (J H o Z):=fun o=>DC (a:=(J H o Z)) m;have i:∀ o,o≠2->(d.setCell (J H 2 Z) v).cell? (J H o Z)=d.cell? (J H o Z):=fun o j=>sq _ _ _ _ (by first | (simp;done) | (simp;exact fun e=>j e.symm) | (simp;omega));refine⟨(i 0 (by omega)).trans ((c 0).trans h.c0),(i 1 (by omega)).trans ((c 1).trans h.c1),⟨AI _ _ _ (by rw[c 2,h.c2.1];rfl),?_⟩,⟨(i 3 (by omega)).trans ((c 3).trans h.c3.1),?_⟩,fun q p=>⟨(sq _ _ _ _ (by first | (simp;done) | (simp;exact fun e=>absurd e.symm h.ne) | (simp;exact fun e=>absurd e h.ne) | (simp;omega))).trans ((cq (a:=(J M q Z)) l).trans (h.row q p).1),?_⟩,mY j h.hH.2 _,r.setCell h.hH.1 _,h.hH,h.hM,h.ne,by have:=h.hz;simp;omega⟩
 ·rw[MG];exact(z 2).trans h.c2.2
 ·rw[MG];exact(z 3).trans h.c3.2
 ·rw[MG];exact(DC (a:=(J M q Z)) l).trans (h.row q p).2
theorem yc (u:E)(n1 b off n o H M:Nat)(f:Nat->aj)(hA:fK f n)(hn:(n:Int)<=400)(hf:RowDeed u b off n f)(hlk:∀ p,p<n->(f p).linksN<=200):∀ (k p d:Nat) (s:Nat->Bool) (S:QB) (ord:List Nat) (m:Int) (W:E),p<k->p<n->d+p<=1000->SLs u W n1 b off n o H M s S ord m->s p=D->ord.length+(lst f k p d s).2.length<=1000 ->
   Calls Tryz.prog 180 #[.pointer (Q (J H 0 Z)),N I (p:Int),N I (d:Int)] W fun e W'=>e=QD (.tuple #[])/\∃ B,SLs u W' n1 b off n o H M (lst f k p d s).1 B (ord++(lst f k p d s).2.map (fun z:Nat × Nat=>z.1)) (cH f m (lst f k p d s).2)/\Kpt H M W W':=by
 intro k;induction k with
 | zero=>intro p d s S ord m W h;omega
 | succ k ih =>
  intro p d s S ord m W hpk aq hdp hS hs hN;have HS:=ae hS;have HN:=ae hN;have FO:=ae ih;have HA:=ae hA;have HF:=ae hf;have HLK:=ae hlk;obtain⟨FM,Fo,FH,Fw,Fr⟩:=IQ CF;obtain⟨ph,sm,mv,th,⟨a0,r,ro,q4⟩,⟨a1,t,ur,q5⟩⟩:=hf.2 p aq;have QJ:=ae (hS.mark aq);have hb:=hf.1;obtain⟨x,hx⟩:∃ x,x=f p:=⟨_,rfl⟩
  rw[<-hx] at ph sm mv th ro ur q5;have hm2:x.linksN<=200:=by rw[hx];exact hlk p aq
  have HL:=ae q5;have HX:=ae hx;have p0:=(QJ.low.cell (p:=(J b (off+p*6) Z)) hb).trans ph;have p1:=(QJ.low.cell (p:=(J b (off+p*6+1) Z)) hb).trans sm;have p2:=(QJ.low.cell (p:=(J b (off+p*6+2) Z)) hb).trans mv;have p3:=(QJ.low.cell (p:=(J b (off+p*6+3) Z)) hb).trans th;have p4:=(QJ.low.cell (p:=(J b (off+p*6+4) Z)) hb).trans ro;have p5:=(QJ.low.cell (p:=(J b (off+p*6+5) Z)) hb).trans ur;obtain⟨K,hK⟩:∃ K,K=lks (lst f k) (f p) d s:=⟨_,rfl⟩
  have n9:Hid (lst f (k+1) p d s=(put (K x.linksN).1 p,(K x.linksN).2++[(p,d)])):=by rw[hK,hx];rfl
  have Fq:Hid (K 0=(s,[])):=by rw[hK];rfl
  have Fs:Hid (∀ j,K (j+1)=if (x.links j).ask=QC/\(K j).1 (x.links j).at_.toNat=D then ((lst f k (x.links j).at_.toNat (d+1) (K j).1).1,(K j).2++(lst f k (x.links j).at_.toNat (d+1) (K j).1).2) else K j):=fun j=>by rw[hK,hx];rfl
  have FK:Hid (∀ i,i<=x.linksN->(K i).2 <+: (K x.linksN).2):=fun i hi=>by rw[hK];exact oe hi
  have X:Hid (cI f m (p,d)=if x.kind=3/\60<=d/\(m<0∨(p:Int)<m) then (p:Int) else m):=by rw[hx];rfl
  have Fu:H<W.heap.size:=by have:=hS.hH;have:=hS.hz;omega
  have Fp:=hS.c1;obtain⟨FI,FN⟩:=hS.row p aq;have FP:=QJ.c0;have hp0:(0:Int)<=p:=by omega
  have hpn':(p:Int)<n:=by omega
  have QM:=ae (QJ.below (br.alloc lr (T #[U x.name,N I x.kind,N I x.code,U x.text,Y a0 x.actN r,Y a1 x.linksN t] 58)));have P:=ae (j9 (W.setCell (J M p Z) (QA QC)) (U x.name) (N I x.kind) (N I x.code) (U x.text) (Y a0 x.actN r) (Y a1 x.linksN t) 58);have QK:Hid (TyAt ((W.setCell (J M p Z) (QA QC)).alloc (T #[U x.name,N I x.kind,N I x.code,U x.text,Y a0 x.actN r,Y a1 x.linksN t] 58)) (W.setCell (J M p Z) (QA QC)).heap.size 58):=⟨_,eL _ _⟩
  have QQ:=ae ((Kpt.setCell (H:=H) (M:=M) (j:=p) W M (.inr rfl) (QA QC)).trans (Kpt.of_below (br.alloc lr (T #[U x.name,N I x.kind,N I x.code,U x.text,Y a0 x.actN r,Y a1 x.linksN t] 58))));have Fh:(W.setCell (J M p Z) (QA QC)).heap.size=W.heap.size:=by simp
  rw[Fh] at P QK;clear hS hN ih hA hf hlk q4 q5 hx hK ph sm mv th ro ur hs Fh QJ;go_enter Tryz.func180,Tryz.ntmps180;go_upto_region 2 with fail;generalize (W.setCell (J M p Z) (QA QC)).alloc (T #[U x.name,N I x.kind,N I x.code,U x.text,Y a0 x.actN r,Y a1 x.linksN t] 58)=W2 at QM P QK QQ ⊢;clear p0 p1 p2 p3 p4 p5 Fp FI FN FP;obtain⟨td,QG⟩:∃ td,td=decide (x.kind=3/\60<=d):=⟨_,rfl⟩
  have HD:=ae QG;clear QG;have c1:=P.c1;go_cut [28] (fun Fz wx=>Fz=QA td/\wx=W2);case first =>
   cases L:(x.kind == 3) with
   | false =>
    obtain rfl:td=D:=by rw[HD.out];simp at L;simp[L]
    go_wp2;go_meet;exact⟨rfl,rfl⟩
   | true =>
    by_cases h6:(60:Int)<=(d:Int)
    ·obtain rfl:td=QC:=by rw[HD.out];simp at L;simp[L];omega
     go_wp2;go_meet;exact⟨by first | rfl | (simp;done) | (simp;omega),rfl⟩
    ·obtain rfl:td=D:=by rw[HD.out];simp;omega
     go_wp2;go_meet;exact⟨by first | rfl | (simp;done) | (simp;omega),rfl⟩
  case rest =>
  obtain⟨rfl,rfl⟩:=hcut;clear c1;have hHD:H<W.heap.size:=Fu;go_upto_if 28 with fail;go_cut [] (fun wx=>Hid (SLs u wx n1 b off n o H M (put s p) S ord (cI f m (p,d)))/\Hid (SixB wx W.heap.size (U x.name) (N I x.kind) (N I x.code) (U x.text) (Y a0 x.actN r) (Y a1 x.linksN t))/\Hid (TyAt wx W.heap.size 58)/\Hid (Kpt H M W wx));case first =>
   cases td with
   | false =>
    have QN:cI f m (p,d)=m:=by rw[X.out,a8 (fun h=>by have:=HD.out;simp at this;have:=this h.1;omega)]
    have l:Hid (SLs u wc n1 b off n o H M (put s p) S ord (cI f m (p,d))):=by show SLs _ _ _ _ _ _ _ _ _ _ _ _ _;rw[QN];exact QM
    clear QN;go_wp2;go_meet;exact⟨l,P,QK,QQ⟩
   | true =>
    have QG:x.kind=3/\60<=d:=by have:=HD.out;simpa using this
    obtain⟨e3,z3⟩:=QM.c3;have V:=ae QG;clear QG;have e4:(wc.setCell (J H 3 Z) (N I (p:Int))).heap[W.heap.size]?=wc.heap[W.heap.size]?:=qh _ _ _ _ (by show W.heap.size≠H;omega);have SP:=ae (QM.deep (p:Int));have DP:=ae (P.blk (w':=wc.setCell (J H 3 Z) (N I (p:Int))) (by simp) e4);have YP:=ae (QK.blk e4);have Bk:=ae (QQ.trans (Kpt.setCell (H:=H) (M:=M) (j:=3) wc H (.inl rfl) (N I (p:Int))));clear e4;by_cases g1:m<0
    ·have QN:cI f m (p,d)=(p:Int):=by rw[X.out,eT ⟨V.1,V.2,.inl g1⟩]
     have l:Hid (SLs u (wc.setCell (J H 3 Z) (N I (p:Int))) n1 b off n o H M (put s p) S ord (cI f m (p,d))):=by show SLs _ _ _ _ _ _ _ _ _ _ _ _ _;rw[QN];exact SP
     clear QN;go_wp2;go_meet;exact⟨l,DP,YP,Bk⟩
    ·by_cases g2:(p:Int)<m
     ·have QN:cI f m (p,d)=(p:Int):=by rw[X.out,eT ⟨V.1,V.2,.inr g2⟩]
      have l:Hid (SLs u (wc.setCell (J H 3 Z) (N I (p:Int))) n1 b off n o H M (put s p) S ord (cI f m (p,d))):=by show SLs _ _ _ _ _ _ _ _ _ _ _ _ _;rw[QN];exact SP
      clear QN;go_wp2;go_meet;exact⟨l,DP,YP,Bk⟩
     ·have QN:cI f m (p,d)=m:=by rw[X.out,a8 (fun h=>by have:=h.2.2;omega)]
      have l:Hid (SLs u wc n1 b off n o H M (put s p) S ord (cI f m (p,d))):=by show SLs _ _ _ _ _ _ _ _ _ _ _ _ _;rw[QN];exact QM
      clear QN;go_wp2;go_meet;exact⟨l,P,QK,QQ⟩
  case rest =>
  clear QM P QK QQ;obtain⟨QM,P,QK,QQ⟩:=hcut;obtain⟨C,ex⟩:∃ C,C=cI f m (p,d):=⟨_,rfl⟩
  rw[<-ex] at QM;have Fl:=ae ex;clear ex X;have Fx:Hid (C=cI f m (p,d)):=Fl.out;go_wp2;go_loopw [7] (fun i wr=>∃ (j:Nat) (B:QB),j<=x.linksN/\i=N I j/\Hid (SLs u wr n1 b off n o H M (put (K j).1 p) B (ord++(K j).2.map (fun z:Nat × Nat=>z.1)) (cH f C (K j).2))/\Hid (SixB wr W.heap.size (U x.name) (N I x.kind) (N I x.code) (U x.text) (Y a0 x.actN r) (Y a1 x.linksN t))/\Hid (TyAt wr W.heap.size 58)/\Hid (Kpt H M W wr)) (fun i _=>x.linksN - (intOf i).toNat);case atStart=>exact⟨0,S,by omega,rfl,by rw[Fq.out];simp only[LQ,MZ,cH];exact QM,P,QK,QQ⟩
  case round =>
   clear QM P QK QQ;obtain⟨j,B,hj,rfl,l,D3,Y3,fd⟩:=hrel;have e5:=D3.c5;have QL:W.heap.size<wr.heap.size:=D3.lt;by_cases DA:j<x.linksN
   ·obtain⟨lb,lo,rfl,n7⟩:=(HL.below l.low lr).resolve_left (by omega)
    obtain⟨l0,l1,l2,l3⟩:=n7.2 j DA;have ld:=Fs.out j;have n6:(x.links j).ask=QC->(x.links j).at_.toNat<p/\0<=(x.links j).at_:=fun h=>by have:=HA.out p aq j (by rw[<-HX.out];exact DA);rw[<-HX.out] at this;exact this h
    generalize x.links j=y at l0 l1 l2 l3 ld n6;have At:=ae ld;have DE:=ae n6;clear ld n6 l0 l2 n7;cases hask:y.ask with
    | false =>
     rw[hask] at l1;have A:K (j+1)=K j:=by rw[At.out,a8 (by rw[hask];simp)]
     have QH:=ae A;clear A;go_wp2_with fail;go_quiet (fail);have QP:=ae (wC (Qs wr) nq);have S4:=ae (l.below QP);have D4:=ae (D3.blk QP.size (QP.block _ QL));have Y4:=ae (Y3.blk (QP.block _ QL));have R:=ae (fd.trans (Kpt.of_below QP));go_wp2;exact⟨⟨j+1,B,by omega,by go_num,by rw[QH.out];exact S4,D4,Y4,R⟩,by simp[intOf];omega⟩
    | true =>
     rw[hask] at l1;obtain⟨q,hq⟩:∃ q:Nat,y.at_=(q:Int):=⟨y.at_.toNat,by have:=(DE hask).2;omega⟩
     have FC:q<p:=by have:=(DE hask).1;rw[hq] at this;simpa using this
     rw[hq] at l3;have f1:=l.c1;obtain⟨f2,_⟩:=l.row q (by omega);have n8:put (K j).1 p q=(K j).1 q:=by simp[put];omega
     rw[n8] at f2;have hq0:(0:Int)<=q:=by omega
     have hqn:(q:Int)<n:=by omega
     have Fm:=ae n8;clear n8;cases hl:(K j).1 q with
     | true =>
      rw[hl] at f2;have A:K (j+1)=K j:=by rw[At.out,a8 (by rw[hq];simp[hl])]
      have QH:=ae A;clear A;go_wp2_with fail;go_quiet (fail);have QP:=ae (wC (Qs wr) nq);have S4:=ae (l.below QP);have D4:=ae (D3.blk QP.size (QP.block _ QL));have Y4:=ae (Y3.blk (QP.block _ QL));have R:=ae (fd.trans (Kpt.of_below QP));go_wp2;exact⟨⟨j+1,B,by omega,by go_num,by rw[QH.out];exact S4,D4,Y4,R⟩,by simp[intOf];omega⟩
     | false =>
      rw[hl] at f2;have A:K (j+1)=((lst f k q (d+1) (K j).1).1,(K j).2++(lst f k q (d+1) (K j).1).2):=by rw[At.out,eT ⟨hask,by rw[hq];simpa using hl⟩,hq];simp
      have QH:=ae A;have qr:=FK.out (j+1) (by omega);rw[A] at qr;have FA:=ae qr;have FG:=ae hl;clear A qr;have la:((d+1:Nat):Int)=(d:Int)+1:=by omega
      have HC:Hid (∀ W5,SLs u W5 n1 b off n o H M (put (K j).1 p) B (ord++(K j).2.map (fun z:Nat × Nat=>z.1)) (cH f C (K j).2)->Calls Tryz.prog 180 #[.pointer (Q (J H 0 Z)),N I (q:Int),N I ((d:Int)+1)] W5 fun e W'=>e=QD (.tuple #[])/\∃ QO,SLs u W' n1 b off n o H M (put (K (j+1)).1 p) QO (ord++(K (j+1)).2.map (fun z:Nat × Nat=>z.1)) (cH f C (K (j+1)).2)/\Kpt H M W5 W'):=by
       intro W5 h5;have Fd:=uC HA.out k q (d+1) (K j).1 p (by omega) FC;have Fj:(ord++(K j).2.map (fun z:Nat × Nat=>z.1)).length+(lst f k q (d+1) (put (K j).1 p)).2.length<=1000:=by rw[Fd];have L:=HN.out;rw[n9.out] at L;have h4:=FA.length_le;simp only[cM,o3,ES,IZ] at L h4 ⊢;omega
       have h:=FO.out q (d+1) (put (K j).1 p) B (ord++(K j).2.map (fun z:Nat × Nat=>z.1)) (cH f C (K j).2) W5 (by omega) (by omega) (by omega) h5 (Fm.trans FG) Fj;rw[la,Fd] at h;refine h.mono fun e W' h=>?_;obtain⟨he,QO,hs,hk⟩:=h;refine⟨he,QO,?_,hk⟩;rw[QH.out];simp only[E2,ly,<-IA];exact hs
      clear la;go_wp2_with fail;go_quiet (fail);have QP:=ae (wC (Qs wr) nq);have S4:=ae (l.below QP);have D4:=ae (D3.blk QP.size (QP.block _ QL));have Y4:=ae (Y3.blk (QP.block _ QL));have R:=ae (fd.trans (Kpt.of_below QP));have g5:=D4.c5;have DQ:=(QP.cell (p:=(J lb (lo+j*4+3) Z)) (by have:=(HL.below l.low lr);rcases this with h | ⟨b',o',hv,hr⟩;(omega);(cases hv;exact hr.1))).trans l3;clear e5 f1 f2 l1 l3;generalize wr.drewN nq=W5 at S4 D4 Y4 R g5 DQ ⊢;go_wp2_with fail;refine(HC W5 S4).mono ?_;rintro e W6 ⟨rfl,QO,hs,hk⟩;have S5:=ae hs;have eD:=hk.keep W.heap.size _ Y4.out (by decide) (by omega) (by have:=HS.hM;have:=HS.hz;omega);have D5:=ae (D4.blk hk.size eD);have Y5:=ae (Y4.blk eD);have FF:=ae (R.trans hk);clear hs hk eD g5 DQ;go_wp2;exact⟨⟨j+1,QO,by omega,by go_num,S5,D5,Y5,FF⟩,by simp[intOf];omega⟩
   ·have e:j=x.linksN:=by omega
    subst e;obtain⟨f2,z2⟩:=l.c2;obtain⟨oa,oc,rfl⟩:∃ a c,B=Y a (ord++(K x.linksN).2.map (fun z:Nat × Nat=>z.1)).length c:=by
     rcases l.ord.2 with ⟨h1,h2⟩ | ⟨g,c,Ft,h1,_⟩
     ·exact⟨Z,0,by rw[h1,h2]⟩
     ·exact⟨_,_,h1⟩
    have Fy:(ord++(K x.linksN).2.map (fun z:Nat × Nat=>z.1)).length<=1000:=by have L:=HN.out;rw[n9.out] at L;simp only[cM,o3,ES,IZ] at L ⊢;omega
    generalize hO:ord++(K x.linksN).2.map (fun z:Nat × Nat=>z.1)=O at l f2 Fy ⊢;have HO:=ae hO;clear hO;have Fv:H<wr.heap.size:=by have:=l.hH;have:=l.hz;omega
    have FJ:M<wr.heap.size:=by have:=l.hM;have:=l.hz;omega
    go_wp2_with (at_builtin;refine CL _ rfl (.tmp 88) (.tmp 90) 156 rfl n1 3 FM (N I 0) 1 8 Tryz.underlying156 Fo FH Fw Fr rfl (by decide) _ O.length (O.map fun q:Nat=>Value.int I (q:Int)) (by simp[Act.eval]) (l.ord.alloc _) (J wr.heap.size 0 Z) 1 1 [N I (p:Int)] (by simp[Act.eval]) rfl (cell_one_new _ _ _) (by simp[Value.oneCell']) (by unfold maxLen;omega) (by omega) (by have:=l.hz;simp;omega) ?_;intro vy wy bt G Fk;have OW:Hid (wy.ownsRow n1 3 1 vy (O++[p]).length ((O++[p]).map fun q:Nat=>Value.int I (q:Int))):=(by show World.ownsRow _ _ _ _ _ _ _;rw[cM,E2];exact bt);have GR:=ae G;have eH:wy.heap[H]?=wr.heap[H]?:=(G.block H (by simp;omega) (fun e=>by have:=(l.ord.lt H e.symm).1;have:=l.hH.2;omega)).trans (((Qs wr).alloc lr _).block _ Fv);have eM:wy.heap[M]?=wr.heap[M]?:=(G.block M (by simp;omega) (fun e=>by have:=(l.ord.lt M e.symm).1;have:=l.hM.2;omega)).trans (((Qs wr).alloc lr _).block _ FJ);have g2:=(cq (a:=(J H 2 Z)) eH).trans f2;have y2:=(DC (a:=(J H 2 Z)) eH).trans z2;obtain⟨gs,cs,rfl⟩:∃ g c,vy=Y (Q (J g 0 Z)) (O.length+1) c:=(by rcases bt.2 with ⟨_,h2⟩ | ⟨g,c,Ft,h1,_⟩;(omega);exact⟨g,c,h1⟩);have EH:=ae eH;have EM:=ae eM;clear bt G Fk eH eM);have AL:=(Qs wr).alloc lr (T #[N I (p:Int)] 3);have FE:wr.heap.size<=wy.heap.size:=j5 AL.size GR.size;have Fi:Below u.heap.size u wy:=bg (l.low.alloc l.low.size (T #[N I (p:Int)] 3)) GR (by have:=l.low.size;simp;omega) (fun j e=>by have:=(l.ord.lt j e).1;have:=l.hH;omega);have F1:=l.app (v:=Y (Q (J gs 0 Z)) (O.length+1) cs) (ord':=O++[p]) FE EH EM Fi OW;have F2:=((fd.trans (Kpt.of_below AL)).trans (Kpt.grown (l.ord.alloc (T #[N I (p:Int)] 3)) GR)).trans (Kpt.setCell (H:=H) (M:=M) (j:=2) wy H (.inl rfl) (Y (Q (J gs 0 Z)) (O.length+1) cs));have FL:cH f m ((K x.linksN).2++[(p,d)])=cH f C (K x.linksN).2:=by rw[ly,Fx.out,tM];rfl
    have FD:ord++((K x.linksN).2++[(p,d)]).map (fun z:Nat × Nat=>z.1)=O++[p]:=by rw[E2,<-IA,HO.out];rfl
    go_end0;rw[n9.out];refine⟨rfl,Y (Q (J gs 0 Z)) (O.length+1) cs,?_,F2⟩;show SLs u _ n1 b off n o H M (put (K x.linksN).1 p) _ (ord++((K x.linksN).2++[(p,d)]).map (fun z:Nat × Nat=>z.1)) (cH f m ((K x.linksN).2++[(p,d)]));rw[FL,FD];exact F1
theorem yd {L:List (Nat × Nat)}:∀ {i:Nat},(∀ j (h:j<L.length),(L[j]).1=i+j)->bz i L=-1:=by
 induction L with
 | nil=>intro i _;rfl
 | cons x xs d =>intro i h;have b:=h 0 (by simp);simp at b;rw[bz,eT b];refine d fun j f=>?_;have:=h (j+1) (by simpa using f);simp at this;omega
theorem Ad {L:List (Nat × Nat)}:∀ {i j:Nat} (d:j<L.length),(∀ m (h:m<j),(L[m]).1=i+m)->(L[j]).1≠i+j->bz i L=((i+j:Nat):Int):=by
 induction L with
 | nil=>intro i j d;simp at d
 | cons x xs g =>
  intro i j d h b;cases j with
  | zero =>simp at b;rw[bz,a8 b];simp
  | succ j =>
   have f:=h 0 (by omega);simp at f;rw[bz,eT f,g (i:=i+1) (j:=j) (by simpa using d) (fun m hm=>?_) (by simpa[LE,Nat.add_comm 1 j] using b)]
   ·congr 1;omega
   ·have:=h (m+1) (by omega)
    simp at this;omega
theorem mL {f:Nat->aj}{d:Int}:∀ {L:List (Nat × Nat)},0<=d->(∀ x∈L,d<=(x.1:Int))->cH f d L=d
 | [],_,_=>rfl
 | x :: xs,h,hx=>by
  have h1:cI f d x=d:=by unfold cI;rw[a8 (fun h2=>by have:=hx x (by simp);omega)]
  rw[cH,h1];exact mL h fun y b=>hx y (by simp[b])
theorem lT {f:Nat->aj}:∀ {L:List (Nat × Nat)} {i:Nat},(∀ j (h:j<L.length),(L[j]).1=i+j)->cH f (-1) L=aR f L
 | [],_,_=>rfl
 | x :: xs,i,h=>by
  have l:=h 0 (by simp);simp at l;have g:∀ j (d:j<xs.length),(xs[j]).1=i+1+j:=fun j d=>by have:=h (j+1) (by simpa using d);simp at this;omega
  rw[cH,aR];by_cases b:(f x.1).kind=3/\60<=x.2
  ·have h1:cI f (-1) x=(x.1:Int):=by unfold cI;rw[eT ⟨b.1,b.2,.inl (by omega)⟩]
   rw[eT b,h1];refine mL (by omega) fun y k=>?_;obtain⟨j,d,rfl⟩:=J2 k;have:=g j d;omega
  ·have h1:cI f (-1) x=-1:=by unfold cI;rw[a8 (fun h2=>b ⟨h2.1,h2.2.1⟩)]
   rw[a8 b,h1];exact lT g
theorem lU {f:Nat->aj}{n:Nat}(hn:1<=n):∃ o,aB f n=o++[(n - 1,0)]:=by
 obtain⟨k,rfl⟩:∃ k,n=k+1:=⟨n - 1,by omega⟩
 exact⟨_,rfl⟩
theorem se {f:Nat->aj}{n:Nat}(d:1<=n)(h:∀ j (hj:j<(aB f n).length),((aB f n)[j]).1=j):(aB f n).length=n:=by
 obtain⟨o,b⟩:=lU (f:=f) d;have hl:(aB f n).length=o.length+1:=by rw[b];simp
 have:=h o.length (by omega);simp only[b] at this;simp at this;omega
theorem Eg {f:Nat->aj}{p k m:Nat}(hk:k<m)(h:aQ f p (k+1)=D):aQ f p m=D:=by
 induction m with
 | zero=>omega
 | succ j b =>
  by_cases e:k=j
  ·subst e;exact h
  ·rw[aQ,b (by omega)];rfl
structure EO (w:E)(b:Nat)(v0 v1 v2 v3:QB):Prop where
 c0:w.cell? (J b 0 Z)=Q v0
 c1:w.cell? (J b 1 Z)=Q v1
 c2:w.cell? (J b 2 Z)=Q v2
 c3:w.cell? (J b 3 Z)=Q v3
 z2:w.frozen? (J b 2 Z)=D
 z3:w.frozen? (J b 3 Z)=D
theorem Ae (w:E)(d g f b:QB)(t:TypeId):EO (w.alloc (T #[d,g,f,b] t)).drew w.heap.size d g f b:=⟨by simp,by simp,by simp,by simp,by simp,by simp⟩
theorem CG {w:E}{b off n d:Nat}:SLs w (((w.alloc (T #[Y (Q (J b off Z)) n d] 50)).alloc (T (bD n) 4)).alloc (T #[Y (Q (J b off Z)) n d,Y (Q (J (w.heap.size+1) 0 Z)) n n,Y Z 0 0,N I (-1)] 158)).drew (w.heap.size+1+1+1) b off n d (w.heap.size+1+1) (w.heap.size+1) (fun _=>D) (Y Z 0 0) [] (-1):=by
 have h:(w.alloc (T #[Y (Q (J b off Z)) n d] 50)).heap.size=w.heap.size+1:=by simp
 have i:((w.alloc (T #[Y (Q (J b off Z)) n d] 50)).alloc (T (bD n) 4)).heap.size=w.heap.size+1+1:=by simp
 have A:=(((Qs w).alloc lr (T #[Y (Q (J b off Z)) n d] 50)).alloc (by simp) (T (bD n) 4)).alloc (by simp;omega) (T #[Y (Q (J b off Z)) n d,Y (Q (J (w.heap.size+1) 0 Z)) n n,Y Z 0 0,N I (-1)] 158);have QQ:Below (w.heap.size+1+1) ((w.alloc (T #[Y (Q (J b off Z)) n d] 50)).alloc (T (bD n) 4)) (((w.alloc (T #[Y (Q (J b off Z)) n d] 50)).alloc (T (bD n) 4)).alloc (T #[Y (Q (J b off Z)) n d,Y (Q (J (w.heap.size+1) 0 Z)) n n,Y Z 0 0,N I (-1)] 158)).drew:=(br.alloc (by omega) _).drew;have hM:=fun q g=>og (w.alloc (T #[Y (Q (J b off Z)) n d] 50)) n q g;rw[h] at hM;have f:=Ae ((w.alloc (T #[Y (Q (J b off Z)) n d] 50)).alloc (T (bD n) 4)) (Y (Q (J b off Z)) n d) (Y (Q (J (w.heap.size+1) 0 Z)) n n) (Y Z 0 0) (N I (-1)) 158;rw[i] at f;refine⟨f.c0,f.c1,⟨f.c2,f.z2⟩,⟨f.c3,f.z3⟩,fun q g=>⟨(QQ.cell (p:=(J (w.heap.size+1) q Z)) (lj _)).trans (hM q g).1,(QQ.frozen (p:=(J (w.heap.size+1) q Z)) (lj _)).trans (hM q g).2⟩,E4 _ _ _ _,A.drew,by omega,by omega,by omega,?_⟩;simp
theorem tY (b off n d:Nat)(f:Nat->aj)(w:E)(l:fK f n)(hn1:1<=n)(s:(n:Int)<=400)(m:RowDeed w b off n f)(hlk:∀ p,p<n->(f p).linksN<=200):Calls Tryz.prog 110 #[QE #[Y (Q (J b off Z)) n d],N I ((n:Int) - 1)] w fun e g=>∃ H j,e=QD (.pointer (Q (J H 0 Z)))/\H<g.heap.size/\g.cell? (J H 2 Z)=Q j/\g.ownsRow w.heap.size 3 1 j (aB f n).length ((aB f n).map fun z:Nat × Nat=>Value.int I (z.1:Int))/\g.cell? (J H 3 Z)=Q (N I (cH f (-1) (aB f n)))/\Below w.heap.size w g:=by
 have x:(w.alloc (T #[Y (Q (J b off Z)) n d] 50)).cell? (J w.heap.size 0 Z)=Q (Y (Q (J b off Z)) n d):=by simp
 have r:=jD l hn1;have k:=yc w (w.heap.size+1+1+1) b off n d (w.heap.size+1+1) (w.heap.size+1) f l s m hlk n (n - 1) 0 (fun _=>D) (Y Z 0 0) [] (-1) _ (by omega) (by omega) (by omega) CG rfl (by have:=r;unfold aB at this;simp;omega);rw[show((n - 1:Nat):Int)=(n:Int) - 1 by omega] at k;have u:=ae k;have o:=fun w=>x7 n (by omega) w;clear k l m hlk;have HW:Hid (w.heap.size+1+1+1=(((w.alloc (T #[Y (Q (J b off Z)) n d] 50)).alloc (T (bD n) 4)).alloc (T #[Y (Q (J b off Z)) n d,Y (Q (J (w.heap.size+1) 0 Z)) n n,Y Z 0 0,N I (-1)] 158)).drew.heap.size):=by show _=_;simp
 go_enter Tryz.func110,Tryz.ntmps110;go_wp2_with fail;go_region_with fail;all_goals
  clear o x;go_wp2_with fail;refine u.mono ?_;rintro e w2 ⟨rfl,j,q,t⟩;have i:=ae q;clear q t;go_wp2;go_ret;refine⟨w.heap.size+1+1,j,rfl,?_,i.c2.1,?_,i.c3.1,i.low⟩
  ·have:=i.hz
   omega
  ·have h:=aI i.ord (base':=w.heap.size) (by omega)
   simp only[IM,List.map_map,IZ] at h;exact h
theorem ye (b o j:Nat):((J b o Z):Addr).add j=(J b (o+j) Z):=by unfold Addr.add;split<;>simp_all
theorem tZ (a:Option Addr)(n s:Nat)(f:Nat->aj)(w:E)(hn:(n:Int)<=1048576)(hv:SlDeed w a n f)(bt:∀ i,i<n->cY (f i))(n8:∀ i,i<n->gV (f i)):Calls Tryz.prog 34 #[QE #[Y a n s]] w fun e w'=>e=QD (.tuple #[N I (dr f n).1,N I (dr f n).2])/\Below w.heap.size w w':=by
 have HV:=ae hv;have HM:=ae bt;have HZ:=ae n8;clear hv bt n8;have A0:=ae ((Qs w).alloc lr (T #[Y a n s] 50));have k0:(w.alloc (T #[Y a n s] 50)).cell? (J w.heap.size 0 Z)=Q (Y a n s):=by simp
 obtain⟨c1,c2,QO⟩:∃ c1 c2,dr f n=(c1,c2):=⟨_,_,rfl⟩
 rw[QO];have V:=ae QO;clear QO;by_cases h0:(n:Int)<1
 ·have d:c1=1/\c2=0:=by have:=V.out;unfold dr at this;rw[eT (.inl (by omega))] at this;simp only[CV] at this;omega
  clear V;obtain⟨d,y⟩:=d;subst d y;go_enter Tryz.func34,Tryz.ntmps34;go_wp2;go_ret2;exact⟨rfl,A0⟩
 by_cases h4:(400:Int)<(n:Int)
 ·have d:c1=1/\c2=0:=by have:=V.out;unfold dr at this;rw[eT (.inr (by omega))] at this;simp only[CV] at this;omega
  clear V;obtain⟨d,y⟩:=d;subst d y;go_enter Tryz.func34,Tryz.ntmps34;go_wp2;go_ret2;exact⟨rfl,A0⟩
 have QL:Hid ((if aJ (bc f) n≠-1 then ((2:Int),aJ (bc f) n) else if aJ (fun p=>aQ f p p) n≠-1 then (3,aJ (fun p=>aQ f p p) n) else if bz 0 (aB f n)≠-1 then (4,bz 0 (aB f n)) else if aR f (aB f n)≠-1 then (5,aR f (aB f n)) else (0,0))=(c1,c2)):=by have:=V.out;unfold dr at this;rw[a8 (by omega)] at this;exact this
 clear V;obtain⟨b,off,rfl,fd⟩:=HV.resolve_left (by omega);have HR:=ae fd;clear HV fd;have ro:(n:Int)<=400:=by omega
 have S:w.heap.size<(w.alloc (T #[Y (Q (J b off Z)) n s] 50)).heap.size:=by simp
 go_enter Tryz.func34,Tryz.ntmps34;go_wp2;generalize w.alloc (T #[Y (Q (J b off Z)) n s] 50)=W at A0 k0 S ⊢;go_loopw [5] (fun i wr=>∃ k:Nat,k<=n/\i=N I k/\Hid (∀ j,j<k->bc f j=QC)/\Hid (Below W.heap.size W wr)) (fun i _=>n - (intOf i).toNat);case atStart=>exact⟨0,by omega,rfl,fun j t=>absurd t (CS _),eI _ _⟩
 case round =>
  obtain⟨k,hk,rfl,l,K⟩:=hrel;have k1:=(K.cell (p:=(J w.heap.size 0 Z)) S).trans k0;have G:=ae (A0.trans (K.mono A0.size));by_cases q:k<n
  ·go_wp2_with fail
   refine(ru b off n s k f _ q (HR.below G lr) (HM k q).1 (HZ k q).2.2.1.2).mono ?_;rintro e w2 ⟨he,QG⟩;have A:=ae (G.trans (QG.mono G.size));have H1:=ae (K.trans (QG.mono K.size));clear QG;cases M:bc f k with
   | true =>
    rw[M] at he;subst he;have HD:=ae M;clear M;go_wp2
    exact⟨⟨k+1,by omega,by go_num,fun j t=>by
     by_cases e:j=k
     ·subst e;exact HD
     ·exact l j (by omega),H1⟩,by simp[intOf];omega⟩
   | false =>
    rw[M] at he;subst he;have u:=iy q M l.out;have d:c1=2/\c2=(k:Int):=by have:=QL.out;rw[eT (by rw[u];omega),u] at this;simp only[CV] at this;omega
    obtain⟨d,y⟩:=d;clear QL u M;subst d y;go_wp2;go_ret2;exact⟨rfl,A⟩
  ·have e:n=k:=by omega
   subst e;have aq:=eh l.out;have QK:Hid ((if aJ (fun p=>aQ f p p) n≠-1 then ((3:Int),aJ (fun p=>aQ f p p) n) else if bz 0 (aB f n)≠-1 then (4,bz 0 (aB f n)) else if aR f (aB f n)≠-1 then (5,aR f (aB f n)) else (0,0))=(c1,c2)):=by have:=QL.out;rw[a8 (by rw[aq];simp)] at this;exact this
   have QH:=ae aq;clear QL aq l;go_wp2;clear q hk k1;generalize wr=W2 at K G ⊢;have k1:=(K.cell (p:=(J w.heap.size 0 Z)) S).trans k0;have ph:w.heap.size<W2.heap.size:=ll S K.size;go_loopw [6] (fun i wr=>∃ k:Nat,k<=n/\i=N I k/\Hid (∀ j,j<k->aQ f j j=QC)/\Hid (Below W2.heap.size W2 wr)) (fun i _=>n - (intOf i).toNat);case atStart=>exact⟨0,by omega,rfl,fun j t=>absurd t (CS _),eI _ _⟩
   case round =>
    obtain⟨k,hk,rfl,l,P⟩:=hrel;by_cases q:k<n
    ·go_wp2
     generalize wr=W3 at P ⊢;go_loopw [7] (fun i wr=>∃ m:Nat,m<=k/\i=N I m/\Hid (aQ f k m=QC)/\Hid (Below W2.heap.size W2 wr)) (fun i _=>k - (intOf i).toNat);case atStart=>exact⟨0,by omega,rfl,rfl,P⟩
     case round =>
      obtain⟨m,hm,rfl,HN,QJ⟩:=hrel;have k2:=(QJ.cell (p:=(J w.heap.size 0 Z)) ph).trans k1;have A:=ae (G.trans (QJ.mono G.size));by_cases ur:m<k
      ·have d0:=((HR.below A lr).2 m (by omega)).1
       have d1:=((HR.below A lr).2 k q).1;have hm0:(0:Int)<=m:=by omega
       have hmn:(m:Int)<n:=by omega
       have qr:(0:Int)<=k:=by omega
       have hkn:(k:Int)<n:=by omega
       cases hq:((f m).name.toList == (f k).name.toList) with
       | true =>
        have ld:aQ f k k=D:=Eg ur (by rw[aQ,hq];simp);have u:=iy (g:=fun p=>aQ f p p) q ld l;have d:c1=3/\c2=(k:Int):=by have:=QK.out;rw[eT (by rw[u];omega),u] at this;simp only[CV] at this;omega
        obtain⟨d,y⟩:=d;clear QK u ld;subst d y;go_wp2_with fail;go_quiet (fail);have G2:=ae (wC A nq);go_wp2;go_ret2;exact⟨rfl,G2⟩
       | false =>
        have Bk:Hid (aQ f k (m+1)=QC):=by show aQ f k (m+1)=QC;rw[aQ,HN.out,hq];rfl
        go_wp2_with fail;go_quiet (fail);have H5:=ae (wC QJ nq);go_wp2;exact⟨⟨m+1,by omega,by go_num,Bk,H5⟩,by simp[intOf];omega⟩
      ·have e:m=k:=by omega
       subst e;go_wp2
       exact⟨⟨m+1,by omega,by go_num,fun j t=>by
        by_cases e:j=m
        ·subst e;exact HN
        ·exact l j (by omega),QJ⟩,by simp[intOf];omega⟩
    ·have e:n=k:=by omega
     subst e;have n7:=eh (g:=fun p=>aQ f p p) l;have QQ:Hid ((if bz 0 (aB f n)≠-1 then ((4:Int),bz 0 (aB f n)) else if aR f (aB f n)≠-1 then (5,aR f (aB f n)) else (0,0))=(c1,c2)):=by have:=QK.out;rw[a8 (by rw[n7];simp)] at this;exact this
     clear QK n7 l;have k2:=(P.cell (p:=(J w.heap.size 0 Z)) ph).trans k1;have A:=ae (G.trans (P.mono G.size));have n9:=ae (jD (iT QH) (n:=n) (by omega));have hn1:1<=n:=by omega
     go_wp2_with fail;refine(tY b off n s f _ (iT QH) hn1 ro (HR.below A lr) (nh QH)).mono ?_;rintro e w5 ⟨H,ov,rfl,n6,At,hO,la,QG⟩;have G5:=ae (A.trans (QG.mono A.size));obtain⟨o,ho⟩:=lU (f:=f) hn1;have th:0<(aB f n).length:=by rw[ho];simp
     have QM:=ae (fun h=>se (f:=f) hn1 h);clear ho o;obtain⟨L,hL⟩:∃ L,L=aB f n:=⟨_,rfl⟩
     rw[<-hL] at hO la th QQ n9 QM;clear hL;obtain⟨g,oc,rfl⟩:∃ g c,ov=Y (Q (J g 0 Z)) L.length c:=by
      rcases hO.2 with ⟨_,h2⟩ | ⟨g,c,cur,h1,_⟩
      ·omega
      ·exact⟨g,c,h1⟩
     have sm:Hid (∀ j (h:j<L.length),w5.cell? (J g j Z)=Q (N I ((L[j]).1:Int))/\g<w5.heap.size):=by intro j t;have h1:=hO.cells (g:=g) rfl j (N I ((L[j]).1:Int)) (by rw[ID,gq t];rfl);rw[ye,C9] at h1;exact⟨h1,(hO.lt g rfl).2⟩
     have hll:=n9.out;clear hO QG k2;go_wp2;go_loopw [9] (fun i wr=>∃ k:Nat,k<=n/\i=N I k/\Hid (∀ j,j<k->∃ h:j<L.length,(L[j]).1=j)/\Hid (Below w5.heap.size w5 wr)) (fun i _=>n - (intOf i).toNat);case atStart=>exact⟨0,by omega,rfl,fun j t=>absurd t (CS _),eI _ _⟩
     case round =>
      obtain⟨k,hk,rfl,l,B⟩:=hrel;have y:=(B.cell (p:=(J H 2 Z)) n6).trans At;have e3:=(B.cell (p:=(J H 3 Z)) n6).trans la;have G6:=ae (G5.trans (B.mono G5.size));by_cases q:k<n
      ·by_cases ex:k<L.length
       ·obtain⟨q1,q2⟩:=sm.out k ex
        have d0:=(B.cell (p:=(J g k Z)) q2).trans q1;have hkl':(k:Int)<(L.length:Int):=by omega
        have hno:decide ((L.length:Int)<=(k:Int))=D:=by simp;omega
        have hno':decide (L.length<=k)=D:=by simp;omega
        have qr:(0:Int)<=k:=by omega
        obtain⟨z,hz⟩:∃ z,z=(L[k]).1:=⟨_,rfl⟩
        rw[<-hz] at d0;have R:=ae hz;clear q1 q2 hz;by_cases x:(z:Int)=(k:Int)
        ·have HN:Hid (∀ j,j<k+1->∃ h:j<L.length,(L[j]).1=j):=fun j t=>by
          by_cases e:j=k
          ·subst e
           exact⟨ex,by rw[<-R.out];omega⟩
          ·exact l j (by omega)
         obtain rfl:z=k:=by omega
         clear x R;go_wp2;exact⟨⟨z+1,by omega,by go_num,HN,B⟩,by simp[intOf];omega⟩
        ·have r:bz 0 L=(k:Int):=by
          have:=Ad (L:=L) (i:=0) (j:=k) ex (fun m hm=>by obtain⟨h,e⟩:=l.out m hm;omega) (by rw[<-R.out];omega);simpa using this
         have d:c1=4/\c2=(k:Int):=by have:=QQ.out;rw[eT (by rw[r];omega),r] at this;simp only[CV] at this;omega
         have hne:((z:Int) != (k:Int))=QC:=by simpa using x
         obtain⟨d,C⟩:=d;clear QQ r R;subst d C;go_wp2;go_ret2;exact⟨rfl,G6⟩
       ·have:=QM.out fun j t=>by obtain⟨h,e⟩:=l.out j (by omega);exact e
        omega
      ·have e:n=k:=by omega
       subst e;have QN:∀ j (h:j<L.length),(L[j]).1=0+j:=fun j t=>by obtain⟨h,e⟩:=l.out j (by omega);omega
       have r:=yd QN;rw[lT QN] at e3;have QP:Hid ((if aR f L≠-1 then ((5:Int),aR f L) else (0,0))=(c1,c2)):=by have:=QQ.out;rw[a8 (by rw[r];simp)] at this;exact this
       have O:=pQ f L;generalize aR f L=X at e3 QP O;have mv:=ae O;clear QQ r QN O y;by_cases x:X=-1
       ·have d:c1=0/\c2=0:=by
         have:=QP.out;rw[a8 (by rw[x];simp)] at this;simp only[CV] at this;omega
        obtain⟨d,C⟩:=d;have M:decide (0<=X)=D:=by rw[x];rfl
        clear QP x;subst d C;go_wp2;go_ret2;exact⟨rfl,G6⟩
       ·have d:c1=5/\c2=X:=by
         have:=QP.out;rw[eT x] at this;simp only[CV] at this;omega
        have O:0<=X:=mv.resolve_left x;obtain⟨d,C⟩:=d;clear QP x mv;subst d C;go_wp2_with fail;go_quiet (fail);have G7:=ae (wC G6 nq);go_wp2;go_ret2;exact⟨rfl,G7⟩
theorem Af (a:Option Addr)(n b:Nat)(f:Nat->aj)(w:E)(t:(n:Int)<=1048576)(p:SlDeed w a n f)(g:∀ i,i<n->cY (f i))(h:∀ i,i<n->gV (f i)):Calls Tryz.prog 107 #[QE #[Y a n b]] w fun e u=>e=QD (QA (aX f n))/\Below w.heap.size w u:=by
 have x:=ae p;have q:=ae g;have s:=ae h;clear p g h;have k:=ae ((Qs w).alloc lr (T #[Y a n b] 50));obtain⟨r,j⟩:∃ r,r=aX f n:=⟨_,rfl⟩
 rw[<-j];have l:=ae (show r=decide ((dr f n).1=0) from j);clear j;go_enter Tryz.func107,Tryz.ntmps107;go_wp2_with fail;refine(tZ a n b f _ t (x.below k lr) q s).mono ?_;rintro e w1 ⟨rfl,m⟩;have o:=ae (k.trans (m.mono k.size));clear m;generalize (dr f n).1=c at l ⊢;generalize (dr f n).2=d;cases r with
 | true =>obtain rfl:c=0:=IU l.symm;go_wp2;go_ret;exact⟨rfl,o⟩
 | false =>
  have hc:(c == 0)=D:=by have:¬ c=0:=LH l.symm;simpa using this
  go_wp2;go_ret;exact⟨rfl,o⟩
end Go.Proofs.YtkdimgejdocbbaaGreatDoor.Vp
