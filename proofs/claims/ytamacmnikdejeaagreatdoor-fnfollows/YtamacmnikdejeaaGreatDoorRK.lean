import Derived.Test.YtamacmnikdejeaaGreatDoorRF
import Derived.Test.YtamacmnikdejeaaGreatDoorSN
set_option maxRecDepth 100000
set_option maxHeartbeats 8000000
set_option linter.unusedSimpArgs false
open Go.Addr renaming mk->N
open Go.Value renaming slice->Y,string->U,int->J,bool->QC,agg->QG
open Option renaming none->Z,some->T
open Go.Obj renaming cells->Q
open Go.IntKind renaming i64->I
open Go renaming World->G,Value->QE
open Bool renaming false->QB,true->QD
open Go.Ending renaming returned->QF
namespace Go.Proofs.YtamacmnikdejeaaGreatDoor.Vp
open RowKit
theorem ja (a:Option Addr)(n cap:Nat)(f:Nat->ah)(w:G)(hn:(n:Int)<=1048576)(o:SlDeed w a n f)(l:(n:Int)<=cap)(b:∀ i,i<n->dJ (f i))(s:Tab w):Calls Tryz.prog 37 #[QG #[Y a n cap]] w fun e x=>e=QF (QC (aK f n))/\Below w.heap.size w x:=by
 have t:=ae o;have u:=ae b;have p:=ae s;clear o b s;have g:=ae ((q9 w).alloc ly (Q #[Y a n cap] 25));obtain⟨r,h⟩:∃ r,r=aK f n:=⟨_,rfl⟩
 rw[<-h];have j:=ae (show r=decide ((cH f n).1=0) from h);clear h;go_enter Tryz.func37,Tryz.ntmps37;go_wp2_with fail;refine(uo a n cap f _ hn (t.below g ly) l u (p.below g p.1)).mono ?_;rintro e w1 ⟨rfl,q⟩;have m:=ae (g.trans (q.mono g.size));clear q;generalize (cH f n).1=c at j ⊢;generalize (cH f n).2=d;cases r with
 | true =>obtain rfl:c=0:=JE j.symm;go_wp2;go_ret;exact⟨rfl,m⟩
 | false =>
  have hc:(c == 0)=QB:=by have:¬ c=0:=NM j.symm;simpa using this
  go_wp2;go_ret;exact⟨rfl,m⟩
theorem Cu:(Tryz.prog.info? 3).map (fun i=>(i.zero,i.size,i.bytes))=T (T (J I 0),1,8):=by kernel_rfl
theorem SixB.blk {w w':G}{b:Nat}{f g i j l m:QE}(h:SixB w b f g i j l m)(hz:w.heap.size<=w'.heap.size)(e:w'.heap[b]?=w.heap[b]?):SixB w' b f g i j l m :=
 have c:∀ o,w'.cell? (N b o Z)=w.cell? (N b o Z):=fun o=>cq (a:=(N b o Z)) e
 ⟨lj h.lt hz,(c 0).trans h.c0,(c 1).trans h.c1,(c 2).trans h.c2,(c 3).trans h.c3,(c 4).trans h.c4,(c 5).trans h.c5⟩
theorem TyAt.blk {w w':G}{g:Nat}{e:TypeId}(h:TyAt w g e)(hb:w'.heap[g]?=w.heap[g]?):TyAt w' g e:=by obtain⟨c,b⟩:=h;exact⟨c,hb.trans b⟩
theorem Kpt.grown {H M h n:Nat}{W l:G}{v:QE}{m:List QE}(o:W.ownsRow h 3 1 v n m)(j:W.grownBy l v.ownBlock):Kpt H M W l:=by
 refine⟨j.size,fun k e p q _ _=>?_⟩;obtain⟨c,b⟩:=p;refine j.block k (BO.1 b).1 (fun f=>?_);rcases o.2 with ⟨rfl,_⟩ | ⟨g,cap,cur,rfl,_,i,_⟩
 ·simp[Value.ownBlock] at f
 ·simp[Value.ownBlock] at f
  subst f;rw[i] at b;simp at b;exact q b.2.symm
theorem SLs.app {g W f:G}{n1 b off n cap H M:Nat}{s:Nat->Bool}{u v:QE}{ord ord':List Nat}{m:Int}(h:SLs g W n1 b off n cap H M s u ord m)(hz:W.heap.size<=f.heap.size)(r:f.heap[H]?=W.heap[H]?)(l:f.heap[M]?=W.heap[M]?)(t:Below g.heap.size g f)(i:f.ownsRow n1 3 1 v ord'.length (ord'.map fun q:Nat=>Value.int I (q:Int))):SLs g (f.setCell (N H 2 Z) v) n1 b off n cap H M s v ord' m:=by
 have c:∀ o,f.cell? (N H o Z)=W.cell? (N H o Z):=fun o=>cq (a:=(N H o Z)) r;have z:∀ o,f.frozen? (N H o Z)=W.frozen? (N H o Z):=fun o=>IQ (a:=(N H o Z)) r;have j:∀ o,o≠2->(f.setCell (N H 2 Z) v).cell? (N H o Z)=f.cell? (N H o Z):=fun o i=>sq _ _ _ _ (by first | (simp;done) | (simp;exact fun e=>i e.symm) | (simp;omega));refine⟨(j 0 (by omega)).trans ((c 0).trans h.c0),(j 1 (by omega)).trans ((c 1).trans h.c1),⟨AI _ _ _ (by rw[c 2,h.c2.1];rfl),?_⟩,⟨(j 3 (by omega)).trans ((c 3).trans h.c3.1),?_⟩,fun q p=>⟨(sq _ _ _ _ (by first | (simp;done) | (simp;exact fun e=>absurd e.symm h.ne) | (simp;exact fun e=>absurd e h.ne) | (simp;omega))).trans ((cq (a:=(N M q Z)) l).trans (h.row q p).1),?_⟩,nK i h.hH.2 _,t.setCell h.hH.1 _,h.hH,h.hM,h.ne,by have:=h.hz;simp;omega⟩
 ·rw[MI];exact(z 2).trans h.c2.2
 ·rw[MI];exact(z 3).trans h.c3.2
 ·rw[MI];exact(IQ (a:=(N M q Z)) l).trans (h.row q p).2
theorem yc (A:G)(n1 b off n cap H M:Nat)(f:Nat->ah)(hA:fy f n)(hn:(n:Int)<=400)(hf:RowDeed A b off n f)(hlk:∀ p,p<n->(f p).linksN<=200):∀ (k p d:Nat) (s:Nat->Bool) (QL:QE) (ord:List Nat) (m:Int) (W:G),p<k->p<n->d+p<=1000->SLs A W n1 b off n cap H M s QL ord m->s p=QB->ord.length+(lst f k p d s).2.length<=1000 ->
   Calls Tryz.prog 172 #[.pointer (T (N H 0 Z)),J I (p:Int),J I (d:Int)] W fun e W'=>e=QF (.tuple #[])/\∃ t,SLs A W' n1 b off n cap H M (lst f k p d s).1 t (ord++(lst f k p d s).2.map (fun z:Nat × Nat=>z.1)) (cG f m (lst f k p d s).2)/\Kpt H M W W':=by
 intro k;induction k with
 | zero=>intro p d s QL ord m W h;omega
 | succ k ih =>
  intro p d s QL ord m W hpk X hdp hS hs hN;have HS:=ae hS;have HN:=ae hN;have FH:=ae ih;have HA:=ae hA;have HF:=ae hf;have HLK:=ae hlk;obtain⟨Fj,Fx,FA,Fv,FC⟩:=IL Cu;obtain⟨sm,ur,n6,ro,⟨a0,o,ph,q4⟩,⟨a1,r,n9,q5⟩⟩:=hf.2 p X;have R:=ae (hS.mark X);have hb:=hf.1;obtain⟨x,hx⟩:∃ x,x=f p:=⟨_,rfl⟩
  rw[<-hx] at sm ur n6 ro ph n9 q5;have hm2:x.linksN<=200:=by rw[hx];exact hlk p X
  have HL:=ae q5;have HX:=ae hx;have p0:=(R.low.cell (p:=(N b (off+p*6) Z)) hb).trans sm;have p1:=(R.low.cell (p:=(N b (off+p*6+1) Z)) hb).trans ur;have p2:=(R.low.cell (p:=(N b (off+p*6+2) Z)) hb).trans n6;have p3:=(R.low.cell (p:=(N b (off+p*6+3) Z)) hb).trans ro;have p4:=(R.low.cell (p:=(N b (off+p*6+4) Z)) hb).trans ph;have p5:=(R.low.cell (p:=(N b (off+p*6+5) Z)) hb).trans n9;obtain⟨K,hK⟩:∃ K,K=lks (lst f k) (f p) d s:=⟨_,rfl⟩
  have th:Hid (lst f (k+1) p d s=(put (K x.linksN).1 p,(K x.linksN).2++[(p,d)])):=by rw[hK,hx];rfl
  have Ff:Hid (K 0=(s,[])):=by rw[hK];rfl
  have Fw:Hid (∀ j,K (j+1)=if (x.links j).ask=QD/\(K j).1 (x.links j).at_.toNat=QB then ((lst f k (x.links j).at_.toNat (d+1) (K j).1).1,(K j).2++(lst f k (x.links j).at_.toNat (d+1) (K j).1).2) else K j):=fun j=>by rw[hK,hx];rfl
  have Fz:Hid (∀ i,i<=x.linksN->(K i).2 <+: (K x.linksN).2):=fun i hi=>by rw[hK];exact oQ hi
  have V:Hid (cJ f m (p,d)=if x.kind=3/\60<=d/\(m<0∨(p:Int)<m) then (p:Int) else m):=by rw[hx];rfl
  have Fn:H<W.heap.size:=by have:=hS.hH;have:=hS.hz;omega
  have Fo:=hS.c1;obtain⟨Fe,Fl⟩:=hS.row p X;have Fg:=R.c0;have hp0:(0:Int)<=p:=by omega
  have hpn':(p:Int)<n:=by omega
  have QO:=ae (R.below (br.alloc ly (Q #[U x.name,J I x.kind,J I x.code,U x.text,Y a0 x.actN o,Y a1 x.linksN r] 46)));have QN:=ae (ko (W.setCell (N M p Z) (QC QD)) (U x.name) (J I x.kind) (J I x.code) (U x.text) (Y a0 x.actN o) (Y a1 x.linksN r) 46);have QK:Hid (TyAt ((W.setCell (N M p Z) (QC QD)).alloc (Q #[U x.name,J I x.kind,J I x.code,U x.text,Y a0 x.actN o,Y a1 x.linksN r] 46)) (W.setCell (N M p Z) (QC QD)).heap.size 46):=⟨_,eT _ _⟩
  have B:=ae ((Kpt.setCell (H:=H) (M:=M) (j:=p) W M (.inr rfl) (QC QD)).trans (Kpt.of_below (br.alloc ly (Q #[U x.name,J I x.kind,J I x.code,U x.text,Y a0 x.actN o,Y a1 x.linksN r] 46))));have DS:(W.setCell (N M p Z) (QC QD)).heap.size=W.heap.size:=by simp
  rw[DS] at QN QK;clear hS hN ih hA hf hlk q4 q5 hx hK sm ur n6 ro ph n9 hs DS R;go_enter Tryz.func172,Tryz.ntmps172;go_upto_region 2 with fail;generalize (W.setCell (N M p Z) (QC QD)).alloc (Q #[U x.name,J I x.kind,J I x.code,U x.text,Y a0 x.actN o,Y a1 x.linksN r] 46)=W2 at QO QN QK B ⊢;clear p0 p1 p2 p3 p4 p5 Fo Fe Fl Fg;obtain⟨td,QH⟩:∃ td,td=decide (x.kind=3/\60<=d):=⟨_,rfl⟩
  have HD:=ae QH;clear QH;have c1:=QN.c1;go_cut [28] (fun Fh wx=>Fh=QC td/\wx=W2);case first =>
   cases L:(x.kind == 3) with
   | false =>
    obtain rfl:td=QB:=by rw[HD.out];simp at L;simp[L]
    go_wp2;go_meet;exact⟨rfl,rfl⟩
   | true =>
    by_cases h6:(60:Int)<=(d:Int)
    ·obtain rfl:td=QD:=by rw[HD.out];simp at L;simp[L];omega
     go_wp2;go_meet;exact⟨by first | rfl | (simp;done) | (simp;omega),rfl⟩
    ·obtain rfl:td=QB:=by rw[HD.out];simp;omega
     go_wp2;go_meet;exact⟨by first | rfl | (simp;done) | (simp;omega),rfl⟩
  case rest =>
  obtain⟨rfl,rfl⟩:=hcut;clear c1;have hHD:H<W.heap.size:=Fn;go_upto_if 28 with fail;go_cut [] (fun wx=>Hid (SLs A wx n1 b off n cap H M (put s p) QL ord (cJ f m (p,d)))/\Hid (SixB wx W.heap.size (U x.name) (J I x.kind) (J I x.code) (U x.text) (Y a0 x.actN o) (Y a1 x.linksN r))/\Hid (TyAt wx W.heap.size 46)/\Hid (Kpt H M W wx));case first =>
   cases td with
   | false =>
    have QR:cJ f m (p,d)=m:=by rw[V.out,cM (fun h=>by have:=HD.out;simp at this;have:=this h.1;omega)]
    have l:Hid (SLs A wc n1 b off n cap H M (put s p) QL ord (cJ f m (p,d))):=by show SLs _ _ _ _ _ _ _ _ _ _ _ _ _;rw[QR];exact QO
    clear QR;go_wp2;go_meet;exact⟨l,QN,QK,B⟩
   | true =>
    have QH:x.kind=3/\60<=d:=by have:=HD.out;simpa using this
    obtain⟨e3,z3⟩:=QO.c3;have S:=ae QH;clear QH;have e4:(wc.setCell (N H 3 Z) (J I (p:Int))).heap[W.heap.size]?=wc.heap[W.heap.size]?:=qh _ _ _ _ (by show W.heap.size≠H;omega);have SP:=ae (QO.deep (p:Int));have DP:=ae (QN.blk (w':=wc.setCell (N H 3 Z) (J I (p:Int))) (by simp) e4);have YP:=ae (QK.blk e4);have DE:=ae (B.trans (Kpt.setCell (H:=H) (M:=M) (j:=3) wc H (.inl rfl) (J I (p:Int))));clear e4;by_cases g1:m<0
    ·have QR:cJ f m (p,d)=(p:Int):=by rw[V.out,gM ⟨S.1,S.2,.inl g1⟩]
     have l:Hid (SLs A (wc.setCell (N H 3 Z) (J I (p:Int))) n1 b off n cap H M (put s p) QL ord (cJ f m (p,d))):=by show SLs _ _ _ _ _ _ _ _ _ _ _ _ _;rw[QR];exact SP
     clear QR;go_wp2;go_meet;exact⟨l,DP,YP,DE⟩
    ·by_cases g2:(p:Int)<m
     ·have QR:cJ f m (p,d)=(p:Int):=by rw[V.out,gM ⟨S.1,S.2,.inr g2⟩]
      have l:Hid (SLs A (wc.setCell (N H 3 Z) (J I (p:Int))) n1 b off n cap H M (put s p) QL ord (cJ f m (p,d))):=by show SLs _ _ _ _ _ _ _ _ _ _ _ _ _;rw[QR];exact SP
      clear QR;go_wp2;go_meet;exact⟨l,DP,YP,DE⟩
     ·have QR:cJ f m (p,d)=m:=by rw[V.out,cM (fun h=>by have:=h.2.2;omega)]
      have l:Hid (SLs A wc n1 b off n cap H M (put s p) QL ord (cJ f m (p,d))):=by show SLs _ _ _ _ _ _ _ _ _ _ _ _ _;rw[QR];exact QO
      clear QR;go_wp2;go_meet;exact⟨l,QN,QK,B⟩
  case rest =>
  clear QO QN QK B;obtain⟨QO,QN,QK,B⟩:=hcut;obtain⟨C,bt⟩:∃ C,C=cJ f m (p,d):=⟨_,rfl⟩
  rw[<-bt] at QO;have Fb:=ae bt;clear bt V;have Fu:Hid (C=cJ f m (p,d)):=Fb.out;go_wp2;go_loopw [7] (fun i wr=>∃ (j:Nat) (t:QE),j<=x.linksN/\i=J I j/\Hid (SLs A wr n1 b off n cap H M (put (K j).1 p) t (ord++(K j).2.map (fun z:Nat × Nat=>z.1)) (cG f C (K j).2))/\Hid (SixB wr W.heap.size (U x.name) (J I x.kind) (J I x.code) (U x.text) (Y a0 x.actN o) (Y a1 x.linksN r))/\Hid (TyAt wr W.heap.size 46)/\Hid (Kpt H M W wr)) (fun i _=>x.linksN - (intOf i).toNat);case atStart=>exact⟨0,QL,by omega,rfl,by rw[Ff.out];simp only[NG,ND,cG];exact QO,QN,QK,B⟩
  case round =>
   clear QO QN QK B;obtain⟨j,t,hj,rfl,l,D3,Y3,ex⟩:=hrel;have e5:=D3.c5;have P:W.heap.size<wr.heap.size:=D3.lt;by_cases Bk:j<x.linksN
   ·obtain⟨lb,lo,rfl,ld⟩:=(HL.below l.low ly).resolve_left (by omega)
    obtain⟨l0,l1,l2,l3⟩:=ld.2 j Bk;have n8:=Fw.out j;have mv:(x.links j).ask=QD->(x.links j).at_.toNat<p/\0<=(x.links j).at_:=fun h=>by have:=HA.out p X j (by rw[<-HX.out];exact Bk);rw[<-HX.out] at this;exact this h
    generalize x.links j=y at l0 l1 l2 l3 n8 mv;have la:=ae n8;have At:=ae mv;clear n8 mv l0 l2 ld;cases hask:y.ask with
    | false =>
     rw[hask] at l1;have u:K (j+1)=K j:=by rw[la.out,cM (by rw[hask];simp)]
     have QJ:=ae u;clear u;go_wp2_with fail;go_quiet (fail);have E:=ae (AT (q9 wr) nq);have S4:=ae (l.below E);have D4:=ae (D3.blk E.size (E.block _ P));have Y4:=ae (Y3.blk (E.block _ P));have QM:=ae (ex.trans (Kpt.of_below E));go_wp2;exact⟨⟨j+1,t,by omega,by go_num,by rw[QJ.out];exact S4,D4,Y4,QM⟩,by simp[intOf];omega⟩
    | true =>
     rw[hask] at l1;obtain⟨q,hq⟩:∃ q:Nat,y.at_=(q:Int):=⟨y.at_.toNat,by have:=(At hask).2;omega⟩
     have Fs:q<p:=by have:=(At hask).1;rw[hq] at this;simpa using this
     rw[hq] at l3;have f1:=l.c1;obtain⟨f2,_⟩:=l.row q (by omega);have n7:put (K j).1 p q=(K j).1 q:=by simp[put];omega
     rw[n7] at f2;have hq0:(0:Int)<=q:=by omega
     have hqn:(q:Int)<n:=by omega
     have FD:=ae n7;clear n7;cases hl:(K j).1 q with
     | true =>
      rw[hl] at f2;have u:K (j+1)=K j:=by rw[la.out,cM (by rw[hq];simp[hl])]
      have QJ:=ae u;clear u;go_wp2_with fail;go_quiet (fail);have E:=ae (AT (q9 wr) nq);have S4:=ae (l.below E);have D4:=ae (D3.blk E.size (E.block _ P));have Y4:=ae (Y3.blk (E.block _ P));have QM:=ae (ex.trans (Kpt.of_below E));go_wp2;exact⟨⟨j+1,t,by omega,by go_num,by rw[QJ.out];exact S4,D4,Y4,QM⟩,by simp[intOf];omega⟩
     | false =>
      rw[hl] at f2;have u:K (j+1)=((lst f k q (d+1) (K j).1).1,(K j).2++(lst f k q (d+1) (K j).1).2):=by rw[la.out,gM ⟨hask,by rw[hq];simpa using hl⟩,hq];simp
      have QJ:=ae u;have qr:=Fz.out (j+1) (by omega);rw[u] at qr;have Ft:=ae qr;have Fk:=ae hl;clear u qr;have fd:((d+1:Nat):Int)=(d:Int)+1:=by omega
      have HC:Hid (∀ W5,SLs A W5 n1 b off n cap H M (put (K j).1 p) t (ord++(K j).2.map (fun z:Nat × Nat=>z.1)) (cG f C (K j).2)->Calls Tryz.prog 172 #[.pointer (T (N H 0 Z)),J I (q:Int),J I ((d:Int)+1)] W5 fun e W'=>e=QF (.tuple #[])/\∃ QP,SLs A W' n1 b off n cap H M (put (K (j+1)).1 p) QP (ord++(K (j+1)).2.map (fun z:Nat × Nat=>z.1)) (cG f C (K (j+1)).2)/\Kpt H M W5 W'):=by
       intro W5 h5;have DQ:=uV HA.out k q (d+1) (K j).1 p (by omega) Fs;have E9:(ord++(K j).2.map (fun z:Nat × Nat=>z.1)).length+(lst f k q (d+1) (put (K j).1 p)).2.length<=1000:=by rw[DQ];have L:=HN.out;rw[th.out] at L;have h4:=Ft.length_le;simp only[eI,nD,GD,JN] at L h4 ⊢;omega
       have h:=FH.out q (d+1) (put (K j).1 p) t (ord++(K j).2.map (fun z:Nat × Nat=>z.1)) (cG f C (K j).2) W5 (by omega) (by omega) (by omega) h5 (FD.trans Fk) E9;rw[fd,DQ] at h;refine h.mono fun e W' h=>?_;obtain⟨he,QP,hs,hk⟩:=h;refine⟨he,QP,?_,hk⟩;rw[QJ.out];simp only[HJ,lK,<-II];exact hs
      clear fd;go_wp2_with fail;go_quiet (fail);have E:=ae (AT (q9 wr) nq);have S4:=ae (l.below E);have D4:=ae (D3.blk E.size (E.block _ P));have Y4:=ae (Y3.blk (E.block _ P));have QM:=ae (ex.trans (Kpt.of_below E));have g5:=D4.c5;have CD:=(E.cell (p:=(N lb (lo+j*4+3) Z)) (by have:=(HL.below l.low ly);rcases this with h | ⟨b',o',hv,hr⟩;(omega);(cases hv;exact hr.1))).trans l3;clear e5 f1 f2 l1 l3;generalize wr.drewN nq=W5 at S4 D4 Y4 QM g5 CD ⊢;go_wp2_with fail;refine(HC W5 S4).mono ?_;rintro e W6 ⟨rfl,QP,hs,hk⟩;have S5:=ae hs;have eD:=hk.keep W.heap.size _ Y4.out (by decide) (by omega) (by have:=HS.hM;have:=HS.hz;omega);have D5:=ae (D4.blk hk.size eD);have Y5:=ae (Y4.blk eD);have Fi:=ae (QM.trans hk);clear hs hk eD g5 CD;go_wp2;exact⟨⟨j+1,QP,by omega,by go_num,S5,D5,Y5,Fi⟩,by simp[intOf];omega⟩
   ·have e:j=x.linksN:=by omega
    subst e;obtain⟨f2,z2⟩:=l.c2;obtain⟨oa,oc,rfl⟩:∃ a c,t=Y a (ord++(K x.linksN).2.map (fun z:Nat × Nat=>z.1)).length c:=by
     rcases l.ord.2 with ⟨h1,h2⟩ | ⟨g,c,Fm,h1,_⟩
     ·exact⟨Z,0,by rw[h1,h2]⟩
     ·exact⟨_,_,h1⟩
    have Fy:(ord++(K x.linksN).2.map (fun z:Nat × Nat=>z.1)).length<=1000:=by have L:=HN.out;rw[th.out] at L;simp only[eI,nD,GD,JN] at L ⊢;omega
    generalize hO:ord++(K x.linksN).2.map (fun z:Nat × Nat=>z.1)=O at l f2 Fy ⊢;have HO:=ae hO;clear hO;have Fp:H<wr.heap.size:=by have:=l.hH;have:=l.hz;omega
    have FG:M<wr.heap.size:=by have:=l.hM;have:=l.hz;omega
    go_wp2_with (at_builtin;refine CW _ rfl (.tmp 88) (.tmp 90) 201 rfl n1 3 Fj (J I 0) 1 8 Tryz.underlying201 Fx FA Fv FC rfl (by decide) _ O.length (O.map fun q:Nat=>Value.int I (q:Int)) (by simp[Act.eval]) (l.ord.alloc _) (N wr.heap.size 0 Z) 1 1 [J I (p:Int)] (by simp[Act.eval]) rfl (cell_one_new _ _ _) (by simp[Value.oneCell']) (by unfold maxLen;omega) (by omega) (by have:=l.hz;simp;omega) ?_;intro vy wy aq D Fa;have OW:Hid (wy.ownsRow n1 3 1 vy (O++[p]).length ((O++[p]).map fun q:Nat=>Value.int I (q:Int))):=(by show World.ownsRow _ _ _ _ _ _ _;rw[eI,HJ];exact aq);have GR:=ae D;have eH:wy.heap[H]?=wr.heap[H]?:=(D.block H (by simp;omega) (fun e=>by have:=(l.ord.lt H e.symm).1;have:=l.hH.2;omega)).trans (((q9 wr).alloc ly _).block _ Fp);have eM:wy.heap[M]?=wr.heap[M]?:=(D.block M (by simp;omega) (fun e=>by have:=(l.ord.lt M e.symm).1;have:=l.hM.2;omega)).trans (((q9 wr).alloc ly _).block _ FG);have g2:=(cq (a:=(N H 2 Z)) eH).trans f2;have y2:=(IQ (a:=(N H 2 Z)) eH).trans z2;obtain⟨gs,cs,rfl⟩:∃ g c,vy=Y (T (N g 0 Z)) (O.length+1) c:=(by rcases aq.2 with ⟨_,h2⟩ | ⟨g,c,Fm,h1,_⟩;(omega);exact⟨g,c,h1⟩);have EH:=ae eH;have EM:=ae eM;clear aq D Fa eH eM);have AL:=(q9 wr).alloc ly (Q #[J I (p:Int)] 3);have Fd:wr.heap.size<=wy.heap.size:=p9 AL.size GR.size;have Fc:Below A.heap.size A wy:=bg (l.low.alloc l.low.size (Q #[J I (p:Int)] 3)) GR (by have:=l.low.size;simp;omega) (fun j e=>by have:=(l.ord.lt j e).1;have:=l.hH;omega);have F1:=l.app (v:=Y (T (N gs 0 Z)) (O.length+1) cs) (ord':=O++[p]) Fd EH EM Fc OW;have F2:=((ex.trans (Kpt.of_below AL)).trans (Kpt.grown (l.ord.alloc (Q #[J I (p:Int)] 3)) GR)).trans (Kpt.setCell (H:=H) (M:=M) (j:=2) wy H (.inl rfl) (Y (T (N gs 0 Z)) (O.length+1) cs));have Fq:cG f m ((K x.linksN).2++[(p,d)])=cG f C (K x.linksN).2:=by rw[lK,Fu.out,ug];rfl
    have FF:ord++((K x.linksN).2++[(p,d)]).map (fun z:Nat × Nat=>z.1)=O++[p]:=by rw[HJ,<-II,HO.out];rfl
    go_end0;rw[th.out];refine⟨rfl,Y (T (N gs 0 Z)) (O.length+1) cs,?_,F2⟩;show SLs A _ n1 b off n cap H M (put (K x.linksN).1 p) _ (ord++((K x.linksN).2++[(p,d)]).map (fun z:Nat × Nat=>z.1)) (cG f m ((K x.linksN).2++[(p,d)]));rw[Fq,FF];exact F1
theorem yd {L:List (Nat × Nat)}:∀ {i:Nat},(∀ j (h:j<L.length),(L[j]).1=i+j)->bw i L=-1:=by
 induction L with
 | nil=>intro i _;rfl
 | cons x xs f =>intro i h;have b:=h 0 (by simp);simp at b;rw[bw,gM b];refine f fun j g=>?_;have:=h (j+1) (by simpa using g);simp at this;omega
theorem zW {L:List (Nat × Nat)}:∀ {i j:Nat} (f:j<L.length),(∀ m (h:m<j),(L[m]).1=i+m)->(L[j]).1≠i+j->bw i L=((i+j:Nat):Int):=by
 induction L with
 | nil=>intro i j f;simp at f
 | cons x xs l =>
  intro i j f h b;cases j with
  | zero =>simp at b;rw[bw,cM b];simp
  | succ j =>
   have g:=h 0 (by omega);simp at g;rw[bw,gM g,l (i:=i+1) (j:=j) (by simpa using f) (fun m hm=>?_) (by simpa[MR,Nat.add_comm 1 j] using b)]
   ·congr 1;omega
   ·have:=h (m+1) (by omega)
    simp at this;omega
theorem nd {f:Nat->ah}{d:Int}:∀ {L:List (Nat × Nat)},0<=d->(∀ x∈L,d<=(x.1:Int))->cG f d L=d
 | [],_,_=>rfl
 | x :: xs,h,hx=>by
  have h1:cJ f d x=d:=by unfold cJ;rw[cM (fun h2=>by have:=hx x (by simp);omega)]
  rw[cG,h1];exact nd h fun y b=>hx y (by simp[b])
theorem lY {f:Nat->ah}:∀ {L:List (Nat × Nat)} {i:Nat},(∀ j (h:j<L.length),(L[j]).1=i+j)->cG f (-1) L=aQ f L
 | [],_,_=>rfl
 | x :: xs,i,h=>by
  have m:=h 0 (by simp);simp at m;have l:∀ j (g:j<xs.length),(xs[j]).1=i+1+j:=fun j g=>by have:=h (j+1) (by simpa using g);simp at this;omega
  rw[cG,aQ];by_cases b:(f x.1).kind=3/\60<=x.2
  ·have h1:cJ f (-1) x=(x.1:Int):=by unfold cJ;rw[gM ⟨b.1,b.2,.inl (by omega)⟩]
   rw[gM b,h1];refine nd (by omega) fun y n=>?_;obtain⟨j,g,rfl⟩:=KP n;have:=l j g;omega
  ·have h1:cJ f (-1) x=-1:=by unfold cJ;rw[cM (fun h2=>b ⟨h2.1,h2.2.1⟩)]
   rw[cM b,h1];exact lY l
theorem lZ {f:Nat->ah}{n:Nat}(hn:1<=n):∃ o,aB f n=o++[(n - 1,0)]:=by
 obtain⟨k,rfl⟩:∃ k,n=k+1:=⟨n - 1,by omega⟩
 exact⟨_,rfl⟩
theorem sN {f:Nat->ah}{n:Nat}(hn:1<=n)(h:∀ j (hj:j<(aB f n).length),((aB f n)[j]).1=j):(aB f n).length=n:=by
 obtain⟨o,b⟩:=lZ (f:=f) hn;have hl:(aB f n).length=o.length+1:=by rw[b];simp
 have:=h o.length (by omega);simp only[b] at this;simp at this;omega
theorem DY {f:Nat->ah}{p k m:Nat}(hk:k<m)(h:aH f p (k+1)=QB):aH f p m=QB:=by
 induction m with
 | zero=>omega
 | succ j b =>
  by_cases e:k=j
  ·subst e;exact h
  ·rw[aH,b (by omega)];rfl
structure EK (w:G)(b:Nat)(v0 v1 v2 v3:QE):Prop where
 c0:w.cell? (N b 0 Z)=T v0
 c1:w.cell? (N b 1 Z)=T v1
 c2:w.cell? (N b 2 Z)=T v2
 c3:w.cell? (N b 3 Z)=T v3
 z2:w.frozen? (N b 2 Z)=QB
 z3:w.frozen? (N b 3 Z)=QB
theorem zX (w:G)(f g h b:QE)(t:TypeId):EK (w.alloc (Q #[f,g,h,b] t)).drew w.heap.size f g h b:=⟨by simp,by simp,by simp,by simp,by simp,by simp⟩
theorem Cv {w:G}{b off n cap:Nat}:SLs w (((w.alloc (Q #[Y (T (N b off Z)) n cap] 25)).alloc (Q (bD n) 4)).alloc (Q #[Y (T (N b off Z)) n cap,Y (T (N (w.heap.size+1) 0 Z)) n n,Y Z 0 0,J I (-1)] 214)).drew (w.heap.size+1+1+1) b off n cap (w.heap.size+1+1) (w.heap.size+1) (fun _=>QB) (Y Z 0 0) [] (-1):=by
 have i:(w.alloc (Q #[Y (T (N b off Z)) n cap] 25)).heap.size=w.heap.size+1:=by simp
 have h:((w.alloc (Q #[Y (T (N b off Z)) n cap] 25)).alloc (Q (bD n) 4)).heap.size=w.heap.size+1+1:=by simp
 have A:=(((q9 w).alloc ly (Q #[Y (T (N b off Z)) n cap] 25)).alloc (by simp) (Q (bD n) 4)).alloc (by simp;omega) (Q #[Y (T (N b off Z)) n cap,Y (T (N (w.heap.size+1) 0 Z)) n n,Y Z 0 0,J I (-1)] 214);have D:Below (w.heap.size+1+1) ((w.alloc (Q #[Y (T (N b off Z)) n cap] 25)).alloc (Q (bD n) 4)) (((w.alloc (Q #[Y (T (N b off Z)) n cap] 25)).alloc (Q (bD n) 4)).alloc (Q #[Y (T (N b off Z)) n cap,Y (T (N (w.heap.size+1) 0 Z)) n n,Y Z 0 0,J I (-1)] 214)).drew:=(br.alloc (by omega) _).drew;have hM:=fun q g=>oR (w.alloc (Q #[Y (T (N b off Z)) n cap] 25)) n q g;rw[i] at hM;have f:=zX ((w.alloc (Q #[Y (T (N b off Z)) n cap] 25)).alloc (Q (bD n) 4)) (Y (T (N b off Z)) n cap) (Y (T (N (w.heap.size+1) 0 Z)) n n) (Y Z 0 0) (J I (-1)) 214;rw[h] at f;refine⟨f.c0,f.c1,⟨f.c2,f.z2⟩,⟨f.c3,f.z3⟩,fun q g=>⟨(D.cell (p:=(N (w.heap.size+1) q Z)) (eL _)).trans (hM q g).1,(D.frozen (p:=(N (w.heap.size+1) q Z)) (eL _)).trans (hM q g).2⟩,BG _ _ _ _,A.drew,by omega,by omega,by omega,?_⟩;simp
theorem ut (b off n cap:Nat)(f:Nat->ah)(w:G)(m:fy f n)(hn1:1<=n)(hn:(n:Int)<=400)(o:RowDeed w b off n f)(hlk:∀ p,p<n->(f p).linksN<=200):Calls Tryz.prog 139 #[QG #[Y (T (N b off Z)) n cap],J I ((n:Int) - 1)] w fun e i=>∃ H j,e=QF (.pointer (T (N H 0 Z)))/\H<i.heap.size/\i.cell? (N H 2 Z)=T j/\i.ownsRow w.heap.size 3 1 j (aB f n).length ((aB f n).map fun z:Nat × Nat=>Value.int I (z.1:Int))/\i.cell? (N H 3 Z)=T (J I (cG f (-1) (aB f n)))/\Below w.heap.size w i:=by
 have t:(w.alloc (Q #[Y (T (N b off Z)) n cap] 25)).cell? (N w.heap.size 0 Z)=T (Y (T (N b off Z)) n cap):=by simp
 have r:=jN m hn1;have l:=yc w (w.heap.size+1+1+1) b off n cap (w.heap.size+1+1) (w.heap.size+1) f m hn o hlk n (n - 1) 0 (fun _=>QB) (Y Z 0 0) [] (-1) _ (by omega) (by omega) (by omega) Cv rfl (by have:=r;unfold aB at this;simp;omega);rw[show((n - 1:Nat):Int)=(n:Int) - 1 by omega] at l;have u:=ae l;have q:=fun w=>x8 n (by omega) w;clear l m o hlk;have HW:Hid (w.heap.size+1+1+1=(((w.alloc (Q #[Y (T (N b off Z)) n cap] 25)).alloc (Q (bD n) 4)).alloc (Q #[Y (T (N b off Z)) n cap,Y (T (N (w.heap.size+1) 0 Z)) n n,Y Z 0 0,J I (-1)] 214)).drew.heap.size):=by show _=_;simp
 go_enter Tryz.func139,Tryz.ntmps139;go_wp2_with fail;go_region_with fail;all_goals
  clear q t;go_wp2_with fail;refine u.mono ?_;rintro e w2 ⟨rfl,j,s,x⟩;have g:=ae s;clear s x;go_wp2;go_ret;refine⟨w.heap.size+1+1,j,rfl,?_,g.c2.1,?_,g.c3.1,g.low⟩
  ·have:=g.hz
   omega
  ·have h:=aE g.ord (base':=w.heap.size) (by omega)
   simp only[IN,List.map_map,JN] at h;exact h
theorem ye (b o j:Nat):((N b o Z):Addr).add j=(N b (o+j) Z):=by unfold Addr.add;split<;>simp_all
theorem uu (a:Option Addr)(n cap:Nat)(f:Nat->ah)(w:G)(hn:(n:Int)<=1048576)(hv:SlDeed w a n f)(ex:∀ i,i<n->dJ (f i))(la:∀ i,i<n->gT (f i)):Calls Tryz.prog 88 #[QG #[Y a n cap]] w fun e w'=>e=QF (.tuple #[J I (cH f n).1,J I (cH f n).2])/\Below w.heap.size w w':=by
 have HV:=ae hv;have HM:=ae ex;have HZ:=ae la;clear hv ex la;have A0:=ae ((q9 w).alloc ly (Q #[Y a n cap] 25));have k0:(w.alloc (Q #[Y a n cap] 25)).cell? (N w.heap.size 0 Z)=T (Y a n cap):=by simp
 obtain⟨c1,c2,QO⟩:∃ c1 c2,cH f n=(c1,c2):=⟨_,_,rfl⟩
 rw[QO];have V:=ae QO;clear QO;by_cases h0:(n:Int)<1
 ·have l:c1=1/\c2=0:=by have:=V.out;unfold cH at this;rw[gM (.inl (by omega))] at this;simp only[IA] at this;omega
  clear V;obtain⟨l,y⟩:=l;subst l y;go_enter Tryz.func88,Tryz.ntmps88;go_wp2;go_ret2;exact⟨rfl,A0⟩
 by_cases h4:(400:Int)<(n:Int)
 ·have l:c1=1/\c2=0:=by have:=V.out;unfold cH at this;rw[gM (.inr (by omega))] at this;simp only[IA] at this;omega
  clear V;obtain⟨l,y⟩:=l;subst l y;go_enter Tryz.func88,Tryz.ntmps88;go_wp2;go_ret2;exact⟨rfl,A0⟩
 have QN:Hid ((if aF (aW f) n≠-1 then ((2:Int),aF (aW f) n) else if aF (fun p=>aH f p p) n≠-1 then (3,aF (fun p=>aH f p p) n) else if bw 0 (aB f n)≠-1 then (4,bw 0 (aB f n)) else if aQ f (aB f n)≠-1 then (5,aQ f (aB f n)) else (0,0))=(c1,c2)):=by have:=V.out;unfold cH at this;rw[cM (by omega)] at this;exact this
 clear V;obtain⟨b,off,rfl,bt⟩:=HV.resolve_left (by omega);have HR:=ae bt;clear HV bt;have Bk:(n:Int)<=400:=by omega
 have O:w.heap.size<(w.alloc (Q #[Y (T (N b off Z)) n cap] 25)).heap.size:=by simp
 go_enter Tryz.func88,Tryz.ntmps88;go_wp2;generalize w.alloc (Q #[Y (T (N b off Z)) n cap] 25)=W at A0 k0 O ⊢;go_loopw [5] (fun i wr=>∃ k:Nat,k<=n/\i=J I k/\Hid (∀ j,j<k->aW f j=QD)/\Hid (Below W.heap.size W wr)) (fun i _=>n - (intOf i).toNat);case atStart=>exact⟨0,by omega,rfl,fun j t=>absurd t (E4 _),a8 _ _⟩
 case round =>
  obtain⟨k,hk,rfl,r,K⟩:=hrel;have k1:=(K.cell (p:=(N w.heap.size 0 Z)) O).trans k0;have B:=ae (A0.trans (K.mono A0.size));by_cases q:k<n
  ·go_wp2_with fail
   refine(rX b off n cap k f _ q (HR.below B ly) (HM k q).1 (HZ k q).2.2.1.2).mono ?_;rintro e w2 ⟨he,QH⟩;have A:=ae (B.trans (QH.mono B.size));have H1:=ae (K.trans (QH.mono K.size));clear QH;cases QP:aW f k with
   | true =>
    rw[QP] at he;subst he;have HD:=ae QP;clear QP;go_wp2
    exact⟨⟨k+1,by omega,by go_num,fun j t=>by
     by_cases e:j=k
     ·subst e;exact HD
     ·exact r j (by omega),H1⟩,by simp[intOf];omega⟩
   | false =>
    rw[QP] at he;subst he;have u:=fx q QP r.out;have l:c1=2/\c2=(k:Int):=by have:=QN.out;rw[gM (by rw[u];omega),u] at this;simp only[IA] at this;omega
    obtain⟨l,y⟩:=l;clear QN u QP;subst l y;go_wp2;go_ret2;exact⟨rfl,A⟩
  ·have e:n=k:=by omega
   subst e;have aq:=dS r.out;have S:Hid ((if aF (fun p=>aH f p p) n≠-1 then ((3:Int),aF (fun p=>aH f p p) n) else if bw 0 (aB f n)≠-1 then (4,bw 0 (aB f n)) else if aQ f (aB f n)≠-1 then (5,aQ f (aB f n)) else (0,0))=(c1,c2)):=by have:=QN.out;rw[cM (by rw[aq];simp)] at this;exact this
   have fd:=ae aq;clear QN aq r;go_wp2;clear q hk k1;generalize wr=W2 at K B ⊢;have k1:=(K.cell (p:=(N w.heap.size 0 Z)) O).trans k0;have ld:w.heap.size<W2.heap.size:=lj O K.size;go_loopw [6] (fun i wr=>∃ k:Nat,k<=n/\i=J I k/\Hid (∀ j,j<k->aH f j j=QD)/\Hid (Below W2.heap.size W2 wr)) (fun i _=>n - (intOf i).toNat);case atStart=>exact⟨0,by omega,rfl,fun j t=>absurd t (E4 _),a8 _ _⟩
   case round =>
    obtain⟨k,hk,rfl,r,QM⟩:=hrel;by_cases q:k<n
    ·go_wp2
     generalize wr=W3 at QM ⊢;go_loopw [7] (fun i wr=>∃ m:Nat,m<=k/\i=J I m/\Hid (aH f k m=QD)/\Hid (Below W2.heap.size W2 wr)) (fun i _=>k - (intOf i).toNat);case atStart=>exact⟨0,by omega,rfl,rfl,QM⟩
     case round =>
      obtain⟨m,hm,rfl,HN,P⟩:=hrel;have k2:=(P.cell (p:=(N w.heap.size 0 Z)) ld).trans k1;have A:=ae (B.trans (P.mono B.size));by_cases sm:m<k
      ·have d0:=((HR.below A ly).2 m (by omega)).1
       have d1:=((HR.below A ly).2 k q).1;have hm0:(0:Int)<=m:=by omega
       have hmn:(m:Int)<n:=by omega
       have ro:(0:Int)<=k:=by omega
       have hkn:(k:Int)<n:=by omega
       cases hq:((f m).name.toList == (f k).name.toList) with
       | true =>
        have n9:aH f k k=QB:=DY sm (by rw[aH,hq];simp);have u:=fx (g:=fun p=>aH f p p) q n9 r;have l:c1=3/\c2=(k:Int):=by have:=S.out;rw[gM (by rw[u];omega),u] at this;simp only[IA] at this;omega
        obtain⟨l,y⟩:=l;clear S u n9;subst l y;go_wp2_with fail;go_quiet (fail);have G2:=ae (AT A nq);go_wp2;go_ret2;exact⟨rfl,G2⟩
       | false =>
        have ur:Hid (aH f k (m+1)=QD):=by show aH f k (m+1)=QD;rw[aH,HN.out,hq];rfl
        go_wp2_with fail;go_quiet (fail);have H5:=ae (AT P nq);go_wp2;exact⟨⟨m+1,by omega,by go_num,ur,H5⟩,by simp[intOf];omega⟩
      ·have e:m=k:=by omega
       subst e;go_wp2
       exact⟨⟨m+1,by omega,by go_num,fun j t=>by
        by_cases e:j=m
        ·subst e;exact HN
        ·exact r j (by omega),P⟩,by simp[intOf];omega⟩
    ·have e:n=k:=by omega
     subst e;have n8:=dS (g:=fun p=>aH f p p) r;have D:Hid ((if bw 0 (aB f n)≠-1 then ((4:Int),bw 0 (aB f n)) else if aQ f (aB f n)≠-1 then (5,aQ f (aB f n)) else (0,0))=(c1,c2)):=by have:=S.out;rw[cM (by rw[n8];simp)] at this;exact this
     clear S n8 r;have k2:=(QM.cell (p:=(N w.heap.size 0 Z)) ld).trans k1;have A:=ae (B.trans (QM.mono B.size));have n6:=ae (jN (gB fd) (n:=n) (by omega));have hn1:1<=n:=by omega
     go_wp2_with fail;refine(ut b off n cap f _ (gB fd) hn1 Bk (HR.below A ly) (nR fd)).mono ?_;rintro e w5 ⟨H,ov,rfl,mv,th,hO,ph,QH⟩;have G5:=ae (A.trans (QH.mono A.size));obtain⟨o,ho⟩:=lZ (f:=f) hn1;have qr:0<(aB f n).length:=by rw[ho];simp
     have QL:=ae (fun h=>sN (f:=f) hn1 h);clear ho o;obtain⟨L,hL⟩:∃ L,L=aB f n:=⟨_,rfl⟩
     rw[<-hL] at hO ph qr D n6 QL;clear hL;obtain⟨g,oc,rfl⟩:∃ g c,ov=Y (T (N g 0 Z)) L.length c:=by
      rcases hO.2 with ⟨_,h2⟩ | ⟨g,c,cur,h1,_⟩
      ·omega
      ·exact⟨g,c,h1⟩
     have At:Hid (∀ j (h:j<L.length),w5.cell? (N g j Z)=T (J I ((L[j]).1:Int))/\g<w5.heap.size):=by intro j t;have h1:=hO.cells (g:=g) rfl j (J I ((L[j]).1:Int)) (by rw[IH,gq t];rfl);rw[ye,D0] at h1;exact⟨h1,(hO.lt g rfl).2⟩
     have hll:=n6.out;clear hO QH k2;go_wp2;go_loopw [9] (fun i wr=>∃ k:Nat,k<=n/\i=J I k/\Hid (∀ j,j<k->∃ h:j<L.length,(L[j]).1=j)/\Hid (Below w5.heap.size w5 wr)) (fun i _=>n - (intOf i).toNat);case atStart=>exact⟨0,by omega,rfl,fun j t=>absurd t (E4 _),a8 _ _⟩
     case round =>
      obtain⟨k,hk,rfl,r,E⟩:=hrel;have y:=(E.cell (p:=(N H 2 Z)) mv).trans th;have e3:=(E.cell (p:=(N H 3 Z)) mv).trans ph;have G6:=ae (G5.trans (E.mono G5.size));by_cases q:k<n
      ·by_cases QJ:k<L.length
       ·obtain⟨q1,q2⟩:=At.out k QJ
        have d0:=(E.cell (p:=(N g k Z)) q2).trans q1;have hkl':(k:Int)<(L.length:Int):=by omega
        have hno:decide ((L.length:Int)<=(k:Int))=QB:=by simp;omega
        have hno':decide (L.length<=k)=QB:=by simp;omega
        have ro:(0:Int)<=k:=by omega
        obtain⟨z,hz⟩:∃ z,z=(L[k]).1:=⟨_,rfl⟩
        rw[<-hz] at d0;have QK:=ae hz;clear q1 q2 hz;by_cases x:(z:Int)=(k:Int)
        ·have HN:Hid (∀ j,j<k+1->∃ h:j<L.length,(L[j]).1=j):=fun j t=>by
          by_cases e:j=k
          ·subst e
           exact⟨QJ,by rw[<-QK.out];omega⟩
          ·exact r j (by omega)
         obtain rfl:z=k:=by omega
         clear x QK;go_wp2;exact⟨⟨z+1,by omega,by go_num,HN,E⟩,by simp[intOf];omega⟩
        ·have s:bw 0 L=(k:Int):=by
          have:=zW (L:=L) (i:=0) (j:=k) QJ (fun m hm=>by obtain⟨h,e⟩:=r.out m hm;omega) (by rw[<-QK.out];omega);simpa using this
         have l:c1=4/\c2=(k:Int):=by have:=D.out;rw[gM (by rw[s];omega),s] at this;simp only[IA] at this;omega
         have hne:((z:Int) != (k:Int))=QD:=by simpa using x
         obtain⟨l,C⟩:=l;clear D s QK;subst l C;go_wp2;go_ret2;exact⟨rfl,G6⟩
       ·have:=QL.out fun j t=>by obtain⟨h,e⟩:=r.out j (by omega);exact e
        omega
      ·have e:n=k:=by omega
       subst e;have M:∀ j (h:j<L.length),(L[j]).1=0+j:=fun j t=>by obtain⟨h,e⟩:=r.out j (by omega);omega
       have s:=yd M;rw[lY M] at e3;have QR:Hid ((if aQ f L≠-1 then ((5:Int),aQ f L) else (0,0))=(c1,c2)):=by have:=D.out;rw[cM (by rw[s];simp)] at this;exact this
       have R:=qF f L;generalize aQ f L=X at e3 QR R;have n7:=ae R;clear D s M R y;by_cases x:X=-1
       ·have l:c1=0/\c2=0:=by
         have:=QR.out;rw[cM (by rw[x];simp)] at this;simp only[IA] at this;omega
        obtain⟨l,C⟩:=l;have QP:decide (0<=X)=QB:=by rw[x];rfl
        clear QR x;subst l C;go_wp2;go_ret2;exact⟨rfl,G6⟩
       ·have l:c1=5/\c2=X:=by
         have:=QR.out;rw[gM x] at this;simp only[IA] at this;omega
        have R:0<=X:=n7.resolve_left x;obtain⟨l,C⟩:=l;clear QR x n7;subst l C;go_wp2_with fail;go_quiet (fail);have G7:=ae (AT G6 nq);go_wp2;go_ret2;exact⟨rfl,G7⟩
theorem zY (a:Option Addr)(n cap:Nat)(f:Nat->ah)(w:G)(hn:(n:Int)<=1048576)(m:SlDeed w a n f)(b:∀ i,i<n->dJ (f i))(g:∀ i,i<n->gT (f i)):Calls Tryz.prog 41 #[QG #[Y a n cap]] w fun e u=>e=QF (QC (aK f n))/\Below w.heap.size w u:=by
 have q:=ae m;have t:=ae b;have s:=ae g;clear m b g;have l:=ae ((q9 w).alloc ly (Q #[Y a n cap] 25));obtain⟨r,h⟩:∃ r,r=aK f n:=⟨_,rfl⟩
 rw[<-h];have j:=ae (show r=decide ((cH f n).1=0) from h);clear h;go_enter Tryz.func41,Tryz.ntmps41;go_wp2_with fail;refine(uu a n cap f _ hn (q.below l ly) t s).mono ?_;rintro e w1 ⟨rfl,o⟩;have p:=ae (l.trans (o.mono l.size));clear o;generalize (cH f n).1=c at j ⊢;generalize (cH f n).2=d;cases r with
 | true =>obtain rfl:c=0:=JE j.symm;go_wp2;go_ret;exact⟨rfl,p⟩
 | false =>
  have hc:(c == 0)=QB:=by have:¬ c=0:=NM j.symm;simpa using this
  go_wp2;go_ret;exact⟨rfl,p⟩
end Go.Proofs.YtamacmnikdejeaaGreatDoor.Vp
