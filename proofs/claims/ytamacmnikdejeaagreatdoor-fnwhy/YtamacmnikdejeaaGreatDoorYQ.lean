import Derived.Test.YtamacmnikdejeaaGreatDoorYM
import Derived.Test.YtamacmnikdejeaaGreatDoorZZ
set_option maxRecDepth 100000
set_option maxHeartbeats 8000000
set_option linter.unusedSimpArgs false
open Go.Addr renaming mk->T
open Go.Value renaming slice->Y,string->U,int->I,bool->QT,agg->QV
open Option renaming none->Z,some->N
open Go.Obj renaming cells->Q
open Go.IntKind renaming i64->J
open Go renaming World->H,Value->QS
open Bool renaming false->QQ,true->QR
open Go.Ending renaming returned->QU
namespace Go.Proofs.YtamacmnikdejeaaGreatDoor.Vp
open RowKit
theorem jC (a:Option Addr)(n cap:Nat)(f:Nat->aj)(w:H)(hn:(n:Int)<=1048576)(q:SlDeed w a n f)(l:(n:Int)<=cap)(b:∀ i,i<n->cS (f i))(m:Tab w):Calls Tryz.prog 37 #[QV #[Y a n cap]] w fun e x=>e=QU (QT (aZ f n))/\Below w.heap.size w x:=by
 have t:=ae q;have u:=ae b;have p:=ae m;clear q b m;have g:=ae ((q9 w).alloc ly (Q #[Y a n cap] 25));obtain⟨r,j⟩:∃ r,r=aZ f n:=⟨_,rfl⟩
 rw[<-j];have h:=ae (show r=decide ((dH f n).1=0) from j);clear j;go_enter Tryz.func37,Tryz.ntmps37;go_wp2_with fail;refine(vg a n cap f _ hn (t.below g ly) l u (p.below g p.1)).mono ?_;rintro e w1 ⟨rfl,s⟩;have o:=ae (g.trans (s.mono g.size));clear s;generalize (dH f n).1=c at h ⊢;generalize (dH f n).2=d;cases r with
 | true =>obtain rfl:c=0:=J8 h.symm;go_wp2;go_ret;exact⟨rfl,o⟩
 | false =>
  have hc:(c == 0)=QQ:=by have:¬ c=0:=QK h.symm;simpa using this
  go_wp2;go_ret;exact⟨rfl,o⟩
theorem Ex:(Tryz.prog.info? 3).map (fun i=>(i.zero,i.size,i.bytes))=N (N (I J 0),1,8):=by kernel_rfl
theorem SixB.blk {w w':H}{b:Nat}{j l i g f m:QS}(h:SixB w b j l i g f m)(hz:w.heap.size<=w'.heap.size)(e:w'.heap[b]?=w.heap[b]?):SixB w' b j l i g f m :=
 have c:∀ o,w'.cell? (T b o Z)=w.cell? (T b o Z):=fun o=>cj (a:=(T b o Z)) e
 ⟨lj h.lt hz,(c 0).trans h.c0,(c 1).trans h.c1,(c 2).trans h.c2,(c 3).trans h.c3,(c 4).trans h.c4,(c 5).trans h.c5⟩
theorem TyAt.blk {w w':H}{g:Nat}{e:TypeId}(h:TyAt w g e)(hb:w'.heap[g]?=w.heap[g]?):TyAt w' g e:=by obtain⟨c,b⟩:=h;exact⟨c,hb.trans b⟩
theorem Kpt.grown {ZB M f n:Nat}{W l:H}{v:QS}{q:List QS}(o:W.ownsRow f 3 1 v n q)(i:W.grownBy l v.ownBlock):Kpt ZB M W l:=by
 refine⟨i.size,fun k e p m _ _=>?_⟩;obtain⟨c,b⟩:=p;refine i.block k (nX.1 b).1 (fun h=>?_);rcases o.2 with ⟨rfl,_⟩ | ⟨g,cap,cur,rfl,_,j,_⟩
 ·simp[Value.ownBlock] at h
 ·simp[Value.ownBlock] at h
  subst h;rw[j] at b;simp at b;exact m b.2.symm
theorem SLs.app {g W f:H}{n1 b off n cap ZB M:Nat}{s:Nat->Bool}{u v:QS}{ord ord':List Nat}{l:Int}(h:SLs g W n1 b off n cap ZB M s u ord l)(hz:W.heap.size<=f.heap.size)(p:f.heap[ZB]?=W.heap[ZB]?)(r:f.heap[M]?=W.heap[M]?)(t:Below g.heap.size g f)(i:f.ownsRow n1 3 1 v ord'.length (ord'.map fun q:Nat=>Value.int J (q:Int))):SLs g (f.setCell (T ZB 2 Z) v) n1 b off n cap ZB M s v ord' l:=by
 have c:∀ o,f.cell? (T ZB o Z)=W.cell? (T ZB o Z):=fun o=>cj (a:=(T ZB o Z)) p;have z:∀ o,f.frozen? (T ZB o Z)=W.frozen? (T ZB o Z):=fun o=>JW (a:=(T ZB o Z)) p;have j:∀ o,o≠2->(f.setCell (T ZB 2 Z) v).cell? (T ZB o Z)=f.cell? (T ZB o Z):=fun o i=>sq _ _ _ _ (by first | (simp;done) | (simp;exact fun e=>i e.symm) | (simp;omega));refine⟨(j 0 (by omega)).trans ((c 0).trans h.c0),(j 1 (by omega)).trans ((c 1).trans h.c1),⟨p7 _ _ _ (by rw[c 2,h.c2.1];rfl),?_⟩,⟨(j 3 (by omega)).trans ((c 3).trans h.c3.1),?_⟩,fun q m=>⟨(sq _ _ _ _ (by first | (simp;done) | (simp;exact fun e=>absurd e.symm h.ne) | (simp;exact fun e=>absurd e h.ne) | (simp;omega))).trans ((cj (a:=(T M q Z)) r).trans (h.row q m).1),?_⟩,oF i h.hH.2 _,t.setCell h.hH.1 _,h.hH,h.hM,h.ne,by have:=h.hz;simp;omega⟩
 ·rw[PF];exact(z 2).trans h.c2.2
 ·rw[PF];exact(z 3).trans h.c3.2
 ·rw[PF];exact(JW (a:=(T M q Z)) r).trans (h.row q m).2
theorem zH (A:H)(n1 b off n cap ZB M:Nat)(f:Nat->aj)(hA:fZ f n)(hn:(n:Int)<=400)(hf:RowDeed A b off n f)(th:∀ p,p<n->(f p).linksN<=200):∀ (k p d:Nat) (s:Nat->Bool) (R:QS) (ord:List Nat) (m:Int) (W:H),p<k->p<n->d+p<=1000->SLs A W n1 b off n cap ZB M s R ord m->s p=QQ->ord.length+(lst f k p d s).2.length<=1000 ->
   Calls Tryz.prog 172 #[.pointer (N (T ZB 0 Z)),I J (p:Int),I J (d:Int)] W fun e W'=>e=QU (.tuple #[])/\∃ u,SLs A W' n1 b off n cap ZB M (lst f k p d s).1 u (ord++(lst f k p d s).2.map (fun z:Nat × Nat=>z.1)) (cR f m (lst f k p d s).2)/\Kpt ZB M W W':=by
 intro k;induction k with
 | zero=>intro p d s R ord m W h;omega
 | succ k ih =>
  intro p d s R ord m W hpk QW hdp hS hs hN;have HS:=ae hS;have HN:=ae hN;have Hh:=ae ih;have HA:=ae hA;have HF:=ae hf;have HLK:=ae th;obtain⟨GM,Hb,Hl,Hg,Hj⟩:=JV Ex;obtain⟨ur,sm,ld,DE,⟨a0,o,n8,q4⟩,⟨a1,r,mv,q5⟩⟩:=hf.2 p QW;have S:=ae (hS.mark QW);have hb:=hf.1;obtain⟨x,hx⟩:∃ x,x=f p:=⟨_,rfl⟩
  rw[<-hx] at ur sm ld DE n8 mv q5;have hm2:x.linksN<=200:=by rw[hx];exact th p QW
  have HL:=ae q5;have HX:=ae hx;have p0:=(S.low.cell (p:=(T b (off+p*6) Z)) hb).trans ur;have p1:=(S.low.cell (p:=(T b (off+p*6+1) Z)) hb).trans sm;have p2:=(S.low.cell (p:=(T b (off+p*6+2) Z)) hb).trans ld;have p3:=(S.low.cell (p:=(T b (off+p*6+3) Z)) hb).trans DE;have p4:=(S.low.cell (p:=(T b (off+p*6+4) Z)) hb).trans n8;have p5:=(S.low.cell (p:=(T b (off+p*6+5) Z)) hb).trans mv;obtain⟨K,hK⟩:∃ K,K=lks (lst f k) (f p) d s:=⟨_,rfl⟩
  have qr:Hid (lst f (k+1) p d s=(put (K x.linksN).1 p,(K x.linksN).2++[(p,d)])):=by rw[hK,hx];rfl
  have GU:Hid (K 0=(s,[])):=by rw[hK];rfl
  have Hi:Hid (∀ j,K (j+1)=if (x.links j).ask=QR/\(K j).1 (x.links j).at_.toNat=QQ then ((lst f k (x.links j).at_.toNat (d+1) (K j).1).1,(K j).2++(lst f k (x.links j).at_.toNat (d+1) (K j).1).2) else K j):=fun j=>by rw[hK,hx];rfl
  have GJ:Hid (∀ i,i<=x.linksN->(K i).2 <+: (K x.linksN).2):=fun i hi=>by rw[hK];exact py hi
  have QY:Hid (cU f m (p,d)=if x.kind=3/\60<=d/\(m<0∨(p:Int)<m) then (p:Int) else m):=by rw[hx];rfl
  have GV:ZB<W.heap.size:=by have:=hS.hH;have:=hS.hz;omega
  have GN:=hS.c1;obtain⟨Ha,Hk⟩:=hS.row p QW;have He:=S.c0;have hp0:(0:Int)<=p:=by omega
  have hpn':(p:Int)<n:=by omega
  have Q9:=ae (S.below (br.alloc ly (Q #[U x.name,I J x.kind,I J x.code,U x.text,Y a0 x.actN o,Y a1 x.linksN r] 46)));have ZA:=ae (lv (W.setCell (T M p Z) (QT QR)) (U x.name) (I J x.kind) (I J x.code) (U x.text) (Y a0 x.actN o) (Y a1 x.linksN r) 46);have Q0:Hid (TyAt ((W.setCell (T M p Z) (QT QR)).alloc (Q #[U x.name,I J x.kind,I J x.code,U x.text,Y a0 x.actN o,Y a1 x.linksN r] 46)) (W.setCell (T M p Z) (QT QR)).heap.size 46):=⟨_,cM _ _⟩
  have B:=ae ((Kpt.setCell (ZB:=ZB) (M:=M) (j:=p) W M (.inr rfl) (QT QR)).trans (Kpt.of_below (br.alloc ly (Q #[U x.name,I J x.kind,I J x.code,U x.text,Y a0 x.actN o,Y a1 x.linksN r] 46))));have GC:(W.setCell (T M p Z) (QT QR)).heap.size=W.heap.size:=by simp
  rw[GC] at ZA Q0;clear hS hN ih hA hf th q4 q5 hx hK ur sm ld DE n8 mv hs GC S;go_enter Tryz.func172,Tryz.ntmps172;go_upto_region 2 with fail;generalize (W.setCell (T M p Z) (QT QR)).alloc (Q #[U x.name,I J x.kind,I J x.code,U x.text,Y a0 x.actN o,Y a1 x.linksN r] 46)=W2 at Q9 ZA Q0 B ⊢;clear p0 p1 p2 p3 p4 p5 GN Ha Hk He;obtain⟨td,V⟩:∃ td,td=decide (x.kind=3/\60<=d):=⟨_,rfl⟩
  have HD:=ae V;clear V;have c1:=ZA.c1;go_cut [28] (fun GP wx=>GP=QT td/\wx=W2);case first =>
   cases L:(x.kind == 3) with
   | false =>
    obtain rfl:td=QQ:=by rw[HD.out];simp at L;simp[L]
    go_wp2;go_meet;exact⟨rfl,rfl⟩
   | true =>
    by_cases h6:(60:Int)<=(d:Int)
    ·obtain rfl:td=QR:=by rw[HD.out];simp at L;simp[L];omega
     go_wp2;go_meet;exact⟨by first | rfl | (simp;done) | (simp;omega),rfl⟩
    ·obtain rfl:td=QQ:=by rw[HD.out];simp;omega
     go_wp2;go_meet;exact⟨by first | rfl | (simp;done) | (simp;omega),rfl⟩
  case rest =>
  obtain⟨rfl,rfl⟩:=hcut;clear c1;have hHD:ZB<W.heap.size:=GV;go_upto_if 28 with fail;go_cut [] (fun wx=>Hid (SLs A wx n1 b off n cap ZB M (put s p) R ord (cU f m (p,d)))/\Hid (SixB wx W.heap.size (U x.name) (I J x.kind) (I J x.code) (U x.text) (Y a0 x.actN o) (Y a1 x.linksN r))/\Hid (TyAt wx W.heap.size 46)/\Hid (Kpt ZB M W wx));case first =>
   cases td with
   | false =>
    have F:cU f m (p,d)=m:=by rw[QY.out,eI (fun h=>by have:=HD.out;simp at this;have:=this h.1;omega)]
    have l:Hid (SLs A wc n1 b off n cap ZB M (put s p) R ord (cU f m (p,d))):=by show SLs _ _ _ _ _ _ _ _ _ _ _ _ _;rw[F];exact Q9
    clear F;go_wp2;go_meet;exact⟨l,ZA,Q0,B⟩
   | true =>
    have V:x.kind=3/\60<=d:=by have:=HD.out;simpa using this
    obtain⟨e3,z3⟩:=Q9.c3;have Q2:=ae V;clear V;have e4:(wc.setCell (T ZB 3 Z) (I J (p:Int))).heap[W.heap.size]?=wc.heap[W.heap.size]?:=qh _ _ _ _ (by show W.heap.size≠ZB;omega);have SP:=ae (Q9.deep (p:Int));have DP:=ae (ZA.blk (w':=wc.setCell (T ZB 3 Z) (I J (p:Int))) (by simp) e4);have YP:=ae (Q0.blk e4);have Fk:=ae (B.trans (Kpt.setCell (ZB:=ZB) (M:=M) (j:=3) wc ZB (.inl rfl) (I J (p:Int))));clear e4;by_cases g1:m<0
    ·have F:cU f m (p,d)=(p:Int):=by rw[QY.out,gA ⟨Q2.1,Q2.2,.inl g1⟩]
     have l:Hid (SLs A (wc.setCell (T ZB 3 Z) (I J (p:Int))) n1 b off n cap ZB M (put s p) R ord (cU f m (p,d))):=by show SLs _ _ _ _ _ _ _ _ _ _ _ _ _;rw[F];exact SP
     clear F;go_wp2;go_meet;exact⟨l,DP,YP,Fk⟩
    ·by_cases g2:(p:Int)<m
     ·have F:cU f m (p,d)=(p:Int):=by rw[QY.out,gA ⟨Q2.1,Q2.2,.inr g2⟩]
      have l:Hid (SLs A (wc.setCell (T ZB 3 Z) (I J (p:Int))) n1 b off n cap ZB M (put s p) R ord (cU f m (p,d))):=by show SLs _ _ _ _ _ _ _ _ _ _ _ _ _;rw[F];exact SP
      clear F;go_wp2;go_meet;exact⟨l,DP,YP,Fk⟩
     ·have F:cU f m (p,d)=m:=by rw[QY.out,eI (fun h=>by have:=h.2.2;omega)]
      have l:Hid (SLs A wc n1 b off n cap ZB M (put s p) R ord (cU f m (p,d))):=by show SLs _ _ _ _ _ _ _ _ _ _ _ _ _;rw[F];exact Q9
      clear F;go_wp2;go_meet;exact⟨l,ZA,Q0,B⟩
  case rest =>
  clear Q9 ZA Q0 B;obtain⟨Q9,ZA,Q0,B⟩:=hcut;obtain⟨C,bt⟩:∃ C,C=cU f m (p,d):=⟨_,rfl⟩
  rw[<-bt] at Q9;have GF:=ae bt;clear bt QY;have Hc:Hid (C=cU f m (p,d)):=GF.out;go_wp2;go_loopw [7] (fun i wr=>∃ (j:Nat) (u:QS),j<=x.linksN/\i=I J j/\Hid (SLs A wr n1 b off n cap ZB M (put (K j).1 p) u (ord++(K j).2.map (fun z:Nat × Nat=>z.1)) (cR f C (K j).2))/\Hid (SixB wr W.heap.size (U x.name) (I J x.kind) (I J x.code) (U x.text) (Y a0 x.actN o) (Y a1 x.linksN r))/\Hid (TyAt wr W.heap.size 46)/\Hid (Kpt ZB M W wr)) (fun i _=>x.linksN - (intOf i).toNat);case atStart=>exact⟨0,R,by omega,rfl,by rw[GU.out];simp only[QF,L8,cR];exact Q9,ZA,Q0,B⟩
  case round =>
   clear Q9 ZA Q0 B;obtain⟨j,u,hj,rfl,l,D3,Y3,fd⟩:=hrel;have e5:=D3.c5;have QZ:W.heap.size<wr.heap.size:=D3.lt;by_cases Fn:j<x.linksN
   ·obtain⟨lb,lo,rfl,n9⟩:=(HL.below l.low ly).resolve_left (by omega)
    obtain⟨l0,l1,l2,l3⟩:=n9.2 j Fn;have ro:=Hi.out j;have Bk:(x.links j).ask=QR->(x.links j).at_.toNat<p/\0<=(x.links j).at_:=fun h=>by have:=HA.out p QW j (by rw[<-HX.out];exact Fn);rw[<-HX.out] at this;exact this h
    generalize x.links j=y at l0 l1 l2 l3 ro Bk;have ph:=ae ro;have Fm:=ae Bk;clear ro Bk l0 l2 n9;cases hask:y.ask with
    | false =>
     rw[hask] at l1;have t:K (j+1)=K j:=by rw[ph.out,eI (by rw[hask];simp)]
     have X:=ae t;clear t;go_wp2_with fail;go_quiet (fail);have E:=ae (F6 (q9 wr) nq);have S4:=ae (l.below E);have QX:=ae (D3.blk E.size (E.block _ QZ));have Y4:=ae (Y3.blk (E.block _ QZ));have P:=ae (fd.trans (Kpt.of_below E));go_wp2;exact⟨⟨j+1,u,by omega,by go_num,by rw[X.out];exact S4,QX,Y4,P⟩,by simp[intOf];omega⟩
    | true =>
     rw[hask] at l1;obtain⟨q,hq⟩:∃ q:Nat,y.at_=(q:Int):=⟨y.at_.toNat,by have:=(Fm hask).2;omega⟩
     have Hm:q<p:=by have:=(Fm hask).1;rw[hq] at this;simpa using this
     rw[hq] at l3;have f1:=l.c1;obtain⟨f2,_⟩:=l.row q (by omega);have At:put (K j).1 p q=(K j).1 q:=by simp[put];omega
     rw[At] at f2;have hq0:(0:Int)<=q:=by omega
     have hqn:(q:Int)<n:=by omega
     have GT:=ae At;clear At;cases hl:(K j).1 q with
     | true =>
      rw[hl] at f2;have t:K (j+1)=K j:=by rw[ph.out,eI (by rw[hq];simp[hl])]
      have X:=ae t;clear t;go_wp2_with fail;go_quiet (fail);have E:=ae (F6 (q9 wr) nq);have S4:=ae (l.below E);have QX:=ae (D3.blk E.size (E.block _ QZ));have Y4:=ae (Y3.blk (E.block _ QZ));have P:=ae (fd.trans (Kpt.of_below E));go_wp2;exact⟨⟨j+1,u,by omega,by go_num,by rw[X.out];exact S4,QX,Y4,P⟩,by simp[intOf];omega⟩
     | false =>
      rw[hl] at f2;have t:K (j+1)=((lst f k q (d+1) (K j).1).1,(K j).2++(lst f k q (d+1) (K j).1).2):=by rw[ph.out,gA ⟨hask,by rw[hq];simpa using hl⟩,hq];simp
      have X:=ae t;have DQ:=GJ.out (j+1) (by omega);rw[t] at DQ;have GY:=ae DQ;have G8:=ae hl;clear t DQ;have la:((d+1:Nat):Int)=(d:Int)+1:=by omega
      have HC:Hid (∀ W5,SLs A W5 n1 b off n cap ZB M (put (K j).1 p) u (ord++(K j).2.map (fun z:Nat × Nat=>z.1)) (cR f C (K j).2)->Calls Tryz.prog 172 #[.pointer (N (T ZB 0 Z)),I J (q:Int),I J ((d:Int)+1)] W5 fun e W'=>e=QU (.tuple #[])/\∃ G,SLs A W' n1 b off n cap ZB M (put (K (j+1)).1 p) G (ord++(K (j+1)).2.map (fun z:Nat × Nat=>z.1)) (cR f C (K (j+1)).2)/\Kpt ZB M W5 W'):=by
       intro W5 h5;have Fd:=vT HA.out k q (d+1) (K j).1 p (by omega) Hm;have GH:(ord++(K j).2.map (fun z:Nat × Nat=>z.1)).length+(lst f k q (d+1) (put (K j).1 p)).2.length<=1000:=by rw[Fd];have L:=HN.out;rw[qr.out] at L;have h4:=GY.length_le;simp only[a8,z8,IS,KO] at L h4 ⊢;omega
       have h:=Hh.out q (d+1) (put (K j).1 p) u (ord++(K j).2.map (fun z:Nat × Nat=>z.1)) (cR f C (K j).2) W5 (by omega) (by omega) (by omega) h5 (GT.trans G8) GH;rw[la,Fd] at h;refine h.mono fun e W' h=>?_;obtain⟨he,G,hs,hk⟩:=h;refine⟨he,G,?_,hk⟩;rw[X.out];simp only[CV,mD,<-JM];exact hs
      clear la;go_wp2_with fail;go_quiet (fail);have E:=ae (F6 (q9 wr) nq);have S4:=ae (l.below E);have QX:=ae (D3.blk E.size (E.block _ QZ));have Y4:=ae (Y3.blk (E.block _ QZ));have P:=ae (fd.trans (Kpt.of_below E));have g5:=QX.c5;have GD:=(E.cell (p:=(T lb (lo+j*4+3) Z)) (by have:=(HL.below l.low ly);rcases this with h | ⟨b',o',hv,hr⟩;(omega);(cases hv;exact hr.1))).trans l3;clear e5 f1 f2 l1 l3;generalize wr.drewN nq=W5 at S4 QX Y4 P g5 GD ⊢;go_wp2_with fail;refine(HC W5 S4).mono ?_;rintro e W6 ⟨rfl,G,hs,hk⟩;have S5:=ae hs;have eD:=hk.keep W.heap.size _ Y4.out (by decide) (by omega) (by have:=HS.hM;have:=HS.hz;omega);have D5:=ae (QX.blk hk.size eD);have Y5:=ae (Y4.blk eD);have GW:=ae (P.trans hk);clear hs hk eD g5 GD;go_wp2;exact⟨⟨j+1,G,by omega,by go_num,S5,D5,Y5,GW⟩,by simp[intOf];omega⟩
   ·have e:j=x.linksN:=by omega
    subst e;obtain⟨f2,z2⟩:=l.c2;obtain⟨oa,oc,rfl⟩:∃ a c,u=Y a (ord++(K x.linksN).2.map (fun z:Nat × Nat=>z.1)).length c:=by
     rcases l.ord.2 with ⟨h1,h2⟩ | ⟨g,c,Hd,h1,_⟩
     ·exact⟨Z,0,by rw[h1,h2]⟩
     ·exact⟨_,_,h1⟩
    have GK:(ord++(K x.linksN).2.map (fun z:Nat × Nat=>z.1)).length<=1000:=by have L:=HN.out;rw[qr.out] at L;simp only[a8,z8,IS,KO] at L ⊢;omega
    generalize hO:ord++(K x.linksN).2.map (fun z:Nat × Nat=>z.1)=O at l f2 GK ⊢;have HO:=ae hO;clear hO;have GS:ZB<wr.heap.size:=by have:=l.hH;have:=l.hz;omega
    have GL:M<wr.heap.size:=by have:=l.hM;have:=l.hz;omega
    go_wp2_with (at_builtin;refine wC _ rfl (.tmp 88) (.tmp 90) 201 rfl n1 3 GM (I J 0) 1 8 Tryz.underlying201 Hb Hl Hg Hj rfl (by decide) _ O.length (O.map fun q:Nat=>Value.int J (q:Int)) (by simp[Act.eval]) (l.ord.alloc _) (T wr.heap.size 0 Z) 1 1 [I J (p:Int)] (by simp[Act.eval]) rfl (cell_one_new _ _ _) (by simp[Value.oneCell']) (by unfold maxLen;omega) (by omega) (by have:=l.hz;simp;omega) ?_;intro vy wy aq D GE;have OW:Hid (wy.ownsRow n1 3 1 vy (O++[p]).length ((O++[p]).map fun q:Nat=>Value.int J (q:Int))):=(by show World.ownsRow _ _ _ _ _ _ _;rw[a8,CV];exact aq);have GR:=ae D;have eH:wy.heap[ZB]?=wr.heap[ZB]?:=(D.block ZB (by simp;omega) (fun e=>by have:=(l.ord.lt ZB e.symm).1;have:=l.hH.2;omega)).trans (((q9 wr).alloc ly _).block _ GS);have eM:wy.heap[M]?=wr.heap[M]?:=(D.block M (by simp;omega) (fun e=>by have:=(l.ord.lt M e.symm).1;have:=l.hM.2;omega)).trans (((q9 wr).alloc ly _).block _ GL);have g2:=(cj (a:=(T ZB 2 Z)) eH).trans f2;have y2:=(JW (a:=(T ZB 2 Z)) eH).trans z2;obtain⟨gs,cs,rfl⟩:∃ g c,vy=Y (N (T g 0 Z)) (O.length+1) c:=(by rcases aq.2 with ⟨_,h2⟩ | ⟨g,c,Hd,h1,_⟩;(omega);exact⟨g,c,h1⟩);have EH:=ae eH;have EM:=ae eM;clear aq D GE eH eM);have AL:=(q9 wr).alloc ly (Q #[I J (p:Int)] 3);have Hf:wr.heap.size<=wy.heap.size:=j4 AL.size GR.size;have GI:Below A.heap.size A wy:=bg (l.low.alloc l.low.size (Q #[I J (p:Int)] 3)) GR (by have:=l.low.size;simp;omega) (fun j e=>by have:=(l.ord.lt j e).1;have:=l.hH;omega);have F1:=l.app (v:=Y (N (T gs 0 Z)) (O.length+1) cs) (ord':=O++[p]) Hf EH EM GI OW;have F2:=((fd.trans (Kpt.of_below AL)).trans (Kpt.grown (l.ord.alloc (Q #[I J (p:Int)] 3)) GR)).trans (Kpt.setCell (ZB:=ZB) (M:=M) (j:=2) wy ZB (.inl rfl) (Y (N (T gs 0 Z)) (O.length+1) cs));have GO:cR f m ((K x.linksN).2++[(p,d)])=cR f C (K x.linksN).2:=by rw[mD,Hc.out,uU];rfl
    have GQ:ord++((K x.linksN).2++[(p,d)]).map (fun z:Nat × Nat=>z.1)=O++[p]:=by rw[CV,<-JM,HO.out];rfl
    go_end0;rw[qr.out];refine⟨rfl,Y (N (T gs 0 Z)) (O.length+1) cs,?_,F2⟩;show SLs A _ n1 b off n cap ZB M (put (K x.linksN).1 p) _ (ord++((K x.linksN).2++[(p,d)]).map (fun z:Nat × Nat=>z.1)) (cR f m ((K x.linksN).2++[(p,d)]));rw[GO,GQ];exact F1
theorem zI {L:List (Nat × Nat)}:∀ {i:Nat},(∀ j (h:j<L.length),(L[j]).1=i+j)->bD i L=-1:=by
 induction L with
 | nil=>intro i _;rfl
 | cons x xs c =>intro i h;have b:=h 0 (by simp);simp at b;rw[bD,gA b];refine c fun j f=>?_;have:=h (j+1) (by simpa using f);simp at this;omega
theorem Cj {L:List (Nat × Nat)}:∀ {i j:Nat} (c:j<L.length),(∀ m (h:m<j),(L[m]).1=i+m)->(L[j]).1≠i+j->bD i L=((i+j:Nat):Int):=by
 induction L with
 | nil=>intro i j c;simp at c
 | cons x xs g =>
  intro i j c h b;cases j with
  | zero =>simp at b;rw[bD,eI b];simp
  | succ j =>
   have f:=h 0 (by omega);simp at f;rw[bD,gA f,g (i:=i+1) (j:=j) (by simpa using c) (fun m hm=>?_) (by simpa[NW,Nat.add_comm 1 j] using b)]
   ·congr 1;omega
   ·have:=h (m+1) (by omega)
    simp at this;omega
theorem nV {f:Nat->aj}{d:Int}:∀ {L:List (Nat × Nat)},0<=d->(∀ x∈L,d<=(x.1:Int))->cR f d L=d
 | [],_,_=>rfl
 | x :: xs,h,hx=>by
  have h1:cU f d x=d:=by unfold cU;rw[eI (fun h2=>by have:=hx x (by simp);omega)]
  rw[cR,h1];exact nV h fun y b=>hx y (by simp[b])
theorem mT {f:Nat->aj}:∀ {L:List (Nat × Nat)} {i:Nat},(∀ j (h:j<L.length),(L[j]).1=i+j)->cR f (-1) L=aY f L
 | [],_,_=>rfl
 | x :: xs,i,h=>by
  have m:=h 0 (by simp);simp at m;have g:∀ j (c:j<xs.length),(xs[j]).1=i+1+j:=fun j c=>by have:=h (j+1) (by simpa using c);simp at this;omega
  rw[cR,aY];by_cases b:(f x.1).kind=3/\60<=x.2
  ·have h1:cU f (-1) x=(x.1:Int):=by unfold cU;rw[gA ⟨b.1,b.2,.inl (by omega)⟩]
   rw[gA b,h1];refine nV (by omega) fun y l=>?_;obtain⟨j,c,rfl⟩:=MU l;have:=g j c;omega
  ·have h1:cU f (-1) x=-1:=by unfold cU;rw[eI (fun h2=>b ⟨h2.1,h2.2.1⟩)]
   rw[eI b,h1];exact mT g
theorem mU {f:Nat->aj}{n:Nat}(hn:1<=n):∃ o,aC f n=o++[(n - 1,0)]:=by
 obtain⟨k,rfl⟩:∃ k,n=k+1:=⟨n - 1,by omega⟩
 exact⟨_,rfl⟩
theorem tE {f:Nat->aj}{n:Nat}(hn:1<=n)(h:∀ j (hj:j<(aC f n).length),((aC f n)[j]).1=j):(aC f n).length=n:=by
 obtain⟨o,b⟩:=mU (f:=f) hn;have hl:(aC f n).length=o.length+1:=by rw[b];simp
 have:=h o.length (by omega);simp only[b] at this;simp at this;omega
theorem FO {f:Nat->aj}{p k m:Nat}(hk:k<m)(h:aW f p (k+1)=QQ):aW f p m=QQ:=by
 induction m with
 | zero=>omega
 | succ j b =>
  by_cases e:k=j
  ·subst e;exact h
  ·rw[aW,b (by omega)];rfl
structure Gr (w:H)(b:Nat)(v0 v1 v2 v3:QS):Prop where
 c0:w.cell? (T b 0 Z)=N v0
 c1:w.cell? (T b 1 Z)=N v1
 c2:w.cell? (T b 2 Z)=N v2
 c3:w.cell? (T b 3 Z)=N v3
 z2:w.frozen? (T b 2 Z)=QQ
 z3:w.frozen? (T b 3 Z)=QQ
theorem Ck (w:H)(f g c b:QS)(t:TypeId):Gr (w.alloc (Q #[f,g,c,b] t)).drew w.heap.size f g c b:=⟨by simp,by simp,by simp,by simp,by simp,by simp⟩
theorem Ey {w:H}{b off n cap:Nat}:SLs w (((w.alloc (Q #[Y (N (T b off Z)) n cap] 25)).alloc (Q (bH n) 4)).alloc (Q #[Y (N (T b off Z)) n cap,Y (N (T (w.heap.size+1) 0 Z)) n n,Y Z 0 0,I J (-1)] 214)).drew (w.heap.size+1+1+1) b off n cap (w.heap.size+1+1) (w.heap.size+1) (fun _=>QQ) (Y Z 0 0) [] (-1):=by
 have g:(w.alloc (Q #[Y (N (T b off Z)) n cap] 25)).heap.size=w.heap.size+1:=by simp
 have h:((w.alloc (Q #[Y (N (T b off Z)) n cap] 25)).alloc (Q (bH n) 4)).heap.size=w.heap.size+1+1:=by simp
 have A:=(((q9 w).alloc ly (Q #[Y (N (T b off Z)) n cap] 25)).alloc (by simp) (Q (bH n) 4)).alloc (by simp;omega) (Q #[Y (N (T b off Z)) n cap,Y (N (T (w.heap.size+1) 0 Z)) n n,Y Z 0 0,I J (-1)] 214);have D:Below (w.heap.size+1+1) ((w.alloc (Q #[Y (N (T b off Z)) n cap] 25)).alloc (Q (bH n) 4)) (((w.alloc (Q #[Y (N (T b off Z)) n cap] 25)).alloc (Q (bH n) 4)).alloc (Q #[Y (N (T b off Z)) n cap,Y (N (T (w.heap.size+1) 0 Z)) n n,Y Z 0 0,I J (-1)] 214)).drew:=(br.alloc (by omega) _).drew;have hM:=fun q f=>pz (w.alloc (Q #[Y (N (T b off Z)) n cap] 25)) n q f;rw[g] at hM;have c:=Ck ((w.alloc (Q #[Y (N (T b off Z)) n cap] 25)).alloc (Q (bH n) 4)) (Y (N (T b off Z)) n cap) (Y (N (T (w.heap.size+1) 0 Z)) n n) (Y Z 0 0) (I J (-1)) 214;rw[h] at c;refine⟨c.c0,c.c1,⟨c.c2,c.z2⟩,⟨c.c3,c.z3⟩,fun q f=>⟨(D.cell (p:=(T (w.heap.size+1) q Z)) (j2 _)).trans (hM q f).1,(D.frozen (p:=(T (w.heap.size+1) q Z)) (j2 _)).trans (hM q f).2⟩,CP _ _ _ _,A.drew,by omega,by omega,by omega,?_⟩;simp
theorem vi (b off n cap:Nat)(f:Nat->aj)(w:H)(l:fZ f n)(hn1:1<=n)(hn:(n:Int)<=400)(s:RowDeed w b off n f)(j:∀ p,p<n->(f p).linksN<=200):Calls Tryz.prog 139 #[QV #[Y (N (T b off Z)) n cap],I J ((n:Int) - 1)] w fun e g=>∃ ZB i,e=QU (.pointer (N (T ZB 0 Z)))/\ZB<g.heap.size/\g.cell? (T ZB 2 Z)=N i/\g.ownsRow w.heap.size 3 1 i (aC f n).length ((aC f n).map fun z:Nat × Nat=>Value.int J (z.1:Int))/\g.cell? (T ZB 3 Z)=N (I J (cR f (-1) (aC f n)))/\Below w.heap.size w g:=by
 have u:(w.alloc (Q #[Y (N (T b off Z)) n cap] 25)).cell? (T w.heap.size 0 Z)=N (Y (N (T b off Z)) n cap):=by simp
 have r:=kE l hn1;have m:=zH w (w.heap.size+1+1+1) b off n cap (w.heap.size+1+1) (w.heap.size+1) f l hn s j n (n - 1) 0 (fun _=>QQ) (Y Z 0 0) [] (-1) _ (by omega) (by omega) (by omega) Ey rfl (by have:=r;unfold aC at this;simp;omega);rw[show((n - 1:Nat):Int)=(n:Int) - 1 by omega] at m;have x:=ae m;have o:=fun w=>zG n (by omega) w;clear m l s j;have HW:Hid (w.heap.size+1+1+1=(((w.alloc (Q #[Y (N (T b off Z)) n cap] 25)).alloc (Q (bH n) 4)).alloc (Q #[Y (N (T b off Z)) n cap,Y (N (T (w.heap.size+1) 0 Z)) n n,Y Z 0 0,I J (-1)] 214)).drew.heap.size):=by show _=_;simp
 go_enter Tryz.func139,Tryz.ntmps139;go_wp2_with fail;go_region_with fail;all_goals
  clear o u;go_wp2_with fail;refine x.mono ?_;rintro e w2 ⟨rfl,i,q,t⟩;have c:=ae q;clear q t;go_wp2;go_ret;refine⟨w.heap.size+1+1,i,rfl,?_,c.c2.1,?_,c.c3.1,c.low⟩
  ·have:=c.hz
   omega
  ·have h:=aE c.ord (base':=w.heap.size) (by omega)
   simp only[JT,List.map_map,KO] at h;exact h
theorem zJ (b o j:Nat):((T b o Z):Addr).add j=(T b (o+j) Z):=by unfold Addr.add;split<;>simp_all
theorem vj (a:Option Addr)(n cap:Nat)(f:Nat->aj)(w:H)(hn:(n:Int)<=1048576)(hv:SlDeed w a n f)(aq:∀ i,i<n->cS (f i))(ph:∀ i,i<n->eF (f i)):Calls Tryz.prog 88 #[QV #[Y a n cap]] w fun e w'=>e=QU (.tuple #[I J (dH f n).1,I J (dH f n).2])/\Below w.heap.size w w':=by
 have HV:=ae hv;have HM:=ae aq;have HZ:=ae ph;clear hv aq ph;have A0:=ae ((q9 w).alloc ly (Q #[Y a n cap] 25));have k0:(w.alloc (Q #[Y a n cap] 25)).cell? (T w.heap.size 0 Z)=N (Y a n cap):=by simp
 obtain⟨c1,c2,G⟩:∃ c1 c2,dH f n=(c1,c2):=⟨_,_,rfl⟩
 rw[G];have V:=ae G;clear G;by_cases h0:(n:Int)<1
 ·have l:c1=1/\c2=0:=by have:=V.out;unfold dH at this;rw[gA (.inl (by omega))] at this;simp only[IT] at this;omega
  clear V;obtain⟨l,A⟩:=l;subst l A;go_enter Tryz.func88,Tryz.ntmps88;go_wp2;go_ret2;exact⟨rfl,A0⟩
 by_cases h4:(400:Int)<(n:Int)
 ·have l:c1=1/\c2=0:=by have:=V.out;unfold dH at this;rw[gA (.inr (by omega))] at this;simp only[IT] at this;omega
  clear V;obtain⟨l,A⟩:=l;subst l A;go_enter Tryz.func88,Tryz.ntmps88;go_wp2;go_ret2;exact⟨rfl,A0⟩
 have S:Hid ((if aK (bi f) n≠-1 then ((2:Int),aK (bi f) n) else if aK (fun p=>aW f p p) n≠-1 then (3,aK (fun p=>aW f p p) n) else if bD 0 (aC f n)≠-1 then (4,bD 0 (aC f n)) else if aY f (aC f n)≠-1 then (5,aY f (aC f n)) else (0,0))=(c1,c2)):=by have:=V.out;unfold dH at this;rw[eI (by omega)] at this;exact this
 clear V;obtain⟨b,off,rfl,fd⟩:=HV.resolve_left (by omega);have HR:=ae fd;clear HV fd;have At:(n:Int)<=400:=by omega
 have Q0:w.heap.size<(w.alloc (Q #[Y (N (T b off Z)) n cap] 25)).heap.size:=by simp
 go_enter Tryz.func88,Tryz.ntmps88;go_wp2;generalize w.alloc (Q #[Y (N (T b off Z)) n cap] 25)=W at A0 k0 Q0 ⊢;go_loopw [5] (fun i wr=>∃ k:Nat,k<=n/\i=I J k/\Hid (∀ j,j<k->bi f j=QR)/\Hid (Below W.heap.size W wr)) (fun i _=>n - (intOf i).toNat);case atStart=>exact⟨0,by omega,rfl,fun j t=>absurd t (JP _),eL _ _⟩
 case round =>
  obtain⟨k,hk,rfl,r,K⟩:=hrel;have k1:=(K.cell (p:=(T w.heap.size 0 Z)) Q0).trans k0;have F:=ae (A0.trans (K.mono A0.size));by_cases q:k<n
  ·go_wp2_with fail
   refine(sJ b off n cap k f _ q (HR.below F ly) (HM k q).1 (HZ k q).2.2.1.2).mono ?_;rintro e w2 ⟨he,QY⟩;have y:=ae (F.trans (QY.mono F.size));have H1:=ae (K.trans (QY.mono K.size));clear QY;cases ZA:bi f k with
   | true =>
    rw[ZA] at he;subst he;have HD:=ae ZA;clear ZA;go_wp2
    exact⟨⟨k+1,by omega,by go_num,fun j t=>by
     by_cases e:j=k
     ·subst e;exact HD
     ·exact r j (by omega),H1⟩,by simp[intOf];omega⟩
   | false =>
    rw[ZA] at he;subst he;have u:=fM q ZA r.out;have l:c1=2/\c2=(k:Int):=by have:=S.out;rw[gA (by rw[u];omega),u] at this;simp only[IT] at this;omega
    obtain⟨l,A⟩:=l;clear S u ZA;subst l A;go_wp2;go_ret2;exact⟨rfl,y⟩
  ·have e:n=k:=by omega
   subst e;have QW:=ep r.out;have Q2:Hid ((if aK (fun p=>aW f p p) n≠-1 then ((3:Int),aK (fun p=>aW f p p) n) else if bD 0 (aC f n)≠-1 then (4,bD 0 (aC f n)) else if aY f (aC f n)≠-1 then (5,aY f (aC f n)) else (0,0))=(c1,c2)):=by have:=S.out;rw[eI (by rw[QW];simp)] at this;exact this
   have bt:=ae QW;clear S QW r;go_wp2;clear q hk k1;generalize wr=QX at K F ⊢;have k1:=(K.cell (p:=(T w.heap.size 0 Z)) Q0).trans k0;have ld:w.heap.size<QX.heap.size:=lj Q0 K.size;go_loopw [6] (fun i wr=>∃ k:Nat,k<=n/\i=I J k/\Hid (∀ j,j<k->aW f j j=QR)/\Hid (Below QX.heap.size QX wr)) (fun i _=>n - (intOf i).toNat);case atStart=>exact⟨0,by omega,rfl,fun j t=>absurd t (JP _),eL _ _⟩
   case round =>
    obtain⟨k,hk,rfl,r,M⟩:=hrel;by_cases q:k<n
    ·go_wp2
     generalize wr=W3 at M ⊢;go_loopw [7] (fun i wr=>∃ m:Nat,m<=k/\i=I J m/\Hid (aW f k m=QR)/\Hid (Below QX.heap.size QX wr)) (fun i _=>k - (intOf i).toNat);case atStart=>exact⟨0,by omega,rfl,rfl,M⟩
     case round =>
      obtain⟨m,hm,rfl,HN,QZ⟩:=hrel;have k2:=(QZ.cell (p:=(T w.heap.size 0 Z)) ld).trans k1;have y:=ae (F.trans (QZ.mono F.size));by_cases DQ:m<k
      ·have d0:=((HR.below y ly).2 m (by omega)).1
       have d1:=((HR.below y ly).2 k q).1;have hm0:(0:Int)<=m:=by omega
       have hmn:(m:Int)<n:=by omega
       have Bk:(0:Int)<=k:=by omega
       have hkn:(k:Int)<n:=by omega
       cases hq:((f m).name.toList == (f k).name.toList) with
       | true =>
        have n9:aW f k k=QQ:=FO DQ (by rw[aW,hq];simp);have u:=fM (g:=fun p=>aW f p p) q n9 r;have l:c1=3/\c2=(k:Int):=by have:=Q2.out;rw[gA (by rw[u];omega),u] at this;simp only[IT] at this;omega
        obtain⟨l,A⟩:=l;clear Q2 u n9;subst l A;go_wp2_with fail;go_quiet (fail);have G2:=ae (F6 y nq);go_wp2;go_ret2;exact⟨rfl,G2⟩
       | false =>
        have DE:Hid (aW f k (m+1)=QR):=by show aW f k (m+1)=QR;rw[aW,HN.out,hq];rfl
        go_wp2_with fail;go_quiet (fail);have H5:=ae (F6 QZ nq);go_wp2;exact⟨⟨m+1,by omega,by go_num,DE,H5⟩,by simp[intOf];omega⟩
      ·have e:m=k:=by omega
       subst e;go_wp2
       exact⟨⟨m+1,by omega,by go_num,fun j t=>by
        by_cases e:j=m
        ·subst e;exact HN
        ·exact r j (by omega),QZ⟩,by simp[intOf];omega⟩
    ·have e:n=k:=by omega
     subst e;have sm:=ep (g:=fun p=>aW f p p) r;have D:Hid ((if bD 0 (aC f n)≠-1 then ((4:Int),bD 0 (aC f n)) else if aY f (aC f n)≠-1 then (5,aY f (aC f n)) else (0,0))=(c1,c2)):=by have:=Q2.out;rw[eI (by rw[sm];simp)] at this;exact this
     clear Q2 sm r;have k2:=(M.cell (p:=(T w.heap.size 0 Z)) ld).trans k1;have y:=ae (F.trans (M.mono F.size));have qr:=ae (kE (jw bt) (n:=n) (by omega));have hn1:1<=n:=by omega
     go_wp2_with fail;refine(vi b off n cap f _ (jw bt) hn1 At (HR.below y ly) (oI bt)).mono ?_;rintro e w5 ⟨ZB,ov,rfl,n8,Fd,hO,mv,QY⟩;have G5:=ae (y.trans (QY.mono y.size));obtain⟨o,ho⟩:=mU (f:=f) hn1;have th:0<(aC f n).length:=by rw[ho];simp
     have O:=ae (fun h=>tE (f:=f) hn1 h);clear ho o;obtain⟨L,hL⟩:∃ L,L=aC f n:=⟨_,rfl⟩
     rw[<-hL] at hO mv th D qr O;clear hL;obtain⟨g,oc,rfl⟩:∃ g c,ov=Y (N (T g 0 Z)) L.length c:=by
      rcases hO.2 with ⟨_,h2⟩ | ⟨g,c,cur,h1,_⟩
      ·omega
      ·exact⟨g,c,h1⟩
     have ur:Hid (∀ j (h:j<L.length),w5.cell? (T g j Z)=N (I J ((L[j]).1:Int))/\g<w5.heap.size):=by intro j t;have h1:=hO.cells (g:=g) rfl j (I J ((L[j]).1:Int)) (by rw[IN,gq t];rfl);rw[zJ,DN] at h1;exact⟨h1,(hO.lt g rfl).2⟩
     have hll:=qr.out;clear hO QY k2;go_wp2;go_loopw [9] (fun i wr=>∃ k:Nat,k<=n/\i=I J k/\Hid (∀ j,j<k->∃ h:j<L.length,(L[j]).1=j)/\Hid (Below w5.heap.size w5 wr)) (fun i _=>n - (intOf i).toNat);case atStart=>exact⟨0,by omega,rfl,fun j t=>absurd t (JP _),eL _ _⟩
     case round =>
      obtain⟨k,hk,rfl,r,C⟩:=hrel;have A:=(C.cell (p:=(T ZB 2 Z)) n8).trans Fd;have e3:=(C.cell (p:=(T ZB 3 Z)) n8).trans mv;have G6:=ae (G5.trans (C.mono G5.size));by_cases q:k<n
      ·by_cases la:k<L.length
       ·obtain⟨q1,q2⟩:=ur.out k la
        have d0:=(C.cell (p:=(T g k Z)) q2).trans q1;have hkl':(k:Int)<(L.length:Int):=by omega
        have hno:decide ((L.length:Int)<=(k:Int))=QQ:=by simp;omega
        have hno':decide (L.length<=k)=QQ:=by simp;omega
        have Bk:(0:Int)<=k:=by omega
        obtain⟨z,hz⟩:∃ z,z=(L[k]).1:=⟨_,rfl⟩
        rw[<-hz] at d0;have R:=ae hz;clear q1 q2 hz;by_cases x:(z:Int)=(k:Int)
        ·have HN:Hid (∀ j,j<k+1->∃ h:j<L.length,(L[j]).1=j):=fun j t=>by
          by_cases e:j=k
          ·subst e
           exact⟨la,by rw[<-R.out];omega⟩
          ·exact r j (by omega)
         obtain rfl:z=k:=by omega
         clear x R;go_wp2;exact⟨⟨z+1,by omega,by go_num,HN,C⟩,by simp[intOf];omega⟩
        ·have s:bD 0 L=(k:Int):=by
          have:=Cj (L:=L) (i:=0) (j:=k) la (fun m hm=>by obtain⟨h,e⟩:=r.out m hm;omega) (by rw[<-R.out];omega);simpa using this
         have l:c1=4/\c2=(k:Int):=by have:=D.out;rw[gA (by rw[s];omega),s] at this;simp only[IT] at this;omega
         have hne:((z:Int) != (k:Int))=QR:=by simpa using x
         obtain⟨l,B⟩:=l;clear D s R;subst l B;go_wp2;go_ret2;exact⟨rfl,G6⟩
       ·have:=O.out fun j t=>by obtain⟨h,e⟩:=r.out j (by omega);exact e
        omega
      ·have e:n=k:=by omega
       subst e;have Q9:∀ j (h:j<L.length),(L[j]).1=0+j:=fun j t=>by obtain⟨h,e⟩:=r.out j (by omega);omega
       have s:=zI Q9;rw[mT Q9] at e3;have E:Hid ((if aY f L≠-1 then ((5:Int),aY f L) else (0,0))=(c1,c2)):=by have:=D.out;rw[eI (by rw[s];simp)] at this;exact this
       have P:=ru f L;generalize aY f L=X at e3 E P;have ro:=ae P;clear D s Q9 P A;by_cases x:X=-1
       ·have l:c1=0/\c2=0:=by
         have:=E.out;rw[eI (by rw[x];simp)] at this;simp only[IT] at this;omega
        obtain⟨l,B⟩:=l;have ZA:decide (0<=X)=QQ:=by rw[x];rfl
        clear E x;subst l B;go_wp2;go_ret2;exact⟨rfl,G6⟩
       ·have l:c1=5/\c2=X:=by
         have:=E.out;rw[gA x] at this;simp only[IT] at this;omega
        have P:0<=X:=ro.resolve_left x;obtain⟨l,B⟩:=l;clear E x ro;subst l B;go_wp2_with fail;go_quiet (fail);have G7:=ae (F6 G6 nq);go_wp2;go_ret2;exact⟨rfl,G7⟩
theorem oJ (a:Option Addr)(n cap:Nat)(f:Nat->aj)(w:H)(hn:(n:Int)<=1048576)(o:SlDeed w a n f)(b:∀ i,i<n->cS (f i))(g:∀ i,i<n->eF (f i)):Calls Tryz.prog 41 #[QV #[Y a n cap]] w fun e q=>e=QU (QT (aZ f n))/\Below w.heap.size w q:=by
 have s:=ae o;have u:=ae b;have t:=ae g;clear o b g;have j:=ae ((q9 w).alloc ly (Q #[Y a n cap] 25));obtain⟨r,h⟩:∃ r,r=aZ f n:=⟨_,rfl⟩
 rw[<-h];have l:=ae (show r=decide ((dH f n).1=0) from h);clear h;go_enter Tryz.func41,Tryz.ntmps41;go_wp2_with fail;refine(vj a n cap f _ hn (s.below j ly) u t).mono ?_;rintro e w1 ⟨rfl,p⟩;have m:=ae (j.trans (p.mono j.size));clear p;generalize (dH f n).1=c at l ⊢;generalize (dH f n).2=d;cases r with
 | true =>obtain rfl:c=0:=J8 l.symm;go_wp2;go_ret;exact⟨rfl,m⟩
 | false =>
  have hc:(c == 0)=QQ:=by have:¬ c=0:=QK l.symm;simpa using this
  go_wp2;go_ret;exact⟨rfl,m⟩
end Go.Proofs.YtamacmnikdejeaaGreatDoor.Vp
