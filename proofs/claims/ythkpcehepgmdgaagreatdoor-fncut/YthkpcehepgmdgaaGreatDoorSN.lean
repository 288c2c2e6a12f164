import Derived.Test.YthkpcehepgmdgaaGreatDoorSI
import Derived.Test.YthkpcehepgmdgaaGreatDoorTZ
set_option maxRecDepth 100000
set_option maxHeartbeats 8000000
open Go renaming Addr.mk->Q,Value.slice->Z,Value.string->U,Value.int->J,Value.bool->ZC,Value.agg->ZH,Obj.cells->N,IntKind.i64->I,World->G,Value->ZD,Ending.returned->ZG,World.heap->h,World.ownsRow->ZX,World.alloc->ZV,World.cell?->ZW,World.setCell->ZT,Proofs.Tryz.prog->Pg
open Option renaming none->Y,some->T
open Bool renaming false->ZB,true->ZF
open Array renaming size->A
open List renaming length->ZU
namespace Go.Proofs.YthkpcehepgmdgaaGreatDoor.Vp
open Tryz RowKit
variable {n b H M off cap:Nat}{w w' W:G}{f:Nat->af}{L:List (Nat × Nat)}
theorem fW (a:Option Addr)(n cap:Nat)(f:Nat->af)(w:G)(hn:(n:Int)<=1048576)(o:SlDeed w a n f)(ZZ:(n:Int)<=cap)(b:∀i,i<n->bJ (f i))(q:Tab w):Calls Pg 17 #[ZH #[Z a n cap]] w λe x=>e=ZG (ZC (aK f n))/\Below (A (h w)) w x:=by
 have u:=ae o;have t:=ae b;have s:=ae q;clear o b q;have g:=ae ((q9 w).alloc ly (N #[Z a n cap] 25));obtain⟨r,l⟩:∃r,r=aK f n:=⟨_,rfl⟩
 rw[<-l];have j:=ae (show r=decide ((dl f n).1=0) from l);clear l;go_enter func17,ntmps17;go_wp2_with fail;refine(vm a n cap f _ hn (u.aa g ly) ZZ t (s.aa g s.1)).mono ?_;rintro e w1 ⟨rfl,m⟩;have p:=ae (g.trans (m.mono g.size));clear m;generalize (dl f n).1=c at j ⊢;generalize (dl f n).2=d;cases r with
 |true =>obtain rfl:c=0:=MA j.symm;go_wp2;go_ret;exact⟨rfl,p⟩
 |false =>
  have hc:(c == 0)=ZB:=by have:¬ c=0:=UL j.symm;simpa using this
  go_wp2;go_ret;exact⟨rfl,p⟩
theorem Ez:(Pg.info? 3).map (λi=>(i.zero,i.size,i.bytes))=T (T (J I 0),1,8):=by kernel_rfl
theorem SixB.ab{g m l j f i:ZD}(ZZ:SixB w b g m l j f i)(hz:A (h w)<=A (h w'))(e:w'.heap[b]?=w.heap[b]?):SixB w' b g m l j f i :=
 have c:∀o,ZW w' (Q b o Y)=ZW w (Q b o Y):=λo=>cq (a:=(Q b o Y)) e
 ⟨lj ZZ.lt hz,(c 0).trans ZZ.c0,(c 1).trans ZZ.c1,(c 2).trans ZZ.c2,(c 3).trans ZZ.c3,(c 4).trans ZZ.c4,(c 5).trans ZZ.c5⟩
theorem TyAt.ab{g:Nat}{e:TypeId}(ZZ:TyAt w g e)(hb:w'.heap[g]?=w.heap[g]?):TyAt w' g e:=by obtain⟨c,b⟩:=ZZ;exact⟨c,hb.trans b⟩
theorem Kpt.grown{f:Nat}{i:G}{v:ZD}{m:List ZD}(q:ZX W f 3 1 v n m)(j:W.grownBy i v.ownBlock):Kpt H M W i:=by
 refine⟨j.size,λk e o p _ _=>?_⟩;obtain⟨c,b⟩:=o;refine j.block k (A9.1 b).1 λZZ=>?_;rcases q.2 with ⟨rfl,_⟩|⟨g,cap,cur,rfl,_,l,_⟩
 {simp[Value.ownBlock] at ZZ};{simp[Value.ownBlock] at ZZ;subst ZZ;rw[l] at b;simp at b;exact p b.2.symm}
theorem SLs.app{g f:G}{n1:Nat}{s:Nat->Bool}{u v:ZD}{ord ord':List Nat}{p:Int}(ZZ:SLs g W n1 b off n cap H M s u ord p)(hz:A (h W)<=A (h f))(m:f.heap[H]?=W.heap[H]?)(l:f.heap[M]?=W.heap[M]?)(t:Below (A (h g)) g f)(i:ZX f n1 3 1 v (ZU ord') (ord'.map λq:Nat=>Value.int I (q:Int))):SLs g (ZT f (Q H 2 Y) v) n1 b off n cap H M s v ord' p:=by
 have c:∀o,ZW f (Q H o Y)=ZW W (Q H o Y):=λo=>cq (a:=(Q H o Y)) m;have z:∀o,f.frozen? (Q H o Y)=W.frozen? (Q H o Y):=λo=>LF (a:=(Q H o Y)) m;have j:∀o,o≠2->ZW (ZT f (Q H 2 Y) v) (Q H o Y)=ZW f (Q H o Y):=λo i=>sq _ _ _ _ (by first|(simp;done)|(simp;exact λe=>i e.symm)|(simp;omega));refine⟨(j 0 (by omega)).trans ((c 0).trans ZZ.c0),(j 1 (by omega)).trans ((c 1).trans ZZ.c1),⟨AT _ _ _ (by rw[c 2,ZZ.c2.1];rfl),?_⟩,⟨(j 3 (by omega)).trans ((c 3).trans ZZ.c3.1),?_⟩,λq r=>⟨(sq _ _ _ _ (by first|(simp;done)|(simp;exact λe=>absurd e.symm ZZ.ne)|(simp;exact λe=>absurd e ZZ.ne)|(simp;omega))).trans ((cq (a:=(Q M q Y)) l).trans (ZZ.row q r).1),?_⟩,ou i ZZ.hH.2 _,t.setCell ZZ.hH.1 _,ZZ.hH,ZZ.hM,ZZ.ne,by have:=ZZ.hz;simp;omega⟩;{rw[NU];exact(z 2).trans ZZ.c2.2};{rw[NU];exact(z 3).trans ZZ.c3.2};{rw[NU];exact(LF (a:=(Q M q Y)) l).trans (ZZ.row q r).2}
theorem ri (o:G)(n1 b off n cap H M:Nat)(f:Nat->af)(hA:cG f n)(hn:(n:Int)<=400)(hf:RowDeed o b off n f)(hlk:∀p,p<n->(f p).f<=200):∀(k p d:Nat) (s:Nat->Bool) (ZM:ZD) (ord:List Nat) (m:Int) (W:G),p<k->p<n->d+p<=1000->SLs o W n1 b off n cap H M s ZM ord m->s p=ZB->ZU ord+(lst f k p d s).2.length<=1000 ->
   Calls Pg 49 #[.pointer (T (Q H 0 Y)),J I (p:Int),J I (d:Int)] W λe W'=>e=ZG (.tuple #[])/\∃r,SLs o W' n1 b off n cap H M (lst f k p d s).1 r (ord++(lst f k p d s).2.map (λz:Nat × Nat=>z.1)) (cP f m (lst f k p d s).2)/\Kpt H M W W':=by
 intro k;induction k with
 |zero=>intro p d s ZM ord m W ZZ;omega
 |succ k ih =>
  intro p d s ZM ord m W hpk ZJ hdp hS hs hN;have HS:=ae hS;have HN:=ae hN;have Ic:=ae ih;have HA:=ae hA;have HF:=ae hf;have HLK:=ae hlk;obtain⟨Hm,Hz,Ib,Hv,Ih⟩:=KQ Ez;obtain⟨ur,th,la,sm,⟨a0,ZY,n8,q4⟩,⟨a1,u,n7,q5⟩⟩:=hf.2 p ZJ;have ZL:=ae (hS.mark ZJ);have hb:=hf.1;obtain⟨x,hx⟩:∃x,x=f p:=⟨_,rfl⟩
  rw[<-hx] at ur th la sm n8 n7 q5;have hm2:x.f<=200:=by rw[hx];exact hlk p ZJ
  have HL:=ae q5;have HX:=ae hx;have p0:=(ZL.low.cell (p:=(Q b (off+p*6) Y)) hb).trans ur;have p1:=(ZL.low.cell (p:=(Q b (off+p*6+1) Y)) hb).trans th;have p2:=(ZL.low.cell (p:=(Q b (off+p*6+2) Y)) hb).trans la;have p3:=(ZL.low.cell (p:=(Q b (off+p*6+3) Y)) hb).trans sm;have p4:=(ZL.low.cell (p:=(Q b (off+p*6+4) Y)) hb).trans n8;have p5:=(ZL.low.cell (p:=(Q b (off+p*6+5) Y)) hb).trans n7;obtain⟨K,hK⟩:∃K,K=lks (lst f k) (f p) d s:=⟨_,rfl⟩
  have ph:Hid (lst f (k+1) p d s=(put (K x.f).1 p,(K x.f).2++[(p,d)])):=by rw[hK,hx];rfl
  have Hn:Hid (K 0=(s,[])):=by rw[hK];rfl
  have Ho:Hid (∀j,K (j+1)=if (x.m j).ask=ZF/\(K j).1 (x.m j).L.toNat=ZB then ((lst f k (x.m j).L.toNat (d+1) (K j).1).1,(K j).2++(lst f k (x.m j).L.toNat (d+1) (K j).1).2) else K j):=λj=>by rw[hK,hx];rfl
  have Hu:Hid (∀i,i<=x.f->(K i).2 <+: (K x.f).2):=λi hi=>by rw[hK];exact pn hi
  have X:Hid (cT f m (p,d)=if x.H=3/\60<=d/\(m<0∨(p:Int)<m) then (p:Int) else m):=by rw[hx];rfl
  have Hk:H<A (h W):=by have:=hS.hH;have:=hS.hz;omega
  have Ik:=hS.c1;obtain⟨Ig,Ia⟩:=hS.row p ZJ;have Ij:=ZL.c0;have hp0:(0:Int)<=p:=by omega
  have hpn':(p:Int)<n:=by omega
  have L:=ae (ZL.aa (br.alloc ly (N #[U x.e,J I x.H,J I x.E,U x.B,Z a0 x.l ZY,Z a1 x.f u] 44)));have ZP:=ae (kM (ZT W (Q M p Y) (ZC ZF)) (U x.e) (J I x.H) (J I x.E) (U x.B) (Z a0 x.l ZY) (Z a1 x.f u) 44);have S:Hid (TyAt (ZV (ZT W (Q M p Y) (ZC ZF)) (N #[U x.e,J I x.H,J I x.E,U x.B,Z a0 x.l ZY,Z a1 x.f u] 44)) (A (h (ZT W (Q M p Y) (ZC ZF)))) 44):=⟨_,nD _ _⟩
  have B:=ae ((Kpt.setCell (H:=H) (M:=M) (j:=p) W M (.inr rfl) (ZC ZF)).trans (Kpt.q (br.alloc ly (N #[U x.e,J I x.H,J I x.E,U x.B,Z a0 x.l ZY,Z a1 x.f u] 44))));have DQ:A (h (ZT W (Q M p Y) (ZC ZF)))=A (h W):=by simp
  rw[DQ] at ZP S;clear hS hN ih hA hf hlk q4 q5 hx hK ur th la sm n8 n7 hs DQ ZL;go_enter func49,ntmps49;go_upto_region 2 with fail;generalize World.alloc (World.setCell W _ _) _=W2 at L ZP S B ⊢;clear p0 p1 p2 p3 p4 p5 Ik Ig Ia Ij;obtain⟨td,ZK⟩:∃td,td=decide (x.H=3/\60<=d):=⟨_,rfl⟩
  have HD:=ae ZK;clear ZK;have c1:=ZP.c1;go_cut [28] (λH7 wx=>H7=ZC td/\wx=W2);case first =>
   cases ZO:(x.H == 3) with
   |false =>
    obtain rfl:td=ZB:=by rw[HD.out];simp at ZO;simp[ZO]
    go_wp2;go_meet;exact⟨rfl,rfl⟩
   |true =>
    by_cases h6:(60:Int)<=(d:Int)
    ·obtain rfl:td=ZF:=by rw[HD.out];simp at ZO;simp[ZO];omega
     go_wp2;go_meet;exact⟨by first|rfl|(simp;done)|(simp;omega),rfl⟩
    ·obtain rfl:td=ZB:=by rw[HD.out];simp;omega
     go_wp2;go_meet;exact⟨by first|rfl|(simp;done)|(simp;omega),rfl⟩
  case rest =>
  obtain⟨rfl,rfl⟩:=hcut;clear c1;have hHD:H<A (h W):=Hk;go_upto_if 28 with fail;go_cut [] (λwx=>Hid (SLs o wx n1 b off n cap H M (put s p) ZM ord (cT f m (p,d)))/\Hid (SixB wx (A (h W)) (U x.e) (J I x.H) (J I x.E) (U x.B) (Z a0 x.l ZY) (Z a1 x.f u))/\Hid (TyAt wx (A (h W)) 44)/\Hid (Kpt H M W wx));case first =>
   cases td with
   |false =>
    have ZS:cT f m (p,d)=m:=by rw[X.out,eT (λZZ=>by have:=HD.out;simp at this;have:=this ZZ.1;omega)]
    have l:Hid (SLs o wc n1 b off n cap H M (put s p) ZM ord (cT f m (p,d))):=by show SLs _ _ _ _ _ _ _ _ _ _ _ _ _;rw[ZS];exact L
    clear ZS;go_wp2;go_meet;exact⟨l,ZP,S,B⟩
   |true =>
    have ZK:x.H=3/\60<=d:=by have:=HD.out;simpa using this
    obtain⟨e3,z3⟩:=L.c3;have R:=ae ZK;clear ZK;have e4:(ZT wc (Q H 3 Y) (J I (p:Int))).heap[A (h W)]?=wc.heap[A (h W)]?:=qh _ _ _ _ (by show (A (h W))≠H;omega);have SP:=ae (L.deep (p:Int));have DP:=ae (ZP.ab (w':=ZT wc (Q H 3 Y) (J I (p:Int))) (by simp) e4);have YP:=ae (S.ab e4);have Fk:=ae (B.trans (Kpt.setCell (H:=H) (M:=M) (j:=3) wc H (.inl rfl) (J I (p:Int))));clear e4;by_cases g1:m<0
    ·have ZS:cT f m (p,d)=(p:Int):=by rw[X.out,hU ⟨R.1,R.2,.inl g1⟩]
     have l:Hid (SLs o (ZT wc (Q H 3 Y) (J I (p:Int))) n1 b off n cap H M (put s p) ZM ord (cT f m (p,d))):=by show SLs _ _ _ _ _ _ _ _ _ _ _ _ _;rw[ZS];exact SP
     clear ZS;go_wp2;go_meet;exact⟨l,DP,YP,Fk⟩
    ·by_cases g2:(p:Int)<m
     ·have ZS:cT f m (p,d)=(p:Int):=by rw[X.out,hU ⟨R.1,R.2,.inr g2⟩]
      have l:Hid (SLs o (ZT wc (Q H 3 Y) (J I (p:Int))) n1 b off n cap H M (put s p) ZM ord (cT f m (p,d))):=by show SLs _ _ _ _ _ _ _ _ _ _ _ _ _;rw[ZS];exact SP
      clear ZS;go_wp2;go_meet;exact⟨l,DP,YP,Fk⟩
     ·have ZS:cT f m (p,d)=m:=by rw[X.out,eT (λZZ=>by have:=ZZ.2.2;omega)]
      have l:Hid (SLs o wc n1 b off n cap H M (put s p) ZM ord (cT f m (p,d))):=by show SLs _ _ _ _ _ _ _ _ _ _ _ _ _;rw[ZS];exact L
      clear ZS;go_wp2;go_meet;exact⟨l,ZP,S,B⟩
  case rest =>
  clear L ZP S B;obtain⟨L,ZP,S,B⟩:=hcut;obtain⟨C,bt⟩:∃C,C=cT f m (p,d):=⟨_,rfl⟩
  rw[<-bt] at L;have Hj:=ae bt;clear bt X;have Hr:Hid (C=cT f m (p,d)):=Hj.out;go_wp2;go_loopw [7] (λi wr=>∃(j:Nat) (r:ZD),j<=x.f/\i=J I j/\Hid (SLs o wr n1 b off n cap H M (put (K j).1 p) r (ord++(K j).2.map (λz:Nat × Nat=>z.1)) (cP f C (K j).2))/\Hid (SixB wr (A (h W)) (U x.e) (J I x.H) (J I x.E) (U x.B) (Z a0 x.l ZY) (Z a1 x.f u))/\Hid (TyAt wr (A (h W)) 44)/\Hid (Kpt H M W wr)) (λi _=>x.f - (intOf i).toNat);case atStart=>exact⟨0,ZM,by omega,rfl,by rw[Hn.out];simp only[T7,QU,cP];exact L,ZP,S,B⟩
  case round =>
   clear L ZP S B;obtain⟨j,r,hj,rfl,l,D3,Y3,ex⟩:=hrel;have e5:=D3.c5;have ZN:A (h W)<A (h wr):=D3.lt;by_cases DS:j<x.f
   ·obtain⟨lb,lo,rfl,ro⟩:=(HL.aa l.low ly).resolve_left (by omega);obtain⟨l0,l1,l2,l3⟩:=ro.2 j DS;have At:=Ho.out j;have n9:(x.m j).ask=ZF->(x.m j).L.toNat<p/\0<=(x.m j).L:=λZZ=>by have:=HA.out p ZJ j (by rw[<-HX.out];exact DS);rw[<-HX.out] at this;exact this ZZ
    generalize x.m j=y at l0 l1 l2 l3 At n9;have qr:=ae At;have Fm:=ae n9;clear At n9 l0 l2 ro;cases hask:y.ask with
    |false =>
     rw[hask] at l1;have t:K (j+1)=K j:=by rw[qr.out,eT (by rw[hask];simp)]
     have V:=ae t;clear t;go_wp2_with fail;go_quiet (fail);have E:=ae (BG (q9 wr) nq);have S4:=ae (l.aa E);have D4:=ae (D3.ab E.size (E.block _ ZN));have Y4:=ae (Y3.ab (E.block _ ZN));have P:=ae (ex.trans (Kpt.q E));go_wp2;exact⟨⟨j+1,r,by omega,by go_num,by rw[V.out];exact S4,D4,Y4,P⟩,by simp[intOf];omega⟩
    |true =>
     rw[hask] at l1;obtain⟨q,hq⟩:∃q:Nat,y.L=(q:Int):=⟨y.L.toNat,by have:=(Fm hask).2;omega⟩
     have Ht:q<p:=by have:=(Fm hask).1;rw[hq] at this;simpa using this
     rw[hq] at l3;have f1:=l.c1;obtain⟨f2,_⟩:=l.row q (by omega);have ld:put (K j).1 p q=(K j).1 q:=by simp[put];omega
     rw[ld] at f2;have hq0:(0:Int)<=q:=by omega
     have hqn:(q:Int)<n:=by omega
     have Hw:=ae ld;clear ld;cases hl:(K j).1 q with
     |true =>
      rw[hl] at f2;have t:K (j+1)=K j:=by rw[qr.out,eT (by rw[hq];simp[hl])]
      have V:=ae t;clear t;go_wp2_with fail;go_quiet (fail);have E:=ae (BG (q9 wr) nq);have S4:=ae (l.aa E);have D4:=ae (D3.ab E.size (E.block _ ZN));have Y4:=ae (Y3.ab (E.block _ ZN));have P:=ae (ex.trans (Kpt.q E));go_wp2;exact⟨⟨j+1,r,by omega,by go_num,by rw[V.out];exact S4,D4,Y4,P⟩,by simp[intOf];omega⟩
     |false =>
      rw[hl] at f2;have t:K (j+1)=((lst f k q (d+1) (K j).1).1,(K j).2++(lst f k q (d+1) (K j).1).2):=by rw[qr.out,hU ⟨hask,by rw[hq];simpa using hl⟩,hq];simp
      have V:=ae t;have Bk:=Hu.out (j+1) (by omega);rw[t] at Bk;have Ie:=ae Bk;have Id:=ae hl;clear t Bk;have fd:((d+1:Nat):Int)=(d:Int)+1:=by omega
      have HC:Hid (∀W5,SLs o W5 n1 b off n cap H M (put (K j).1 p) r (ord++(K j).2.map (λz:Nat × Nat=>z.1)) (cP f C (K j).2)->Calls Pg 49 #[.pointer (T (Q H 0 Y)),J I (q:Int),J I ((d:Int)+1)] W5 λe W'=>e=ZG (.tuple #[])/\∃ZQ,SLs o W' n1 b off n cap H M (put (K (j+1)).1 p) ZQ (ord++(K (j+1)).2.map (λz:Nat × Nat=>z.1)) (cP f C (K (j+1)).2)/\Kpt H M W5 W'):=by
       intro W5 h5;have DE:=ws HA.out k q (d+1) (K j).1 p (by omega) Ht;have GS:(ord++(K j).2.map (λz:Nat × Nat=>z.1)).length+(lst f k q (d+1) (put (K j).1 p)).2.length<=1000:=by rw[DE];have ZO:=HN.out;rw[ph.out] at ZO;have h4:=Ie.length_le;simp only[gB,p6,J1,LR] at ZO h4 ⊢;omega
       have ZZ:=Ic.out q (d+1) (put (K j).1 p) r (ord++(K j).2.map (λz:Nat × Nat=>z.1)) (cP f C (K j).2) W5 (by omega) (by omega) (by omega) h5 (Hw.trans Id) GS;rw[fd,DE] at ZZ;refine ZZ.mono λe W' ZZ=>?_;obtain⟨he,ZQ,hs,hk⟩:=ZZ;refine⟨he,ZQ,?_,hk⟩;rw[V.out];simp only[AI,lX,<-KK];exact hs
      clear fd;go_wp2_with fail;go_quiet (fail);have E:=ae (BG (q9 wr) nq);have S4:=ae (l.aa E);have D4:=ae (D3.ab E.size (E.block _ ZN));have Y4:=ae (Y3.ab (E.block _ ZN));have P:=ae (ex.trans (Kpt.q E));have g5:=D4.c5;have Fd:=(E.cell (p:=(Q lb (lo+j*4+3) Y)) (by have:=(HL.aa l.low ly);rcases this with ZZ|⟨b',o',hv,hr⟩;(omega);(cases hv;exact hr.1))).trans l3;clear e5 f1 f2 l1 l3;generalize wr.drewN nq=W5 at S4 D4 Y4 P g5 Fd ⊢;go_wp2_with fail;refine(HC W5 S4).mono ?_;rintro e W6 ⟨rfl,ZQ,hs,hk⟩;have S5:=ae hs;have eD:=hk.keep (A (h W)) _ Y4.out (by decide) (by omega) (by have:=HS.hM;have:=HS.hz;omega);have D5:=ae (D4.ab hk.size eD);have Y5:=ae (Y4.ab eD);have Hq:=ae (P.trans hk);clear hs hk eD g5 Fd;go_wp2;exact⟨⟨j+1,ZQ,by omega,by go_num,S5,D5,Y5,Hq⟩,by simp[intOf];omega⟩
   ·have e:j=x.f:=by omega
    subst e;obtain⟨f2,z2⟩:=l.c2;obtain⟨oa,oc,rfl⟩:∃a c,r=Z a (ord++(K x.f).2.map (λz:Nat × Nat=>z.1)).length c:=by
     rcases l.ord.2 with ⟨h1,h2⟩|⟨g,c,Hl,h1,_⟩
     {exact⟨Y,0,by rw[h1,h2]⟩};{exact⟨_,_,h1⟩}
    have Hx:(ord++(K x.f).2.map (λz:Nat × Nat=>z.1)).length<=1000:=by have ZO:=HN.out;rw[ph.out] at ZO;simp only[gB,p6,J1,LR] at ZO ⊢;omega
    generalize hO:ord++(K x.f).2.map (λz:Nat × Nat=>z.1)=O at l f2 Hx ⊢;have HO:=ae hO;clear hO;have H6:H<A (h wr):=by have:=l.hH;have:=l.hz;omega
    have H9:M<A (h wr):=by have:=l.hM;have:=l.hz;omega
    go_wp2_with (at_builtin;refine DD _ rfl (.tmp 88) (.tmp 90) 64 rfl n1 3 Hm (J I 0) 1 8 underlying64 Hz Ib Hv Ih rfl (by decide) _ (ZU O) (O.map λq:Nat=>Value.int I (q:Int)) (by simp[Act.eval]) (l.ord.alloc _) (Q (A (h wr)) 0 Y) 1 1 [J I (p:Int)] (by simp[Act.eval]) rfl (cell_one_new _ _ _) (by simp[Value.oneCell']) (by unfold maxLen;omega) (by omega) (by have:=l.hz;simp;omega) ?_;intro vy wy aq D Fn;have OW:Hid (ZX wy n1 3 1 vy (O++[p]).length ((O++[p]).map λq:Nat=>Value.int I (q:Int))):=(by show World.ownsRow _ _ _ _ _ _ _;rw[gB,AI];exact aq);have GR:=ae D;have eH:wy.heap[H]?=wr.heap[H]?:=(D.block H (by simp;omega) (λe=>by have:=(l.ord.lt H e.symm).1;have:=l.hH.2;omega)).trans (((q9 wr).alloc ly _).block _ H6);have eM:wy.heap[M]?=wr.heap[M]?:=(D.block M (by simp;omega) (λe=>by have:=(l.ord.lt M e.symm).1;have:=l.hM.2;omega)).trans (((q9 wr).alloc ly _).block _ H9);have g2:=(cq (a:=(Q H 2 Y)) eH).trans f2;have y2:=(LF (a:=(Q H 2 Y)) eH).trans z2;obtain⟨gs,cs,rfl⟩:∃g c,vy=Z (T (Q g 0 Y)) (ZU O+1) c:=(by rcases aq.2 with ⟨_,h2⟩|⟨g,c,Hl,h1,_⟩;(omega);exact⟨g,c,h1⟩);have EH:=ae eH;have EM:=ae eM;clear aq D Fn eH eM);have AL:=(q9 wr).alloc ly (N #[J I (p:Int)] 3);have Ii:A (h wr)<=A (h wy):=AD AL.size GR.size;have Hi:Below (A (h o)) o wy:=bg (l.low.alloc l.low.size (N #[J I (p:Int)] 3)) GR (by have:=l.low.size;simp;omega) (λj e=>by have:=(l.ord.lt j e).1;have:=l.hH;omega);have F1:=l.app (v:=Z (T (Q gs 0 Y)) (ZU O+1) cs) (ord':=O++[p]) Ii EH EM Hi OW;have F2:=((ex.trans (Kpt.q AL)).trans (Kpt.grown (l.ord.alloc (N #[J I (p:Int)] 3)) GR)).trans (Kpt.setCell (H:=H) (M:=M) (j:=2) wy H (.inl rfl) (Z (T (Q gs 0 Y)) (ZU O+1) cs));have Hp:cP f m ((K x.f).2++[(p,d)])=cP f C (K x.f).2:=by rw[lX,Hr.out,vf];rfl
    have Hy:ord++((K x.f).2++[(p,d)]).map (λz:Nat × Nat=>z.1)=O++[p]:=by rw[AI,<-KK,HO.out];rfl
    go_end0;rw[ph.out];refine⟨rfl,Z (T (Q gs 0 Y)) (ZU O+1) cs,?_,F2⟩;show SLs o _ n1 b off n cap H M (put (K x.f).1 p) _ (ord++((K x.f).2++[(p,d)]).map (λz:Nat × Nat=>z.1)) (cP f m ((K x.f).2++[(p,d)]));rw[Hp,Hy];exact F1
theorem zG:∀{i:Nat},(∀j (ZZ:j<ZU L),(L[j]).1=i+j)->bu i L=-1:=by
 induction L with
 |nil=>intro i _;rfl
 |cons x xs f =>intro i ZZ;have b:=ZZ 0 (by simp);simp at b;rw[bu,hU b];refine f λj g=>?_;have:=ZZ (j+1) (by simpa using g);simp at this;omega
theorem Br:∀{i j:Nat} (f:j<ZU L),(∀m (ZZ:m<j),(L[m]).1=i+m)->(L[j]).1≠i+j->bu i L=((i+j:Nat):Int):=by
 induction L with
 |nil=>intro i j f;simp at f
 |cons x xs l =>
  intro i j f ZZ b;cases j with
  |zero =>simp at b;rw[bu,eT b];simp
  |succ j =>
   have g:=ZZ 0 (by omega);simp at g;rw[bu,hU g,l (i:=i+1) (j:=j) (by simpa using f) (λm hm=>?_) (by simpa[Nat.add_assoc,Nat.add_comm 1 j] using b)];{congr 1;omega};{have:=ZZ (m+1) (by omega);simp at this;omega}
theorem nO {f:Nat->af}{d:Int}:∀{L:List (Nat × Nat)},0<=d->(∀x∈L,d<=(x.1:Int))->cP f d L=d
 |[],_,_=>rfl
 |x::xs,ZZ,hx=>by
  have h1:cT f d x=d:=by unfold cT;rw[eT (λh2=>by have:=hx x (by simp);omega)]
  rw[cP,h1];exact nO ZZ λy b=>hx y (by simp[b])
theorem mw {f:Nat->af}:∀{L:List (Nat × Nat)} {i:Nat},(∀j (ZZ:j<ZU L),(L[j]).1=i+j)->cP f (-1) L=aR f L
 |[],_,_=>rfl
 |x::xs,i,ZZ=>by
  have m:=ZZ 0 (by simp);simp at m;have l:∀j (g:j<ZU xs),(xs[j]).1=i+1+j:=λj g=>by have:=ZZ (j+1) (by simpa using g);simp at this;omega
  rw[cP,aR];by_cases b:(f x.1).H=3/\60<=x.2
  ·have h1:cT f (-1) x=(x.1:Int):=by unfold cT;rw[hU ⟨b.1,b.2,.inl (by omega)⟩]
   rw[hU b,h1];refine nO (by omega) λy n=>?_;obtain⟨j,g,rfl⟩:=T3 n;have:=l j g;omega
  ·have h1:cT f (-1) x=-1:=by unfold cT;rw[eT (λh2=>b ⟨h2.1,h2.2.1⟩)]
   rw[eT b,h1];exact mw l
theorem mx (hn:1<=n):∃o,aw f n=o++[(n - 1,0)]:=by
 obtain⟨k,rfl⟩:∃k,n=k+1:=⟨n - 1,by omega⟩
 exact⟨_,rfl⟩
theorem tI (hn:1<=n)(ZZ:∀j (hj:j<(aw f n).length),((aw f n)[j]).1=j):(aw f n).length=n:=by
 obtain⟨o,b⟩:=mx (f:=f) hn;have hl:(aw f n).length=ZU o+1:=by rw[b];simp
 have:=ZZ (ZU o) (by omega);simp only[b] at this;simp at this;omega
theorem FY{p k m:Nat}(hk:k<m)(ZZ:aN f p (k+1)=ZB):aN f p m=ZB:=by
 induction m with
 |zero=>omega
 |succ j b =>
  by_cases e:k=j;{subst e;exact ZZ};{rw[aN,b (by omega)];rfl}
structure GO (w:G)(b:Nat)(v0 v1 v2 v3:ZD):Prop where
 c0:ZW w (Q b 0 Y)=T v0
 c1:ZW w (Q b 1 Y)=T v1
 c2:ZW w (Q b 2 Y)=T v2
 c3:ZW w (Q b 3 Y)=T v3
 z2:w.frozen? (Q b 2 Y)=ZB
 z3:w.frozen? (Q b 3 Y)=ZB
theorem Bs (w:G)(ZZ g f b:ZD)(t:TypeId):GO (ZV w (N #[ZZ,g,f,b] t)).drew (A (h w)) ZZ g f b:=⟨by simp,by simp,by simp,by simp,by simp,by simp⟩
theorem wB:SLs w (((ZV w (N #[Z (T (Q b off Y)) n cap] 25)).alloc (N (bA n) 4)).alloc (N #[Z (T (Q b off Y)) n cap,Z (T (Q (A (h w)+1) 0 Y)) n n,Z Y 0 0,J I (-1)] 66)).drew (A (h w)+1+1+1) b off n cap (A (h w)+1+1) (A (h w)+1) (λ_=>ZB) (Z Y 0 0) [] (-1):=by
 have ZZ:A (h (ZV w (N #[Z (T (Q b off Y)) n cap] 25)))=A (h w)+1:=by simp
 have i:((ZV w (N #[Z (T (Q b off Y)) n cap] 25)).alloc (N (bA n) 4)).heap.size=A (h w)+1+1:=by simp
 have ZY:=(((q9 w).alloc ly (N #[Z (T (Q b off Y)) n cap] 25)).alloc (by simp) (N (bA n) 4)).alloc (by simp;omega) (N #[Z (T (Q b off Y)) n cap,Z (T (Q (A (h w)+1) 0 Y)) n n,Z Y 0 0,J I (-1)] 66);have D:Below (A (h w)+1+1) ((ZV w (N #[Z (T (Q b off Y)) n cap] 25)).alloc (N (bA n) 4)) (((ZV w (N #[Z (T (Q b off Y)) n cap] 25)).alloc (N (bA n) 4)).alloc (N #[Z (T (Q b off Y)) n cap,Z (T (Q (A (h w)+1) 0 Y)) n n,Z Y 0 0,J I (-1)] 66)).drew:=(br.alloc (by omega) _).drew;have hM:=λq g=>pq (ZV w (N #[Z (T (Q b off Y)) n cap] 25)) n q g;rw[ZZ] at hM;have f:=Bs ((ZV w (N #[Z (T (Q b off Y)) n cap] 25)).alloc (N (bA n) 4)) (Z (T (Q b off Y)) n cap) (Z (T (Q (A (h w)+1) 0 Y)) n n) (Z Y 0 0) (J I (-1)) 66;rw[i] at f;refine⟨f.c0,f.c1,⟨f.c2,f.z2⟩,⟨f.c3,f.z3⟩,λq g=>⟨(D.cell (p:=(Q (A (h w)+1) q Y)) (gM _)).trans (hM q g).1,(D.frozen (p:=(Q (A (h w)+1) q Y)) (gM _)).trans (hM q g).2⟩,CL _ _ _ _,ZY.drew,by omega,by omega,by omega,?_⟩;simp
theorem vt (b off n cap:Nat)(f:Nat->af)(w:G)(l:cG f n)(hn1:1<=n)(hn:(n:Int)<=400)(r:RowDeed w b off n f)(hlk:∀p,p<n->(f p).f<=200):Calls Pg 23 #[ZH #[Z (T (Q b off Y)) n cap],J I ((n:Int) - 1)] w λe i=>∃H j,e=ZG (.pointer (T (Q H 0 Y)))/\H<A (h i)/\ZW i (Q H 2 Y)=T j/\ZX i (A (h w)) 3 1 j (aw f n).length ((aw f n).map λz:Nat × Nat=>Value.int I (z.1:Int))/\ZW i (Q H 3 Y)=T (J I (cP f (-1) (aw f n)))/\Below (A (h w)) w i:=by
 have u:ZW (ZV w (N #[Z (T (Q b off Y)) n cap] 25)) (Q (A (h w)) 0 Y)=T (Z (T (Q b off Y)) n cap):=by simp
 have s:=jX l hn1;have m:=ri w (A (h w)+1+1+1) b off n cap (A (h w)+1+1) (A (h w)+1) f l hn r hlk n (n - 1) 0 (λ_=>ZB) (Z Y 0 0) [] (-1) _ (by omega) (by omega) (by omega) wB rfl (by have:=s;unfold aw at this;simp;omega);rw[show((n - 1:Nat):Int)=(n:Int) - 1 by omega] at m;have x:=ae m;have o:=λw=>tv n (by omega) w;clear m l r hlk;have HW:Hid (A (h w)+1+1+1=(((ZV w (N #[Z (T (Q b off Y)) n cap] 25)).alloc (N (bA n) 4)).alloc (N #[Z (T (Q b off Y)) n cap,Z (T (Q (A (h w)+1) 0 Y)) n n,Z Y 0 0,J I (-1)] 66)).drew.heap.size):=by show _=_;simp
 go_enter func23,ntmps23;go_wp2_with fail;go_region_with fail;all_goals
  clear o u;go_wp2_with fail;refine x.mono ?_;rintro e w2 ⟨rfl,j,q,t⟩;have g:=ae q;clear q t;go_wp2;go_ret;refine⟨A (h w)+1+1,j,rfl,?_,g.c2.1,?_,g.c3.1,g.low⟩
  ·have:=g.hz
   omega
  ·have ZZ:=aA g.ord (base':=A (h w)) (by omega)
   simp only[J2,List.map_map,LR] at ZZ;exact ZZ
open Ca
theorem sA (b off n cap p:Nat)(f:Nat->af)(w:G)(i:cG f n)(l:p<n)(hn:(n:Int)<=400)(u:RowDeed w b off n f)(hlk:∀p,p<n->(f p).f<=200):Calls Pg 23 #[ZH #[Z (T (Q b off Y)) n cap],J I (p:Int)] w λe m=>∃H o,e=ZG (.pointer (T (Q H 0 Y)))/\H<A (h m)/\ZW m (Q H 2 Y)=T o/\ZX m (A (h w)) 3 1 o (bC f p).length ((bC f p).map λz:Nat=>Value.int I (z:Int))/\Below (A (h w)) w m:=by
 have ZY:ZW (ZV w (N #[Z (T (Q b off Y)) n cap] 25)) (Q (A (h w)) 0 Y)=T (Z (T (Q b off Y)) n cap):=by simp
 have g:=zo i l;have q:=(gS i l).1;have x:=ri w (A (h w)+1+1+1) b off n cap (A (h w)+1+1) (A (h w)+1) f i hn u hlk n p 0 (λ_=>ZB) (Z Y 0 0) [] (-1) _ l l (by omega) wB rfl (by rw[<-g,plc,LR] at q;simp;omega);have B:=ae x;have r:=ae g;have s:=λw=>tv n (by omega) w;clear x i u hlk g q;go_enter func23,ntmps23;go_wp2_with fail;go_region_with fail;all_goals
  clear s ZY;go_wp2_with fail;refine B.out.mono ?_;rintro e w2 ⟨rfl,o,t,y⟩;have j:=ae t;clear t y;go_wp2;go_ret;refine⟨A (h w)+1+1,o,rfl,?_,j.out.c2.1,?_,j.out.low⟩
  ·have:=j.out.hz
   omega
  ·have ZZ:=aA j.out.ord (base':=A (h w)) (by omega)
   rw[J2] at ZZ;rw[<-r.out];exact ZZ
theorem zH (b o j:Nat):((Q b o Y):Addr).add j=(Q b (o+j) Y):=by unfold Addr.add;split<;>simp_all
theorem vu (a:Option Addr)(n cap:Nat)(f:Nat->af)(w:G)(hn:(n:Int)<=1048576)(hv:SlDeed w a n f)(bt:∀i,i<n->bJ (f i))(sm:∀i,i<n->eY (f i)):Calls Pg 48 #[ZH #[Z a n cap]] w λe w'=>e=ZG (.tuple #[J I (dl f n).1,J I (dl f n).2])/\Below (A (h w)) w w':=by
 have HV:=ae hv;have HM:=ae bt;have HZ:=ae sm;clear hv bt sm;have ZJ:=ae ((q9 w).alloc ly (N #[Z a n cap] 25));have k0:ZW (ZV w (N #[Z a n cap] 25)) (Q (A (h w)) 0 Y)=T (Z a n cap):=by simp
 obtain⟨c1,c2,ZP⟩:∃c1 c2,dl f n=(c1,c2):=⟨_,_,rfl⟩
 rw[ZP];have ZK:=ae ZP;clear ZP;by_cases h0:(n:Int)<1
 ·have l:c1=1/\c2=0:=by have:=ZK.out;unfold dl at this;rw[hU (.inl (by omega))] at this;simp only[KJ] at this;omega
  clear ZK;obtain⟨l,y⟩:=l;subst l y;go_enter func48,ntmps48;go_wp2;go_ret2;exact⟨rfl,ZJ⟩
 by_cases h4:(400:Int)<(n:Int)
 ·have l:c1=1/\c2=0:=by have:=ZK.out;unfold dl at this;rw[hU (.inr (by omega))] at this;simp only[KJ] at this;omega
  clear ZK;obtain⟨l,y⟩:=l;subst l y;go_enter func48,ntmps48;go_wp2;go_ret2;exact⟨rfl,ZJ⟩
 have S:Hid ((if aE (ba f) n≠-1 then ((2:Int),aE (ba f) n) else if aE (λp=>aN f p p) n≠-1 then (3,aE (λp=>aN f p p) n) else if bu 0 (aw f n)≠-1 then (4,bu 0 (aw f n)) else if aR f (aw f n)≠-1 then (5,aR f (aw f n)) else (0,0))=(c1,c2)):=by have:=ZK.out;unfold dl at this;rw[eT (by omega)] at this;exact this
 clear ZK;obtain⟨b,off,rfl,fd⟩:=HV.resolve_left (by omega);have HR:=ae fd;clear HV fd;have th:(n:Int)<=400:=by omega
 have R:A (h w)<A (h (ZV w (N #[Z (T (Q b off Y)) n cap] 25))):=by simp
 go_enter func48,ntmps48;go_wp2;generalize World.alloc w _=W at ZJ k0 R ⊢;go_loopw [5] (λi wr=>∃k:Nat,k<=n/\i=J I k/\Hid (∀j,j<k->ba f j=ZF)/\Hid (Below (A (h W)) W wr)) (λi _=>n - (intOf i).toNat);case atStart=>exact⟨0,by omega,rfl,λj t=>absurd t (IT _),cM _ _⟩
 case round =>
  obtain⟨k,hk,rfl,q,M⟩:=hrel;have k1:=(M.cell (p:=(Q (A (h w)) 0 Y)) R).trans k0;have E:=ae (ZJ.trans (M.mono ZJ.size));by_cases r:k<n
  ·go_wp2_with fail;refine(sO b off n cap k f _ r (HR.aa E ly) (HM k r).1 (HZ k r).2.2.1.2).mono ?_;rintro e w2 ⟨he,V⟩;have ZY:=ae (E.trans (V.mono E.size));have H1:=ae (M.trans (V.mono M.size));clear V;cases K:ba f k with
   |true =>
    rw[K] at he;subst he;have HD:=ae K;clear K;go_wp2
    exact⟨⟨k+1,by omega,by go_num,λj t=>by
     by_cases e:j=k;{subst e;exact HD}
     ·exact q j (by omega),H1⟩,by simp[intOf];omega⟩
   |false =>
    rw[K] at he;subst he;have u:=dX r K q.out;have l:c1=2/\c2=(k:Int):=by have:=S.out;rw[hU (by rw[u];omega),u] at this;simp only[KJ] at this;omega
    obtain⟨l,y⟩:=l;clear S u K;subst l y;go_wp2;go_ret2;exact⟨rfl,ZY⟩
  ·have e:n=k:=by omega
   subst e;have ex:=dn q.out;have O:Hid ((if aE (λp=>aN f p p) n≠-1 then ((3:Int),aE (λp=>aN f p p) n) else if bu 0 (aw f n)≠-1 then (4,bu 0 (aw f n)) else if aR f (aw f n)≠-1 then (5,aR f (aw f n)) else (0,0))=(c1,c2)):=by have:=S.out;rw[eT (by rw[ex];simp)] at this;exact this
   have aq:=ae ex;clear S ex q;go_wp2;clear r hk k1;generalize wr=W2 at M E ⊢;have k1:=(M.cell (p:=(Q (A (h w)) 0 Y)) R).trans k0;have ro:A (h w)<A (h W2):=lj R M.size;go_loopw [6] (λi wr=>∃k:Nat,k<=n/\i=J I k/\Hid (∀j,j<k->aN f j j=ZF)/\Hid (Below (A (h W2)) W2 wr)) (λi _=>n - (intOf i).toNat);case atStart=>exact⟨0,by omega,rfl,λj t=>absurd t (IT _),cM _ _⟩
   case round =>
    obtain⟨k,hk,rfl,q,ZL⟩:=hrel;by_cases r:k<n
    ·go_wp2;generalize wr=W3 at ZL ⊢;go_loopw [7] (λi wr=>∃m:Nat,m<=k/\i=J I m/\Hid (aN f k m=ZF)/\Hid (Below (A (h W2)) W2 wr)) (λi _=>k - (intOf i).toNat);case atStart=>exact⟨0,by omega,rfl,rfl,ZL⟩
     case round =>
      obtain⟨m,hm,rfl,HN,P⟩:=hrel;have k2:=(P.cell (p:=(Q (A (h w)) 0 Y)) ro).trans k1;have ZY:=ae (E.trans (P.mono E.size));by_cases DQ:m<k
      ·have d0:=((HR.aa ZY ly).2 m (by omega)).1;have d1:=((HR.aa ZY ly).2 k r).1;have hm0:(0:Int)<=m:=by omega
       have hmn:(m:Int)<n:=by omega
       have ur:(0:Int)<=k:=by omega
       have hkn:(k:Int)<n:=by omega
       cases hq:((f m).e.toList == (f k).e.toList) with
       |true =>
        have n9:aN f k k=ZB:=FY DQ (by rw[aN,hq];simp);have u:=dX (g:=λp=>aN f p p) r n9 q;have l:c1=3/\c2=(k:Int):=by have:=O.out;rw[hU (by rw[u];omega),u] at this;simp only[KJ] at this;omega
        obtain⟨l,y⟩:=l;clear O u n9;subst l y;go_wp2_with fail;go_quiet (fail);have G2:=ae (BG ZY nq);go_wp2;go_ret2;exact⟨rfl,G2⟩
       |false =>
        have DS:Hid (aN f k (m+1)=ZF):=by show aN f k (m+1)=ZF;rw[aN,HN.out,hq];rfl
        go_wp2_with fail;go_quiet (fail);have H5:=ae (BG P nq);go_wp2;exact⟨⟨m+1,by omega,by go_num,DS,H5⟩,by simp[intOf];omega⟩
      ·have e:m=k:=by omega
       subst e;go_wp2
       exact⟨⟨m+1,by omega,by go_num,λj t=>by
        by_cases e:j=m;{subst e;exact HN}
        ·exact q j (by omega),P⟩,by simp[intOf];omega⟩
    ·have e:n=k:=by omega
     subst e;have ph:=dn (g:=λp=>aN f p p) q;have C:Hid ((if bu 0 (aw f n)≠-1 then ((4:Int),bu 0 (aw f n)) else if aR f (aw f n)≠-1 then (5,aR f (aw f n)) else (0,0))=(c1,c2)):=by have:=O.out;rw[eT (by rw[ph];simp)] at this;exact this
     clear O ph q;have k2:=(ZL.cell (p:=(Q (A (h w)) 0 Y)) ro).trans k1;have ZY:=ae (E.trans (ZL.mono E.size));have qr:=ae (jX (dI aq) (n:=n) (by omega));have hn1:1<=n:=by omega
     go_wp2_with fail;refine(vt b off n cap f _ (dI aq) hn1 th (HR.aa ZY ly) (oy aq)).mono ?_;rintro e w5 ⟨H,ov,rfl,n7,At,hO,n8,V⟩;have G5:=ae (ZY.trans (V.mono ZY.size));obtain⟨o,ho⟩:=mx (f:=f) hn1;have Bk:0<(aw f n).length:=by rw[ho];simp
     have ZM:=ae (λZZ=>tI (f:=f) hn1 ZZ);clear ho o;obtain⟨L,hL⟩:∃L,L=aw f n:=⟨_,rfl⟩
     rw[<-hL] at hO n8 Bk C qr ZM;clear hL;obtain⟨g,oc,rfl⟩:∃g c,ov=Z (T (Q g 0 Y)) (ZU L) c:=by
      rcases hO.2 with ⟨_,h2⟩|⟨g,c,cur,h1,_⟩
      {omega};{exact⟨g,c,h1⟩}
     have DE:Hid (∀j (ZZ:j<ZU L),ZW w5 (Q g j Y)=T (J I ((L[j]).1:Int))/\g<A (h w5)):=by intro j t;have h1:=hO.cells (g:=g) rfl j (J I ((L[j]).1:Int)) (by rw[HU,gq t];rfl);rw[zH,E4] at h1;exact⟨h1,(hO.lt g rfl).2⟩
     have hll:=qr.out;clear hO V k2;go_wp2;go_loopw [9] (λi wr=>∃k:Nat,k<=n/\i=J I k/\Hid (∀j,j<k->∃ZZ:j<ZU L,(L[j]).1=j)/\Hid (Below (A (h w5)) w5 wr)) (λi _=>n - (intOf i).toNat);case atStart=>exact⟨0,by omega,rfl,λj t=>absurd t (IT _),cM _ _⟩
     case round =>
      obtain⟨k,hk,rfl,q,ZS⟩:=hrel;have y:=(ZS.cell (p:=(Q H 2 Y)) n7).trans At;have e3:=(ZS.cell (p:=(Q H 3 Y)) n7).trans n8;have G6:=ae (G5.trans (ZS.mono G5.size));by_cases r:k<n
      ·by_cases la:k<ZU L
       ·obtain⟨q1,q2⟩:=DE.out k la;have d0:=(ZS.cell (p:=(Q g k Y)) q2).trans q1;have hkl':(k:Int)<(ZU L:Int):=by omega
        have hno:decide ((ZU L:Int)<=(k:Int))=ZB:=by simp;omega
        have hno':decide (ZU L<=k)=ZB:=by simp;omega
        have ur:(0:Int)<=k:=by omega
        obtain⟨z,hz⟩:∃z,z=(L[k]).1:=⟨_,rfl⟩
        rw[<-hz] at d0;have ZO:=ae hz;clear q1 q2 hz;by_cases x:(z:Int)=(k:Int)
        ·have HN:Hid (∀j,j<k+1->∃ZZ:j<ZU L,(L[j]).1=j):=λj t=>by
          by_cases e:j=k;{subst e;exact⟨la,by rw[<-ZO.out];omega⟩};{exact q j (by omega)}
         obtain rfl:z=k:=by omega
         clear x ZO;go_wp2;exact⟨⟨z+1,by omega,by go_num,HN,ZS⟩,by simp[intOf];omega⟩
        ·have s:bu 0 L=(k:Int):=by
          have:=Br (L:=L) (i:=0) (j:=k) la (λm hm=>by obtain⟨ZZ,e⟩:=q.out m hm;omega) (by rw[<-ZO.out];omega);simpa using this
         have l:c1=4/\c2=(k:Int):=by have:=C.out;rw[hU (by rw[s];omega),s] at this;simp only[KJ] at this;omega
         have hne:((z:Int) != (k:Int))=ZF:=by simpa using x
         obtain⟨l,D⟩:=l;clear C s ZO;subst l D;go_wp2;go_ret2;exact⟨rfl,G6⟩
       ·have:=ZM.out λj t=>by obtain⟨ZZ,e⟩:=q.out j (by omega);exact e
        omega
      ·have e:n=k:=by omega
       subst e;have ZQ:∀j (ZZ:j<ZU L),(L[j]).1=0+j:=λj t=>by obtain⟨ZZ,e⟩:=q.out j (by omega);omega
       have s:=zG ZQ;rw[mw ZQ] at e3;have B:Hid ((if aR f L≠-1 then ((5:Int),aR f L) else (0,0))=(c1,c2)):=by have:=C.out;rw[eT (by rw[s];simp)] at this;exact this
       have ZN:=re f L;generalize aR f L=X at e3 B ZN;have ld:=ae ZN;clear C s ZQ ZN y;by_cases x:X=-1
       ·have l:c1=0/\c2=0:=by
         have:=B.out;rw[eT (by rw[x];simp)] at this;simp only[KJ] at this;omega
        obtain⟨l,D⟩:=l;have K:decide (0<=X)=ZB:=by rw[x];rfl
        clear B x;subst l D;go_wp2;go_ret2;exact⟨rfl,G6⟩
       {have l:c1=5/\c2=X:=(by have:=B.out;rw[hU x] at this;simp only[KJ] at this;omega);have ZN:0<=X:=ld.resolve_left x;obtain⟨l,D⟩:=l;clear B x ld;subst l D;go_wp2_with fail;go_quiet (fail);have G7:=ae (BG G6 nq);go_wp2;go_ret2;exact⟨rfl,G7⟩}
theorem oA (a:Option Addr)(n cap:Nat)(f:Nat->af)(w:G)(hn:(n:Int)<=1048576)(o:SlDeed w a n f)(b:∀i,i<n->bJ (f i))(g:∀i,i<n->eY (f i)):Calls Pg 22 #[ZH #[Z a n cap]] w λe u=>e=ZG (ZC (aK f n))/\Below (A (h w)) w u:=by
 have t:=ae o;have s:=ae b;have q:=ae g;clear o b g;have j:=ae ((q9 w).alloc ly (N #[Z a n cap] 25));obtain⟨r,l⟩:∃r,r=aK f n:=⟨_,rfl⟩
 rw[<-l];have ZZ:=ae (show r=decide ((dl f n).1=0) from l);clear l;go_enter func22,ntmps22;go_wp2_with fail;refine(vu a n cap f _ hn (t.aa j ly) s q).mono ?_;rintro e w1 ⟨rfl,m⟩;have p:=ae (j.trans (m.mono j.size));clear m;generalize (dl f n).1=c at ZZ ⊢;generalize (dl f n).2=d;cases r with
 |true =>obtain rfl:c=0:=MA ZZ.symm;go_wp2;go_ret;exact⟨rfl,p⟩
 |false =>
  have hc:(c == 0)=ZB:=by have:¬ c=0:=UL ZZ.symm;simpa using this
  go_wp2;go_ret;exact⟨rfl,p⟩
