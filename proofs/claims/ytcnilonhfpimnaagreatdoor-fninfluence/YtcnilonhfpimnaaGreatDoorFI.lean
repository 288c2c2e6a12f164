import Derived.Test.YtcnilonhfpimnaaGreatDoorFH
set_option linter.all false
set_option maxRecDepth 100000
set_option maxHeartbeats 8000000
open Go renaming Addr.mk->T,Value.slice->Z,Value.string->U,Value.int->J,Value.bool->ZF,Value.agg->ZJ,Obj.cells->N,IntKind.i64->I,World->E,Value->ZB,Ending.returned->ZI,World.heap->A,World.alloc->ZV,World.cell?->ZW,Proofs.Tryz.prog->Pg
open Option renaming none->Y,some->Q
open Bool renaming false->ZA,true->ZH
open Array renaming size->B
open List renaming length->ZU
namespace Go.Proofs.YtcnilonhfpimnaaGreatDoor.Vp
open Tryz RowKit
variable {n b H M off j_:Nat}{w w' W:E}{f:Nat->au}{L:List (Nat × Nat)}
def jL (a:O_)(n j_:Nat)(f:Nat->au)(w:E)(hn:(n:Int)<=1048576)(m:SlDeed w a n f)(h:(n:Int)<=j_)(b:∀i,i<n->cX (f i))(p:Tab w):Calls Pg 37 #[ZJ #[Z a n j_]] w λe x=>e=ZI (ZF (bc f n))/\Below (B (A w)) w x:=by
 have t:=ae m;have u:=ae b;have q:=ae p;clear m b p;have g:=ae ((BS w).alloc ly (N #[Z a n j_] 25));obtain⟨r,l⟩:∃r,r=bc f n:=⟨_,rfl⟩
 rw[<-l];have j:=ae (show r=decide ((dE f n).1=0) from l);clear l;go_enter func37,ntmps37;go_wp2_with fail;refine(xd a n j_ f _ hn (t.aa g ly) h u (q.aa g q.1)).P ?_;rintro e w1⟨rfl,s⟩;have o:=ae (g.k (s.P g.size));clear s;generalize (dE f n).1=c at j ⊢;generalize (dE f n).2=d;cases r with
 |true =>obtain rfl:c=0:=OU j.c;go_wp2;go_ret;exact⟨rfl,o⟩
 |false =>
  have hc:(c == 0)=ZA:=by have:¬ c=0:=VB j.c;simpa using this
  go_wp2;go_ret;exact⟨rfl,o⟩
def Ha:(Pg.info? 3).map (λi=>(i.zero,i.size,i.bytes))=Q (Q (J I 0),1,8):=by kernel_rfl
def SixB.ad{i g f l m j:ZB}(h:SixB w b i g f l m j)(hz:B (A w)<=B (A w'))(e:w'.heap[b]?=w.heap[b]?):SixB w' b i g f l m j:=
 have c:∀o,ZW w' (T b o Y)=ZW w (T b o Y):=λo=>cq (a:=(T b o Y)) e
 ⟨lj h.lt hz,(c 0).k h.c0,(c 1).k h.c1,(c 2).k h.c2,(c 3).k h.c3,(c 4).k h.c4,(c 5).k h.c5⟩
def TyAt.ad{g:Nat}{e:TypeId}(h:TyAt w g e)(hb:w'.heap[g]?=w.heap[g]?):TyAt w' g e:=by obtain⟨c,b⟩:=h;exact⟨c,hb.k b⟩
def Kpt.grown{f:Nat}{i:E}{v:ZB}{q:List ZB}(p:W.ownsRow f 3 1 v n q)(l:W.grownBy i v.ownBlock):Kpt H M W i:=by
 refine⟨l.size,λk e o m _ _=>?_⟩;obtain⟨c,b⟩:=o;refine l.p k (CV.1 b).1 λh=>?_;rcases p.2 with⟨rfl,_⟩|⟨g,j_,cur,rfl,_,j,_⟩
 {simp[Value.ownBlock] at h};{simp[Value.ownBlock] at h;subst h;rw[j] at b;simp at b;exact m b.2.c}
def SLs.app{g f:E}{n1:Nat}{s:Nat->Bool}{t v:ZB}{ord ord':List Nat}{l:Int}(h:SLs g W n1 b off n j_ H M s t ord l)(hz:B (A W)<=B (A f))(r:f.heap[H]?=W.heap[H]?)(m:f.heap[M]?=W.heap[M]?)(u:Below (B (A g)) g f)(j:f.ownsRow n1 3 1 v (ZU ord') (ord'.map λq:Nat=>Value.int I (q:Int))):SLs g (f.setCell (T H 2 Y) v) n1 b off n j_ H M s v ord' l:=by
 have c:∀o,ZW f (T H o Y)=ZW W (T H o Y):=λo=>cq (a:=(T H o Y)) r;have z:∀o,f.frozen? (T H o Y)=W.frozen? (T H o Y):=λo=>NG (a:=(T H o Y)) r;have i:∀o,o≠2->(f.setCell (T H 2 Y) v).cell? (T H o Y)=ZW f (T H o Y):=λo j=>sq _ _ _ _ (by first|(simp;done)|(simp;exact λe=>j e.c)|(simp;omega));refine⟨(i 0 (by omega)).k ((c 0).k h.c0),(i 1 (by omega)).k ((c 1).k h.c1),⟨BO _ _ _ (by rw[c 2,h.c2.1];rfl),?_⟩,⟨(i 3 (by omega)).k ((c 3).k h.c3.1),?_⟩,λq p=>⟨(sq _ _ _ _ (by first|(simp;done)|(simp;exact λe=>absurd e.c h.ne)|(simp;exact λe=>absurd e h.ne)|(simp;omega))).k ((cq (a:=(T M q Y)) m).k (h.row q p).1),?_⟩,pd j h.hH.2 _,u.setCell h.hH.1 _,h.hH,h.hM,h.ne,by have:=h.hz;simp;omega⟩;{rw[WE];exact(z 2).k h.c2.2};{rw[WE];exact(z 3).k h.c3.2};{rw[WE];exact(NG (a:=(T M q Y)) m).k (h.row q p).2}
def Bc (t:E)(n1 b off n j_ H M:Nat)(f:Nat->au)(hA:gA f n)(hn:(n:Int)<=400)(hf:Qv t b off n f)(hlk:∀p,p<n->(f p).f<=200):∀(k p d:Nat) (s:Nat->Bool) (ZP:ZB) (ord:List Nat) (m:Int) (W:E),p<k->p<n->d+p<=1000->SLs t W n1 b off n j_ H M s ZP ord m->s p=ZA->ZU ord+(lst f k p d s).2.length<=1000 ->
   Calls Pg 140 #[.pointer (Q (T H 0 Y)),J I (p:Int),J I (d:Int)] W λe W'=>e=ZI (.tuple #[])/\∃o,SLs t W' n1 b off n j_ H M (lst f k p d s).1 o (ord++(lst f k p d s).2.map (λz:Nat × Nat=>z.1)) (cW f m (lst f k p d s).2)/\Kpt H M W W':=by
 intro k;induction k with
 |zero=>intro p d s ZP ord m W h;omega
 |succ k ih =>
  intro p d s ZP ord m W hpk V hdp hS hs hN;have HS:=ae hS;have HN:=ae hN;have JY:=ae ih;have HA:=ae hA;have HF:=ae hf;have HLK:=ae hlk;obtain⟨JT,JU,J9,JQ,JW⟩:=NP Ha;obtain⟨At,mv,qr,th,⟨a0,u,la,q4⟩,⟨a1,ZY,ur,q5⟩⟩:=hf.2 p V;have R:=ae (hS.mark V);have hb:=hf.1;obtain⟨x,hx⟩:∃x,x=f p:=⟨_,rfl⟩
  rw[<-hx] at At mv qr th la ur q5;have hm2:x.f<=200:=by rw[hx];exact hlk p V
  have HL:=ae q5;have HX:=ae hx;have p0:=(R.low.O (p:=(T b (off+p*6) Y)) hb).k At;have p1:=(R.low.O (p:=(T b (off+p*6+1) Y)) hb).k mv;have p2:=(R.low.O (p:=(T b (off+p*6+2) Y)) hb).k qr;have p3:=(R.low.O (p:=(T b (off+p*6+3) Y)) hb).k th;have p4:=(R.low.O (p:=(T b (off+p*6+4) Y)) hb).k la;have p5:=(R.low.O (p:=(T b (off+p*6+5) Y)) hb).k ur;obtain⟨K,hK⟩:∃K,K=lks (lst f k) (f p) d s:=⟨_,rfl⟩
  have Bk:Hid (lst f (k+1) p d s=(put (K x.f).1 p,(K x.f).2++[(p,d)])):=by rw[hK,hx];rfl
  have JI:Hid (K 0=(s,[])):=by rw[hK];rfl
  have J5:Hid (∀j,K (j+1)=if (x.m j).ask=ZH/\(K j).1 (x.m j).G.toNat=ZA then ((lst f k (x.m j).G.toNat (d+1) (K j).1).1,(K j).2++(lst f k (x.m j).G.toNat (d+1) (K j).1).2) else K j):=λj=>by rw[hK,hx];rfl
  have JN:Hid (∀i,i<=x.f->(K i).2 <+: (K x.f).2):=λi hi=>by rw[hK];exact qi hi
  have X:Hid (da f m (p,d)=if x.L=3/\60<=d/\(m<0\/(p:Int)<m) then (p:Int) else m):=by rw[hx];rfl
  have Ka:H<B (A W):=by have:=hS.hH;have:=hS.hz;omega
  have J6:=hS.c1;obtain⟨JS,JL⟩:=hS.row p V;have J0:=R.c0;have hp0:(0:Int)<=p:=by omega
  have hpn':(p:Int)<n:=by omega
  have ZR:=ae (R.aa (br.alloc ly (N #[U x.e,J I x.L,J I x.M,U x.H,Z a0 x.h u,Z a1 x.f ZY] 62)));have L:=ae (lK (W.setCell (T M p Y) (ZF ZH)) (U x.e) (J I x.L) (J I x.M) (U x.H) (Z a0 x.h u) (Z a1 x.f ZY) 62);have ZN:Hid (TyAt ((W.setCell (T M p Y) (ZF ZH)).alloc (N #[U x.e,J I x.L,J I x.M,U x.H,Z a0 x.h u,Z a1 x.f ZY] 62)) (W.setCell (T M p Y) (ZF ZH)).heap.size 62):=⟨_,gM _ _⟩
  have ZX:=ae ((Kpt.setCell (H:=H) (M:=M) (j:=p) W M (.inr rfl) (ZF ZH)).k (Kpt.l (br.alloc ly (N #[U x.e,J I x.L,J I x.M,U x.H,Z a0 x.h u,Z a1 x.f ZY] 62))));have Fk:(W.setCell (T M p Y) (ZF ZH)).heap.size=B (A W):=by simp
  rw[Fk] at L ZN;clear hS hN ih hA hf hlk q4 q5 hx hK At mv qr th la ur hs Fk R;go_enter func140,ntmps140;go_upto_region 2 with fail;generalize World.alloc (World.setCell W _ _) _=W2 at ZR L ZN ZX ⊢;clear p0 p1 p2 p3 p4 p5 J6 JS JL J0;obtain⟨td,ZM⟩:∃td,td=decide (x.L=3/\60<=d):=⟨_,rfl⟩
  have HD:=ae ZM;clear ZM;have c1:=L.c1;go_cut [28] (λJ8 wx=>J8=ZF td/\wx=W2);case first =>
   cases ZQ:(x.L == 3) with
   |false =>
    obtain rfl:td=ZA:=by rw[HD.i];simp at ZQ;simp[ZQ]
    go_wp2;go_meet;exact⟨rfl,rfl⟩
   |true =>
    by_cases h6:(60:Int)<=(d:Int)
    ·obtain rfl:td=ZH:=by rw[HD.i];simp at ZQ;simp[ZQ];omega
     go_wp2;go_meet;exact⟨by first|rfl|(simp;done)|(simp;omega),rfl⟩
    ·obtain rfl:td=ZA:=by rw[HD.i];simp;omega
     go_wp2;go_meet;exact⟨by first|rfl|(simp;done)|(simp;omega),rfl⟩
  case rest =>
  obtain⟨rfl,rfl⟩:=hcut;clear c1;have hHD:H<B (A W):=Ka;go_upto_if 28 with fail;go_cut [] (λwx=>Hid (SLs t wx n1 b off n j_ H M (put s p) ZP ord (da f m (p,d)))/\Hid (SixB wx (B (A W)) (U x.e) (J I x.L) (J I x.M) (U x.H) (Z a0 x.h u) (Z a1 x.f ZY))/\Hid (TyAt wx (B (A W)) 62)/\Hid (Kpt H M W wx));case first =>
   cases td with
   |false =>
    have G:da f m (p,d)=m:=by rw[X.i,eI (λh=>by have:=HD.i;simp at this;have:=this h.1;omega)]
    have l:Hid (SLs t wc n1 b off n j_ H M (put s p) ZP ord (da f m (p,d))):=by show SLs _ _ _ _ _ _ _ _ _ _ _ _ _;rw[G];exact ZR
    clear G;go_wp2;go_meet;exact⟨l,L,ZN,ZX⟩
   |true =>
    have ZM:x.L=3/\60<=d:=by have:=HD.i;simpa using this
    obtain⟨e3,z3⟩:=ZR.c3;have S:=ae ZM;clear ZM;have e4:(wc.setCell (T H 3 Y) (J I (p:Int))).heap[B (A W)]?=wc.heap[B (A W)]?:=qh _ _ _ _ (by show (B (A W))≠H;omega);have SP:=ae (ZR.deep (p:Int));have DP:=ae (L.ad (w':=wc.setCell (T H 3 Y) (J I (p:Int))) (by simp) e4);have YP:=ae (ZN.ad e4);have Fm:=ae (ZX.k (Kpt.setCell (H:=H) (M:=M) (j:=3) wc H (.inl rfl) (J I (p:Int))));clear e4;by_cases g1:m<0
    ·have G:da f m (p,d)=(p:Int):=by rw[X.i,eT ⟨S.1,S.2,.inl g1⟩]
     have l:Hid (SLs t (wc.setCell (T H 3 Y) (J I (p:Int))) n1 b off n j_ H M (put s p) ZP ord (da f m (p,d))):=by show SLs _ _ _ _ _ _ _ _ _ _ _ _ _;rw[G];exact SP
     clear G;go_wp2;go_meet;exact⟨l,DP,YP,Fm⟩
    ·by_cases g2:(p:Int)<m
     ·have G:da f m (p,d)=(p:Int):=by rw[X.i,eT ⟨S.1,S.2,.inr g2⟩]
      have l:Hid (SLs t (wc.setCell (T H 3 Y) (J I (p:Int))) n1 b off n j_ H M (put s p) ZP ord (da f m (p,d))):=by show SLs _ _ _ _ _ _ _ _ _ _ _ _ _;rw[G];exact SP
      clear G;go_wp2;go_meet;exact⟨l,DP,YP,Fm⟩
     ·have G:da f m (p,d)=m:=by rw[X.i,eI (λh=>by have:=h.2.2;omega)]
      have l:Hid (SLs t wc n1 b off n j_ H M (put s p) ZP ord (da f m (p,d))):=by show SLs _ _ _ _ _ _ _ _ _ _ _ _ _;rw[G];exact ZR
      clear G;go_wp2;go_meet;exact⟨l,L,ZN,ZX⟩
  case rest =>
  clear ZR L ZN ZX;obtain⟨ZR,L,ZN,ZX⟩:=hcut;obtain⟨C,aq⟩:∃C,C=da f m (p,d):=⟨_,rfl⟩
  rw[<-aq] at ZR;have JH:=ae aq;clear aq X;have Kc:Hid (C=da f m (p,d)):=JH.i;go_wp2;go_loopw [7] (λi wr=>∃(j:Nat) (o:ZB),j<=x.f/\i=J I j/\Hid (SLs t wr n1 b off n j_ H M (put (K j).1 p) o (ord++(K j).2.map (λz:Nat × Nat=>z.1)) (cW f C (K j).2))/\Hid (SixB wr (B (A W)) (U x.e) (J I x.L) (J I x.M) (U x.H) (Z a0 x.h u) (Z a1 x.f ZY))/\Hid (TyAt wr (B (A W)) 62)/\Hid (Kpt H M W wr)) (λi _=>x.f - (intOf i).toNat);case atStart=>exact⟨0,ZP,by omega,rfl,by rw[JI.i];simp only[VN,XI,cW];exact ZR,L,ZN,ZX⟩
  case round =>
   clear ZR L ZN ZX;obtain⟨j,o,hj,rfl,l,D3,Y3,ex⟩:=hrel;have e5:=D3.c5;have ZO:B (A W)<B (A wr):=D3.lt;by_cases DE:j<x.f
   ·obtain⟨lb,lo,rfl,n9⟩:=(HL.aa l.low ly).resolve_left (by omega);obtain⟨l0,l1,l2,l3⟩:=n9.2 j DE;have n8:=J5.i j;have ph:(x.m j).ask=ZH->(x.m j).G.toNat<p/\0<=(x.m j).G:=λh=>by have:=HA.i p V j (by rw[<-HX.i];exact DE);rw[<-HX.i] at this;exact this h
    generalize x.m j=y at l0 l1 l2 l3 n8 ph;have ro:=ae n8;have Fd:=ae ph;clear n8 ph l0 l2 n9;cases hask:y.ask with
    |false =>
     rw[hask] at l1;have r:K (j+1)=K j:=by rw[ro.i,eI (by rw[hask];simp)]
     have ZL:=ae r;clear r;go_wp2_with fail;go_quiet (fail);have ZT:=ae (AD (BS wr) nq);have S4:=ae (l.aa ZT);have D4:=ae (D3.ad ZT.size (ZT.p _ ZO));have Y4:=ae (Y3.ad (ZT.p _ ZO));have P:=ae (ex.k (Kpt.l ZT));go_wp2;exact⟨⟨j+1,o,by omega,by go_num,by rw[ZL.i];exact S4,D4,Y4,P⟩,by simp[intOf];omega⟩
    |true =>
     rw[hask] at l1;obtain⟨q,hq⟩:∃q:Nat,y.G=(q:Int):=⟨y.G.toNat,by have:=(Fd hask).2;omega⟩
     have JJ:q<p:=by have:=(Fd hask).1;rw[hq] at this;simpa using this
     rw[hq] at l3;have f1:=l.c1;obtain⟨f2,_⟩:=l.row q (by omega);have ld:put (K j).1 p q=(K j).1 q:=by simp[put];omega
     rw[ld] at f2;have hq0:(0:Int)<=q:=by omega
     have hqn:(q:Int)<n:=by omega
     have J7:=ae ld;clear ld;cases hl:(K j).1 q with
     |true =>
      rw[hl] at f2;have r:K (j+1)=K j:=by rw[ro.i,eI (by rw[hq];simp[hl])]
      have ZL:=ae r;clear r;go_wp2_with fail;go_quiet (fail);have ZT:=ae (AD (BS wr) nq);have S4:=ae (l.aa ZT);have D4:=ae (D3.ad ZT.size (ZT.p _ ZO));have Y4:=ae (Y3.ad (ZT.p _ ZO));have P:=ae (ex.k (Kpt.l ZT));go_wp2;exact⟨⟨j+1,o,by omega,by go_num,by rw[ZL.i];exact S4,D4,Y4,P⟩,by simp[intOf];omega⟩
     |false =>
      rw[hl] at f2;have r:K (j+1)=((lst f k q (d+1) (K j).1).1,(K j).2++(lst f k q (d+1) (K j).1).2):=by rw[ro.i,eT ⟨hask,by rw[hq];simpa using hl⟩,hq];simp
      have ZL:=ae r;have sm:=JN.i (j+1) (by omega);rw[r] at sm;have JP:=ae sm;have JR:=ae hl;clear r sm;have fd:((d+1:Nat):Int)=(d:Int)+1:=by omega
      have HC:Hid (∀W5,SLs t W5 n1 b off n j_ H M (put (K j).1 p) o (ord++(K j).2.map (λz:Nat × Nat=>z.1)) (cW f C (K j).2)->Calls Pg 140 #[.pointer (Q (T H 0 Y)),J I (q:Int),J I ((d:Int)+1)] W5 λe W'=>e=ZI (.tuple #[])/\∃ZS,SLs t W' n1 b off n j_ H M (put (K (j+1)).1 p) ZS (ord++(K (j+1)).2.map (λz:Nat × Nat=>z.1)) (cW f C (K (j+1)).2)/\Kpt H M W5 W'):=by
       intro W5 h5;have DQ:=xO HA.i k q (d+1) (K j).1 p (by omega) JJ;have Id:(ord++(K j).2.map (λz:Nat × Nat=>z.1)).length+(lst f k q (d+1) (put (K j).1 p)).2.length<=1000:=by rw[DQ];have ZQ:=HN.i;rw[Bk.i] at ZQ;have h4:=JP.length_le;simp only[cM,vF,IT,PJ] at ZQ h4 ⊢;omega
       have h:=JY.i q (d+1) (put (K j).1 p) o (ord++(K j).2.map (λz:Nat × Nat=>z.1)) (cW f C (K j).2) W5 (by omega) (by omega) (by omega) h5 (J7.k JR) Id;rw[fd,DQ] at h;refine h.P λe W' h=>?_;obtain⟨he,ZS,hs,hk⟩:=h;refine⟨he,ZS,?_,hk⟩;rw[ZL.i];simp only[NE,mV,<-NQ];exact hs
      clear fd;go_wp2_with fail;go_quiet (fail);have ZT:=ae (AD (BS wr) nq);have S4:=ae (l.aa ZT);have D4:=ae (D3.ad ZT.size (ZT.p _ ZO));have Y4:=ae (Y3.ad (ZT.p _ ZO));have P:=ae (ex.k (Kpt.l ZT));have g5:=D4.c5;have GS:=(ZT.O (p:=(T lb (lo+j*4+3) Y)) (by have:=(HL.aa l.low ly);rcases this with h|⟨b',o',hv,hr⟩;(omega);(cases hv;exact hr.1))).k l3;clear e5 f1 f2 l1 l3;generalize wr.drewN nq=W5 at S4 D4 Y4 P g5 GS ⊢;go_wp2_with fail;refine(HC W5 S4).P ?_;rintro e W6⟨rfl,ZS,hs,hk⟩;have S5:=ae hs;have eD:=hk.keep (B (A W)) _ Y4.i (by decide) (by omega) (by have:=HS.hM;have:=HS.hz;omega);have D5:=ae (D4.ad hk.size eD);have Y5:=ae (Y4.ad eD);have J4:=ae (P.k hk);clear hs hk eD g5 GS;go_wp2;exact⟨⟨j+1,ZS,by omega,by go_num,S5,D5,Y5,J4⟩,by simp[intOf];omega⟩
   ·have e:j=x.f:=by omega
    subst e;obtain⟨f2,z2⟩:=l.c2;obtain⟨oa,oc,rfl⟩:∃a c,o=Z a (ord++(K x.f).2.map (λz:Nat × Nat=>z.1)).length c:=by
     rcases l.ord.2 with⟨h1,h2⟩|⟨g,c,JX,h1,_⟩
     {exact⟨Y,0,by rw[h1,h2]⟩};{exact⟨_,_,h1⟩}
    have Kb:(ord++(K x.f).2.map (λz:Nat × Nat=>z.1)).length<=1000:=by have ZQ:=HN.i;rw[Bk.i] at ZQ;simp only[cM,vF,IT,PJ] at ZQ ⊢;omega
    generalize hO:ord++(K x.f).2.map (λz:Nat × Nat=>z.1)=O at l f2 Kb ⊢;have HO:=ae hO;clear hO;have JM:H<B (A wr):=by have:=l.hH;have:=l.hz;omega
    have JZ:M<B (A wr):=by have:=l.hM;have:=l.hz;omega
    go_wp2_with (at_builtin;refine DN _ rfl (.tmp 88) (.tmp 90) 144 rfl n1 3 JT (J I 0) 1 8 underlying144 JU J9 JQ JW rfl (by decide) _ (ZU O) (O.map λq:Nat=>Value.int I (q:Int)) (by simp[Act.eval]) (l.ord.alloc _) (T (B (A wr)) 0 Y) 1 1 [J I (p:Int)] (by simp[Act.eval]) rfl (cell_one_new _ _ _) (by simp[Value.oneCell']) (by unfold maxLen;omega) (by omega) (by have:=l.hz;simp;omega) ?_;intro vy wy bt D Hx;have OW:Hid (wy.ownsRow n1 3 1 vy (O++[p]).length ((O++[p]).map λq:Nat=>Value.int I (q:Int))):=(by show World.ownsRow _ _ _ _ _ _ _;rw[cM,NE];exact bt);have GR:=ae D;have eH:wy.heap[H]?=wr.heap[H]?:=(D.p H (by simp;omega) (λe=>by have:=(l.ord.lt H e.c).1;have:=l.hH.2;omega)).k (((BS wr).alloc ly _).p _ JM);have eM:wy.heap[M]?=wr.heap[M]?:=(D.p M (by simp;omega) (λe=>by have:=(l.ord.lt M e.c).1;have:=l.hM.2;omega)).k (((BS wr).alloc ly _).p _ JZ);have g2:=(cq (a:=(T H 2 Y)) eH).k f2;have y2:=(NG (a:=(T H 2 Y)) eH).k z2;obtain⟨gs,cs,rfl⟩:∃g c,vy=Z (Q (T g 0 Y)) (ZU O+1) c:=(by rcases bt.2 with⟨_,h2⟩|⟨g,c,JX,h1,_⟩;(omega);exact⟨g,c,h1⟩);have EH:=ae eH;have EM:=ae eM;clear bt D Hx eH eM);have AL:=(BS wr).alloc ly (N #[J I (p:Int)] 3);have JO:B (A wr)<=B (A wy):=nX AL.size GR.size;have JG:Below (B (A t)) t wy:=bg (l.low.alloc l.low.size (N #[J I (p:Int)] 3)) GR (by have:=l.low.size;simp;omega) (λj e=>by have:=(l.ord.lt j e).1;have:=l.hH;omega);have F1:=l.app (v:=Z (Q (T gs 0 Y)) (ZU O+1) cs) (ord':=O++[p]) JO EH EM JG OW;have F2:=((ex.k (Kpt.l AL)).k (Kpt.grown (l.ord.alloc (N #[J I (p:Int)] 3)) GR)).k (Kpt.setCell (H:=H) (M:=M) (j:=2) wy H (.inl rfl) (Z (Q (T gs 0 Y)) (ZU O+1) cs));have JV:cW f m ((K x.f).2++[(p,d)])=cW f C (K x.f).2:=by rw[mV,Kc.i,wV];rfl
    have JK:ord++((K x.f).2++[(p,d)]).map (λz:Nat × Nat=>z.1)=O++[p]:=by rw[NE,<-NQ,HO.i];rfl
    go_end0;rw[Bk.i];refine⟨rfl,Z (Q (T gs 0 Y)) (ZU O+1) cs,?_,F2⟩;show SLs t _ n1 b off n j_ H M (put (K x.f).1 p) _ (ord++((K x.f).2++[(p,d)]).map (λz:Nat × Nat=>z.1)) (cW f m ((K x.f).2++[(p,d)]));rw[JV,JK];exact F1
def Bd:∀{i:Nat},(∀j (h:j<ZU L),(L[j]).1=i+j)->bG i L=-1:=by
 induction L with
 |nil=>intro i _;rfl
 |cons x xs f =>intro i h;have b:=h 0 (by simp);simp at b;rw[bG,eT b];refine f λj g=>?_;have:=h (j+1) (by simpa using g);simp at this;omega
def Em:∀{i j:Nat} (f:j<ZU L),(∀m (h:m<j),(L[m]).1=i+m)->(L[j]).1≠i+j->bG i L=((i+j:Nat):Int):=by
 induction L with
 |nil=>intro i j f;simp at f
 |cons x xs l =>
  intro i j f h b;cases j with
  |zero =>simp at b;rw[bG,eI b];simp
  |succ j =>
   have g:=h 0 (by omega);simp at g;rw[bG,eT g,l (i:=i+1) (j:=j) (by simpa using f) (λm hm=>?_) (by simpa[U6,Nat.add_comm 1 j] using b)];{congr 1;omega};{have:=h (m+1) (by omega);simp at this;omega}
def oN {f:Nat->au}{d:Int}:∀{L:List (Nat × Nat)},0<=d->(∀x∈L,d<=(x.1:Int))->cW f d L=d
 |[],_,_=>rfl
 |x::xs,h,hx=>by
  have h1:da f d x=d:=by unfold da;rw[eI (λh2=>by have:=hx x (by simp);omega)]
  rw[cW,h1];exact oN h λy b=>hx y (by simp[b])
def nu {f:Nat->au}:∀{L:List (Nat × Nat)} {i:Nat},(∀j (h:j<ZU L),(L[j]).1=i+j)->cW f (-1) L=bm f L
 |[],_,_=>rfl
 |x::xs,i,h=>by
  have n:=h 0 (by simp);simp at n;have l:∀j (g:j<ZU xs),(xs[j]).1=i+1+j:=λj g=>by have:=h (j+1) (by simpa using g);simp at this;omega
  rw[cW,bm];by_cases b:(f x.1).L=3/\60<=x.2
  ·have h1:da f (-1) x=(x.1:Int):=by unfold da;rw[eT ⟨b.1,b.2,.inl (by omega)⟩]
   rw[eT b,h1];refine oN (by omega) λy m=>?_;obtain⟨j,g,rfl⟩:=QL m;have:=l j g;omega
  ·have h1:da f (-1) x=-1:=by unfold da;rw[eI (λh2=>b ⟨h2.1,h2.2.1⟩)]
   rw[eI b,h1];exact nu l
def nw (hn:1<=n):∃o,aG f n=o++[(n - 1,0)]:=by
 obtain⟨k,rfl⟩:∃k,n=k+1:=⟨n - 1,by omega⟩
 exact⟨_,rfl⟩
def uB (hn:1<=n)(h:∀j (hj:j<(aG f n).length),((aG f n)[j]).1=j):(aG f n).length=n:=by
 obtain⟨o,b⟩:=nw (f:=f) hn;have hl:(aG f n).length=ZU o+1:=by rw[b];simp
 have:=h (ZU o) (by omega);simp only[b] at this;simp at this;omega
def II{p k m:Nat}(hk:k<m)(h:bj f p (k+1)=ZA):bj f p m=ZA:=by
 induction m with
 |zero=>omega
 |succ j b =>
  by_cases e:k=j;{subst e;exact h};{rw[bj,b (by omega)];rfl}
structure Jr (w:E)(b:Nat)(v0 v1 v2 v3:ZB):Prop where
 c0:ZW w (T b 0 Y)=Q v0
 c1:ZW w (T b 1 Y)=Q v1
 c2:ZW w (T b 2 Y)=Q v2
 c3:ZW w (T b 3 Y)=Q v3
 z2:w.frozen? (T b 2 Y)=ZA
 z3:w.frozen? (T b 3 Y)=ZA
def En (w:E)(g f b h:ZB)(t:TypeId):Jr (ZV w (N #[g,f,b,h] t)).drew (B (A w)) g f b h:=⟨by simp,by simp,by simp,by simp,by simp,by simp⟩
def Hb:SLs w (((ZV w (N #[Z (Q (T b off Y)) n j_] 25)).alloc (N (bH n) 4)).alloc (N #[Z (Q (T b off Y)) n j_,Z (Q (T (B (A w)+1) 0 Y)) n n,Z Y 0 0,J I (-1)] 168)).drew (B (A w)+1+1+1) b off n j_ (B (A w)+1+1) (B (A w)+1) (λ_=>ZA) (Z Y 0 0) [] (-1):=by
 have i:B (A (ZV w (N #[Z (Q (T b off Y)) n j_] 25)))=B (A w)+1:=by simp
 have h:((ZV w (N #[Z (Q (T b off Y)) n j_] 25)).alloc (N (bH n) 4)).heap.size=B (A w)+1+1:=by simp
 have ZY:=(((BS w).alloc ly (N #[Z (Q (T b off Y)) n j_] 25)).alloc (by simp) (N (bH n) 4)).alloc (by simp;omega) (N #[Z (Q (T b off Y)) n j_,Z (Q (T (B (A w)+1) 0 Y)) n n,Z Y 0 0,J I (-1)] 168);have D:Below (B (A w)+1+1) ((ZV w (N #[Z (Q (T b off Y)) n j_] 25)).alloc (N (bH n) 4)) (((ZV w (N #[Z (Q (T b off Y)) n j_] 25)).alloc (N (bH n) 4)).alloc (N #[Z (Q (T b off Y)) n j_,Z (Q (T (B (A w)+1) 0 Y)) n n,Z Y 0 0,J I (-1)] 168)).drew:=(br.alloc (by omega) _).drew;have hM:=λq g=>qj (ZV w (N #[Z (Q (T b off Y)) n j_] 25)) n q g;rw[i] at hM;have f:=En ((ZV w (N #[Z (Q (T b off Y)) n j_] 25)).alloc (N (bH n) 4)) (Z (Q (T b off Y)) n j_) (Z (Q (T (B (A w)+1) 0 Y)) n n) (Z Y 0 0) (J I (-1)) 168;rw[h] at f;refine⟨f.c0,f.c1,⟨f.c2,f.z2⟩,⟨f.c3,f.z3⟩,λq g=>⟨(D.O (p:=(T (B (A w)+1) q Y)) (eL _)).k (hM q g).1,(D.frozen (p:=(T (B (A w)+1) q Y)) (eL _)).k (hM q g).2⟩,CP _ _ _ _,ZY.drew,by omega,by omega,by omega,?_⟩;simp
def xe (b off n j_:Nat)(f:Nat->au)(w:E)(l:gA f n)(hn1:1<=n)(hn:(n:Int)<=400)(q:Qv w b off n f)(hlk:∀p,p<n->(f p).f<=200):Calls Pg 103 #[ZJ #[Z (Q (T b off Y)) n j_],J I ((n:Int) - 1)] w λe i=>∃H j,e=ZI (.pointer (Q (T H 0 Y)))/\H<B (A i)/\ZW i (T H 2 Y)=Q j/\i.ownsRow (B (A w)) 3 1 j (aG f n).length ((aG f n).map λz:Nat × Nat=>Value.int I (z.1:Int))/\ZW i (T H 3 Y)=Q (J I (cW f (-1) (aG f n)))/\Below (B (A w)) w i:=by
 have u:ZW (ZV w (N #[Z (Q (T b off Y)) n j_] 25)) (T (B (A w)) 0 Y)=Q (Z (Q (T b off Y)) n j_):=by simp
 have r:=kI l hn1;have m:=Bc w (B (A w)+1+1+1) b off n j_ (B (A w)+1+1) (B (A w)+1) f l hn q hlk n (n - 1) 0 (λ_=>ZA) (Z Y 0 0) [] (-1) _ (by omega) (by omega) (by omega) Hb rfl (by have:=r;unfold aG at this;simp;omega);rw[show((n - 1:Nat):Int)=(n:Int) - 1 by omega] at m;have x:=ae m;have o:=λw=>Bb n (by omega) w;clear m l q hlk;have HW:Hid (B (A w)+1+1+1=(((ZV w (N #[Z (Q (T b off Y)) n j_] 25)).alloc (N (bH n) 4)).alloc (N #[Z (Q (T b off Y)) n j_,Z (Q (T (B (A w)+1) 0 Y)) n n,Z Y 0 0,J I (-1)] 168)).drew.heap.size):=by show _=_;simp
 go_enter func103,ntmps103;go_wp2_with fail;go_region_with fail;all_goals
  clear o u;go_wp2_with fail;refine x.P ?_;rintro e w2⟨rfl,j,s,t⟩;have g:=ae s;clear s t;go_wp2;go_ret;refine⟨B (A w)+1+1,j,rfl,?_,g.c2.1,?_,g.c3.1,g.low⟩
  ·have:=g.hz
   omega
  ·have h:=aE g.ord (base':=B (A w)) (by omega)
   simp only[NS,List.map_map,PJ] at h;exact h
def Be (b o j:Nat):((T b o Y):Addr).add j=(T b (o+j) Y):=by unfold Addr.add;split<;>simp_all
def xf (a:O_)(n j_:Nat)(f:Nat->au)(w:E)(hn:(n:Int)<=1048576)(hv:SlDeed w a n f)(aq:∀i,i<n->cX (f i))(n8:∀i,i<n->fo (f i)):Calls Pg 65 #[ZJ #[Z a n j_]] w λe w'=>e=ZI (.tuple #[J I (dE f n).1,J I (dE f n).2])/\Below (B (A w)) w w':=by
 have HV:=ae hv;have HM:=ae aq;have HZ:=ae n8;clear hv aq n8;have A0:=ae ((BS w).alloc ly (N #[Z a n j_] 25));have k0:ZW (ZV w (N #[Z a n j_] 25)) (T (B (A w)) 0 Y)=Q (Z a n j_):=by simp
 obtain⟨c1,c2,K⟩:∃c1 c2,dE f n=(c1,c2):=⟨_,_,rfl⟩
 rw[K];have ZM:=ae K;clear K;by_cases h0:(n:Int)<1
 ·have l:c1=1/\c2=0:=by have:=ZM.i;unfold dE at this;rw[eT (.inl (by omega))] at this;simp only[LK] at this;omega
  clear ZM;obtain⟨l,y⟩:=l;subst l y;go_enter func65,ntmps65;go_wp2;go_ret2;exact⟨rfl,A0⟩
 by_cases h4:(400:Int)<(n:Int)
 ·have l:c1=1/\c2=0:=by have:=ZM.i;unfold dE at this;rw[eT (.inr (by omega))] at this;simp only[LK] at this;omega
  clear ZM;obtain⟨l,y⟩:=l;subst l y;go_enter func65,ntmps65;go_wp2;go_ret2;exact⟨rfl,A0⟩
 have ZN:Hid ((if aQ (bw f) n≠-1 then ((2:Int),aQ (bw f) n) else if aQ (λp=>bj f p p) n≠-1 then (3,aQ (λp=>bj f p p) n) else if bG 0 (aG f n)≠-1 then (4,bG 0 (aG f n)) else if bm f (aG f n)≠-1 then (5,bm f (aG f n)) else (0,0))=(c1,c2)):=by have:=ZM.i;unfold dE at this;rw[eI (by omega)] at this;exact this
 clear ZM;obtain⟨b,off,rfl,fd⟩:=HV.resolve_left (by omega);have HR:=ae fd;clear HV fd;have th:(n:Int)<=400:=by omega
 have O:B (A w)<B (A (ZV w (N #[Z (Q (T b off Y)) n j_] 25))):=by simp
 go_enter func65,ntmps65;go_wp2;generalize World.alloc w _=W at A0 k0 O ⊢;go_loopw [5] (λi wr=>∃k:Nat,k<=n/\i=J I k/\Hid (∀j,j<k->bw f j=ZH)/\Hid (Below (B (A W)) W wr)) (λi _=>n - (intOf i).toNat);case atStart=>exact⟨0,by omega,rfl,λj t=>absurd t (NF _),a8 _ _⟩
 case round =>
  obtain⟨k,hk,rfl,q,ZS⟩:=hrel;have k1:=(ZS.O (p:=(T (B (A w)) 0 Y)) O).k k0;have D:=ae (A0.k (ZS.P A0.size));by_cases r:k<n
  ·go_wp2_with fail;refine(uh b off n j_ k f _ r (HR.aa D ly) (HM k r).1 (HZ k r).2.2.1.2).P ?_;rintro e w2⟨he,V⟩;have ZY:=ae (D.k (V.P D.size));have H1:=ae (ZS.k (V.P ZS.size));clear V;cases M:bw f k with
   |true =>
    rw[M] at he;subst he;have HD:=ae M;clear M;go_wp2
    exact⟨⟨k+1,by omega,by go_num,λj t=>by
     by_cases e:j=k;{subst e;exact HD}
     ·exact q j (by omega),H1⟩,by simp[intOf];omega⟩
   |false =>
    rw[M] at he;subst he;have u:=fQ r M q.i;have l:c1=2/\c2=(k:Int):=by have:=ZN.i;rw[eT (by rw[u];omega),u] at this;simp only[LK] at this;omega
    obtain⟨l,y⟩:=l;clear ZN u M;subst l y;go_wp2;go_ret2;exact⟨rfl,ZY⟩
  ·have e:n=k:=by omega
   subst e;have bt:=ej q.i;have R:Hid ((if aQ (λp=>bj f p p) n≠-1 then ((3:Int),aQ (λp=>bj f p p) n) else if bG 0 (aG f n)≠-1 then (4,bG 0 (aG f n)) else if bm f (aG f n)≠-1 then (5,bm f (aG f n)) else (0,0))=(c1,c2)):=by have:=ZN.i;rw[eI (by rw[bt];simp)] at this;exact this
   have ZL:=ae bt;clear ZN bt q;go_wp2;clear r hk k1;generalize wr=W2 at ZS D ⊢;have k1:=(ZS.O (p:=(T (B (A w)) 0 Y)) O).k k0;have n9:B (A w)<B (A W2):=lj O ZS.size;go_loopw [6] (λi wr=>∃k:Nat,k<=n/\i=J I k/\Hid (∀j,j<k->bj f j j=ZH)/\Hid (Below (B (A W2)) W2 wr)) (λi _=>n - (intOf i).toNat);case atStart=>exact⟨0,by omega,rfl,λj t=>absurd t (NF _),a8 _ _⟩
   case round =>
    obtain⟨k,hk,rfl,q,S⟩:=hrel;by_cases r:k<n
    ·go_wp2;generalize wr=W3 at S ⊢;go_loopw [7] (λi wr=>∃m:Nat,m<=k/\i=J I m/\Hid (bj f k m=ZH)/\Hid (Below (B (A W2)) W2 wr)) (λi _=>k - (intOf i).toNat);case atStart=>exact⟨0,by omega,rfl,rfl,S⟩
     case round =>
      obtain⟨m,hm,rfl,HN,ZQ⟩:=hrel;have k2:=(ZQ.O (p:=(T (B (A w)) 0 Y)) n9).k k1;have ZY:=ae (D.k (ZQ.P D.size));by_cases sm:m<k
      ·have d0:=((HR.aa ZY ly).2 m (by omega)).1;have d1:=((HR.aa ZY ly).2 k r).1;have hm0:(0:Int)<=m:=by omega
       have hmn:(m:Int)<n:=by omega
       have ur:(0:Int)<=k:=by omega
       have hkn:(k:Int)<n:=by omega
       cases hq:((f m).e.toList == (f k).e.toList) with
       |true =>
        have mv:bj f k k=ZA:=II sm (by rw[bj,hq];simp);have u:=fQ (g:=λp=>bj f p p) r mv q;have l:c1=3/\c2=(k:Int):=by have:=R.i;rw[eT (by rw[u];omega),u] at this;simp only[LK] at this;omega
        obtain⟨l,y⟩:=l;clear R u mv;subst l y;go_wp2_with fail;go_quiet (fail);have G2:=ae (AD ZY nq);go_wp2;go_ret2;exact⟨rfl,G2⟩
       |false =>
        have DQ:Hid (bj f k (m+1)=ZH):=by show bj f k (m+1)=ZH;rw[bj,HN.i,hq];rfl
        go_wp2_with fail;go_quiet (fail);have H5:=ae (AD ZQ nq);go_wp2;exact⟨⟨m+1,by omega,by go_num,DQ,H5⟩,by simp[intOf];omega⟩
      ·have e:m=k:=by omega
       subst e;go_wp2
       exact⟨⟨m+1,by omega,by go_num,λj t=>by
        by_cases e:j=m;{subst e;exact HN}
        ·exact q j (by omega),ZQ⟩,by simp[intOf];omega⟩
    ·have e:n=k:=by omega
     subst e;have ld:=ej (g:=λp=>bj f p p) q;have G:Hid ((if bG 0 (aG f n)≠-1 then ((4:Int),bG 0 (aG f n)) else if bm f (aG f n)≠-1 then (5,bm f (aG f n)) else (0,0))=(c1,c2)):=by have:=R.i;rw[eI (by rw[ld];simp)] at this;exact this
     clear R ld q;have k2:=(S.O (p:=(T (B (A w)) 0 Y)) n9).k k1;have ZY:=ae (D.k (S.P D.size));have ph:=ae (kI (jE ZL) (n:=n) (by omega));have hn1:1<=n:=by omega
     go_wp2_with fail;refine(xe b off n j_ f _ (jE ZL) hn1 th (HR.aa ZY ly) (pk ZL)).P ?_;rintro e w5⟨H,ov,rfl,qr,Bk,hO,la,V⟩;have G5:=ae (ZY.k (V.P ZY.size));obtain⟨o,ho⟩:=nw (f:=f) hn1;have DE:0<(aG f n).length:=by rw[ho];simp
     have P:=ae (λh=>uB (f:=f) hn1 h);clear ho o;obtain⟨L,hL⟩:∃L,L=aG f n:=⟨_,rfl⟩
     rw[<-hL] at hO la DE G ph P;clear hL;obtain⟨g,oc,rfl⟩:∃g c,ov=Z (Q (T g 0 Y)) (ZU L) c:=by
      rcases hO.2 with⟨_,h2⟩|⟨g,c,cur,h1,_⟩
      {omega};{exact⟨g,c,h1⟩}
     have At:Hid (∀j (h:j<ZU L),ZW w5 (T g j Y)=Q (J I ((L[j]).1:Int))/\g<B (A w5)):=by intro j t;have h1:=hO.cells (g:=g) rfl j (J I ((L[j]).1:Int)) (by rw[L8,gq t];rfl);rw[Be,I5] at h1;exact⟨h1,(hO.lt g rfl).2⟩
     have hll:=ph.i;clear hO V k2;go_wp2;go_loopw [9] (λi wr=>∃k:Nat,k<=n/\i=J I k/\Hid (∀j,j<k->∃h:j<ZU L,(L[j]).1=j)/\Hid (Below (B (A w5)) w5 wr)) (λi _=>n - (intOf i).toNat);case atStart=>exact⟨0,by omega,rfl,λj t=>absurd t (NF _),a8 _ _⟩
     case round =>
      obtain⟨k,hk,rfl,q,C⟩:=hrel;have y:=(C.O (p:=(T H 2 Y)) qr).k Bk;have e3:=(C.O (p:=(T H 3 Y)) qr).k la;have G6:=ae (G5.k (C.P G5.size));by_cases r:k<n
      ·by_cases ex:k<ZU L
       ·obtain⟨q1,q2⟩:=At.i k ex;have d0:=(C.O (p:=(T g k Y)) q2).k q1;have hkl':(k:Int)<(ZU L:Int):=by omega
        have hno:decide ((ZU L:Int)<=(k:Int))=ZA:=by simp;omega
        have hno':decide (ZU L<=k)=ZA:=by simp;omega
        have ur:(0:Int)<=k:=by omega
        obtain⟨z,hz⟩:∃z,z=(L[k]).1:=⟨_,rfl⟩
        rw[<-hz] at d0;have ZP:=ae hz;clear q1 q2 hz;by_cases x:(z:Int)=(k:Int)
        ·have HN:Hid (∀j,j<k+1->∃h:j<ZU L,(L[j]).1=j):=λj t=>by
          by_cases e:j=k;{subst e;exact⟨ex,by rw[<-ZP.i];omega⟩};{exact q j (by omega)}
         obtain rfl:z=k:=by omega
         clear x ZP;go_wp2;exact⟨⟨z+1,by omega,by go_num,HN,C⟩,by simp[intOf];omega⟩
        ·have s:bG 0 L=(k:Int):=by
          have:=Em (L:=L) (i:=0) (j:=k) ex (λm hm=>by obtain⟨h,e⟩:=q.i m hm;omega) (by rw[<-ZP.i];omega);simpa using this
         have l:c1=4/\c2=(k:Int):=by have:=G.i;rw[eT (by rw[s];omega),s] at this;simp only[LK] at this;omega
         have hne:((z:Int) != (k:Int))=ZH:=by simpa using x
         obtain⟨l,ZX⟩:=l;clear G s ZP;subst l ZX;go_wp2;go_ret2;exact⟨rfl,G6⟩
       ·have:=P.i λj t=>by obtain⟨h,e⟩:=q.i j (by omega);exact e
        omega
      ·have e:n=k:=by omega
       subst e;have ZR:∀j (h:j<ZU L),(L[j]).1=0+j:=λj t=>by obtain⟨h,e⟩:=q.i j (by omega);omega
       have s:=Bd ZR;rw[nu ZR] at e3;have ZT:Hid ((if bm f L≠-1 then ((5:Int),bm f L) else (0,0))=(c1,c2)):=by have:=G.i;rw[eI (by rw[s];simp)] at this;exact this
       have ZO:=sD f L;generalize bm f L=X at e3 ZT ZO;have ro:=ae ZO;clear G s ZR ZO y;by_cases x:X=-1
       ·have l:c1=0/\c2=0:=by
         have:=ZT.i;rw[eI (by rw[x];simp)] at this;simp only[LK] at this;omega
        obtain⟨l,ZX⟩:=l;have M:decide (0<=X)=ZA:=by rw[x];rfl
        clear ZT x;subst l ZX;go_wp2;go_ret2;exact⟨rfl,G6⟩
       {have l:c1=5/\c2=X:=(by have:=ZT.i;rw[eT x] at this;simp only[LK] at this;omega);have ZO:0<=X:=ro.resolve_left x;obtain⟨l,ZX⟩:=l;clear ZT x ro;subst l ZX;go_wp2_with fail;go_quiet (fail);have G7:=ae (AD G6 nq);go_wp2;go_ret2;exact⟨rfl,G7⟩}
def uC (a:O_)(n j_:Nat)(f:Nat->au)(w:E)(hn:(n:Int)<=1048576)(p:SlDeed w a n f)(b:∀i,i<n->cX (f i))(g:∀i,i<n->fo (f i)):Calls Pg 24 #[ZJ #[Z a n j_]] w λe t=>e=ZI (ZF (bc f n))/\Below (B (A w)) w t:=by
 have u:=ae p;have s:=ae b;have q:=ae g;clear p b g;have l:=ae ((BS w).alloc ly (N #[Z a n j_] 25));obtain⟨r,h⟩:∃r,r=bc f n:=⟨_,rfl⟩
 rw[<-h];have j:=ae (show r=decide ((dE f n).1=0) from h);clear h;go_enter func24,ntmps24;go_wp2_with fail;refine(xf a n j_ f _ hn (u.aa l ly) s q).P ?_;rintro e w1⟨rfl,o⟩;have m:=ae (l.k (o.P l.size));clear o;generalize (dE f n).1=c at j ⊢;generalize (dE f n).2=d;cases r with
 |true =>obtain rfl:c=0:=OU j.c;go_wp2;go_ret;exact⟨rfl,m⟩
 |false =>
  have hc:(c == 0)=ZA:=by have:¬ c=0:=VB j.c;simpa using this
  go_wp2;go_ret;exact⟨rfl,m⟩
