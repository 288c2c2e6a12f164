import Derived.Test.YthkgkfehliinfaaGreatDoorFH
set_option linter.all false
set_option maxRecDepth 100000
set_option maxHeartbeats 8000000
open Go renaming Addr.mk->Q,Value.slice->Y,Value.string->U,Value.int->J,Value.bool->ZF,Value.agg->ZJ,Obj.cells->N,IntKind.i64->I,World->E,Value->ZB,Ending.returned->ZI,World.heap->A,World.alloc->ZW,World.cell?->ZX,World.setCell->ZU,Proofs.Tryz.prog->Pg
open Option renaming none->Z,some->T
open Bool renaming false->ZA,true->ZH
open Array renaming size->B
open List renaming length->ZV
namespace Go.Proofs.YthkgkfehliinfaaGreatDoor.Vp
open Tryz RowKit
variable {n b H M off j_:Nat}{w w' W:E}{f:Nat->au}{L:List (Nat × Nat)}
def jL (a:O_)(n j_:Nat)(f:Nat->au)(w:E)(hn:(n:Int)<=1048576)(q:SlDeed w a n f)(j:(n:Int)<=j_)(b:∀i,i<n->cX (f i))(m:Tab w):Calls Pg 43 #[ZJ #[Y a n j_]] w λe x=>e=ZI (ZF (bc f n))/\Below (B (A w)) w x:=by
 have t:=ae q;have u:=ae b;have o:=ae m;clear q b m;have g:=ae ((BS w).alloc ly (N #[Y a n j_] 25));obtain⟨r,h⟩:∃r,r=bc f n:=⟨_,rfl⟩
 rw[<-h];have l:=ae (show r=decide ((dE f n).1=0) from h);clear h;go_enter func43,ntmps43;go_wp2_with fail;refine(xd a n j_ f _ hn (t.aa g ly) j u (o.aa g o.1)).P ?_;rintro e w1⟨rfl,p⟩;have s:=ae (g.k (p.P g.size));clear p;generalize (dE f n).1=c at l ⊢;generalize (dE f n).2=d;cases r with
 |true =>obtain rfl:c=0:=OU l.c;go_wp2;go_ret;exact⟨rfl,s⟩
 |false =>
  have hc:(c == 0)=ZA:=by have:¬ c=0:=VB l.c;simpa using this
  go_wp2;go_ret;exact⟨rfl,s⟩
def Ha:(Pg.info? 3).map (λi=>(i.zero,i.size,i.bytes))=T (T (J I 0),1,8):=by kernel_rfl
def SixB.ad{f g j i l m:ZB}(h:SixB w b f g j i l m)(hz:B (A w)<=B (A w'))(e:w'.heap[b]?=w.heap[b]?):SixB w' b f g j i l m:=
 have c:∀o,ZX w' (Q b o Z)=ZX w (Q b o Z):=λo=>cq (a:=(Q b o Z)) e
 ⟨lj h.lt hz,(c 0).k h.c0,(c 1).k h.c1,(c 2).k h.c2,(c 3).k h.c3,(c 4).k h.c4,(c 5).k h.c5⟩
def TyAt.ad{g:Nat}{e:TypeId}(h:TyAt w g e)(hb:w'.heap[g]?=w.heap[g]?):TyAt w' g e:=by obtain⟨c,b⟩:=h;exact⟨c,hb.k b⟩
def Kpt.grown{h:Nat}{i:E}{v:ZB}{m:List ZB}(q:W.ownsRow h 3 1 v n m)(j:W.grownBy i v.ownBlock):Kpt H M W i:=by
 refine⟨j.size,λk e o p _ _=>?_⟩;obtain⟨c,b⟩:=o;refine j.p k (CV.1 b).1 λf=>?_;rcases q.2 with⟨rfl,_⟩|⟨g,j_,cur,rfl,_,l,_⟩
 {simp[Value.ownBlock] at f};{simp[Value.ownBlock] at f;subst f;rw[l] at b;simp at b;exact p b.2.c}
def SLs.app{g f:E}{n1:Nat}{s:Nat->Bool}{u v:ZB}{ord ord':List Nat}{p:Int}(h:SLs g W n1 b off n j_ H M s u ord p)(hz:B (A W)<=B (A f))(l:f.heap[H]?=W.heap[H]?)(r:f.heap[M]?=W.heap[M]?)(t:Below (B (A g)) g f)(j:f.ownsRow n1 3 1 v (ZV ord') (ord'.map λq:Nat=>Value.int I (q:Int))):SLs g (ZU f (Q H 2 Z) v) n1 b off n j_ H M s v ord' p:=by
 have c:∀o,ZX f (Q H o Z)=ZX W (Q H o Z):=λo=>cq (a:=(Q H o Z)) l;have z:∀o,f.frozen? (Q H o Z)=W.frozen? (Q H o Z):=λo=>NG (a:=(Q H o Z)) l;have i:∀o,o≠2->ZX (ZU f (Q H 2 Z) v) (Q H o Z)=ZX f (Q H o Z):=λo j=>sq _ _ _ _ (by first|(simp;done)|(simp;exact λe=>j e.c)|(simp;omega));refine⟨(i 0 (by omega)).k ((c 0).k h.c0),(i 1 (by omega)).k ((c 1).k h.c1),⟨BO _ _ _ (by rw[c 2,h.c2.1];rfl),?_⟩,⟨(i 3 (by omega)).k ((c 3).k h.c3.1),?_⟩,λq m=>⟨(sq _ _ _ _ (by first|(simp;done)|(simp;exact λe=>absurd e.c h.ne)|(simp;exact λe=>absurd e h.ne)|(simp;omega))).k ((cq (a:=(Q M q Z)) r).k (h.row q m).1),?_⟩,pd j h.hH.2 _,t.setCell h.hH.1 _,h.hH,h.hM,h.ne,by have:=h.hz;simp;omega⟩;{rw[WE];exact(z 2).k h.c2.2};{rw[WE];exact(z 3).k h.c3.2};{rw[WE];exact(NG (a:=(Q M q Z)) r).k (h.row q m).2}
def Bc (t:E)(n1 b off n j_ H M:Nat)(f:Nat->au)(hA:gA f n)(hn:(n:Int)<=400)(hf:Qk t b off n f)(hlk:∀p,p<n->(f p).f<=200):∀(k p d:Nat) (s:Nat->Bool) (R:ZB) (ord:List Nat) (m:Int) (W:E),p<k->p<n->d+p<=1000->SLs t W n1 b off n j_ H M s R ord m->s p=ZA->ZV ord+(lst f k p d s).2.length<=1000 ->
   Calls Pg 97 #[.pointer (T (Q H 0 Z)),J I (p:Int),J I (d:Int)] W λe W'=>e=ZI (.tuple #[])/\∃r,SLs t W' n1 b off n j_ H M (lst f k p d s).1 r (ord++(lst f k p d s).2.map (λz:Nat × Nat=>z.1)) (cW f m (lst f k p d s).2)/\Kpt H M W W':=by
 intro k;induction k with
 |zero=>intro p d s R ord m W h;omega
 |succ k ih =>
  intro p d s R ord m W hpk ZL hdp hS hs hN;have HS:=ae hS;have HN:=ae hN;have J5:=ae ih;have HA:=ae hA;have HF:=ae hf;have HLK:=ae hlk;obtain⟨J0,JL,JZ,JK,JI⟩:=NP Ha;obtain⟨Bk,n9,th,ph,⟨a0,u,la,q4⟩,⟨a1,ZZ,At,q5⟩⟩:=hf.2 p ZL;have ZO:=ae (hS.mark ZL);have hb:=hf.1;obtain⟨x,hx⟩:∃x,x=f p:=⟨_,rfl⟩
  rw[<-hx] at Bk n9 th ph la At q5;have hm2:x.f<=200:=by rw[hx];exact hlk p ZL
  have HL:=ae q5;have HX:=ae hx;have p0:=(ZO.low.O (p:=(Q b (off+p*6) Z)) hb).k Bk;have p1:=(ZO.low.O (p:=(Q b (off+p*6+1) Z)) hb).k n9;have p2:=(ZO.low.O (p:=(Q b (off+p*6+2) Z)) hb).k th;have p3:=(ZO.low.O (p:=(Q b (off+p*6+3) Z)) hb).k ph;have p4:=(ZO.low.O (p:=(Q b (off+p*6+4) Z)) hb).k la;have p5:=(ZO.low.O (p:=(Q b (off+p*6+5) Z)) hb).k At;obtain⟨K,hK⟩:∃K,K=lks (lst f k) (f p) d s:=⟨_,rfl⟩
  have qr:Hid (lst f (k+1) p d s=(put (K x.f).1 p,(K x.f).2++[(p,d)])):=by rw[hK,hx];rfl
  have J9:Hid (K 0=(s,[])):=by rw[hK];rfl
  have JY:Hid (∀j,K (j+1)=if (x.l j).ask=ZH/\(K j).1 (x.l j).G.toNat=ZA then ((lst f k (x.l j).G.toNat (d+1) (K j).1).1,(K j).2++(lst f k (x.l j).G.toNat (d+1) (K j).1).2) else K j):=λj=>by rw[hK,hx];rfl
  have JT:Hid (∀i,i<=x.f->(K i).2 <+: (K x.f).2):=λi hi=>by rw[hK];exact qi hi
  have X:Hid (da f m (p,d)=if x.m=3/\60<=d/\(m<0\/(p:Int)<m) then (p:Int) else m):=by rw[hx];rfl
  have J8:H<B (A W):=by have:=hS.hH;have:=hS.hz;omega
  have JV:=hS.c1;obtain⟨Kc,JR⟩:=hS.row p ZL;have JW:=ZO.c0;have hp0:(0:Int)<=p:=by omega
  have hpn':(p:Int)<n:=by omega
  have L:=ae (ZO.aa (br.alloc ly (N #[U x.e,J I x.m,J I x.M,U x.H,Y a0 x.h u,Y a1 x.f ZZ] 58)));have ZQ:=ae (lK (ZU W (Q M p Z) (ZF ZH)) (U x.e) (J I x.m) (J I x.M) (U x.H) (Y a0 x.h u) (Y a1 x.f ZZ) 58);have S:Hid (TyAt (ZW (ZU W (Q M p Z) (ZF ZH)) (N #[U x.e,J I x.m,J I x.M,U x.H,Y a0 x.h u,Y a1 x.f ZZ] 58)) (B (A (ZU W (Q M p Z) (ZF ZH)))) 58):=⟨_,gM _ _⟩
  have C:=ae ((Kpt.setCell (H:=H) (M:=M) (j:=p) W M (.inr rfl) (ZF ZH)).k (Kpt.q (br.alloc ly (N #[U x.e,J I x.m,J I x.M,U x.H,Y a0 x.h u,Y a1 x.f ZZ] 58))));have Fk:B (A (ZU W (Q M p Z) (ZF ZH)))=B (A W):=by simp
  rw[Fk] at ZQ S;clear hS hN ih hA hf hlk q4 q5 hx hK Bk n9 th ph la At hs Fk ZO;go_enter func97,ntmps97;go_upto_region 2 with fail;generalize World.alloc (World.setCell W _ _) _=W2 at L ZQ S C ⊢;clear p0 p1 p2 p3 p4 p5 JV Kc JR JW;obtain⟨td,ZM⟩:∃td,td=decide (x.m=3/\60<=d):=⟨_,rfl⟩
  have HD:=ae ZM;clear ZM;have c1:=ZQ.c1;go_cut [28] (λJJ wx=>JJ=ZF td/\wx=W2);case first =>
   cases ZR:(x.m == 3) with
   |false =>
    obtain rfl:td=ZA:=by rw[HD.i];simp at ZR;simp[ZR]
    go_wp2;go_meet;exact⟨rfl,rfl⟩
   |true =>
    by_cases h6:(60:Int)<=(d:Int)
    ·obtain rfl:td=ZH:=by rw[HD.i];simp at ZR;simp[ZR];omega
     go_wp2;go_meet;exact⟨by first|rfl|(simp;done)|(simp;omega),rfl⟩
    ·obtain rfl:td=ZA:=by rw[HD.i];simp;omega
     go_wp2;go_meet;exact⟨by first|rfl|(simp;done)|(simp;omega),rfl⟩
  case rest =>
  obtain⟨rfl,rfl⟩:=hcut;clear c1;have hHD:H<B (A W):=J8;go_upto_if 28 with fail;go_cut [] (λwx=>Hid (SLs t wx n1 b off n j_ H M (put s p) R ord (da f m (p,d)))/\Hid (SixB wx (B (A W)) (U x.e) (J I x.m) (J I x.M) (U x.H) (Y a0 x.h u) (Y a1 x.f ZZ))/\Hid (TyAt wx (B (A W)) 58)/\Hid (Kpt H M W wx));case first =>
   cases td with
   |false =>
    have G:da f m (p,d)=m:=by rw[X.i,eI (λh=>by have:=HD.i;simp at this;have:=this h.1;omega)]
    have l:Hid (SLs t wc n1 b off n j_ H M (put s p) R ord (da f m (p,d))):=by show SLs _ _ _ _ _ _ _ _ _ _ _ _ _;rw[G];exact L
    clear G;go_wp2;go_meet;exact⟨l,ZQ,S,C⟩
   |true =>
    have ZM:x.m=3/\60<=d:=by have:=HD.i;simpa using this
    obtain⟨e3,z3⟩:=L.c3;have ZN:=ae ZM;clear ZM;have e4:(ZU wc (Q H 3 Z) (J I (p:Int))).heap[B (A W)]?=wc.heap[B (A W)]?:=qh _ _ _ _ (by show (B (A W))≠H;omega);have SP:=ae (L.deep (p:Int));have DP:=ae (ZQ.ad (w':=ZU wc (Q H 3 Z) (J I (p:Int))) (by simp) e4);have YP:=ae (S.ad e4);have Fd:=ae (C.k (Kpt.setCell (H:=H) (M:=M) (j:=3) wc H (.inl rfl) (J I (p:Int))));clear e4;by_cases g1:m<0
    ·have G:da f m (p,d)=(p:Int):=by rw[X.i,eT ⟨ZN.1,ZN.2,.inl g1⟩]
     have l:Hid (SLs t (ZU wc (Q H 3 Z) (J I (p:Int))) n1 b off n j_ H M (put s p) R ord (da f m (p,d))):=by show SLs _ _ _ _ _ _ _ _ _ _ _ _ _;rw[G];exact SP
     clear G;go_wp2;go_meet;exact⟨l,DP,YP,Fd⟩
    ·by_cases g2:(p:Int)<m
     ·have G:da f m (p,d)=(p:Int):=by rw[X.i,eT ⟨ZN.1,ZN.2,.inr g2⟩]
      have l:Hid (SLs t (ZU wc (Q H 3 Z) (J I (p:Int))) n1 b off n j_ H M (put s p) R ord (da f m (p,d))):=by show SLs _ _ _ _ _ _ _ _ _ _ _ _ _;rw[G];exact SP
      clear G;go_wp2;go_meet;exact⟨l,DP,YP,Fd⟩
     ·have G:da f m (p,d)=m:=by rw[X.i,eI (λh=>by have:=h.2.2;omega)]
      have l:Hid (SLs t wc n1 b off n j_ H M (put s p) R ord (da f m (p,d))):=by show SLs _ _ _ _ _ _ _ _ _ _ _ _ _;rw[G];exact L
      clear G;go_wp2;go_meet;exact⟨l,ZQ,S,C⟩
  case rest =>
  clear L ZQ S C;obtain⟨L,ZQ,S,C⟩:=hcut;obtain⟨ZY,bt⟩:∃ZY,ZY=da f m (p,d):=⟨_,rfl⟩
  rw[<-bt] at L;have Hx:=ae bt;clear bt X;have Ka:Hid (ZY=da f m (p,d)):=Hx.i;go_wp2;go_loopw [7] (λi wr=>∃(j:Nat) (r:ZB),j<=x.f/\i=J I j/\Hid (SLs t wr n1 b off n j_ H M (put (K j).1 p) r (ord++(K j).2.map (λz:Nat × Nat=>z.1)) (cW f ZY (K j).2))/\Hid (SixB wr (B (A W)) (U x.e) (J I x.m) (J I x.M) (U x.H) (Y a0 x.h u) (Y a1 x.f ZZ))/\Hid (TyAt wr (B (A W)) 58)/\Hid (Kpt H M W wr)) (λi _=>x.f - (intOf i).toNat);case atStart=>exact⟨0,R,by omega,rfl,by rw[J9.i];simp only[VN,XI,cW];exact L,ZQ,S,C⟩
  case round =>
   clear L ZQ S C;obtain⟨j,r,hj,rfl,l,D3,Y3,fd⟩:=hrel;have e5:=D3.c5;have P:B (A W)<B (A wr):=D3.lt;by_cases DE:j<x.f
   ·obtain⟨lb,lo,rfl,n8⟩:=(HL.aa l.low ly).resolve_left (by omega);obtain⟨l0,l1,l2,l3⟩:=n8.2 j DE;have ld:=JY.i j;have ro:(x.l j).ask=ZH->(x.l j).G.toNat<p/\0<=(x.l j).G:=λh=>by have:=HA.i p ZL j (by rw[<-HX.i];exact DE);rw[<-HX.i] at this;exact this h
    generalize x.l j=y at l0 l1 l2 l3 ld ro;have mv:=ae ld;have GS:=ae ro;clear ld ro l0 l2 n8;cases hask:y.ask with
    |false =>
     rw[hask] at l1;have o:K (j+1)=K j:=by rw[mv.i,eI (by rw[hask];simp)]
     have V:=ae o;clear o;go_wp2_with fail;go_quiet (fail);have ZT:=ae (AD (BS wr) nq);have S4:=ae (l.aa ZT);have D4:=ae (D3.ad ZT.size (ZT.p _ P));have Y4:=ae (Y3.ad (ZT.p _ P));have ZP:=ae (fd.k (Kpt.q ZT));go_wp2;exact⟨⟨j+1,r,by omega,by go_num,by rw[V.i];exact S4,D4,Y4,ZP⟩,by simp[intOf];omega⟩
    |true =>
     rw[hask] at l1;obtain⟨q,hq⟩:∃q:Nat,y.G=(q:Int):=⟨y.G.toNat,by have:=(GS hask).2;omega⟩
     have JQ:q<p:=by have:=(GS hask).1;rw[hq] at this;simpa using this
     rw[hq] at l3;have f1:=l.c1;obtain⟨f2,_⟩:=l.row q (by omega);have sm:put (K j).1 p q=(K j).1 q:=by simp[put];omega
     rw[sm] at f2;have hq0:(0:Int)<=q:=by omega
     have hqn:(q:Int)<n:=by omega
     have J6:=ae sm;clear sm;cases hl:(K j).1 q with
     |true =>
      rw[hl] at f2;have o:K (j+1)=K j:=by rw[mv.i,eI (by rw[hq];simp[hl])]
      have V:=ae o;clear o;go_wp2_with fail;go_quiet (fail);have ZT:=ae (AD (BS wr) nq);have S4:=ae (l.aa ZT);have D4:=ae (D3.ad ZT.size (ZT.p _ P));have Y4:=ae (Y3.ad (ZT.p _ P));have ZP:=ae (fd.k (Kpt.q ZT));go_wp2;exact⟨⟨j+1,r,by omega,by go_num,by rw[V.i];exact S4,D4,Y4,ZP⟩,by simp[intOf];omega⟩
     |false =>
      rw[hl] at f2;have o:K (j+1)=((lst f k q (d+1) (K j).1).1,(K j).2++(lst f k q (d+1) (K j).1).2):=by rw[mv.i,eT ⟨hask,by rw[hq];simpa using hl⟩,hq];simp
      have V:=ae o;have ur:=JT.i (j+1) (by omega);rw[o] at ur;have J4:=ae ur;have JO:=ae hl;clear o ur;have ex:((d+1:Nat):Int)=(d:Int)+1:=by omega
      have HC:Hid (∀W5,SLs t W5 n1 b off n j_ H M (put (K j).1 p) r (ord++(K j).2.map (λz:Nat × Nat=>z.1)) (cW f ZY (K j).2)->Calls Pg 97 #[.pointer (T (Q H 0 Z)),J I (q:Int),J I ((d:Int)+1)] W5 λe W'=>e=ZI (.tuple #[])/\∃ZS,SLs t W' n1 b off n j_ H M (put (K (j+1)).1 p) ZS (ord++(K (j+1)).2.map (λz:Nat × Nat=>z.1)) (cW f ZY (K (j+1)).2)/\Kpt H M W5 W'):=by
       intro W5 h5;have DQ:=xO HA.i k q (d+1) (K j).1 p (by omega) JQ;have Id:(ord++(K j).2.map (λz:Nat × Nat=>z.1)).length+(lst f k q (d+1) (put (K j).1 p)).2.length<=1000:=by rw[DQ];have ZR:=HN.i;rw[qr.i] at ZR;have h4:=J4.length_le;simp only[cM,vF,IS,PJ] at ZR h4 ⊢;omega
       have h:=J5.i q (d+1) (put (K j).1 p) r (ord++(K j).2.map (λz:Nat × Nat=>z.1)) (cW f ZY (K j).2) W5 (by omega) (by omega) (by omega) h5 (J6.k JO) Id;rw[ex,DQ] at h;refine h.P λe W' h=>?_;obtain⟨he,ZS,hs,hk⟩:=h;refine⟨he,ZS,?_,hk⟩;rw[V.i];simp only[NE,mV,<-NQ];exact hs
      clear ex;go_wp2_with fail;go_quiet (fail);have ZT:=ae (AD (BS wr) nq);have S4:=ae (l.aa ZT);have D4:=ae (D3.ad ZT.size (ZT.p _ P));have Y4:=ae (Y3.ad (ZT.p _ P));have ZP:=ae (fd.k (Kpt.q ZT));have g5:=D4.c5;have Fm:=(ZT.O (p:=(Q lb (lo+j*4+3) Z)) (by have:=(HL.aa l.low ly);rcases this with h|⟨b',o',hv,hr⟩;(omega);(cases hv;exact hr.1))).k l3;clear e5 f1 f2 l1 l3;generalize wr.drewN nq=W5 at S4 D4 Y4 ZP g5 Fm ⊢;go_wp2_with fail;refine(HC W5 S4).P ?_;rintro e W6⟨rfl,ZS,hs,hk⟩;have S5:=ae hs;have eD:=hk.keep (B (A W)) _ Y4.i (by decide) (by omega) (by have:=HS.hM;have:=HS.hz;omega);have D5:=ae (D4.ad hk.size eD);have Y5:=ae (Y4.ad eD);have JU:=ae (ZP.k hk);clear hs hk eD g5 Fm;go_wp2;exact⟨⟨j+1,ZS,by omega,by go_num,S5,D5,Y5,JU⟩,by simp[intOf];omega⟩
   ·have e:j=x.f:=by omega
    subst e;obtain⟨f2,z2⟩:=l.c2;obtain⟨oa,oc,rfl⟩:∃a c,r=Y a (ord++(K x.f).2.map (λz:Nat × Nat=>z.1)).length c:=by
     rcases l.ord.2 with⟨h1,h2⟩|⟨g,c,JS,h1,_⟩
     {exact⟨Z,0,by rw[h1,h2]⟩};{exact⟨_,_,h1⟩}
    have JX:(ord++(K x.f).2.map (λz:Nat × Nat=>z.1)).length<=1000:=by have ZR:=HN.i;rw[qr.i] at ZR;simp only[cM,vF,IS,PJ] at ZR ⊢;omega
    generalize hO:ord++(K x.f).2.map (λz:Nat × Nat=>z.1)=O at l f2 JX ⊢;have HO:=ae hO;clear hO;have JM:H<B (A wr):=by have:=l.hH;have:=l.hz;omega
    have Kb:M<B (A wr):=by have:=l.hM;have:=l.hz;omega
    go_wp2_with (at_builtin;refine DN _ rfl (.tmp 88) (.tmp 90) 105 rfl n1 3 J0 (J I 0) 1 8 underlying105 JL JZ JK JI rfl (by decide) _ (ZV O) (O.map λq:Nat=>Value.int I (q:Int)) (by simp[Act.eval]) (l.ord.alloc _) (Q (B (A wr)) 0 Z) 1 1 [J I (p:Int)] (by simp[Act.eval]) rfl (cell_one_new _ _ _) (by simp[Value.oneCell']) (by unfold maxLen;omega) (by omega) (by have:=l.hz;simp;omega) ?_;intro vy wy aq D JG;have OW:Hid (wy.ownsRow n1 3 1 vy (O++[p]).length ((O++[p]).map λq:Nat=>Value.int I (q:Int))):=(by show World.ownsRow _ _ _ _ _ _ _;rw[cM,NE];exact aq);have GR:=ae D;have eH:wy.heap[H]?=wr.heap[H]?:=(D.p H (by simp;omega) (λe=>by have:=(l.ord.lt H e.c).1;have:=l.hH.2;omega)).k (((BS wr).alloc ly _).p _ JM);have eM:wy.heap[M]?=wr.heap[M]?:=(D.p M (by simp;omega) (λe=>by have:=(l.ord.lt M e.c).1;have:=l.hM.2;omega)).k (((BS wr).alloc ly _).p _ Kb);have g2:=(cq (a:=(Q H 2 Z)) eH).k f2;have y2:=(NG (a:=(Q H 2 Z)) eH).k z2;obtain⟨gs,cs,rfl⟩:∃g c,vy=Y (T (Q g 0 Z)) (ZV O+1) c:=(by rcases aq.2 with⟨_,h2⟩|⟨g,c,JS,h1,_⟩;(omega);exact⟨g,c,h1⟩);have EH:=ae eH;have EM:=ae eM;clear aq D JG eH eM);have AL:=(BS wr).alloc ly (N #[J I (p:Int)] 3);have J7:B (A wr)<=B (A wy):=nX AL.size GR.size;have JH:Below (B (A t)) t wy:=bg (l.low.alloc l.low.size (N #[J I (p:Int)] 3)) GR (by have:=l.low.size;simp;omega) (λj e=>by have:=(l.ord.lt j e).1;have:=l.hH;omega);have F1:=l.app (v:=Y (T (Q gs 0 Z)) (ZV O+1) cs) (ord':=O++[p]) J7 EH EM JH OW;have F2:=((fd.k (Kpt.q AL)).k (Kpt.grown (l.ord.alloc (N #[J I (p:Int)] 3)) GR)).k (Kpt.setCell (H:=H) (M:=M) (j:=2) wy H (.inl rfl) (Y (T (Q gs 0 Z)) (ZV O+1) cs));have JN:cW f m ((K x.f).2++[(p,d)])=cW f ZY (K x.f).2:=by rw[mV,Ka.i,wV];rfl
    have JP:ord++((K x.f).2++[(p,d)]).map (λz:Nat × Nat=>z.1)=O++[p]:=by rw[NE,<-NQ,HO.i];rfl
    go_end0;rw[qr.i];refine⟨rfl,Y (T (Q gs 0 Z)) (ZV O+1) cs,?_,F2⟩;show SLs t _ n1 b off n j_ H M (put (K x.f).1 p) _ (ord++((K x.f).2++[(p,d)]).map (λz:Nat × Nat=>z.1)) (cW f m ((K x.f).2++[(p,d)]));rw[JN,JP];exact F1
def Bd:∀{i:Nat},(∀j (h:j<ZV L),(L[j]).1=i+j)->bG i L=-1:=by
 induction L with
 |nil=>intro i _;rfl
 |cons x xs f =>intro i h;have b:=h 0 (by simp);simp at b;rw[bG,eT b];refine f λj g=>?_;have:=h (j+1) (by simpa using g);simp at this;omega
def Em:∀{i j:Nat} (f:j<ZV L),(∀m (h:m<j),(L[m]).1=i+m)->(L[j]).1≠i+j->bG i L=((i+j:Nat):Int):=by
 induction L with
 |nil=>intro i j f;simp at f
 |cons x xs l =>
  intro i j f h b;cases j with
  |zero =>simp at b;rw[bG,eI b];simp
  |succ j =>
   have g:=h 0 (by omega);simp at g;rw[bG,eT g,l (i:=i+1) (j:=j) (by simpa using f) (λm hm=>?_) (by simpa[U6,Nat.add_comm 1 j] using b)];{congr 1;omega};{have:=h (m+1) (by omega);simp at this;omega}
def oN {f:Nat->au}{d:Int}:∀{L:List (Nat × Nat)},0<=d->(∀x∈L,d<=(x.1:Int))->cW f d L=d
 |[],_,_=>rfl
 |x::xs,h,hx=>by
  have h1:da f d x=d:=by unfold da;rw[eI (λh2=>by have:=hx x (by simp);omega)]
  rw[cW,h1];exact oN h λy b=>hx y (by simp[b])
def nu {f:Nat->au}:∀{L:List (Nat × Nat)} {i:Nat},(∀j (h:j<ZV L),(L[j]).1=i+j)->cW f (-1) L=bm f L
 |[],_,_=>rfl
 |x::xs,i,h=>by
  have n:=h 0 (by simp);simp at n;have l:∀j (g:j<ZV xs),(xs[j]).1=i+1+j:=λj g=>by have:=h (j+1) (by simpa using g);simp at this;omega
  rw[cW,bm];by_cases b:(f x.1).m=3/\60<=x.2
  ·have h1:da f (-1) x=(x.1:Int):=by unfold da;rw[eT ⟨b.1,b.2,.inl (by omega)⟩]
   rw[eT b,h1];refine oN (by omega) λy m=>?_;obtain⟨j,g,rfl⟩:=QL m;have:=l j g;omega
  ·have h1:da f (-1) x=-1:=by unfold da;rw[eI (λh2=>b ⟨h2.1,h2.2.1⟩)]
   rw[eI b,h1];exact nu l
def nw (hn:1<=n):∃o,aG f n=o++[(n - 1,0)]:=by
 obtain⟨k,rfl⟩:∃k,n=k+1:=⟨n - 1,by omega⟩
 exact⟨_,rfl⟩
def uB (hn:1<=n)(h:∀j (hj:j<(aG f n).length),((aG f n)[j]).1=j):(aG f n).length=n:=by
 obtain⟨o,b⟩:=nw (f:=f) hn;have hl:(aG f n).length=ZV o+1:=by rw[b];simp
 have:=h (ZV o) (by omega);simp only[b] at this;simp at this;omega
def II{p k m:Nat}(hk:k<m)(h:bj f p (k+1)=ZA):bj f p m=ZA:=by
 induction m with
 |zero=>omega
 |succ j b =>
  by_cases e:k=j;{subst e;exact h};{rw[bj,b (by omega)];rfl}
structure Jr (w:E)(b:Nat)(v0 v1 v2 v3:ZB):Prop where
 c0:ZX w (Q b 0 Z)=T v0
 c1:ZX w (Q b 1 Z)=T v1
 c2:ZX w (Q b 2 Z)=T v2
 c3:ZX w (Q b 3 Z)=T v3
 z2:w.frozen? (Q b 2 Z)=ZA
 z3:w.frozen? (Q b 3 Z)=ZA
def En (w:E)(f g b h:ZB)(t:TypeId):Jr (ZW w (N #[f,g,b,h] t)).drew (B (A w)) f g b h:=⟨by simp,by simp,by simp,by simp,by simp,by simp⟩
def Hb:SLs w (((ZW w (N #[Y (T (Q b off Z)) n j_] 25)).alloc (N (bH n) 4)).alloc (N #[Y (T (Q b off Z)) n j_,Y (T (Q (B (A w)+1) 0 Z)) n n,Y Z 0 0,J I (-1)] 107)).drew (B (A w)+1+1+1) b off n j_ (B (A w)+1+1) (B (A w)+1) (λ_=>ZA) (Y Z 0 0) [] (-1):=by
 have h:B (A (ZW w (N #[Y (T (Q b off Z)) n j_] 25)))=B (A w)+1:=by simp
 have i:((ZW w (N #[Y (T (Q b off Z)) n j_] 25)).alloc (N (bH n) 4)).heap.size=B (A w)+1+1:=by simp
 have ZZ:=(((BS w).alloc ly (N #[Y (T (Q b off Z)) n j_] 25)).alloc (by simp) (N (bH n) 4)).alloc (by simp;omega) (N #[Y (T (Q b off Z)) n j_,Y (T (Q (B (A w)+1) 0 Z)) n n,Y Z 0 0,J I (-1)] 107);have D:Below (B (A w)+1+1) ((ZW w (N #[Y (T (Q b off Z)) n j_] 25)).alloc (N (bH n) 4)) (((ZW w (N #[Y (T (Q b off Z)) n j_] 25)).alloc (N (bH n) 4)).alloc (N #[Y (T (Q b off Z)) n j_,Y (T (Q (B (A w)+1) 0 Z)) n n,Y Z 0 0,J I (-1)] 107)).drew:=(br.alloc (by omega) _).drew;have hM:=λq g=>qj (ZW w (N #[Y (T (Q b off Z)) n j_] 25)) n q g;rw[h] at hM;have f:=En ((ZW w (N #[Y (T (Q b off Z)) n j_] 25)).alloc (N (bH n) 4)) (Y (T (Q b off Z)) n j_) (Y (T (Q (B (A w)+1) 0 Z)) n n) (Y Z 0 0) (J I (-1)) 107;rw[i] at f;refine⟨f.c0,f.c1,⟨f.c2,f.z2⟩,⟨f.c3,f.z3⟩,λq g=>⟨(D.O (p:=(Q (B (A w)+1) q Z)) (eL _)).k (hM q g).1,(D.frozen (p:=(Q (B (A w)+1) q Z)) (eL _)).k (hM q g).2⟩,CP _ _ _ _,ZZ.drew,by omega,by omega,by omega,?_⟩;simp
def xe (b off n j_:Nat)(f:Nat->au)(w:E)(l:gA f n)(hn1:1<=n)(hn:(n:Int)<=400)(r:Qk w b off n f)(hlk:∀p,p<n->(f p).f<=200):Calls Pg 59 #[ZJ #[Y (T (Q b off Z)) n j_],J I ((n:Int) - 1)] w λe g=>∃H j,e=ZI (.pointer (T (Q H 0 Z)))/\H<B (A g)/\ZX g (Q H 2 Z)=T j/\g.ownsRow (B (A w)) 3 1 j (aG f n).length ((aG f n).map λz:Nat × Nat=>Value.int I (z.1:Int))/\ZX g (Q H 3 Z)=T (J I (cW f (-1) (aG f n)))/\Below (B (A w)) w g:=by
 have x:ZX (ZW w (N #[Y (T (Q b off Z)) n j_] 25)) (Q (B (A w)) 0 Z)=T (Y (T (Q b off Z)) n j_):=by simp
 have q:=kI l hn1;have m:=Bc w (B (A w)+1+1+1) b off n j_ (B (A w)+1+1) (B (A w)+1) f l hn r hlk n (n - 1) 0 (λ_=>ZA) (Y Z 0 0) [] (-1) _ (by omega) (by omega) (by omega) Hb rfl (by have:=q;unfold aG at this;simp;omega);rw[show((n - 1:Nat):Int)=(n:Int) - 1 by omega] at m;have u:=ae m;have s:=λw=>Bb n (by omega) w;clear m l r hlk;have HW:Hid (B (A w)+1+1+1=(((ZW w (N #[Y (T (Q b off Z)) n j_] 25)).alloc (N (bH n) 4)).alloc (N #[Y (T (Q b off Z)) n j_,Y (T (Q (B (A w)+1) 0 Z)) n n,Y Z 0 0,J I (-1)] 107)).drew.heap.size):=by show _=_;simp
 go_enter func59,ntmps59;go_wp2_with fail;go_region_with fail;all_goals
  clear s x;go_wp2_with fail;refine u.P ?_;rintro e w2⟨rfl,j,o,t⟩;have i:=ae o;clear o t;go_wp2;go_ret;refine⟨B (A w)+1+1,j,rfl,?_,i.c2.1,?_,i.c3.1,i.low⟩
  ·have:=i.hz
   omega
  ·have h:=aE i.ord (base':=B (A w)) (by omega)
   simp only[NS,List.map_map,PJ] at h;exact h
def Be (b o j:Nat):((Q b o Z):Addr).add j=(Q b (o+j) Z):=by unfold Addr.add;split<;>simp_all
def xf (a:O_)(n j_:Nat)(f:Nat->au)(w:E)(hn:(n:Int)<=1048576)(hv:SlDeed w a n f)(la:∀i,i<n->cX (f i))(ph:∀i,i<n->fo (f i)):Calls Pg 80 #[ZJ #[Y a n j_]] w λe w'=>e=ZI (.tuple #[J I (dE f n).1,J I (dE f n).2])/\Below (B (A w)) w w':=by
 have HV:=ae hv;have HM:=ae la;have HZ:=ae ph;clear hv la ph;have A0:=ae ((BS w).alloc ly (N #[Y a n j_] 25));have k0:ZX (ZW w (N #[Y a n j_] 25)) (Q (B (A w)) 0 Z)=T (Y a n j_):=by simp
 obtain⟨c1,c2,ZR⟩:∃c1 c2,dE f n=(c1,c2):=⟨_,_,rfl⟩
 rw[ZR];have V:=ae ZR;clear ZR;by_cases h0:(n:Int)<1
 ·have l:c1=1/\c2=0:=by have:=V.i;unfold dE at this;rw[eT (.inl (by omega))] at this;simp only[LK] at this;omega
  clear V;obtain⟨l,y⟩:=l;subst l y;go_enter func80,ntmps80;go_wp2;go_ret2;exact⟨rfl,A0⟩
 by_cases h4:(400:Int)<(n:Int)
 ·have l:c1=1/\c2=0:=by have:=V.i;unfold dE at this;rw[eT (.inr (by omega))] at this;simp only[LK] at this;omega
  clear V;obtain⟨l,y⟩:=l;subst l y;go_enter func80,ntmps80;go_wp2;go_ret2;exact⟨rfl,A0⟩
 have P:Hid ((if aQ (bw f) n≠-1 then ((2:Int),aQ (bw f) n) else if aQ (λp=>bj f p p) n≠-1 then (3,aQ (λp=>bj f p p) n) else if bG 0 (aG f n)≠-1 then (4,bG 0 (aG f n)) else if bm f (aG f n)≠-1 then (5,bm f (aG f n)) else (0,0))=(c1,c2)):=by have:=V.i;unfold dE at this;rw[eI (by omega)] at this;exact this
 clear V;obtain⟨b,off,rfl,fd⟩:=HV.resolve_left (by omega);have HR:=ae fd;clear HV fd;have DQ:(n:Int)<=400:=by omega
 have ZN:B (A w)<B (A (ZW w (N #[Y (T (Q b off Z)) n j_] 25))):=by simp
 go_enter func80,ntmps80;go_wp2;generalize World.alloc w _=W at A0 k0 ZN ⊢;go_loopw [5] (λi wr=>∃k:Nat,k<=n/\i=J I k/\Hid (∀j,j<k->bw f j=ZH)/\Hid (Below (B (A W)) W wr)) (λi _=>n - (intOf i).toNat);case atStart=>exact⟨0,by omega,rfl,λj t=>absurd t (NF _),a8 _ _⟩
 case round =>
  obtain⟨k,hk,rfl,r,K⟩:=hrel;have k1:=(K.O (p:=(Q (B (A w)) 0 Z)) ZN).k k0;have ZT:=ae (A0.k (K.P A0.size));by_cases q:k<n
  ·go_wp2_with fail;refine(uh b off n j_ k f _ q (HR.aa ZT ly) (HM k q).1 (HZ k q).2.2.1.2).P ?_;rintro e w2⟨he,ZL⟩;have ZZ:=ae (ZT.k (ZL.P ZT.size));have H1:=ae (K.k (ZL.P K.size));clear ZL;cases ZS:bw f k with
   |true =>
    rw[ZS] at he;subst he;have HD:=ae ZS;clear ZS;go_wp2
    exact⟨⟨k+1,by omega,by go_num,λj t=>by
     by_cases e:j=k;{subst e;exact HD}
     ·exact r j (by omega),H1⟩,by simp[intOf];omega⟩
   |false =>
    rw[ZS] at he;subst he;have u:=fQ q ZS r.i;have l:c1=2/\c2=(k:Int):=by have:=P.i;rw[eT (by rw[u];omega),u] at this;simp only[LK] at this;omega
    obtain⟨l,y⟩:=l;clear P u ZS;subst l y;go_wp2;go_ret2;exact⟨rfl,ZZ⟩
  ·have e:n=k:=by omega
   subst e;have ex:=ej r.i;have ZP:Hid ((if aQ (λp=>bj f p p) n≠-1 then ((3:Int),aQ (λp=>bj f p p) n) else if bG 0 (aG f n)≠-1 then (4,bG 0 (aG f n)) else if bm f (aG f n)≠-1 then (5,bm f (aG f n)) else (0,0))=(c1,c2)):=by have:=P.i;rw[eI (by rw[ex];simp)] at this;exact this
   have aq:=ae ex;clear P ex r;go_wp2;clear q hk k1;generalize wr=W2 at K ZT ⊢;have k1:=(K.O (p:=(Q (B (A w)) 0 Z)) ZN).k k0;have qr:B (A w)<B (A W2):=lj ZN K.size;go_loopw [6] (λi wr=>∃k:Nat,k<=n/\i=J I k/\Hid (∀j,j<k->bj f j j=ZH)/\Hid (Below (B (A W2)) W2 wr)) (λi _=>n - (intOf i).toNat);case atStart=>exact⟨0,by omega,rfl,λj t=>absurd t (NF _),a8 _ _⟩
   case round =>
    obtain⟨k,hk,rfl,r,R⟩:=hrel;by_cases q:k<n
    ·go_wp2;generalize wr=W3 at R ⊢;go_loopw [7] (λi wr=>∃m:Nat,m<=k/\i=J I m/\Hid (bj f k m=ZH)/\Hid (Below (B (A W2)) W2 wr)) (λi _=>k - (intOf i).toNat);case atStart=>exact⟨0,by omega,rfl,rfl,R⟩
     case round =>
      obtain⟨m,hm,rfl,HN,S⟩:=hrel;have k2:=(S.O (p:=(Q (B (A w)) 0 Z)) qr).k k1;have ZZ:=ae (ZT.k (S.P ZT.size));by_cases Bk:m<k
      ·have d0:=((HR.aa ZZ ly).2 m (by omega)).1;have d1:=((HR.aa ZZ ly).2 k q).1;have hm0:(0:Int)<=m:=by omega
       have hmn:(m:Int)<n:=by omega
       have DE:(0:Int)<=k:=by omega
       have hkn:(k:Int)<n:=by omega
       cases hq:((f m).e.toList == (f k).e.toList) with
       |true =>
        have n9:bj f k k=ZA:=II Bk (by rw[bj,hq];simp);have u:=fQ (g:=λp=>bj f p p) q n9 r;have l:c1=3/\c2=(k:Int):=by have:=ZP.i;rw[eT (by rw[u];omega),u] at this;simp only[LK] at this;omega
        obtain⟨l,y⟩:=l;clear ZP u n9;subst l y;go_wp2_with fail;go_quiet (fail);have G2:=ae (AD ZZ nq);go_wp2;go_ret2;exact⟨rfl,G2⟩
       |false =>
        have th:Hid (bj f k (m+1)=ZH):=by show bj f k (m+1)=ZH;rw[bj,HN.i,hq];rfl
        go_wp2_with fail;go_quiet (fail);have H5:=ae (AD S nq);go_wp2;exact⟨⟨m+1,by omega,by go_num,th,H5⟩,by simp[intOf];omega⟩
      ·have e:m=k:=by omega
       subst e;go_wp2
       exact⟨⟨m+1,by omega,by go_num,λj t=>by
        by_cases e:j=m;{subst e;exact HN}
        ·exact r j (by omega),S⟩,by simp[intOf];omega⟩
    ·have e:n=k:=by omega
     subst e;have ld:=ej (g:=λp=>bj f p p) r;have D:Hid ((if bG 0 (aG f n)≠-1 then ((4:Int),bG 0 (aG f n)) else if bm f (aG f n)≠-1 then (5,bm f (aG f n)) else (0,0))=(c1,c2)):=by have:=ZP.i;rw[eI (by rw[ld];simp)] at this;exact this
     clear ZP ld r;have k2:=(R.O (p:=(Q (B (A w)) 0 Z)) qr).k k1;have ZZ:=ae (ZT.k (R.P ZT.size));have mv:=ae (kI (jE aq) (n:=n) (by omega));have hn1:1<=n:=by omega
     go_wp2_with fail;refine(xe b off n j_ f _ (jE aq) hn1 DQ (HR.aa ZZ ly) (pk aq)).P ?_;rintro e w5⟨H,ov,rfl,ro,ur,ZM,n8,ZL⟩;have G5:=ae (ZZ.k (ZL.P ZZ.size));obtain⟨o,ho⟩:=nw (f:=f) hn1;have At:0<(aG f n).length:=by rw[ho];simp
     have O:=ae (λh=>uB (f:=f) hn1 h);clear ho o;obtain⟨L,hL⟩:∃L,L=aG f n:=⟨_,rfl⟩
     rw[<-hL] at ZM n8 At D mv O;clear hL;obtain⟨g,oc,rfl⟩:∃g c,ov=Y (T (Q g 0 Z)) (ZV L) c:=by
      rcases ZM.2 with⟨_,h2⟩|⟨g,c,cur,h1,_⟩
      {omega};{exact⟨g,c,h1⟩}
     have Fd:Hid (∀j (h:j<ZV L),ZX w5 (Q g j Z)=T (J I ((L[j]).1:Int))/\g<B (A w5)):=by intro j t;have h1:=ZM.cells (g:=g) rfl j (J I ((L[j]).1:Int)) (by rw[L8,gq t];rfl);rw[Be,IT] at h1;exact⟨h1,(ZM.lt g rfl).2⟩
     have hll:=mv.i;clear ZM ZL k2;go_wp2;go_loopw [9] (λi wr=>∃k:Nat,k<=n/\i=J I k/\Hid (∀j,j<k->∃h:j<ZV L,(L[j]).1=j)/\Hid (Below (B (A w5)) w5 wr)) (λi _=>n - (intOf i).toNat);case atStart=>exact⟨0,by omega,rfl,λj t=>absurd t (NF _),a8 _ _⟩
     case round =>
      obtain⟨k,hk,rfl,r,C⟩:=hrel;have y:=(C.O (p:=(Q H 2 Z)) ro).k ur;have e3:=(C.O (p:=(Q H 3 Z)) ro).k n8;have G6:=ae (G5.k (C.P G5.size));by_cases q:k<n
      ·by_cases bt:k<ZV L
       ·obtain⟨q1,q2⟩:=Fd.i k bt;have d0:=(C.O (p:=(Q g k Z)) q2).k q1;have hkl':(k:Int)<(ZV L:Int):=by omega
        have hno:decide ((ZV L:Int)<=(k:Int))=ZA:=by simp;omega
        have hno':decide (ZV L<=k)=ZA:=by simp;omega
        have DE:(0:Int)<=k:=by omega
        obtain⟨z,hz⟩:∃z,z=(L[k]).1:=⟨_,rfl⟩
        rw[<-hz] at d0;have ZO:=ae hz;clear q1 q2 hz;by_cases x:(z:Int)=(k:Int)
        ·have HN:Hid (∀j,j<k+1->∃h:j<ZV L,(L[j]).1=j):=λj t=>by
          by_cases e:j=k;{subst e;exact⟨bt,by rw[<-ZO.i];omega⟩};{exact r j (by omega)}
         obtain rfl:z=k:=by omega
         clear x ZO;go_wp2;exact⟨⟨z+1,by omega,by go_num,HN,C⟩,by simp[intOf];omega⟩
        ·have s:bG 0 L=(k:Int):=by
          have:=Em (L:=L) (i:=0) (j:=k) bt (λm hm=>by obtain⟨h,e⟩:=r.i m hm;omega) (by rw[<-ZO.i];omega);simpa using this
         have l:c1=4/\c2=(k:Int):=by have:=D.i;rw[eT (by rw[s];omega),s] at this;simp only[LK] at this;omega
         have hne:((z:Int) != (k:Int))=ZH:=by simpa using x
         obtain⟨l,ZY⟩:=l;clear D s ZO;subst l ZY;go_wp2;go_ret2;exact⟨rfl,G6⟩
       ·have:=O.i λj t=>by obtain⟨h,e⟩:=r.i j (by omega);exact e
        omega
      ·have e:n=k:=by omega
       subst e;have M:∀j (h:j<ZV L),(L[j]).1=0+j:=λj t=>by obtain⟨h,e⟩:=r.i j (by omega);omega
       have s:=Bd M;rw[nu M] at e3;have G:Hid ((if bm f L≠-1 then ((5:Int),bm f L) else (0,0))=(c1,c2)):=by have:=D.i;rw[eI (by rw[s];simp)] at this;exact this
       have ZQ:=sD f L;generalize bm f L=X at e3 G ZQ;have sm:=ae ZQ;clear D s M ZQ y;by_cases x:X=-1
       ·have l:c1=0/\c2=0:=by
         have:=G.i;rw[eI (by rw[x];simp)] at this;simp only[LK] at this;omega
        obtain⟨l,ZY⟩:=l;have ZS:decide (0<=X)=ZA:=by rw[x];rfl
        clear G x;subst l ZY;go_wp2;go_ret2;exact⟨rfl,G6⟩
       {have l:c1=5/\c2=X:=(by have:=G.i;rw[eT x] at this;simp only[LK] at this;omega);have ZQ:0<=X:=sm.resolve_left x;obtain⟨l,ZY⟩:=l;clear G x sm;subst l ZY;go_wp2_with fail;go_quiet (fail);have G7:=ae (AD G6 nq);go_wp2;go_ret2;exact⟨rfl,G7⟩}
def uC (a:O_)(n j_:Nat)(f:Nat->au)(w:E)(hn:(n:Int)<=1048576)(o:SlDeed w a n f)(b:∀i,i<n->cX (f i))(g:∀i,i<n->fo (f i)):Calls Pg 30 #[ZJ #[Y a n j_]] w λe s=>e=ZI (ZF (bc f n))/\Below (B (A w)) w s:=by
 have q:=ae o;have u:=ae b;have t:=ae g;clear o b g;have j:=ae ((BS w).alloc ly (N #[Y a n j_] 25));obtain⟨r,h⟩:∃r,r=bc f n:=⟨_,rfl⟩
 rw[<-h];have l:=ae (show r=decide ((dE f n).1=0) from h);clear h;go_enter func30,ntmps30;go_wp2_with fail;refine(xf a n j_ f _ hn (q.aa j ly) u t).P ?_;rintro e w1⟨rfl,m⟩;have p:=ae (j.k (m.P j.size));clear m;generalize (dE f n).1=c at l ⊢;generalize (dE f n).2=d;cases r with
 |true =>obtain rfl:c=0:=OU l.c;go_wp2;go_ret;exact⟨rfl,p⟩
 |false =>
  have hc:(c == 0)=ZA:=by have:¬ c=0:=VB l.c;simpa using this
  go_wp2;go_ret;exact⟨rfl,p⟩
