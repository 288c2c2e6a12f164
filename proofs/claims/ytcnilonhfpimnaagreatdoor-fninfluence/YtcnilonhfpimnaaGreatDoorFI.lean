import Derived.Test.YtcnilonhfpimnaaGreatDoorFH
set_option linter.all false
set_option maxRecDepth 100000
set_option maxHeartbeats 8000000
open Go renaming Addr.mk->T,Value.slice->Y,Value.string->U,Value.int->J,Value.bool->ZF,Value.agg->ZJ,Obj.cells->N,IntKind.i64->I,World->E,Value->ZB,Ending.returned->ZI,World.heap->A,World.alloc->ZW,World.cell?->ZX,World.setCell->ZU,Proofs.Tryz.prog->Pg,Calls->Qw
open Option renaming none->Z,some->Q
open Bool renaming false->ZA,true->ZH
open Array renaming size->B
open List renaming length->ZV
namespace Go.Proofs.YtcnilonhfpimnaaGreatDoor.Vp
open Tryz RowKit
variable {n b H M off j_:Nat}{w w' W:E}{f:Nat->au}{L:List (Nat × Nat)}
def jL (a:O_)(n j_:Nat)(f:Nat->au)(w:E)(hn:(n:Int)<=1048576)(p:SlDeed w a n f)(l:(n:Int)<=j_)(b:∀i,i<n->cX (f i))(q:Tab w):Qw Pg 37 #[ZJ #[Y a n j_]] w λe u=>e=ZI (ZF (bc f n))/\Below (B (A w)) w u:=by
 have x:=ae p;have t:=ae b;have o:=ae q;clear p b q;have g:=ae ((BS w).alloc ly (N #[Y a n j_] 25));obtain⟨r,h⟩:∃r,r=bc f n:=⟨_,rfl⟩
 rw[<-h];have j:=ae (show r=decide ((dE f n).1=0) from h);clear h;go_enter func37,ntmps37;go_wp2_with fail;refine(xd a n j_ f _ hn (x.aa g ly) l t (o.aa g o.1)).P ?_;rintro e w1⟨rfl,m⟩;have s:=ae (g.k (m.P g.size));clear m;generalize (dE f n).1=c at j ⊢;generalize (dE f n).2=d;cases r with
 |true =>obtain rfl:c=0:=OT j.c;go_wp2;go_ret;exact⟨rfl,s⟩
 |false =>
  have hc:(c == 0)=ZA:=by have:¬ c=0:=VB j.c;simpa using this
  go_wp2;go_ret;exact⟨rfl,s⟩
def Ha:(Pg.info? 3).map (λi=>(i.zero,i.size,i.bytes))=Q (Q (J I 0),1,8):=by kernel_rfl
def SixB.ad{m f g j l i:ZB}(h:SixB w b m f g j l i)(hz:B (A w)<=B (A w'))(e:w'.heap[b]?=w.heap[b]?):SixB w' b m f g j l i:=
 have c:∀o,ZX w' (T b o Z)=ZX w (T b o Z):=λo=>cq (a:=(T b o Z)) e
 ⟨lj h.lt hz,(c 0).k h.c0,(c 1).k h.c1,(c 2).k h.c2,(c 3).k h.c3,(c 4).k h.c4,(c 5).k h.c5⟩
def TyAt.ad{g:Nat}{e:TypeId}(h:TyAt w g e)(hb:w'.heap[g]?=w.heap[g]?):TyAt w' g e:=by obtain⟨c,b⟩:=h;exact⟨c,hb.k b⟩
def Kpt.grown{h:Nat}{j:E}{v:ZB}{o:List ZB}(p:W.ownsRow h 3 1 v n o)(i:W.grownBy j v.ownBlock):Kpt H M W j:=by
 refine⟨i.size,λk e q m _ _=>?_⟩;obtain⟨c,b⟩:=q;refine i.p k (CV.1 b).1 λf=>?_;rcases p.2 with⟨rfl,_⟩|⟨g,j_,cur,rfl,_,l,_⟩
 {simp[Value.ownBlock] at f};{simp[Value.ownBlock] at f;subst f;rw[l] at b;simp at b;exact m b.2.c}
def SLs.app{g f:E}{n1:Nat}{s:Nat->Bool}{u v:ZB}{ord ord':List Nat}{r:Int}(h:SLs g W n1 b off n j_ H M s u ord r)(hz:B (A W)<=B (A f))(p:f.heap[H]?=W.heap[H]?)(m:f.heap[M]?=W.heap[M]?)(t:Below (B (A g)) g f)(i:f.ownsRow n1 3 1 v (ZV ord') (ord'.map λq:Nat=>Value.int I (q:Int))):SLs g (ZU f (T H 2 Z) v) n1 b off n j_ H M s v ord' r:=by
 have c:∀o,ZX f (T H o Z)=ZX W (T H o Z):=λo=>cq (a:=(T H o Z)) p;have z:∀o,f.frozen? (T H o Z)=W.frozen? (T H o Z):=λo=>NF (a:=(T H o Z)) p;have j:∀o,o≠2->ZX (ZU f (T H 2 Z) v) (T H o Z)=ZX f (T H o Z):=λo i=>sq _ _ _ _ (by first|(simp;done)|(simp;exact λe=>i e.c)|(simp;omega));refine⟨(j 0 (by omega)).k ((c 0).k h.c0),(j 1 (by omega)).k ((c 1).k h.c1),⟨BO _ _ _ (by rw[c 2,h.c2.1];rfl),?_⟩,⟨(j 3 (by omega)).k ((c 3).k h.c3.1),?_⟩,λq l=>⟨(sq _ _ _ _ (by first|(simp;done)|(simp;exact λe=>absurd e.c h.ne)|(simp;exact λe=>absurd e h.ne)|(simp;omega))).k ((cq (a:=(T M q Z)) m).k (h.row q l).1),?_⟩,pd i h.hH.2 _,t.setCell h.hH.1 _,h.hH,h.hM,h.ne,by have:=h.hz;simp;omega⟩;{rw[WE];exact(z 2).k h.c2.2};{rw[WE];exact(z 3).k h.c3.2};{rw[WE];exact(NF (a:=(T M q Z)) m).k (h.row q l).2}
def Bc (o:E)(n1 b off n j_ H M:Nat)(f:Nat->au)(hA:gA f n)(hn:(n:Int)<=400)(hf:Qk o b off n f)(hlk:∀p,p<n->(f p).f<=200):∀(k p d:Nat) (s:Nat->Bool) (R:ZB) (ord:List Nat) (m:Int) (W:E),p<k->p<n->d+p<=1000->SLs o W n1 b off n j_ H M s R ord m->s p=ZA->ZV ord+(lst f k p d s).2.length<=1000 ->
   Qw Pg 140 #[.pointer (Q (T H 0 Z)),J I (p:Int),J I (d:Int)] W λe W'=>e=ZI (.tuple #[])/\∃r,SLs o W' n1 b off n j_ H M (lst f k p d s).1 r (ord++(lst f k p d s).2.map (λz:Nat × Nat=>z.1)) (cW f m (lst f k p d s).2)/\Kpt H M W W':=by
 intro k;induction k with
 |zero=>intro p d s R ord m W h;omega
 |succ k ih =>
  intro p d s R ord m W hpk V hdp hS hs hN;have HS:=ae hS;have HN:=ae hN;have J5:=ae ih;have HA:=ae hA;have HF:=ae hf;have HLK:=ae hlk;obtain⟨Ka,J8,JV,JN,J4⟩:=NO Ha;obtain⟨mv,th,sm,ph,⟨a0,ZZ,ld,q4⟩,⟨a1,u,n9,q5⟩⟩:=hf.2 p V;have ZP:=ae (hS.mark V);have hb:=hf.1;obtain⟨x,hx⟩:∃x,x=f p:=⟨_,rfl⟩
  rw[<-hx] at mv th sm ph ld n9 q5;have hm2:x.f<=200:=by rw[hx];exact hlk p V
  have HL:=ae q5;have HX:=ae hx;have p0:=(ZP.low.O (p:=(T b (off+p*6) Z)) hb).k mv;have p1:=(ZP.low.O (p:=(T b (off+p*6+1) Z)) hb).k th;have p2:=(ZP.low.O (p:=(T b (off+p*6+2) Z)) hb).k sm;have p3:=(ZP.low.O (p:=(T b (off+p*6+3) Z)) hb).k ph;have p4:=(ZP.low.O (p:=(T b (off+p*6+4) Z)) hb).k ld;have p5:=(ZP.low.O (p:=(T b (off+p*6+5) Z)) hb).k n9;obtain⟨K,hK⟩:∃K,K=lks (lst f k) (f p) d s:=⟨_,rfl⟩
  have n8:Hid (lst f (k+1) p d s=(put (K x.f).1 p,(K x.f).2++[(p,d)])):=by rw[hK,hx];rfl
  have JL:Hid (K 0=(s,[])):=by rw[hK];rfl
  have JI:Hid (∀j,K (j+1)=if (x.m j).ask=ZH/\(K j).1 (x.m j).G.toNat=ZA then ((lst f k (x.m j).G.toNat (d+1) (K j).1).1,(K j).2++(lst f k (x.m j).G.toNat (d+1) (K j).1).2) else K j):=λj=>by rw[hK,hx];rfl
  have JU:Hid (∀i,i<=x.f->(K i).2 <+: (K x.f).2):=λi hi=>by rw[hK];exact qi hi
  have ZL:Hid (da f m (p,d)=if x.L=3/\60<=d/\(m<0\/(p:Int)<m) then (p:Int) else m):=by rw[hx];rfl
  have JM:H<B (A W):=by have:=hS.hH;have:=hS.hz;omega
  have JT:=hS.c1;obtain⟨JS,J6⟩:=hS.row p V;have JX:=ZP.c0;have hp0:(0:Int)<=p:=by omega
  have hpn':(p:Int)<n:=by omega
  have L:=ae (ZP.aa (br.alloc ly (N #[U x.e,J I x.L,J I x.M,U x.H,Y a0 x.h ZZ,Y a1 x.f u] 62)));have ZQ:=ae (lK (ZU W (T M p Z) (ZF ZH)) (U x.e) (J I x.L) (J I x.M) (U x.H) (Y a0 x.h ZZ) (Y a1 x.f u) 62);have ZN:Hid (TyAt (ZW (ZU W (T M p Z) (ZF ZH)) (N #[U x.e,J I x.L,J I x.M,U x.H,Y a0 x.h ZZ,Y a1 x.f u] 62)) (B (A (ZU W (T M p Z) (ZF ZH)))) 62):=⟨_,gM _ _⟩
  have ZY:=ae ((Kpt.setCell (H:=H) (M:=M) (j:=p) W M (.inr rfl) (ZF ZH)).k (Kpt.l (br.alloc ly (N #[U x.e,J I x.L,J I x.M,U x.H,Y a0 x.h ZZ,Y a1 x.f u] 62))));have Fd:B (A (ZU W (T M p Z) (ZF ZH)))=B (A W):=by simp
  rw[Fd] at ZQ ZN;clear hS hN ih hA hf hlk q4 q5 hx hK mv th sm ph ld n9 hs Fd ZP;go_enter func140,ntmps140;go_upto_region 2 with fail;generalize World.alloc (World.setCell W _ _) _=W2 at L ZQ ZN ZY ⊢;clear p0 p1 p2 p3 p4 p5 JT JS J6 JX;obtain⟨td,X⟩:∃td,td=decide (x.L=3/\60<=d):=⟨_,rfl⟩
  have HD:=ae X;clear X;have c1:=ZQ.c1;go_cut [28] (λJY wx=>JY=ZF td/\wx=W2);case first =>
   cases ZR:(x.L == 3) with
   |false =>
    obtain rfl:td=ZA:=by rw[HD.i];simp at ZR;simp[ZR]
    go_wp2;go_meet;exact⟨rfl,rfl⟩
   |true =>
    by_cases h6:(60:Int)<=(d:Int)
    ·obtain rfl:td=ZH:=by rw[HD.i];simp at ZR;simp[ZR];omega
     go_wp2;go_meet;exact⟨by first|rfl|(simp;done)|(simp;omega),rfl⟩
    ·obtain rfl:td=ZA:=by rw[HD.i];simp;omega
     go_wp2;go_meet;exact⟨by first|rfl|(simp;done)|(simp;omega),rfl⟩
  case rest =>
  obtain⟨rfl,rfl⟩:=hcut;clear c1;have hHD:H<B (A W):=JM;go_upto_if 28 with fail;go_cut [] (λwx=>Hid (SLs o wx n1 b off n j_ H M (put s p) R ord (da f m (p,d)))/\Hid (SixB wx (B (A W)) (U x.e) (J I x.L) (J I x.M) (U x.H) (Y a0 x.h ZZ) (Y a1 x.f u))/\Hid (TyAt wx (B (A W)) 62)/\Hid (Kpt H M W wx));case first =>
   cases td with
   |false =>
    have ZS:da f m (p,d)=m:=by rw[ZL.i,eI (λh=>by have:=HD.i;simp at this;have:=this h.1;omega)]
    have l:Hid (SLs o wc n1 b off n j_ H M (put s p) R ord (da f m (p,d))):=by show SLs _ _ _ _ _ _ _ _ _ _ _ _ _;rw[ZS];exact L
    clear ZS;go_wp2;go_meet;exact⟨l,ZQ,ZN,ZY⟩
   |true =>
    have X:x.L=3/\60<=d:=by have:=HD.i;simpa using this
    obtain⟨e3,z3⟩:=L.c3;have S:=ae X;clear X;have e4:(ZU wc (T H 3 Z) (J I (p:Int))).heap[B (A W)]?=wc.heap[B (A W)]?:=qh _ _ _ _ (by show (B (A W))≠H;omega);have SP:=ae (L.deep (p:Int));have DP:=ae (ZQ.ad (w':=ZU wc (T H 3 Z) (J I (p:Int))) (by simp) e4);have YP:=ae (ZN.ad e4);have DQ:=ae (ZY.k (Kpt.setCell (H:=H) (M:=M) (j:=3) wc H (.inl rfl) (J I (p:Int))));clear e4;by_cases g1:m<0
    ·have ZS:da f m (p,d)=(p:Int):=by rw[ZL.i,eT ⟨S.1,S.2,.inl g1⟩]
     have l:Hid (SLs o (ZU wc (T H 3 Z) (J I (p:Int))) n1 b off n j_ H M (put s p) R ord (da f m (p,d))):=by show SLs _ _ _ _ _ _ _ _ _ _ _ _ _;rw[ZS];exact SP
     clear ZS;go_wp2;go_meet;exact⟨l,DP,YP,DQ⟩
    ·by_cases g2:(p:Int)<m
     ·have ZS:da f m (p,d)=(p:Int):=by rw[ZL.i,eT ⟨S.1,S.2,.inr g2⟩]
      have l:Hid (SLs o (ZU wc (T H 3 Z) (J I (p:Int))) n1 b off n j_ H M (put s p) R ord (da f m (p,d))):=by show SLs _ _ _ _ _ _ _ _ _ _ _ _ _;rw[ZS];exact SP
      clear ZS;go_wp2;go_meet;exact⟨l,DP,YP,DQ⟩
     ·have ZS:da f m (p,d)=m:=by rw[ZL.i,eI (λh=>by have:=h.2.2;omega)]
      have l:Hid (SLs o wc n1 b off n j_ H M (put s p) R ord (da f m (p,d))):=by show SLs _ _ _ _ _ _ _ _ _ _ _ _ _;rw[ZS];exact L
      clear ZS;go_wp2;go_meet;exact⟨l,ZQ,ZN,ZY⟩
  case rest =>
  clear L ZQ ZN ZY;obtain⟨L,ZQ,ZN,ZY⟩:=hcut;obtain⟨C,bt⟩:∃C,C=da f m (p,d):=⟨_,rfl⟩
  rw[<-bt] at L;have JH:=ae bt;clear bt ZL;have Kc:Hid (C=da f m (p,d)):=JH.i;go_wp2;go_loopw [7] (λi wr=>∃(j:Nat) (r:ZB),j<=x.f/\i=J I j/\Hid (SLs o wr n1 b off n j_ H M (put (K j).1 p) r (ord++(K j).2.map (λz:Nat × Nat=>z.1)) (cW f C (K j).2))/\Hid (SixB wr (B (A W)) (U x.e) (J I x.L) (J I x.M) (U x.H) (Y a0 x.h ZZ) (Y a1 x.f u))/\Hid (TyAt wr (B (A W)) 62)/\Hid (Kpt H M W wr)) (λi _=>x.f - (intOf i).toNat);case atStart=>exact⟨0,R,by omega,rfl,by rw[JL.i];simp only[VN,XI,cW];exact L,ZQ,ZN,ZY⟩
  case round =>
   clear L ZQ ZN ZY;obtain⟨j,r,hj,rfl,l,D3,Y3,ex⟩:=hrel;have e5:=D3.c5;have P:B (A W)<B (A wr):=D3.lt;by_cases Fk:j<x.f
   ·obtain⟨lb,lo,rfl,ro⟩:=(HL.aa l.low ly).resolve_left (by omega);obtain⟨l0,l1,l2,l3⟩:=ro.2 j Fk;have qr:=JI.i j;have Bk:(x.m j).ask=ZH->(x.m j).G.toNat<p/\0<=(x.m j).G:=λh=>by have:=HA.i p V j (by rw[<-HX.i];exact Fk);rw[<-HX.i] at this;exact this h
    generalize x.m j=y at l0 l1 l2 l3 qr Bk;have la:=ae qr;have GS:=ae Bk;clear qr Bk l0 l2 ro;cases hask:y.ask with
    |false =>
     rw[hask] at l1;have t:K (j+1)=K j:=by rw[la.i,eI (by rw[hask];simp)]
     have ZM:=ae t;clear t;go_wp2_with fail;go_quiet (fail);have ZT:=ae (AD (BS wr) nq);have S4:=ae (l.aa ZT);have D4:=ae (D3.ad ZT.size (ZT.p _ P));have Y4:=ae (Y3.ad (ZT.p _ P));have ZO:=ae (ex.k (Kpt.l ZT));go_wp2;exact⟨⟨j+1,r,by omega,by go_num,by rw[ZM.i];exact S4,D4,Y4,ZO⟩,by simp[intOf];omega⟩
    |true =>
     rw[hask] at l1;obtain⟨q,hq⟩:∃q:Nat,y.G=(q:Int):=⟨y.G.toNat,by have:=(GS hask).2;omega⟩
     have JO:q<p:=by have:=(GS hask).1;rw[hq] at this;simpa using this
     rw[hq] at l3;have f1:=l.c1;obtain⟨f2,_⟩:=l.row q (by omega);have ur:put (K j).1 p q=(K j).1 q:=by simp[put];omega
     rw[ur] at f2;have hq0:(0:Int)<=q:=by omega
     have hqn:(q:Int)<n:=by omega
     have Kb:=ae ur;clear ur;cases hl:(K j).1 q with
     |true =>
      rw[hl] at f2;have t:K (j+1)=K j:=by rw[la.i,eI (by rw[hq];simp[hl])]
      have ZM:=ae t;clear t;go_wp2_with fail;go_quiet (fail);have ZT:=ae (AD (BS wr) nq);have S4:=ae (l.aa ZT);have D4:=ae (D3.ad ZT.size (ZT.p _ P));have Y4:=ae (Y3.ad (ZT.p _ P));have ZO:=ae (ex.k (Kpt.l ZT));go_wp2;exact⟨⟨j+1,r,by omega,by go_num,by rw[ZM.i];exact S4,D4,Y4,ZO⟩,by simp[intOf];omega⟩
     |false =>
      rw[hl] at f2;have t:K (j+1)=((lst f k q (d+1) (K j).1).1,(K j).2++(lst f k q (d+1) (K j).1).2):=by rw[la.i,eT ⟨hask,by rw[hq];simpa using hl⟩,hq];simp
      have ZM:=ae t;have At:=JU.i (j+1) (by omega);rw[t] at At;have JZ:=ae At;have JQ:=ae hl;clear t At;have fd:((d+1:Nat):Int)=(d:Int)+1:=by omega
      have HC:Hid (∀W5,SLs o W5 n1 b off n j_ H M (put (K j).1 p) r (ord++(K j).2.map (λz:Nat × Nat=>z.1)) (cW f C (K j).2)->Qw Pg 140 #[.pointer (Q (T H 0 Z)),J I (q:Int),J I ((d:Int)+1)] W5 λe W'=>e=ZI (.tuple #[])/\∃G,SLs o W' n1 b off n j_ H M (put (K (j+1)).1 p) G (ord++(K (j+1)).2.map (λz:Nat × Nat=>z.1)) (cW f C (K (j+1)).2)/\Kpt H M W5 W'):=by
       intro W5 h5;have Fm:=xO HA.i k q (d+1) (K j).1 p (by omega) JO;have Hx:(ord++(K j).2.map (λz:Nat × Nat=>z.1)).length+(lst f k q (d+1) (put (K j).1 p)).2.length<=1000:=by rw[Fm];have ZR:=HN.i;rw[n8.i] at ZR;have h4:=JZ.length_le;simp only[cM,vF,IS,PI] at ZR h4 ⊢;omega
       have h:=J5.i q (d+1) (put (K j).1 p) r (ord++(K j).2.map (λz:Nat × Nat=>z.1)) (cW f C (K j).2) W5 (by omega) (by omega) (by omega) h5 (Kb.k JQ) Hx;rw[fd,Fm] at h;refine h.P λe W' h=>?_;obtain⟨he,G,hs,hk⟩:=h;refine⟨he,G,?_,hk⟩;rw[ZM.i];simp only[ND,mV,<-NP];exact hs
      clear fd;go_wp2_with fail;go_quiet (fail);have ZT:=ae (AD (BS wr) nq);have S4:=ae (l.aa ZT);have D4:=ae (D3.ad ZT.size (ZT.p _ P));have Y4:=ae (Y3.ad (ZT.p _ P));have ZO:=ae (ex.k (Kpt.l ZT));have g5:=D4.c5;have DE:=(ZT.O (p:=(T lb (lo+j*4+3) Z)) (by have:=(HL.aa l.low ly);rcases this with h|⟨b',o',hv,hr⟩;(omega);(cases hv;exact hr.1))).k l3;clear e5 f1 f2 l1 l3;generalize wr.drewN nq=W5 at S4 D4 Y4 ZO g5 DE ⊢;go_wp2_with fail;refine(HC W5 S4).P ?_;rintro e W6⟨rfl,G,hs,hk⟩;have S5:=ae hs;have eD:=hk.keep (B (A W)) _ Y4.i (by decide) (by omega) (by have:=HS.hM;have:=HS.hz;omega);have D5:=ae (D4.ad hk.size eD);have Y5:=ae (Y4.ad eD);have J7:=ae (ZO.k hk);clear hs hk eD g5 DE;go_wp2;exact⟨⟨j+1,G,by omega,by go_num,S5,D5,Y5,J7⟩,by simp[intOf];omega⟩
   ·have e:j=x.f:=by omega
    subst e;obtain⟨f2,z2⟩:=l.c2;obtain⟨oa,oc,rfl⟩:∃a c,r=Y a (ord++(K x.f).2.map (λz:Nat × Nat=>z.1)).length c:=by
     rcases l.ord.2 with⟨h1,h2⟩|⟨g,c,JR,h1,_⟩
     {exact⟨Z,0,by rw[h1,h2]⟩};{exact⟨_,_,h1⟩}
    have JJ:(ord++(K x.f).2.map (λz:Nat × Nat=>z.1)).length<=1000:=by have ZR:=HN.i;rw[n8.i] at ZR;simp only[cM,vF,IS,PI] at ZR ⊢;omega
    generalize hO:ord++(K x.f).2.map (λz:Nat × Nat=>z.1)=O at l f2 JJ ⊢;have HO:=ae hO;clear hO;have JW:H<B (A wr):=by have:=l.hH;have:=l.hz;omega
    have JP:M<B (A wr):=by have:=l.hM;have:=l.hz;omega
    go_wp2_with (at_builtin;refine DN _ rfl (.tmp 88) (.tmp 90) 144 rfl n1 3 Ka (J I 0) 1 8 underlying144 J8 JV JN J4 rfl (by decide) _ (ZV O) (O.map λq:Nat=>Value.int I (q:Int)) (by simp[Act.eval]) (l.ord.alloc _) (T (B (A wr)) 0 Z) 1 1 [J I (p:Int)] (by simp[Act.eval]) rfl (cell_one_new _ _ _) (by simp[Value.oneCell']) (by unfold maxLen;omega) (by omega) (by have:=l.hz;simp;omega) ?_;intro vy wy aq D JG;have OW:Hid (wy.ownsRow n1 3 1 vy (O++[p]).length ((O++[p]).map λq:Nat=>Value.int I (q:Int))):=(by show World.ownsRow _ _ _ _ _ _ _;rw[cM,ND];exact aq);have GR:=ae D;have eH:wy.heap[H]?=wr.heap[H]?:=(D.p H (by simp;omega) (λe=>by have:=(l.ord.lt H e.c).1;have:=l.hH.2;omega)).k (((BS wr).alloc ly _).p _ JW);have eM:wy.heap[M]?=wr.heap[M]?:=(D.p M (by simp;omega) (λe=>by have:=(l.ord.lt M e.c).1;have:=l.hM.2;omega)).k (((BS wr).alloc ly _).p _ JP);have g2:=(cq (a:=(T H 2 Z)) eH).k f2;have y2:=(NF (a:=(T H 2 Z)) eH).k z2;obtain⟨gs,cs,rfl⟩:∃g c,vy=Y (Q (T g 0 Z)) (ZV O+1) c:=(by rcases aq.2 with⟨_,h2⟩|⟨g,c,JR,h1,_⟩;(omega);exact⟨g,c,h1⟩);have EH:=ae eH;have EM:=ae eM;clear aq D JG eH eM);have AL:=(BS wr).alloc ly (N #[J I (p:Int)] 3);have J0:B (A wr)<=B (A wy):=nX AL.size GR.size;have Id:Below (B (A o)) o wy:=bg (l.low.alloc l.low.size (N #[J I (p:Int)] 3)) GR (by have:=l.low.size;simp;omega) (λj e=>by have:=(l.ord.lt j e).1;have:=l.hH;omega);have F1:=l.app (v:=Y (Q (T gs 0 Z)) (ZV O+1) cs) (ord':=O++[p]) J0 EH EM Id OW;have F2:=((ex.k (Kpt.l AL)).k (Kpt.grown (l.ord.alloc (N #[J I (p:Int)] 3)) GR)).k (Kpt.setCell (H:=H) (M:=M) (j:=2) wy H (.inl rfl) (Y (Q (T gs 0 Z)) (ZV O+1) cs));have JK:cW f m ((K x.f).2++[(p,d)])=cW f C (K x.f).2:=by rw[mV,Kc.i,wV];rfl
    have J9:ord++((K x.f).2++[(p,d)]).map (λz:Nat × Nat=>z.1)=O++[p]:=by rw[ND,<-NP,HO.i];rfl
    go_end0;rw[n8.i];refine⟨rfl,Y (Q (T gs 0 Z)) (ZV O+1) cs,?_,F2⟩;show SLs o _ n1 b off n j_ H M (put (K x.f).1 p) _ (ord++((K x.f).2++[(p,d)]).map (λz:Nat × Nat=>z.1)) (cW f m ((K x.f).2++[(p,d)]));rw[JK,J9];exact F1
def Bd:∀{i:Nat},(∀j (h:j<ZV L),(L[j]).1=i+j)->bG i L=-1:=by
 induction L with
 |nil=>intro i _;rfl
 |cons x xs g =>intro i h;have b:=h 0 (by simp);simp at b;rw[bG,eT b];refine g λj f=>?_;have:=h (j+1) (by simpa using f);simp at this;omega
def Em:∀{i j:Nat} (f:j<ZV L),(∀m (h:m<j),(L[m]).1=i+m)->(L[j]).1≠i+j->bG i L=((i+j:Nat):Int):=by
 induction L with
 |nil=>intro i j f;simp at f
 |cons x xs l =>
  intro i j f h b;cases j with
  |zero =>simp at b;rw[bG,eI b];simp
  |succ j =>
   have g:=h 0 (by omega);simp at g;rw[bG,eT g,l (i:=i+1) (j:=j) (by simpa using f) (λm hm=>?_) (by simpa[U6,Nat.add_comm 1 j] using b)];{congr 1;omega};{have:=h (m+1) (by omega);simp at this;omega}
def oN {f:Nat->au}{d:Int}:∀{L:List (Nat × Nat)},0<=d->(∀x∈L,d<=(x.1:Int))->cW f d L=d
 |[],_,_=>rfl
 |x::xs,h,hx=>by
  have h1:da f d x=d:=by unfold da;rw[eI (λh2=>by have:=hx x (by simp);omega)]
  rw[cW,h1];exact oN h λy b=>hx y (by simp[b])
def nu {f:Nat->au}:∀{L:List (Nat × Nat)} {i:Nat},(∀j (h:j<ZV L),(L[j]).1=i+j)->cW f (-1) L=bm f L
 |[],_,_=>rfl
 |x::xs,i,h=>by
  have m:=h 0 (by simp);simp at m;have l:∀j (g:j<ZV xs),(xs[j]).1=i+1+j:=λj g=>by have:=h (j+1) (by simpa using g);simp at this;omega
  rw[cW,bm];by_cases b:(f x.1).L=3/\60<=x.2
  ·have h1:da f (-1) x=(x.1:Int):=by unfold da;rw[eT ⟨b.1,b.2,.inl (by omega)⟩]
   rw[eT b,h1];refine oN (by omega) λy n=>?_;obtain⟨j,g,rfl⟩:=QK n;have:=l j g;omega
  ·have h1:da f (-1) x=-1:=by unfold da;rw[eI (λh2=>b ⟨h2.1,h2.2.1⟩)]
   rw[eI b,h1];exact nu l
def nw (hn:1<=n):∃o,aG f n=o++[(n - 1,0)]:=by
 obtain⟨k,rfl⟩:∃k,n=k+1:=⟨n - 1,by omega⟩
 exact⟨_,rfl⟩
def uB (hn:1<=n)(h:∀j (hj:j<(aG f n).length),((aG f n)[j]).1=j):(aG f n).length=n:=by
 obtain⟨o,b⟩:=nw (f:=f) hn;have hl:(aG f n).length=ZV o+1:=by rw[b];simp
 have:=h (ZV o) (by omega);simp only[b] at this;simp at this;omega
def II{p k m:Nat}(hk:k<m)(h:bj f p (k+1)=ZA):bj f p m=ZA:=by
 induction m with
 |zero=>omega
 |succ j b =>
  by_cases e:k=j;{subst e;exact h};{rw[bj,b (by omega)];rfl}
structure Jr (w:E)(b:Nat)(v0 v1 v2 v3:ZB):Prop where
 c0:ZX w (T b 0 Z)=Q v0
 c1:ZX w (T b 1 Z)=Q v1
 c2:ZX w (T b 2 Z)=Q v2
 c3:ZX w (T b 3 Z)=Q v3
 z2:w.frozen? (T b 2 Z)=ZA
 z3:w.frozen? (T b 3 Z)=ZA
def En (w:E)(h f g b:ZB)(t:TypeId):Jr (ZW w (N #[h,f,g,b] t)).drew (B (A w)) h f g b:=⟨by simp,by simp,by simp,by simp,by simp,by simp⟩
def Hb:SLs w (((ZW w (N #[Y (Q (T b off Z)) n j_] 25)).alloc (N (bH n) 4)).alloc (N #[Y (Q (T b off Z)) n j_,Y (Q (T (B (A w)+1) 0 Z)) n n,Y Z 0 0,J I (-1)] 168)).drew (B (A w)+1+1+1) b off n j_ (B (A w)+1+1) (B (A w)+1) (λ_=>ZA) (Y Z 0 0) [] (-1):=by
 have i:B (A (ZW w (N #[Y (Q (T b off Z)) n j_] 25)))=B (A w)+1:=by simp
 have h:((ZW w (N #[Y (Q (T b off Z)) n j_] 25)).alloc (N (bH n) 4)).heap.size=B (A w)+1+1:=by simp
 have ZZ:=(((BS w).alloc ly (N #[Y (Q (T b off Z)) n j_] 25)).alloc (by simp) (N (bH n) 4)).alloc (by simp;omega) (N #[Y (Q (T b off Z)) n j_,Y (Q (T (B (A w)+1) 0 Z)) n n,Y Z 0 0,J I (-1)] 168);have D:Below (B (A w)+1+1) ((ZW w (N #[Y (Q (T b off Z)) n j_] 25)).alloc (N (bH n) 4)) (((ZW w (N #[Y (Q (T b off Z)) n j_] 25)).alloc (N (bH n) 4)).alloc (N #[Y (Q (T b off Z)) n j_,Y (Q (T (B (A w)+1) 0 Z)) n n,Y Z 0 0,J I (-1)] 168)).drew:=(br.alloc (by omega) _).drew;have hM:=λq g=>qj (ZW w (N #[Y (Q (T b off Z)) n j_] 25)) n q g;rw[i] at hM;have f:=En ((ZW w (N #[Y (Q (T b off Z)) n j_] 25)).alloc (N (bH n) 4)) (Y (Q (T b off Z)) n j_) (Y (Q (T (B (A w)+1) 0 Z)) n n) (Y Z 0 0) (J I (-1)) 168;rw[h] at f;refine⟨f.c0,f.c1,⟨f.c2,f.z2⟩,⟨f.c3,f.z3⟩,λq g=>⟨(D.O (p:=(T (B (A w)+1) q Z)) (eL _)).k (hM q g).1,(D.frozen (p:=(T (B (A w)+1) q Z)) (eL _)).k (hM q g).2⟩,CP _ _ _ _,ZZ.drew,by omega,by omega,by omega,?_⟩;simp
def xe (b off n j_:Nat)(f:Nat->au)(w:E)(m:gA f n)(hn1:1<=n)(hn:(n:Int)<=400)(r:Qk w b off n f)(hlk:∀p,p<n->(f p).f<=200):Qw Pg 103 #[ZJ #[Y (Q (T b off Z)) n j_],J I ((n:Int) - 1)] w λe g=>∃H j,e=ZI (.pointer (Q (T H 0 Z)))/\H<B (A g)/\ZX g (T H 2 Z)=Q j/\g.ownsRow (B (A w)) 3 1 j (aG f n).length ((aG f n).map λz:Nat × Nat=>Value.int I (z.1:Int))/\ZX g (T H 3 Z)=Q (J I (cW f (-1) (aG f n)))/\Below (B (A w)) w g:=by
 have u:ZX (ZW w (N #[Y (Q (T b off Z)) n j_] 25)) (T (B (A w)) 0 Z)=Q (Y (Q (T b off Z)) n j_):=by simp
 have o:=kI m hn1;have l:=Bc w (B (A w)+1+1+1) b off n j_ (B (A w)+1+1) (B (A w)+1) f m hn r hlk n (n - 1) 0 (λ_=>ZA) (Y Z 0 0) [] (-1) _ (by omega) (by omega) (by omega) Hb rfl (by have:=o;unfold aG at this;simp;omega);rw[show((n - 1:Nat):Int)=(n:Int) - 1 by omega] at l;have x:=ae l;have s:=λw=>Bb n (by omega) w;clear l m r hlk;have HW:Hid (B (A w)+1+1+1=(((ZW w (N #[Y (Q (T b off Z)) n j_] 25)).alloc (N (bH n) 4)).alloc (N #[Y (Q (T b off Z)) n j_,Y (Q (T (B (A w)+1) 0 Z)) n n,Y Z 0 0,J I (-1)] 168)).drew.heap.size):=by show _=_;simp
 go_enter func103,ntmps103;go_wp2_with fail;go_region_with fail;all_goals
  clear s u;go_wp2_with fail;refine x.P ?_;rintro e w2⟨rfl,j,q,t⟩;have i:=ae q;clear q t;go_wp2;go_ret;refine⟨B (A w)+1+1,j,rfl,?_,i.c2.1,?_,i.c3.1,i.low⟩
  ·have:=i.hz
   omega
  ·have h:=aE i.ord (base':=B (A w)) (by omega)
   simp only[NR,List.map_map,PI] at h;exact h
def Be (b o j:Nat):((T b o Z):Addr).add j=(T b (o+j) Z):=by unfold Addr.add;split<;>simp_all
def xf (a:O_)(n j_:Nat)(f:Nat->au)(w:E)(hn:(n:Int)<=1048576)(hv:SlDeed w a n f)(ex:∀i,i<n->cX (f i))(n8:∀i,i<n->fo (f i)):Qw Pg 65 #[ZJ #[Y a n j_]] w λe w'=>e=ZI (.tuple #[J I (dE f n).1,J I (dE f n).2])/\Below (B (A w)) w w':=by
 have HV:=ae hv;have HM:=ae ex;have HZ:=ae n8;clear hv ex n8;have A0:=ae ((BS w).alloc ly (N #[Y a n j_] 25));have k0:ZX (ZW w (N #[Y a n j_] 25)) (T (B (A w)) 0 Z)=Q (Y a n j_):=by simp
 obtain⟨c1,c2,M⟩:∃c1 c2,dE f n=(c1,c2):=⟨_,_,rfl⟩
 rw[M];have ZL:=ae M;clear M;by_cases h0:(n:Int)<1
 ·have l:c1=1/\c2=0:=by have:=ZL.i;unfold dE at this;rw[eT (.inl (by omega))] at this;simp only[LK] at this;omega
  clear ZL;obtain⟨l,ZZ⟩:=l;subst l ZZ;go_enter func65,ntmps65;go_wp2;go_ret2;exact⟨rfl,A0⟩
 by_cases h4:(400:Int)<(n:Int)
 ·have l:c1=1/\c2=0:=by have:=ZL.i;unfold dE at this;rw[eT (.inr (by omega))] at this;simp only[LK] at this;omega
  clear ZL;obtain⟨l,ZZ⟩:=l;subst l ZZ;go_enter func65,ntmps65;go_wp2;go_ret2;exact⟨rfl,A0⟩
 have P:Hid ((if aQ (bw f) n≠-1 then ((2:Int),aQ (bw f) n) else if aQ (λp=>bj f p p) n≠-1 then (3,aQ (λp=>bj f p p) n) else if bG 0 (aG f n)≠-1 then (4,bG 0 (aG f n)) else if bm f (aG f n)≠-1 then (5,bm f (aG f n)) else (0,0))=(c1,c2)):=by have:=ZL.i;unfold dE at this;rw[eI (by omega)] at this;exact this
 clear ZL;obtain⟨b,off,rfl,bt⟩:=HV.resolve_left (by omega);have HR:=ae bt;clear HV bt;have DE:(n:Int)<=400:=by omega
 have S:B (A w)<B (A (ZW w (N #[Y (Q (T b off Z)) n j_] 25))):=by simp
 go_enter func65,ntmps65;go_wp2;generalize World.alloc w _=W at A0 k0 S ⊢;go_loopw [5] (λi wr=>∃k:Nat,k<=n/\i=J I k/\Hid (∀j,j<k->bw f j=ZH)/\Hid (Below (B (A W)) W wr)) (λi _=>n - (intOf i).toNat);case atStart=>exact⟨0,by omega,rfl,λj t=>absurd t (NE _),a8 _ _⟩
 case round =>
  obtain⟨k,hk,rfl,r,ZS⟩:=hrel;have k1:=(ZS.O (p:=(T (B (A w)) 0 Z)) S).k k0;have D:=ae (A0.k (ZS.P A0.size));by_cases q:k<n
  ·go_wp2_with fail;refine(uh b off n j_ k f _ q (HR.aa D ly) (HM k q).1 (HZ k q).2.2.1.2).P ?_;rintro e w2⟨he,V⟩;have y:=ae (D.k (V.P D.size));have H1:=ae (ZS.k (V.P ZS.size));clear V;cases K:bw f k with
   |true =>
    rw[K] at he;subst he;have HD:=ae K;clear K;go_wp2
    exact⟨⟨k+1,by omega,by go_num,λj t=>by
     by_cases e:j=k;{subst e;exact HD}
     ·exact r j (by omega),H1⟩,by simp[intOf];omega⟩
   |false =>
    rw[K] at he;subst he;have u:=fQ q K r.i;have l:c1=2/\c2=(k:Int):=by have:=P.i;rw[eT (by rw[u];omega),u] at this;simp only[LK] at this;omega
    obtain⟨l,ZZ⟩:=l;clear P u K;subst l ZZ;go_wp2;go_ret2;exact⟨rfl,y⟩
  ·have e:n=k:=by omega
   subst e;have fd:=ej r.i;have ZO:Hid ((if aQ (λp=>bj f p p) n≠-1 then ((3:Int),aQ (λp=>bj f p p) n) else if bG 0 (aG f n)≠-1 then (4,bG 0 (aG f n)) else if bm f (aG f n)≠-1 then (5,bm f (aG f n)) else (0,0))=(c1,c2)):=by have:=P.i;rw[eI (by rw[fd];simp)] at this;exact this
   have la:=ae fd;clear P fd r;go_wp2;clear q hk k1;generalize wr=ZM at ZS D ⊢;have k1:=(ZS.O (p:=(T (B (A w)) 0 Z)) S).k k0;have ro:B (A w)<B (A ZM):=lj S ZS.size;go_loopw [6] (λi wr=>∃k:Nat,k<=n/\i=J I k/\Hid (∀j,j<k->bj f j j=ZH)/\Hid (Below (B (A ZM)) ZM wr)) (λi _=>n - (intOf i).toNat);case atStart=>exact⟨0,by omega,rfl,λj t=>absurd t (NE _),a8 _ _⟩
   case round =>
    obtain⟨k,hk,rfl,r,R⟩:=hrel;by_cases q:k<n
    ·go_wp2;generalize wr=W3 at R ⊢;go_loopw [7] (λi wr=>∃m:Nat,m<=k/\i=J I m/\Hid (bj f k m=ZH)/\Hid (Below (B (A ZM)) ZM wr)) (λi _=>k - (intOf i).toNat);case atStart=>exact⟨0,by omega,rfl,rfl,R⟩
     case round =>
      obtain⟨m,hm,rfl,HN,ZP⟩:=hrel;have k2:=(ZP.O (p:=(T (B (A w)) 0 Z)) ro).k k1;have y:=ae (D.k (ZP.P D.size));by_cases th:m<k
      ·have d0:=((HR.aa y ly).2 m (by omega)).1;have d1:=((HR.aa y ly).2 k q).1;have hm0:(0:Int)<=m:=by omega
       have hmn:(m:Int)<n:=by omega
       have Bk:(0:Int)<=k:=by omega
       have hkn:(k:Int)<n:=by omega
       cases hq:((f m).e.toList == (f k).e.toList) with
       |true =>
        have ph:bj f k k=ZA:=II th (by rw[bj,hq];simp);have u:=fQ (g:=λp=>bj f p p) q ph r;have l:c1=3/\c2=(k:Int):=by have:=ZO.i;rw[eT (by rw[u];omega),u] at this;simp only[LK] at this;omega
        obtain⟨l,ZZ⟩:=l;clear ZO u ph;subst l ZZ;go_wp2_with fail;go_quiet (fail);have G2:=ae (AD y nq);go_wp2;go_ret2;exact⟨rfl,G2⟩
       |false =>
        have ur:Hid (bj f k (m+1)=ZH):=by show bj f k (m+1)=ZH;rw[bj,HN.i,hq];rfl
        go_wp2_with fail;go_quiet (fail);have H5:=ae (AD ZP nq);go_wp2;exact⟨⟨m+1,by omega,by go_num,ur,H5⟩,by simp[intOf];omega⟩
      ·have e:m=k:=by omega
       subst e;go_wp2
       exact⟨⟨m+1,by omega,by go_num,λj t=>by
        by_cases e:j=m;{subst e;exact HN}
        ·exact r j (by omega),ZP⟩,by simp[intOf];omega⟩
    ·have e:n=k:=by omega
     subst e;have ld:=ej (g:=λp=>bj f p p) r;have ZY:Hid ((if bG 0 (aG f n)≠-1 then ((4:Int),bG 0 (aG f n)) else if bm f (aG f n)≠-1 then (5,bm f (aG f n)) else (0,0))=(c1,c2)):=by have:=ZO.i;rw[eI (by rw[ld];simp)] at this;exact this
     clear ZO ld r;have k2:=(R.O (p:=(T (B (A w)) 0 Z)) ro).k k1;have y:=ae (D.k (R.P D.size));have qr:=ae (kI (jE la) (n:=n) (by omega));have hn1:1<=n:=by omega
     go_wp2_with fail;refine(xe b off n j_ f _ (jE la) hn1 DE (HR.aa y ly) (pk la)).P ?_;rintro e w5⟨H,ov,rfl,sm,Fd,hO,mv,V⟩;have G5:=ae (y.k (V.P y.size));obtain⟨o,ho⟩:=nw (f:=f) hn1;have At:0<(aG f n).length:=by rw[ho];simp
     have ZQ:=ae (λh=>uB (f:=f) hn1 h);clear ho o;obtain⟨L,hL⟩:∃L,L=aG f n:=⟨_,rfl⟩
     rw[<-hL] at hO mv At ZY qr ZQ;clear hL;obtain⟨g,oc,rfl⟩:∃g c,ov=Y (Q (T g 0 Z)) (ZV L) c:=by
      rcases hO.2 with⟨_,h2⟩|⟨g,c,cur,h1,_⟩
      {omega};{exact⟨g,c,h1⟩}
     have DQ:Hid (∀j (h:j<ZV L),ZX w5 (T g j Z)=Q (J I ((L[j]).1:Int))/\g<B (A w5)):=by intro j t;have h1:=hO.cells (g:=g) rfl j (J I ((L[j]).1:Int)) (by rw[LR,gq t];rfl);rw[Be,IT] at h1;exact⟨h1,(hO.lt g rfl).2⟩
     have hll:=qr.i;clear hO V k2;go_wp2;go_loopw [9] (λi wr=>∃k:Nat,k<=n/\i=J I k/\Hid (∀j,j<k->∃h:j<ZV L,(L[j]).1=j)/\Hid (Below (B (A w5)) w5 wr)) (λi _=>n - (intOf i).toNat);case atStart=>exact⟨0,by omega,rfl,λj t=>absurd t (NE _),a8 _ _⟩
     case round =>
      obtain⟨k,hk,rfl,r,C⟩:=hrel;have ZZ:=(C.O (p:=(T H 2 Z)) sm).k Fd;have e3:=(C.O (p:=(T H 3 Z)) sm).k mv;have G6:=ae (G5.k (C.P G5.size));by_cases q:k<n
      ·by_cases aq:k<ZV L
       ·obtain⟨q1,q2⟩:=DQ.i k aq;have d0:=(C.O (p:=(T g k Z)) q2).k q1;have hkl':(k:Int)<(ZV L:Int):=by omega
        have hno:decide ((ZV L:Int)<=(k:Int))=ZA:=by simp;omega
        have hno':decide (ZV L<=k)=ZA:=by simp;omega
        have Bk:(0:Int)<=k:=by omega
        obtain⟨z,hz⟩:∃z,z=(L[k]).1:=⟨_,rfl⟩
        rw[<-hz] at d0;have O:=ae hz;clear q1 q2 hz;by_cases x:(z:Int)=(k:Int)
        ·have HN:Hid (∀j,j<k+1->∃h:j<ZV L,(L[j]).1=j):=λj t=>by
          by_cases e:j=k;{subst e;exact⟨aq,by rw[<-O.i];omega⟩};{exact r j (by omega)}
         obtain rfl:z=k:=by omega
         clear x O;go_wp2;exact⟨⟨z+1,by omega,by go_num,HN,C⟩,by simp[intOf];omega⟩
        ·have s:bG 0 L=(k:Int):=by
          have:=Em (L:=L) (i:=0) (j:=k) aq (λm hm=>by obtain⟨h,e⟩:=r.i m hm;omega) (by rw[<-O.i];omega);simpa using this
         have l:c1=4/\c2=(k:Int):=by have:=ZY.i;rw[eT (by rw[s];omega),s] at this;simp only[LK] at this;omega
         have hne:((z:Int) != (k:Int))=ZH:=by simpa using x
         obtain⟨l,G⟩:=l;clear ZY s O;subst l G;go_wp2;go_ret2;exact⟨rfl,G6⟩
       ·have:=ZQ.i λj t=>by obtain⟨h,e⟩:=r.i j (by omega);exact e
        omega
      ·have e:n=k:=by omega
       subst e;have ZR:∀j (h:j<ZV L),(L[j]).1=0+j:=λj t=>by obtain⟨h,e⟩:=r.i j (by omega);omega
       have s:=Bd ZR;rw[nu ZR] at e3;have ZT:Hid ((if bm f L≠-1 then ((5:Int),bm f L) else (0,0))=(c1,c2)):=by have:=ZY.i;rw[eI (by rw[s];simp)] at this;exact this
       have ZN:=sD f L;generalize bm f L=X at e3 ZT ZN;have n9:=ae ZN;clear ZY s ZR ZN ZZ;by_cases x:X=-1
       ·have l:c1=0/\c2=0:=by
         have:=ZT.i;rw[eI (by rw[x];simp)] at this;simp only[LK] at this;omega
        obtain⟨l,G⟩:=l;have K:decide (0<=X)=ZA:=by rw[x];rfl
        clear ZT x;subst l G;go_wp2;go_ret2;exact⟨rfl,G6⟩
       {have l:c1=5/\c2=X:=(by have:=ZT.i;rw[eT x] at this;simp only[LK] at this;omega);have ZN:0<=X:=n9.resolve_left x;obtain⟨l,G⟩:=l;clear ZT x n9;subst l G;go_wp2_with fail;go_quiet (fail);have G7:=ae (AD G6 nq);go_wp2;go_ret2;exact⟨rfl,G7⟩}
def uC (a:O_)(n j_:Nat)(f:Nat->au)(w:E)(hn:(n:Int)<=1048576)(m:SlDeed w a n f)(b:∀i,i<n->cX (f i))(g:∀i,i<n->fo (f i)):Qw Pg 24 #[ZJ #[Y a n j_]] w λe t=>e=ZI (ZF (bc f n))/\Below (B (A w)) w t:=by
 have q:=ae m;have s:=ae b;have u:=ae g;clear m b g;have l:=ae ((BS w).alloc ly (N #[Y a n j_] 25));obtain⟨r,j⟩:∃r,r=bc f n:=⟨_,rfl⟩
 rw[<-j];have h:=ae (show r=decide ((dE f n).1=0) from j);clear j;go_enter func24,ntmps24;go_wp2_with fail;refine(xf a n j_ f _ hn (q.aa l ly) s u).P ?_;rintro e w1⟨rfl,p⟩;have o:=ae (l.k (p.P l.size));clear p;generalize (dE f n).1=c at h ⊢;generalize (dE f n).2=d;cases r with
 |true =>obtain rfl:c=0:=OT h.c;go_wp2;go_ret;exact⟨rfl,o⟩
 |false =>
  have hc:(c == 0)=ZA:=by have:¬ c=0:=VB h.c;simpa using this
  go_wp2;go_ret;exact⟨rfl,o⟩
