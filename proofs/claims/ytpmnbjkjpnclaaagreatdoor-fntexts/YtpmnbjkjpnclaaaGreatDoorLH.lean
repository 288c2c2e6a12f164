import Derived.Test.YtpmnbjkjpnclaaaGreatDoorLG
import Derived.Test.YtpmnbjkjpnclaaaGreatDoorMY
set_option maxRecDepth 100000
set_option maxHeartbeats 8000000
open Go renaming Addr.mk->N,Value.slice->Y,Value.string->U,Value.int->Q,Value.bool->ZC,Value.agg->ZG,Obj.cells->J,IntKind.i64->I,World->M,Value->ZB,Ending.returned->ZD,World.heap->A,Proofs.Tryz.prog->Pg
open Option renaming none->Z,some->T
open Bool renaming false->ZA,true->ZF
open Array renaming size->B
namespace Go.Proofs.YtpmnbjkjpnclaaaGreatDoor.Vp
open Tryz RowKit
variable {n b H ZQ off cap:Nat}{w w' W:M}{f:Nat->aj}{L:List (Nat × Nat)}
theorem mQ (a:Option Addr)(n cap:Nat)(f:Nat->aj)(w:M)(hn:(n:Int)<=1048576)(o:SlDeed w a n f)(l:(n:Int)<=cap)(b:∀i,i<n->dQ (f i))(m:Tab w):Calls Pg 42 #[ZG #[Y a n cap]] w λe x=>e=ZD (ZC (bK f n))/\Below (B (A w)) w x:=by
 have u:=ae o;have t:=ae b;have s:=ae m;clear o b m;have g:=ae ((BS w).alloc ly (J #[Y a n cap] 37));obtain⟨r,h⟩:∃r,r=bK f n:=⟨_,rfl⟩
 rw[<-h];have j:=ae (show r=decide ((dH f n).1=0) from h);clear h;go_enter func42,ntmps42;go_wp2_with fail;refine(t8 a n cap f _ hn (u.aa g ly) l t (s.aa g s.1)).mono ?_;rintro e w1 ⟨rfl,q⟩;have p:=ae (g.trans (q.mono g.size));clear q;generalize (dH f n).1=c at j ⊢;generalize (dH f n).2=d;cases r with
 |true =>obtain rfl:c=0:=KP j.symm;go_wp2;go_ret;exact⟨rfl,p⟩
 |false =>
  have hc:(c == 0)=ZA:=by have:¬ c=0:=PK j.symm;simpa using this
  go_wp2;go_ret;exact⟨rfl,p⟩
theorem CU:(Pg.info? 3).map (λi=>(i.zero,i.size,i.bytes))=T (T (Q I 0),1,8):=by kernel_rfl
theorem SixB.ad{i g l f j m:ZB}(h:SixB w b i g l f j m)(hz:B (A w)<=B (A w'))(e:w'.heap[b]?=w.heap[b]?):SixB w' b i g l f j m :=
 have c:∀o,w'.cell? (N b o Z)=w.cell? (N b o Z):=λo=>cq (a:=(N b o Z)) e
 ⟨lj h.lt hz,(c 0).trans h.c0,(c 1).trans h.c1,(c 2).trans h.c2,(c 3).trans h.c3,(c 4).trans h.c4,(c 5).trans h.c5⟩
theorem TyAt.ad{g:Nat}{e:TypeId}(h:TyAt w g e)(hb:w'.heap[g]?=w.heap[g]?):TyAt w' g e:=by obtain⟨c,b⟩:=h;exact⟨c,hb.trans b⟩
theorem Kpt.grown{h:Nat}{i:M}{v:ZB}{q:List ZB}(p:W.ownsRow h 3 1 v n q)(l:W.grownBy i v.ownBlock):Kpt H ZQ W i:=by
 refine⟨l.size,λk e m o _ _=>?_⟩;obtain⟨c,b⟩:=m;refine l.block k (E7.1 b).1 λf=>?_;rcases p.2 with ⟨rfl,_⟩|⟨g,cap,cur,rfl,_,j,_⟩
 {simp[Value.ownBlock] at f};{simp[Value.ownBlock] at f;subst f;rw[j] at b;simp at b;exact o b.2.symm}
theorem SLs.app{g f:M}{n1:Nat}{s:Nat->Bool}{t v:ZB}{ord ord':List Nat}{r:Int}(h:SLs g W n1 b off n cap H ZQ s t ord r)(hz:B (A W)<=B (A f))(p:f.heap[H]?=W.heap[H]?)(m:f.heap[ZQ]?=W.heap[ZQ]?)(u:Below (B (A g)) g f)(j:f.ownsRow n1 3 1 v ord'.length (ord'.map λq:Nat=>Value.int I (q:Int))):SLs g (f.setCell (N H 2 Z) v) n1 b off n cap H ZQ s v ord' r:=by
 have c:∀o,f.cell? (N H o Z)=W.cell? (N H o Z):=λo=>cq (a:=(N H o Z)) p;have z:∀o,f.frozen? (N H o Z)=W.frozen? (N H o Z):=λo=>JK (a:=(N H o Z)) p;have i:∀o,o≠2->(f.setCell (N H 2 Z) v).cell? (N H o Z)=f.cell? (N H o Z):=λo j=>sq _ _ _ _ (by first|(simp;done)|(simp;exact λe=>j e.symm)|(simp;omega));refine⟨(i 0 (by omega)).trans ((c 0).trans h.c0),(i 1 (by omega)).trans ((c 1).trans h.c1),⟨DN _ _ _ (by rw[c 2,h.c2.1];rfl),?_⟩,⟨(i 3 (by omega)).trans ((c 3).trans h.c3.1),?_⟩,λq l=>⟨(sq _ _ _ _ (by first|(simp;done)|(simp;exact λe=>absurd e.symm h.ne)|(simp;exact λe=>absurd e h.ne)|(simp;omega))).trans ((cq (a:=(N ZQ q Z)) m).trans (h.row q l).1),?_⟩,mN j h.hH.2 _,u.setCell h.hH.1 _,h.hH,h.hM,h.ne,by have:=h.hz;simp;omega⟩;{rw[QR];exact(z 2).trans h.c2.2};{rw[QR];exact(z 3).trans h.c3.2};{rw[QR];exact(JK (a:=(N ZQ q Z)) m).trans (h.row q l).2}
theorem xZ (t:M)(n1 b off n cap H ZQ:Nat)(f:Nat->aj)(hA:fm f n)(hn:(n:Int)<=400)(hf:RowDeed t b off n f)(hlk:∀p,p<n->(f p).l<=200):∀(k p d:Nat) (s:Nat->Bool) (R:ZB) (ord:List Nat) (m:Int) (W:M),p<k->p<n->d+p<=1000->SLs t W n1 b off n cap H ZQ s R ord m->s p=ZA->ord.length+(lst f k p d s).2.length<=1000 ->
   Calls Pg 119 #[.pointer (T (N H 0 Z)),Q I (p:Int),Q I (d:Int)] W λe W'=>e=ZD (.tuple #[])/\∃r,SLs t W' n1 b off n cap H ZQ (lst f k p d s).1 r (ord++(lst f k p d s).2.map (λz:Nat × Nat=>z.1)) (cB f m (lst f k p d s).2)/\Kpt H ZQ W W':=by
 intro k;induction k with
 |zero=>intro p d s R ord m W h;omega
 |succ k ih =>
  intro p d s R ord m W hpk V hdp hS hs hN;have HS:=ae hS;have HN:=ae hN;have Gn:=ae ih;have HA:=ae hA;have HF:=ae hf;have HLK:=ae hlk;obtain⟨F7,F8,Gp,Gq,FV⟩:=JT CU;obtain⟨At,CD,ld,n8,⟨a0,u,qr,q4⟩,⟨a1,ZS,th,q5⟩⟩:=hf.2 p V;have S:=ae (hS.mark V);have hb:=hf.1;obtain⟨x,hx⟩:∃x,x=f p:=⟨_,rfl⟩
  rw[<-hx] at At CD ld n8 qr th q5;have hm2:x.l<=200:=by rw[hx];exact hlk p V
  have HL:=ae q5;have HX:=ae hx;have p0:=(S.low.cell (p:=(N b (off+p*6) Z)) hb).trans At;have p1:=(S.low.cell (p:=(N b (off+p*6+1) Z)) hb).trans CD;have p2:=(S.low.cell (p:=(N b (off+p*6+2) Z)) hb).trans ld;have p3:=(S.low.cell (p:=(N b (off+p*6+3) Z)) hb).trans n8;have p4:=(S.low.cell (p:=(N b (off+p*6+4) Z)) hb).trans qr;have p5:=(S.low.cell (p:=(N b (off+p*6+5) Z)) hb).trans th;obtain⟨K,hK⟩:∃K,K=lks (lst f k) (f p) d s:=⟨_,rfl⟩
  have ur:Hid (lst f (k+1) p d s=(put (K x.l).1 p,(K x.l).2++[(p,d)])):=by rw[hK,hx];rfl
  have FY:Hid (K 0=(s,[])):=by rw[hK];rfl
  have FZ:Hid (∀j,K (j+1)=if (x.u j).ask=ZF/\(K j).1 (x.u j).G.toNat=ZA then ((lst f k (x.u j).G.toNat (d+1) (K j).1).1,(K j).2++(lst f k (x.u j).G.toNat (d+1) (K j).1).2) else K j):=λj=>by rw[hK,hx];rfl
  have F3:Hid (∀i,i<=x.l->(K i).2 <+: (K x.l).2):=λi hi=>by rw[hK];exact nZ hi
  have X:Hid (cE f m (p,d)=if x.H=3/\60<=d/\(m<0∨(p:Int)<m) then (p:Int) else m):=by rw[hx];rfl
  have Gl:H<B (A W):=by have:=hS.hH;have:=hS.hz;omega
  have Gf:=hS.c1;obtain⟨Gk,F9⟩:=hS.row p V;have Gg:=S.c0;have hp0:(0:Int)<=p:=by omega
  have hpn':(p:Int)<n:=by omega
  have ZM:=ae (S.aa (br.alloc ly (J #[U x.e,Q I x.H,Q I x.E,U x.y,Y a0 x.m u,Y a1 x.l ZS] 46)));have ZO:=ae (jK (W.setCell (N ZQ p Z) (ZC ZF)) (U x.e) (Q I x.H) (Q I x.E) (U x.y) (Y a0 x.m u) (Y a1 x.l ZS) 46);have ZL:Hid (TyAt ((W.setCell (N ZQ p Z) (ZC ZF)).alloc (J #[U x.e,Q I x.H,Q I x.E,U x.y,Y a0 x.m u,Y a1 x.l ZS] 46)) (W.setCell (N ZQ p Z) (ZC ZF)).heap.size 46):=⟨_,gM _ _⟩
  have ZR:=ae ((Kpt.setCell (H:=H) (ZQ:=ZQ) (j:=p) W ZQ (.inr rfl) (ZC ZF)).trans (Kpt.q (br.alloc ly (J #[U x.e,Q I x.H,Q I x.E,U x.y,Y a0 x.m u,Y a1 x.l ZS] 46))));have Fk:(W.setCell (N ZQ p Z) (ZC ZF)).heap.size=B (A W):=by simp
  rw[Fk] at ZO ZL;clear hS hN ih hA hf hlk q4 q5 hx hK At CD ld n8 qr th hs Fk S;go_enter func119,ntmps119;go_upto_region 2 with fail;generalize World.alloc (World.setCell W _ _) _=W2 at ZM ZO ZL ZR ⊢;clear p0 p1 p2 p3 p4 p5 Gf Gk F9 Gg;obtain⟨td,ZJ⟩:∃td,td=decide (x.H=3/\60<=d):=⟨_,rfl⟩
  have HD:=ae ZJ;clear ZJ;have c1:=ZO.c1;go_cut [28] (λGh wx=>Gh=ZC td/\wx=W2);case first =>
   cases L:(x.H == 3) with
   |false =>
    obtain rfl:td=ZA:=by rw[HD.out];simp at L;simp[L]
    go_wp2;go_meet;exact⟨rfl,rfl⟩
   |true =>
    by_cases h6:(60:Int)<=(d:Int)
    ·obtain rfl:td=ZF:=by rw[HD.out];simp at L;simp[L];omega
     go_wp2;go_meet;exact⟨by first|rfl|(simp;done)|(simp;omega),rfl⟩
    ·obtain rfl:td=ZA:=by rw[HD.out];simp;omega
     go_wp2;go_meet;exact⟨by first|rfl|(simp;done)|(simp;omega),rfl⟩
  case rest =>
  obtain⟨rfl,rfl⟩:=hcut;clear c1;have hHD:H<B (A W):=Gl;go_upto_if 28 with fail;go_cut [] (λwx=>Hid (SLs t wx n1 b off n cap H ZQ (put s p) R ord (cE f m (p,d)))/\Hid (SixB wx (B (A W)) (U x.e) (Q I x.H) (Q I x.E) (U x.y) (Y a0 x.m u) (Y a1 x.l ZS))/\Hid (TyAt wx (B (A W)) 46)/\Hid (Kpt H ZQ W wx));case first =>
   cases td with
   |false =>
    have ZP:cE f m (p,d)=m:=by rw[X.out,eT (λh=>by have:=HD.out;simp at this;have:=this h.1;omega)]
    have l:Hid (SLs t wc n1 b off n cap H ZQ (put s p) R ord (cE f m (p,d))):=by show SLs _ _ _ _ _ _ _ _ _ _ _ _ _;rw[ZP];exact ZM
    clear ZP;go_wp2;go_meet;exact⟨l,ZO,ZL,ZR⟩
   |true =>
    have ZJ:x.H=3/\60<=d:=by have:=HD.out;simpa using this
    obtain⟨e3,z3⟩:=ZM.c3;have ZK:=ae ZJ;clear ZJ;have e4:(wc.setCell (N H 3 Z) (Q I (p:Int))).heap[B (A W)]?=wc.heap[B (A W)]?:=qh _ _ _ _ (by show (B (A W))≠H;omega);have SP:=ae (ZM.deep (p:Int));have DP:=ae (ZO.ad (w':=wc.setCell (N H 3 Z) (Q I (p:Int))) (by simp) e4);have YP:=ae (ZL.ad e4);have Fd:=ae (ZR.trans (Kpt.setCell (H:=H) (ZQ:=ZQ) (j:=3) wc H (.inl rfl) (Q I (p:Int))));clear e4;by_cases g1:m<0
    ·have ZP:cE f m (p,d)=(p:Int):=by rw[X.out,nL ⟨ZK.1,ZK.2,.inl g1⟩]
     have l:Hid (SLs t (wc.setCell (N H 3 Z) (Q I (p:Int))) n1 b off n cap H ZQ (put s p) R ord (cE f m (p,d))):=by show SLs _ _ _ _ _ _ _ _ _ _ _ _ _;rw[ZP];exact SP
     clear ZP;go_wp2;go_meet;exact⟨l,DP,YP,Fd⟩
    ·by_cases g2:(p:Int)<m
     ·have ZP:cE f m (p,d)=(p:Int):=by rw[X.out,nL ⟨ZK.1,ZK.2,.inr g2⟩]
      have l:Hid (SLs t (wc.setCell (N H 3 Z) (Q I (p:Int))) n1 b off n cap H ZQ (put s p) R ord (cE f m (p,d))):=by show SLs _ _ _ _ _ _ _ _ _ _ _ _ _;rw[ZP];exact SP
      clear ZP;go_wp2;go_meet;exact⟨l,DP,YP,Fd⟩
     ·have ZP:cE f m (p,d)=m:=by rw[X.out,eT (λh=>by have:=h.2.2;omega)]
      have l:Hid (SLs t wc n1 b off n cap H ZQ (put s p) R ord (cE f m (p,d))):=by show SLs _ _ _ _ _ _ _ _ _ _ _ _ _;rw[ZP];exact ZM
      clear ZP;go_wp2;go_meet;exact⟨l,ZO,ZL,ZR⟩
  case rest =>
  clear ZM ZO ZL ZR;obtain⟨ZM,ZO,ZL,ZR⟩:=hcut;obtain⟨C,aq⟩:∃C,C=cE f m (p,d):=⟨_,rfl⟩
  rw[<-aq] at ZM;have FO:=ae aq;clear aq X;have FX:Hid (C=cE f m (p,d)):=FO.out;go_wp2;go_loopw [7] (λi wr=>∃(j:Nat) (r:ZB),j<=x.l/\i=Q I j/\Hid (SLs t wr n1 b off n cap H ZQ (put (K j).1 p) r (ord++(K j).2.map (λz:Nat × Nat=>z.1)) (cB f C (K j).2))/\Hid (SixB wr (B (A W)) (U x.e) (Q I x.H) (Q I x.E) (U x.y) (Y a0 x.m u) (Y a1 x.l ZS))/\Hid (TyAt wr (B (A W)) 46)/\Hid (Kpt H ZQ W wr)) (λi _=>x.l - (intOf i).toNat);case atStart=>exact⟨0,R,by omega,rfl,by rw[FY.out];simp only[P9,List.append_nil,cB];exact ZM,ZO,ZL,ZR⟩
  case round =>
   clear ZM ZO ZL ZR;obtain⟨j,r,hj,rfl,l,D3,Y3,fd⟩:=hrel;have e5:=D3.c5;have P:B (A W)<B (A wr):=D3.lt;by_cases DS:j<x.l
   ·obtain⟨lb,lo,rfl,mv⟩:=(HL.aa l.low ly).resolve_left (by omega);obtain⟨l0,l1,l2,l3⟩:=mv.2 j DS;have ro:=FZ.out j;have Bk:(x.u j).ask=ZF->(x.u j).G.toNat<p/\0<=(x.u j).G:=λh=>by have:=HA.out p V j (by rw[<-HX.out];exact DS);rw[<-HX.out] at this;exact this h
    generalize x.u j=y at l0 l1 l2 l3 ro Bk;have sm:=ae ro;have DQ:=ae Bk;clear ro Bk l0 l2 mv;cases hask:y.ask with
    |false =>
     rw[hask] at l1;have o:K (j+1)=K j:=by rw[sm.out,eT (by rw[hask];simp)]
     have ZI:=ae o;clear o;go_wp2_with fail;go_quiet (fail);have E:=ae (E9 (BS wr) nq);have S4:=ae (l.aa E);have D4:=ae (D3.ad E.size (E.block _ P));have Y4:=ae (Y3.ad (E.block _ P));have ZN:=ae (fd.trans (Kpt.q E));go_wp2;exact⟨⟨j+1,r,by omega,by go_num,by rw[ZI.out];exact S4,D4,Y4,ZN⟩,by simp[intOf];omega⟩
    |true =>
     rw[hask] at l1;obtain⟨q,hq⟩:∃q:Nat,y.G=(q:Int):=⟨y.G.toNat,by have:=(DQ hask).2;omega⟩
     have Gc:q<p:=by have:=(DQ hask).1;rw[hq] at this;simpa using this
     rw[hq] at l3;have f1:=l.c1;obtain⟨f2,_⟩:=l.row q (by omega);have ph:put (K j).1 p q=(K j).1 q:=by simp[put];omega
     rw[ph] at f2;have hq0:(0:Int)<=q:=by omega
     have hqn:(q:Int)<n:=by omega
     have Gm:=ae ph;clear ph;cases hl:(K j).1 q with
     |true =>
      rw[hl] at f2;have o:K (j+1)=K j:=by rw[sm.out,eT (by rw[hq];simp[hl])]
      have ZI:=ae o;clear o;go_wp2_with fail;go_quiet (fail);have E:=ae (E9 (BS wr) nq);have S4:=ae (l.aa E);have D4:=ae (D3.ad E.size (E.block _ P));have Y4:=ae (Y3.ad (E.block _ P));have ZN:=ae (fd.trans (Kpt.q E));go_wp2;exact⟨⟨j+1,r,by omega,by go_num,by rw[ZI.out];exact S4,D4,Y4,ZN⟩,by simp[intOf];omega⟩
     |false =>
      rw[hl] at f2;have o:K (j+1)=((lst f k q (d+1) (K j).1).1,(K j).2++(lst f k q (d+1) (K j).1).2):=by rw[sm.out,nL ⟨hask,by rw[hq];simpa using hl⟩,hq];simp
      have ZI:=ae o;have n9:=F3.out (j+1) (by omega);rw[o] at n9;have FQ:=ae n9;have FW:=ae hl;clear o n9;have ex:((d+1:Nat):Int)=(d:Int)+1:=by omega
      have HC:Hid (∀W5,SLs t W5 n1 b off n cap H ZQ (put (K j).1 p) r (ord++(K j).2.map (λz:Nat × Nat=>z.1)) (cB f C (K j).2)->Calls Pg 119 #[.pointer (T (N H 0 Z)),Q I (q:Int),Q I ((d:Int)+1)] W5 λe W'=>e=ZD (.tuple #[])/\∃G,SLs t W' n1 b off n cap H ZQ (put (K (j+1)).1 p) G (ord++(K (j+1)).2.map (λz:Nat × Nat=>z.1)) (cB f C (K (j+1)).2)/\Kpt H ZQ W5 W'):=by
       intro W5 h5;have Fm:=uM HA.out k q (d+1) (K j).1 p (by omega) Gc;have FK:(ord++(K j).2.map (λz:Nat × Nat=>z.1)).length+(lst f k q (d+1) (put (K j).1 p)).2.length<=1000:=by rw[Fm];have L:=HN.out;rw[ur.out] at L;have h4:=FQ.length_le;simp only[eL,BG,JJ,LI] at L h4 ⊢;omega
       have h:=Gn.out q (d+1) (put (K j).1 p) r (ord++(K j).2.map (λz:Nat × Nat=>z.1)) (cB f C (K j).2) W5 (by omega) (by omega) (by omega) h5 (Gm.trans FW) FK;rw[ex,Fm] at h;refine h.mono λe W' h=>?_;obtain⟨he,G,hs,hk⟩:=h;refine⟨he,G,?_,hk⟩;rw[ZI.out];simp only[JS,kH,<-KQ];exact hs
      clear ex;go_wp2_with fail;go_quiet (fail);have E:=ae (E9 (BS wr) nq);have S4:=ae (l.aa E);have D4:=ae (D3.ad E.size (E.block _ P));have Y4:=ae (Y3.ad (E.block _ P));have ZN:=ae (fd.trans (Kpt.q E));have g5:=D4.c5;have DE:=(E.cell (p:=(N lb (lo+j*4+3) Z)) (by have:=(HL.aa l.low ly);rcases this with h|⟨b',o',hv,hr⟩;(omega);(cases hv;exact hr.1))).trans l3;clear e5 f1 f2 l1 l3;generalize wr.drewN nq=W5 at S4 D4 Y4 ZN g5 DE ⊢;go_wp2_with fail;refine(HC W5 S4).mono ?_;rintro e W6 ⟨rfl,G,hs,hk⟩;have S5:=ae hs;have eD:=hk.keep (B (A W)) _ Y4.out (by decide) (by omega) (by have:=HS.hM;have:=HS.hz;omega);have D5:=ae (D4.ad hk.size eD);have Y5:=ae (Y4.ad eD);have Ga:=ae (ZN.trans hk);clear hs hk eD g5 DE;go_wp2;exact⟨⟨j+1,G,by omega,by go_num,S5,D5,Y5,Ga⟩,by simp[intOf];omega⟩
   ·have e:j=x.l:=by omega
    subst e;obtain⟨f2,z2⟩:=l.c2;obtain⟨oa,oc,rfl⟩:∃a c,r=Y a (ord++(K x.l).2.map (λz:Nat × Nat=>z.1)).length c:=by
     rcases l.ord.2 with ⟨h1,h2⟩|⟨g,c,F0,h1,_⟩
     {exact⟨Z,0,by rw[h1,h2]⟩};{exact⟨_,_,h1⟩}
    have Ge:(ord++(K x.l).2.map (λz:Nat × Nat=>z.1)).length<=1000:=by have L:=HN.out;rw[ur.out] at L;simp only[eL,BG,JJ,LI] at L ⊢;omega
    generalize hO:ord++(K x.l).2.map (λz:Nat × Nat=>z.1)=O at l f2 Ge ⊢;have HO:=ae hO;clear hO;have Gr:H<B (A wr):=by have:=l.hH;have:=l.hz;omega
    have Gi:ZQ<B (A wr):=by have:=l.hM;have:=l.hz;omega
    go_wp2_with (at_builtin;refine IS _ rfl (.tmp 88) (.tmp 90) 107 rfl n1 3 F7 (Q I 0) 1 8 underlying107 F8 Gp Gq FV rfl (by decide) _ O.length (O.map λq:Nat=>Value.int I (q:Int)) (by simp[Act.eval]) (l.ord.alloc _) (N (B (A wr)) 0 Z) 1 1 [Q I (p:Int)] (by simp[Act.eval]) rfl (cell_one_new _ _ _) (by simp[Value.oneCell']) (by unfold maxLen;omega) (by omega) (by have:=l.hz;simp;omega) ?_;intro vy wy bt D FM;have OW:Hid (wy.ownsRow n1 3 1 vy (O++[p]).length ((O++[p]).map λq:Nat=>Value.int I (q:Int))):=(by show World.ownsRow _ _ _ _ _ _ _;rw[eL,JS];exact bt);have GR:=ae D;have eH:wy.heap[H]?=wr.heap[H]?:=(D.block H (by simp;omega) (λe=>by have:=(l.ord.lt H e.symm).1;have:=l.hH.2;omega)).trans (((BS wr).alloc ly _).block _ Gr);have eM:wy.heap[ZQ]?=wr.heap[ZQ]?:=(D.block ZQ (by simp;omega) (λe=>by have:=(l.ord.lt ZQ e.symm).1;have:=l.hM.2;omega)).trans (((BS wr).alloc ly _).block _ Gi);have g2:=(cq (a:=(N H 2 Z)) eH).trans f2;have y2:=(JK (a:=(N H 2 Z)) eH).trans z2;obtain⟨gs,cs,rfl⟩:∃g c,vy=Y (T (N g 0 Z)) (O.length+1) c:=(by rcases bt.2 with ⟨_,h2⟩|⟨g,c,F0,h1,_⟩;(omega);exact⟨g,c,h1⟩);have EH:=ae eH;have EM:=ae eM;clear bt D FM eH eM);have AL:=(BS wr).alloc ly (J #[Q I (p:Int)] 3);have Gb:B (A wr)<=B (A wy):=nD AL.size GR.size;have FP:Below (B (A t)) t wy:=bg (l.low.alloc l.low.size (J #[Q I (p:Int)] 3)) GR (by have:=l.low.size;simp;omega) (λj e=>by have:=(l.ord.lt j e).1;have:=l.hH;omega);have F1:=l.app (v:=Y (T (N gs 0 Z)) (O.length+1) cs) (ord':=O++[p]) Gb EH EM FP OW;have F2:=((fd.trans (Kpt.q AL)).trans (Kpt.grown (l.ord.alloc (J #[Q I (p:Int)] 3)) GR)).trans (Kpt.setCell (H:=H) (ZQ:=ZQ) (j:=2) wy H (.inl rfl) (Y (T (N gs 0 Z)) (O.length+1) cs));have Gj:cB f m ((K x.l).2++[(p,d)])=cB f C (K x.l).2:=by rw[kH,FX.out,tV];rfl
    have FU:ord++((K x.l).2++[(p,d)]).map (λz:Nat × Nat=>z.1)=O++[p]:=by rw[JS,<-KQ,HO.out];rfl
    go_end0;rw[ur.out];refine⟨rfl,Y (T (N gs 0 Z)) (O.length+1) cs,?_,F2⟩;show SLs t _ n1 b off n cap H ZQ (put (K x.l).1 p) _ (ord++((K x.l).2++[(p,d)]).map (λz:Nat × Nat=>z.1)) (cB f m ((K x.l).2++[(p,d)]));rw[Gj,FU];exact F1
theorem x7:∀{i:Nat},(∀j (h:j<L.length),(L[j]).1=i+j)->bC i L=-1:=by
 induction L with
 |nil=>intro i _;rfl
 |cons x xs g =>intro i h;have b:=h 0 (by simp);simp at b;rw[bC,nL b];refine g λj f=>?_;have:=h (j+1) (by simpa using f);simp at this;omega
theorem zW:∀{i j:Nat} (f:j<L.length),(∀m (h:m<j),(L[m]).1=i+m)->(L[j]).1≠i+j->bC i L=((i+j:Nat):Int):=by
 induction L with
 |nil=>intro i j f;simp at f
 |cons x xs l =>
  intro i j f h b;cases j with
  |zero =>simp at b;rw[bC,eT b];simp
  |succ j =>
   have g:=h 0 (by omega);simp at g;rw[bC,nL g,l (i:=i+1) (j:=j) (by simpa using f) (λm hm=>?_) (by simpa[Nat.add_assoc,Nat.add_comm 1 j] using b)];{congr 1;omega};{have:=h (m+1) (by omega);simp at this;omega}
theorem mw {f:Nat->aj}{d:Int}:∀{L:List (Nat × Nat)},0<=d->(∀x∈L,d<=(x.1:Int))->cB f d L=d
 |[],_,_=>rfl
 |x::xs,h,hx=>by
  have h1:cE f d x=d:=by unfold cE;rw[eT (λh2=>by have:=hx x (by simp);omega)]
  rw[cB,h1];exact mw h λy b=>hx y (by simp[b])
theorem kV {f:Nat->aj}:∀{L:List (Nat × Nat)} {i:Nat},(∀j (h:j<L.length),(L[j]).1=i+j)->cB f (-1) L=a8 f L
 |[],_,_=>rfl
 |x::xs,i,h=>by
  have n:=h 0 (by simp);simp at n;have l:∀j (g:j<xs.length),(xs[j]).1=i+1+j:=λj g=>by have:=h (j+1) (by simpa using g);simp at this;omega
  rw[cB,a8];by_cases b:(f x.1).H=3/\60<=x.2
  ·have h1:cE f (-1) x=(x.1:Int):=by unfold cE;rw[nL ⟨b.1,b.2,.inl (by omega)⟩]
   rw[nL b,h1];refine mw (by omega) λy m=>?_;obtain⟨j,g,rfl⟩:=SH m;have:=l j g;omega
  ·have h1:cE f (-1) x=-1:=by unfold cE;rw[eT (λh2=>b ⟨h2.1,h2.2.1⟩)]
   rw[eT b,h1];exact kV l
theorem kW (hn:1<=n):∃o,aE f n=o++[(n - 1,0)]:=by
 obtain⟨k,rfl⟩:∃k,n=k+1:=⟨n - 1,by omega⟩
 exact⟨_,rfl⟩
theorem rQ (hn:1<=n)(h:∀j (hj:j<(aE f n).length),((aE f n)[j]).1=j):(aE f n).length=n:=by
 obtain⟨o,b⟩:=kW (f:=f) hn;have hl:(aE f n).length=o.length+1:=by rw[b];simp
 have:=h o.length (by omega);simp only[b] at this;simp at this;omega
theorem Ey{p k m:Nat}(hk:k<m)(h:aU f p (k+1)=ZA):aU f p m=ZA:=by
 induction m with
 |zero=>omega
 |succ j b =>
  by_cases e:k=j;{subst e;exact h};{rw[aU,b (by omega)];rfl}
structure Fu (w:M)(b:Nat)(v0 v1 v2 v3:ZB):Prop where
 c0:w.cell? (N b 0 Z)=T v0
 c1:w.cell? (N b 1 Z)=T v1
 c2:w.cell? (N b 2 Z)=T v2
 c3:w.cell? (N b 3 Z)=T v3
 z2:w.frozen? (N b 2 Z)=ZA
 z3:w.frozen? (N b 3 Z)=ZA
theorem zX (w:M)(f h g b:ZB)(t:TypeId):Fu (w.alloc (J #[f,h,g,b] t)).drew (B (A w)) f h g b:=⟨by simp,by simp,by simp,by simp,by simp,by simp⟩
theorem CW:SLs w (((w.alloc (J #[Y (T (N b off Z)) n cap] 37)).alloc (J (bk n) 4)).alloc (J #[Y (T (N b off Z)) n cap,Y (T (N (B (A w)+1) 0 Z)) n n,Y Z 0 0,Q I (-1)] 109)).drew (B (A w)+1+1+1) b off n cap (B (A w)+1+1) (B (A w)+1) (λ_=>ZA) (Y Z 0 0) [] (-1):=by
 have h:(w.alloc (J #[Y (T (N b off Z)) n cap] 37)).heap.size=B (A w)+1:=by simp
 have i:((w.alloc (J #[Y (T (N b off Z)) n cap] 37)).alloc (J (bk n) 4)).heap.size=B (A w)+1+1:=by simp
 have ZS:=(((BS w).alloc ly (J #[Y (T (N b off Z)) n cap] 37)).alloc (by simp) (J (bk n) 4)).alloc (by simp;omega) (J #[Y (T (N b off Z)) n cap,Y (T (N (B (A w)+1) 0 Z)) n n,Y Z 0 0,Q I (-1)] 109);have D:Below (B (A w)+1+1) ((w.alloc (J #[Y (T (N b off Z)) n cap] 37)).alloc (J (bk n) 4)) (((w.alloc (J #[Y (T (N b off Z)) n cap] 37)).alloc (J (bk n) 4)).alloc (J #[Y (T (N b off Z)) n cap,Y (T (N (B (A w)+1) 0 Z)) n n,Y Z 0 0,Q I (-1)] 109)).drew:=(br.alloc (by omega) _).drew;have hM:=λq g=>od (w.alloc (J #[Y (T (N b off Z)) n cap] 37)) n q g;rw[h] at hM;have f:=zX ((w.alloc (J #[Y (T (N b off Z)) n cap] 37)).alloc (J (bk n) 4)) (Y (T (N b off Z)) n cap) (Y (T (N (B (A w)+1) 0 Z)) n n) (Y Z 0 0) (Q I (-1)) 109;rw[i] at f;refine⟨f.c0,f.c1,⟨f.c2,f.z2⟩,⟨f.c3,f.z3⟩,λq g=>⟨(D.cell (p:=(N (B (A w)+1) q Z)) (AD _)).trans (hM q g).1,(D.frozen (p:=(N (B (A w)+1) q Z)) (AD _)).trans (hM q g).2⟩,ES _ _ _ _,ZS.drew,by omega,by omega,by omega,?_⟩;simp
theorem ua (b off n cap:Nat)(f:Nat->aj)(w:M)(l:fm f n)(hn1:1<=n)(hn:(n:Int)<=400)(q:RowDeed w b off n f)(hlk:∀p,p<n->(f p).l<=200):Calls Pg 63 #[ZG #[Y (T (N b off Z)) n cap],Q I ((n:Int) - 1)] w λe i=>∃H j,e=ZD (.pointer (T (N H 0 Z)))/\H<B (A i)/\i.cell? (N H 2 Z)=T j/\i.ownsRow (B (A w)) 3 1 j (aE f n).length ((aE f n).map λz:Nat × Nat=>Value.int I (z.1:Int))/\i.cell? (N H 3 Z)=T (Q I (cB f (-1) (aE f n)))/\Below (B (A w)) w i:=by
 have u:(w.alloc (J #[Y (T (N b off Z)) n cap] 37)).cell? (N (B (A w)) 0 Z)=T (Y (T (N b off Z)) n cap):=by simp
 have o:=jo l hn1;have m:=xZ w (B (A w)+1+1+1) b off n cap (B (A w)+1+1) (B (A w)+1) f l hn q hlk n (n - 1) 0 (λ_=>ZA) (Y Z 0 0) [] (-1) _ (by omega) (by omega) (by omega) CW rfl (by have:=o;unfold aE at this;simp;omega);rw[show((n - 1:Nat):Int)=(n:Int) - 1 by omega] at m;have t:=ae m;have s:=λw=>xY n (by omega) w;clear m l q hlk;have HW:Hid (B (A w)+1+1+1=(((w.alloc (J #[Y (T (N b off Z)) n cap] 37)).alloc (J (bk n) 4)).alloc (J #[Y (T (N b off Z)) n cap,Y (T (N (B (A w)+1) 0 Z)) n n,Y Z 0 0,Q I (-1)] 109)).drew.heap.size):=by show _=_;simp
 go_enter func63,ntmps63;go_wp2_with fail;go_region_with fail;all_goals
  clear s u;go_wp2_with fail;refine t.mono ?_;rintro e w2 ⟨rfl,j,r,x⟩;have g:=ae r;clear r x;go_wp2;go_ret;refine⟨B (A w)+1+1,j,rfl,?_,g.c2.1,?_,g.c3.1,g.low⟩
  ·have:=g.hz
   omega
  ·have h:=aC g.ord (base':=B (A w)) (by omega)
   simp only[JW,List.map_map,LI] at h;exact h
theorem x8 (b o j:Nat):((N b o Z):Addr).add j=(N b (o+j) Z):=by unfold Addr.add;split<;>simp_all
theorem ub (a:Option Addr)(n cap:Nat)(f:Nat->aj)(w:M)(hn:(n:Int)<=1048576)(hv:SlDeed w a n f)(fd:∀i,i<n->dQ (f i))(mv:∀i,i<n->eQ (f i)):Calls Pg 103 #[ZG #[Y a n cap]] w λe w'=>e=ZD (.tuple #[Q I (dH f n).1,Q I (dH f n).2])/\Below (B (A w)) w w':=by
 have HV:=ae hv;have HM:=ae fd;have HZ:=ae mv;clear hv fd mv;have ZJ:=ae ((BS w).alloc ly (J #[Y a n cap] 37));have k0:(w.alloc (J #[Y a n cap] 37)).cell? (N (B (A w)) 0 Z)=T (Y a n cap):=by simp
 obtain⟨c1,c2,ZP⟩:∃c1 c2,dH f n=(c1,c2):=⟨_,_,rfl⟩
 rw[ZP];have V:=ae ZP;clear ZP;by_cases h0:(n:Int)<1
 ·have l:c1=1/\c2=0:=by have:=V.out;unfold dH at this;rw[nL (.inl (by omega))] at this;simp only[JL] at this;omega
  clear V;obtain⟨l,y⟩:=l;subst l y;go_enter func103,ntmps103;go_wp2;go_ret2;exact⟨rfl,ZJ⟩
 by_cases h4:(400:Int)<(n:Int)
 ·have l:c1=1/\c2=0:=by have:=V.out;unfold dH at this;rw[nL (.inr (by omega))] at this;simp only[JL] at this;omega
  clear V;obtain⟨l,y⟩:=l;subst l y;go_enter func103,ntmps103;go_wp2;go_ret2;exact⟨rfl,ZJ⟩
 have ZN:Hid ((if aK (bc f) n≠-1 then ((2:Int),aK (bc f) n) else if aK (λp=>aU f p p) n≠-1 then (3,aK (λp=>aU f p p) n) else if bC 0 (aE f n)≠-1 then (4,bC 0 (aE f n)) else if a8 f (aE f n)≠-1 then (5,a8 f (aE f n)) else (0,0))=(c1,c2)):=by have:=V.out;unfold dH at this;rw[eT (by omega)] at this;exact this
 clear V;obtain⟨b,off,rfl,bt⟩:=HV.resolve_left (by omega);have HR:=ae bt;clear HV bt;have DE:(n:Int)<=400:=by omega
 have ZL:B (A w)<(w.alloc (J #[Y (T (N b off Z)) n cap] 37)).heap.size:=by simp
 go_enter func103,ntmps103;go_wp2;generalize World.alloc w _=W at ZJ k0 ZL ⊢;go_loopw [5] (λi wr=>∃k:Nat,k<=n/\i=Q I k/\Hid (∀j,j<k->bc f j=ZF)/\Hid (Below (B (A W)) W wr)) (λi _=>n - (intOf i).toNat);case atStart=>exact⟨0,by omega,rfl,λj t=>absurd t (JI _),cM _ _⟩
 case round =>
  obtain⟨k,hk,rfl,r,ZO⟩:=hrel;have k1:=(ZO.cell (p:=(N (B (A w)) 0 Z)) ZL).trans k0;have D:=ae (ZJ.trans (ZO.mono ZJ.size));by_cases q:k<n
  ·go_wp2_with fail;refine(rp b off n cap k f _ q (HR.aa D ly) (HM k q).1 (HZ k q).2.2.1.2).mono ?_;rintro e w2 ⟨he,ZI⟩;have x:=ae (D.trans (ZI.mono D.size));have H1:=ae (ZO.trans (ZI.mono ZO.size));clear ZI;cases K:bc f k with
   |true =>
    rw[K] at he;subst he;have HD:=ae K;clear K;go_wp2
    exact⟨⟨k+1,by omega,by go_num,λj t=>by
     by_cases e:j=k;{subst e;exact HD}
     ·exact r j (by omega),H1⟩,by simp[intOf];omega⟩
   |false =>
    rw[K] at he;subst he;have u:=eW q K r.out;have l:c1=2/\c2=(k:Int):=by have:=ZN.out;rw[nL (by rw[u];omega),u] at this;simp only[JL] at this;omega
    obtain⟨l,y⟩:=l;clear ZN u K;subst l y;go_wp2;go_ret2;exact⟨rfl,x⟩
  ·have e:n=k:=by omega
   subst e;have ld:=eF r.out;have R:Hid ((if aK (λp=>aU f p p) n≠-1 then ((3:Int),aK (λp=>aU f p p) n) else if bC 0 (aE f n)≠-1 then (4,bC 0 (aE f n)) else if a8 f (aE f n)≠-1 then (5,a8 f (aE f n)) else (0,0))=(c1,c2)):=by have:=ZN.out;rw[eT (by rw[ld];simp)] at this;exact this
   have ex:=ae ld;clear ZN ld r;go_wp2;clear q hk k1;generalize wr=W2 at ZO D ⊢;have k1:=(ZO.cell (p:=(N (B (A w)) 0 Z)) ZL).trans k0;have qr:B (A w)<B (A W2):=lj ZL ZO.size;go_loopw [6] (λi wr=>∃k:Nat,k<=n/\i=Q I k/\Hid (∀j,j<k->aU f j j=ZF)/\Hid (Below (B (A W2)) W2 wr)) (λi _=>n - (intOf i).toNat);case atStart=>exact⟨0,by omega,rfl,λj t=>absurd t (JI _),cM _ _⟩
   case round =>
    obtain⟨k,hk,rfl,r,O⟩:=hrel;by_cases q:k<n
    ·go_wp2;generalize wr=W3 at O ⊢;go_loopw [7] (λi wr=>∃m:Nat,m<=k/\i=Q I m/\Hid (aU f k m=ZF)/\Hid (Below (B (A W2)) W2 wr)) (λi _=>k - (intOf i).toNat);case atStart=>exact⟨0,by omega,rfl,rfl,O⟩
     case round =>
      obtain⟨m,hm,rfl,HN,ZM⟩:=hrel;have k2:=(ZM.cell (p:=(N (B (A w)) 0 Z)) qr).trans k1;have x:=ae (D.trans (ZM.mono D.size));by_cases ur:m<k
      ·have d0:=((HR.aa x ly).2 m (by omega)).1;have d1:=((HR.aa x ly).2 k q).1;have hm0:(0:Int)<=m:=by omega
       have hmn:(m:Int)<n:=by omega
       have CD:(0:Int)<=k:=by omega
       have hkn:(k:Int)<n:=by omega
       cases hq:((f m).e.toList == (f k).e.toList) with
       |true =>
        have ph:aU f k k=ZA:=Ey ur (by rw[aU,hq];simp);have u:=eW (g:=λp=>aU f p p) q ph r;have l:c1=3/\c2=(k:Int):=by have:=R.out;rw[nL (by rw[u];omega),u] at this;simp only[JL] at this;omega
        obtain⟨l,y⟩:=l;clear R u ph;subst l y;go_wp2_with fail;go_quiet (fail);have G2:=ae (E9 x nq);go_wp2;go_ret2;exact⟨rfl,G2⟩
       |false =>
        have At:Hid (aU f k (m+1)=ZF):=by show aU f k (m+1)=ZF;rw[aU,HN.out,hq];rfl
        go_wp2_with fail;go_quiet (fail);have H5:=ae (E9 ZM nq);go_wp2;exact⟨⟨m+1,by omega,by go_num,At,H5⟩,by simp[intOf];omega⟩
      ·have e:m=k:=by omega
       subst e;go_wp2
       exact⟨⟨m+1,by omega,by go_num,λj t=>by
        by_cases e:j=m;{subst e;exact HN}
        ·exact r j (by omega),ZM⟩,by simp[intOf];omega⟩
    ·have e:n=k:=by omega
     subst e;have n8:=eF (g:=λp=>aU f p p) r;have G:Hid ((if bC 0 (aE f n)≠-1 then ((4:Int),bC 0 (aE f n)) else if a8 f (aE f n)≠-1 then (5,a8 f (aE f n)) else (0,0))=(c1,c2)):=by have:=R.out;rw[eT (by rw[n8];simp)] at this;exact this
     clear R n8 r;have k2:=(O.cell (p:=(N (B (A w)) 0 Z)) qr).trans k1;have x:=ae (D.trans (O.mono D.size));have ro:=ae (jo (iI ex) (n:=n) (by omega));have hn1:1<=n:=by omega
     go_wp2_with fail;refine(ua b off n cap f _ (iI ex) hn1 DE (HR.aa x ly) (mP ex)).mono ?_;rintro e w5 ⟨H,ov,rfl,th,DS,hO,sm,ZI⟩;have G5:=ae (x.trans (ZI.mono x.size));obtain⟨o,ho⟩:=kW (f:=f) hn1;have DQ:0<(aE f n).length:=by rw[ho];simp
     have S:=ae (λh=>rQ (f:=f) hn1 h);clear ho o;obtain⟨L,hL⟩:∃L,L=aE f n:=⟨_,rfl⟩
     rw[<-hL] at hO sm DQ G ro S;clear hL;obtain⟨g,oc,rfl⟩:∃g c,ov=Y (T (N g 0 Z)) L.length c:=by
      rcases hO.2 with ⟨_,h2⟩|⟨g,c,cur,h1,_⟩
      {omega};{exact⟨g,c,h1⟩}
     have Bk:Hid (∀j (h:j<L.length),w5.cell? (N g j Z)=T (Q I ((L[j]).1:Int))/\g<B (A w5)):=by intro j t;have h1:=hO.cells (g:=g) rfl j (Q I ((L[j]).1:Int)) (by rw[JM,gq t];rfl);rw[x8,JC] at h1;exact⟨h1,(hO.lt g rfl).2⟩
     have hll:=ro.out;clear hO ZI k2;go_wp2;go_loopw [9] (λi wr=>∃k:Nat,k<=n/\i=Q I k/\Hid (∀j,j<k->∃h:j<L.length,(L[j]).1=j)/\Hid (Below (B (A w5)) w5 wr)) (λi _=>n - (intOf i).toNat);case atStart=>exact⟨0,by omega,rfl,λj t=>absurd t (JI _),cM _ _⟩
     case round =>
      obtain⟨k,hk,rfl,r,ZR⟩:=hrel;have y:=(ZR.cell (p:=(N H 2 Z)) th).trans DS;have e3:=(ZR.cell (p:=(N H 3 Z)) th).trans sm;have G6:=ae (G5.trans (ZR.mono G5.size));by_cases q:k<n
      ·by_cases aq:k<L.length
       ·obtain⟨q1,q2⟩:=Bk.out k aq;have d0:=(ZR.cell (p:=(N g k Z)) q2).trans q1;have hkl':(k:Int)<(L.length:Int):=by omega
        have hno:decide ((L.length:Int)<=(k:Int))=ZA:=by simp;omega
        have hno':decide (L.length<=k)=ZA:=by simp;omega
        have CD:(0:Int)<=k:=by omega
        obtain⟨z,hz⟩:∃z,z=(L[k]).1:=⟨_,rfl⟩
        rw[<-hz] at d0;have P:=ae hz;clear q1 q2 hz;by_cases ZS:(z:Int)=(k:Int)
        ·have HN:Hid (∀j,j<k+1->∃h:j<L.length,(L[j]).1=j):=λj t=>by
          by_cases e:j=k;{subst e;exact⟨aq,by rw[<-P.out];omega⟩};{exact r j (by omega)}
         obtain rfl:z=k:=by omega
         clear ZS P;go_wp2;exact⟨⟨z+1,by omega,by go_num,HN,ZR⟩,by simp[intOf];omega⟩
        ·have s:bC 0 L=(k:Int):=by
          have:=zW (L:=L) (i:=0) (j:=k) aq (λm hm=>by obtain⟨h,e⟩:=r.out m hm;omega) (by rw[<-P.out];omega);simpa using this
         have l:c1=4/\c2=(k:Int):=by have:=G.out;rw[nL (by rw[s];omega),s] at this;simp only[JL] at this;omega
         have hne:((z:Int) != (k:Int))=ZF:=by simpa using ZS
         obtain⟨l,C⟩:=l;clear G s P;subst l C;go_wp2;go_ret2;exact⟨rfl,G6⟩
       ·have:=S.out λj t=>by obtain⟨h,e⟩:=r.out j (by omega);exact e
        omega
      ·have e:n=k:=by omega
       subst e;have ZQ:∀j (h:j<L.length),(L[j]).1=0+j:=λj t=>by obtain⟨h,e⟩:=r.out j (by omega);omega
       have s:=x7 ZQ;rw[kV ZQ] at e3;have E:Hid ((if a8 f L≠-1 then ((5:Int),a8 f L) else (0,0))=(c1,c2)):=by have:=G.out;rw[eT (by rw[s];simp)] at this;exact this
       have ZK:=pV f L;generalize a8 f L=X at e3 E ZK;have n9:=ae ZK;clear G s ZQ ZK y;by_cases ZS:X=-1
       ·have l:c1=0/\c2=0:=by
         have:=E.out;rw[eT (by rw[ZS];simp)] at this;simp only[JL] at this;omega
        obtain⟨l,C⟩:=l;have K:decide (0<=X)=ZA:=by rw[ZS];rfl
        clear E ZS;subst l C;go_wp2;go_ret2;exact⟨rfl,G6⟩
       {have l:c1=5/\c2=X:=(by have:=E.out;rw[nL ZS] at this;simp only[JL] at this;omega);have ZK:0<=X:=n9.resolve_left ZS;obtain⟨l,C⟩:=l;clear E ZS n9;subst l C;go_wp2_with fail;go_quiet (fail);have G7:=ae (E9 G6 nq);go_wp2;go_ret2;exact⟨rfl,G7⟩}
theorem rR (a:Option Addr)(n cap:Nat)(f:Nat->aj)(w:M)(hn:(n:Int)<=1048576)(m:SlDeed w a n f)(b:∀i,i<n->dQ (f i))(g:∀i,i<n->eQ (f i)):Calls Pg 46 #[ZG #[Y a n cap]] w λe u=>e=ZD (ZC (bK f n))/\Below (B (A w)) w u:=by
 have q:=ae m;have s:=ae b;have t:=ae g;clear m b g;have h:=ae ((BS w).alloc ly (J #[Y a n cap] 37));obtain⟨r,j⟩:∃r,r=bK f n:=⟨_,rfl⟩
 rw[<-j];have l:=ae (show r=decide ((dH f n).1=0) from j);clear j;go_enter func46,ntmps46;go_wp2_with fail;refine(ub a n cap f _ hn (q.aa h ly) s t).mono ?_;rintro e w1 ⟨rfl,p⟩;have o:=ae (h.trans (p.mono h.size));clear p;generalize (dH f n).1=c at l ⊢;generalize (dH f n).2=d;cases r with
 |true =>obtain rfl:c=0:=KP l.symm;go_wp2;go_ret;exact⟨rfl,o⟩
 |false =>
  have hc:(c == 0)=ZA:=by have:¬ c=0:=PK l.symm;simpa using this
  go_wp2;go_ret;exact⟨rfl,o⟩
