import Derived.Test.YtpmnbjkjpnclaaaGreatDoorRC
import Derived.Test.YtpmnbjkjpnclaaaGreatDoorRN
set_option maxRecDepth 100000
set_option maxHeartbeats 8000000
open Go renaming Addr.mk->Q,Value.slice->Z,Value.string->U,Value.int->N,Value.bool->ZD,Value.agg->ZH,Obj.cells->J,IntKind.i64->I,World->M,Value->ZC,Ending.returned->ZF,Proofs.Tryz.prog->Pg
open Option renaming none->Y,some->T
open Bool renaming false->ZA,true->ZG
namespace Go.Proofs.YtpmnbjkjpnclaaaGreatDoor.Vp
open Tryz RowKit
variable {n b H ZR off cap:Nat}{w w' W:M}{f:Nat->Deed}{L:List (Nat × Nat)}
theorem Hp:(Pg.info? 3).map (λi=>(i.zero,i.size,i.bytes))=T (T (N I 0),1,8):=by kernel_rfl
theorem SixB.ad{g m l f i j:ZC}(h:SixB w b g m l f i j)(hz:w.heap.size<=w'.heap.size)(e:w'.heap[b]?=w.heap[b]?):SixB w' b g m l f i j :=
 have c:∀o,w'.cell? (Q b o Y)=w.cell? (Q b o Y):=λo=>cq (a:=(Q b o Y)) e
 ⟨lj h.lt hz,(c 0).trans h.c0,(c 1).trans h.c1,(c 2).trans h.c2,(c 3).trans h.c3,(c 4).trans h.c4,(c 5).trans h.c5⟩
theorem TyAt.ad{g:Nat}{e:TypeId}(h:TyAt w g e)(hb:w'.heap[g]?=w.heap[g]?):TyAt w' g e:=by obtain⟨c,b⟩:=h;exact⟨c,hb.trans b⟩
theorem Kpt.grown{f:Nat}{i:M}{v:ZC}{m:List ZC}(o:W.ownsRow f 3 1 v n m)(l:W.grownBy i v.ownBlock):Kpt H ZR W i:=by
 refine⟨l.size,λk e p q _ _=>?_⟩;obtain⟨c,b⟩:=p;refine l.block k (eT.1 b).1 λh=>?_;rcases o.2 with ⟨rfl,_⟩|⟨g,cap,cur,rfl,_,j,_⟩
 {simp[Value.ownBlock] at h};{simp[Value.ownBlock] at h;subst h;rw[j] at b;simp at b;exact q b.2.symm}
theorem SLs.app{g f:M}{n1:Nat}{s:Nat->Bool}{t v:ZC}{ord ord':List Nat}{m:Int}(h:SLs g W n1 b off n cap H ZR s t ord m)(hz:W.heap.size<=f.heap.size)(p:f.heap[H]?=W.heap[H]?)(l:f.heap[ZR]?=W.heap[ZR]?)(u:Below g.heap.size g f)(j:f.ownsRow n1 3 1 v ord'.length (ord'.map λq:Nat=>Value.int I (q:Int))):SLs g (f.setCell (Q H 2 Y) v) n1 b off n cap H ZR s v ord' m:=by
 have c:∀o,f.cell? (Q H o Y)=W.cell? (Q H o Y):=λo=>cq (a:=(Q H o Y)) p;have z:∀o,f.frozen? (Q H o Y)=W.frozen? (Q H o Y):=λo=>JN (a:=(Q H o Y)) p;have i:∀o,o≠2->(f.setCell (Q H 2 Y) v).cell? (Q H o Y)=f.cell? (Q H o Y):=λo j=>sq _ _ _ _ (by first|(simp;done)|(simp;exact λe=>j e.symm)|(simp;omega));refine⟨(i 0 (by omega)).trans ((c 0).trans h.c0),(i 1 (by omega)).trans ((c 1).trans h.c1),⟨CX _ _ _ (by rw[c 2,h.c2.1];rfl),?_⟩,⟨(i 3 (by omega)).trans ((c 3).trans h.c3.1),?_⟩,λq r=>⟨(sq _ _ _ _ (by first|(simp;done)|(simp;exact λe=>absurd e.symm h.ne)|(simp;exact λe=>absurd e h.ne)|(simp;omega))).trans ((cq (a:=(Q ZR q Y)) l).trans (h.row q r).1),?_⟩,oX j h.hH.2 _,u.setCell h.hH.1 _,h.hH,h.hM,h.ne,by have:=h.hz;simp;omega⟩;{rw[VO];exact(z 2).trans h.c2.2};{rw[VO];exact(z 3).trans h.c3.2};{rw[VO];exact(JN (a:=(Q ZR q Y)) l).trans (h.row q r).2}
theorem BJ (o:M)(n1 b off n cap H ZR:Nat)(f:Nat->Deed)(hA:gu f n)(hn:(n:Int)<=400)(hf:RowDeed o b off n f)(hlk:∀p,p<n->(f p).b<=200):∀(k p d:Nat) (s:Nat->Bool) (S:ZC) (ord:List Nat) (m:Int) (W:M),p<k->p<n->d+p<=1000->SLs o W n1 b off n cap H ZR s S ord m->s p=ZA->ord.length+(lst f k p d s).2.length<=1000 ->
   Calls Pg 119 #[.pointer (T (Q H 0 Y)),N I (p:Int),N I (d:Int)] W λe W'=>e=ZF (.tuple #[])/\∃r,SLs o W' n1 b off n cap H ZR (lst f k p d s).1 r (ord++(lst f k p d s).2.map (λz:Nat × Nat=>z.1)) (cU f m (lst f k p d s).2)/\Kpt H ZR W W':=by
 intro k;induction k with
 |zero=>intro p d s S ord m W h;omega
 |succ k ih =>
  intro p d s S ord m W hpk V hdp hS hs hN;have HS:=ae hS;have HN:=ae hN;have Ld:=ae ih;have HA:=ae hA;have HF:=ae hf;have HLK:=ae hlk;obtain⟨Lg,Id,Li,Lm,Lw⟩:=OB Hp;obtain⟨ph,mv,ur,At,⟨a0,A,n9,q4⟩,⟨a1,u,qr,q5⟩⟩:=hf.2 p V;have P:=ae (hS.mark V);have hb:=hf.1;obtain⟨x,hx⟩:∃x,x=f p:=⟨_,rfl⟩
  rw[<-hx] at ph mv ur At n9 qr q5;have hm2:x.b<=200:=by rw[hx];exact hlk p V
  have HL:=ae q5;have HX:=ae hx;have p0:=(P.low.cell (p:=(Q b (off+p*6) Y)) hb).trans ph;have p1:=(P.low.cell (p:=(Q b (off+p*6+1) Y)) hb).trans mv;have p2:=(P.low.cell (p:=(Q b (off+p*6+2) Y)) hb).trans ur;have p3:=(P.low.cell (p:=(Q b (off+p*6+3) Y)) hb).trans At;have p4:=(P.low.cell (p:=(Q b (off+p*6+4) Y)) hb).trans n9;have p5:=(P.low.cell (p:=(Q b (off+p*6+5) Y)) hb).trans qr;obtain⟨K,hK⟩:∃K,K=lks (lst f k) (f p) d s:=⟨_,rfl⟩
  have la:Hid (lst f (k+1) p d s=(put (K x.b).1 p,(K x.b).2++[(p,d)])):=by rw[hK,hx];rfl
  have Lt:Hid (K 0=(s,[])):=by rw[hK];rfl
  have Lj:Hid (∀j,K (j+1)=if (x.D j).ask=ZG/\(K j).1 (x.D j).L.toNat=ZA then ((lst f k (x.D j).L.toNat (d+1) (K j).1).1,(K j).2++(lst f k (x.D j).L.toNat (d+1) (K j).1).2) else K j):=λj=>by rw[hK,hx];rfl
  have Lf:Hid (∀i,i<=x.b->(K i).2 <+: (K x.b).2):=λi hi=>by rw[hK];exact qe hi
  have ZL:Hid (cY f m (p,d)=if x.m=3/\60<=d/\(m<0∨(p:Int)<m) then (p:Int) else m):=by rw[hx];rfl
  have Lp:H<W.heap.size:=by have:=hS.hH;have:=hS.hz;omega
  have Lo:=hS.c1;obtain⟨Lu,JT⟩:=hS.row p V;have Ls:=P.c0;have hp0:(0:Int)<=p:=by omega
  have hpn':(p:Int)<n:=by omega
  have ZQ:=ae (P.aa (br.alloc ly (J #[U x.e,N I x.m,N I x.E,U x.B,Z a0 x.f A,Z a1 x.b u] 46)));have ZP:=ae (lN (W.setCell (Q ZR p Y) (ZD ZG)) (U x.e) (N I x.m) (N I x.E) (U x.B) (Z a0 x.f A) (Z a1 x.b u) 46);have ZN:Hid (TyAt ((W.setCell (Q ZR p Y) (ZD ZG)).alloc (J #[U x.e,N I x.m,N I x.E,U x.B,Z a0 x.f A,Z a1 x.b u] 46)) (W.setCell (Q ZR p Y) (ZD ZG)).heap.size 46):=⟨_,nL _ _⟩
  have B:=ae ((Kpt.setCell (H:=H) (ZR:=ZR) (j:=p) W ZR (.inr rfl) (ZD ZG)).trans (Kpt.u (br.alloc ly (J #[U x.e,N I x.m,N I x.E,U x.B,Z a0 x.f A,Z a1 x.b u] 46))));have DS:(W.setCell (Q ZR p Y) (ZD ZG)).heap.size=W.heap.size:=by simp
  rw[DS] at ZP ZN;clear hS hN ih hA hf hlk q4 q5 hx hK ph mv ur At n9 qr hs DS P;go_enter func119,ntmps119;go_upto_region 2 with fail;generalize World.alloc (World.setCell W _ _) _=W2 at ZQ ZP ZN B ⊢;clear p0 p1 p2 p3 p4 p5 Lo Lu JT Ls;obtain⟨ZJ,X⟩:∃ZJ,ZJ=decide (x.m=3/\60<=d):=⟨_,rfl⟩
  have HD:=ae X;clear X;have c1:=ZP.c1;go_cut [28] (λLc wx=>Lc=ZD ZJ/\wx=W2);case first =>
   cases h3:(x.m == 3) with
   |false =>
    obtain rfl:ZJ=ZA:=by rw[HD.out];simp at h3;simp[h3]
    go_wp2;go_meet;exact⟨rfl,rfl⟩
   |true =>
    by_cases h6:(60:Int)<=(d:Int)
    ·obtain rfl:ZJ=ZG:=by rw[HD.out];simp at h3;simp[h3];omega
     go_wp2;go_meet;exact⟨by first|rfl|(simp;done)|(simp;omega),rfl⟩
    ·obtain rfl:ZJ=ZA:=by rw[HD.out];simp;omega
     go_wp2;go_meet;exact⟨by first|rfl|(simp;done)|(simp;omega),rfl⟩
  case rest =>
  obtain⟨rfl,rfl⟩:=hcut;clear c1;have hHD:H<W.heap.size:=Lp;go_upto_if 28 with fail;go_cut [] (λwx=>Hid (SLs o wx n1 b off n cap H ZR (put s p) S ord (cY f m (p,d)))/\Hid (SixB wx W.heap.size (U x.e) (N I x.m) (N I x.E) (U x.B) (Z a0 x.f A) (Z a1 x.b u))/\Hid (TyAt wx W.heap.size 46)/\Hid (Kpt H ZR W wx));case first =>
   cases ZJ with
   |false =>
    have G:cY f m (p,d)=m:=by rw[ZL.out,gM (λh=>by have:=HD.out;simp at this;have:=this h.1;omega)]
    have l:Hid (SLs o wc n1 b off n cap H ZR (put s p) S ord (cY f m (p,d))):=by show SLs _ _ _ _ _ _ _ _ _ _ _ _ _;rw[G];exact ZQ
    clear G;go_wp2;go_meet;exact⟨l,ZP,ZN,B⟩
   |true =>
    have X:x.m=3/\60<=d:=by have:=HD.out;simpa using this
    obtain⟨e3,z3⟩:=ZQ.c3;have R:=ae X;clear X;have e4:(wc.setCell (Q H 3 Y) (N I (p:Int))).heap[W.heap.size]?=wc.heap[W.heap.size]?:=qh _ _ _ _ (by show W.heap.size≠H;omega);have SP:=ae (ZQ.deep (p:Int));have DP:=ae (ZP.ad (w':=wc.setCell (Q H 3 Y) (N I (p:Int))) (by simp) e4);have YP:=ae (ZN.ad e4);have DE:=ae (B.trans (Kpt.setCell (H:=H) (ZR:=ZR) (j:=3) wc H (.inl rfl) (N I (p:Int))));clear e4;by_cases g1:m<0
    ·have G:cY f m (p,d)=(p:Int):=by rw[ZL.out,p6 ⟨R.1,R.2,.inl g1⟩]
     have l:Hid (SLs o (wc.setCell (Q H 3 Y) (N I (p:Int))) n1 b off n cap H ZR (put s p) S ord (cY f m (p,d))):=by show SLs _ _ _ _ _ _ _ _ _ _ _ _ _;rw[G];exact SP
     clear G;go_wp2;go_meet;exact⟨l,DP,YP,DE⟩
    ·by_cases g2:(p:Int)<m
     ·have G:cY f m (p,d)=(p:Int):=by rw[ZL.out,p6 ⟨R.1,R.2,.inr g2⟩]
      have l:Hid (SLs o (wc.setCell (Q H 3 Y) (N I (p:Int))) n1 b off n cap H ZR (put s p) S ord (cY f m (p,d))):=by show SLs _ _ _ _ _ _ _ _ _ _ _ _ _;rw[G];exact SP
      clear G;go_wp2;go_meet;exact⟨l,DP,YP,DE⟩
     ·have G:cY f m (p,d)=m:=by rw[ZL.out,gM (λh=>by have:=h.2.2;omega)]
      have l:Hid (SLs o wc n1 b off n cap H ZR (put s p) S ord (cY f m (p,d))):=by show SLs _ _ _ _ _ _ _ _ _ _ _ _ _;rw[G];exact ZQ
      clear G;go_wp2;go_meet;exact⟨l,ZP,ZN,B⟩
  case rest =>
  clear ZQ ZP ZN B;obtain⟨ZQ,ZP,ZN,B⟩:=hcut;obtain⟨C,ZK⟩:∃C,C=cY f m (p,d):=⟨_,rfl⟩
  rw[<-ZK] at ZQ;have GS:=ae ZK;clear ZK ZL;have Le:Hid (C=cY f m (p,d)):=GS.out;go_wp2;go_loopw [7] (λi wr=>∃(j:Nat) (r:ZC),j<=x.b/\i=N I j/\Hid (SLs o wr n1 b off n cap H ZR (put (K j).1 p) r (ord++(K j).2.map (λz:Nat × Nat=>z.1)) (cU f C (K j).2))/\Hid (SixB wr W.heap.size (U x.e) (N I x.m) (N I x.E) (U x.B) (Z a0 x.f A) (Z a1 x.b u))/\Hid (TyAt wr W.heap.size 46)/\Hid (Kpt H ZR W wr)) (λi _=>x.b - (intOf i).toNat);case atStart=>exact⟨0,S,by omega,rfl,by rw[Lt.out];simp only[PX,WK,cU];exact ZQ,ZP,ZN,B⟩
  case round =>
   clear ZQ ZP ZN B;obtain⟨j,r,hj,rfl,l,D3,Y3,dg⟩:=hrel;have e5:=D3.c5;have ZO:W.heap.size<wr.heap.size:=D3.lt;by_cases DQ:j<x.b
   ·obtain⟨lb,lo,rfl,ld⟩:=(HL.aa l.low ly).resolve_left (by omega);obtain⟨l0,l1,l2,l3⟩:=ld.2 j DQ;have sm:=Lj.out j;have ro:(x.D j).ask=ZG->(x.D j).L.toNat<p/\0<=(x.D j).L:=λh=>by have:=HA.out p V j (by rw[<-HX.out];exact DQ);rw[<-HX.out] at this;exact this h
    generalize x.D j=y at l0 l1 l2 l3 sm ro;have th:=ae sm;have Fd:=ae ro;clear sm ro l0 l2 ld;cases hask:y.ask with
    |false =>
     rw[hask] at l1;have t:K (j+1)=K j:=by rw[th.out,gM (by rw[hask];simp)]
     have ZM:=ae t;clear t;go_wp2_with fail;go_quiet (fail);have E:=ae (BM (q9 wr) nq);have S4:=ae (l.aa E);have D4:=ae (D3.ad E.size (E.block _ ZO));have Y4:=ae (Y3.ad (E.block _ ZO));have L:=ae (dg.trans (Kpt.u E));go_wp2;exact⟨⟨j+1,r,by omega,by go_num,by rw[ZM.out];exact S4,D4,Y4,L⟩,by simp[intOf];omega⟩
    |true =>
     rw[hask] at l1;obtain⟨q,hq⟩:∃q:Nat,y.L=(q:Int):=⟨y.L.toNat,by have:=(Fd hask).2;omega⟩
     have Lr:q<p:=by have:=(Fd hask).1;rw[hq] at this;simpa using this
     rw[hq] at l3;have f1:=l.c1;obtain⟨f2,_⟩:=l.row q (by omega);have fd:put (K j).1 p q=(K j).1 q:=by simp[put];omega
     rw[fd] at f2;have hq0:(0:Int)<=q:=by omega
     have hqn:(q:Int)<n:=by omega
     have KZ:=ae fd;clear fd;cases hl:(K j).1 q with
     |true =>
      rw[hl] at f2;have t:K (j+1)=K j:=by rw[th.out,gM (by rw[hq];simp[hl])]
      have ZM:=ae t;clear t;go_wp2_with fail;go_quiet (fail);have E:=ae (BM (q9 wr) nq);have S4:=ae (l.aa E);have D4:=ae (D3.ad E.size (E.block _ ZO));have Y4:=ae (Y3.ad (E.block _ ZO));have L:=ae (dg.trans (Kpt.u E));go_wp2;exact⟨⟨j+1,r,by omega,by go_num,by rw[ZM.out];exact S4,D4,Y4,L⟩,by simp[intOf];omega⟩
     |false =>
      rw[hl] at f2;have t:K (j+1)=((lst f k q (d+1) (K j).1).1,(K j).2++(lst f k q (d+1) (K j).1).2):=by rw[th.out,p6 ⟨hask,by rw[hq];simpa using hl⟩,hq];simp
      have ZM:=ae t;have Bk:=Lf.out (j+1) (by omega);rw[t] at Bk;have Lx:=ae Bk;have La:=ae hl;clear t Bk;have bt:((d+1:Nat):Int)=(d:Int)+1:=by omega
      have HC:Hid (∀W5,SLs o W5 n1 b off n cap H ZR (put (K j).1 p) r (ord++(K j).2.map (λz:Nat × Nat=>z.1)) (cU f C (K j).2)->Calls Pg 119 #[.pointer (T (Q H 0 Y)),N I (q:Int),N I ((d:Int)+1)] W5 λe W'=>e=ZF (.tuple #[])/\∃F,SLs o W' n1 b off n cap H ZR (put (K (j+1)).1 p) F (ord++(K (j+1)).2.map (λz:Nat × Nat=>z.1)) (cU f C (K (j+1)).2)/\Kpt H ZR W5 W'):=by
       intro W5 h5;have Fk:=xP HA.out k q (d+1) (K j).1 p (by omega) Lr;have Hx:(ord++(K j).2.map (λz:Nat × Nat=>z.1)).length+(lst f k q (d+1) (put (K j).1 p)).2.length<=1000:=by rw[Fk];have h3:=HN.out;rw[la.out] at h3;have h4:=Lx.length_le;simp only[cM,eL,nX,Q9] at h3 h4 ⊢;omega
       have h:=Ld.out q (d+1) (put (K j).1 p) r (ord++(K j).2.map (λz:Nat × Nat=>z.1)) (cU f C (K j).2) W5 (by omega) (by omega) (by omega) h5 (KZ.trans La) Hx;rw[bt,Fk] at h;refine h.mono λe W' h=>?_;obtain⟨he,F,hs,hk⟩:=h;refine⟨he,F,?_,hk⟩;rw[ZM.out];simp only[DN,mM,<-OV];exact hs
      clear bt;go_wp2_with fail;go_quiet (fail);have E:=ae (BM (q9 wr) nq);have S4:=ae (l.aa E);have D4:=ae (D3.ad E.size (E.block _ ZO));have Y4:=ae (Y3.ad (E.block _ ZO));have L:=ae (dg.trans (Kpt.u E));have g5:=D4.c5;have DH:=(E.cell (p:=(Q lb (lo+j*4+3) Y)) (by have:=(HL.aa l.low ly);rcases this with h|⟨b',o',hv,hr⟩;(omega);(cases hv;exact hr.1))).trans l3;clear e5 f1 f2 l1 l3;generalize wr.drewN nq=W5 at S4 D4 Y4 L g5 DH ⊢;go_wp2_with fail;refine(HC W5 S4).mono ?_;rintro e W6 ⟨rfl,F,hs,hk⟩;have S5:=ae hs;have eD:=hk.keep W.heap.size _ Y4.out (by decide) (by omega) (by have:=HS.hM;have:=HS.hz;omega);have D5:=ae (D4.ad hk.size eD);have Y5:=ae (Y4.ad eD);have Lq:=ae (L.trans hk);clear hs hk eD g5 DH;go_wp2;exact⟨⟨j+1,F,by omega,by go_num,S5,D5,Y5,Lq⟩,by simp[intOf];omega⟩
   ·have e:j=x.b:=by omega
    subst e;obtain⟨f2,z2⟩:=l.c2;obtain⟨oa,oc,rfl⟩:∃a c,r=Z a (ord++(K x.b).2.map (λz:Nat × Nat=>z.1)).length c:=by
     rcases l.ord.2 with ⟨h1,h2⟩|⟨g,c,Ln,h1,_⟩
     {exact⟨Y,0,by rw[h1,h2]⟩};{exact⟨_,_,h1⟩}
    have Lv:(ord++(K x.b).2.map (λz:Nat × Nat=>z.1)).length<=1000:=by have h3:=HN.out;rw[la.out] at h3;simp only[cM,eL,nX,Q9] at h3 ⊢;omega
    generalize hO:ord++(K x.b).2.map (λz:Nat × Nat=>z.1)=O at l f2 Lv ⊢;have HO:=ae hO;clear hO;have KV:H<wr.heap.size:=by have:=l.hH;have:=l.hz;omega
    have Lh:ZR<wr.heap.size:=by have:=l.hM;have:=l.hz;omega
    go_wp2_with (at_builtin;refine BS _ rfl (.tmp 88) (.tmp 90) 107 rfl n1 3 Lg (N I 0) 1 8 underlying107 Id Li Lm Lw rfl (by decide) _ O.length (O.map λq:Nat=>Value.int I (q:Int)) (by simp[Act.eval]) (l.ord.alloc _) (Q wr.heap.size 0 Y) 1 1 [N I (p:Int)] (by simp[Act.eval]) rfl (cell_one_new _ _ _) (by simp[Value.oneCell']) (by unfold maxLen;omega) (by omega) (by have:=l.hz;simp;omega) ?_;intro vy wy aq D Fm;have OW:Hid (wy.ownsRow n1 3 1 vy (O++[p]).length ((O++[p]).map λq:Nat=>Value.int I (q:Int))):=(by show World.ownsRow _ _ _ _ _ _ _;rw[cM,DN];exact aq);have GR:=ae D;have eH:wy.heap[H]?=wr.heap[H]?:=(D.block H (by simp;omega) (λe=>by have:=(l.ord.lt H e.symm).1;have:=l.hH.2;omega)).trans (((q9 wr).alloc ly _).block _ KV);have eM:wy.heap[ZR]?=wr.heap[ZR]?:=(D.block ZR (by simp;omega) (λe=>by have:=(l.ord.lt ZR e.symm).1;have:=l.hM.2;omega)).trans (((q9 wr).alloc ly _).block _ Lh);have g2:=(cq (a:=(Q H 2 Y)) eH).trans f2;have y2:=(JN (a:=(Q H 2 Y)) eH).trans z2;obtain⟨gs,cs,rfl⟩:∃g c,vy=Z (T (Q g 0 Y)) (O.length+1) c:=(by rcases aq.2 with ⟨_,h2⟩|⟨g,c,Ln,h1,_⟩;(omega);exact⟨g,c,h1⟩);have EH:=ae eH;have EM:=ae eM;clear aq D Fm eH eM);have AL:=(q9 wr).alloc ly (J #[N I (p:Int)] 3);have Lb:wr.heap.size<=wy.heap.size:=p7 AL.size GR.size;have Fn:Below o.heap.size o wy:=bg (l.low.alloc l.low.size (J #[N I (p:Int)] 3)) GR (by have:=l.low.size;simp;omega) (λj e=>by have:=(l.ord.lt j e).1;have:=l.hH;omega);have F1:=l.app (v:=Z (T (Q gs 0 Y)) (O.length+1) cs) (ord':=O++[p]) Lb EH EM Fn OW;have F2:=((dg.trans (Kpt.u AL)).trans (Kpt.grown (l.ord.alloc (J #[N I (p:Int)] 3)) GR)).trans (Kpt.setCell (H:=H) (ZR:=ZR) (j:=2) wy H (.inl rfl) (Z (T (Q gs 0 Y)) (O.length+1) cs));have Ly:cU f m ((K x.b).2++[(p,d)])=cU f C (K x.b).2:=by rw[mM,Le.out,wT];rfl
    have Ll:ord++((K x.b).2++[(p,d)]).map (λz:Nat × Nat=>z.1)=O++[p]:=by rw[DN,<-OV,HO.out];rfl
    go_end0;rw[la.out];refine⟨rfl,Z (T (Q gs 0 Y)) (O.length+1) cs,?_,F2⟩;show SLs o _ n1 b off n cap H ZR (put (K x.b).1 p) _ (ord++((K x.b).2++[(p,d)]).map (λz:Nat × Nat=>z.1)) (cU f m ((K x.b).2++[(p,d)]));rw[Ly,Ll];exact F1
theorem BK:∀{i:Nat},(∀j (h:j<L.length),(L[j]).1=i+j)->bA i L=-1:=by
 induction L with
 |nil=>intro i _;rfl
 |cons x xs c =>intro i h;have b:=h 0 (by simp);simp at b;rw[bA,p6 b];refine c λj f=>?_;have:=h (j+1) (by simpa using f);simp at this;omega
theorem EJ:∀{i j:Nat} (c:j<L.length),(∀m (h:m<j),(L[m]).1=i+m)->(L[j]).1≠i+j->bA i L=((i+j:Nat):Int):=by
 induction L with
 |nil=>intro i j c;simp at c
 |cons x xs g =>
  intro i j c h b;cases j with
  |zero =>simp at b;rw[bA,gM b];simp
  |succ j =>
   have f:=h 0 (by omega);simp at f;rw[bA,p6 f,g (i:=i+1) (j:=j) (by simpa using c) (λm hm=>?_) (by simpa[Nat.add_assoc,Nat.add_comm 1 j] using b)];{congr 1;omega};{have:=h (m+1) (by omega);simp at this;omega}
theorem oC {f:Nat->Deed}{d:Int}:∀{L:List (Nat × Nat)},0<=d->(∀x∈L,d<=(x.1:Int))->cU f d L=d
 |[],_,_=>rfl
 |x::xs,h,hx=>by
  have h1:cY f d x=d:=by unfold cY;rw[gM (λh2=>by have:=hx x (by simp);omega)]
  rw[cU,h1];exact oC h λy b=>hx y (by simp[b])
theorem nh {f:Nat->Deed}:∀{L:List (Nat × Nat)} {i:Nat},(∀j (h:j<L.length),(L[j]).1=i+j)->cU f (-1) L=aZ f L
 |[],_,_=>rfl
 |x::xs,i,h=>by
  have l:=h 0 (by simp);simp at l;have g:∀j (c:j<xs.length),(xs[j]).1=i+1+j:=λj c=>by have:=h (j+1) (by simpa using c);simp at this;omega
  rw[cU,aZ];by_cases b:(f x.1).m=3/\60<=x.2
  ·have h1:cY f (-1) x=(x.1:Int):=by unfold cY;rw[p6 ⟨b.1,b.2,.inl (by omega)⟩]
   rw[p6 b,h1];refine oC (by omega) λy m=>?_;obtain⟨j,c,rfl⟩:=US m;have:=g j c;omega
  ·have h1:cY f (-1) x=-1:=by unfold cY;rw[gM (λh2=>b ⟨h2.1,h2.2.1⟩)]
   rw[gM b,h1];exact nh g
theorem ni (hn:1<=n):∃o,aC f n=o++[(n - 1,0)]:=by
 obtain⟨k,rfl⟩:∃k,n=k+1:=⟨n - 1,by omega⟩
 exact⟨_,rfl⟩
theorem uH (hn:1<=n)(h:∀j (hj:j<(aC f n).length),((aC f n)[j]).1=j):(aC f n).length=n:=by
 obtain⟨o,b⟩:=ni (f:=f) hn;have hl:(aC f n).length=o.length+1:=by rw[b];simp
 have:=h o.length (by omega);simp only[b] at this;simp at this;omega
theorem Jl{p k m:Nat}(hk:k<m)(h:bc f p (k+1)=ZA):bc f p m=ZA:=by
 induction m with
 |zero=>omega
 |succ j b =>
  by_cases e:k=j;{subst e;exact h};{rw[bc,b (by omega)];rfl}
structure Kf (w:M)(b:Nat)(v0 v1 v2 v3:ZC):Prop where
 c0:w.cell? (Q b 0 Y)=T v0
 c1:w.cell? (Q b 1 Y)=T v1
 c2:w.cell? (Q b 2 Y)=T v2
 c3:w.cell? (Q b 3 Y)=T v3
 z2:w.frozen? (Q b 2 Y)=ZA
 z3:w.frozen? (Q b 3 Y)=ZA
theorem EK (w:M)(c g f b:ZC)(t:TypeId):Kf (w.alloc (J #[c,g,f,b] t)).drew w.heap.size c g f b:=⟨by simp,by simp,by simp,by simp,by simp,by simp⟩
theorem Hq:SLs w (((w.alloc (J #[Z (T (Q b off Y)) n cap] 37)).alloc (J (bo n) 4)).alloc (J #[Z (T (Q b off Y)) n cap,Z (T (Q (w.heap.size+1) 0 Y)) n n,Z Y 0 0,N I (-1)] 109)).drew (w.heap.size+1+1+1) b off n cap (w.heap.size+1+1) (w.heap.size+1) (λ_=>ZA) (Z Y 0 0) [] (-1):=by
 have g:(w.alloc (J #[Z (T (Q b off Y)) n cap] 37)).heap.size=w.heap.size+1:=by simp
 have h:((w.alloc (J #[Z (T (Q b off Y)) n cap] 37)).alloc (J (bo n) 4)).heap.size=w.heap.size+1+1:=by simp
 have A:=(((q9 w).alloc ly (J #[Z (T (Q b off Y)) n cap] 37)).alloc (by simp) (J (bo n) 4)).alloc (by simp;omega) (J #[Z (T (Q b off Y)) n cap,Z (T (Q (w.heap.size+1) 0 Y)) n n,Z Y 0 0,N I (-1)] 109);have D:Below (w.heap.size+1+1) ((w.alloc (J #[Z (T (Q b off Y)) n cap] 37)).alloc (J (bo n) 4)) (((w.alloc (J #[Z (T (Q b off Y)) n cap] 37)).alloc (J (bo n) 4)).alloc (J #[Z (T (Q b off Y)) n cap,Z (T (Q (w.heap.size+1) 0 Y)) n n,Z Y 0 0,N I (-1)] 109)).drew:=(br.alloc (by omega) _).drew;have hM:=λq f=>qg (w.alloc (J #[Z (T (Q b off Y)) n cap] 37)) n q f;rw[g] at hM;have c:=EK ((w.alloc (J #[Z (T (Q b off Y)) n cap] 37)).alloc (J (bo n) 4)) (Z (T (Q b off Y)) n cap) (Z (T (Q (w.heap.size+1) 0 Y)) n n) (Z Y 0 0) (N I (-1)) 109;rw[h] at c;refine⟨c.c0,c.c1,⟨c.c2,c.z2⟩,⟨c.c3,c.z3⟩,λq f=>⟨(D.cell (p:=(Q (w.heap.size+1) q Y)) (AI _)).trans (hM q f).1,(D.frozen (p:=(Q (w.heap.size+1) q Y)) (AI _)).trans (hM q f).2⟩,A9 _ _ _ _,A.drew,by omega,by omega,by omega,?_⟩;simp
theorem xg (b off n cap:Nat)(f:Nat->Deed)(w:M)(j:gu f n)(hn1:1<=n)(hn:(n:Int)<=400)(o:RowDeed w b off n f)(hlk:∀p,p<n->(f p).b<=200):Calls Pg 63 #[ZH #[Z (T (Q b off Y)) n cap],N I ((n:Int) - 1)] w λe g=>∃H i,e=ZF (.pointer (T (Q H 0 Y)))/\H<g.heap.size/\g.cell? (Q H 2 Y)=T i/\g.ownsRow w.heap.size 3 1 i (aC f n).length ((aC f n).map λz:Nat × Nat=>Value.int I (z.1:Int))/\g.cell? (Q H 3 Y)=T (N I (cU f (-1) (aC f n)))/\Below w.heap.size w g:=by
 have t:(w.alloc (J #[Z (T (Q b off Y)) n cap] 37)).cell? (Q w.heap.size 0 Y)=T (Z (T (Q b off Y)) n cap):=by simp
 have r:=kU j hn1;have l:=BJ w (w.heap.size+1+1+1) b off n cap (w.heap.size+1+1) (w.heap.size+1) f j hn o hlk n (n - 1) 0 (λ_=>ZA) (Z Y 0 0) [] (-1) _ (by omega) (by omega) (by omega) Hq rfl (by have:=r;unfold aC at this;simp;omega);rw[show((n - 1:Nat):Int)=(n:Int) - 1 by omega] at l;have u:=ae l;have m:=λw=>BH n (by omega) w;clear l j o hlk;have HW:Hid (w.heap.size+1+1+1=(((w.alloc (J #[Z (T (Q b off Y)) n cap] 37)).alloc (J (bo n) 4)).alloc (J #[Z (T (Q b off Y)) n cap,Z (T (Q (w.heap.size+1) 0 Y)) n n,Z Y 0 0,N I (-1)] 109)).drew.heap.size):=by show _=_;simp
 go_enter func63,ntmps63;go_wp2_with fail;go_region_with fail;all_goals
  clear m t;go_wp2_with fail;refine u.mono ?_;rintro e w2 ⟨rfl,i,q,s⟩;have c:=ae q;clear q s;go_wp2;go_ret;refine⟨w.heap.size+1+1,i,rfl,?_,c.c2.1,?_,c.c3.1,c.low⟩
  ·have:=c.hz
   omega
  ·have h:=aB c.ord (base':=w.heap.size) (by omega)
   simp only[LY,List.map_map,Q9] at h;exact h
theorem BP (b o j:Nat):((Q b o Y):Addr).add j=(Q b (o+j) Y):=by unfold Addr.add;split<;>simp_all
theorem xh (a:Option Addr)(n cap:Nat)(f:Nat->Deed)(w:M)(hn:(n:Int)<=1048576)(hv:SlDeed w a n f)(ZK:∀i,i<n->cV (f i))(qr:∀i,i<n->fk (f i)):Calls Pg 103 #[ZH #[Z a n cap]] w λe w'=>e=ZF (.tuple #[N I (eW f n).1,N I (eW f n).2])/\Below w.heap.size w w':=by
 have HV:=ae hv;have HM:=ae ZK;have HZ:=ae qr;clear hv ZK qr;have ZJ:=ae ((q9 w).alloc ly (J #[Z a n cap] 37));have k0:(w.alloc (J #[Z a n cap] 37)).cell? (Q w.heap.size 0 Y)=T (Z a n cap):=by simp
 obtain⟨c1,c2,ZP⟩:∃c1 c2,eW f n=(c1,c2):=⟨_,_,rfl⟩
 rw[ZP];have ZL:=ae ZP;clear ZP;by_cases h0:(n:Int)<1
 ·have l:c1=1/\c2=0:=by have:=ZL.out;unfold eW at this;rw[p6 (.inl (by omega))] at this;simp only[LN] at this;omega
  clear ZL;obtain⟨l,y⟩:=l;subst l y;go_enter func103,ntmps103;go_wp2;go_ret2;exact⟨rfl,ZJ⟩
 by_cases h4:(400:Int)<(n:Int)
 ·have l:c1=1/\c2=0:=by have:=ZL.out;unfold eW at this;rw[p6 (.inr (by omega))] at this;simp only[LN] at this;omega
  clear ZL;obtain⟨l,y⟩:=l;subst l y;go_enter func103,ntmps103;go_wp2;go_ret2;exact⟨rfl,ZJ⟩
 have R:Hid ((if aM (bi f) n≠-1 then ((2:Int),aM (bi f) n) else if aM (λp=>bc f p p) n≠-1 then (3,aM (λp=>bc f p p) n) else if bA 0 (aC f n)≠-1 then (4,bA 0 (aC f n)) else if aZ f (aC f n)≠-1 then (5,aZ f (aC f n)) else (0,0))=(c1,c2)):=by have:=ZL.out;unfold eW at this;rw[gM (by omega)] at this;exact this
 clear ZL;obtain⟨b,off,rfl,bt⟩:=HV.resolve_left (by omega);have HR:=ae bt;clear HV bt;have th:(n:Int)<=400:=by omega
 have ZM:w.heap.size<(w.alloc (J #[Z (T (Q b off Y)) n cap] 37)).heap.size:=by simp
 go_enter func103,ntmps103;go_wp2;generalize World.alloc w _=W at ZJ k0 ZM ⊢;go_loopw [5] (λi wr=>∃k:Nat,k<=n/\i=N I k/\Hid (∀j,j<k->bi f j=ZG)/\Hid (Below W.heap.size W wr)) (λi _=>n - (intOf i).toNat);case atStart=>exact⟨0,by omega,rfl,λj t=>absurd t (PS _),dB _ _⟩
 case round =>
  obtain⟨k,hk,rfl,r,K⟩:=hrel;have k1:=(K.cell (p:=(Q w.heap.size 0 Y)) ZM).trans k0;have F:=ae (ZJ.trans (K.mono ZJ.size));by_cases q:k<n
  ·go_wp2_with fail;refine(ug b off n cap k f _ q (HR.aa F ly) (HM k q).1 (HZ k q).2.2.1.2).mono ?_;rintro e w2 ⟨he,V⟩;have A:=ae (F.trans (V.mono F.size));have H1:=ae (K.trans (V.mono K.size));clear V;cases G:bi f k with
   |true =>
    rw[G] at he;subst he;have HD:=ae G;clear G;go_wp2
    exact⟨⟨k+1,by omega,by go_num,λj t=>by
     by_cases e:j=k;{subst e;exact HD}
     ·exact r j (by omega),H1⟩,by simp[intOf];omega⟩
   |false =>
    rw[G] at he;subst he;have u:=fQ q G r.out;have l:c1=2/\c2=(k:Int):=by have:=R.out;rw[p6 (by rw[u];omega),u] at this;simp only[LN] at this;omega
    obtain⟨l,y⟩:=l;clear R u G;subst l y;go_wp2;go_ret2;exact⟨rfl,A⟩
  ·have e:n=k:=by omega
   subst e;have dg:=fE r.out;have O:Hid ((if aM (λp=>bc f p p) n≠-1 then ((3:Int),aM (λp=>bc f p p) n) else if bA 0 (aC f n)≠-1 then (4,bA 0 (aC f n)) else if aZ f (aC f n)≠-1 then (5,aZ f (aC f n)) else (0,0))=(c1,c2)):=by have:=R.out;rw[gM (by rw[dg];simp)] at this;exact this
   have aq:=ae dg;clear R dg r;go_wp2;clear q hk k1;generalize wr=W2 at K F ⊢;have k1:=(K.cell (p:=(Q w.heap.size 0 Y)) ZM).trans k0;have sm:w.heap.size<W2.heap.size:=lj ZM K.size;go_loopw [6] (λi wr=>∃k:Nat,k<=n/\i=N I k/\Hid (∀j,j<k->bc f j j=ZG)/\Hid (Below W2.heap.size W2 wr)) (λi _=>n - (intOf i).toNat);case atStart=>exact⟨0,by omega,rfl,λj t=>absurd t (PS _),dB _ _⟩
   case round =>
    obtain⟨k,hk,rfl,r,ZR⟩:=hrel;by_cases q:k<n
    ·go_wp2;generalize wr=W3 at ZR ⊢;go_loopw [7] (λi wr=>∃m:Nat,m<=k/\i=N I m/\Hid (bc f k m=ZG)/\Hid (Below W2.heap.size W2 wr)) (λi _=>k - (intOf i).toNat);case atStart=>exact⟨0,by omega,rfl,rfl,ZR⟩
     case round =>
      obtain⟨m,hm,rfl,HN,S⟩:=hrel;have k2:=(S.cell (p:=(Q w.heap.size 0 Y)) sm).trans k1;have A:=ae (F.trans (S.mono F.size));by_cases Bk:m<k
      ·have d0:=((HR.aa A ly).2 m (by omega)).1;have d1:=((HR.aa A ly).2 k q).1;have hm0:(0:Int)<=m:=by omega
       have hmn:(m:Int)<n:=by omega
       have ur:(0:Int)<=k:=by omega
       have hkn:(k:Int)<n:=by omega
       cases hq:((f m).e.toList == (f k).e.toList) with
       |true =>
        have ph:bc f k k=ZA:=Jl Bk (by rw[bc,hq];simp);have u:=fQ (g:=λp=>bc f p p) q ph r;have l:c1=3/\c2=(k:Int):=by have:=O.out;rw[p6 (by rw[u];omega),u] at this;simp only[LN] at this;omega
        obtain⟨l,y⟩:=l;clear O u ph;subst l y;go_wp2_with fail;go_quiet (fail);have G2:=ae (BM A nq);go_wp2;go_ret2;exact⟨rfl,G2⟩
       |false =>
        have At:Hid (bc f k (m+1)=ZG):=by show bc f k (m+1)=ZG;rw[bc,HN.out,hq];rfl
        go_wp2_with fail;go_quiet (fail);have H5:=ae (BM S nq);go_wp2;exact⟨⟨m+1,by omega,by go_num,At,H5⟩,by simp[intOf];omega⟩
      ·have e:m=k:=by omega
       subst e;go_wp2
       exact⟨⟨m+1,by omega,by go_num,λj t=>by
        by_cases e:j=m;{subst e;exact HN}
        ·exact r j (by omega),S⟩,by simp[intOf];omega⟩
    ·have e:n=k:=by omega
     subst e;have la:=fE (g:=λp=>bc f p p) r;have E:Hid ((if bA 0 (aC f n)≠-1 then ((4:Int),bA 0 (aC f n)) else if aZ f (aC f n)≠-1 then (5,aZ f (aC f n)) else (0,0))=(c1,c2)):=by have:=O.out;rw[gM (by rw[la];simp)] at this;exact this
     clear O la r;have k2:=(ZR.cell (p:=(Q w.heap.size 0 Y)) sm).trans k1;have A:=ae (F.trans (ZR.mono F.size));have ro:=ae (kU (jO aq) (n:=n) (by omega));have hn1:1<=n:=by omega
     go_wp2_with fail;refine(xg b off n cap f _ (jO aq) hn1 th (HR.aa A ly) (pa aq)).mono ?_;rintro e w5 ⟨H,ov,rfl,mv,DE,hO,ld,V⟩;have G5:=ae (A.trans (V.mono A.size));obtain⟨o,ho⟩:=ni (f:=f) hn1;have DQ:0<(aC f n).length:=by rw[ho];simp
     have ZN:=ae (λh=>uH (f:=f) hn1 h);clear ho o;obtain⟨L,hL⟩:∃L,L=aC f n:=⟨_,rfl⟩
     rw[<-hL] at hO ld DQ E ro ZN;clear hL;obtain⟨g,oc,rfl⟩:∃g c,ov=Z (T (Q g 0 Y)) L.length c:=by
      rcases hO.2 with ⟨_,h2⟩|⟨g,c,cur,h1,_⟩
      {omega};{exact⟨g,c,h1⟩}
     have DH:Hid (∀j (h:j<L.length),w5.cell? (Q g j Y)=T (N I ((L[j]).1:Int))/\g<w5.heap.size):=by intro j t;have h1:=hO.cells (g:=g) rfl j (N I ((L[j]).1:Int)) (by rw[OH,gq t];rfl);rw[BP,FM] at h1;exact⟨h1,(hO.lt g rfl).2⟩
     have hll:=ro.out;clear hO V k2;go_wp2;go_loopw [9] (λi wr=>∃k:Nat,k<=n/\i=N I k/\Hid (∀j,j<k->∃h:j<L.length,(L[j]).1=j)/\Hid (Below w5.heap.size w5 wr)) (λi _=>n - (intOf i).toNat);case atStart=>exact⟨0,by omega,rfl,λj t=>absurd t (PS _),dB _ _⟩
     case round =>
      obtain⟨k,hk,rfl,r,D⟩:=hrel;have y:=(D.cell (p:=(Q H 2 Y)) mv).trans DE;have e3:=(D.cell (p:=(Q H 3 Y)) mv).trans ld;have G6:=ae (G5.trans (D.mono G5.size));by_cases q:k<n
      ·by_cases fd:k<L.length
       ·obtain⟨q1,q2⟩:=DH.out k fd;have d0:=(D.cell (p:=(Q g k Y)) q2).trans q1;have hkl':(k:Int)<(L.length:Int):=by omega
        have hno:decide ((L.length:Int)<=(k:Int))=ZA:=by simp;omega
        have hno':decide (L.length<=k)=ZA:=by simp;omega
        have ur:(0:Int)<=k:=by omega
        obtain⟨z,hz⟩:∃z,z=(L[k]).1:=⟨_,rfl⟩
        rw[<-hz] at d0;have P:=ae hz;clear q1 q2 hz;by_cases x:(z:Int)=(k:Int)
        ·have HN:Hid (∀j,j<k+1->∃h:j<L.length,(L[j]).1=j):=λj t=>by
          by_cases e:j=k;{subst e;exact⟨fd,by rw[<-P.out];omega⟩};{exact r j (by omega)}
         obtain rfl:z=k:=by omega
         clear x P;go_wp2;exact⟨⟨z+1,by omega,by go_num,HN,D⟩,by simp[intOf];omega⟩
        ·have s:bA 0 L=(k:Int):=by
          have:=EJ (L:=L) (i:=0) (j:=k) fd (λm hm=>by obtain⟨h,e⟩:=r.out m hm;omega) (by rw[<-P.out];omega);simpa using this
         have l:c1=4/\c2=(k:Int):=by have:=E.out;rw[p6 (by rw[s];omega),s] at this;simp only[LN] at this;omega
         have hne:((z:Int) != (k:Int))=ZG:=by simpa using x
         obtain⟨l,B⟩:=l;clear E s P;subst l B;go_wp2;go_ret2;exact⟨rfl,G6⟩
       ·have:=ZN.out λj t=>by obtain⟨h,e⟩:=r.out j (by omega);exact e
        omega
      ·have e:n=k:=by omega
       subst e;have ZQ:∀j (h:j<L.length),(L[j]).1=0+j:=λj t=>by obtain⟨h,e⟩:=r.out j (by omega);omega
       have s:=BK ZQ;rw[nh ZQ] at e3;have C:Hid ((if aZ f L≠-1 then ((5:Int),aZ f L) else (0,0))=(c1,c2)):=by have:=E.out;rw[gM (by rw[s];simp)] at this;exact this
       have ZO:=sH f L;generalize aZ f L=X at e3 C ZO;have n9:=ae ZO;clear E s ZQ ZO y;by_cases x:X=-1
       ·have l:c1=0/\c2=0:=by
         have:=C.out;rw[gM (by rw[x];simp)] at this;simp only[LN] at this;omega
        obtain⟨l,B⟩:=l;have G:decide (0<=X)=ZA:=by rw[x];rfl
        clear C x;subst l B;go_wp2;go_ret2;exact⟨rfl,G6⟩
       {have l:c1=5/\c2=X:=(by have:=C.out;rw[p6 x] at this;simp only[LN] at this;omega);have ZO:0<=X:=n9.resolve_left x;obtain⟨l,B⟩:=l;clear C x n9;subst l B;go_wp2_with fail;go_quiet (fail);have G7:=ae (BM G6 nq);go_wp2;go_ret2;exact⟨rfl,G7⟩}
theorem EN (a:Option Addr)(n cap:Nat)(f:Nat->Deed)(w:M)(hn:(n:Int)<=1048576)(p:SlDeed w a n f)(b:∀i,i<n->cV (f i))(g:∀i,i<n->fk (f i)):Calls Pg 46 #[ZH #[Z a n cap]] w λe t=>e=ZF (ZD (de f n))/\Below w.heap.size w t:=by
 have q:=ae p;have u:=ae b;have s:=ae g;clear p b g;have l:=ae ((q9 w).alloc ly (J #[Z a n cap] 37));obtain⟨r,j⟩:∃r,r=de f n:=⟨_,rfl⟩
 rw[<-j];have h:=ae (show r=decide ((eW f n).1=0) from j);clear j;go_enter func46,ntmps46;go_wp2_with fail;refine(xh a n cap f _ hn (q.aa l ly) u s).mono ?_;rintro e w1 ⟨rfl,o⟩;have m:=ae (l.trans (o.mono l.size));clear o;generalize (eW f n).1=c at h ⊢;generalize (eW f n).2=d;cases r with
 |true =>obtain rfl:c=0:=QO h.symm;go_wp2;go_ret;exact⟨rfl,m⟩
 |false =>
  have hc:(c == 0)=ZA:=by have:¬ c=0:=of_decide_eq_false h.symm;simpa using this
  go_wp2;go_ret;exact⟨rfl,m⟩
theorem pc (a:Option Addr)(n cap:Nat)(f:Nat->Deed)(w:M)(hn:(n:Int)<=1048576)(q:SlDeed w a n f)(h:(n:Int)<=cap)(b:∀i,i<n->cV (f i))(s:Tab w):Calls Pg 42 #[ZH #[Z a n cap]] w λe u=>e=ZF (ZD (de f n))/\Below w.heap.size w u:=by
 have t:=ae q;have x:=ae b;have p:=ae s;clear q b s;have g:=ae ((q9 w).alloc ly (J #[Z a n cap] 37));obtain⟨r,l⟩:∃r,r=de f n:=⟨_,rfl⟩
 rw[<-l];have j:=ae (show r=decide ((eW f n).1=0) from l);clear l;go_enter func42,ntmps42;go_wp2_with fail;refine(xf a n cap f _ hn (t.aa g ly) h x (p.aa g p.1)).mono ?_;rintro e w1 ⟨rfl,o⟩;have m:=ae (g.trans (o.mono g.size));clear o;generalize (eW f n).1=c at j ⊢;generalize (eW f n).2=d;cases r with
 |true =>obtain rfl:c=0:=QO j.symm;go_wp2;go_ret;exact⟨rfl,m⟩
 |false =>
  have hc:(c == 0)=ZA:=by have:¬ c=0:=of_decide_eq_false j.symm;simpa using this
  go_wp2;go_ret;exact⟨rfl,m⟩
