import Derived.Test.YtoddkejemcbkmaaGreatDoorRB
import Derived.Test.YtoddkejemcbkmaaGreatDoorRM
set_option maxRecDepth 100000
set_option maxHeartbeats 8000000
open Go renaming Addr.mk->Q,Value.slice->Z,Value.string->U,Value.int->J,Value.bool->ZD,Obj.cells->N,IntKind.i64->I,World->M,Value->ZC,Ending.returned->ZF,Proofs.Tryz.prog->Pg
open Option renaming none->Y,some->T
open Bool renaming false->ZA,true->ZG
namespace Go.Proofs.YtoddkejemcbkmaaGreatDoor.Vp
open Tryz RowKit
variable {n b H ZQ off cap:Nat}{w w' W:M}{f:Nat->Deed}{L:List (Nat × Nat)}
theorem Ge:(Pg.info? 3).map (λi=>(i.zero,i.size,i.bytes))=T (T (J I 0),1,8):=by kernel_rfl
theorem SixB.ab{f m j g i l:ZC}(h:SixB w b f m j g i l)(hz:w.heap.size<=w'.heap.size)(e:w'.heap[b]?=w.heap[b]?):SixB w' b f m j g i l :=
 have c:∀o,w'.cell? (Q b o Y)=w.cell? (Q b o Y):=λo=>cq (a:=(Q b o Y)) e
 ⟨lj h.lt hz,(c 0).trans h.c0,(c 1).trans h.c1,(c 2).trans h.c2,(c 3).trans h.c3,(c 4).trans h.c4,(c 5).trans h.c5⟩
theorem TyAt.ab{g:Nat}{e:TypeId}(h:TyAt w g e)(hb:w'.heap[g]?=w.heap[g]?):TyAt w' g e:=by obtain⟨c,b⟩:=h;exact⟨c,hb.trans b⟩
theorem Kpt.grown{h:Nat}{l:M}{v:ZC}{m:List ZC}(q:W.ownsRow h 3 1 v n m)(i:W.grownBy l v.ownBlock):Kpt H ZQ W l:=by
 refine⟨i.size,λk e p o _ _=>?_⟩;obtain⟨c,b⟩:=p;refine i.block k (gM.1 b).1 λf=>?_;rcases q.2 with ⟨rfl,_⟩|⟨g,cap,cur,rfl,_,j,_⟩
 {simp[Value.ownBlock] at f};{simp[Value.ownBlock] at f;subst f;rw[j] at b;simp at b;exact o b.2.symm}
theorem SLs.app{g f:M}{n1:Nat}{s:Nat->Bool}{u v:ZC}{ord ord':List Nat}{m:Int}(h:SLs g W n1 b off n cap H ZQ s u ord m)(hz:W.heap.size<=f.heap.size)(r:f.heap[H]?=W.heap[H]?)(l:f.heap[ZQ]?=W.heap[ZQ]?)(t:Below g.heap.size g f)(j:f.ownsRow n1 3 1 v ord'.length (ord'.map λq:Nat=>Value.int I (q:Int))):SLs g (f.setCell (Q H 2 Y) v) n1 b off n cap H ZQ s v ord' m:=by
 have c:∀o,f.cell? (Q H o Y)=W.cell? (Q H o Y):=λo=>cq (a:=(Q H o Y)) r;have z:∀o,f.frozen? (Q H o Y)=W.frozen? (Q H o Y):=λo=>JN (a:=(Q H o Y)) r;have i:∀o,o≠2->(f.setCell (Q H 2 Y) v).cell? (Q H o Y)=f.cell? (Q H o Y):=λo j=>sq _ _ _ _ (by first|(simp;done)|(simp;exact λe=>j e.symm)|(simp;omega));refine⟨(i 0 (by omega)).trans ((c 0).trans h.c0),(i 1 (by omega)).trans ((c 1).trans h.c1),⟨DN _ _ _ (by rw[c 2,h.c2.1];rfl),?_⟩,⟨(i 3 (by omega)).trans ((c 3).trans h.c3.1),?_⟩,λq p=>⟨(sq _ _ _ _ (by first|(simp;done)|(simp;exact λe=>absurd e.symm h.ne)|(simp;exact λe=>absurd e h.ne)|(simp;omega))).trans ((cq (a:=(Q ZQ q Y)) l).trans (h.row q p).1),?_⟩,oF j h.hH.2 _,t.setCell h.hH.1 _,h.hH,h.hM,h.ne,by have:=h.hz;simp;omega⟩;{rw[TW];exact(z 2).trans h.c2.2};{rw[TW];exact(z 3).trans h.c3.2};{rw[TW];exact(JN (a:=(Q ZQ q Y)) l).trans (h.row q p).2}
theorem As (r:M)(n1 b off n cap H ZQ:Nat)(f:Nat->Deed)(hA:fW f n)(hn:(n:Int)<=400)(hf:RowDeed r b off n f)(th:∀p,p<n->(f p).b<=200):∀(k p d:Nat) (s:Nat->Bool) (R:ZC) (ord:List Nat) (m:Int) (W:M),p<k->p<n->d+p<=1000->SLs r W n1 b off n cap H ZQ s R ord m->s p=ZA->ord.length+(lst f k p d s).2.length<=1000 ->
   Calls Pg 134 #[.pointer (T (Q H 0 Y)),J I (p:Int),J I (d:Int)] W λe W'=>e=ZF (.tuple #[])/\∃o,SLs r W' n1 b off n cap H ZQ (lst f k p d s).1 o (ord++(lst f k p d s).2.map (λz:Nat × Nat=>z.1)) (cS f m (lst f k p d s).2)/\Kpt H ZQ W W':=by
 intro k;induction k with
 |zero=>intro p d s R ord m W h;omega
 |succ k ih =>
  intro p d s R ord m W hpk X hdp hS hs hN;have HS:=ae hS;have HN:=ae hN;have JG:=ae ih;have HA:=ae hA;have HF:=ae hf;have HLK:=ae th;obtain⟨JL,JS,JR,JO,Jz⟩:=LY Ge;obtain⟨sm,n9,ro,ph,⟨a0,u,fd,q4⟩,⟨a1,A,Bk,q5⟩⟩:=hf.2 p X;have P:=ae (hS.mark X);have hb:=hf.1;obtain⟨x,hx⟩:∃x,x=f p:=⟨_,rfl⟩
  rw[<-hx] at sm n9 ro ph fd Bk q5;have hm2:x.b<=200:=by rw[hx];exact th p X
  have HL:=ae q5;have HX:=ae hx;have p0:=(P.low.cell (p:=(Q b (off+p*6) Y)) hb).trans sm;have p1:=(P.low.cell (p:=(Q b (off+p*6+1) Y)) hb).trans n9;have p2:=(P.low.cell (p:=(Q b (off+p*6+2) Y)) hb).trans ro;have p3:=(P.low.cell (p:=(Q b (off+p*6+3) Y)) hb).trans ph;have p4:=(P.low.cell (p:=(Q b (off+p*6+4) Y)) hb).trans fd;have p5:=(P.low.cell (p:=(Q b (off+p*6+5) Y)) hb).trans Bk;obtain⟨K,hK⟩:∃K,K=lks (lst f k) (f p) d s:=⟨_,rfl⟩
  have At:Hid (lst f (k+1) p d s=(put (K x.b).1 p,(K x.b).2++[(p,d)])):=by rw[hK,hx];rfl
  have JH:Hid (K 0=(s,[])):=by rw[hK];rfl
  have JM:Hid (∀j,K (j+1)=if (x.m j).ask=ZG/\(K j).1 (x.m j).L.toNat=ZA then ((lst f k (x.m j).L.toNat (d+1) (K j).1).1,(K j).2++(lst f k (x.m j).L.toNat (d+1) (K j).1).2) else K j):=λj=>by rw[hK,hx];rfl
  have JI:Hid (∀i,i<=x.b->(K i).2 <+: (K x.b).2):=λi hi=>by rw[hK];exact pB hi
  have ZK:Hid (cW f m (p,d)=if x.E=3/\60<=d/\(m<0∨(p:Int)<m) then (p:Int) else m):=by rw[hx];rfl
  have JC:H<W.heap.size:=by have:=hS.hH;have:=hS.hz;omega
  have JK:=hS.c1;obtain⟨Jw,Js⟩:=hS.row p X;have Jr:=P.c0;have hp0:(0:Int)<=p:=by omega
  have hpn':(p:Int)<n:=by omega
  have ZP:=ae (P.aa (br.alloc ly (N #[U x.e,J I x.E,J I x.B,U x.h,Z a0 x.f u,Z a1 x.b A] 62)));have ZO:=ae (lC (W.setCell (Q ZQ p Y) (ZD ZG)) (U x.e) (J I x.E) (J I x.B) (U x.h) (Z a0 x.f u) (Z a1 x.b A) 62);have ZM:Hid (TyAt ((W.setCell (Q ZQ p Y) (ZD ZG)).alloc (N #[U x.e,J I x.E,J I x.B,U x.h,Z a0 x.f u,Z a1 x.b A] 62)) (W.setCell (Q ZQ p Y) (ZD ZG)).heap.size 62):=⟨_,n6 _ _⟩
  have B:=ae ((Kpt.setCell (H:=H) (ZQ:=ZQ) (j:=p) W ZQ (.inr rfl) (ZD ZG)).trans (Kpt.u (br.alloc ly (N #[U x.e,J I x.E,J I x.B,U x.h,Z a0 x.f u,Z a1 x.b A] 62))));have Fm:(W.setCell (Q ZQ p Y) (ZD ZG)).heap.size=W.heap.size:=by simp
  rw[Fm] at ZO ZM;clear hS hN ih hA hf th q4 q5 hx hK sm n9 ro ph fd Bk hs Fm P;go_enter func134,ntmps134;go_upto_region 2 with fail;generalize World.alloc (World.setCell W _ _) _=W2 at ZP ZO ZM B ⊢;clear p0 p1 p2 p3 p4 p5 JK Jw Js Jr;obtain⟨td,ZL⟩:∃td,td=decide (x.E=3/\60<=d):=⟨_,rfl⟩
  have HD:=ae ZL;clear ZL;have c1:=ZO.c1;go_cut [28] (λJJ wx=>JJ=ZD td/\wx=W2);case first =>
   cases h3:(x.E == 3) with
   |false =>
    obtain rfl:td=ZA:=by rw[HD.out];simp at h3;simp[h3]
    go_wp2;go_meet;exact⟨rfl,rfl⟩
   |true =>
    by_cases h6:(60:Int)<=(d:Int)
    ·obtain rfl:td=ZG:=by rw[HD.out];simp at h3;simp[h3];omega
     go_wp2;go_meet;exact⟨by first|rfl|(simp;done)|(simp;omega),rfl⟩
    ·obtain rfl:td=ZA:=by rw[HD.out];simp;omega
     go_wp2;go_meet;exact⟨by first|rfl|(simp;done)|(simp;omega),rfl⟩
  case rest =>
  obtain⟨rfl,rfl⟩:=hcut;clear c1;have hHD:H<W.heap.size:=JC;go_upto_if 28 with fail;go_cut [] (λwx=>Hid (SLs r wx n1 b off n cap H ZQ (put s p) R ord (cW f m (p,d)))/\Hid (SixB wx W.heap.size (U x.e) (J I x.E) (J I x.B) (U x.h) (Z a0 x.f u) (Z a1 x.b A))/\Hid (TyAt wx W.heap.size 62)/\Hid (Kpt H ZQ W wx));case first =>
   cases td with
   |false =>
    have G:cW f m (p,d)=m:=by rw[ZK.out,nD (λh=>by have:=HD.out;simp at this;have:=this h.1;omega)]
    have l:Hid (SLs r wc n1 b off n cap H ZQ (put s p) R ord (cW f m (p,d))):=by show SLs _ _ _ _ _ _ _ _ _ _ _ _ _;rw[G];exact ZP
    clear G;go_wp2;go_meet;exact⟨l,ZO,ZM,B⟩
   |true =>
    have ZL:x.E=3/\60<=d:=by have:=HD.out;simpa using this
    obtain⟨e3,z3⟩:=ZP.c3;have S:=ae ZL;clear ZL;have e4:(wc.setCell (Q H 3 Y) (J I (p:Int))).heap[W.heap.size]?=wc.heap[W.heap.size]?:=qh _ _ _ _ (by show W.heap.size≠H;omega);have SP:=ae (ZP.deep (p:Int));have DP:=ae (ZO.ab (w':=wc.setCell (Q H 3 Y) (J I (p:Int))) (by simp) e4);have YP:=ae (ZM.ab e4);have Fk:=ae (B.trans (Kpt.setCell (H:=H) (ZQ:=ZQ) (j:=3) wc H (.inl rfl) (J I (p:Int))));clear e4;by_cases g1:m<0
    ·have G:cW f m (p,d)=(p:Int):=by rw[ZK.out,p7 ⟨S.1,S.2,.inl g1⟩]
     have l:Hid (SLs r (wc.setCell (Q H 3 Y) (J I (p:Int))) n1 b off n cap H ZQ (put s p) R ord (cW f m (p,d))):=by show SLs _ _ _ _ _ _ _ _ _ _ _ _ _;rw[G];exact SP
     clear G;go_wp2;go_meet;exact⟨l,DP,YP,Fk⟩
    ·by_cases g2:(p:Int)<m
     ·have G:cW f m (p,d)=(p:Int):=by rw[ZK.out,p7 ⟨S.1,S.2,.inr g2⟩]
      have l:Hid (SLs r (wc.setCell (Q H 3 Y) (J I (p:Int))) n1 b off n cap H ZQ (put s p) R ord (cW f m (p,d))):=by show SLs _ _ _ _ _ _ _ _ _ _ _ _ _;rw[G];exact SP
      clear G;go_wp2;go_meet;exact⟨l,DP,YP,Fk⟩
     ·have G:cW f m (p,d)=m:=by rw[ZK.out,nD (λh=>by have:=h.2.2;omega)]
      have l:Hid (SLs r wc n1 b off n cap H ZQ (put s p) R ord (cW f m (p,d))):=by show SLs _ _ _ _ _ _ _ _ _ _ _ _ _;rw[G];exact ZP
      clear G;go_wp2;go_meet;exact⟨l,ZO,ZM,B⟩
  case rest =>
  clear ZP ZO ZM B;obtain⟨ZP,ZO,ZM,B⟩:=hcut;obtain⟨C,aq⟩:∃C,C=cW f m (p,d):=⟨_,rfl⟩
  rw[<-aq] at ZP;have Id:=ae aq;clear aq ZK;have JE:Hid (C=cW f m (p,d)):=Id.out;go_wp2;go_loopw [7] (λi wr=>∃(j:Nat) (o:ZC),j<=x.b/\i=J I j/\Hid (SLs r wr n1 b off n cap H ZQ (put (K j).1 p) o (ord++(K j).2.map (λz:Nat × Nat=>z.1)) (cS f C (K j).2))/\Hid (SixB wr W.heap.size (U x.e) (J I x.E) (J I x.B) (U x.h) (Z a0 x.f u) (Z a1 x.b A))/\Hid (TyAt wr W.heap.size 62)/\Hid (Kpt H ZQ W wr)) (λi _=>x.b - (intOf i).toNat);case atStart=>exact⟨0,R,by omega,rfl,by rw[JH.out];simp only[MZ,UJ,cS];exact ZP,ZO,ZM,B⟩
  case round =>
   clear ZP ZO ZM B;obtain⟨j,o,hj,rfl,l,D3,Y3,dg⟩:=hrel;have e5:=D3.c5;have ZN:W.heap.size<wr.heap.size:=D3.lt;by_cases DQ:j<x.b
   ·obtain⟨lb,lo,rfl,ld⟩:=(HL.aa l.low ly).resolve_left (by omega);obtain⟨l0,l1,l2,l3⟩:=ld.2 j DQ;have mv:=JM.out j;have qr:(x.m j).ask=ZG->(x.m j).L.toNat<p/\0<=(x.m j).L:=λh=>by have:=HA.out p X j (by rw[<-HX.out];exact DQ);rw[<-HX.out] at this;exact this h
    generalize x.m j=y at l0 l1 l2 l3 mv qr;have la:=ae mv;have DH:=ae qr;clear mv qr l0 l2 ld;cases hask:y.ask with
    |false =>
     rw[hask] at l1;have t:K (j+1)=K j:=by rw[la.out,nD (by rw[hask];simp)]
     have V:=ae t;clear t;go_wp2_with fail;go_quiet (fail);have E:=ae (AS (q9 wr) nq);have S4:=ae (l.aa E);have D4:=ae (D3.ab E.size (E.block _ ZN));have Y4:=ae (Y3.ab (E.block _ ZN));have L:=ae (dg.trans (Kpt.u E));go_wp2;exact⟨⟨j+1,o,by omega,by go_num,by rw[V.out];exact S4,D4,Y4,L⟩,by simp[intOf];omega⟩
    |true =>
     rw[hask] at l1;obtain⟨q,hq⟩:∃q:Nat,y.L=(q:Int):=⟨y.L.toNat,by have:=(DH hask).2;omega⟩
     have Jq:q<p:=by have:=(DH hask).1;rw[hq] at this;simpa using this
     rw[hq] at l3;have f1:=l.c1;obtain⟨f2,_⟩:=l.row q (by omega);have DE:put (K j).1 p q=(K j).1 q:=by simp[put];omega
     rw[DE] at f2;have hq0:(0:Int)<=q:=by omega
     have hqn:(q:Int)<n:=by omega
     have JB:=ae DE;clear DE;cases hl:(K j).1 q with
     |true =>
      rw[hl] at f2;have t:K (j+1)=K j:=by rw[la.out,nD (by rw[hq];simp[hl])]
      have V:=ae t;clear t;go_wp2_with fail;go_quiet (fail);have E:=ae (AS (q9 wr) nq);have S4:=ae (l.aa E);have D4:=ae (D3.ab E.size (E.block _ ZN));have Y4:=ae (Y3.ab (E.block _ ZN));have L:=ae (dg.trans (Kpt.u E));go_wp2;exact⟨⟨j+1,o,by omega,by go_num,by rw[V.out];exact S4,D4,Y4,L⟩,by simp[intOf];omega⟩
     |false =>
      rw[hl] at f2;have t:K (j+1)=((lst f k q (d+1) (K j).1).1,(K j).2++(lst f k q (d+1) (K j).1).2):=by rw[la.out,p7 ⟨hask,by rw[hq];simpa using hl⟩,hq];simp
      have V:=ae t;have ur:=JI.out (j+1) (by omega);rw[t] at ur;have Jp:=ae ur;have JA:=ae hl;clear t ur;have bt:((d+1:Nat):Int)=(d:Int)+1:=by omega
      have HC:Hid (∀ZI,SLs r ZI n1 b off n cap H ZQ (put (K j).1 p) o (ord++(K j).2.map (λz:Nat × Nat=>z.1)) (cS f C (K j).2)->Calls Pg 134 #[.pointer (T (Q H 0 Y)),J I (q:Int),J I ((d:Int)+1)] ZI λe W'=>e=ZF (.tuple #[])/\∃F,SLs r W' n1 b off n cap H ZQ (put (K (j+1)).1 p) F (ord++(K (j+1)).2.map (λz:Nat × Nat=>z.1)) (cS f C (K (j+1)).2)/\Kpt H ZQ ZI W'):=by
       intro ZI h5;have DS:=wU HA.out k q (d+1) (K j).1 p (by omega) Jq;have Hx:(ord++(K j).2.map (λz:Nat × Nat=>z.1)).length+(lst f k q (d+1) (put (K j).1 p)).2.length<=1000:=by rw[DS];have h3:=HN.out;rw[At.out] at h3;have h4:=Jp.length_le;simp only[cM,eT,nX,PK] at h3 h4 ⊢;omega
       have h:=JG.out q (d+1) (put (K j).1 p) o (ord++(K j).2.map (λz:Nat × Nat=>z.1)) (cS f C (K j).2) ZI (by omega) (by omega) (by omega) h5 (JB.trans JA) Hx;rw[bt,DS] at h;refine h.mono λe W' h=>?_;obtain⟨he,F,hs,hk⟩:=h;refine⟨he,F,?_,hk⟩;rw[V.out];simp only[BG,mw,<-MV];exact hs
      clear bt;go_wp2_with fail;go_quiet (fail);have E:=ae (AS (q9 wr) nq);have S4:=ae (l.aa E);have D4:=ae (D3.ab E.size (E.block _ ZN));have Y4:=ae (Y3.ab (E.block _ ZN));have L:=ae (dg.trans (Kpt.u E));have g5:=D4.c5;have Fd:=(E.cell (p:=(Q lb (lo+j*4+3) Y)) (by have:=(HL.aa l.low ly);rcases this with h|⟨b',o',hv,hr⟩;(omega);(cases hv;exact hr.1))).trans l3;clear e5 f1 f2 l1 l3;generalize wr.drewN nq=ZI at S4 D4 Y4 L g5 Fd ⊢;go_wp2_with fail;refine(HC ZI S4).mono ?_;rintro e W6 ⟨rfl,F,hs,hk⟩;have S5:=ae hs;have eD:=hk.keep W.heap.size _ Y4.out (by decide) (by omega) (by have:=HS.hM;have:=HS.hz;omega);have D5:=ae (D4.ab hk.size eD);have Y5:=ae (Y4.ab eD);have Jy:=ae (L.trans hk);clear hs hk eD g5 Fd;go_wp2;exact⟨⟨j+1,F,by omega,by go_num,S5,D5,Y5,Jy⟩,by simp[intOf];omega⟩
   ·have e:j=x.b:=by omega
    subst e;obtain⟨f2,z2⟩:=l.c2;obtain⟨oa,oc,rfl⟩:∃a c,o=Z a (ord++(K x.b).2.map (λz:Nat × Nat=>z.1)).length c:=by
     rcases l.ord.2 with ⟨h1,h2⟩|⟨g,c,JQ,h1,_⟩
     {exact⟨Y,0,by rw[h1,h2]⟩};{exact⟨_,_,h1⟩}
    have JF:(ord++(K x.b).2.map (λz:Nat × Nat=>z.1)).length<=1000:=by have h3:=HN.out;rw[At.out] at h3;simp only[cM,eT,nX,PK] at h3 ⊢;omega
    generalize hO:ord++(K x.b).2.map (λz:Nat × Nat=>z.1)=O at l f2 JF ⊢;have HO:=ae hO;clear hO;have Jv:H<wr.heap.size:=by have:=l.hH;have:=l.hz;omega
    have JP:ZQ<wr.heap.size:=by have:=l.hM;have:=l.hz;omega
    go_wp2_with (at_builtin;refine BS _ rfl (.tmp 88) (.tmp 90) 155 rfl n1 3 JL (J I 0) 1 8 underlying155 JS JR JO Jz rfl (by decide) _ O.length (O.map λq:Nat=>Value.int I (q:Int)) (by simp[Act.eval]) (l.ord.alloc _) (Q wr.heap.size 0 Y) 1 1 [J I (p:Int)] (by simp[Act.eval]) rfl (cell_one_new _ _ _) (by simp[Value.oneCell']) (by unfold maxLen;omega) (by omega) (by have:=l.hz;simp;omega) ?_;intro vy wy ZJ D GS;have OW:Hid (wy.ownsRow n1 3 1 vy (O++[p]).length ((O++[p]).map λq:Nat=>Value.int I (q:Int))):=(by show World.ownsRow _ _ _ _ _ _ _;rw[cM,BG];exact ZJ);have GR:=ae D;have eH:wy.heap[H]?=wr.heap[H]?:=(D.block H (by simp;omega) (λe=>by have:=(l.ord.lt H e.symm).1;have:=l.hH.2;omega)).trans (((q9 wr).alloc ly _).block _ Jv);have eM:wy.heap[ZQ]?=wr.heap[ZQ]?:=(D.block ZQ (by simp;omega) (λe=>by have:=(l.ord.lt ZQ e.symm).1;have:=l.hM.2;omega)).trans (((q9 wr).alloc ly _).block _ JP);have g2:=(cq (a:=(Q H 2 Y)) eH).trans f2;have y2:=(JN (a:=(Q H 2 Y)) eH).trans z2;obtain⟨gs,cs,rfl⟩:∃g c,vy=Z (T (Q g 0 Y)) (O.length+1) c:=(by rcases ZJ.2 with ⟨_,h2⟩|⟨g,c,JQ,h1,_⟩;(omega);exact⟨g,c,h1⟩);have EH:=ae eH;have EM:=ae eM;clear ZJ D GS eH eM);have AL:=(q9 wr).alloc ly (N #[J I (p:Int)] 3);have Jt:wr.heap.size<=wy.heap.size:=p9 AL.size GR.size;have Fn:Below r.heap.size r wy:=bg (l.low.alloc l.low.size (N #[J I (p:Int)] 3)) GR (by have:=l.low.size;simp;omega) (λj e=>by have:=(l.ord.lt j e).1;have:=l.hH;omega);have F1:=l.app (v:=Z (T (Q gs 0 Y)) (O.length+1) cs) (ord':=O++[p]) Jt EH EM Fn OW;have F2:=((dg.trans (Kpt.u AL)).trans (Kpt.grown (l.ord.alloc (N #[J I (p:Int)] 3)) GR)).trans (Kpt.setCell (H:=H) (ZQ:=ZQ) (j:=2) wy H (.inl rfl) (Z (T (Q gs 0 Y)) (O.length+1) cs));have Ju:cS f m ((K x.b).2++[(p,d)])=cS f C (K x.b).2:=by rw[mw,JE.out,vF];rfl
    have JD:ord++((K x.b).2++[(p,d)]).map (λz:Nat × Nat=>z.1)=O++[p]:=by rw[BG,<-MV,HO.out];rfl
    go_end0;rw[At.out];refine⟨rfl,Z (T (Q gs 0 Y)) (O.length+1) cs,?_,F2⟩;show SLs r _ n1 b off n cap H ZQ (put (K x.b).1 p) _ (ord++((K x.b).2++[(p,d)]).map (λz:Nat × Nat=>z.1)) (cS f m ((K x.b).2++[(p,d)]));rw[Ju,JD];exact F1
theorem Au:∀{i:Nat},(∀j (h:j<L.length),(L[j]).1=i+j)->bw i L=-1:=by
 induction L with
 |nil=>intro i _;rfl
 |cons x xs f =>intro i h;have b:=h 0 (by simp);simp at b;rw[bw,p7 b];refine f λj c=>?_;have:=h (j+1) (by simpa using c);simp at this;omega
theorem Du:∀{i j:Nat} (c:j<L.length),(∀m (h:m<j),(L[m]).1=i+m)->(L[j]).1≠i+j->bw i L=((i+j:Nat):Int):=by
 induction L with
 |nil=>intro i j c;simp at c
 |cons x xs g =>
  intro i j c h b;cases j with
  |zero =>simp at b;rw[bw,nD b];simp
  |succ j =>
   have f:=h 0 (by omega);simp at f;rw[bw,p7 f,g (i:=i+1) (j:=j) (by simpa using c) (λm hm=>?_) (by simpa[Nat.add_assoc,Nat.add_comm 1 j] using b)];{congr 1;omega};{have:=h (m+1) (by omega);simp at this;omega}
theorem nV {f:Nat->Deed}{d:Int}:∀{L:List (Nat × Nat)},0<=d->(∀x∈L,d<=(x.1:Int))->cS f d L=d
 |[],_,_=>rfl
 |x::xs,h,hx=>by
  have h1:cW f d x=d:=by unfold cW;rw[nD (λh2=>by have:=hx x (by simp);omega)]
  rw[cS,h1];exact nV h λy b=>hx y (by simp[b])
theorem mO {f:Nat->Deed}:∀{L:List (Nat × Nat)} {i:Nat},(∀j (h:j<L.length),(L[j]).1=i+j)->cS f (-1) L=aY f L
 |[],_,_=>rfl
 |x::xs,i,h=>by
  have m:=h 0 (by simp);simp at m;have g:∀j (c:j<xs.length),(xs[j]).1=i+1+j:=λj c=>by have:=h (j+1) (by simpa using c);simp at this;omega
  rw[cS,aY];by_cases b:(f x.1).E=3/\60<=x.2
  ·have h1:cW f (-1) x=(x.1:Int):=by unfold cW;rw[p7 ⟨b.1,b.2,.inl (by omega)⟩]
   rw[p7 b,h1];refine nV (by omega) λy l=>?_;obtain⟨j,c,rfl⟩:=SJ l;have:=g j c;omega
  ·have h1:cW f (-1) x=-1:=by unfold cW;rw[nD (λh2=>b ⟨h2.1,h2.2.1⟩)]
   rw[nD b,h1];exact mO g
theorem mP (hn:1<=n):∃o,aD f n=o++[(n - 1,0)]:=by
 obtain⟨k,rfl⟩:∃k,n=k+1:=⟨n - 1,by omega⟩
 exact⟨_,rfl⟩
theorem tR (hn:1<=n)(h:∀j (hj:j<(aD f n).length),((aD f n)[j]).1=j):(aD f n).length=n:=by
 obtain⟨o,b⟩:=mP (f:=f) hn;have hl:(aD f n).length=o.length+1:=by rw[b];simp
 have:=h o.length (by omega);simp only[b] at this;simp at this;omega
theorem Hw{p k m:Nat}(hk:k<m)(h:ba f p (k+1)=ZA):ba f p m=ZA:=by
 induction m with
 |zero=>omega
 |succ j b =>
  by_cases e:k=j;{subst e;exact h};{rw[ba,b (by omega)];rfl}
structure IY (w:M)(b:Nat)(v0 v1 v2 v3:ZC):Prop where
 c0:w.cell? (Q b 0 Y)=T v0
 c1:w.cell? (Q b 1 Y)=T v1
 c2:w.cell? (Q b 2 Y)=T v2
 c3:w.cell? (Q b 3 Y)=T v3
 z2:w.frozen? (Q b 2 Y)=ZA
 z3:w.frozen? (Q b 3 Y)=ZA
theorem Dv (w:M)(b g c f:ZC)(t:TypeId):IY (w.alloc (N #[b,g,c,f] t)).drew w.heap.size b g c f:=⟨by simp,by simp,by simp,by simp,by simp,by simp⟩
theorem Gf:SLs w (((w.alloc (N #[Z (T (Q b off Y)) n cap] 25)).alloc (N (bm n) 4)).alloc (N #[Z (T (Q b off Y)) n cap,Z (T (Q (w.heap.size+1) 0 Y)) n n,Z Y 0 0,J I (-1)] 157)).drew (w.heap.size+1+1+1) b off n cap (w.heap.size+1+1) (w.heap.size+1) (λ_=>ZA) (Z Y 0 0) [] (-1):=by
 have h:(w.alloc (N #[Z (T (Q b off Y)) n cap] 25)).heap.size=w.heap.size+1:=by simp
 have g:((w.alloc (N #[Z (T (Q b off Y)) n cap] 25)).alloc (N (bm n) 4)).heap.size=w.heap.size+1+1:=by simp
 have A:=(((q9 w).alloc ly (N #[Z (T (Q b off Y)) n cap] 25)).alloc (by simp) (N (bm n) 4)).alloc (by simp;omega) (N #[Z (T (Q b off Y)) n cap,Z (T (Q (w.heap.size+1) 0 Y)) n n,Z Y 0 0,J I (-1)] 157);have D:Below (w.heap.size+1+1) ((w.alloc (N #[Z (T (Q b off Y)) n cap] 25)).alloc (N (bm n) 4)) (((w.alloc (N #[Z (T (Q b off Y)) n cap] 25)).alloc (N (bm n) 4)).alloc (N #[Z (T (Q b off Y)) n cap,Z (T (Q (w.heap.size+1) 0 Y)) n n,Z Y 0 0,J I (-1)] 157)).drew:=(br.alloc (by omega) _).drew;have hM:=λq f=>pC (w.alloc (N #[Z (T (Q b off Y)) n cap] 25)) n q f;rw[h] at hM;have c:=Dv ((w.alloc (N #[Z (T (Q b off Y)) n cap] 25)).alloc (N (bm n) 4)) (Z (T (Q b off Y)) n cap) (Z (T (Q (w.heap.size+1) 0 Y)) n n) (Z Y 0 0) (J I (-1)) 157;rw[g] at c;refine⟨c.c0,c.c1,⟨c.c2,c.z2⟩,⟨c.c3,c.z3⟩,λq f=>⟨(D.cell (p:=(Q (w.heap.size+1) q Y)) (AI _)).trans (hM q f).1,(D.frozen (p:=(Q (w.heap.size+1) q Y)) (AI _)).trans (hM q f).2⟩,AT _ _ _ _,A.drew,by omega,by omega,by omega,?_⟩;simp
theorem vQ (b off n cap:Nat)(f:Nat->Deed)(w:M)(l:fW f n)(hn1:1<=n)(hn:(n:Int)<=400)(s:RowDeed w b off n f)(j:∀p,p<n->(f p).b<=200):Calls Pg 97 #[.agg #[Z (T (Q b off Y)) n cap],J I ((n:Int) - 1)] w λe g=>∃H i,e=ZF (.pointer (T (Q H 0 Y)))/\H<g.heap.size/\g.cell? (Q H 2 Y)=T i/\g.ownsRow w.heap.size 3 1 i (aD f n).length ((aD f n).map λz:Nat × Nat=>Value.int I (z.1:Int))/\g.cell? (Q H 3 Y)=T (J I (cS f (-1) (aD f n)))/\Below w.heap.size w g:=by
 have u:(w.alloc (N #[Z (T (Q b off Y)) n cap] 25)).cell? (Q w.heap.size 0 Y)=T (Z (T (Q b off Y)) n cap):=by simp
 have q:=kH l hn1;have m:=As w (w.heap.size+1+1+1) b off n cap (w.heap.size+1+1) (w.heap.size+1) f l hn s j n (n - 1) 0 (λ_=>ZA) (Z Y 0 0) [] (-1) _ (by omega) (by omega) (by omega) Gf rfl (by have:=q;unfold aD at this;simp;omega);rw[show((n - 1:Nat):Int)=(n:Int) - 1 by omega] at m;have x:=ae m;have r:=λw=>Ar n (by omega) w;clear m l s j;have HW:Hid (w.heap.size+1+1+1=(((w.alloc (N #[Z (T (Q b off Y)) n cap] 25)).alloc (N (bm n) 4)).alloc (N #[Z (T (Q b off Y)) n cap,Z (T (Q (w.heap.size+1) 0 Y)) n n,Z Y 0 0,J I (-1)] 157)).drew.heap.size):=by show _=_;simp
 go_enter func97,ntmps97;go_wp2_with fail;go_region_with fail;all_goals
  clear r u;go_wp2_with fail;refine x.mono ?_;rintro e w2 ⟨rfl,i,o,t⟩;have c:=ae o;clear o t;go_wp2;go_ret;refine⟨w.heap.size+1+1,i,rfl,?_,c.c2.1,?_,c.c3.1,c.low⟩
  ·have:=c.hz
   omega
  ·have h:=aC c.ord (base':=w.heap.size) (by omega)
   simp only[MH,List.map_map,PK] at h;exact h
theorem Av (b o j:Nat):((Q b o Y):Addr).add j=(Q b (o+j) Y):=by unfold Addr.add;split<;>simp_all
theorem vR (a:Option Addr)(n cap:Nat)(f:Nat->Deed)(w:M)(hn:(n:Int)<=1048576)(hv:SlDeed w a n f)(ZI:∀i,i<n->dk (f i))(mv:∀i,i<n->fD (f i)):Calls Pg 51 #[.agg #[Z a n cap]] w λe w'=>e=ZF (.tuple #[J I (eN f n).1,J I (eN f n).2])/\Below w.heap.size w w':=by
 have HV:=ae hv;have HM:=ae ZI;have HZ:=ae mv;clear hv ZI mv;have A0:=ae ((q9 w).alloc ly (N #[Z a n cap] 25));have k0:(w.alloc (N #[Z a n cap] 25)).cell? (Q w.heap.size 0 Y)=T (Z a n cap):=by simp
 obtain⟨c1,c2,ZP⟩:∃c1 c2,eN f n=(c1,c2):=⟨_,_,rfl⟩
 rw[ZP];have V:=ae ZP;clear ZP;by_cases h0:(n:Int)<1
 ·have l:c1=1/\c2=0:=by have:=V.out;unfold eN at this;rw[p7 (.inl (by omega))] at this;simp only[MG] at this;omega
  clear V;obtain⟨l,x⟩:=l;subst l x;go_enter func51,ntmps51;go_wp2;go_ret2;exact⟨rfl,A0⟩
 by_cases h4:(400:Int)<(n:Int)
 ·have l:c1=1/\c2=0:=by have:=V.out;unfold eN at this;rw[p7 (.inr (by omega))] at this;simp only[MG] at this;omega
  clear V;obtain⟨l,x⟩:=l;subst l x;go_enter func51,ntmps51;go_wp2;go_ret2;exact⟨rfl,A0⟩
 have ZQ:Hid ((if aM (be f) n≠-1 then ((2:Int),aM (be f) n) else if aM (λp=>ba f p p) n≠-1 then (3,aM (λp=>ba f p p) n) else if bw 0 (aD f n)≠-1 then (4,bw 0 (aD f n)) else if aY f (aD f n)≠-1 then (5,aY f (aD f n)) else (0,0))=(c1,c2)):=by have:=V.out;unfold eN at this;rw[nD (by omega)] at this;exact this
 clear V;obtain⟨b,off,rfl,bt⟩:=HV.resolve_left (by omega);have HR:=ae bt;clear HV bt;have DQ:(n:Int)<=400:=by omega
 have ZN:w.heap.size<(w.alloc (N #[Z (T (Q b off Y)) n cap] 25)).heap.size:=by simp
 go_enter func51,ntmps51;go_wp2;generalize World.alloc w _=W at A0 k0 ZN ⊢;go_loopw [5] (λi wr=>∃k:Nat,k<=n/\i=J I k/\Hid (∀j,j<k->be f j=ZG)/\Hid (Below W.heap.size W wr)) (λi _=>n - (intOf i).toNat);case atStart=>exact⟨0,by omega,rfl,λj t=>absurd t (NV _),eL _ _⟩
 case round =>
  obtain⟨k,hk,rfl,q,G⟩:=hrel;have k1:=(G.cell (p:=(Q w.heap.size 0 Y)) ZN).trans k0;have E:=ae (A0.trans (G.mono A0.size));by_cases r:k<n
  ·go_wp2_with fail;refine(tm b off n cap k f _ r (HR.aa E ly) (HM k r).1 (HZ k r).2.2.1.2).mono ?_;rintro e w2 ⟨he,ZK⟩;have A:=ae (E.trans (ZK.mono E.size));have H1:=ae (G.trans (ZK.mono G.size));clear ZK;cases ZO:be f k with
   |true =>
    rw[ZO] at he;subst he;have HD:=ae ZO;clear ZO;go_wp2
    exact⟨⟨k+1,by omega,by go_num,λj t=>by
     by_cases e:j=k;{subst e;exact HD}
     ·exact q j (by omega),H1⟩,by simp[intOf];omega⟩
   |false =>
    rw[ZO] at he;subst he;have u:=fK r ZO q.out;have l:c1=2/\c2=(k:Int):=by have:=ZQ.out;rw[p7 (by rw[u];omega),u] at this;simp only[MG] at this;omega
    obtain⟨l,x⟩:=l;clear ZQ u ZO;subst l x;go_wp2;go_ret2;exact⟨rfl,A⟩
  ·have e:n=k:=by omega
   subst e;have dg:=fw q.out;have ZL:Hid ((if aM (λp=>ba f p p) n≠-1 then ((3:Int),aM (λp=>ba f p p) n) else if bw 0 (aD f n)≠-1 then (4,bw 0 (aD f n)) else if aY f (aD f n)≠-1 then (5,aY f (aD f n)) else (0,0))=(c1,c2)):=by have:=ZQ.out;rw[nD (by rw[dg];simp)] at this;exact this
   have fd:=ae dg;clear ZQ dg q;go_wp2;clear r hk k1;generalize wr=ZJ at G E ⊢;have k1:=(G.cell (p:=(Q w.heap.size 0 Y)) ZN).trans k0;have la:w.heap.size<ZJ.heap.size:=lj ZN G.size;go_loopw [6] (λi wr=>∃k:Nat,k<=n/\i=J I k/\Hid (∀j,j<k->ba f j j=ZG)/\Hid (Below ZJ.heap.size ZJ wr)) (λi _=>n - (intOf i).toNat);case atStart=>exact⟨0,by omega,rfl,λj t=>absurd t (NV _),eL _ _⟩
   case round =>
    obtain⟨k,hk,rfl,q,O⟩:=hrel;by_cases r:k<n
    ·go_wp2;generalize wr=W3 at O ⊢;go_loopw [7] (λi wr=>∃m:Nat,m<=k/\i=J I m/\Hid (ba f k m=ZG)/\Hid (Below ZJ.heap.size ZJ wr)) (λi _=>k - (intOf i).toNat);case atStart=>exact⟨0,by omega,rfl,rfl,O⟩
     case round =>
      obtain⟨m,hm,rfl,HN,ZM⟩:=hrel;have k2:=(ZM.cell (p:=(Q w.heap.size 0 Y)) la).trans k1;have A:=ae (E.trans (ZM.mono E.size));by_cases At:m<k
      ·have d0:=((HR.aa A ly).2 m (by omega)).1;have d1:=((HR.aa A ly).2 k r).1;have hm0:(0:Int)<=m:=by omega
       have hmn:(m:Int)<n:=by omega
       have ur:(0:Int)<=k:=by omega
       have hkn:(k:Int)<n:=by omega
       cases hq:((f m).e.toList == (f k).e.toList) with
       |true =>
        have n9:ba f k k=ZA:=Hw At (by rw[ba,hq];simp);have u:=fK (g:=λp=>ba f p p) r n9 q;have l:c1=3/\c2=(k:Int):=by have:=ZL.out;rw[p7 (by rw[u];omega),u] at this;simp only[MG] at this;omega
        obtain⟨l,x⟩:=l;clear ZL u n9;subst l x;go_wp2_with fail;go_quiet (fail);have G2:=ae (AS A nq);go_wp2;go_ret2;exact⟨rfl,G2⟩
       |false =>
        have th:Hid (ba f k (m+1)=ZG):=by show ba f k (m+1)=ZG;rw[ba,HN.out,hq];rfl
        go_wp2_with fail;go_quiet (fail);have H5:=ae (AS ZM nq);go_wp2;exact⟨⟨m+1,by omega,by go_num,th,H5⟩,by simp[intOf];omega⟩
      ·have e:m=k:=by omega
       subst e;go_wp2
       exact⟨⟨m+1,by omega,by go_num,λj t=>by
        by_cases e:j=m;{subst e;exact HN}
        ·exact q j (by omega),ZM⟩,by simp[intOf];omega⟩
    ·have e:n=k:=by omega
     subst e;have sm:=fw (g:=λp=>ba f p p) q;have C:Hid ((if bw 0 (aD f n)≠-1 then ((4:Int),bw 0 (aD f n)) else if aY f (aD f n)≠-1 then (5,aY f (aD f n)) else (0,0))=(c1,c2)):=by have:=ZL.out;rw[nD (by rw[sm];simp)] at this;exact this
     clear ZL sm q;have k2:=(O.cell (p:=(Q w.heap.size 0 Y)) la).trans k1;have A:=ae (E.trans (O.mono E.size));have ld:=ae (kH (jC fd) (n:=n) (by omega));have hn1:1<=n:=by omega
     go_wp2_with fail;refine(vQ b off n cap f _ (jC fd) hn1 DQ (HR.aa A ly) (oM fd)).mono ?_;rintro e w5 ⟨H,ov,rfl,qr,DH,hO,ph,ZK⟩;have G5:=ae (A.trans (ZK.mono A.size));obtain⟨o,ho⟩:=mP (f:=f) hn1;have Bk:0<(aD f n).length:=by rw[ho];simp
     have P:=ae (λh=>tR (f:=f) hn1 h);clear ho o;obtain⟨L,hL⟩:∃L,L=aD f n:=⟨_,rfl⟩
     rw[<-hL] at hO ph Bk C ld P;clear hL;obtain⟨g,oc,rfl⟩:∃g c,ov=Z (T (Q g 0 Y)) L.length c:=by
      rcases hO.2 with ⟨_,h2⟩|⟨g,c,cur,h1,_⟩
      {omega};{exact⟨g,c,h1⟩}
     have DE:Hid (∀j (h:j<L.length),w5.cell? (Q g j Y)=T (J I ((L[j]).1:Int))/\g<w5.heap.size):=by intro j t;have h1:=hO.cells (g:=g) rfl j (J I ((L[j]).1:Int)) (by rw[MK,gq t];rfl);rw[Av,F6] at h1;exact⟨h1,(hO.lt g rfl).2⟩
     have hll:=ld.out;clear hO ZK k2;go_wp2;go_loopw [9] (λi wr=>∃k:Nat,k<=n/\i=J I k/\Hid (∀j,j<k->∃h:j<L.length,(L[j]).1=j)/\Hid (Below w5.heap.size w5 wr)) (λi _=>n - (intOf i).toNat);case atStart=>exact⟨0,by omega,rfl,λj t=>absurd t (NV _),eL _ _⟩
     case round =>
      obtain⟨k,hk,rfl,q,F⟩:=hrel;have x:=(F.cell (p:=(Q H 2 Y)) qr).trans DH;have e3:=(F.cell (p:=(Q H 3 Y)) qr).trans ph;have G6:=ae (G5.trans (F.mono G5.size));by_cases r:k<n
      ·by_cases aq:k<L.length
       ·obtain⟨q1,q2⟩:=DE.out k aq;have d0:=(F.cell (p:=(Q g k Y)) q2).trans q1;have hkl':(k:Int)<(L.length:Int):=by omega
        have hno:decide ((L.length:Int)<=(k:Int))=ZA:=by simp;omega
        have hno':decide (L.length<=k)=ZA:=by simp;omega
        have ur:(0:Int)<=k:=by omega
        obtain⟨z,hz⟩:∃z,z=(L[k]).1:=⟨_,rfl⟩
        rw[<-hz] at d0;have S:=ae hz;clear q1 q2 hz;by_cases y:(z:Int)=(k:Int)
        ·have HN:Hid (∀j,j<k+1->∃h:j<L.length,(L[j]).1=j):=λj t=>by
          by_cases e:j=k;{subst e;exact⟨aq,by rw[<-S.out];omega⟩};{exact q j (by omega)}
         obtain rfl:z=k:=by omega
         clear y S;go_wp2;exact⟨⟨z+1,by omega,by go_num,HN,F⟩,by simp[intOf];omega⟩
        ·have s:bw 0 L=(k:Int):=by
          have:=Du (L:=L) (i:=0) (j:=k) aq (λm hm=>by obtain⟨h,e⟩:=q.out m hm;omega) (by rw[<-S.out];omega);simpa using this
         have l:c1=4/\c2=(k:Int):=by have:=C.out;rw[p7 (by rw[s];omega),s] at this;simp only[MG] at this;omega
         have hne:((z:Int) != (k:Int))=ZG:=by simpa using y
         obtain⟨l,B⟩:=l;clear C s S;subst l B;go_wp2;go_ret2;exact⟨rfl,G6⟩
       ·have:=P.out λj t=>by obtain⟨h,e⟩:=q.out j (by omega);exact e
        omega
      ·have e:n=k:=by omega
       subst e;have K:∀j (h:j<L.length),(L[j]).1=0+j:=λj t=>by obtain⟨h,e⟩:=q.out j (by omega);omega
       have s:=Au K;rw[mO K] at e3;have D:Hid ((if aY f L≠-1 then ((5:Int),aY f L) else (0,0))=(c1,c2)):=by have:=C.out;rw[nD (by rw[s];simp)] at this;exact this
       have R:=rL f L;generalize aY f L=X at e3 D R;have ro:=ae R;clear C s K R x;by_cases y:X=-1
       ·have l:c1=0/\c2=0:=by
         have:=D.out;rw[nD (by rw[y];simp)] at this;simp only[MG] at this;omega
        obtain⟨l,B⟩:=l;have ZO:decide (0<=X)=ZA:=by rw[y];rfl
        clear D y;subst l B;go_wp2;go_ret2;exact⟨rfl,G6⟩
       {have l:c1=5/\c2=X:=(by have:=D.out;rw[p7 y] at this;simp only[MG] at this;omega);have R:0<=X:=ro.resolve_left y;obtain⟨l,B⟩:=l;clear D y ro;subst l B;go_wp2_with fail;go_quiet (fail);have G7:=ae (AS G6 nq);go_wp2;go_ret2;exact⟨rfl,G7⟩}
theorem Dw (a:Option Addr)(n cap:Nat)(f:Nat->Deed)(w:M)(hn:(n:Int)<=1048576)(p:SlDeed w a n f)(b:∀i,i<n->dk (f i))(g:∀i,i<n->fD (f i)):Calls Pg 28 #[.agg #[Z a n cap]] w λe t=>e=ZF (ZD (dc f n))/\Below w.heap.size w t:=by
 have s:=ae p;have q:=ae b;have u:=ae g;clear p b g;have l:=ae ((q9 w).alloc ly (N #[Z a n cap] 25));obtain⟨r,j⟩:∃r,r=dc f n:=⟨_,rfl⟩
 rw[<-j];have h:=ae (show r=decide ((eN f n).1=0) from j);clear j;go_enter func28,ntmps28;go_wp2_with fail;refine(vR a n cap f _ hn (s.aa l ly) q u).mono ?_;rintro e w1 ⟨rfl,o⟩;have m:=ae (l.trans (o.mono l.size));clear o;generalize (eN f n).1=c at h ⊢;generalize (eN f n).2=d;cases r with
 |true =>obtain rfl:c=0:=OH h.symm;go_wp2;go_ret;exact⟨rfl,m⟩
 |false =>
  have hc:(c == 0)=ZA:=by have:¬ c=0:=of_decide_eq_false h.symm;simpa using this
  go_wp2;go_ret;exact⟨rfl,m⟩
theorem oN (a:Option Addr)(n cap:Nat)(f:Nat->Deed)(w:M)(hn:(n:Int)<=1048576)(p:SlDeed w a n f)(l:(n:Int)<=cap)(b:∀i,i<n->dk (f i))(s:Tab w):Calls Pg 22 #[.agg #[Z a n cap]] w λe x=>e=ZF (ZD (dc f n))/\Below w.heap.size w x:=by
 have u:=ae p;have t:=ae b;have q:=ae s;clear p b s;have g:=ae ((q9 w).alloc ly (N #[Z a n cap] 25));obtain⟨r,j⟩:∃r,r=dc f n:=⟨_,rfl⟩
 rw[<-j];have h:=ae (show r=decide ((eN f n).1=0) from j);clear j;go_enter func22,ntmps22;go_wp2_with fail;refine(vP a n cap f _ hn (u.aa g ly) l t (q.aa g q.1)).mono ?_;rintro e w1 ⟨rfl,o⟩;have m:=ae (g.trans (o.mono g.size));clear o;generalize (eN f n).1=c at h ⊢;generalize (eN f n).2=d;cases r with
 |true =>obtain rfl:c=0:=OH h.symm;go_wp2;go_ret;exact⟨rfl,m⟩
 |false =>
  have hc:(c == 0)=ZA:=by have:¬ c=0:=of_decide_eq_false h.symm;simpa using this
  go_wp2;go_ret;exact⟨rfl,m⟩
