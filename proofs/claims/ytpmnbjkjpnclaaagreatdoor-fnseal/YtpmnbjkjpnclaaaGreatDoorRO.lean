import Derived.Test.YtpmnbjkjpnclaaaGreatDoorRC
import Derived.Test.YtpmnbjkjpnclaaaGreatDoorRN
set_option maxRecDepth 100000
set_option maxHeartbeats 8000000
open Go renaming Addr.mk->Q,Value.slice->Z,Value.string->Y,Value.int->J,Value.bool->ZD,Obj.cells->N,IntKind.i64->I,World->M,Value->ZC,Ending.returned->ZF,Proofs.Tryz.prog->Pg
open Option renaming none->U,some->T
open Bool renaming false->ZA,true->ZG
namespace Go.Proofs.YtpmnbjkjpnclaaaGreatDoor.Vp
open Tryz RowKit
variable {n b H ZQ off cap:Nat}{w w' W:M}{f:Nat->Deed}{L:List (Nat × Nat)}
theorem Hh:(Pg.info? 3).map (λi=>(i.zero,i.size,i.bytes))=T (T (J I 0),1,8):=by kernel_rfl
theorem SixB.ab{g f i j m l:ZC}(h:SixB w b g f i j m l)(hz:w.heap.size<=w'.heap.size)(e:w'.heap[b]?=w.heap[b]?):SixB w' b g f i j m l :=
 have c:∀o,w'.cell? (Q b o U)=w.cell? (Q b o U):=λo=>cq (a:=(Q b o U)) e
 ⟨lj h.lt hz,(c 0).trans h.c0,(c 1).trans h.c1,(c 2).trans h.c2,(c 3).trans h.c3,(c 4).trans h.c4,(c 5).trans h.c5⟩
theorem TyAt.ab{g:Nat}{e:TypeId}(h:TyAt w g e)(hb:w'.heap[g]?=w.heap[g]?):TyAt w' g e:=by obtain⟨c,b⟩:=h;exact⟨c,hb.trans b⟩
theorem Kpt.grown{f:Nat}{j:M}{v:ZC}{m:List ZC}(o:W.ownsRow f 3 1 v n m)(l:W.grownBy j v.ownBlock):Kpt H ZQ W j:=by
 refine⟨l.size,λk e q p _ _=>?_⟩;obtain⟨c,b⟩:=q;refine l.block k (eT.1 b).1 λh=>?_;rcases o.2 with ⟨rfl,_⟩|⟨g,cap,cur,rfl,_,i,_⟩
 {simp[Value.ownBlock] at h};{simp[Value.ownBlock] at h;subst h;rw[i] at b;simp at b;exact p b.2.symm}
theorem SLs.app{g f:M}{n1:Nat}{s:Nat->Bool}{u v:ZC}{ord ord':List Nat}{l:Int}(h:SLs g W n1 b off n cap H ZQ s u ord l)(hz:W.heap.size<=f.heap.size)(m:f.heap[H]?=W.heap[H]?)(p:f.heap[ZQ]?=W.heap[ZQ]?)(t:Below g.heap.size g f)(j:f.ownsRow n1 3 1 v ord'.length (ord'.map λq:Nat=>Value.int I (q:Int))):SLs g (f.setCell (Q H 2 U) v) n1 b off n cap H ZQ s v ord' l:=by
 have c:∀o,f.cell? (Q H o U)=W.cell? (Q H o U):=λo=>cq (a:=(Q H o U)) m;have z:∀o,f.frozen? (Q H o U)=W.frozen? (Q H o U):=λo=>JN (a:=(Q H o U)) m;have i:∀o,o≠2->(f.setCell (Q H 2 U) v).cell? (Q H o U)=f.cell? (Q H o U):=λo j=>sq _ _ _ _ (by first|(simp;done)|(simp;exact λe=>j e.symm)|(simp;omega));refine⟨(i 0 (by omega)).trans ((c 0).trans h.c0),(i 1 (by omega)).trans ((c 1).trans h.c1),⟨CX _ _ _ (by rw[c 2,h.c2.1];rfl),?_⟩,⟨(i 3 (by omega)).trans ((c 3).trans h.c3.1),?_⟩,λq r=>⟨(sq _ _ _ _ (by first|(simp;done)|(simp;exact λe=>absurd e.symm h.ne)|(simp;exact λe=>absurd e h.ne)|(simp;omega))).trans ((cq (a:=(Q ZQ q U)) p).trans (h.row q r).1),?_⟩,oT j h.hH.2 _,t.setCell h.hH.1 _,h.hH,h.hM,h.ne,by have:=h.hz;simp;omega⟩;{rw[VH];exact(z 2).trans h.c2.2};{rw[VH];exact(z 3).trans h.c3.2};{rw[VH];exact(JN (a:=(Q ZQ q U)) p).trans (h.row q r).2}
theorem Bv (o:M)(n1 b off n cap H ZQ:Nat)(f:Nat->Deed)(hA:gj f n)(hn:(n:Int)<=400)(hf:RowDeed o b off n f)(DE:∀p,p<n->(f p).b<=200):∀(k p d:Nat) (s:Nat->Bool) (S:ZC) (ord:List Nat) (m:Int) (W:M),p<k->p<n->d+p<=1000->SLs o W n1 b off n cap H ZQ s S ord m->s p=ZA->ord.length+(lst f k p d s).2.length<=1000 ->
   Calls Pg 119 #[.pointer (T (Q H 0 U)),J I (p:Int),J I (d:Int)] W λe W'=>e=ZF (.tuple #[])/\∃t,SLs o W' n1 b off n cap H ZQ (lst f k p d s).1 t (ord++(lst f k p d s).2.map (λz:Nat × Nat=>z.1)) (cU f m (lst f k p d s).2)/\Kpt H ZQ W W':=by
 intro k;induction k with
 |zero=>intro p d s S ord m W h;omega
 |succ k ih =>
  intro p d s S ord m W hpk ZJ hdp hS hs hN;have HS:=ae hS;have HN:=ae hN;have KQ:=ae ih;have HA:=ae hA;have HF:=ae hf;have HLK:=ae DE;obtain⟨La,KN,Kv,KH,KC⟩:=L8 Hh;obtain⟨mv,la,At,ld,⟨a0,u,th,q4⟩,⟨a1,A,qr,q5⟩⟩:=hf.2 p ZJ;have P:=ae (hS.mark ZJ);have hb:=hf.1;obtain⟨x,ZI⟩:∃x,x=f p:=⟨_,rfl⟩
  rw[<-ZI] at mv la At ld th qr q5;have hm2:x.b<=200:=by rw[ZI];exact DE p ZJ
  have HL:=ae q5;have HX:=ae ZI;have p0:=(P.low.cell (p:=(Q b (off+p*6) U)) hb).trans mv;have p1:=(P.low.cell (p:=(Q b (off+p*6+1) U)) hb).trans la;have p2:=(P.low.cell (p:=(Q b (off+p*6+2) U)) hb).trans At;have p3:=(P.low.cell (p:=(Q b (off+p*6+3) U)) hb).trans ld;have p4:=(P.low.cell (p:=(Q b (off+p*6+4) U)) hb).trans th;have p5:=(P.low.cell (p:=(Q b (off+p*6+5) U)) hb).trans qr;obtain⟨K,hK⟩:∃K,K=lks (lst f k) (f p) d s:=⟨_,rfl⟩
  have n9:Hid (lst f (k+1) p d s=(put (K x.b).1 p,(K x.b).2++[(p,d)])):=by rw[hK,ZI];rfl
  have Lb:Hid (K 0=(s,[])):=by rw[hK];rfl
  have KU:Hid (∀j,K (j+1)=if (x.D j).ask=ZG/\(K j).1 (x.D j).L.toNat=ZA then ((lst f k (x.D j).L.toNat (d+1) (K j).1).1,(K j).2++(lst f k (x.D j).L.toNat (d+1) (K j).1).2) else K j):=λj=>by rw[hK,ZI];rfl
  have KO:Hid (∀i,i<=x.b->(K i).2 <+: (K x.b).2):=λi hi=>by rw[hK];exact pY hi
  have V:Hid (cY f m (p,d)=if x.m=3/\60<=d/\(m<0∨(p:Int)<m) then (p:Int) else m):=by rw[ZI];rfl
  have KZ:H<W.heap.size:=by have:=hS.hH;have:=hS.hz;omega
  have KP:=hS.c1;obtain⟨Kw,KD⟩:=hS.row p ZJ;have Kx:=P.c0;have hp0:(0:Int)<=p:=by omega
  have hpn':(p:Int)<n:=by omega
  have ZP:=ae (P.aa (br.alloc ly (N #[Y x.e,J I x.m,J I x.E,Y x.B,Z a0 x.f u,Z a1 x.b A] 46)));have ZN:=ae (lM (W.setCell (Q ZQ p U) (ZD ZG)) (Y x.e) (J I x.m) (J I x.E) (Y x.B) (Z a0 x.f u) (Z a1 x.b A) 46);have ZM:Hid (TyAt ((W.setCell (Q ZQ p U) (ZD ZG)).alloc (N #[Y x.e,J I x.m,J I x.E,Y x.B,Z a0 x.f u,Z a1 x.b A] 46)) (W.setCell (Q ZQ p U) (ZD ZG)).heap.size 46):=⟨_,nL _ _⟩
  have C:=ae ((Kpt.setCell (H:=H) (ZQ:=ZQ) (j:=p) W ZQ (.inr rfl) (ZD ZG)).trans (Kpt.u (br.alloc ly (N #[Y x.e,J I x.m,J I x.E,Y x.B,Z a0 x.f u,Z a1 x.b A] 46))));have DQ:(W.setCell (Q ZQ p U) (ZD ZG)).heap.size=W.heap.size:=by simp
  rw[DQ] at ZN ZM;clear hS hN ih hA hf DE q4 q5 ZI hK mv la At ld th qr hs DQ P;go_enter func119,ntmps119;go_upto_region 2 with fail;generalize World.alloc (World.setCell W _ _) _=W2 at ZP ZN ZM C ⊢;clear p0 p1 p2 p3 p4 p5 KP Kw KD Kx;obtain⟨ZK,X⟩:∃ZK,ZK=decide (x.m=3/\60<=d):=⟨_,rfl⟩
  have HD:=ae X;clear X;have c1:=ZN.c1;go_cut [28] (λKV wx=>KV=ZD ZK/\wx=W2);case first =>
   cases h3:(x.m == 3) with
   |false =>
    obtain rfl:ZK=ZA:=by rw[HD.out];simp at h3;simp[h3]
    go_wp2;go_meet;exact⟨rfl,rfl⟩
   |true =>
    by_cases h6:(60:Int)<=(d:Int)
    ·obtain rfl:ZK=ZG:=by rw[HD.out];simp at h3;simp[h3];omega
     go_wp2;go_meet;exact⟨by first|rfl|(simp;done)|(simp;omega),rfl⟩
    ·obtain rfl:ZK=ZA:=by rw[HD.out];simp;omega
     go_wp2;go_meet;exact⟨by first|rfl|(simp;done)|(simp;omega),rfl⟩
  case rest =>
  obtain⟨rfl,rfl⟩:=hcut;clear c1;have hHD:H<W.heap.size:=KZ;go_upto_if 28 with fail;go_cut [] (λwx=>Hid (SLs o wx n1 b off n cap H ZQ (put s p) S ord (cY f m (p,d)))/\Hid (SixB wx W.heap.size (Y x.e) (J I x.m) (J I x.E) (Y x.B) (Z a0 x.f u) (Z a1 x.b A))/\Hid (TyAt wx W.heap.size 46)/\Hid (Kpt H ZQ W wx));case first =>
   cases ZK with
   |false =>
    have G:cY f m (p,d)=m:=by rw[V.out,gM (λh=>by have:=HD.out;simp at this;have:=this h.1;omega)]
    have l:Hid (SLs o wc n1 b off n cap H ZQ (put s p) S ord (cY f m (p,d))):=by show SLs _ _ _ _ _ _ _ _ _ _ _ _ _;rw[G];exact ZP
    clear G;go_wp2;go_meet;exact⟨l,ZN,ZM,C⟩
   |true =>
    have X:x.m=3/\60<=d:=by have:=HD.out;simpa using this
    obtain⟨e3,z3⟩:=ZP.c3;have R:=ae X;clear X;have e4:(wc.setCell (Q H 3 U) (J I (p:Int))).heap[W.heap.size]?=wc.heap[W.heap.size]?:=qh _ _ _ _ (by show W.heap.size≠H;omega);have SP:=ae (ZP.deep (p:Int));have DP:=ae (ZN.ab (w':=wc.setCell (Q H 3 U) (J I (p:Int))) (by simp) e4);have YP:=ae (ZM.ab e4);have Fm:=ae (C.trans (Kpt.setCell (H:=H) (ZQ:=ZQ) (j:=3) wc H (.inl rfl) (J I (p:Int))));clear e4;by_cases g1:m<0
    ·have G:cY f m (p,d)=(p:Int):=by rw[V.out,p6 ⟨R.1,R.2,.inl g1⟩]
     have l:Hid (SLs o (wc.setCell (Q H 3 U) (J I (p:Int))) n1 b off n cap H ZQ (put s p) S ord (cY f m (p,d))):=by show SLs _ _ _ _ _ _ _ _ _ _ _ _ _;rw[G];exact SP
     clear G;go_wp2;go_meet;exact⟨l,DP,YP,Fm⟩
    ·by_cases g2:(p:Int)<m
     ·have G:cY f m (p,d)=(p:Int):=by rw[V.out,p6 ⟨R.1,R.2,.inr g2⟩]
      have l:Hid (SLs o (wc.setCell (Q H 3 U) (J I (p:Int))) n1 b off n cap H ZQ (put s p) S ord (cY f m (p,d))):=by show SLs _ _ _ _ _ _ _ _ _ _ _ _ _;rw[G];exact SP
      clear G;go_wp2;go_meet;exact⟨l,DP,YP,Fm⟩
     ·have G:cY f m (p,d)=m:=by rw[V.out,gM (λh=>by have:=h.2.2;omega)]
      have l:Hid (SLs o wc n1 b off n cap H ZQ (put s p) S ord (cY f m (p,d))):=by show SLs _ _ _ _ _ _ _ _ _ _ _ _ _;rw[G];exact ZP
      clear G;go_wp2;go_meet;exact⟨l,ZN,ZM,C⟩
  case rest =>
  clear ZP ZN ZM C;obtain⟨ZP,ZN,ZM,C⟩:=hcut;obtain⟨B,bt⟩:∃B,B=cY f m (p,d):=⟨_,rfl⟩
  rw[<-bt] at ZP;have Hx:=ae bt;clear bt V;have Ld:Hid (B=cY f m (p,d)):=Hx.out;go_wp2;go_loopw [7] (λi wr=>∃(j:Nat) (t:ZC),j<=x.b/\i=J I j/\Hid (SLs o wr n1 b off n cap H ZQ (put (K j).1 p) t (ord++(K j).2.map (λz:Nat × Nat=>z.1)) (cU f B (K j).2))/\Hid (SixB wr W.heap.size (Y x.e) (J I x.m) (J I x.E) (Y x.B) (Z a0 x.f u) (Z a1 x.b A))/\Hid (TyAt wr W.heap.size 46)/\Hid (Kpt H ZQ W wr)) (λi _=>x.b - (intOf i).toNat);case atStart=>exact⟨0,S,by omega,rfl,by rw[Lb.out];simp only[PQ,V8,cU];exact ZP,ZN,ZM,C⟩
  case round =>
   clear ZP ZN ZM C;obtain⟨j,t,hj,rfl,l,D3,Y3,dg⟩:=hrel;have e5:=D3.c5;have L:W.heap.size<wr.heap.size:=D3.lt;by_cases Fd:j<x.b
   ·obtain⟨lb,lo,rfl,ur⟩:=(HL.aa l.low ly).resolve_left (by omega);obtain⟨l0,l1,l2,l3⟩:=ur.2 j Fd;have sm:=KU.out j;have ph:(x.D j).ask=ZG->(x.D j).L.toNat<p/\0<=(x.D j).L:=λh=>by have:=HA.out p ZJ j (by rw[<-HX.out];exact Fd);rw[<-HX.out] at this;exact this h
    generalize x.D j=y at l0 l1 l2 l3 sm ph;have Bk:=ae sm;have DS:=ae ph;clear sm ph l0 l2 ur;cases hask:y.ask with
    |false =>
     rw[hask] at l1;have r:K (j+1)=K j:=by rw[Bk.out,gM (by rw[hask];simp)]
     have ZL:=ae r;clear r;go_wp2_with fail;go_quiet (fail);have E:=ae (BM (q9 wr) nq);have S4:=ae (l.aa E);have D4:=ae (D3.ab E.size (E.block _ L));have Y4:=ae (Y3.ab (E.block _ L));have ZO:=ae (dg.trans (Kpt.u E));go_wp2;exact⟨⟨j+1,t,by omega,by go_num,by rw[ZL.out];exact S4,D4,Y4,ZO⟩,by simp[intOf];omega⟩
    |true =>
     rw[hask] at l1;obtain⟨q,hq⟩:∃q:Nat,y.L=(q:Int):=⟨y.L.toNat,by have:=(DS hask).2;omega⟩
     have KX:q<p:=by have:=(DS hask).1;rw[hq] at this;simpa using this
     rw[hq] at l3;have f1:=l.c1;obtain⟨f2,_⟩:=l.row q (by omega);have DH:put (K j).1 p q=(K j).1 q:=by simp[put];omega
     rw[DH] at f2;have hq0:(0:Int)<=q:=by omega
     have hqn:(q:Int)<n:=by omega
     have KT:=ae DH;clear DH;cases hl:(K j).1 q with
     |true =>
      rw[hl] at f2;have r:K (j+1)=K j:=by rw[Bk.out,gM (by rw[hq];simp[hl])]
      have ZL:=ae r;clear r;go_wp2_with fail;go_quiet (fail);have E:=ae (BM (q9 wr) nq);have S4:=ae (l.aa E);have D4:=ae (D3.ab E.size (E.block _ L));have Y4:=ae (Y3.ab (E.block _ L));have ZO:=ae (dg.trans (Kpt.u E));go_wp2;exact⟨⟨j+1,t,by omega,by go_num,by rw[ZL.out];exact S4,D4,Y4,ZO⟩,by simp[intOf];omega⟩
     |false =>
      rw[hl] at f2;have r:K (j+1)=((lst f k q (d+1) (K j).1).1,(K j).2++(lst f k q (d+1) (K j).1).2):=by rw[Bk.out,p6 ⟨hask,by rw[hq];simpa using hl⟩,hq];simp
      have ZL:=ae r;have ro:=KO.out (j+1) (by omega);rw[r] at ro;have KM:=ae ro;have Kz:=ae hl;clear r ro;have fd:((d+1:Nat):Int)=(d:Int)+1:=by omega
      have HC:Hid (∀W5,SLs o W5 n1 b off n cap H ZQ (put (K j).1 p) t (ord++(K j).2.map (λz:Nat × Nat=>z.1)) (cU f B (K j).2)->Calls Pg 119 #[.pointer (T (Q H 0 U)),J I (q:Int),J I ((d:Int)+1)] W5 λe W'=>e=ZF (.tuple #[])/\∃F,SLs o W' n1 b off n cap H ZQ (put (K (j+1)).1 p) F (ord++(K (j+1)).2.map (λz:Nat × Nat=>z.1)) (cU f B (K (j+1)).2)/\Kpt H ZQ W5 W'):=by
       intro W5 h5;have Fk:=xM HA.out k q (d+1) (K j).1 p (by omega) KX;have GS:(ord++(K j).2.map (λz:Nat × Nat=>z.1)).length+(lst f k q (d+1) (put (K j).1 p)).2.length<=1000:=by rw[Fk];have h3:=HN.out;rw[n9.out] at h3;have h4:=KM.length_le;simp only[cM,eL,nX,QX] at h3 h4 ⊢;omega
       have h:=KQ.out q (d+1) (put (K j).1 p) t (ord++(K j).2.map (λz:Nat × Nat=>z.1)) (cU f B (K j).2) W5 (by omega) (by omega) (by omega) h5 (KT.trans Kz) GS;rw[fd,Fk] at h;refine h.mono λe W' h=>?_;obtain⟨he,F,hs,hk⟩:=h;refine⟨he,F,?_,hk⟩;rw[ZL.out];simp only[DN,mJ,<-ON];exact hs
      clear fd;go_wp2_with fail;go_quiet (fail);have E:=ae (BM (q9 wr) nq);have S4:=ae (l.aa E);have D4:=ae (D3.ab E.size (E.block _ L));have Y4:=ae (Y3.ab (E.block _ L));have ZO:=ae (dg.trans (Kpt.u E));have g5:=D4.c5;have Fn:=(E.cell (p:=(Q lb (lo+j*4+3) U)) (by have:=(HL.aa l.low ly);rcases this with h|⟨b',o',hv,hr⟩;(omega);(cases hv;exact hr.1))).trans l3;clear e5 f1 f2 l1 l3;generalize wr.drewN nq=W5 at S4 D4 Y4 ZO g5 Fn ⊢;go_wp2_with fail;refine(HC W5 S4).mono ?_;rintro e W6 ⟨rfl,F,hs,hk⟩;have S5:=ae hs;have eD:=hk.keep W.heap.size _ Y4.out (by decide) (by omega) (by have:=HS.hM;have:=HS.hz;omega);have D5:=ae (D4.ab hk.size eD);have Y5:=ae (Y4.ab eD);have KE:=ae (ZO.trans hk);clear hs hk eD g5 Fn;go_wp2;exact⟨⟨j+1,F,by omega,by go_num,S5,D5,Y5,KE⟩,by simp[intOf];omega⟩
   ·have e:j=x.b:=by omega
    subst e;obtain⟨f2,z2⟩:=l.c2;obtain⟨oa,oc,rfl⟩:∃a c,t=Z a (ord++(K x.b).2.map (λz:Nat × Nat=>z.1)).length c:=by
     rcases l.ord.2 with ⟨h1,h2⟩|⟨g,c,KB,h1,_⟩
     {exact⟨U,0,by rw[h1,h2]⟩};{exact⟨_,_,h1⟩}
    have Ky:(ord++(K x.b).2.map (λz:Nat × Nat=>z.1)).length<=1000:=by have h3:=HN.out;rw[n9.out] at h3;simp only[cM,eL,nX,QX] at h3 ⊢;omega
    generalize hO:ord++(K x.b).2.map (λz:Nat × Nat=>z.1)=O at l f2 Ky ⊢;have HO:=ae hO;clear hO;have Ku:H<wr.heap.size:=by have:=l.hH;have:=l.hz;omega
    have Lc:ZQ<wr.heap.size:=by have:=l.hM;have:=l.hz;omega
    go_wp2_with (at_builtin;refine BS _ rfl (.tmp 88) (.tmp 90) 107 rfl n1 3 La (J I 0) 1 8 underlying107 KN Kv KH KC rfl (by decide) _ O.length (O.map λq:Nat=>Value.int I (q:Int)) (by simp[Act.eval]) (l.ord.alloc _) (Q wr.heap.size 0 U) 1 1 [J I (p:Int)] (by simp[Act.eval]) rfl (cell_one_new _ _ _) (by simp[Value.oneCell']) (by unfold maxLen;omega) (by omega) (by have:=l.hz;simp;omega) ?_;intro vy wy aq D Id;have OW:Hid (wy.ownsRow n1 3 1 vy (O++[p]).length ((O++[p]).map λq:Nat=>Value.int I (q:Int))):=(by show World.ownsRow _ _ _ _ _ _ _;rw[cM,DN];exact aq);have GR:=ae D;have eH:wy.heap[H]?=wr.heap[H]?:=(D.block H (by simp;omega) (λe=>by have:=(l.ord.lt H e.symm).1;have:=l.hH.2;omega)).trans (((q9 wr).alloc ly _).block _ Ku);have eM:wy.heap[ZQ]?=wr.heap[ZQ]?:=(D.block ZQ (by simp;omega) (λe=>by have:=(l.ord.lt ZQ e.symm).1;have:=l.hM.2;omega)).trans (((q9 wr).alloc ly _).block _ Lc);have g2:=(cq (a:=(Q H 2 U)) eH).trans f2;have y2:=(JN (a:=(Q H 2 U)) eH).trans z2;obtain⟨gs,cs,rfl⟩:∃g c,vy=Z (T (Q g 0 U)) (O.length+1) c:=(by rcases aq.2 with ⟨_,h2⟩|⟨g,c,KB,h1,_⟩;(omega);exact⟨g,c,h1⟩);have EH:=ae eH;have EM:=ae eM;clear aq D Id eH eM);have AL:=(q9 wr).alloc ly (N #[J I (p:Int)] 3);have Kt:wr.heap.size<=wy.heap.size:=p7 AL.size GR.size;have JT:Below o.heap.size o wy:=bg (l.low.alloc l.low.size (N #[J I (p:Int)] 3)) GR (by have:=l.low.size;simp;omega) (λj e=>by have:=(l.ord.lt j e).1;have:=l.hH;omega);have F1:=l.app (v:=Z (T (Q gs 0 U)) (O.length+1) cs) (ord':=O++[p]) Kt EH EM JT OW;have F2:=((dg.trans (Kpt.u AL)).trans (Kpt.grown (l.ord.alloc (N #[J I (p:Int)] 3)) GR)).trans (Kpt.setCell (H:=H) (ZQ:=ZQ) (j:=2) wy H (.inl rfl) (Z (T (Q gs 0 U)) (O.length+1) cs));have KJ:cU f m ((K x.b).2++[(p,d)])=cU f B (K x.b).2:=by rw[mJ,Ld.out,wP];rfl
    have KF:ord++((K x.b).2++[(p,d)]).map (λz:Nat × Nat=>z.1)=O++[p]:=by rw[DN,<-ON,HO.out];rfl
    go_end0;rw[n9.out];refine⟨rfl,Z (T (Q gs 0 U)) (O.length+1) cs,?_,F2⟩;show SLs o _ n1 b off n cap H ZQ (put (K x.b).1 p) _ (ord++((K x.b).2++[(p,d)]).map (λz:Nat × Nat=>z.1)) (cU f m ((K x.b).2++[(p,d)]));rw[KJ,KF];exact F1
theorem Bz:∀{i:Nat},(∀j (h:j<L.length),(L[j]).1=i+j)->bA i L=-1:=by
 induction L with
 |nil=>intro i _;rfl
 |cons x xs c =>intro i h;have b:=h 0 (by simp);simp at b;rw[bA,p6 b];refine c λj f=>?_;have:=h (j+1) (by simpa using f);simp at this;omega
theorem Ez:∀{i j:Nat} (c:j<L.length),(∀m (h:m<j),(L[m]).1=i+m)->(L[j]).1≠i+j->bA i L=((i+j:Nat):Int):=by
 induction L with
 |nil=>intro i j c;simp at c
 |cons x xs g =>
  intro i j c h b;cases j with
  |zero =>simp at b;rw[bA,gM b];simp
  |succ j =>
   have f:=h 0 (by omega);simp at f;rw[bA,p6 f,g (i:=i+1) (j:=j) (by simpa using c) (λm hm=>?_) (by simpa[Nat.add_assoc,Nat.add_comm 1 j] using b)];{congr 1;omega};{have:=h (m+1) (by omega);simp at this;omega}
theorem oy {f:Nat->Deed}{d:Int}:∀{L:List (Nat × Nat)},0<=d->(∀x∈L,d<=(x.1:Int))->cU f d L=d
 |[],_,_=>rfl
 |x::xs,h,hx=>by
  have h1:cY f d x=d:=by unfold cY;rw[gM (λh2=>by have:=hx x (by simp);omega)]
  rw[cU,h1];exact oy h λy b=>hx y (by simp[b])
theorem nd {f:Nat->Deed}:∀{L:List (Nat × Nat)} {i:Nat},(∀j (h:j<L.length),(L[j]).1=i+j)->cU f (-1) L=aZ f L
 |[],_,_=>rfl
 |x::xs,i,h=>by
  have m:=h 0 (by simp);simp at m;have g:∀j (c:j<xs.length),(xs[j]).1=i+1+j:=λj c=>by have:=h (j+1) (by simpa using c);simp at this;omega
  rw[cU,aZ];by_cases b:(f x.1).m=3/\60<=x.2
  ·have h1:cY f (-1) x=(x.1:Int):=by unfold cY;rw[p6 ⟨b.1,b.2,.inl (by omega)⟩]
   rw[p6 b,h1];refine oy (by omega) λy l=>?_;obtain⟨j,c,rfl⟩:=UK l;have:=g j c;omega
  ·have h1:cY f (-1) x=-1:=by unfold cY;rw[gM (λh2=>b ⟨h2.1,h2.2.1⟩)]
   rw[gM b,h1];exact nd g
theorem nf (hn:1<=n):∃o,aC f n=o++[(n - 1,0)]:=by
 obtain⟨k,rfl⟩:∃k,n=k+1:=⟨n - 1,by omega⟩
 exact⟨_,rfl⟩
theorem uE (hn:1<=n)(h:∀j (hj:j<(aC f n).length),((aC f n)[j]).1=j):(aC f n).length=n:=by
 obtain⟨o,b⟩:=nf (f:=f) hn;have hl:(aC f n).length=o.length+1:=by rw[b];simp
 have:=h o.length (by omega);simp only[b] at this;simp at this;omega
theorem Jb{p k m:Nat}(hk:k<m)(h:bc f p (k+1)=ZA):bc f p m=ZA:=by
 induction m with
 |zero=>omega
 |succ j b =>
  by_cases e:k=j;{subst e;exact h};{rw[bc,b (by omega)];rfl}
structure J0 (w:M)(b:Nat)(v0 v1 v2 v3:ZC):Prop where
 c0:w.cell? (Q b 0 U)=T v0
 c1:w.cell? (Q b 1 U)=T v1
 c2:w.cell? (Q b 2 U)=T v2
 c3:w.cell? (Q b 3 U)=T v3
 z2:w.frozen? (Q b 2 U)=ZA
 z3:w.frozen? (Q b 3 U)=ZA
theorem EC (w:M)(g c b f:ZC)(t:TypeId):J0 (w.alloc (N #[g,c,b,f] t)).drew w.heap.size g c b f:=⟨by simp,by simp,by simp,by simp,by simp,by simp⟩
theorem Hi:SLs w (((w.alloc (N #[Z (T (Q b off U)) n cap] 37)).alloc (N (bo n) 4)).alloc (N #[Z (T (Q b off U)) n cap,Z (T (Q (w.heap.size+1) 0 U)) n n,Z U 0 0,J I (-1)] 109)).drew (w.heap.size+1+1+1) b off n cap (w.heap.size+1+1) (w.heap.size+1) (λ_=>ZA) (Z U 0 0) [] (-1):=by
 have h:(w.alloc (N #[Z (T (Q b off U)) n cap] 37)).heap.size=w.heap.size+1:=by simp
 have g:((w.alloc (N #[Z (T (Q b off U)) n cap] 37)).alloc (N (bo n) 4)).heap.size=w.heap.size+1+1:=by simp
 have A:=(((q9 w).alloc ly (N #[Z (T (Q b off U)) n cap] 37)).alloc (by simp) (N (bo n) 4)).alloc (by simp;omega) (N #[Z (T (Q b off U)) n cap,Z (T (Q (w.heap.size+1) 0 U)) n n,Z U 0 0,J I (-1)] 109);have D:Below (w.heap.size+1+1) ((w.alloc (N #[Z (T (Q b off U)) n cap] 37)).alloc (N (bo n) 4)) (((w.alloc (N #[Z (T (Q b off U)) n cap] 37)).alloc (N (bo n) 4)).alloc (N #[Z (T (Q b off U)) n cap,Z (T (Q (w.heap.size+1) 0 U)) n n,Z U 0 0,J I (-1)] 109)).drew:=(br.alloc (by omega) _).drew;have hM:=λq f=>pZ (w.alloc (N #[Z (T (Q b off U)) n cap] 37)) n q f;rw[h] at hM;have c:=EC ((w.alloc (N #[Z (T (Q b off U)) n cap] 37)).alloc (N (bo n) 4)) (Z (T (Q b off U)) n cap) (Z (T (Q (w.heap.size+1) 0 U)) n n) (Z U 0 0) (J I (-1)) 109;rw[g] at c;refine⟨c.c0,c.c1,⟨c.c2,c.z2⟩,⟨c.c3,c.z3⟩,λq f=>⟨(D.cell (p:=(Q (w.heap.size+1) q U)) (AP _)).trans (hM q f).1,(D.frozen (p:=(Q (w.heap.size+1) q U)) (AP _)).trans (hM q f).2⟩,A9 _ _ _ _,A.drew,by omega,by omega,by omega,?_⟩;simp
theorem xd (b off n cap:Nat)(f:Nat->Deed)(w:M)(l:gj f n)(hn1:1<=n)(hn:(n:Int)<=400)(o:RowDeed w b off n f)(j:∀p,p<n->(f p).b<=200):Calls Pg 63 #[.agg #[Z (T (Q b off U)) n cap],J I ((n:Int) - 1)] w λe c=>∃H i,e=ZF (.pointer (T (Q H 0 U)))/\H<c.heap.size/\c.cell? (Q H 2 U)=T i/\c.ownsRow w.heap.size 3 1 i (aC f n).length ((aC f n).map λz:Nat × Nat=>Value.int I (z.1:Int))/\c.cell? (Q H 3 U)=T (J I (cU f (-1) (aC f n)))/\Below w.heap.size w c:=by
 have u:(w.alloc (N #[Z (T (Q b off U)) n cap] 37)).cell? (Q w.heap.size 0 U)=T (Z (T (Q b off U)) n cap):=by simp
 have q:=kQ l hn1;have m:=Bv w (w.heap.size+1+1+1) b off n cap (w.heap.size+1+1) (w.heap.size+1) f l hn o j n (n - 1) 0 (λ_=>ZA) (Z U 0 0) [] (-1) _ (by omega) (by omega) (by omega) Hi rfl (by have:=q;unfold aC at this;simp;omega);rw[show((n - 1:Nat):Int)=(n:Int) - 1 by omega] at m;have x:=ae m;have s:=λw=>Bu n (by omega) w;clear m l o j;have HW:Hid (w.heap.size+1+1+1=(((w.alloc (N #[Z (T (Q b off U)) n cap] 37)).alloc (N (bo n) 4)).alloc (N #[Z (T (Q b off U)) n cap,Z (T (Q (w.heap.size+1) 0 U)) n n,Z U 0 0,J I (-1)] 109)).drew.heap.size):=by show _=_;simp
 go_enter func63,ntmps63;go_wp2_with fail;go_region_with fail;all_goals
  clear s u;go_wp2_with fail;refine x.mono ?_;rintro e w2 ⟨rfl,i,r,t⟩;have g:=ae r;clear r t;go_wp2;go_ret;refine⟨w.heap.size+1+1,i,rfl,?_,g.c2.1,?_,g.c3.1,g.low⟩
  ·have:=g.hz
   omega
  ·have h:=aB g.ord (base':=w.heap.size) (by omega)
   simp only[LN,List.map_map,QX] at h;exact h
theorem BD (b o j:Nat):((Q b o U):Addr).add j=(Q b (o+j) U):=by unfold Addr.add;split<;>simp_all
theorem xe (a:Option Addr)(n cap:Nat)(f:Nat->Deed)(w:M)(hn:(n:Int)<=1048576)(hv:SlDeed w a n f)(fd:∀i,i<n->cV (f i))(la:∀i,i<n->fj (f i)):Calls Pg 103 #[.agg #[Z a n cap]] w λe w'=>e=ZF (.tuple #[J I (eV f n).1,J I (eV f n).2])/\Below w.heap.size w w':=by
 have HV:=ae hv;have HM:=ae fd;have HZ:=ae la;clear hv fd la;have A0:=ae ((q9 w).alloc ly (N #[Z a n cap] 37));have k0:(w.alloc (N #[Z a n cap] 37)).cell? (Q w.heap.size 0 U)=T (Z a n cap):=by simp
 obtain⟨c1,c2,G⟩:∃c1 c2,eV f n=(c1,c2):=⟨_,_,rfl⟩
 rw[G];have ZJ:=ae G;clear G;by_cases h0:(n:Int)<1
 ·have l:c1=1/\c2=0:=by have:=ZJ.out;unfold eV at this;rw[p6 (.inl (by omega))] at this;simp only[LK] at this;omega
  clear ZJ;obtain⟨l,A⟩:=l;subst l A;go_enter func103,ntmps103;go_wp2;go_ret2;exact⟨rfl,A0⟩
 by_cases h4:(400:Int)<(n:Int)
 ·have l:c1=1/\c2=0:=by have:=ZJ.out;unfold eV at this;rw[p6 (.inr (by omega))] at this;simp only[LK] at this;omega
  clear ZJ;obtain⟨l,A⟩:=l;subst l A;go_enter func103,ntmps103;go_wp2;go_ret2;exact⟨rfl,A0⟩
 have ZL:Hid ((if aM (bi f) n≠-1 then ((2:Int),aM (bi f) n) else if aM (λp=>bc f p p) n≠-1 then (3,aM (λp=>bc f p p) n) else if bA 0 (aC f n)≠-1 then (4,bA 0 (aC f n)) else if aZ f (aC f n)≠-1 then (5,aZ f (aC f n)) else (0,0))=(c1,c2)):=by have:=ZJ.out;unfold eV at this;rw[gM (by omega)] at this;exact this
 clear ZJ;obtain⟨b,off,rfl,dg⟩:=HV.resolve_left (by omega);have HR:=ae dg;clear HV dg;have Bk:(n:Int)<=400:=by omega
 have O:w.heap.size<(w.alloc (N #[Z (T (Q b off U)) n cap] 37)).heap.size:=by simp
 go_enter func103,ntmps103;go_wp2;generalize World.alloc w _=W at A0 k0 O ⊢;go_loopw [5] (λi wr=>∃k:Nat,k<=n/\i=J I k/\Hid (∀j,j<k->bi f j=ZG)/\Hid (Below W.heap.size W wr)) (λi _=>n - (intOf i).toNat);case atStart=>exact⟨0,by omega,rfl,λj t=>absurd t (PK _),dB _ _⟩
 case round =>
  obtain⟨k,hk,rfl,r,ZN⟩:=hrel;have k1:=(ZN.cell (p:=(Q w.heap.size 0 U)) O).trans k0;have C:=ae (A0.trans (ZN.mono A0.size));by_cases q:k<n
  ·go_wp2_with fail;refine(ud b off n cap k f _ q (HR.aa C ly) (HM k q).1 (HZ k q).2.2.1.2).mono ?_;rintro e w2 ⟨he,V⟩;have x:=ae (C.trans (V.mono C.size));have H1:=ae (ZN.trans (V.mono ZN.size));clear V;cases ZP:bi f k with
   |true =>
    rw[ZP] at he;subst he;have HD:=ae ZP;clear ZP;go_wp2
    exact⟨⟨k+1,by omega,by go_num,λj t=>by
     by_cases e:j=k;{subst e;exact HD}
     ·exact r j (by omega),H1⟩,by simp[intOf];omega⟩
   |false =>
    rw[ZP] at he;subst he;have u:=fP q ZP r.out;have l:c1=2/\c2=(k:Int):=by have:=ZL.out;rw[p6 (by rw[u];omega),u] at this;simp only[LK] at this;omega
    obtain⟨l,A⟩:=l;clear ZL u ZP;subst l A;go_wp2;go_ret2;exact⟨rfl,x⟩
  ·have e:n=k:=by omega
   subst e;have aq:=fD r.out;have ZQ:Hid ((if aM (λp=>bc f p p) n≠-1 then ((3:Int),aM (λp=>bc f p p) n) else if bA 0 (aC f n)≠-1 then (4,bA 0 (aC f n)) else if aZ f (aC f n)≠-1 then (5,aZ f (aC f n)) else (0,0))=(c1,c2)):=by have:=ZL.out;rw[gM (by rw[aq];simp)] at this;exact this
   have bt:=ae aq;clear ZL aq r;go_wp2;clear q hk k1;generalize wr=ZK at ZN C ⊢;have k1:=(ZN.cell (p:=(Q w.heap.size 0 U)) O).trans k0;have ph:w.heap.size<ZK.heap.size:=lj O ZN.size;go_loopw [6] (λi wr=>∃k:Nat,k<=n/\i=J I k/\Hid (∀j,j<k->bc f j j=ZG)/\Hid (Below ZK.heap.size ZK wr)) (λi _=>n - (intOf i).toNat);case atStart=>exact⟨0,by omega,rfl,λj t=>absurd t (PK _),dB _ _⟩
   case round =>
    obtain⟨k,hk,rfl,r,S⟩:=hrel;by_cases q:k<n
    ·go_wp2;generalize wr=W3 at S ⊢;go_loopw [7] (λi wr=>∃m:Nat,m<=k/\i=J I m/\Hid (bc f k m=ZG)/\Hid (Below ZK.heap.size ZK wr)) (λi _=>k - (intOf i).toNat);case atStart=>exact⟨0,by omega,rfl,rfl,S⟩
     case round =>
      obtain⟨m,hm,rfl,HN,R⟩:=hrel;have k2:=(R.cell (p:=(Q w.heap.size 0 U)) ph).trans k1;have x:=ae (C.trans (R.mono C.size));by_cases DE:m<k
      ·have d0:=((HR.aa x ly).2 m (by omega)).1;have d1:=((HR.aa x ly).2 k q).1;have hm0:(0:Int)<=m:=by omega
       have hmn:(m:Int)<n:=by omega
       have ur:(0:Int)<=k:=by omega
       have hkn:(k:Int)<n:=by omega
       cases hq:((f m).e.toList == (f k).e.toList) with
       |true =>
        have n9:bc f k k=ZA:=Jb DE (by rw[bc,hq];simp);have u:=fP (g:=λp=>bc f p p) q n9 r;have l:c1=3/\c2=(k:Int):=by have:=ZQ.out;rw[p6 (by rw[u];omega),u] at this;simp only[LK] at this;omega
        obtain⟨l,A⟩:=l;clear ZQ u n9;subst l A;go_wp2_with fail;go_quiet (fail);have G2:=ae (BM x nq);go_wp2;go_ret2;exact⟨rfl,G2⟩
       |false =>
        have DH:Hid (bc f k (m+1)=ZG):=by show bc f k (m+1)=ZG;rw[bc,HN.out,hq];rfl
        go_wp2_with fail;go_quiet (fail);have H5:=ae (BM R nq);go_wp2;exact⟨⟨m+1,by omega,by go_num,DH,H5⟩,by simp[intOf];omega⟩
      ·have e:m=k:=by omega
       subst e;go_wp2
       exact⟨⟨m+1,by omega,by go_num,λj t=>by
        by_cases e:j=m;{subst e;exact HN}
        ·exact r j (by omega),R⟩,by simp[intOf];omega⟩
    ·have e:n=k:=by omega
     subst e;have ro:=fD (g:=λp=>bc f p p) r;have D:Hid ((if bA 0 (aC f n)≠-1 then ((4:Int),bA 0 (aC f n)) else if aZ f (aC f n)≠-1 then (5,aZ f (aC f n)) else (0,0))=(c1,c2)):=by have:=ZQ.out;rw[gM (by rw[ro];simp)] at this;exact this
     clear ZQ ro r;have k2:=(S.cell (p:=(Q w.heap.size 0 U)) ph).trans k1;have x:=ae (C.trans (S.mono C.size));have qr:=ae (kQ (jN bt) (n:=n) (by omega));have hn1:1<=n:=by omega
     go_wp2_with fail;refine(xd b off n cap f _ (jN bt) hn1 Bk (HR.aa x ly) (o6 bt)).mono ?_;rintro e w5 ⟨H,ov,rfl,ld,At,hO,sm,V⟩;have G5:=ae (x.trans (V.mono x.size));obtain⟨o,ho⟩:=nf (f:=f) hn1;have DQ:0<(aC f n).length:=by rw[ho];simp
     have ZM:=ae (λh=>uE (f:=f) hn1 h);clear ho o;obtain⟨L,hL⟩:∃L,L=aC f n:=⟨_,rfl⟩
     rw[<-hL] at hO sm DQ D qr ZM;clear hL;obtain⟨g,oc,rfl⟩:∃g c,ov=Z (T (Q g 0 U)) L.length c:=by
      rcases hO.2 with ⟨_,h2⟩|⟨g,c,cur,h1,_⟩
      {omega};{exact⟨g,c,h1⟩}
     have th:Hid (∀j (h:j<L.length),w5.cell? (Q g j U)=T (J I ((L[j]).1:Int))/\g<w5.heap.size):=by intro j t;have h1:=hO.cells (g:=g) rfl j (J I ((L[j]).1:Int)) (by rw[NZ,gq t];rfl);rw[BD,FM] at h1;exact⟨h1,(hO.lt g rfl).2⟩
     have hll:=qr.out;clear hO V k2;go_wp2;go_loopw [9] (λi wr=>∃k:Nat,k<=n/\i=J I k/\Hid (∀j,j<k->∃h:j<L.length,(L[j]).1=j)/\Hid (Below w5.heap.size w5 wr)) (λi _=>n - (intOf i).toNat);case atStart=>exact⟨0,by omega,rfl,λj t=>absurd t (PK _),dB _ _⟩
     case round =>
      obtain⟨k,hk,rfl,r,E⟩:=hrel;have A:=(E.cell (p:=(Q H 2 U)) ld).trans At;have e3:=(E.cell (p:=(Q H 3 U)) ld).trans sm;have G6:=ae (G5.trans (E.mono G5.size));by_cases q:k<n
      ·by_cases ZI:k<L.length
       ·obtain⟨q1,q2⟩:=th.out k ZI;have d0:=(E.cell (p:=(Q g k U)) q2).trans q1;have hkl':(k:Int)<(L.length:Int):=by omega
        have hno:decide ((L.length:Int)<=(k:Int))=ZA:=by simp;omega
        have hno':decide (L.length<=k)=ZA:=by simp;omega
        have ur:(0:Int)<=k:=by omega
        obtain⟨z,hz⟩:∃z,z=(L[k]).1:=⟨_,rfl⟩
        rw[<-hz] at d0;have ZO:=ae hz;clear q1 q2 hz;by_cases y:(z:Int)=(k:Int)
        ·have HN:Hid (∀j,j<k+1->∃h:j<L.length,(L[j]).1=j):=λj t=>by
          by_cases e:j=k;{subst e;exact⟨ZI,by rw[<-ZO.out];omega⟩};{exact r j (by omega)}
         obtain rfl:z=k:=by omega
         clear y ZO;go_wp2;exact⟨⟨z+1,by omega,by go_num,HN,E⟩,by simp[intOf];omega⟩
        ·have s:bA 0 L=(k:Int):=by
          have:=Ez (L:=L) (i:=0) (j:=k) ZI (λm hm=>by obtain⟨h,e⟩:=r.out m hm;omega) (by rw[<-ZO.out];omega);simpa using this
         have l:c1=4/\c2=(k:Int):=by have:=D.out;rw[p6 (by rw[s];omega),s] at this;simp only[LK] at this;omega
         have hne:((z:Int) != (k:Int))=ZG:=by simpa using y
         obtain⟨l,F⟩:=l;clear D s ZO;subst l F;go_wp2;go_ret2;exact⟨rfl,G6⟩
       ·have:=ZM.out λj t=>by obtain⟨h,e⟩:=r.out j (by omega);exact e
        omega
      ·have e:n=k:=by omega
       subst e;have K:∀j (h:j<L.length),(L[j]).1=0+j:=λj t=>by obtain⟨h,e⟩:=r.out j (by omega);omega
       have s:=Bz K;rw[nd K] at e3;have B:Hid ((if aZ f L≠-1 then ((5:Int),aZ f L) else (0,0))=(c1,c2)):=by have:=D.out;rw[gM (by rw[s];simp)] at this;exact this
       have P:=sE f L;generalize aZ f L=X at e3 B P;have mv:=ae P;clear D s K P A;by_cases y:X=-1
       ·have l:c1=0/\c2=0:=by
         have:=B.out;rw[gM (by rw[y];simp)] at this;simp only[LK] at this;omega
        obtain⟨l,F⟩:=l;have ZP:decide (0<=X)=ZA:=by rw[y];rfl
        clear B y;subst l F;go_wp2;go_ret2;exact⟨rfl,G6⟩
       {have l:c1=5/\c2=X:=(by have:=B.out;rw[p6 y] at this;simp only[LK] at this;omega);have P:0<=X:=mv.resolve_left y;obtain⟨l,F⟩:=l;clear B y mv;subst l F;go_wp2_with fail;go_quiet (fail);have G7:=ae (BM G6 nq);go_wp2;go_ret2;exact⟨rfl,G7⟩}
theorem ED (a:Option Addr)(n cap:Nat)(f:Nat->Deed)(w:M)(hn:(n:Int)<=1048576)(m:SlDeed w a n f)(b:∀i,i<n->cV (f i))(g:∀i,i<n->fj (f i)):Calls Pg 46 #[.agg #[Z a n cap]] w λe q=>e=ZF (ZD (de f n))/\Below w.heap.size w q:=by
 have s:=ae m;have u:=ae b;have t:=ae g;clear m b g;have l:=ae ((q9 w).alloc ly (N #[Z a n cap] 37));obtain⟨r,j⟩:∃r,r=de f n:=⟨_,rfl⟩
 rw[<-j];have h:=ae (show r=decide ((eV f n).1=0) from j);clear j;go_enter func46,ntmps46;go_wp2_with fail;refine(xe a n cap f _ hn (s.aa l ly) u t).mono ?_;rintro e w1 ⟨rfl,p⟩;have o:=ae (l.trans (p.mono l.size));clear p;generalize (eV f n).1=c at h ⊢;generalize (eV f n).2=d;cases r with
 |true =>obtain rfl:c=0:=QG h.symm;go_wp2;go_ret;exact⟨rfl,o⟩
 |false =>
  have hc:(c == 0)=ZA:=by have:¬ c=0:=of_decide_eq_false h.symm;simpa using this
  go_wp2;go_ret;exact⟨rfl,o⟩
theorem o7 (a:Option Addr)(n cap:Nat)(f:Nat->Deed)(w:M)(hn:(n:Int)<=1048576)(p:SlDeed w a n f)(l:(n:Int)<=cap)(b:∀i,i<n->cV (f i))(m:Tab w):Calls Pg 42 #[.agg #[Z a n cap]] w λe t=>e=ZF (ZD (de f n))/\Below w.heap.size w t:=by
 have u:=ae p;have x:=ae b;have o:=ae m;clear p b m;have g:=ae ((q9 w).alloc ly (N #[Z a n cap] 37));obtain⟨r,h⟩:∃r,r=de f n:=⟨_,rfl⟩
 rw[<-h];have j:=ae (show r=decide ((eV f n).1=0) from h);clear h;go_enter func42,ntmps42;go_wp2_with fail;refine(xc a n cap f _ hn (u.aa g ly) l x (o.aa g o.1)).mono ?_;rintro e w1 ⟨rfl,s⟩;have q:=ae (g.trans (s.mono g.size));clear s;generalize (eV f n).1=c at j ⊢;generalize (eV f n).2=d;cases r with
 |true =>obtain rfl:c=0:=QG j.symm;go_wp2;go_ret;exact⟨rfl,q⟩
 |false =>
  have hc:(c == 0)=ZA:=by have:¬ c=0:=of_decide_eq_false j.symm;simpa using this
  go_wp2;go_ret;exact⟨rfl,q⟩
