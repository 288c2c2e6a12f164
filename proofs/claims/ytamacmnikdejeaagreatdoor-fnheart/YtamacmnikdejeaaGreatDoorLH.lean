import Derived.Test.YtamacmnikdejeaaGreatDoorLF
import Derived.Test.YtamacmnikdejeaaGreatDoorMX
set_option maxRecDepth 100000
set_option maxHeartbeats 8000000
open Go renaming Addr.mk->Q,Value.slice->Y,Value.string->U,Value.int->J,Value.bool->ZC,Value.agg->ZG,Obj.cells->N,IntKind.i64->I,World->E,Value->ZB,Ending.returned->ZF,World.heap->A,Proofs.Tryz.prog->Pg
open Option renaming none->Z,some->T
open Bool renaming false->ZA,true->ZD
open Array renaming size->B
namespace Go.Proofs.YtamacmnikdejeaaGreatDoor.Vp
open Tryz RowKit
variable {n b H M off cap:Nat}{w w' W:E}{f:Nat->au}{L:List (Nat × Nat)}
theorem ou (a:Option Addr)(n cap:Nat)(f:Nat->au)(w:E)(hn:(n:Int)<=1048576)(s:SlDeed w a n f)(j:(n:Int)<=cap)(b:∀i,i<n->dw (f i))(m:Tab w):Calls Pg 37 #[ZG #[Y a n cap]] w λe u=>e=ZF (ZC (bv f n))/\Below (B (A w)) w u:=by
 have x:=ae s;have t:=ae b;have o:=ae m;clear s b m;have g:=ae ((BS w).alloc ly (N #[Y a n cap] 25));obtain⟨r,h⟩:∃r,r=bv f n:=⟨_,rfl⟩
 rw[<-h];have l:=ae (show r=decide ((dh f n).1=0) from h);clear h;go_enter func37,ntmps37;go_wp2_with fail;refine(vA a n cap f _ hn (x.aa g ly) j t (o.aa g o.1)).mono ?_;rintro e w1 ⟨rfl,q⟩;have p:=ae (g.trans (q.mono g.size));clear q;generalize (dh f n).1=c at l ⊢;generalize (dh f n).2=d;cases r with
 |true =>obtain rfl:c=0:=MJ l.symm;go_wp2;go_ret;exact⟨rfl,p⟩
 |false =>
  have hc:(c == 0)=ZA:=by have:¬ c=0:=UM l.symm;simpa using this
  go_wp2;go_ret;exact⟨rfl,p⟩
theorem ES:(Pg.info? 3).map (λi=>(i.zero,i.size,i.bytes))=T (T (J I 0),1,8):=by kernel_rfl
theorem SixB.ab{i j m f g l:ZB}(h:SixB w b i j m f g l)(hz:B (A w)<=B (A w'))(e:w'.heap[b]?=w.heap[b]?):SixB w' b i j m f g l :=
 have c:∀o,w'.cell? (Q b o Z)=w.cell? (Q b o Z):=λo=>cq (a:=(Q b o Z)) e
 ⟨lj h.lt hz,(c 0).trans h.c0,(c 1).trans h.c1,(c 2).trans h.c2,(c 3).trans h.c3,(c 4).trans h.c4,(c 5).trans h.c5⟩
theorem TyAt.ab{g:Nat}{e:TypeId}(h:TyAt w g e)(hb:w'.heap[g]?=w.heap[g]?):TyAt w' g e:=by obtain⟨c,b⟩:=h;exact⟨c,hb.trans b⟩
theorem Kpt.grown{f:Nat}{j:E}{v:ZB}{q:List ZB}(p:W.ownsRow f 3 1 v n q)(i:W.grownBy j v.ownBlock):Kpt H M W j:=by
 refine⟨i.size,λk e o m _ _=>?_⟩;obtain⟨c,b⟩:=o;refine i.block k (DN.1 b).1 λh=>?_;rcases p.2 with ⟨rfl,_⟩|⟨g,cap,cur,rfl,_,l,_⟩
 {simp[Value.ownBlock] at h};{simp[Value.ownBlock] at h;subst h;rw[l] at b;simp at b;exact m b.2.symm}
theorem SLs.app{g f:E}{n1:Nat}{s:Nat->Bool}{t v:ZB}{ord ord':List Nat}{l:Int}(h:SLs g W n1 b off n cap H M s t ord l)(hz:B (A W)<=B (A f))(p:f.heap[H]?=W.heap[H]?)(r:f.heap[M]?=W.heap[M]?)(u:Below (B (A g)) g f)(j:f.ownsRow n1 3 1 v ord'.length (ord'.map λq:Nat=>Value.int I (q:Int))):SLs g (f.setCell (Q H 2 Z) v) n1 b off n cap H M s v ord' l:=by
 have c:∀o,f.cell? (Q H o Z)=W.cell? (Q H o Z):=λo=>cq (a:=(Q H o Z)) p;have z:∀o,f.frozen? (Q H o Z)=W.frozen? (Q H o Z):=λo=>KM (a:=(Q H o Z)) p;have i:∀o,o≠2->(f.setCell (Q H 2 Z) v).cell? (Q H o Z)=f.cell? (Q H o Z):=λo j=>sq _ _ _ _ (by first|(simp;done)|(simp;exact λe=>j e.symm)|(simp;omega));refine⟨(i 0 (by omega)).trans ((c 0).trans h.c0),(i 1 (by omega)).trans ((c 1).trans h.c1),⟨BO _ _ _ (by rw[c 2,h.c2.1];rfl),?_⟩,⟨(i 3 (by omega)).trans ((c 3).trans h.c3.1),?_⟩,λq m=>⟨(sq _ _ _ _ (by first|(simp;done)|(simp;exact λe=>absurd e.symm h.ne)|(simp;exact λe=>absurd e h.ne)|(simp;omega))).trans ((cq (a:=(Q M q Z)) r).trans (h.row q m).1),?_⟩,og j h.hH.2 _,u.setCell h.hH.1 _,h.hH,h.hM,h.ne,by have:=h.hz;simp;omega⟩;{rw[SZ];exact(z 2).trans h.c2.2};{rw[SZ];exact(z 3).trans h.c3.2};{rw[SZ];exact(KM (a:=(Q M q Z)) r).trans (h.row q m).2}
theorem zB (t:E)(n1 b off n cap H M:Nat)(f:Nat->au)(hA:fC f n)(hn:(n:Int)<=400)(hf:RowDeed t b off n f)(hlk:∀p,p<n->(f p).f<=200):∀(k p d:Nat) (s:Nat->Bool) (R:ZB) (ord:List Nat) (m:Int) (W:E),p<k->p<n->d+p<=1000->SLs t W n1 b off n cap H M s R ord m->s p=ZA->ord.length+(lst f k p d s).2.length<=1000 ->
   Calls Pg 172 #[.pointer (T (Q H 0 Z)),J I (p:Int),J I (d:Int)] W λe W'=>e=ZF (.tuple #[])/\∃r,SLs t W' n1 b off n cap H M (lst f k p d s).1 r (ord++(lst f k p d s).2.map (λz:Nat × Nat=>z.1)) (cP f m (lst f k p d s).2)/\Kpt H M W W':=by
 intro k;induction k with
 |zero=>intro p d s R ord m W h;omega
 |succ k ih =>
  intro p d s R ord m W hpk V hdp hS hs hN;have HS:=ae hS;have HN:=ae hN;have Hq:=ae ih;have HA:=ae hA;have HF:=ae hf;have HLK:=ae hlk;obtain⟨Hf,Hp,Hw,Ht,Hy⟩:=KZ ES;obtain⟨qr,mv,ur,ld,⟨a0,ZS,sm,q4⟩,⟨a1,u,ro,q5⟩⟩:=hf.2 p V;have ZK:=ae (hS.mark V);have hb:=hf.1;obtain⟨x,hx⟩:∃x,x=f p:=⟨_,rfl⟩
  rw[<-hx] at qr mv ur ld sm ro q5;have hm2:x.f<=200:=by rw[hx];exact hlk p V
  have HL:=ae q5;have HX:=ae hx;have p0:=(ZK.low.cell (p:=(Q b (off+p*6) Z)) hb).trans qr;have p1:=(ZK.low.cell (p:=(Q b (off+p*6+1) Z)) hb).trans mv;have p2:=(ZK.low.cell (p:=(Q b (off+p*6+2) Z)) hb).trans ur;have p3:=(ZK.low.cell (p:=(Q b (off+p*6+3) Z)) hb).trans ld;have p4:=(ZK.low.cell (p:=(Q b (off+p*6+4) Z)) hb).trans sm;have p5:=(ZK.low.cell (p:=(Q b (off+p*6+5) Z)) hb).trans ro;obtain⟨K,hK⟩:∃K,K=lks (lst f k) (f p) d s:=⟨_,rfl⟩
  have ph:Hid (lst f (k+1) p d s=(put (K x.f).1 p,(K x.f).2++[(p,d)])):=by rw[hK,hx];rfl
  have Hh:Hid (K 0=(s,[])):=by rw[hK];rfl
  have Hk:Hid (∀j,K (j+1)=if (x.m j).ask=ZD/\(K j).1 (x.m j).G.toNat=ZA then ((lst f k (x.m j).G.toNat (d+1) (K j).1).1,(K j).2++(lst f k (x.m j).G.toNat (d+1) (K j).1).2) else K j):=λj=>by rw[hK,hx];rfl
  have Hn:Hid (∀i,i<=x.f->(K i).2 <+: (K x.f).2):=λi hi=>by rw[hK];exact pz hi
  have X:Hid (cS f m (p,d)=if x.L=3/\60<=d/\(m<0∨(p:Int)<m) then (p:Int) else m):=by rw[hx];rfl
  have Hl:H<B (A W):=by have:=hS.hH;have:=hS.hz;omega
  have Hb:=hS.c1;obtain⟨Hx,Hz⟩:=hS.row p V;have Hd:=ZK.c0;have hp0:(0:Int)<=p:=by omega
  have hpn':(p:Int)<n:=by omega
  have ZO:=ae (ZK.aa (br.alloc ly (N #[U x.e,J I x.L,J I x.M,U x.H,Y a0 x.h ZS,Y a1 x.f u] 46)));have L:=ae (kI (W.setCell (Q M p Z) (ZC ZD)) (U x.e) (J I x.L) (J I x.M) (U x.H) (Y a0 x.h ZS) (Y a1 x.f u) 46);have S:Hid (TyAt ((W.setCell (Q M p Z) (ZC ZD)).alloc (N #[U x.e,J I x.L,J I x.M,U x.H,Y a0 x.h ZS,Y a1 x.f u] 46)) (W.setCell (Q M p Z) (ZC ZD)).heap.size 46):=⟨_,gM _ _⟩
  have C:=ae ((Kpt.setCell (H:=H) (M:=M) (j:=p) W M (.inr rfl) (ZC ZD)).trans (Kpt.q (br.alloc ly (N #[U x.e,J I x.L,J I x.M,U x.H,Y a0 x.h ZS,Y a1 x.f u] 46))));have Bk:(W.setCell (Q M p Z) (ZC ZD)).heap.size=B (A W):=by simp
  rw[Bk] at L S;clear hS hN ih hA hf hlk q4 q5 hx hK qr mv ur ld sm ro hs Bk ZK;go_enter func172,ntmps172;go_upto_region 2 with fail;generalize World.alloc (World.setCell W _ _) _=W2 at ZO L S C ⊢;clear p0 p1 p2 p3 p4 p5 Hb Hx Hz Hd;obtain⟨td,ZJ⟩:∃td,td=decide (x.L=3/\60<=d):=⟨_,rfl⟩
  have HD:=ae ZJ;clear ZJ;have c1:=L.c1;go_cut [28] (λHe wx=>He=ZC td/\wx=W2);case first =>
   cases ZN:(x.L == 3) with
   |false =>
    obtain rfl:td=ZA:=by rw[HD.out];simp at ZN;simp[ZN]
    go_wp2;go_meet;exact⟨rfl,rfl⟩
   |true =>
    by_cases h6:(60:Int)<=(d:Int)
    ·obtain rfl:td=ZD:=by rw[HD.out];simp at ZN;simp[ZN];omega
     go_wp2;go_meet;exact⟨by first|rfl|(simp;done)|(simp;omega),rfl⟩
    ·obtain rfl:td=ZA:=by rw[HD.out];simp;omega
     go_wp2;go_meet;exact⟨by first|rfl|(simp;done)|(simp;omega),rfl⟩
  case rest =>
  obtain⟨rfl,rfl⟩:=hcut;clear c1;have hHD:H<B (A W):=Hl;go_upto_if 28 with fail;go_cut [] (λwx=>Hid (SLs t wx n1 b off n cap H M (put s p) R ord (cS f m (p,d)))/\Hid (SixB wx (B (A W)) (U x.e) (J I x.L) (J I x.M) (U x.H) (Y a0 x.h ZS) (Y a1 x.f u))/\Hid (TyAt wx (B (A W)) 46)/\Hid (Kpt H M W wx));case first =>
   cases td with
   |false =>
    have ZP:cS f m (p,d)=m:=by rw[X.out,eT (λh=>by have:=HD.out;simp at this;have:=this h.1;omega)]
    have l:Hid (SLs t wc n1 b off n cap H M (put s p) R ord (cS f m (p,d))):=by show SLs _ _ _ _ _ _ _ _ _ _ _ _ _;rw[ZP];exact ZO
    clear ZP;go_wp2;go_meet;exact⟨l,L,S,C⟩
   |true =>
    have ZJ:x.L=3/\60<=d:=by have:=HD.out;simpa using this
    obtain⟨e3,z3⟩:=ZO.c3;have ZL:=ae ZJ;clear ZJ;have e4:(wc.setCell (Q H 3 Z) (J I (p:Int))).heap[B (A W)]?=wc.heap[B (A W)]?:=qh _ _ _ _ (by show (B (A W))≠H;omega);have SP:=ae (ZO.deep (p:Int));have DP:=ae (L.ab (w':=wc.setCell (Q H 3 Z) (J I (p:Int))) (by simp) e4);have YP:=ae (S.ab e4);have At:=ae (C.trans (Kpt.setCell (H:=H) (M:=M) (j:=3) wc H (.inl rfl) (J I (p:Int))));clear e4;by_cases g1:m<0
    ·have ZP:cS f m (p,d)=(p:Int):=by rw[X.out,j6 ⟨ZL.1,ZL.2,.inl g1⟩]
     have l:Hid (SLs t (wc.setCell (Q H 3 Z) (J I (p:Int))) n1 b off n cap H M (put s p) R ord (cS f m (p,d))):=by show SLs _ _ _ _ _ _ _ _ _ _ _ _ _;rw[ZP];exact SP
     clear ZP;go_wp2;go_meet;exact⟨l,DP,YP,At⟩
    ·by_cases g2:(p:Int)<m
     ·have ZP:cS f m (p,d)=(p:Int):=by rw[X.out,j6 ⟨ZL.1,ZL.2,.inr g2⟩]
      have l:Hid (SLs t (wc.setCell (Q H 3 Z) (J I (p:Int))) n1 b off n cap H M (put s p) R ord (cS f m (p,d))):=by show SLs _ _ _ _ _ _ _ _ _ _ _ _ _;rw[ZP];exact SP
      clear ZP;go_wp2;go_meet;exact⟨l,DP,YP,At⟩
     ·have ZP:cS f m (p,d)=m:=by rw[X.out,eT (λh=>by have:=h.2.2;omega)]
      have l:Hid (SLs t wc n1 b off n cap H M (put s p) R ord (cS f m (p,d))):=by show SLs _ _ _ _ _ _ _ _ _ _ _ _ _;rw[ZP];exact ZO
      clear ZP;go_wp2;go_meet;exact⟨l,L,S,C⟩
  case rest =>
  clear ZO L S C;obtain⟨ZO,L,S,C⟩:=hcut;obtain⟨ZR,aq⟩:∃ZR,ZR=cS f m (p,d):=⟨_,rfl⟩
  rw[<-aq] at ZO;have GS:=ae aq;clear aq X;have Hu:Hid (ZR=cS f m (p,d)):=GS.out;go_wp2;go_loopw [7] (λi wr=>∃(j:Nat) (r:ZB),j<=x.f/\i=J I j/\Hid (SLs t wr n1 b off n cap H M (put (K j).1 p) r (ord++(K j).2.map (λz:Nat × Nat=>z.1)) (cP f ZR (K j).2))/\Hid (SixB wr (B (A W)) (U x.e) (J I x.L) (J I x.M) (U x.H) (Y a0 x.h ZS) (Y a1 x.f u))/\Hid (TyAt wr (B (A W)) 46)/\Hid (Kpt H M W wr)) (λi _=>x.f - (intOf i).toNat);case atStart=>exact⟨0,R,by omega,rfl,by rw[Hh.out];simp only[R8,TZ,cP];exact ZO,L,S,C⟩
  case round =>
   clear ZO L S C;obtain⟨j,r,hj,rfl,l,D3,Y3,ex⟩:=hrel;have e5:=D3.c5;have ZM:B (A W)<B (A wr):=D3.lt;by_cases DQ:j<x.f
   ·obtain⟨lb,lo,rfl,n7⟩:=(HL.aa l.low ly).resolve_left (by omega);obtain⟨l0,l1,l2,l3⟩:=n7.2 j DQ;have la:=Hk.out j;have th:(x.m j).ask=ZD->(x.m j).G.toNat<p/\0<=(x.m j).G:=λh=>by have:=HA.out p V j (by rw[<-HX.out];exact DQ);rw[<-HX.out] at this;exact this h
    generalize x.m j=y at l0 l1 l2 l3 la th;have n9:=ae la;have Fd:=ae th;clear la th l0 l2 n7;cases hask:y.ask with
    |false =>
     rw[hask] at l1;have o:K (j+1)=K j:=by rw[n9.out,eT (by rw[hask];simp)]
     have ZI:=ae o;clear o;go_wp2_with fail;go_quiet (fail);have ZQ:=ae (AI (BS wr) nq);have S4:=ae (l.aa ZQ);have D4:=ae (D3.ab ZQ.size (ZQ.block _ ZM));have Y4:=ae (Y3.ab (ZQ.block _ ZM));have P:=ae (ex.trans (Kpt.q ZQ));go_wp2;exact⟨⟨j+1,r,by omega,by go_num,by rw[ZI.out];exact S4,D4,Y4,P⟩,by simp[intOf];omega⟩
    |true =>
     rw[hask] at l1;obtain⟨q,hq⟩:∃q:Nat,y.G=(q:Int):=⟨y.G.toNat,by have:=(Fd hask).2;omega⟩
     have Ha:q<p:=by have:=(Fd hask).1;rw[hq] at this;simpa using this
     rw[hq] at l3;have f1:=l.c1;obtain⟨f2,_⟩:=l.row q (by omega);have n8:put (K j).1 p q=(K j).1 q:=by simp[put];omega
     rw[n8] at f2;have hq0:(0:Int)<=q:=by omega
     have hqn:(q:Int)<n:=by omega
     have H6:=ae n8;clear n8;cases hl:(K j).1 q with
     |true =>
      rw[hl] at f2;have o:K (j+1)=K j:=by rw[n9.out,eT (by rw[hq];simp[hl])]
      have ZI:=ae o;clear o;go_wp2_with fail;go_quiet (fail);have ZQ:=ae (AI (BS wr) nq);have S4:=ae (l.aa ZQ);have D4:=ae (D3.ab ZQ.size (ZQ.block _ ZM));have Y4:=ae (Y3.ab (ZQ.block _ ZM));have P:=ae (ex.trans (Kpt.q ZQ));go_wp2;exact⟨⟨j+1,r,by omega,by go_num,by rw[ZI.out];exact S4,D4,Y4,P⟩,by simp[intOf];omega⟩
     |false =>
      rw[hl] at f2;have o:K (j+1)=((lst f k q (d+1) (K j).1).1,(K j).2++(lst f k q (d+1) (K j).1).2):=by rw[n9.out,j6 ⟨hask,by rw[hq];simpa using hl⟩,hq];simp
      have ZI:=ae o;have n6:=Hn.out (j+1) (by omega);rw[o] at n6;have Hv:=ae n6;have H7:=ae hl;clear o n6;have fd:((d+1:Nat):Int)=(d:Int)+1:=by omega
      have HC:Hid (∀W5,SLs t W5 n1 b off n cap H M (put (K j).1 p) r (ord++(K j).2.map (λz:Nat × Nat=>z.1)) (cP f ZR (K j).2)->Calls Pg 172 #[.pointer (T (Q H 0 Z)),J I (q:Int),J I ((d:Int)+1)] W5 λe W'=>e=ZF (.tuple #[])/\∃G,SLs t W' n1 b off n cap H M (put (K (j+1)).1 p) G (ord++(K (j+1)).2.map (λz:Nat × Nat=>z.1)) (cP f ZR (K (j+1)).2)/\Kpt H M W5 W'):=by
       intro W5 h5;have DS:=ww HA.out k q (d+1) (K j).1 p (by omega) Ha;have G8:(ord++(K j).2.map (λz:Nat × Nat=>z.1)).length+(lst f k q (d+1) (put (K j).1 p)).2.length<=1000:=by rw[DS];have ZN:=HN.out;rw[ph.out] at ZN;have h4:=Hv.length_le;simp only[eL,xT,KF,MP] at ZN h4 ⊢;omega
       have h:=Hq.out q (d+1) (put (K j).1 p) r (ord++(K j).2.map (λz:Nat × Nat=>z.1)) (cP f ZR (K j).2) W5 (by omega) (by omega) (by omega) h5 (H6.trans H7) G8;rw[fd,DS] at h;refine h.mono λe W' h=>?_;obtain⟨he,G,hs,hk⟩:=h;refine⟨he,G,?_,hk⟩;rw[ZI.out];simp only[KI,lX,<-KU];exact hs
      clear fd;go_wp2_with fail;go_quiet (fail);have ZQ:=ae (AI (BS wr) nq);have S4:=ae (l.aa ZQ);have D4:=ae (D3.ab ZQ.size (ZQ.block _ ZM));have Y4:=ae (Y3.ab (ZQ.block _ ZM));have P:=ae (ex.trans (Kpt.q ZQ));have g5:=D4.c5;have DE:=(ZQ.cell (p:=(Q lb (lo+j*4+3) Z)) (by have:=(HL.aa l.low ly);rcases this with h|⟨b',o',hv,hr⟩;(omega);(cases hv;exact hr.1))).trans l3;clear e5 f1 f2 l1 l3;generalize wr.drewN nq=W5 at S4 D4 Y4 P g5 DE ⊢;go_wp2_with fail;refine(HC W5 S4).mono ?_;rintro e W6 ⟨rfl,G,hs,hk⟩;have S5:=ae hs;have eD:=hk.keep (B (A W)) _ Y4.out (by decide) (by omega) (by have:=HS.hM;have:=HS.hz;omega);have D5:=ae (D4.ab hk.size eD);have Y5:=ae (Y4.ab eD);have H9:=ae (P.trans hk);clear hs hk eD g5 DE;go_wp2;exact⟨⟨j+1,G,by omega,by go_num,S5,D5,Y5,H9⟩,by simp[intOf];omega⟩
   ·have e:j=x.f:=by omega
    subst e;obtain⟨f2,z2⟩:=l.c2;obtain⟨oa,oc,rfl⟩:∃a c,r=Y a (ord++(K x.f).2.map (λz:Nat × Nat=>z.1)).length c:=by
     rcases l.ord.2 with ⟨h1,h2⟩|⟨g,c,Hj,h1,_⟩
     {exact⟨Z,0,by rw[h1,h2]⟩};{exact⟨_,_,h1⟩}
    have Hg:(ord++(K x.f).2.map (λz:Nat × Nat=>z.1)).length<=1000:=by have ZN:=HN.out;rw[ph.out] at ZN;simp only[eL,xT,KF,MP] at ZN ⊢;omega
    generalize hO:ord++(K x.f).2.map (λz:Nat × Nat=>z.1)=O at l f2 Hg ⊢;have HO:=ae hO;clear hO;have Hc:H<B (A wr):=by have:=l.hH;have:=l.hz;omega
    have Ho:M<B (A wr):=by have:=l.hM;have:=l.hz;omega
    go_wp2_with (at_builtin;refine E4 _ rfl (.tmp 88) (.tmp 90) 201 rfl n1 3 Hf (J I 0) 1 8 underlying201 Hp Hw Ht Hy rfl (by decide) _ O.length (O.map λq:Nat=>Value.int I (q:Int)) (by simp[Act.eval]) (l.ord.alloc _) (Q (B (A wr)) 0 Z) 1 1 [J I (p:Int)] (by simp[Act.eval]) rfl (cell_one_new _ _ _) (by simp[Value.oneCell']) (by unfold maxLen;omega) (by omega) (by have:=l.hz;simp;omega) ?_;intro vy wy bt D Fm;have OW:Hid (wy.ownsRow n1 3 1 vy (O++[p]).length ((O++[p]).map λq:Nat=>Value.int I (q:Int))):=(by show World.ownsRow _ _ _ _ _ _ _;rw[eL,KI];exact bt);have GR:=ae D;have eH:wy.heap[H]?=wr.heap[H]?:=(D.block H (by simp;omega) (λe=>by have:=(l.ord.lt H e.symm).1;have:=l.hH.2;omega)).trans (((BS wr).alloc ly _).block _ Hc);have eM:wy.heap[M]?=wr.heap[M]?:=(D.block M (by simp;omega) (λe=>by have:=(l.ord.lt M e.symm).1;have:=l.hM.2;omega)).trans (((BS wr).alloc ly _).block _ Ho);have g2:=(cq (a:=(Q H 2 Z)) eH).trans f2;have y2:=(KM (a:=(Q H 2 Z)) eH).trans z2;obtain⟨gs,cs,rfl⟩:∃g c,vy=Y (T (Q g 0 Z)) (O.length+1) c:=(by rcases bt.2 with ⟨_,h2⟩|⟨g,c,Hj,h1,_⟩;(omega);exact⟨g,c,h1⟩);have EH:=ae eH;have EM:=ae eM;clear bt D Fm eH eM);have AL:=(BS wr).alloc ly (N #[J I (p:Int)] 3);have Hm:B (A wr)<=B (A wy):=nL AL.size GR.size;have Fk:Below (B (A t)) t wy:=bg (l.low.alloc l.low.size (N #[J I (p:Int)] 3)) GR (by have:=l.low.size;simp;omega) (λj e=>by have:=(l.ord.lt j e).1;have:=l.hH;omega);have F1:=l.app (v:=Y (T (Q gs 0 Z)) (O.length+1) cs) (ord':=O++[p]) Hm EH EM Fk OW;have F2:=((ex.trans (Kpt.q AL)).trans (Kpt.grown (l.ord.alloc (N #[J I (p:Int)] 3)) GR)).trans (Kpt.setCell (H:=H) (M:=M) (j:=2) wy H (.inl rfl) (Y (T (Q gs 0 Z)) (O.length+1) cs));have Hi:cP f m ((K x.f).2++[(p,d)])=cP f ZR (K x.f).2:=by rw[lX,Hu.out,vq];rfl
    have Hr:ord++((K x.f).2++[(p,d)]).map (λz:Nat × Nat=>z.1)=O++[p]:=by rw[KI,<-KU,HO.out];rfl
    go_end0;rw[ph.out];refine⟨rfl,Y (T (Q gs 0 Z)) (O.length+1) cs,?_,F2⟩;show SLs t _ n1 b off n cap H M (put (K x.f).1 p) _ (ord++((K x.f).2++[(p,d)]).map (λz:Nat × Nat=>z.1)) (cP f m ((K x.f).2++[(p,d)]));rw[Hi,Hr];exact F1
theorem zC:∀{i:Nat},(∀j (h:j<L.length),(L[j]).1=i+j)->bB i L=-1:=by
 induction L with
 |nil=>intro i _;rfl
 |cons x xs f =>intro i h;have b:=h 0 (by simp);simp at b;rw[bB,j6 b];refine f λj g=>?_;have:=h (j+1) (by simpa using g);simp at this;omega
theorem Bz:∀{i j:Nat} (f:j<L.length),(∀m (h:m<j),(L[m]).1=i+m)->(L[j]).1≠i+j->bB i L=((i+j:Nat):Int):=by
 induction L with
 |nil=>intro i j f;simp at f
 |cons x xs l =>
  intro i j f h b;cases j with
  |zero =>simp at b;rw[bB,eT b];simp
  |succ j =>
   have g:=h 0 (by omega);simp at g;rw[bB,j6 g,l (i:=i+1) (j:=j) (by simpa using f) (λm hm=>?_) (by simpa[Nat.add_assoc,Nat.add_comm 1 j] using b)];{congr 1;omega};{have:=h (m+1) (by omega);simp at this;omega}
theorem nK {f:Nat->au}{d:Int}:∀{L:List (Nat × Nat)},0<=d->(∀x∈L,d<=(x.1:Int))->cP f d L=d
 |[],_,_=>rfl
 |x::xs,h,hx=>by
  have h1:cS f d x=d:=by unfold cS;rw[eT (λh2=>by have:=hx x (by simp);omega)]
  rw[cP,h1];exact nK h λy b=>hx y (by simp[b])
theorem mu {f:Nat->au}:∀{L:List (Nat × Nat)} {i:Nat},(∀j (h:j<L.length),(L[j]).1=i+j)->cP f (-1) L=aY f L
 |[],_,_=>rfl
 |x::xs,i,h=>by
  have m:=h 0 (by simp);simp at m;have l:∀j (g:j<xs.length),(xs[j]).1=i+1+j:=λj g=>by have:=h (j+1) (by simpa using g);simp at this;omega
  rw[cP,aY];by_cases b:(f x.1).L=3/\60<=x.2
  ·have h1:cS f (-1) x=(x.1:Int):=by unfold cS;rw[j6 ⟨b.1,b.2,.inl (by omega)⟩]
   rw[j6 b,h1];refine nK (by omega) λy n=>?_;obtain⟨j,g,rfl⟩:=T7 n;have:=l j g;omega
  ·have h1:cS f (-1) x=-1:=by unfold cS;rw[eT (λh2=>b ⟨h2.1,h2.2.1⟩)]
   rw[eT b,h1];exact mu l
theorem mw (hn:1<=n):∃o,aD f n=o++[(n - 1,0)]:=by
 obtain⟨k,rfl⟩:∃k,n=k+1:=⟨n - 1,by omega⟩
 exact⟨_,rfl⟩
theorem tJ (hn:1<=n)(h:∀j (hj:j<(aD f n).length),((aD f n)[j]).1=j):(aD f n).length=n:=by
 obtain⟨o,b⟩:=mw (f:=f) hn;have hl:(aD f n).length=o.length+1:=by rw[b];simp
 have:=h o.length (by omega);simp only[b] at this;simp at this;omega
theorem Gb{p k m:Nat}(hk:k<m)(h:aR f p (k+1)=ZA):aR f p m=ZA:=by
 induction m with
 |zero=>omega
 |succ j b =>
  by_cases e:k=j;{subst e;exact h};{rw[aR,b (by omega)];rfl}
structure GL (w:E)(b:Nat)(v0 v1 v2 v3:ZB):Prop where
 c0:w.cell? (Q b 0 Z)=T v0
 c1:w.cell? (Q b 1 Z)=T v1
 c2:w.cell? (Q b 2 Z)=T v2
 c3:w.cell? (Q b 3 Z)=T v3
 z2:w.frozen? (Q b 2 Z)=ZA
 z3:w.frozen? (Q b 3 Z)=ZA
theorem BD (w:E)(b f g h:ZB)(t:TypeId):GL (w.alloc (N #[b,f,g,h] t)).drew (B (A w)) b f g h:=⟨by simp,by simp,by simp,by simp,by simp,by simp⟩
theorem EV:SLs w (((w.alloc (N #[Y (T (Q b off Z)) n cap] 25)).alloc (N (bD n) 4)).alloc (N #[Y (T (Q b off Z)) n cap,Y (T (Q (B (A w)+1) 0 Z)) n n,Y Z 0 0,J I (-1)] 214)).drew (B (A w)+1+1+1) b off n cap (B (A w)+1+1) (B (A w)+1) (λ_=>ZA) (Y Z 0 0) [] (-1):=by
 have i:(w.alloc (N #[Y (T (Q b off Z)) n cap] 25)).heap.size=B (A w)+1:=by simp
 have h:((w.alloc (N #[Y (T (Q b off Z)) n cap] 25)).alloc (N (bD n) 4)).heap.size=B (A w)+1+1:=by simp
 have ZS:=(((BS w).alloc ly (N #[Y (T (Q b off Z)) n cap] 25)).alloc (by simp) (N (bD n) 4)).alloc (by simp;omega) (N #[Y (T (Q b off Z)) n cap,Y (T (Q (B (A w)+1) 0 Z)) n n,Y Z 0 0,J I (-1)] 214);have D:Below (B (A w)+1+1) ((w.alloc (N #[Y (T (Q b off Z)) n cap] 25)).alloc (N (bD n) 4)) (((w.alloc (N #[Y (T (Q b off Z)) n cap] 25)).alloc (N (bD n) 4)).alloc (N #[Y (T (Q b off Z)) n cap,Y (T (Q (B (A w)+1) 0 Z)) n n,Y Z 0 0,J I (-1)] 214)).drew:=(br.alloc (by omega) _).drew;have hM:=λq g=>pA (w.alloc (N #[Y (T (Q b off Z)) n cap] 25)) n q g;rw[i] at hM;have f:=BD ((w.alloc (N #[Y (T (Q b off Z)) n cap] 25)).alloc (N (bD n) 4)) (Y (T (Q b off Z)) n cap) (Y (T (Q (B (A w)+1) 0 Z)) n n) (Y Z 0 0) (J I (-1)) 214;rw[h] at f;refine⟨f.c0,f.c1,⟨f.c2,f.z2⟩,⟨f.c3,f.z3⟩,λq g=>⟨(D.cell (p:=(Q (B (A w)+1) q Z)) (j4 _)).trans (hM q g).1,(D.frozen (p:=(Q (B (A w)+1) q Z)) (j4 _)).trans (hM q g).2⟩,CL _ _ _ _,ZS.drew,by omega,by omega,by omega,?_⟩;simp
theorem vB (b off n cap:Nat)(f:Nat->au)(w:E)(l:fC f n)(hn1:1<=n)(hn:(n:Int)<=400)(r:RowDeed w b off n f)(hlk:∀p,p<n->(f p).f<=200):Calls Pg 139 #[ZG #[Y (T (Q b off Z)) n cap],J I ((n:Int) - 1)] w λe i=>∃H j,e=ZF (.pointer (T (Q H 0 Z)))/\H<B (A i)/\i.cell? (Q H 2 Z)=T j/\i.ownsRow (B (A w)) 3 1 j (aD f n).length ((aD f n).map λz:Nat × Nat=>Value.int I (z.1:Int))/\i.cell? (Q H 3 Z)=T (J I (cP f (-1) (aD f n)))/\Below (B (A w)) w i:=by
 have x:(w.alloc (N #[Y (T (Q b off Z)) n cap] 25)).cell? (Q (B (A w)) 0 Z)=T (Y (T (Q b off Z)) n cap):=by simp
 have q:=jR l hn1;have m:=zB w (B (A w)+1+1+1) b off n cap (B (A w)+1+1) (B (A w)+1) f l hn r hlk n (n - 1) 0 (λ_=>ZA) (Y Z 0 0) [] (-1) _ (by omega) (by omega) (by omega) EV rfl (by have:=q;unfold aD at this;simp;omega);rw[show((n - 1:Nat):Int)=(n:Int) - 1 by omega] at m;have u:=ae m;have o:=λw=>zy n (by omega) w;clear m l r hlk;have HW:Hid (B (A w)+1+1+1=(((w.alloc (N #[Y (T (Q b off Z)) n cap] 25)).alloc (N (bD n) 4)).alloc (N #[Y (T (Q b off Z)) n cap,Y (T (Q (B (A w)+1) 0 Z)) n n,Y Z 0 0,J I (-1)] 214)).drew.heap.size):=by show _=_;simp
 go_enter func139,ntmps139;go_wp2_with fail;go_region_with fail;all_goals
  clear o x;go_wp2_with fail;refine u.mono ?_;rintro e w2 ⟨rfl,j,s,t⟩;have g:=ae s;clear s t;go_wp2;go_ret;refine⟨B (A w)+1+1,j,rfl,?_,g.c2.1,?_,g.c3.1,g.low⟩
  ·have:=g.hz
   omega
  ·have h:=aF g.ord (base':=B (A w)) (by omega)
   simp only[LA,List.map_map,MP] at h;exact h
theorem zE (b o j:Nat):((Q b o Z):Addr).add j=(Q b (o+j) Z):=by unfold Addr.add;split<;>simp_all
theorem vC (a:Option Addr)(n cap:Nat)(f:Nat->au)(w:E)(hn:(n:Int)<=1048576)(hv:SlDeed w a n f)(aq:∀i,i<n->dw (f i))(mv:∀i,i<n->ie (f i)):Calls Pg 88 #[ZG #[Y a n cap]] w λe w'=>e=ZF (.tuple #[J I (dh f n).1,J I (dh f n).2])/\Below (B (A w)) w w':=by
 have HV:=ae hv;have HM:=ae aq;have HZ:=ae mv;clear hv aq mv;have A0:=ae ((BS w).alloc ly (N #[Y a n cap] 25));have k0:(w.alloc (N #[Y a n cap] 25)).cell? (Q (B (A w)) 0 Z)=T (Y a n cap):=by simp
 obtain⟨c1,c2,ZO⟩:∃c1 c2,dh f n=(c1,c2):=⟨_,_,rfl⟩
 rw[ZO];have V:=ae ZO;clear ZO;by_cases h0:(n:Int)<1
 ·have l:c1=1/\c2=0:=by have:=V.out;unfold dh at this;rw[j6 (.inl (by omega))] at this;simp only[KH] at this;omega
  clear V;obtain⟨l,x⟩:=l;subst l x;go_enter func88,ntmps88;go_wp2;go_ret2;exact⟨rfl,A0⟩
 by_cases h4:(400:Int)<(n:Int)
 ·have l:c1=1/\c2=0:=by have:=V.out;unfold dh at this;rw[j6 (.inr (by omega))] at this;simp only[KH] at this;omega
  clear V;obtain⟨l,x⟩:=l;subst l x;go_enter func88,ntmps88;go_wp2;go_ret2;exact⟨rfl,A0⟩
 have P:Hid ((if aI (bi f) n≠-1 then ((2:Int),aI (bi f) n) else if aI (λp=>aR f p p) n≠-1 then (3,aI (λp=>aR f p p) n) else if bB 0 (aD f n)≠-1 then (4,bB 0 (aD f n)) else if aY f (aD f n)≠-1 then (5,aY f (aD f n)) else (0,0))=(c1,c2)):=by have:=V.out;unfold dh at this;rw[eT (by omega)] at this;exact this
 clear V;obtain⟨b,off,rfl,bt⟩:=HV.resolve_left (by omega);have HR:=ae bt;clear HV bt;have th:(n:Int)<=400:=by omega
 have ZN:B (A w)<(w.alloc (N #[Y (T (Q b off Z)) n cap] 25)).heap.size:=by simp
 go_enter func88,ntmps88;go_wp2;generalize World.alloc w _=W at A0 k0 ZN ⊢;go_loopw [5] (λi wr=>∃k:Nat,k<=n/\i=J I k/\Hid (∀j,j<k->bi f j=ZD)/\Hid (Below (B (A W)) W wr)) (λi _=>n - (intOf i).toNat);case atStart=>exact⟨0,by omega,rfl,λj t=>absurd t (KO _),cM _ _⟩
 case round =>
  obtain⟨k,hk,rfl,q,ZP⟩:=hrel;have k1:=(ZP.cell (p:=(Q (B (A w)) 0 Z)) ZN).trans k0;have C:=ae (A0.trans (ZP.mono A0.size));by_cases r:k<n
  ·go_wp2_with fail;refine(sY b off n cap k f _ r (HR.aa C ly) (HM k r).1 (HZ k r).2.2.1.2).mono ?_;rintro e w2 ⟨he,ZI⟩;have ZS:=ae (C.trans (ZI.mono C.size));have H1:=ae (ZP.trans (ZI.mono ZP.size));clear ZI;cases K:bi f k with
   |true =>
    rw[K] at he;subst he;have HD:=ae K;clear K;go_wp2
    exact⟨⟨k+1,by omega,by go_num,λj t=>by
     by_cases e:j=k;{subst e;exact HD}
     ·exact q j (by omega),H1⟩,by simp[intOf];omega⟩
   |false =>
    rw[K] at he;subst he;have u:=fB r K q.out;have l:c1=2/\c2=(k:Int):=by have:=P.out;rw[j6 (by rw[u];omega),u] at this;simp only[KH] at this;omega
    obtain⟨l,x⟩:=l;clear P u K;subst l x;go_wp2;go_ret2;exact⟨rfl,ZS⟩
  ·have e:n=k:=by omega
   subst e;have fd:=dX q.out;have ZM:Hid ((if aI (λp=>aR f p p) n≠-1 then ((3:Int),aI (λp=>aR f p p) n) else if bB 0 (aD f n)≠-1 then (4,bB 0 (aD f n)) else if aY f (aD f n)≠-1 then (5,aY f (aD f n)) else (0,0))=(c1,c2)):=by have:=P.out;rw[eT (by rw[fd];simp)] at this;exact this
   have ZJ:=ae fd;clear P fd q;go_wp2;clear r hk k1;generalize wr=W2 at ZP C ⊢;have k1:=(ZP.cell (p:=(Q (B (A w)) 0 Z)) ZN).trans k0;have n6:B (A w)<B (A W2):=lj ZN ZP.size;go_loopw [6] (λi wr=>∃k:Nat,k<=n/\i=J I k/\Hid (∀j,j<k->aR f j j=ZD)/\Hid (Below (B (A W2)) W2 wr)) (λi _=>n - (intOf i).toNat);case atStart=>exact⟨0,by omega,rfl,λj t=>absurd t (KO _),cM _ _⟩
   case round =>
    obtain⟨k,hk,rfl,q,S⟩:=hrel;by_cases r:k<n
    ·go_wp2;generalize wr=W3 at S ⊢;go_loopw [7] (λi wr=>∃m:Nat,m<=k/\i=J I m/\Hid (aR f k m=ZD)/\Hid (Below (B (A W2)) W2 wr)) (λi _=>k - (intOf i).toNat);case atStart=>exact⟨0,by omega,rfl,rfl,S⟩
     case round =>
      obtain⟨m,hm,rfl,HN,O⟩:=hrel;have k2:=(O.cell (p:=(Q (B (A w)) 0 Z)) n6).trans k1;have ZS:=ae (C.trans (O.mono C.size));by_cases sm:m<k
      ·have d0:=((HR.aa ZS ly).2 m (by omega)).1;have d1:=((HR.aa ZS ly).2 k r).1;have hm0:(0:Int)<=m:=by omega
       have hmn:(m:Int)<n:=by omega
       have Bk:(0:Int)<=k:=by omega
       have hkn:(k:Int)<n:=by omega
       cases hq:((f m).e.toList == (f k).e.toList) with
       |true =>
        have n8:aR f k k=ZA:=Gb sm (by rw[aR,hq];simp);have u:=fB (g:=λp=>aR f p p) r n8 q;have l:c1=3/\c2=(k:Int):=by have:=ZM.out;rw[j6 (by rw[u];omega),u] at this;simp only[KH] at this;omega
        obtain⟨l,x⟩:=l;clear ZM u n8;subst l x;go_wp2_with fail;go_quiet (fail);have G2:=ae (AI ZS nq);go_wp2;go_ret2;exact⟨rfl,G2⟩
       |false =>
        have ur:Hid (aR f k (m+1)=ZD):=by show aR f k (m+1)=ZD;rw[aR,HN.out,hq];rfl
        go_wp2_with fail;go_quiet (fail);have H5:=ae (AI O nq);go_wp2;exact⟨⟨m+1,by omega,by go_num,ur,H5⟩,by simp[intOf];omega⟩
      ·have e:m=k:=by omega
       subst e;go_wp2
       exact⟨⟨m+1,by omega,by go_num,λj t=>by
        by_cases e:j=m;{subst e;exact HN}
        ·exact q j (by omega),O⟩,by simp[intOf];omega⟩
    ·have e:n=k:=by omega
     subst e;have la:=dX (g:=λp=>aR f p p) q;have ZR:Hid ((if bB 0 (aD f n)≠-1 then ((4:Int),bB 0 (aD f n)) else if aY f (aD f n)≠-1 then (5,aY f (aD f n)) else (0,0))=(c1,c2)):=by have:=ZM.out;rw[eT (by rw[la];simp)] at this;exact this
     clear ZM la q;have k2:=(S.cell (p:=(Q (B (A w)) 0 Z)) n6).trans k1;have ZS:=ae (C.trans (S.mono C.size));have ld:=ae (jR (gP ZJ) (n:=n) (by omega));have hn1:1<=n:=by omega
     go_wp2_with fail;refine(vB b off n cap f _ (gP ZJ) hn1 th (HR.aa ZS ly) (oq ZJ)).mono ?_;rintro e w5 ⟨H,ov,rfl,n9,ro,hO,n7,ZI⟩;have G5:=ae (ZS.trans (ZI.mono ZS.size));obtain⟨o,ho⟩:=mw (f:=f) hn1;have qr:0<(aD f n).length:=by rw[ho];simp
     have ZK:=ae (λh=>tJ (f:=f) hn1 h);clear ho o;obtain⟨L,hL⟩:∃L,L=aD f n:=⟨_,rfl⟩
     rw[<-hL] at hO n7 qr ZR ld ZK;clear hL;obtain⟨g,oc,rfl⟩:∃g c,ov=Y (T (Q g 0 Z)) L.length c:=by
      rcases hO.2 with ⟨_,h2⟩|⟨g,c,cur,h1,_⟩
      {omega};{exact⟨g,c,h1⟩}
     have At:Hid (∀j (h:j<L.length),w5.cell? (Q g j Z)=T (J I ((L[j]).1:Int))/\g<B (A w5)):=by intro j t;have h1:=hO.cells (g:=g) rfl j (J I ((L[j]).1:Int)) (by rw[KN,gq t];rfl);rw[zE,IT] at h1;exact⟨h1,(hO.lt g rfl).2⟩
     have hll:=ld.out;clear hO ZI k2;go_wp2;go_loopw [9] (λi wr=>∃k:Nat,k<=n/\i=J I k/\Hid (∀j,j<k->∃h:j<L.length,(L[j]).1=j)/\Hid (Below (B (A w5)) w5 wr)) (λi _=>n - (intOf i).toNat);case atStart=>exact⟨0,by omega,rfl,λj t=>absurd t (KO _),cM _ _⟩
     case round =>
      obtain⟨k,hk,rfl,q,G⟩:=hrel;have x:=(G.cell (p:=(Q H 2 Z)) n9).trans ro;have e3:=(G.cell (p:=(Q H 3 Z)) n9).trans n7;have G6:=ae (G5.trans (G.mono G5.size));by_cases r:k<n
      ·by_cases ex:k<L.length
       ·obtain⟨q1,q2⟩:=At.out k ex;have d0:=(G.cell (p:=(Q g k Z)) q2).trans q1;have hkl':(k:Int)<(L.length:Int):=by omega
        have hno:decide ((L.length:Int)<=(k:Int))=ZA:=by simp;omega
        have hno':decide (L.length<=k)=ZA:=by simp;omega
        have Bk:(0:Int)<=k:=by omega
        obtain⟨z,hz⟩:∃z,z=(L[k]).1:=⟨_,rfl⟩
        rw[<-hz] at d0;have R:=ae hz;clear q1 q2 hz;by_cases y:(z:Int)=(k:Int)
        ·have HN:Hid (∀j,j<k+1->∃h:j<L.length,(L[j]).1=j):=λj t=>by
          by_cases e:j=k;{subst e;exact⟨ex,by rw[<-R.out];omega⟩};{exact q j (by omega)}
         obtain rfl:z=k:=by omega
         clear y R;go_wp2;exact⟨⟨z+1,by omega,by go_num,HN,G⟩,by simp[intOf];omega⟩
        ·have s:bB 0 L=(k:Int):=by
          have:=Bz (L:=L) (i:=0) (j:=k) ex (λm hm=>by obtain⟨h,e⟩:=q.out m hm;omega) (by rw[<-R.out];omega);simpa using this
         have l:c1=4/\c2=(k:Int):=by have:=ZR.out;rw[j6 (by rw[s];omega),s] at this;simp only[KH] at this;omega
         have hne:((z:Int) != (k:Int))=ZD:=by simpa using y
         obtain⟨l,D⟩:=l;clear ZR s R;subst l D;go_wp2;go_ret2;exact⟨rfl,G6⟩
       ·have:=ZK.out λj t=>by obtain⟨h,e⟩:=q.out j (by omega);exact e
        omega
      ·have e:n=k:=by omega
       subst e;have M:∀j (h:j<L.length),(L[j]).1=0+j:=λj t=>by obtain⟨h,e⟩:=q.out j (by omega);omega
       have s:=zC M;rw[mu M] at e3;have ZQ:Hid ((if aY f L≠-1 then ((5:Int),aY f L) else (0,0))=(c1,c2)):=by have:=ZR.out;rw[eT (by rw[s];simp)] at this;exact this
       have ZL:=rz f L;generalize aY f L=X at e3 ZQ ZL;have ph:=ae ZL;clear ZR s M ZL x;by_cases y:X=-1
       ·have l:c1=0/\c2=0:=by
         have:=ZQ.out;rw[eT (by rw[y];simp)] at this;simp only[KH] at this;omega
        obtain⟨l,D⟩:=l;have K:decide (0<=X)=ZA:=by rw[y];rfl
        clear ZQ y;subst l D;go_wp2;go_ret2;exact⟨rfl,G6⟩
       {have l:c1=5/\c2=X:=(by have:=ZQ.out;rw[j6 y] at this;simp only[KH] at this;omega);have ZL:0<=X:=ph.resolve_left y;obtain⟨l,D⟩:=l;clear ZQ y ph;subst l D;go_wp2_with fail;go_quiet (fail);have G7:=ae (AI G6 nq);go_wp2;go_ret2;exact⟨rfl,G7⟩}
theorem BH (a:Option Addr)(n cap:Nat)(f:Nat->au)(w:E)(hn:(n:Int)<=1048576)(p:SlDeed w a n f)(b:∀i,i<n->dw (f i))(g:∀i,i<n->ie (f i)):Calls Pg 41 #[ZG #[Y a n cap]] w λe t=>e=ZF (ZC (bv f n))/\Below (B (A w)) w t:=by
 have u:=ae p;have q:=ae b;have s:=ae g;clear p b g;have j:=ae ((BS w).alloc ly (N #[Y a n cap] 25));obtain⟨r,h⟩:∃r,r=bv f n:=⟨_,rfl⟩
 rw[<-h];have l:=ae (show r=decide ((dh f n).1=0) from h);clear h;go_enter func41,ntmps41;go_wp2_with fail;refine(vC a n cap f _ hn (u.aa j ly) q s).mono ?_;rintro e w1 ⟨rfl,o⟩;have m:=ae (j.trans (o.mono j.size));clear o;generalize (dh f n).1=c at l ⊢;generalize (dh f n).2=d;cases r with
 |true =>obtain rfl:c=0:=MJ l.symm;go_wp2;go_ret;exact⟨rfl,m⟩
 |false =>
  have hc:(c == 0)=ZA:=by have:¬ c=0:=UM l.symm;simpa using this
  go_wp2;go_ret;exact⟨rfl,m⟩
