import Derived.Test.YtamacmnikdejeaaGreatDoorMW
import Derived.Deep.LoopGhost
import Derived.Test.YtamacmnikdejeaaGreatDoorME
set_option maxRecDepth 100000
set_option maxHeartbeats 8000000
open Go renaming Addr.mk->Q,Value.slice->Y,Value.string->U,Value.int->J,Value.bool->ZC,Value.agg->ZG,Obj.cells->N,IntKind.i64->I,World->E,Value->ZB,World.heap->A
open Option renaming none->Z,some->T
open Bool renaming false->ZA
open Array renaming size->B
namespace Go.Proofs.YtamacmnikdejeaaGreatDoor.Vp
open Tryz RowKit
variable {H M b n n1 off cap j:Nat}{W i f:E}{s:Nat->Bool}
def cS (f:Nat->au)(d:Int)(x:Nat × Nat):Int:=if (f x.1).L=3/\60<=x.2/\(d<0∨(x.1:Int)<d) then (x.1:Int) else d
def cP (f:Nat->au)(d:Int):List (Nat × Nat)->Int
 |[]=>d
 |x::xs=>cP f (cS f d x) xs
theorem lX (f:Nat->au)(d:Int)(b g:List (Nat × Nat)):cP f d (b++g)=cP f (cP f d b) g:=by
 induction b generalizing d with
 |nil=>rfl
 |cons x b h=>simp only[MC,cP];exact h _
theorem xN (f:Nat->au)(d:Int)(x y:Nat × Nat):cS f (cS f d x) y=cS f (cS f d y) x:=by
 unfold cS;by_cases b:(f x.1).L=3/\60<=x.2;{by_cases g:(f y.1).L=3/\60<=y.2;{simp only[b.1,b.2,g.1,g.2,PJ];(repeat' split)<;>omega};{have e:∀z:Prop,¬ ((f y.1).L=3/\60<=y.2/\z):=λz h=>g ⟨h.1,h.2.1⟩;rw[eT (e _),eT (e _)]}};{have e:∀z:Prop,¬ ((f x.1).L=3/\60<=x.2/\z):=λz h=>b ⟨h.1,h.2.1⟩;rw[eT (e _),eT (e _)]}
theorem vq (f:Nat->au)(d:Int)(x:Nat × Nat)(b:List (Nat × Nat)):cP f (cS f d x) b=cS f (cP f d b) x:=by
 induction b generalizing d with
 |nil=>rfl
 |cons y ys g =>simp only[cP];rw[xN,g]
def TyAt (w:E)(g:Nat)(e:TypeId):Prop:=∃b,w.heap[g]?=T (N b e (0,0))
structure Kpt (H M:Nat)(W W':E):Prop where
 size:B (A W)<=B (A W')
 keep:∀k e,TyAt W k e->e≠3->k≠H->k≠M->W'.heap[k]?=W.heap[k]?
theorem Kpt.trans{ZS ZR C:E}(h:Kpt H M ZS ZR)(k:Kpt H M ZR C):Kpt H M ZS C :=
 ⟨nL h.size k.size,λi e hi b h1 h2=>by
  have f:=h.keep i e hi b h1 h2;obtain⟨c,g⟩:=hi
  exact(k.keep i e ⟨c,f.trans g⟩ b h1 h2).trans f⟩
theorem Kpt.q{b:E}(h:Below (B (A W)) W b):Kpt H M W b :=
 ⟨h.size,λk e f _ _ _=>by obtain⟨c,g⟩:=f;exact h.block k (DN.1 g).1⟩
theorem Kpt.setCell (W:E)(g:Nat)(hg:g=H∨g=M)(v:ZB):Kpt H M W (W.setCell (Q g j Z) v) :=
 ⟨by simp,λk _ _ _ h1 h2=>qh _ _ _ _ (by show k≠g;omega)⟩
structure SLs (w0 W:E)(n1 b off n cap H M:Nat)(s:Nat->Bool)(ov:ZB)(ord:List Nat)(dp:Int):Prop where
 c0:W.cell? (Q H 0 Z)=T (Y (T (Q b off Z)) n cap)
 c1:W.cell? (Q H 1 Z)=T (Y (T (Q M 0 Z)) n n)
 c2:W.cell? (Q H 2 Z)=T ov/\W.frozen? (Q H 2 Z)=ZA
 c3:W.cell? (Q H 3 Z)=T (J I dp)/\W.frozen? (Q H 3 Z)=ZA
 row:∀q,q<n->W.cell? (Q M q Z)=T (ZC (s q))/\W.frozen? (Q M q Z)=ZA
 ord:W.ownsRow n1 3 1 ov ord.length (ord.map λq:Nat=>Value.int I (q:Int))
 low:Below (B (A w0)) w0 W
 hH:B (A w0)<=H/\H<n1
 hM:B (A w0)<=M/\M<n1
 ne:H≠M
 hz:n1<=B (A W)
theorem SLs.blocks{l j:ZB}{ord g:List Nat}{m:Int}(h:SLs i W n1 b off n cap H M s l ord m)(hz:B (A W)<=B (A f))(r:f.heap[H]?=W.heap[H]?)(t:f.heap[M]?=W.heap[M]?)(x:Below (B (A i)) i f)(y:j=l)(u:f.ownsRow n1 3 1 l g.length (g.map λq:Nat=>Value.int I (q:Int))):SLs i f n1 b off n cap H M s j g m:=by subst y;have c:∀o,f.cell? (Q H o Z)=W.cell? (Q H o Z):=λo=>cq (a:=(Q H o Z)) r;have z:∀o,f.frozen? (Q H o Z)=W.frozen? (Q H o Z):=λo=>KM (a:=(Q H o Z)) r;exact⟨(c 0).trans h.c0,(c 1).trans h.c1,⟨(c 2).trans h.c2.1,(z 2).trans h.c2.2⟩,⟨(c 3).trans h.c3.1,(z 3).trans h.c3.2⟩,λq p=>⟨(cq (a:=(Q M q Z)) t).trans (h.row q p).1,(KM (a:=(Q M q Z)) t).trans (h.row q p).2⟩,u,x,h.hH,h.hM,h.ne,nL h.hz hz⟩
theorem SLs.aa{j g:E}{f:ZB}{ord:List Nat}{i:Int}(h:SLs j W n1 b off n cap H M s f ord i)(hb:Below (B (A W)) W g):SLs j g n1 b off n cap H M s f ord i :=
 h.blocks hb.size (hb.block H (by have:=h.hH;have:=h.hz;omega)) (hb.block M (by have:=h.hM;have:=h.hz;omega)) (h.low.trans (hb.mono h.low.size)) rfl (own_below h.ord hb ly)
theorem og{w:E}{i R:Nat}{e:TypeId}{v:ZB}{f:List ZB}(h:w.ownsRow b e i v n f)(hR:R<b)(u:ZB):(w.setCell (Q R j Z) u).ownsRow b e i v n f:=by
 refine h.kept (row:=T R) ⟨rfl,rfl,rfl,by simp[World.setCell],λk _ g=>qh _ _ _ _ (by simpa using g)⟩ ?_;cases hv:v.ownBlock with
 |none=>exact .inl rfl
 |some k=>exact .inr λl=>by have:=(h.lt k hv).1;cases l;omega
theorem SLs.mark{p:Nat}{j:ZB}{ord:List Nat}{g:Int}(h:SLs i W n1 b off n cap H M s j ord g)(hp:p<n):SLs i (W.setCell (Q M p Z) (ZC true)) n1 b off n cap H M (put s p) j ord g:=by
 have c:∀o,(W.setCell (Q M p Z) (ZC true)).cell? (Q H o Z)=W.cell? (Q H o Z):=λo=>sq _ _ _ _ (by first|(simp;done)|(simp;exact λe=>absurd e.symm h.ne)|(simp;exact λe=>absurd e h.ne)|(simp;omega));refine⟨(c 0).trans h.c0,(c 1).trans h.c1,⟨(c 2).trans h.c2.1,by simpa using h.c2.2⟩,⟨(c 3).trans h.c3.1,by simpa using h.c3.2⟩,λq f=>⟨?_,by simpa using(h.row q f).2⟩,og h.ord h.hM.2 _,h.low.setCell h.hM.1 _,h.hH,h.hM,h.ne,by simpa using h.hz⟩;by_cases e:q=p;{subst e;rw[BO _ _ _ (by rw[(h.row q f).1];rfl)];simp[put]};{rw[sq _ _ _ _ (by first|(simp;done)|(simp;exact λe=>absurd e.symm h.ne)|(simp;exact λe=>absurd e h.ne)|(simp;omega)),(h.row q f).1];simp[put,e]}
theorem SLs.deep{g:ZB}{ord:List Nat}{j:Int}(h:SLs f W n1 b off n cap H M s g ord j)(v:Int):SLs f (W.setCell (Q H 3 Z) (J I v)) n1 b off n cap H M s g ord v:=by have c:∀o,o≠3->(W.setCell (Q H 3 Z) (J I v)).cell? (Q H o Z)=W.cell? (Q H o Z):=λo ho=>sq _ _ _ _ (by first|(simp;done)|(simp;exact λe=>absurd e.symm h.ne)|(simp;exact λe=>absurd e h.ne)|(simp;omega));refine⟨(c 0 (by omega)).trans h.c0,(c 1 (by omega)).trans h.c1,⟨(c 2 (by omega)).trans h.c2.1,by simpa using h.c2.2⟩,⟨BO _ _ _ (by rw[h.c3.1];rfl),by simpa using h.c3.2⟩,λq i=>⟨(sq _ _ _ _ (by first|(simp;done)|(simp;exact λe=>absurd e.symm h.ne)|(simp;exact λe=>absurd e h.ne)|(simp;omega))).trans (h.row q i).1,by simpa using(h.row q i).2⟩,og h.ord h.hH.2 _,h.low.setCell h.hH.1 _,h.hH,h.hM,h.ne,by simpa using h.hz⟩
open Ca
def Som (r:DR):Prop:=(∃g c,r.2.1=Y (T (Q g 0 Z)) r.1.h c)/\∃g c,r.2.2=Y (T (Q g 0 Z)) r.1.f c
theorem zq (a:Option Addr)(n cap:Nat)(f:Nat->au)(w:E)(hn:(n:Int)<=1048576)(hf:SlDeed w a n f)(P:∀i,i<n->dw (f i)):Calls Tryz.prog 49 #[ZG #[Y a n cap]] w λe w'=>∃a c R,e=.returned (ZG #[Y a R.length c])/\DRow w' (B (A w)+3) (Y a R.length c) R/\R.map (·.1)=(List.range n).map f/\(∀r∈R,Som r)/\Below (B (A w)) w w':=by
 have HF:=ae hf;have HM:=ae P;clear hf P;obtain⟨n6,hi,sm,qr,ur⟩:=KZ kF;obtain⟨mv,hj,ro,n7,At⟩:=KZ fR;obtain⟨W0,H⟩:∃W:E,((w.alloc (N #[Y a n cap] 25)).alloc (N #[Y Z 0 0] 25)).alloc (N #[Y Z 0 0] 25)=W:=⟨_,rfl⟩
 obtain⟨A0,-,-,-,-⟩:=nb3 H;have O:=ae H;clear H;have X0:=ae (F8 w (Y a n cap) 25);go_enter func49,ntmps49;go_wp2;rw[O.out] at X0 ⊢;clear O;go_loopg [4] n (λg i wr=>∃(k:Nat) (vo:ZB) (R:List DR),k+g=n/\i=J I k/\Hid (CpB wr (B (A w)) (Y a n cap) vo)/\Hid (DRow wr (B (A w)+3) vo R)/\Hid (R.map (·.1)=(List.range k).map f)/\Hid (∀r∈R,Som r)/\Hid (Below (B (A w)) w wr));case atStart=>exact⟨0,_,[],by omega,rfl,X0.out,ji _ _,rfl,λr S=>absurd S (by simp),A0.out⟩
 case round =>
  clear X0 A0;obtain⟨k,vo,R,hk,rfl,V,D1,HE,la,B1⟩:=hrel;have ca:=V.out.a;have ZM:=V.out.size;obtain⟨ao,co,rfl⟩:=kO D1.out.y;by_cases fd:k<n
  ·have ex:R.length=k:=by have:=CV List.length HE.out;simpa using this
   have HRL:=ae ex;have hR4:(R.length:Int)<=1048576:=by omega
   clear ex;obtain⟨b,off,rfl,ZQ⟩:=(HF.out.aa B1.out ly).resolve_left (by omega);have hbl:=ZQ.1;obtain⟨c0,c1,c2,c3,⟨b0,e0,c4,h4⟩,⟨b1,e1,c5,h5⟩⟩:=ZQ.2 k fd;clear ZQ;obtain⟨n8,Bk⟩:=HM.out k fd;have aq:Hid ((List.range (k+1)).map f=(List.range k).map f++[f k]):=by show _=_;rw[MB,KI];rfl
   generalize f k=x at c0 c1 c2 c3 c4 c5 h4 h5 n8 Bk aq;obtain⟨W2,ZP⟩:∃W:E,wr.alloc (N #[U x.e,J I x.L,J I x.M,U x.H,Y b0 x.h e0,Y b1 x.f e1] 46)=W:=⟨_,rfl⟩
   obtain⟨D2,-,-⟩:=nb1 ZP;have G:=ae ZP;clear ZP;have S2:=ae (jc wr (U x.e) (J I x.L) (J I x.M) (U x.H) (Y b0 x.h e0) (Y b1 x.f e1) 46);have H4:=ae (h4.aa D2.out ly);have H5:=ae h5;have hz2':B (A wr)+1=B (A W2):=by rw[<-G.out];simp
   have ZI:=S2.out.c4.1;clear h4 h5;go_wp2_with fail;rw[G.out] at S2 ZI ⊢;clear G;clear ca c0 c1 c2 c3 c4 c5 ZI;refine(iA b0 x.h e0 x.u _ (by omega) H4.out).mono ?_;rintro e w3 ⟨ZS,z,rfl,X,M⟩;have D3:=ae (D2.out.trans (M.mono (by omega)));have S3:=ae (S2.out.aa M (by omega));have hg0:=(cO X).1;obtain⟨ZI,y4⟩:=S3.out.c4;have y:=ae (S3.out.set4 (Y (T (Q ZS 0 Z)) x.h z));have D:=ae (D3.out.setCell (p:=(Q (B (A wr)) 4 Z)) ly (Y (T (Q ZS 0 Z)) x.h z));have O4:=ae (aE (R:=B (A wr)) (j:=4) (aF X (show (B (A wr))+1<=B (A W2) by omega)) (by omega) (Y (T (Q ZS 0 Z)) x.h z));have ph:B (A W2)<=(w3.setCell (Q (B (A wr)) 4 Z) (Y (T (Q ZS 0 Z)) x.h z)).heap.size:=by simpa using M.size
   have ZJ:=y.out.c5.1;clear X M;go_upto_region 7 with fail;generalize World.setCell w3 _ _=l at y D O4 ph ZJ ⊢;clear ZI y4 S3 D3;go_cut [] (λwx=>∃t s,Hid (DBox wx (B (A wr)) (U x.e) (J I x.L) (J I x.M) (U x.H) (Y (T (Q ZS 0 Z)) x.h z) (Y (T (Q t 0 Z)) x.f s))/\Hid (Below (B (A wr)) wr wx)/\Hid (wx.ownsRow (B (A wr)+1) 146 3 (Y (T (Q ZS 0 Z)) x.h z) x.h (bV x.u x.h))/\Hid (wx.ownsRow (B (A wr)+1) 129 4 (Y (T (Q t 0 Z)) x.f s) x.f (bY x.m x.f)));case first =>
    have n9:=y.out.lt;cases b1 with
    |none =>
     have K:x.f=0:=by
      rcases H5.out with h|⟨_,_,h,_⟩
      {exact h};{cases h}
     have ho:bY x.m x.f=[]:=by rw[K];rfl
     have ld:=ae K;have th:=ae ho;rw[K] at ZJ y;have L:(l.setCell (Q (B (A wr)) 5 Z) (Y (T (Q (B (A l)) 0 Z)) 0 0)).heap.size=B (A l):=by simp
     have OM:=LV (base:=B (A wr)+1) (e:=129) (size:=4) (l.setCell (Q (B (A wr)) 5 Z) (Y (T (Q (B (A l)) 0 Z)) 0 0)) #[] 0 (by rw[L];omega) (by unfold maxLen;omega) rfl;rw[L] at OM;have O5:=ae OM;have A6:=ae ((cM (B (A l)) (l.setCell (Q (B (A wr)) 5 Z) (Y (T (Q (B (A l)) 0 Z)) 0 0))).alloc (by rw[L];exact nX _) (N #[] 129));have S5:=ae ((y.out.set5 (Y (T (Q (B (A l)) 0 Z)) 0 0)).aa A6.out n9);have D5:=ae ((D.out.setCell (p:=(Q (B (A wr)) 5 Z)) ly (Y (T (Q (B (A l)) 0 Z)) 0 0)).trans (A6.out.mono D.out.size));have P5:=ae (own_below (aE (R:=B (A wr)) (j:=5) O4.out (by omega) (Y (T (Q (B (A l)) 0 Z)) 0 0)) A6.out (by rw[L];exact nX _));have f5:=y.out.c5.2;clear OM ho K;go_wp2;go_meet;exact⟨B (A l),0,(by show DBox _ _ _ _ _ _ _ _;rw[ld.out];exact S5.out),D5.out,P5.out,(by show World.ownsRow _ _ _ _ _ _ _;rw[th.out,ld.out];exact O5.out)⟩
    |some ad =>
     have A5:=ae ((BS l).alloc ly (N #[] 129));have R5:Hid (∀j u,(bY x.m x.f)[j]?=T u->(l.alloc (N #[] 129)).cell? (ad.add j)=T u):=by
      rcases((H5.out.aa D.out ly).aa A5.out ly) with h|⟨bb,oo,h,S⟩
      {intro j u hu;rw[h] at hu;simp[bY] at hu};{obtain rfl:=IN h;exact Bm S}
     have s5':=(A5.out.cell (p:=(Q (B (A wr)) 5 Z)) y.out.lt).trans ZJ;go_wp2_with (at_builtin;refine E4 _ rfl (.tmp 23) (.tmp 25) 44 rfl (B (A l)) 129 n6 (ZG #[U ⟨#[]⟩,ZC ZA,ZC ZA,J I 0]) 4 32 OD hi sm qr ur rfl (by decide) (Y (T (Q (B (A l)) 0 Z)) 0 0) 0 [] (by simp[Act.eval]) (LV l #[] 0 ly (by unfold maxLen;omega) rfl) ad x.f e1 (bY x.m x.f) (by simp[Act.eval]) (ii x.m x.f) R5.out (zp x.m x.f) (by unfold maxLen;omega) (by omega) (by simp) ?_;intro v5 w5 m q C;simp only[IT,LA] at m;obtain⟨t,s,rfl⟩:∃g c,v5=Y (T (Q g 0 Z)) x.f c:=(by rcases m.2 with ⟨rfl,_⟩|⟨g,c,cur,rfl,_⟩;(have:=C.1 rfl;simp at this);exact⟨g,c,rfl⟩);have B5:=ae (bg A5.out q (by simp) (λj e=>by simp[Value.ownBlock] at e;omega));have O5:=ae m;obtain⟨t5,u5⟩:=(y.out.aa B5.out y.out.lt).c5;clear m q C);have ZR:=ae ((y.out.aa B5.out y.out.lt).set5 (Y (T (Q t 0 Z)) x.f s));have ZO:=ae ((D.out.trans (B5.out.mono D.out.size)).setCell (p:=(Q (B (A wr)) 5 Z)) ly (Y (T (Q t 0 Z)) x.f s));have ZL:=ae (aE (R:=B (A wr)) (j:=5) (own_below O4.out B5.out ly) (by omega) (Y (T (Q t 0 Z)) x.f s));have ZK:=ae (aE (R:=B (A wr)) (j:=5) (aF O5.out (show (B (A wr))+1<=B (A l) by omega)) (by omega) (Y (T (Q t 0 Z)) x.f s));go_meet;exact⟨_,_,ZR.out,ZO.out,ZL.out,ZK.out⟩
   case rest =>
   clear y D O4 ZJ H5;obtain⟨t,s,ZR,ZO,ZL,ZK⟩:=hcut;revert ZR ZO ZL ZK;generalize wc=ZN;intro ZR ZO ZL ZK;have G6:Hid (DSub ZN (B (A wr)) (x,Y (T (Q ZS 0 Z)) x.h z,Y (T (Q t 0 Z)) x.f s)):=⟨aF ZL.out (by omega),aF ZK.out (by omega)⟩
   have X6:=ae (V.out.aa ZO.out ZM);obtain⟨q0,_⟩:=ZR.out.c0;obtain⟨q1,_⟩:=ZR.out.c1;obtain⟨q2,_⟩:=ZR.out.c2;obtain⟨q3,_⟩:=ZR.out.c3;obtain⟨q4,_⟩:=ZR.out.c4;obtain⟨q5,_⟩:=ZR.out.c5;obtain⟨m0,m1⟩:=X6.out.o;have A7:=ae ((BS ZN).alloc ly (N #[U x.e,J I x.L,J I x.M,U x.H,Y (T (Q ZS 0 Z)) x.h z,Y (T (Q t 0 Z)) x.f s] 46));have D7:=ae (ZO.out.trans (A7.out.mono ZO.out.size));have R7:=ae (D1.out.aa D7.out ly);have G7:=ae (G6.out.aa A7.out ly);have bt:B (A w)+3<=(ZN.alloc (N #[U x.e,J I x.L,J I x.M,U x.H,Y (T (Q ZS 0 Z)) x.h z,Y (T (Q t 0 Z)) x.f s] 46)).heap.size:=nL ZM D7.out.size;go_wp2_with (at_builtin;refine E4 _ rfl (.tmp 29) (.tmp 31) 23 rfl (B (A w)+3) 46 mv (ZG #[U ⟨#[]⟩,J I 0,J I 0,U ⟨#[]⟩,Y Z 0 0,Y Z 0 0]) 6 96 MU hj ro n7 At rfl (by decide) (Y ao R.length co) R.length (R.flatMap ddV) (by simp[Act.eval]) R7.out.y (Q (B (A ZN)) 0 Z) 1 1 (ddV (x,Y (T (Q ZS 0 Z)) x.h z,Y (T (Q t 0 Z)) x.f s)) (by simp[Act.eval]) rfl (F9 ZN _ _ _ _ _ _ _) (by simp[ddV,Value.oneCell']) (by unfold maxLen;omega) (by omega) bt ?_;intro v' w8 m q C;obtain⟨gs,cs,rfl⟩:=df m (by omega);have E8:=ae (bg (cM (B (A w)+3) _) q bt (λj e=>(R7.out.y.lt j e).1));have M8:=ae (D1.out.more R7.out ZM G7.out m q);have X8:=ae ((X6.out.aa A7.out X6.out.size).aa E8.out ly);have B8:=ae ((B1.out.trans (D7.out.mono B1.out.size)).trans (E8.out.mono (by omega)));obtain⟨k0,k1⟩:=X8.out.o;clear m q C);have M9:=ae (M8.out.set (p:=(Q (B (A w)+1+1) 0 Z)) (e:=0) (.inl (by show (B (A w))+1+1<B (A w)+3;omega)) (Y (T (Q gs 0 Z)) (R.length+1) cs));go_roundg (n - 1 - k);case measure=>omega
   case rel =>refine⟨k+1,Y (T (Q gs 0 Z)) (R.length+1) cs,R++[(x,Value.slice (T (Q ZS 0 Z)) x.h z,Value.slice (T (Q t 0 Z)) x.f s)],by omega,by go_num,X8.out.out _,M9.out,?_,λr S=>(wC.1 S).elim (la.out r) (λh=>by rw[hU.1 h];exact⟨⟨_,_,rfl⟩,_,_,rfl⟩),B8.out.setCell (by show (B (A w))<=B (A w)+2;omega) _⟩;show _=_;rw[aq.out,KI,HE.out];rfl
  ·have e:k=n:=by omega
   subst e;obtain⟨r0,z0⟩:=V.out.r;obtain⟨o0,_⟩:=V.out.o;go_wp2;exact bp (v:=ZG #[Y ao R.length co]) (by simp[results,results49,go_sem,r0]) rfl ⟨ao,co,R,rfl,D1.out.set (e:=0) (.inl (by show (B (A w))+1<B (A w)+3;omega)) _,HE.out,la.out,B1.out.setCell (by show (B (A w))<=B (A w)+1;omega) _⟩
