import Derived.Test.YtpmnbjkjpnclaaaGreatDoorMX
import Derived.Deep.LoopGhost
import Derived.Test.YtpmnbjkjpnclaaaGreatDoorMF
set_option maxRecDepth 100000
set_option maxHeartbeats 8000000
open Go renaming Addr.mk->N,Value.slice->Y,Value.string->U,Value.int->Q,Value.bool->ZC,Value.agg->ZG,Obj.cells->J,IntKind.i64->I,World->M,Value->ZB,World.heap->A
open Option renaming none->Z,some->T
open Bool renaming false->ZA
open Array renaming size->B
namespace Go.Proofs.YtpmnbjkjpnclaaaGreatDoor.Vp
open Tryz RowKit
variable {H ZQ b n n1 off cap j:Nat}{W i f:M}{s:Nat->Bool}{g:ZB}
def cE (f:Nat->aj)(d:Int)(x:Nat × Nat):Int:=if (f x.1).H=3/\60<=x.2/\(d<0∨(x.1:Int)<d) then (x.1:Int) else d
def cB (f:Nat->aj)(d:Int):List (Nat × Nat)->Int
 |[]=>d
 |x::xs=>cB f (cE f d x) xs
theorem kH (f:Nat->aj)(d:Int)(b g:List (Nat × Nat)):cB f d (b++g)=cB f (cB f d b) g:=by
 induction b generalizing d with
 |nil=>rfl
 |cons x b h=>simp only[J8,cB];exact h _
theorem ws (f:Nat->aj)(d:Int)(x y:Nat × Nat):cE f (cE f d x) y=cE f (cE f d y) x:=by
 unfold cE;by_cases g:(f x.1).H=3/\60<=x.2;{by_cases b:(f y.1).H=3/\60<=y.2;{simp only[g.1,g.2,b.1,b.2,P6];(repeat' split)<;>omega};{have e:∀z:Prop,¬ ((f y.1).H=3/\60<=y.2/\z):=λz h=>b ⟨h.1,h.2.1⟩;rw[eT (e _),eT (e _)]}};{have e:∀z:Prop,¬ ((f x.1).H=3/\60<=x.2/\z):=λz h=>g ⟨h.1,h.2.1⟩;rw[eT (e _),eT (e _)]}
theorem tV (f:Nat->aj)(d:Int)(x:Nat × Nat)(b:List (Nat × Nat)):cB f (cE f d x) b=cE f (cB f d b) x:=by
 induction b generalizing d with
 |nil=>rfl
 |cons y ys g =>simp only[cB];rw[ws,g]
def TyAt (w:M)(g:Nat)(e:TypeId):Prop:=∃b,w.heap[g]?=T (J b e (0,0))
structure Kpt (H ZQ:Nat)(W W':M):Prop where
 size:B (A W)<=B (A W')
 keep:∀k e,TyAt W k e->e≠3->k≠H->k≠ZQ->W'.heap[k]?=W.heap[k]?
theorem Kpt.trans{ZS ZR C:M}(h:Kpt H ZQ ZS ZR)(k:Kpt H ZQ ZR C):Kpt H ZQ ZS C :=
 ⟨nD h.size k.size,λi e hi f h1 h2=>by
  have b:=h.keep i e hi f h1 h2;obtain⟨c,g⟩:=hi
  exact(k.keep i e ⟨c,b.trans g⟩ f h1 h2).trans b⟩
theorem Kpt.q{b:M}(h:Below (B (A W)) W b):Kpt H ZQ W b :=
 ⟨h.size,λk e f _ _ _=>by obtain⟨c,g⟩:=f;exact h.block k (E7.1 g).1⟩
theorem Kpt.setCell (W:M)(g:Nat)(hg:g=H∨g=ZQ)(v:ZB):Kpt H ZQ W (W.setCell (N g j Z) v) :=
 ⟨by simp,λk _ _ _ h1 h2=>qh _ _ _ _ (by show k≠g;omega)⟩
structure SLs (w0 W:M)(n1 b off n cap H ZQ:Nat)(s:Nat->Bool)(ov:ZB)(ord:List Nat)(dp:Int):Prop where
 c0:W.cell? (N H 0 Z)=T (Y (T (N b off Z)) n cap)
 c1:W.cell? (N H 1 Z)=T (Y (T (N ZQ 0 Z)) n n)
 c2:W.cell? (N H 2 Z)=T ov/\W.frozen? (N H 2 Z)=ZA
 c3:W.cell? (N H 3 Z)=T (Q I dp)/\W.frozen? (N H 3 Z)=ZA
 row:∀q,q<n->W.cell? (N ZQ q Z)=T (ZC (s q))/\W.frozen? (N ZQ q Z)=ZA
 ord:W.ownsRow n1 3 1 ov ord.length (ord.map λq:Nat=>Value.int I (q:Int))
 low:Below (B (A w0)) w0 W
 hH:B (A w0)<=H/\H<n1
 hM:B (A w0)<=ZQ/\ZQ<n1
 ne:H≠ZQ
 hz:n1<=B (A W)
theorem SLs.blocks{l j:ZB}{ord g:List Nat}{t:Int}(h:SLs i W n1 b off n cap H ZQ s l ord t)(hz:B (A W)<=B (A f))(r:f.heap[H]?=W.heap[H]?)(p:f.heap[ZQ]?=W.heap[ZQ]?)(x:Below (B (A i)) i f)(u:j=l)(y:f.ownsRow n1 3 1 l g.length (g.map λq:Nat=>Value.int I (q:Int))):SLs i f n1 b off n cap H ZQ s j g t:=by subst u;have c:∀o,f.cell? (N H o Z)=W.cell? (N H o Z):=λo=>cq (a:=(N H o Z)) r;have z:∀o,f.frozen? (N H o Z)=W.frozen? (N H o Z):=λo=>JK (a:=(N H o Z)) r;exact⟨(c 0).trans h.c0,(c 1).trans h.c1,⟨(c 2).trans h.c2.1,(z 2).trans h.c2.2⟩,⟨(c 3).trans h.c3.1,(z 3).trans h.c3.2⟩,λq m=>⟨(cq (a:=(N ZQ q Z)) p).trans (h.row q m).1,(JK (a:=(N ZQ q Z)) p).trans (h.row q m).2⟩,y,x,h.hH,h.hM,h.ne,nD h.hz hz⟩
theorem SLs.aa{ord:List Nat}{j:Int}(h:SLs f W n1 b off n cap H ZQ s g ord j)(hb:Below (B (A W)) W i):SLs f i n1 b off n cap H ZQ s g ord j :=
 h.blocks hb.size (hb.block H (by have:=h.hH;have:=h.hz;omega)) (hb.block ZQ (by have:=h.hM;have:=h.hz;omega)) (h.low.trans (hb.mono h.low.size)) rfl (own_below h.ord hb ly)
theorem mN{w:M}{i R:Nat}{e:TypeId}{v:ZB}{g:List ZB}(h:w.ownsRow b e i v n g)(hR:R<b)(u:ZB):(w.setCell (N R j Z) u).ownsRow b e i v n g:=by
 refine h.kept (row:=T R) ⟨rfl,rfl,rfl,by simp[World.setCell],λk _ f=>qh _ _ _ _ (by simpa using f)⟩ ?_;cases hv:v.ownBlock with
 |none=>exact .inl rfl
 |some k=>exact .inr λl=>by have:=(h.lt k hv).1;cases l;omega
theorem SLs.mark{j:M}{p:Nat}{ord:List Nat}{i:Int}(h:SLs j W n1 b off n cap H ZQ s g ord i)(hp:p<n):SLs j (W.setCell (N ZQ p Z) (ZC true)) n1 b off n cap H ZQ (put s p) g ord i:=by
 have c:∀o,(W.setCell (N ZQ p Z) (ZC true)).cell? (N H o Z)=W.cell? (N H o Z):=λo=>sq _ _ _ _ (by first|(simp;done)|(simp;exact λe=>absurd e.symm h.ne)|(simp;exact λe=>absurd e h.ne)|(simp;omega));refine⟨(c 0).trans h.c0,(c 1).trans h.c1,⟨(c 2).trans h.c2.1,by simpa using h.c2.2⟩,⟨(c 3).trans h.c3.1,by simpa using h.c3.2⟩,λq f=>⟨?_,by simpa using(h.row q f).2⟩,mN h.ord h.hM.2 _,h.low.setCell h.hM.1 _,h.hH,h.hM,h.ne,by simpa using h.hz⟩;by_cases e:q=p;{subst e;rw[DN _ _ _ (by rw[(h.row q f).1];rfl)];simp[put]};{rw[sq _ _ _ _ (by first|(simp;done)|(simp;exact λe=>absurd e.symm h.ne)|(simp;exact λe=>absurd e h.ne)|(simp;omega)),(h.row q f).1];simp[put,e]}
theorem SLs.deep{ord:List Nat}{j:Int}(h:SLs i W n1 b off n cap H ZQ s g ord j)(v:Int):SLs i (W.setCell (N H 3 Z) (Q I v)) n1 b off n cap H ZQ s g ord v:=by have c:∀o,o≠3->(W.setCell (N H 3 Z) (Q I v)).cell? (N H o Z)=W.cell? (N H o Z):=λo ho=>sq _ _ _ _ (by first|(simp;done)|(simp;exact λe=>absurd e.symm h.ne)|(simp;exact λe=>absurd e h.ne)|(simp;omega));refine⟨(c 0 (by omega)).trans h.c0,(c 1 (by omega)).trans h.c1,⟨(c 2 (by omega)).trans h.c2.1,by simpa using h.c2.2⟩,⟨DN _ _ _ (by rw[h.c3.1];rfl),by simpa using h.c3.2⟩,λq f=>⟨(sq _ _ _ _ (by first|(simp;done)|(simp;exact λe=>absurd e.symm h.ne)|(simp;exact λe=>absurd e h.ne)|(simp;omega))).trans (h.row q f).1,by simpa using(h.row q f).2⟩,mN h.ord h.hH.2 _,h.low.setCell h.hH.1 _,h.hH,h.hM,h.ne,by simpa using h.hz⟩
open Ca
def Som (r:DR):Prop:=(∃g c,r.2.1=Y (T (N g 0 Z)) r.1.m c)/\∃g c,r.2.2=Y (T (N g 0 Z)) r.1.l c
theorem xU (a:Option Addr)(n cap:Nat)(f:Nat->aj)(w:M)(hn:(n:Int)<=1048576)(hf:SlDeed w a n f)(ZL:∀i,i<n->dQ (f i)):Calls Tryz.prog 64 #[ZG #[Y a n cap]] w λe w'=>∃a c R,e=.returned (ZG #[Y a R.length c])/\DRow w' (B (A w)+3) (Y a R.length c) R/\R.map (·.1)=(List.range n).map f/\(∀r∈R,Som r)/\Below (B (A w)) w w':=by
 have HF:=ae hf;have HM:=ae ZL;clear hf ZL;obtain⟨th,hi,DE,DQ,n9⟩:=JT mF;obtain⟨At,hj,ur,Bk,ph⟩:=JT fX;obtain⟨W0,ZP⟩:∃W:M,((w.alloc (J #[Y a n cap] 37)).alloc (J #[Y Z 0 0] 37)).alloc (J #[Y Z 0 0] 37)=W:=⟨_,rfl⟩
 obtain⟨A0,-,-,-,-⟩:=nb3 ZP;have P:=ae ZP;clear ZP;have X0:=ae (Ev w (Y a n cap) 37);go_enter func64,ntmps64;go_wp2;rw[P.out] at X0 ⊢;clear P;go_loopg [4] n (λg i wr=>∃(k:Nat) (vo:ZB) (R:List DR),k+g=n/\i=Q I k/\Hid (CpB wr (B (A w)) (Y a n cap) vo)/\Hid (DRow wr (B (A w)+3) vo R)/\Hid (R.map (·.1)=(List.range k).map f)/\Hid (∀r∈R,Som r)/\Hid (Below (B (A w)) w wr));case atStart=>exact⟨0,_,[],by omega,rfl,X0.out,jP _ _,rfl,λr X=>absurd X (by simp),A0.out⟩
 case round =>
  clear X0 A0;obtain⟨k,vo,R,hk,rfl,O,D1,HE,mv,B1⟩:=hrel;have ca:=O.out.a;have S:=O.out.size;obtain⟨ao,co,rfl⟩:=eS D1.out.x;by_cases ld:k<n
  ·have ex:R.length=k:=by have:=A9 List.length HE.out;simpa using this
   have HRL:=ae ex;have hR4:(R.length:Int)<=1048576:=by omega
   clear ex;obtain⟨b,off,rfl,E⟩:=(HF.out.aa B1.out ly).resolve_left (by omega);have hbl:=E.1;obtain⟨c0,c1,c2,c3,⟨b0,e0,c4,h4⟩,⟨b1,e1,c5,h5⟩⟩:=E.2 k ld;clear E;obtain⟨qr,sm⟩:=HM.out k ld;have aq:Hid ((List.range (k+1)).map f=(List.range k).map f++[f k]):=by show _=_;rw[KV,JS];rfl
   generalize f k=x at c0 c1 c2 c3 c4 c5 h4 h5 qr sm aq;obtain⟨W2,ZO⟩:∃W:M,wr.alloc (J #[U x.e,Q I x.H,Q I x.E,U x.y,Y b0 x.m e0,Y b1 x.l e1] 46)=W:=⟨_,rfl⟩
   obtain⟨D2,-,-⟩:=nb1 ZO;have D:=ae ZO;clear ZO;have S2:=ae (mH wr (U x.e) (Q I x.H) (Q I x.E) (U x.y) (Y b0 x.m e0) (Y b1 x.l e1) 46);have H4:=ae (h4.aa D2.out ly);have H5:=ae h5;have hz2':B (A wr)+1=B (A W2):=by rw[<-D.out];simp
   have ZJ:=S2.out.c4.1;clear h4 h5;go_wp2_with fail;rw[D.out] at S2 ZJ ⊢;clear D;clear ca c0 c1 c2 c3 c4 c5 ZJ;refine(gX b0 x.m e0 x.D _ (by omega) H4.out).mono ?_;rintro e w3 ⟨z,ZS,rfl,ZK,L⟩;have D3:=ae (D2.out.trans (L.mono (by omega)));have S3:=ae (S2.out.aa L (by omega));have hg0:=(cO ZK).1;obtain⟨ZJ,y4⟩:=S3.out.c4;have y:=ae (S3.out.set4 (Y (T (N z 0 Z)) x.m ZS));have G:=ae (D3.out.setCell (p:=(N (B (A wr)) 4 Z)) ly (Y (T (N z 0 Z)) x.m ZS));have ZI:=ae (aO (R:=B (A wr)) (j:=4) (aC ZK (show (B (A wr))+1<=B (A W2) by omega)) (by omega) (Y (T (N z 0 Z)) x.m ZS));have n8:B (A W2)<=(w3.setCell (N (B (A wr)) 4 Z) (Y (T (N z 0 Z)) x.m ZS)).heap.size:=by simpa using L.size
   have s5:=y.out.c5.1;clear ZK L;go_upto_region 7 with fail;generalize World.setCell w3 _ _=l at y G ZI n8 s5 ⊢;clear ZJ y4 S3 D3;go_cut [] (λwx=>∃s t,Hid (DBox wx (B (A wr)) (U x.e) (Q I x.H) (Q I x.E) (U x.y) (Y (T (N z 0 Z)) x.m ZS) (Y (T (N s 0 Z)) x.l t))/\Hid (Below (B (A wr)) wr wx)/\Hid (wx.ownsRow (B (A wr)+1) 151 3 (Y (T (N z 0 Z)) x.m ZS) x.m (bX x.D x.m))/\Hid (wx.ownsRow (B (A wr)+1) 91 4 (Y (T (N s 0 Z)) x.l t) x.l (bQ x.u x.l)));case first =>
    have ro:=y.out.lt;cases b1 with
    |none =>
     have ZQ:x.l=0:=by
      rcases H5.out with h|⟨_,_,h,_⟩
      {exact h};{cases h}
     have ho:bQ x.u x.l=[]:=by rw[ZQ];rfl
     have fd:=ae ZQ;have CD:=ae ho;rw[ZQ] at s5 y;have K:(l.setCell (N (B (A wr)) 5 Z) (Y (T (N (B (A l)) 0 Z)) 0 0)).heap.size=B (A l):=by simp
     have OM:=KJ (base:=B (A wr)+1) (e:=91) (size:=4) (l.setCell (N (B (A wr)) 5 Z) (Y (T (N (B (A l)) 0 Z)) 0 0)) #[] 0 (by rw[K];omega) (by unfold maxLen;omega) rfl;rw[K] at OM;have O5:=ae OM;have A6:=ae ((cM (B (A l)) (l.setCell (N (B (A wr)) 5 Z) (Y (T (N (B (A l)) 0 Z)) 0 0))).alloc (by rw[K];exact nX _) (J #[] 91));have S5:=ae ((y.out.set5 (Y (T (N (B (A l)) 0 Z)) 0 0)).aa A6.out ro);have D5:=ae ((G.out.setCell (p:=(N (B (A wr)) 5 Z)) ly (Y (T (N (B (A l)) 0 Z)) 0 0)).trans (A6.out.mono G.out.size));have P5:=ae (own_below (aO (R:=B (A wr)) (j:=5) ZI.out (by omega) (Y (T (N (B (A l)) 0 Z)) 0 0)) A6.out (by rw[K];exact nX _));have f5:=y.out.c5.2;clear OM ho ZQ;go_wp2;go_meet;exact⟨B (A l),0,(by show DBox _ _ _ _ _ _ _ _;rw[fd.out];exact S5.out),D5.out,P5.out,(by show World.ownsRow _ _ _ _ _ _ _;rw[CD.out,fd.out];exact O5.out)⟩
    |some ad =>
     have A5:=ae ((BS l).alloc ly (J #[] 91));have R5:Hid (∀j u,(bQ x.u x.l)[j]?=T u->(l.alloc (J #[] 91)).cell? (ad.add j)=T u):=by
      rcases((H5.out.aa G.out ly).aa A5.out ly) with h|⟨bb,oo,h,X⟩
      {intro j u hu;rw[h] at hu;simp[bQ] at hu};{obtain rfl:=IT h;exact zJ X}
     have s5':=(A5.out.cell (p:=(N (B (A wr)) 5 Z)) y.out.lt).trans s5;go_wp2_with (at_builtin;refine IS _ rfl (.tmp 23) (.tmp 25) 44 rfl (B (A l)) 91 th (ZG #[U ⟨#[]⟩,ZC ZA,ZC ZA,Q I 0]) 4 32 QG hi DE DQ n9 rfl (by decide) (Y (T (N (B (A l)) 0 Z)) 0 0) 0 [] (by simp[Act.eval]) (KJ l #[] 0 ly (by unfold maxLen;omega) rfl) ad x.l e1 (bQ x.u x.l) (by simp[Act.eval]) (gK x.u x.l) R5.out (xS x.u x.l) (by unfold maxLen;omega) (by omega) (by simp) ?_;intro v5 w5 m q C;simp only[JC,JW] at m;obtain⟨s,t,rfl⟩:∃g c,v5=Y (T (N g 0 Z)) x.l c:=(by rcases m.2 with ⟨rfl,_⟩|⟨g,c,cur,rfl,_⟩;(have:=C.1 rfl;simp at this);exact⟨g,c,rfl⟩);have B5:=ae (bg A5.out q (by simp) (λj e=>by simp[Value.ownBlock] at e;omega));have O5:=ae m;obtain⟨t5,u5⟩:=(y.out.aa B5.out y.out.lt).c5;clear m q C);have ZR:=ae ((y.out.aa B5.out y.out.lt).set5 (Y (T (N s 0 Z)) x.l t));have H:=ae ((G.out.trans (B5.out.mono G.out.size)).setCell (p:=(N (B (A wr)) 5 Z)) ly (Y (T (N s 0 Z)) x.l t));have ZN:=ae (aO (R:=B (A wr)) (j:=5) (own_below ZI.out B5.out ly) (by omega) (Y (T (N s 0 Z)) x.l t));have V:=ae (aO (R:=B (A wr)) (j:=5) (aC O5.out (show (B (A wr))+1<=B (A l) by omega)) (by omega) (Y (T (N s 0 Z)) x.l t));go_meet;exact⟨_,_,ZR.out,H.out,ZN.out,V.out⟩
   case rest =>
   clear y G ZI s5 H5;obtain⟨s,t,ZR,H,ZN,V⟩:=hcut;revert ZR H ZN V;generalize wc=ZM;intro ZR H ZN V;have G6:Hid (DSub ZM (B (A wr)) (x,Y (T (N z 0 Z)) x.m ZS,Y (T (N s 0 Z)) x.l t)):=⟨aC ZN.out (by omega),aC V.out (by omega)⟩
   have X6:=ae (O.out.aa H.out S);obtain⟨q0,_⟩:=ZR.out.c0;obtain⟨q1,_⟩:=ZR.out.c1;obtain⟨q2,_⟩:=ZR.out.c2;obtain⟨q3,_⟩:=ZR.out.c3;obtain⟨q4,_⟩:=ZR.out.c4;obtain⟨q5,_⟩:=ZR.out.c5;obtain⟨m0,m1⟩:=X6.out.o;have A7:=ae ((BS ZM).alloc ly (J #[U x.e,Q I x.H,Q I x.E,U x.y,Y (T (N z 0 Z)) x.m ZS,Y (T (N s 0 Z)) x.l t] 46));have D7:=ae (H.out.trans (A7.out.mono H.out.size));have R7:=ae (D1.out.aa D7.out ly);have G7:=ae (G6.out.aa A7.out ly);have bt:B (A w)+3<=(ZM.alloc (J #[U x.e,Q I x.H,Q I x.E,U x.y,Y (T (N z 0 Z)) x.m ZS,Y (T (N s 0 Z)) x.l t] 46)).heap.size:=nD S D7.out.size;go_wp2_with (at_builtin;refine IS _ rfl (.tmp 29) (.tmp 31) 35 rfl (B (A w)+3) 46 At (ZG #[U ⟨#[]⟩,Q I 0,Q I 0,U ⟨#[]⟩,Y Z 0 0,Y Z 0 0]) 6 96 L8 hj ur Bk ph rfl (by decide) (Y ao R.length co) R.length (R.flatMap ddV) (by simp[Act.eval]) R7.out.x (N (B (A ZM)) 0 Z) 1 1 (ddV (x,Y (T (N z 0 Z)) x.m ZS,Y (T (N s 0 Z)) x.l t)) (by simp[Act.eval]) rfl (Ew ZM _ _ _ _ _ _ _) (by simp[ddV,Value.oneCell']) (by unfold maxLen;omega) (by omega) bt ?_;intro v' w8 m q C;obtain⟨gs,cs,rfl⟩:=cU m (by omega);have E8:=ae (bg (cM (B (A w)+3) _) q bt (λj e=>(R7.out.x.lt j e).1));have M8:=ae (D1.out.more R7.out S G7.out m q);have X8:=ae ((X6.out.aa A7.out X6.out.size).aa E8.out ly);have B8:=ae ((B1.out.trans (D7.out.mono B1.out.size)).trans (E8.out.mono (by omega)));obtain⟨k0,k1⟩:=X8.out.o;clear m q C);have M9:=ae (M8.out.set (p:=(N (B (A w)+1+1) 0 Z)) (e:=0) (.inl (by show (B (A w))+1+1<B (A w)+3;omega)) (Y (T (N gs 0 Z)) (R.length+1) cs));go_roundg (n - 1 - k);case measure=>omega
   case rel =>refine⟨k+1,Y (T (N gs 0 Z)) (R.length+1) cs,R++[(x,Value.slice (T (N z 0 Z)) x.m ZS,Value.slice (T (N s 0 Z)) x.l t)],by omega,by go_num,X8.out.out _,M9.out,?_,λr X=>(BC.1 X).elim (mv.out r) (λh=>by rw[hU.1 h];exact⟨⟨_,_,rfl⟩,_,_,rfl⟩),B8.out.setCell (by show (B (A w))<=B (A w)+2;omega) _⟩;show _=_;rw[aq.out,JS,HE.out];rfl
  ·have e:k=n:=by omega
   subst e;obtain⟨r0,z0⟩:=O.out.r;obtain⟨o0,_⟩:=O.out.o;go_wp2;exact bp (v:=ZG #[Y ao R.length co]) (by simp[results,results64,go_sem,r0]) rfl ⟨ao,co,R,rfl,D1.out.set (e:=0) (.inl (by show (B (A w))+1<B (A w)+3;omega)) _,HE.out,mv.out,B1.out.setCell (by show (B (A w))<=B (A w)+1;omega) _⟩
