import Derived.Test.YtpmnbjkjpnclaaaGreatDoorSR
import Derived.Deep.RegionHeld3
import Derived.Test.YtpmnbjkjpnclaaaGreatDoorSP
import Derived.Test.YtpmnbjkjpnclaaaGreatDoorSE
set_option maxRecDepth 1000000
set_option maxHeartbeats 8000000
open Go renaming Addr.mk->Q,Value.slice->Z,Value.string->U,Value.int->N,Value.bool->ZD,Value.agg->ZH,Obj.cells->J,IntKind.i64->I,World->M,Value->ZC,TypeId->ZI,Ending.returned->ZF,World.alloc->A,Proofs.Tryz.prog->Pg
open Option renaming none->Y,some->T
open Bool renaming false->ZA,true->ZG
namespace Go.Proofs.YtpmnbjkjpnclaaaGreatDoor.Vp
open Tryz RowKit
variable {n H ZR b n1 off cap p j:Nat}{f:Nat->Deed}{W i w:M}{s:Nat->Bool}{l:Link}
def cY (f:Nat->Deed)(d:Int)(x:Nat × Nat):Int:=if (f x.1).m=3/\60<=x.2/\(d<0∨(x.1:Int)<d) then (x.1:Int) else d
def cU (f:Nat->Deed)(d:Int):List (Nat × Nat)->Int
 |[]=>d
 |x::xs=>cU f (cY f d x) xs
theorem mM (f:Nat->Deed)(d:Int)(b c:List (Nat × Nat)):cU f d (b++c)=cU f (cU f d b) c:=by
 induction b generalizing d with
 |nil=>rfl
 |cons x b g=>simp only[IN,cU];exact g _
theorem zc (f:Nat->Deed)(d:Int)(x y:Nat × Nat):cY f (cY f d x) y=cY f (cY f d y) x:=by
 unfold cY;by_cases b:(f x.1).m=3/\60<=x.2;{by_cases c:(f y.1).m=3/\60<=y.2;{simp only[b.1,b.2,c.1,c.2,TM];(repeat' split)<;>omega};{have e:∀z:Prop,¬ ((f y.1).m=3/\60<=y.2/\z):=λz h=>c ⟨h.1,h.2.1⟩;rw[gM (e _),gM (e _)]}};{have e:∀z:Prop,¬ ((f x.1).m=3/\60<=x.2/\z):=λz h=>b ⟨h.1,h.2.1⟩;rw[gM (e _),gM (e _)]}
theorem wT (f:Nat->Deed)(d:Int)(x:Nat × Nat)(b:List (Nat × Nat)):cU f (cY f d x) b=cY f (cU f d b) x:=by
 induction b generalizing d with
 |nil=>rfl
 |cons y ys c =>simp only[cU];rw[zc,c]
def TyAt (w:M)(g:Nat)(e:ZI):Prop:=∃b,w.heap[g]?=T (J b e (0,0))
structure Kpt (H ZR:Nat)(W W':M):Prop where
 size:W.heap.size<=W'.heap.size
 keep:∀k e,TyAt W k e->e≠3->k≠H->k≠ZR->W'.heap[k]?=W.heap[k]?
theorem Kpt.trans{ZS B C:M}(h:Kpt H ZR ZS B)(k:Kpt H ZR B C):Kpt H ZR ZS C :=
 ⟨p7 h.size k.size,λi e hi b h1 h2=>by
  have f:=h.keep i e hi b h1 h2;obtain⟨c,g⟩:=hi
  exact(k.keep i e ⟨c,f.trans g⟩ b h1 h2).trans f⟩
theorem Kpt.u{b:M}(h:Below W.heap.size W b):Kpt H ZR W b :=
 ⟨h.size,λk e f _ _ _=>by obtain⟨c,g⟩:=f;exact h.block k (eT.1 g).1⟩
theorem Kpt.setCell (W:M)(g:Nat)(hg:g=H∨g=ZR)(v:ZC):Kpt H ZR W (W.setCell (Q g j Y) v) :=
 ⟨by simp,λk _ _ _ h1 h2=>qh _ _ _ _ (by show k≠g;omega)⟩
structure SLs (w0 W:M)(n1 b off n cap H ZR:Nat)(s:Nat->Bool)(ov:ZC)(ord:List Nat)(dp:Int):Prop where
 c0:W.cell? (Q H 0 Y)=T (Z (T (Q b off Y)) n cap)
 c1:W.cell? (Q H 1 Y)=T (Z (T (Q ZR 0 Y)) n n)
 c2:W.cell? (Q H 2 Y)=T ov/\W.frozen? (Q H 2 Y)=ZA
 c3:W.cell? (Q H 3 Y)=T (N I dp)/\W.frozen? (Q H 3 Y)=ZA
 row:∀q,q<n->W.cell? (Q ZR q Y)=T (ZD (s q))/\W.frozen? (Q ZR q Y)=ZA
 ord:W.ownsRow n1 3 1 ov ord.length (ord.map λq:Nat=>Value.int I (q:Int))
 low:Below w0.heap.size w0 W
 hH:w0.heap.size<=H/\H<n1
 hM:w0.heap.size<=ZR/\ZR<n1
 ne:H≠ZR
 hz:n1<=W.heap.size
theorem SLs.blocks{f:M}{l j:ZC}{ord g:List Nat}{p:Int}(h:SLs i W n1 b off n cap H ZR s l ord p)(hz:W.heap.size<=f.heap.size)(r:f.heap[H]?=W.heap[H]?)(m:f.heap[ZR]?=W.heap[ZR]?)(u:Below i.heap.size i f)(x:j=l)(y:f.ownsRow n1 3 1 l g.length (g.map λq:Nat=>Value.int I (q:Int))):SLs i f n1 b off n cap H ZR s j g p:=by subst x;have c:∀o,f.cell? (Q H o Y)=W.cell? (Q H o Y):=λo=>cq (a:=(Q H o Y)) r;have z:∀o,f.frozen? (Q H o Y)=W.frozen? (Q H o Y):=λo=>JN (a:=(Q H o Y)) r;exact⟨(c 0).trans h.c0,(c 1).trans h.c1,⟨(c 2).trans h.c2.1,(z 2).trans h.c2.2⟩,⟨(c 3).trans h.c3.1,(z 3).trans h.c3.2⟩,λq t=>⟨(cq (a:=(Q ZR q Y)) m).trans (h.row q t).1,(JN (a:=(Q ZR q Y)) m).trans (h.row q t).2⟩,y,u,h.hH,h.hM,h.ne,p7 h.hz hz⟩
theorem SLs.aa{c:M}{g:ZC}{ord:List Nat}{f:Int}(h:SLs i W n1 b off n cap H ZR s g ord f)(hb:Below W.heap.size W c):SLs i c n1 b off n cap H ZR s g ord f :=
 h.blocks hb.size (hb.block H (by have:=h.hH;have:=h.hz;omega)) (hb.block ZR (by have:=h.hM;have:=h.hz;omega)) (h.low.trans (hb.mono h.low.size)) rfl (own_below h.ord hb ly)
theorem oX{f R:Nat}{e:ZI}{v:ZC}{g:List ZC}(h:w.ownsRow b e f v n g)(hR:R<b)(u:ZC):(w.setCell (Q R j Y) u).ownsRow b e f v n g:=by
 refine h.kept (row:=T R) ⟨rfl,rfl,rfl,by simp[World.setCell],λk _ c=>qh _ _ _ _ (by simpa using c)⟩ ?_;cases hv:v.ownBlock with
 |none=>exact .inl rfl
 |some k=>exact .inr λi=>by have:=(h.lt k hv).1;cases i;omega
theorem SLs.mark{j:M}{i:ZC}{ord:List Nat}{g:Int}(h:SLs j W n1 b off n cap H ZR s i ord g)(hp:p<n):SLs j (W.setCell (Q ZR p Y) (ZD ZG)) n1 b off n cap H ZR (put s p) i ord g:=by
 have c:∀o,(W.setCell (Q ZR p Y) (ZD ZG)).cell? (Q H o Y)=W.cell? (Q H o Y):=λo=>sq _ _ _ _ (by first|(simp;done)|(simp;exact λe=>absurd e.symm h.ne)|(simp;exact λe=>absurd e h.ne)|(simp;omega));refine⟨(c 0).trans h.c0,(c 1).trans h.c1,⟨(c 2).trans h.c2.1,by simpa using h.c2.2⟩,⟨(c 3).trans h.c3.1,by simpa using h.c3.2⟩,λq f=>⟨?_,by simpa using(h.row q f).2⟩,oX h.ord h.hM.2 _,h.low.setCell h.hM.1 _,h.hH,h.hM,h.ne,by simpa using h.hz⟩;by_cases e:q=p;{subst e;rw[CX _ _ _ (by rw[(h.row q f).1];rfl)];simp[put]};{rw[sq _ _ _ _ (by first|(simp;done)|(simp;exact λe=>absurd e.symm h.ne)|(simp;exact λe=>absurd e h.ne)|(simp;omega)),(h.row q f).1];simp[put,e]}
theorem SLs.deep{f:ZC}{ord:List Nat}{j:Int}(h:SLs i W n1 b off n cap H ZR s f ord j)(v:Int):SLs i (W.setCell (Q H 3 Y) (N I v)) n1 b off n cap H ZR s f ord v:=by have c:∀o,o≠3->(W.setCell (Q H 3 Y) (N I v)).cell? (Q H o Y)=W.cell? (Q H o Y):=λo ho=>sq _ _ _ _ (by first|(simp;done)|(simp;exact λe=>absurd e.symm h.ne)|(simp;exact λe=>absurd e h.ne)|(simp;omega));refine⟨(c 0 (by omega)).trans h.c0,(c 1 (by omega)).trans h.c1,⟨(c 2 (by omega)).trans h.c2.1,by simpa using h.c2.2⟩,⟨CX _ _ _ (by rw[h.c3.1];rfl),by simpa using h.c3.2⟩,λq g=>⟨(sq _ _ _ _ (by first|(simp;done)|(simp;exact λe=>absurd e.symm h.ne)|(simp;exact λe=>absurd e h.ne)|(simp;omega))).trans (h.row q g).1,by simpa using(h.row q g).2⟩,oX h.ord h.hH.2 _,h.low.setCell h.hH.1 _,h.hH,h.hM,h.ne,by simpa using h.hz⟩
def dI (l:Link):List UInt8 :=
 if l.ask=ZG then [97,115,107,32]++l.e.data.toList++[32]++Lib.decDigits l.L.toNat else [104,97,115,32]++l.e.data.toList++[32]++(if l.has=ZG then [49] else [48])
def doT (x:Ins):List UInt8:=[100,111,32]++aR x.op x.s.data.toList x.n
def ft (g:Nat->Ins):Nat->List UInt8
 |0=>[]
 |k+1=>ft g k++doT (g k)++[10]
def ef (g:Nat->Link):Nat->List UInt8
 |0=>[]
 |k+1=>ef g k++dI (g k)++[10]
def iG (d:Deed):List UInt8:=[115,111,117,114,99,101,32]++d.e.data.toList++[32]++aF d.B.data.toList
def fU (d:Deed):List UInt8:=[110,111,110,101,32]++d.e.data.toList
def eF (d:Deed):List UInt8:=[116,97,114,103,101,116,32]++d.e.data.toList++[32]++Lib.decDigits d.E.toNat++[32]++aF d.B.data.toList
def mZ (d:Deed):List UInt8:=eF d++[10]++ft d.H d.f++ef d.D d.b++[101,110,100,10]
def dJ (d:Deed):List UInt8:=if d.m=1 then iG d++[10] else if d.m=2 then fU d++[10] else mZ d
def aN (f:Nat->Deed)(n:Nat):Nat->List UInt8
 |0=>[97,99,99,111,117,110,116,32]++Lib.decDigits n++[10]
 |k+1=>aN f n k++dJ (f k)
def bG (f:Nat->Deed)(n:Nat):List UInt8:=if de f n=ZG then (if (aN f n n).length<=300000 then aN f n n else []) else []
theorem gX (n:Nat)(h:n<=9223372036854775807):(Lib.decDigits n).length<=21:=by rw[<-Lib.itoa_nonneg];exact Lib.itoa_length_le _ (by omega) (by omega)
theorem pW{s:ByteArray}(h:aw s=ZG):1<=s.size/\s.size<=60:=by unfold aw at h;rw[zA,z8] at h;exact h.1
theorem cF (s:ByteArray):s.data.toList.length=s.size:=by simp
theorem iU (h:ew f p l=ZG):l.e.size<=60/\0<=l.L/\l.L<=p:=by
 unfold ew at h;rw[zA] at h;refine⟨(pW h.1).2,?_⟩;split at h;{simp only[zA,z8] at h;omega};{simp only[z8] at h;omega}
theorem Em (h:ew f p l=ZG)(hp:p<=400):(dI l).length<=100:=by
 obtain⟨h1,h2,h3⟩:=iU h;have h4:=gX l.L.toNat (by omega);have h5:=cF l.e;unfold dI;split;{simp only[cM,eL,nX];omega};{split<;>simp only[cM,eL,nX]<;>omega}
theorem Bb{x:Ins}(h:aH x.op x.s.size x.n=ZG):(doT x).length<=6013:=by have:=un _ _ _ h;unfold doT;simp only[cM,eL,nX];omega
theorem uu{g:Nat->Ins}(h:dD g n=ZG):∀k,k<=n->(ft g k).length<=6014*k:=by
 intro k;induction k with
 |zero=>intro _;simp[ft]
 |succ k b =>intro hk;have h1:=b (by omega);have h2:=Bb (gR h (show k<n by omega));simp only[ft,cM,eL,nX];omega
theorem sj{x:Deed}(h:bN f p x n=ZG)(c:p<=400):∀k,k<=n->(ef x.D k).length<=101*k:=by
 intro k;induction k with
 |zero=>intro _;simp[ef]
 |succ k b =>intro hk;have h1:=b (by omega);have h2:=Em (fS h k (by omega)) c;simp only[ef,cM,eL,nX];omega
theorem lV (h:de f n=ZG):∀p,p<n->(f p).e.size<=60/\(f p).B.size<=2000/\((f p).m=1∨(f p).m=2∨(f p).m=3/\0<=(f p).E/\(f p).E<=5/\dD (f p).H (f p).f=ZG/\(f p).f<=200/\(f p).b<=200/\bN f p (f p) (f p).b=ZG):=by
 intro p i;have h1:=fR (fT h).2.2 p i;simp only[bi,zA,kindOk,z8] at h1;obtain⟨⟨g,c⟩,h2⟩:=h1;refine⟨(pW g).2,c,?_⟩;split at h2;{rename_i b;exact .inl b};{split at h2;{rename_i b;exact .inr (.inl b)};{split at h2;{rename_i b;simp only[cH,zA,z8] at h2;obtain⟨⟨⟨⟨a1,q⟩,o⟩,m⟩,j⟩:=h2;obtain⟨l,b2,b3⟩:=bP o;exact .inr (.inr ⟨b,a1,q,l,by omega,m,j⟩)};{simp at h2}}}
theorem uv (h:de f n=ZG):∀p,p<n->(dJ (f p)).length<=1300000:=by
 intro p c;obtain⟨h1,h2,h3⟩:=lV h p c;have hn:=fT h;have q1:=cF (f p).e;have g:=ep (f p).B.data.toList;rw[cF] at g;unfold dJ;split;{simp only[iG,cM,eL,nX];omega}
 ·split;{simp only[fU,cM,eL,nX];omega}
  ·rcases h3 with h3|h3|⟨_,c1,c2,c3,c4,c5,b⟩
   {omega};{omega};{have d1:=uu c3 _ ly;have d2:=sj b (by omega) _ ly;have d3:=gX (f p).E.toNat (by omega);simp only[mZ,eF,cM,eL,nX];omega}
theorem ss (h:de f n=ZG):∀k,k<=n->(aN f n k).length<=40+1300000*k:=by
 intro k;have hn:=fT h;induction k with
 |zero =>intro _;have:=gX n (by omega);simp only[aN,cM,eL,nX];omega
 |succ k b =>intro hk;have h1:=b (by omega);have h2:=uv h k (by omega);simp only[aN,cM];omega
theorem oy:∀{j k:Nat},j<=k->(aN f n j).length<=(aN f n k).length:=by
 intro j k h;induction k with
 |zero =>
  obtain rfl:j=0:=by omega
  exact n6 _
 |succ k b =>
  by_cases e:j=k+1;{subst e;exact n6 _};{have:=b (by omega);simp only[aN,cM];omega}
theorem Bc (f:Nat->Deed)(n k:Nat):aN f n k≠[]:=by have h:=oy (f:=f) (n:=n) (E4 k);intro e;rw[e] at h;simp[aN] at h
def fu (b:List ByteArray):List ZC:=b.map Value.string
def dK (b:List ByteArray):List UInt8:=b.flatMap (λx=>x.data.toList++[10])
theorem su (b:List ByteArray)(x:ByteArray):fu (b++[x])=fu b++[U x]:=by simp[fu]
theorem gY (b:List ByteArray)(x:ByteArray):dK (b++[x])=dK b++x.data.toList++[10]:=by simp[dK]
theorem nd (x:ByteArray):dK [x]=x.data.toList++[10]:=by simp[dK]
theorem oY (w:M)(s:ByteArray):(A w (J #[U s] 9)).ownsRow w.heap.size 9 1 (Z (T (Q w.heap.size 0 Y)) 1 1) 1 (fu [s]) :=
 ⟨by simp[fu],.inr ⟨w.heap.size,1,#[U s],rfl,n6 _,nL w _,n6 _,by unfold maxLen;omega,by simp,by simp[fu]⟩⟩
structure tY (w w':M)(d:Deed)(v:ZC)(xs:List ByteArray):Prop where
 i:w'.ownsRow w.heap.size 9 1 v xs.length (fu xs)
 ne:xs≠[]
 eq:dK xs=dJ d
 few:xs.length<=402
 aq:Below w.heap.size w w'
theorem ze (d:Deed)(a0:Option Addr)(b:Nat)(a1:Option Addr)(c:Nat)(w:M)(hnm:d.e.size<=60)(o:d.B.size<=2000)(l:d.m=1):Calls Pg 136 #[ZH #[U d.e,N I d.m,N I d.E,U d.B,Z a0 d.f b,Z a1 d.b c]] w λe s=>∃v q,e=ZF v/\tY w s d v q:=by
 have i:=ae ((q9 w).alloc ly (J #[U d.e,N I d.m,N I d.E,U d.B,Z a0 d.f b,Z a1 d.b c] 46));have c0:(A w (J #[U d.e,N I d.m,N I d.E,U d.B,Z a0 d.f b,Z a1 d.b c] 46)).cell? (Q w.heap.size 0 Y)=T (U d.e):=by simp
 have c3:(A w (J #[U d.e,N I d.m,N I d.E,U d.B,Z a0 d.f b,Z a1 d.b c] 46)).cell? (Q w.heap.size 3 Y)=T (U d.B):=by simp
 have hz:w.heap.size<(A w (J #[U d.e,N I d.m,N I d.E,U d.B,Z a0 d.f b,Z a1 d.b c] 46)).heap.size:=by simp
 have n:=ep d.B.data.toList;rw[cF] at n;have r:Hid (dJ d=iG d++[10]):=by show _=_;unfold dJ;rw[p6 l]
 rw[l] at i c0 c3 hz ⊢;clear l;go_enter func136,ntmps136;go_wp2_with fail;have h:w.heap.size<=(A w (J #[U d.e,N I 1,N I d.E,U d.B,Z a0 d.f b,Z a1 d.b c] 46)).heap.size:=i.out.size;generalize A w (J #[U d.e,N I 1,N I d.E,U d.B,Z a0 d.f b,Z a1 d.b c] 46)=W at i c0 c3 hz h ⊢;have t:=ae (λV=>kO d.B V o);generalize hgd:w.heap.size=m at c0 c3 hz ⊢;have hl7:((⟨#[115,111,117,114,99,101,32]⟩:ByteArray)++d.e).size<=100:=by rw[IH];have:(⟨#[115,111,117,114,99,101,32]⟩:ByteArray).size=7:=rfl;omega
 have hl8:((⟨#[115,111,117,114,99,101,32]⟩:ByteArray)++d.e++⟨#[32]⟩).size<=101:=by rw[IH];have:(⟨#[32]⟩:ByteArray).size=1:=rfl;omega
 go_region_with (first
  |(go_at_call 189;refine(t.out _).mono ?_;rintro e j ⟨rfl,f⟩;have g:Hid (Below W.heap.size W j):=⟨f.os,f.tape,f.output,f.size,f.block⟩;have d0:=(g.out.cell (p:=(Q m 0 Y)) hz).trans c0;have hz1:m<j.heap.size:=lj hz g.out.size;clear f))
 all_goals
  go_simp;go_wp2;go_ret;refine⟨_,[_],rfl,⟨aB (oY j _) (p7 h g.out.size),by simp,?_,by simp,i.out.trans ((g.out.alloc g.out.size _).mono h)⟩⟩;rw[r.out,nd];simp[iG]
theorem En:(Pg.info? 9).map (λi=>(i.zero,i.size,i.bytes))=T (T (U ⟨#[]⟩),1,16):=by kernel_rfl
theorem oZ{B:Nat}{t:ZI}{v:ZC}{b:List ByteArray}{x:ByteArray}(h:w.ownsRow B t 1 v n (fu b++[U x])):w.ownsRow B t 1 v n (fu (b++[x])):=by rw[su];exact h
theorem zi (t:Bool)(w:M):Calls Pg 191 #[ZD t] w λe b=>e=ZF (U ⟨#[if t=ZG then 49 else 48]⟩)/\b=w:=by
 cases t
 all_goals
  go_enter func191,ntmps191;go_wp2;go_ret;exact⟨rfl,rfl⟩
theorem wU (d:Deed)(a0:Option Addr)(c:Nat)(a1:Option Addr)(b:Nat)(w:M)(hnm:d.e.size<=60)(h:d.m=2):Calls Pg 136 #[ZH #[U d.e,N I d.m,N I d.E,U d.B,Z a0 d.f c,Z a1 d.b b]] w λe i=>∃v j,e=ZF v/\tY w i d v j:=by
 have g:=ae ((q9 w).alloc ly (J #[U d.e,N I d.m,N I d.E,U d.B,Z a0 d.f c,Z a1 d.b b] 46));have c0:(A w (J #[U d.e,N I d.m,N I d.E,U d.B,Z a0 d.f c,Z a1 d.b b] 46)).cell? (Q w.heap.size 0 Y)=T (U d.e):=by simp
 have hz:w.heap.size<(A w (J #[U d.e,N I d.m,N I d.E,U d.B,Z a0 d.f c,Z a1 d.b b] 46)).heap.size:=by simp
 have l:Hid (dJ d=fU d++[10]):=by show _=_;unfold dJ;rw[gM (by omega),p6 h]
 rw[h] at g c0 hz ⊢;clear h;go_enter func136,ntmps136;go_upto_region 5 with fail;have f:w.heap.size<=(A w (J #[U d.e,N I 2,N I d.E,U d.B,Z a0 d.f c,Z a1 d.b b] 46)).heap.size:=g.size;generalize A w (J #[U d.e,N I 2,N I d.E,U d.B,Z a0 d.f c,Z a1 d.b b] 46)=W at g c0 hz f ⊢;go_wp2;all_goals go_ret
 all_goals
  refine⟨_,[_],rfl,⟨aB (oY W _) f,by simp,?_,by simp,g.trans (((q9 W).alloc ly _).mono f)⟩⟩;rw[l.out,nd];simp[fU]
theorem zj (d:Deed)(a0:Option Addr)(l:Nat)(a1:Option Addr)(f:Nat)(w:M)(hI:SlIns w a0 d.f d.H)(hL:SlLink w a1 d.b d.D)(hnm:d.e.size<=60)(Bk:d.B.size<=2000)(DQ:0<=d.E)(At:d.E<=5)(la:dD d.H d.f=ZG)(hna:d.f<=200)(hnl:d.b<=200)
  (hlk:∀k,k<d.b->(d.D k).e.size<=60/\0<=(d.D k).L/\(d.D k).L<=400) (hk:d.m=3) :
  Calls Pg 136 #[ZH #[U d.e,N I d.m,N I d.E,U d.B,Z a0 d.f l,Z a1 d.b f]] w λe w'=>∃v g,e=ZF v/\tY w w' d v g:=by
 obtain⟨m,hm⟩:∃m:Nat,d.E=(m:Int):=⟨d.E.toNat,by omega⟩
 have hm5:m<=5:=by omega
 have hd:=gX m (by omega);have Fk:=ep d.B.data.toList;rw[cF] at Fk;have Fd:=ae la;have th:=ae hlk;have HE:Hid (dJ d=mZ d):=by show _=_;unfold dJ;rw[gM (by omega),gM (by omega)]
 have L:=ae ((q9 w).alloc ly (J #[U d.e,N I d.m,N I d.E,U d.B,Z a0 d.f l,Z a1 d.b f] 46));have HI:=ae (hI.aa L ly);have HL:=ae (hL.aa L ly);have c0:(A w (J #[U d.e,N I d.m,N I d.E,U d.B,Z a0 d.f l,Z a1 d.b f] 46)).cell? (Q w.heap.size 0 Y)=T (U d.e):=by simp
 have c2:(A w (J #[U d.e,N I d.m,N I d.E,U d.B,Z a0 d.f l,Z a1 d.b f] 46)).cell? (Q w.heap.size 2 Y)=T (N I m):=by rw[<-hm];simp
 have c3:(A w (J #[U d.e,N I d.m,N I d.E,U d.B,Z a0 d.f l,Z a1 d.b f] 46)).cell? (Q w.heap.size 3 Y)=T (U d.B):=by simp
 have c4:(A w (J #[U d.e,N I d.m,N I d.E,U d.B,Z a0 d.f l,Z a1 d.b f] 46)).cell? (Q w.heap.size 4 Y)=T (Z a0 d.f l):=by simp
 have c5:(A w (J #[U d.e,N I d.m,N I d.E,U d.B,Z a0 d.f l,Z a1 d.b f] 46)).cell? (Q w.heap.size 5 Y)=T (Z a1 d.b f):=by simp
 have hz:w.heap.size<(A w (J #[U d.e,N I d.m,N I d.E,U d.B,Z a0 d.f l,Z a1 d.b f] 46)).heap.size:=by simp
 rw[hk] at L HI HL c0 c2 c3 c4 c5 hz ⊢;rw[hm] at L HI HL c0 c2 c3 c4 c5 hz ⊢;clear hk hI hL la hlk DQ At;go_enter func136,ntmps136;go_upto_region 6 with fail;have dg:w.heap.size<=(A w (J #[U d.e,N I 3,N I (m:Int),U d.B,Z a0 d.f l,Z a1 d.b f] 46)).heap.size:=L.size;generalize A w (J #[U d.e,N I 3,N I (m:Int),U d.B,Z a0 d.f l,Z a1 d.b f] 46)=W at L HI HL c0 c2 c3 c4 c5 hz dg ⊢;generalize hgd:w.heap.size=y at c0 c2 c3 c4 c5 hz ⊢;go_cut [3] (λv wx=>∃hd:ByteArray,Hid (hd.data.toList=eF d)/\Hid (wx.ownsRow W.heap.size 9 1 v 1 (fu [hd]))/\Hid (Below W.heap.size W wx));case first =>
  have DH:¬ 9223372036854775807<7+d.e.size:=by omega
  have ro:¬ 9223372036854775807<7+d.e.size+1:=by omega
  have DS:¬ 9223372036854775807<7+d.e.size+1+(Lib.decDigits m).length:=by omega
  have sm:¬ 9223372036854775807<7+d.e.size+1+(Lib.decDigits m).length+1:=by omega
  have hA5:¬ 9223372036854775807<7+d.e.size+1+(Lib.decDigits m).length+1+(aF d.B.data.toList).length:=by omega
  have QT:=ae (λV=>kO d.B V Bk);have IT:=ae (λV=>gE m (by omega) V);have SK:=ae (λV (hB:Below W.heap.size W V)=>(show V.cell? (Q y 0 Y)=T (U d.e)/\V.cell? (Q y 2 Y)=T (N I (m:Int))/\V.cell? (Q y 3 Y)=T (U d.B) from⟨(hB.cell (p:=(Q y 0 Y)) hz).trans c0,(hB.cell (p:=(Q y 2 Y)) hz).trans c2,(hB.cell (p:=(Q y 3 Y)) hz).trans c3⟩));have bt:=ae (show eF d=[116,97,114,103,101,116,32]++d.e.data.toList++[32]++Lib.decDigits m++[32]++aF d.B.data.toList by unfold eF;rw[hm];rfl);go_wp2_with fail;go_region_held3 (λV=>V.cell? (Q y 0 Y)=T (U d.e)/\V.cell? (Q y 2 Y)=T (N I (m:Int))/\V.cell? (Q y 3 Y)=T (U d.B)) (first|exact SK _ br|exact SK _ br.drew|exact SK _ B1|exact SK _ E|exact SK _ (E.alloc E.size _))
   (first
   |(go_at_call 104;refine(IT _).mono ?_;rintro e w1 ⟨rfl,D⟩;have B1:Hid (Below W.heap.size W w1):=⟨D.os,D.tape,D.output,D.size,D.block⟩;clear D)
   |(go_at_call 189;refine(QT _).mono ?_;rintro e ZO ⟨rfl,r⟩;have E:Hid (Below W.heap.size W ZO):=B1.trans (Below.mono (⟨r.os,r.tape,r.output,r.size,r.block⟩:Below w1.heap.size w1 ZO) B1.size);clear r))
  all_goals
   go_simp;go_wp2_with fail;go_meet;refine⟨_,?_,aB (oY ZO _) E.size,E.alloc E.size _⟩;show _=_;rw[bt.out];simp
 case rest =>
 obtain⟨ur,bt,O1,B1⟩:=hcut;obtain⟨w1,DE⟩:∃w1,w1=wc:=⟨_,rfl⟩
 subst DE;obtain⟨i0,hi,ZJ,ZK,aq⟩:=OB En;clear c0 c2 c3;go_upto_region 7 with fail;go_wp2;go_loopw [3,4] (λv i wr=>∃(k:Nat) (g:List ByteArray),k<=d.f/\i=N I k/\g.length=k+1/\Hid (dK g=eF d++[10]++ft d.H k)/\Hid (wr.ownsRow W.heap.size 9 1 v (k+1) (fu g))/\Hid (Below W.heap.size W wr)) (λ_ i _=>d.f - (intOf i).toNat);case atStart=>exact⟨0,[ur],by omega,rfl,rfl,by show _=_;rw[nd,bt.out];simp[ft],O1,B1⟩
 case round =>
  obtain⟨k,g,hk,rfl,ZS,K,ZQ,o⟩:=hrel;have e4:=(o.cell (p:=(Q y 4 Y)) hz).trans c4;have e5:=(o.cell (p:=(Q y 5 Y)) hz).trans c5;have mv:y<wr.heap.size:=lj hz o.size;by_cases H:k<d.f
  ·obtain⟨ib,io,rfl,z⟩:=HI.resolve_left (by omega);obtain⟨j0,j1,j2⟩:=(z.aa o ly).2 k H;have n9:=ae (gR Fd H);have hll:=un _ _ _ n9.out;have ph:(k:Int)<d.f:=by omega
   clear z;go_wp2_with fail;refine(jw _ _ _ _ n9).mono ?_;rintro e ZO ⟨rfl,r⟩;have E:=ae (o.trans (r.mono o.size));have O2:=ae (own_below ZQ r ly);have z2:W.heap.size<=ZO.heap.size:=E.size;clear r j0 j1 j2 e4 e5;go_wp2_with (at_builtin;refine BS _ rfl (.tmp 48) (.tmp 57) 30 rfl W.heap.size 9 i0 (U ⟨#[]⟩) 1 16 IB hi ZJ ZK aq rfl (by decide) _ (k+1) (fu g) (by simp[Act.eval]) (O2.alloc _) (Q ZO.heap.size 0 Y) 1 1 [_] (by simp[Act.eval]) rfl (cu ZO _ _) (by simp[Value.oneCell']) (by unfold maxLen;omega) (by omega) (by simp;omega) ?_;intro v6 w6 c b t;have R:Hid (w6.ownsRow W.heap.size 9 1 v6 (k+1+1) (fu g++[U ((⟨#[100,111,32]⟩:ByteArray)++⟨(aR (d.H k).op (d.H k).s.data.toList (d.H k).n).toArray⟩)])):=c;have F:=ae (bg (E.alloc z2 _) b (by simp;omega) (λj e=>(O2.lt j e).1));clear c b t);exact⟨⟨k+1,g++[((⟨#[100,111,32]⟩:ByteArray)++⟨(aR (d.H k).op (d.H k).s.data.toList (d.H k).n).toArray⟩)],by omega,by go_num,by simp[ZS],by show _=_;rw[gY,K.out,ft];simp[doT],by show World.ownsRow _ _ _ _ _ _ _;rw[su];exact R,F⟩,by simp[intOf];omega⟩
  ·obtain rfl:k=d.f:=by omega
   go_wp2;clear e4 e5;go_loopw [3,5] (λv i wr=>∃(j:Nat) (g:List ByteArray),j<=d.b/\i=N I j/\g.length=d.f+1+j/\Hid (dK g=eF d++[10]++ft d.H d.f++ef d.D j)/\Hid (wr.ownsRow W.heap.size 9 1 v (d.f+1+j) (fu g))/\Hid (Below W.heap.size W wr)) (λ_ i _=>d.b - (intOf i).toNat);case atStart=>exact⟨0,g,by omega,rfl,ZS,by show _=_;rw[K.out];simp[ef],ZQ,o⟩
   case round =>
    clear K ZQ o mv ZS g;obtain⟨j,g,hj,rfl,ZS,K,ZQ,o⟩:=hrel;have e5:=(o.cell (p:=(Q y 5 Y)) hz).trans c5;have mv:y<wr.heap.size:=lj hz o.size;by_cases H:j<d.b
    ·obtain⟨lb,lo,rfl,z⟩:=HL.resolve_left (by omega);obtain⟨p0,p1,p2,p3⟩:=(z.aa o ly).2 j H;obtain⟨q1,q2,q3⟩:=th.out j H;have fd:=ae (show ef d.D (j+1)=ef d.D j++dI (d.D j)++[10] from rfl);have ph:(j:Int)<d.b:=by omega
     generalize d.D j=X at p0 p1 p2 p3 q1 q2 q3 fd;obtain⟨q,hq⟩:∃q:Nat,X.L=(q:Int):=⟨X.L.toNat,by omega⟩
     have hq4:q<=400:=by omega
     have hdq:=gX q (by omega);have ZP:=ae (show dI X=if X.ask=ZG then [97,115,107,32]++X.e.data.toList++[32]++Lib.decDigits q else [104,97,115,32]++X.e.data.toList++[32]++(if X.has=ZG then [49] else [48]) by unfold dI;rw[hq];rfl);rw[hq] at p3;obtain⟨nm,ZM⟩:∃nm,nm=X.e:=⟨_,rfl⟩
     rw[<-ZM] at p0 q1 ZP;have DH:¬ 9223372036854775807<4+nm.size:=by omega
     have ro:¬ 9223372036854775807<4+nm.size+1:=by omega
     have DS:¬ 9223372036854775807<4+nm.size+1+(Lib.decDigits q).length:=by omega
     cases hask:X.ask with
     |true =>
      rw[hask] at p1;have ZR:Hid (dI X=[97,115,107,32]++nm.data.toList++[32]++Lib.decDigits q):=by show _=_;rw[ZP.out,p6 hask]
      have S:=ae ((q9 wr).alloc ly (J #[U nm,ZD ZG,ZD X.has,N I (q:Int)] 91));have OL:=ae (own_below ZQ S ly);have O:=ae (o.trans (S.mono o.size));have m0:(A wr (J #[U nm,ZD ZG,ZD X.has,N I (q:Int)] 91)).cell? (Q wr.heap.size 0 Y)=T (U nm):=by simp
      have m3:(A wr (J #[U nm,ZD ZG,ZD X.has,N I (q:Int)] 91)).cell? (Q wr.heap.size 3 Y)=T (N I q):=by simp
      have x:wr.heap.size<(A wr (J #[U nm,ZD ZG,ZD X.has,N I (q:Int)] 91)).heap.size:=by simp
      clear z ZP hask hq ZM q1 q2 q3;go_wp2_with fail;clear p0 p1 p2 p3 e5 S;generalize A wr (J #[U nm,ZD ZG,ZD X.has,N I (q:Int)] 91)=WL at OL O m0 m3 x ⊢;generalize wr.heap.size=gl at m0 m3 x ⊢
      go_region_law (first
       |(refine eN rfl (.tmp 73) (.tmp 82) 30 rfl W.heap.size 9 i0 (U ⟨#[]⟩) 1 16 IB hi ZJ ZK aq rfl (by decide) u3 (d.f+1+j) (fu g) (by simp[Act.eval]) (by first|exact B.alloc _|exact B.drew.alloc _|exact B.drew.drew.alloc _) (Q u.heap.size 0 Y) 1 1 [_] (by simp[Act.eval]) rfl (by first|exact cu u _ _|exact cu u.drew _ _|exact cu u.drew.drew _ _) (by simp[Value.oneCell']) (by unfold maxLen;omega) (by omega) (by simp<;>omega) ?_;intro v6 w6 c b t;have R:=ae c;(first|have F:=ae (bg (ZN.alloc P _) b (by simp<;>omega) (λj e=>(B.lt j e).1))|have F:=ae (bg (ZN.drew.alloc (by simpa using P) _) b (by simp<;>omega) (λj e=>(B.lt j e).1)));clear c b t)
       |(go_simp;go_at_call 104;refine(gE q (by omega) _).mono ?_;rintro e u ⟨rfl,C⟩;have G:Hid (Below WL.heap.size WL u):=⟨C.os,C.tape,C.output,C.size,C.block⟩;have B:=ae (own_below OL G ly);have ZN:=ae (O.trans (G.mono O.size));have P:W.heap.size<=u.heap.size:=ZN.size;have n5:=(G.cell (p:=(Q gl 0 Y)) x).trans m0;have qr:gl<u.heap.size:=lj x G.size;clear C))
      all_goals
       go_simp;go_wp2;refine⟨⟨j+1,g++[_],by omega,by go_num,by simp[ZS];omega,?_,oZ R,F⟩,by simp[intOf];omega⟩;show _=_;rw[gY,K.out,fd.out,ZR.out];simp
     |false =>
      rw[hask] at p1;obtain⟨tb,ZL⟩:∃tb:ByteArray,tb=⟨#[if X.has=ZG then 49 else 48]⟩:=⟨_,rfl⟩
      have FL:=ae (λV=>by have h:=zi X.has V;rw[<-ZL] at h;exact h);have Fm:tb.size=1:=by rw[ZL];rfl
      have sm:¬ 9223372036854775807<4+nm.size+1+tb.size:=by omega
      have ZR:Hid (dI X=[104,97,115,32]++nm.data.toList++[32]++tb.data.toList):=by show _=_;rw[ZP.out,gM (by rw[hask];simp),ZL];cases X.has<;>rfl
      have S:=ae ((q9 wr).alloc ly (J #[U nm,ZD ZA,ZD X.has,N I (q:Int)] 91));have OL:=ae (own_below ZQ S ly);have O:=ae (o.trans (S.mono o.size));have m0:(A wr (J #[U nm,ZD ZA,ZD X.has,N I (q:Int)] 91)).cell? (Q wr.heap.size 0 Y)=T (U nm):=by simp
      have m2:(A wr (J #[U nm,ZD ZA,ZD X.has,N I (q:Int)] 91)).cell? (Q wr.heap.size 2 Y)=T (ZD X.has):=by simp
      have x:wr.heap.size<(A wr (J #[U nm,ZD ZA,ZD X.has,N I (q:Int)] 91)).heap.size:=by simp
      clear z ZP hask hq ZM q1 q2 q3 ZL Fm;go_wp2_with fail;clear p0 p1 p2 p3 e5 S;generalize A wr (J #[U nm,ZD ZA,ZD X.has,N I (q:Int)] 91)=WL at OL O m0 m2 x ⊢;generalize wr.heap.size=gl at m0 m2 x ⊢
      go_region_law (first
       |(refine eN rfl (.tmp 84) (.tmp 93) 30 rfl W.heap.size 9 i0 (U ⟨#[]⟩) 1 16 IB hi ZJ ZK aq rfl (by decide) u3 (d.f+1+j) (fu g) (by simp[Act.eval]) (by first|exact B.alloc _|exact B.drew.alloc _|exact B.drew.drew.alloc _) (Q u.heap.size 0 Y) 1 1 [_] (by simp[Act.eval]) rfl (by first|exact cu u _ _|exact cu u.drew _ _|exact cu u.drew.drew _ _) (by simp[Value.oneCell']) (by unfold maxLen;omega) (by omega) (by simp<;>omega) ?_;intro v6 w6 c b t;have R:=ae c;(first|have F:=ae (bg (ZN.alloc P _) b (by simp<;>omega) (λj e=>(B.lt j e).1))|have F:=ae (bg (ZN.drew.alloc (by simpa using P) _) b (by simp<;>omega) (λj e=>(B.lt j e).1)));clear c b t)
       |(go_simp;go_at_call 191;refine(FL _).mono ?_;rintro e u ⟨rfl,ld⟩;have G:Hid (Below WL.heap.size WL u):=(by rw[ld];first|exact dB _ _|exact br.drew|exact br.drew.drew|exact br.drew.drew.drew);have B:=ae (own_below OL G ly);have ZN:=ae (O.trans (G.mono O.size));have P:W.heap.size<=u.heap.size:=ZN.size;have n5:=(G.cell (p:=(Q gl 0 Y)) x).trans m0;have qr:gl<u.heap.size:=lj x G.size;clear ld))
      all_goals
       go_simp;go_wp2;refine⟨⟨j+1,g++[_],by omega,by go_num,by simp[ZS];omega,?_,oZ R,F⟩,by simp[intOf];omega⟩;show _=_;rw[gY,K.out,fd.out,ZR.out];simp
    ·obtain rfl:j=d.b:=by omega
     have P:W.heap.size<=wr.heap.size:=o.size;go_wp2_with (at_builtin;refine BS _ rfl (.tmp 95) (.tmp 96) 30 rfl W.heap.size 9 i0 (U ⟨#[]⟩) 1 16 IB hi ZJ ZK aq rfl (by decide) _ (d.f+1+d.b) (fu g) (by simp[Act.eval]) (ZQ.alloc _) (Q wr.heap.size 0 Y) 1 1 [_] (by simp[Act.eval]) rfl (cu wr _ _) (by simp[Value.oneCell']) (by unfold maxLen;omega) (by omega) (by simp;omega) ?_;intro v6 w6 c b t;have R:=ae c;have F:=ae (bg (o.alloc P _) b (by simp;omega) (λj e=>(ZQ.lt j e).1));clear c b t);go_ret;refine⟨_,g++[(⟨#[101,110,100]⟩:ByteArray)],rfl,⟨?_,by simp,?_,by simp[ZS];omega,L.trans (F.mono dg)⟩⟩
     ·have h:=aB (oZ R) dg;have hl:(g++[(⟨#[101,110,100]⟩:ByteArray)]).length=d.f+1+d.b+1:=by simp[ZS]
      rw[hl];exact h
     {rw[gY,K.out,HE.out];simp[mZ]}
