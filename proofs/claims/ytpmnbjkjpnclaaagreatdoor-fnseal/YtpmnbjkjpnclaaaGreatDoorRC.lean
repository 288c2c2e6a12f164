import Derived.Test.YtpmnbjkjpnclaaaGreatDoorSR
import Derived.Deep.RegionHeld3
import Derived.Test.YtpmnbjkjpnclaaaGreatDoorSP
import Derived.Test.YtpmnbjkjpnclaaaGreatDoorSE
set_option maxRecDepth 1000000
set_option maxHeartbeats 8000000
open Go renaming Addr.mk->Q,Value.slice->Z,Value.string->Y,Value.int->J,Value.bool->ZD,Obj.cells->N,IntKind.i64->I,World->M,Value->ZC,TypeId->ZH,Ending.returned->ZF,World.alloc->A,Proofs.Tryz.prog->Pg
open Option renaming none->U,some->T
open Bool renaming false->ZA,true->ZG
namespace Go.Proofs.YtpmnbjkjpnclaaaGreatDoor.Vp
open Tryz RowKit
variable {n H ZQ b n1 off cap p j:Nat}{f:Nat->Deed}{W i w:M}{s:Nat->Bool}{g:ZC}{l:Link}
def cY (f:Nat->Deed)(d:Int)(x:Nat × Nat):Int:=if (f x.1).m=3/\60<=x.2/\(d<0∨(x.1:Int)<d) then (x.1:Int) else d
def cU (f:Nat->Deed)(d:Int):List (Nat × Nat)->Int
 |[]=>d
 |x::xs=>cU f (cY f d x) xs
theorem mJ (f:Nat->Deed)(d:Int)(b c:List (Nat × Nat)):cU f d (b++c)=cU f (cU f d b) c:=by
 induction b generalizing d with
 |nil=>rfl
 |cons x b g=>simp only[IN,cU];exact g _
theorem yY (f:Nat->Deed)(d:Int)(x y:Nat × Nat):cY f (cY f d x) y=cY f (cY f d y) x:=by
 unfold cY;by_cases c:(f x.1).m=3/\60<=x.2;{by_cases b:(f y.1).m=3/\60<=y.2;{simp only[c.1,c.2,b.1,b.2,TF];(repeat' split)<;>omega};{have e:∀z:Prop,¬ ((f y.1).m=3/\60<=y.2/\z):=λz h=>b ⟨h.1,h.2.1⟩;rw[gM (e _),gM (e _)]}};{have e:∀z:Prop,¬ ((f x.1).m=3/\60<=x.2/\z):=λz h=>c ⟨h.1,h.2.1⟩;rw[gM (e _),gM (e _)]}
theorem wP (f:Nat->Deed)(d:Int)(x:Nat × Nat)(b:List (Nat × Nat)):cU f (cY f d x) b=cY f (cU f d b) x:=by
 induction b generalizing d with
 |nil=>rfl
 |cons y ys c =>simp only[cU];rw[yY,c]
def TyAt (w:M)(g:Nat)(e:ZH):Prop:=∃b,w.heap[g]?=T (N b e (0,0))
structure Kpt (H ZQ:Nat)(W W':M):Prop where
 size:W.heap.size<=W'.heap.size
 keep:∀k e,TyAt W k e->e≠3->k≠H->k≠ZQ->W'.heap[k]?=W.heap[k]?
theorem Kpt.trans{ZR B C:M}(h:Kpt H ZQ ZR B)(k:Kpt H ZQ B C):Kpt H ZQ ZR C :=
 ⟨p7 h.size k.size,λi e hi b h1 h2=>by
  have f:=h.keep i e hi b h1 h2;obtain⟨c,g⟩:=hi
  exact(k.keep i e ⟨c,f.trans g⟩ b h1 h2).trans f⟩
theorem Kpt.u{b:M}(h:Below W.heap.size W b):Kpt H ZQ W b :=
 ⟨h.size,λk e f _ _ _=>by obtain⟨c,g⟩:=f;exact h.block k (eT.1 g).1⟩
theorem Kpt.setCell (W:M)(g:Nat)(hg:g=H∨g=ZQ)(v:ZC):Kpt H ZQ W (W.setCell (Q g j U) v) :=
 ⟨by simp,λk _ _ _ h1 h2=>qh _ _ _ _ (by show k≠g;omega)⟩
structure SLs (w0 W:M)(n1 b off n cap H ZQ:Nat)(s:Nat->Bool)(ov:ZC)(ord:List Nat)(dp:Int):Prop where
 c0:W.cell? (Q H 0 U)=T (Z (T (Q b off U)) n cap)
 c1:W.cell? (Q H 1 U)=T (Z (T (Q ZQ 0 U)) n n)
 c2:W.cell? (Q H 2 U)=T ov/\W.frozen? (Q H 2 U)=ZA
 c3:W.cell? (Q H 3 U)=T (J I dp)/\W.frozen? (Q H 3 U)=ZA
 row:∀q,q<n->W.cell? (Q ZQ q U)=T (ZD (s q))/\W.frozen? (Q ZQ q U)=ZA
 ord:W.ownsRow n1 3 1 ov ord.length (ord.map λq:Nat=>Value.int I (q:Int))
 low:Below w0.heap.size w0 W
 hH:w0.heap.size<=H/\H<n1
 hM:w0.heap.size<=ZQ/\ZQ<n1
 ne:H≠ZQ
 hz:n1<=W.heap.size
theorem SLs.blocks{f:M}{l j:ZC}{ord g:List Nat}{m:Int}(h:SLs i W n1 b off n cap H ZQ s l ord m)(hz:W.heap.size<=f.heap.size)(p:f.heap[H]?=W.heap[H]?)(r:f.heap[ZQ]?=W.heap[ZQ]?)(y:Below i.heap.size i f)(u:j=l)(x:f.ownsRow n1 3 1 l g.length (g.map λq:Nat=>Value.int I (q:Int))):SLs i f n1 b off n cap H ZQ s j g m:=by subst u;have c:∀o,f.cell? (Q H o U)=W.cell? (Q H o U):=λo=>cq (a:=(Q H o U)) p;have z:∀o,f.frozen? (Q H o U)=W.frozen? (Q H o U):=λo=>JN (a:=(Q H o U)) p;exact⟨(c 0).trans h.c0,(c 1).trans h.c1,⟨(c 2).trans h.c2.1,(z 2).trans h.c2.2⟩,⟨(c 3).trans h.c3.1,(z 3).trans h.c3.2⟩,λq t=>⟨(cq (a:=(Q ZQ q U)) r).trans (h.row q t).1,(JN (a:=(Q ZQ q U)) r).trans (h.row q t).2⟩,x,y,h.hH,h.hM,h.ne,p7 h.hz hz⟩
theorem SLs.aa{f:M}{ord:List Nat}{c:Int}(h:SLs i W n1 b off n cap H ZQ s g ord c)(hb:Below W.heap.size W f):SLs i f n1 b off n cap H ZQ s g ord c :=
 h.blocks hb.size (hb.block H (by have:=h.hH;have:=h.hz;omega)) (hb.block ZQ (by have:=h.hM;have:=h.hz;omega)) (h.low.trans (hb.mono h.low.size)) rfl (own_below h.ord hb ly)
theorem oT{g R:Nat}{e:ZH}{v:ZC}{c:List ZC}(h:w.ownsRow b e g v n c)(hR:R<b)(u:ZC):(w.setCell (Q R j U) u).ownsRow b e g v n c:=by
 refine h.kept (row:=T R) ⟨rfl,rfl,rfl,by simp[World.setCell],λk _ f=>qh _ _ _ _ (by simpa using f)⟩ ?_;cases hv:v.ownBlock with
 |none=>exact .inl rfl
 |some k=>exact .inr λi=>by have:=(h.lt k hv).1;cases i;omega
theorem SLs.mark{j:M}{i:ZC}{ord:List Nat}{g:Int}(h:SLs j W n1 b off n cap H ZQ s i ord g)(hp:p<n):SLs j (W.setCell (Q ZQ p U) (ZD ZG)) n1 b off n cap H ZQ (put s p) i ord g:=by
 have c:∀o,(W.setCell (Q ZQ p U) (ZD ZG)).cell? (Q H o U)=W.cell? (Q H o U):=λo=>sq _ _ _ _ (by first|(simp;done)|(simp;exact λe=>absurd e.symm h.ne)|(simp;exact λe=>absurd e h.ne)|(simp;omega));refine⟨(c 0).trans h.c0,(c 1).trans h.c1,⟨(c 2).trans h.c2.1,by simpa using h.c2.2⟩,⟨(c 3).trans h.c3.1,by simpa using h.c3.2⟩,λq f=>⟨?_,by simpa using(h.row q f).2⟩,oT h.ord h.hM.2 _,h.low.setCell h.hM.1 _,h.hH,h.hM,h.ne,by simpa using h.hz⟩;by_cases e:q=p;{subst e;rw[CX _ _ _ (by rw[(h.row q f).1];rfl)];simp[put]};{rw[sq _ _ _ _ (by first|(simp;done)|(simp;exact λe=>absurd e.symm h.ne)|(simp;exact λe=>absurd e h.ne)|(simp;omega)),(h.row q f).1];simp[put,e]}
theorem SLs.deep{ord:List Nat}{j:Int}(h:SLs i W n1 b off n cap H ZQ s g ord j)(v:Int):SLs i (W.setCell (Q H 3 U) (J I v)) n1 b off n cap H ZQ s g ord v:=by have c:∀o,o≠3->(W.setCell (Q H 3 U) (J I v)).cell? (Q H o U)=W.cell? (Q H o U):=λo ho=>sq _ _ _ _ (by first|(simp;done)|(simp;exact λe=>absurd e.symm h.ne)|(simp;exact λe=>absurd e h.ne)|(simp;omega));refine⟨(c 0 (by omega)).trans h.c0,(c 1 (by omega)).trans h.c1,⟨(c 2 (by omega)).trans h.c2.1,by simpa using h.c2.2⟩,⟨CX _ _ _ (by rw[h.c3.1];rfl),by simpa using h.c3.2⟩,λq f=>⟨(sq _ _ _ _ (by first|(simp;done)|(simp;exact λe=>absurd e.symm h.ne)|(simp;exact λe=>absurd e h.ne)|(simp;omega))).trans (h.row q f).1,by simpa using(h.row q f).2⟩,oT h.ord h.hH.2 _,h.low.setCell h.hH.1 _,h.hH,h.hM,h.ne,by simpa using h.hz⟩
def dH (l:Link):List UInt8 :=
 if l.ask=ZG then [97,115,107,32]++l.e.data.toList++[32]++Lib.decDigits l.L.toNat else [104,97,115,32]++l.e.data.toList++[32]++(if l.has=ZG then [49] else [48])
def doT (x:Ins):List UInt8:=[100,111,32]++aR x.op x.s.data.toList x.n
def fq (g:Nat->Ins):Nat->List UInt8
 |0=>[]
 |k+1=>fq g k++doT (g k)++[10]
def ee (g:Nat->Link):Nat->List UInt8
 |0=>[]
 |k+1=>ee g k++dH (g k)++[10]
def iD (d:Deed):List UInt8:=[115,111,117,114,99,101,32]++d.e.data.toList++[32]++aF d.B.data.toList
def fT (d:Deed):List UInt8:=[110,111,110,101,32]++d.e.data.toList
def eE (d:Deed):List UInt8:=[116,97,114,103,101,116,32]++d.e.data.toList++[32]++Lib.decDigits d.E.toNat++[32]++aF d.B.data.toList
def mV (d:Deed):List UInt8:=eE d++[10]++fq d.H d.f++ee d.D d.b++[101,110,100,10]
def dI (d:Deed):List UInt8:=if d.m=1 then iD d++[10] else if d.m=2 then fT d++[10] else mV d
def aN (f:Nat->Deed)(n:Nat):Nat->List UInt8
 |0=>[97,99,99,111,117,110,116,32]++Lib.decDigits n++[10]
 |k+1=>aN f n k++dI (f k)
def bF (f:Nat->Deed)(n:Nat):List UInt8:=if de f n=ZG then (if (aN f n n).length<=300000 then aN f n n else []) else []
theorem gU (n:Nat)(h:n<=9223372036854775807):(Lib.decDigits n).length<=21:=by rw[<-Lib.itoa_nonneg];exact Lib.itoa_length_le _ (by omega) (by omega)
theorem pS{s:ByteArray}(h:aw s=ZG):1<=s.size/\s.size<=60:=by unfold aw at h;rw[z8,AI] at h;exact h.1
theorem cF (s:ByteArray):s.data.toList.length=s.size:=by simp
theorem iS (h:eu f p l=ZG):l.e.size<=60/\0<=l.L/\l.L<=p:=by
 unfold eu at h;rw[z8] at h;refine⟨(pS h.1).2,?_⟩;split at h;{simp only[z8,AI] at h;omega};{simp only[AI] at h;omega}
theorem Eg (h:eu f p l=ZG)(hp:p<=400):(dH l).length<=100:=by
 obtain⟨h1,h2,h3⟩:=iS h;have h4:=gU l.L.toNat (by omega);have h5:=cF l.e;unfold dH;split;{simp only[cM,eL,nX];omega};{split<;>simp only[cM,eL,nX]<;>omega}
theorem AV{x:Ins}(h:aH x.op x.s.size x.n=ZG):(doT x).length<=6013:=by have:=uj _ _ _ h;unfold doT;simp only[cM,eL,nX];omega
theorem uq{g:Nat->Ins}(h:dC g n=ZG):∀k,k<=n->(fq g k).length<=6014*k:=by
 intro k;induction k with
 |zero=>intro _;simp[fq]
 |succ k b =>intro hk;have h1:=b (by omega);have h2:=AV (gP h (show k<n by omega));simp only[fq,cM,eL,nX];omega
theorem sd{x:Deed}(h:bN f p x n=ZG)(c:p<=400):∀k,k<=n->(ee x.D k).length<=101*k:=by
 intro k;induction k with
 |zero=>intro _;simp[ee]
 |succ k b =>intro hk;have h1:=b (by omega);have h2:=Eg (fR h k (by omega)) c;simp only[ee,cM,eL,nX];omega
theorem lU (h:de f n=ZG):∀p,p<n->(f p).e.size<=60/\(f p).B.size<=2000/\((f p).m=1∨(f p).m=2∨(f p).m=3/\0<=(f p).E/\(f p).E<=5/\dC (f p).H (f p).f=ZG/\(f p).f<=200/\(f p).b<=200/\bN f p (f p) (f p).b=ZG):=by
 intro p l;have h1:=fQ (fS h).2.2 p l;simp only[bi,z8,kindOk,AI] at h1;obtain⟨⟨j,c⟩,h2⟩:=h1;refine⟨(pS j).2,c,?_⟩;split at h2;{rename_i b;exact .inl b};{split at h2;{rename_i b;exact .inr (.inl b)};{split at h2;{rename_i b;simp only[cH,z8,AI] at h2;obtain⟨⟨⟨⟨a1,o⟩,q⟩,i⟩,m⟩:=h2;obtain⟨g,b2,b3⟩:=bP q;exact .inr (.inr ⟨b,a1,o,g,by omega,i,m⟩)};{simp at h2}}}
theorem us (h:de f n=ZG):∀p,p<n->(dI (f p)).length<=1300000:=by
 intro p c;obtain⟨h1,h2,h3⟩:=lU h p c;have hn:=fS h;have q1:=cF (f p).e;have b:=ep (f p).B.data.toList;rw[cF] at b;unfold dI;split;{simp only[iD,cM,eL,nX];omega}
 ·split;{simp only[fT,cM,eL,nX];omega}
  ·rcases h3 with h3|h3|⟨_,c1,c2,c3,c4,c5,g⟩
   {omega};{omega};{have d1:=uq c3 _ ly;have d2:=sd g (by omega) _ ly;have d3:=gU (f p).E.toNat (by omega);simp only[mV,eE,cM,eL,nX];omega}
theorem se (h:de f n=ZG):∀k,k<=n->(aN f n k).length<=40+1300000*k:=by
 intro k;have hn:=fS h;induction k with
 |zero =>intro _;have:=gU n (by omega);simp only[aN,cM,eL,nX];omega
 |succ k b =>intro hk;have h1:=b (by omega);have h2:=us h k (by omega);simp only[aN,cM];omega
theorem ol:∀{j k:Nat},j<=k->(aN f n j).length<=(aN f n k).length:=by
 intro j k h;induction k with
 |zero =>
  obtain rfl:j=0:=by omega
  exact n6 _
 |succ k b =>
  by_cases e:j=k+1;{subst e;exact n6 _};{have:=b (by omega);simp only[aN,cM];omega}
theorem AX (f:Nat->Deed)(n k:Nat):aN f n k≠[]:=by have h:=ol (f:=f) (n:=n) (E4 k);intro e;rw[e] at h;simp[aN] at h
def ft (b:List ByteArray):List ZC:=b.map Value.string
def dJ (b:List ByteArray):List UInt8:=b.flatMap (λx=>x.data.toList++[10])
theorem sf (b:List ByteArray)(x:ByteArray):ft (b++[x])=ft b++[Y x]:=by simp[ft]
theorem gV (b:List ByteArray)(x:ByteArray):dJ (b++[x])=dJ b++x.data.toList++[10]:=by simp[dJ]
theorem mW (x:ByteArray):dJ [x]=x.data.toList++[10]:=by simp[dJ]
theorem oU (w:M)(s:ByteArray):(A w (N #[Y s] 9)).ownsRow w.heap.size 9 1 (Z (T (Q w.heap.size 0 U)) 1 1) 1 (ft [s]) :=
 ⟨by simp[ft],.inr ⟨w.heap.size,1,#[Y s],rfl,n6 _,nL w _,n6 _,by unfold maxLen;omega,by simp,by simp[ft]⟩⟩
structure tV (w w':M)(d:Deed)(v:ZC)(xs:List ByteArray):Prop where
 i:w'.ownsRow w.heap.size 9 1 v xs.length (ft xs)
 ne:xs≠[]
 eq:dJ xs=dI d
 few:xs.length<=402
 ao:Below w.heap.size w w'
theorem yZ (d:Deed)(a0:Option Addr)(c:Nat)(a1:Option Addr)(b:Nat)(w:M)(hnm:d.e.size<=60)(o:d.B.size<=2000)(j:d.m=1):Calls Pg 136 #[.agg #[Y d.e,J I d.m,J I d.E,Y d.B,Z a0 d.f c,Z a1 d.b b]] w λe q=>∃v s,e=ZF v/\tV w q d v s:=by
 have i:=ae ((q9 w).alloc ly (N #[Y d.e,J I d.m,J I d.E,Y d.B,Z a0 d.f c,Z a1 d.b b] 46));have c0:(A w (N #[Y d.e,J I d.m,J I d.E,Y d.B,Z a0 d.f c,Z a1 d.b b] 46)).cell? (Q w.heap.size 0 U)=T (Y d.e):=by simp
 have c3:(A w (N #[Y d.e,J I d.m,J I d.E,Y d.B,Z a0 d.f c,Z a1 d.b b] 46)).cell? (Q w.heap.size 3 U)=T (Y d.B):=by simp
 have hz:w.heap.size<(A w (N #[Y d.e,J I d.m,J I d.E,Y d.B,Z a0 d.f c,Z a1 d.b b] 46)).heap.size:=by simp
 have n:=ep d.B.data.toList;rw[cF] at n;have r:Hid (dI d=iD d++[10]):=by show _=_;unfold dI;rw[p6 j]
 rw[j] at i c0 c3 hz ⊢;clear j;go_enter func136,ntmps136;go_wp2_with fail;have h:w.heap.size<=(A w (N #[Y d.e,J I 1,J I d.E,Y d.B,Z a0 d.f c,Z a1 d.b b] 46)).heap.size:=i.out.size;generalize A w (N #[Y d.e,J I 1,J I d.E,Y d.B,Z a0 d.f c,Z a1 d.b b] 46)=W at i c0 c3 hz h ⊢;have t:=ae (λV=>kN d.B V o);generalize hgd:w.heap.size=m at c0 c3 hz ⊢;have hl7:((⟨#[115,111,117,114,99,101,32]⟩:ByteArray)++d.e).size<=100:=by rw[IH];have:(⟨#[115,111,117,114,99,101,32]⟩:ByteArray).size=7:=rfl;omega
 have hl8:((⟨#[115,111,117,114,99,101,32]⟩:ByteArray)++d.e++⟨#[32]⟩).size<=101:=by rw[IH];have:(⟨#[32]⟩:ByteArray).size=1:=rfl;omega
 go_region_with (first
  |(go_at_call 189;refine(t.out _).mono ?_;rintro e l ⟨rfl,f⟩;have g:Hid (Below W.heap.size W l):=⟨f.os,f.tape,f.output,f.size,f.block⟩;have d0:=(g.out.cell (p:=(Q m 0 U)) hz).trans c0;have hz1:m<l.heap.size:=lj hz g.out.size;clear f))
 all_goals
  go_simp;go_wp2;go_ret;refine⟨_,[_],rfl,⟨aB (oU l _) (p7 h g.out.size),by simp,?_,by simp,i.out.trans ((g.out.alloc g.out.size _).mono h)⟩⟩;rw[r.out,mW];simp[iD]
theorem Eh:(Pg.info? 9).map (λi=>(i.zero,i.size,i.bytes))=T (T (Y ⟨#[]⟩),1,16):=by kernel_rfl
theorem oV{B:Nat}{t:ZH}{v:ZC}{b:List ByteArray}{x:ByteArray}(h:w.ownsRow B t 1 v n (ft b++[Y x])):w.ownsRow B t 1 v n (ft (b++[x])):=by rw[sf];exact h
theorem zb (t:Bool)(w:M):Calls Pg 191 #[ZD t] w λe b=>e=ZF (Y ⟨#[if t=ZG then 49 else 48]⟩)/\b=w:=by
 cases t
 all_goals
  go_enter func191,ntmps191;go_wp2;go_ret;exact⟨rfl,rfl⟩
theorem wQ (d:Deed)(a0:Option Addr)(c:Nat)(a1:Option Addr)(b:Nat)(w:M)(hnm:d.e.size<=60)(h:d.m=2):Calls Pg 136 #[.agg #[Y d.e,J I d.m,J I d.E,Y d.B,Z a0 d.f c,Z a1 d.b b]] w λe i=>∃v l,e=ZF v/\tV w i d v l:=by
 have g:=ae ((q9 w).alloc ly (N #[Y d.e,J I d.m,J I d.E,Y d.B,Z a0 d.f c,Z a1 d.b b] 46));have c0:(A w (N #[Y d.e,J I d.m,J I d.E,Y d.B,Z a0 d.f c,Z a1 d.b b] 46)).cell? (Q w.heap.size 0 U)=T (Y d.e):=by simp
 have hz:w.heap.size<(A w (N #[Y d.e,J I d.m,J I d.E,Y d.B,Z a0 d.f c,Z a1 d.b b] 46)).heap.size:=by simp
 have j:Hid (dI d=fT d++[10]):=by show _=_;unfold dI;rw[gM (by omega),p6 h]
 rw[h] at g c0 hz ⊢;clear h;go_enter func136,ntmps136;go_upto_region 5 with fail;have f:w.heap.size<=(A w (N #[Y d.e,J I 2,J I d.E,Y d.B,Z a0 d.f c,Z a1 d.b b] 46)).heap.size:=g.size;generalize A w (N #[Y d.e,J I 2,J I d.E,Y d.B,Z a0 d.f c,Z a1 d.b b] 46)=W at g c0 hz f ⊢;go_wp2;all_goals go_ret
 all_goals
  refine⟨_,[_],rfl,⟨aB (oU W _) f,by simp,?_,by simp,g.trans (((q9 W).alloc ly _).mono f)⟩⟩;rw[j.out,mW];simp[fT]
theorem zc (d:Deed)(a0:Option Addr)(g:Nat)(a1:Option Addr)(c:Nat)(w:M)(hI:SlIns w a0 d.f d.H)(hL:SlLink w a1 d.b d.D)(hnm:d.e.size<=60)(DS:d.B.size<=2000)(DQ:0<=d.E)(ur:d.E<=5)(ph:dC d.H d.f=ZG)(hna:d.f<=200)(hnl:d.b<=200)
  (n9:∀k,k<d.b->(d.D k).e.size<=60/\0<=(d.D k).L/\(d.D k).L<=400) (hk:d.m=3) :
  Calls Pg 136 #[.agg #[Y d.e,J I d.m,J I d.E,Y d.B,Z a0 d.f g,Z a1 d.b c]] w λe w'=>∃v f,e=ZF v/\tV w w' d v f:=by
 obtain⟨m,hm⟩:∃m:Nat,d.E=(m:Int):=⟨d.E.toNat,by omega⟩
 have hm5:m<=5:=by omega
 have hd:=gU m (by omega);have Fm:=ep d.B.data.toList;rw[cF] at Fm;have sm:=ae ph;have DH:=ae n9;have HE:Hid (dI d=mV d):=by show _=_;unfold dI;rw[gM (by omega),gM (by omega)]
 have S:=ae ((q9 w).alloc ly (N #[Y d.e,J I d.m,J I d.E,Y d.B,Z a0 d.f g,Z a1 d.b c] 46));have HI:=ae (hI.aa S ly);have HL:=ae (hL.aa S ly);have c0:(A w (N #[Y d.e,J I d.m,J I d.E,Y d.B,Z a0 d.f g,Z a1 d.b c] 46)).cell? (Q w.heap.size 0 U)=T (Y d.e):=by simp
 have c2:(A w (N #[Y d.e,J I d.m,J I d.E,Y d.B,Z a0 d.f g,Z a1 d.b c] 46)).cell? (Q w.heap.size 2 U)=T (J I m):=by rw[<-hm];simp
 have c3:(A w (N #[Y d.e,J I d.m,J I d.E,Y d.B,Z a0 d.f g,Z a1 d.b c] 46)).cell? (Q w.heap.size 3 U)=T (Y d.B):=by simp
 have c4:(A w (N #[Y d.e,J I d.m,J I d.E,Y d.B,Z a0 d.f g,Z a1 d.b c] 46)).cell? (Q w.heap.size 4 U)=T (Z a0 d.f g):=by simp
 have c5:(A w (N #[Y d.e,J I d.m,J I d.E,Y d.B,Z a0 d.f g,Z a1 d.b c] 46)).cell? (Q w.heap.size 5 U)=T (Z a1 d.b c):=by simp
 have hz:w.heap.size<(A w (N #[Y d.e,J I d.m,J I d.E,Y d.B,Z a0 d.f g,Z a1 d.b c] 46)).heap.size:=by simp
 rw[hk] at S HI HL c0 c2 c3 c4 c5 hz ⊢;rw[hm] at S HI HL c0 c2 c3 c4 c5 hz ⊢;clear hk hI hL ph n9 DQ ur;go_enter func136,ntmps136;go_upto_region 6 with fail;have dg:w.heap.size<=(A w (N #[Y d.e,J I 3,J I (m:Int),Y d.B,Z a0 d.f g,Z a1 d.b c] 46)).heap.size:=S.size;generalize A w (N #[Y d.e,J I 3,J I (m:Int),Y d.B,Z a0 d.f g,Z a1 d.b c] 46)=W at S HI HL c0 c2 c3 c4 c5 hz dg ⊢;generalize hgd:w.heap.size=y at c0 c2 c3 c4 c5 hz ⊢;go_cut [3] (λv wx=>∃hd:ByteArray,Hid (hd.data.toList=eE d)/\Hid (wx.ownsRow W.heap.size 9 1 v 1 (ft [hd]))/\Hid (Below W.heap.size W wx));case first =>
  have Fn:¬ 9223372036854775807<7+d.e.size:=by omega
  have Fk:¬ 9223372036854775807<7+d.e.size+1:=by omega
  have At:¬ 9223372036854775807<7+d.e.size+1+(Lib.decDigits m).length:=by omega
  have Bk:¬ 9223372036854775807<7+d.e.size+1+(Lib.decDigits m).length+1:=by omega
  have hA5:¬ 9223372036854775807<7+d.e.size+1+(Lib.decDigits m).length+1+(aF d.B.data.toList).length:=by omega
  have QT:=ae (λV=>kN d.B V DS);have IT:=ae (λV=>gC m (by omega) V);have SK:=ae (λV (hB:Below W.heap.size W V)=>(show V.cell? (Q y 0 U)=T (Y d.e)/\V.cell? (Q y 2 U)=T (J I (m:Int))/\V.cell? (Q y 3 U)=T (Y d.B) from⟨(hB.cell (p:=(Q y 0 U)) hz).trans c0,(hB.cell (p:=(Q y 2 U)) hz).trans c2,(hB.cell (p:=(Q y 3 U)) hz).trans c3⟩));have bt:=ae (show eE d=[116,97,114,103,101,116,32]++d.e.data.toList++[32]++Lib.decDigits m++[32]++aF d.B.data.toList by unfold eE;rw[hm];rfl);go_wp2_with fail;go_region_held3 (λV=>V.cell? (Q y 0 U)=T (Y d.e)/\V.cell? (Q y 2 U)=T (J I (m:Int))/\V.cell? (Q y 3 U)=T (Y d.B)) (first|exact SK _ br|exact SK _ br.drew|exact SK _ B1|exact SK _ F|exact SK _ (F.alloc F.size _))
   (first
   |(go_at_call 104;refine(IT _).mono ?_;rintro e w1 ⟨rfl,D⟩;have B1:Hid (Below W.heap.size W w1):=⟨D.os,D.tape,D.output,D.size,D.block⟩;clear D)
   |(go_at_call 189;refine(QT _).mono ?_;rintro e ZO ⟨rfl,r⟩;have F:Hid (Below W.heap.size W ZO):=B1.trans (Below.mono (⟨r.os,r.tape,r.output,r.size,r.block⟩:Below w1.heap.size w1 ZO) B1.size);clear r))
  all_goals
   go_simp;go_wp2_with fail;go_meet;refine⟨_,?_,aB (oU ZO _) F.size,F.alloc F.size _⟩;show _=_;rw[bt.out];simp
 case rest =>
 obtain⟨DE,bt,O1,B1⟩:=hcut;obtain⟨w1,th⟩:∃w1,w1=wc:=⟨_,rfl⟩
 subst th;obtain⟨i0,hi,ZK,ZI,aq⟩:=L8 Eh;clear c0 c2 c3;go_upto_region 7 with fail;go_wp2;go_loopw [3,4] (λv i wr=>∃(k:Nat) (f:List ByteArray),k<=d.f/\i=J I k/\f.length=k+1/\Hid (dJ f=eE d++[10]++fq d.H k)/\Hid (wr.ownsRow W.heap.size 9 1 v (k+1) (ft f))/\Hid (Below W.heap.size W wr)) (λ_ i _=>d.f - (intOf i).toNat);case atStart=>exact⟨0,[DE],by omega,rfl,rfl,by show _=_;rw[mW,bt.out];simp[fq],O1,B1⟩
 case round =>
  obtain⟨k,f,hk,rfl,ZR,ZL,H,o⟩:=hrel;have e4:=(o.cell (p:=(Q y 4 U)) hz).trans c4;have e5:=(o.cell (p:=(Q y 5 U)) hz).trans c5;have mv:y<wr.heap.size:=lj hz o.size;by_cases ZN:k<d.f
  ·obtain⟨ib,io,rfl,z⟩:=HI.resolve_left (by omega);obtain⟨j0,j1,j2⟩:=(z.aa o ly).2 k ZN;have ld:=ae (gP sm ZN);have hll:=uj _ _ _ ld.out;have qr:(k:Int)<d.f:=by omega
   clear z;go_wp2_with fail;refine(jv _ _ _ _ ld).mono ?_;rintro e ZO ⟨rfl,r⟩;have F:=ae (o.trans (r.mono o.size));have O2:=ae (own_below H r ly);have z2:W.heap.size<=ZO.heap.size:=F.size;clear r j0 j1 j2 e4 e5;go_wp2_with (at_builtin;refine BS _ rfl (.tmp 48) (.tmp 57) 30 rfl W.heap.size 9 i0 (Y ⟨#[]⟩) 1 16 IB hi ZK ZI aq rfl (by decide) _ (k+1) (ft f) (by simp[Act.eval]) (O2.alloc _) (Q ZO.heap.size 0 U) 1 1 [_] (by simp[Act.eval]) rfl (cu ZO _ _) (by simp[Value.oneCell']) (by unfold maxLen;omega) (by omega) (by simp;omega) ?_;intro v6 w6 l b t;have O:Hid (w6.ownsRow W.heap.size 9 1 v6 (k+1+1) (ft f++[Y ((⟨#[100,111,32]⟩:ByteArray)++⟨(aR (d.H k).op (d.H k).s.data.toList (d.H k).n).toArray⟩)])):=l;have E:=ae (bg (F.alloc z2 _) b (by simp;omega) (λj e=>(O2.lt j e).1));clear l b t);exact⟨⟨k+1,f++[((⟨#[100,111,32]⟩:ByteArray)++⟨(aR (d.H k).op (d.H k).s.data.toList (d.H k).n).toArray⟩)],by omega,by go_num,by simp[ZR],by show _=_;rw[gV,ZL.out,fq];simp[doT],by show World.ownsRow _ _ _ _ _ _ _;rw[sf];exact O,E⟩,by simp[intOf];omega⟩
  ·obtain rfl:k=d.f:=by omega
   go_wp2;clear e4 e5;go_loopw [3,5] (λv i wr=>∃(j:Nat) (f:List ByteArray),j<=d.b/\i=J I j/\f.length=d.f+1+j/\Hid (dJ f=eE d++[10]++fq d.H d.f++ee d.D j)/\Hid (wr.ownsRow W.heap.size 9 1 v (d.f+1+j) (ft f))/\Hid (Below W.heap.size W wr)) (λ_ i _=>d.b - (intOf i).toNat);case atStart=>exact⟨0,f,by omega,rfl,ZR,by show _=_;rw[ZL.out];simp[ee],H,o⟩
   case round =>
    clear ZL H o mv ZR f;obtain⟨j,f,hj,rfl,ZR,ZL,H,o⟩:=hrel;have e5:=(o.cell (p:=(Q y 5 U)) hz).trans c5;have mv:y<wr.heap.size:=lj hz o.size;by_cases ZN:j<d.b
    ·obtain⟨lb,lo,rfl,z⟩:=HL.resolve_left (by omega);obtain⟨p0,p1,p2,p3⟩:=(z.aa o ly).2 j ZN;obtain⟨q1,q2,q3⟩:=DH.out j ZN;have fd:=ae (show ee d.D (j+1)=ee d.D j++dH (d.D j)++[10] from rfl);have qr:(j:Int)<d.b:=by omega
     generalize d.D j=X at p0 p1 p2 p3 q1 q2 q3 fd;obtain⟨q,hq⟩:∃q:Nat,X.L=(q:Int):=⟨X.L.toNat,by omega⟩
     have hq4:q<=400:=by omega
     have hdq:=gU q (by omega);have ZP:=ae (show dH X=if X.ask=ZG then [97,115,107,32]++X.e.data.toList++[32]++Lib.decDigits q else [104,97,115,32]++X.e.data.toList++[32]++(if X.has=ZG then [49] else [48]) by unfold dH;rw[hq];rfl);rw[hq] at p3;obtain⟨nm,P⟩:∃nm,nm=X.e:=⟨_,rfl⟩
     rw[<-P] at p0 q1 ZP;have Fn:¬ 9223372036854775807<4+nm.size:=by omega
     have Fk:¬ 9223372036854775807<4+nm.size+1:=by omega
     have At:¬ 9223372036854775807<4+nm.size+1+(Lib.decDigits q).length:=by omega
     cases hask:X.ask with
     |true =>
      rw[hask] at p1;have K:Hid (dH X=[97,115,107,32]++nm.data.toList++[32]++Lib.decDigits q):=by show _=_;rw[ZP.out,p6 hask]
      have R:=ae ((q9 wr).alloc ly (N #[Y nm,ZD ZG,ZD X.has,J I (q:Int)] 91));have OL:=ae (own_below H R ly);have ZQ:=ae (o.trans (R.mono o.size));have m0:(A wr (N #[Y nm,ZD ZG,ZD X.has,J I (q:Int)] 91)).cell? (Q wr.heap.size 0 U)=T (Y nm):=by simp
      have m3:(A wr (N #[Y nm,ZD ZG,ZD X.has,J I (q:Int)] 91)).cell? (Q wr.heap.size 3 U)=T (J I q):=by simp
      have x:wr.heap.size<(A wr (N #[Y nm,ZD ZG,ZD X.has,J I (q:Int)] 91)).heap.size:=by simp
      clear z ZP hask hq P q1 q2 q3;go_wp2_with fail;clear p0 p1 p2 p3 e5 R;generalize A wr (N #[Y nm,ZD ZG,ZD X.has,J I (q:Int)] 91)=WL at OL ZQ m0 m3 x ⊢;generalize wr.heap.size=gl at m0 m3 x ⊢
      go_region_law (first
       |(refine eK rfl (.tmp 73) (.tmp 82) 30 rfl W.heap.size 9 i0 (Y ⟨#[]⟩) 1 16 IB hi ZK ZI aq rfl (by decide) u3 (d.f+1+j) (ft f) (by simp[Act.eval]) (by first|exact B.alloc _|exact B.drew.alloc _|exact B.drew.drew.alloc _) (Q u.heap.size 0 U) 1 1 [_] (by simp[Act.eval]) rfl (by first|exact cu u _ _|exact cu u.drew _ _|exact cu u.drew.drew _ _) (by simp[Value.oneCell']) (by unfold maxLen;omega) (by omega) (by simp<;>omega) ?_;intro v6 w6 l b t;have O:=ae l;(first|have E:=ae (bg (L.alloc ZM _) b (by simp<;>omega) (λj e=>(B.lt j e).1))|have E:=ae (bg (L.drew.alloc (by simpa using ZM) _) b (by simp<;>omega) (λj e=>(B.lt j e).1)));clear l b t)
       |(go_simp;go_at_call 104;refine(gC q (by omega) _).mono ?_;rintro e u ⟨rfl,C⟩;have G:Hid (Below WL.heap.size WL u):=⟨C.os,C.tape,C.output,C.size,C.block⟩;have B:=ae (own_below OL G ly);have L:=ae (ZQ.trans (G.mono ZQ.size));have ZM:W.heap.size<=u.heap.size:=L.size;have n5:=(G.cell (p:=(Q gl 0 U)) x).trans m0;have ro:gl<u.heap.size:=lj x G.size;clear C))
      all_goals
       go_simp;go_wp2;refine⟨⟨j+1,f++[_],by omega,by go_num,by simp[ZR];omega,?_,oV O,E⟩,by simp[intOf];omega⟩;show _=_;rw[gV,ZL.out,fd.out,K.out];simp
     |false =>
      rw[hask] at p1;obtain⟨tb,ZJ⟩:∃tb:ByteArray,tb=⟨#[if X.has=ZG then 49 else 48]⟩:=⟨_,rfl⟩
      have FL:=ae (λV=>by have h:=zb X.has V;rw[<-ZJ] at h;exact h);have Fd:tb.size=1:=by rw[ZJ];rfl
      have Bk:¬ 9223372036854775807<4+nm.size+1+tb.size:=by omega
      have K:Hid (dH X=[104,97,115,32]++nm.data.toList++[32]++tb.data.toList):=by show _=_;rw[ZP.out,gM (by rw[hask];simp),ZJ];cases X.has<;>rfl
      have R:=ae ((q9 wr).alloc ly (N #[Y nm,ZD ZA,ZD X.has,J I (q:Int)] 91));have OL:=ae (own_below H R ly);have ZQ:=ae (o.trans (R.mono o.size));have m0:(A wr (N #[Y nm,ZD ZA,ZD X.has,J I (q:Int)] 91)).cell? (Q wr.heap.size 0 U)=T (Y nm):=by simp
      have m2:(A wr (N #[Y nm,ZD ZA,ZD X.has,J I (q:Int)] 91)).cell? (Q wr.heap.size 2 U)=T (ZD X.has):=by simp
      have x:wr.heap.size<(A wr (N #[Y nm,ZD ZA,ZD X.has,J I (q:Int)] 91)).heap.size:=by simp
      clear z ZP hask hq P q1 q2 q3 ZJ Fd;go_wp2_with fail;clear p0 p1 p2 p3 e5 R;generalize A wr (N #[Y nm,ZD ZA,ZD X.has,J I (q:Int)] 91)=WL at OL ZQ m0 m2 x ⊢;generalize wr.heap.size=gl at m0 m2 x ⊢
      go_region_law (first
       |(refine eK rfl (.tmp 84) (.tmp 93) 30 rfl W.heap.size 9 i0 (Y ⟨#[]⟩) 1 16 IB hi ZK ZI aq rfl (by decide) u3 (d.f+1+j) (ft f) (by simp[Act.eval]) (by first|exact B.alloc _|exact B.drew.alloc _|exact B.drew.drew.alloc _) (Q u.heap.size 0 U) 1 1 [_] (by simp[Act.eval]) rfl (by first|exact cu u _ _|exact cu u.drew _ _|exact cu u.drew.drew _ _) (by simp[Value.oneCell']) (by unfold maxLen;omega) (by omega) (by simp<;>omega) ?_;intro v6 w6 l b t;have O:=ae l;(first|have E:=ae (bg (L.alloc ZM _) b (by simp<;>omega) (λj e=>(B.lt j e).1))|have E:=ae (bg (L.drew.alloc (by simpa using ZM) _) b (by simp<;>omega) (λj e=>(B.lt j e).1)));clear l b t)
       |(go_simp;go_at_call 191;refine(FL _).mono ?_;rintro e u ⟨rfl,la⟩;have G:Hid (Below WL.heap.size WL u):=(by rw[la];first|exact dB _ _|exact br.drew|exact br.drew.drew|exact br.drew.drew.drew);have B:=ae (own_below OL G ly);have L:=ae (ZQ.trans (G.mono ZQ.size));have ZM:W.heap.size<=u.heap.size:=L.size;have n5:=(G.cell (p:=(Q gl 0 U)) x).trans m0;have ro:gl<u.heap.size:=lj x G.size;clear la))
      all_goals
       go_simp;go_wp2;refine⟨⟨j+1,f++[_],by omega,by go_num,by simp[ZR];omega,?_,oV O,E⟩,by simp[intOf];omega⟩;show _=_;rw[gV,ZL.out,fd.out,K.out];simp
    ·obtain rfl:j=d.b:=by omega
     have ZM:W.heap.size<=wr.heap.size:=o.size;go_wp2_with (at_builtin;refine BS _ rfl (.tmp 95) (.tmp 96) 30 rfl W.heap.size 9 i0 (Y ⟨#[]⟩) 1 16 IB hi ZK ZI aq rfl (by decide) _ (d.f+1+d.b) (ft f) (by simp[Act.eval]) (H.alloc _) (Q wr.heap.size 0 U) 1 1 [_] (by simp[Act.eval]) rfl (cu wr _ _) (by simp[Value.oneCell']) (by unfold maxLen;omega) (by omega) (by simp;omega) ?_;intro v6 w6 l b t;have O:=ae l;have E:=ae (bg (o.alloc ZM _) b (by simp;omega) (λj e=>(H.lt j e).1));clear l b t);go_ret;refine⟨_,f++[(⟨#[101,110,100]⟩:ByteArray)],rfl,⟨?_,by simp,?_,by simp[ZR];omega,S.trans (E.mono dg)⟩⟩
     ·have h:=aB (oV O) dg;have hl:(f++[(⟨#[101,110,100]⟩:ByteArray)]).length=d.f+1+d.b+1:=by simp[ZR]
      rw[hl];exact h
     {rw[gV,ZL.out,HE.out];simp[mV]}
