import Derived.Deep.RegionHeld3
import Derived.Test.YtoddkejemcbkmaaGreatDoorSL
import Derived.Test.YtoddkejemcbkmaaGreatDoorSR
import Derived.Test.YtoddkejemcbkmaaGreatDoorSE
set_option maxRecDepth 1000000
set_option maxHeartbeats 8000000
open Go renaming Addr.mk->Q,Value.slice->Z,Value.string->U,Value.int->J,Value.bool->ZD,Obj.cells->N,IntKind.i64->I,World->M,Value->ZC,TypeId->ZH,Ending.returned->ZF,World.alloc->A,Proofs.Tryz.prog->Pg
open Option renaming none->Y,some->T
open Bool renaming false->ZA,true->ZG
namespace Go.Proofs.YtoddkejemcbkmaaGreatDoor.Vp
open Tryz RowKit
variable {n H ZQ b n1 off cap p j:Nat}{f:Nat->Deed}{W i w:M}{s:Nat->Bool}{g:Int}{l:Link}
def cW (f:Nat->Deed)(d:Int)(x:Nat × Nat):Int:=if (f x.1).E=3/\60<=x.2/\(d<0∨(x.1:Int)<d) then (x.1:Int) else d
def cS (f:Nat->Deed)(d:Int):List (Nat × Nat)->Int
 |[]=>d
 |x::xs=>cS f (cW f d x) xs
theorem mw (f:Nat->Deed)(d:Int)(b c:List (Nat × Nat)):cS f d (b++c)=cS f (cS f d b) c:=by
 induction b generalizing d with
 |nil=>rfl
 |cons x b g=>simp only[IS,cS];exact g _
theorem yg (f:Nat->Deed)(d:Int)(x y:Nat × Nat):cW f (cW f d x) y=cW f (cW f d y) x:=by
 unfold cW;by_cases b:(f x.1).E=3/\60<=x.2;{by_cases c:(f y.1).E=3/\60<=y.2;{simp only[b.1,b.2,c.1,c.2,QR];(repeat' split)<;>omega};{have e:∀z:Prop,¬ ((f y.1).E=3/\60<=y.2/\z):=λz h=>c ⟨h.1,h.2.1⟩;rw[nD (e _),nD (e _)]}};{have e:∀z:Prop,¬ ((f x.1).E=3/\60<=x.2/\z):=λz h=>b ⟨h.1,h.2.1⟩;rw[nD (e _),nD (e _)]}
theorem vF (f:Nat->Deed)(d:Int)(x:Nat × Nat)(b:List (Nat × Nat)):cS f (cW f d x) b=cW f (cS f d b) x:=by
 induction b generalizing d with
 |nil=>rfl
 |cons y ys c =>simp only[cS];rw[yg,c]
def TyAt (w:M)(g:Nat)(e:ZH):Prop:=∃b,w.heap[g]?=T (N b e (0,0))
structure Kpt (H ZQ:Nat)(W W':M):Prop where
 size:W.heap.size<=W'.heap.size
 keep:∀k e,TyAt W k e->e≠3->k≠H->k≠ZQ->W'.heap[k]?=W.heap[k]?
theorem Kpt.trans{ZR B C:M}(h:Kpt H ZQ ZR B)(k:Kpt H ZQ B C):Kpt H ZQ ZR C :=
 ⟨p9 h.size k.size,λi e hi f h1 h2=>by
  have b:=h.keep i e hi f h1 h2;obtain⟨c,g⟩:=hi
  exact(k.keep i e ⟨c,b.trans g⟩ f h1 h2).trans b⟩
theorem Kpt.u{b:M}(h:Below W.heap.size W b):Kpt H ZQ W b :=
 ⟨h.size,λk e f _ _ _=>by obtain⟨c,g⟩:=f;exact h.block k (gM.1 g).1⟩
theorem Kpt.setCell (W:M)(g:Nat)(hg:g=H∨g=ZQ)(v:ZC):Kpt H ZQ W (W.setCell (Q g j Y) v) :=
 ⟨by simp,λk _ _ _ h1 h2=>qh _ _ _ _ (by show k≠g;omega)⟩
structure SLs (w0 W:M)(n1 b off n cap H ZQ:Nat)(s:Nat->Bool)(ov:ZC)(ord:List Nat)(dp:Int):Prop where
 c0:W.cell? (Q H 0 Y)=T (Z (T (Q b off Y)) n cap)
 c1:W.cell? (Q H 1 Y)=T (Z (T (Q ZQ 0 Y)) n n)
 c2:W.cell? (Q H 2 Y)=T ov/\W.frozen? (Q H 2 Y)=ZA
 c3:W.cell? (Q H 3 Y)=T (J I dp)/\W.frozen? (Q H 3 Y)=ZA
 row:∀q,q<n->W.cell? (Q ZQ q Y)=T (ZD (s q))/\W.frozen? (Q ZQ q Y)=ZA
 ord:W.ownsRow n1 3 1 ov ord.length (ord.map λq:Nat=>Value.int I (q:Int))
 low:Below w0.heap.size w0 W
 hH:w0.heap.size<=H/\H<n1
 hM:w0.heap.size<=ZQ/\ZQ<n1
 ne:H≠ZQ
 hz:n1<=W.heap.size
theorem SLs.blocks{f:M}{l j:ZC}{ord g:List Nat}{p:Int}(h:SLs i W n1 b off n cap H ZQ s l ord p)(hz:W.heap.size<=f.heap.size)(t:f.heap[H]?=W.heap[H]?)(m:f.heap[ZQ]?=W.heap[ZQ]?)(u:Below i.heap.size i f)(y:j=l)(x:f.ownsRow n1 3 1 l g.length (g.map λq:Nat=>Value.int I (q:Int))):SLs i f n1 b off n cap H ZQ s j g p:=by subst y;have c:∀o,f.cell? (Q H o Y)=W.cell? (Q H o Y):=λo=>cq (a:=(Q H o Y)) t;have z:∀o,f.frozen? (Q H o Y)=W.frozen? (Q H o Y):=λo=>JN (a:=(Q H o Y)) t;exact⟨(c 0).trans h.c0,(c 1).trans h.c1,⟨(c 2).trans h.c2.1,(z 2).trans h.c2.2⟩,⟨(c 3).trans h.c3.1,(z 3).trans h.c3.2⟩,λq r=>⟨(cq (a:=(Q ZQ q Y)) m).trans (h.row q r).1,(JN (a:=(Q ZQ q Y)) m).trans (h.row q r).2⟩,x,u,h.hH,h.hM,h.ne,p9 h.hz hz⟩
theorem SLs.aa{f:M}{c:ZC}{ord:List Nat}(h:SLs f W n1 b off n cap H ZQ s c ord g)(hb:Below W.heap.size W i):SLs f i n1 b off n cap H ZQ s c ord g :=
 h.blocks hb.size (hb.block H (by have:=h.hH;have:=h.hz;omega)) (hb.block ZQ (by have:=h.hM;have:=h.hz;omega)) (h.low.trans (hb.mono h.low.size)) rfl (own_below h.ord hb ly)
theorem oF{f R:Nat}{e:ZH}{v:ZC}{c:List ZC}(h:w.ownsRow b e f v n c)(hR:R<b)(u:ZC):(w.setCell (Q R j Y) u).ownsRow b e f v n c:=by
 refine h.kept (row:=T R) ⟨rfl,rfl,rfl,by simp[World.setCell],λk _ g=>qh _ _ _ _ (by simpa using g)⟩ ?_;cases hv:v.ownBlock with
 |none=>exact .inl rfl
 |some k=>exact .inr λi=>by have:=(h.lt k hv).1;cases i;omega
theorem SLs.mark{j:M}{i:ZC}{ord:List Nat}(h:SLs j W n1 b off n cap H ZQ s i ord g)(hp:p<n):SLs j (W.setCell (Q ZQ p Y) (ZD ZG)) n1 b off n cap H ZQ (put s p) i ord g:=by
 have c:∀o,(W.setCell (Q ZQ p Y) (ZD ZG)).cell? (Q H o Y)=W.cell? (Q H o Y):=λo=>sq _ _ _ _ (by first|(simp;done)|(simp;exact λe=>absurd e.symm h.ne)|(simp;exact λe=>absurd e h.ne)|(simp;omega));refine⟨(c 0).trans h.c0,(c 1).trans h.c1,⟨(c 2).trans h.c2.1,by simpa using h.c2.2⟩,⟨(c 3).trans h.c3.1,by simpa using h.c3.2⟩,λq f=>⟨?_,by simpa using(h.row q f).2⟩,oF h.ord h.hM.2 _,h.low.setCell h.hM.1 _,h.hH,h.hM,h.ne,by simpa using h.hz⟩;by_cases e:q=p;{subst e;rw[DN _ _ _ (by rw[(h.row q f).1];rfl)];simp[put]};{rw[sq _ _ _ _ (by first|(simp;done)|(simp;exact λe=>absurd e.symm h.ne)|(simp;exact λe=>absurd e h.ne)|(simp;omega)),(h.row q f).1];simp[put,e]}
theorem SLs.deep{f:ZC}{ord:List Nat}{j:Int}(h:SLs i W n1 b off n cap H ZQ s f ord j)(v:Int):SLs i (W.setCell (Q H 3 Y) (J I v)) n1 b off n cap H ZQ s f ord v:=by have c:∀o,o≠3->(W.setCell (Q H 3 Y) (J I v)).cell? (Q H o Y)=W.cell? (Q H o Y):=λo ho=>sq _ _ _ _ (by first|(simp;done)|(simp;exact λe=>absurd e.symm h.ne)|(simp;exact λe=>absurd e h.ne)|(simp;omega));refine⟨(c 0 (by omega)).trans h.c0,(c 1 (by omega)).trans h.c1,⟨(c 2 (by omega)).trans h.c2.1,by simpa using h.c2.2⟩,⟨DN _ _ _ (by rw[h.c3.1];rfl),by simpa using h.c3.2⟩,λq g=>⟨(sq _ _ _ _ (by first|(simp;done)|(simp;exact λe=>absurd e.symm h.ne)|(simp;exact λe=>absurd e h.ne)|(simp;omega))).trans (h.row q g).1,by simpa using(h.row q g).2⟩,oF h.ord h.hH.2 _,h.low.setCell h.hH.1 _,h.hH,h.hM,h.ne,by simpa using h.hz⟩
def dG (l:Link):List UInt8 :=
 if l.ask=ZG then [97,115,107,32]++l.e.data.toList++[32]++Lib.decDigits l.L.toNat else [104,97,115,32]++l.e.data.toList++[32]++(if l.has=ZG then [49] else [48])
def doT (x:Ins):List UInt8:=[100,111,32]++aR x.op x.s.data.toList x.n
def fh (g:Nat->Ins):Nat->List UInt8
 |0=>[]
 |k+1=>fh g k++doT (g k)++[10]
def ee (g:Nat->Link):Nat->List UInt8
 |0=>[]
 |k+1=>ee g k++dG (g k)++[10]
def ix (d:Deed):List UInt8:=[115,111,117,114,99,101,32]++d.e.data.toList++[32]++aJ d.h.data.toList
def fO (d:Deed):List UInt8:=[110,111,110,101,32]++d.e.data.toList
def eB (d:Deed):List UInt8:=[116,97,114,103,101,116,32]++d.e.data.toList++[32]++Lib.decDigits d.B.toNat++[32]++aJ d.h.data.toList
def mK (d:Deed):List UInt8:=eB d++[10]++fh d.G d.f++ee d.m d.b++[101,110,100,10]
def dH (d:Deed):List UInt8:=if d.E=1 then ix d++[10] else if d.E=2 then fO d++[10] else mK d
def aN (f:Nat->Deed)(n:Nat):Nat->List UInt8
 |0=>[97,99,99,111,117,110,116,32]++Lib.decDigits n++[10]
 |k+1=>aN f n k++dH (f k)
def cL (f:Nat->Deed)(n:Nat):List UInt8:=if dc f n=ZG then (if (aN f n n).length<=300000 then aN f n n else []) else []
theorem gR (n:Nat)(h:n<=9223372036854775807):(Lib.decDigits n).length<=21:=by rw[<-Lib.itoa_nonneg];exact Lib.itoa_length_le _ (by omega) (by omega)
theorem pt{s:ByteArray}(h:aw s=ZG):1<=s.size/\s.size<=60:=by unfold aw at h;rw[zA,z8] at h;exact h.1
theorem cE (s:ByteArray):s.data.toList.length=s.size:=by simp
theorem iK (h:ew f p l=ZG):l.e.size<=60/\0<=l.L/\l.L<=p:=by
 unfold ew at h;rw[zA] at h;refine⟨(pt h.1).2,?_⟩;split at h;{simp only[zA,z8] at h;omega};{simp only[z8] at h;omega}
theorem CO (h:ew f p l=ZG)(hp:p<=400):(dG l).length<=100:=by
 obtain⟨h1,h2,h3⟩:=iK h;have h4:=gR l.L.toNat (by omega);have h5:=cE l.e;unfold dG;split;{simp only[cM,eT,nX];omega};{split<;>simp only[cM,eT,nX]<;>omega}
theorem zU{x:Ins}(h:aG x.op x.s.size x.n=ZG):(doT x).length<=6013:=by have:=ts _ _ _ h;unfold doT;simp only[cM,eT,nX];omega
theorem tC{g:Nat->Ins}(h:dA g n=ZG):∀k,k<=n->(fh g k).length<=6014*k:=by
 intro k;induction k with
 |zero=>intro _;simp[fh]
 |succ k b =>intro hk;have h1:=b (by omega);have h2:=zU (gL h (show k<n by omega));simp only[fh,cM,eT,nX];omega
theorem rA{x:Deed}(h:bM f p x n=ZG)(b:p<=400):∀k,k<=n->(ee x.m k).length<=101*k:=by
 intro k;induction k with
 |zero=>intro _;simp[ee]
 |succ k c =>intro hk;have h1:=c (by omega);have h2:=CO (fM h k (by omega)) b;simp only[ee,cM,eT,nX];omega
theorem lK (h:dc f n=ZG):∀p,p<n->(f p).e.size<=60/\(f p).h.size<=2000/\((f p).E=1∨(f p).E=2∨(f p).E=3/\0<=(f p).B/\(f p).B<=5/\dA (f p).G (f p).f=ZG/\(f p).f<=200/\(f p).b<=200/\bM f p (f p) (f p).b=ZG):=by
 intro p j;have h1:=fL (fN h).2.2 p j;simp only[be,zA,kindOk,z8] at h1;obtain⟨⟨m,c⟩,h2⟩:=h1;refine⟨(pt m).2,c,?_⟩;split at h2;{rename_i b;exact .inl b};{split at h2;{rename_i b;exact .inr (.inl b)};{split at h2;{rename_i b;simp only[cG,zA,z8] at h2;obtain⟨⟨⟨⟨a1,o⟩,l⟩,q⟩,g⟩:=h2;obtain⟨i,b2,b3⟩:=bO l;exact .inr (.inr ⟨b,a1,o,i,by omega,q,g⟩)};{simp at h2}}}
theorem tD (h:dc f n=ZG):∀p,p<n->(dH (f p)).length<=1300000:=by
 intro p c;obtain⟨h1,h2,h3⟩:=lK h p c;have hn:=fN h;have q1:=cE (f p).e;have b:=ep (f p).h.data.toList;rw[cE] at b;unfold dH;split;{simp only[ix,cM,eT,nX];omega}
 ·split;{simp only[fO,cM,eT,nX];omega}
  ·rcases h3 with h3|h3|⟨_,c1,c2,c3,c4,c5,g⟩
   {omega};{omega};{have d1:=tC c3 _ ly;have d2:=rA g (by omega) _ ly;have d3:=gR (f p).B.toNat (by omega);simp only[mK,eB,cM,eT,nX];omega}
theorem rB (h:dc f n=ZG):∀k,k<=n->(aN f n k).length<=40+1300000*k:=by
 intro k;have hn:=fN h;induction k with
 |zero =>intro _;have:=gR n (by omega);simp only[aN,cM,eT,nX];omega
 |succ k b =>intro hk;have h1:=b (by omega);have h2:=tD h k (by omega);simp only[aN,cM];omega
theorem nR:∀{j k:Nat},j<=k->(aN f n j).length<=(aN f n k).length:=by
 intro j k h;induction k with
 |zero =>
  obtain rfl:j=0:=by omega
  exact n8 _
 |succ k b =>
  by_cases e:j=k+1;{subst e;exact n8 _};{have:=b (by omega);simp only[aN,cM];omega}
theorem zY (f:Nat->Deed)(n k:Nat):aN f n k≠[]:=by have h:=nR (f:=f) (n:=n) (E4 k);intro e;rw[e] at h;simp[aN] at h
def fi (b:List ByteArray):List ZC:=b.map Value.string
def dI (b:List ByteArray):List UInt8:=b.flatMap (λx=>x.data.toList++[10])
theorem rC (b:List ByteArray)(x:ByteArray):fi (b++[x])=fi b++[U x]:=by simp[fi]
theorem gS (b:List ByteArray)(x:ByteArray):dI (b++[x])=dI b++x.data.toList++[10]:=by simp[dI]
theorem mL (x:ByteArray):dI [x]=x.data.toList++[10]:=by simp[dI]
theorem oG (w:M)(s:ByteArray):(A w (N #[U s] 9)).ownsRow w.heap.size 9 1 (Z (T (Q w.heap.size 0 Y)) 1 1) 1 (fi [s]) :=
 ⟨by simp[fi],.inr ⟨w.heap.size,1,#[U s],rfl,n8 _,n6 w _,n8 _,by unfold maxLen;omega,by simp,by simp[fi]⟩⟩
structure sT (w w':M)(d:Deed)(v:ZC)(xs:List ByteArray):Prop where
 i:w'.ownsRow w.heap.size 9 1 v xs.length (fi xs)
 ne:xs≠[]
 eq:dI xs=dH d
 few:xs.length<=402
 ao:Below w.heap.size w w'
theorem yi (d:Deed)(a0:Option Addr)(b:Nat)(a1:Option Addr)(c:Nat)(w:M)(hnm:d.e.size<=60)(o:d.h.size<=2000)(l:d.E=1):Calls Pg 30 #[.agg #[U d.e,J I d.E,J I d.B,U d.h,Z a0 d.f b,Z a1 d.b c]] w λe s=>∃v q,e=ZF v/\sT w s d v q:=by
 have i:=ae ((q9 w).alloc ly (N #[U d.e,J I d.E,J I d.B,U d.h,Z a0 d.f b,Z a1 d.b c] 62));have c0:(A w (N #[U d.e,J I d.E,J I d.B,U d.h,Z a0 d.f b,Z a1 d.b c] 62)).cell? (Q w.heap.size 0 Y)=T (U d.e):=by simp
 have c3:(A w (N #[U d.e,J I d.E,J I d.B,U d.h,Z a0 d.f b,Z a1 d.b c] 62)).cell? (Q w.heap.size 3 Y)=T (U d.h):=by simp
 have hz:w.heap.size<(A w (N #[U d.e,J I d.E,J I d.B,U d.h,Z a0 d.f b,Z a1 d.b c] 62)).heap.size:=by simp
 have m:=ep d.h.data.toList;rw[cE] at m;have r:Hid (dH d=ix d++[10]):=by show _=_;unfold dH;rw[p7 l]
 rw[l] at i c0 c3 hz ⊢;clear l;go_enter func30,ntmps30;go_wp2_with fail;have g:w.heap.size<=(A w (N #[U d.e,J I 1,J I d.B,U d.h,Z a0 d.f b,Z a1 d.b c] 62)).heap.size:=i.out.size;generalize A w (N #[U d.e,J I 1,J I d.B,U d.h,Z a0 d.f b,Z a1 d.b c] 62)=W at i c0 c3 hz g ⊢;have t:=ae (λV=>kE d.h V o);generalize hgd:w.heap.size=n at c0 c3 hz ⊢;have hl7:((⟨#[115,111,117,114,99,101,32]⟩:ByteArray)++d.e).size<=100:=by rw[MQ];have:(⟨#[115,111,117,114,99,101,32]⟩:ByteArray).size=7:=rfl;omega
 have hl8:((⟨#[115,111,117,114,99,101,32]⟩:ByteArray)++d.e++⟨#[32]⟩).size<=101:=by rw[MQ];have:(⟨#[32]⟩:ByteArray).size=1:=rfl;omega
 go_region_with (first
  |(go_at_call 52;refine(t.out _).mono ?_;rintro e j ⟨rfl,f⟩;have h:Hid (Below W.heap.size W j):=⟨f.os,f.tape,f.output,f.size,f.block⟩;have d0:=(h.out.cell (p:=(Q n 0 Y)) hz).trans c0;have hz1:n<j.heap.size:=lj hz h.out.size;clear f))
 all_goals
  go_simp;go_wp2;go_ret;refine⟨_,[_],rfl,⟨aC (oG j _) (p9 g h.out.size),by simp,?_,by simp,i.out.trans ((h.out.alloc h.out.size _).mono g)⟩⟩;rw[r.out,mL];simp[ix]
theorem CQ:(Pg.info? 9).map (λi=>(i.zero,i.size,i.bytes))=T (T (U ⟨#[]⟩),1,16):=by kernel_rfl
theorem oH{B:Nat}{t:ZH}{v:ZC}{b:List ByteArray}{x:ByteArray}(h:w.ownsRow B t 1 v n (fi b++[U x])):w.ownsRow B t 1 v n (fi (b++[x])):=by rw[rC];exact h
theorem yj (t:Bool)(w:M):Calls Pg 54 #[ZD t] w λe b=>e=ZF (U ⟨#[if t=ZG then 49 else 48]⟩)/\b=w:=by
 cases t
 all_goals
  go_enter func54,ntmps54;go_wp2;go_ret;exact⟨rfl,rfl⟩
theorem vG (d:Deed)(a0:Option Addr)(b:Nat)(a1:Option Addr)(c:Nat)(w:M)(hnm:d.e.size<=60)(h:d.E=2):Calls Pg 30 #[.agg #[U d.e,J I d.E,J I d.B,U d.h,Z a0 d.f b,Z a1 d.b c]] w λe l=>∃v i,e=ZF v/\sT w l d v i:=by
 have g:=ae ((q9 w).alloc ly (N #[U d.e,J I d.E,J I d.B,U d.h,Z a0 d.f b,Z a1 d.b c] 62));have c0:(A w (N #[U d.e,J I d.E,J I d.B,U d.h,Z a0 d.f b,Z a1 d.b c] 62)).cell? (Q w.heap.size 0 Y)=T (U d.e):=by simp
 have hz:w.heap.size<(A w (N #[U d.e,J I d.E,J I d.B,U d.h,Z a0 d.f b,Z a1 d.b c] 62)).heap.size:=by simp
 have j:Hid (dH d=fO d++[10]):=by show _=_;unfold dH;rw[nD (by omega),p7 h]
 rw[h] at g c0 hz ⊢;clear h;go_enter func30,ntmps30;go_upto_region 5 with fail;have f:w.heap.size<=(A w (N #[U d.e,J I 2,J I d.B,U d.h,Z a0 d.f b,Z a1 d.b c] 62)).heap.size:=g.out.size;generalize A w (N #[U d.e,J I 2,J I d.B,U d.h,Z a0 d.f b,Z a1 d.b c] 62)=W at g c0 hz f ⊢;go_wp2;all_goals go_ret
 all_goals
  refine⟨_,[_],rfl,⟨aC (oG W _) f,by simp,?_,by simp,g.out.trans (((q9 W).alloc ly _).mono f)⟩⟩;rw[j.out,mL];simp[fO]
theorem yk (d:Deed)(a0:Option Addr)(g:Nat)(a1:Option Addr)(l:Nat)(w:M)(hI:SlIns w a0 d.f d.G)(hL:SlLink w a1 d.b d.m)(hnm:d.e.size<=60)(DH:d.h.size<=2000)(Bk:0<=d.B)(ur:d.B<=5)(la:dA d.G d.f=ZG)(hna:d.f<=200)(hnl:d.b<=200)
  (ph:∀k,k<d.b->(d.m k).e.size<=60/\0<=(d.m k).L/\(d.m k).L<=400) (hk:d.E=3) :
  Calls Pg 30 #[.agg #[U d.e,J I d.E,J I d.B,U d.h,Z a0 d.f g,Z a1 d.b l]] w λe w'=>∃v c,e=ZF v/\sT w w' d v c:=by
 obtain⟨m,hm⟩:∃m:Nat,d.B=(m:Int):=⟨d.B.toNat,by omega⟩
 have hm5:m<=5:=by omega
 have hd:=gR m (by omega);have sm:=ep d.h.data.toList;rw[cE] at sm;have th:=ae la;have DQ:=ae ph;have HE:Hid (dH d=mK d):=by show _=_;unfold dH;rw[nD (by omega),nD (by omega)]
 have S:=ae ((q9 w).alloc ly (N #[U d.e,J I d.E,J I d.B,U d.h,Z a0 d.f g,Z a1 d.b l] 62));have HI:=ae (hI.aa S.out ly);have HL:=ae (hL.aa S.out ly);have c0:(A w (N #[U d.e,J I d.E,J I d.B,U d.h,Z a0 d.f g,Z a1 d.b l] 62)).cell? (Q w.heap.size 0 Y)=T (U d.e):=by simp
 have c2:(A w (N #[U d.e,J I d.E,J I d.B,U d.h,Z a0 d.f g,Z a1 d.b l] 62)).cell? (Q w.heap.size 2 Y)=T (J I m):=by rw[<-hm];simp
 have c3:(A w (N #[U d.e,J I d.E,J I d.B,U d.h,Z a0 d.f g,Z a1 d.b l] 62)).cell? (Q w.heap.size 3 Y)=T (U d.h):=by simp
 have c4:(A w (N #[U d.e,J I d.E,J I d.B,U d.h,Z a0 d.f g,Z a1 d.b l] 62)).cell? (Q w.heap.size 4 Y)=T (Z a0 d.f g):=by simp
 have c5:(A w (N #[U d.e,J I d.E,J I d.B,U d.h,Z a0 d.f g,Z a1 d.b l] 62)).cell? (Q w.heap.size 5 Y)=T (Z a1 d.b l):=by simp
 have hz:w.heap.size<(A w (N #[U d.e,J I d.E,J I d.B,U d.h,Z a0 d.f g,Z a1 d.b l] 62)).heap.size:=by simp
 rw[hk] at S HI HL c0 c2 c3 c4 c5 hz ⊢;rw[hm] at S HI HL c0 c2 c3 c4 c5 hz ⊢;clear hk hI hL la ph Bk ur;go_enter func30,ntmps30;go_upto_region 6 with fail;have dg:w.heap.size<=(A w (N #[U d.e,J I 3,J I (m:Int),U d.h,Z a0 d.f g,Z a1 d.b l] 62)).heap.size:=S.out.size;generalize A w (N #[U d.e,J I 3,J I (m:Int),U d.h,Z a0 d.f g,Z a1 d.b l] 62)=W at S HI HL c0 c2 c3 c4 c5 hz dg ⊢;generalize hgd:w.heap.size=x at c0 c2 c3 c4 c5 hz ⊢;go_cut [3] (λv wx=>∃hd:ByteArray,Hid (hd.data.toList=eB d)/\Hid (wx.ownsRow W.heap.size 9 1 v 1 (fi [hd]))/\Hid (Below W.heap.size W wx));case first =>
  have DE:¬ 9223372036854775807<7+d.e.size:=by omega
  have At:¬ 9223372036854775807<7+d.e.size+1:=by omega
  have Fk:¬ 9223372036854775807<7+d.e.size+1+(Lib.decDigits m).length:=by omega
  have DS:¬ 9223372036854775807<7+d.e.size+1+(Lib.decDigits m).length+1:=by omega
  have hA5:¬ 9223372036854775807<7+d.e.size+1+(Lib.decDigits m).length+1+(aJ d.h.data.toList).length:=by omega
  have QT:=ae (λV=>kE d.h V DH);have IT:=ae (λV=>gy m (by omega) V);have SK:=ae (λV (hB:Below W.heap.size W V)=>(show V.cell? (Q x 0 Y)=T (U d.e)/\V.cell? (Q x 2 Y)=T (J I (m:Int))/\V.cell? (Q x 3 Y)=T (U d.h) from⟨(hB.cell (p:=(Q x 0 Y)) hz).trans c0,(hB.cell (p:=(Q x 2 Y)) hz).trans c2,(hB.cell (p:=(Q x 3 Y)) hz).trans c3⟩));have bt:=ae (show eB d=[116,97,114,103,101,116,32]++d.e.data.toList++[32]++Lib.decDigits m++[32]++aJ d.h.data.toList by unfold eB;rw[hm];rfl);go_wp2_with fail;go_region_held3 (λV=>V.cell? (Q x 0 Y)=T (U d.e)/\V.cell? (Q x 2 Y)=T (J I (m:Int))/\V.cell? (Q x 3 Y)=T (U d.h)) (first|exact SK.out _ br|exact SK.out _ br.drew|exact SK.out _ B1.out|exact SK.out _ F.out|exact SK.out _ (F.out.alloc F.out.size _))
   (first
   |(go_at_call 29;refine(IT.out _).mono ?_;rintro e w1 ⟨rfl,C⟩;have B1:Hid (Below W.heap.size W w1):=⟨C.os,C.tape,C.output,C.size,C.block⟩;clear C)
   |(go_at_call 52;refine(QT.out _).mono ?_;rintro e ZQ ⟨rfl,r⟩;have F:Hid (Below W.heap.size W ZQ):=B1.out.trans (Below.mono (⟨r.os,r.tape,r.output,r.size,r.block⟩:Below w1.heap.size w1 ZQ) B1.out.size);clear r))
  all_goals
   go_simp;go_wp2_with fail;go_meet;refine⟨_,?_,aC (oG ZQ _) F.out.size,F.out.alloc F.out.size _⟩;show _=_;rw[bt.out];simp
 case rest =>
 obtain⟨Fd,bt,O1,B1⟩:=hcut;obtain⟨w1,Fm⟩:∃w1,w1=wc:=⟨_,rfl⟩
 subst Fm;obtain⟨i0,hi,ZJ,aq,ZK⟩:=LY CQ;clear c0 c2 c3;go_upto_region 7 with fail;go_wp2;go_loopw [3,4] (λv i wr=>∃(k:Nat) (c:List ByteArray),k<=d.f/\i=J I k/\c.length=k+1/\Hid (dI c=eB d++[10]++fh d.G k)/\Hid (wr.ownsRow W.heap.size 9 1 v (k+1) (fi c))/\Hid (Below W.heap.size W wr)) (λ_ i _=>d.f - (intOf i).toNat);case atStart=>exact⟨0,[Fd],by omega,rfl,rfl,by show _=_;rw[mL,bt.out];simp[fh],O1.out,B1.out⟩
 case round =>
  obtain⟨k,c,hk,rfl,ZR,ZM,H,o⟩:=hrel;have e4:=(o.out.cell (p:=(Q x 4 Y)) hz).trans c4;have e5:=(o.out.cell (p:=(Q x 5 Y)) hz).trans c5;have n9:x<wr.heap.size:=lj hz o.out.size;by_cases ZO:k<d.f
  ·obtain⟨ib,io,rfl,z⟩:=HI.out.resolve_left (by omega);obtain⟨j0,j1,j2⟩:=(z.aa o.out ly).2 k ZO;have ld:=ae (gL th.out ZO);have hll:=ts _ _ _ ld.out;have ro:(k:Int)<d.f:=by omega
   clear z;go_wp2_with fail;refine(jm _ _ _ _ ld.out).mono ?_;rintro e ZQ ⟨rfl,r⟩;have F:=ae (o.out.trans (r.mono o.out.size));have O2:=ae (own_below H.out r ly);have z2:W.heap.size<=ZQ.heap.size:=F.out.size;clear r j0 j1 j2 e4 e5;go_wp2_with (at_builtin;refine BS _ rfl (.tmp 48) (.tmp 57) 66 rfl W.heap.size 9 i0 (U ⟨#[]⟩) 1 16 IH hi ZJ aq ZK rfl (by decide) _ (k+1) (fi c) (by simp[Act.eval]) (O2.out.alloc _) (Q ZQ.heap.size 0 Y) 1 1 [_] (by simp[Act.eval]) rfl (ci ZQ _ _) (by simp[Value.oneCell']) (by unfold maxLen;omega) (by omega) (by simp;omega) ?_;intro v6 w6 f b t;have ZN:Hid (w6.ownsRow W.heap.size 9 1 v6 (k+1+1) (fi c++[U ((⟨#[100,111,32]⟩:ByteArray)++⟨(aR (d.G k).op (d.G k).s.data.toList (d.G k).n).toArray⟩)])):=f;have G:=ae (bg (F.out.alloc z2 _) b (by simp;omega) (λj e=>(O2.out.lt j e).1));clear f b t);exact⟨⟨k+1,c++[((⟨#[100,111,32]⟩:ByteArray)++⟨(aR (d.G k).op (d.G k).s.data.toList (d.G k).n).toArray⟩)],by omega,by go_num,by simp[ZR],by show _=_;rw[gS,ZM.out,fh];simp[doT],by show World.ownsRow _ _ _ _ _ _ _;rw[rC];exact ZN.out,G.out⟩,by simp[intOf];omega⟩
  ·obtain rfl:k=d.f:=by omega
   go_wp2;clear e4 e5;go_loopw [3,5] (λv i wr=>∃(j:Nat) (c:List ByteArray),j<=d.b/\i=J I j/\c.length=d.f+1+j/\Hid (dI c=eB d++[10]++fh d.G d.f++ee d.m j)/\Hid (wr.ownsRow W.heap.size 9 1 v (d.f+1+j) (fi c))/\Hid (Below W.heap.size W wr)) (λ_ i _=>d.b - (intOf i).toNat);case atStart=>exact⟨0,c,by omega,rfl,ZR,by show _=_;rw[ZM.out];simp[ee],H.out,o.out⟩
   case round =>
    clear ZM H o n9 ZR c;obtain⟨j,c,hj,rfl,ZR,ZM,H,o⟩:=hrel;have e5:=(o.out.cell (p:=(Q x 5 Y)) hz).trans c5;have n9:x<wr.heap.size:=lj hz o.out.size;by_cases ZO:j<d.b
    ·obtain⟨lb,lo,rfl,z⟩:=HL.out.resolve_left (by omega);obtain⟨p0,p1,p2,p3⟩:=(z.aa o.out ly).2 j ZO;obtain⟨q1,q2,q3⟩:=DQ.out j ZO;have fd:=ae (show ee d.m (j+1)=ee d.m j++dG (d.m j)++[10] from rfl);have ro:(j:Int)<d.b:=by omega
     generalize d.m j=X at p0 p1 p2 p3 q1 q2 q3 fd;obtain⟨q,hq⟩:∃q:Nat,X.L=(q:Int):=⟨X.L.toNat,by omega⟩
     have hq4:q<=400:=by omega
     have hdq:=gR q (by omega);have ZP:=ae (show dG X=if X.ask=ZG then [97,115,107,32]++X.e.data.toList++[32]++Lib.decDigits q else [104,97,115,32]++X.e.data.toList++[32]++(if X.has=ZG then [49] else [48]) by unfold dG;rw[hq];rfl);rw[hq] at p3;obtain⟨nm,L⟩:∃nm,nm=X.e:=⟨_,rfl⟩
     rw[<-L] at p0 q1 ZP;have DE:¬ 9223372036854775807<4+nm.size:=by omega
     have At:¬ 9223372036854775807<4+nm.size+1:=by omega
     have Fk:¬ 9223372036854775807<4+nm.size+1+(Lib.decDigits q).length:=by omega
     cases hask:X.ask with
     |true =>
      rw[hask] at p1;have K:Hid (dG X=[97,115,107,32]++nm.data.toList++[32]++Lib.decDigits q):=by show _=_;rw[ZP.out,p7 hask]
      have O:=ae ((q9 wr).alloc ly (N #[U nm,ZD ZG,ZD X.has,J I (q:Int)] 93));have OL:=ae (own_below H.out O.out ly);have P:=ae (o.out.trans (O.out.mono o.out.size));have m0:(A wr (N #[U nm,ZD ZG,ZD X.has,J I (q:Int)] 93)).cell? (Q wr.heap.size 0 Y)=T (U nm):=by simp
      have m3:(A wr (N #[U nm,ZD ZG,ZD X.has,J I (q:Int)] 93)).cell? (Q wr.heap.size 3 Y)=T (J I q):=by simp
      have y:wr.heap.size<(A wr (N #[U nm,ZD ZG,ZD X.has,J I (q:Int)] 93)).heap.size:=by simp
      clear z ZP hask hq L q1 q2 q3;go_wp2_with fail;clear p0 p1 p2 p3 e5 O;generalize A wr (N #[U nm,ZD ZG,ZD X.has,J I (q:Int)] 93)=WL at OL P m0 m3 y ⊢;generalize wr.heap.size=gl at m0 m3 y ⊢
      go_region_law (first
       |(refine eF rfl (.tmp 73) (.tmp 82) 66 rfl W.heap.size 9 i0 (U ⟨#[]⟩) 1 16 IH hi ZJ aq ZK rfl (by decide) u3 (d.f+1+j) (fi c) (by simp[Act.eval]) (by first|exact B.out.alloc _|exact B.out.drew.alloc _|exact B.out.drew.drew.alloc _) (Q u.heap.size 0 Y) 1 1 [_] (by simp[Act.eval]) rfl (by first|exact ci u _ _|exact ci u.drew _ _|exact ci u.drew.drew _ _) (by simp[Value.oneCell']) (by unfold maxLen;omega) (by omega) (by simp<;>omega) ?_;intro v6 w6 f b t;have ZN:=ae f;(first|have G:=ae (bg (ZL.out.alloc R _) b (by simp<;>omega) (λj e=>(B.out.lt j e).1))|have G:=ae (bg (ZL.out.drew.alloc (by simpa using R) _) b (by simp<;>omega) (λj e=>(B.out.lt j e).1)));clear f b t)
       |(go_simp;go_at_call 29;refine(gy q (by omega) _).mono ?_;rintro e u ⟨rfl,D⟩;have E:Hid (Below WL.heap.size WL u):=⟨D.os,D.tape,D.output,D.size,D.block⟩;have B:=ae (own_below OL.out E.out ly);have ZL:=ae (P.out.trans (E.out.mono P.out.size));have R:W.heap.size<=u.heap.size:=ZL.out.size;have n5:=(E.out.cell (p:=(Q gl 0 Y)) y).trans m0;have qr:gl<u.heap.size:=lj y E.out.size;clear D))
      all_goals
       go_simp;go_wp2;refine⟨⟨j+1,c++[_],by omega,by go_num,by simp[ZR];omega,?_,oH ZN.out,G.out⟩,by simp[intOf];omega⟩;show _=_;rw[gS,ZM.out,fd.out,K.out];simp
     |false =>
      rw[hask] at p1;obtain⟨tb,ZI⟩:∃tb:ByteArray,tb=⟨#[if X.has=ZG then 49 else 48]⟩:=⟨_,rfl⟩
      have FL:=ae (λV=>by have h:=yj X.has V;rw[<-ZI] at h;exact h);have Fn:tb.size=1:=by rw[ZI];rfl
      have DS:¬ 9223372036854775807<4+nm.size+1+tb.size:=by omega
      have K:Hid (dG X=[104,97,115,32]++nm.data.toList++[32]++tb.data.toList):=by show _=_;rw[ZP.out,nD (by rw[hask];simp),ZI];cases X.has<;>rfl
      have O:=ae ((q9 wr).alloc ly (N #[U nm,ZD ZA,ZD X.has,J I (q:Int)] 93));have OL:=ae (own_below H.out O.out ly);have P:=ae (o.out.trans (O.out.mono o.out.size));have m0:(A wr (N #[U nm,ZD ZA,ZD X.has,J I (q:Int)] 93)).cell? (Q wr.heap.size 0 Y)=T (U nm):=by simp
      have m2:(A wr (N #[U nm,ZD ZA,ZD X.has,J I (q:Int)] 93)).cell? (Q wr.heap.size 2 Y)=T (ZD X.has):=by simp
      have y:wr.heap.size<(A wr (N #[U nm,ZD ZA,ZD X.has,J I (q:Int)] 93)).heap.size:=by simp
      clear z ZP hask hq L q1 q2 q3 ZI Fn;go_wp2_with fail;clear p0 p1 p2 p3 e5 O;generalize A wr (N #[U nm,ZD ZA,ZD X.has,J I (q:Int)] 93)=WL at OL P m0 m2 y ⊢;generalize wr.heap.size=gl at m0 m2 y ⊢
      go_region_law (first
       |(refine eF rfl (.tmp 84) (.tmp 93) 66 rfl W.heap.size 9 i0 (U ⟨#[]⟩) 1 16 IH hi ZJ aq ZK rfl (by decide) u3 (d.f+1+j) (fi c) (by simp[Act.eval]) (by first|exact B.out.alloc _|exact B.out.drew.alloc _|exact B.out.drew.drew.alloc _) (Q u.heap.size 0 Y) 1 1 [_] (by simp[Act.eval]) rfl (by first|exact ci u _ _|exact ci u.drew _ _|exact ci u.drew.drew _ _) (by simp[Value.oneCell']) (by unfold maxLen;omega) (by omega) (by simp<;>omega) ?_;intro v6 w6 f b t;have ZN:=ae f;(first|have G:=ae (bg (ZL.out.alloc R _) b (by simp<;>omega) (λj e=>(B.out.lt j e).1))|have G:=ae (bg (ZL.out.drew.alloc (by simpa using R) _) b (by simp<;>omega) (λj e=>(B.out.lt j e).1)));clear f b t)
       |(go_simp;go_at_call 54;refine(FL.out _).mono ?_;rintro e u ⟨rfl,mv⟩;have E:Hid (Below WL.heap.size WL u):=(by rw[mv];first|exact eL _ _|exact br.drew|exact br.drew.drew|exact br.drew.drew.drew);have B:=ae (own_below OL.out E.out ly);have ZL:=ae (P.out.trans (E.out.mono P.out.size));have R:W.heap.size<=u.heap.size:=ZL.out.size;have n5:=(E.out.cell (p:=(Q gl 0 Y)) y).trans m0;have qr:gl<u.heap.size:=lj y E.out.size;clear mv))
      all_goals
       go_simp;go_wp2;refine⟨⟨j+1,c++[_],by omega,by go_num,by simp[ZR];omega,?_,oH ZN.out,G.out⟩,by simp[intOf];omega⟩;show _=_;rw[gS,ZM.out,fd.out,K.out];simp
    ·obtain rfl:j=d.b:=by omega
     have R:W.heap.size<=wr.heap.size:=o.out.size;go_wp2_with (at_builtin;refine BS _ rfl (.tmp 95) (.tmp 96) 66 rfl W.heap.size 9 i0 (U ⟨#[]⟩) 1 16 IH hi ZJ aq ZK rfl (by decide) _ (d.f+1+d.b) (fi c) (by simp[Act.eval]) (H.out.alloc _) (Q wr.heap.size 0 Y) 1 1 [_] (by simp[Act.eval]) rfl (ci wr _ _) (by simp[Value.oneCell']) (by unfold maxLen;omega) (by omega) (by simp;omega) ?_;intro v6 w6 f b t;have ZN:=ae f;have G:=ae (bg (o.out.alloc R _) b (by simp;omega) (λj e=>(H.out.lt j e).1));clear f b t);go_ret;refine⟨_,c++[(⟨#[101,110,100]⟩:ByteArray)],rfl,⟨?_,by simp,?_,by simp[ZR];omega,S.out.trans (G.out.mono dg)⟩⟩
     ·have h:=aC (oH ZN.out) dg;have hl:(c++[(⟨#[101,110,100]⟩:ByteArray)]).length=d.f+1+d.b+1:=by simp[ZR]
      rw[hl];exact h
     {rw[gS,ZM.out,HE.out];simp[mK]}
