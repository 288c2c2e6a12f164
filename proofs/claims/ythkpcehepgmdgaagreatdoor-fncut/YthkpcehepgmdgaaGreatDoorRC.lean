import Derived.Test.YthkpcehepgmdgaaGreatDoorRB
import Derived.Deep.CutBlock
set_option maxRecDepth 100000
set_option maxHeartbeats 4000000
open Go renaming Addr.mk->Q,Value.slice->Z,Value.string->U,Value.int->J,Value.agg->ZH,Obj.cells->N,IntKind.i64->I,World->G,Value->ZD,World.setCell->ZT,Proofs.Tryz.prog->Pg
open Option renaming none->Y,some->T
open List renaming length->A
namespace Go.Proofs.YthkpcehepgmdgaaGreatDoor.Vp
open Tryz RowKit
variable {n0:Nat}{a0:Option Addr}
theorem qD (ZO:Nat)(hNN:200<=ZO/\ZO<=299)(R p g c:Nat)(L:List I3)(w:G)(hR:Rd w R p)(hp:p<=20000)(O:g<w.heap.size)(hN:∀j u,(i3L L)[j]?=T u->w.cell? (((Q g 0 Y):Addr).add j)=T u)(hn:A L<=ZO)(ZS:L≠[])(hT:∀i∈L,i.2.1.length<=5000):Calls Pg 54 #[.pointer (T (Q R 0 Y)),ZH #[Z (T (Q g 0 Y)) (A L) c]] w λe w'=>DP w R (p+1000) 0 (ZO+1) e w':=by
 have A2:=(((q9 w).alloc ly (N #[Z (T (Q g 0 Y)) (A L) c] 41)).alloc (by simp) (N #[Z Y 0 0] 41)).alloc (by simp;omega) (N #[] 90);have ZN:=ae (qZ hR (Z (T (Q g 0 Y)) (A L) c));have N0:=ae (λ(j:Nat) (u:ZD) (ZM:(i3L L)[j]?=T u)=>(A2.cell (p:=((Q g 0 Y):Addr).add j) (by rw[gA];exact O)).trans (hN j u ZM));have HT:=ae hT;have hl:0<A L:=LE.2 ZS;clear A2 hR hN hT O;go_enter func54,ntmps54;go_wp2_with (at_builtin;refine gC rfl (.tmp 7) (.tmp 9) rfl (w.heap.size+2) (w.heap.size+2) 0 [] (by simp[Act.eval]) ZN.ir (Q g 0 Y) (A L) c L (by simp[Act.eval]) rfl ZS N0.out (by simp only[J1];omega) (by simp) ?_);intro ZJ c1 W1 ZU C;have ZQ:=ae (ZN.app0 (n':=ZO) ZU C (by simp only[J1];omega) HT);rw[J2] at ZQ;clear ZU C ZN N0 HT ZS;go_wp2_with fail;refine(ar R _ (A L:Int) _ ZQ.st.rd (by omega) (by omega) (by omega)).mono ?_;rintro e W2 ⟨z,rfl,z0,z1,hR,h⟩;obtain⟨k,rfl⟩:∃k:Nat,z=(k:Int):=⟨z.toNat,by omega⟩
 have V:=ae (ZQ.ac h hR);have m:k<A L:=by omega
 have nz:¬ ((A L:Int)=0):=by omega
 clear h hR ZQ;go_wp2_with fail;refine(ar R _ 7 _ V.st.rd (by omega) (by omega) (by omega)).mono ?_;rintro e r ⟨s,rfl,s0,s1,hR,h⟩;have f:=ae (V.ac h hR);clear h hR V;go_upto_block 0 with fail;go_cut [5] (λv wx=>∃(x B q':Nat) (D:List I3),v=Z (T (Q x 0 Y)) (A D) B/\q'<=p+1000/\Hid (SC w R (w.heap.size+1) wx q' x B D (ZO+1)));case rest =>
  clear f;obtain⟨x,B,q',D,rfl,hq,b⟩:=hcut;have pb:=b.st.2.2.1;have zl:=pb.lt;have d0:=pb.c0;have d1:=pb.fz 0;have fin:=ae (b.fin (Z (T (Q x 0 Y)) (A D) B));have ln:=b.len;clear pb b;go_wp2;obtain⟨f1,f2,f3,f4,f5,f6⟩:=fin.out;try simp only[Exit.inBlock,Exit.then]
  refine bp (jD rfl _ _ (w.heap.size+1) _ rfl f1) rfl ?_;exact⟨D,x,B,rfl,f2,by omega,by omega,f4,_,by omega,f5,f6⟩
 rcases(show s=0∨s=1∨s=2∨s=3∨s=6∨s=4∨s=5 by omega) with rfl|rfl|rfl|rfl|rfl|rfl|rfl;case' inl =>go_wp2_with fail;refine(ar R _ 18 _ f.st.rd (by omega) (by omega) (by omega)).mono ?_;rintro e E ⟨y,rfl,ZL,W,hR,h⟩;have b:=ae (f.ac h hR);have o:=ae (b.set3 (j:=0) m (by omega) (y - 1,(L.getD k (0,[],0)).2) (J I (y - 1)) rfl (b.B k m));clear h hR f
 case' inr.inl =>have b:=f;have o:=ae (b.set3 (j:=2) m (by omega) ((L.getD k (0,[],0)).1,(L.getD k (0,[],0)).2.1,(wrap64 ((de L k).n+1))) (J I (wrap64 ((de L k).n+1))) rfl (b.B k m));clear f
 case' inr.inr.inl =>
  have q:=ae (f.aa ((q9 r).alloc ly (N #[J I (-1),J I 2000,J I 2001,J I 200,J I 201,J I 1000000007] 3)));have sz3:=q.st.lt;have V0:=ae (λj u=>jT r #[J I (-1),J I 2000,J I 2001,J I 200,J I 201,J I 1000000007] 3 _ j u rfl);have rl:=f.st.rd.lt;go_wp2_with fail;refine(ar R _ 6 _ q.st.rd (by omega) (by omega) (by omega)).mono ?_;rintro e E ⟨y,rfl,ZL,W,hR,h⟩;have b:=ae (q.ac h hR);have sz4:r.heap.size<E.heap.size:=by have:=h.size;simp at this;omega
  obtain⟨j,u,rfl,cv⟩:∃(j:Nat) (u:Int),y=j/\E.cell? (Q r.heap.size j Y)=T (J I u):=by have l:=λj u ZM=>(h.cell r.heap.size j (by simp) (by omega)).trans (V0 j u ZM);rcases(show y=0∨y=1∨y=2∨y=3∨y=4∨y=5 by omega) with rfl|rfl|rfl|rfl|rfl|rfl;all_goals first|exact⟨0,_,rfl,l 0 _ rfl⟩|exact⟨1,_,rfl,l 1 _ rfl⟩|exact⟨2,_,rfl,l 2 _ rfl⟩|exact⟨3,_,rfl,l 3 _ rfl⟩|exact⟨4,_,rfl,l 4 _ rfl⟩|exact⟨5,_,rfl,l 5 _ rfl⟩
  have o:=ae (b.set3 (j:=2) m (by omega) ((L.getD k (0,[],0)).1,(L.getD k (0,[],0)).2.1,u) (J I u) rfl (b.B k m));clear h hR f q V0
 case' inr.inr.inr.inl =>
  go_wp2_with fail;refine(ar R _ 2 _ f.st.rd (by omega) (by omega) (by omega)).mono ?_;rintro e E ⟨y,rfl,ZL,W,hR,h⟩;have b:=ae (f.ac h hR);clear h hR f;go_wp2_with fail;obtain⟨m0,K⟩:∃m0:Nat,2000+y=(m0:Int):=⟨(2000+y).toNat,by omega⟩
  rw[K];refine(eZ ⟨#[116]⟩ m0 _ (by show 1*m0<=4000;omega) (by omega)).mono ?_;rintro e Wm ⟨t,rfl,ht,hw⟩;rw[hw]
  have o:=ae (b.set3 (j:=1) m (by omega) ((L.getD k (0,[],0)).1,t.data.toList,(L.getD k (0,[],0)).2.2) (U t) rfl (by
   rw[NM]
   exact AD ht (by show 1*m0<=5000;omega)))
  clear ht K hw
 case' inr.inr.inr.inr.inl =>have b:=f;have o:=ae (b.set3 (j:=1) m (by omega) ((L.getD k (0,[],0)).1,[121],(L.getD k (0,[],0)).2.2) (U ⟨#[121]⟩) rfl (by simp));clear f
 case inr.inr.inr.inr.inr.inl =>
  have hc1:A L<=c1:=by
   rcases f.ir.2 with ⟨l,_⟩|⟨_,_,_,l,_,_,h1,_⟩
   {simp at l};{simp only[KU] at l;omega}
  have b:=ae (f.take k (by omega));have lq:(L.take k).length=k:=by rw[LU];omega
  clear f;go_wp2;go_meet;exact⟨ZJ,c1,_,L.take k,by rw[lq],by omega,b.mono (by omega)⟩
 case inr.inr.inr.inr.inr.inr =>
  have bd:=f.len;go_wp2;go_loopw [5] (λv wr=>∃(H c2 X:Nat) (M:List I3),v=Z (T (Q H 0 Y)) (A M) c2/\SC w R (w.heap.size+1) wr X H c2 M (ZO+1)/\X<=p+10+A M) (λv _=>ZO+2 - (match v with|Z _ n _=>n|_=>0));case atStart=>exact⟨ZJ,c1,_,L,rfl,f.mono (by omega),by omega⟩
  case round =>
   obtain⟨H,c2,X,M,rfl,P,hq⟩:=hrel;have S:=ae P;have ln:=P.len;clear P f;go_wp2_with fail;refine(ar R _ 2 _ S.st.rd (by omega) (by omega) (by omega)).mono ?_;rintro e E ⟨y,rfl,ZL,W,hR,h⟩;have b:=ae (S.ac h hR);clear h hR S;by_cases hlt:(A M:Int)<200+y;{go_wp2_with fail;refine(aT 9 _).mono ?_;rintro e ZP ⟨rfl,hB⟩;have o:=ae (b.aa hB);clear hB b;have ZK:=ae (o.aa ((q9 ZP).alloc ly (N #[J I 9,U ⟨#[]⟩,J I 0] 90)));have zl:=o.st.lt;go_wp2_with (at_builtin;refine gC rfl (.tmp 81) (.tmp 83) rfl (w.heap.size+2) H c2 M (by simp[Act.eval]) ZK.ir (Q ZP.heap.size 0 Y) 1 1 [(9,[],0)] (by simp[Act.eval]) rfl (by simp) (eG ZP #[J I 9,U ⟨#[]⟩,J I 0] _) (by simp only[p6,J1];omega) (by simp;omega) ?_);intro g3 c3 W6 ZU C;have C6:=ae (ZK.app0 (n':=ZO+1) ZU C (by show (A M)+1<=ZO+1;omega) (λi hi=>by rw[j4.1 hi];exact DN _));clear ZU C ZK o;go_wp2;exact⟨⟨g3,c3,_,M++[(9,[],0)],by simp,C6.out,by simp only[gB,p6,J1];omega⟩,by simp;omega⟩};{go_wp2;go_meet;exact⟨H,c2,_,M,rfl,by omega,b⟩}
 all_goals
  obtain⟨x0,x1,x2⟩:=b.ir.at k m;rw[E4] at x0 x1 x2;have fz0:=b.ir.fz (k*3);have fz1:=b.ir.fz (k*3+1);have fz2:=b.ir.fz (k*3+2);have gl:=b.ir.lt.2;clear b;go_wp2;go_meet;exact⟨ZJ,c1,_,_,by rw[KP],by omega,o.mono (by rw[KP];omega)⟩
def uw (f:Nat->Ins)(n:Nat):List I3:=(List.range n).map λi=>((f i).op,(f i).s.data.toList,(f i).n)
theorem Dc (f:Nat->Ins)(n:Nat):(uw f n).length=n:=by simp[uw]
theorem Dj (f:Nat->Ins)(n:Nat):i3L (uw f n)=bK f n:=by rw[i3L,uw,bK,QM,QM];rfl
theorem mP (ZO:Nat)(m:200<=ZO/\ZO<=299)(R p g c n:Nat)(f:Nat->Ins)(w:G)(hR:Rd w R p)(q:p<=20000)(l:RowIns w g 0 n f)(hn:1<=n/\n<=ZO)(o:∀j,j<n->(f j).s.size<=5000):Calls Pg 54 #[.pointer (T (Q R 0 Y)),ZH #[Z (T (Q g 0 Y)) n c]] w λe r=>DP w R (p+1000) 0 (ZO+1) e r:=by
 have b:=Dc f n
 have h:=qD ZO m R p g c (uw f n) w hR q l.1 (by rw[Dj];exact qi l) (by omega) (by intro e;rw[e] at b;simp at b;omega) (by
  intro i hi;obtain⟨j,t,rfl⟩:=LA.1 hi;have:=o j (KT.1 t)
  simpa using this)
 rw[b] at h;exact h
theorem vP (R p g c n:Nat)(f:Nat->Ins)(w:G)(hR:Rd w R p)(i:p<=20000)(b:RowIns w g 0 n f)(hn:1<=n/\n<=200)(h:∀j,j<n->(f j).s.size<=5000):Calls Pg 54 #[.pointer (T (Q R 0 Y)),ZH #[Z (T (Q g 0 Y)) n c]] w λe l=>DP w R (p+1000) 0 201 e l :=
 mP 200 ⟨j6 _,by omega⟩ R p g c n f w hR i b hn h
theorem nB{w:G}{b:Nat}{s0 s1 i g f:ByteArray}{t:TypeId}{fz:Nat × Nat}(h:w.heap[b]?=T (N #[U s0,U s1,U i,U g,U f] t fz))(k:Nat)(l:k<5):∃s,w.cell? (Q b k Y)=T (U s):=by
 match k,l with
 |0,_=>exact⟨s0,by simp[World.cell?,h]⟩
 |1,_=>exact⟨s1,by simp[World.cell?,h]⟩
 |2,_=>exact⟨i,by simp[World.cell?,h]⟩
 |3,_=>exact⟨g,by simp[World.cell?,h]⟩
 |4,_=>exact⟨f,by simp[World.cell?,h]⟩
 |j+5,h5=>exact absurd h5 (by omega)
section
variable {W:G}{rr xb base:Nat}{LS:List Source}{RR:List TR}
theorem SpX.setA{gt c1 n1 g c n c0:Nat}{f:Nat->Ins}{r0:TR}(h:SpX rr xb base W (Z a0 n0 c0) (Z (T (Q gt 0 Y)) n1 c1) LS (r0::RR))(E:n0=A LS)(ZU:n1=(r0::RR).length)(C:RowIns W g 0 n f)(ZQ:TypeAt W g 90)(hb:base<=g)(hn:n<=300)(L:∀j,j<n->(f j).s.size<=5000)(K:A LS<=300)(h1:(r0::RR).length<=300)(D:GX (r0::RR)):HSp base (ZT W (Q gt 1 Y) (Z (T (Q g 0 Y)) n c)) a0 n0 (ct LS) (T (Q gt 0 Y)) n1 (bj ((((⟨r0.1.e,n,f⟩,T (Q g 0 Y),c):TO)::RR.map upO).map (·.1)))/\(ZT W (Q gt 1 Y) (Z (T (Q g 0 Y)) n c)).heap[xb]?=T (N #[Z a0 n0 c0,Z (T (Q gt 0 Y)) n1 c1] 33 (0,0))/\(ZT W (Q gt 1 Y) (Z (T (Q g 0 Y)) n c)).heap[rr]?=T (N #[Z Y 0 0,Z Y 0 0] 33 (0,0))/\Below base W (ZT W (Q gt 1 Y) (Z (T (Q g 0 Y)) n c)):=by
 have l:W.ownsRow base 94 2 (Z (T (Q gt 0 Y)) n1 c1) n1 ((r0::RR).flatMap aY):=by have h2:=h.w.y;rw[<-ZU] at h2;exact h2
 have x:=(l.lt gt rfl).1;have z:TypeAt W gt 94:=h.w.type gt rfl;obtain⟨B,m⟩:=z;have far:∀(X:Nat) q,W.heap[X]?=T (N q 33 (0,0))->(ZT W (Q gt 1 Y) (Z (T (Q g 0 Y)) n c)).heap[X]?=T (N q 33 (0,0)):=by intro X q hX;refine(qh W (Q gt 1 Y) _ X ?_).trans hX;intro e;have e:X=gt:=e;subst e;have:=hX.symm.trans m;cases this
 refine⟨?_,far _ _ h.M,far _ _ h.res,(cM base W).setCell (p:=(Q gt 1 Y)) x _⟩;refine wV (c1:=c1) (dM h.src m (by decide) _) E ?_ (by rw[ZU];simp) K (by simpa using h1) ?_ ?_
 ·have h2:=gG l (j:=1) (Z (T (Q g 0 Y)) n c);have ZS:((r0::RR).flatMap aY).set 1 (Z (T (Q g 0 Y)) n c)=(((⟨r0.1.e,n,f⟩,T (Q g 0 Y),c):TO)::RR.map upO).flatMap toV:=by rw[LI,LI,<-oN];rfl
  rw[ZS] at h2;exact h2
 ·intro r b
  have i:∀k,TypeAt W k 90->(ZT W (Q gt 1 Y) (Z (T (Q g 0 Y)) n c)).heap[k]?=W.heap[k]?:=λk u=>qh W (Q gt 1 Y) _ k (by
   intro o;have o:k=gt:=o;rw[o] at u
   exact ew u (⟨B,m⟩:TypeAt W gt 94) (by decide) rfl)
  rcases BS.1 b with rfl|b;{exact⟨g,rfl,hb,C.block (by simp) (i g ZQ)⟩};{obtain⟨y,t,rfl⟩:=LA.1 b;obtain⟨M,_,ZP,H⟩:=h.w.u y (mq _ t);exact⟨y.2.1,rfl,H,M.block (by simp) (i _ ZP)⟩}
 {intro r b;rcases BS.1 b with rfl|b;{exact⟨hn,L⟩};{obtain⟨y,t,rfl⟩:=LA.1 b;exact D y (mq _ t)}}
end
structure Sw (rr xb base:Nat)(W:G)(v0:ZD)(gt n1 c1:Nat)(LS:List Source)(RT:List TR)(xs:List ZD):Prop where
 res:W.heap[rr]?=T (N #[Z Y 0 0,Z Y 0 0] 33 (0,0))
 M:W.heap[xb]?=T (N #[v0,Z (T (Q gt 0 Y)) n1 c1] 33 (0,0))
 src:W.ownsRow base 87 2 v0 (A LS) (LS.flatMap bw)
 y:W.ownsRow base 94 2 (Z (T (Q gt 0 Y)) n1 c1) n1 xs
 u:∀r∈RT,RowIns W r.2.1 0 r.1.l r.1.u/\(∃F,Cells W r.2.1 0 (r.1.l*3) F)/\TypeAt W r.2.1 90/\base<=r.2.1
section
variable {W W':G}{rr xb base gt n1 c1:Nat}{v0:ZD}{LS:List Source}{RT:List TR}{xs:List ZD}
theorem SpX.sw (h:SpX rr xb base W v0 (Z (T (Q gt 0 Y)) n1 c1) LS RT)(b:n1=A RT):Sw rr xb base W v0 gt n1 c1 LS RT (RT.flatMap aY) :=
 ⟨h.res,h.M,h.src,by have h2:=h.w.y;rw[<-b] at h2;exact h2,h.w.u⟩
theorem Sw.set (h:Sw rr xb base W v0 gt n1 c1 LS RT xs)(j:Nat)(u:ZD):Sw rr xb base (ZT W (Q gt j Y) u) v0 gt n1 c1 LS RT (xs.set j u):=by
 have i:TypeAt W gt 94:=dC h.y gt rfl;obtain⟨g,b⟩:=i;have far:∀(X:Nat) f,W.heap[X]?=T (N f 33 (0,0))->(ZT W (Q gt j Y) u).heap[X]?=T (N f 33 (0,0)):=by intro X f hX;refine(qh W (Q gt j Y) _ X ?_).trans hX;intro e;have e:X=gt:=e;subst e;have:=hX.symm.trans b;cases this
 exact⟨far _ _ h.res,far _ _ h.M,dM h.src b (by decide) u,gG h.y u,CZ h.u ⟨g,b⟩ u⟩
theorem Sw.drew (h:Sw rr xb base W v0 gt n1 c1 LS RT xs):Sw rr xb base W.drew v0 gt n1 c1 LS RT xs :=
 ⟨h.res,h.M,own_below h.src br.drew ly,own_below h.y br.drew ly,λr b=>by
  obtain⟨f,⟨F,j⟩,g,i⟩:=h.u r b
  exact⟨f.block ly rfl,⟨F,j.block ly rfl⟩,g.block rfl,i⟩⟩
theorem Sw.fin{c0:Nat}(h:Sw rr xb base W (Z a0 n0 c0) gt n1 c1 LS RT xs)(m:n0=A LS){L:List TR}(l:xs=(L.map upO).flatMap toV)(g:n1=A L)(i:A LS<=300)(h1:A L<=300)(hL:∀r∈L,r∈RT)(j:GX RT):HSp base W a0 n0 (ct LS) (T (Q gt 0 Y)) n1 (bj ((L.map upO).map (·.1))):=by
 subst l;refine wV (c1:=c1) h.src m h.y (by rw[g];simp) i (by simpa using h1) (λr f=>?_) λr f=>?_;{obtain⟨y,b,rfl⟩:=LA.1 f;obtain⟨n,_,q3,o⟩:=h.u y (hL y b);exact⟨y.2.1,rfl,o,n⟩};{obtain⟨y,b,rfl⟩:=LA.1 f;exact j y (hL y b)}
end
theorem Au (R p:Nat)(m:Int)(w:G)(hR:Rd w R p)(hp:(p:Int)<=100000)(hm:m<1):Calls Pg 13 #[.pointer (T (Q R 0 Y)),J I m] w λe f=>e=.returned (J I 0)/\Rd f R (p+1)/\Only R w f:=by have hst:=ae hR.step;have b:Hid (Only R w (ZT w (Q R 1 Y) (J I ((p:Int)+1)))):=cj (Only.refl R w) 1 _;obtain⟨a,n,cap,hl,hn,h0,⟨h1,h2⟩,g⟩:=hR;clear g;go_enter func13,ntmps13;go_wp2;go_ret;exact⟨rfl,hst,b⟩
theorem vQ (R p g c:Nat)(w:G)(hR:Rd w R p)(hp:p<=20000):Calls Pg 54 #[.pointer (T (Q R 0 Y)),ZH #[Z (T (Q g 0 Y)) 0 c]] w λe H=>DP w R (p+1000) 0 201 e H:=by
 have m:=ae (qZ hR (Z (T (Q g 0 Y)) 0 c));obtain⟨D,hi,ZU,y,t⟩:=jp;clear hR;go_enter func54,ntmps54;go_wp2_with (at_builtin;refine DD _ rfl (.tmp 7) (.tmp 9) 39 rfl (w.heap.size+2) 90 D (ZH #[J I 0,U ⟨#[]⟩,J I 0]) 3 32 MB hi ZU y t rfl (by decide) (Z (T (Q (w.heap.size+2) 0 Y)) 0 0) 0 [] (by simp[Act.eval]) m.ir (Q g 0 Y) 0 c [] (by simp[Act.eval]) rfl (λj u l=>by simp at l) (λu l=>by simp at l) (by unfold maxLen;omega) (by omega) (by simp) ?_);intro z x b s f;replace b:x.ownsRow (w.heap.size+2) 90 3 z 0 []:=b
 obtain⟨n,c1,rfl⟩:∃g c,z=Z (T (Q g 0 Y)) 0 c:=(by
  rcases b.2 with ⟨rfl,_⟩|⟨g,c,cur,rfl,_⟩
  {exact(f rfl).elim}
  ·exact⟨g,c,rfl⟩)
 have r:IR x (w.heap.size+2) n c1 []:=b;have h:=ae (m.app0 (M:=[]) (n':=200) r s (by simp) (λi hi=>by simp at hi));rw[J2] at h;clear r s m b f;go_wp2_with fail;refine(Au R _ 0 _ h.st.1 (by omega) (by omega)).mono ?_;rintro e W2 ⟨rfl,hR,o⟩;have q:=ae (h.ac o hR);clear o hR h;have pb:=q.st.2.2.1;have zl:=pb.lt;have d0:=pb.c0;have d1:=pb.fz 0;have fin:=ae (q.fin (Z (T (Q n 0 Y)) 0 c1));clear pb;go_wp2;obtain⟨f1,B,f3,C,ZS,E⟩:=fin.out;try simp only[Exit.inBlock,Exit.then]
 refine bp (jD rfl _ _ (w.heap.size+1) _ rfl f1) rfl ?_;exact⟨[],n,c1,rfl,B,by omega,by simp,C,_,by omega,ZS,E⟩
