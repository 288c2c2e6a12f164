import Derived.Test.YtoddkejemcbkmaaGreatDoorQS
import Derived.Deep.CutBlock
set_option maxRecDepth 100000
set_option maxHeartbeats 8000000
open Go renaming Addr.mk->Q,Value.slice->Z,Value.string->U,Value.int->J,Obj.cells->N,IntKind.i64->I,World->M,Value->ZC,Ending.returned->ZF,Proofs.Tryz.prog->Pg
open Option renaming none->Y,some->T
namespace Go.Proofs.YtoddkejemcbkmaaGreatDoor.Vp
open Tryz RowKit
theorem qN (ZN:Nat)(hNN:200<=ZN/\ZN<=299)(R p g c:Nat)(L:List I3)(w:M)(hR:Rd w R p)(hp:p<=20000)(O:g<w.heap.size)(hN:∀j u,(i3L L)[j]?=T u->w.cell? (((Q g 0 Y):Addr).add j)=T u)(hn:L.length<=ZN)(x:L≠[])(hT:∀i∈L,i.2.1.length<=5000):Calls Pg 77 #[.pointer (T (Q R 0 Y)),.agg #[Z (T (Q g 0 Y)) L.length c]] w λe w'=>DP w R (p+1000) 0 (ZN+1) e w':=by
 have A2:=(((q9 w).alloc ly (N #[Z (T (Q g 0 Y)) L.length c] 59)).alloc (by simp) (N #[Z Y 0 0] 59)).alloc (by simp;omega) (N #[] 90);have V:=ae (rI hR (Z (T (Q g 0 Y)) L.length c));have N0:=ae (λ(j:Nat) (u:ZC) (ZL:(i3L L)[j]?=T u)=>(A2.cell (p:=((Q g 0 Y):Addr).add j) (by rw[iU];exact O)).trans (hN j u ZL));have HT:=ae hT;have hl:0<L.length:=IB.2 x;clear A2 hR hN hT O;go_enter func77,ntmps77;go_wp2_with (at_builtin;refine gF rfl (.tmp 7) (.tmp 9) rfl (w.heap.size+2) (w.heap.size+2) 0 [] (by simp[Act.eval]) V.ir (Q g 0 Y) L.length c L (by simp[Act.eval]) rfl x N0.out (by simp only[nX];omega) (by simp) ?_);intro ZK c1 W1 G A;have ZO:=ae (V.app0 (n':=ZN) G A (by simp only[nX];omega) HT);rw[MH] at ZO;clear G A V N0 HT x;go_wp2_with fail;refine(au R _ (L.length:Int) _ ZO.st.rd (by omega) (by omega) (by omega)).mono ?_;rintro e W2 ⟨z,rfl,z0,z1,hR,h⟩;obtain⟨k,rfl⟩:∃k:Nat,z=(k:Int):=⟨z.toNat,by omega⟩
 have ZM:=ae (ZO.F h hR);have o:k<L.length:=by omega
 have nz:¬ ((L.length:Int)=0):=by omega
 clear h hR ZO;go_wp2_with fail;refine(au R _ 7 _ ZM.st.rd (by omega) (by omega) (by omega)).mono ?_;rintro e r ⟨s,rfl,s0,s1,hR,h⟩;have f:=ae (ZM.F h hR);clear h hR ZM;go_upto_block 0 with fail;go_cut [5] (λv wx=>∃(B D S:Nat) (F:List I3),v=Z (T (Q B 0 Y)) F.length D/\S<=p+1000/\Hid (SC w R (w.heap.size+1) wx S B D F (ZN+1)));case rest =>
  clear f;obtain⟨B,D,S,F,rfl,hq,b⟩:=hcut;have H:=b.st.2.2.1;have zl:=H.lt;have d0:=H.c0;have d1:=H.fz 0;have fin:=ae (b.fin (Z (T (Q B 0 Y)) F.length D));have ln:=b.len;clear H b;go_wp2;obtain⟨f1,f2,f3,f4,f5,f6⟩:=fin.out;try simp only[Exit.inBlock,Exit.then]
  refine bp (j7 rfl _ _ (w.heap.size+1) _ rfl f1) rfl ?_;exact⟨F,B,D,rfl,f2,by omega,by omega,f4,_,by omega,f5,f6⟩
 rcases(show s=0∨s=1∨s=2∨s=3∨s=6∨s=4∨s=5 by omega) with rfl|rfl|rfl|rfl|rfl|rfl|rfl;case' inl =>go_wp2_with fail;refine(au R _ 18 _ f.st.rd (by omega) (by omega) (by omega)).mono ?_;rintro e E ⟨y,rfl,y0,ZJ,hR,h⟩;have b:=ae (f.F h hR);have m:=ae (b.set3 (j:=0) o (by omega) (y - 1,(L.getD k (0,[],0)).2) (J I (y - 1)) rfl (b.h k o));clear h hR f
 case' inr.inl =>have b:=f;have m:=ae (b.set3 (j:=2) o (by omega) ((L.getD k (0,[],0)).1,(L.getD k (0,[],0)).2.1,(wrap64 ((dh L k).n+1))) (J I (wrap64 ((dh L k).n+1))) rfl (b.h k o));clear f
 case' inr.inr.inl =>
  have q:=ae (f.aa ((q9 r).alloc ly (N #[J I (-1),J I 2000,J I 2001,J I 200,J I 201,J I 1000000007] 3)));have sz3:=q.st.lt;have V0:=ae (λj u=>jb r #[J I (-1),J I 2000,J I 2001,J I 200,J I 201,J I 1000000007] 3 _ j u rfl);have rl:=f.st.rd.lt;go_wp2_with fail;refine(au R _ 6 _ q.st.rd (by omega) (by omega) (by omega)).mono ?_;rintro e E ⟨y,rfl,y0,ZJ,hR,h⟩;have b:=ae (q.F h hR);have sz4:r.heap.size<E.heap.size:=by have:=h.size;simp at this;omega
  obtain⟨j,u,rfl,cv⟩:∃(j:Nat) (u:Int),y=j/\E.cell? (Q r.heap.size j Y)=T (J I u):=by have l:=λj u ZL=>(h.cell r.heap.size j (by simp) (by omega)).trans (V0 j u ZL);rcases(show y=0∨y=1∨y=2∨y=3∨y=4∨y=5 by omega) with rfl|rfl|rfl|rfl|rfl|rfl;all_goals first|exact⟨0,_,rfl,l 0 _ rfl⟩|exact⟨1,_,rfl,l 1 _ rfl⟩|exact⟨2,_,rfl,l 2 _ rfl⟩|exact⟨3,_,rfl,l 3 _ rfl⟩|exact⟨4,_,rfl,l 4 _ rfl⟩|exact⟨5,_,rfl,l 5 _ rfl⟩
  have m:=ae (b.set3 (j:=2) o (by omega) ((L.getD k (0,[],0)).1,(L.getD k (0,[],0)).2.1,u) (J I u) rfl (b.h k o));clear h hR f q V0
 case' inr.inr.inr.inl =>
  go_wp2_with fail;refine(au R _ 2 _ f.st.rd (by omega) (by omega) (by omega)).mono ?_;rintro e E ⟨y,rfl,y0,ZJ,hR,h⟩;have b:=ae (f.F h hR);clear h hR f;go_wp2_with fail;obtain⟨m0,K⟩:∃m0:Nat,2000+y=(m0:Int):=⟨(2000+y).toNat,by omega⟩
  rw[K];refine(fj ⟨#[116]⟩ m0 _ (by show 1*m0<=4000;omega) (by omega)).mono ?_;rintro e Wm ⟨t,rfl,ht,hw⟩;rw[hw]
  have m:=ae (b.set3 (j:=1) o (by omega) ((L.getD k (0,[],0)).1,t.data.toList,(L.getD k (0,[],0)).2.2) (U t) rfl (by
   rw[NY]
   exact p9 ht (by show 1*m0<=5000;omega)))
  clear ht K hw
 case' inr.inr.inr.inr.inl =>have b:=f;have m:=ae (b.set3 (j:=1) o (by omega) ((L.getD k (0,[],0)).1,[121],(L.getD k (0,[],0)).2.2) (U ⟨#[121]⟩) rfl (by simp));clear f
 case inr.inr.inr.inr.inr.inl =>
  have hc1:L.length<=c1:=by
   rcases f.ir.2 with ⟨l,_⟩|⟨_,_,_,l,_,_,h1,_⟩
   {simp at l};{simp only[ML] at l;omega}
  have b:=ae (f.take k (by omega));have lq:(L.take k).length=k:=by rw[MO];omega
  clear f;go_wp2;go_meet;exact⟨ZK,c1,_,L.take k,by rw[lq],by omega,b.mono (by omega)⟩
 case inr.inr.inr.inr.inr.inr =>
  have bd:=f.len;go_wp2;go_loopw [5] (λv wr=>∃(C c2 P:Nat) (ZQ:List I3),v=Z (T (Q C 0 Y)) ZQ.length c2/\SC w R (w.heap.size+1) wr P C c2 ZQ (ZN+1)/\P<=p+10+ZQ.length) (λv _=>ZN+2 - (match v with|Z _ n _=>n|_=>0));case atStart=>exact⟨ZK,c1,_,L,rfl,f.mono (by omega),by omega⟩
  case round =>
   obtain⟨C,c2,P,ZQ,rfl,W,hq⟩:=hrel;have ZI:=ae W;have ln:=W.len;clear W f;go_wp2_with fail;refine(au R _ 2 _ ZI.st.rd (by omega) (by omega) (by omega)).mono ?_;rintro e E ⟨y,rfl,y0,ZJ,hR,h⟩;have b:=ae (ZI.F h hR);clear h hR ZI;by_cases hlt:(ZQ.length:Int)<200+y;{go_wp2_with fail;refine(aV 9 _).mono ?_;rintro e ZP ⟨rfl,hB⟩;have m:=ae (b.aa hB);clear hB b;have X:=ae (m.aa ((q9 ZP).alloc ly (N #[J I 9,U ⟨#[]⟩,J I 0] 90)));have zl:=m.st.lt;go_wp2_with (at_builtin;refine gF rfl (.tmp 81) (.tmp 83) rfl (w.heap.size+2) C c2 ZQ (by simp[Act.eval]) X.ir (Q ZP.heap.size 0 Y) 1 1 [(9,[],0)] (by simp[Act.eval]) rfl (by simp) (dx ZP #[J I 9,U ⟨#[]⟩,J I 0] _) (by simp only[eT,nX];omega) (by simp;omega) ?_);intro g3 c3 W6 G A;have C6:=ae (X.app0 (n':=ZN+1) G A (by show ZQ.length+1<=ZN+1;omega) (λi hi=>by rw[nL.1 hi];exact E4 _));clear G A X m;go_wp2;exact⟨⟨g3,c3,_,ZQ++[(9,[],0)],by simp,C6.out,by simp only[cM,eT,nX];omega⟩,by simp;omega⟩};{go_wp2;go_meet;exact⟨C,c2,_,ZQ,rfl,by omega,b⟩}
 all_goals
  obtain⟨x0,x1,x2⟩:=b.ir.at k o;rw[F6] at x0 x1 x2;have fz0:=b.ir.fz (k*3);have fz1:=b.ir.fz (k*3+1);have fz2:=b.ir.fz (k*3+2);have gl:=b.ir.lt.2;clear b;go_wp2;go_meet;exact⟨ZK,c1,_,_,by rw[LN],by omega,m.mono (by rw[LN];omega)⟩
def uD (f:Nat->Ins)(n:Nat):List I3:=(List.range n).map λi=>((f i).op,(f i).s.data.toList,(f i).n)
theorem Et (f:Nat->Ins)(n:Nat):(uD f n).length=n:=by simp[uD]
theorem Eu (f:Nat->Ins)(n:Nat):i3L (uD f n)=bH f n:=by rw[i3L,uD,bH,T3,T3];rfl
theorem uE (ZN:Nat)(l:200<=ZN/\ZN<=299)(R p g c n:Nat)(f:Nat->Ins)(w:M)(hR:Rd w R p)(r:p<=20000)(m:RowIns w g 0 n f)(hn:1<=n/\n<=ZN)(o:∀j,j<n->(f j).s.size<=5000):Calls Pg 77 #[.pointer (T (Q R 0 Y)),.agg #[Z (T (Q g 0 Y)) n c]] w λe t=>DP w R (p+1000) 0 (ZN+1) e t:=by
 have b:=Et f n
 have h:=qN ZN l R p g c (uD f n) w hR r m.1 (by rw[Eu];exact wY m) (by omega) (by intro e;rw[e] at b;simp at b;omega) (by
  intro i hi;obtain⟨j,q,rfl⟩:=PC.1 hi;have:=o j (NH.1 q)
  simpa using this)
 rw[b] at h;exact h
theorem xH {w:M}{b:Nat}{c i g f l:ByteArray}{t:TypeId}{fz:Nat × Nat}(h:w.heap[b]?=T (N #[U c,U i,U g,U f,U l] t fz))(k:Nat)(m:k<5):∃s,w.cell? (Q b k Y)=T (U s):=by
 match k,m with
 |0,_=>exact⟨c,by simp[World.cell?,h]⟩
 |1,_=>exact⟨i,by simp[World.cell?,h]⟩
 |2,_=>exact⟨g,by simp[World.cell?,h]⟩
 |3,_=>exact⟨f,by simp[World.cell?,h]⟩
 |4,_=>exact⟨l,by simp[World.cell?,h]⟩
 |j+5,h5=>exact absurd h5 (by omega)
theorem Bj (R p:Nat)(m:Int)(w:M)(hR:Rd w R p)(hp:(p:Int)<=100000)(hm:m<1):Calls Pg 20 #[.pointer (T (Q R 0 Y)),J I m] w λe c=>e=ZF (J I 0)/\Rd c R (p+1)/\Only R w c:=by have b:=ae hR.step;have f:Hid (Only R w (w.setCell (Q R 1 Y) (J I ((p:Int)+1)))):=ip (Only.refl R w) 1 _;obtain⟨a,n,cap,hl,hn,h0,⟨h1,h2⟩,g⟩:=hR;clear g;go_enter func20,ntmps20;go_wp2;go_ret;exact⟨rfl,b,f⟩
theorem wB (R p g c:Nat)(w:M)(hR:Rd w R p)(hp:p<=20000):Calls Pg 77 #[.pointer (T (Q R 0 Y)),.agg #[Z (T (Q g 0 Y)) 0 c]] w λe F=>DP w R (p+1000) 0 201 e F:=by
 have m:=ae (rI hR (Z (T (Q g 0 Y)) 0 c));obtain⟨G,hi,x,q,t⟩:=oJ;clear hR;go_enter func77,ntmps77;go_wp2_with (at_builtin;refine BS _ rfl (.tmp 7) (.tmp 9) 57 rfl (w.heap.size+2) 90 G (.agg #[J I 0,U ⟨#[]⟩,J I 0]) 3 32 PU hi x q t rfl (by decide) (Z (T (Q (w.heap.size+2) 0 Y)) 0 0) 0 [] (by simp[Act.eval]) m.ir (Q g 0 Y) 0 c [] (by simp[Act.eval]) rfl (λj u n=>by simp at n) (λu n=>by simp at n) (by unfold maxLen;omega) (by omega) (by simp) ?_);intro A s b y f;replace b:s.ownsRow (w.heap.size+2) 90 3 A 0 []:=b
 obtain⟨o,c1,rfl⟩:∃g c,A=Z (T (Q g 0 Y)) 0 c:=(by
  rcases b.2 with ⟨rfl,_⟩|⟨g,c,cur,rfl,_⟩
  {exact(f rfl).elim}
  ·exact⟨g,c,rfl⟩)
 have B:IR s (w.heap.size+2) o c1 []:=b;have h:=ae (m.app0 (ZQ:=[]) (n':=200) B y (by simp) (λi hi=>by simp at hi));rw[MH] at h;clear B y m b f;go_wp2_with fail;refine(Bj R _ 0 _ h.st.1 (by omega) (by omega)).mono ?_;rintro e W2 ⟨rfl,hR,z⟩;have r:=ae (h.F z hR);clear z hR h;have l:=r.st.2.2.1;have zl:=l.lt;have d0:=l.c0;have d1:=l.fz 0;have fin:=ae (r.fin (Z (T (Q o 0 Y)) 0 c1));clear l;go_wp2;obtain⟨f1,C,f3,E,D,H⟩:=fin.out;try simp only[Exit.inBlock,Exit.then]
 refine bp (j7 rfl _ _ (w.heap.size+1) _ rfl f1) rfl ?_;exact⟨[],o,c1,rfl,C,by omega,by simp,E,_,by omega,D,H⟩
open Ca
theorem GJ {w:M}{base:Nat}{a0 a1:Option Addr}{c0 c1:Nat}{LS:List Source}{RT:List TR}(f:w.ownsRow base 122 2 (Z a0 LS.length c0) LS.length (LS.flatMap bI))(g:TRow w base (Z a1 RT.length c1) RT)(b:SpG LS RT)(h:LS.length<=300)(h1:RT.length<=300):HSp base w a0 LS.length (da LS) a1 RT.length (bY (RT.map (·.1)))/\∀i,i<RT.length->1<=(bY (RT.map (·.1)) i).f/\(bY (RT.map (·.1)) i).f<=200:=by
 refine⟨uB f rfl g rfl h h1 (λr c=>⟨by have:=(b.t r c).2.1.2;omega,(b.t r c).2.2⟩),λi hi=>?_⟩;have e:bY (RT.map (·.1)) i=RT[i].1:=by simp[bY,hi]
 rw[e];exact(b.t _ (gz hi)).2.1
theorem ku (R p b0 n0 c0 n1 c1:Nat)(a0:Option Addr)(f0:Nat->Source)(a1:Option Addr)(f1:Nat->Target)(w:M)(hR:Rd w R p)(hp:p<=50000)(hb:R<b0)(hH:HSp b0 w a0 n0 f0 a1 n1 f1):Calls Pg 68 #[.pointer (T (Q R 0 Y)),.agg #[Z a0 n0 c0,Z a1 n1 c1]] w λe ZK=>∃t:ByteArray,e=ZF (U t)/\∃q:Nat,q<=p+3/\Rd ZK R q/\Only R w ZK:=by
 have HR:=ae hR;have hlow:=hR.lt;have hn1:=hH.hn1;have HH:=ae hH;clear hR hH;have u:=ae ((q9 w).alloc ly (N #[Z a0 n0 c0,Z a1 n1 c1] 44));have ZP:Hid ((w.alloc (N #[Z a0 n0 c0,Z a1 n1 c1] 44)).heap[w.heap.size]?=T (N #[Z a0 n0 c0,Z a1 n1 c1] 44 (0,0))):=n6 w _;have D:(w.alloc (N #[Z a0 n0 c0,Z a1 n1 c1] 44)).heap.size=w.heap.size+1:=by simp
 by_cases hn:0<(n1:Int)
 ·go_enter func68,ntmps68;go_wp2_with fail;generalize World.alloc w _=l at u ZP D ⊢;have ZN:=ae (HR.aa u ly);have ZQ:Hid (Only R w l):=Only.u u;refine(au R p 8 _ ZN (by omega) (by omega) (by omega)).mono ?_;rintro e C ⟨z,rfl,hz0',hz1',O,ZO⟩;have ZL:=ae O;have X:=ae (ZQ.trans ZO);have K1:=ae ((ZO.block w.heap.size (by omega) (by omega)).trans ZP);clear O ZO ZN ZQ ZP u;have S:=K1.out;have ZM:C.cell? (Q w.heap.size 1 Y)=T (Z a1 n1 c1):=by simp[World.cell?,S]
  have l1:=ah S;clear S;by_cases hz:0<z
  ·go_wp2_with fail;refine aE (λV=>V.cell? (Q w.heap.size 1 Y)=T (Z a1 n1 c1)) 10 (by as_aux_lemma=>kernel_rfl) ?_;have G:Hid (C.drew.cell? (Q w.heap.size 1 Y)=T (Z a1 n1 c1)):=ZM;iterate 6
    refine aI 0 (v:=?_) rfl rfl (by as_aux_lemma=>kernel_rfl) (λ_ _ _ h=>h) rfl ?_ G ?_;rotate_left
    ·(intro wz s0;go_simp)
     (try with_reducible rfl)
    (try simp only[Act.put,nzL])
   refine ag (i:=6) rfl (by as_aux_lemma=>kernel_rfl) λK F=>?_;go_simp;go_at_call 20;refine(au R _ (n1:Int) _ (ZL.aa br.drew ly) (by omega) (by omega) (by omega)).mono ?_;rintro e E ⟨z3,rfl,m,P,f,b⟩;obtain⟨j,rfl⟩:=BC m;have ZI:Hid (Only R C E):=(Only.u br.drew).trans b;have L:=ae f;have A:=ae (X.trans ZI);have n:j<n1:=by omega
   clear f b G;have G:Hid (E.cell? (Q w.heap.size 1 Y)=T (Z a1 n1 c1)):=(ZI.cell w.heap.size 1 l1 (by omega)).trans ZM;rcases(HH.sl E (A.agr hb)).2 with h0|⟨tb,tof,rfl,r⟩
   {omega};have kn:=(r.2 j n).1;have hl:=r.1;clear r ZM;refine F _ _ (λ_=>G) ?_;clear F K
   (try simp only[Act.put,nzL])
   iterate 4
    refine cB 7 rfl rfl (by as_aux_lemma=>kernel_rfl) λK F=>?_;go_simp;refine F _ _ (λ_=>G) ?_;clear F K
    (try simp only[Act.put,nzL])
   refine aW (by as_aux_lemma=>kernel_rfl) ?_ _;go_wp2;go_ret;exact⟨_,rfl,_,by omega,L,A⟩
  ·go_wp2_with fail;obtain⟨WL,o⟩:∃W:M,C.alloc (N #[U ⟨#[97]⟩,U ⟨#[110,111,110,101]⟩,U ⟨#[]⟩,U ⟨#[120,32,121]⟩,U ⟨#[116,48]⟩] 9)=W:=⟨_,rfl⟩
   obtain⟨s,c,-⟩:=nb1 o;replace c:=c.out;have H:=ae o;clear o;have y:=ae (ZL.aa s ly);have B:=ae (X.then (s.mono (by omega)));have x:=ah c;have g:=ae c;clear s c;rw[H.out];clear H;refine(au R _ 5 _ y (by omega) (by omega) (by omega)).mono ?_;rintro e E ⟨z3,rfl,m,P,f,b⟩;obtain⟨j,rfl⟩:=BC m;have n:j<5:=by omega
   have L:=ae f;have A:=ae (B.trans b);obtain⟨sx,ZJ⟩:=xH ((b.block (C.heap.size) x (by omega)).trans g) j n;clear f b g y B;go_wp2;go_ret;exact⟨sx,rfl,_,by omega,L,A⟩
 ·go_enter func68,ntmps68;go_wp2_with fail;generalize World.alloc w _=l at u ZP D ⊢;have ZN:=ae (HR.aa u ly);have ZQ:Hid (Only R w l):=Only.u u;have l0:=ah ZP.out;have s:=ae ((q9 l).alloc ly (N #[U ⟨#[97]⟩,U ⟨#[110,111,110,101]⟩,U ⟨#[]⟩,U ⟨#[120,32,121]⟩,U ⟨#[116,48]⟩] 9));have y:=ae (ZN.aa s ly);have B:=ae (ZQ.then (s.mono (by omega)));have c:(l.alloc (N #[U ⟨#[97]⟩,U ⟨#[110,111,110,101]⟩,U ⟨#[]⟩,U ⟨#[120,32,121]⟩,U ⟨#[116,48]⟩] 9)).heap[w.heap.size+1]?=T (N #[U ⟨#[97]⟩,U ⟨#[110,111,110,101]⟩,U ⟨#[]⟩,U ⟨#[120,32,121]⟩,U ⟨#[116,48]⟩] 9 (0,0)):=(by rw[<-D];exact n6 l _)
  have x:=ah c;have g:=ae c;clear s c;generalize World.alloc l _=WL at y B g x ⊢;refine(au R _ 5 _ y (by omega) (by omega) (by omega)).mono ?_;rintro e E ⟨z3,rfl,m,P,f,b⟩;obtain⟨j,rfl⟩:=BC m;have n:j<5:=by omega
  have L:=ae f;have A:=ae (B.trans b);obtain⟨sx,ZJ⟩:=xH ((b.block (w.heap.size+1) x (by omega)).trans g) j n;clear f b g y B;go_wp2;go_ret;exact⟨sx,rfl,_,by omega,L,A⟩
