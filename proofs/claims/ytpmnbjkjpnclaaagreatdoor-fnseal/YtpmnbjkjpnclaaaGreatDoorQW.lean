import Derived.Test.YtpmnbjkjpnclaaaGreatDoorQU
import Derived.Deep.CutBlock
set_option maxRecDepth 100000
set_option maxHeartbeats 8000000
open Go renaming Addr.mk->Q,Value.slice->Z,Value.string->Y,Value.int->J,Obj.cells->N,IntKind.i64->I,World->M,Value->ZC,Ending.returned->ZF,Proofs.Tryz.prog->Pg
open Option renaming none->U,some->T
namespace Go.Proofs.YtpmnbjkjpnclaaaGreatDoor.Vp
open Tryz RowKit
theorem rC (ZO:Nat)(hNN:200<=ZO/\ZO<=299)(R p g c:Nat)(L:List I3)(w:M)(hR:Rd w R p)(hp:p<=20000)(O:g<w.heap.size)(hN:∀j u,(i3L L)[j]?=T u->w.cell? (((Q g 0 U):Addr).add j)=T u)(hn:L.length<=ZO)(B:L≠[])(hT:∀i∈L,i.2.1.length<=5000):Calls Pg 96 #[.pointer (T (Q R 0 U)),.agg #[Z (T (Q g 0 U)) L.length c]] w λe w'=>DP w R (p+1000) 0 (ZO+1) e w':=by
 have A2:=(((q9 w).alloc ly (N #[Z (T (Q g 0 U)) L.length c] 43)).alloc (by simp) (N #[Z U 0 0] 43)).alloc (by simp;omega) (N #[] 151);have ZK:=ae (sB hR (Z (T (Q g 0 U)) L.length c));have N0:=ae (λ(j:Nat) (u:ZC) (hu:(i3L L)[j]?=T u)=>(A2.cell (p:=((Q g 0 U):Addr).add j) (by rw[jc];exact O)).trans (hN j u hu));have HT:=ae hT;have hl:0<L.length:=GC.2 B;clear A2 hR hN hT O;go_enter func96,ntmps96;go_wp2_with (at_builtin;refine gI rfl (.tmp 7) (.tmp 9) rfl (w.heap.size+2) (w.heap.size+2) 0 [] (by simp[Act.eval]) ZK.ir (Q g 0 U) L.length c L (by simp[Act.eval]) rfl B N0.out (by simp only[nX];omega) (by simp) ?_);intro P c1 W1 x F;have ZN:=ae (ZK.app0 (n':=ZO) x F (by simp only[nX];omega) HT);rw[LN] at ZN;clear x F ZK N0 HT B;go_wp2_with fail;refine(au R _ (L.length:Int) _ ZN.st.rd (by omega) (by omega) (by omega)).mono ?_;rintro e W2 ⟨z,rfl,z0,z1,hR,h⟩;obtain⟨k,rfl⟩:∃k:Nat,z=(k:Int):=⟨z.toNat,by omega⟩
 have ZJ:=ae (ZN.F h hR);have o:k<L.length:=by omega
 have nz:¬ ((L.length:Int)=0):=by omega
 clear h hR ZN;go_wp2_with fail;refine(au R _ 7 _ ZJ.st.rd (by omega) (by omega) (by omega)).mono ?_;rintro e r ⟨s,rfl,s0,s1,hR,h⟩;have f:=ae (ZJ.F h hR);clear h hR ZJ;go_upto_block 0 with fail;go_cut [5] (λv wx=>∃(C E W:Nat) (G:List I3),v=Z (T (Q C 0 U)) G.length E/\W<=p+1000/\Hid (SC w R (w.heap.size+1) wx W C E G (ZO+1)));case rest =>
  clear f;obtain⟨C,E,W,G,rfl,hq,b⟩:=hcut;have ZP:=b.st.2.2.1;have zl:=ZP.lt;have d0:=ZP.c0;have d1:=ZP.fz 0;have fin:=ae (b.fin (Z (T (Q C 0 U)) G.length E));have ln:=b.len;clear ZP b;go_wp2;obtain⟨f1,f2,f3,f4,f5,f6⟩:=fin.out;try simp only[Exit.inBlock,Exit.then]
  refine bp (ko rfl _ _ (w.heap.size+1) _ rfl f1) rfl ?_;exact⟨G,C,E,rfl,f2,by omega,by omega,f4,_,by omega,f5,f6⟩
 rcases(show s=0∨s=1∨s=2∨s=3∨s=6∨s=4∨s=5 by omega) with rfl|rfl|rfl|rfl|rfl|rfl|rfl;case' inl =>go_wp2_with fail;refine(au R _ 18 _ f.st.rd (by omega) (by omega) (by omega)).mono ?_;rintro e D ⟨y,rfl,ZL,V,hR,h⟩;have b:=ae (f.F h hR);have m:=ae (b.set3 (j:=0) o (by omega) (y - 1,(L.getD k (0,[],0)).2) (J I (y - 1)) rfl (b.B k o));clear h hR f
 case' inr.inl =>have b:=f;have m:=ae (b.set3 (j:=2) o (by omega) ((L.getD k (0,[],0)).1,(L.getD k (0,[],0)).2.1,(wrap64 ((dn L k).n+1))) (J I (wrap64 ((dn L k).n+1))) rfl (b.B k o));clear f
 case' inr.inr.inl =>
  have q:=ae (f.aa ((q9 r).alloc ly (N #[J I (-1),J I 2000,J I 2001,J I 200,J I 201,J I 1000000007] 3)));have sz3:=q.st.lt;have V0:=ae (λj u=>jj r #[J I (-1),J I 2000,J I 2001,J I 200,J I 201,J I 1000000007] 3 _ j u rfl);have rl:=f.st.rd.lt;go_wp2_with fail;refine(au R _ 6 _ q.st.rd (by omega) (by omega) (by omega)).mono ?_;rintro e D ⟨y,rfl,ZL,V,hR,h⟩;have b:=ae (q.F h hR);have sz4:r.heap.size<D.heap.size:=by have:=h.size;simp at this;omega
  obtain⟨j,u,rfl,cv⟩:∃(j:Nat) (u:Int),y=j/\D.cell? (Q r.heap.size j U)=T (J I u):=by have l:=λj u hu=>(h.cell r.heap.size j (by simp) (by omega)).trans (V0 j u hu);rcases(show y=0∨y=1∨y=2∨y=3∨y=4∨y=5 by omega) with rfl|rfl|rfl|rfl|rfl|rfl;all_goals first|exact⟨0,_,rfl,l 0 _ rfl⟩|exact⟨1,_,rfl,l 1 _ rfl⟩|exact⟨2,_,rfl,l 2 _ rfl⟩|exact⟨3,_,rfl,l 3 _ rfl⟩|exact⟨4,_,rfl,l 4 _ rfl⟩|exact⟨5,_,rfl,l 5 _ rfl⟩
  have m:=ae (b.set3 (j:=2) o (by omega) ((L.getD k (0,[],0)).1,(L.getD k (0,[],0)).2.1,u) (J I u) rfl (b.B k o));clear h hR f q V0
 case' inr.inr.inr.inl =>
  go_wp2_with fail;refine(au R _ 2 _ f.st.rd (by omega) (by omega) (by omega)).mono ?_;rintro e D ⟨y,rfl,ZL,V,hR,h⟩;have b:=ae (f.F h hR);clear h hR f;go_wp2_with fail;obtain⟨m0,K⟩:∃m0:Nat,2000+y=(m0:Int):=⟨(2000+y).toNat,by omega⟩
  rw[K];refine(eP ⟨#[116]⟩ m0 _ (by show 1*m0<=4000;omega) (by omega)).mono ?_;rintro e Wm ⟨t,rfl,ht,hw⟩;rw[hw]
  have m:=ae (b.set3 (j:=1) o (by omega) ((L.getD k (0,[],0)).1,t.data.toList,(L.getD k (0,[],0)).2.2) (Y t) rfl (by
   rw[PX]
   exact p7 ht (by show 1*m0<=5000;omega)))
  clear ht K hw
 case' inr.inr.inr.inr.inl =>have b:=f;have m:=ae (b.set3 (j:=1) o (by omega) ((L.getD k (0,[],0)).1,[121],(L.getD k (0,[],0)).2.2) (Y ⟨#[121]⟩) rfl (by simp));clear f
 case inr.inr.inr.inr.inr.inl =>
  have hc1:L.length<=c1:=by
   rcases f.ir.2 with ⟨l,_⟩|⟨_,_,_,l,_,_,h1,_⟩
   {simp at l};{simp only[N1] at l;omega}
  have b:=ae (f.take k (by omega));have lq:(L.take k).length=k:=by rw[OD];omega
  clear f;go_wp2;go_meet;exact⟨P,c1,_,L.take k,by rw[lq],by omega,b.mono (by omega)⟩
 case inr.inr.inr.inr.inr.inr =>
  have bd:=f.len;go_wp2;go_loopw [5] (λv wr=>∃(A c2 S:Nat) (ZQ:List I3),v=Z (T (Q A 0 U)) ZQ.length c2/\SC w R (w.heap.size+1) wr S A c2 ZQ (ZO+1)/\S<=p+10+ZQ.length) (λv _=>ZO+2 - (match v with|Z _ n _=>n|_=>0));case atStart=>exact⟨P,c1,_,L,rfl,f.mono (by omega),by omega⟩
  case round =>
   obtain⟨A,c2,S,ZQ,rfl,X,hq⟩:=hrel;have ZM:=ae X;have ln:=X.len;clear X f;go_wp2_with fail;refine(au R _ 2 _ ZM.st.rd (by omega) (by omega) (by omega)).mono ?_;rintro e D ⟨y,rfl,ZL,V,hR,h⟩;have b:=ae (ZM.F h hR);clear h hR ZM;by_cases hlt:(ZQ.length:Int)<200+y;{go_wp2_with fail;refine(aW 9 _).mono ?_;rintro e H ⟨rfl,hB⟩;have m:=ae (b.aa hB);clear hB b;have ZI:=ae (m.aa ((q9 H).alloc ly (N #[J I 9,Y ⟨#[]⟩,J I 0] 151)));have zl:=m.st.lt;go_wp2_with (at_builtin;refine gI rfl (.tmp 81) (.tmp 83) rfl (w.heap.size+2) A c2 ZQ (by simp[Act.eval]) ZI.ir (Q H.heap.size 0 U) 1 1 [(9,[],0)] (by simp[Act.eval]) rfl (by simp) (dy H #[J I 9,Y ⟨#[]⟩,J I 0] _) (by simp only[eL,nX];omega) (by simp;omega) ?_);intro g3 c3 W6 x F;have C6:=ae (ZI.app0 (n':=ZO+1) x F (by show ZQ.length+1<=ZO+1;omega) (λi hi=>by rw[nD.1 hi];exact E4 _));clear x F ZI m;go_wp2;exact⟨⟨g3,c3,_,ZQ++[(9,[],0)],by simp,C6.out,by simp only[cM,eL,nX];omega⟩,by simp;omega⟩};{go_wp2;go_meet;exact⟨A,c2,_,ZQ,rfl,by omega,b⟩}
 all_goals
  obtain⟨x0,x1,x2⟩:=b.ir.at k o;rw[FM] at x0 x1 x2;have fz0:=b.ir.fz (k*3);have fz1:=b.ir.fz (k*3+1);have fz2:=b.ir.fz (k*3+2);have gl:=b.ir.lt.2;clear b;go_wp2;go_meet;exact⟨P,c1,_,_,by rw[KK],by omega,m.mono (by rw[KK];omega)⟩
def vv (f:Nat->Ins)(n:Nat):List I3:=(List.range n).map λi=>((f i).op,(f i).s.data.toList,(f i).n)
theorem Fv (f:Nat->Ins)(n:Nat):(vv f n).length=n:=by simp[vv]
theorem Fw (f:Nat->Ins)(n:Nat):i3L (vv f n)=bJ f n:=by rw[i3L,vv,bJ,VO,VO];rfl
theorem vw (ZO:Nat)(l:200<=ZO/\ZO<=299)(R p g c n:Nat)(f:Nat->Ins)(w:M)(hR:Rd w R p)(t:p<=20000)(m:RowIns w g 0 n f)(hn:1<=n/\n<=ZO)(r:∀j,j<n->(f j).s.size<=5000):Calls Pg 96 #[.pointer (T (Q R 0 U)),.agg #[Z (T (Q g 0 U)) n c]] w λe o=>DP w R (p+1000) 0 (ZO+1) e o:=by
 have b:=Fv f n
 have h:=rC ZO l R p g c (vv f n) w hR t m.1 (by rw[Fw];exact xQ m) (by omega) (by intro e;rw[e] at b;simp at b;omega) (by
  intro i hi;obtain⟨j,q,rfl⟩:=QP.1 hi;have:=r j (PE.1 q)
  simpa using this)
 rw[b] at h;exact h
theorem yx {w:M}{b:Nat}{f c i l g:ByteArray}{t:TypeId}{fz:Nat × Nat}(h:w.heap[b]?=T (N #[Y f,Y c,Y i,Y l,Y g] t fz))(k:Nat)(m:k<5):∃s,w.cell? (Q b k U)=T (Y s):=by
 match k,m with
 |0,_=>exact⟨f,by simp[World.cell?,h]⟩
 |1,_=>exact⟨c,by simp[World.cell?,h]⟩
 |2,_=>exact⟨i,by simp[World.cell?,h]⟩
 |3,_=>exact⟨l,by simp[World.cell?,h]⟩
 |4,_=>exact⟨g,by simp[World.cell?,h]⟩
 |j+5,h5=>exact absurd h5 (by omega)
theorem Cw (R p:Nat)(m:Int)(w:M)(hR:Rd w R p)(hp:(p:Int)<=100000)(hm:m<1):Calls Pg 40 #[.pointer (T (Q R 0 U)),J I m] w λe b=>e=ZF (J I 0)/\Rd b R (p+1)/\Only R w b:=by have f:=ae hR.step;have c:Hid (Only R w (w.setCell (Q R 1 U) (J I ((p:Int)+1)))):=ix (Only.refl R w) 1 _;obtain⟨a,n,cap,hl,hn,h0,⟨h1,h2⟩,g⟩:=hR;clear g;go_enter func40,ntmps40;go_wp2;go_ret;exact⟨rfl,f,c⟩
theorem xv (R p g c:Nat)(w:M)(hR:Rd w R p)(hp:p<=20000):Calls Pg 96 #[.pointer (T (Q R 0 U)),.agg #[Z (T (Q g 0 U)) 0 c]] w λe D=>DP w R (p+1000) 0 201 e D:=by
 have m:=ae (sB hR (Z (T (Q g 0 U)) 0 c));obtain⟨G,hi,t,x,B⟩:=oX;clear hR;go_enter func96,ntmps96;go_wp2_with (at_builtin;refine BS _ rfl (.tmp 7) (.tmp 9) 41 rfl (w.heap.size+2) 151 G (.agg #[J I 0,Y ⟨#[]⟩,J I 0]) 3 32 RB hi t x B rfl (by decide) (Z (T (Q (w.heap.size+2) 0 U)) 0 0) 0 [] (by simp[Act.eval]) m.ir (Q g 0 U) 0 c [] (by simp[Act.eval]) rfl (λj u o=>by simp at o) (λu o=>by simp at o) (by unfold maxLen;omega) (by omega) (by simp) ?_);intro z q b A f;replace b:q.ownsRow (w.heap.size+2) 151 3 z 0 []:=b
 obtain⟨n,c1,rfl⟩:∃g c,z=Z (T (Q g 0 U)) 0 c:=(by
  rcases b.2 with ⟨rfl,_⟩|⟨g,c,cur,rfl,_⟩
  {exact(f rfl).elim}
  ·exact⟨g,c,rfl⟩)
 have s:IR q (w.heap.size+2) n c1 []:=b;have l:=ae (m.app0 (ZQ:=[]) (n':=200) s A (by simp) (λi hi=>by simp at hi));rw[LN] at l;clear s A m b f;go_wp2_with fail;refine(Cw R _ 0 _ l.st.1 (by omega) (by omega)).mono ?_;rintro e W2 ⟨rfl,hR,r⟩;have y:=ae (l.F r hR);clear r hR l;have h:=y.st.2.2.1;have zl:=h.lt;have d0:=h.c0;have d1:=h.fz 0;have fin:=ae (y.fin (Z (T (Q n 0 U)) 0 c1));clear h;go_wp2;obtain⟨f1,H,f3,E,C,F⟩:=fin.out;try simp only[Exit.inBlock,Exit.then]
 refine bp (ko rfl _ _ (w.heap.size+1) _ rfl f1) rfl ?_;exact⟨[],n,c1,rfl,H,by omega,by simp,E,_,by omega,C,F⟩
open Ca
theorem Ih {w:M}{base:Nat}{a0 a1:Option Addr}{c0 c1:Nat}{LS:List Source}{RT:List TR}(f:w.ownsRow base 142 2 (Z a0 LS.length c0) LS.length (LS.flatMap bK))(h:TRow w base (Z a1 RT.length c1) RT)(b:SpG LS RT)(g:LS.length<=300)(h1:RT.length<=300):HSp base w a0 LS.length (dd LS) a1 RT.length (bZ (RT.map (·.1)))/\∀i,i<RT.length->1<=(bZ (RT.map (·.1)) i).f/\(bZ (RT.map (·.1)) i).f<=200:=by
 refine⟨vt f rfl h rfl g h1 (λr c=>⟨by have:=(b.t r c).2.1.2;omega,(b.t r c).2.2⟩),λi hi=>?_⟩;have e:bZ (RT.map (·.1)) i=RT[i].1:=by simp[bZ,hi]
 rw[e];exact(b.t _ (gz hi)).2.1
theorem kK (R p b0 n0 c0 n1 c1:Nat)(a0:Option Addr)(f0:Nat->Source)(a1:Option Addr)(f1:Nat->Target)(w:M)(hR:Rd w R p)(hp:p<=50000)(hb:R<b0)(hH:HSp b0 w a0 n0 f0 a1 n1 f1):Calls Pg 88 #[.pointer (T (Q R 0 U)),.agg #[Z a0 n0 c0,Z a1 n1 c1]] w λe w'=>∃t:ByteArray,e=ZF (Y t)/\∃q:Nat,q<=p+3/\Rd w' R q/\Only R w w':=by
 have ZK:=ae hR;have hlow:=hR.lt;have hn1:=hH.hn1;have HH:=ae hH;clear hR hH;have u:=ae ((q9 w).alloc ly (N #[Z a0 n0 c0,Z a1 n1 c1] 27));have G:Hid ((w.alloc (N #[Z a0 n0 c0,Z a1 n1 c1] 27)).heap[w.heap.size]?=T (N #[Z a0 n0 c0,Z a1 n1 c1] 27 (0,0))):=nL w _;have ZP:(w.alloc (N #[Z a0 n0 c0,Z a1 n1 c1] 27)).heap.size=w.heap.size+1:=by simp
 by_cases hn:0<(n1:Int)
 ·go_enter func88,ntmps88;go_wp2_with fail;generalize World.alloc w _=m at u G ZP ⊢;have ZQ:=ae (ZK.aa u ly);have ZO:Hid (Only R w m):=Only.u u;refine(au R p 8 _ ZQ (by omega) (by omega) (by omega)).mono ?_;rintro e H ⟨z,rfl,hz0',hz1',P,ZN⟩;have X:=ae P;have ZL:=ae (ZO.trans ZN);have K1:=ae ((ZN.block w.heap.size (by omega) (by omega)).trans G);clear P ZN ZQ ZO G u;have ZM:=K1.out;have S:H.cell? (Q w.heap.size 1 U)=T (Z a1 n1 c1):=by simp[World.cell?,ZM]
  have l1:=ag ZM;clear ZM;by_cases hz:0<z
  ·go_wp2_with fail;refine aD (λV=>V.cell? (Q w.heap.size 1 U)=T (Z a1 n1 c1)) 10 (by as_aux_lemma=>kernel_rfl) ?_;have F:Hid (H.drew.cell? (Q w.heap.size 1 U)=T (Z a1 n1 c1)):=S;iterate 6
    refine aI 0 (v:=?_) rfl rfl (by as_aux_lemma=>kernel_rfl) (λ_ _ _ h=>h) rfl ?_ F ?_;rotate_left
    ·(intro wz s0;go_simp)
     (try with_reducible rfl)
    (try simp only[Act.put,nzL])
   refine ah (i:=6) rfl (by as_aux_lemma=>kernel_rfl) λK L=>?_;go_simp;go_at_call 40;refine(au R _ (n1:Int) _ (X.aa br.drew ly) (by omega) (by omega) (by omega)).mono ?_;rintro e E ⟨z3,rfl,n,O,f,b⟩;obtain⟨l,rfl⟩:=AS n;have ZI:Hid (Only R H E):=(Only.u br.drew).trans b;have D:=ae f;have y:=ae (ZL.trans ZI);have j:l<n1:=by omega
   clear f b F;have F:Hid (E.cell? (Q w.heap.size 1 U)=T (Z a1 n1 c1)):=(ZI.cell w.heap.size 1 l1 (by omega)).trans S;rcases(HH.sl E (y.agr hb)).2 with h0|⟨tb,tof,rfl,o⟩
   {omega};have kn:=(o.2 l j).1;have hl:=o.1;clear o S;refine L _ _ (λ_=>F) ?_;clear L K
   (try simp only[Act.put,nzL])
   iterate 4
    refine cD 7 rfl rfl (by as_aux_lemma=>kernel_rfl) λK L=>?_;go_simp;refine L _ _ (λ_=>F) ?_;clear L K
    (try simp only[Act.put,nzL])
   refine aX (by as_aux_lemma=>kernel_rfl) ?_ _;go_wp2;go_ret;exact⟨_,rfl,_,by omega,D,y⟩
  ·go_wp2_with fail;obtain⟨WL,s⟩:∃W:M,H.alloc (N #[Y ⟨#[97]⟩,Y ⟨#[110,111,110,101]⟩,Y ⟨#[]⟩,Y ⟨#[120,32,121]⟩,Y ⟨#[116,48]⟩] 9)=W:=⟨_,rfl⟩
   obtain⟨r,c,-⟩:=nb1 s;replace c:=c.out;have C:=ae s;clear s;have A:=ae (X.aa r ly);have B:=ae (ZL.then (r.mono (by omega)));have x:=ag c;have g:=ae c;clear r c;rw[C.out];clear C;refine(au R _ 5 _ A (by omega) (by omega) (by omega)).mono ?_;rintro e E ⟨z3,rfl,n,O,f,b⟩;obtain⟨l,rfl⟩:=AS n;have j:l<5:=by omega
   have D:=ae f;have y:=ae (B.trans b);obtain⟨sx,ZJ⟩:=yx ((b.block (H.heap.size) x (by omega)).trans g) l j;clear f b g A B;go_wp2;go_ret;exact⟨sx,rfl,_,by omega,D,y⟩
 ·go_enter func88,ntmps88;go_wp2_with fail;generalize World.alloc w _=m at u G ZP ⊢;have ZQ:=ae (ZK.aa u ly);have ZO:Hid (Only R w m):=Only.u u;have l0:=ag G.out;have r:=ae ((q9 m).alloc ly (N #[Y ⟨#[97]⟩,Y ⟨#[110,111,110,101]⟩,Y ⟨#[]⟩,Y ⟨#[120,32,121]⟩,Y ⟨#[116,48]⟩] 9));have A:=ae (ZQ.aa r ly);have B:=ae (ZO.then (r.mono (by omega)));have c:(m.alloc (N #[Y ⟨#[97]⟩,Y ⟨#[110,111,110,101]⟩,Y ⟨#[]⟩,Y ⟨#[120,32,121]⟩,Y ⟨#[116,48]⟩] 9)).heap[w.heap.size+1]?=T (N #[Y ⟨#[97]⟩,Y ⟨#[110,111,110,101]⟩,Y ⟨#[]⟩,Y ⟨#[120,32,121]⟩,Y ⟨#[116,48]⟩] 9 (0,0)):=(by rw[<-ZP];exact nL m _)
  have x:=ag c;have g:=ae c;clear r c;generalize World.alloc m _=WL at A B g x ⊢;refine(au R _ 5 _ A (by omega) (by omega) (by omega)).mono ?_;rintro e E ⟨z3,rfl,n,O,f,b⟩;obtain⟨l,rfl⟩:=AS n;have j:l<5:=by omega
  have D:=ae f;have y:=ae (B.trans b);obtain⟨sx,ZJ⟩:=yx ((b.block (w.heap.size+1) x (by omega)).trans g) l j;clear f b g A B;go_wp2;go_ret;exact⟨sx,rfl,_,by omega,D,y⟩
