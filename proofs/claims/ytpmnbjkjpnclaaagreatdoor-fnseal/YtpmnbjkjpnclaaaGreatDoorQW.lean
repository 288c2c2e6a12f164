import Derived.Test.YtpmnbjkjpnclaaaGreatDoorQU
import Derived.Deep.CutBlock
set_option maxRecDepth 100000
set_option maxHeartbeats 8000000
open Go renaming Addr.mk->Q,Value.slice->Z,Value.string->U,Value.int->N,Value.agg->ZH,Obj.cells->J,IntKind.i64->I,World->M,Value->ZC,Ending.returned->ZF,Proofs.Tryz.prog->Pg
open Option renaming none->Y,some->T
namespace Go.Proofs.YtpmnbjkjpnclaaaGreatDoor.Vp
open Tryz RowKit
theorem rF (ZO:Nat)(hNN:200<=ZO/\ZO<=299)(R p g c:Nat)(L:List I3)(w:M)(hR:Rd w R p)(hp:p<=20000)(K:g<w.heap.size)(hN:∀j u,(i3L L)[j]?=T u->w.cell? (((Q g 0 Y):Addr).add j)=T u)(hn:L.length<=ZO)(D:L≠[])(hT:∀i∈L,i.2.1.length<=5000):Calls Pg 96 #[.pointer (T (Q R 0 Y)),ZH #[Z (T (Q g 0 Y)) L.length c]] w λe w'=>DP w R (p+1000) 0 (ZO+1) e w':=by
 have A2:=(((q9 w).alloc ly (J #[Z (T (Q g 0 Y)) L.length c] 43)).alloc (by simp) (J #[Z Y 0 0] 43)).alloc (by simp;omega) (J #[] 151);have S:=ae (sE hR (Z (T (Q g 0 Y)) L.length c));have N0:=ae (λ(j:Nat) (u:ZC) (X:(i3L L)[j]?=T u)=>(A2.cell (p:=((Q g 0 Y):Addr).add j) (by rw[jd];exact K)).trans (hN j u X));have HT:=ae hT;have hl:0<L.length:=GC.2 D;clear A2 hR hN hT K;go_enter func96,ntmps96;go_wp2_with (at_builtin;refine gK rfl (.tmp 7) (.tmp 9) rfl (w.heap.size+2) (w.heap.size+2) 0 [] (by simp[Act.eval]) S.ir (Q g 0 Y) L.length c L (by simp[Act.eval]) rfl D N0.out (by simp only[nX];omega) (by simp) ?_);intro ZM c1 W1 F C;have ZQ:=ae (S.app0 (n':=ZO) F C (by simp only[nX];omega) HT);rw[LY] at ZQ;clear F C S N0 HT D;go_wp2_with fail;refine(au R _ (L.length:Int) _ ZQ.st.rd (by omega) (by omega) (by omega)).mono ?_;rintro e W2 ⟨z,rfl,z0,z1,hR,h⟩;obtain⟨k,rfl⟩:∃k:Nat,z=(k:Int):=⟨z.toNat,by omega⟩
 have ZN:=ae (ZQ.G h hR);have o:k<L.length:=by omega
 have nz:¬ ((L.length:Int)=0):=by omega
 clear h hR ZQ;go_wp2_with fail;refine(au R _ 7 _ ZN.st.rd (by omega) (by omega) (by omega)).mono ?_;rintro e r ⟨s,rfl,s0,s1,hR,h⟩;have f:=ae (ZN.G h hR);clear h hR ZN;go_upto_block 0 with fail;go_cut [5] (λv wx=>∃(A B ZL:Nat) (E:List I3),v=Z (T (Q A 0 Y)) E.length B/\ZL<=p+1000/\Hid (SC w R (w.heap.size+1) wx ZL A B E (ZO+1)));case rest =>
  clear f;obtain⟨A,B,ZL,E,rfl,hq,b⟩:=hcut;have H:=b.st.2.2.1;have zl:=H.lt;have d0:=H.c0;have d1:=H.fz 0;have fin:=ae (b.fin (Z (T (Q A 0 Y)) E.length B));have ln:=b.len;clear H b;go_wp2;obtain⟨f1,f2,f3,f4,f5,f6⟩:=fin.out;try simp only[Exit.inBlock,Exit.then]
  refine bp (kq rfl _ _ (w.heap.size+1) _ rfl f1) rfl ?_;exact⟨E,A,B,rfl,f2,by omega,by omega,f4,_,by omega,f5,f6⟩
 rcases(show s=0∨s=1∨s=2∨s=3∨s=6∨s=4∨s=5 by omega) with rfl|rfl|rfl|rfl|rfl|rfl|rfl;case' inl =>go_wp2_with fail;refine(au R _ 18 _ f.st.rd (by omega) (by omega) (by omega)).mono ?_;rintro e x ⟨y,rfl,W,V,hR,h⟩;have b:=ae (f.G h hR);have m:=ae (b.set3 (j:=0) o (by omega) (y - 1,(L.getD k (0,[],0)).2) (N I (y - 1)) rfl (b.B k o));clear h hR f
 case' inr.inl =>have b:=f;have m:=ae (b.set3 (j:=2) o (by omega) ((L.getD k (0,[],0)).1,(L.getD k (0,[],0)).2.1,(wrap64 ((dq L k).n+1))) (N I (wrap64 ((dq L k).n+1))) rfl (b.B k o));clear f
 case' inr.inr.inl =>
  have q:=ae (f.aa ((q9 r).alloc ly (J #[N I (-1),N I 2000,N I 2001,N I 200,N I 201,N I 1000000007] 3)));have sz3:=q.st.lt;have V0:=ae (λj u=>jk r #[N I (-1),N I 2000,N I 2001,N I 200,N I 201,N I 1000000007] 3 _ j u rfl);have rl:=f.st.rd.lt;go_wp2_with fail;refine(au R _ 6 _ q.st.rd (by omega) (by omega) (by omega)).mono ?_;rintro e x ⟨y,rfl,W,V,hR,h⟩;have b:=ae (q.G h hR);have sz4:r.heap.size<x.heap.size:=by have:=h.size;simp at this;omega
  obtain⟨j,u,rfl,cv⟩:∃(j:Nat) (u:Int),y=j/\x.cell? (Q r.heap.size j Y)=T (N I u):=by have l:=λj u X=>(h.cell r.heap.size j (by simp) (by omega)).trans (V0 j u X);rcases(show y=0∨y=1∨y=2∨y=3∨y=4∨y=5 by omega) with rfl|rfl|rfl|rfl|rfl|rfl;all_goals first|exact⟨0,_,rfl,l 0 _ rfl⟩|exact⟨1,_,rfl,l 1 _ rfl⟩|exact⟨2,_,rfl,l 2 _ rfl⟩|exact⟨3,_,rfl,l 3 _ rfl⟩|exact⟨4,_,rfl,l 4 _ rfl⟩|exact⟨5,_,rfl,l 5 _ rfl⟩
  have m:=ae (b.set3 (j:=2) o (by omega) ((L.getD k (0,[],0)).1,(L.getD k (0,[],0)).2.1,u) (N I u) rfl (b.B k o));clear h hR f q V0
 case' inr.inr.inr.inl =>
  go_wp2_with fail;refine(au R _ 2 _ f.st.rd (by omega) (by omega) (by omega)).mono ?_;rintro e x ⟨y,rfl,W,V,hR,h⟩;have b:=ae (f.G h hR);clear h hR f;go_wp2_with fail;obtain⟨m0,O⟩:∃m0:Nat,2000+y=(m0:Int):=⟨(2000+y).toNat,by omega⟩
  rw[O];refine(eQ ⟨#[116]⟩ m0 _ (by show 1*m0<=4000;omega) (by omega)).mono ?_;rintro e Wm ⟨t,rfl,ht,hw⟩;rw[hw]
  have m:=ae (b.set3 (j:=1) o (by omega) ((L.getD k (0,[],0)).1,t.data.toList,(L.getD k (0,[],0)).2.2) (U t) rfl (by
   rw[QB]
   exact p7 ht (by show 1*m0<=5000;omega)))
  clear ht O hw
 case' inr.inr.inr.inr.inl =>have b:=f;have m:=ae (b.set3 (j:=1) o (by omega) ((L.getD k (0,[],0)).1,[121],(L.getD k (0,[],0)).2.2) (U ⟨#[121]⟩) rfl (by simp));clear f
 case inr.inr.inr.inr.inr.inl =>
  have hc1:L.length<=c1:=by
   rcases f.ir.2 with ⟨l,_⟩|⟨_,_,_,l,_,_,h1,_⟩
   {simp at l};{simp only[OJ] at l;omega}
  have b:=ae (f.take k (by omega));have lq:(L.take k).length=k:=by rw[OR];omega
  clear f;go_wp2;go_meet;exact⟨ZM,c1,_,L.take k,by rw[lq],by omega,b.mono (by omega)⟩
 case inr.inr.inr.inr.inr.inr =>
  have bd:=f.len;go_wp2;go_loopw [5] (λv wr=>∃(G c2 q2:Nat) (ZR:List I3),v=Z (T (Q G 0 Y)) ZR.length c2/\SC w R (w.heap.size+1) wr q2 G c2 ZR (ZO+1)/\q2<=p+10+ZR.length) (λv _=>ZO+2 - (match v with|Z _ n _=>n|_=>0));case atStart=>exact⟨ZM,c1,_,L,rfl,f.mono (by omega),by omega⟩
  case round =>
   obtain⟨G,c2,q2,ZR,rfl,ZJ,hq⟩:=hrel;have P:=ae ZJ;have ln:=ZJ.len;clear ZJ f;go_wp2_with fail;refine(au R _ 2 _ P.st.rd (by omega) (by omega) (by omega)).mono ?_;rintro e x ⟨y,rfl,W,V,hR,h⟩;have b:=ae (P.G h hR);clear h hR P;by_cases hlt:(ZR.length:Int)<200+y;{go_wp2_with fail;refine(aW 9 _).mono ?_;rintro e ZP ⟨rfl,hB⟩;have m:=ae (b.aa hB);clear hB b;have ZK:=ae (m.aa ((q9 ZP).alloc ly (J #[N I 9,U ⟨#[]⟩,N I 0] 151)));have zl:=m.st.lt;go_wp2_with (at_builtin;refine gK rfl (.tmp 81) (.tmp 83) rfl (w.heap.size+2) G c2 ZR (by simp[Act.eval]) ZK.ir (Q ZP.heap.size 0 Y) 1 1 [(9,[],0)] (by simp[Act.eval]) rfl (by simp) (dA ZP #[N I 9,U ⟨#[]⟩,N I 0] _) (by simp only[eL,nX];omega) (by simp;omega) ?_);intro g3 c3 W6 F C;have C6:=ae (ZK.app0 (n':=ZO+1) F C (by show ZR.length+1<=ZO+1;omega) (λi hi=>by rw[nD.1 hi];exact E4 _));clear F C ZK m;go_wp2;exact⟨⟨g3,c3,_,ZR++[(9,[],0)],by simp,C6.out,by simp only[cM,eL,nX];omega⟩,by simp;omega⟩};{go_wp2;go_meet;exact⟨G,c2,_,ZR,rfl,by omega,b⟩}
 all_goals
  obtain⟨x0,x1,x2⟩:=b.ir.at k o;rw[FM] at x0 x1 x2;have fz0:=b.ir.fz (k*3);have fz1:=b.ir.fz (k*3+1);have fz2:=b.ir.fz (k*3+2);have gl:=b.ir.lt.2;clear b;go_wp2;go_meet;exact⟨ZM,c1,_,_,by rw[LB],by omega,m.mono (by rw[LB];omega)⟩
def vB (f:Nat->Ins)(n:Nat):List I3:=(List.range n).map λi=>((f i).op,(f i).s.data.toList,(f i).n)
theorem FF (f:Nat->Ins)(n:Nat):(vB f n).length=n:=by simp[vB]
theorem FG (f:Nat->Ins)(n:Nat):i3L (vB f n)=bJ f n:=by rw[i3L,vB,bJ,VW,VW];rfl
theorem vC (ZO:Nat)(m:200<=ZO/\ZO<=299)(R p g c n:Nat)(f:Nat->Ins)(w:M)(hR:Rd w R p)(q:p<=20000)(l:RowIns w g 0 n f)(hn:1<=n/\n<=ZO)(t:∀j,j<n->(f j).s.size<=5000):Calls Pg 96 #[.pointer (T (Q R 0 Y)),ZH #[Z (T (Q g 0 Y)) n c]] w λe r=>DP w R (p+1000) 0 (ZO+1) e r:=by
 have b:=FF f n
 have h:=rF ZO m R p g c (vB f n) w hR q l.1 (by rw[FG];exact xT l) (by omega) (by intro e;rw[e] at b;simp at b;omega) (by
  intro i hi;obtain⟨j,o,rfl⟩:=QX.1 hi;have:=t j (PL.1 o)
  simpa using this)
 rw[b] at h;exact h
theorem yA {w:M}{b:Nat}{i l g f c:ByteArray}{t:TypeId}{fz:Nat × Nat}(h:w.heap[b]?=T (J #[U i,U l,U g,U f,U c] t fz))(k:Nat)(m:k<5):∃s,w.cell? (Q b k Y)=T (U s):=by
 match k,m with
 |0,_=>exact⟨i,by simp[World.cell?,h]⟩
 |1,_=>exact⟨l,by simp[World.cell?,h]⟩
 |2,_=>exact⟨g,by simp[World.cell?,h]⟩
 |3,_=>exact⟨f,by simp[World.cell?,h]⟩
 |4,_=>exact⟨c,by simp[World.cell?,h]⟩
 |j+5,h5=>exact absurd h5 (by omega)
theorem CF (R p:Nat)(m:Int)(w:M)(hR:Rd w R p)(hp:(p:Int)<=100000)(hm:m<1):Calls Pg 40 #[.pointer (T (Q R 0 Y)),N I m] w λe b=>e=ZF (N I 0)/\Rd b R (p+1)/\Only R w b:=by have hst:=ae hR.step;have c:Hid (Only R w (w.setCell (Q R 1 Y) (N I ((p:Int)+1)))):=iA (Only.refl R w) 1 _;obtain⟨a,n,cap,hl,hn,h0,⟨h1,h2⟩,f⟩:=hR;clear f;go_enter func40,ntmps40;go_wp2;go_ret;exact⟨rfl,hst,c⟩
theorem xy (R p g c:Nat)(w:M)(hR:Rd w R p)(hp:p<=20000):Calls Pg 96 #[.pointer (T (Q R 0 Y)),ZH #[Z (T (Q g 0 Y)) 0 c]] w λe C=>DP w R (p+1000) 0 201 e C:=by
 have n:=ae (sE hR (Z (T (Q g 0 Y)) 0 c));obtain⟨G,hi,s,z,x⟩:=o7;clear hR;go_enter func96,ntmps96;go_wp2_with (at_builtin;refine BS _ rfl (.tmp 7) (.tmp 9) 41 rfl (w.heap.size+2) 151 G (ZH #[N I 0,U ⟨#[]⟩,N I 0]) 3 32 RP hi s z x rfl (by decide) (Z (T (Q (w.heap.size+2) 0 Y)) 0 0) 0 [] (by simp[Act.eval]) n.ir (Q g 0 Y) 0 c [] (by simp[Act.eval]) rfl (λj u m=>by simp at m) (λu m=>by simp at m) (by unfold maxLen;omega) (by omega) (by simp) ?_);intro B y b r f;replace b:y.ownsRow (w.heap.size+2) 151 3 B 0 []:=b
 obtain⟨o,c1,rfl⟩:∃g c,B=Z (T (Q g 0 Y)) 0 c:=(by
  rcases b.2 with ⟨rfl,_⟩|⟨g,c,cur,rfl,_⟩
  {exact(f rfl).elim}
  ·exact⟨g,c,rfl⟩)
 have A:IR y (w.heap.size+2) o c1 []:=b;have l:=ae (n.app0 (ZR:=[]) (n':=200) A r (by simp) (λi hi=>by simp at hi));rw[LY] at l;clear A r n b f;go_wp2_with fail;refine(CF R _ 0 _ l.st.1 (by omega) (by omega)).mono ?_;rintro e W2 ⟨rfl,hR,t⟩;have q:=ae (l.G t hR);clear t hR l;have h:=q.st.2.2.1;have zl:=h.lt;have d0:=h.c0;have d1:=h.fz 0;have fin:=ae (q.fin (Z (T (Q o 0 Y)) 0 c1));clear h;go_wp2;obtain⟨f1,H,f3,F,E,D⟩:=fin.out;try simp only[Exit.inBlock,Exit.then]
 refine bp (kq rfl _ _ (w.heap.size+1) _ rfl f1) rfl ?_;exact⟨[],o,c1,rfl,H,by omega,by simp,F,_,by omega,E,D⟩
open Ca
theorem Ir {w:M}{base:Nat}{a0 a1:Option Addr}{c0 c1:Nat}{LS:List Source}{RT:List TR}(g:w.ownsRow base 142 2 (Z a0 LS.length c0) LS.length (LS.flatMap bK))(h:TRow w base (Z a1 RT.length c1) RT)(b:SpG LS RT)(f:LS.length<=300)(h1:RT.length<=300):HSp base w a0 LS.length (dd LS) a1 RT.length (b9 (RT.map (·.1)))/\∀i,i<RT.length->1<=(b9 (RT.map (·.1)) i).f/\(b9 (RT.map (·.1)) i).f<=200:=by
 refine⟨vw g rfl h rfl f h1 (λr c=>⟨by have:=(b.t r c).2.1.2;omega,(b.t r c).2.2⟩),λi hi=>?_⟩;have e:b9 (RT.map (·.1)) i=RT[i].1:=by simp[b9,hi]
 rw[e];exact(b.t _ (gz hi)).2.1
theorem kL (R p b0 n0 c0 n1 c1:Nat)(a0:Option Addr)(f0:Nat->Source)(a1:Option Addr)(f1:Nat->Target)(w:M)(hR:Rd w R p)(hp:p<=50000)(hb:R<b0)(hH:HSp b0 w a0 n0 f0 a1 n1 f1):Calls Pg 88 #[.pointer (T (Q R 0 Y)),ZH #[Z a0 n0 c0,Z a1 n1 c1]] w λe ZM=>∃t:ByteArray,e=ZF (U t)/\∃q:Nat,q<=p+3/\Rd ZM R q/\Only R w ZM:=by
 have HR:=ae hR;have hlow:=hR.lt;have hn1:=hH.hn1;have HH:=ae hH;clear hR hH;have o:=ae ((q9 w).alloc ly (J #[Z a0 n0 c0,Z a1 n1 c1] 27));have D:Hid ((w.alloc (J #[Z a0 n0 c0,Z a1 n1 c1] 27)).heap[w.heap.size]?=T (J #[Z a0 n0 c0,Z a1 n1 c1] 27 (0,0))):=nL w _;have ZP:(w.alloc (J #[Z a0 n0 c0,Z a1 n1 c1] 27)).heap.size=w.heap.size+1:=by simp
 by_cases hn:0<(n1:Int)
 ·go_enter func88,ntmps88;go_wp2_with fail;generalize World.alloc w _=l at o D ZP ⊢;have ZR:=ae (HR.aa o ly);have ZO:Hid (Only R w l):=Only.u o;refine(au R p 8 _ ZR (by omega) (by omega) (by omega)).mono ?_;rintro e C ⟨z,rfl,hz0',hz1',P,H⟩;have ZL:=ae P;have ZK:=ae (ZO.trans H);have K1:=ae ((H.block w.heap.size (by omega) (by omega)).trans D);clear P H ZR ZO D o;have ZN:=K1.out;have S:C.cell? (Q w.heap.size 1 Y)=T (Z a1 n1 c1):=by simp[World.cell?,ZN]
  have l1:=ag ZN;clear ZN;by_cases hz:0<z
  ·go_wp2_with fail;refine aD (λV=>V.cell? (Q w.heap.size 1 Y)=T (Z a1 n1 c1)) 10 (by as_aux_lemma=>kernel_rfl) ?_;have ZQ:Hid (C.drew.cell? (Q w.heap.size 1 Y)=T (Z a1 n1 c1)):=S;iterate 6
    refine aJ 0 (v:=?_) rfl rfl (by as_aux_lemma=>kernel_rfl) (λ_ _ _ h=>h) rfl ?_ ZQ ?_;rotate_left
    ·(intro wz s0;go_simp)
     (try with_reducible rfl)
    (try simp only[Act.put,nzL])
   refine ah (i:=6) rfl (by as_aux_lemma=>kernel_rfl) λK F=>?_;go_simp;go_at_call 40;refine(au R _ (n1:Int) _ (ZL.aa br.drew ly) (by omega) (by omega) (by omega)).mono ?_;rintro e E ⟨z3,rfl,m,O,f,b⟩;obtain⟨j,rfl⟩:=AP m;have X:Hid (Only R C E):=(Only.u br.drew).trans b;have G:=ae f;have y:=ae (ZK.trans X);have n:j<n1:=by omega
   clear f b ZQ;have ZQ:Hid (E.cell? (Q w.heap.size 1 Y)=T (Z a1 n1 c1)):=(X.cell w.heap.size 1 l1 (by omega)).trans S;rcases(HH.sl E (y.agr hb)).2 with h0|⟨tb,tof,rfl,r⟩
   {omega};have kn:=(r.2 j n).1;have hl:=r.1;clear r S;refine F _ _ (λ_=>ZQ) ?_;clear F K
   (try simp only[Act.put,nzL])
   iterate 4
    refine cD 7 rfl rfl (by as_aux_lemma=>kernel_rfl) λK F=>?_;go_simp;refine F _ _ (λ_=>ZQ) ?_;clear F K
    (try simp only[Act.put,nzL])
   refine aX (by as_aux_lemma=>kernel_rfl) ?_ _;go_wp2;go_ret;exact⟨_,rfl,_,by omega,G,y⟩
  ·go_wp2_with fail;obtain⟨WL,u⟩:∃W:M,C.alloc (J #[U ⟨#[97]⟩,U ⟨#[110,111,110,101]⟩,U ⟨#[]⟩,U ⟨#[120,32,121]⟩,U ⟨#[116,48]⟩] 9)=W:=⟨_,rfl⟩
   obtain⟨s,c,-⟩:=nb1 u;replace c:=c.out;have L:=ae u;clear u;have B:=ae (ZL.aa s ly);have A:=ae (ZK.then (s.mono (by omega)));have x:=ag c;have g:=ae c;clear s c;rw[L.out];clear L;refine(au R _ 5 _ B (by omega) (by omega) (by omega)).mono ?_;rintro e E ⟨z3,rfl,m,O,f,b⟩;obtain⟨j,rfl⟩:=AP m;have n:j<5:=by omega
   have G:=ae f;have y:=ae (A.trans b);obtain⟨sx,ZJ⟩:=yA ((b.block (C.heap.size) x (by omega)).trans g) j n;clear f b g B A;go_wp2;go_ret;exact⟨sx,rfl,_,by omega,G,y⟩
 ·go_enter func88,ntmps88;go_wp2_with fail;generalize World.alloc w _=l at o D ZP ⊢;have ZR:=ae (HR.aa o ly);have ZO:Hid (Only R w l):=Only.u o;have l0:=ag D.out;have s:=ae ((q9 l).alloc ly (J #[U ⟨#[97]⟩,U ⟨#[110,111,110,101]⟩,U ⟨#[]⟩,U ⟨#[120,32,121]⟩,U ⟨#[116,48]⟩] 9));have B:=ae (ZR.aa s ly);have A:=ae (ZO.then (s.mono (by omega)));have c:(l.alloc (J #[U ⟨#[97]⟩,U ⟨#[110,111,110,101]⟩,U ⟨#[]⟩,U ⟨#[120,32,121]⟩,U ⟨#[116,48]⟩] 9)).heap[w.heap.size+1]?=T (J #[U ⟨#[97]⟩,U ⟨#[110,111,110,101]⟩,U ⟨#[]⟩,U ⟨#[120,32,121]⟩,U ⟨#[116,48]⟩] 9 (0,0)):=(by rw[<-ZP];exact nL l _)
  have x:=ag c;have g:=ae c;clear s c;generalize World.alloc l _=WL at B A g x ⊢;refine(au R _ 5 _ B (by omega) (by omega) (by omega)).mono ?_;rintro e E ⟨z3,rfl,m,O,f,b⟩;obtain⟨j,rfl⟩:=AP m;have n:j<5:=by omega
  have G:=ae f;have y:=ae (A.trans b);obtain⟨sx,ZJ⟩:=yA ((b.block (w.heap.size+1) x (by omega)).trans g) j n;clear f b g B A;go_wp2;go_ret;exact⟨sx,rfl,_,by omega,G,y⟩
