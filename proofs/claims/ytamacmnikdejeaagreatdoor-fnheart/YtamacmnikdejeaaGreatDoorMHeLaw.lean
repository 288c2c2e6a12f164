import Derived.Test.YtamacmnikdejeaaGreatDoorKW
import Derived.Test.YtamacmnikdejeaaGreatDoorJB
import Derived.Test.YtamacmnikdejeaaGreatDoorJA
set_option maxRecDepth 100000
set_option maxHeartbeats 16000000
open Go renaming Addr.mk->Q,Value.slice->Y,Value.string->U,Value.int->J,Obj.cells->N,IntKind.i64->I,World->E,Ending.returned->ZF
open Option renaming none->Z,some->T
open Bool renaming true->ZD
namespace Go.Proofs.YtamacmnikdejeaaGreatDoor.Vp
open Tryz RowKit Ca
def fQ (f:Nat->au)(n:Nat):ByteArray:=if n=0 then ⟨#[]⟩ else (f (n - 1)).e
theorem A8 {S:Spc}{f:Nat->au}{n:Nat}:(iC S.n0 S.f0 S.n1 S.f1 f n).1=0 ↔ ((aV S (fQ f n)).1.length=n/\∀i,i<n->DeedEq (f i) (dF (aT S (aV S (fQ f n)).1) i))/\0<n:=by
 cases e:bv f n with
 |true =>have hn:=fl e;have l:fQ f n=(f (n - 1)).e:=eT (by omega);rw[l];exact⟨λh=>⟨(sd (S:=S) e).2 h,by omega⟩,λh=>(sd (S:=S) e).1 h.1⟩
 |false =>
  constructor;{intro h;unfold iC at h;rw[e,eT (by simp)] at h;cases h}
  ·rintro⟨⟨h1,h2⟩,h0⟩;rcases jX S (fQ f n) with ⟨g,-⟩|⟨M,g,o,b,m,hb⟩
   {rw[g] at h1;have h1:0=n:=h1;omega};{rw[hb] at h1 h2;have h1:M.length=n:=h1;obtain⟨j,-⟩:=rR o b m;rw[h1] at j;rw[yz (λi hi=>(h2 i hi).symm) j] at e;cases e}
theorem Bb (a:Option Addr)(n cap:Nat)(f:Nat->au)(w:E)(j:n<=1048576)(g:SlDeed w a n f):Calls Tryz.prog 12 #[.agg #[Y a n cap]] w λe i=>e=ZF (U (fQ f n))/\Below w.heap.size w i:=by
 by_cases b:n=0;{subst b;have h:=ae ((BS w).alloc ly (N #[Y a 0 cap] 25));clear g;rw[show fQ f 0=⟨#[]⟩ from rfl];go_enter func12,ntmps12;go_wp2;go_ret;exact⟨rfl,h⟩};{rw[show fQ f n=(f (n - 1)).e from eT b];exact AV a n cap f w (by omega) j g}
theorem El (a:Option Addr)(n cap:Nat)(w:E)(h1:1048576<(n:Int)):Calls Tryz.prog 5 #[Y a n cap] w λe b=>e=ZF (.bool ZD)/\Below w.heap.size w b:=by go_enter U6,ntmps5;go_wp2;go_ret;exact⟨rfl,cM _ _⟩
theorem Bc (a:Option Addr)(n cap:Nat)(w:E)(hc:n<=cap)(hS:ByteSl w a n)(hT:Tab w)(fd:Tab2 w)(hP:Pow w):Calls Tryz.prog 5 #[Y a n cap] w λe w'=>e=ZF (.bool ZD)/\Below w.heap.size w w':=by
 by_cases bt:1048576<(n:Int)
 {exact El a n cap w bt};have ZJ:=ae (λV (p:Below w.heap.size w V)=>(⟨hT.aa p hT.1,fd.aa p fd.1,hP.aa p ly⟩:Tab V/\Tab2 V/\Pow V));have DM:=ae (sT a n cap w (by omega) hc hS);clear hT fd hP hS hc;go_enter U6,ntmps5;go_wp2_with fail;refine DM.out.mono ?_;rintro e w1 ⟨a0,n0,c0,f0,a1,n1,c1,f1,d,ZN,ZI,f,rfl,hH,hA,-,n9⟩;clear DM bt;have hn0:=hH.hn0;have hn1:=hH.hn1;have hN:=hA.hn;have hcap:=hA.cap;have ZL:=ae (show ∀i,i<n1->aX (f1 i) from λi hi=>by have:=(hH.az i hi).1;unfold aX;omega);have ex:=ae (show ∀i,i<n1->∀j,j<(f1 i).h->((f1 i).u j).s.size<=maxLen from λi hi j hj=>by have:=(hH.az i hi).2 j hj;unfold maxLen;omega);have mv:=ae (λi hi=>(hA.az i hi).fits);have n8:=ae (λi hi=>(hA.az i hi).sized);have ZQ:=ae (Gx (c0:=c0) (c1:=c1) hH hA n9);clear hH hA n9;go_upto_region 4 with fail;generalize World.alloc (World.alloc w1 _) _=W1 at ZQ ⊢;generalize w1.heap.size+1=sb at ZQ ⊢;generalize w1.heap.size=ab at ZQ ⊢;have O:Hid _:=A8 (S:=⟨n0,f0,n1,f1⟩) (f:=f) (n:=ZN);have CF:=ae (λV (p:Lw w ab sb d ZN ZI f a0 n0 c0 f0 a1 n1 c1 f1 V)=>sR d ZN ZI f a0 n0 c0 f0 a1 n1 c1 f1 V (by omega) (by omega) (by omega) p.dd (by omega) mv p.s0 p.s1 ZL (ZJ.out V p.b).1 (ZJ.out V p.b).2.1 (ZJ.out V p.b).2.2);have CG:=ae (λV (p:Lw w ab sb d ZN ZI f a0 n0 c0 f0 a1 n1 c1 f1 V)=>sS d ZN ZI f a0 n0 c0 f0 a1 n1 c1 f1 V (by omega) (by omega) (by omega) p.dd mv n8 p.s0 p.s1 ZL ex);simp only at O;generalize iC n0 f0 n1 f1 f ZN=q at O CF CG;obtain⟨q1,q2⟩:=q;obtain⟨y0,y1,x0⟩:=ZQ.out.c;go_wp2_with fail;refine(CF.out _ ZQ).mono ?_;rintro e w2 ⟨rfl,o⟩;replace ZQ:=ae (ZQ.out.aa o);clear o x0 y0 y1 CF;obtain⟨y0,y1,x0⟩:=ZQ.out.c;go_wp2_with fail;refine(CG.out _ ZQ).mono ?_;rintro e W ⟨rfl,o⟩;replace ZQ:=ae (ZQ.out.aa o);clear o x0 y0 y1 CG;have CR:=ae (λV (p:Below W.heap.size W V)=>Bb d ZN ZI f V (by omega) (ZQ.out.aa p).dd);have CM:=ae (λV (p:Below W.heap.size W V)=>uW (S:=⟨n0,f0,n1,f1⟩) (a0:=a0) (a1:=a1) (c0:=c0) (c1:=c1) V (fQ f ZN) (ZQ.out.aa p).s0 (ZQ.out.aa p).s1 (by show n0<=_;omega) (by show n1<=_;omega) ZL (ZJ.out V (ZQ.out.aa p).b).1 (ZJ.out V (ZQ.out.aa p).b).2.1 (ZJ.out V (ZQ.out.aa p).b).2.2);have CN:=ae (λV (p:Below W.heap.size W V)=>mV (S:=⟨n0,f0,n1,f1⟩) (a0:=a0) (a1:=a1) (c0:=c0) (c1:=c1) V (fQ f ZN) (ZQ.out.aa p).s0 (ZQ.out.aa p).s1 (by show n0<=_;omega) (by show n1<=_;omega) ZL ex);have MF:=ae (uO ⟨n0,f0,n1,f1⟩ (fQ f ZN));have BL:=ae (vb ⟨n0,f0,n1,f1⟩ (fQ f ZN));generalize fQ f ZN=t at CR CM CN MF O BL;clear ZL ex n8 ZJ;go_upto_region 8 with fail;go_cut [9] (λs wx=>∃(bb:Nat) (D:Option Addr) (Nb ZO:Nat),s=.pointer (T (Q bb 0 Z))/\Hid (MkD W ⟨n0,f0,n1,f1⟩ t bb D Nb ZO wx));case' rest =>
  obtain⟨bb,D,Nb,ZO,rfl,X⟩:=hcut;generalize wc=W at X ⊢;obtain⟨R,G,u,H,o,n6,P⟩:=X.out;clear X;have ZK:R.length=(aV ⟨n0,f0,n1,f1⟩ t).1.length:=by have:=CV List.length u;simpa[aT] using this
  obtain rfl:Nb=(aV ⟨n0,f0,n1,f1⟩ t).1.length:=G.symm.trans ZK;have M:Hid (SlDeed W D (aV ⟨n0,f0,n1,f1⟩ t).1.length (dF (aT ⟨n0,f0,n1,f1⟩ (aV ⟨n0,f0,n1,f1⟩ t).1))):=by rw[<-G] at H ⊢;rw[<-u];exact H.bb
  replace ZQ:=ae (ZQ.out.aa o);have ZM:=ae P;replace CR:=ae (λV (p:Below W.heap.size W V)=>CR.out V (o.trans (p.mono o.size)));replace CM:=ae (λV (p:Below W.heap.size W V)=>CN.out V (o.trans (p.mono o.size)))
  have FM:=ae (λi (hi:i<(aV ⟨n0,f0,n1,f1⟩ t).1.length)=>show dw (dF (aT ⟨n0,f0,n1,f1⟩ (aV ⟨n0,f0,n1,f1⟩ t).1) i) by
   obtain⟨r2,At,ro⟩:=dr (R:=R) (i:=i) (by omega);rw[<-u,gF At]
   exact(MF.out _ (by rw[<-u];exact PC ro)).1.fits)
  clear o P H u ZK G n6 MF R;go_upto_region 9 with fail;go_cut [11] (λs wx=>∃(bb:Nat) (D:Option Addr) (Nb ZO:Nat),s=.pointer (T (Q bb 0 Z))/\Hid (MkD W ⟨n0,f0,n1,f1⟩ t bb D Nb ZO wx));case' rest=>have qr:=True.intro
 all_goals first
  |guard_hyp qr
   clear CM CR;obtain⟨b2,d2,N2,k2,rfl,X⟩:=hcut;generalize wc=W6 at X ⊢;obtain⟨R,G,u,H,o,n6,P⟩:=X.out;clear X;have ZK:R.length=(aV ⟨n0,f0,n1,f1⟩ t).1.length:=by have:=CV List.length u;simpa[aT] using this
   obtain rfl:N2=(aV ⟨n0,f0,n1,f1⟩ t).1.length:=G.symm.trans ZK;have aq:Hid (SlDeed W6 d2 (aV ⟨n0,f0,n1,f1⟩ t).1.length (dF (aT ⟨n0,f0,n1,f1⟩ (aV ⟨n0,f0,n1,f1⟩ t).1))):=by rw[<-G] at H ⊢;rw[<-u];exact H.bb
   replace ZQ:=ae (ZQ.out.aa o);have K2:=ae P;replace ZM:=ae (ZM.aa o ly);replace M:=ae (M.aa o ly);clear o P H u ZK G n6 R W;generalize dF (aT ⟨n0,f0,n1,f1⟩ (aV ⟨n0,f0,n1,f1⟩ t).1)=F at M aq O FM;generalize (aV ⟨n0,f0,n1,f1⟩ t).1.length=L at M aq O FM ZM K2 BL ⊢;have hL:=BL.out;clear BL;have x0:=ZM.c0;have x1:=K2.c0;go_wp2_with fail;refine(mX D L ZO F d2 L k2 F _ (by omega) M aq FM).mono ?_;rintro e w7 ⟨b,rfl,hb,o⟩;obtain rfl:b=ZD:=hb.2 ⟨rfl,λi _=>DeedEq.refl _⟩;replace ZQ:=ae (ZQ.out.aa o);replace ZM:=ae (ZM.aa o ly);replace M:=ae (M.aa o ly);clear hb o x0 x1 K2 aq;have x0:=ZM.c0;have x1:=ZQ.ax.c0;go_wp2_with fail;refine(mX d ZN ZI f D L ZO F _ (by omega) ZQ.dd M mv).mono ?_;rintro e w8 ⟨b,rfl,hb,o⟩;replace ZQ:=ae (ZQ.out.aa o);have B9:=ae ZQ.b;have HQ:Hid (q1=0 ↔ b=ZD/\0<ZN):=⟨λh=>⟨hb.2 (O.out.1 h).1,(O.out.1 h).2⟩,λh=>O.out.2 ⟨hb.1 h.1,h.2⟩⟩
   clear hb o x0 x1 ZM M O;have x1:=ZQ.ax.c0;by_cases hq:q1=0
   ·obtain⟨rfl,h0⟩:=HQ.out.1 hq
    subst hq;have h1:(0:Int)<(ZN:Int):=by omega
    go_wp2;go_ret;exact⟨rfl,B9⟩
   ·have hc:(q1 == 0)=false:=by simpa using hq
    cases b with
    |false =>go_wp2;go_ret;exact⟨rfl,B9⟩
    |true =>obtain rfl:ZN=0:=Nat.eq_zero_of_not_pos λh=>hq (HQ.out.2 ⟨rfl,h⟩);go_wp2;go_ret;exact⟨rfl,B9⟩
  |skip
   go_wp2_with fail;refine wp_region_held_drew (S:=λV=>V.cell? (Q sb 0 Z)=T (Y a0 n0 c0)/\V.cell? (Q sb 1 Z)=T (Y a1 n1 c1)/\V.cell? (Q ab 0 Z)=T (Y d ZN ZI)) (by kernel_rfl) (ZQ.out.aa br.drew).c λhS=>?_;have r:=ae hS;have g:Hid (RgM W W.drew Z Z):=⟨br.drew,(λ_ _ e=>by cases e),(λ_ _ e=>by cases e)⟩
   clear hS;generalize W.drew=v at g r ⊢
   iterate 2
    refine ba 0 (v:=?_) rfl rfl (by kernel_rfl) (λ_ _ _ h=>h) rfl ?_ r.out ?_;rotate_left
    ·(rintro wz ⟨s0,s1,s2⟩;go_simp)
     (try with_reducible rfl)
    (try simp only[Act.put,nzL])
   repeat' first
    |(guard_hyp y;(fail_if_success guard_hyp T4);refine ba 4 (v:=?_) rfl rfl (by kernel_rfl) (λ_ _ _ h=>h) rfl ?_ r.out ?_;rotate_left;(focus (intro wz C;obtain⟨s0,s1,s2⟩:=C;go_simp;(try with_reducible rfl);done));(try simp only[Act.put,nzL]);have T4:=True.intro)
    |(guard_hyp T4;(fail_if_success guard_hyp T5);refine ba 5 (v:=?_) rfl rfl (by kernel_rfl) (λ_ _ _ h=>h) rfl ?_ r.out ?_;rotate_left;(focus (intro wz C;obtain⟨s0,s1,s2⟩:=C;go_simp;(try with_reducible rfl);done));(try simp only[Act.put,nzL]);have T5:=True.intro)
    |(guard_hyp T5;(fail_if_success guard_hyp T6);refine ba 6 (v:=?_) rfl rfl (by kernel_rfl) (λ_ _ _ h=>h) rfl ?_ r.out ?_;rotate_left;(focus (intro wz C;obtain⟨s0,s1,s2⟩:=C;go_simp;(try with_reducible rfl);done));(try simp only[Act.put,nzL]);have T6:=True.intro)
    |((fail_if_success guard_hyp ZP);(fail_if_success guard_hyp A);(fail_if_success guard_hyp B);refine o8 (i:=2) (j:=7) (m:=8) rfl rfl rfl (by kernel_rfl) (λK l=>?_) (λK l=>?_) (λK l=>?_))
    |((fail_if_success guard_hyp ZP);guard_hyp A;(fail_if_success guard_hyp B);refine iY (i:=2) (j:=8) rfl rfl (by kernel_rfl) (λK l=>?_) (λK l=>?_))
    |((fail_if_success guard_hyp ZP);guard_hyp B;(fail_if_success guard_hyp A);refine iY (i:=2) (j:=7) rfl rfl (by kernel_rfl) (λK l=>?_) (λK l=>?_))
    |((fail_if_success guard_hyp ZP);guard_hyp A;guard_hyp B;refine aN (i:=2) rfl (by kernel_rfl) (λK l=>?_))
    |(guard_hyp ZP;(fail_if_success guard_hyp y);(fail_if_success guard_hyp A);(fail_if_success guard_hyp B);refine o8 (i:=3) (j:=7) (m:=8) rfl rfl rfl (by kernel_rfl) (λK l=>?_) (λK l=>?_) (λK l=>?_))
    |(guard_hyp ZP;(fail_if_success guard_hyp y);guard_hyp A;(fail_if_success guard_hyp B);refine iY (i:=3) (j:=8) rfl rfl (by kernel_rfl) (λK l=>?_) (λK l=>?_))
    |(guard_hyp ZP;(fail_if_success guard_hyp y);guard_hyp B;(fail_if_success guard_hyp A);refine iY (i:=3) (j:=7) rfl rfl (by kernel_rfl) (λK l=>?_) (λK l=>?_))
    |(guard_hyp ZP;(fail_if_success guard_hyp y);guard_hyp A;guard_hyp B;refine aN (i:=3) rfl (by kernel_rfl) (λK l=>?_))
    |(guard_hyp T6;(fail_if_success guard_hyp A);(fail_if_success guard_hyp B);refine iY (i:=7) (j:=8) rfl rfl (by kernel_rfl) (λK l=>?_) (λK l=>?_))
    |(guard_hyp T6;guard_hyp A;(fail_if_success guard_hyp B);refine aN (i:=8) rfl (by kernel_rfl) (λK l=>?_))
    |(guard_hyp T6;guard_hyp B;(fail_if_success guard_hyp A);refine aN (i:=7) rfl (by kernel_rfl) (λK l=>?_))
    |(guard_hyp T6;guard_hyp A;guard_hyp B;(fail_if_success guard_hyp T9);refine aN (i:=9) rfl (by kernel_rfl) (λK l=>?_))
    |(guard_hyp T9;(fail_if_success guard_hyp ph);refine aN (i:=10) rfl (by kernel_rfl) (λK l=>?_))
    |(guard_hyp ph;refine wpAnyH_done (by kernel_rfl) ?_ _;clear r;go_wp2;go_meet;exact⟨_,_,_,_,rfl,R,rfl,Bk,y,g.b,(g.a _ _ rfl).1,(g.a _ _ rfl).2⟩)
    |((fail_if_success guard_hyp ZP);go_simp;go_at_call 12;refine(CR.out _ g.b).mono ?_;rintro e v2 ⟨rfl,o⟩;replace g:=ae (g.out.aa o);clear o r;have r:=ae (ZQ.out.aa g.b).c;refine l _ _ r.out ?_;clear l K;obtain⟨v,rfl⟩:∃x,x=v2:=⟨_,rfl⟩;(try simp only[Act.put,nzL]);have ZP:=True.intro)
    |(guard_hyp ZP;(fail_if_success guard_hyp y);go_simp;(first|go_at_call 25|go_at_call 11);refine(CM.out _ g.b).mono ?_;rintro e v2 ⟨D,ZO,R,rv,rfl,H,u,⟨ra,rk,rfl,-⟩,o⟩;(generalize (aV ⟨n0,f0,n1,f1⟩ t).2=rs);have y:=ae (H.low g.b.size);have Bk:=ae u;replace g:=ae (g.out.aa o);clear o r H u;have r:=ae (ZQ.out.aa g.b).c;refine l _ _ r.out ?_;clear l K;obtain⟨v,rfl⟩:∃x,x=v2:=⟨_,rfl⟩;(try simp only[Act.put,nzL]))
    |((fail_if_success guard_hyp A);(try replace y:=ae (y.out.agr (dJ ((BS v).alloc ly (N #[Y Z 0 0] 25)) ly)));replace g:=ae (g.out.newA #[Y Z 0 0]);clear r;have r:=ae (ZQ.out.aa g.b).c;go_simp;refine l _ _ r.out ?_;clear l K;obtain⟨p7,z⟩:∃x,v.heap.size=x:=⟨_,rfl⟩;rw[z] at g ⊢;clear z;obtain⟨v,z⟩:∃x,v.alloc (N #[Y Z 0 0] 25)=x:=⟨_,rfl⟩;rw[z] at g r ⊢;(try rw[z] at y);clear z;(try simp only[Act.put,nzL]);have A:=True.intro)
    |((fail_if_success guard_hyp B);(try replace y:=ae (y.out.agr (dJ ((BS v).alloc ly (N #[J I 0,U ⟨#[]⟩,Y Z 0 0] 37)) ly)));replace g:=ae (g.out.newR #[J I 0,U ⟨#[]⟩,Y Z 0 0]);clear r;have r:=ae (ZQ.out.aa g.b).c;go_simp;refine l _ _ r.out ?_;clear l K;obtain⟨p8,z⟩:∃x,v.heap.size=x:=⟨_,rfl⟩;rw[z] at g ⊢;clear z;obtain⟨v,z⟩:∃x,v.alloc (N #[J I 0,U ⟨#[]⟩,Y Z 0 0] 37)=x:=⟨_,rfl⟩;rw[z] at g r ⊢;(try rw[z] at y);clear z;(try simp only[Act.put,nzL]);have B:=True.intro)
    |((fail_if_success guard_hyp T9);obtain⟨la,ld,n7⟩:=g.out.cA;replace y:=ae (g.out.dA y (Y D R.length ZO));replace g:=ae (g.out.setA (Y D R.length ZO));clear r;have r:=ae (ZQ.out.aa g.b).c;go_simp;clear la ld n7;refine l _ _ r.out ?_;clear l K;obtain⟨v,z⟩:∃x,v.setCell (Q p7 0 Z) (Y D R.length ZO)=x:=⟨_,rfl⟩;rw[z] at g r y ⊢;clear z;(try simp only[Act.put,nzL]);have T9:=True.intro)
    |(guard_hyp T9;obtain⟨la,ld,n7,DE,ur,th,sm⟩:=g.out.cR;replace y:=ae (g.out.dR (u0:=J I rs.M) (u1:=U rs.H) (u2:=Y ra rs.R.length rk) y);replace g:=ae (g.out.endR (J I rs.M) (U rs.H) (Y ra rs.R.length rk));clear r;have r:=ae (ZQ.out.aa g.b).c;go_simp;clear la ld n7 DE ur th sm;refine l _ _ r.out ?_;clear l K;(try simp only[Act.put,nzL]);have ph:=True.intro)
