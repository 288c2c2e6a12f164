import Derived.Test.YtpmnbjkjpnclaaaGreatDoorJE
import Derived.Test.YtpmnbjkjpnclaaaGreatDoorKR
import Derived.Test.YtpmnbjkjpnclaaaGreatDoorKP
set_option maxRecDepth 100000
set_option maxHeartbeats 16000000
set_option linter.unusedSimpArgs false
open Go renaming Addr.mk->N,Value.slice->Y,Value.string->U,Value.int->Q,Value.agg->ZG,Obj.cells->J,IntKind.i64->I,World->M,Value->ZB,Ending.returned->ZD,World.heap->B
open Option renaming none->Z,some->T
open Bool renaming false->ZA
open Array renaming size->z
namespace Go.Proofs.YtpmnbjkjpnclaaaGreatDoor.Vp
open Tryz RowKit Ca
variable {lo:Nat}
def Ff:ZB->Nat
 |Y _ n _=>n
 |_=>0
def DL7 (w:M)(R q:Nat)(e:Ending)(b:M):Prop:=∃(u:ZB) (L:List AV) (a0:Option Addr) (n0 c0:Nat) (f0:Nat->Source) (a1:Option Addr) (n1 c1:Nat) (f1:Nat->Target),e=ZD (.tuple #[u,ZG #[Y a0 n0 c0,Y a1 n1 c1]])/\HSg (z (B w)) b a0 n0 f0 a1 n1 f1/\b.ownsRow (z (B w)) 37 1 u L.length (L.map acV)/\(∀r∈L,HAc (z (B w)) b r.a r.n r.c r.f/\tL r)/\L.length<=51/\(∃g c,u=Y (T (N g 0 Z)) L.length c)/\∃q':Nat,q'<=q/\Rd b R q'/\Only R w b
def L7A (w:M)(R sb lo:Nat)(q n0 c0 n1 c1:Nat)(a0:Option Addr)(f0:Nat->Source)(a1:Option Addr)(f1:Nat->Target)(u:ZB)(L:List AV)(p:Nat)(r:AV)(W:M):Prop:=∃b ZQ,r∈ZQ/\L7 b w R sb lo W q n0 c0 n1 c1 a0 f0 a1 f1 u L ZQ (T (p,#[acV r])) Z
theorem xD (R p:Nat)(w:M)(hR:Rd w R p)(hp:p<=10):Calls Tryz.prog 39 #[.pointer (T (N R 0 Z))] w λe w'=>DL7 w R (p+19600) e w':=by
 have HR:=ae hR;have bt:=hR.lt;obtain⟨W0,fd⟩:∃W:M,w.alloc (J #[Y Z 0 0,Y Z 0 0] 27)=W:=⟨_,rfl⟩
 obtain⟨A0,KS,hzA⟩:=nb1 fd;have ph:=ae fd;clear fd hR;go_enter func39,ntmps39;go_wp2_with fail;rw[ph.out];clear ph;refine(xg R _ _ (HR.aa A0 ly) (by omega)).mono ?_;rintro e ZN ⟨LS,RT,v0,v1,rfl,ho,ht,hG,hl0,hl1,q2,hq2,At,mv⟩;obtain⟨a0,c0,rfl⟩:=aL ho;obtain⟨a1,c1,rfl⟩:=aL ht.x;have hD:=DU ho ht hG (by omega) (by omega);have hH:HSg _ _ _ _ _ _ _ _:=⟨hD.1,by omega,by omega,hD.2⟩
 clear hD;have hs2:=mv.size;obtain⟨W2,aq⟩:∃W:M,(ZN.alloc (J #[Y a0 LS.length c0,Y a1 RT.length c1] 27)).alloc (J #[] 37)=W:=⟨_,rfl⟩
 obtain⟨AS,DE,-,hz2⟩:=nb2 aq;have ZL:Hid (L7 [z (B ZN)+1,R,z (B w),z (B ZN)] w R (z (B ZN)) (z (B W2)) W2 q2 LS.length c0 RT.length c1 a0 (bY LS) a1 (bD (RT.map (·.1))) (Y (T (N (z (B ZN)+1) 0 Z)) 0 0) [] [] Z Z):=by
  refine⟨At.aa AS ly,((Only.q A0).trans mv).trans (Only.q AS),(AS.block _ (by omega)).trans ((mv.block _ (by omega) (by omega)).trans KS),DE,⟨z (B W0)+2,ZN,by omega,hH,fF AS ly,λx hx=>?_⟩,(λ_ h=>by cases h),(λ_ h=>by cases h),?_,λg hg=>?_,(λ_ _ e=>by cases e),(λ_ _ e=>by cases e),⟨bt,by omega,by omega,nX _⟩,⟨by simp,by simp,by simp⟩,λx hx=>?_,⟨_,_,rfl⟩⟩;{simp only[BO,nj,RH] at hx;omega};{rw[<-aq];have:=lP (ZN.alloc (J #[Y a0 LS.length c0,Y a1 RT.length c1] 27)) 37 1;rw[show(ZN.alloc (J #[Y a0 LS.length c0,Y a1 RT.length c1] 27)).heap.size=z (B ZN)+1 by simp] at this;exact aC this (by omega)};{simp[Value.ownBlock] at hg;subst hg;exact⟨by omega,by simp⟩};{simp only[BO,nj,RH] at hx;omega}
 have qr:=ae aq;clear aq AS DE ho ht hG hH At mv A0 KS HR;go_upto_region 3 with fail;rw[qr.out];clear qr;obtain⟨ZM,lo,ZL⟩:∃ZM lo,Hid (L7 ZM w R (z (B ZN)) lo W2 q2 LS.length c0 RT.length c1 a0 (bY LS) a1 (bD (RT.map (·.1))) (Y (T (N (z (B ZN)+1) 0 Z)) 0 0) [] [] Z Z):=⟨_,_,ZL⟩
 generalize LS.length=n0 at ZL ⊢;generalize RT.length=n1 at ZL ⊢;generalize bY LS=f0 at ZL;generalize bD (RT.map (·.1))=f1 at ZL;generalize (Value.slice (T (N (z (B ZN)+1) 0 Z)) 0 0)=u at ZL ⊢;generalize (z (B ZN))=sb at ZL ⊢;go_wp2_with fail;refine(aw R _ 5 _ ZL.rd (by omega) (by omega) (by omega)).mono ?_;rintro e w3 ⟨ZR,rfl,hz0,hz1,hR,C⟩;have D2:=ae (ZL.ac C hR);clear hR C ZL;obtain⟨k,rfl⟩:∃k:Nat,ZR=(k:Int):=⟨ZR.toNat,by omega⟩
 go_wp2_with fail;go_loopw [5,6] (λs5 s6 wr=>∃(ZM:List Nat) (lo k q n0 c0 n1 c1:Nat) (a0:Option Addr) (f0:Nat->Source) (a1:Option Addr) (f1:Nat->Target) (L ZQ:List AV),s6=Q I (k:Int)/\k<=4/\q+3605*k<=p+19521/\L.length+k<=4/\Hid (L7 ZM w R sb lo wr q n0 c0 n1 c1 a0 f0 a1 f1 s5 L ZQ Z Z)) (λ_ s6 _=>(intOf s6).toNat);case atStart=>exact⟨_,_,k,_,_,_,_,_,_,_,_,_,[],[],rfl,by omega,by omega,by show 0+k<=4;omega,D2⟩
 case round =>
  clear D2;obtain⟨ZM,lo,k,q,n0,c0,n1,c1,a0,f0,a1,f1,L,ZQ,rfl,hk,hq,hL,D3⟩:=hrel;obtain⟨la,lc,hu⟩:=eS D3.row;cases hu
  go_upto_region 4 with fail;go_cut [15] (λs wx=>∃b1:Bool,s=.bool b1/\(b1=true->0<k)/\wr=wx);case first =>
   by_cases FK:0<k
   ·have FQ:(0:Int)<(k:Int):=by omega
    go_wp2;go_meet;exact⟨_,rfl,λ_=>FK,rfl⟩
   ·have FQ:¬ (0:Int)<(k:Int):=by omega
    go_wp2;go_meet;exact⟨ZA,rfl,(λh=>by cases h),rfl⟩
  case rest =>
  obtain⟨F0,rfl,ex,rfl⟩:=hcut;cases F0 with
  |true =>
   have FK:=ex rfl;clear ex;have ZP:=ae D3.lift;clear D3;go_upto_region 6 with fail;generalize FV:z (B wr)=lo at ZP;clear FV;go_cut [7] (λs wx=>∃(bb q':Nat) (r:AV),s=.pointer (T (N bb 0 Z))/\q'<=q+3/\Hid (r.n<=450/\∀i,i<r.n->FitK 0 (r.f i))/\L7A w R sb lo q' n0 c0 n1 c1 a0 f0 a1 f1 (Y la L.length lc) L bb r wx);case first =>
    go_wp2_with fail;have l:=ae (ZP.aa br.drew);refine wp_region_held_drew (S:=λV=>V.cell? (N sb 0 Z)=T (Y a0 n0 c0)/\V.cell? (N sb 1 Z)=T (Y a1 n1 c1)) (by as_aux_lemma=>kernel_rfl) ⟨l.cS.1,l.cS.2.1⟩ λhS=>?_;have ZS:=ae hS;clear hS ZP;generalize wr.drew=v at l ZS ⊢;iterate 3
     refine aR 0 (v:=?_) rfl rfl (by as_aux_lemma=>kernel_rfl) (λ_ _ _ h=>h) rfl ?_ ZS.out ?_;rotate_left
     ·(rintro wz ⟨s0,s1⟩;go_simp)
      (try with_reducible rfl)
     (try simp only[Act.put,nzL])
    repeat' first
     |(guard_hyp QM;(fail_if_success guard_hyp T5);refine aR 5 (v:=?_) rfl rfl (by as_aux_lemma=>kernel_rfl) (λ_ _ _ h=>h) rfl ?_ ZS.out ?_;rotate_left;(focus (intro wz H;obtain⟨s0,s1⟩:=H;go_simp;(try with_reducible rfl);done));(try simp only[Act.put,nzL]);have T5:=True.intro)
     |(guard_hyp T5;(fail_if_success guard_hyp T6);refine aR 6 (v:=?_) rfl rfl (by as_aux_lemma=>kernel_rfl) (λ_ _ _ h=>h) rfl ?_ ZS.out ?_;rotate_left;(focus (intro wz H;obtain⟨s0,s1⟩:=H;go_simp;(try with_reducible rfl);done));(try simp only[Act.put,nzL]);have T6:=True.intro)
     |(guard_hyp T6;(fail_if_success guard_hyp T7);refine aR 7 (v:=?_) rfl rfl (by as_aux_lemma=>kernel_rfl) (λ_ _ _ h=>h) rfl ?_ ZS.out ?_;rotate_left;(focus (intro wz H;obtain⟨s0,s1⟩:=H;go_simp;(try with_reducible rfl);done));(try simp only[Act.put,nzL]);have T7:=True.intro)
     |((fail_if_success guard_hyp ZJ);(fail_if_success guard_hyp O);(fail_if_success guard_hyp P);refine nJ (i:=3) (j:=8) (m:=9) rfl rfl rfl (by as_aux_lemma=>kernel_rfl) (λK A=>?_) (λK A=>?_) (λK A=>?_))
     |((fail_if_success guard_hyp ZJ);guard_hyp O;(fail_if_success guard_hyp P);refine fW (i:=3) (j:=9) rfl rfl (by as_aux_lemma=>kernel_rfl) (λK A=>?_) (λK A=>?_))
     |((fail_if_success guard_hyp ZJ);guard_hyp P;(fail_if_success guard_hyp O);refine fW (i:=3) (j:=8) rfl rfl (by as_aux_lemma=>kernel_rfl) (λK A=>?_) (λK A=>?_))
     |((fail_if_success guard_hyp ZJ);guard_hyp O;guard_hyp P;refine aI (i:=3) rfl (by as_aux_lemma=>kernel_rfl) (λK A=>?_))
     |(guard_hyp ZJ;(fail_if_success guard_hyp QM);(fail_if_success guard_hyp O);(fail_if_success guard_hyp P);refine nJ (i:=4) (j:=8) (m:=9) rfl rfl rfl (by as_aux_lemma=>kernel_rfl) (λK A=>?_) (λK A=>?_) (λK A=>?_))
     |(guard_hyp ZJ;(fail_if_success guard_hyp QM);guard_hyp O;(fail_if_success guard_hyp P);refine fW (i:=4) (j:=9) rfl rfl (by as_aux_lemma=>kernel_rfl) (λK A=>?_) (λK A=>?_))
     |(guard_hyp ZJ;(fail_if_success guard_hyp QM);guard_hyp P;(fail_if_success guard_hyp O);refine fW (i:=4) (j:=8) rfl rfl (by as_aux_lemma=>kernel_rfl) (λK A=>?_) (λK A=>?_))
     |(guard_hyp ZJ;(fail_if_success guard_hyp QM);guard_hyp O;guard_hyp P;refine aI (i:=4) rfl (by as_aux_lemma=>kernel_rfl) (λK A=>?_))
     |(guard_hyp T7;(fail_if_success guard_hyp O);(fail_if_success guard_hyp P);refine fW (i:=8) (j:=9) rfl rfl (by as_aux_lemma=>kernel_rfl) (λK A=>?_) (λK A=>?_))
     |(guard_hyp T7;guard_hyp O;(fail_if_success guard_hyp P);refine aI (i:=9) rfl (by as_aux_lemma=>kernel_rfl) (λK A=>?_))
     |(guard_hyp T7;guard_hyp P;(fail_if_success guard_hyp O);refine aI (i:=8) rfl (by as_aux_lemma=>kernel_rfl) (λK A=>?_))
     |(guard_hyp T7;guard_hyp O;guard_hyp P;(fail_if_success guard_hyp T9);refine aI (i:=10) rfl (by as_aux_lemma=>kernel_rfl) (λK A=>?_))
     |(guard_hyp T9;(fail_if_success guard_hyp Bk);refine aI (i:=11) rfl (by as_aux_lemma=>kernel_rfl) (λK A=>?_))
     |(guard_hyp Bk;refine wpAnyH_done (by as_aux_lemma=>kernel_rfl) ?_ _;clear ZS;go_wp2;go_meet;exact⟨_,_,_,rfl,CD,HF,_,_,.head _,l⟩)
     |((fail_if_success guard_hyp ZJ);go_simp;go_at_call 88;refine(oH R _ (z (B w)) n0 c0 n1 c1 a0 f0 a1 f1 _ l.rd (by omega) bt l.qs.at.1).mono ?_;rintro e v2 ⟨t,rfl,q6,CD,hR,C⟩;replace l:=ae (l.out.ac C hR);clear hR C ZS;have ZS:=ae (And.intro l.cS.1 l.cS.2.1);refine A _ _ ZS.out ?_;clear A K;obtain⟨v,rfl⟩:∃x,x=v2:=⟨_,rfl⟩;(try simp only[Act.put,nzL]);have ZJ:=True.intro)
     |(guard_hyp ZJ;(fail_if_success guard_hyp QM);go_simp;go_at_call 21;refine(El (z (B w)) n0 c0 n1 c1 a0 f0 a1 f1 _ t l.qs.at.1).mono ?_;rintro e v2 ⟨ra,rn,rc,rf,kk,tt,sa,sn,sc,rfl,hA,hn,hf,hB⟩;have HF:Hid (rn<=450/\∀i,i<rn->FitK 0 (rf i)):=⟨by omega,λi hi=>(hf i hi).k⟩;replace l:=ae ((l.out.aa hB).add (r:=⟨ra,rn,rc,rf⟩) hA ⟨by show rn<=451;omega,λi hi=>(hf i hi).k⟩ l.o.size l.xl);clear hA hn hf hB ZS;have ZS:=ae (And.intro l.cS.1 l.cS.2.1);refine A _ _ ZS.out ?_;clear A K;obtain⟨v,rfl⟩:∃x,x=v2:=⟨_,rfl⟩;(try simp only[Act.put,nzL]);have QM:=True.intro)
     |((fail_if_success guard_hyp O);replace l:=ae (l.out.newA #[Y Z 0 0]);clear ZS;have ZS:=ae (And.intro l.cS.1 l.cS.2.1);go_simp;refine A _ _ ZS.out ?_;clear A K;obtain⟨p7,ZO⟩:∃x,z (B v)=x:=⟨_,rfl⟩;rw[ZO] at l ⊢;clear ZO;obtain⟨v,ZO⟩:∃x,v.alloc (J #[Y Z 0 0] 37)=x:=⟨_,rfl⟩;rw[ZO] at l ZS ⊢;clear ZO;(try simp only[Act.put,nzL]);have O:=True.intro)
     |((fail_if_success guard_hyp P);replace l:=ae (l.out.newR #[Q I 0,U ⟨#[]⟩,Y Z 0 0]);clear ZS;have ZS:=ae (And.intro l.cS.1 l.cS.2.1);go_simp;refine A _ _ ZS.out ?_;clear A K;obtain⟨p8,ZO⟩:∃x,z (B v)=x:=⟨_,rfl⟩;rw[ZO] at l ⊢;clear ZO;obtain⟨v,ZO⟩:∃x,v.alloc (J #[Q I 0,U ⟨#[]⟩,Y Z 0 0] 39)=x:=⟨_,rfl⟩;rw[ZO] at l ZS ⊢;clear ZO;(try simp only[Act.put,nzL]);have P:=True.intro)
     |((fail_if_success guard_hyp T9);obtain⟨th,sm,n9⟩:=l.out.cA;replace l:=ae (l.out.setA (Y ra rn rc));clear ZS;have ZS:=ae (And.intro l.cS.1 l.cS.2.1);go_simp;clear th sm n9;refine A _ _ ZS.out ?_;clear A K;obtain⟨v,ZO⟩:∃x,v.setCell (N p7 0 Z) (Y ra rn rc)=x:=⟨_,rfl⟩;rw[ZO] at l ZS ⊢;clear ZO;(try simp only[Act.put,nzL]);have T9:=True.intro)
     |(guard_hyp T9;obtain⟨th,sm,n9,FY,FW,FZ,FU⟩:=l.out.cR;replace l:=ae (l.out.endR (Q I kk) (U tt) (Y sa sn sc));clear ZS;have ZS:=ae (And.intro l.cS.1 l.cS.2.1);go_simp;clear th sm n9 FY FW FZ FU;refine A _ _ ZS.out ?_;clear A K;(try simp only[Act.put,nzL]);have Bk:=True.intro)
   case rest =>
   clear ZP;obtain⟨bb,q5,⟨ra,rn,rc,rf⟩,rfl,FP,HF,xs5,M5,ro,h5⟩:=hcut;have G:=ae h5;clear h5;generalize wc=W5 at G ⊢;go_wp2_with fail;refine(aw R _ 6 _ G.rd (by omega) (by omega) (by omega)).mono ?_;rintro e w6 ⟨y,rfl,Fk,Fm,hR,C⟩;have D:=ae (G.ac C hR);clear hR C G;go_upto_if 28 with fail;go_cut [] (λwx=>∃(q':Nat) (r:AV),q'<=q+1104/\L7A w R sb lo q' n0 c0 n1 c1 a0 f0 a1 f1 (Y la L.length lc) L bb r wx);case first =>
    by_cases hy:y=0;{subst hy;have ZK:w6.cell? (N bb 0 Z)=T (Y ra rn rc):=D.cA.1;have x2:=D.cA.2.2;go_wp2_with fail;refine(zi xw 0 1 (by omega) (by omega) R _ ra rn rc rf _ ((D.qm _ ro).1.at.sl _ (Agr.refl _ _)) HF.2 HF.1 D.rd (by omega)).mono ?_;rintro e w7 ⟨b,m,c',g,rfl,hA,⟨q7,hq7,hR,C⟩,ur,DS⟩;have X:=ae ((D.ac C hR).add (r:=⟨b,m,c',g⟩) hA ⟨ur,DS⟩ D.o.size D.xl);clear hA hR C ur DS D ZK x2;obtain⟨ZK,x1,x2⟩:=X.cA;have ZI:=ae (X.setA (Y b m c'));clear X;go_wp2;go_meet;exact⟨_,⟨b,m,c',g⟩,by omega,_,_,.head _,ZI⟩}
    ·have Fd:(y == 0)=ZA:=by simpa using hy
     go_wp2;go_meet;exact⟨_,_,by omega,_,_,ro,D⟩
   case rest =>
   clear D HF ro;obtain⟨q6,r,CD,xs6,M6,FX,h6⟩:=hcut;have D:=ae h6;clear h6;generalize wc=W6 at D ⊢;obtain⟨ZK,x1,x2⟩:=D.cA;have ZK:W6.cell? (N bb 0 Z)=T (acV r):=ZK;go_upto_region 10 with (at_builtin;refine L7.wpA rfl _ _ rfl D FX (by simp[Act.eval]) (by simp[Act.eval]) (by omega) ?_;intro v7 W7 DQ X);clear D ZK x1 x2;go_wp2_with fail;refine(aw R _ 3 _ X.rd (by omega) (by omega) (by omega)).mono ?_;rintro e w8 ⟨y3,rfl,hy30,hy31,hR,C⟩;have ZI:=ae (X.ac C hR);clear hR C X;have hw:IntKind.i64.wrap ((k:Int) - 1)=((k - 1:Nat):Int):=by rw[AI];omega
   by_cases hy:y3=0
   ·subst hy;obtain⟨ZK,x1,x2,x3,x4⟩:=ZI.cS;go_wp2_with fail;refine(tJ R _ (z (B w)) n0 c0 n1 c1 a0 f0 a1 f1 _ ZI.rd (by omega) bt ZI.qs.at).mono ?_;rintro e w9 ⟨b0,m0,k0,g0,b1,m1,k1,g1,rfl,hQ,q9,hq9,hR,C⟩;have D9:=ae (ZI.ac C hR);have QQ:QSp (z (B w)) DQ w9 b0 m0 g0 b1 m1 g1:=by
     rcases hQ with hH|⟨rfl,rfl,rfl,rfl,rfl,rfl⟩
     {exact QSp.new hH ZI.o.size λx hx=>.inl (ZI.xl x hx)};{exact D9.qs}
    have DA:=ae (D9.sput (k0:=k0) (k1:=k1) QQ);clear ZK x1 x2 x3 x4;obtain⟨ZK,x1,x2,x3,x4⟩:=D9.cS;clear hQ QQ hR C ZI D9;go_wp2;exact⟨⟨_,_,k - 1,_,_,_,_,_,_,_,_,_,L++[r],_,by simp,by omega,by omega,by simp;omega,DA⟩,by simp[intOf];omega⟩
   ·have Fd:(y3 == 0)=ZA:=by simpa using hy
    go_wp2;exact⟨⟨_,_,k - 1,_,_,_,_,_,_,_,_,_,L++[r],_,by simp,by omega,by omega,by simp;omega,ZI⟩,by simp[intOf];omega⟩
  |false =>
   clear ex;go_upto_region 12 with fail;go_cut [49] (λs wx=>∃(b1:Bool) (q':Nat),s=.bool b1/\(b1=true->0<L.length)/\q'<=p+19522/\Hid (L7 ZM w R sb lo wx q' n0 c0 n1 c1 a0 f0 a1 f1 (Y la L.length lc) L ZQ Z Z));case first =>
    go_wp2_with fail;refine(aw R _ 40 _ D3.rd (by omega) (by omega) (by omega)).mono ?_;rintro e w4 ⟨y,rfl,Fk,Fm,hR,C⟩;have ZP:=ae (D3.ac C hR);clear hR C D3;by_cases hy:y=0
    ·subst hy;by_cases hl:0<L.length
     ·have n8:(0:Int)<(L.length:Int):=by omega
      go_wp2;go_meet;exact⟨_,_,rfl,λ_=>hl,by omega,ZP⟩
     ·have n8:¬ (0:Int)<(L.length:Int):=by omega
      go_wp2;go_meet;exact⟨ZA,_,rfl,(λh=>by cases h),by omega,ZP⟩
    ·have Fd:(y == 0)=ZA:=by simpa using hy
     go_wp2;go_meet;exact⟨ZA,_,rfl,(λh=>by cases h),by omega,ZP⟩
   case rest =>
   clear D3;obtain⟨b1,q4,rfl,ex,hq4,ZP⟩:=hcut;generalize wc=W4 at ZP ⊢;go_upto_if 49 with fail;go_cut [5] (λs wx=>∃(ZM:List Nat) (lo q:Nat) (L ZQ:List AV),q<=p+19580/\L.length<=51/\Hid (L7 ZM w R sb lo wx q n0 c0 n1 c1 a0 f0 a1 f1 s L ZQ Z Z));case first =>
    cases b1 with
    |true =>
     have hl:=ex rfl;go_wp2_with fail;go_loopw [5] (λs wr=>∃(ZM:List Nat) (lo q:Nat) (L ZQ:List AV),0<L.length/\L.length<=51/\q<=p+19525+L.length/\Hid (L7 ZM w R sb lo wr q n0 c0 n1 c1 a0 f0 a1 f1 s L ZQ Z Z)) (λs _=>51 - Ff s);case atStart=>exact⟨_,_,_,_,_,hl,by omega,by omega,ZP⟩
     case round =>
      clear ZP;obtain⟨ZM,lo,q,L,ZQ,hl,n8,hq,G⟩:=hrel;obtain⟨g,lc,hu⟩:=cU G.row hl;cases hu
      go_wp2_with fail;refine(aw R _ 2 _ G.rd (by omega) (by omega) (by omega)).mono ?_;rintro e w6 ⟨y,rfl,Fk,Fm,hR,C⟩;have D:=ae (G.ac C hR);clear hR C G;have hw:IntKind.i64.wrap (50+y)=50+y:=by rw[AI];omega
      by_cases hc:(L.length:Int)<50+y
      ·obtain⟨r,hr⟩:∃r,L[0]?=T r:=⟨L[0],by simp⟩
       have ZK:=(aV D.row (j:=0) (u:=acV r) (by simp[hr])).1;have x2:=(D.row.lt g rfl).2;have hm:=D.lm r (JF hr);have hl3:(0:Int)<(L.length:Int):=by omega
       go_wp2_with (at_builtin;refine L7.wpA rfl _ _ rfl D hm (by simp[Act.eval]) (by simp[Act.eval]) (by omega) ?_;intro v7 W7 DQ X;clear D ZK x2;obtain⟨a7,c7,hv⟩:=eS X.row;rw[show(L++[r]).length=L.length+1 by simp] at hv;cases hv);exact⟨⟨_,_,q+1,L++[r],_,by simp,by simp;omega,by simp;omega,X⟩,by simp[Ff];omega⟩
      {go_wp2;go_meet;exact⟨_,_,_,_,_,by omega,n8,D⟩}
    |false =>go_wp2;go_meet;exact⟨_,_,_,_,_,by omega,by omega,ZP⟩
   case rest =>
   clear ZP;obtain⟨ZM,lo,q5,L,ZQ,FP,FM,G⟩:=hcut;generalize wc=W5 at G ⊢;obtain⟨la,lc,hu⟩:=eS G.row;cases hu
   go_wp2_with fail;have E:=ae (G.aa br.drew);refine wp_region_held_drew (S:=λV=>V.cell? (N sb 0 Z)=T (Y a0 n0 c0)/\V.cell? (N sb 1 Z)=T (Y a1 n1 c1)) (by as_aux_lemma=>kernel_rfl) ⟨E.cS.1,E.cS.2.1⟩ λhS=>?_;have ZS:=ae hS;clear hS G;generalize W5.drew=v3 at E ZS ⊢;iterate 3
    refine aR 0 (v:=?_) rfl rfl (by as_aux_lemma=>kernel_rfl) (λ_ _ _ h=>h) rfl ?_ ZS.out ?_;rotate_left
    ·(rintro wz ⟨s0,s1⟩;go_simp)
     (try with_reducible rfl)
    (try simp only[Act.put,nzL])
   have ks:=E.zs;have r0:v3.cell? (N (z (B w)) 0 Z)=T (Y Z 0 0):=by simp[World.cell?,ks]
   have r1:v3.cell? (N (z (B w)) 1 Z)=T (Y Z 0 0):=by simp[World.cell?,ks]
   have y0:v3.frozen? (N (z (B w)) 0 Z)=ZA:=by simp[World.frozen?,ks]
   have y1:v3.frozen? (N (z (B w)) 1 Z)=ZA:=by simp[World.frozen?,ks]
   have l0:=ar ks;have FO:Hid (DL7 w R (p+19600) (ZD (.tuple #[Y la L.length lc,ZG #[Y a0 n0 c0,Y a1 n1 c1]])) ((v3.setCell (N (z (B w)) 0 Z) (Y a0 n0 c0)).setCell (N (z (B w)) 1 Z) (Y a1 n1 c1))):=by
    have B3:=((cM (z (B w)) v3).setCell (p:=(N (z (B w)) 0 Z)) ly (Y a0 n0 c0)).setCell (p:=(N (z (B w)) 1 Z)) ly (Y a1 n1 c1);have FR:Fr ZM v3 ((v3.setCell (N (z (B w)) 0 Z) (Y a0 n0 c0)).setCell (N (z (B w)) 1 Z) (Y a1 n1 c1)):=(Fr.set E.bx.2.1 _).trans (Fr.set E.bx.2.1 _)
    exact⟨_,L,_,_,_,_,_,_,_,_,rfl,(E.qs.fr FR).at,cy E.row (λk _ ht=>by
     have ne:=jG ht ks (by decide)
     exact(qh _ _ _ _ ne).trans (qh _ _ _ _ ne)),λr hr=>⟨((E.qm r (E.lm r hr)).1.fr FR).at,(E.qm r (E.lm r hr)).2⟩,FM,E.nn,q5,by omega,E.rd.low B3 bt,E.o.then B3⟩
   have ld:sb≠z (B w):=by have:=E.ll;omega
   clear ks E;refine aI (i:=3) rfl (by as_aux_lemma=>kernel_rfl) λK A=>?_;go_simp;refine A _ _ ⟨(cell_far _ _ _ _ ld.symm).trans ((cell_far _ _ _ _ ld.symm).trans ZS.1),(cell_far _ _ _ _ ld.symm).trans ((cell_far _ _ _ _ ld.symm).trans ZS.2)⟩ ?_;clear A K
   (try simp only[Act.put,nzL])
   refine wpAnyH_done (by as_aux_lemma=>kernel_rfl) ?_ _;go_wp2;exact bp (v:=.tuple #[Y la L.length lc,ZG #[Y a0 n0 c0,Y a1 n1 c1]]) (by simp[results,results39,go_sem,r0,r1]) rfl FO
def QSh (lo:Nat)(g:List Nat)(W:M)(a0:Option Addr)(n0:Nat)(f0:Nat->Source)(a1:Option Addr)(n1:Nat)(f1:Nat->Target):Prop:=∃(b:Nat) (f:M),lo<=b/\HSp b f a0 n0 f0 a1 n1 f1/\Agr b f W/\ij g b (z (B f))
section
variable {w W W':M}{R sb ab q q' n0 c0 n1 c1 n c:Nat}{a0 a1 a:Option Addr}{f0:Nat->Source}{f1:Nat->Target}{f:Nat->aj}
theorem QSh.fr{f:List Nat}(h:QSh lo f W a0 n0 f0 a1 n1 f1)(j:Fr f W W'):QSh lo f W' a0 n0 f0 a1 n1 f1:=by obtain⟨b,i,l,h1,h2,g⟩:=h;exact⟨b,i,l,h1,h2.fr g j,g⟩
theorem QSh.at{f:List Nat}(h:QSh lo f W a0 n0 f0 a1 n1 f1):HSp lo W a0 n0 f0 a1 n1 f1:=by obtain⟨b,w1,g,h1,h2,-⟩:=h;exact(h1.agr h2).mono g
theorem QSh.new{b:Nat}{xs:List Nat}(h:HSp b W a0 n0 f0 a1 n1 f1)(g:lo<=b)(f:ij xs b (z (B W))):QSh lo xs W a0 n0 f0 a1 n1 f1:=⟨b,W,g,h,Agr.refl _ _,f⟩
end
def DSt (w:M)(e:Ending)(b:M):Prop:=∃(u:ZB) (L:List AV) (a0:Option Addr) (n0 c0:Nat) (f0:Nat->Source) (a1:Option Addr) (n1 c1:Nat) (f1:Nat->Target),e=ZD (.tuple #[u,ZG #[Y a0 n0 c0,Y a1 n1 c1]])/\HSp (z (B w)) b a0 n0 f0 a1 n1 f1/\b.ownsRow (z (B w)) 37 1 u L.length (L.map acV)/\(∀r∈L,HAc (z (B w)) b r.a r.n r.c r.f/\tL r)/\L.length<=51/\(∃g c,u=Y (T (N g 0 Z)) L.length c)/\Below (z (B w)) w b
structure StS (w:M)(R sb:Nat)(W:M)(q n0 c0 n1 c1:Nat)(a0:Option Addr)(f0:Nat->Source)(a1:Option Addr)(f1:Nat->Target)(u:ZB)(L:List AV):Prop where
 rd:Rd W R q
 bl:Below (z (B w)) w W
 zs:W.heap[z (B w)]?=T (J #[Y Z 0 0,Y Z 0 0] 27 (0,0))
 sx:W.heap[sb]?=T (J #[Y a0 n0 c0,Y a1 n1 c1] 27 (0,0))
 qs:QSh (R+1) [R,z (B w),sb] W a0 n0 f0 a1 n1 f1
 qm:∀r∈L,QAc (R+1) [R,z (B w),sb] W r.a r.n r.c r.f/\tL r
 row:W.ownsRow (R+1) 37 1 u L.length (L.map acV)
 lo:z (B w)<R/\R<sb
section
variable {w W V:M}{R sb q q' n0 c0 n1 c1:Nat}{a0 a1:Option Addr}{f0:Nat->Source}{f1:Nat->Target}{u:ZB}{L:List AV}
theorem StS.ac (h:StS w R sb W q n0 c0 n1 c1 a0 f0 a1 f1 u L)(b:Only R W V)(hR:Rd V R q'):StS w R sb V q' n0 c0 n1 c1 a0 f0 a1 f1 u L:=by have hl:=h.lo;have i:Fr [R,z (B w),sb] W V:=Fr.ac b (by simp);exact⟨hR,h.bl.trans (b.aa (by omega) h.bl.size),(b.block _ (ar h.zs) (by omega)).trans h.zs,(b.block _ (ar h.sx) (by omega)).trans h.sx,h.qs.fr i,λr g=>⟨(h.qm r g).1.fr i,(h.qm r g).2⟩,cy h.row (λk f _=>b.block k (h.row.lt k f).2 (by have:=(h.row.lt k f).1;omega)),h.lo⟩
theorem StS.cS (h:StS w R sb W q n0 c0 n1 c1 a0 f0 a1 f1 u L):W.cell? (N sb 0 Z)=T (Y a0 n0 c0)/\W.cell? (N sb 1 Z)=T (Y a1 n1 c1)/\W.frozen? (N sb 0 Z)=ZA/\W.frozen? (N sb 1 Z)=ZA/\sb<z (B W):=by have k:=h.sx;refine⟨?_,?_,?_,?_,ar k⟩<;>simp[World.cell?,World.frozen?,k]
theorem StS.sput{m0 k0 f k1:Nat}{b0 b:Option Addr}{g:Nat->Source}{m:Nat->Target}(h:StS w R sb W q n0 c0 n1 c1 a0 f0 a1 f1 u L)(o:QSh (R+1) [R,z (B w),sb] W b0 m0 g b f m):StS w R sb ((W.setCell (N sb 0 Z) (Y b0 m0 k0)).setCell (N sb 1 Z) (Y b f k1)) q m0 k0 f k1 b0 g b m u L:=by have hl:=h.lo;have ZS:=((cM (R+1) W).setCell (p:=(N sb 0 Z)) (by show R+1<=sb;omega) (Y b0 m0 k0)).setCell (p:=(N sb 1 Z)) (by show R+1<=sb;omega) (Y b f k1);have l:Fr [R,z (B w),sb] W ((W.setCell (N sb 0 Z) (Y b0 m0 k0)).setCell (N sb 1 Z) (Y b f k1)):=(Fr.set (by simp) _).trans (Fr.set (by simp) _);have far:∀i,i≠sb->((W.setCell (N sb 0 Z) (Y b0 m0 k0)).setCell (N sb 1 Z) (Y b f k1)).heap[i]?=W.heap[i]?:=λi hi=>(qh _ _ _ _ hi).trans (qh _ _ _ _ hi);have s:=h.sx;exact⟨h.rd.low ZS (AD _),h.bl.trans (ZS.mono (by omega)),(far _ (by omega)).trans h.zs,by simp[World.setCell,JV,s],o.fr l,λr j=>⟨(h.qm r j).1.fr l,(h.qm r j).2⟩,cy h.row (λk _ n=>far k (jG n h.sx (by decide))),h.lo⟩
end
theorem re (ac:Option Addr)(D cap:Nat)(w:M)(hn:(D:Int)<=1048576)(hc:D<=cap)(g:ByteSl w ac D):Calls Tryz.prog 7 #[Y ac D cap] w λe w'=>DSt w e w':=by
 have S0:=ae g;clear g;obtain⟨W0,o⟩:∃W:M,w.alloc (J #[Y Z 0 0,Y Z 0 0] 27)=W:=⟨_,rfl⟩
 obtain⟨A0,KS,hzA⟩:=nb1 o;have ZP:=ae o;clear o;go_enter func7,ntmps7;go_wp2_with fail;rw[ZP.out];clear ZP;refine(vO ac D cap _ hn hc (S0.aa A0 ly)).mono ?_;rintro e w1 ⟨R,rfl,hRz,G,y⟩;have R1:=ae G;have B1:=ae (A0.trans (y.mono (by omega)));have K1:=ae ((y.block (z (B w)) (by omega)).trans KS);have hs1:=y.size;have hRl:=G.lt;clear G y A0 KS S0;go_wp2_with fail;refine(xD R 0 _ R1 (by omega)).mono ?_;rintro e j ⟨u,L,a0,n0,c0,f0,a1,n1,c1,f1,rfl,g,t,hA,hL,⟨ZN,O,rfl⟩,q2,hq2,ZI,A⟩;have hs2:=A.size;obtain⟨W2,s⟩:∃W:M,j.alloc (J #[Y a0 n0 c0,Y a1 n1 c1] 27)=W:=⟨_,rfl⟩
 obtain⟨m,X,hz2⟩:=nb1 s;have H:=ae s;clear s;have ou:ij [R,z (B w),z (B j)] (z (B w1)) (z (B j)):=λx hx=>by simp only[BO,nj,RH] at hx;omega
 have ZM:Hid (StS w R (z (B j)) W2 q2 n0 c0 n1 c1 a0 f0 a1 f1 (Y (T (N ZN 0 Z)) L.length O) L) :=
  ⟨ZI.aa m ly,(B1.trans (A.aa (by omega) B1.size)).trans (m.mono (by omega)),(m.block _ (by omega)).trans ((A.block _ (by omega) (by omega)).trans K1),X,⟨z (B w1),j,by omega,g.1,fF m ly,ou⟩,λr E=>⟨⟨z (B w1),j,by omega,(hA r E).1,fF m ly,ou⟩,(hA r E).2⟩,aC (cy t (λk hk _=>m.block k (t.lt k hk).2)) (by omega),by omega,by omega⟩
 have ZL:=ae g.2;clear m X g hA t ZI A B1 K1 R1 ou;have ld:z (B w)+1<=z (B j):=by omega
 go_upto_region 3 with fail;rw[H.out];clear H;generalize (z (B j))=sb at ZM ld ⊢;go_wp2_with fail;refine(aw R _ 12 _ ZM.rd (by omega) (by omega) (by omega)).mono ?_;rintro e w3 ⟨ZR,rfl,hz0,hz1,hR,C⟩;have f:=ae (ZM.ac C hR);clear hR C ZM;go_upto_if 16 with fail;go_cut [] (λwx=>∃(q m0 ZO m1 ZQ:Nat) (b0:Option Addr) (g0:Nat->Source) (b1:Option Addr) (g1:Nat->Target),Hid (StS w R sb wx q m0 ZO m1 ZQ b0 g0 b1 g1 (Y (T (N ZN 0 Z)) L.length O) L));case first =>
  by_cases hz:ZR=0
  ·subst hz;obtain⟨x0,x1,x2,x3,x4⟩:=f.cS;go_wp2_with fail;refine(uz R _ (R+1) n0 c0 n1 c1 a0 f0 a1 f1 _ f.rd (by omega) f.qs.at ZL.2.2 ZL.1 ZL.2.1).mono ?_;rintro e w7 ⟨b0,m0,ZO,g0,b1,m1,ZQ,g1,rfl,hH,q7,hq7,hR,C⟩;have hz6:=C.size;have ex:=ar f.sx;have fd:=ar f.zs;have ZJ:=f.lo;have D7:=ae (f.ac C hR)
   have D8:=ae (D7.sput (k0:=ZO) (k1:=ZQ) (QSh.new hH (by omega) (λx hx=>by
    simp only[BO,nj,RH] at hx
    omega)))
   clear x0 x1 x2 x3 x4;obtain⟨x0,x1,x2,x3,x4⟩:=D7.cS;clear hH hR C f D7 ex fd ZJ;go_wp2;go_meet;exact⟨_,_,_,_,_,_,_,_,_,D8⟩
  ·have hzb:(ZR == 0)=ZA:=by simpa using hz
   go_wp2;go_meet;exact⟨_,_,_,_,_,_,_,_,_,f⟩
 case rest =>
 clear f ZL;obtain⟨q5,n0,c0,n1,c1,a0,f0,a1,f1,P⟩:=hcut;generalize wc=W5 at P ⊢;go_wp2_with fail;have b:=ae (P.ac (Only.q br.drew) (P.rd.aa br.drew ly));refine wp_region_held_drew (S:=λV=>V.cell? (N sb 0 Z)=T (Y a0 n0 c0)/\V.cell? (N sb 1 Z)=T (Y a1 n1 c1)) (by as_aux_lemma=>kernel_rfl) ⟨b.cS.1,b.cS.2.1⟩ λg=>?_;have ZK:=ae g;clear g P;generalize W5.drew=n at b ZK ⊢;iterate 3
  refine aR 0 (v:=?_) rfl rfl (by as_aux_lemma=>kernel_rfl) (λ_ _ _ h=>h) rfl ?_ ZK.out ?_;rotate_left
  ·(rintro wz ⟨s0,s1⟩;go_simp)
   (try with_reducible rfl)
  (try simp only[Act.put,nzL])
 have l:=b.zs;have r0:n.cell? (N (z (B w)) 0 Z)=T (Y Z 0 0):=by simp[World.cell?,l]
 have r1:n.cell? (N (z (B w)) 1 Z)=T (Y Z 0 0):=by simp[World.cell?,l]
 have y0:n.frozen? (N (z (B w)) 0 Z)=ZA:=by simp[World.frozen?,l]
 have y1:n.frozen? (N (z (B w)) 1 Z)=ZA:=by simp[World.frozen?,l]
 have l0:=ar l;have aq:Hid (DSt w (ZD (.tuple #[Y (T (N ZN 0 Z)) L.length O,ZG #[Y a0 n0 c0,Y a1 n1 c1]])) ((n.setCell (N (z (B w)) 0 Z) (Y a0 n0 c0)).setCell (N (z (B w)) 1 Z) (Y a1 n1 c1))):=by have ZJ:=b.lo;have FR:Fr [R,z (B w),sb] n ((n.setCell (N (z (B w)) 0 Z) (Y a0 n0 c0)).setCell (N (z (B w)) 1 Z) (Y a1 n1 c1)):=(Fr.set (by simp) _).trans (Fr.set (by simp) _);refine⟨_,L,_,_,_,_,_,_,_,_,rfl,(b.qs.fr FR).at.mono (by omega),aC (cy b.row (λk _ ht=>?_)) (by omega),λr E=>⟨((b.qm r E).1.fr FR).at.mono (by omega),(b.qm r E).2⟩,hL,⟨_,_,rfl⟩,(b.bl.setCell (p:=(N (z (B w)) 0 Z)) ly _).setCell (p:=(N (z (B w)) 1 Z)) ly _⟩;have ne:=jG ht l (by decide);exact(qh _ _ _ _ ne).trans (qh _ _ _ _ ne)
 have ZS:sb≠z (B w):=by omega
 clear l b;refine aI (i:=3) rfl (by as_aux_lemma=>kernel_rfl) λK hK=>?_;go_simp;refine hK _ _ ⟨(cell_far _ _ _ _ ZS.symm).trans ((cell_far _ _ _ _ ZS.symm).trans ZK.1),(cell_far _ _ _ _ ZS.symm).trans ((cell_far _ _ _ _ ZS.symm).trans ZK.2)⟩ ?_;clear hK K
 (try simp only[Act.put,nzL])
 refine wpAnyH_done (by as_aux_lemma=>kernel_rfl) ?_ _;go_wp2;exact bp (v:=.tuple #[Y (T (N ZN 0 Z)) L.length O,ZG #[Y a0 n0 c0,Y a1 n1 c1]]) (by simp[results,results7,go_sem,r0,r1]) rfl aq
