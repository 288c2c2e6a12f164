import Derived.Test.YtkdimgejdocbbaaGreatDoorXS
import Derived.Test.YtkdimgejdocbbaaGreatDoorXM
set_option maxRecDepth 100000
set_option maxHeartbeats 4000000
open Go.Addr renaming mk->J
open Go.Value renaming slice->Y,string->U,int->N,agg->QE
open Option renaming none->Z,some->Q
open Go.Obj renaming cells->T
open Go.IntKind renaming i64->I
open Bool renaming true->QC
open Go.Ending renaming returned->QD
namespace Go.Proofs.YtkdimgejdocbbaaGreatDoor.Vp
open RowKit Ca
theorem oS {S:Spc}{a a0 a1:Option Addr}{n cap c0 c1:Nat}{f:Nat->aj}(w:World)(s:(n:Int)<=1048576)(hn0:S.n0<=1048576)(hn1:S.n1<=1048576)(p:SlDeed w a n f)(l:(n:Int)<=cap)(g:∀ i,i<n->cY (f i))(h:SlSource w a0 S.n0 S.f0)(j:SlTarget w a1 S.n1 S.f1)(k:∀ i,i<S.n1->aS (S.f1 i))(m:Tab w)(d:Tab2 w)(r:Pow w):Calls Tryz.prog 41 #[QE #[Y a n cap],QE #[Y a0 S.n0 c0,Y a1 S.n1 c1]] w fun e t=>e=QD (N I (gu S.n0 S.f0 S.n1 S.f1 f n).1)/\Below w.heap.size w t:=by have b:=ae (((Qs w).alloc lr (T #[Y a n cap] 50)).alloc (by simp) (T #[Y a0 S.n0 c0,Y a1 S.n1 c1] 26));have C:=ae (ri a n cap f a0 S.n0 c0 S.f0 a1 S.n1 c1 S.f1 _ s (by omega) (by omega) (p.below b lr) l g (h.below b lr) (j.below b lr) k (m.below b m.1) (d.below b d.1) (r.below b lr));clear p h j g k m d r;generalize gu S.n0 S.f0 S.n1 S.f1 f n=q at C ⊢;go_enter Tryz.func41,Tryz.ntmps41;go_wp2_with fail;refine C.mono ?_;rintro e w1 ⟨rfl,o⟩;have u:=ae (b.trans (o.mono b.size));clear o;go_wp2;go_ret;exact⟨rfl,u⟩
theorem oT {S:Spc}{a a0 a1:Option Addr}{n j c0 c1:Nat}{f:Nat->aj}{t QP:ByteArray}(w:World)(W:aX f n=QC)(K:SlDeed w a n f)(aq:(n:Int)<=j)(o:∀ i,i<n->cY (f i))(QJ:∀ i,i<n->gV (f i))(QO:SlSource w a0 S.n0 S.f0)(QN:SlTarget w a1 S.n1 S.f1)(hn0:S.n0<=1048576)(hn1:S.n1<=1048576)(QQ:∀ i,i<S.n1->aS (S.f1 i))(hL:∀ V,Below w.heap.size w V->Tab V/\Tab2 V/\Pow V)(ht:(f (n - 1)).name=t)(hk:QP.toList ∉ iW f n->(gu S.n0 S.f0 S.n1 S.f1 f n).1=0):Calls Tryz.prog 53 #[QE #[Y a n j],QE #[Y a0 S.n0 c0,Y a1 S.n1 c1],U t,U QP] w fun e w'=>e=QD (.bool QC)/\Below w.heap.size w w':=by
 have hn:=dU W;have QK:(n:Int)<=1048576:=by omega
 have SI:Hid _:=zp (S:=S) W;rw[ht] at SI;have u:=((Qs w).alloc lr (T #[Y a n j] 50)).alloc (by simp) (T #[Y a0 S.n0 c0,Y a1 S.n1 c1] 26);have CM:=ae (mw (S:=S) (a0:=a0) (a1:=a1) (c0:=c0) (c1:=c1) _ t (QO.below u lr) (QN.below u lr) hn0 hn1 QQ (hL _ u).1 (hL _ u).2.1 (hL _ u).2.2);have CA:=ae (fun V (l:Below w.heap.size w V)=>oS (S:=S) (a:=a) (n:=n) (cap:=j) (c0:=c0) (c1:=c1) (f:=f) V QK hn0 hn1 (K.below l lr) aq o (QO.below l lr) (QN.below l lr) QQ (hL V l).1 (hL V l).2.1 (hL V l).2.2);have X:=ae (fun V (l:Below w.heap.size w V)=>rj a n j f V QK (K.below l lr) o QJ);have CW:=ae (fun V (l:Below w.heap.size w V) a' m c' g hg=>tH a n j f a' m c' g V (by omega) (K.below l lr) hg o);have r:=zJ f n;have KA:((w.alloc (T #[Y a n j] 50)).alloc (T #[Y a0 S.n0 c0,Y a1 S.n1 c1] 26)).heap[w.heap.size]?=Q (T #[Y a n j] 50 (0,0)):=by rw[J7 _ _ (by simp)];exact eL w _
 have KS:((w.alloc (T #[Y a n j] 50)).alloc (T #[Y a0 S.n0 c0,Y a1 S.n1 c1] 26)).heap[w.heap.size+1]?=Q (T #[Y a0 S.n0 c0,Y a1 S.n1 c1] 26 (0,0)):=KH w _ _;have A1:=ae u;have HK:=ae hk;have QH:=ae KA;have QG:=ae KS;clear W K o QJ QO QN QQ hL ht hk u KA KS;generalize iW f n=NL at X HK r;generalize (gu S.n0 S.f0 S.n1 S.f1 f n).1=q at CA HK SI;go_enter Tryz.func53,Tryz.ntmps53;go_upto_region 1 with fail;generalize (w.alloc (T #[Y a n j] 50)).alloc (T #[Y a0 S.n0 c0,Y a1 S.n1 c1] 26)=W0 at A1 QH QG CM ⊢;have l0:=aC QH.out;have l1:=aC QG.out;have hw:=A1.size;have A:Hid (∀ V,Below W0.heap.size W0 V->V.cell? (J w.heap.size 0 Z)=Q (Y a n j)/\V.cell? (J (w.heap.size+1) 0 Z)=Q (Y a0 S.n0 c0)/\V.cell? (J (w.heap.size+1) 1 Z)=Q (Y a1 S.n1 c1)):=fun V l=>by have p0:=(l.block _ l0).trans QH.out;have p1:=(l.block _ l1).trans QG.out;refine⟨?_,?_,?_⟩<;>simp[World.cell?,p0,p1]
 obtain⟨z0,z1,z2⟩:=A.out W0 br;go_wp2_with fail;refine CM.out.mono ?_;rintro e x ⟨d,C,R,rv,rfl,hD,s,⟨ra,rk,rfl,-⟩,k⟩;have H:=hD.deeds;rw[s] at H;have HN:=ae (show R.length=(bj S t).1.length by have:=vG List.length s;simpa[bk] using this);clear z0 z1 z2 CM hD s;generalize (bj S t).2=p;have A2:=((Qs x).alloc lr (T #[Y d R.length C] 50)).alloc (by simp) (T #[N I p.code,U p.text,Y ra p.chain.length rk] 41);have kA:((x.alloc (T #[Y d R.length C] 50)).alloc (T #[N I p.code,U p.text,Y ra p.chain.length rk] 41)).heap[x.heap.size]?=Q (T #[Y d R.length C] 50 (0,0)):=by rw[J7 _ _ (by simp)];exact eL x _
 have y:=ae (k.trans (A2.mono k.size));have P:=ae (H.below A2 lr);have z:=ae kA;clear A2 kA k H;go_upto_region 2 with fail;generalize (x.alloc (T #[Y d R.length C] 50)).alloc (T #[N I p.code,U p.text,Y ra p.chain.length rk] 41)=W2 at y P z ⊢;generalize x.heap.size=ab at z ⊢;generalize R.length=QM at P z HN ⊢;have k3:=z.out;have l3:=aC k3;have x0:W2.cell? (J ab 0 Z)=Q (Y d QM C):=by simp[World.cell?,k3]
 clear k3 z;obtain⟨z0,-,-⟩:=A.out W2 y;have M:=ae (A1.trans (y.mono hw));go_wp2_with fail;refine(CW.out W2 M _ _ _ _ P).mono ?_;rintro e w3 ⟨b,rfl,hb,k⟩;have HQ:Hid (b=QC ↔ q=0):=by rw[hb,HN.out];exact SI.out
 have L:=ae (y.trans (k.mono y.size));have QL:=ae (M.trans (k.mono M.size));clear hb k x0 z0 l3 CW P HN SI y M;obtain⟨z0,z1,z2⟩:=A.out w3 L;go_wp2_with fail;refine(CA.out w3 QL).mono ?_;rintro e w4 ⟨rfl,k⟩;have B4:=ae (L.trans (k.mono L.size));have O:=ae (QL.trans (k.mono QL.size));clear k z0 z1 z2 CA L QL;obtain⟨z0,-,-⟩:=A.out w4 B4;go_wp2_with fail;refine(X.out w4 O).mono ?_;rintro e w5 ⟨nb,no,m,nc,rfl,rfl,G,k⟩;have E5:=ae (O.trans (k.mono O.size));clear k z0 X B4 O A;go_wp2_with fail;refine(DO (Q (J nb no Z)) NL.length nc (nmF NL) QP w5 r (.inr ⟨nb,no,rfl,G⟩)).mono ?_;rintro e w6 ⟨b2,rfl,B,k⟩;have E6:=ae (E5.trans (k.mono E5.size));rw[DU] at B;have H2:=ae B;clear B k G E5 r;cases b2 with
 | false =>
  obtain rfl:q=0:=HK.out fun h=>by have:=H2.out.2 h;cases this
  obtain rfl:b=QC:=HQ.out.2 rfl;go_wp2;go_ret;exact⟨rfl,E6⟩
 | true =>
  cases b with
  | true =>obtain rfl:q=0:=HQ.out.1 rfl;go_wp2;go_ret;exact⟨rfl,E6⟩
  | false =>
   have h0:(q == 0)=false:=by simpa using fun h=>by have:=HQ.out.2 h;cases this
   go_wp2;go_ret;exact⟨rfl,E6⟩
end Go.Proofs.YtkdimgejdocbbaaGreatDoor.Vp
