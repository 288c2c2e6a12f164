import Derived.Test.YtkdimgejdocbbaaGreatDoorXS
import Derived.Test.YtkdimgejdocbbaaGreatDoorXM
set_option maxRecDepth 100000
set_option maxHeartbeats 4000000
open Go.Addr renaming mk->J
open Go.Value renaming slice->Z,string->U,int->Q,agg->QE
open Option renaming none->Y,some->N
open Go.Obj renaming cells->T
open Go.IntKind renaming i64->I
open Bool renaming true->QC
open Go.Ending renaming returned->QD
namespace Go.Proofs.YtkdimgejdocbbaaGreatDoor.Vp
open RowKit Ca
theorem oS {S:Spc}{a a0 a1:Option Addr}{n cap c0 c1:Nat}{f:Nat->aj}(w:World)(u:(n:Int)<=1048576)(hn0:S.n0<=1048576)(hn1:S.n1<=1048576)(r:SlDeed w a n f)(m:(n:Int)<=cap)(d:∀ i,i<n->cY (f i))(h:SlSource w a0 S.n0 S.f0)(k:SlTarget w a1 S.n1 S.f1)(j:∀ i,i<S.n1->aS (S.f1 i))(l:Tab w)(g:Tab2 w)(o:Pow w):Calls Tryz.prog 41 #[QE #[Z a n cap],QE #[Z a0 S.n0 c0,Z a1 S.n1 c1]] w fun e t=>e=QD (Q I (gu S.n0 S.f0 S.n1 S.f1 f n).1)/\Below w.heap.size w t:=by have b:=ae (((Qs w).alloc lr (T #[Z a n cap] 50)).alloc (by simp) (T #[Z a0 S.n0 c0,Z a1 S.n1 c1] 26));have C:=ae (ri a n cap f a0 S.n0 c0 S.f0 a1 S.n1 c1 S.f1 _ u (by omega) (by omega) (r.below b lr) m d (h.below b lr) (k.below b lr) j (l.below b l.1) (g.below b g.1) (o.below b lr));clear r h k d j l g o;generalize gu S.n0 S.f0 S.n1 S.f1 f n=q at C ⊢;go_enter Tryz.func41,Tryz.ntmps41;go_wp2_with fail;refine C.mono ?_;rintro e w1 ⟨rfl,p⟩;have s:=ae (b.trans (p.mono b.size));clear p;go_wp2;go_ret;exact⟨rfl,s⟩
theorem oT {S:Spc}{a a0 a1:Option Addr}{n j c0 c1:Nat}{f:Nat->aj}{t QP:ByteArray}(w:World)(hA:aX f n=QC)(QM:SlDeed w a n f)(X:(n:Int)<=j)(o:∀ i,i<n->cY (f i))(QJ:∀ i,i<n->gV (f i))(z:SlSource w a0 S.n0 S.f0)(A:SlTarget w a1 S.n1 S.f1)(hn0:S.n0<=1048576)(hn1:S.n1<=1048576)(G:∀ i,i<S.n1->aS (S.f1 i))(hL:∀ V,Below w.heap.size w V->Tab V/\Tab2 V/\Pow V)(ht:(f (n - 1)).name=t)(hk:QP.toList ∉ iW f n->(gu S.n0 S.f0 S.n1 S.f1 f n).1=0):Calls Tryz.prog 53 #[QE #[Z a n j],QE #[Z a0 S.n0 c0,Z a1 S.n1 c1],U t,U QP] w fun e w'=>e=QD (.bool QC)/\Below w.heap.size w w':=by
 have hn:=dU hA;have QK:(n:Int)<=1048576:=by omega
 have SI:Hid _:=zp (S:=S) hA;rw[ht] at SI;have s:=((Qs w).alloc lr (T #[Z a n j] 50)).alloc (by simp) (T #[Z a0 S.n0 c0,Z a1 S.n1 c1] 26);have CM:=ae (mw (S:=S) (a0:=a0) (a1:=a1) (c0:=c0) (c1:=c1) _ t (z.below s lr) (A.below s lr) hn0 hn1 G (hL _ s).1 (hL _ s).2.1 (hL _ s).2.2);have CA:=ae (fun V (l:Below w.heap.size w V)=>oS (S:=S) (a:=a) (n:=n) (cap:=j) (c0:=c0) (c1:=c1) (f:=f) V QK hn0 hn1 (QM.below l lr) X o (z.below l lr) (A.below l lr) G (hL V l).1 (hL V l).2.1 (hL V l).2.2);have CN:=ae (fun V (l:Below w.heap.size w V)=>rj a n j f V QK (QM.below l lr) o QJ);have CW:=ae (fun V (l:Below w.heap.size w V) a' m c' g hg=>tH a n j f a' m c' g V (by omega) (QM.below l lr) hg o);have u:=zJ f n;have KA:((w.alloc (T #[Z a n j] 50)).alloc (T #[Z a0 S.n0 c0,Z a1 S.n1 c1] 26)).heap[w.heap.size]?=N (T #[Z a n j] 50 (0,0)):=by rw[KE _ _ (by simp)];exact eL w _
 have KS:((w.alloc (T #[Z a n j] 50)).alloc (T #[Z a0 S.n0 c0,Z a1 S.n1 c1] 26)).heap[w.heap.size+1]?=N (T #[Z a0 S.n0 c0,Z a1 S.n1 c1] 26 (0,0)):=KK w _ _;have A1:=ae s;have HK:=ae hk;have K1:=ae KA;have K2:=ae KS;clear hA QM o QJ z A G hL ht hk s KA KS;generalize iW f n=NL at CN HK u;generalize (gu S.n0 S.f0 S.n1 S.f1 f n).1=q at CA HK SI;go_enter Tryz.func53,Tryz.ntmps53;go_upto_region 1 with fail;generalize (w.alloc (T #[Z a n j] 50)).alloc (T #[Z a0 S.n0 c0,Z a1 S.n1 c1] 26)=W0 at A1 K1 K2 CM ⊢;have l0:=aC K1.out;have l1:=aC K2.out;have hw:=A1.size;have H:Hid (∀ V,Below W0.heap.size W0 V->V.cell? (J w.heap.size 0 Y)=N (Z a n j)/\V.cell? (J (w.heap.size+1) 0 Y)=N (Z a0 S.n0 c0)/\V.cell? (J (w.heap.size+1) 1 Y)=N (Z a1 S.n1 c1)):=fun V l=>by have p0:=(l.block _ l0).trans K1.out;have p1:=(l.block _ l1).trans K2.out;refine⟨?_,?_,?_⟩<;>simp[World.cell?,p0,p1]
 obtain⟨z0,z1,z2⟩:=H.out W0 br;go_wp2_with fail;refine CM.out.mono ?_;rintro e r ⟨d,B,R,rv,rfl,hD,x,⟨ra,rk,rfl,-⟩,k⟩;have QN:=hD.deeds;rw[x] at QN;have HN:=ae (show R.length=(bj S t).1.length by have:=wC List.length x;simpa[bk] using this);clear z0 z1 z2 CM hD x;generalize (bj S t).2=p;have QH:=((Qs r).alloc lr (T #[Z d R.length B] 50)).alloc (by simp) (T #[Q I p.code,U p.text,Z ra p.chain.length rk] 41);have kA:((r.alloc (T #[Z d R.length B] 50)).alloc (T #[Q I p.code,U p.text,Z ra p.chain.length rk] 41)).heap[r.heap.size]?=N (T #[Z d R.length B] 50 (0,0)):=by rw[KE _ _ (by simp)];exact eL r _
 have y:=ae (k.trans (QH.mono k.size));have K:=ae (QN.below QH lr);have C:=ae kA;clear QH kA k QN;go_upto_region 2 with fail;generalize (r.alloc (T #[Z d R.length B] 50)).alloc (T #[Q I p.code,U p.text,Z ra p.chain.length rk] 41)=W2 at y K C ⊢;generalize r.heap.size=ab at C ⊢;generalize R.length=QL at K C HN ⊢;have W:=C.out;have l3:=aC W;have x0:W2.cell? (J ab 0 Y)=N (Z d QL B):=by simp[World.cell?,W]
 clear W C;obtain⟨z0,-,-⟩:=H.out W2 y;have O:=ae (A1.trans (y.mono hw));go_wp2_with fail;refine(CW.out W2 O _ _ _ _ K).mono ?_;rintro e w3 ⟨b,rfl,hb,k⟩;have HQ:Hid (b=QC ↔ q=0):=by rw[hb,HN.out];exact SI.out
 have L:=ae (y.trans (k.mono y.size));have P:=ae (O.trans (k.mono O.size));clear hb k x0 z0 l3 CW K HN SI y O;obtain⟨z0,z1,z2⟩:=H.out w3 L;go_wp2_with fail;refine(CA.out w3 P).mono ?_;rintro e w4 ⟨rfl,k⟩;have B4:=ae (L.trans (k.mono L.size));have M:=ae (P.trans (k.mono P.size));clear k z0 z1 z2 CA L P;obtain⟨z0,-,-⟩:=H.out w4 B4;go_wp2_with fail;refine(CN.out w4 M).mono ?_;rintro e w5 ⟨nb,no,m,nc,rfl,rfl,QQ,k⟩;have E5:=ae (M.trans (k.mono M.size));clear k z0 CN B4 M H;go_wp2_with fail;refine(DO (N (J nb no Y)) NL.length nc (nmF NL) QP w5 u (.inr ⟨nb,no,rfl,QQ⟩)).mono ?_;rintro e w6 ⟨b2,rfl,QO,k⟩;have QG:=ae (E5.trans (k.mono E5.size));rw[DU] at QO;have H2:=ae QO;clear QO k QQ E5 u;cases b2 with
 | false =>
  obtain rfl:q=0:=HK.out fun h=>by have:=H2.out.2 h;cases this
  obtain rfl:b=QC:=HQ.out.2 rfl;go_wp2;go_ret;exact⟨rfl,QG⟩
 | true =>
  cases b with
  | true =>obtain rfl:q=0:=HQ.out.1 rfl;go_wp2;go_ret;exact⟨rfl,QG⟩
  | false =>
   have h0:(q == 0)=false:=by simpa using fun h=>by have:=HQ.out.2 h;cases this
   go_wp2;go_ret;exact⟨rfl,QG⟩
end Go.Proofs.YtkdimgejdocbbaaGreatDoor.Vp
