import Derived.Test.YtamacmnikdejeaaGreatDoorKB
import Derived.Test.YtamacmnikdejeaaGreatDoorKI
import Derived.Test.YtamacmnikdejeaaGreatDoorKD
import Derived.WalkSmall
set_option maxRecDepth 100000
set_option maxHeartbeats 8000000
open Go renaming Addr.mk->Q,Value.slice->Y,Value.string->U,Value.int->J,Value.agg->ZG,Obj.cells->N,IntKind.i64->I,World->E,Value->ZB,Ending.returned->ZF,World.heap->z
open Option renaming none->Z,some->T
open Bool renaming false->ZA
open Array renaming size->B
namespace Go.Proofs.YtamacmnikdejeaaGreatDoor.Vp
open Tryz RowKit Ca
variable {xs:List Nat}{W V:E}
theorem AV (a:Option Addr)(n cap:Nat)(f:Nat->au)(w:E)(hn:0<n)(h9:n<=1048576)(o:SlDeed w a n f):Calls Tryz.prog 12 #[ZG #[Y a n cap]] w λe q=>e=ZF (U (f (n - 1)).e)/\Below (B (z w)) w q:=by
 have i:=ae ((BS w).alloc ly (N #[Y a n cap] 25));rcases o with h|⟨b,off,rfl,g⟩
 {omega};have hb:=g.1;have j:=(i.cell (p:=⟨b,off+(n - 1)*6,Z⟩) hb).trans (g.2 (n - 1) (by omega)).1;clear g;obtain⟨m,l⟩:∃m,n=m+1:=⟨n - 1,by omega⟩
 subst l;rw[NG] at j ⊢;generalize (f m).e=t at j ⊢;have hw:IntKind.i64.wrap ((m:Int)+1 - 1)=(m:Int):=by rw[p9];omega
 go_enter func12,ntmps12;go_wp2;go_ret;exact⟨rfl,i⟩
theorem jX (S:Spc)(nm:ByteArray):((aV S nm).1=[]/\5<(aV S nm).2.M)∨∃M e,SpcOk S/\aB nm=true/\aP S 60 [] [] nm=.inl (M,e)/\aV S nm=(M,dk e):=by
 unfold aV;split;{rename_i h;split;{rename_i b e f;exact .inr ⟨b,e,SpcOk.of h.1,h.2,f,rfl⟩};{exact .inl ⟨rfl,by show(5:Int)<6;decide⟩};{exact .inl ⟨rfl,by show(5:Int)<7;decide⟩}};{exact .inl ⟨rfl,by show(5:Int)<9;decide⟩}
def Fr (xs:List Nat)(W W':E):Prop:=B (z W)<=B (z W')/\∀k,k<B (z W)->k ∉ xs->W'.heap[k]?=W.heap[k]?
theorem Fr.trans{ZK:E}(h:Fr xs W V)(g:Fr xs V ZK):Fr xs W ZK:=⟨nL h.1 g.1,λk h1 h2=>(g.2 k (lj h1 h.1) h2).trans (h.2 k h1 h2)⟩
theorem Fr.ac{R:Nat}(h:Only R W V)(hR:R∈xs):Fr xs W V:=⟨h.size,λk h1 h2=>h.block k h1 (λe=>h2 (e ▸ hR))⟩
theorem Fr.set{x j:Nat}(b:x∈xs)(u:ZB):Fr xs W (W.setCell (Q x j Z) u):=⟨by simp,λk _ h2=>qh W (Q x j Z) u k (λe=>h2 ((show k=x from e) ▸ b))⟩
def o7 (xs:List Nat)(b ZS:Nat):Prop:=∀x∈xs,x<b∨ZS<=x
theorem Agr.fr{b:Nat}{f:E}(h:Agr b f W)(j:o7 xs b (B (z f)))(g:Fr xs W V):Agr b f V :=
 ⟨nL h.1 g.1,λk h1 h2=>(g.2 k (lj h2 h.1) (λi=>by rcases j k i with l|l<;>omega)).trans (h.2 k h1 h2)⟩
def Gd (n0 n1:Nat)(f1:Nat->Target):Prop:=n0<=250/\n1<=250/\∀i,i<n1->1<=(f1 i).h/\(f1 i).h<=200
def HSg (b:Nat)(w:E)(a0:Option Addr)(n0:Nat)(f0:Nat->Source)(a1:Option Addr)(n1:Nat)(f1:Nat->Target):Prop:=HSp b w a0 n0 f0 a1 n1 f1/\Gd n0 n1 f1
def QSp (lo:Nat)(xs:List Nat)(W:E)(a0:Option Addr)(n0:Nat)(f0:Nat->Source)(a1:Option Addr)(n1:Nat)(f1:Nat->Target):Prop:=∃(b:Nat) (f:E),lo<=b/\HSg b f a0 n0 f0 a1 n1 f1/\Agr b f W/\o7 xs b (B (z f))
def QAc (lo:Nat)(xs:List Nat)(W:E)(a:Option Addr)(n c:Nat)(f:Nat->au):Prop:=∃(b:Nat) (g:E),lo<=b/\HAc b g a n c f/\Agr b g W/\o7 xs b (B (z g))
section
variable {lo b:Nat}{xs:List Nat}{W V:E}{a0 a1 a:Option Addr}{n0 n1 n c:Nat}{f0:Nat->Source}{f1:Nat->Target}{f:Nat->au}
theorem QSp.fr (h:QSp lo xs W a0 n0 f0 a1 n1 f1)(j:Fr xs W V):QSp lo xs V a0 n0 f0 a1 n1 f1:=by obtain⟨b,i,g,h1,h2,f⟩:=h;exact⟨b,i,g,h1,h2.fr f j,f⟩
theorem QAc.fr (h:QAc lo xs W a n c f)(l:Fr xs W V):QAc lo xs V a n c f:=by obtain⟨b,j,i,h1,h2,g⟩:=h;exact⟨b,j,i,h1,h2.fr g l,g⟩
theorem QSp.at (h:QSp lo xs W a0 n0 f0 a1 n1 f1):HSg lo W a0 n0 f0 a1 n1 f1:=by obtain⟨b,w1,f,h1,h2,-⟩:=h;exact⟨(h1.1.agr h2).mono f,h1.2⟩
theorem QAc.at (h:QAc lo xs W a n c f):HAc lo W a n c f:=by obtain⟨b,w1,g,h1,h2,-⟩:=h;exact(h1.agr h2).mono g
theorem QSp.new (h:HSg b W a0 n0 f0 a1 n1 f1)(f:lo<=b)(g:o7 xs b (B (z W))):QSp lo xs W a0 n0 f0 a1 n1 f1:=⟨b,W,f,h,Agr.refl _ _,g⟩
theorem QAc.new (h:HAc b W a n c f)(g:lo<=b)(i:o7 xs b (B (z W))):QAc lo xs W a n c f:=⟨b,W,g,h,Agr.refl _ _,i⟩
end
theorem vb (S:Spc)(nm:ByteArray):(aV S nm).1.length<=400:=by
 rcases jX S nm with ⟨h1,-⟩|⟨M,e,f,-,h2,b⟩
 {rw[h1];exact IH _};{rw[b];exact pR f h2}
theorem Eh{b c:Nat}{a:Option Addr}{S:Spc}{nm:ByteArray}{R:List DR}(h:DRow W b (Y a R.length c) R)(g:R.map (·.1)=aT S (aV S nm).1):HAc b W a R.length c (dF (aT S (aV S nm).1))/\R.length<=400/\∀i,i<R.length->FitD (dF (aT S (aV S nm).1) i)/\(dF (aT S (aV S nm).1) i).H.size<=2000/\(dF (aT S (aV S nm).1) i).h<=200/\(dF (aT S (aV S nm).1) i).f<=200:=by
 have m:R.length=(aV S nm).1.length:=by have:=CV List.length g;simpa[aT] using this
 have hn:R.length<=400:=by rw[m];exact vb S nm
 have l:∀r∈R,FitD r.1/\r.1.H.size<=2000/\r.1.h<=200/\r.1.f<=200:=λr f=>uO S nm r.1 (by rw[<-g];exact PC f);have h1:=Gq h (λr f=>(l r f).1) (by omega);rw[g] at h1;refine⟨h1,hn,λi hi=>?_⟩;obtain⟨r,f,j⟩:=dr hi;rw[<-g,gF f];exact l r j
def crN:Array ZB:=#[U ⟨#[97]⟩,U ⟨#[98]⟩,U ⟨#[99]⟩,U ⟨#[116,48]⟩,U ⟨#[116,49]⟩,U ⟨#[116,50]⟩,U ⟨#[116,51]⟩]
theorem Gw:∀k,k<7->∃s:ByteArray,crN[k]?=T (U s)/\s.size<=5000:=λk hk=>by rcases(show k=0∨k=1∨k=2∨k=3∨k=4∨k=5∨k=6 by omega) with rfl|rfl|rfl|rfl|rfl|rfl|rfl<;>exact⟨_,rfl,by decide⟩
def DHg (w:E)(R q:Nat)(e:Ending)(b:E):Prop:=∃(a0:Option Addr) (n0 c0:Nat) (f0:Nat->Source) (a1:Option Addr) (n1 c1:Nat) (f1:Nat->Target),e=ZF (ZG #[Y a0 n0 c0,Y a1 n1 c1])/\HSg (B (z w)) b a0 n0 f0 a1 n1 f1/\∃q':Nat,q'<=q/\Rd b R q'/\Only R w b
structure Cr (w:E)(R xb nb:Nat)(LS:List Source)(v0:ZB)(W:E)(q:Nat)(v1:ZB)(RT:List TR):Prop where
 x:SpX (B (z w)) xb (B (z w)+1) W v0 v1 LS RT
 g:GX RT
 gp:∀r∈RT,1<=r.1.h/\r.1.h<=200
 rd:Rd W R q
 o:Only R w W
 nm:W.heap[nb]?=T (N crN 9 (0,0))
 lo:R<B (z w)/\(B (z w))<nb
section
variable {w W W':E}{R xb nb q q':Nat}{LS:List Source}{v0 v1:ZB}{RT:List TR}
theorem Cr.ac (h:Cr w R xb nb LS v0 W q v1 RT)(b:Only R W W')(hR:Rd W' R q'):Cr w R xb nb LS v0 W' q' v1 RT:=by obtain⟨f,l2⟩:=h.lo;exact⟨h.x.ac b f,h.g,h.gp,hR,h.o.trans b,(b.block _ (ar h.nm) (by omega)).trans h.nm,h.lo⟩
theorem Cr.aa (h:Cr w R xb nb LS v0 W q v1 RT)(b:Below (B (z W)) W W'):Cr w R xb nb LS v0 W' q v1 RT:=h.ac (Only.q b) (h.rd.aa b ly)
theorem Cr.e (h:Cr w R xb nb LS v0 W q v1 RT){k:Nat}(b:k<7):∃s:ByteArray,W.cell? (Q nb k Z)=T (U s)/\s.size<=5000:=by obtain⟨s,h1,h2⟩:=Gw k b;have hb:=h.nm;exact⟨s,by simp[World.cell?,hb,h1],h2⟩
end
theorem sQ (R p:Nat)(w:E)(hR:Rd w R p)(hp:p<=20000):Calls Tryz.prog 77 #[.pointer (T (Q R 0 Z))] w λe w'=>DHg w R (p+100) e w':=by
 obtain⟨n9,hj,DS,ro,Hb⟩:=KZ fA;obtain⟨qr,hi,Fd,DQ,Ha⟩:=ol;have n6:=hR.lt;obtain⟨LS,bt⟩:∃LS:List Source,LS=[⟨⟨#[97]⟩,⟨#[65]⟩⟩,⟨⟨#[98]⟩,⟨#[66]⟩⟩,⟨⟨#[99]⟩,⟨#[67]⟩⟩]:=⟨_,rfl⟩
 have aq:LS.length=3:=by rw[bt];rfl
 have C0:Hid (Cr w R (B (z w)+1+1) (B (z w)+1+1+1) LS (Y (T (Q (B (z w)+1) 0 Z)) 3 3) ((((w.alloc (N #[Y Z 0 0,Y Z 0 0] 29)).alloc (N #[U ⟨#[97]⟩,U ⟨#[65]⟩,U ⟨#[98]⟩,U ⟨#[66]⟩,U ⟨#[99]⟩,U ⟨#[67]⟩] 121)).alloc (N #[Y (T (Q (B (z w)+1) 0 Z)) 3 3,Y Z 0 0] 29)).alloc (N crN 9)) p (Y Z 0 0) []):=by
  have Hc:(w.alloc (N #[Y Z 0 0,Y Z 0 0] 29)).heap.size=B (z w)+1:=by simp
  have th:((w.alloc (N #[Y Z 0 0,Y Z 0 0] 29)).alloc (N #[U ⟨#[97]⟩,U ⟨#[65]⟩,U ⟨#[98]⟩,U ⟨#[66]⟩,U ⟨#[99]⟩,U ⟨#[67]⟩] 121)).heap.size=B (z w)+1+1:=by simp
  have G8:(((w.alloc (N #[Y Z 0 0,Y Z 0 0] 29)).alloc (N #[U ⟨#[97]⟩,U ⟨#[65]⟩,U ⟨#[98]⟩,U ⟨#[66]⟩,U ⟨#[99]⟩,U ⟨#[67]⟩] 121)).alloc (N #[Y (T (Q (B (z w)+1) 0 Z)) 3 3,Y Z 0 0] 29)).heap.size=B (z w)+1+1+1:=by simp
  have k1:=gM w (N #[Y Z 0 0,Y Z 0 0] 29);have k2:=gM (w.alloc (N #[Y Z 0 0,Y Z 0 0] 29)) (N #[U ⟨#[97]⟩,U ⟨#[65]⟩,U ⟨#[98]⟩,U ⟨#[66]⟩,U ⟨#[99]⟩,U ⟨#[67]⟩] 121);rw[Hc] at k2;have BQ:=(cM (B (z w)+1) (w.alloc (N #[Y Z 0 0,Y Z 0 0] 29))).alloc (by omega) (N #[U ⟨#[97]⟩,U ⟨#[65]⟩,U ⟨#[98]⟩,U ⟨#[66]⟩,U ⟨#[99]⟩,U ⟨#[67]⟩] 121);have h:=qM (LS:=LS) (base:=B (z w)+1) (base':=B (z w)+1) ((BQ.block (B (z w)) (j4 _)).trans k1) (j4 _) ly (by omega) (v0:=Y (T (Q (B (z w)+1) 0 Z)) 3 3) (by subst bt;exact⟨rfl,.inr ⟨B (z w)+1,3,_,rfl,nX _,k2,nX _,by unfold maxLen;omega,rfl,rfl⟩⟩) (da _ _);rw[th] at h;have BW:=(((BS w).alloc ly (N #[Y Z 0 0,Y Z 0 0] 29)).alloc (by omega) (N #[U ⟨#[97]⟩,U ⟨#[65]⟩,U ⟨#[98]⟩,U ⟨#[66]⟩,U ⟨#[99]⟩,U ⟨#[67]⟩] 121)).alloc (by omega) (N #[Y (T (Q (B (z w)+1) 0 Z)) 3 3,Y Z 0 0] 29);have kn:=gM (((w.alloc (N #[Y Z 0 0,Y Z 0 0] 29)).alloc (N #[U ⟨#[97]⟩,U ⟨#[65]⟩,U ⟨#[98]⟩,U ⟨#[66]⟩,U ⟨#[99]⟩,U ⟨#[67]⟩] 121)).alloc (N #[Y (T (Q (B (z w)+1) 0 Z)) 3 3,Y Z 0 0] 29)) (N crN 9);rw[G8] at kn;have BZ:=BW.alloc (by omega) (N crN 9);exact⟨h.aa (br.alloc ly _) ly,λ_ h=>absurd h nj,λ_ h=>absurd h nj,hR.aa BZ ly,Only.q BZ,kn,by omega⟩
 clear hR bt;go_enter func77,ntmps77;go_wp2_with fail;rw[show(#[U ⟨#[97]⟩,U ⟨#[98]⟩,U ⟨#[99]⟩,U ⟨#[116,48]⟩,U ⟨#[116,49]⟩,U ⟨#[116,50]⟩,U ⟨#[116,51]⟩]:Array ZB)=crN from rfl];generalize World.alloc (World.alloc (World.alloc (World.alloc w _) _) _) _=W0 at C0 ⊢;obtain⟨O,c2,C1⟩:∃(O:Option Addr) (c2:Nat),Hid (Cr w R (B (z w)+1+1) (B (z w)+1+1+1) LS (Y O LS.length c2) W0 p (Y Z 0 0) []):=⟨T (Q (B (z w)+1) 0 Z),3,by rw[aq];exact C0⟩
 clear C0;generalize (B (z w))+1+1+1=nb at C1 ⊢;generalize (B (z w))+1+1=xb at C1 ⊢;have fd:Hid (LS.length=3):=aq;clear aq;go_loopw [5] (λv wr=>∃(k q:Nat) (v1:ZB) (b:List TR),v=J I k/\k<=5/\q<=p+9*k/\Hid (b.length=k)/\Hid (Cr w R xb nb LS (Y O LS.length c2) wr q v1 b)) (λv _=>5 - (intOf v).toNat);case atStart=>exact⟨0,p,_,[],rfl,by omega,by omega,rfl,C1⟩
 case round =>
  clear C1;obtain⟨k,q,v1,b,rfl,hk,hq,HK,H⟩:=hrel;obtain⟨P,c5,rfl⟩:=aQ H.x.w.y;have hrn:b.length<=5:=by have:=HK.out;omega
  by_cases hlt:k<5
  ·have hwk:IntKind.i64.wrap ((k:Int)+1)=(k:Int)+1:=by rw[p9];omega
   go_wp2_with fail;refine(bw _ _).mono ?_;rintro e ZQ ⟨rfl,C⟩;have l:=ae (H.aa C);clear C H;have V1:Hid (VS ZQ R (ZQ.alloc (N #[J I 1,U ⟨#[]⟩,J I 0] 146)) q (B (z ZQ)) 1 [(1,[],0)] 1):=by have ZR:=(BS ZQ).alloc ly (N #[J I 1,U ⟨#[]⟩,J I 0] 146);exact⟨l.rd.aa ZR ly,Only.q ZR,IR.new ZQ _ ly [(1,[],0)] _ rfl 1 rfl (by omega),by simp,l.rd.lt,nX _⟩
   go_wp2_with fail;generalize World.alloc ZQ _=W1 at V1 ⊢;refine(ay R _ 4 _ V1.rd (by omega) (by omega) (by omega)).mono ?_;rintro e w2 ⟨ZS,rfl,n7,mv,hR,ZL⟩;have V2:=ae (V1.ac ZL hR);clear hR ZL V1;have DE:IntKind.i64.wrap (1+ZS)=1+ZS:=by rw[p9];omega
   go_wp2_with fail;go_loopw [6,7] (λc6 k7 wx=>∃(j:Int) (q' g c:Nat) (L:List I3),c6=Y (T (Q g 0 Z)) L.length c/\k7=J I j/\0<=j/\j<=4/\(L.length:Int)+3*j<=13/\(q':Int)+2*j<=(q:Int)+9/\Hid (VS ZQ R wx q' g c L L.length)) (λ_ k7 _=>(intOf k7).toNat);case atStart=>exact⟨1+ZS,_,_,_,_,rfl,rfl,by omega,by omega,by simp only[xT,KF];omega,by omega,V2⟩
   case round =>
    clear V2 DE n7 mv;obtain⟨j,q2,g,c,L,rfl,rfl,hj0,hj4,hL,hq2,V3⟩:=hrel;by_cases hjp:0<j
    ·have hwj:IntKind.i64.wrap (j - 1)=j - 1:=by rw[p9];omega
     have hw3:IntKind.i64.wrap (3+(k:Int))=3+(k:Int):=by rw[p9];omega
     go_wp2_with fail;refine(ay R _ 4 _ V3.rd (by omega) (by omega) (by omega)).mono ?_;rintro e w4 ⟨y,rfl,y0,y1,hR,ZL⟩;have W:=ae (V3.ac ZL hR);clear hR ZL V3;go_upto_if 30 with fail;go_cut [8] (λs8 wx=>∃op:Int,s8=J I op/\w4=wx);case first =>
      by_cases hy:y=0;{subst hy;go_wp2;go_meet;exact⟨_,rfl,rfl⟩}
      ·have hyb:(y == 0)=ZA:=by simpa using hy
       go_wp2;go_meet;exact⟨_,rfl,rfl⟩
     case rest =>
     obtain⟨op,rfl,rfl⟩:=hcut;go_wp2_with fail;refine(ay R _ (3+(k:Int)) _ W.rd (by omega) (by omega) (by omega)).mono ?_;rintro e w5 ⟨y',rfl,ld,ph,hR,ZL⟩;have S:=ae (W.ac ZL hR);clear hR ZL W y0 y1;obtain⟨m,rfl⟩:=AD ld;obtain⟨s,hs,ur⟩:=(l.ac S.o S.rd).e (k:=m) (by omega);have Fk:(m:Int)<7:=by omega
     go_wp2_with fail;refine(bw _ _).mono ?_;rintro e w6 ⟨rfl,C⟩;have V6:=ae (S.aa C);clear C S hs Fk ld ph;go_wp2_with fail;refine(bm _ _).mono ?_;rintro e w7 ⟨rfl,C⟩;have V7:=ae (V6.aa C);clear C V6;go_wp2_with fail;refine(bm _ _).mono ?_;rintro e ZO ⟨rfl,C⟩;have ZK:=ae (V7.aa C);clear C V7;have X:=ae (ZK.aa ((BS ZO).alloc ly (N #[J I 1,U s,J I 0,J I op,U ⟨#[]⟩,J I 0,J I 2,U ⟨#[]⟩,J I 0] 146)));go_wp2_with (at_builtin;refine fY rfl (.tmp 31) (.tmp 43) rfl (B (z ZQ)) g c L (by simp[Act.eval]) X.ir (Q (B (z ZO)) 0 Z) 3 3 [(1,s.data.toList,0),(op,[],0),(2,[],0)] (by simp[Act.eval]) rfl (by simp) (ew ZO #[J I 1,U s,J I 0,J I op,U ⟨#[]⟩,J I 0,J I 2,U ⟨#[]⟩,J I 0] _) (by simp only[xT,KF];omega) (by have:=ZK.o.size;simp;omega) ?_);intro G c1 W9 hI hG;have V9:=ae (ZK.add _ hI hG (ey ur (by simp)));clear hI hG X ZK;go_wp2;exact⟨⟨j - 1,_,_,_,_,by rw[eL];rfl,rfl,by omega,by omega,by simp only[eL,xT,KF];omega,by omega,V9⟩,by simp only[intOf];omega⟩
    ·go_wp2_with fail;have ZJ:Hid (∀V:E,(∀i,i<B (z ZQ)->i≠R->T i≠(Value.slice P b.length c5).ownBlock->V.heap[i]?=ZQ.heap[i]?)->V.heap[xb]?=T (N #[Y O LS.length c2,Y P b.length c5] 29 (0,0))/\V.cell? (Q xb 1 Z)=T (Y P b.length c5)):=λV hV=>by
      have h1:=(hV xb l.x.lt (by have:=l.x.hi;omega) λe=>by
       obtain⟨sm,n8⟩:=l.x.w.type _ e.symm;have h3:=l.x.l.symm.trans n8
       cases h3).trans l.x.l
      exact⟨h1,by simp[World.cell?,h1]⟩
     refine aH (λV=>V.heap[xb]?=T (N #[Y O LS.length c2,Y P b.length c5] 29 (0,0))/\V.cell? (Q xb 1 Z)=T (Y P b.length c5)) 14 (by kernel_rfl) ?_;have W:=ae (V3.aa br.drew);have A:=ae (ZJ _ (λi hi n _=>W.o.block i hi n));clear V3;iterate 3
      refine aK 0 (v:=?_) rfl rfl (by kernel_rfl) (λ_ _ _ h=>h) rfl ?_ A ?_;rotate_left
      ·(rintro wz ⟨s0,s1⟩;go_simp)
       (try with_reducible rfl)
      (try simp only[Act.put,nzL])
     refine aK 5 (v:=?_) rfl rfl (by kernel_rfl) (λ_ _ _ h=>h) rfl ?_ A ?_;rotate_left
     ·(rintro wz ⟨s0,s1⟩;go_simp)
      (try with_reducible rfl)
     (try simp only[Act.put,nzL])
     refine aj (i:=3) rfl (by kernel_rfl) λK f=>?_;go_simp;go_at_call 81;refine(gU k (by omega) _).mono ?_;rintro e w5 ⟨rfl,C⟩;have S:=ae (W.aa C);clear C A W;have A:=ae (ZJ _ (λi hi n _=>S.o.block i hi n));refine f _ _ (λ_=>A) ?_;clear f K
     (try simp only[Act.put,nzL])
     refine aK 4 (v:=?_) rfl rfl (by kernel_rfl) (λ_ _ _ h=>h) rfl ?_ A ?_;rotate_left
     ·(rintro wz ⟨s0,s1⟩;go_simp)
      (try with_reducible rfl)
     (try simp only[Act.put,nzL])
     generalize (⟨#[116]⟩:ByteArray)++⟨#[dig k]⟩=tn;refine aj (i:=6) rfl (by kernel_rfl) λK f=>?_;go_simp;go_at_call 85;refine(bm _ _).mono ?_;rintro e w6 ⟨rfl,C⟩;have V6:=ae (S.aa C);clear C A S;have A:=ae (ZJ _ (λi hi n _=>V6.o.block i hi n));refine f _ _ (λ_=>A) ?_;clear f K
     (try simp only[Act.put,nzL])
     have X:=ae (V6.aa ((BS w6).alloc ly (N #[J I 15,U ⟨#[]⟩,J I 0] 146)));clear A;have A:=ae (ZJ _ (λi hi n _=>X.o.block i hi n));refine aj (i:=7) rfl (by kernel_rfl) λK f=>?_;go_simp;refine f _ _ (λ_=>A) ?_;clear f K
     (try simp only[Act.put,nzL])
     refine aj (i:=8) rfl (by kernel_rfl) (λK f=>?_);refine aW rfl (.tmp 50) (.tmp 52) 41 rfl (B (z ZQ)) 146 qr (ZG #[J I 0,U ⟨#[]⟩,J I 0]) 3 32 MV hi Fd DQ Ha rfl (by decide) (Y (T (Q g 0 Z)) L.length c) L.length (i3L L) (by simp[Act.eval]) X.ir (Q (B (z w6)) 0 Z) 1 1 (i3L [(15,[],0)]) (by simp[Act.eval]) rfl (ew w6 #[J I 15,U ⟨#[]⟩,J I 0] _) (wA _) (by unfold maxLen;omega) (by omega) (by have:=X.o.size;omega) ?_;intro v' ZO D t _;obtain⟨G,c1,rfl⟩:∃G c1,v'=Y (T (Q G 0 Z)) (L.length+1) c1:=by
      rcases D.2 with ⟨_,h0⟩|⟨g',cap,sm,hv,_⟩
      {omega};{exact⟨g',cap,hv⟩}
     have ZK:=ae (X.join (M:=[(15,[],0)]) (g':=G) (c':=c1) (by
      unfold IR;rw[qy,eL]
      exact D) t (by simp))
     clear D t X A;have A:=ae (ZJ _ (λi hi n _=>ZK.o.block i hi n));refine f _ _ (λ_=>A) ?_;clear f K
     (try simp only[Act.put,nzL])
     obtain⟨ZN,la,V9⟩:∃ZN:List I3,ZN.length=L.length+1/\Hid (VS ZQ R ZO q2 G c1 ZN ZN.length):=⟨L++[(15,[],0)],eL,ZK⟩
     have H8:Hid (ZN.length=L.length+1):=la;clear ZK la;refine aj (i:=9) rfl (by kernel_rfl) λK f=>?_;go_simp;refine f _ _ (λ_=>A) ?_;clear f K
     (try simp only[Act.put,nzL])
     refine aj (i:=10) rfl (by kernel_rfl) λK f=>?_;go_simp;refine f _ _ (λ_=>A) ?_;clear f K
     (try simp only[Act.put,nzL])
     have ZP:=ae (V9.aa ((BS ZO).alloc ly (N #[U tn,Y (T (Q G 0 Z)) (L.length+1) c1] 125)));have hxi:=l.x.hi;have Hd:=l.x.lt;have ex:=l.lo;refine aj (i:=11) rfl (by kernel_rfl) λK f=>?_;go_simp;refine f _ _ (λ_=>ZJ _ (λi hi n _=>ZP.o.block i hi n)) ?_;clear f K A V9
     (try simp only[Act.put,nzL])
     have XA:=ae (l.x.ac ZP.o ex.1);have NA:=ae ((ZP.o.block nb (ar l.nm) (by omega)).trans l.nm);have Bk:xb≠nb:=λe=>by have h1:=l.nm;rw[<-e] at h1;have h2:=l.x.l.symm.trans h1;cases h2
     have hgl:=ZP.ir.lt;have At:=ZP.o.size;have OA:Hid ((ZO.alloc (N #[U tn,Y (T (Q G 0 Z)) (L.length+1) c1] 125)).ownsRow (B (z w)+1) 146 3 (Y (T (Q G 0 Z)) (L.length+1) c1) (L.length+1) (bV (cZ ZN) (L.length+1))):=by have h:=ZP.ir;unfold IR at h;rw[pT,H8.out] at h;exact aF h (by omega)
     refine aj (i:=12) rfl (by kernel_rfl) λK f=>?_;refine aW rfl (.tmp 46) (.tmp 56) 27 rfl (B (z w)+1) 125 n9 (ZG #[U ⟨#[]⟩,Y Z 0 0]) 2 40 LU hj DS ro Hb rfl (by decide) (Y P b.length c5) b.length (b.flatMap aZ) (by simp[Act.eval]) XA.w.y (Q (B (z ZO)) 0 Z) 1 1 (aZ (⟨tn,L.length+1,cZ ZN⟩,G,c1)) (by simp[Act.eval]) rfl (λj u hu=>cT ZO _ _ _ j u hu) (by simp[aZ,Value.oneCell']) (by unfold maxLen;omega) (by omega) (by omega) ?_;intro v' w9 D t _;obtain⟨a7,c7,rfl⟩:=aQ D;have S9:=ae (ZJ w9 (λi hi n Fm=>(t.block i (lj hi At) Fm).trans (ZP.o.block i hi n)));obtain⟨c8,b8⟩:=XA.addT (x:=⟨tn,L.length+1,cZ ZN⟩) (g:=G) (c:=c1) (λr ZI e=>by have:=l.x.w.ltg r ZI;omega) OA D t;have NB:Hid ((w9.setCell (Q xb 1 Z) (Y a7 (b.length+1) c7)).heap[nb]?=T (N crN 9 (0,0))):=(qh _ _ _ _ (λe=>Bk e.symm)).trans (fM t XA.w.type NA (by decide))
     have CE:Hid (Cr w R xb nb LS (Y O LS.length c2) (w9.setCell (Q xb 1 Z) (Y a7 (b.length+1) c7)) q2 (Y a7 (b.length+1) c7) (b++[((⟨tn,L.length+1,cZ ZN⟩,G,c1):TR)])):=⟨c8,l.g.add (r:=(⟨tn,L.length+1,cZ ZN⟩,G,c1)) (by show L.length+1<=300;omega) (λj GS=>jq ZP.tx j (by have:=H8.out;have h2:j<L.length+1:=GS;omega)),(λr ZI=>by
      rcases wC.1 ZI with ZI|ZI;{exact l.gp r ZI}
      ·rw[hU.1 ZI];show 1<=L.length+1/\L.length+1<=200;omega),ZP.rd.low b8 (by omega),(l.o.trans ZP.o).then (b8.mono (D0 _)),NB,ex⟩
     clear D t c8 b8 NB NA XA OA ZP;refine f _ _ (λ_=>S9) ?_;clear f K
     (try simp only[Act.put,nzL])
     refine aj (i:=13) rfl (by kernel_rfl) λK f=>?_;go_simp;refine f _ _ (λ_=>S9) ?_;clear f K
     (try simp only[Act.put,nzL])
     obtain⟨s7,t7⟩:=S9.out;have f7:w9.frozen? (Q xb 1 Z)=ZA:=by simp[World.frozen?,s7]
     have l7:=ar s7;clear s7;refine aj (i:=14) rfl (by kernel_rfl) λK f=>?_;go_simp;refine f _ _ (λh=>absurd rfl h) ?_;clear f K
     (try simp only[Act.put,nzL])
     refine be (by kernel_rfl) ?_ _;go_wp2;exact⟨⟨k+1,q2,_,_,by go_num,by omega,by omega,(by show(b++_).length=k+1;rw[eL,HK.out];rfl),CE⟩,by simp[intOf];omega⟩
  ·obtain rfl:k=5:=by omega
   have kr:=H.x.res;have r0:wr.cell? (Q (B (z w)) 0 Z)=T (Y Z 0 0):=by simp[World.cell?,kr]
   have r1:wr.cell? (Q (B (z w)) 1 Z)=T (Y Z 0 0):=by simp[World.cell?,kr]
   have f0:wr.frozen? (Q (B (z w)) 0 Z)=ZA:=by simp[World.frozen?,kr]
   have f1:wr.frozen? (Q (B (z w)) 1 Z)=ZA:=by simp[World.frozen?,kr]
   have l0:=ar kr;clear kr;obtain⟨kc0,kc1⟩:=H.x.cells;have Hd:=H.x.lt;have BB:=ae (((cM (B (z w)) wr).setCell (p:=(Q (B (z w)) 0 Z)) ly (Y O LS.length c2)).setCell (p:=(Q (B (z w)) 1 Z)) ly (Y P b.length c5));have HE:=ae ((H.x.fin rfl rfl (by have:=fd.out;omega) (by omega) H.g (Y O LS.length c2) (Y P b.length c5)).mono (D0 (B (z w))))
   have GE:Hid (Gd LS.length b.length (bK (b.map (·.1)))):=⟨by have:=fd.out;omega,by omega,λi hi=>by
    have e:bK (b.map (·.1)) i=b[i].1:=by simp[bK,hi]
    rw[e]
    exact H.gp _ (gz hi)⟩
   have RE:=ae (H.rd.low BB n6);have OE:=ae (H.o.then BB);go_wp2;exact bp (v:=ZG #[Y O LS.length c2,Y P b.length c5]) (by simp[results,results77,go_sem,r0,r1]) rfl ⟨_,_,_,_,_,_,_,_,rfl,⟨HE,GE⟩,_,by omega,RE,OE⟩
