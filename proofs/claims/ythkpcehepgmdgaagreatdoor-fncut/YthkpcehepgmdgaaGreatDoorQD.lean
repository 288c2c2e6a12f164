import Derived.Test.YthkpcehepgmdgaaGreatDoorRI
import Derived.Test.YthkpcehepgmdgaaGreatDoorRP
import Derived.Test.YthkpcehepgmdgaaGreatDoorRL
import Derived.WalkSmall
set_option maxRecDepth 100000
set_option maxHeartbeats 8000000
open Go renaming Addr.mk->Q,Value.slice->Z,Value.string->U,Value.int->J,Value.agg->ZH,Obj.cells->N,IntKind.i64->I,World->G,Value->ZD,World.heap->h,World.alloc->ZU
open Option renaming none->Y,some->T
open Bool renaming false->ZB
open Array renaming size->A
open List renaming length->ZT
namespace Go.Proofs.YthkpcehepgmdgaaGreatDoor.Vp
open Tryz RowKit
variable {W V:G}{xs:List Nat}
theorem vW (S:Spc)(nm:ByteArray):((bQ S nm).1=[]/\5<(bQ S nm).2.E)∨∃M e,SpcOk S/\av nm=true/\aL S 60 [] [] nm=.inl (M,e)/\bQ S nm=(M,dK e):=by
 unfold bQ;split;{rename_i ZW;split;{rename_i b e f;exact .inr ⟨b,e,SpcOk.of ZW.1,ZW.2,f,rfl⟩};{exact .inl ⟨rfl,by show(5:Int)<6;decide⟩};{exact .inl ⟨rfl,by show(5:Int)<7;decide⟩}};{exact .inl ⟨rfl,by show(5:Int)<9;decide⟩}
open Ca
def Fr (xs:List Nat)(W W':G):Prop:=A (h W)<=A (h W')/\∀k,k<A (h W)->k ∉ xs->W'.heap[k]?=W.heap[k]?
theorem Fr.trans{ZL:G}(ZW:Fr xs W V)(g:Fr xs V ZL):Fr xs W ZL:=⟨AD ZW.1 g.1,λk h1 h2=>(g.2 k (lj h1 ZW.1) h2).trans (ZW.2 k h1 h2)⟩
theorem Fr.ac{R:Nat}(ZW:Only R W V)(hR:R∈xs):Fr xs W V:=⟨ZW.size,λk h1 h2=>ZW.block k h1 (λe=>h2 (e ▸ hR))⟩
theorem Fr.set{x j:Nat}(b:x∈xs)(u:ZD):Fr xs W (W.setCell (Q x j Y) u):=⟨by simp,λk _ h2=>qh W (Q x j Y) u k (λe=>h2 ((show k=x from e) ▸ b))⟩
def oW (xs:List Nat)(b z:Nat):Prop:=∀x∈xs,x<b∨z<=x
theorem Agr.fr{b:Nat}{f:G}(ZW:Agr b f W)(j:oW xs b (A (h f)))(g:Fr xs W V):Agr b f V :=
 ⟨AD ZW.1 g.1,λk h1 h2=>(g.2 k (lj h2 ZW.1) (λi=>by rcases j k i with l|l<;>omega)).trans (ZW.2 k h1 h2)⟩
def Gd (n0 n1:Nat)(f1:Nat->Target):Prop:=n0<=250/\n1<=250/\∀i,i<n1->1<=(f1 i).l/\(f1 i).l<=200
def HSg (b:Nat)(w:G)(a0:Option Addr)(n0:Nat)(f0:Nat->Source)(a1:Option Addr)(n1:Nat)(f1:Nat->Target):Prop:=HSp b w a0 n0 f0 a1 n1 f1/\Gd n0 n1 f1
def QSp (lo:Nat)(xs:List Nat)(W:G)(a0:Option Addr)(n0:Nat)(f0:Nat->Source)(a1:Option Addr)(n1:Nat)(f1:Nat->Target):Prop:=∃(b:Nat) (f:G),lo<=b/\HSg b f a0 n0 f0 a1 n1 f1/\Agr b f W/\oW xs b (A (h f))
def QAc (lo:Nat)(xs:List Nat)(W:G)(a:Option Addr)(n c:Nat)(f:Nat->af):Prop:=∃(b:Nat) (g:G),lo<=b/\HAc b g a n c f/\Agr b g W/\oW xs b (A (h g))
section
variable {lo b:Nat}{xs:List Nat}{W V:G}{a0 a1 a:Option Addr}{n0 n1 n c:Nat}{f0:Nat->Source}{f1:Nat->Target}{f:Nat->af}
theorem QSp.fr (ZW:QSp lo xs W a0 n0 f0 a1 n1 f1)(j:Fr xs W V):QSp lo xs V a0 n0 f0 a1 n1 f1:=by obtain⟨b,g,i,h1,h2,f⟩:=ZW;exact⟨b,g,i,h1,h2.fr f j,f⟩
theorem QAc.fr (ZW:QAc lo xs W a n c f)(l:Fr xs W V):QAc lo xs V a n c f:=by obtain⟨b,i,j,h1,h2,g⟩:=ZW;exact⟨b,i,j,h1,h2.fr g l,g⟩
theorem QSp.at (ZW:QSp lo xs W a0 n0 f0 a1 n1 f1):HSg lo W a0 n0 f0 a1 n1 f1:=by obtain⟨b,w1,f,h1,h2,-⟩:=ZW;exact⟨(h1.1.agr h2).mono f,h1.2⟩
theorem QAc.at (ZW:QAc lo xs W a n c f):HAc lo W a n c f:=by obtain⟨b,w1,g,h1,h2,-⟩:=ZW;exact(h1.agr h2).mono g
theorem QSp.new (ZW:HSg b W a0 n0 f0 a1 n1 f1)(f:lo<=b)(g:oW xs b (A (h W))):QSp lo xs W a0 n0 f0 a1 n1 f1:=⟨b,W,f,ZW,Agr.refl _ _,g⟩
theorem QAc.new (ZW:HAc b W a n c f)(g:lo<=b)(i:oW xs b (A (h W))):QAc lo xs W a n c f:=⟨b,W,g,ZW,Agr.refl _ _,i⟩
end
theorem uP (S:Spc)(nm:ByteArray):(bQ S nm).1.length<=400:=by
 rcases vW S nm with ⟨h1,-⟩|⟨M,e,f,-,h2,b⟩
 {rw[h1];exact DN _};{rw[b];exact pI f h2}
theorem uQ{f c:Nat}{a:Option Addr}{S:Spc}{nm:ByteArray}{R:List DR}(ZW:DRow W f (Z a (ZT R) c) R)(g:R.map (·.1)=aV S (bQ S nm).1):HAc f W a (ZT R) c (dF (aV S (bQ S nm).1))/\(ZT R)<=400/\∀i,i<ZT R->FitD (dF (aV S (bQ S nm).1) i)/\(dF (aV S (bQ S nm).1) i).B.size<=2000/\(dF (aV S (bQ S nm).1) i).l<=200/\(dF (aV S (bQ S nm).1) i).f<=200:=by
 have m:ZT R=(bQ S nm).1.length:=by have:=CD List.length g;simpa[aV] using this
 have hn:ZT R<=400:=by rw[m];exact uP S nm
 have l:∀r∈R,FitD r.1/\r.1.B.size<=2000/\r.1.l<=200/\r.1.f<=200:=λr b=>uF S nm r.1 (by rw[<-g];exact T6 b);have h1:=Gs ZW (λr b=>(l r b).1) (by omega);rw[g] at h1;refine⟨h1,hn,λi hi=>?_⟩;obtain⟨r,b,j⟩:=dJ hi;rw[<-g,ii b];exact l r j
def crN:Array ZD:=#[U ⟨#[97]⟩,U ⟨#[98]⟩,U ⟨#[99]⟩,U ⟨#[116,48]⟩,U ⟨#[116,49]⟩,U ⟨#[116,50]⟩,U ⟨#[116,51]⟩]
theorem Gz:∀k,k<7->∃s:ByteArray,crN[k]?=T (U s)/\s.size<=5000:=λk hk=>by rcases(show k=0∨k=1∨k=2∨k=3∨k=4∨k=5∨k=6 by omega) with rfl|rfl|rfl|rfl|rfl|rfl|rfl<;>exact⟨_,rfl,by decide⟩
def DHg (w:G)(R q:Nat)(e:Ending)(b:G):Prop:=∃(a0:Option Addr) (n0 c0:Nat) (f0:Nat->Source) (a1:Option Addr) (n1 c1:Nat) (f1:Nat->Target),e=.returned (ZH #[Z a0 n0 c0,Z a1 n1 c1])/\HSg (A (h w)) b a0 n0 f0 a1 n1 f1/\∃q':Nat,q'<=q/\Rd b R q'/\Only R w b
structure Cr (w:G)(R xb nb:Nat)(LS:List Source)(v0:ZD)(W:G)(q:Nat)(v1:ZD)(RT:List TR):Prop where
 x:SpX (A (h w)) xb (A (h w)+1) W v0 v1 LS RT
 g:GX RT
 gp:∀r∈RT,1<=r.1.l/\r.1.l<=200
 rd:Rd W R q
 o:Only R w W
 nm:W.heap[nb]?=T (N crN 9 (0,0))
 lo:R<A (h w)/\(A (h w))<nb
section
variable {w W W':G}{R xb nb q q':Nat}{LS:List Source}{v0 v1:ZD}{RT:List TR}
theorem Cr.ac (ZW:Cr w R xb nb LS v0 W q v1 RT)(b:Only R W W')(hR:Rd W' R q'):Cr w R xb nb LS v0 W' q' v1 RT:=by obtain⟨f,l2⟩:=ZW.lo;exact⟨ZW.x.ac b f,ZW.g,ZW.gp,hR,ZW.o.trans b,(b.block _ (ag ZW.nm) (by omega)).trans ZW.nm,ZW.lo⟩
theorem Cr.aa (ZW:Cr w R xb nb LS v0 W q v1 RT)(b:Below (A (h W)) W W'):Cr w R xb nb LS v0 W' q v1 RT:=ZW.ac (Only.q b) (ZW.rd.aa b ly)
theorem Cr.e (ZW:Cr w R xb nb LS v0 W q v1 RT){k:Nat}(b:k<7):∃s:ByteArray,W.cell? (Q nb k Y)=T (U s)/\s.size<=5000:=by obtain⟨s,h1,h2⟩:=Gz k b;have hb:=ZW.nm;exact⟨s,by simp[World.cell?,hb,h1],h2⟩
end
theorem sE (R p:Nat)(w:G)(hR:Rd w R p)(hp:p<=20000):Calls Tryz.prog 52 #[.pointer (T (Q R 0 Y))] w λe w'=>DHg w R (p+100) e w':=by
 obtain⟨DE,hj,GS,At,Fm⟩:=KQ ez;obtain⟨th,hi,Fn,DQ,Hk⟩:=jp;have n7:=hR.lt;obtain⟨LS,bt⟩:∃LS:List Source,LS=[⟨⟨#[97]⟩,⟨#[65]⟩⟩,⟨⟨#[98]⟩,⟨#[66]⟩⟩,⟨⟨#[99]⟩,⟨#[67]⟩⟩]:=⟨_,rfl⟩
 have aq:ZT LS=3:=by rw[bt];rfl
 have C0:Hid (Cr w R (A (h w)+1+1) (A (h w)+1+1+1) LS (Z (T (Q (A (h w)+1) 0 Y)) 3 3) ((ZU (ZU (ZU w (N #[Z Y 0 0,Z Y 0 0] 33)) (N #[U ⟨#[97]⟩,U ⟨#[65]⟩,U ⟨#[98]⟩,U ⟨#[66]⟩,U ⟨#[99]⟩,U ⟨#[67]⟩] 87)) (N #[Z (T (Q (A (h w)+1) 0 Y)) 3 3,Z Y 0 0] 33)).alloc (N crN 9)) p (Z Y 0 0) []):=by
  have qr:A (h (ZU w (N #[Z Y 0 0,Z Y 0 0] 33)))=A (h w)+1:=by simp
  have Hn:A (h (ZU (ZU w (N #[Z Y 0 0,Z Y 0 0] 33)) (N #[U ⟨#[97]⟩,U ⟨#[65]⟩,U ⟨#[98]⟩,U ⟨#[66]⟩,U ⟨#[99]⟩,U ⟨#[67]⟩] 87)))=A (h w)+1+1:=by simp
  have DS:A (h (ZU (ZU (ZU w (N #[Z Y 0 0,Z Y 0 0] 33)) (N #[U ⟨#[97]⟩,U ⟨#[65]⟩,U ⟨#[98]⟩,U ⟨#[66]⟩,U ⟨#[99]⟩,U ⟨#[67]⟩] 87)) (N #[Z (T (Q (A (h w)+1) 0 Y)) 3 3,Z Y 0 0] 33)))=A (h w)+1+1+1:=by simp
  have k1:=nD w (N #[Z Y 0 0,Z Y 0 0] 33);have k2:=nD (ZU w (N #[Z Y 0 0,Z Y 0 0] 33)) (N #[U ⟨#[97]⟩,U ⟨#[65]⟩,U ⟨#[98]⟩,U ⟨#[66]⟩,U ⟨#[99]⟩,U ⟨#[67]⟩] 87);rw[qr] at k2;have BQ:=(cM (A (h w)+1) (ZU w (N #[Z Y 0 0,Z Y 0 0] 33))).alloc (by omega) (N #[U ⟨#[97]⟩,U ⟨#[65]⟩,U ⟨#[98]⟩,U ⟨#[66]⟩,U ⟨#[99]⟩,U ⟨#[67]⟩] 87);have ZW:=qC (LS:=LS) (base:=A (h w)+1) (base':=A (h w)+1) ((BQ.block (A (h w)) (gM _)).trans k1) (gM _) ly (by omega) (v0:=Z (T (Q (A (h w)+1) 0 Y)) 3 3) (by subst bt;exact⟨rfl,.inr ⟨A (h w)+1,3,_,rfl,j6 _,k2,j6 _,by unfold maxLen;omega,rfl,rfl⟩⟩) (df _ _);rw[Hn] at ZW;have BW:=(((q9 w).alloc ly (N #[Z Y 0 0,Z Y 0 0] 33)).alloc (by omega) (N #[U ⟨#[97]⟩,U ⟨#[65]⟩,U ⟨#[98]⟩,U ⟨#[66]⟩,U ⟨#[99]⟩,U ⟨#[67]⟩] 87)).alloc (by omega) (N #[Z (T (Q (A (h w)+1) 0 Y)) 3 3,Z Y 0 0] 33);have kn:=nD (ZU (ZU (ZU w (N #[Z Y 0 0,Z Y 0 0] 33)) (N #[U ⟨#[97]⟩,U ⟨#[65]⟩,U ⟨#[98]⟩,U ⟨#[66]⟩,U ⟨#[99]⟩,U ⟨#[67]⟩] 87)) (N #[Z (T (Q (A (h w)+1) 0 Y)) 3 3,Z Y 0 0] 33)) (N crN 9);rw[DS] at kn;have BZ:=BW.alloc (by omega) (N crN 9);exact⟨ZW.aa (br.alloc ly _) ly,λ_ ZW=>absurd ZW nj,λ_ ZW=>absurd ZW nj,hR.aa BZ ly,Only.q BZ,kn,by omega⟩
 clear hR bt;go_enter func52,ntmps52;go_wp2_with fail;rw[show(#[U ⟨#[97]⟩,U ⟨#[98]⟩,U ⟨#[99]⟩,U ⟨#[116,48]⟩,U ⟨#[116,49]⟩,U ⟨#[116,50]⟩,U ⟨#[116,51]⟩]:Array ZD)=crN from rfl];generalize World.alloc (World.alloc (World.alloc (World.alloc w _) _) _) _=W0 at C0 ⊢;obtain⟨P,c2,C1⟩:∃(P:Option Addr) (c2:Nat),Hid (Cr w R (A (h w)+1+1) (A (h w)+1+1+1) LS (Z P (ZT LS) c2) W0 p (Z Y 0 0) []):=⟨T (Q (A (h w)+1) 0 Y),3,by rw[aq];exact C0⟩
 clear C0;generalize (A (h w))+1+1+1=nb at C1 ⊢;generalize (A (h w))+1+1=xb at C1 ⊢;have ex:Hid (ZT LS=3):=aq;clear aq;go_loopw [5] (λv wr=>∃(k q:Nat) (v1:ZD) (b:List TR),v=J I k/\k<=5/\q<=p+9*k/\Hid (ZT b=k)/\Hid (Cr w R xb nb LS (Z P (ZT LS) c2) wr q v1 b)) (λv _=>5 - (intOf v).toNat);case atStart=>exact⟨0,p,_,[],rfl,by omega,by omega,rfl,C1⟩
 case round =>
  clear C1;obtain⟨k,q,v1,b,rfl,hk,hq,HK,ZP⟩:=hrel;obtain⟨O,c5,rfl⟩:=aF ZP.x.w.y;have hrn:ZT b<=5:=by have:=HK.out;omega
  by_cases hlt:k<5
  ·have hwk:IntKind.i64.wrap ((k:Int)+1)=(k:Int)+1:=by rw[nL];omega
   go_wp2_with fail;refine(bi _ _).mono ?_;rintro e E ⟨rfl,C⟩;have l:=ae (ZP.aa C);clear C ZP;have V1:Hid (VS E R (ZU E (N #[J I 1,U ⟨#[]⟩,J I 0] 90)) q (A (h E)) 1 [(1,[],0)] 1):=by have B:=(q9 E).alloc ly (N #[J I 1,U ⟨#[]⟩,J I 0] 90);exact⟨l.rd.aa B ly,Only.q B,IR.new E _ ly [(1,[],0)] _ rfl 1 rfl (by omega),by simp,l.rd.lt,j6 _⟩
   go_wp2_with fail;generalize World.alloc E _=W1 at V1 ⊢;refine(ar R _ 4 _ V1.rd (by omega) (by omega) (by omega)).mono ?_;rintro e w2 ⟨z,rfl,n8,n9,hR,ZL⟩;have V2:=ae (V1.ac ZL hR);clear hR ZL V1;have Hi:IntKind.i64.wrap (1+z)=1+z:=by rw[nL];omega
   go_wp2_with fail;go_loopw [6,7] (λc6 k7 wx=>∃(j:Int) (q' g c:Nat) (L:List I3),c6=Z (T (Q g 0 Y)) (ZT L) c/\k7=J I j/\0<=j/\j<=4/\(ZT L:Int)+3*j<=13/\(q':Int)+2*j<=(q:Int)+9/\Hid (VS E R wx q' g c L (ZT L))) (λ_ k7 _=>(intOf k7).toNat);case atStart=>exact⟨1+z,_,_,_,_,rfl,rfl,by omega,by omega,by simp only[p6,J1];omega,by omega,V2⟩
   case round =>
    clear V2 Hi n8 n9;obtain⟨j,q2,g,c,L,rfl,rfl,hj0,hj4,hL,hq2,V3⟩:=hrel;by_cases hjp:0<j
    ·have hwj:IntKind.i64.wrap (j - 1)=j - 1:=by rw[nL];omega
     have hw3:IntKind.i64.wrap (3+(k:Int))=3+(k:Int):=by rw[nL];omega
     go_wp2_with fail;refine(ar R _ 4 _ V3.rd (by omega) (by omega) (by omega)).mono ?_;rintro e w4 ⟨y,rfl,y0,y1,hR,ZL⟩;have W:=ae (V3.ac ZL hR);clear hR ZL V3;go_upto_if 30 with fail;go_cut [8] (λs8 wx=>∃op:Int,s8=J I op/\w4=wx);case first =>
      by_cases hy:y=0;{subst hy;go_wp2;go_meet;exact⟨_,rfl,rfl⟩}
      ·have hyb:(y == 0)=ZB:=by simpa using hy
       go_wp2;go_meet;exact⟨_,rfl,rfl⟩
     case rest =>
     obtain⟨op,rfl,rfl⟩:=hcut;go_wp2_with fail;refine(ar R _ (3+(k:Int)) _ W.rd (by omega) (by omega) (by omega)).mono ?_;rintro e w5 ⟨y',rfl,ld,Bk,hR,ZL⟩;have S:=ae (W.ac ZL hR);clear hR ZL W y0 y1;obtain⟨m,rfl⟩:=p9 ld;obtain⟨s,hs,Hj⟩:=(l.ac S.o S.rd).e (k:=m) (by omega);have Fd:(m:Int)<7:=by omega
     go_wp2_with fail;refine(bi _ _).mono ?_;rintro e w6 ⟨rfl,C⟩;have V6:=ae (S.aa C);clear C S hs Fd ld Bk;go_wp2_with fail;refine(aT _ _).mono ?_;rintro e w7 ⟨rfl,C⟩;have V7:=ae (V6.aa C);clear C V6;go_wp2_with fail;refine(aT _ _).mono ?_;rintro e ZQ ⟨rfl,C⟩;have ZM:=ae (V7.aa C);clear C V7;have X:=ae (ZM.aa ((q9 ZQ).alloc ly (N #[J I 1,U s,J I 0,J I op,U ⟨#[]⟩,J I 0,J I 2,U ⟨#[]⟩,J I 0] 90)));go_wp2_with (at_builtin;refine gC rfl (.tmp 31) (.tmp 43) rfl (A (h E)) g c L (by simp[Act.eval]) X.ir (Q (A (h ZQ)) 0 Y) 3 3 [(1,s.data.toList,0),(op,[],0),(2,[],0)] (by simp[Act.eval]) rfl (by simp) (eG ZQ #[J I 1,U s,J I 0,J I op,U ⟨#[]⟩,J I 0,J I 2,U ⟨#[]⟩,J I 0] _) (by simp only[p6,J1];omega) (by have:=ZM.o.size;simp;omega) ?_);intro ZS c1 W9 hI hG;have V9:=ae (ZM.add _ hI hG (eI Hj (by simp)));clear hI hG X ZM;go_wp2;exact⟨⟨j - 1,_,_,_,_,by rw[gB];rfl,rfl,by omega,by omega,by simp only[gB,p6,J1];omega,by omega,V9⟩,by simp only[intOf];omega⟩
    ·go_wp2_with fail;have ZK:Hid (∀V:G,(∀i,i<A (h E)->i≠R->T i≠(Value.slice O (ZT b) c5).ownBlock->V.heap[i]?=E.heap[i]?)->V.heap[xb]?=T (N #[Z P (ZT LS) c2,Z O (ZT b) c5] 33 (0,0))/\V.cell? (Q xb 1 Y)=T (Z O (ZT b) c5)):=λV hV=>by
      have h1:=(hV xb l.x.lt (by have:=l.x.hi;omega) λe=>by
       obtain⟨sm,ph⟩:=l.x.w.type _ e.symm;have h3:=l.x.M.symm.trans ph
       cases h3).trans l.x.M
      exact⟨h1,by simp[World.cell?,h1]⟩
     refine aD (λV=>V.heap[xb]?=T (N #[Z P (ZT LS) c2,Z O (ZT b) c5] 33 (0,0))/\V.cell? (Q xb 1 Y)=T (Z O (ZT b) c5)) 14 (by kernel_rfl) ?_;have W:=ae (V3.aa br.drew);have ZV:=ae (ZK _ (λi hi n _=>W.o.block i hi n));clear V3;iterate 3
      refine aM 0 (v:=?_) rfl rfl (by kernel_rfl) (λ_ _ _ ZW=>ZW) rfl ?_ ZV ?_;rotate_left
      ·(rintro wz ⟨s0,s1⟩;go_simp)
       (try with_reducible rfl)
      (try simp only[Act.put,nzL])
     refine aM 5 (v:=?_) rfl rfl (by kernel_rfl) (λ_ _ _ ZW=>ZW) rfl ?_ ZV ?_;rotate_left
     ·(rintro wz ⟨s0,s1⟩;go_simp)
      (try with_reducible rfl)
     (try simp only[Act.put,nzL])
     refine ah (i:=3) rfl (by kernel_rfl) λK f=>?_;go_simp;go_at_call 59;refine(ig k (by omega) _).mono ?_;rintro e w5 ⟨rfl,C⟩;have S:=ae (W.aa C);clear C ZV W;have ZV:=ae (ZK _ (λi hi n _=>S.o.block i hi n));refine f _ _ (λ_=>ZV) ?_;clear f K
     (try simp only[Act.put,nzL])
     refine aM 4 (v:=?_) rfl rfl (by kernel_rfl) (λ_ _ _ ZW=>ZW) rfl ?_ ZV ?_;rotate_left
     ·(rintro wz ⟨s0,s1⟩;go_simp)
      (try with_reducible rfl)
     (try simp only[Act.put,nzL])
     generalize (⟨#[116]⟩:ByteArray)++⟨#[dig k]⟩=tn;refine ah (i:=6) rfl (by kernel_rfl) λK f=>?_;go_simp;go_at_call 40;refine(aT _ _).mono ?_;rintro e w6 ⟨rfl,C⟩;have V6:=ae (S.aa C);clear C ZV S;have ZV:=ae (ZK _ (λi hi n _=>V6.o.block i hi n));refine f _ _ (λ_=>ZV) ?_;clear f K
     (try simp only[Act.put,nzL])
     have X:=ae (V6.aa ((q9 w6).alloc ly (N #[J I 15,U ⟨#[]⟩,J I 0] 90)));clear ZV;have ZV:=ae (ZK _ (λi hi n _=>X.o.block i hi n));refine ah (i:=7) rfl (by kernel_rfl) λK f=>?_;go_simp;refine f _ _ (λ_=>ZV) ?_;clear f K
     (try simp only[Act.put,nzL])
     refine ah (i:=8) rfl (by kernel_rfl) (λK f=>?_);refine aQ rfl (.tmp 50) (.tmp 52) 39 rfl (A (h E)) 90 th (ZH #[J I 0,U ⟨#[]⟩,J I 0]) 3 32 MB hi Fn DQ Hk rfl (by decide) (Z (T (Q g 0 Y)) (ZT L) c) (ZT L) (i3L L) (by simp[Act.eval]) X.ir (Q (A (h w6)) 0 Y) 1 1 (i3L [(15,[],0)]) (by simp[Act.eval]) rfl (eG w6 #[J I 15,U ⟨#[]⟩,J I 0] _) (wu _) (by unfold maxLen;omega) (by omega) (by have:=X.o.size;omega) ?_;intro v' ZQ D t _;obtain⟨ZS,c1,rfl⟩:∃ZS c1,v'=Z (T (Q ZS 0 Y)) (ZT L+1) c1:=by
      rcases D.2 with ⟨_,h0⟩|⟨g',cap,sm,hv,_⟩
      {omega};{exact⟨g',cap,hv⟩}
     have ZM:=ae (X.join (M:=[(15,[],0)]) (g':=ZS) (c':=c1) (by
      unfold IR;rw[qk,gB]
      exact D) t (by simp))
     clear D t X ZV;have ZV:=ae (ZK _ (λi hi n _=>ZM.o.block i hi n));refine f _ _ (λ_=>ZV) ?_;clear f K
     (try simp only[Act.put,nzL])
     obtain⟨ZO,la,V9⟩:∃ZO:List I3,ZT ZO=ZT L+1/\Hid (VS E R ZQ q2 ZS c1 ZO (ZT ZO)):=⟨L++[(15,[],0)],gB,ZM⟩
     have H8:Hid (ZT ZO=ZT L+1):=la;clear ZM la;refine ah (i:=9) rfl (by kernel_rfl) λK f=>?_;go_simp;refine f _ _ (λ_=>ZV) ?_;clear f K
     (try simp only[Act.put,nzL])
     refine ah (i:=10) rfl (by kernel_rfl) λK f=>?_;go_simp;refine f _ _ (λ_=>ZV) ?_;clear f K
     (try simp only[Act.put,nzL])
     have H:=ae (V9.aa ((q9 ZQ).alloc ly (N #[U tn,Z (T (Q ZS 0 Y)) (ZT L+1) c1] 94)));have hxi:=l.x.hi;have Fk:=l.x.lt;have fd:=l.lo;refine ah (i:=11) rfl (by kernel_rfl) λK f=>?_;go_simp;refine f _ _ (λ_=>ZK _ (λi hi n _=>H.o.block i hi n)) ?_;clear f K ZV V9
     (try simp only[Act.put,nzL])
     have XA:=ae (l.x.ac H.o fd.1);have NA:=ae ((H.o.block nb (ag l.nm) (by omega)).trans l.nm);have ro:xb≠nb:=λe=>by have h1:=l.nm;rw[<-e] at h1;have h2:=l.x.M.symm.trans h1;cases h2
     have hgl:=H.ir.lt;have Hl:=H.o.size;have OA:Hid ((ZU ZQ (N #[U tn,Z (T (Q ZS 0 Y)) (ZT L+1) c1] 94)).ownsRow (A (h w)+1) 90 3 (Z (T (Q ZS 0 Y)) (ZT L+1) c1) (ZT L+1) (bK (de ZO) (ZT L+1))):=by have ZW:=H.ir;unfold IR at ZW;rw[pK,H8.out] at ZW;exact aA ZW (by omega)
     refine ah (i:=12) rfl (by kernel_rfl) λK f=>?_;refine aQ rfl (.tmp 46) (.tmp 56) 31 rfl (A (h w)+1) 94 DE (ZH #[U ⟨#[]⟩,Z Y 0 0]) 2 40 LC hj GS At Fm rfl (by decide) (Z O (ZT b) c5) (ZT b) (b.flatMap aY) (by simp[Act.eval]) XA.w.y (Q (A (h ZQ)) 0 Y) 1 1 (aY (⟨tn,ZT L+1,de ZO⟩,ZS,c1)) (by simp[Act.eval]) rfl (λj u hu=>cU ZQ _ _ _ j u hu) (by simp[aY,Value.oneCell']) (by unfold maxLen;omega) (by omega) (by omega) ?_;intro v' w9 D t _;obtain⟨a7,c7,rfl⟩:=aF D;have S9:=ae (ZK w9 (λi hi n ur=>(t.block i (lj hi Hl) ur).trans (H.o.block i hi n)));obtain⟨c8,b8⟩:=XA.addT (x:=⟨tn,ZT L+1,de ZO⟩) (g:=ZS) (c:=c1) (λr ZJ e=>by have:=l.x.w.ltg r ZJ;omega) OA D t;have NB:Hid ((w9.setCell (Q xb 1 Y) (Z a7 (ZT b+1) c7)).heap[nb]?=T (N crN 9 (0,0))):=(qh _ _ _ _ (λe=>ro e.symm)).trans (ft t XA.w.type NA (by decide))
     have CE:Hid (Cr w R xb nb LS (Z P (ZT LS) c2) (w9.setCell (Q xb 1 Y) (Z a7 (ZT b+1) c7)) q2 (Z a7 (ZT b+1) c7) (b++[((⟨tn,ZT L+1,de ZO⟩,ZS,c1):TR)])):=⟨c8,l.g.add (r:=(⟨tn,ZT L+1,de ZO⟩,ZS,c1)) (by show (ZT L)+1<=300;omega) (λj Hm=>jy H.tx j (by have:=H8.out;have h2:j<ZT L+1:=Hm;omega)),(λr ZJ=>by
      rcases n6.1 ZJ with ZJ|ZJ;{exact l.gp r ZJ}
      ·rw[j4.1 ZJ];show 1<=ZT L+1/\(ZT L)+1<=200;omega),H.rd.low b8 (by omega),(l.o.trans H.o).then (b8.mono (IS _)),NB,fd⟩
     clear D t c8 b8 NB NA XA OA H;refine f _ _ (λ_=>S9) ?_;clear f K
     (try simp only[Act.put,nzL])
     refine ah (i:=13) rfl (by kernel_rfl) λK f=>?_;go_simp;refine f _ _ (λ_=>S9) ?_;clear f K
     (try simp only[Act.put,nzL])
     obtain⟨s7,t7⟩:=S9.out;have f7:w9.frozen? (Q xb 1 Y)=ZB:=by simp[World.frozen?,s7]
     have l7:=ag s7;clear s7;refine ah (i:=14) rfl (by kernel_rfl) λK f=>?_;go_simp;refine f _ _ (λZW=>absurd rfl ZW) ?_;clear f K
     (try simp only[Act.put,nzL])
     refine bk (by kernel_rfl) ?_ _;go_wp2;exact⟨⟨k+1,q2,_,_,by go_num,by omega,by omega,(by show(b++_).length=k+1;rw[gB,HK.out];rfl),CE⟩,by simp[intOf];omega⟩
  ·obtain rfl:k=5:=by omega
   have kr:=ZP.x.res;have r0:wr.cell? (Q (A (h w)) 0 Y)=T (Z Y 0 0):=by simp[World.cell?,kr]
   have r1:wr.cell? (Q (A (h w)) 1 Y)=T (Z Y 0 0):=by simp[World.cell?,kr]
   have f0:wr.frozen? (Q (A (h w)) 0 Y)=ZB:=by simp[World.frozen?,kr]
   have f1:wr.frozen? (Q (A (h w)) 1 Y)=ZB:=by simp[World.frozen?,kr]
   have l0:=ag kr;clear kr;obtain⟨kc0,kc1⟩:=ZP.x.cells;have Fk:=ZP.x.lt;have BB:=ae (((cM (A (h w)) wr).setCell (p:=(Q (A (h w)) 0 Y)) ly (Z P (ZT LS) c2)).setCell (p:=(Q (A (h w)) 1 Y)) ly (Z O (ZT b) c5));have HE:=ae ((ZP.x.fin rfl rfl (by have:=ex.out;omega) (by omega) ZP.g (Z P (ZT LS) c2) (Z O (ZT b) c5)).mono (IS (A (h w))))
   have GE:Hid (Gd (ZT LS) (ZT b) (bj (b.map (·.1)))):=⟨by have:=ex.out;omega,by omega,λi hi=>by
    have e:bj (b.map (·.1)) i=b[i].1:=by simp[bj,hi]
    rw[e]
    exact ZP.gp _ (gz hi)⟩
   have RE:=ae (ZP.rd.low BB n7);have OE:=ae (ZP.o.then BB);go_wp2;exact bp (v:=ZH #[Z P (ZT LS) c2,Z O (ZT b) c5]) (by simp[results,results52,go_sem,r0,r1]) rfl ⟨_,_,_,_,_,_,_,_,rfl,⟨HE,GE⟩,_,by omega,RE,OE⟩
