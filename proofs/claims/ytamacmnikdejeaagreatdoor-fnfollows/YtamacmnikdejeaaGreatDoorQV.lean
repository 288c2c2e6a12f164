import Derived.Test.YtamacmnikdejeaaGreatDoorQB
import Derived.Test.YtamacmnikdejeaaGreatDoorQH
import Derived.Test.YtamacmnikdejeaaGreatDoorQD
import Derived.WalkSmall
set_option maxRecDepth 100000
set_option maxHeartbeats 8000000
open Go.Addr renaming mk->N
open Go.Value renaming slice->Y,string->U,int->J,agg->QG
open Option renaming none->Z,some->T
open Go.Obj renaming cells->Q
open Go.IntKind renaming i64->I
open Go renaming World->G,Value->QE
open Bool renaming false->QB
open Go.Ending renaming returned->QF
namespace Go.Proofs.YtamacmnikdejeaaGreatDoor.Vp
open RowKit Ca
theorem zo (a:Option Addr)(n cap:Nat)(f:Nat->ah)(w:G)(hn:0<n)(h9:n<=1048576)(o:SlDeed w a n f):Calls Tryz.prog 12 #[QG #[Y a n cap]] w fun e q=>e=QF (U (f (n - 1)).name)/\Below w.heap.size w q:=by
 have j:=ae ((q9 w).alloc ly (Q #[Y a n cap] 25));rcases o with h | ⟨b,off,rfl,g⟩
 ·omega
 have hb:=g.1;have i:=(j.cell (p:=⟨b,off+(n - 1)*6,Z⟩) hb).trans (g.2 (n - 1) (by omega)).1;clear g;obtain⟨m,l⟩:∃ m,n=m+1:=⟨n - 1,by omega⟩
 subst l;rw[JW] at i ⊢;generalize (f m).name=t at i ⊢;have hw:IntKind.i64.wrap ((m:Int)+1 - 1)=(m:Int):=by rw[kP];omega
 go_enter Tryz.func12,Tryz.ntmps12;go_wp2;go_ret;exact⟨rfl,j⟩
end Go.Proofs.YtamacmnikdejeaaGreatDoor.Vp
namespace Go.Proofs.YtamacmnikdejeaaGreatDoor.Vp
open RowKit
theorem nE (S:Spc)(nm:ByteArray):((aX S nm).1=[]/\5<(aX S nm).2.code)∨∃ M e,SpcOk S/\au nm=true/\aZ S 60 [] [] nm=.inl (M,e)/\aX S nm=(M,du e):=by
 unfold aX;split
 ·rename_i h
  split
  ·rename_i b e f
   exact .inr ⟨b,e,SpcOk.of h.1,h.2,f,rfl⟩
  ·exact .inl ⟨rfl,by show(5:Int)<6;decide⟩
  ·exact .inl ⟨rfl,by show(5:Int)<7;decide⟩
 ·exact .inl ⟨rfl,by show(5:Int)<9;decide⟩
section
variable {S:Spc}{M:List Ent}
end
theorem Br {w:G}{f size n i c:Nat}{e:TypeId}{a:Option Addr}{xs:List QE}(h:w.ownsRow f e size (Y a n c) i xs):n<=c:=by
 rcases h.2 with ⟨b,h0⟩ | ⟨g,cap,cur,b,hb,hg,hc,_⟩
 ·simp only[IB] at b
  omega
 ·simp only[IB] at b
  omega
end Go.Proofs.YtamacmnikdejeaaGreatDoor.Vp
namespace Go.Proofs.YtamacmnikdejeaaGreatDoor.Vp
open RowKit Ca
def Fr (xs:List Nat)(W W':G):Prop:=W.heap.size<=W'.heap.size/\∀ k,k<W.heap.size->k ∉ xs->W'.heap[k]?=W.heap[k]?
theorem Fr.trans {xs:List Nat}{W V QK:G}(h:Fr xs W V)(g:Fr xs V QK):Fr xs W QK:=⟨p9 h.1 g.1,fun k h1 h2=>(g.2 k (lj h1 h.1) h2).trans (h.2 k h1 h2)⟩
theorem Fr.only {xs:List Nat}{R:Nat}{W V:G}(h:Only R W V)(hR:R∈xs):Fr xs W V:=⟨h.size,fun k h1 h2=>h.block k h1 (fun e=>h2 (e ▸ hR))⟩
theorem Fr.set {xs:List Nat}{x j:Nat}{W:G}(b:x∈xs)(u:QE):Fr xs W (W.setCell (N x j Z) u):=⟨by simp,fun k _ h2=>qh W (N x j Z) u k (fun e=>h2 ((show k=x from e) ▸ b))⟩
def oD (xs:List Nat)(b z:Nat):Prop:=∀ x∈xs,x<b∨z<=x
theorem Agr.fr {xs:List Nat}{b:Nat}{f W V:G}(h:Agr b f W)(l:oD xs b f.heap.size)(g:Fr xs W V):Agr b f V :=
 ⟨p9 h.1 g.1,fun k h1 h2=>(g.2 k (lj h2 h.1) (fun i=>by rcases l k i with j | j<;>omega)).trans (h.2 k h1 h2)⟩
def Gd (n0 n1:Nat)(f1:Nat->Target):Prop:=n0<=250/\n1<=250/\∀ i,i<n1->1<=(f1 i).actN/\(f1 i).actN<=200
def HSg (b:Nat)(w:G)(a0:Option Addr)(n0:Nat)(f0:Nat->Source)(a1:Option Addr)(n1:Nat)(f1:Nat->Target):Prop:=HSp b w a0 n0 f0 a1 n1 f1/\Gd n0 n1 f1
def QSp (lo:Nat)(xs:List Nat)(W:G)(a0:Option Addr)(n0:Nat)(f0:Nat->Source)(a1:Option Addr)(n1:Nat)(f1:Nat->Target):Prop:=∃ (b:Nat) (f:G),lo<=b/\HSg b f a0 n0 f0 a1 n1 f1/\Agr b f W/\oD xs b f.heap.size
def QAc (lo:Nat)(xs:List Nat)(W:G)(a:Option Addr)(n c:Nat)(f:Nat->ah):Prop:=∃ (b:Nat) (g:G),lo<=b/\HAc b g a n c f/\Agr b g W/\oD xs b g.heap.size
section
variable {lo b:Nat}{xs:List Nat}{W V:G}{a0 a1 a:Option Addr}{n0 n1 n c:Nat}{f0:Nat->Source}{f1:Nat->Target}{f:Nat->ah}
theorem QSp.fr (h:QSp lo xs W a0 n0 f0 a1 n1 f1)(i:Fr xs W V):QSp lo xs V a0 n0 f0 a1 n1 f1:=by obtain⟨b,j,g,h1,h2,f⟩:=h;exact⟨b,j,g,h1,h2.fr f i,f⟩
theorem QAc.fr (h:QAc lo xs W a n c f)(j:Fr xs W V):QAc lo xs V a n c f:=by obtain⟨b,l,i,h1,h2,g⟩:=h;exact⟨b,l,i,h1,h2.fr g j,g⟩
theorem QSp.at (h:QSp lo xs W a0 n0 f0 a1 n1 f1):HSg lo W a0 n0 f0 a1 n1 f1:=by obtain⟨b,w1,f,h1,h2,-⟩:=h;exact⟨(h1.1.agr h2).mono f,h1.2⟩
theorem QAc.at (h:QAc lo xs W a n c f):HAc lo W a n c f:=by obtain⟨b,w1,g,h1,h2,-⟩:=h;exact(h1.agr h2).mono g
theorem QSp.new (h:HSg b W a0 n0 f0 a1 n1 f1)(g:lo<=b)(f:oD xs b W.heap.size):QSp lo xs W a0 n0 f0 a1 n1 f1:=⟨b,W,g,h,Agr.refl _ _,f⟩
theorem QAc.new (h:HAc b W a n c f)(i:lo<=b)(g:oD xs b W.heap.size):QAc lo xs W a n c f:=⟨b,W,i,h,Agr.refl _ _,g⟩
end
theorem Bs (S:Spc)(nm:ByteArray):(aX S nm).1.length<=400:=by
 rcases nE S nm with ⟨h1,-⟩ | ⟨M,e,f,-,h2,b⟩
 ·rw[h1];exact DN _
 ·rw[b];exact pn f h2
theorem Bt {W:G}{f c:Nat}{a:Option Addr}{S:Spc}{nm:ByteArray}{R:List DR}(h:DRow W f (Y a R.length c) R)(g:R.map (·.1)=aO S (aX S nm).1):HAc f W a R.length c (dF (aO S (aX S nm).1))/\R.length<=400/\∀ i,i<R.length->FitD (dF (aO S (aX S nm).1) i)/\(dF (aO S (aX S nm).1) i).text.size<=2000/\(dF (aO S (aX S nm).1) i).actN<=200/\(dF (aO S (aX S nm).1) i).linksN<=200:=by
 have m:R.length=(aX S nm).1.length:=by have:=BC List.length g;simpa[aO] using this
 have hn:R.length<=400:=by rw[m];exact Bs S nm
 have l:∀ r∈R,FitD r.1/\r.1.text.size<=2000/\r.1.actN<=200/\r.1.linksN<=200:=fun r b=>tP S nm r.1 (by rw[<-g];exact LP b);have h1:=En h (fun r b=>(l r b).1) (by omega);rw[g] at h1;refine⟨h1,hn,fun i hi=>?_⟩;obtain⟨r,b,j⟩:=cU hi;rw[<-g,fJ b];exact l r j
def crN:Array QE:=#[U ⟨#[97]⟩,U ⟨#[98]⟩,U ⟨#[99]⟩,U ⟨#[116,48]⟩,U ⟨#[116,49]⟩,U ⟨#[116,50]⟩,U ⟨#[116,51]⟩]
theorem Et:∀ k,k<7->∃ s:ByteArray,crN[k]?=T (U s)/\s.size<=5000:=fun k hk=>by rcases(show k=0∨k=1∨k=2∨k=3∨k=4∨k=5∨k=6 by omega) with rfl | rfl | rfl | rfl | rfl | rfl | rfl<;>exact⟨_,rfl,by decide⟩
def DHg (w:G)(R q:Nat)(e:Ending)(b:G):Prop:=∃ (a0:Option Addr) (n0 c0:Nat) (f0:Nat->Source) (a1:Option Addr) (n1 c1:Nat) (f1:Nat->Target),e=QF (QG #[Y a0 n0 c0,Y a1 n1 c1])/\HSg w.heap.size b a0 n0 f0 a1 n1 f1/\∃ q':Nat,q'<=q/\Rd b R q'/\Only R w b
structure Cr (w:G)(R xb nb:Nat)(LS:List Source)(v0:QE)(W:G)(q:Nat)(v1:QE)(RT:List TR):Prop where
 x:SpX w.heap.size xb (w.heap.size+1) W v0 v1 LS RT
 g:GX RT
 gp:∀ r∈RT,1<=r.1.actN/\r.1.actN<=200
 rd:Rd W R q
 o:Only R w W
 nm:W.heap[nb]?=T (Q crN 9 (0,0))
 lo:R<w.heap.size/\w.heap.size<nb
section
variable {w W W':G}{R xb nb q q':Nat}{LS:List Source}{v0 v1:QE}{RT:List TR}
theorem Cr.only (h:Cr w R xb nb LS v0 W q v1 RT)(b:Only R W W')(hR:Rd W' R q'):Cr w R xb nb LS v0 W' q' v1 RT:=by obtain⟨f,l2⟩:=h.lo;exact⟨h.x.only b f,h.g,h.gp,hR,h.o.trans b,(b.block _ (ai h.nm) (by omega)).trans h.nm,h.lo⟩
theorem Cr.below (h:Cr w R xb nb LS v0 W q v1 RT)(b:Below W.heap.size W W'):Cr w R xb nb LS v0 W' q v1 RT:=h.only (Only.of_below b) (h.rd.below b ly)
theorem Cr.name (h:Cr w R xb nb LS v0 W q v1 RT){k:Nat}(b:k<7):∃ s:ByteArray,W.cell? (N nb k Z)=T (U s)/\s.size<=5000:=by obtain⟨s,h1,h2⟩:=Et k b;have hb:=h.nm;exact⟨s,by simp[World.cell?,hb,h1],h2⟩
end
theorem rR (R p:Nat)(w:G)(hR:Rd w R p)(hp:p<=20000):Calls Tryz.prog 77 #[.pointer (T (N R 0 Z))] w fun e w'=>DHg w R (p+100) e w':=by
 obtain⟨ph,hj,E9,Fe,DS⟩:=IL fw;obtain⟨sm,hi,Fa,Bk,Fb⟩:=nQ;have n8:=hR.lt;obtain⟨LS,bt⟩:∃ LS:List Source,LS=[⟨⟨#[97]⟩,⟨#[65]⟩⟩,⟨⟨#[98]⟩,⟨#[66]⟩⟩,⟨⟨#[99]⟩,⟨#[67]⟩⟩]:=⟨_,rfl⟩
 have aq:LS.length=3:=by rw[bt];rfl
 have C0:Hid (Cr w R (w.heap.size+1+1) (w.heap.size+1+1+1) LS (Y (T (N (w.heap.size+1) 0 Z)) 3 3) ((((w.alloc (Q #[Y Z 0 0,Y Z 0 0] 29)).alloc (Q #[U ⟨#[97]⟩,U ⟨#[65]⟩,U ⟨#[98]⟩,U ⟨#[66]⟩,U ⟨#[99]⟩,U ⟨#[67]⟩] 121)).alloc (Q #[Y (T (N (w.heap.size+1) 0 Z)) 3 3,Y Z 0 0] 29)).alloc (Q crN 9)) p (Y Z 0 0) []):=by
  have DE:(w.alloc (Q #[Y Z 0 0,Y Z 0 0] 29)).heap.size=w.heap.size+1:=by simp
  have Fc:((w.alloc (Q #[Y Z 0 0,Y Z 0 0] 29)).alloc (Q #[U ⟨#[97]⟩,U ⟨#[65]⟩,U ⟨#[98]⟩,U ⟨#[66]⟩,U ⟨#[99]⟩,U ⟨#[67]⟩] 121)).heap.size=w.heap.size+1+1:=by simp
  have CD:(((w.alloc (Q #[Y Z 0 0,Y Z 0 0] 29)).alloc (Q #[U ⟨#[97]⟩,U ⟨#[65]⟩,U ⟨#[98]⟩,U ⟨#[66]⟩,U ⟨#[99]⟩,U ⟨#[67]⟩] 121)).alloc (Q #[Y (T (N (w.heap.size+1) 0 Z)) 3 3,Y Z 0 0] 29)).heap.size=w.heap.size+1+1+1:=by simp
  have k1:=eT w (Q #[Y Z 0 0,Y Z 0 0] 29);have k2:=eT (w.alloc (Q #[Y Z 0 0,Y Z 0 0] 29)) (Q #[U ⟨#[97]⟩,U ⟨#[65]⟩,U ⟨#[98]⟩,U ⟨#[66]⟩,U ⟨#[99]⟩,U ⟨#[67]⟩] 121);rw[DE] at k2;have BQ:=(a8 (w.heap.size+1) (w.alloc (Q #[Y Z 0 0,Y Z 0 0] 29))).alloc (by omega) (Q #[U ⟨#[97]⟩,U ⟨#[65]⟩,U ⟨#[98]⟩,U ⟨#[66]⟩,U ⟨#[99]⟩,U ⟨#[67]⟩] 121);have h:=qd (LS:=LS) (base:=w.heap.size+1) (base':=w.heap.size+1) ((BQ.block w.heap.size (eL _)).trans k1) (eL _) ly (by omega) (v0:=Y (T (N (w.heap.size+1) 0 Z)) 3 3) (by subst bt;exact⟨rfl,.inr ⟨w.heap.size+1,3,_,rfl,j6 _,k2,j6 _,by unfold maxLen;omega,rfl,rfl⟩⟩) (cT _ _);rw[Fc] at h;have BW:=(((q9 w).alloc ly (Q #[Y Z 0 0,Y Z 0 0] 29)).alloc (by omega) (Q #[U ⟨#[97]⟩,U ⟨#[65]⟩,U ⟨#[98]⟩,U ⟨#[66]⟩,U ⟨#[99]⟩,U ⟨#[67]⟩] 121)).alloc (by omega) (Q #[Y (T (N (w.heap.size+1) 0 Z)) 3 3,Y Z 0 0] 29);have kn:=eT (((w.alloc (Q #[Y Z 0 0,Y Z 0 0] 29)).alloc (Q #[U ⟨#[97]⟩,U ⟨#[65]⟩,U ⟨#[98]⟩,U ⟨#[66]⟩,U ⟨#[99]⟩,U ⟨#[67]⟩] 121)).alloc (Q #[Y (T (N (w.heap.size+1) 0 Z)) 3 3,Y Z 0 0] 29)) (Q crN 9);rw[CD] at kn;have BZ:=BW.alloc (by omega) (Q crN 9);exact⟨h.below (br.alloc ly _) ly,fun _ h=>absurd h nj,fun _ h=>absurd h nj,hR.below BZ ly,Only.of_below BZ,kn,by omega⟩
 clear hR bt;go_enter Tryz.func77,Tryz.ntmps77;go_wp2_with fail;rw[show(#[U ⟨#[97]⟩,U ⟨#[98]⟩,U ⟨#[99]⟩,U ⟨#[116,48]⟩,U ⟨#[116,49]⟩,U ⟨#[116,50]⟩,U ⟨#[116,51]⟩]:Array QE)=crN from rfl];generalize (((w.alloc (Q #[Y Z 0 0,Y Z 0 0] 29)).alloc (Q #[U ⟨#[97]⟩,U ⟨#[65]⟩,U ⟨#[98]⟩,U ⟨#[66]⟩,U ⟨#[99]⟩,U ⟨#[67]⟩] 121)).alloc (Q #[Y (T (N (w.heap.size+1) 0 Z)) 3 3,Y Z 0 0] 29)).alloc (Q crN 9)=W0 at C0 ⊢;obtain⟨P,c2,C1⟩:∃ (P:Option Addr) (c2:Nat),Hid (Cr w R (w.heap.size+1+1) (w.heap.size+1+1+1) LS (Y P LS.length c2) W0 p (Y Z 0 0) []):=⟨T (N (w.heap.size+1) 0 Z),3,by rw[aq];exact C0⟩
 clear C0;generalize w.heap.size+1+1+1=nb at C1 ⊢;generalize w.heap.size+1+1=xb at C1 ⊢;have ex:Hid (LS.length=3):=aq;clear aq;go_loopw [5] (fun v wr=>∃ (k q:Nat) (v1:QE) (b:List TR),v=J I k/\k<=5/\q<=p+9*k/\Hid (b.length=k)/\Hid (Cr w R xb nb LS (Y P LS.length c2) wr q v1 b)) (fun v _=>5 - (intOf v).toNat);case atStart=>exact⟨0,p,_,[],rfl,by omega,by omega,rfl,C1⟩
 case round =>
  clear C1;obtain⟨k,q,v1,b,rfl,hk,hq,HK,QO⟩:=hrel;obtain⟨O,c5,rfl⟩:=aP QO.x.tgt.own;have hrn:b.length<=5:=by have:=HK.out;omega
  by_cases hlt:k<5
  ·have hwk:IntKind.i64.wrap ((k:Int)+1)=(k:Int)+1:=by rw[kP];omega
   go_wp2_with fail;refine(bs _ _).mono ?_;rintro e E ⟨rfl,C⟩;have n:=ae (QO.below C);clear C QO;have V1:Hid (VS E R (E.alloc (Q #[J I 1,U ⟨#[]⟩,J I 0] 146)) q E.heap.size 1 [(1,[],0)] 1):=by have B:=(q9 E).alloc ly (Q #[J I 1,U ⟨#[]⟩,J I 0] 146);exact⟨n.rd.below B ly,Only.of_below B,IR.new E _ ly [(1,[],0)] _ rfl 1 rfl (by omega),by simp,n.rd.lt,j6 _⟩
   go_wp2_with fail;generalize E.alloc (Q #[J I 1,U ⟨#[]⟩,J I 0] 146)=W1 at V1 ⊢;refine(av R _ 4 _ V1.rd (by omega) (by omega) (by omega)).mono ?_;rintro e w2 ⟨z,rfl,n7,mv,hR,QK⟩;have V2:=ae (V1.only QK hR);clear hR QK V1;have Ff:IntKind.i64.wrap (1+z)=1+z:=by rw[kP];omega
   go_wp2_with fail;go_loopw [6,7] (fun c6 k7 wx=>∃ (j:Int) (q' g c:Nat) (L:List I3),c6=Y (T (N g 0 Z)) L.length c/\k7=J I j/\0<=j/\j<=4/\(L.length:Int)+3*j<=13/\(q':Int)+2*j<=(q:Int)+9/\Hid (VS E R wx q' g c L L.length)) (fun _ k7 _=>(intOf k7).toNat);case atStart=>exact⟨1+z,_,_,_,_,rfl,rfl,by omega,by omega,by simp only[nD,GD];omega,by omega,V2⟩
   case round =>
    clear V2 Ff n7 mv;obtain⟨j,q2,g,c,L,rfl,rfl,hj0,hj4,hL,hq2,V3⟩:=hrel;by_cases hjp:0<j
    ·have hwj:IntKind.i64.wrap (j - 1)=j - 1:=by rw[kP];omega
     have hw3:IntKind.i64.wrap (3+(k:Int))=3+(k:Int):=by rw[kP];omega
     go_wp2_with fail;refine(av R _ 4 _ V3.rd (by omega) (by omega) (by omega)).mono ?_;rintro e w4 ⟨y,rfl,y0,y1,hR,QK⟩;have QH:=ae (V3.only QK hR);clear hR QK V3;go_upto_if 30 with fail;go_cut [8] (fun s8 wx=>∃ op:Int,s8=J I op/\w4=wx);case first =>
      by_cases hy:y=0
      ·subst hy
       go_wp2;go_meet;exact⟨_,rfl,rfl⟩
      ·have hyb:(y == 0)=QB:=by simpa using hy
       go_wp2;go_meet;exact⟨_,rfl,rfl⟩
     case rest =>
     obtain⟨op,rfl,rfl⟩:=hcut;go_wp2_with fail;refine(av R _ (3+(k:Int)) _ QH.rd (by omega) (by omega) (by omega)).mono ?_;rintro e w5 ⟨y',rfl,ld,ro,hR,QK⟩;have QM:=ae (QH.only QK hR);clear hR QK QH y0 y1;obtain⟨m,rfl⟩:=nX ld;obtain⟨s,hs,DQ⟩:=(n.only QM.o QM.rd).name (k:=m) (by omega);have Fd:(m:Int)<7:=by omega
     go_wp2_with fail;refine(bs _ _).mono ?_;rintro e w6 ⟨rfl,C⟩;have V6:=ae (QM.below C);clear C QM hs Fd ld ro;go_wp2_with fail;refine(bi _ _).mono ?_;rintro e w7 ⟨rfl,C⟩;have V7:=ae (V6.below C);clear C V6;go_wp2_with fail;refine(bi _ _).mono ?_;rintro e QP ⟨rfl,C⟩;have S:=ae (V7.below C);clear C V7;have X:=ae (S.below ((q9 QP).alloc ly (Q #[J I 1,U s,J I 0,J I op,U ⟨#[]⟩,J I 0,J I 2,U ⟨#[]⟩,J I 0] 146)));go_wp2_with (at_builtin;refine fP rfl (.tmp 31) (.tmp 43) rfl E.heap.size g c L (by simp[Act.eval]) X.ir (N QP.heap.size 0 Z) 3 3 [(1,s.data.toList,0),(op,[],0),(2,[],0)] (by simp[Act.eval]) rfl (by simp) (ee QP #[J I 1,U s,J I 0,J I op,U ⟨#[]⟩,J I 0,J I 2,U ⟨#[]⟩,J I 0] _) (by simp only[nD,GD];omega) (by have:=S.o.size;simp;omega) ?_);intro QR c1 W9 hI hG;have V9:=ae (S.add _ hI hG (ef DQ (by simp)));clear hI hG X S;go_wp2;exact⟨⟨j - 1,_,_,_,_,by rw[eI];rfl,rfl,by omega,by omega,by simp only[eI,nD,GD];omega,by omega,V9⟩,by simp only[intOf];omega⟩
    ·go_wp2_with fail
     have QJ:Hid (∀ V:G,(∀ i,i<E.heap.size->i≠R->T i≠(Value.slice O b.length c5).ownBlock->V.heap[i]?=E.heap[i]?)->V.heap[xb]?=T (Q #[Y P LS.length c2,Y O b.length c5] 29 (0,0))/\V.cell? (N xb 1 Z)=T (Y O b.length c5)):=fun V hV=>by
      have h1:=(hV xb n.x.lt (by have:=n.x.hi;omega) fun e=>by
       obtain⟨th,n6⟩:=n.x.tgt.type _ e.symm;have h3:=n.x.box.symm.trans n6
       cases h3).trans n.x.box
      exact⟨h1,by simp[World.cell?,h1]⟩
     refine aD (fun V=>V.heap[xb]?=T (Q #[Y P LS.length c2,Y O b.length c5] 29 (0,0))/\V.cell? (N xb 1 Z)=T (Y O b.length c5)) 14 (by as_aux_lemma=>kernel_rfl) ?_;have QH:=ae (V3.below br.drew);have A:=ae (QJ _ (fun i hi l _=>QH.o.block i hi l));clear V3
     iterate 3
      refine aL 0 (v:=?_) rfl rfl (by as_aux_lemma=>kernel_rfl) (fun _ _ _ h=>h) rfl ?_ A ?_;rotate_left
      ·(intro wz QL;obtain⟨s0,s1⟩:=QL;go_simp)
       (try with_reducible rfl)
      (try simp only[Act.put,nzL])
     refine aL 5 (v:=?_) rfl rfl (by as_aux_lemma=>kernel_rfl) (fun _ _ _ h=>h) rfl ?_ A ?_;rotate_left
     ·(intro wz QL;obtain⟨s0,s1⟩:=QL;go_simp)
      (try with_reducible rfl)
     (try simp only[Act.put,nzL])
     refine af (i:=3) rfl (by as_aux_lemma=>kernel_rfl) (fun K f=>?_);go_simp;go_at_call 81;refine(gK k (by omega) _).mono ?_;rintro e w5 ⟨rfl,C⟩;have QM:=ae (QH.below C);clear C A QH;have A:=ae (QJ _ (fun i hi l _=>QM.o.block i hi l));refine f _ _ (fun _=>A) ?_;clear f K
     (try simp only[Act.put,nzL])
     refine aL 4 (v:=?_) rfl rfl (by as_aux_lemma=>kernel_rfl) (fun _ _ _ h=>h) rfl ?_ A ?_;rotate_left
     ·(intro wz QL;obtain⟨s0,s1⟩:=QL;go_simp)
      (try with_reducible rfl)
     (try simp only[Act.put,nzL])
     generalize (⟨#[116]⟩:ByteArray)++⟨#[dig k]⟩=tn;refine af (i:=6) rfl (by as_aux_lemma=>kernel_rfl) (fun K f=>?_);go_simp;go_at_call 85;refine(bi _ _).mono ?_;rintro e w6 ⟨rfl,C⟩;have V6:=ae (QM.below C);clear C A QM;have A:=ae (QJ _ (fun i hi l _=>V6.o.block i hi l));refine f _ _ (fun _=>A) ?_;clear f K
     (try simp only[Act.put,nzL])
     have X:=ae (V6.below ((q9 w6).alloc ly (Q #[J I 15,U ⟨#[]⟩,J I 0] 146)));clear A;have A:=ae (QJ _ (fun i hi l _=>X.o.block i hi l));refine af (i:=7) rfl (by as_aux_lemma=>kernel_rfl) (fun K f=>?_);go_simp;refine f _ _ (fun _=>A) ?_;clear f K
     (try simp only[Act.put,nzL])
     refine af (i:=8) rfl (by as_aux_lemma=>kernel_rfl) (fun K f=>?_);refine bA rfl (.tmp 50) (.tmp 52) 41 rfl E.heap.size 146 sm (QG #[J I 0,U ⟨#[]⟩,J I 0]) 3 32 Tryz.underlying41 hi Fa Bk Fb rfl (by decide) (Y (T (N g 0 Z)) L.length c) L.length (i3L L) (by simp[Act.eval]) X.ir (N w6.heap.size 0 Z) 1 1 (i3L [(15,[],0)]) (by simp[Act.eval]) rfl (ee w6 #[J I 15,U ⟨#[]⟩,J I 0] _) (uY _) (by unfold maxLen;omega) (by omega) (by have:=X.o.size;omega) ?_;intro v' QP D t _;obtain⟨QR,c1,rfl⟩:∃ QR c1,v'=Y (T (N QR 0 Z)) (L.length+1) c1:=by
      rcases D.2 with ⟨_,h0⟩ | ⟨g',cap,th,hv,_⟩
      ·omega
      ·exact⟨g',cap,hv⟩
     have S:=ae (X.join (M:=[(15,[],0)]) (g':=QR) (c':=c1) (by
      unfold IR;rw[pN,eI]
      exact D) t (by simp))
     clear D t X A;have A:=ae (QJ _ (fun i hi l _=>S.o.block i hi l));refine f _ _ (fun _=>A) ?_;clear f K
     (try simp only[Act.put,nzL])
     obtain⟨QN,fd,V9⟩:∃ QN:List I3,QN.length=L.length+1/\Hid (VS E R QP q2 QR c1 QN QN.length):=⟨L++[(15,[],0)],eI,S⟩
     have H8:Hid (QN.length=L.length+1):=fd;clear S fd;refine af (i:=9) rfl (by as_aux_lemma=>kernel_rfl) (fun K f=>?_);go_simp;refine f _ _ (fun _=>A) ?_;clear f K
     (try simp only[Act.put,nzL])
     refine af (i:=10) rfl (by as_aux_lemma=>kernel_rfl) (fun K f=>?_);go_simp;refine f _ _ (fun _=>A) ?_;clear f K
     (try simp only[Act.put,nzL])
     have H:=ae (V9.below ((q9 QP).alloc ly (Q #[U tn,Y (T (N QR 0 Z)) (L.length+1) c1] 125)));have hxi:=n.x.hi;have qr:=n.x.lt;have la:=n.lo;refine af (i:=11) rfl (by as_aux_lemma=>kernel_rfl) (fun K f=>?_);go_simp;refine f _ _ (fun _=>QJ _ (fun i hi l _=>H.o.block i hi l)) ?_;clear f K A V9
     (try simp only[Act.put,nzL])
     have XA:=ae (n.x.only H.o la.1);have NA:=ae ((H.o.block nb (ai n.nm) (by omega)).trans n.nm);have At:xb≠nb:=fun e=>by have h1:=n.nm;rw[<-e] at h1;have h2:=n.x.box.symm.trans h1;cases h2
     have hgl:=H.ir.lt;have n9:=H.o.size;have OA:Hid ((QP.alloc (Q #[U tn,Y (T (N QR 0 Z)) (L.length+1) c1] 125)).ownsRow (w.heap.size+1) 146 3 (Y (T (N QR 0 Z)) (L.length+1) c1) (L.length+1) (ct (cS QN) (L.length+1))):=by have h:=H.ir;unfold IR at h;rw[pu,H8.out] at h;exact aE h (by omega)
     refine af (i:=12) rfl (by as_aux_lemma=>kernel_rfl) (fun K f=>?_);refine bA rfl (.tmp 46) (.tmp 56) 27 rfl (w.heap.size+1) 125 ph (QG #[U ⟨#[]⟩,Y Z 0 0]) 2 40 Tryz.underlying27 hj E9 Fe DS rfl (by decide) (Y O b.length c5) b.length (b.flatMap bc) (by simp[Act.eval]) XA.tgt.own (N QP.heap.size 0 Z) 1 1 (bc (⟨tn,L.length+1,cS QN⟩,QR,c1)) (by simp[Act.eval]) rfl (fun j u hu=>cL QP _ _ _ j u hu) (by simp[bc,Value.oneCell']) (by unfold maxLen;omega) (by omega) (by omega) ?_;intro v' w9 D t _;obtain⟨a7,c7,rfl⟩:=aP D;have S9:=ae (QJ w9 (fun i hi l Fg=>(t.block i (lj hi n9) Fg).trans (H.o.block i hi l)));obtain⟨c8,b8⟩:=XA.addT (x:=⟨tn,L.length+1,cS QN⟩) (g:=QR) (c:=c1) (fun r W e=>by have:=n.x.tgt.ltg r W;omega) OA D t;have NB:Hid ((w9.setCell (N xb 1 Z) (Y a7 (b.length+1) c7)).heap[nb]?=T (Q crN 9 (0,0))):=(qh _ _ _ _ (fun e=>At e.symm)).trans (fG t XA.tgt.type NA (by decide))
     have CE:Hid (Cr w R xb nb LS (Y P LS.length c2) (w9.setCell (N xb 1 Z) (Y a7 (b.length+1) c7)) q2 (Y a7 (b.length+1) c7) (b++[((⟨tn,L.length+1,cS QN⟩,QR,c1):TR)])):=⟨c8,n.g.add (r:=(⟨tn,L.length+1,cS QN⟩,QR,c1)) (by show L.length+1<=300;omega) (fun j ur=>jn H.tx j (by have:=H8.out;have h2:j<L.length+1:=ur;omega)),(fun r W=>by
      rcases nL.1 W with W | W
      ·exact n.gp r W
      ·rw[hU.1 W];show 1<=L.length+1/\L.length+1<=200;omega),H.rd.low b8 (by omega),(n.o.trans H.o).then (b8.mono (CV _)),NB,la⟩
     clear D t c8 b8 NB NA XA OA H;refine f _ _ (fun _=>S9) ?_;clear f K
     (try simp only[Act.put,nzL])
     refine af (i:=13) rfl (by as_aux_lemma=>kernel_rfl) (fun K f=>?_);go_simp;refine f _ _ (fun _=>S9) ?_;clear f K
     (try simp only[Act.put,nzL])
     obtain⟨s7,t7⟩:=S9.out;have f7:w9.frozen? (N xb 1 Z)=QB:=by simp[World.frozen?,s7]
     have l7:=ai s7;clear s7;refine af (i:=14) rfl (by as_aux_lemma=>kernel_rfl) (fun K f=>?_);go_simp;refine f _ _ (fun h=>absurd rfl h) ?_;clear f K
     (try simp only[Act.put,nzL])
     refine aM (by as_aux_lemma=>kernel_rfl) ?_ _;go_wp2;exact⟨⟨k+1,q2,_,_,by go_num,by omega,by omega,(by show(b++_).length=k+1;rw[eI,HK.out];rfl),CE⟩,by simp[intOf];omega⟩
  ·obtain rfl:k=5:=by omega
   have kr:=QO.x.res;have r0:wr.cell? (N w.heap.size 0 Z)=T (Y Z 0 0):=by simp[World.cell?,kr]
   have r1:wr.cell? (N w.heap.size 1 Z)=T (Y Z 0 0):=by simp[World.cell?,kr]
   have f0:wr.frozen? (N w.heap.size 0 Z)=QB:=by simp[World.frozen?,kr]
   have f1:wr.frozen? (N w.heap.size 1 Z)=QB:=by simp[World.frozen?,kr]
   have l0:=ai kr;clear kr;obtain⟨kc0,kc1⟩:=QO.x.cells;have qr:=QO.x.lt;have BB:=ae (((a8 w.heap.size wr).setCell (p:=(N w.heap.size 0 Z)) ly (Y P LS.length c2)).setCell (p:=(N w.heap.size 1 Z)) ly (Y O b.length c5));have HE:=ae ((QO.x.fin rfl rfl (by have:=ex.out;omega) (by omega) QO.g (Y P LS.length c2) (Y O b.length c5)).mono (CV w.heap.size))
   have GE:Hid (Gd LS.length b.length (be (b.map (·.1)))):=⟨by have:=ex.out;omega,by omega,fun i hi=>by
    have e:be (b.map (·.1)) i=b[i].1:=by simp[be,hi]
    rw[e]
    exact QO.gp _ (gj hi)⟩
   have RE:=ae (QO.rd.low BB n8);have OE:=ae (QO.o.then BB);go_wp2;exact bp (v:=QG #[Y P LS.length c2,Y O b.length c5]) (by simp[results,Tryz.results77,go_sem,r0,r1]) rfl ⟨_,_,_,_,_,_,_,_,rfl,⟨HE,GE⟩,_,by omega,RE,OE⟩
end Go.Proofs.YtamacmnikdejeaaGreatDoor.Vp
