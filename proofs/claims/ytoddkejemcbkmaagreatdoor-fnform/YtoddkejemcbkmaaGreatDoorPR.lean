import Derived.Test.YtoddkejemcbkmaaGreatDoorQU
import Derived.Test.YtoddkejemcbkmaaGreatDoorPD
import Derived.Test.YtoddkejemcbkmaaGreatDoorQZ
import Derived.WalkSmall
set_option maxRecDepth 100000
set_option maxHeartbeats 8000000
open Go renaming Addr.mk->Q,Value.slice->Z,Value.string->U,Value.int->J,Obj.cells->N,IntKind.i64->I,World->M,Value->ZC
open Option renaming none->Y,some->T
open Bool renaming false->ZA
namespace Go.Proofs.YtoddkejemcbkmaaGreatDoor.Vp
open Tryz RowKit
variable {xs:List Nat}{W V:M}
theorem wI (S:Spc)(nm:ByteArray):((cf S nm).1=[]/\5<(cf S nm).2.B)∨∃ZQ e,SpcOk S/\aw nm=true/\bG S 60 [] [] nm=.inl (ZQ,e)/\cf S nm=(ZQ,dP e):=by
 unfold cf;split;{rename_i h;split;{rename_i b e c;exact .inr ⟨b,e,SpcOk.of h.1,h.2,c,rfl⟩};{exact .inl ⟨rfl,by show(5:Int)<6;decide⟩};{exact .inl ⟨rfl,by show(5:Int)<7;decide⟩}};{exact .inl ⟨rfl,by show(5:Int)<9;decide⟩}
open Ca
def Fr (xs:List Nat)(W W':M):Prop:=W.heap.size<=W'.heap.size/\∀k,k<W.heap.size->k ∉ xs->W'.heap[k]?=W.heap[k]?
theorem Fr.trans{ZK:M}(h:Fr xs W V)(g:Fr xs V ZK):Fr xs W ZK:=⟨p9 h.1 g.1,λk h1 h2=>(g.2 k (lj h1 h.1) h2).trans (h.2 k h1 h2)⟩
theorem Fr.F{R:Nat}(h:Only R W V)(hR:R∈xs):Fr xs W V:=⟨h.size,λk h1 h2=>h.block k h1 (λe=>h2 (e ▸ hR))⟩
theorem Fr.set{x j:Nat}(b:x∈xs)(u:ZC):Fr xs W (W.setCell (Q x j Y) u):=⟨by simp,λk _ h2=>qh W (Q x j Y) u k (λe=>h2 ((show k=x from e) ▸ b))⟩
def uZ (xs:List Nat)(b z:Nat):Prop:=∀x∈xs,x<b∨z<=x
theorem Agr.fr{b:Nat}{c:M}(h:Agr b c W)(g:uZ xs b c.heap.size)(f:Fr xs W V):Agr b c V :=
 ⟨p9 h.1 f.1,λk h1 h2=>(f.2 k (lj h2 h.1) (λi=>by rcases g k i with h3|h3<;>omega)).trans (h.2 k h1 h2)⟩
def Gd (n0 n1:Nat)(f1:Nat->Target):Prop:=n0<=250/\n1<=250/\∀i,i<n1->1<=(f1 i).f/\(f1 i).f<=200
def HSg (b:Nat)(w:M)(a0:Option Addr)(n0:Nat)(f0:Nat->Source)(a1:Option Addr)(n1:Nat)(f1:Nat->Target):Prop:=HSp b w a0 n0 f0 a1 n1 f1/\Gd n0 n1 f1
def QSp (lo:Nat)(xs:List Nat)(W:M)(a0:Option Addr)(n0:Nat)(f0:Nat->Source)(a1:Option Addr)(n1:Nat)(f1:Nat->Target):Prop:=∃(b:Nat) (c:M),lo<=b/\HSg b c a0 n0 f0 a1 n1 f1/\Agr b c W/\uZ xs b c.heap.size
def QAc (lo:Nat)(xs:List Nat)(W:M)(a:Option Addr)(n c:Nat)(f:Nat->Deed):Prop:=∃(b:Nat) (g:M),lo<=b/\HAc b g a n c f/\Agr b g W/\uZ xs b g.heap.size
section
variable {lo b:Nat}{xs:List Nat}{W V:M}{a0 a1 a:Option Addr}{n0 n1 n c:Nat}{f0:Nat->Source}{f1:Nat->Target}{f:Nat->Deed}
theorem QSp.fr (h:QSp lo xs W a0 n0 f0 a1 n1 f1)(g:Fr xs W V):QSp lo xs V a0 n0 f0 a1 n1 f1:=by obtain⟨b,c,f,h1,h2,h3⟩:=h;exact⟨b,c,f,h1,h2.fr h3 g,h3⟩
theorem QAc.fr (h:QAc lo xs W a n c f)(j:Fr xs W V):QAc lo xs V a n c f:=by obtain⟨b,g,i,h1,h2,h3⟩:=h;exact⟨b,g,i,h1,h2.fr h3 j,h3⟩
theorem QSp.at (h:QSp lo xs W a0 n0 f0 a1 n1 f1):HSg lo W a0 n0 f0 a1 n1 f1:=by obtain⟨b,w1,c,h1,h2,-⟩:=h;exact⟨(h1.1.agr h2).mono c,h1.2⟩
theorem QAc.at (h:QAc lo xs W a n c f):HAc lo W a n c f:=by obtain⟨b,w1,g,h1,h2,-⟩:=h;exact(h1.agr h2).mono g
theorem QSp.new (h:HSg b W a0 n0 f0 a1 n1 f1)(c:lo<=b)(f:uZ xs b W.heap.size):QSp lo xs W a0 n0 f0 a1 n1 f1:=⟨b,W,c,h,Agr.refl _ _,f⟩
theorem QAc.new (h:HAc b W a n c f)(g:lo<=b)(i:uZ xs b W.heap.size):QAc lo xs W a n c f:=⟨b,W,g,h,Agr.refl _ _,i⟩
end
theorem Fg (S:Spc)(nm:ByteArray):(cf S nm).1.length<=400:=by
 rcases wI S nm with ⟨h1,-⟩|⟨ZQ,e,b,-,h2,h3⟩
 {rw[h1];exact E4 _};{rw[h3];exact zc b h2}
theorem Fh{f c:Nat}{a:Option Addr}{S:Spc}{nm:ByteArray}{R:List DR}(h:DRow W f (Z a R.length c) R)(g:R.map (·.1)=ie S (cf S nm).1):HAc f W a R.length c (dF (ie S (cf S nm).1))/\R.length<=400/\∀i,i<R.length->FitD (dF (ie S (cf S nm).1) i)/\(dF (ie S (cf S nm).1) i).h.size<=2000/\(dF (ie S (cf S nm).1) i).f<=200/\(dF (ie S (cf S nm).1) i).b<=200:=by
 have m:R.length=(cf S nm).1.length:=by have:=AP List.length g;simpa[ie] using this
 have hn:R.length<=400:=by rw[m];exact Fg S nm
 have j:∀r∈R,FitD r.1/\r.1.h.size<=2000/\r.1.f<=200/\r.1.b<=200:=λr b=>EQ S nm r.1 (by rw[<-g];exact List.mem_map_of_mem b);have h1:=Ir h (λr b=>(j r b).1) (by omega);rw[g] at h1;refine⟨h1,hn,λi hi=>?_⟩;obtain⟨r,b,l⟩:=cX hi;rw[<-g,fX b];exact j r l
def crN:Array ZC:=#[U ⟨#[97]⟩,U ⟨#[98]⟩,U ⟨#[99]⟩,U ⟨#[116,48]⟩,U ⟨#[116,49]⟩,U ⟨#[116,50]⟩,U ⟨#[116,51]⟩]
theorem Iz:∀k,k<7->∃s:ByteArray,crN[k]?=T (U s)/\s.size<=5000:=λk hk=>by rcases(show k=0∨k=1∨k=2∨k=3∨k=4∨k=5∨k=6 by omega) with rfl|rfl|rfl|rfl|rfl|rfl|rfl<;>exact⟨_,rfl,by decide⟩
def DHg (w:M)(R q:Nat)(e:Ending)(b:M):Prop:=∃(a0:Option Addr) (n0 c0:Nat) (f0:Nat->Source) (a1:Option Addr) (n1 c1:Nat) (f1:Nat->Target),e=.returned (.agg #[Z a0 n0 c0,Z a1 n1 c1])/\HSg w.heap.size b a0 n0 f0 a1 n1 f1/\∃q':Nat,q'<=q/\Rd b R q'/\Only R w b
structure Cr (w:M)(R xb nb:Nat)(LS:List Source)(v0:ZC)(W:M)(q:Nat)(v1:ZC)(RT:List TR):Prop where
 x:SpX w.heap.size xb (w.heap.size+1) W v0 v1 LS RT
 g:GX RT
 gp:∀r∈RT,1<=r.1.f/\r.1.f<=200
 rd:Rd W R q
 o:Only R w W
 nm:W.heap[nb]?=T (N crN 9 (0,0))
 lo:R<w.heap.size/\w.heap.size<nb
section
variable {w W W':M}{R xb nb q q':Nat}{LS:List Source}{v0 v1:ZC}{RT:List TR}
theorem Cr.F (h:Cr w R xb nb LS v0 W q v1 RT)(b:Only R W W')(hR:Rd W' R q'):Cr w R xb nb LS v0 W' q' v1 RT:=by obtain⟨c,l2⟩:=h.lo;exact⟨h.x.F b c,h.g,h.gp,hR,h.o.trans b,(b.block _ (ah h.nm) (by omega)).trans h.nm,h.lo⟩
theorem Cr.aa (h:Cr w R xb nb LS v0 W q v1 RT)(b:Below W.heap.size W W'):Cr w R xb nb LS v0 W' q v1 RT:=h.F (Only.u b) (h.rd.aa b ly)
theorem Cr.e (h:Cr w R xb nb LS v0 W q v1 RT){k:Nat}(b:k<7):∃s:ByteArray,W.cell? (Q nb k Y)=T (U s)/\s.size<=5000:=by obtain⟨s,h1,h2⟩:=Iz k b;have hb:=h.nm;exact⟨s,by simp[World.cell?,hb,h1],h2⟩
end
theorem sS (R p:Nat)(w:M)(hR:Rd w R p)(hp:p<=20000):Calls Tryz.prog 39 #[.pointer (T (Q R 0 Y))] w λe w'=>DHg w R (p+100) e w':=by
 obtain⟨Jp,hj,th,GS,Id⟩:=LY gO;obtain⟨Hx,hi,Js,Jq,Fm⟩:=oJ;have mv:=hR.lt;obtain⟨LS,bt⟩:∃LS:List Source,LS=[⟨⟨#[97]⟩,⟨#[65]⟩⟩,⟨⟨#[98]⟩,⟨#[66]⟩⟩,⟨⟨#[99]⟩,⟨#[67]⟩⟩]:=⟨_,rfl⟩
 have aq:LS.length=3:=by rw[bt];rfl
 have C0:Hid (Cr w R (w.heap.size+1+1) (w.heap.size+1+1+1) LS (Z (T (Q (w.heap.size+1) 0 Y)) 3 3) ((((w.alloc (N #[Z Y 0 0,Z Y 0 0] 44)).alloc (N #[U ⟨#[97]⟩,U ⟨#[65]⟩,U ⟨#[98]⟩,U ⟨#[66]⟩,U ⟨#[99]⟩,U ⟨#[67]⟩] 122)).alloc (N #[Z (T (Q (w.heap.size+1) 0 Y)) 3 3,Z Y 0 0] 44)).alloc (N crN 9)) p (Z Y 0 0) []):=by
  have DS:(w.alloc (N #[Z Y 0 0,Z Y 0 0] 44)).heap.size=w.heap.size+1:=by simp
  have Bk:((w.alloc (N #[Z Y 0 0,Z Y 0 0] 44)).alloc (N #[U ⟨#[97]⟩,U ⟨#[65]⟩,U ⟨#[98]⟩,U ⟨#[66]⟩,U ⟨#[99]⟩,U ⟨#[67]⟩] 122)).heap.size=w.heap.size+1+1:=by simp
  have Fn:(((w.alloc (N #[Z Y 0 0,Z Y 0 0] 44)).alloc (N #[U ⟨#[97]⟩,U ⟨#[65]⟩,U ⟨#[98]⟩,U ⟨#[66]⟩,U ⟨#[99]⟩,U ⟨#[67]⟩] 122)).alloc (N #[Z (T (Q (w.heap.size+1) 0 Y)) 3 3,Z Y 0 0] 44)).heap.size=w.heap.size+1+1+1:=by simp
  have k1:=n6 w (N #[Z Y 0 0,Z Y 0 0] 44);have k2:=n6 (w.alloc (N #[Z Y 0 0,Z Y 0 0] 44)) (N #[U ⟨#[97]⟩,U ⟨#[65]⟩,U ⟨#[98]⟩,U ⟨#[66]⟩,U ⟨#[99]⟩,U ⟨#[67]⟩] 122);rw[DS] at k2;have BQ:=(eL (w.heap.size+1) (w.alloc (N #[Z Y 0 0,Z Y 0 0] 44))).alloc (by omega) (N #[U ⟨#[97]⟩,U ⟨#[65]⟩,U ⟨#[98]⟩,U ⟨#[66]⟩,U ⟨#[99]⟩,U ⟨#[67]⟩] 122);have h:=xG (LS:=LS) (base:=w.heap.size+1) (base':=w.heap.size+1) ((BQ.block w.heap.size (AI _)).trans k1) (AI _) ly (by omega) (v0:=Z (T (Q (w.heap.size+1) 0 Y)) 3 3) (by subst bt;exact⟨rfl,.inr ⟨w.heap.size+1,3,_,rfl,n8 _,k2,n8 _,by unfold maxLen;omega,rfl,rfl⟩⟩) (dd _ _);rw[Bk] at h;have BW:=(((q9 w).alloc ly (N #[Z Y 0 0,Z Y 0 0] 44)).alloc (by omega) (N #[U ⟨#[97]⟩,U ⟨#[65]⟩,U ⟨#[98]⟩,U ⟨#[66]⟩,U ⟨#[99]⟩,U ⟨#[67]⟩] 122)).alloc (by omega) (N #[Z (T (Q (w.heap.size+1) 0 Y)) 3 3,Z Y 0 0] 44);have kn:=n6 (((w.alloc (N #[Z Y 0 0,Z Y 0 0] 44)).alloc (N #[U ⟨#[97]⟩,U ⟨#[65]⟩,U ⟨#[98]⟩,U ⟨#[66]⟩,U ⟨#[99]⟩,U ⟨#[67]⟩] 122)).alloc (N #[Z (T (Q (w.heap.size+1) 0 Y)) 3 3,Z Y 0 0] 44)) (N crN 9);rw[Fn] at kn;have BZ:=BW.alloc (by omega) (N crN 9);exact⟨h.aa (br.alloc ly _) ly,λ_ h=>absurd h nj,λ_ h=>absurd h nj,hR.aa BZ ly,Only.u BZ,kn,by omega⟩
 clear hR bt;go_enter func39,ntmps39;go_wp2_with fail;rw[show(#[U ⟨#[97]⟩,U ⟨#[98]⟩,U ⟨#[99]⟩,U ⟨#[116,48]⟩,U ⟨#[116,49]⟩,U ⟨#[116,50]⟩,U ⟨#[116,51]⟩]:Array ZC)=crN from rfl];generalize World.alloc (World.alloc (World.alloc (World.alloc w _) _) _) _=W0 at C0 ⊢;obtain⟨ZN,c2,C1⟩:∃(ZN:Option Addr) (c2:Nat),Hid (Cr w R (w.heap.size+1+1) (w.heap.size+1+1+1) LS (Z ZN LS.length c2) W0 p (Z Y 0 0) []):=⟨T (Q (w.heap.size+1) 0 Y),3,by rw[aq];exact C0⟩
 clear C0;generalize w.heap.size+1+1+1=nb at C1 ⊢;generalize w.heap.size+1+1=xb at C1 ⊢;have ld:Hid (LS.length=3):=aq;clear aq;go_loopw [5] (λv wr=>∃(k q:Nat) (v1:ZC) (b:List TR),v=J I k/\k<=5/\q<=p+9*k/\Hid (b.length=k)/\Hid (Cr w R xb nb LS (Z ZN LS.length c2) wr q v1 b)) (λv _=>5 - (intOf v).toNat);case atStart=>exact⟨0,p,_,[],rfl,by omega,by omega,rfl,C1⟩
 case round =>
  clear C1;obtain⟨k,q,v1,b,rfl,hk,hq,HK,ZP⟩:=hrel;obtain⟨O,c5,rfl⟩:=aU ZP.x.K.i;have hrn:b.length<=5:=by have:=HK.out;omega
  by_cases hlt:k<5
  ·have hwk:IntKind.i64.wrap ((k:Int)+1)=(k:Int)+1:=by rw[wA];omega
   go_wp2_with fail;refine(bj _ _).mono ?_;rintro e E ⟨rfl,C⟩;have l:=ae (ZP.aa C);clear C ZP;have V1:Hid (VS E R (E.alloc (N #[J I 1,U ⟨#[]⟩,J I 0] 90)) q E.heap.size 1 [(1,[],0)] 1):=by have B:=(q9 E).alloc ly (N #[J I 1,U ⟨#[]⟩,J I 0] 90);exact⟨l.rd.aa B ly,Only.u B,IR.new E _ ly [(1,[],0)] _ rfl 1 rfl (by omega),by simp,l.rd.lt,n8 _⟩
   go_wp2_with fail;generalize World.alloc E _=W1 at V1 ⊢;refine(au R _ 4 _ V1.rd (by omega) (by omega) (by omega)).mono ?_;rintro e w2 ⟨z,rfl,ph,qr,hR,ZM⟩;have V2:=ae (V1.F ZM hR);clear hR ZM V1;have ro:IntKind.i64.wrap (1+z)=1+z:=by rw[wA];omega
   go_wp2_with fail;go_loopw [6,7] (λc6 k7 wx=>∃(j:Int) (q' g c:Nat) (L:List I3),c6=Z (T (Q g 0 Y)) L.length c/\k7=J I j/\0<=j/\j<=4/\(L.length:Int)+3*j<=13/\(q':Int)+2*j<=(q:Int)+9/\Hid (VS E R wx q' g c L L.length)) (λ_ k7 _=>(intOf k7).toNat);case atStart=>exact⟨1+z,_,_,_,_,rfl,rfl,by omega,by omega,by simp only[eT,nX];omega,by omega,V2⟩
   case round =>
    clear V2 ro ph qr;obtain⟨j,q2,g,c,L,rfl,rfl,hj0,hj4,hL,hq2,V3⟩:=hrel;by_cases hjp:0<j
    ·have hwj:IntKind.i64.wrap (j - 1)=j - 1:=by rw[wA];omega
     have hw3:IntKind.i64.wrap (3+(k:Int))=3+(k:Int):=by rw[wA];omega
     go_wp2_with fail;refine(au R _ 4 _ V3.rd (by omega) (by omega) (by omega)).mono ?_;rintro e w4 ⟨y,rfl,y0,y1,hR,ZM⟩;have ZK:=ae (V3.F ZM hR);clear hR ZM V3;go_upto_if 30 with fail;go_cut [8] (λs8 wx=>∃op:Int,s8=J I op/\w4=wx);case first =>
      by_cases hy:y=0;{subst hy;go_wp2;go_meet;exact⟨_,rfl,rfl⟩}
      ·have hyb:(y == 0)=ZA:=by simpa using hy
       go_wp2;go_meet;exact⟨_,rfl,rfl⟩
     case rest =>
     obtain⟨op,rfl,rfl⟩:=hcut;go_wp2_with fail;refine(au R _ (3+(k:Int)) _ ZK.rd (by omega) (by omega) (by omega)).mono ?_;rintro e w5 ⟨y',rfl,dg,Fk,hR,ZM⟩;have ZL:=ae (ZK.F ZM hR);clear hR ZM ZK y0 y1;obtain⟨m,rfl⟩:=BC dg;obtain⟨s,hs,sm⟩:=(l.F ZL.o ZL.rd).e (k:=m) (by omega);have Fd:(m:Int)<7:=by omega
     go_wp2_with fail;refine(bj _ _).mono ?_;rintro e w6 ⟨rfl,C⟩;have V6:=ae (ZL.aa C);clear C ZL hs Fd dg Fk;go_wp2_with fail;refine(aV _ _).mono ?_;rintro e w7 ⟨rfl,C⟩;have V7:=ae (V6.aa C);clear C V6;go_wp2_with fail;refine(aV _ _).mono ?_;rintro e G ⟨rfl,C⟩;have S:=ae (V7.aa C);clear C V7;have X:=ae (S.aa ((q9 G).alloc ly (N #[J I 1,U s,J I 0,J I op,U ⟨#[]⟩,J I 0,J I 2,U ⟨#[]⟩,J I 0] 90)));go_wp2_with (at_builtin;refine gF rfl (.tmp 31) (.tmp 43) rfl E.heap.size g c L (by simp[Act.eval]) X.ir (Q G.heap.size 0 Y) 3 3 [(1,s.data.toList,0),(op,[],0),(2,[],0)] (by simp[Act.eval]) rfl (by simp) (dx G #[J I 1,U s,J I 0,J I op,U ⟨#[]⟩,J I 0,J I 2,U ⟨#[]⟩,J I 0] _) (by simp only[eT,nX];omega) (by have:=S.o.size;simp;omega) ?_);intro F c1 W9 hI hG;have V9:=ae (S.add _ hI hG (eI sm (by simp)));clear hI hG X S;go_wp2;exact⟨⟨j - 1,_,_,_,_,by rw[cM];rfl,rfl,by omega,by omega,by simp only[cM,eT,nX];omega,by omega,V9⟩,by simp only[intOf];omega⟩
    ·go_wp2_with fail;have ZJ:Hid (∀V:M,(∀i,i<E.heap.size->i≠R->T i≠(Value.slice O b.length c5).ownBlock->V.heap[i]?=E.heap[i]?)->V.heap[xb]?=T (N #[Z ZN LS.length c2,Z O b.length c5] 44 (0,0))/\V.cell? (Q xb 1 Y)=T (Z O b.length c5)):=λV hV=>by
      have h1:=(hV xb l.x.lt (by have:=l.x.hi;omega) λe=>by
       obtain⟨Jr,n9⟩:=l.x.K.type _ e.symm;have h3:=l.x.H.symm.trans n9
       cases h3).trans l.x.H
      exact⟨h1,by simp[World.cell?,h1]⟩
     refine aE (λV=>V.heap[xb]?=T (N #[Z ZN LS.length c2,Z O b.length c5] 44 (0,0))/\V.cell? (Q xb 1 Y)=T (Z O b.length c5)) 14 (by kernel_rfl) ?_;have ZK:=ae (V3.aa br.drew);have A:=ae (ZJ _ (λi hi n _=>ZK.o.block i hi n));clear V3;iterate 3
      refine aI 0 (v:=?_) rfl rfl (by kernel_rfl) (λ_ _ _ h=>h) rfl ?_ A ?_;rotate_left
      ·(rintro wz ⟨s0,s1⟩;go_simp)
       (try with_reducible rfl)
      (try simp only[Act.put,nzL])
     refine aI 5 (v:=?_) rfl rfl (by kernel_rfl) (λ_ _ _ h=>h) rfl ?_ A ?_;rotate_left
     ·(rintro wz ⟨s0,s1⟩;go_simp)
      (try with_reducible rfl)
     (try simp only[Act.put,nzL])
     refine ag (i:=3) rfl (by kernel_rfl) λK f=>?_;go_simp;go_at_call 29;refine(iI k (by omega) _).mono ?_;rintro e w5 ⟨rfl,C⟩;have ZL:=ae (ZK.aa C);clear C A ZK;have A:=ae (ZJ _ (λi hi n _=>ZL.o.block i hi n));refine f _ _ (λ_=>A) ?_;clear f K
     (try simp only[Act.put,nzL])
     refine aI 4 (v:=?_) rfl rfl (by kernel_rfl) (λ_ _ _ h=>h) rfl ?_ A ?_;rotate_left
     ·(rintro wz ⟨s0,s1⟩;go_simp)
      (try with_reducible rfl)
     (try simp only[Act.put,nzL])
     generalize (⟨#[116]⟩:ByteArray)++⟨#[dig k]⟩=ZI;refine ag (i:=6) rfl (by kernel_rfl) λK f=>?_;go_simp;go_at_call 43;refine(aV _ _).mono ?_;rintro e w6 ⟨rfl,C⟩;have V6:=ae (ZL.aa C);clear C A ZL;have A:=ae (ZJ _ (λi hi n _=>V6.o.block i hi n));refine f _ _ (λ_=>A) ?_;clear f K
     (try simp only[Act.put,nzL])
     have X:=ae (V6.aa ((q9 w6).alloc ly (N #[J I 15,U ⟨#[]⟩,J I 0] 90)));clear A;have A:=ae (ZJ _ (λi hi n _=>X.o.block i hi n));refine ag (i:=7) rfl (by kernel_rfl) λK f=>?_;go_simp;refine f _ _ (λ_=>A) ?_;clear f K
     (try simp only[Act.put,nzL])
     refine ag (i:=8) rfl (by kernel_rfl) (λK f=>?_);refine aA rfl (.tmp 50) (.tmp 52) 57 rfl E.heap.size 90 Hx (.agg #[J I 0,U ⟨#[]⟩,J I 0]) 3 32 PU hi Js Jq Fm rfl (by decide) (Z (T (Q g 0 Y)) L.length c) L.length (i3L L) (by simp[Act.eval]) X.ir (Q w6.heap.size 0 Y) 1 1 (i3L [(15,[],0)]) (by simp[Act.eval]) rfl (dx w6 #[J I 15,U ⟨#[]⟩,J I 0] _) (xc _) (by unfold maxLen;omega) (by omega) (by have:=X.o.size;omega) ?_;intro v' G D t _;obtain⟨F,c1,rfl⟩:∃F c1,v'=Z (T (Q F 0 Y)) (L.length+1) c1:=by
      rcases D.2 with ⟨_,h0⟩|⟨g',cap,Jr,hv,_⟩
      {omega};{exact⟨g',cap,hv⟩}
     have S:=ae (X.join (ZQ:=[(15,[],0)]) (g':=F) (c':=c1) (by
      unfold IR;rw[qx,cM]
      exact D) t (by simp))
     clear D t X A;have A:=ae (ZJ _ (λi hi n _=>S.o.block i hi n));refine f _ _ (λ_=>A) ?_;clear f K
     (try simp only[Act.put,nzL])
     obtain⟨ZO,la,V9⟩:∃ZO:List I3,ZO.length=L.length+1/\Hid (VS E R G q2 F c1 ZO ZO.length):=⟨L++[(15,[],0)],cM,S⟩
     have H8:Hid (ZO.length=L.length+1):=la;clear S la;refine ag (i:=9) rfl (by kernel_rfl) λK f=>?_;go_simp;refine f _ _ (λ_=>A) ?_;clear f K
     (try simp only[Act.put,nzL])
     refine ag (i:=10) rfl (by kernel_rfl) λK f=>?_;go_simp;refine f _ _ (λ_=>A) ?_;clear f K
     (try simp only[Act.put,nzL])
     have H:=ae (V9.aa ((q9 G).alloc ly (N #[U ZI,Z (T (Q F 0 Y)) (L.length+1) c1] 125)));have hxi:=l.x.hi;have DH:=l.x.lt;have fd:=l.lo;refine ag (i:=11) rfl (by kernel_rfl) λK f=>?_;go_simp;refine f _ _ (λ_=>ZJ _ (λi hi n _=>H.o.block i hi n)) ?_;clear f K A V9
     (try simp only[Act.put,nzL])
     have XA:=ae (l.x.F H.o fd.1);have NA:=ae ((H.o.block nb (ah l.nm) (by omega)).trans l.nm);have At:xb≠nb:=λe=>by have h1:=l.nm;rw[<-e] at h1;have h2:=l.x.H.symm.trans h1;cases h2
     have hgl:=H.ir.lt;have DE:=H.o.size;have OA:Hid ((G.alloc (N #[U ZI,Z (T (Q F 0 Y)) (L.length+1) c1] 125)).ownsRow (w.heap.size+1) 90 3 (Z (T (Q F 0 Y)) (L.length+1) c1) (L.length+1) (bH (dh ZO) (L.length+1))):=by have h:=H.ir;unfold IR at h;rw[uC,H8.out] at h;exact aC h (by omega)
     refine ag (i:=12) rfl (by kernel_rfl) λK f=>?_;refine aA rfl (.tmp 46) (.tmp 56) 42 rfl (w.heap.size+1) 125 Jp (.agg #[U ⟨#[]⟩,Z Y 0 0]) 2 40 OJ hj th GS Id rfl (by decide) (Z O b.length c5) b.length (b.flatMap bi) (by simp[Act.eval]) XA.K.i (Q G.heap.size 0 Y) 1 1 (bi (⟨ZI,L.length+1,dh ZO⟩,F,c1)) (by simp[Act.eval]) rfl (λj u hu=>dt G _ _ _ j u hu) (by simp[bi,Value.oneCell']) (by unfold maxLen;omega) (by omega) (by omega) ?_;intro v' w9 D t _;obtain⟨a7,c7,rfl⟩:=aU D;have S9:=ae (ZJ w9 (λi hi n ur=>(t.block i (lj hi DE) ur).trans (H.o.block i hi n)));obtain⟨c8,b8⟩:=XA.addT (x:=⟨ZI,L.length+1,dh ZO⟩) (g:=F) (c:=c1) (λr W e=>by have:=l.x.K.ltg r W;omega) OA D t;have NB:Hid ((w9.setCell (Q xb 1 Y) (Z a7 (b.length+1) c7)).heap[nb]?=T (N crN 9 (0,0))):=(qh _ _ _ _ (λe=>At e.symm)).trans (od t XA.K.type NA (by decide))
     have CE:Hid (Cr w R xb nb LS (Z ZN LS.length c2) (w9.setCell (Q xb 1 Y) (Z a7 (b.length+1) c7)) q2 (Z a7 (b.length+1) c7) (b++[((⟨ZI,L.length+1,dh ZO⟩,F,c1):TR)])):=⟨c8,l.g.add (r:=(⟨ZI,L.length+1,dh ZO⟩,F,c1)) (by show L.length+1<=300;omega) (λj DQ=>me H.tx j (by have:=H8.out;have h2:j<L.length+1:=DQ;omega)),(λr W=>by
      rcases p8.1 W with W|W;{exact l.gp r W}
      ·rw[nL.1 W];show 1<=L.length+1/\L.length+1<=200;omega),H.rd.low b8 (by omega),(l.o.trans H.o).then (b8.mono (F3 _)),NB,fd⟩
     clear D t c8 b8 NB NA XA OA H;refine f _ _ (λ_=>S9) ?_;clear f K
     (try simp only[Act.put,nzL])
     refine ag (i:=13) rfl (by kernel_rfl) λK f=>?_;go_simp;refine f _ _ (λ_=>S9) ?_;clear f K
     (try simp only[Act.put,nzL])
     obtain⟨s7,t7⟩:=S9.out;have f7:w9.frozen? (Q xb 1 Y)=ZA:=by simp[World.frozen?,s7]
     have l7:=ah s7;clear s7;refine ag (i:=14) rfl (by kernel_rfl) λK f=>?_;go_simp;refine f _ _ (λh=>absurd rfl h) ?_;clear f K
     (try simp only[Act.put,nzL])
     refine aW (by kernel_rfl) ?_ _;go_wp2;exact⟨⟨k+1,q2,_,_,by go_num,by omega,by omega,(by show(b++_).length=k+1;rw[cM,HK.out];rfl),CE⟩,by simp[intOf];omega⟩
  ·obtain rfl:k=5:=by omega
   have kr:=ZP.x.res;have r0:wr.cell? (Q w.heap.size 0 Y)=T (Z Y 0 0):=by simp[World.cell?,kr]
   have r1:wr.cell? (Q w.heap.size 1 Y)=T (Z Y 0 0):=by simp[World.cell?,kr]
   have f0:wr.frozen? (Q w.heap.size 0 Y)=ZA:=by simp[World.frozen?,kr]
   have f1:wr.frozen? (Q w.heap.size 1 Y)=ZA:=by simp[World.frozen?,kr]
   have l0:=ah kr;clear kr;obtain⟨kc0,kc1⟩:=ZP.x.cells;have DH:=ZP.x.lt;have BB:=ae (((eL w.heap.size wr).setCell (p:=(Q w.heap.size 0 Y)) ly (Z ZN LS.length c2)).setCell (p:=(Q w.heap.size 1 Y)) ly (Z O b.length c5));have HE:=ae ((ZP.x.fin rfl rfl (by have:=ld.out;omega) (by omega) ZP.g (Z ZN LS.length c2) (Z O b.length c5)).mono (F3 w.heap.size))
   have GE:Hid (Gd LS.length b.length (bY (b.map (·.1)))):=⟨by have:=ld.out;omega,by omega,λi hi=>by
    have e:bY (b.map (·.1)) i=b[i].1:=by simp[bY,hi]
    rw[e]
    exact ZP.gp _ (gz hi)⟩
   have RE:=ae (ZP.rd.low BB mv);have OE:=ae (ZP.o.then BB);go_wp2;exact bp (v:=.agg #[Z ZN LS.length c2,Z O b.length c5]) (by simp[results,results39,go_sem,r0,r1]) rfl ⟨_,_,_,_,_,_,_,_,rfl,⟨HE,GE⟩,_,by omega,RE,OE⟩
