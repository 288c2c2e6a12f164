import Derived.Test.YtpmnbjkjpnclaaaGreatDoorQW
import Derived.Test.YtpmnbjkjpnclaaaGreatDoorPF
import Derived.Test.YtpmnbjkjpnclaaaGreatDoorPB
import Derived.WalkSmall
set_option maxRecDepth 100000
set_option maxHeartbeats 8000000
open Go renaming Addr.mk->Q,Value.slice->Z,Value.string->Y,Value.int->J,Obj.cells->N,IntKind.i64->I,World->M,Value->ZC
open Option renaming none->U,some->T
open Bool renaming false->ZA
namespace Go.Proofs.YtpmnbjkjpnclaaaGreatDoor.Vp
open Tryz RowKit
variable {W V:M}{xs:List Nat}
theorem xB (S:Spc)(nm:ByteArray):((ci S nm).1=[]/\5<(ci S nm).2.E)∨∃ZQ e,SpcOk S/\aw nm=true/\bH S 60 [] [] nm=.inl (ZQ,e)/\ci S nm=(ZQ,dQ e):=by
 unfold ci;split;{rename_i h;split;{rename_i b e c;exact .inr ⟨b,e,SpcOk.of h.1,h.2,c,rfl⟩};{exact .inl ⟨rfl,by show(5:Int)<6;decide⟩};{exact .inl ⟨rfl,by show(5:Int)<7;decide⟩}};{exact .inl ⟨rfl,by show(5:Int)<9;decide⟩}
open Ca
def Fr (xs:List Nat)(W W':M):Prop:=W.heap.size<=W'.heap.size/\∀k,k<W.heap.size->k ∉ xs->W'.heap[k]?=W.heap[k]?
theorem Fr.trans{ZJ:M}(h:Fr xs W V)(g:Fr xs V ZJ):Fr xs W ZJ:=⟨p7 h.1 g.1,λk h1 h2=>(g.2 k (lj h1 h.1) h2).trans (h.2 k h1 h2)⟩
theorem Fr.F{R:Nat}(h:Only R W V)(hR:R∈xs):Fr xs W V:=⟨h.size,λk h1 h2=>h.block k h1 (λe=>h2 (e ▸ hR))⟩
theorem Fr.set{x j:Nat}(b:x∈xs)(u:ZC):Fr xs W (W.setCell (Q x j U) u):=⟨by simp,λk _ h2=>qh W (Q x j U) u k (λe=>h2 ((show k=x from e) ▸ b))⟩
def vT (xs:List Nat)(b z:Nat):Prop:=∀x∈xs,x<b∨z<=x
theorem Agr.fr{b:Nat}{c:M}(h:Agr b c W)(g:vT xs b c.heap.size)(f:Fr xs W V):Agr b c V :=
 ⟨p7 h.1 f.1,λk h1 h2=>(f.2 k (lj h2 h.1) (λi=>by rcases g k i with h3|h3<;>omega)).trans (h.2 k h1 h2)⟩
def Gd (n0 n1:Nat)(f1:Nat->Target):Prop:=n0<=250/\n1<=250/\∀i,i<n1->1<=(f1 i).f/\(f1 i).f<=200
def HSg (b:Nat)(w:M)(a0:Option Addr)(n0:Nat)(f0:Nat->Source)(a1:Option Addr)(n1:Nat)(f1:Nat->Target):Prop:=HSp b w a0 n0 f0 a1 n1 f1/\Gd n0 n1 f1
def QSp (lo:Nat)(xs:List Nat)(W:M)(a0:Option Addr)(n0:Nat)(f0:Nat->Source)(a1:Option Addr)(n1:Nat)(f1:Nat->Target):Prop:=∃(b:Nat) (c:M),lo<=b/\HSg b c a0 n0 f0 a1 n1 f1/\Agr b c W/\vT xs b c.heap.size
def QAc (lo:Nat)(xs:List Nat)(W:M)(a:Option Addr)(n c:Nat)(f:Nat->Deed):Prop:=∃(b:Nat) (g:M),lo<=b/\HAc b g a n c f/\Agr b g W/\vT xs b g.heap.size
section
variable {lo b:Nat}{xs:List Nat}{W V:M}{a0 a1 a:Option Addr}{n0 n1 n c:Nat}{f0:Nat->Source}{f1:Nat->Target}{f:Nat->Deed}
theorem QSp.fr (h:QSp lo xs W a0 n0 f0 a1 n1 f1)(c:Fr xs W V):QSp lo xs V a0 n0 f0 a1 n1 f1:=by obtain⟨b,g,f,h1,h2,h3⟩:=h;exact⟨b,g,f,h1,h2.fr h3 c,h3⟩
theorem QAc.fr (h:QAc lo xs W a n c f)(g:Fr xs W V):QAc lo xs V a n c f:=by obtain⟨b,j,i,h1,h2,h3⟩:=h;exact⟨b,j,i,h1,h2.fr h3 g,h3⟩
theorem QSp.at (h:QSp lo xs W a0 n0 f0 a1 n1 f1):HSg lo W a0 n0 f0 a1 n1 f1:=by obtain⟨b,w1,c,h1,h2,-⟩:=h;exact⟨(h1.1.agr h2).mono c,h1.2⟩
theorem QAc.at (h:QAc lo xs W a n c f):HAc lo W a n c f:=by obtain⟨b,w1,g,h1,h2,-⟩:=h;exact(h1.agr h2).mono g
theorem QSp.new (h:HSg b W a0 n0 f0 a1 n1 f1)(c:lo<=b)(f:vT xs b W.heap.size):QSp lo xs W a0 n0 f0 a1 n1 f1:=⟨b,W,c,h,Agr.refl _ _,f⟩
theorem QAc.new (h:HAc b W a n c f)(g:lo<=b)(i:vT xs b W.heap.size):QAc lo xs W a n c f:=⟨b,W,g,h,Agr.refl _ _,i⟩
end
theorem F8 (S:Spc)(nm:ByteArray):(ci S nm).1.length<=400:=by
 rcases xB S nm with ⟨h1,-⟩|⟨ZQ,e,b,-,h2,h3⟩
 {rw[h1];exact E4 _};{rw[h3];exact Ad b h2}
theorem F9{f c:Nat}{a:Option Addr}{S:Spc}{nm:ByteArray}{R:List DR}(h:DRow W f (Z a R.length c) R)(g:R.map (·.1)=ik S (ci S nm).1):HAc f W a R.length c (dF (ik S (ci S nm).1))/\R.length<=400/\∀i,i<R.length->FitD (dF (ik S (ci S nm).1) i)/\(dF (ik S (ci S nm).1) i).B.size<=2000/\(dF (ik S (ci S nm).1) i).f<=200/\(dF (ik S (ci S nm).1) i).b<=200:=by
 have m:R.length=(ci S nm).1.length:=by have:=wA List.length g;simpa[ik] using this
 have hn:R.length<=400:=by rw[m];exact F8 S nm
 have j:∀r∈R,FitD r.1/\r.1.B.size<=2000/\r.1.f<=200/\r.1.b<=200:=λr b=>FH S nm r.1 (by rw[<-g];exact List.mem_map_of_mem b);have h1:=JA h (λr b=>(j r b).1) (by omega);rw[g] at h1;refine⟨h1,hn,λi hi=>?_⟩;obtain⟨r,b,l⟩:=cZ hi;rw[<-g,gn b];exact j r l
def crN:Array ZC:=#[Y ⟨#[97]⟩,Y ⟨#[98]⟩,Y ⟨#[99]⟩,Y ⟨#[116,48]⟩,Y ⟨#[116,49]⟩,Y ⟨#[116,50]⟩,Y ⟨#[116,51]⟩]
theorem JH:∀k,k<7->∃s:ByteArray,crN[k]?=T (Y s)/\s.size<=5000:=λk hk=>by rcases(show k=0∨k=1∨k=2∨k=3∨k=4∨k=5∨k=6 by omega) with rfl|rfl|rfl|rfl|rfl|rfl|rfl<;>exact⟨_,rfl,by decide⟩
def DHg (w:M)(R q:Nat)(e:Ending)(b:M):Prop:=∃(a0:Option Addr) (n0 c0:Nat) (f0:Nat->Source) (a1:Option Addr) (n1 c1:Nat) (f1:Nat->Target),e=.returned (.agg #[Z a0 n0 c0,Z a1 n1 c1])/\HSg w.heap.size b a0 n0 f0 a1 n1 f1/\∃q':Nat,q'<=q/\Rd b R q'/\Only R w b
structure Cr (w:M)(R xb nb:Nat)(LS:List Source)(v0:ZC)(W:M)(q:Nat)(v1:ZC)(RT:List TR):Prop where
 x:SpX w.heap.size xb (w.heap.size+1) W v0 v1 LS RT
 g:GX RT
 gp:∀r∈RT,1<=r.1.f/\r.1.f<=200
 rd:Rd W R q
 o:Only R w W
 nm:W.heap[nb]?=T (N crN 9 (0,0))
 lo:R<w.heap.size/\w.heap.size<nb
section
variable {w W W':M}{R xb nb q q':Nat}{LS:List Source}{v0 v1:ZC}{RT:List TR}
theorem Cr.F (h:Cr w R xb nb LS v0 W q v1 RT)(b:Only R W W')(hR:Rd W' R q'):Cr w R xb nb LS v0 W' q' v1 RT:=by obtain⟨c,l2⟩:=h.lo;exact⟨h.x.F b c,h.g,h.gp,hR,h.o.trans b,(b.block _ (ag h.nm) (by omega)).trans h.nm,h.lo⟩
theorem Cr.aa (h:Cr w R xb nb LS v0 W q v1 RT)(b:Below W.heap.size W W'):Cr w R xb nb LS v0 W' q v1 RT:=h.F (Only.u b) (h.rd.aa b ly)
theorem Cr.e (h:Cr w R xb nb LS v0 W q v1 RT){k:Nat}(b:k<7):∃s:ByteArray,W.cell? (Q nb k U)=T (Y s)/\s.size<=5000:=by obtain⟨s,h1,h2⟩:=JH k b;have hb:=h.nm;exact⟨s,by simp[World.cell?,hb,h1],h2⟩
end
theorem tM (R p:Nat)(w:M)(hR:Rd w R p)(hp:p<=20000):Calls Tryz.prog 121 #[.pointer (T (Q R 0 U))] w λe w'=>DHg w R (p+100) e w':=by
 obtain⟨JT,hj,Fk,Fn,GS⟩:=L8 gR;obtain⟨Kt,hi,sm,Fm,DE⟩:=oX;have qr:=hR.lt;obtain⟨LS,aq⟩:∃LS:List Source,LS=[⟨⟨#[97]⟩,⟨#[65]⟩⟩,⟨⟨#[98]⟩,⟨#[66]⟩⟩,⟨⟨#[99]⟩,⟨#[67]⟩⟩]:=⟨_,rfl⟩
 have bt:LS.length=3:=by rw[aq];rfl
 have C0:Hid (Cr w R (w.heap.size+1+1) (w.heap.size+1+1+1) LS (Z (T (Q (w.heap.size+1) 0 U)) 3 3) ((((w.alloc (N #[Z U 0 0,Z U 0 0] 27)).alloc (N #[Y ⟨#[97]⟩,Y ⟨#[65]⟩,Y ⟨#[98]⟩,Y ⟨#[66]⟩,Y ⟨#[99]⟩,Y ⟨#[67]⟩] 142)).alloc (N #[Z (T (Q (w.heap.size+1) 0 U)) 3 3,Z U 0 0] 27)).alloc (N crN 9)) p (Z U 0 0) []):=by
  have Ku:(w.alloc (N #[Z U 0 0,Z U 0 0] 27)).heap.size=w.heap.size+1:=by simp
  have th:((w.alloc (N #[Z U 0 0,Z U 0 0] 27)).alloc (N #[Y ⟨#[97]⟩,Y ⟨#[65]⟩,Y ⟨#[98]⟩,Y ⟨#[66]⟩,Y ⟨#[99]⟩,Y ⟨#[67]⟩] 142)).heap.size=w.heap.size+1+1:=by simp
  have Bk:(((w.alloc (N #[Z U 0 0,Z U 0 0] 27)).alloc (N #[Y ⟨#[97]⟩,Y ⟨#[65]⟩,Y ⟨#[98]⟩,Y ⟨#[66]⟩,Y ⟨#[99]⟩,Y ⟨#[67]⟩] 142)).alloc (N #[Z (T (Q (w.heap.size+1) 0 U)) 3 3,Z U 0 0] 27)).heap.size=w.heap.size+1+1+1:=by simp
  have k1:=nL w (N #[Z U 0 0,Z U 0 0] 27);have k2:=nL (w.alloc (N #[Z U 0 0,Z U 0 0] 27)) (N #[Y ⟨#[97]⟩,Y ⟨#[65]⟩,Y ⟨#[98]⟩,Y ⟨#[66]⟩,Y ⟨#[99]⟩,Y ⟨#[67]⟩] 142);rw[Ku] at k2;have BQ:=(dB (w.heap.size+1) (w.alloc (N #[Z U 0 0,Z U 0 0] 27))).alloc (by omega) (N #[Y ⟨#[97]⟩,Y ⟨#[65]⟩,Y ⟨#[98]⟩,Y ⟨#[66]⟩,Y ⟨#[99]⟩,Y ⟨#[67]⟩] 142);have h:=yw (LS:=LS) (base:=w.heap.size+1) (base':=w.heap.size+1) ((BQ.block w.heap.size (AP _)).trans k1) (AP _) ly (by omega) (v0:=Z (T (Q (w.heap.size+1) 0 U)) 3 3) (by subst aq;exact⟨rfl,.inr ⟨w.heap.size+1,3,_,rfl,n6 _,k2,n6 _,by unfold maxLen;omega,rfl,rfl⟩⟩) (dh _ _);rw[th] at h;have BW:=(((q9 w).alloc ly (N #[Z U 0 0,Z U 0 0] 27)).alloc (by omega) (N #[Y ⟨#[97]⟩,Y ⟨#[65]⟩,Y ⟨#[98]⟩,Y ⟨#[66]⟩,Y ⟨#[99]⟩,Y ⟨#[67]⟩] 142)).alloc (by omega) (N #[Z (T (Q (w.heap.size+1) 0 U)) 3 3,Z U 0 0] 27);have kn:=nL (((w.alloc (N #[Z U 0 0,Z U 0 0] 27)).alloc (N #[Y ⟨#[97]⟩,Y ⟨#[65]⟩,Y ⟨#[98]⟩,Y ⟨#[66]⟩,Y ⟨#[99]⟩,Y ⟨#[67]⟩] 142)).alloc (N #[Z (T (Q (w.heap.size+1) 0 U)) 3 3,Z U 0 0] 27)) (N crN 9);rw[Bk] at kn;have BZ:=BW.alloc (by omega) (N crN 9);exact⟨h.aa (br.alloc ly _) ly,λ_ h=>absurd h nj,λ_ h=>absurd h nj,hR.aa BZ ly,Only.u BZ,kn,by omega⟩
 clear hR aq;go_enter func121,ntmps121;go_wp2_with fail;rw[show(#[Y ⟨#[97]⟩,Y ⟨#[98]⟩,Y ⟨#[99]⟩,Y ⟨#[116,48]⟩,Y ⟨#[116,49]⟩,Y ⟨#[116,50]⟩,Y ⟨#[116,51]⟩]:Array ZC)=crN from rfl];generalize World.alloc (World.alloc (World.alloc (World.alloc w _) _) _) _=W0 at C0 ⊢;obtain⟨ZO,c2,C1⟩:∃(ZO:Option Addr) (c2:Nat),Hid (Cr w R (w.heap.size+1+1) (w.heap.size+1+1+1) LS (Z ZO LS.length c2) W0 p (Z U 0 0) []):=⟨T (Q (w.heap.size+1) 0 U),3,by rw[bt];exact C0⟩
 clear C0;generalize w.heap.size+1+1+1=nb at C1 ⊢;generalize w.heap.size+1+1=xb at C1 ⊢;have ld:Hid (LS.length=3):=bt;clear bt;go_loopw [5] (λv wr=>∃(k q:Nat) (v1:ZC) (b:List TR),v=J I k/\k<=5/\q<=p+9*k/\Hid (b.length=k)/\Hid (Cr w R xb nb LS (Z ZO LS.length c2) wr q v1 b)) (λv _=>5 - (intOf v).toNat);case atStart=>exact⟨0,p,_,[],rfl,by omega,by omega,rfl,C1⟩
 case round =>
  clear C1;obtain⟨k,q,v1,b,rfl,hk,hq,HK,ZP⟩:=hrel;obtain⟨O,c5,rfl⟩:=aU ZP.x.R.i;have hrn:b.length<=5:=by have:=HK.out;omega
  by_cases hlt:k<5
  ·have hwk:IntKind.i64.wrap ((k:Int)+1)=(k:Int)+1:=by rw[p9];omega
   go_wp2_with fail;refine(bm _ _).mono ?_;rintro e E ⟨rfl,C⟩;have n:=ae (ZP.aa C);clear C ZP;have V1:Hid (VS E R (E.alloc (N #[J I 1,Y ⟨#[]⟩,J I 0] 151)) q E.heap.size 1 [(1,[],0)] 1):=by have B:=(q9 E).alloc ly (N #[J I 1,Y ⟨#[]⟩,J I 0] 151);exact⟨n.rd.aa B ly,Only.u B,IR.new E _ ly [(1,[],0)] _ rfl 1 rfl (by omega),by simp,n.rd.lt,n6 _⟩
   go_wp2_with fail;generalize World.alloc E _=W1 at V1 ⊢;refine(au R _ 4 _ V1.rd (by omega) (by omega) (by omega)).mono ?_;rintro e w2 ⟨z,rfl,ph,mv,hR,P⟩;have V2:=ae (V1.F P hR);clear hR P V1;have DQ:IntKind.i64.wrap (1+z)=1+z:=by rw[p9];omega
   go_wp2_with fail;go_loopw [6,7] (λc6 k7 wx=>∃(j:Int) (q' g c:Nat) (L:List I3),c6=Z (T (Q g 0 U)) L.length c/\k7=J I j/\0<=j/\j<=4/\(L.length:Int)+3*j<=13/\(q':Int)+2*j<=(q:Int)+9/\Hid (VS E R wx q' g c L L.length)) (λ_ k7 _=>(intOf k7).toNat);case atStart=>exact⟨1+z,_,_,_,_,rfl,rfl,by omega,by omega,by simp only[eL,nX];omega,by omega,V2⟩
   case round =>
    clear V2 DQ ph mv;obtain⟨j,q2,g,c,L,rfl,rfl,hj0,hj4,hL,hq2,V3⟩:=hrel;by_cases hjp:0<j
    ·have hwj:IntKind.i64.wrap (j - 1)=j - 1:=by rw[p9];omega
     have hw3:IntKind.i64.wrap (3+(k:Int))=3+(k:Int):=by rw[p9];omega
     go_wp2_with fail;refine(au R _ 4 _ V3.rd (by omega) (by omega) (by omega)).mono ?_;rintro e w4 ⟨y,rfl,y0,y1,hR,P⟩;have ZJ:=ae (V3.F P hR);clear hR P V3;go_upto_if 30 with fail;go_cut [8] (λs8 wx=>∃op:Int,s8=J I op/\w4=wx);case first =>
      by_cases hy:y=0;{subst hy;go_wp2;go_meet;exact⟨_,rfl,rfl⟩}
      ·have hyb:(y == 0)=ZA:=by simpa using hy
       go_wp2;go_meet;exact⟨_,rfl,rfl⟩
     case rest =>
     obtain⟨op,rfl,rfl⟩:=hcut;go_wp2_with fail;refine(au R _ (3+(k:Int)) _ ZJ.rd (by omega) (by omega) (by omega)).mono ?_;rintro e w5 ⟨y',rfl,la,DS,hR,P⟩;have ZM:=ae (ZJ.F P hR);clear hR P ZJ y0 y1;obtain⟨m,rfl⟩:=AS la;obtain⟨s,hs,Kv⟩:=(n.F ZM.o ZM.rd).e (k:=m) (by omega);have Hx:(m:Int)<7:=by omega
     go_wp2_with fail;refine(bm _ _).mono ?_;rintro e w6 ⟨rfl,C⟩;have V6:=ae (ZM.aa C);clear C ZM hs Hx la DS;go_wp2_with fail;refine(aW _ _).mono ?_;rintro e w7 ⟨rfl,C⟩;have V7:=ae (V6.aa C);clear C V6;go_wp2_with fail;refine(aW _ _).mono ?_;rintro e G ⟨rfl,C⟩;have S:=ae (V7.aa C);clear C V7;have X:=ae (S.aa ((q9 G).alloc ly (N #[J I 1,Y s,J I 0,J I op,Y ⟨#[]⟩,J I 0,J I 2,Y ⟨#[]⟩,J I 0] 151)));go_wp2_with (at_builtin;refine gI rfl (.tmp 31) (.tmp 43) rfl E.heap.size g c L (by simp[Act.eval]) X.ir (Q G.heap.size 0 U) 3 3 [(1,s.data.toList,0),(op,[],0),(2,[],0)] (by simp[Act.eval]) rfl (by simp) (dy G #[J I 1,Y s,J I 0,J I op,Y ⟨#[]⟩,J I 0,J I 2,Y ⟨#[]⟩,J I 0] _) (by simp only[eL,nX];omega) (by have:=S.o.size;simp;omega) ?_);intro F c1 W9 hI hG;have V9:=ae (S.add _ hI hG (eQ Kv (by simp)));clear hI hG X S;go_wp2;exact⟨⟨j - 1,_,_,_,_,by rw[cM];rfl,rfl,by omega,by omega,by simp only[cM,eL,nX];omega,by omega,V9⟩,by simp only[intOf];omega⟩
    ·go_wp2_with fail;have W:Hid (∀V:M,(∀i,i<E.heap.size->i≠R->T i≠(Value.slice O b.length c5).ownBlock->V.heap[i]?=E.heap[i]?)->V.heap[xb]?=T (N #[Z ZO LS.length c2,Z O b.length c5] 27 (0,0))/\V.cell? (Q xb 1 U)=T (Z O b.length c5)):=λV hV=>by
      have h1:=(hV xb n.x.lt (by have:=n.x.hi;omega) λe=>by
       obtain⟨At,n9⟩:=n.x.R.type _ e.symm;have h3:=n.x.G.symm.trans n9
       cases h3).trans n.x.G
      exact⟨h1,by simp[World.cell?,h1]⟩
     refine aD (λV=>V.heap[xb]?=T (N #[Z ZO LS.length c2,Z O b.length c5] 27 (0,0))/\V.cell? (Q xb 1 U)=T (Z O b.length c5)) 14 (by kernel_rfl) ?_;have ZJ:=ae (V3.aa br.drew);have A:=ae (W _ (λi hi l _=>ZJ.o.block i hi l));clear V3;iterate 3
      refine aI 0 (v:=?_) rfl rfl (by kernel_rfl) (λ_ _ _ h=>h) rfl ?_ A ?_;rotate_left
      ·(rintro wz ⟨s0,s1⟩;go_simp)
       (try with_reducible rfl)
      (try simp only[Act.put,nzL])
     refine aI 5 (v:=?_) rfl rfl (by kernel_rfl) (λ_ _ _ h=>h) rfl ?_ A ?_;rotate_left
     ·(rintro wz ⟨s0,s1⟩;go_simp)
      (try with_reducible rfl)
     (try simp only[Act.put,nzL])
     refine ah (i:=3) rfl (by kernel_rfl) λK f=>?_;go_simp;go_at_call 104;refine(iQ k (by omega) _).mono ?_;rintro e w5 ⟨rfl,C⟩;have ZM:=ae (ZJ.aa C);clear C A ZJ;have A:=ae (W _ (λi hi l _=>ZM.o.block i hi l));refine f _ _ (λ_=>A) ?_;clear f K
     (try simp only[Act.put,nzL])
     refine aI 4 (v:=?_) rfl rfl (by kernel_rfl) (λ_ _ _ h=>h) rfl ?_ A ?_;rotate_left
     ·(rintro wz ⟨s0,s1⟩;go_simp)
      (try with_reducible rfl)
     (try simp only[Act.put,nzL])
     generalize (⟨#[116]⟩:ByteArray)++⟨#[dig k]⟩=ZI;refine ah (i:=6) rfl (by kernel_rfl) λK f=>?_;go_simp;go_at_call 99;refine(aW _ _).mono ?_;rintro e w6 ⟨rfl,C⟩;have V6:=ae (ZM.aa C);clear C A ZM;have A:=ae (W _ (λi hi l _=>V6.o.block i hi l));refine f _ _ (λ_=>A) ?_;clear f K
     (try simp only[Act.put,nzL])
     have X:=ae (V6.aa ((q9 w6).alloc ly (N #[J I 15,Y ⟨#[]⟩,J I 0] 151)));clear A;have A:=ae (W _ (λi hi l _=>X.o.block i hi l));refine ah (i:=7) rfl (by kernel_rfl) λK f=>?_;go_simp;refine f _ _ (λ_=>A) ?_;clear f K
     (try simp only[Act.put,nzL])
     refine ah (i:=8) rfl (by kernel_rfl) (λK f=>?_);refine aG rfl (.tmp 50) (.tmp 52) 41 rfl E.heap.size 151 Kt (.agg #[J I 0,Y ⟨#[]⟩,J I 0]) 3 32 RB hi sm Fm DE rfl (by decide) (Z (T (Q g 0 U)) L.length c) L.length (i3L L) (by simp[Act.eval]) X.ir (Q w6.heap.size 0 U) 1 1 (i3L [(15,[],0)]) (by simp[Act.eval]) rfl (dy w6 #[J I 15,Y ⟨#[]⟩,J I 0] _) (xS _) (by unfold maxLen;omega) (by omega) (by have:=X.o.size;omega) ?_;intro v' G D t _;obtain⟨F,c1,rfl⟩:∃F c1,v'=Z (T (Q F 0 U)) (L.length+1) c1:=by
      rcases D.2 with ⟨_,h0⟩|⟨g',cap,At,hv,_⟩
      {omega};{exact⟨g',cap,hv⟩}
     have S:=ae (X.join (ZQ:=[(15,[],0)]) (g':=F) (c':=c1) (by
      unfold IR;rw[qW,cM]
      exact D) t (by simp))
     clear D t X A;have A:=ae (W _ (λi hi l _=>S.o.block i hi l));refine f _ _ (λ_=>A) ?_;clear f K
     (try simp only[Act.put,nzL])
     obtain⟨ZN,dg,V9⟩:∃ZN:List I3,ZN.length=L.length+1/\Hid (VS E R G q2 F c1 ZN ZN.length):=⟨L++[(15,[],0)],cM,S⟩
     have H8:Hid (ZN.length=L.length+1):=dg;clear S dg;refine ah (i:=9) rfl (by kernel_rfl) λK f=>?_;go_simp;refine f _ _ (λ_=>A) ?_;clear f K
     (try simp only[Act.put,nzL])
     refine ah (i:=10) rfl (by kernel_rfl) λK f=>?_;go_simp;refine f _ _ (λ_=>A) ?_;clear f K
     (try simp only[Act.put,nzL])
     have H:=ae (V9.aa ((q9 G).alloc ly (N #[Y ZI,Z (T (Q F 0 U)) (L.length+1) c1] 146)));have hxi:=n.x.hi;have DH:=n.x.lt;have fd:=n.lo;refine ah (i:=11) rfl (by kernel_rfl) λK f=>?_;go_simp;refine f _ _ (λ_=>W _ (λi hi l _=>H.o.block i hi l)) ?_;clear f K A V9
     (try simp only[Act.put,nzL])
     have XA:=ae (n.x.F H.o fd.1);have NA:=ae ((H.o.block nb (ag n.nm) (by omega)).trans n.nm);have ur:xb≠nb:=λe=>by have h1:=n.nm;rw[<-e] at h1;have h2:=n.x.G.symm.trans h1;cases h2
     have hgl:=H.ir.lt;have ro:=H.o.size;have OA:Hid ((G.alloc (N #[Y ZI,Z (T (Q F 0 U)) (L.length+1) c1] 146)).ownsRow (w.heap.size+1) 151 3 (Z (T (Q F 0 U)) (L.length+1) c1) (L.length+1) (bJ (dn ZN) (L.length+1))):=by have h:=H.ir;unfold IR at h;rw[vu,H8.out] at h;exact aB h (by omega)
     refine ah (i:=12) rfl (by kernel_rfl) λK f=>?_;refine aG rfl (.tmp 46) (.tmp 56) 25 rfl (w.heap.size+1) 146 JT (.agg #[Y ⟨#[]⟩,Z U 0 0]) 2 40 QH hj Fk Fn GS rfl (by decide) (Z O b.length c5) b.length (b.flatMap bj) (by simp[Act.eval]) XA.R.i (Q G.heap.size 0 U) 1 1 (bj (⟨ZI,L.length+1,dn ZN⟩,F,c1)) (by simp[Act.eval]) rfl (λj u hu=>du G _ _ _ j u hu) (by simp[bj,Value.oneCell']) (by unfold maxLen;omega) (by omega) (by omega) ?_;intro v' w9 D t _;obtain⟨a7,c7,rfl⟩:=aU D;have S9:=ae (W w9 (λi hi l Fd=>(t.block i (lj hi ro) Fd).trans (H.o.block i hi l)));obtain⟨c8,b8⟩:=XA.addT (x:=⟨ZI,L.length+1,dn ZN⟩) (g:=F) (c:=c1) (λr ZK e=>by have:=n.x.R.ltg r ZK;omega) OA D t;have NB:Hid ((w9.setCell (Q xb 1 U) (Z a7 (b.length+1) c7)).heap[nb]?=T (N crN 9 (0,0))):=(qh _ _ _ _ (λe=>ur e.symm)).trans (oE t XA.R.type NA (by decide))
     have CE:Hid (Cr w R xb nb LS (Z ZO LS.length c2) (w9.setCell (Q xb 1 U) (Z a7 (b.length+1) c7)) q2 (Z a7 (b.length+1) c7) (b++[((⟨ZI,L.length+1,dn ZN⟩,F,c1):TR)])):=⟨c8,n.g.add (r:=(⟨ZI,L.length+1,dn ZN⟩,F,c1)) (by show L.length+1<=300;omega) (λj Id=>mB H.tx j (by have:=H8.out;have h2:j<L.length+1:=Id;omega)),(λr ZK=>by
      rcases p8.1 ZK with ZK|ZK;{exact n.gp r ZK}
      ·rw[nD.1 ZK];show 1<=L.length+1/\L.length+1<=200;omega),H.rd.low b8 (by omega),(n.o.trans H.o).then (b8.mono (F6 _)),NB,fd⟩
     clear D t c8 b8 NB NA XA OA H;refine f _ _ (λ_=>S9) ?_;clear f K
     (try simp only[Act.put,nzL])
     refine ah (i:=13) rfl (by kernel_rfl) λK f=>?_;go_simp;refine f _ _ (λ_=>S9) ?_;clear f K
     (try simp only[Act.put,nzL])
     obtain⟨s7,t7⟩:=S9.out;have f7:w9.frozen? (Q xb 1 U)=ZA:=by simp[World.frozen?,s7]
     have l7:=ag s7;clear s7;refine ah (i:=14) rfl (by kernel_rfl) λK f=>?_;go_simp;refine f _ _ (λh=>absurd rfl h) ?_;clear f K
     (try simp only[Act.put,nzL])
     refine aX (by kernel_rfl) ?_ _;go_wp2;exact⟨⟨k+1,q2,_,_,by go_num,by omega,by omega,(by show(b++_).length=k+1;rw[cM,HK.out];rfl),CE⟩,by simp[intOf];omega⟩
  ·obtain rfl:k=5:=by omega
   have kr:=ZP.x.res;have r0:wr.cell? (Q w.heap.size 0 U)=T (Z U 0 0):=by simp[World.cell?,kr]
   have r1:wr.cell? (Q w.heap.size 1 U)=T (Z U 0 0):=by simp[World.cell?,kr]
   have f0:wr.frozen? (Q w.heap.size 0 U)=ZA:=by simp[World.frozen?,kr]
   have f1:wr.frozen? (Q w.heap.size 1 U)=ZA:=by simp[World.frozen?,kr]
   have l0:=ag kr;clear kr;obtain⟨kc0,kc1⟩:=ZP.x.cells;have DH:=ZP.x.lt;have BB:=ae (((dB w.heap.size wr).setCell (p:=(Q w.heap.size 0 U)) ly (Z ZO LS.length c2)).setCell (p:=(Q w.heap.size 1 U)) ly (Z O b.length c5));have HE:=ae ((ZP.x.fin rfl rfl (by have:=ld.out;omega) (by omega) ZP.g (Z ZO LS.length c2) (Z O b.length c5)).mono (F6 w.heap.size))
   have GE:Hid (Gd LS.length b.length (bZ (b.map (·.1)))):=⟨by have:=ld.out;omega,by omega,λi hi=>by
    have e:bZ (b.map (·.1)) i=b[i].1:=by simp[bZ,hi]
    rw[e]
    exact ZP.gp _ (gz hi)⟩
   have RE:=ae (ZP.rd.low BB qr);have OE:=ae (ZP.o.then BB);go_wp2;exact bp (v:=.agg #[Z ZO LS.length c2,Z O b.length c5]) (by simp[results,results121,go_sem,r0,r1]) rfl ⟨_,_,_,_,_,_,_,_,rfl,⟨HE,GE⟩,_,by omega,RE,OE⟩
