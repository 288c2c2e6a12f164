import Derived.Test.YtpmnbjkjpnclaaaGreatDoorQW
import Derived.Test.YtpmnbjkjpnclaaaGreatDoorPF
import Derived.Test.YtpmnbjkjpnclaaaGreatDoorPB
import Derived.WalkSmall
set_option maxRecDepth 100000
set_option maxHeartbeats 8000000
open Go renaming Addr.mk->Q,Value.slice->Z,Value.string->U,Value.int->N,Value.agg->ZH,Obj.cells->J,IntKind.i64->I,World->M,Value->ZC
open Option renaming none->Y,some->T
open Bool renaming false->ZA
namespace Go.Proofs.YtpmnbjkjpnclaaaGreatDoor.Vp
open Tryz RowKit
variable {W V:M}{xs:List Nat}{b:Nat}
theorem xE (S:Spc)(nm:ByteArray):((ci S nm).1=[]/\5<(ci S nm).2.E)∨∃ZR e,SpcOk S/\aw nm=true/\bC S 60 [] [] nm=.inl (ZR,e)/\ci S nm=(ZR,dS e):=by
 unfold ci;split;{rename_i h;split;{rename_i b e c;exact .inr ⟨b,e,SpcOk.of h.1,h.2,c,rfl⟩};{exact .inl ⟨rfl,by show(5:Int)<6;decide⟩};{exact .inl ⟨rfl,by show(5:Int)<7;decide⟩}};{exact .inl ⟨rfl,by show(5:Int)<9;decide⟩}
open Ca
def Fr (xs:List Nat)(W W':M):Prop:=W.heap.size<=W'.heap.size/\∀k,k<W.heap.size->k ∉ xs->W'.heap[k]?=W.heap[k]?
theorem Fr.trans{ZL:M}(h:Fr xs W V)(g:Fr xs V ZL):Fr xs W ZL:=⟨p7 h.1 g.1,λk h1 h2=>(g.2 k (lj h1 h.1) h2).trans (h.2 k h1 h2)⟩
theorem Fr.G{R:Nat}(h:Only R W V)(hR:R∈xs):Fr xs W V:=⟨h.size,λk h1 h2=>h.block k h1 (λe=>h2 (e ▸ hR))⟩
theorem Fr.set{x j:Nat}(b:x∈xs)(u:ZC):Fr xs W (W.setCell (Q x j Y) u):=⟨by simp,λk _ h2=>qh W (Q x j Y) u k (λe=>h2 ((show k=x from e) ▸ b))⟩
def vW (xs:List Nat)(b z:Nat):Prop:=∀x∈xs,x<b∨z<=x
theorem Agr.fr{c:M}(h:Agr b c W)(i:vW xs b c.heap.size)(f:Fr xs W V):Agr b c V :=
 ⟨p7 h.1 f.1,λk h1 h2=>(f.2 k (lj h2 h.1) (λg=>by rcases i k g with h3|h3<;>omega)).trans (h.2 k h1 h2)⟩
def Gd (n0 n1:Nat)(f1:Nat->Target):Prop:=n0<=250/\n1<=250/\∀i,i<n1->1<=(f1 i).f/\(f1 i).f<=200
def HSg (b:Nat)(w:M)(a0:Option Addr)(n0:Nat)(f0:Nat->Source)(a1:Option Addr)(n1:Nat)(f1:Nat->Target):Prop:=HSp b w a0 n0 f0 a1 n1 f1/\Gd n0 n1 f1
def QSp (lo:Nat)(xs:List Nat)(W:M)(a0:Option Addr)(n0:Nat)(f0:Nat->Source)(a1:Option Addr)(n1:Nat)(f1:Nat->Target):Prop:=∃(b:Nat) (c:M),lo<=b/\HSg b c a0 n0 f0 a1 n1 f1/\Agr b c W/\vW xs b c.heap.size
def QAc (lo:Nat)(xs:List Nat)(W:M)(a:Option Addr)(n c:Nat)(f:Nat->Deed):Prop:=∃(b:Nat) (g:M),lo<=b/\HAc b g a n c f/\Agr b g W/\vW xs b g.heap.size
section
variable {lo b:Nat}{xs:List Nat}{W V:M}{a0 a1 a:Option Addr}{n0 n1 n c:Nat}{f0:Nat->Source}{f1:Nat->Target}{f:Nat->Deed}
theorem QSp.fr (h:QSp lo xs W a0 n0 f0 a1 n1 f1)(c:Fr xs W V):QSp lo xs V a0 n0 f0 a1 n1 f1:=by obtain⟨b,g,f,h1,h2,h3⟩:=h;exact⟨b,g,f,h1,h2.fr h3 c,h3⟩
theorem QAc.fr (h:QAc lo xs W a n c f)(g:Fr xs W V):QAc lo xs V a n c f:=by obtain⟨b,j,i,h1,h2,h3⟩:=h;exact⟨b,j,i,h1,h2.fr h3 g,h3⟩
theorem QSp.at (h:QSp lo xs W a0 n0 f0 a1 n1 f1):HSg lo W a0 n0 f0 a1 n1 f1:=by obtain⟨b,w1,c,h1,h2,-⟩:=h;exact⟨(h1.1.agr h2).mono c,h1.2⟩
theorem QAc.at (h:QAc lo xs W a n c f):HAc lo W a n c f:=by obtain⟨b,w1,g,h1,h2,-⟩:=h;exact(h1.agr h2).mono g
theorem QSp.new (h:HSg b W a0 n0 f0 a1 n1 f1)(f:lo<=b)(c:vW xs b W.heap.size):QSp lo xs W a0 n0 f0 a1 n1 f1:=⟨b,W,f,h,Agr.refl _ _,c⟩
theorem QAc.new (h:HAc b W a n c f)(i:lo<=b)(g:vW xs b W.heap.size):QAc lo xs W a n c f:=⟨b,W,i,h,Agr.refl _ _,g⟩
end
theorem Gg (S:Spc)(nm:ByteArray):(ci S nm).1.length<=400:=by
 rcases xE S nm with ⟨h1,-⟩|⟨ZR,e,b,-,h2,h3⟩
 {rw[h1];exact E4 _};{rw[h3];exact Ah b h2}
theorem Gh{c:Nat}{a:Option Addr}{S:Spc}{nm:ByteArray}{R:List DR}(h:DRow W b (Z a R.length c) R)(g:R.map (·.1)=iu S (ci S nm).1):HAc b W a R.length c (dF (iu S (ci S nm).1))/\R.length<=400/\∀i,i<R.length->FitD (dF (iu S (ci S nm).1) i)/\(dF (iu S (ci S nm).1) i).B.size<=2000/\(dF (iu S (ci S nm).1) i).f<=200/\(dF (iu S (ci S nm).1) i).b<=200:=by
 have m:R.length=(ci S nm).1.length:=by have:=wA List.length g;simpa[iu] using this
 have hn:R.length<=400:=by rw[m];exact Gg S nm
 have j:∀r∈R,FitD r.1/\r.1.B.size<=2000/\r.1.f<=200/\r.1.b<=200:=λr f=>FW S nm r.1 (by rw[<-g];exact List.mem_map_of_mem f);have h1:=JM h (λr f=>(j r f).1) (by omega);rw[g] at h1;refine⟨h1,hn,λi hi=>?_⟩;obtain⟨r,f,l⟩:=cZ hi;rw[<-g,gv f];exact j r l
def crN:Array ZC:=#[U ⟨#[97]⟩,U ⟨#[98]⟩,U ⟨#[99]⟩,U ⟨#[116,48]⟩,U ⟨#[116,49]⟩,U ⟨#[116,50]⟩,U ⟨#[116,51]⟩]
theorem JV:∀k,k<7->∃s:ByteArray,crN[k]?=T (U s)/\s.size<=5000:=λk hk=>by rcases(show k=0∨k=1∨k=2∨k=3∨k=4∨k=5∨k=6 by omega) with rfl|rfl|rfl|rfl|rfl|rfl|rfl<;>exact⟨_,rfl,by decide⟩
def DHg (w:M)(R q:Nat)(e:Ending)(b:M):Prop:=∃(a0:Option Addr) (n0 c0:Nat) (f0:Nat->Source) (a1:Option Addr) (n1 c1:Nat) (f1:Nat->Target),e=.returned (ZH #[Z a0 n0 c0,Z a1 n1 c1])/\HSg w.heap.size b a0 n0 f0 a1 n1 f1/\∃q':Nat,q'<=q/\Rd b R q'/\Only R w b
structure Cr (w:M)(R xb nb:Nat)(LS:List Source)(v0:ZC)(W:M)(q:Nat)(v1:ZC)(RT:List TR):Prop where
 x:SpX w.heap.size xb (w.heap.size+1) W v0 v1 LS RT
 g:GX RT
 gp:∀r∈RT,1<=r.1.f/\r.1.f<=200
 rd:Rd W R q
 o:Only R w W
 nm:W.heap[nb]?=T (J crN 9 (0,0))
 lo:R<w.heap.size/\w.heap.size<nb
section
variable {w W W':M}{R xb nb q q':Nat}{LS:List Source}{v0 v1:ZC}{RT:List TR}
theorem Cr.G (h:Cr w R xb nb LS v0 W q v1 RT)(b:Only R W W')(hR:Rd W' R q'):Cr w R xb nb LS v0 W' q' v1 RT:=by obtain⟨c,l2⟩:=h.lo;exact⟨h.x.G b c,h.g,h.gp,hR,h.o.trans b,(b.block _ (ag h.nm) (by omega)).trans h.nm,h.lo⟩
theorem Cr.aa (h:Cr w R xb nb LS v0 W q v1 RT)(b:Below W.heap.size W W'):Cr w R xb nb LS v0 W' q v1 RT:=h.G (Only.u b) (h.rd.aa b ly)
theorem Cr.e (h:Cr w R xb nb LS v0 W q v1 RT){k:Nat}(b:k<7):∃s:ByteArray,W.cell? (Q nb k Y)=T (U s)/\s.size<=5000:=by obtain⟨s,h1,h2⟩:=JV k b;have hb:=h.nm;exact⟨s,by simp[World.cell?,hb,h1],h2⟩
end
theorem tP (R p:Nat)(w:M)(hR:Rd w R p)(hp:p<=20000):Calls Tryz.prog 121 #[.pointer (T (Q R 0 Y))] w λe w'=>DHg w R (p+100) e w':=by
 obtain⟨th,hj,DH,Bk,Fk⟩:=OB gT;obtain⟨Fd,hi,Fm,GS,KZ⟩:=o7;have ph:=hR.lt;obtain⟨LS,aq⟩:∃LS:List Source,LS=[⟨⟨#[97]⟩,⟨#[65]⟩⟩,⟨⟨#[98]⟩,⟨#[66]⟩⟩,⟨⟨#[99]⟩,⟨#[67]⟩⟩]:=⟨_,rfl⟩
 have bt:LS.length=3:=by rw[aq];rfl
 have C0:Hid (Cr w R (w.heap.size+1+1) (w.heap.size+1+1+1) LS (Z (T (Q (w.heap.size+1) 0 Y)) 3 3) ((((w.alloc (J #[Z Y 0 0,Z Y 0 0] 27)).alloc (J #[U ⟨#[97]⟩,U ⟨#[65]⟩,U ⟨#[98]⟩,U ⟨#[66]⟩,U ⟨#[99]⟩,U ⟨#[67]⟩] 142)).alloc (J #[Z (T (Q (w.heap.size+1) 0 Y)) 3 3,Z Y 0 0] 27)).alloc (J crN 9)) p (Z Y 0 0) []):=by
  have DE:(w.alloc (J #[Z Y 0 0,Z Y 0 0] 27)).heap.size=w.heap.size+1:=by simp
  have ur:((w.alloc (J #[Z Y 0 0,Z Y 0 0] 27)).alloc (J #[U ⟨#[97]⟩,U ⟨#[65]⟩,U ⟨#[98]⟩,U ⟨#[66]⟩,U ⟨#[99]⟩,U ⟨#[67]⟩] 142)).heap.size=w.heap.size+1+1:=by simp
  have KV:(((w.alloc (J #[Z Y 0 0,Z Y 0 0] 27)).alloc (J #[U ⟨#[97]⟩,U ⟨#[65]⟩,U ⟨#[98]⟩,U ⟨#[66]⟩,U ⟨#[99]⟩,U ⟨#[67]⟩] 142)).alloc (J #[Z (T (Q (w.heap.size+1) 0 Y)) 3 3,Z Y 0 0] 27)).heap.size=w.heap.size+1+1+1:=by simp
  have k1:=nL w (J #[Z Y 0 0,Z Y 0 0] 27);have k2:=nL (w.alloc (J #[Z Y 0 0,Z Y 0 0] 27)) (J #[U ⟨#[97]⟩,U ⟨#[65]⟩,U ⟨#[98]⟩,U ⟨#[66]⟩,U ⟨#[99]⟩,U ⟨#[67]⟩] 142);rw[DE] at k2;have BQ:=(dB (w.heap.size+1) (w.alloc (J #[Z Y 0 0,Z Y 0 0] 27))).alloc (by omega) (J #[U ⟨#[97]⟩,U ⟨#[65]⟩,U ⟨#[98]⟩,U ⟨#[66]⟩,U ⟨#[99]⟩,U ⟨#[67]⟩] 142);have h:=yz (LS:=LS) (base:=w.heap.size+1) (base':=w.heap.size+1) ((BQ.block w.heap.size (AI _)).trans k1) (AI _) ly (by omega) (v0:=Z (T (Q (w.heap.size+1) 0 Y)) 3 3) (by subst aq;exact⟨rfl,.inr ⟨w.heap.size+1,3,_,rfl,n6 _,k2,n6 _,by unfold maxLen;omega,rfl,rfl⟩⟩) (dh _ _);rw[ur] at h;have BW:=(((q9 w).alloc ly (J #[Z Y 0 0,Z Y 0 0] 27)).alloc (by omega) (J #[U ⟨#[97]⟩,U ⟨#[65]⟩,U ⟨#[98]⟩,U ⟨#[66]⟩,U ⟨#[99]⟩,U ⟨#[67]⟩] 142)).alloc (by omega) (J #[Z (T (Q (w.heap.size+1) 0 Y)) 3 3,Z Y 0 0] 27);have kn:=nL (((w.alloc (J #[Z Y 0 0,Z Y 0 0] 27)).alloc (J #[U ⟨#[97]⟩,U ⟨#[65]⟩,U ⟨#[98]⟩,U ⟨#[66]⟩,U ⟨#[99]⟩,U ⟨#[67]⟩] 142)).alloc (J #[Z (T (Q (w.heap.size+1) 0 Y)) 3 3,Z Y 0 0] 27)) (J crN 9);rw[KV] at kn;have BZ:=BW.alloc (by omega) (J crN 9);exact⟨h.aa (br.alloc ly _) ly,λ_ h=>absurd h nj,λ_ h=>absurd h nj,hR.aa BZ ly,Only.u BZ,kn,by omega⟩
 clear hR aq;go_enter func121,ntmps121;go_wp2_with fail;rw[show(#[U ⟨#[97]⟩,U ⟨#[98]⟩,U ⟨#[99]⟩,U ⟨#[116,48]⟩,U ⟨#[116,49]⟩,U ⟨#[116,50]⟩,U ⟨#[116,51]⟩]:Array ZC)=crN from rfl];generalize World.alloc (World.alloc (World.alloc (World.alloc w _) _) _) _=W0 at C0 ⊢;obtain⟨O,c2,C1⟩:∃(O:Option Addr) (c2:Nat),Hid (Cr w R (w.heap.size+1+1) (w.heap.size+1+1+1) LS (Z O LS.length c2) W0 p (Z Y 0 0) []):=⟨T (Q (w.heap.size+1) 0 Y),3,by rw[bt];exact C0⟩
 clear C0;generalize w.heap.size+1+1+1=nb at C1 ⊢;generalize w.heap.size+1+1=xb at C1 ⊢;have la:Hid (LS.length=3):=bt;clear bt;go_loopw [5] (λv wr=>∃(k q:Nat) (v1:ZC) (b:List TR),v=N I k/\k<=5/\q<=p+9*k/\Hid (b.length=k)/\Hid (Cr w R xb nb LS (Z O LS.length c2) wr q v1 b)) (λv _=>5 - (intOf v).toNat);case atStart=>exact⟨0,p,_,[],rfl,by omega,by omega,rfl,C1⟩
 case round =>
  clear C1;obtain⟨k,q,v1,b,rfl,hk,hq,HK,H⟩:=hrel;obtain⟨ZO,c5,rfl⟩:=aU H.x.R.i;have hrn:b.length<=5:=by have:=HK.out;omega
  by_cases hlt:k<5
  ·have hwk:IntKind.i64.wrap ((k:Int)+1)=(k:Int)+1:=by rw[p9];omega
   go_wp2_with fail;refine(bm _ _).mono ?_;rintro e E ⟨rfl,C⟩;have l:=ae (H.aa C);clear C H;have V1:Hid (VS E R (E.alloc (J #[N I 1,U ⟨#[]⟩,N I 0] 151)) q E.heap.size 1 [(1,[],0)] 1):=by have B:=(q9 E).alloc ly (J #[N I 1,U ⟨#[]⟩,N I 0] 151);exact⟨l.rd.aa B ly,Only.u B,IR.new E _ ly [(1,[],0)] _ rfl 1 rfl (by omega),by simp,l.rd.lt,n6 _⟩
   go_wp2_with fail;generalize World.alloc E _=W1 at V1 ⊢;refine(au R _ 4 _ V1.rd (by omega) (by omega) (by omega)).mono ?_;rintro e w2 ⟨z,rfl,mv,n9,hR,P⟩;have V2:=ae (V1.G P hR);clear hR P V1;have DQ:IntKind.i64.wrap (1+z)=1+z:=by rw[p9];omega
   go_wp2_with fail;go_loopw [6,7] (λc6 k7 wx=>∃(j:Int) (q' g c:Nat) (L:List I3),c6=Z (T (Q g 0 Y)) L.length c/\k7=N I j/\0<=j/\j<=4/\(L.length:Int)+3*j<=13/\(q':Int)+2*j<=(q:Int)+9/\Hid (VS E R wx q' g c L L.length)) (λ_ k7 _=>(intOf k7).toNat);case atStart=>exact⟨1+z,_,_,_,_,rfl,rfl,by omega,by omega,by simp only[eL,nX];omega,by omega,V2⟩
   case round =>
    clear V2 DQ mv n9;obtain⟨j,q2,g,c,L,rfl,rfl,hj0,hj4,hL,hq2,V3⟩:=hrel;by_cases hjp:0<j
    ·have hwj:IntKind.i64.wrap (j - 1)=j - 1:=by rw[p9];omega
     have hw3:IntKind.i64.wrap (3+(k:Int))=3+(k:Int):=by rw[p9];omega
     go_wp2_with fail;refine(au R _ 4 _ V3.rd (by omega) (by omega) (by omega)).mono ?_;rintro e w4 ⟨y,rfl,y0,y1,hR,P⟩;have ZL:=ae (V3.G P hR);clear hR P V3;go_upto_if 30 with fail;go_cut [8] (λs8 wx=>∃op:Int,s8=N I op/\w4=wx);case first =>
      by_cases hy:y=0;{subst hy;go_wp2;go_meet;exact⟨_,rfl,rfl⟩}
      ·have hyb:(y == 0)=ZA:=by simpa using hy
       go_wp2;go_meet;exact⟨_,rfl,rfl⟩
     case rest =>
     obtain⟨op,rfl,rfl⟩:=hcut;go_wp2_with fail;refine(au R _ (3+(k:Int)) _ ZL.rd (by omega) (by omega) (by omega)).mono ?_;rintro e w5 ⟨y',rfl,fd,Fn,hR,P⟩;have ZM:=ae (ZL.G P hR);clear hR P ZL y0 y1;obtain⟨m,rfl⟩:=AP fd;obtain⟨s,hs,ro⟩:=(l.G ZM.o ZM.rd).e (k:=m) (by omega);have La:(m:Int)<7:=by omega
     go_wp2_with fail;refine(bm _ _).mono ?_;rintro e w6 ⟨rfl,C⟩;have V6:=ae (ZM.aa C);clear C ZM hs La fd Fn;go_wp2_with fail;refine(aW _ _).mono ?_;rintro e w7 ⟨rfl,C⟩;have V7:=ae (V6.aa C);clear C V6;go_wp2_with fail;refine(aW _ _).mono ?_;rintro e ZQ ⟨rfl,C⟩;have ZN:=ae (V7.aa C);clear C V7;have X:=ae (ZN.aa ((q9 ZQ).alloc ly (J #[N I 1,U s,N I 0,N I op,U ⟨#[]⟩,N I 0,N I 2,U ⟨#[]⟩,N I 0] 151)));go_wp2_with (at_builtin;refine gK rfl (.tmp 31) (.tmp 43) rfl E.heap.size g c L (by simp[Act.eval]) X.ir (Q ZQ.heap.size 0 Y) 3 3 [(1,s.data.toList,0),(op,[],0),(2,[],0)] (by simp[Act.eval]) rfl (by simp) (dA ZQ #[N I 1,U s,N I 0,N I op,U ⟨#[]⟩,N I 0,N I 2,U ⟨#[]⟩,N I 0] _) (by simp only[eL,nX];omega) (by have:=ZN.o.size;simp;omega) ?_);intro F c1 W9 hI hG;have V9:=ae (ZN.add _ hI hG (eS ro (by simp)));clear hI hG X ZN;go_wp2;exact⟨⟨j - 1,_,_,_,_,by rw[cM];rfl,rfl,by omega,by omega,by simp only[cM,eL,nX];omega,by omega,V9⟩,by simp only[intOf];omega⟩
    ·go_wp2_with fail;have W:Hid (∀V:M,(∀i,i<E.heap.size->i≠R->T i≠(Value.slice ZO b.length c5).ownBlock->V.heap[i]?=E.heap[i]?)->V.heap[xb]?=T (J #[Z O LS.length c2,Z ZO b.length c5] 27 (0,0))/\V.cell? (Q xb 1 Y)=T (Z ZO b.length c5)):=λV hV=>by
      have h1:=(hV xb l.x.lt (by have:=l.x.hi;omega) λe=>by
       obtain⟨Id,qr⟩:=l.x.R.type _ e.symm;have h3:=l.x.ab.symm.trans qr
       cases h3).trans l.x.ab
      exact⟨h1,by simp[World.cell?,h1]⟩
     refine aD (λV=>V.heap[xb]?=T (J #[Z O LS.length c2,Z ZO b.length c5] 27 (0,0))/\V.cell? (Q xb 1 Y)=T (Z ZO b.length c5)) 14 (by kernel_rfl) ?_;have ZL:=ae (V3.aa br.drew);have A:=ae (W _ (λi hi n _=>ZL.o.block i hi n));clear V3;iterate 3
      refine aJ 0 (v:=?_) rfl rfl (by kernel_rfl) (λ_ _ _ h=>h) rfl ?_ A ?_;rotate_left
      ·(rintro wz ⟨s0,s1⟩;go_simp)
       (try with_reducible rfl)
      (try simp only[Act.put,nzL])
     refine aJ 5 (v:=?_) rfl rfl (by kernel_rfl) (λ_ _ _ h=>h) rfl ?_ A ?_;rotate_left
     ·(rintro wz ⟨s0,s1⟩;go_simp)
      (try with_reducible rfl)
     (try simp only[Act.put,nzL])
     refine ah (i:=3) rfl (by kernel_rfl) λK f=>?_;go_simp;go_at_call 104;refine(iS k (by omega) _).mono ?_;rintro e w5 ⟨rfl,C⟩;have ZM:=ae (ZL.aa C);clear C A ZL;have A:=ae (W _ (λi hi n _=>ZM.o.block i hi n));refine f _ _ (λ_=>A) ?_;clear f K
     (try simp only[Act.put,nzL])
     refine aJ 4 (v:=?_) rfl rfl (by kernel_rfl) (λ_ _ _ h=>h) rfl ?_ A ?_;rotate_left
     ·(rintro wz ⟨s0,s1⟩;go_simp)
      (try with_reducible rfl)
     (try simp only[Act.put,nzL])
     generalize (⟨#[116]⟩:ByteArray)++⟨#[dig k]⟩=ZJ;refine ah (i:=6) rfl (by kernel_rfl) λK f=>?_;go_simp;go_at_call 99;refine(aW _ _).mono ?_;rintro e w6 ⟨rfl,C⟩;have V6:=ae (ZM.aa C);clear C A ZM;have A:=ae (W _ (λi hi n _=>V6.o.block i hi n));refine f _ _ (λ_=>A) ?_;clear f K
     (try simp only[Act.put,nzL])
     have X:=ae (V6.aa ((q9 w6).alloc ly (J #[N I 15,U ⟨#[]⟩,N I 0] 151)));clear A;have A:=ae (W _ (λi hi n _=>X.o.block i hi n));refine ah (i:=7) rfl (by kernel_rfl) λK f=>?_;go_simp;refine f _ _ (λ_=>A) ?_;clear f K
     (try simp only[Act.put,nzL])
     refine ah (i:=8) rfl (by kernel_rfl) (λK f=>?_);refine aG rfl (.tmp 50) (.tmp 52) 41 rfl E.heap.size 151 Fd (ZH #[N I 0,U ⟨#[]⟩,N I 0]) 3 32 RP hi Fm GS KZ rfl (by decide) (Z (T (Q g 0 Y)) L.length c) L.length (i3L L) (by simp[Act.eval]) X.ir (Q w6.heap.size 0 Y) 1 1 (i3L [(15,[],0)]) (by simp[Act.eval]) rfl (dA w6 #[N I 15,U ⟨#[]⟩,N I 0] _) (xV _) (by unfold maxLen;omega) (by omega) (by have:=X.o.size;omega) ?_;intro v' ZQ D t _;obtain⟨F,c1,rfl⟩:∃F c1,v'=Z (T (Q F 0 Y)) (L.length+1) c1:=by
      rcases D.2 with ⟨_,h0⟩|⟨g',cap,Id,hv,_⟩
      {omega};{exact⟨g',cap,hv⟩}
     have ZN:=ae (X.join (ZR:=[(15,[],0)]) (g':=F) (c':=c1) (by
      unfold IR;rw[qZ,cM]
      exact D) t (by simp))
     clear D t X A;have A:=ae (W _ (λi hi n _=>ZN.o.block i hi n));refine f _ _ (λ_=>A) ?_;clear f K
     (try simp only[Act.put,nzL])
     obtain⟨ZP,dg,V9⟩:∃ZP:List I3,ZP.length=L.length+1/\Hid (VS E R ZQ q2 F c1 ZP ZP.length):=⟨L++[(15,[],0)],cM,ZN⟩
     have H8:Hid (ZP.length=L.length+1):=dg;clear ZN dg;refine ah (i:=9) rfl (by kernel_rfl) λK f=>?_;go_simp;refine f _ _ (λ_=>A) ?_;clear f K
     (try simp only[Act.put,nzL])
     refine ah (i:=10) rfl (by kernel_rfl) λK f=>?_;go_simp;refine f _ _ (λ_=>A) ?_;clear f K
     (try simp only[Act.put,nzL])
     have G:=ae (V9.aa ((q9 ZQ).alloc ly (J #[U ZJ,Z (T (Q F 0 Y)) (L.length+1) c1] 146)));have hxi:=l.x.hi;have Hx:=l.x.lt;have ld:=l.lo;refine ah (i:=11) rfl (by kernel_rfl) λK f=>?_;go_simp;refine f _ _ (λ_=>W _ (λi hi n _=>G.o.block i hi n)) ?_;clear f K A V9
     (try simp only[Act.put,nzL])
     have XA:=ae (l.x.G G.o ld.1);have NA:=ae ((G.o.block nb (ag l.nm) (by omega)).trans l.nm);have DS:xb≠nb:=λe=>by have h1:=l.nm;rw[<-e] at h1;have h2:=l.x.ab.symm.trans h1;cases h2
     have hgl:=G.ir.lt;have sm:=G.o.size;have OA:Hid ((ZQ.alloc (J #[U ZJ,Z (T (Q F 0 Y)) (L.length+1) c1] 146)).ownsRow (w.heap.size+1) 151 3 (Z (T (Q F 0 Y)) (L.length+1) c1) (L.length+1) (bJ (dq ZP) (L.length+1))):=by have h:=G.ir;unfold IR at h;rw[vA,H8.out] at h;exact aB h (by omega)
     refine ah (i:=12) rfl (by kernel_rfl) λK f=>?_;refine aG rfl (.tmp 46) (.tmp 56) 25 rfl (w.heap.size+1) 146 th (ZH #[U ⟨#[]⟩,Z Y 0 0]) 2 40 QP hj DH Bk Fk rfl (by decide) (Z ZO b.length c5) b.length (b.flatMap bj) (by simp[Act.eval]) XA.R.i (Q ZQ.heap.size 0 Y) 1 1 (bj (⟨ZJ,L.length+1,dq ZP⟩,F,c1)) (by simp[Act.eval]) rfl (λj u hu=>dv ZQ _ _ _ j u hu) (by simp[bj,Value.oneCell']) (by unfold maxLen;omega) (by omega) (by omega) ?_;intro v' w9 D t _;obtain⟨a7,c7,rfl⟩:=aU D;have S9:=ae (W w9 (λi hi n At=>(t.block i (lj hi sm) At).trans (G.o.block i hi n)));obtain⟨c8,b8⟩:=XA.addT (x:=⟨ZJ,L.length+1,dq ZP⟩) (g:=F) (c:=c1) (λr ZK e=>by have:=l.x.R.ltg r ZK;omega) OA D t;have NB:Hid ((w9.setCell (Q xb 1 Y) (Z a7 (b.length+1) c7)).heap[nb]?=T (J crN 9 (0,0))):=(qh _ _ _ _ (λe=>DS e.symm)).trans (oI t XA.R.type NA (by decide))
     have CE:Hid (Cr w R xb nb LS (Z O LS.length c2) (w9.setCell (Q xb 1 Y) (Z a7 (b.length+1) c7)) q2 (Z a7 (b.length+1) c7) (b++[((⟨ZJ,L.length+1,dq ZP⟩,F,c1):TR)])):=⟨c8,l.g.add (r:=(⟨ZJ,L.length+1,dq ZP⟩,F,c1)) (by show L.length+1<=300;omega) (λj JT=>mE G.tx j (by have:=H8.out;have h2:j<L.length+1:=JT;omega)),(λr ZK=>by
      rcases p8.1 ZK with ZK|ZK;{exact l.gp r ZK}
      ·rw[nD.1 ZK];show 1<=L.length+1/\L.length+1<=200;omega),G.rd.low b8 (by omega),(l.o.trans G.o).then (b8.mono (F6 _)),NB,ld⟩
     clear D t c8 b8 NB NA XA OA G;refine f _ _ (λ_=>S9) ?_;clear f K
     (try simp only[Act.put,nzL])
     refine ah (i:=13) rfl (by kernel_rfl) λK f=>?_;go_simp;refine f _ _ (λ_=>S9) ?_;clear f K
     (try simp only[Act.put,nzL])
     obtain⟨s7,t7⟩:=S9.out;have f7:w9.frozen? (Q xb 1 Y)=ZA:=by simp[World.frozen?,s7]
     have l7:=ag s7;clear s7;refine ah (i:=14) rfl (by kernel_rfl) λK f=>?_;go_simp;refine f _ _ (λh=>absurd rfl h) ?_;clear f K
     (try simp only[Act.put,nzL])
     refine aX (by kernel_rfl) ?_ _;go_wp2;exact⟨⟨k+1,q2,_,_,by go_num,by omega,by omega,(by show(b++_).length=k+1;rw[cM,HK.out];rfl),CE⟩,by simp[intOf];omega⟩
  ·obtain rfl:k=5:=by omega
   have kr:=H.x.res;have r0:wr.cell? (Q w.heap.size 0 Y)=T (Z Y 0 0):=by simp[World.cell?,kr]
   have r1:wr.cell? (Q w.heap.size 1 Y)=T (Z Y 0 0):=by simp[World.cell?,kr]
   have f0:wr.frozen? (Q w.heap.size 0 Y)=ZA:=by simp[World.frozen?,kr]
   have f1:wr.frozen? (Q w.heap.size 1 Y)=ZA:=by simp[World.frozen?,kr]
   have l0:=ag kr;clear kr;obtain⟨kc0,kc1⟩:=H.x.cells;have Hx:=H.x.lt;have BB:=ae (((dB w.heap.size wr).setCell (p:=(Q w.heap.size 0 Y)) ly (Z O LS.length c2)).setCell (p:=(Q w.heap.size 1 Y)) ly (Z ZO b.length c5));have HE:=ae ((H.x.fin rfl rfl (by have:=la.out;omega) (by omega) H.g (Z O LS.length c2) (Z ZO b.length c5)).mono (F6 w.heap.size))
   have GE:Hid (Gd LS.length b.length (b9 (b.map (·.1)))):=⟨by have:=la.out;omega,by omega,λi hi=>by
    have e:b9 (b.map (·.1)) i=b[i].1:=by simp[b9,hi]
    rw[e]
    exact H.gp _ (gz hi)⟩
   have RE:=ae (H.rd.low BB ph);have OE:=ae (H.o.then BB);go_wp2;exact bp (v:=ZH #[Z O LS.length c2,Z ZO b.length c5]) (by simp[results,results121,go_sem,r0,r1]) rfl ⟨_,_,_,_,_,_,_,_,rfl,⟨HE,GE⟩,_,by omega,RE,OE⟩
