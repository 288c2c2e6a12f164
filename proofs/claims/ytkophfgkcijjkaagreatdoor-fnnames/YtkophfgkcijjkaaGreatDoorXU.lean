import Derived.Test.YtkophfgkcijjkaaGreatDoorYZ
import Derived.Test.YtkophfgkcijjkaaGreatDoorXG
import Derived.Test.YtkophfgkcijjkaaGreatDoorZR
import Derived.Test.YtkophfgkcijjkaaGreatDoorXA
import Derived.WalkSmall
set_option maxRecDepth 100000
set_option maxHeartbeats 8000000
namespace Go.Proofs.YtkophfgkcijjkaaGreatDoor.Vp
open RowKit Ca
theorem jC (a b:Option Addr)(n c d:Nat)(f:Nat->ByteArray)(w:World)(hn:n<=1048576)(o:SlStr w a n f)(hb:SlStr w b n f):Calls Tryz.prog 37 #[.slice a n c,.slice b n d] w fun e s=>e=.returned (.bool true)/\Below w.heap.size w s:=by
 have q:=ae o;have u:=ae hb;clear o hb;go_enter Tryz.func37,Tryz.ntmps37;go_wp2_with fail;go_loopw [5] (fun i wr=>∃ k:Nat,k<=n/\i=.int .i64 k/\Hid (Below w.heap.size w wr)) (fun i _=>n - (intOf i).toNat);case atStart=>exact⟨0,by omega,rfl,Below.refl _ _⟩
 case round =>
  obtain⟨k,hk,rfl,g⟩:=hrel;by_cases j:k<n
  ·rcases q.out.below g.out ly with h | ⟨sb,so,rfl,m⟩
   ·omega
   rcases u.out.below g.out ly with h | ⟨tb,sp,rfl,l⟩
   ·omega
   have t:=m.2 k j;have r:=l.2 k j;have hsb:=m.1;have htb:=l.1;clear m l;have hlt2:(k:Int)<n:=by omega
   go_wp2_with fail;go_quiet (fail);have p:=ae (below_drewN g.out nq);clear t r;generalize wr.drewN nq=W at p ⊢;go_wp2;exact⟨⟨k+1,by omega,by go_num,p.out⟩,by simp[intOf];omega⟩
  ·obtain rfl:k=n:=by omega
   go_wp2;go_ret;exact⟨rfl,g.out⟩
end Go.Proofs.YtkophfgkcijjkaaGreatDoor.Vp
namespace Go.Proofs.YtkophfgkcijjkaaGreatDoor.Vp
open RowKit
theorem rC (S:Spc)(nm:ByteArray):((bN S nm).1=[]/\5<(bN S nm).2.code)∨∃ M e,SpcOk S/\aw nm=true/\bv S 60 [] [] nm=.inl (M,e)/\bN S nm=(M,cY e):=by
 unfold bN;split
 ·rename_i h
  split
  ·rename_i b e c
   exact .inr ⟨b,e,SpcOk.of h.1,h.2,c,rfl⟩
  ·exact .inl ⟨rfl,by show(5:Int)<6;decide⟩
  ·exact .inl ⟨rfl,by show(5:Int)<7;decide⟩
 ·exact .inl ⟨rfl,by show(5:Int)<9;decide⟩
section
variable {S:Spc}{M:List Ent}
end
end Go.Proofs.YtkophfgkcijjkaaGreatDoor.Vp
namespace Go.Proofs.YtkophfgkcijjkaaGreatDoor.Vp
open RowKit Ca
theorem eS (a:Option Addr)(n c:Nat)(f:Nat->ByteArray)(x:ByteArray)(w:World)(hn:n<=1048576)(o:SlStr w a n f):Calls Tryz.prog 42 #[.slice a n c,.string x] w fun e s=>∃ b:Bool,e=.returned (.bool b)/\(b=true ↔ ∃ i,i<n/\(f i).toList=x.toList)/\Below w.heap.size w s:=by
 have q:=ae o;clear o;go_enter Tryz.func42,Tryz.ntmps42;go_wp2_with fail;go_loopw [5] (fun i wr=>∃ k:Nat,k<=n/\i=.int .i64 k/\Hid (∀ i,i<k->(f i).toList≠x.toList)/\Hid (Below w.heap.size w wr)) (fun i _=>n - (intOf i).toNat);case atStart=>exact⟨0,by omega,rfl,fun i hi=>absurd hi (by omega),Below.refl _ _⟩
 case round =>
  obtain⟨k,hk,rfl,m,g⟩:=hrel;by_cases j:k<n
  ·rcases q.out.below g.out ly with h | ⟨sb,so,rfl,l⟩
   ·omega
   have e0:=l.2 k j;have hsb:=l.1;clear l;have hlt2:(k:Int)<n:=by omega
   by_cases d:(f k).toList=x.toList
   ·have p:((f k).toList == x.toList)=true:=by simp[d]
    go_wp2;go_ret;exact⟨true,rfl,⟨fun _=>⟨k,j,d⟩,fun _=>rfl⟩,g.out⟩
   ·have p:((f k).toList == x.toList)=false:=by simpa using d
    have r:=ae d;clear d;go_wp2
    exact⟨⟨k+1,by omega,by go_num,(fun i hi=>by
     rcases Nat.lt_succ_iff_lt_or_eq.1 hi with h | rfl
     ·exact m.out i h
     ·exact r.out),g.out⟩,by simp[intOf];omega⟩
  ·obtain rfl:k=n:=by omega
   go_wp2;go_ret;exact⟨false,rfl,⟨(fun h=>by cases h),fun⟨i,hi,e⟩=>absurd e (m.out i hi)⟩,g.out⟩
theorem ni {w:World}{d c:Nat}{a:Option Addr}{L:List (List UInt8)}(h:w.ownsRow d 9 1 (.slice a L.length c) L.length (L.map encStr)):SlStr w a L.length (nmF L):=by
 by_cases hz:L.length=0
 ·exact .inl hz
 ·rcases h.2 with ⟨b,k⟩ | ⟨g,cap,cur,b,hb,j,h1,h2,h3,h4⟩
  ·exact absurd k hz
  ·simp only[Value.slice.injEq] at b
   obtain⟨rfl,-,rfl⟩:=b;refine .inr ⟨g,0,rfl,au j,fun i hi=>?_⟩;have f:=h.cells (g:=g) rfl i (encStr L[i]) (by simp[hi]);rw[fm] at f;rw[mI hi];exact f
theorem eU {L:List (List UInt8)}{x:ByteArray}:(∃ i,i<L.length/\(nmF L i).toList=x.toList) ↔ x.toList∈L:=by
 constructor
 ·rintro⟨i,hi,e⟩
  rw[<-e,eY hi];exact gz hi
 ·intro h
  obtain⟨i,hi,e⟩:=List.getElem_of_mem h;exact⟨i,hi,(eY hi).trans e⟩
def Fr (xs:List Nat)(W W':World):Prop:=W.heap.size<=W'.heap.size/\∀ k,k<W.heap.size->k ∉ xs->W'.heap[k]?=W.heap[k]?
theorem Fr.refl (xs:List Nat)(W:World):Fr xs W W:=⟨Nat.le_refl _,fun _ _ _=>rfl⟩
theorem Fr.trans {xs:List Nat}{W V U:World}(h:Fr xs W V)(g:Fr xs V U):Fr xs W U:=⟨Nat.le_trans h.1 g.1,fun k b c=>(g.2 k (lj b h.1) c).trans (h.2 k b c)⟩
theorem Fr.below {xs:List Nat}{W V:World}(h:Below W.heap.size W V):Fr xs W V:=⟨h.size,fun k b _=>h.block k b⟩
theorem Fr.only {xs:List Nat}{R:Nat}{W V:World}(h:Only R W V)(hR:R∈xs):Fr xs W V:=⟨h.size,fun k b c=>h.block k b (fun e=>c (e ▸ hR))⟩
theorem Fr.set {xs:List Nat}{x j:Nat}{W:World}(b:x∈xs)(u:Value):Fr xs W (W.setCell ⟨x,j,none⟩ u):=⟨by simp,fun k _ c=>qh W ⟨x,j,none⟩ u k (fun e=>c ((show k=x from e) ▸ b))⟩
def qA (xs:List Nat)(b z:Nat):Prop:=∀ x∈xs,x<b∨z<=x
theorem Agr.fr {xs:List Nat}{b:Nat}{c W V:World}(h:Agr b c W)(i:qA xs b c.heap.size)(f:Fr xs W V):Agr b c V :=
 ⟨Nat.le_trans h.1 f.1,fun k j d=>(f.2 k (lj d h.1) (fun l=>by rcases i k l with g | g<;>omega)).trans (h.2 k j d)⟩
def QSp (lo:Nat)(xs:List Nat)(W:World)(a0:Option Addr)(n0:Nat)(f0:Nat->Source)(a1:Option Addr)(n1:Nat)(f1:Nat->Target):Prop:=∃ (b:Nat) (c:World),lo<=b/\HSp b c a0 n0 f0 a1 n1 f1/\Agr b c W/\qA xs b c.heap.size
def QAc (lo:Nat)(xs:List Nat)(W:World)(a:Option Addr)(n c:Nat)(f:Nat->ar):Prop:=∃ (b:Nat) (d:World),lo<=b/\HAc b d a n c f/\Agr b d W/\qA xs b d.heap.size
section
variable {lo b:Nat}{xs:List Nat}{W V:World}{a0 a1 a:Option Addr}{n0 n1 n c:Nat}{f0:Nat->Source}{f1:Nat->Target}{f:Nat->ar}
theorem QSp.fr (h:QSp lo xs W a0 n0 f0 a1 n1 f1)(j:Fr xs W V):QSp lo xs V a0 n0 f0 a1 n1 f1:=by obtain⟨b,d,g,i,f,c⟩:=h;exact⟨b,d,g,i,f.fr c j,c⟩
theorem QAc.fr (h:QAc lo xs W a n c f)(l:Fr xs W V):QAc lo xs V a n c f:=by obtain⟨b,g,j,k,i,d⟩:=h;exact⟨b,g,j,k,i.fr d l,d⟩
theorem QSp.at (h:QSp lo xs W a0 n0 f0 a1 n1 f1):HSp lo W a0 n0 f0 a1 n1 f1:=by obtain⟨b,w1,c,d,f,-⟩:=h;exact(d.agr f).mono c
theorem QAc.at (h:QAc lo xs W a n c f):HAc lo W a n c f:=by obtain⟨b,w1,d,g,i,-⟩:=h;exact(g.agr i).mono d
theorem QSp.new (h:HSp b W a0 n0 f0 a1 n1 f1)(c:lo<=b)(d:qA xs b W.heap.size):QSp lo xs W a0 n0 f0 a1 n1 f1:=⟨b,W,c,h,Agr.refl _ _,d⟩
theorem QAc.new (h:HAc b W a n c f)(d:lo<=b)(g:qA xs b W.heap.size):QAc lo xs W a n c f:=⟨b,W,d,h,Agr.refl _ _,g⟩
end
theorem xr {W:World}{b c:Nat}{a:Option Addr}{S:Spc}{nm:ByteArray}{R:List DR}(h:DRow W b (.slice a R.length c) R)(f:R.map (·.1)=fg S (bN S nm).1):HAc b W a R.length c (dF (fg S (bN S nm).1))/\R.length<=400/\∀ i,i<R.length->FitD (dF (fg S (bN S nm).1) i)/\(dF (fg S (bN S nm).1) i).text.size<=2000/\(dF (fg S (bN S nm).1) i).actN<=200/\(dF (fg S (bN S nm).1) i).linksN<=200:=by
 have o:R.length=(bN S nm).1.length:=by have:=congrArg List.length f;simpa[fg] using this
 have hn:R.length<=400:=by
  rw[o];rcases rC S nm with ⟨g,-⟩ | ⟨M,e,m,-,n,l⟩
  ·rw[g];exact Nat.zero_le _
  ·rw[l];exact tA m n
 have j:∀ r∈R,FitD r.1/\r.1.text.size<=2000/\r.1.actN<=200/\r.1.linksN<=200:=fun r d=>xd S nm r.1 (by rw[<-f];exact List.mem_map_of_mem d);have g:=yT h (fun r d=>(j r d).1) (by omega);rw[f] at g;refine⟨g,hn,fun i hi=>?_⟩;obtain⟨r,d,k⟩:=dI hi;rw[<-f,jb d];exact j r k
def crN:Array Value:=#[.string ⟨#[97]⟩,.string ⟨#[98]⟩,.string ⟨#[99]⟩,.string ⟨#[116,48]⟩,.string ⟨#[116,49]⟩,.string ⟨#[116,50]⟩,.string ⟨#[116,51]⟩]
theorem yY:∀ k,k<7->∃ s:ByteArray,crN[k]?=some (.string s)/\s.size<=5000:=fun k hk=>by rcases(show k=0∨k=1∨k=2∨k=3∨k=4∨k=5∨k=6 by omega) with rfl | rfl | rfl | rfl | rfl | rfl | rfl<;>exact⟨_,rfl,by decide⟩
structure Cr (w:World)(R xb nb:Nat)(LS:List Source)(v0:Value)(W:World)(q:Nat)(v1:Value)(RT:List TR):Prop where
 x:SpX w.heap.size xb (w.heap.size+1) W v0 v1 LS RT
 g:GX RT
 rd:Rd W R q
 o:Only R w W
 nm:W.heap[nb]?=some (.cells crN 9 (0,0))
 lo:R<w.heap.size/\w.heap.size<nb
section
variable {w W W':World}{R xb nb q q':Nat}{LS:List Source}{v0 v1:Value}{RT:List TR}
theorem Cr.only (h:Cr w R xb nb LS v0 W q v1 RT)(b:Only R W W')(hR:Rd W' R q'):Cr w R xb nb LS v0 W' q' v1 RT:=by obtain⟨c,l2⟩:=h.lo;exact⟨h.x.only b c,h.g,hR,h.o.trans b,(b.block _ (au h.nm) (by omega)).trans h.nm,h.lo⟩
theorem Cr.below (h:Cr w R xb nb LS v0 W q v1 RT)(b:Below W.heap.size W W'):Cr w R xb nb LS v0 W' q v1 RT:=h.only (Only.of_below b) (h.rd.below b ly)
theorem Cr.name (h:Cr w R xb nb LS v0 W q v1 RT){k:Nat}(b:k<7):∃ s:ByteArray,W.cell? ⟨nb,k,none⟩=some (.string s)/\s.size<=5000:=by obtain⟨s,c,d⟩:=yY k b;have hb:=h.nm;exact⟨s,by simp[World.cell?,hb,c],d⟩
end
theorem oF (R p:Nat)(w:World)(hR:Rd w R p)(hp:p<=20000):Calls Tryz.prog 169 #[.pointer (some ⟨R,0,none⟩)] w fun e w'=>DH w R (p+100) e w':=by
 obtain⟨zP,hj,zM,ur,zG⟩:=info_parts ft;obtain⟨qr,hi,zO,zF,zT⟩:=lc;have n8:=hR.lt;obtain⟨LS,bt⟩:∃ LS:List Source,LS=[⟨⟨#[97]⟩,⟨#[65]⟩⟩,⟨⟨#[98]⟩,⟨#[66]⟩⟩,⟨⟨#[99]⟩,⟨#[67]⟩⟩]:=⟨_,rfl⟩
 have aq:LS.length=3:=by rw[bt];rfl
 have C0:Hid (Cr w R (w.heap.size+1+1) (w.heap.size+1+1+1) LS (.slice (some ⟨w.heap.size+1,0,none⟩) 3 3) ((((w.alloc (.cells #[.slice none 0 0,.slice none 0 0] 26)).alloc (.cells #[.string ⟨#[97]⟩,.string ⟨#[65]⟩,.string ⟨#[98]⟩,.string ⟨#[66]⟩,.string ⟨#[99]⟩,.string ⟨#[67]⟩] 100)).alloc (.cells #[.slice (some ⟨w.heap.size+1,0,none⟩) 3 3,.slice none 0 0] 26)).alloc (.cells crN 9)) p (.slice none 0 0) []):=by
  have zL:(w.alloc (.cells #[.slice none 0 0,.slice none 0 0] 26)).heap.size=w.heap.size+1:=by simp
  have zD:((w.alloc (.cells #[.slice none 0 0,.slice none 0 0] 26)).alloc (.cells #[.string ⟨#[97]⟩,.string ⟨#[65]⟩,.string ⟨#[98]⟩,.string ⟨#[66]⟩,.string ⟨#[99]⟩,.string ⟨#[67]⟩] 100)).heap.size=w.heap.size+1+1:=by simp
  have zJ:(((w.alloc (.cells #[.slice none 0 0,.slice none 0 0] 26)).alloc (.cells #[.string ⟨#[97]⟩,.string ⟨#[65]⟩,.string ⟨#[98]⟩,.string ⟨#[66]⟩,.string ⟨#[99]⟩,.string ⟨#[67]⟩] 100)).alloc (.cells #[.slice (some ⟨w.heap.size+1,0,none⟩) 3 3,.slice none 0 0] 26)).heap.size=w.heap.size+1+1+1:=by simp
  have k1:=heap_alloc_new w (.cells #[.slice none 0 0,.slice none 0 0] 26);have k2:=heap_alloc_new (w.alloc (.cells #[.slice none 0 0,.slice none 0 0] 26)) (.cells #[.string ⟨#[97]⟩,.string ⟨#[65]⟩,.string ⟨#[98]⟩,.string ⟨#[66]⟩,.string ⟨#[99]⟩,.string ⟨#[67]⟩] 100);rw[zL] at k2;have BQ:=(Below.refl (w.heap.size+1) (w.alloc (.cells #[.slice none 0 0,.slice none 0 0] 26))).alloc (by omega) (.cells #[.string ⟨#[97]⟩,.string ⟨#[65]⟩,.string ⟨#[98]⟩,.string ⟨#[66]⟩,.string ⟨#[99]⟩,.string ⟨#[67]⟩] 100);have h:=rX (LS:=LS) (base:=w.heap.size+1) (base':=w.heap.size+1) ((BQ.block w.heap.size (Nat.lt_succ_self _)).trans k1) (Nat.lt_succ_self _) ly (by omega) (v0:=.slice (some ⟨w.heap.size+1,0,none⟩) 3 3) (by subst bt;exact⟨rfl,.inr ⟨w.heap.size+1,3,_,rfl,Nat.le_refl _,k2,Nat.le_refl _,by unfold maxLen;omega,rfl,rfl⟩⟩) (cL _ _);rw[zD] at h;have BW:=(((q9 w).alloc ly (.cells #[.slice none 0 0,.slice none 0 0] 26)).alloc (by omega) (.cells #[.string ⟨#[97]⟩,.string ⟨#[65]⟩,.string ⟨#[98]⟩,.string ⟨#[66]⟩,.string ⟨#[99]⟩,.string ⟨#[67]⟩] 100)).alloc (by omega) (.cells #[.slice (some ⟨w.heap.size+1,0,none⟩) 3 3,.slice none 0 0] 26);have kn:=heap_alloc_new (((w.alloc (.cells #[.slice none 0 0,.slice none 0 0] 26)).alloc (.cells #[.string ⟨#[97]⟩,.string ⟨#[65]⟩,.string ⟨#[98]⟩,.string ⟨#[66]⟩,.string ⟨#[99]⟩,.string ⟨#[67]⟩] 100)).alloc (.cells #[.slice (some ⟨w.heap.size+1,0,none⟩) 3 3,.slice none 0 0] 26)) (.cells crN 9);rw[zJ] at kn;have BZ:=BW.alloc (by omega) (.cells crN 9);exact⟨h.below (br.alloc ly _) ly,fun _ h=>absurd h nj,hR.below BZ ly,Only.of_below BZ,kn,by omega⟩
 clear hR bt;go_enter Tryz.func169,Tryz.ntmps169;go_wp2_with fail;rw[show(#[.string ⟨#[97]⟩,.string ⟨#[98]⟩,.string ⟨#[99]⟩,.string ⟨#[116,48]⟩,.string ⟨#[116,49]⟩,.string ⟨#[116,50]⟩,.string ⟨#[116,51]⟩]:Array Value)=crN from rfl];generalize (((w.alloc (.cells #[.slice none 0 0,.slice none 0 0] 26)).alloc (.cells #[.string ⟨#[97]⟩,.string ⟨#[65]⟩,.string ⟨#[98]⟩,.string ⟨#[66]⟩,.string ⟨#[99]⟩,.string ⟨#[67]⟩] 100)).alloc (.cells #[.slice (some ⟨w.heap.size+1,0,none⟩) 3 3,.slice none 0 0] 26)).alloc (.cells crN 9)=W0 at C0 ⊢;obtain⟨N,c2,C1⟩:∃ (N:Option Addr) (c2:Nat),Hid (Cr w R (w.heap.size+1+1) (w.heap.size+1+1+1) LS (.slice N LS.length c2) W0 p (.slice none 0 0) []):=⟨some ⟨w.heap.size+1,0,none⟩,3,by rw[aq];exact C0.out⟩
 clear C0;generalize w.heap.size+1+1+1=nb at C1 ⊢;generalize w.heap.size+1+1=xb at C1 ⊢;have zN:Hid (LS.length=3):=aq;clear aq;go_loopw [5] (fun v wr=>∃ (k q:Nat) (v1:Value) (b:List TR),v=.int .i64 k/\k<=5/\q<=p+9*k/\Hid (b.length=k)/\Hid (Cr w R xb nb LS (.slice N LS.length c2) wr q v1 b)) (fun v _=>5 - (intOf v).toNat);case atStart=>exact⟨0,p,_,[],rfl,by omega,by omega,rfl,C1.out⟩
 case round =>
  clear C1;obtain⟨k,q,v1,b,rfl,hk,hq,HK,J⟩:=hrel;obtain⟨O,c5,rfl⟩:=aL J.out.x.tgt.own;have hrn:b.length<=5:=by have:=HK.out;omega
  by_cases hlt:k<5
  ·have hwk:IntKind.i64.wrap ((k:Int)+1)=(k:Int)+1:=by rw[IntKind.wrap_i64];omega
   go_wp2_with fail;refine(aY _ _).mono ?_;rintro e D ⟨rfl,A⟩;have n:=ae (J.out.below A);clear A J;have V1:Hid (VS D R (D.alloc (.cells #[.int .i64 1,.string ⟨#[]⟩,.int .i64 0] 176)) q D.heap.size 1 [(1,[],0)] 1):=by have B:=(q9 D).alloc ly (.cells #[.int .i64 1,.string ⟨#[]⟩,.int .i64 0] 176);exact⟨n.out.rd.below B ly,Only.of_below B,IR.new D _ ly [(1,[],0)] _ rfl 1 rfl (by omega),by simp,n.out.rd.lt,Nat.le_refl _⟩
   go_wp2_with fail;generalize D.alloc (.cells #[.int .i64 1,.string ⟨#[]⟩,.int .i64 0] 176)=W1 at V1 ⊢;refine(aA R _ 4 _ V1.out.rd (by omega) (by omega) (by omega)).mono ?_;rintro e w2 ⟨z,rfl,ld,n9,hR,Q⟩;have V2:=ae (V1.out.only Q hR);clear hR Q V1;have zI:IntKind.i64.wrap (1+z)=1+z:=by rw[IntKind.wrap_i64];omega
   go_wp2_with fail;go_loopw [6,7] (fun c6 k7 wx=>∃ (j:Int) (q' g c:Nat) (L:List I3),c6=.slice (some ⟨g,0,none⟩) L.length c/\k7=.int .i64 j/\0<=j/\j<=4/\(L.length:Int)+3*j<=13/\(q':Int)+2*j<=(q:Int)+9/\Hid (VS D R wx q' g c L L.length)) (fun _ k7 _=>(intOf k7).toNat);case atStart=>exact⟨1+z,_,_,_,_,rfl,rfl,by omega,by omega,by simp only[List.length_cons,List.length_nil];omega,by omega,V2.out⟩
   case round =>
    clear V2 zI ld n9;obtain⟨j,q2,g,c,L,rfl,rfl,hj0,hj4,hL,hq2,Z⟩:=hrel;by_cases hjp:0<j
    ·have hwj:IntKind.i64.wrap (j - 1)=j - 1:=by rw[IntKind.wrap_i64];omega
     have hw3:IntKind.i64.wrap (3+(k:Int))=3+(k:Int):=by rw[IntKind.wrap_i64];omega
     go_wp2_with fail;refine(aA R _ 4 _ Z.out.rd (by omega) (by omega) (by omega)).mono ?_;rintro e w4 ⟨y,rfl,y0,y1,hR,Q⟩;have W:=ae (Z.out.only Q hR);clear hR Q Z;go_upto_if 30 with fail;go_cut [8] (fun s8 wx=>∃ op:Int,s8=.int .i64 op/\w4=wx);case first =>
      by_cases hy:y=0
      ·subst hy
       go_wp2;go_meet;exact⟨_,rfl,rfl⟩
      ·have hyb:(y == 0)=false:=by simpa using hy
       go_wp2;go_meet;exact⟨_,rfl,rfl⟩
     case rest =>
     obtain⟨op,rfl,rfl⟩:=hcut;go_wp2_with fail;refine(aA R _ (3+(k:Int)) _ W.out.rd (by omega) (by omega) (by omega)).mono ?_;rintro e w5 ⟨y',rfl,fd,ro,hR,Q⟩;have T:=ae (W.out.only Q hR);clear hR Q W y0 y1;obtain⟨m,rfl⟩:=Int.eq_ofNat_of_zero_le fd;obtain⟨s,hs,zQ⟩:=(n.out.only T.out.o T.out.rd).name (k:=m) (by omega);have zR:(m:Int)<7:=by omega
     go_wp2_with fail;refine(aY _ _).mono ?_;rintro e w6 ⟨rfl,A⟩;have V6:=ae (T.out.below A);clear A T hs zR fd ro;go_wp2_with fail;refine(aR _ _).mono ?_;rintro e w7 ⟨rfl,A⟩;have V7:=ae (V6.out.below A);clear A V6;go_wp2_with fail;refine(aR _ _).mono ?_;rintro e H ⟨rfl,A⟩;have P:=ae (V7.out.below A);clear A V7;have X:=ae (P.out.below ((q9 H).alloc ly (.cells #[.int .i64 1,.string s,.int .i64 0,.int .i64 op,.string ⟨#[]⟩,.int .i64 0,.int .i64 2,.string ⟨#[]⟩,.int .i64 0] 176)));go_wp2_with (at_builtin;refine bV rfl (.tmp 31) (.tmp 43) rfl D.heap.size g c L (by simp[Act.eval]) X.out.ir ⟨H.heap.size,0,none⟩ 3 3 [(1,s.data.toList,0),(op,[],0),(2,[],0)] (by simp[Act.eval]) rfl (by simp) (bU H #[.int .i64 1,.string s,.int .i64 0,.int .i64 op,.string ⟨#[]⟩,.int .i64 0,.int .i64 2,.string ⟨#[]⟩,.int .i64 0] _) (by simp only[List.length_cons,List.length_nil];omega) (by have:=P.out.o.size;simp;omega) ?_);intro E c1 W9 hI hG;have V9:=ae (P.out.add _ hI hG (dM zQ (by simp)));clear hI hG X P;go_wp2;exact⟨⟨j - 1,_,_,_,_,by rw[List.length_append];rfl,rfl,by omega,by omega,by simp only[List.length_append,List.length_cons,List.length_nil];omega,by omega,V9.out⟩,by simp only[intOf];omega⟩
    ·go_wp2_with fail
     have U:Hid (∀ V:World,(∀ i,i<D.heap.size->i≠R->some i≠(Value.slice O b.length c5).ownBlock->V.heap[i]?=D.heap[i]?)->V.heap[xb]?=some (.cells #[.slice N LS.length c2,.slice O b.length c5] 26 (0,0))/\V.cell? ⟨xb,1,none⟩=some (.slice O b.length c5)):=fun V hV=>by
      have h1:=(hV xb n.out.x.lt (by have:=n.out.x.hi;omega) fun e=>by
       obtain⟨th,mv⟩:=n.out.x.tgt.type _ e.symm;have h3:=n.out.x.box.symm.trans mv
       cases h3).trans n.out.x.box
      exact⟨h1,by simp[World.cell?,h1]⟩
     refine aJ (fun V=>V.heap[xb]?=some (.cells #[.slice N LS.length c2,.slice O b.length c5] 26 (0,0))/\V.cell? ⟨xb,1,none⟩=some (.slice O b.length c5)) 14 (by as_aux_lemma=>kernel_rfl) ?_;have W:=ae (Z.out.below br.drew);have t:=ae (U.out _ (fun i hi f _=>W.out.o.block i hi f));clear Z
     iterate 3
      refine aM 0 (v:=?_) rfl rfl (by as_aux_lemma=>kernel_rfl) (fun _ _ _ h=>h) rfl ?_ t.out ?_;rotate_left
      ·(intro wz S;obtain⟨s0,s1⟩:=S;go_simp)
       (try with_reducible rfl)
      (try simp only[Act.put,nzL])
     refine aM 5 (v:=?_) rfl rfl (by as_aux_lemma=>kernel_rfl) (fun _ _ _ h=>h) rfl ?_ t.out ?_;rotate_left
     ·(intro wz S;obtain⟨s0,s1⟩:=S;go_simp)
      (try with_reducible rfl)
     (try simp only[Act.put,nzL])
     refine aj (i:=3) rfl (by as_aux_lemma=>kernel_rfl) (fun K d=>?_);go_simp;go_at_call 126;refine(fS k (by omega) _).mono ?_;rintro e w5 ⟨rfl,A⟩;have T:=ae (W.out.below A);clear A t W;have t:=ae (U.out _ (fun i hi f _=>T.out.o.block i hi f));refine d.out _ _ (fun _=>t.out) ?_;clear d K
     (try simp only[Act.put,nzL])
     refine aM 4 (v:=?_) rfl rfl (by as_aux_lemma=>kernel_rfl) (fun _ _ _ h=>h) rfl ?_ t.out ?_;rotate_left
     ·(intro wz S;obtain⟨s0,s1⟩:=S;go_simp)
      (try with_reducible rfl)
     (try simp only[Act.put,nzL])
     generalize (⟨#[116]⟩:ByteArray)++⟨#[dig k]⟩=Y;refine aj (i:=6) rfl (by as_aux_lemma=>kernel_rfl) (fun K d=>?_);go_simp;go_at_call 129;refine(aR _ _).mono ?_;rintro e w6 ⟨rfl,A⟩;have V6:=ae (T.out.below A);clear A t T;have t:=ae (U.out _ (fun i hi f _=>V6.out.o.block i hi f));refine d.out _ _ (fun _=>t.out) ?_;clear d K
     (try simp only[Act.put,nzL])
     have X:=ae (V6.out.below ((q9 w6).alloc ly (.cells #[.int .i64 15,.string ⟨#[]⟩,.int .i64 0] 176)));clear t;have t:=ae (U.out _ (fun i hi f _=>X.out.o.block i hi f));refine aj (i:=7) rfl (by as_aux_lemma=>kernel_rfl) (fun K d=>?_);go_simp;refine d.out _ _ (fun _=>t.out) ?_;clear d K
     (try simp only[Act.put,nzL])
     refine aj (i:=8) rfl (by as_aux_lemma=>kernel_rfl) (fun K d=>?_);refine bq rfl (.tmp 50) (.tmp 52) 29 rfl D.heap.size 176 qr (.agg #[.int .i64 0,.string ⟨#[]⟩,.int .i64 0]) 3 32 Tryz.underlying29 hi zO zF zT rfl (by decide) (.slice (some ⟨g,0,none⟩) L.length c) L.length (i3L L) (by simp[Act.eval]) X.out.ir ⟨w6.heap.size,0,none⟩ 1 1 (i3L [(15,[],0)]) (by simp[Act.eval]) rfl (bU w6 #[.int .i64 15,.string ⟨#[]⟩,.int .i64 0] _) (rK _) (by unfold maxLen;omega) (by omega) (by have:=X.out.o.size;omega) ?_;intro v' H C l _;obtain⟨E,c1,rfl⟩:∃ E c1,v'=.slice (some ⟨E,0,none⟩) (L.length+1) c1:=by
      rcases C.2 with ⟨_,h0⟩ | ⟨g',cap,th,hv,_⟩
      ·omega
      ·exact⟨g',cap,hv⟩
     have P:=ae (X.out.join (M:=[(15,[],0)]) (g':=E) (c':=c1) (by
      unfold IR;rw[mK,List.length_append]
      exact C) l (by simp))
     clear C l X t;have t:=ae (U.out _ (fun i hi f _=>P.out.o.block i hi f));refine d.out _ _ (fun _=>t.out) ?_;clear d K
     (try simp only[Act.put,nzL])
     obtain⟨I,la,V9⟩:∃ I:List I3,I.length=L.length+1/\Hid (VS D R H q2 E c1 I I.length):=⟨L++[(15,[],0)],List.length_append,P.out⟩
     have H8:Hid (I.length=L.length+1):=la;clear P la;refine aj (i:=9) rfl (by as_aux_lemma=>kernel_rfl) (fun K d=>?_);go_simp;refine d.out _ _ (fun _=>t.out) ?_;clear d K
     (try simp only[Act.put,nzL])
     refine aj (i:=10) rfl (by as_aux_lemma=>kernel_rfl) (fun K d=>?_);go_simp;refine d.out _ _ (fun _=>t.out) ?_;clear d K
     (try simp only[Act.put,nzL])
     have G:=ae (V9.out.below ((q9 H).alloc ly (.cells #[.string Y,.slice (some ⟨E,0,none⟩) (L.length+1) c1] 104)));have hxi:=n.out.x.hi;have zK:=n.out.x.lt;have ex:=n.out.lo;refine aj (i:=11) rfl (by as_aux_lemma=>kernel_rfl) (fun K d=>?_);go_simp;refine d.out _ _ (fun _=>U.out _ (fun i hi f _=>G.out.o.block i hi f)) ?_;clear d K t V9
     (try simp only[Act.put,nzL])
     have XA:=ae (n.out.x.only G.out.o ex.1);have NA:=ae ((G.out.o.block nb (au n.out.nm) (by omega)).trans n.out.nm);have zH:xb≠nb:=fun e=>by have h1:=n.out.nm;rw[<-e] at h1;have h2:=n.out.x.box.symm.trans h1;cases h2
     have hgl:=G.out.ir.lt;have zS:=G.out.o.size;have OA:Hid ((H.alloc (.cells #[.string Y,.slice (some ⟨E,0,none⟩) (L.length+1) c1] 104)).ownsRow (w.heap.size+1) 176 3 (.slice (some ⟨E,0,none⟩) (L.length+1) c1) (L.length+1) (bI (cE I) (L.length+1))):=by have h:=G.out.ir;unfold IR at h;rw[pU,H8.out] at h;exact aB h (by omega)
     refine aj (i:=12) rfl (by as_aux_lemma=>kernel_rfl) (fun K d=>?_);refine bq rfl (.tmp 46) (.tmp 56) 24 rfl (w.heap.size+1) 104 zP (.agg #[.string ⟨#[]⟩,.slice none 0 0]) 2 40 Tryz.underlying24 hj zM ur zG rfl (by decide) (.slice O b.length c5) b.length (b.flatMap aU) (by simp[Act.eval]) XA.out.tgt.own ⟨H.heap.size,0,none⟩ 1 1 (aU (⟨Y,L.length+1,cE I⟩,E,c1)) (by simp[Act.eval]) rfl (fun j u hu=>da H _ _ _ j u hu) (by simp[aU,Value.oneCell']) (by unfold maxLen;omega) (by omega) (by omega) ?_;intro v' w9 C l _;obtain⟨a7,c7,rfl⟩:=aL C;have S9:=ae (U.out w9 (fun i hi f zE=>(l.block i (lj hi zS) zE).trans (G.out.o.block i hi f)));obtain⟨c8,b8⟩:=XA.out.addT (x:=⟨Y,L.length+1,cE I⟩) (g:=E) (c:=c1) (fun r hr e=>by have:=n.out.x.tgt.ltg r hr;omega) OA.out C l;have NB:Hid ((w9.setCell ⟨xb,1,none⟩ (.slice a7 (b.length+1) c7)).heap[nb]?=some (.cells crN 9 (0,0))):=(qh _ _ _ _ (fun e=>zH e.symm)).trans (iK l XA.out.tgt.type NA.out (by decide));have CE:Hid (Cr w R xb nb LS (.slice N LS.length c2) (w9.setCell ⟨xb,1,none⟩ (.slice a7 (b.length+1) c7)) q2 (.slice a7 (b.length+1) c7) (b++[((⟨Y,L.length+1,cE I⟩,E,c1):TR)])):=⟨c8,n.out.g.add (r:=(⟨Y,L.length+1,cE I⟩,E,c1)) (by show L.length+1<=300;omega) (fun j sm=>jq G.out.tx j (by have:=H8.out;have h2:j<L.length+1:=sm;omega)),G.out.rd.low b8 (by omega),(n.out.o.trans G.out.o).then (b8.mono (Nat.le_succ _)),NB.out,ex⟩
     clear C l c8 b8 NB NA XA OA G;refine d.out _ _ (fun _=>S9.out) ?_;clear d K
     (try simp only[Act.put,nzL])
     refine aj (i:=13) rfl (by as_aux_lemma=>kernel_rfl) (fun K d=>?_);go_simp;refine d.out _ _ (fun _=>S9.out) ?_;clear d K
     (try simp only[Act.put,nzL])
     obtain⟨s7,t7⟩:=S9.out;have f7:w9.frozen? ⟨xb,1,none⟩=false:=by simp[World.frozen?,s7]
     have l7:=au s7;clear s7;refine aj (i:=14) rfl (by as_aux_lemma=>kernel_rfl) (fun K d=>?_);go_simp;refine d.out _ _ (fun h=>absurd rfl h) ?_;clear d K
     (try simp only[Act.put,nzL])
     refine aP (by as_aux_lemma=>kernel_rfl) ?_ _;go_wp2;exact⟨⟨k+1,q2,_,_,by go_num,by omega,by omega,(by show(b++_).length=k+1;rw[List.length_append,HK.out];rfl),CE.out⟩,by simp[intOf];omega⟩
  ·obtain rfl:k=5:=by omega
   have kr:=J.out.x.res;have r0:wr.cell? ⟨w.heap.size,0,none⟩=some (.slice none 0 0):=by simp[World.cell?,kr]
   have r1:wr.cell? ⟨w.heap.size,1,none⟩=some (.slice none 0 0):=by simp[World.cell?,kr]
   have f0:wr.frozen? ⟨w.heap.size,0,none⟩=false:=by simp[World.frozen?,kr]
   have f1:wr.frozen? ⟨w.heap.size,1,none⟩=false:=by simp[World.frozen?,kr]
   have l0:=au kr;clear kr;obtain⟨kc0,kc1⟩:=J.out.x.cells;have zK:=J.out.x.lt;have BB:=ae (((Below.refl w.heap.size wr).setCell (p:=⟨w.heap.size,0,none⟩) ly (.slice N LS.length c2)).setCell (p:=⟨w.heap.size,1,none⟩) ly (.slice O b.length c5));have HE:=ae ((J.out.x.fin rfl rfl (by have:=zN.out;omega) (by omega) J.out.g (.slice N LS.length c2) (.slice O b.length c5)).mono (Nat.le_succ w.heap.size));have RE:=ae (J.out.rd.low BB.out n8);have OE:=ae (J.out.o.then BB.out);go_wp2;exact bp (v:=.agg #[.slice N LS.length c2,.slice O b.length c5]) (by simp[results,Tryz.results169,go_sem,r0,r1]) rfl ⟨_,_,_,_,_,_,_,_,rfl,HE.out,_,by omega,RE.out,OE.out⟩
end Go.Proofs.YtkophfgkcijjkaaGreatDoor.Vp
