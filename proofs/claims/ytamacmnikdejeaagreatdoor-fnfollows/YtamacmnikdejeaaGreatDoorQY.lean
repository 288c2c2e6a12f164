import Derived.Test.YtamacmnikdejeaaGreatDoorQV
import Derived.Test.YtamacmnikdejeaaGreatDoorRJ
import Derived.Sort.EncStr
import Derived.Test.YtamacmnikdejeaaGreatDoorRX
import Derived.Test.YtamacmnikdejeaaGreatDoorRO
open Bool renaming true->QD
namespace Go.Proofs.YtamacmnikdejeaaGreatDoor.Vp
open RowKit
structure Sml (LS:List Source)(LT:List Target):Prop where
 n0:LS.length<=300
 n1:LT.length<=300
 act:∀ i,i<LT.length->(be LT i).actN<=300/\∀ j,j<(be LT i).actN->((be LT i).act j).s.size<=5000
 pos:LS.length<=250/\LT.length<=250/\∀ i,i<LT.length->1<=(be LT i).actN/\(be LT i).actN<=200
theorem qq:Sml [] []:=⟨by simp,by simp,fun i hi=>absurd hi (by simp),by simp,by simp,fun i hi=>absurd hi (by simp)⟩
theorem GoodE.sml {l:List Source}{b:List Target}(h:GoodE l b):Sml l b:=by
 have hf:=h.few;have f:∀ i (hi:i<b.length),valid b[i].act b[i].actN=QD:=fun i hi=>by have f:=(h.tgt _ (gj hi)).2;unfold b9 at f;simpa using f
 refine⟨by omega,by omega,fun i hi=>?_,by omega,by omega,fun i hi=>by
  rw[dX hi];obtain⟨h1,h2,m⟩:=bN (f i hi)
  omega⟩
 rw[dX hi];obtain⟨h1,h2,m⟩:=bN (f i hi);refine⟨by omega,fun j n=>?_⟩;have g:=js h1 n;unfold cy at g;rw[j5] at g;have hm:bP (b[i].act j).op<=2000:=by unfold bP;split<;>omega
 omega
theorem Bu {n0:Nat}{f0:Nat->Source}{n1:Nat}{f1:Nat->Target}{t tx:ByteArray}:Sml (gE n0 f0 n1 f1 t tx) (jc n0 f0 n1 f1 t tx):=by
 by_cases h:mc n0 f0 n1 f1 t tx=0
 ·exact(AY h).1.sml
 ·rw[gE,jc,cM h,cM h];exact qq
theorem zp {n0:Nat}{f0:Nat->Source}{n1:Nat}{f1:Nat->Target}{t:ByteArray}{m:Nat}{b:Nat->Ins}(h:jB n0 f0 n1 f1 t (valid b m)=0):au t=QD/\GoodE (gn n0 f0 n1 f1 t m b) (gN n0 f0 n1 f1 t m b)/\∃ i:Nat,(gN n0 f0 n1 f1 t m b)[i]?=some ⟨t,m,b⟩:=by
 have f:=h;unfold jB at f;by_cases a1:bh n0 f0 n1 f1≠0
 ·rw[gM a1] at f;cases f
 rw[cM a1] at f;by_cases g:au t=false∨valid b m=false
 ·rw[gM g] at f;cases f
 rw[cM g] at f;by_cases q:200<=(keepS f0 t n0).length+(keepT f1 t n1).length
 ·rw[gM q] at f;cases f
 have l:bh n0 f0 n1 f1=0:=by omega
 have hn:au t=QD:=by rw[<-JR];exact fun e=>g (.inl e)
 have j:valid b m=QD:=by rw[<-JR];exact fun e=>g (.inr e)
 obtain⟨o,n⟩:=yS (x:=⟨t,m,b⟩) (t:=t) (mD t l) rfl (by omega) hn (by unfold b9;simp[j]) qH tL;have r:gn n0 f0 n1 f1 t m b=keepS f0 t n0:=by rw[gn,gM h]
 have p:gN n0 f0 n1 f1 t m b=od (keepT f1 t n1) ⟨t,m,b⟩ t:=by rw[gN,gM h]
 rw[r,p];exact⟨hn,o,n⟩
theorem Bv {n0:Nat}{f0:Nat->Source}{n1:Nat}{f1:Nat->Target}{t:ByteArray}{m:Nat}{b:Nat->Ins}:Sml (gn n0 f0 n1 f1 t m b) (gN n0 f0 n1 f1 t m b):=by
 by_cases h:jB n0 f0 n1 f1 t (valid b m)=0
 ·exact(zp h).2.1.sml
 ·rw[gn,gN,cM h,cM h];exact qq
theorem Bw {n0:Nat}{f0:Nat->Source}{n1:Nat}{f1:Nat->Target}{t:ByteArray}:Sml (iD n0 f0 n1 f1 t) (kH n0 f0 n1 f1 t):=by
 by_cases h:kG n0 f0 n1 f1 t=0
 ·have f:bh n0 f0 n1 f1=0:=by
   have b:=h;unfold kG at b;by_cases a1:bh n0 f0 n1 f1≠0
   ·rw[gM a1] at b;cases b
   ·omega
  rw[iD,kH,gM h,gM h];exact(mD t f).sml
 ·rw[iD,kH,cM h,cM h];exact qq
end Go.Proofs.YtamacmnikdejeaaGreatDoor.Vp
namespace Go.Proofs.YtamacmnikdejeaaGreatDoor.Vp
open RowKit Go.Sort
end Go.Proofs.YtamacmnikdejeaaGreatDoor.Vp
namespace Go.Proofs.YtamacmnikdejeaaGreatDoor.Vp
open RowKit Ca
end Go.Proofs.YtamacmnikdejeaaGreatDoor.Vp
namespace Go.Proofs.YtamacmnikdejeaaGreatDoor.Vp
open RowKit
section
variable {S S2:Spc}{k t:ByteArray}
theorem ri {c:Nat->Int}:∀ {n:Nat},(fs c n).1=0->∀ i,i<n->c i=0
 | 0,_,i,hi=>absurd hi (by omega)
 | n+1,h,i,hi=>by
  rw[fs] at h;split at h
  ·rename_i b
   split at h
   ·rcases Nat.lt_succ_iff_lt_or_eq.1 hi with e | rfl
    ·exact ri b i e
    ·assumption
   ·contradiction
  ·contradiction
theorem qt {f:Nat->ah}{n:Nat}(i:aK f n=QD):(ft S.n0 S.f0 S.n1 S.f1 f n).1=0 ↔ bh S.n0 S.f0 S.n1 S.f1=0/\∀ p,p<n->Borne S f p:=by
 unfold ft;rw[gM i];constructor
 ·intro h
  split at h
  ·rename_i g
   refine⟨g,fun p b=>?_⟩;have:=ri h p b;unfold eo at this;split at this
   ·omega
   split at this
   ·omega
   rename_i h1 h2;exact⟨by simpa using h1,by simpa using h2,this⟩
  ·cases h
 ·rintro⟨g,h⟩
  rw[gM g,qV fun p b=>by unfold eo;rw[cM (by rw[(h p b).lie];simp),cM (by rw[(h p b).has];simp)];exact(h p b).run]
theorem Bz {f:Nat->ah}{n:Nat}(g:aK f n=QD)(h:∀ p,p<n->Borne S f p):fk f n=(0,0):=by
 have:∀ k,k<=n->fc f k=(0,0):=by
  intro k;induction k with
  | zero=>intro _;rfl
  | succ k b=>intro hk;rw[fc,b (by omega),gM rfl,gM (h k (by omega)).run]
 unfold fk;rw[gM g,this n ly ]
theorem mH {f:Nat->ah}{n:Nat}(g:aK f n=QD):((aX S (f (n - 1)).name).1.length=n/\∀ i,i<n->DeedEq (f i) (dF (aO S (aX S (f (n - 1)).name).1) i)) ↔ (ft S.n0 S.f0 S.n1 S.f1 f n).1=0:=by
 have hn:=eB g;rw[qt g];constructor
 ·rintro⟨h1,h2⟩
  rcases nE S (f (n - 1)).name with ⟨e,-⟩ | ⟨M,e,h,j,q,hb⟩
  ·rw[e] at h1
   have h0:0=n:=h1;omega
  ·rw[hb] at h1 h2
   have h1:M.length=n:=h1;obtain⟨a,b⟩:=yM h j q;rw[h1] at a b;exact⟨h.chk,fun p l=>pt a (fun i hi=>(h2 i hi).symm) l (b p l)⟩
 ·rintro⟨m,o⟩
  have h:=SpcOk.of m;have hb:(aX S (f (n - 1)).name).1=cj S f n:=by unfold aX;rw[gM ⟨m,(fU g (show n - 1<n by omega)).1⟩,xp g h o]
  rw[hb];exact⟨by simp[cj],fun i hi=>(xq g h o hi).symm⟩
end
def cB (f:Nat->ah)(m:Nat)(t:ByteArray):Nat->ah:=fun i=>if i=m then { f i with text:=t } else f i
section
variable {f g:Nat->ah}{m n:Nat}{t:ByteArray}
theorem eN (f:Nat->ah)(m i:Nat)(t:ByteArray):(cB f m t i).name=(f i).name/\(cB f m t i).kind=(f i).kind/\(cB f m t i).code=(f i).code/\(cB f m t i).actN=(f i).actN/\(cB f m t i).act=(f i).act/\(cB f m t i).linksN=(f i).linksN/\(cB f m t i).links=(f i).links:=by unfold cB;split<;>exact⟨rfl,rfl,rfl,rfl,rfl,rfl,rfl⟩
theorem mW (f:Nat->ah)(m:Nat)(t:ByteArray):(cB f m t m).text=t:=by unfold cB;rw[gM rfl]
theorem qu {i:Nat}(h:i≠m):cB f m t i=f i:=cM h
theorem nF (hn:∀ i,(f i).name=(g i).name){p:Nat}{x y:ah}(b:x.links=y.links):∀ k,bq f p x k=bq g p y k
 | 0=>rfl
 | k+1=>by rw[bq,bq,nF hn b k,b];unfold dm;rw[hn]
theorem nG (hn:∀ i,(f i).name=(g i).name)(p:Nat):∀ k,aH f p k=aH g p k
 | 0=>rfl
 | k+1=>by rw[aH,aH,nG hn p k,hn,hn]
theorem vL {go:Nat->Nat->(Nat->Bool)->(Nat->Bool) × List (Nat × Nat)}{x y:ah}(b:x.links=y.links)(d:Nat)(s:Nat->Bool):∀ j,lks go x d s j=lks go y d s j
 | 0=>rfl
 | j+1=>by rw[lks,lks,vL b d s j,b]
theorem vM (b:∀ i,(f i).links=(g i).links)(hn:∀ i,(f i).linksN=(g i).linksN):∀ k,lst f k=lst g k
 | 0=>rfl
 | k+1=>by funext p d s;rw[lst,lst,vM b hn k,vL (b p),hn]
theorem pC (b:∀ i,(f i).kind=(g i).kind):∀ L:List (Nat × Nat),aQ f L=aQ g L
 | []=>rfl
 | x :: L=>by rw[aQ,aQ,b,pC b L]
theorem uS (b:(f m).kind=3)(h1:(f m).text.size<=2000)(h2:t.size<=2000)(p:Nat):aW (cB f m t) p=aW f p:=by
 obtain⟨h,r,n,l,o,j,q⟩:=eN f m p t;have g:=nF (p:=p) (fun i=>(eN f m i t).1) q (f p).linksN;unfold aW kindOk aS bQ;rw[h,r,n,l,o,j,g];by_cases e:p=m
 ·subst e
  rw[mW,JF h1,JF h2,b];rfl
 ·rw[qu e]
theorem xJ (g:aK f n=QD)(h:(f m).kind=3)(h1:(f m).text.size<=2000)(h2:t.size<=2000):aK (cB f m t) n=QD:=by
 have e:cH (cB f m t) n=cH f n:=by unfold cH aB;rw[fq fun i _=>uS h h1 h2 i,fq (a:=fun p=>aH (cB f m t) p p) (b:=fun p=>aH f p p) fun i _=>nG (fun i=>(eN f m i t).1) i i,vM (fun i=>(eN f m i t).2.2.2.2.2.2) (fun i=>(eN f m i t).2.2.2.2.2.1),pC fun i=>(eN f m i t).2.1]
 unfold aK at g ⊢;rw[e];exact g
theorem iP (l:aK f n=QD){p:Nat}(g:p<n)(hm:p<=m){j:Nat}(hj:j<=(f p).linksN):aU (cB f m t) p j=aU f p j:=by
 obtain⟨e1,e2,e3,h,o,e6,q⟩:=eN f m p t;unfold aU;rw[h,o];refine gP _ _ _ _ _ _ _ _ _ _ fun i _ hi=>?_;unfold yOf dk;rw[q];split
 ·rename_i b
  have:=(ec l p g i (by omega) b).2.1;rw[qu (by omega)]
 ·rfl
theorem xK (g:aK f n=QD){p:Nat}(hp:p<m)(hm:m<n)(h:codeF f p=0):codeF (cB f m t) p=0:=by
 refine my fun b=>?_;obtain⟨e1,r,o,e4,e5,i,q⟩:=eN f m p t;rw[r] at b;obtain⟨h1,h2⟩:=mu h b;rw[i,q,o,qu (by omega)];refine⟨fun j l=>?_,?_⟩
 ·rw[iP g (by omega) (by omega) (by omega)]
  exact h1 j l
 ·rw[iP g (by omega) (by omega) ly ]
  exact h2
theorem xL (l:aK f n=QD)(g:m<n)(j:(f m).kind=3)(q:codeF f m=0)(p:t.toList≠(f m).text.toList):codeF (cB f m t) m=5:=by
 obtain⟨e1,s,e3,e4,e5,h,r⟩:=eN f m m t;obtain⟨h1,h2⟩:=mu q j;have o:aN (cB f m t) m=(f m).linksN:=by
  unfold aN
  rw[h,mx _ _ fun i hi=>by
   obtain⟨a,b,c⟩:=h1 i hi;rw[D0];unfold bY;rw[iP l g ly (by omega),r]
   simp[a,b,c]]
  omega
 unfold codeF;rw[s,gM j];unfold fC;rw[o,h,iP l g ly  ly,cM (by omega),cM (by rw[h2.1];simp),cM];rintro⟨-,e⟩;rw[mW,h2.2.2] at e;exact p e.symm
theorem BD {S:Spc}(b:aK f n=QD)(j:∀ p,p<n->Borne S f p)(hm:m+1=n)(g:(f m).kind=3)(l:t.toList≠(f m).text.toList)(h2:t.size<=2000):fk (cB f m t) n=(5,(m:Int)):=by have h1:=(cF b m (by omega)).1;have h:=xL (t:=t) b (by omega) g (j m (by omega)).run l;unfold fk;rw[gM (xJ b g h1 h2),iH (k:=m) (by omega) (fun i hi=>xK b hi (by omega) (j i (by omega)).run) (by rw[h];decide),h]
theorem BH {S:Spc}(p:aK f n=QD)(o:(ft S.n0 S.f0 S.n1 S.f1 f n).1=0)(hm:m+1=n)(l:t≠(f m).text):¬ (ft S.n0 S.f0 S.n1 S.f1 (cB f m t) n).1=0:=by
 intro h;have g:aK (cB f m t) n=QD:=by
  cases e:aK (cB f m t) n with
  | true=>rfl
  | false =>unfold ft at h;rw[e,cM (by simp)] at h;cases h
 have s1:=(mH (S:=S) p).2 o;have b:=(mH (S:=S) g).2 h;have e:n - 1=m:=by omega
 rw[e] at s1 b;rw[(eN f m m t).1] at b;have j:=(s1.2 m (by omega)).text;have i:=(b.2 m (by omega)).text;rw[mW] at i;exact l (i.trans j.symm)
end
section
variable {V QK:World}{b:Nat}{x:ah}{a0 a1:Option Addr}{c0 c1:Nat}
end
end Go.Proofs.YtamacmnikdejeaaGreatDoor.Vp
