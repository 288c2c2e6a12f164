import Derived.Test.YtamacmnikdejeaaGreatDoorWE
import Derived.Test.YtamacmnikdejeaaGreatDoorZG
set_option maxRecDepth 100000
set_option maxHeartbeats 4000000
open Go.Addr renaming mk->T
open Go.Value renaming slice->Y,string->U,int->I,bool->QT,agg->QV
open Option renaming none->Z,some->N
open Go.Obj renaming cells->Q
open Go.IntKind renaming i64->J
open Go renaming World->H
open Bool renaming false->QQ,true->QR
open Go.Ending renaming returned->QU
namespace Go.Proofs.YtamacmnikdejeaaGreatDoor.Vp
open RowKit Ca
theorem Fp {w:H}{f c:Nat}{a:Option Addr}{L:List (List UInt8)}(h:w.ownsRow f 9 1 (Y a L.length c) L.length (L.map encStr)):SlStr w a L.length (nmF L):=by
 by_cases hz:L.length=0
 ·exact .inl hz
 ·rcases h.2 with ⟨b,m⟩ | ⟨g,cap,cur,b,hb,l,h1,h2,h3,h4⟩
  ·exact absurd m hz
  ·simp only[I5] at b
   obtain⟨rfl,-,rfl⟩:=b;refine .inr ⟨g,0,rfl,ai l,fun i hi=>?_⟩;have j:=h.cells (g:=g) rfl i (encStr L[i]) (by simp[hi]);rw[gF] at j;rw[qq hi];exact j
end Go.Proofs.YtamacmnikdejeaaGreatDoor.Vp
namespace Go.Proofs.YtamacmnikdejeaaGreatDoor.Vp
open RowKit
structure Besd (S S2:Spc)(k:ByteArray):Prop where
 s:∀ y:Source,y.name.toList≠k.toList->(y∈(List.range S2.n0).map S2.f0 ↔ y∈(List.range S.n0).map S.f0)
 t:∀ y:Target,y.name.toList≠k.toList->(y∈(List.range S2.n1).map S2.f1 ↔ y∈(List.range S.n1).map S.f1)
theorem rT {c:Type}(p:c->Bool)(f:Nat->c)(n:Nat):bT (fun i=>p (f i)) n=QR ↔ ∃ y∈(List.range n).map f,p y=QR:=by
 constructor
 ·intro h
  obtain⟨k,b,hb⟩:=gE h;exact⟨f k,JQ.2 ⟨k,H7.2 b,rfl⟩,hb⟩
 ·rintro⟨y,g,hb⟩
  obtain⟨k,b,rfl⟩:=JQ.1 g;exact eJ (H7.1 b) hb
theorem mj {b:Type}(nm:b->ByteArray)(f:Nat->b)(n:Nat)(t:ByteArray):bF (fun i=>nm (f i)) n t=QR ↔ ∃ y∈(List.range n).map f,((nm y).toList == t.toList)=QR:=by simp only[bF,LM,JQ,H7];exact⟨fun⟨k,h,e⟩=>⟨_,⟨k,h,rfl⟩,e⟩,fun⟨_,⟨k,h,rfl⟩,e⟩=>⟨k,h,e⟩⟩
theorem mr {b:Type}{p:b->Bool}{q:b->Prop}{A B:List b}(h:∀ y,q y->(y∈B ↔ y∈A))(c:∀ y,p y=QR->q y):(∃ y∈B,p y=QR) ↔ ∃ y∈A,p y=QR :=
 ⟨fun⟨y,h1,h2⟩=>⟨y,(h y (c y h2)).1 h1,h2⟩,fun⟨y,h1,h2⟩=>⟨y,(h y (c y h2)).2 h1,h2⟩⟩
section
variable {S S2:Spc}{k t:ByteArray}
theorem Besd.src (h:Besd S S2 k)(c:t.toList≠k.toList)(x:ByteArray):lA S2.n0 S2.f0 t x=lA S.n0 S.f0 t x:=by have e:=fun(S:Spc)=>rT (fun y:Source=>y.name.toList == t.toList && y.text.toList == x.toList) S.f0 S.n0;rw[KN];exact(e S2).trans ((mr h.s fun y b=>by simp at b;rw[b.1];exact c).trans (e S).symm)
theorem Besd.tgt (h:Besd S S2 k)(c:t.toList≠k.toList)(n:Nat)(f:Nat->Ins):jy S2.n1 S2.f1 t n f=jy S.n1 S.f1 t n f:=by have e:=fun(S:Spc)=>rT (fun y:Target=>y.name.toList == t.toList && bu y.act f y.actN n) S.f1 S.n1;rw[KN];exact(e S2).trans ((mr h.t fun y b=>by simp at b;rw[b.1];exact c).trans (e S).symm)
theorem Besd.has (h:Besd S S2 k)(c:t.toList≠k.toList):fS S2.n0 S2.f0 S2.n1 S2.f1 t=fS S.n0 S.f0 S.n1 S.f1 t:=by
 have g:bF (nm0 S2.f0) S2.n0 t=bF (nm0 S.f0) S.n0 t:=by rw[KN];exact(mj (fun y:Source=>y.name) S2.f0 _ t).trans ((mr h.s fun y b=>by simp at b;rw[b];exact c).trans (mj (fun y:Source=>y.name) S.f0 _ t).symm)
 have f:bF (nm1 S2.f1) S2.n1 t=bF (nm1 S.f1) S.n1 t:=by rw[KN];exact(mj (fun y:Target=>y.name) S2.f1 _ t).trans ((mr h.t fun y b=>by simp at b;rw[b];exact c).trans (mj (fun y:Target=>y.name) S.f1 _ t).symm)
 unfold fS;rw[g,f]
theorem rU {c:Nat->Int}:∀ {n:Nat},(oO c n).1=0->∀ i,i<n->c i=0
 | 0,_,i,hi=>absurd hi (by omega)
 | n+1,h,i,hi=>by
  rw[oO] at h;split at h
  ·rename_i b
   split at h
   ·rcases LQ.1 hi with e | rfl
    ·exact rU b i e
    ·assumption
   ·contradiction
  ·contradiction
theorem qR {f:Nat->aj}{n:Nat}(g:aZ f n=QR):(CR S.n0 S.f0 S.n1 S.f1 f n).1=0 ↔ bw S.n0 S.f0 S.n1 S.f1=0/\∀ p,p<n->Borne S f p:=by
 unfold CR;rw[gA g];constructor
 ·intro h
  split at h
  ·rename_i c
   refine⟨c,fun p b=>?_⟩;have:=rU h p b;unfold yt at this;split at this
   ·omega
   split at this
   ·omega
   rename_i h1 h2;exact⟨by simpa using h1,by simpa using h2,this⟩
  ·cases h
 ·rintro⟨c,h⟩
  rw[gA c,Ae fun p b=>by unfold yt;rw[eI (by rw[(h p b).lie];simp),eI (by rw[(h p b).has];simp)];exact(h p b).run]
theorem rV {f:Nat->aj}{n:Nat}(c:aZ f n=QR):((aG S (f (n - 1)).name).1.length=n/\∀ i,i<n->DeedEq (f i) (dF (aM S (aG S (f (n - 1)).name).1) i)) ↔ (CR S.n0 S.f0 S.n1 S.f1 f n).1=0:=by
 have hn:=dX c;rw[qR c];constructor
 ·rintro⟨h1,h2⟩
  rcases kL S (f (n - 1)).name with ⟨e,-⟩ | ⟨M,e,g,l,o,hb⟩
  ·rw[e] at h1
   have h0:0=n:=h1;omega
  ·rw[hb] at h1 h2
   have h1:M.length=n:=h1;obtain⟨a,b⟩:=rM g l o;rw[h1] at a b;exact⟨g.chk,fun p j=>pS a (fun i hi=>(h2 i hi).symm) j (b p j)⟩
 ·rintro⟨h,m⟩
  have g:=SpcOk.of h;have hb:(aG S (f (n - 1)).name).1=cB S f n:=by unfold aG;rw[gA ⟨h,(fJ c (show n - 1<n by omega)).1⟩,yp c g m]
  rw[hb];exact⟨by simp[cB],fun i hi=>(yq c g m hi).symm⟩
end
theorem uK {b:Type}{L:List b}{x y:b}{i:Nat}:y∈L.take i++x :: L.drop i ↔ y=x∨y∈L :=
 ⟨kY,fun h=>by
  rcases h with rfl | h
  ·simp
  ·rw[<-LJ i L] at h
   rcases hU.1 h with h | h
   ·exact hU.2 (.inl h)
   ·exact hU.2 (.inr (mz _ h))⟩
theorem DX {b:List Source}{l:List Target}(h:GoodE b l){x:Source}{t:ByteArray}(m:∀ y∈b,(y.name.toList == t.toList)=QQ){y:Source}:y∈iq b x t ↔ y=x∨y∈b:=by
 have c:bQ (nm0 (aR b)) b.length=QR:=iu fun i j g f=>by show aL (aR b i).name (aR b j).name=QR;rw[cX f,cX (by omega)];exact DC.1 h.s i j (by omega) f g
 obtain⟨i,hi,a1,n⟩:=jM (t:=t) c;rw[wj hi a1 n m];exact uK
theorem DY {n:List Source}{b:List Target}(h:GoodE n b){x:Target}{t:ByteArray}(o:∀ y∈b,(y.name.toList == t.toList)=QQ){y:Target}:y∈lJ b x t ↔ y=x∨y∈b:=by
 have c:bQ (nm1 (aT b)) b.length=QR:=iu fun i j l g=>by show aL (aT b i).name (aT b j).name=QR;rw[dw g,dw (by omega)];exact DC.1 h.t i j (by omega) g l
 obtain⟨i,hi,a1,p⟩:=jM (t:=t) c
 rw[lJ,wk hi a1 p fun m f=>by
  show((aT b m).name.toList == t.toList)=QQ;rw[dw f]
  exact o _ (gj f)]
 exact uK
def spL (b:List Source)(c:List Target):Spc:=⟨b.length,aR b,c.length,aT c⟩
theorem wU {n0:Nat}{f0:Nat->Source}{n1:Nat}{f1:Nat->Target}{k:ByteArray}{c:List Source}{f:List Target}(g:∀ y:Source,y.name.toList≠k.toList->(y∈c ↔ y∈keepS f0 k n0))(h1:∀ y:Target,y.name.toList≠k.toList->(y∈f ↔ y∈keepT f1 k n1)):Besd ⟨n0,f0,n1,f1⟩ (spL c f) k :=
 ⟨fun y b=>by
  show y∈(List.range c.length).map (aR c) ↔ _;rw[yx,g y b];simp[keepS,b],fun y b=>by
  show y∈(List.range f.length).map (aT f) ↔ _;rw[yy,h1 y b]
  simp[keepT,b]⟩
theorem AM {n0:Nat}{f0:Nat->Source}{n1:Nat}{f1:Nat->Target}{t tx:ByteArray}(h:jE n0 f0 n1 f1 t tx=0):Besd ⟨n0,f0,n1,f1⟩ (spL (fU n0 f0 n1 f1 t tx) (gS n0 f0 n1 f1 t tx)) t:=by
 have f:bw n0 f0 n1 f1=0:=by
  have b:=h;unfold jE at b;split at b
  ·cases b
  ·omega
 refine wU (fun y c=>?_) (fun y _=>by rw[gS,gA h]);rw[fU,gA h,DX (iT t f) mW];exact⟨fun e=>e.resolve_left fun e=>c (by rw[e]),.inr⟩
theorem AN {n0:Nat}{f0:Nat->Source}{n1:Nat}{f1:Nat->Target}{t:ByteArray}{m:Nat}{fp:Nat->Ins}(h:gT n0 f0 n1 f1 t (valid fp m)=0):Besd ⟨n0,f0,n1,f1⟩ (spL (fB n0 f0 n1 f1 t m fp) (fQ n0 f0 n1 f1 t m fp)) t:=by
 have f:bw n0 f0 n1 f1=0:=by
  have b:=h;unfold gT at b;split at b
  ·cases b
  ·omega
 refine wU (fun y _=>by rw[fB,gA h]) (fun y c=>?_);rw[fQ,gA h,DY (iT t f) oS];exact⟨fun e=>e.resolve_left fun e=>c (by rw[e]),.inr⟩
def TT (S:Spc)(nm:List UInt8)(x:Tl):Prop:=∀ t:ByteArray,t.toList=nm->(x.kind=1->lA S.n0 S.f0 t x.text=QR)/\(x.kind=3->jy S.n1 S.f1 t x.actN x.act=QR)/\(x.kind=4->fS S.n0 S.f0 S.n1 S.f1 t=QR)/\(x.kind=2∨x.kind=5->fS S.n0 S.f0 S.n1 S.f1 t=QQ)
def TK (x:Tl):Prop:=x.kind=1/\x.actN=0∨x.kind=2/\x.text=⟨#[]⟩∨x.kind=3/\x.text=⟨#[]⟩∨x.kind=4∨x.kind=5
section
variable {S S2:Spc}{f g:Nat->aj}{n m p:Nat}{nm:List UInt8}{x y:Tl}{k:ByteArray}
theorem jq (h:aZ f n=QR)(b:p<n):(f p).kind=1∨(f p).kind=2∨(f p).kind=3:=by
 have h1:=dM (dX h).2.2 p b;simp only[bi,gB,kindOk] at h1;have h2:=h1.2;split at h2
 ·exact .inl ‹_›
 ·split at h2
  ·exact .inr (.inl ‹_›)
  ·split at h2
   ·exact .inr (.inr ‹_›)
   ·cases h2
theorem yQ (L:Nat->Link)(nm:List UInt8)(j:Nat)(x:Tl):x∈cD L nm j ↔ ∃ i,i<j/\(L i).name.toList=nm/\(L i).ask=QQ/\x=dZ (L i):=by
 induction j with
 | zero=>simp[cD]
 | succ j g =>
  rw[cD,hU,g];constructor
  ·rintro(⟨i,h1,h2⟩ | h)
   ·exact⟨i,by omega,h2⟩
   ·split at h
    ·rename_i c
     exact⟨j,by omega,c.1,c.2,eT.1 h⟩
    ·cases h
  ·rintro⟨i,h1,h2,f,b⟩
   rcases LQ.1 h1 with h | rfl
   ·exact .inl ⟨i,h,h2,f,b⟩
   ·exact .inr (by rw[gA ⟨h2,f⟩,b];exact eT.2 rfl)
theorem iW (f:Nat->aj)(nm:List UInt8)(n:Nat)(x:Tl):x∈aJ f nm n ↔ ∃ p,p<n/\((f p).name.toList=nm/\x=dY (f p)∨∃ j,j<(f p).linksN/\((f p).links j).name.toList=nm/\((f p).links j).ask=QQ/\x=dZ ((f p).links j)):=by
 induction n with
 | zero=>simp[aJ]
 | succ n g =>
  rw[aJ,hU,hU,g,yQ];constructor
  ·rintro((⟨q,h1,h2⟩ | h) | h)
   ·exact⟨q,by omega,h2⟩
   ·split at h
    ·rename_i b
     exact⟨n,by omega,.inl ⟨b,eT.1 h⟩⟩
    ·cases h
   ·exact⟨n,by omega,.inr h⟩
  ·rintro⟨q,h1,h2⟩
   rcases LQ.1 h1 with h | rfl
   ·exact .inl (.inl ⟨q,h,h2⟩)
   ·rcases h2 with ⟨h2,c⟩ | h2
    ·exact .inl (.inr (by rw[gA h2,c];exact eT.2 rfl))
    ·exact .inr h2
theorem fK (c:aZ f n=QR)(g:x∈aJ f nm n):TK x:=by
 obtain⟨p,b,⟨-,rfl⟩ | ⟨j,-,-,-,rfl⟩⟩:=(iW _ _ _ _).1 g
 ·rcases jq c b with h | h | h
  ·exact .inl ⟨h,((fJ c b).2.1 (by omega)).2.1⟩
  ·exact .inr (.inl ⟨h,by simp[dY,h]⟩)
  ·exact .inr (.inr (.inl ⟨h,by simp[dY,h]⟩))
 ·unfold dZ TK
  cases ((f p).links j).has<;>simp
theorem dQ (g:aZ f n=QR)(i:∀ p,p<n->Borne S f p)(m:x∈aJ f nm n):TT S nm x:=by
 obtain⟨p,b,⟨rfl,rfl⟩ | ⟨j,o,rfl,l,rfl⟩⟩:=(iW _ _ _ _).1 m
 ·intro t c
  obtain rfl:=ew c;have h:=(i p b).lie;unfold oA at h;refine⟨fun k=>?_,fun k=>?_,fun k=>?_,fun k=>?_⟩
  ·have k:(f p).kind=1:=k
   rw[gA k] at h;show lA _ _ _ (if (f p).kind=1 then (f p).text else _)=QR;rw[gA k];simpa using h
  ·have k:(f p).kind=3:=k
   rw[eI (by omega),gA k] at h;show jy _ _ _ (f p).actN (f p).act=QR;simpa using h
  ·have k:(f p).kind=4:=k
   have:=jq g b;omega
  ·have k:(f p).kind=2:=by
    have:=jq g b;have k:(f p).kind=2∨(f p).kind=5:=k;omega
   rw[eI (by omega),eI (by omega)] at h;exact h
 ·intro t c
  obtain rfl:=ew c;have h:=iz (i p b).has o;unfold sS at h;rw[l] at h;have h:((f p).links j).has=fS S.n0 S.f0 S.n1 S.f1 ((f p).links j).name:=by simpa using h
  unfold dZ;rw[<-h];cases ((f p).links j).has<;>simp
theorem ol (i:aZ f n=QR)(o:∀ p,p<n->codeF f p=0)(h:∀ nm,∀ x∈aJ f nm n,TT S nm x)(c:p<n):Borne S f p:=by
 refine⟨?_,nh fun j m=>?_,o p c⟩
 ·obtain⟨h1,h2,-,b⟩:=h _ _ ((iW f (f p).name.toList n _).2 ⟨p,c,.inl ⟨rfl,rfl⟩⟩) (f p).name rfl
  unfold oA;rcases jq i c with e | e | e
  ·have:=h1 e
   have l:(dY (f p)).text=(f p).text:=by simp[dY,e]
   rw[l] at this;rw[gA e,this];rfl
  ·rw[eI (by omega),eI (by omega)]
   exact b (.inl e)
  ·rw[eI (by omega),gA e,show jy S.n1 S.f1 (f p).name (f p).actN (f p).act=QR from h2 e];rfl
 ·unfold sS
  cases ha:((f p).links j).ask with
  | true=>rfl
  | false =>
   obtain⟨-,-,g,b⟩:=h _ _ ((iW f ((f p).links j).name.toList n _).2 ⟨p,c,.inr ⟨j,m,rfl,ha,rfl⟩⟩) ((f p).links j).name rfl;unfold dZ at g b;cases hh:((f p).links j).has with
   | true =>rw[hh] at g;simp[g rfl]
   | false =>rw[hh] at b;simp[b (.inr rfl)]
theorem nP {t s:ByteArray}(h:lA S.n0 S.f0 t s=QR):∃ i,i<S.n0/\((nm0 S.f0 i).toList == t.toList)=QR/\(S.f0 i).text=s:=by obtain⟨i,hi,hb⟩:=gE h;rw[gB] at hb;exact⟨i,hi,hb.1,bytes_beq hb.2⟩
theorem li {t:ByteArray}{a:Nat}{q:Nat->Ins}(h:jy S.n1 S.f1 t a q=QR):∃ i,i<S.n1/\((nm1 S.f1 i).toList == t.toList)=QR/\bu (S.f1 i).act q (S.f1 i).actN a=QR:=by obtain⟨i,hi,hb⟩:=gE h;rw[gB] at hb;exact⟨i,hi,hb.1,hb.2⟩
theorem fX {a b:Nat->Ins}{i j:Nat}(h:bu a b i j=QR):i=j/\∀ k,k<i->a k=b k:=by simp only[bu,gB,kP] at h;exact⟨h.1,oN h.2⟩
theorem mu {a b:Nat->Ins}{i j:Nat}(h:i=j)(g:∀ k,k<i->a k=b k):bu a b i j=QR:=by subst h;simp[bu,jm g]
theorem Fq {t s:ByteArray}(h:lA S.n0 S.f0 t s=QR):fS S.n0 S.f0 S.n1 S.f1 t=QR:=by obtain⟨i,hi,hb,-⟩:=nP h;unfold fS;rw[fe hi hb];rfl
theorem Fs {t:ByteArray}{a:Nat}{q:Nat->Ins}(h:jy S.n1 S.f1 t a q=QR):fS S.n0 S.f0 S.n1 S.f1 t=QR:=by obtain⟨i,hi,hb,-⟩:=li h;unfold fS;rw[fe hi hb,QG]
theorem TT.there (h:TT S nm x)(c:TK x)(t:ByteArray)(f:t.toList=nm):de x=fS S.n0 S.f0 S.n1 S.f1 t:=by
 obtain⟨h1,h2,g,b⟩:=h t f;unfold de;rcases c with ⟨e,-⟩ | ⟨e,-⟩ | ⟨e,-⟩ | e | e
 ·rw[Fq (h1 e),e];rfl
 ·rw[b (.inl e),e];rfl
 ·rw[Fs (h2 e),e];rfl
 ·rw[g e,e];rfl
 ·rw[b (.inr e),e];rfl
theorem mw:cy x y=QR ↔ de x=de y/\(x.kind<=3->y.kind<=3->de x=QR->x.kind=y.kind/\x.text=y.text/\bu x.act y.act x.actN y.actN=QR):=by
 unfold cy;cases h:(de x != de y) with
 | true =>
  have g:de x≠de y:=by simpa using h
  rw[gA rfl];exact⟨fun e=>(by cases e),fun e=>absurd e.1 g⟩
 | false =>
  have g:de x=de y:=by simpa using h
  rw[eI (by simp)];by_cases f:3<x.kind∨3<y.kind∨de x=QQ
  ·rw[gA (by rcases f with e | e | e<;>simp[e])]
   refine⟨fun _=>⟨g,fun a b c=>?_⟩,fun _=>rfl⟩;rcases f with e | e | e
   ·omega
   ·omega
   ·rw[e] at c;cases c
  ·have a:¬ 3<x.kind:=fun e=>f (.inl e)
   have b:¬ 3<y.kind:=fun e=>f (.inr (.inl e));have c:de x=QR:=by simpa using fun e=>f (.inr (.inr e))
   rw[eI (by simp[a,b,c])];simp only[gB,NY];constructor
   ·rintro⟨⟨j,i⟩,l⟩
    exact⟨g,fun _ _ _=>⟨j,ew i,l⟩⟩
   ·rintro⟨-,e⟩
    obtain⟨j,i,l⟩:=e (by omega) (by omega) c;exact⟨⟨j,by rw[i]⟩,l⟩
theorem qe (r:SpcOk S)(u:TK x)(o:TK y)(h1:TT S nm x)(h2:TT S nm y):cy x y=QR:=by
 obtain⟨t,f⟩:∃ t:ByteArray,t.toList=nm:=⟨⟨nm.toArray⟩,by rw[D0]⟩
 have C:=h1.there u t f;have ZA:=h2.there o t f;refine mw.2 ⟨C.trans ZA.symm,fun a b c=>?_⟩;obtain⟨E,A,-,K⟩:=h1 t f;obtain⟨B,G,-,D⟩:=h2 t f;have L:fS S.n0 S.f0 S.n1 S.f1 t=QR:=C.symm.trans c;have no:∀ {z:Tl},(z.kind=2∨z.kind=5->fS S.n0 S.f0 S.n1 S.f1 t=QQ)->z.kind≠2:=fun h e=>by rw[L] at h;cases h (.inl e)
 have apart:∀ {s:ByteArray} {a:Nat} {q:Nat->Ins},lA S.n0 S.f0 t s=QR->jy S.n1 S.f1 t a q=QR->False:=fun ZB f=>by obtain⟨i,hi,hb,-⟩:=nP ZB;obtain⟨j,m,l,-⟩:=li f;have e:=r.apart m;have:=fe (g:=nm0 S.f0) hi (t:=(S.f1 j).name) (by rw[show(nm0 S.f0 i).toList=t.toList from by simpa using hb,show(S.f1 j).name.toList=t.toList from by simpa using l];simp);rw[e] at this;cases this
 rcases u with ⟨e,ax⟩ | ⟨e,-⟩ | ⟨e,tx⟩ | e | e
 ·rcases o with ⟨d,ay⟩ | ⟨d,-⟩ | ⟨d,-⟩ | d | d
  ·obtain⟨i,hi,hb,n⟩:=nP (E e)
   obtain⟨j,m,l,p⟩:=nP (B d);obtain rfl:=asc_one r.asc0 hi m hb l;exact⟨e.trans d.symm,n.symm.trans p,mu (by omega) fun k F=>absurd F (by omega)⟩
  ·exact absurd d (no D)
  ·exact(apart (E e) (G d)).elim
  ·omega
  ·omega
 ·exact absurd e (no K)
 ·rcases o with ⟨d,-⟩ | ⟨d,-⟩ | ⟨d,ty⟩ | d | d
  ·exact(apart (B d) (A e)).elim
  ·exact absurd d (no D)
  ·obtain⟨i,hi,hb,n⟩:=li (A e)
   obtain⟨j,m,l,p⟩:=li (G d);obtain rfl:=asc_one r.asc1 hi m hb l;obtain⟨u1,u2⟩:=fX n;obtain⟨v1,Q9⟩:=fX p;exact⟨e.trans d.symm,tx.trans ty.symm,mu (by omega) fun k F=>(u2 k (by omega)).symm.trans (Q9 k (by omega))⟩
  ·omega
  ·omega
 ·omega
 ·omega
theorem yR (h:cy x y=QR):cy y x=QR:=by obtain⟨h1,h2⟩:=mw.1 h;refine mw.2 ⟨h1.symm,fun a b c=>?_⟩;obtain⟨g,f,i⟩:=h2 b a (h1.trans c);obtain⟨u1,u2⟩:=fX i;exact⟨g.symm,f.symm,mu u1.symm fun k hk=>(u2 k (by omega)).symm⟩
theorem mx (o:TK x)(h:cy x y=QR)(h1:TT S nm x)(n:(x.kind=1∨x.kind=3)∨¬ (y.kind=1∨y.kind=3)):TT S nm y:=by
 intro t m;obtain⟨e,h2⟩:=mw.1 h;have g:=h1.there o t m;rw[e] at g;obtain⟨r,u,-,-⟩:=h1 t m;have f:y.kind=1∨y.kind=3->x.kind=y.kind/\x.text=y.text/\bu x.act y.act x.actN y.actN=QR:=fun s=>by have l:x.kind=1∨x.kind=3:=n.resolve_right fun h=>h s;exact h2 (by omega) (by omega) (by unfold de;rcases l with h | h<;>rw[h]<;>rfl)
 refine⟨fun k=>?_,fun k=>?_,fun k=>?_,fun k=>?_⟩
 ·obtain⟨a,b,-⟩:=f (.inl k)
  rw[<-b];exact r (a.trans k)
 ·obtain⟨a,-,c⟩:=f (.inr k)
  obtain⟨u1,u2⟩:=fX c;obtain⟨i,hi,hb,p⟩:=li (u (a.trans k));obtain⟨v1,q⟩:=fX p;exact eJ hi (by rw[hb,mu (by omega) fun j z=>(q j z).trans (u2 j (by omega))];rfl)
 ·rw[<-g];unfold de;rw[k];rfl
 ·rw[<-g];unfold de;rcases k with k | k<;>rw[k]<;>rfl
theorem qS (h:Besd S S2 k)(hn:nm≠k.toList):TT S2 nm x ↔ TT S nm x:=by
 have e:∀ t:ByteArray,t.toList=nm->t.toList≠k.toList:=fun t b=>by rw[b];exact hn
 unfold TT;constructor<;>intro ZB t b<;>have:=ZB t b
 ·rw[h.src (e t b),h.tgt (e t b),h.has (e t b)] at this;exact this
 ·rw[h.src (e t b),h.tgt (e t b),h.has (e t b)];exact this
theorem DeedEq.trans {x y z:aj}(h:DeedEq x y)(g:DeedEq y z):DeedEq x z :=
 ⟨h.name.trans g.name,h.kind.trans g.kind,h.code.trans g.code,h.text.trans g.text,h.actN.trans g.actN,fun i hi=>(h.act i hi).trans (g.act i (by rw[<-h.actN];exact hi)),h.linksN.trans g.linksN,fun i hi=>(h.links i hi).trans (g.links i (by rw[<-h.linksN];exact hi))⟩
theorem rW (l:SpcOk S)(j:aZ f n=QR)(r:∀ p,p<n->Borne S f p)(c:aZ g m=QR)(s:∀ p,p<m->Borne S g p)(q:(f (n - 1)).name=(g (m - 1)).name):m=n/\∀ i,i<n->DeedEq (f i) (g i):=by obtain⟨a1,o⟩:=(rV j).2 ((qR j).2 ⟨l.chk,r⟩);obtain⟨h,b⟩:=(rV c).2 ((qR c).2 ⟨l.chk,s⟩);rw[<-q] at h b;exact⟨h.symm.trans a1,fun i hi=>(o i hi).trans (b i (by omega)).symm⟩
theorem wV (h:nm∈dd f n g m):∃ x∈aJ f nm n,∃ y∈aJ g nm m,cy x y=QQ:=by
 unfold dd at h;split at h
 ·obtain⟨-,h⟩:=MN.1 h
  unfold eC gO at h;obtain⟨x,c,h⟩:=LM.1 h;obtain⟨y,b,h⟩:=LM.1 h;exact⟨x,c,y,b,by simpa using h⟩
 ·cases h
theorem Fu (l:aZ f n=QR)(i:aZ g m=QR)(h:dd f n g m=[])(b:x∈aJ f nm n)(o:y∈aJ g nm m):cy x y=QR:=by
 unfold dd at h;rw[gA ⟨l,i⟩,List.filter_eq_nil_iff] at h;have q:nm∈cL f n:=by
  rw[zb];obtain⟨p,c,⟨e,-⟩ | ⟨j,r,e,-⟩⟩:=(iW _ _ _ _).1 b
  ·exact⟨p,c,.inl e⟩
  ·exact⟨p,c,.inr ⟨j,r,e⟩⟩
 cases e:cy x y with
 | true=>rfl
 | false =>exact absurd (show eC f n g m nm=QR from LM.2 ⟨x,b,LM.2 ⟨y,o,by rw[e];rfl⟩⟩) (h nm q)
theorem Gf (F:SpcOk S)(ZA:SpcOk S2)(hb:Besd S S2 k)(j:aZ f n=QR)(o:∀ p,p<n->Borne S f p)(l:aZ g m=QR)(u:∀ p,p<m->Borne S2 g p)(M:(f (n - 1)).name=(g (m - 1)).name):(dd f n g m=[]/\m=n/\∀ i,i<n->DeedEq (f i) (g i))∨(dd f n g m=[k.toList]/\¬ (m=n/\∀ i,i<n->DeedEq (f i) (g i))):=by
 have r:∀ z∈dd f n g m,z=k.toList:=fun z hz=>by
  obtain⟨x,c,y,b,h⟩:=wV hz;by_cases e:z=k.toList
  ·exact e
  ·rw[qe F (fK j c) (fK l b) (dQ j o c) ((qS hb e).1 (dQ l u b))] at h
   cases h
 by_cases A:dd f n g m=[]
 ·refine .inl ⟨A,?_⟩
  have C:∀ {nm x y},x∈aJ f nm n->y∈aJ g nm m->cy x y=QR:=fun c b=>Fu j l A c b;have B:(∀ y∈aJ g k.toList m,TT S k.toList y)->m=n/\∀ i,i<n->DeedEq (f i) (g i):=fun ZB =>
   rW F j o l (fun p s=>ol l (fun q D=>(u q D).run) (fun z y b=>by
    by_cases e:z=k.toList
    ·subst e;exact ZB y b
    ·exact(qS hb e).1 (dQ l u b)) s) M
  have t:(∀ x∈aJ f k.toList n,TT S2 k.toList x)->m=n/\∀ i,i<n->DeedEq (f i) (g i):=fun ZB =>
   rW ZA j (fun p s=>ol j (fun q D=>(o q D).run) (fun z y b=>by
    by_cases e:z=k.toList
    ·subst e;exact ZB y b
    ·exact(qS hb e).2 (dQ j o b)) s) l u M
  by_cases h1:∃ x∈aJ f k.toList n,x.kind=1∨x.kind=3
  ·obtain⟨x,c,E⟩:=h1
   exact B fun y b=>mx (fK j c) (C c b) (dQ j o c) (.inl E)
  by_cases h2:∃ y∈aJ g k.toList m,y.kind=1∨y.kind=3
  ·obtain⟨y,b,E⟩:=h2
   exact t fun x c=>mx (fK l b) (yR (C c b)) (dQ l u b) (.inl E)
  by_cases K:∃ x,x∈aJ f k.toList n
  ·obtain⟨x,c⟩:=K
   exact B fun y b=>mx (fK j c) (C c b) (dQ j o c) (.inr fun e=>h2 ⟨y,b,e⟩)
  ·exact t fun x c=>absurd ⟨x,c⟩ K
 ·refine .inr ⟨?_,fun⟨e,h⟩=>?_⟩
  ·have Q9:=sX f n g m
   generalize dd f n g m=L at r A Q9;match L,A with
   | [z],_=>rw[r z (eT.2 rfl)]
   | z :: z' :: L,_ =>have QZ:=r z (by simp);have O:=r z' (by simp);have h:=(KQ.1 Q9).1 z' (by simp);rw[QZ,O] at h;exact absurd h (MX _)
  ·subst e
   obtain⟨z,hz⟩:=List.exists_mem_of_ne_nil _ A;obtain⟨x,c,y,b,G⟩:=wV hz;rw[qe F (fK j c) (fK l b) (dQ j o c) (dQ l (fun p s=>pS j h s (o p s)) b)] at G;cases G
theorem Fv {t:ByteArray}(hb:Besd S S2 k)(h1:(aG S t).1≠[])(h2:(aG S2 t).1≠[]):(dd (dF (aM S (aG S t).1)) (aG S t).1.length (dF (aM S2 (aG S2 t).1)) (aG S2 t).1.length=[]/\(aG S2 t).1.length=(aG S t).1.length/\∀ i,i<(aG S t).1.length->DeedEq (dF (aM S (aG S t).1) i) (dF (aM S2 (aG S2 t).1) i)) ∨
   (dd (dF (aM S (aG S t).1)) (aG S t).1.length (dF (aM S2 (aG S2 t).1)) (aG S2 t).1.length=[k.toList]/\¬ ((aG S2 t).1.length=(aG S t).1.length/\∀ i,i<(aG S t).1.length->DeedEq (dF (aM S (aG S t).1) i) (dF (aM S2 (aG S2 t).1) i))):=by
 have f:∀ {S:Spc},(aG S t).1≠[]->SpcOk S/\aZ (dF (aM S (aG S t).1)) (aG S t).1.length=QR/\(∀ p,p<(aG S t).1.length->Borne S (dF (aM S (aG S t).1)) p)/\(dF (aM S (aG S t).1) ((aG S t).1.length - 1)).name=t:=fun {S} h=>by
  rcases kL S t with ⟨e,-⟩ | ⟨M,e,j,hn,l,hb⟩
  ·exact absurd e h
  ·rw[hb]
   obtain⟨a1,g⟩:=rM j hn l;obtain⟨-,-,b,c,-,-⟩:=ub j hn l;exact⟨j,a1,g,by rw[gn b];exact c⟩
 obtain⟨a1,g,s,n⟩:=f h1;obtain⟨o,m,q,r⟩:=f h2;exact Gf a1 o hb g s m q (n.trans r.symm)
end
def my (x y:Link):Bool:=x.name.toList == y.name.toList && x.ask == y.ask && x.has == y.has && x.at_ == y.at_
theorem Fw {x y:Link}(h:my x y=QR):x=y:=by obtain⟨a,b,c,d⟩:=x;obtain⟨a',b',c',d'⟩:=y;simp only[my,gB,NY] at h;obtain⟨⟨⟨h1,rfl⟩,rfl⟩,rfl⟩:=h;rw[ew h1]
theorem Fx (x y:Link)(w:H):(binOp .neq 129 (QV #[U x.name,QT x.ask,QT x.has,I J x.at_]) (QV #[U y.name,QT y.ask,QT y.has,I J y.at_])).run Tryz.prog w=.ok (QT (!my x y)) w:=by
 have g:Tryz.prog.underlying 129=N (.struct (Tryz.prog.fieldsOf 129)):=by kernel_rfl
 have c:Tryz.prog.stoodInHeld 129=QQ:=by kernel_rfl
 rw[run_neq_struct,show(10000:Nat)=9999+1 from rfl,run_equalIn_agg w 9999 129 _ _ g c];simp only[Program.fieldsOf,Tryz.underlying129];go_simp;unfold my;by_cases h1:x.name.toList=y.name.toList<;>by_cases h2:x.ask=y.ask<;>by_cases f:x.has=y.has<;>by_cases b:x.at_=y.at_<;>simp[h1,h2,f,b]
theorem uL (a:Option Addr)(n c:Nat)(f:Nat->Ins)(o:Option Addr)(m p:Nat)(g:Nat->Ins)(w:H)(hn:n<=1048576)(ZA:SlIns w a n f)(G:SlIns w o m g):Calls Tryz.prog 105 #[QV #[Y a n c],QV #[Y o m p]] w fun e O=>e=QU (QT (bu f g n m))/\Below w.heap.size w O:=by
 have Q2:=ae ZA;have P:=ae G;clear ZA G;have D:=ae (((q9 w).alloc ly (Q #[Y a n c] 43)).alloc (by simp) (Q #[Y o m p] 43));have y:Hid (PB ((w.alloc (Q #[Y a n c] 43)).alloc (Q #[Y o m p] 43)) w.heap.size (Y a n c)):=by show _=_;rw[MI _ _ (by simp)];exact cM w _
 have u:Hid (PB ((w.alloc (Q #[Y a n c] 43)).alloc (Q #[Y o m p] 43)) (w.heap.size+1) (Y o m p)):=LH w _ _;obtain⟨r,l⟩:∃ r,r=bu f g n m:=⟨_,rfl⟩
 rw[<-l];have C:=ae l;clear l;go_enter Tryz.func105,Tryz.ntmps105;go_upto_region 1 with fail;generalize (w.alloc (Q #[Y a n c] 43)).alloc (Q #[Y o m p] 43)=x at D y u ⊢;have z0:=y.c0;have z1:=u.c0;have M:=y.lt;have QZ:=u.lt;by_cases A:n=m;case neg =>
  have h2:((n:Int) == (m:Int))=QQ:=by simp;omega
  go_wp2;go_ret;exact⟨bm (by rw[C.out];simp[bu,A]),D⟩
 subst A;go_wp2;clear z0 z1;go_loopw [5] (fun i wr=>∃ k:Nat,k<=n/\i=I J k/\Hid (cA f g k=QR)/\Hid (∃ q,wr=x.drewN q)) (fun i _=>n - (intOf i).toNat);case atStart=>exact⟨0,by omega,rfl,rfl,0,rfl⟩
 case round =>
  obtain⟨k,hk,rfl,L,E⟩:=hrel;have z:Hid (Below x.heap.size x wr):=by obtain⟨q,j⟩:=E.out;rw[j];exact F6 br q
  have z0:=(y.below z M).c0;have z1:=(u.below z QZ).c0;have l2:=z.size;have t:=ae (D.trans (z.mono (by omega)));by_cases s:k<n
  ·rcases Q2.below t ly with h | ⟨b,off,rfl,l⟩
   ·omega
   rcases P.below t ly with h | ⟨b',off',rfl,j⟩
   ·omega
   obtain⟨c0,c1,c2⟩:=l.2 k s;obtain⟨Q0,S,R⟩:=j.2 k s;have hb:=l.1;have K:=j.1;clear l j;have hlt2:(k:Int)<n:=by omega
   have F:=sK (f k) (g k);go_wp2_with fail;go_quiet (fail);have Q9:Hid (∃ q,wr.drewN nq=x.drewN q):=by obtain⟨q,j⟩:=E.out;exact⟨q+nq,by rw[j,World.drewN_drewN]⟩
   have ZB:=ae (F6 t nq);clear c0 c1 c2 Q0 S R F z0 z1 hb K;generalize wr.drewN nq=W at Q9 ZB ⊢;cases hb:iX (f k) (g k) with
   | true =>have B:=ae hb;clear hb;go_wp2;exact⟨⟨k+1,by omega,by go_num,by show cA f g (k+1)=QR;rw[cA,L.out,B.out];rfl,Q9⟩,by simp[intOf];omega⟩
   | false =>have B:=ae hb;clear hb;go_wp2;go_ret;exact⟨bm (by rw[C.out];simp[bu,ki s B.out]),ZB⟩
  ·obtain rfl:k=n:=by omega
   go_wp2;go_ret;exact⟨bm (by rw[C.out];simp[bu,L.out]),t⟩
def Eg (E:Prop)(w:H)(e:Ending)(c:H):Prop:=∃ b:Bool,e=QU (QT b)/\(b=QR ↔ E)/\Below w.heap.size w c
theorem AO (x y:aj):((x.name.toList == y.name.toList)=QQ/\¬ DeedEq x y)∨(x.name=y.name/\(x.kind == y.kind)=QQ/\¬ x.kind=y.kind/\¬ DeedEq x y)∨(x.name=y.name/\x.kind=y.kind/\(x.code == y.code)=QQ/\¬ x.code=y.code/\¬ DeedEq x y)∨(x.name=y.name/\x.kind=y.kind/\x.code=y.code/\(x.text.toList == y.text.toList)=QQ/\¬ DeedEq x y)∨(x.name=y.name/\x.kind=y.kind/\x.code=y.code/\x.text=y.text/\((x.linksN:Int) == (y.linksN:Int))=QQ/\¬ DeedEq x y)∨(x.name=y.name/\x.kind=y.kind/\x.code=y.code/\x.text=y.text/\x.linksN=y.linksN):=by
 cases h0:(x.name.toList == y.name.toList)
 ·exact .inl ⟨rfl,fun e=>by rw[e.name] at h0;simp at h0⟩
 cases h1:(x.kind == y.kind)
 ·exact .inr (.inl ⟨bytes_beq h0,rfl,by simpa using h1,fun e=>by rw[e.kind] at h1;simp at h1⟩)
 cases h2:(x.code == y.code)
 ·exact .inr (.inr (.inl ⟨bytes_beq h0,by simpa using h1,rfl,by simpa using h2,fun e=>by rw[e.code] at h2;simp at h2⟩))
 cases h3:(x.text.toList == y.text.toList)
 ·exact .inr (.inr (.inr (.inl ⟨bytes_beq h0,by simpa using h1,by simpa using h2,rfl,fun e=>by rw[e.text] at h3;simp at h3⟩)))
 cases h4:((x.linksN:Int) == (y.linksN:Int))
 ·exact .inr (.inr (.inr (.inr (.inl ⟨bytes_beq h0,by simpa using h1,by simpa using h2,bytes_beq h3,rfl,fun e=>by rw[e.linksN] at h4;simp at h4⟩))))
 exact .inr (.inr (.inr (.inr (.inr ⟨bytes_beq h0,by simpa using h1,by simpa using h2,bytes_beq h3,by simp at h4;omega⟩))))
def DeB (V:H)(b:Nat)(x:aj)(a0:Option Addr)(c0:Nat)(a1:Option Addr)(c1:Nat):Prop:=V.heap[b]?=N (Q #[U x.name,I J x.kind,I J x.code,U x.text,Y a0 x.actN c0,Y a1 x.linksN c1] 46 (0,0))
section
variable {V QY:H}{b:Nat}{x:aj}{a0 a1:Option Addr}{c0 c1:Nat}
theorem DeB.cells (h:DeB V b x a0 c0 a1 c1):b<V.heap.size/\V.cell? (T b 0 Z)=N (U x.name)/\V.cell? (T b 1 Z)=N (I J x.kind)/\V.cell? (T b 2 Z)=N (I J x.code)/\V.cell? (T b 3 Z)=N (U x.text)/\V.cell? (T b 4 Z)=N (Y a0 x.actN c0)/\V.cell? (T b 5 Z)=N (Y a1 x.linksN c1):=by have c:V.heap[b]?=_:=h;refine⟨ai c,?_,?_,?_,?_,?_,?_⟩<;>simp[World.cell?,c]
theorem DeB.below (h:DeB V b x a0 c0 a1 c1)(hb:Below V.heap.size V QY):DeB QY b x a0 c0 a1 c1:=(hb.block b (ai h)).trans h
end
theorem AP (x y:aj)(a0:Option Addr)(c0:Nat)(a1:Option Addr)(c1:Nat)(b0:Option Addr)(m:Nat)(f:Option Addr)(l:Nat)(w:H)(j:cS x)(L:SlIns w a0 x.actN x.act)(K:SlLink w a1 x.linksN x.links)(ZA:SlIns w b0 y.actN y.act)(Q9:SlLink w f y.linksN y.links):Calls Tryz.prog 68 #[QV #[U x.name,I J x.kind,I J x.code,U x.text,Y a0 x.actN c0,Y a1 x.linksN c1],QV #[U y.name,I J y.kind,I J y.code,U y.text,Y b0 y.actN m,Y f y.linksN l]] w fun e w'=>Eg (DeedEq x y) w e w':=by
 obtain⟨q,t⟩:∃ q,q=w.alloc (Q #[U x.name,I J x.kind,I J x.code,U x.text,Y a0 x.actN c0,Y a1 x.linksN c1] 46):=⟨_,rfl⟩
 have R:=(q9 w).alloc ly (Q #[U x.name,I J x.kind,I J x.code,U x.text,Y a0 x.actN c0,Y a1 x.linksN c1] 46);have P0:DeB (w.alloc (Q #[U x.name,I J x.kind,I J x.code,U x.text,Y a0 x.actN c0,Y a1 x.linksN c1] 46)) w.heap.size x a0 c0 a1 c1:=cM w _;have hz:(w.alloc (Q #[U x.name,I J x.kind,I J x.code,U x.text,Y a0 x.actN c0,Y a1 x.linksN c1] 46)).heap.size=w.heap.size+1:=by simp
 rw[<-t] at R P0 hz;have u:=ae (R.alloc (by omega) (Q #[U y.name,I J y.kind,I J y.code,U y.text,Y b0 y.actN m,Y f y.linksN l] 46));have QW:=ae (P0.below ((q9 q).alloc ly (Q #[U y.name,I J y.kind,I J y.code,U y.text,Y b0 y.actN m,Y f y.linksN l] 46)));have M:Hid (DeB (q.alloc (Q #[U y.name,I J y.kind,I J y.code,U y.text,Y b0 y.actN m,Y f y.linksN l] 46)) (w.heap.size+1) y b0 m f l):=by rw[<-hz];exact cM q _
 have Q0:=ae (fun V (n:Below w.heap.size w V)=>uL a0 x.actN c0 x.act b0 y.actN m y.act V j.1 (L.below n ly) (ZA.below n ly));have S:=ae K;have QX:=ae Q9;have aq:=j.2;clear L K ZA Q9 j R P0;have o:Hid (DeedEq x y->bu x.act y.act x.actN y.actN=QR/\∀ i,i<x.linksN->my (x.links i) (y.links i)=QR):=fun h=>⟨by simp[bu,h.actN,jm fun i hi=>h.act i (by rw[h.actN];exact hi)],fun i hi=>by rw[h.links i hi];simp[my]⟩
 have c:Hid (x.name=y.name->x.kind=y.kind->x.code=y.code->x.text=y.text->x.linksN=y.linksN->bu x.act y.act x.actN y.actN=QR->(∀ i,i<x.linksN->my (x.links i) (y.links i)=QR)->DeedEq x y):=fun h1 h2 h3 h4 h5 QY h7=>by simp only[bu,gB,kP] at QY;exact⟨h1,h2,h3,h4,QY.1,oN QY.2,h5,fun i hi=>Fw (h7 i hi)⟩
 have D:=ae (AO x y);generalize bu x.act y.act x.actN y.actN=cb at Q0 o c;generalize DeedEq x y=E at o c D ⊢;go_enter Tryz.func68,Tryz.ntmps68;go_upto_region 1 with fail;rw[<-t];clear t hz;generalize q.alloc (Q #[U y.name,I J y.kind,I J y.code,U y.text,Y b0 y.actN m,Y f y.linksN l] 46)=X at u QW M ⊢;obtain⟨B,z0,z1,z2,z3,z4,G⟩:=QW.cells;obtain⟨C,y0,y1,y2,y3,y4,s⟩:=M.cells;have hw:=u.size;have SQ:Hid (∀ V,Below X.heap.size X V->w.heap.size<V.heap.size/\w.heap.size+1<V.heap.size/\V.cell? (T w.heap.size 5 Z)=N (Y a1 x.linksN c1)/\V.cell? (T (w.heap.size+1) 5 Z)=N (Y f y.linksN l)):=fun V n=>⟨lj B n.size,lj C n.size,(n.cell (p:=(T w.heap.size 5 Z)) B).trans G,(n.cell (p:=(T (w.heap.size+1) 5 Z)) C).trans s⟩
 clear QW M;have g:=D.out;clear D;generalize x.links=xl at S o c;generalize y.links=O at QX o c;generalize x.name=n1 at z0 c g ⊢;generalize x.kind=k1 at z1 c g ⊢;generalize x.code=g1 at z2 c g ⊢;generalize x.text=t1 at z3 c g ⊢;generalize x.linksN=z at G c g S o SQ aq ⊢;generalize y.linksN=m2 at s c g QX SQ ⊢;rcases g with ⟨h,QZ⟩ | ⟨rfl,h,h',QZ⟩ | ⟨rfl,rfl,h,h',QZ⟩ | ⟨rfl,rfl,rfl,h,QZ⟩ | ⟨rfl,rfl,rfl,rfl,h,QZ⟩ | ⟨rfl,rfl,rfl,rfl,rfl⟩
 iterate 5
  ·have r:=ae QZ
   clear QZ;go_wp2;go_ret;exact⟨QQ,rfl,⟨nofun,fun e=>(r.out e).elim⟩,u⟩
 have HJ:=ae (c.out rfl rfl rfl rfl rfl);clear c;go_wp2_with fail;refine(Q0.out X u).mono ?_;rintro e w1 ⟨rfl,P⟩;have A2:=ae (u.trans (P.mono hw));have F:=ae P;clear P Q0 z0 z1 z2 z3 z4 G y0 y1 y2 y3 y4 s B C hw;cases cb with
 | false =>go_wp2;go_ret;exact⟨QQ,rfl,⟨nofun,fun e=>by have:=(o.out e).1;cases this⟩,A2⟩
 | true =>
  go_wp2;go_loopw [5] (fun i wr=>∃ k:Nat,k<=z/\i=I J k/\Hid (∀ i,i<k->my (xl i) (O i)=QR)/\Hid (Below w1.heap.size w1 wr)) (fun i _=>z - (intOf i).toNat);case atStart=>exact⟨0,by omega,rfl,fun i hi=>absurd hi (by omega),eL _ _⟩
  case round =>
   obtain⟨k,hk,rfl,HK,HW⟩:=hrel;have ZB:=ae (A2.trans (HW.mono A2.size));obtain⟨B,C,G,s⟩:=SQ.out _ (F.trans (HW.mono F.size));by_cases A:k<z
   ·rcases S.below ZB ly with h | ⟨b,off,rfl,Q2⟩
    ·omega
    rcases QX.below ZB ly with h | ⟨b',off',rfl,hq⟩
    ·omega
    obtain⟨e0,e1,e2,e3⟩:=Q2.2 k A;obtain⟨g0,g1,g2,g3⟩:=hq.2 k A;have hb:=Q2.1;have fd:=hq.1;clear Q2 hq;have hlt2:(k:Int)<z:=by omega
    have bt:=Fx (xl k) (O k);go_wp2_with fail;go_quiet (fail);have F:=ae (F6 HW nq);have B2:=ae (F6 ZB nq);clear e0 e1 e2 e3 g0 g1 g2 g3 bt G s hb fd B C;generalize wr.drewN nq=W at F B2 ⊢;cases hb:my (xl k) (O k) with
    | true =>
     have r:=ae hb;clear hb;go_wp2
     exact⟨⟨k+1,by omega,by go_num,(fun i hi=>by
      rcases LQ.1 hi with h | rfl
      ·exact HK i h
      ·exact r),F⟩,by simp[intOf];omega⟩
    | false =>have r:=ae hb;clear hb;go_wp2;go_ret;exact⟨QQ,rfl,⟨nofun,fun e=>by have:=(o.out e).2 k A;rw[r.out] at this;cases this⟩,B2⟩
   ·obtain rfl:k=z:=by omega
    go_wp2;go_ret;exact⟨QR,rfl,⟨fun _=>HJ.out (by simp) HK.out,fun _=>rfl⟩,ZB⟩
theorem uM (a:Option Addr)(n c:Nat)(f:Nat->aj)(j:Option Addr)(m l:Nat)(g:Nat->aj)(w:H)(hn:n<=1048576)(G:SlDeed w a n f)(QZ:SlDeed w j m g)(q:∀ i,i<n->cS (f i)):Calls Tryz.prog 22 #[QV #[Y a n c],QV #[Y j m l]] w fun e P=>Eg (m=n/\∀ i,i<n->DeedEq (f i) (g i)) w e P:=by
 have HF:=ae G;have Q2:=ae QZ;have HM:=ae q;clear G QZ q;have r:=ae (((q9 w).alloc ly (Q #[Y a n c] 25)).alloc (by simp) (Q #[Y j m l] 25));have F:Hid (((w.alloc (Q #[Y a n c] 25)).alloc (Q #[Y j m l] 25)).heap[w.heap.size]?=N (Q #[Y a n c] 25 (0,0))):=by show _=_;rw[MI _ _ (by simp)];exact cM w _
 have A:Hid (((w.alloc (Q #[Y a n c] 25)).alloc (Q #[Y j m l] 25)).heap[w.heap.size+1]?=N (Q #[Y j m l] 25 (0,0))):=LH w _ _;go_enter Tryz.func22,Tryz.ntmps22;go_upto_region 1 with fail;generalize (w.alloc (Q #[Y a n c] 25)).alloc (Q #[Y j m l] 25)=s at r F A ⊢;have l0:=ai F.out;have l1:=ai A.out;have K:=r.size;have O:Hid (∀ V,Below s.heap.size s V->V.cell? (T w.heap.size 0 Z)=N (Y a n c)/\V.cell? (T (w.heap.size+1) 0 Z)=N (Y j m l)):=fun V o=>by have C:=(o.block _ l0).trans F.out;have z:=(o.block _ l1).trans A.out;constructor<;>simp[World.cell?,C,z]
 obtain⟨z0,z1⟩:=O.out s br;by_cases y:n=m;case neg =>
  have h2:((n:Int) == (m:Int))=QQ:=by simp;omega
  go_wp2;go_ret;exact⟨QQ,rfl,⟨nofun,fun h=>absurd h.1.symm y⟩,r⟩
 subst y;go_wp2;clear z0 z1;go_loopw [5] (fun i wr=>∃ k:Nat,k<=n/\i=I J k/\Hid (∀ i,i<k->DeedEq (f i) (g i))/\Hid (Below s.heap.size s wr)) (fun i _=>n - (intOf i).toNat);case atStart=>exact⟨0,by omega,rfl,fun i hi=>absurd hi (by omega),eL _ _⟩
 case round =>
  obtain⟨k,hk,rfl,L,t⟩:=hrel;obtain⟨z0,z1⟩:=O.out _ t.out;have l2:=t.size;have D:=ae (r.trans (t.mono K));by_cases p:k<n
  ·rcases HF.below D ly with h | ⟨b,off,rfl,B⟩
   ·omega
   rcases Q2.below D ly with h | ⟨b',off',rfl,E⟩
   ·omega
   obtain⟨C,z,p2,p3,⟨x4,QY,R,ZA⟩,⟨QW,k5,p5,Q9⟩⟩:=B.2 k p;obtain⟨q0,q1,q2,W,⟨u4,m4,q4,ZB⟩,⟨u5,m5,QX,M⟩⟩:=E.2 k p;have hb:=B.1;have hb':=E.1;have CD:=ae (fun V (o:Below wr.heap.size wr V)=>AP (f k) (g k) x4 QY QW k5 u4 m4 u5 m5 V (HM.out k p) (ZA.below o ly) (Q9.below o ly) (ZB.below o ly) (M.below o ly));clear B E ZA Q9 ZB M;have hlt2:(k:Int)<n:=by omega
   go_wp2_with fail;go_region_with (go_at_call 68;refine(CD.out _ (by repeat (first | exact eL _ _ | apply Below.drew))).mono ?_;rintro e P ⟨X,rfl,x,u⟩);all_goals
    have Q0:=ae (Below.trans (by repeat (first | exact t.out | apply Below.drew)) (u.mono l2));have S:=ae (r.trans (Q0.mono K));clear u C z p2 p3 R p5 q0 q1 q2 W q4 QX z0 z1;cases X with
    | true =>
     go_wp2
     exact⟨⟨k+1,by omega,by go_num,(fun i hi=>by
      rcases LQ.1 hi with h | rfl
      ·exact L i h
      ·exact x.1 rfl),Q0⟩,by simp[intOf];omega⟩
    | false =>go_wp2;go_ret;exact⟨QQ,rfl,⟨nofun,fun h=>by have:=x.2 (h k p);cases this⟩,S⟩
  ·obtain rfl:k=n:=by omega
   go_wp2;go_ret;exact⟨QR,rfl,⟨fun _=>L.out,fun _=>rfl⟩,D⟩
end Go.Proofs.YtamacmnikdejeaaGreatDoor.Vp
