import Derived.Test.YtkdimgejdocbbaaGreatDoorZR
import Derived.Test.YtkdimgejdocbbaaGreatDoorXN
import Derived.Test.YtkdimgejdocbbaaGreatDoorYW
import Derived.Test.YtkdimgejdocbbaaGreatDoorYN
import Derived.Test.YtkdimgejdocbbaaGreatDoorYT
import Derived.Laws.StructEq
set_option maxRecDepth 100000
set_option maxHeartbeats 2000000
open Go.Value renaming slice->Y
open Go renaming World->E
open Bool renaming false->D,true->QC
namespace Go.Proofs.YtkdimgejdocbbaaGreatDoor.Vp
open RowKit
def MSp (W:E)(a0:Option Addr)(c0:Nat)(a1:Option Addr)(c1:Nat)(d:List Source)(f:List Target):Prop :=
 ∃ (b:Nat) (R:List TR),W.ownsRow b 104 2 (Y a0 d.length c0) d.length (d.flatMap bC)/\TRow W b (Y a1 R.length c1) R/\R.map (·.1)=f
theorem zo {W:E}{b:Nat}{h g:Value}{d:List Source}{R:List TR}{f:List Target}(i:W.ownsRow b 104 2 h d.length (d.flatMap bC))(h1:TRow W b g R)(h2:R.map (·.1)=f):∃ a0 c0 a1 c1,h=Y a0 d.length c0/\g=Y a1 f.length c1/\MSp W a0 c0 a1 c1 d f:=by obtain⟨a0,c0,rfl⟩:=bh i;obtain⟨a1,c1,rfl⟩:=bh h1.own;refine⟨a0,c0,a1,c1,rfl,?_,b,R,i,h1,h2⟩;rw[<-h2,IZ]
theorem MSp.below {W V:E}{a0 a1:Option Addr}{c0 c1 B:Nat}{g:List Source}{d:List Target}(h:MSp W a0 c0 a1 c1 g d)(hb:Below B W V)(f:W.heap.size<=B):MSp V a0 c0 a1 c1 g d:=by obtain⟨b,R,i,h1,h2⟩:=h;exact⟨b,R,own_below i hb f,h1.below hb f,h2⟩
theorem MSp.s0 {W:E}{a0 a1:Option Addr}{c0 c1:Nat}{b:List Source}{d:List Target}(h:MSp W a0 c0 a1 c1 b d):SlSource W a0 b.length (aP b):=by obtain⟨base,R,f,h1,h2⟩:=h;exact jO f
theorem MSp.s1 {W:E}{a0 a1:Option Addr}{c0 c1:Nat}{d:List Source}{b:List Target}(h:MSp W a0 c0 a1 c1 d b):SlTarget W a1 b.length (bo b):=by obtain⟨base,R,h0,h1,rfl⟩:=h;have:=sf h1;rw[IZ];exact this
structure Sml (LS:List Source)(LT:List Target):Prop where
 n0:LS.length<=300
 n1:LT.length<=300
 act:∀ i,i<LT.length->(bo LT i).actN<=300/\∀ j,j<(bo LT i).actN->((bo LT i).act j).s.size<=5000
theorem Sml.fit {d:List Source}{b:List Target}(h:Sml d b):∀ i,i<b.length->aS (bo b i):=fun i hi=>by have:=(h.act i hi).1;unfold aS;omega
theorem vD:Sml [] []:=⟨by simp,by simp,fun i hi=>absurd hi (by simp)⟩
theorem GoodE.sml {k:List Source}{b:List Target}(h:GoodE k b):Sml k b:=by
 have hf:=h.few;refine⟨by omega,by omega,fun i hi=>?_⟩;rw[dt hi];have f:=(h.tgt _ (gz hi)).2;unfold cy at f;have g:valid b[i].act b[i].actN=QC:=by simpa using f
 obtain⟨h1,h2,h3⟩:=bY g;refine⟨by omega,fun j l=>?_⟩;have d:=jj h1 l;unfold cD at d;rw[j4] at d;have hm:bP (b[i].act j).op<=2000:=by unfold bP;split<;>omega
 omega
theorem BV {n0:Nat}{f0:Nat->Source}{n1:Nat}{f1:Nat->Target}{t tx:ByteArray}:Sml (fc n0 f0 n1 f1 t tx) (fk n0 f0 n1 f1 t tx):=by
 by_cases h:iq n0 f0 n1 f1 t tx=0
 ·exact(te h).1.sml
 ·rw[fc,fk,a8 h,a8 h];exact vD
theorem qx {n0:Nat}{f0:Nat->Source}{n1:Nat}{f1:Nat->Target}{t:ByteArray}{m:Nat}{b:Nat->Ins}(h:fN n0 f0 n1 f1 t (valid b m)=0):au t=QC/\GoodE (ep n0 f0 n1 f1 t m b) (er n0 f0 n1 f1 t m b)/\∃ i:Nat,(er n0 f0 n1 f1 t m b)[i]?=some ⟨t,m,b⟩:=by
 have d:=h;unfold fN at d;by_cases a1:aU n0 f0 n1 f1≠0
 ·rw[eT a1] at d;cases d
 rw[a8 a1] at d;by_cases f:au t=D∨valid b m=D
 ·rw[eT f] at d;cases d
 rw[a8 f] at d;by_cases j:200<=(keepS f0 t n0).length+(keepT f1 t n1).length
 ·rw[eT j] at d;cases d
 have l:aU n0 f0 n1 f1=0:=by omega
 have g:au t=QC:=by rw[<-JF];exact fun e=>f (.inl e)
 have p:valid b m=QC:=by rw[<-JF];exact fun e=>f (.inr e)
 obtain⟨n,o⟩:=yP (x:=⟨t,m,b⟩) (t:=t) (ju t l) rfl (by omega) g (by unfold cy;simp[p]) lW nJ;have k:ep n0 f0 n1 f1 t m b=keepS f0 t n0:=by rw[ep,eT h]
 have q:er n0 f0 n1 f1 t m b=ko (keepT f1 t n1) ⟨t,m,b⟩ t:=by rw[er,eT h]
 rw[k,q];exact⟨g,n,o⟩
theorem Cb {n0:Nat}{f0:Nat->Source}{n1:Nat}{f1:Nat->Target}{t:ByteArray}{m:Nat}{fp:Nat->Ins}:Sml (ep n0 f0 n1 f1 t m fp) (er n0 f0 n1 f1 t m fp):=by
 by_cases h:fN n0 f0 n1 f1 t (valid fp m)=0
 ·exact(qx h).2.1.sml
 ·rw[ep,er,a8 h,a8 h];exact vD
end Go.Proofs.YtkdimgejdocbbaaGreatDoor.Vp
namespace Go.Proofs.YtkdimgejdocbbaaGreatDoor.Vp
open RowKit Ca
theorem DO (a:Option Addr)(n c:Nat)(f:Nat->ByteArray)(x:ByteArray)(w:E)(hn:n<=1048576)(o:SlStr w a n f):Calls Tryz.prog 36 #[Y a n c,.string x] w fun e r=>∃ b:Bool,e=.returned (.bool b)/\(b=QC ↔ ∃ i,i<n/\(f i).toList=x.toList)/\Below w.heap.size w r:=by
 have q:=ae o;clear o;go_enter Tryz.func36,Tryz.ntmps36;go_wp2_with fail;go_loopw [5] (fun i wr=>∃ k:Nat,k<=n/\i=.int .i64 k/\Hid (∀ i,i<k->(f i).toList≠x.toList)/\Hid (Below w.heap.size w wr)) (fun i _=>n - (intOf i).toNat);case atStart=>exact⟨0,by omega,rfl,fun i hi=>absurd hi (by omega),eI _ _⟩
 case round =>
  obtain⟨k,hk,rfl,p,g⟩:=hrel;by_cases j:k<n
  ·rcases q.below g.out lr with h | ⟨sb,so,rfl,l⟩
   ·omega
   have e0:=l.2 k j;have hsb:=l.1;clear l;have hlt2:(k:Int)<n:=by omega
   by_cases d:(f k).toList=x.toList
   ·have m:((f k).toList == x.toList)=QC:=by simp[d]
    go_wp2;go_ret;exact⟨QC,rfl,⟨fun _=>⟨k,j,d⟩,fun _=>rfl⟩,g⟩
   ·have m:((f k).toList == x.toList)=D:=by simpa using d
    have s:=ae d;clear d;go_wp2
    exact⟨⟨k+1,by omega,by go_num,(fun i hi=>by
     rcases J0.1 hi with h | rfl
     ·exact p i h
     ·exact s),g⟩,by simp[intOf];omega⟩
  ·obtain rfl:k=n:=by omega
   go_wp2;go_ret;exact⟨D,rfl,⟨(fun h=>by cases h),fun⟨i,hi,e⟩=>absurd e (p i hi)⟩,g⟩
theorem DU {L:List (List UInt8)}{x:ByteArray}:(∃ i,i<L.length/\(nmF L i).toList=x.toList) ↔ x.toList∈L:=by
 constructor
 ·rintro⟨i,hi,e⟩
  rw[<-e,jM hi];exact gz hi
 ·intro h
  obtain⟨i,hi,e⟩:=J2 h;exact⟨i,hi,(jM hi).trans e⟩
end Go.Proofs.YtkdimgejdocbbaaGreatDoor.Vp
namespace Go.Proofs.YtkdimgejdocbbaaGreatDoor.Vp
open RowKit
structure Besd (S S2:Spc)(k:ByteArray):Prop where
 s:∀ y:Source,y.name.toList≠k.toList->(y∈(List.range S2.n0).map S2.f0 ↔ y∈(List.range S.n0).map S.f0)
 t:∀ y:Target,y.name.toList≠k.toList->(y∈(List.range S2.n1).map S2.f1 ↔ y∈(List.range S.n1).map S.f1)
theorem qy {d:Type}(p:d->Bool)(f:Nat->d)(n:Nat):aH (fun i=>p (f i)) n=QC ↔ ∃ y∈(List.range n).map f,p y=QC:=by
 constructor
 ·intro h
  obtain⟨k,b,hb⟩:=fP h;exact⟨f k,IC.2 ⟨k,BO.2 b,rfl⟩,hb⟩
 ·rintro⟨y,g,hb⟩
  obtain⟨k,b,rfl⟩:=IC.1 g;exact cO (BO.1 b) hb
theorem lp {b:Type}(nm:b->ByteArray)(f:Nat->b)(n:Nat)(t:ByteArray):aF (fun i=>nm (f i)) n t=QC ↔ ∃ y∈(List.range n).map f,((nm y).toList == t.toList)=QC:=by simp only[aF,J6,IC,BO];exact⟨fun⟨k,h,e⟩=>⟨_,⟨k,h,rfl⟩,e⟩,fun⟨_,⟨k,h,rfl⟩,e⟩=>⟨k,h,e⟩⟩
theorem lu {b:Type}{p:b->Bool}{q:b->Prop}{A B:List b}(h:∀ y,q y->(y∈B ↔ y∈A))(d:∀ y,p y=QC->q y):(∃ y∈B,p y=QC) ↔ ∃ y∈A,p y=QC :=
 ⟨fun⟨y,h1,h2⟩=>⟨y,(h y (d y h2)).1 h1,h2⟩,fun⟨y,h1,h2⟩=>⟨y,(h y (d y h2)).2 h1,h2⟩⟩
section
variable {S S2:Spc}{k t:ByteArray}
theorem Besd.src (h:Besd S S2 k)(d:t.toList≠k.toList)(x:ByteArray):lN S2.n0 S2.f0 t x=lN S.n0 S.f0 t x:=by have e:=fun(S:Spc)=>qy (fun y:Source=>y.name.toList == t.toList && y.text.toList == x.toList) S.f0 S.n0;rw[IL];exact(e S2).trans ((lu h.s fun y b=>by simp at b;rw[b.1];exact d).trans (e S).symm)
theorem Besd.tgt (h:Besd S S2 k)(d:t.toList≠k.toList)(n:Nat)(f:Nat->Ins):ki S2.n1 S2.f1 t n f=ki S.n1 S.f1 t n f:=by have e:=fun(S:Spc)=>qy (fun y:Target=>y.name.toList == t.toList && cL y.act f y.actN n) S.f1 S.n1;rw[IL];exact(e S2).trans ((lu h.t fun y b=>by simp at b;rw[b.1];exact d).trans (e S).symm)
theorem Besd.has (h:Besd S S2 k)(d:t.toList≠k.toList):jB S2.n0 S2.f0 S2.n1 S2.f1 t=jB S.n0 S.f0 S.n1 S.f1 t:=by
 have f:aF (nm0 S2.f0) S2.n0 t=aF (nm0 S.f0) S.n0 t:=by rw[IL];exact(lp (fun y:Source=>y.name) S2.f0 _ t).trans ((lu h.s fun y b=>by simp at b;rw[b];exact d).trans (lp (fun y:Source=>y.name) S.f0 _ t).symm)
 have g:aF (nm1 S2.f1) S2.n1 t=aF (nm1 S.f1) S.n1 t:=by rw[IL];exact(lp (fun y:Target=>y.name) S2.f1 _ t).trans ((lu h.t fun y b=>by simp at b;rw[b];exact d).trans (lp (fun y:Target=>y.name) S.f1 _ t).symm)
 unfold jB;rw[f,g]
theorem Besd.borne (h:Besd S S2 k){f:Nat->aj}{n p:Nat}(b:k.toList ∉ dv f n)(i:p<n)(g:Borne S f p):Borne S2 f p:=by
 rw[xU] at b;have d:(f p).name.toList≠k.toList:=fun e=>b ⟨p,i,.inl e⟩;refine⟨?_,ml fun j l=>?_,g.run⟩
 ·have:=g.lie
  unfold iU at this ⊢;rw[h.src d,h.tgt d,h.has d];exact this
 ·have:=gG g.has l
  unfold fY at this ⊢;rw[h.has fun e=>b ⟨p,i,.inr ⟨j,l,e⟩⟩];exact this
theorem qz {c:Nat->Int}:∀ {n:Nat},(fr c n).1=0->∀ i,i<n->c i=0
 | 0,_,i,hi=>absurd hi (by omega)
 | n+1,h,i,hi=>by
  rw[fr] at h;split at h
  ·rename_i b
   split at h
   ·rcases J0.1 hi with e | rfl
    ·exact qz b i e
    ·assumption
   ·contradiction
  ·contradiction
theorem pD {f:Nat->aj}{n:Nat}(g:aX f n=QC):(gu S.n0 S.f0 S.n1 S.f1 f n).1=0 ↔ aU S.n0 S.f0 S.n1 S.f1=0/\∀ p,p<n->Borne S f p:=by
 unfold gu;rw[eT g];constructor
 ·intro h
  split at h
  ·rename_i d
   refine⟨d,fun p b=>?_⟩;have:=qz h p b;unfold ec at this;split at this
   ·omega
   split at this
   ·omega
   rename_i h1 h2;exact⟨by simpa using h1,by simpa using h2,this⟩
  ·cases h
 ·rintro⟨d,h⟩
  rw[eT d,pY fun p b=>by unfold ec;rw[a8 (by rw[(h p b).lie];simp),a8 (by rw[(h p b).has];simp)];exact(h p b).run]
theorem Cc {f:Nat->aj}{n:Nat}(d:aX f n=QC)(h:∀ p,p<n->Borne S f p):sH f n=(0,0):=by
 have:∀ k,k<=n->fD f k=(0,0):=by
  intro k;induction k with
  | zero=>intro _;rfl
  | succ k b=>intro hk;rw[fD,b (by omega),eT rfl,eT (h k (by omega)).run]
 unfold sH;rw[eT d,this n lr ]
theorem zp {f:Nat->aj}{n:Nat}(d:aX f n=QC):((bj S (f (n - 1)).name).1.length=n/\∀ i,i<n->DeedEq (f i) (dF (bk S (bj S (f (n - 1)).name).1) i)) ↔ (gu S.n0 S.f0 S.n1 S.f1 f n).1=0:=by
 have hn:=dU d;rw[pD d];constructor
 ·rintro⟨h1,h2⟩
  rcases mW S (f (n - 1)).name with ⟨e,-⟩ | ⟨M,e,g,l,m,hb⟩
  ·rw[e] at h1
   have h0:0=n:=h1;omega
  ·rw[hb] at h1 h2
   have h1:M.length=n:=h1;obtain⟨a,b⟩:=qj g l m;rw[h1] at a b;exact⟨g.chk,fun p k=>xk a (fun i hi=>(h2 i hi).symm) k (b p k)⟩
 ·rintro⟨j,h⟩
  have g:=SpcOk.of j;have hb:(bj S (f (n - 1)).name).1=cA S f n:=by unfold bj;rw[eT ⟨j,(fV d (show n - 1<n by omega)).1⟩,xg d g h]
  rw[hb];exact⟨by simp[cA],fun i hi=>(xh d g h hi).symm⟩
end
theorem tF {b:Type}{L:List b}{x y:b}{i:Nat}:y∈L.take i++x :: L.drop i ↔ y=x∨y∈L :=
 ⟨jU,fun h=>by
  rcases h with rfl | h
  ·simp
  ·rw[<-KM i L] at h
   rcases kP.1 h with h | h
   ·exact kP.2 (.inl h)
   ·exact kP.2 (.inr (mq _ h))⟩
theorem Cd {b:List Source}{l:List Target}(h:GoodE b l){x:Source}{t:ByteArray}(m:∀ y∈b,(y.name.toList == t.toList)=D){y:Source}:y∈gB b x t ↔ y=x∨y∈b:=by
 have d:aE (nm0 (aP b)) b.length=QC:=gC fun i j g f=>by show ay (aP b i).name (aP b j).name=QC;rw[cJ f,cJ (by omega)];exact DN.1 h.s i j (by omega) f g
 obtain⟨i,hi,a1,k⟩:=je (t:=t) d;rw[uL hi a1 k m];exact tF
theorem Ce {n:List Source}{b:List Target}(h:GoodE n b){x:Target}{t:ByteArray}(o:∀ y∈b,(y.name.toList == t.toList)=D){y:Target}:y∈ko b x t ↔ y=x∨y∈b:=by
 have d:aE (nm1 (bo b)) b.length=QC:=gC fun i j k g=>by show ay (bo b i).name (bo b j).name=QC;rw[dt g,dt (by omega)];exact DN.1 h.t i j (by omega) g k
 obtain⟨i,hi,a1,l⟩:=je (t:=t) d
 rw[ko,uM hi a1 l fun m f=>by
  show((bo b m).name.toList == t.toList)=D;rw[dt f]
  exact o _ (gz f)]
 exact tF
def spL (b:List Source)(d:List Target):Spc:=⟨b.length,aP b,d.length,bo d⟩
theorem vE {n0:Nat}{f0:Nat->Source}{n1:Nat}{f1:Nat->Target}{k:ByteArray}{f:List Source}{d:List Target}(g:∀ y:Source,y.name.toList≠k.toList->(y∈f ↔ y∈keepS f0 k n0))(h1:∀ y:Target,y.name.toList≠k.toList->(y∈d ↔ y∈keepT f1 k n1)):Besd ⟨n0,f0,n1,f1⟩ (spL f d) k :=
 ⟨fun y b=>by
  show y∈(List.range f.length).map (aP f) ↔ _;rw[xo,g y b];simp[keepS,b],fun y b=>by
  show y∈(List.range d.length).map (bo d) ↔ _;rw[xp,h1 y b]
  simp[keepT,b]⟩
theorem zq {n0:Nat}{f0:Nat->Source}{n1:Nat}{f1:Nat->Target}{t tx:ByteArray}(h:iq n0 f0 n1 f1 t tx=0):Besd ⟨n0,f0,n1,f1⟩ (spL (fc n0 f0 n1 f1 t tx) (fk n0 f0 n1 f1 t tx)) t:=by
 have d:aU n0 f0 n1 f1=0:=by
  have b:=h;unfold iq at b;split at b
  ·cases b
  ·omega
 refine vE (fun y f=>?_) (fun y _=>by rw[fk,eT h]);rw[fc,eT h,Cd (ju t d) lW];exact⟨fun e=>e.resolve_left fun e=>f (by rw[e]),.inr⟩
theorem zu {n0:Nat}{f0:Nat->Source}{n1:Nat}{f1:Nat->Target}{t:ByteArray}{m:Nat}{d:Nat->Ins}(h:fN n0 f0 n1 f1 t (valid d m)=0):Besd ⟨n0,f0,n1,f1⟩ (spL (ep n0 f0 n1 f1 t m d) (er n0 f0 n1 f1 t m d)) t:=by
 have f:aU n0 f0 n1 f1=0:=by
  have b:=h;unfold fN at b;split at b
  ·cases b
  ·omega
 refine vE (fun y _=>by rw[ep,eT h]) (fun y g=>?_);rw[er,eT h,Ce (ju t f) nJ];exact⟨fun e=>e.resolve_left fun e=>g (by rw[e]),.inr⟩
theorem oQ {S S2:Spc}{k:ByteArray}(h:Besd S S2 k)(j:aU S2.n0 S2.f0 S2.n1 S2.f1=0){f:Nat->aj}{n:Nat}(g:aX f n=QC)(i:∀ p,p<n->Borne S f p)(b:k.toList ∉ iW f n):(gu S2.n0 S2.f0 S2.n1 S2.f1 f n).1=0 :=
 (pD g).2 ⟨j,fun p d=>h.borne (n:=n) (by rw[iW,eT g] at b;exact b) d (i p d)⟩
end Go.Proofs.YtkdimgejdocbbaaGreatDoor.Vp
