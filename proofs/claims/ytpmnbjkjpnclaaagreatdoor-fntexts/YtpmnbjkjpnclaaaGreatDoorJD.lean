import Derived.Test.YtpmnbjkjpnclaaaGreatDoorKE
import Derived.Test.YtpmnbjkjpnclaaaGreatDoorLS
import Derived.Test.YtpmnbjkjpnclaaaGreatDoorKL
import Derived.Test.YtpmnbjkjpnclaaaGreatDoorMT
import Derived.Test.YtpmnbjkjpnclaaaGreatDoorKG
import Derived.WalkSmall
set_option maxRecDepth 100000
set_option maxHeartbeats 8000000
set_option linter.unusedSimpArgs false
open Go renaming Addr.mk->N,Value.slice->Y,Value.string->U,Value.int->Q,Value.agg->ZG,Obj.cells->J,IntKind.i64->I,World->M,Value->ZB,Ending.returned->ZD,World.heap->B,World.cell?->A
open Option renaming none->Z,some->T
open Bool renaming false->ZA,true->ZF
open Array renaming size->z
namespace Go.Proofs.YtpmnbjkjpnclaaaGreatDoor.Vp
open Tryz RowKit
variable {W V w:M}{x n0 n1 b f lo:Nat}{xs:List Nat}{f0:Nat->Source}{f1:Nat->Target}{t:ByteArray}{LS:List Source}{a:Option Addr}
structure Sml (LS:List Source)(LT:List Target):Prop where
 n0:LS.length<=300
 n1:LT.length<=300
 D:∀i,i<LT.length->(bD LT i).m<=300/\∀j,j<(bD LT i).m->((bD LT i).D j).s.size<=5000
 pos:LS.length<=250/\LT.length<=250/\∀i,i<LT.length->1<=(bD LT i).m/\(bD LT i).m<=200
theorem pI:Sml [] []:=⟨by simp,by simp,λi hi=>absurd hi (by simp),by simp,by simp,λi hi=>absurd hi (by simp)⟩
theorem tH{b:List Target}(hl:LS.length+b.length<=201)(g:∀y∈b,valid y.D y.m=ZF):Sml LS b:=by
 refine⟨by omega,by omega,λi hi=>?_,by omega,by omega,λi hi=>by
  rw[uV hi];obtain⟨h1,h2,h⟩:=bM (g _ (gz hi))
  omega⟩
 rw[uV hi];obtain⟨h1,h2,h⟩:=bM (g _ (gz hi));refine⟨by omega,λj l=>?_⟩;have f:=iU h1 l;unfold b9 at f;rw[xT] at f;have hm:bF (b[i].D j).op<=2000:=by unfold bF;split<;>omega
 omega
theorem mj (t:ByteArray)(h:be n0 f0 n1 f1=0):(keepS f0 t n0).length+(keepT f1 t n1).length<=200/\∀y∈keepT f1 t n1,valid y.D y.m=ZF:=by have H:=SpcOk.of (S:=⟨n0,f0,n1,f1⟩) h;have h0:=gN f0 t n0;have h1:=ja f1 t n1;have hs:n0+n1<=200:=H.ax;refine⟨by omega,λy b=>?_⟩;obtain⟨i,hi,rfl⟩:=KH.1 (List.mem_filter.1 b).1;exact H.D i (J4.1 hi)
theorem tI{b:Type}{g:Nat->ByteArray}{F:Nat->b}{x y:b}(k:Nat)(h:y∈dY g F x t k):y=x∨∃j,j<k/\y=F j:=by
 induction k with
 |zero=>cases h
 |succ k f =>
  have h2:y∈dY g F x t k∨y=x∨y=F k:=by
   unfold dY at h;split at h<;>simp only[BC,hU] at h;{rcases h with (h|h)|h;{exact .inl h};{exact .inr (.inl h)};{exact .inr (.inr h)}};{exact h.imp id .inr}
  rcases h2 with h|h|h;{exact(f h).imp id λ⟨j,hj,e⟩=>⟨j,by omega,e⟩};{exact .inl h};{exact .inr ⟨k,by omega,h⟩}
theorem Ce{tx:ByteArray}:Sml (jU n0 f0 n1 f1 t tx) (mZ n0 f0 n1 f1 t tx):=by
 by_cases h:mX n0 f0 n1 f1 t tx=0
 ·rw[jU,mZ,nL h,nL h];have f:be n0 f0 n1 f1=0:=PE λa=>by unfold mX at h;rw[nL a] at h;cases h
  obtain⟨h1,h2⟩:=mj t f;obtain⟨h3,g⟩:=pZ (keepS f0 t n0) ⟨t,tx⟩ t (keepS f0 t n0).length;refine tH ?_ h2;unfold pd;split;{omega};{rename_i b;rw[eL,g (by simpa using b)];simp only[D0];omega}
 {rw[jU,mZ,eT h,eT h];exact pI}
theorem Cf{m:Nat}{f:Nat->Ins}:Sml (iv n0 f0 n1 f1 t m f) (jZ n0 f0 n1 f1 t m f):=by
 by_cases h:jV n0 f0 n1 f1 t (valid f m)=0
 ·rw[iv,jZ,nL h,nL h];unfold jV at h;have p:be n0 f0 n1 f1=0:=PE λa=>by rw[nL a] at h;cases h
  have o:valid f m=ZF:=by
   cases e:valid f m with
   |true=>rfl
   |false=>rw[eT (by omega),nL (.inr e)] at h;cases h
  obtain⟨h1,h2⟩:=mj t p;generalize keepT f1 t n1=K at h1 h2;obtain⟨h3,l⟩:=su (nm1 (bD K)) (λj=>K.getD j dfT) ⟨t,m,f⟩ t K.length;refine tH ?_ λy b=>?_;{unfold sA jW;split;{omega};{rename_i n;rw[eL,l (by simpa using n)];simp only[D0];omega}}
  ·have g:y=⟨t,m,f⟩∨∃j,j<K.length/\y=K.getD j dfT:=by
    unfold sA jW at b;split at b;{exact tI _ b};{rcases BC.1 b with b|b;{exact tI _ b};{exact .inl (hU.1 b)}}
   rcases g with rfl|⟨j,i,rfl⟩
   {exact o};{rw[JB,gq i];exact h2 _ (gz i)}
 {rw[iv,jZ,eT h,eT h];exact pI}
theorem Cg:Sml (iu n0 f0 n1 f1 t) (jS n0 f0 n1 f1 t):=by
 by_cases h:jR n0 f0 n1 f1 t=0
 ·rw[iu,jS,nL h,nL h];have b:be n0 f0 n1 f1=0:=PE λa=>by unfold jR at h;rw[nL a] at h;cases h
  exact tH (by have:=(mj t b).1;omega) (mj t b).2
 {rw[iu,jS,eT h,eT h];exact pI}
open Ca
theorem xC (a b:Option Addr)(n c d:Nat)(f:Nat->ByteArray)(w:M)(hn:n<=1048576)(p:SlStr w a n f)(hb:SlStr w b n f):Calls Tryz.prog 9 #[Y a n c,Y b n d] w λe t=>e=ZD (.bool ZF)/\Below (z (B w)) w t:=by
 have q:=ae p;have s:=ae hb;clear p hb;go_enter func9,ntmps9;go_wp2_with fail;go_loopw [5] (λi wr=>∃k:Nat,k<=n/\i=Q I k/\Hid (Below (z (B w)) w wr)) (λi _=>n - (intOf i).toNat);case atStart=>exact⟨0,by omega,rfl,cM _ _⟩
 case round =>
  obtain⟨k,hk,rfl,g⟩:=hrel;by_cases j:k<n
  ·rcases q.aa g.out ly with h|⟨sb,so,rfl,m⟩
   {omega};rcases s.aa g.out ly with h|⟨tb,sp,rfl,l⟩
   {omega};have r:=m.2 k j;have g0:=l.2 k j;have hsb:=m.1;have htb:=l.1;clear m l;have hlt2:(k:Int)<n:=by omega
   go_wp2_with fail;go_quiet (fail);have o:=ae (E9 g nq);clear r g0;generalize wr.drewN nq=W at o ⊢;go_wp2;exact⟨⟨k+1,by omega,by go_num,o⟩,by simp[intOf];omega⟩
  ·obtain rfl:k=n:=by omega
   go_wp2;go_ret;exact⟨rfl,g⟩
theorem uH (S:Spc)(nm:ByteArray):((aX S nm).1=[]/\5<(aX S nm).2.E)∨∃ZQ e,SpcOk S/\aA nm=ZF/\aQ S 60 [] [] nm=.inl (ZQ,e)/\aX S nm=(ZQ,cI e):=by
 unfold aX;split;{rename_i h;split;{rename_i b e f;exact .inr ⟨b,e,SpcOk.of h.1,h.2,f,rfl⟩};{exact .inl ⟨rfl,by show(5:Int)<6;decide⟩};{exact .inl ⟨rfl,by show(5:Int)<7;decide⟩}};{exact .inl ⟨rfl,by show(5:Int)<9;decide⟩}
theorem Ej{c:Nat}{L:List (List UInt8)}(h:w.ownsRow f 9 1 (Y a L.length c) L.length (L.map encStr)):SlStr w a L.length (nmF L):=by
 by_cases hz:L.length=0;{exact .inl hz}
 ·rcases h.2 with ⟨b,l⟩|⟨g,cap,cur,b,hb,m,h1,h2,h3,h4⟩
  {exact absurd l hz};{simp only[JG] at b;obtain⟨rfl,-,rfl⟩:=b;refine .inr ⟨g,0,rfl,ar m,λi hi=>?_⟩;have j:=h.cells (g:=g) rfl i (encStr L[i]) (by simp[hi]);rw[fB] at j;rw[oZ hi];exact j}
theorem Ek (a:Option Addr)(n c:Nat)(f:Nat->ByteArray)(x:ByteArray)(w:M)(hn:n<=1048576)(q:SlStr w a n f):Calls Tryz.prog 13 #[Y a n c,U x] w λe t=>∃b:Bool,e=ZD (.bool b)/\(b=ZF ↔ ∃i,i<n/\(f i).toList=x.toList)/\Below (z (B w)) w t:=by
 have r:=ae q;clear q;go_enter func13,ntmps13;go_wp2_with fail;go_loopw [5] (λi wr=>∃k:Nat,k<=n/\i=Q I k/\Hid (∀i,i<k->(f i).toList≠x.toList)/\Hid (Below (z (B w)) w wr)) (λi _=>n - (intOf i).toNat);case atStart=>exact⟨0,by omega,rfl,λi hi=>absurd hi (by omega),cM _ _⟩
 case round =>
  obtain⟨k,hk,rfl,p,j⟩:=hrel;by_cases l:k<n
  ·rcases r.aa j.out ly with h|⟨sb,so,rfl,m⟩
   {omega};have e0:=m.2 k l;have hsb:=m.1;clear m;have hlt2:(k:Int)<n:=by omega
   by_cases g:(f k).toList=x.toList
   ·have o:((f k).toList == x.toList)=ZF:=by simp[g]
    go_wp2;go_ret;exact⟨ZF,rfl,⟨λ_=>⟨k,l,g⟩,λ_=>rfl⟩,j⟩
   ·have o:((f k).toList == x.toList)=ZA:=by simpa using g
    have s:=ae g;clear g;go_wp2
    exact⟨⟨k+1,by omega,by go_num,(λi hi=>by
     rcases NE.1 hi with h|rfl;{exact p i h}
     ·exact s),j⟩,by simp[intOf];omega⟩
  ·obtain rfl:k=n:=by omega
   go_wp2;go_ret;exact⟨ZA,rfl,⟨(λh=>by cases h),λ⟨i,hi,e⟩=>absurd e (p i hi)⟩,j⟩
def Fr (xs:List Nat)(W W':M):Prop:=z (B W)<=z (B W')/\∀k,k<z (B W)->k ∉ xs->W'.heap[k]?=W.heap[k]?
theorem Fr.refl (xs:List Nat)(W:M):Fr xs W W:=⟨nX _,λ_ _ _=>rfl⟩
theorem Fr.trans{ZK:M}(h:Fr xs W V)(g:Fr xs V ZK):Fr xs W ZK:=⟨nD h.1 g.1,λk h1 h2=>(g.2 k (lj h1 h.1) h2).trans (h.2 k h1 h2)⟩
theorem Fr.aa (h:Below (z (B W)) W V):Fr xs W V:=⟨h.size,λk h1 _=>h.block k h1⟩
theorem Fr.ac{R:Nat}(h:Only R W V)(hR:R∈xs):Fr xs W V:=⟨h.size,λk h1 h2=>h.block k h1 (λe=>h2 (e ▸ hR))⟩
theorem Fr.set{j:Nat}(b:x∈xs)(u:ZB):Fr xs W (W.setCell (N x j Z) u):=⟨by simp,λk _ h2=>qh W (N x j Z) u k (λe=>h2 ((show k=x from e) ▸ b))⟩
def ij (xs:List Nat)(b ZR:Nat):Prop:=∀x∈xs,x<b∨ZR<=x
theorem Agr.fr{f:M}(h:Agr b f W)(l:ij xs b (z (B f)))(g:Fr xs W V):Agr b f V :=
 ⟨nD h.1 g.1,λk h1 h2=>(g.2 k (lj h2 h.1) (λj=>by rcases l k j with i|i<;>omega)).trans (h.2 k h1 h2)⟩
def Gd (n0 n1:Nat)(f1:Nat->Target):Prop:=n0<=250/\n1<=250/\∀i,i<n1->1<=(f1 i).m/\(f1 i).m<=200
def HSg (b:Nat)(w:M)(a0:Option Addr)(n0:Nat)(f0:Nat->Source)(a1:Option Addr)(n1:Nat)(f1:Nat->Target):Prop:=HSp b w a0 n0 f0 a1 n1 f1/\Gd n0 n1 f1
def QSp (lo:Nat)(xs:List Nat)(W:M)(a0:Option Addr)(n0:Nat)(f0:Nat->Source)(a1:Option Addr)(n1:Nat)(f1:Nat->Target):Prop:=∃(b:Nat) (f:M),lo<=b/\HSg b f a0 n0 f0 a1 n1 f1/\Agr b f W/\ij xs b (z (B f))
def QAc (lo:Nat)(xs:List Nat)(W:M)(a:Option Addr)(n c:Nat)(f:Nat->aj):Prop:=∃(b:Nat) (g:M),lo<=b/\HAc b g a n c f/\Agr b g W/\ij xs b (z (B g))
section
variable {lo b:Nat}{xs:List Nat}{W V:M}{a0 a1 a:Option Addr}{n0 n1 n c:Nat}{f0:Nat->Source}{f1:Nat->Target}{f:Nat->aj}
theorem QSp.fr (h:QSp lo xs W a0 n0 f0 a1 n1 f1)(i:Fr xs W V):QSp lo xs V a0 n0 f0 a1 n1 f1:=by obtain⟨b,g,j,h1,h2,f⟩:=h;exact⟨b,g,j,h1,h2.fr f i,f⟩
theorem QAc.fr (h:QAc lo xs W a n c f)(j:Fr xs W V):QAc lo xs V a n c f:=by obtain⟨b,i,l,h1,h2,g⟩:=h;exact⟨b,i,l,h1,h2.fr g j,g⟩
theorem QSp.at (h:QSp lo xs W a0 n0 f0 a1 n1 f1):HSg lo W a0 n0 f0 a1 n1 f1:=by obtain⟨b,w1,f,h1,h2,-⟩:=h;exact⟨(h1.1.agr h2).mono f,h1.2⟩
theorem QAc.at (h:QAc lo xs W a n c f):HAc lo W a n c f:=by obtain⟨b,w1,g,h1,h2,-⟩:=h;exact(h1.agr h2).mono g
theorem QSp.new (h:HSg b W a0 n0 f0 a1 n1 f1)(g:lo<=b)(f:ij xs b (z (B W))):QSp lo xs W a0 n0 f0 a1 n1 f1:=⟨b,W,g,h,Agr.refl _ _,f⟩
theorem QAc.new (h:HAc b W a n c f)(i:lo<=b)(g:ij xs b (z (B W))):QAc lo xs W a n c f:=⟨b,W,i,h,Agr.refl _ _,g⟩
end
theorem Ci (S:Spc)(nm:ByteArray):(aX S nm).1.length<=400:=by
 rcases uH S nm with ⟨h1,-⟩|⟨ZQ,e,f,-,h2,b⟩
 {rw[h1];exact IH _};{rw[b];exact xd f h2}
theorem Cj{c:Nat}{S:Spc}{nm:ByteArray}{R:List DR}(h:DRow W f (Y a R.length c) R)(g:R.map (·.1)=fT S (aX S nm).1):HAc f W a R.length c (dF (fT S (aX S nm).1))/\R.length<=400/\∀i,i<R.length->FitD (dF (fT S (aX S nm).1) i)/\(dF (fT S (aX S nm).1) i).y.size<=2000/\(dF (fT S (aX S nm).1) i).m<=200/\(dF (fT S (aX S nm).1) i).l<=200:=by
 have m:R.length=(aX S nm).1.length:=by have:=A9 List.length g;simpa[fT] using this
 have hn:R.length<=400:=by rw[m];exact Ci S nm
 have l:∀r∈R,FitD r.1/\r.1.y.size<=2000/\r.1.m<=200/\r.1.l<=200:=λr b=>Bl S nm r.1 (by rw[<-g];exact SK b);have h1:=EW h (λr b=>(l r b).1) (by omega);rw[g] at h1;refine⟨h1,hn,λi hi=>?_⟩;obtain⟨r,b,j⟩:=cZ hi;rw[<-g,gB b];exact l r j
def DCh (w:M)(R q:Nat)(a0:Option Addr)(n0:Nat)(f0:Nat->Source)(a1:Option Addr)(n1:Nat)(f1:Nat->Target)(e:Ending)(b:M):Prop:=∃(d0:Option Addr) (m0 k0:Nat) (g0:Nat->Source) (d1:Option Addr) (m1 k1:Nat) (g1:Nat->Target),e=ZD (ZG #[Y d0 m0 k0,Y d1 m1 k1])/\(HSg (z (B w)) b d0 m0 g0 d1 m1 g1∨(d0=a0/\m0=n0/\g0=f0/\d1=a1/\m1=n1/\g1=f1))/\∃q':Nat,q'<=q/\Rd b R q'/\Only R w b
structure Ch (E:Option Addr->Nat->(Nat->Source)->Option Addr->Nat->(Nat->Target)->Prop)(xs:List Nat)(w:M)(R:Nat)(W:M)(q m0 k0 m1 k1:Nat)(d0:Option Addr)(g0:Nat->Source)(d1:Option Addr)(g1:Nat->Target):Prop where
 rd:Rd W R q
 o:Only R w W
 sx:W.heap[z (B w)]?=T (J #[Y d0 m0 k0,Y d1 m1 k1] 27 (0,0))
 rx:W.heap[z (B w)+1]?=T (J #[Y Z 0 0,Y Z 0 0] 27 (0,0))
 sp:QSp (z (B w)) xs W d0 m0 g0 d1 m1 g1∨E d0 m0 g0 d1 m1 g1
 lo:R<z (B w)
section
variable {E:Option Addr->Nat->(Nat->Source)->Option Addr->Nat->(Nat->Target)->Prop}{xs ys:List Nat}{w W W':M}{R q q' m0 k0 m1 k1:Nat}{d0 d1:Option Addr}{g0:Nat->Source}{g1:Nat->Target}
theorem Ch.ac (h:Ch E xs w R W q m0 k0 m1 k1 d0 g0 d1 g1)(b:Only R W W')(hR:Rd W' R q')(f:R∈xs):Ch E xs w R W' q' m0 k0 m1 k1 d0 g0 d1 g1:=by have hl:=h.lo;exact⟨hR,h.o.trans b,(b.block _ (ar h.sx) (by omega)).trans h.sx,(b.block _ (ar h.rx) (by omega)).trans h.rx,h.sp.imp (λg=>g.fr (Fr.ac b f)) id,h.lo⟩
theorem Ch.aa (h:Ch E xs w R W q m0 k0 m1 k1 d0 g0 d1 g1)(b:Below (z (B W)) W W')(f:R∈xs):Ch E xs w R W' q m0 k0 m1 k1 d0 g0 d1 g1:=h.ac (Only.q b) (h.rd.aa b ly) f
theorem QSp.more (h:QSp lo xs W d0 m0 g0 d1 m1 g1)(j:z (B W)<=x):QSp lo (x::xs) W d0 m0 g0 d1 m1 g1:=by
 obtain⟨b,i,l,h1,h2,g⟩:=h;refine⟨b,i,l,h1,h2,λy f=>?_⟩;rcases BO.1 f with rfl|f;{exact .inr (nD h2.1 j)};{exact g y f}
theorem QSp.less (h:QSp lo (x::xs) W d0 m0 g0 d1 m1 g1):QSp lo xs W d0 m0 g0 d1 m1 g1:=by obtain⟨b,i,j,h1,h2,f⟩:=h;exact⟨b,i,j,h1,h2,λy g=>f y (mq _ g)⟩
theorem Ch.more (h:Ch E xs w R W q m0 k0 m1 k1 d0 g0 d1 g1)(b:z (B W)<=x):Ch E (x::xs) w R W q m0 k0 m1 k1 d0 g0 d1 g1:=⟨h.rd,h.o,h.sx,h.rx,h.sp.imp (λg=>g.more b) id,h.lo⟩
theorem Ch.less (h:Ch E (x::xs) w R W q m0 k0 m1 k1 d0 g0 d1 g1):Ch E xs w R W q m0 k0 m1 k1 d0 g0 d1 g1:=⟨h.rd,h.o,h.sx,h.rx,h.sp.imp (λg=>g.less) id,h.lo⟩
theorem Ch.cells (h:Ch E xs w R W q m0 k0 m1 k1 d0 g0 d1 g1):A W (N (z (B w)) 0 Z)=T (Y d0 m0 k0)/\A W (N (z (B w)) 1 Z)=T (Y d1 m1 k1)/\W.frozen? (N (z (B w)) 0 Z)=ZA/\W.frozen? (N (z (B w)) 1 Z)=ZA/\(z (B w))<z (B W):=by have hb:=h.sx;refine⟨?_,?_,?_,?_,ar hb⟩<;>simp[World.cell?,World.frozen?,hb]
theorem Ch.two (h:Ch E xs w R W q m0 k0 m1 k1 d0 g0 d1 g1)(f:x∈xs)(b:z (B w)+2<=x)(u v:ZB):Ch E xs w R ((W.setCell (N x 0 Z) u).setCell (N x 1 Z) v) q m0 k0 m1 k1 d0 g0 d1 g1:=by have ZS:=((cM (z (B w)+2) W).setCell (p:=(N x 0 Z)) b u).setCell (p:=(N x 1 Z)) b v;have hlo:=h.lo;exact⟨h.rd.low ZS (by omega),h.o.then (ZS.mono (by omega)),(ZS.block _ (by omega)).trans h.sx,(ZS.block _ (by omega)).trans h.rx,h.sp.imp (λg=>g.fr ((Fr.set f _).trans (Fr.set f _))) id,h.lo⟩
theorem Ch.put{l0 i l1:Nat}{j f:Option Addr}{m:Nat->Source}{l:Nat->Target}(h:Ch E xs w R W q m0 k0 m1 k1 d0 g0 d1 g1)(n:z (B w)∈xs)(s:QSp (z (B w)) xs W j b m f i l∨E j b m f i l):Ch E xs w R ((W.setCell (N (z (B w)) 0 Z) (Y j b l0)).setCell (N (z (B w)) 1 Z) (Y f i l1)) q b l0 i l1 j m f l:=by have ZS:=((cM (z (B w)) W).setCell (p:=(N (z (B w)) 0 Z)) ly (Y j b l0)).setCell (p:=(N (z (B w)) 1 Z)) ly (Y f i l1);have far:∀k,k≠z (B w)->((W.setCell (N (z (B w)) 0 Z) (Y j b l0)).setCell (N (z (B w)) 1 Z) (Y f i l1)).heap[k]?=W.heap[k]?:=λk r=>(qh _ _ _ _ r).trans (qh _ _ _ _ r);have t:=h.sx;exact⟨h.rd.low ZS h.lo,h.o.then ZS,by simp[World.setCell,JV,t],(far _ (by omega)).trans h.rx,s.imp (λg=>g.fr ((Fr.set n _).trans (Fr.set n _))) id,h.lo⟩
end
theorem pJ{c0 c1:Nat}{a0 a1:Option Addr}{RT:List TR}{g:List Target}(n:w.ownsRow b 142 2 (Y a0 LS.length c0) LS.length (LS.flatMap bi))(l:TRow w b (Y a1 RT.length c1) RT)(m:RT.map (·.1)=g)(f:Sml LS g):HSg b w a0 LS.length (bY LS) a1 RT.length (bD g):=by
 subst m;refine⟨eE n rfl l rfl f.n0 (by simpa using f.n1) (λr j=>?_),f.pos.1,by simpa using f.pos.2.1,λi hi=>f.pos.2.2 i (by simpa using hi)⟩;obtain⟨i,hi,rfl⟩:=SH j;have e:bD (RT.map (·.1)) i=RT[i].1:=by simp[bD,hi]
 have h:=f.D i (by simpa using hi);rw[e] at h;exact h
theorem tJ (R p b n0 c0 n1 c1:Nat)(a0:Option Addr)(f0:Nat->Source)(a1:Option Addr)(f1:Nat->Target)(w:M)(hR:Rd w R p)(hp:p<=18000)(hb:R<b)(hH:HSg b w a0 n0 f0 a1 n1 f1):Calls Tryz.prog 67 #[.pointer (T (N R 0 Z)),ZG #[Y a0 n0 c0,Y a1 n1 c1]] w λe w'=>DCh w R (p+2500) a0 n0 f0 a1 n1 f1 e w':=by
 obtain⟨E,hE⟩:∃E:Option Addr->Nat->(Nat->Source)->Option Addr->Nat->(Nat->Target)->Prop,E=λd0 m0 g0 d1 m1 g1=>d0=a0/\m0=n0/\g0=f0/\d1=a1/\m1=n1/\g1=f1:=⟨_,rfl⟩
 have HE:Hid (∀d0 m0 g0 d1 m1 g1,E d0 m0 g0 d1 m1 g1->d0=a0/\m0=n0/\g0=f0/\d1=a1/\m1=n1/\g1=f1):=λ_ _ _ _ _ _ h=>by rw[hE] at h;exact h
 have f:Hid (∀(V:M) (xs:List Nat) (q m0 k0 m1 k1:Nat) (d0:Option Addr) (g0:Nat->Source) (d1:Option Addr) (g1:Nat->Target),Ch E xs w R V q m0 k0 m1 k1 d0 g0 d1 g1->SlSource V d0 m0 g0/\SlTarget V d1 m1 g1/\m0<=300/\m1<=300/\∀i,i<m1->(g1 i).m<=300/\∀j,j<(g1 i).m->((g1 i).D j).s.size<=5000):=λV xs q m0 k0 m1 k1 d0 g0 d1 g1 h=>by
  rcases h.sp with g|g;{have h1:=g.at.1;exact⟨(h1.sl V (Agr.refl _ _)).1,(h1.sl V (Agr.refl _ _)).2,h1.hn0,h1.hn1,h1.az⟩};{obtain⟨rfl,rfl,rfl,rfl,rfl,rfl⟩:=HE.out _ _ _ _ _ _ g;have h1:=hH.1.sl V (h.o.agr hb);exact⟨h1.1,h1.2,hH.1.hn0,hH.1.hn1,hH.1.az⟩}
 have sm:=hR.lt;have C0:Hid (Ch E [R,z (B w),z (B w)+1] w R ((w.alloc (J #[Y a0 n0 c0,Y a1 n1 c1] 27)).alloc (J #[Y Z 0 0,Y Z 0 0] 27)) p n0 c0 n1 c1 a0 f0 a1 f1):=by have ZS:=((BS w).alloc ly (J #[Y a0 n0 c0,Y a1 n1 c1] 27)).alloc (by simp) (J #[Y Z 0 0,Y Z 0 0] 27);exact⟨hR.aa ZS ly,Only.q ZS,(((cM (z (B w)+1) (w.alloc (J #[Y a0 n0 c0,Y a1 n1 c1] 27))).alloc (by simp) _).block (z (B w)) (AD _)).trans (gM w _),heap_alloc2_new w _ _,.inr (by rw[hE];exact⟨rfl,rfl,rfl,rfl,rfl,rfl⟩),sm⟩
 clear hE hR hH;go_enter func67,ntmps67;go_wp2_with fail;generalize World.alloc (World.alloc w _) _=W0 at C0 ⊢;refine(aw R p 3 _ C0.rd (by omega) (by omega) (by omega)).mono ?_;rintro e w1 ⟨ZR,rfl,mv,qr,fd,ld⟩;have C1:=ae (C0.ac ld fd (by simp));clear fd ld C0;have Bk:IntKind.i64.wrap (1+ZR)=1+ZR:=by rw[AI];omega
 go_wp2_with fail;go_loopw [5] (λv wr=>∃(i:Int) (q m0 k0 m1 k1:Nat) (d0:Option Addr) (g0:Nat->Source) (d1:Option Addr) (g1:Nat->Target),v=Q I i/\0<=i/\i<=3/\(q:Int)+610*i<=(p:Int)+1831/\Hid (Ch E [R,z (B w),z (B w)+1] w R wr q m0 k0 m1 k1 d0 g0 d1 g1)) (λv _=>(intOf v).toNat);case atStart=>exact⟨_,_,_,_,_,_,_,_,_,_,rfl,by omega,by omega,by omega,C1⟩
 case round =>
  clear C1 Bk mv qr;obtain⟨i,q,m0,k0,m1,k1,d0,g0,d1,g1,rfl,hi0,hi3,hq,ZK⟩:=hrel;obtain⟨x0,x1,x2,x3,x4⟩:=ZK.cells;by_cases hi:0<i
  ·have hwi:IntKind.i64.wrap (i - 1)=i - 1:=by rw[AI];omega
   have th:=ar ZK.rx;have C3:Hid (Ch E [z (B wr),R,z (B w),z (B w)+1] w R (wr.alloc (J #[Y d0 m0 k0,Y d1 m1 k1] 27)) q m0 k0 m1 k1 d0 g0 d1 g1):=(ZK.more ly).aa (br.alloc ly _) (by simp);have N3:Hid ((wr.alloc (J #[Y d0 m0 k0,Y d1 m1 k1] 27)).heap[z (B wr)]?=T (J #[Y d0 m0 k0,Y d1 m1 k1] 27 (0,0))):=gM wr _;go_wp2_with fail;generalize World.alloc wr _=W3 at C3 N3 ⊢;refine(aw R _ 6 _ C3.rd (by omega) (by omega) (by omega)).mono ?_;rintro e w4 ⟨ZR,rfl,mv,qr,n8,aq⟩;have C4:=ae (C3.ac aq n8 (by simp));have N4:=ae ((aq.block _ (ar N3) (by omega)).trans N3);clear n8 aq C3 N3;have ex:z (B w)+2<=z (B wr):=by omega
   clear x0 x1 x2 x3 x4 th ZK;go_upto_block 2 with fail;generalize (z (B wr))=nb at C4 N4 ex ⊢;have ZQ:Hid (∀(V:M) (q:Nat),Ch E [nb,R,z (B w),z (B w)+1] w R V q m0 k0 m1 k1 d0 g0 d1 g1->A V (N (z (B w)) 0 Z)=T (Y d0 m0 k0)/\A V (N (z (B w)) 1 Z)=T (Y d1 m1 k1)):=λV q h=>⟨h.cells.1,h.cells.2.1⟩
   obtain⟨-,-,hm0,hm1,bt⟩:=f.out _ _ _ _ _ _ _ _ _ _ _ C4;have ZI:=f;clear f;have FT:Hid (∀i,i<m1->aY (g1 i)):=λi hi=>by have:=(bt i hi).1;unfold aY;omega
   have FL:Hid (∀i,i<m1->∀j,j<(g1 i).m->((g1 i).D j).s.size<=maxLen):=λi hi j hj=>by have:=(bt i hi).2 j hj;unfold maxLen;omega
   clear bt;go_cut [7] (λs7 wx=>∃(cc:Int) (q' ZO C ZP D:Nat) (H:Option Addr) (i0:Nat->Source) (G:Option Addr) (i1:Nat->Target),s7=Q I cc/\q'<=q+605/\Hid (Ch E [nb,R,z (B w),z (B w)+1] w R wx q' m0 k0 m1 k1 d0 g0 d1 g1)/\Hid (wx.heap[nb]?=T (J #[Y H ZO C,Y G ZP D] 27 (0,0)))/\Hid (QSp (z (B w)) [nb,R,z (B w),z (B w)+1] wx H ZO i0 G ZP i1));case first =>
    rcases(show ZR=0∨ZR=1∨(1<ZR) by omega) with rfl|rfl|hz2;case' inr.inr =>
     have hz3:(ZR == 0)=ZA:=by simp;omega
     have hz4:(ZR == 1)=ZA:=by simp;omega
    all_goals
     go_wp2_with fail;have l:=ae (C4.aa br.drew (by simp));have r:Hid (w4.drew.heap[nb]?=T (J #[Y d0 m0 k0,Y d1 m1 k1] 27 (0,0))):=N4.out;refine wp_region_held_drew (S:=λV=>A V (N (z (B w)) 0 Z)=T (Y d0 m0 k0)/\A V (N (z (B w)) 1 Z)=T (Y d1 m1 k1)) (by kernel_rfl) (ZQ _ _ l) λhS=>?_;have f:=ae hS;clear hS C4 N4;generalize w4.drew=v4 at l r f ⊢
     iterate 2
      refine aR 0 (v:=?_) rfl rfl (by kernel_rfl) (λ_ _ _ h=>h) rfl ?_ f ?_;rotate_left
      ·(rintro ZN ⟨s0,s1⟩;go_simp)
       (try with_reducible rfl)
      (try simp only[Act.put,nzL])
    focus
     refine aR 5 (v:=?_) rfl rfl (by kernel_rfl) (λ_ _ _ h=>h) rfl ?_ f ?_;rotate_left
     ·(rintro ZN ⟨s0,s1⟩;go_simp)
      (try with_reducible rfl)
     (try simp only[Act.put,nzL])
     refine aR 8 (v:=?_) rfl rfl (by kernel_rfl) (λ_ _ _ h=>h) rfl ?_ f ?_;rotate_left
     ·(rintro ZN ⟨s0,s1⟩;go_simp)
      (try with_reducible rfl)
     (try simp only[Act.put,nzL])
     refine aI (i:=2) rfl (by kernel_rfl) λK m=>?_;go_simp;go_at_call 40;refine(aw R _ 6 _ l.rd (by omega) (by omega) (by omega)).mono ?_;rintro e v5 ⟨y,rfl,X,ro,hR,n⟩;obtain⟨k,rfl⟩:=AT X;replace r:=ae ((n.block _ (ar r) (by omega)).trans r);replace l:=ae (l.ac n hR (by simp));clear hR n f;have f:=ae (ZQ _ _ l);refine m _ _ f ?_;clear m K
     (try simp only[Act.put,nzL])
     refine aR 3 (v:=U ((⟨#[97,98,99,100,101,102]⟩:ByteArray).extract k 6)) rfl rfl (by kernel_rfl) (λ_ _ _ h=>h) rfl ?_ f ?_
     ·intro ZN u
      go_simp;intro h;omega
     (try simp only[Act.put,nzL])
     obtain⟨s,hs⟩:∃s:ByteArray,s=(⟨#[97,98,99,100,101,102]⟩:ByteArray).extract k 6:=⟨_,rfl⟩
     have At:1<=s.size:=by rw[hs,ByteArray.size_extract];have e:(⟨#[97,98,99,100,101,102]⟩:ByteArray).size=6:=rfl;rw[e];omega
     rw[<-hs];clear hs X ro;refine aR 4 (v:=U (s.extract 0 1)) rfl rfl (by kernel_rfl) (λ_ _ _ h=>h) rfl ?_ f ?_
     ·intro ZN u
      go_simp;intro h;omega
     (try simp only[Act.put,nzL])
     generalize s.extract 0 1=kn;clear At;refine aI (i:=6) rfl (by kernel_rfl) λK m=>?_;go_simp;go_at_call 90;refine(fO R _ _ l.rd (by omega)).mono ?_;rintro e v7 ⟨t,rfl,ZT,q7,hq7,hR,n⟩;replace r:=ae ((n.block _ (ar r) (by omega)).trans r);replace l:=ae (l.ac n hR (by simp));clear hR n f;have f:=ae (ZQ _ _ l);refine m _ _ f ?_;clear m K
     (try simp only[Act.put,nzL])
     refine aR 7 (v:=U (t++⟨#[32]⟩)) rfl rfl (by kernel_rfl) (λ_ _ _ h=>h) rfl ?_ f ?_
     ·intro ZN u
      go_simp;omega
     (try simp only[Act.put,nzL])
     obtain⟨tt,ZJ⟩:∃tt:ByteArray,tt=t++⟨#[32]⟩:=⟨_,rfl⟩
     have DE:tt.size<=9:=by have e:(⟨#[32]⟩:ByteArray).size=1:=rfl;rw[ZJ,KO,e];omega
     rw[<-ZJ];clear ZJ ZT;refine aI (i:=9) rfl (by kernel_rfl) λK m=>?_;go_simp;go_at_call 87;refine(dA R _ _ l.rd (by omega)).mono ?_;rintro e v8 ⟨t2,rfl,ur,hR,n⟩;replace r:=ae ((n.block _ (ar r) (by omega)).trans r);replace l:=ae (l.ac n hR (by simp));clear hR n f;have f:=ae (ZQ _ _ l);refine m _ _ f ?_;clear m K
     (try simp only[Act.put,nzL])
     refine aR 10 (v:=U (tt++t2)) rfl rfl (by kernel_rfl) (λ_ _ _ h=>h) rfl ?_ f ?_
     ·intro ZN u
      go_simp;omega
     (try simp only[Act.put,nzL])
     generalize tt++t2=tx;clear DE ur;refine aI (i:=11) rfl (by kernel_rfl) λK m=>?_;go_simp;go_at_call 33;refine(sC d0 m0 k0 g0 d1 m1 k1 g1 kn tx _ (by omega) (by omega) (ZI _ _ _ _ _ _ _ _ _ _ _ l).1 (ZI _ _ _ _ _ _ _ _ _ _ _ l).2.1 FT FL).mono ?_;rintro e W ⟨v0,v1,RT,rfl,ZM,ZT,ZL,P⟩;obtain⟨H,C,rfl⟩:=aL ZM;obtain⟨G,D,rfl⟩:=aL ZT.x;have SM:=pJ ZM ZT ZL Ce;generalize (jU m0 g0 m1 g1 kn tx).length=ZO at SM ⊢;generalize RT.length=ZP at SM ⊢;generalize bY (jU m0 g0 m1 g1 kn tx)=i0 at SM;generalize bD (mZ m0 g0 m1 g1 kn tx)=i1 at SM;clear ZM ZT ZL
    rotate_left;focus
     refine aI (i:=2) rfl (by kernel_rfl) λK m=>?_;go_simp;go_at_call 87;refine(dA R _ _ l.rd (by omega)).mono ?_;rintro e v5 ⟨t,rfl,ZT,hR,n⟩;clear ZT;replace r:=ae ((n.block _ (ar r) (by omega)).trans r);replace l:=ae (l.ac n hR (by simp));clear hR n f;have f:=ae (ZQ _ _ l);refine m _ _ f ?_;clear m K
     (try simp only[Act.put,nzL])
     refine aI (i:=3) rfl (by kernel_rfl) λK m=>?_;go_simp;go_at_call 35;refine(sD d0 m0 k0 g0 d1 m1 k1 g1 t _ (by omega) (by omega) (ZI _ _ _ _ _ _ _ _ _ _ _ l).1 (ZI _ _ _ _ _ _ _ _ _ _ _ l).2.1 FT FL).mono ?_;rintro e W ⟨v0,v1,RT,rfl,ZM,ZT,ZL,P⟩;obtain⟨H,C,rfl⟩:=aL ZM;obtain⟨G,D,rfl⟩:=aL ZT.x;have SM:=pJ ZM ZT ZL Cg;generalize (iu m0 g0 m1 g1 t).length=ZO at SM ⊢;generalize RT.length=ZP at SM ⊢;generalize bY (iu m0 g0 m1 g1 t)=i0 at SM;generalize bD (jS m0 g0 m1 g1 t)=i1 at SM;clear ZM ZT ZL
    rotate_left;focus
     refine aR 5 (v:=?_) rfl rfl (by kernel_rfl) (λ_ _ _ h=>h) rfl ?_ f ?_;rotate_left
     ·(rintro ZN ⟨s0,s1⟩;go_simp)
      (try with_reducible rfl)
     (try simp only[Act.put,nzL])
     refine aI (i:=2) rfl (by kernel_rfl) λK m=>?_;go_simp;go_at_call 40;refine(aw R _ 8 _ l.rd (by omega) (by omega) (by omega)).mono ?_;rintro e v5 ⟨y,rfl,X,ro,hR,n⟩;obtain⟨k,rfl⟩:=AT X;replace r:=ae ((n.block _ (ar r) (by omega)).trans r);replace l:=ae (l.ac n hR (by simp));clear hR n f;have f:=ae (ZQ _ _ l);refine m _ _ f ?_;clear m K
     (try simp only[Act.put,nzL])
     refine aI (i:=3) rfl (by kernel_rfl) λK m=>?_;go_simp;go_at_call 104;refine(jm k (by omega) _).mono ?_;rintro e v7 ⟨rfl,P⟩;have hR:=l.rd.aa P ly;have n:=Only.q (b:=R) P;clear P;replace r:=ae ((n.block _ (ar r) (by omega)).trans r);replace l:=ae (l.ac n hR (by simp));clear hR n f;have f:=ae (ZQ _ _ l);refine m _ _ f ?_;clear m K
     (try simp only[Act.put,nzL])
     refine aR 4 (v:=?_) rfl rfl (by kernel_rfl) (λ_ _ _ h=>h) rfl ?_ f ?_;rotate_left
     ·(rintro ZN ⟨s0,s1⟩;go_simp)
      (try with_reducible rfl)
     (try simp only[Act.put,nzL])
     refine aI (i:=6) rfl (by kernel_rfl) λK m=>?_;go_simp;go_at_call 124;have hs7:=l.o.size;refine(ik R _ _ l.rd (by omega)).mono ?_;rintro e v8 ⟨L,g,c,rfl,hI,hL1,hL2,n9,q8,hq8,hR,n⟩;have SI:=ae (show SlIns v8 (T (N g 0 Z)) L.length (dm L) from .inr ⟨g,0,rfl,hI.lt.2,hI.at⟩);have FI:Hid (∀i,i<L.length->(dm L i).s.size<=maxLen):=λi hi=>by have:=kf n9 i hi;unfold maxLen;omega
     clear hI n9;replace r:=ae ((n.block _ (ar r) (by omega)).trans r);replace l:=ae (l.ac n hR (by simp));clear hR n f;have f:=ae (ZQ _ _ l);refine m _ _ f ?_;clear m K
     (try simp only[Act.put,nzL])
     refine aI (i:=7) rfl (by kernel_rfl) λK m=>?_;go_simp;go_at_call 34;refine(sH d0 m0 k0 g0 d1 m1 k1 g1 _ (T (N g 0 Z)) L.length c (dm L) _ (by omega) (by omega) (by omega) (ZI _ _ _ _ _ _ _ _ _ _ _ l).1 (ZI _ _ _ _ _ _ _ _ _ _ _ l).2.1 SI FT FL FI).mono ?_;rintro e W ⟨v0,v1,RT,rfl,ZM,ZT,ZL,P⟩;clear SI FI;obtain⟨H,C,rfl⟩:=aL ZM;obtain⟨G,D,rfl⟩:=aL ZT.x;have SM:=pJ ZM ZT ZL Cf;generalize (⟨#[116]⟩:ByteArray)++⟨#[dig k]⟩=t at SM ⊢;generalize (iv m0 g0 m1 g1 t L.length (dm L)).length=ZO at SM ⊢;generalize RT.length=ZP at SM ⊢;generalize bY (iv m0 g0 m1 g1 t L.length (dm L))=i0 at SM;generalize bD (jZ m0 g0 m1 g1 t L.length (dm L))=i1 at SM;clear ZM ZT ZL
    all_goals
     have hz6:=P.size;have hw5:=l.o.size;have DQ:=ar r.out;have C6:=ae (l.aa P (by simp));have N6:=ae ((P.block nb DQ).trans r)
     have Q6:=ae (QSp.new (lo:=z (B w)) (xs:=[nb,R,z (B w),z (B w)+1]) SM (by omega) (λx hx=>by
      simp only[BO,nj,RH] at hx
      omega))
     clear P l r f SM;have f:=ae (ZQ _ _ C6);refine m _ _ f ?_;clear m K
     (try simp only[Act.put,nzL])
     iterate 3
      refine aR 4 (v:=?_) rfl rfl (by kernel_rfl) (λ_ _ _ h=>h) rfl ?_ f ?_;rotate_left
      ·(rintro ZN ⟨s0,s1⟩;go_simp)
       (try with_reducible rfl)
      (try simp only[Act.put,nzL])
     have O:=N6.out;have y0:W.frozen? (N nb 0 Z)=ZA:=by simp[World.frozen?,O]
     have y1:W.frozen? (N nb 1 Z)=ZA:=by simp[World.frozen?,O]
     have y2:=ar O;have y3:A W (N nb 0 Z)=T (Y d0 m0 k0):=by simp[World.cell?,O]
     have y4:A W (N nb 1 Z)=T (Y d1 m1 k1):=by simp[World.cell?,O]
     clear O;have C7:=ae (C6.two (x:=nb) (by simp) ex (Y H ZO C) (Y G ZP D));have N7:Hid (((W.setCell (N nb 0 Z) (Y H ZO C)).setCell (N nb 1 Z) (Y G ZP D)).heap[nb]?=T (J #[Y H ZO C,Y G ZP D] 27 (0,0))):=by have h1:=bJ (j:=1) (bJ (j:=0) N6 (Y H ZO C)) (Y G ZP D);exact h1
     have Q7:=ae (Q6.fr ((Fr.set (x:=nb) (j:=0) (by simp) (Y H ZO C)).trans (Fr.set (x:=nb) (j:=1) (by simp) (Y G ZP D))));refine oP 4 rfl rfl (by kernel_rfl) λK m=>?_;go_simp;clear f;have f:=ae (ZQ _ _ C7);refine m _ _ f ?_;clear m K
     (try simp only[Act.put,nzL])
     refine oP 4 rfl rfl (by kernel_rfl) λK m=>?_;go_simp;refine m _ _ f ?_;clear m K
     (try simp only[Act.put,nzL])
     refine wpAnyH_done (by kernel_rfl) ?_ _;go_wp2;go_meet;exact⟨_,_,_,_,_,_,_,_,_,_,rfl,by omega,C7,N7,Q7⟩
   case rest =>
   clear C4 N4 ZQ FT FL;obtain⟨cc,q',ZO,C,ZP,D,H,i0,G,i1,rfl,hq',C8,N8,Q8⟩:=hcut;generalize wc=W8 at C8 N8 Q8 ⊢;obtain⟨x0,x1,x2,x3,x4⟩:=C8.cells;have O:=N8.out;have y3:A W8 (N nb 0 Z)=T (Y H ZO C):=by simp[World.cell?,O]
   have y4:A W8 (N nb 1 Z)=T (Y G ZP D):=by simp[World.cell?,O]
   clear O;by_cases ph:cc=0;{subst ph;have C9:=ae ((C8.put (l0:=C) (l1:=D) (by simp) (.inl Q8)).less);go_wp2;exact⟨⟨_,_,_,_,_,_,_,_,_,_,rfl,by omega,by omega,by omega,C9⟩,by simp only[intOf];omega⟩}
   ·have hcb:(cc == 0)=ZA:=by simpa using ph
    go_wp2;exact⟨⟨_,_,_,_,_,_,_,_,_,_,rfl,by omega,by omega,by omega,C8.less⟩,by simp only[intOf];omega⟩
  ·have hi2:¬ 0<i:=hi;have kr:=ZK.rx;have r0:A wr (N (z (B w)+1) 0 Z)=T (Y Z 0 0):=by simp[World.cell?,kr]
   have r1:A wr (N (z (B w)+1) 1 Z)=T (Y Z 0 0):=by simp[World.cell?,kr]
   have r2:wr.frozen? (N (z (B w)+1) 0 Z)=ZA:=by simp[World.frozen?,kr]
   have r3:wr.frozen? (N (z (B w)+1) 1 Z)=ZA:=by simp[World.frozen?,kr]
   have C:=ar kr;clear kr;have BE:=ae (((cM (z (B w)+1) wr).setCell (p:=(N (z (B w)+1) 0 Z)) ly (Y d0 m0 k0)).setCell (p:=(N (z (B w)+1) 1 Z)) ly (Y d1 m1 k1));have CD:Hid (HSg (z (B w)) ((wr.setCell (N (z (B w)+1) 0 Z) (Y d0 m0 k0)).setCell (N (z (B w)+1) 1 Z) (Y d1 m1 k1)) d0 m0 g0 d1 m1 g1∨(d0=a0/\m0=n0/\g0=f0/\d1=a1/\m1=n1/\g1=f1)):=ZK.sp.imp (λg=>(g.fr ((Fr.set (x:=z (B w)+1) (j:=0) (by simp) (Y d0 m0 k0)).trans (Fr.set (x:=z (B w)+1) (j:=1) (by simp) (Y d1 m1 k1)))).at) (HE _ _ _ _ _ _);have RE:=ae (ZK.rd.low BE (by omega));have OE:=ae (ZK.o.then (BE.mono (JH _)));go_wp2;exact bp (v:=ZG #[Y d0 m0 k0,Y d1 m1 k1]) (by simp[results,results67,go_sem,r0,r1]) rfl ⟨_,_,_,_,_,_,_,_,rfl,CD,_,by omega,RE,OE⟩
