import Derived.Test.YtpmnbjkjpnclaaaGreatDoorMQ
import Derived.Test.YtpmnbjkjpnclaaaGreatDoorLI
set_option maxRecDepth 100000
set_option maxHeartbeats 4000000
set_option linter.unusedSimpArgs false
open Go renaming Addr.mk->N,Value.slice->Y,Value.string->U,Value.int->Q,Value.bool->ZC,Value.agg->ZG,Obj.cells->J,IntKind.i64->I,World->M,Ending.returned->ZD,Proofs.Tryz.prog->Pg
open Option renaming none->Z,some->T
open Bool renaming false->ZA,true->ZF
namespace Go.Proofs.YtpmnbjkjpnclaaaGreatDoor.Vp
open Tryz RowKit Go.Sort
theorem lT:∀a b:List UInt8,decide (Lib.compareBytes a b<0)=Op.bytesLess a b
 |[],[]=>by simp[Lib.compareBytes,Op.bytesLess]
 |[],_::_=>by simp[Lib.compareBytes,Op.bytesLess]
 |_::_,[]=>by simp[Lib.compareBytes,Op.bytesLess]
 |a::x,b::y=>by
  have g:=lT x y;rw[Lib.compareBytes,Op.bytesLess,<-g];by_cases h1:a<b
  ·simp[h1]
  ·rw[eT h1]
   by_cases h2:b<a
   ·have f:¬ a=b:=λe=>by subst e;exact h1 h2
    simp[h1,h2,f]
   ·have f:a=b:=UInt8.le_antisymm (QL.1 h2) (QL.1 h1)
    subst f;simp[h1]
theorem jQ:∀a b:List UInt8,decide (Lib.compareBytes a b=0)=(a == b)
 |[],[]=>by simp[Lib.compareBytes]
 |[],_::_=>by simp[Lib.compareBytes]
 |_::_,[]=>by simp[Lib.compareBytes]
 |a::x,b::y=>by
  have g:=jQ x y;rw[Lib.compareBytes];by_cases h1:a<b
  ·have f:¬ a=b:=λe=>by subst e;exact(UInt8.lt_irrefl _ h1)
   simp[h1,f]
  ·rw[eT h1]
   by_cases h2:b<a
   ·have f:¬ a=b:=λe=>by subst e;exact h1 h2
    simp[h2,f]
   ·have f:a=b:=UInt8.le_antisymm (QL.1 h2) (QL.1 h1)
    subst f;rw[eT h2,g];simp
theorem rV (a b:ByteArray):∃z:Int,Lib.compareBytes a.data.toList b.data.toList=z/\decide (z<0)=aG a b/\decide (z=0)=(a.toList == b.toList):=by
 refine⟨_,rfl,?_,?_⟩;{rw[lT];simp only[aG,JO]};{rw[jQ];simp only[JO]}
theorem iZ (nm tx:ByteArray)(t:ByteArray)(w:M):Calls Pg 229 #[ZG #[U nm,U tx],U t] w λe i=>∃z:Int,e=ZD (Q I z)/\decide (z<0)=aG nm t/\decide (z=0)=(nm.toList == t.toList)/\Below w.heap.size w i:=by have b:=ae ((BS w).alloc ly (J #[U nm,U tx] 142));obtain⟨z,hz,h1,h2⟩:=rV nm t;have h:=ae hz;have g:=ae h1;have f:=ae h2;clear hz h1 h2;go_enter func229,ntmps229;go_wp2_with fail;refine(Tryz.strings_Compare nm t _).mono ?_;rintro e w1 ⟨rfl,rfl⟩;rw[h.out];go_wp2;go_ret;exact⟨z,rfl,g,f,b⟩
theorem mR (b off n cap:Nat)(f:Nat->Source)(t:ByteArray)(w:M)(hn:(n:Int)<=1048576)(K:RowSource w b off n f)(P:aP (nm0 f) n=ZF):Calls Pg 228 #[Y (T (N b off Z)) n cap,U t,.func (.func 229) #[] #[]] w λe ZK=>∃i:Nat,e=ZD (.tuple #[Q I (i:Int),ZC (aF (nm0 f) n t)])/\i<=n/\(∀m,m<i->aG (nm0 f m) t=ZF)/\(∀m,i<=m->m<n->aG (nm0 f m) t=ZA)/\Below w.heap.size w ZK:=by
 have C:=ae K;have H:=ae P;clear K P;obtain⟨ZP,A⟩:∃ZP,ZP=aF (nm0 f) n t:=⟨_,rfl⟩
 rw[<-A];have ZQ:=ae A;clear A;go_enter func228,ntmps228;go_wp2;go_loopw [9,10] (λi j wr=>∃p q:Nat,p<=q/\q<=n/\i=Q I p/\j=Q I q/\Hid (∀m,m<p->aG (nm0 f m) t=ZF)/\Hid (∀m,q<=m->m<n->aG (nm0 f m) t=ZA)/\Hid (Below w.heap.size w wr)) (λi j _=>(intOf j).toNat - (intOf i).toNat);case atStart=>exact⟨0,n,by omega,by omega,rfl,rfl,λm ZO=>absurd ZO (JI _),λm h1 h2=>by omega,cM _ _⟩
 case round =>
  obtain⟨p,q,hpq,u,rfl,rfl,s,y,r⟩:=hrel;by_cases hlt:p<q
  ·obtain⟨m,ZO⟩:∃m:Nat,m=(p+q) / 2:=⟨_,rfl⟩
   have L:p<=m:=by omega
   have hm2:m<q:=by omega
   obtain⟨ZL,S⟩:=(C.2 m (by omega)).aa r C.1;have hsh:((p:Int)+q) / 2=m:=by omega
   clear ZO;go_wp2_with fail;go_at_call 229;refine(iZ (f m).e (f m).y t _).mono ?_;rintro e R ⟨z,rfl,E,_,g⟩;have ZM:=ae E;have l:=ae (r.trans (g.mono r.size));clear E g;by_cases hz:z<0
   ·have B:Hid (aG (nm0 f m) t=ZF):=by show aG (f m).e t=ZF;rw[<-ZM.out];exact LD hz
    go_wp2;refine⟨⟨m+1,q,by omega,u,by go_num,rfl,λx ZN=>?_,y,l⟩,by simp[intOf];omega⟩;by_cases e:x=m;{subst e;exact B};{exact dR (fN H (show x<m by omega) (by omega)) B}
   ·have B:Hid (aG (nm0 f m) t=ZA):=by show aG (f m).e t=ZA;rw[<-ZM.out];exact MW hz
    go_wp2;refine⟨⟨p,m,L,by omega,rfl,rfl,s,λx h1 h2=>?_,l⟩,by simp[intOf];omega⟩;by_cases e:x=m;{subst e;exact B}
    ·cases ZN:aG (nm0 f x) t with
     |false=>rfl
     |true =>have:=dR (fN H (show m<x by omega) h2) ZN;rw[B.out] at this;cases this
  ·have e:p=q:=by omega
   subst e;have O:=ae (ZQ.trans (lQ H u s y));by_cases o:p<n
   ·have hlt3:(p:Int)<n:=by omega
    obtain⟨ZL,S⟩:=(C.2 p o).aa r C.1;go_wp2_with fail;go_at_call 229;refine(iZ (f p).e (f p).y t _).mono ?_;rintro e R ⟨z,rfl,_,D,g⟩;have l:=ae (r.trans (g.mono r.size));have G:Hid (ZP=decide (z=0)):=by show ZP=_;rw[O.out,D];simp[o]
    clear D g;by_cases hz:z=0
    ·have h:ZP=ZF:=by rw[G.out];exact LD hz
     subst h;subst hz;go_wp2;exact bp (v:=.tuple #[Q I p,ZC ZF]) (by simp[results,SE,go_sem]) rfl ⟨p,rfl,u,s,y,l⟩
    ·have h:ZP=ZA:=by rw[G.out];exact MW hz
     subst h;have hz':(z == 0)=ZA:=by simpa using hz
     go_wp2;exact bp (v:=.tuple #[Q I p,ZC ZA]) (by simp[results,SE,go_sem]) rfl ⟨p,rfl,u,s,y,l⟩
   ·have h:ZP=ZA:=by rw[O.out];simp[o]
    subst h;have hge:¬ (p:Int)<n:=by omega
    go_wp2;exact bp (v:=.tuple #[Q I p,ZC ZA]) (by simp[results,SE,go_sem]) rfl ⟨p,rfl,u,s,y,r⟩
theorem mS (a:Option Addr)(cap:Nat)(g:Nat->ByteArray)(t:ByteArray)(w:M):Calls Pg 228 #[Y a 0 cap,U t,.func (.func 229) #[] #[]] w λe b=>e=ZD (.tuple #[Q I 0,ZC (aF g 0 t)])/\b=w:=by
 rw[fy];go_enter func228,ntmps228;go_wp2;go_loop [9,10] (λi j=>i=Q I 0/\j=Q I 0) (λ_ _=>0);case atStart=>exact⟨rfl,rfl⟩
 case round =>obtain⟨rfl,rfl⟩:=hrel;go_wp2;exact bp (v:=.tuple #[Q I 0,ZC ZA]) (by simp[results,SE,go_sem]) rfl ⟨rfl,rfl⟩
theorem mT (a:Option Addr)(n cap:Nat)(f:Nat->Source)(t:ByteArray)(w:M)(hn:(n:Int)<=1048576)(g:SlSource w a n f)(p:aP (nm0 f) n=ZF):Calls Pg 228 #[Y a n cap,U t,.func (.func 229) #[] #[]] w λe j=>∃i:Nat,e=ZD (.tuple #[Q I (i:Int),ZC (aF (nm0 f) n t)])/\i<=n/\(∀m,m<i->aG (nm0 f m) t=ZF)/\(∀m,i<=m->m<n->aG (nm0 f m) t=ZA)/\Below w.heap.size w j:=by
 rcases g with rfl|⟨b,off,rfl,g⟩
 {exact(mS a cap _ t w).mono λe j ⟨o,l⟩=>⟨0,o,by omega,λm h=>absurd h (JI _),λm _ h=>absurd h (JI _),by rw[l];exact cM _ _⟩};{exact mR b off n cap f t w hn g p}
theorem eX (a0:Option Addr)(n0 c0:Nat)(a1:Option Addr)(n1 c1:Nat)(f:Nat->Source)(t:ByteArray)(w:M)(hn:(n0:Int)<=1048576)(h:SlSource w a0 n0 f)(j:aP (nm0 f) n0=ZF):Calls Pg 177 #[ZG #[Y a0 n0 c0,Y a1 n1 c1],U t] w λe u=>∃i:Nat,e=ZD (.tuple #[Q I (i:Int),ZC (aF (nm0 f) n0 t)])/\i<=n0/\(∀m,m<i->aG (nm0 f m) t=ZF)/\(∀m,i<=m->m<n0->aG (nm0 f m) t=ZA)/\Below w.heap.size w u:=by
 have g:=ae ((BS w).alloc ly (J #[Y a0 n0 c0,Y a1 n1 c1] 27));have o:=ae (h.aa g ly);have p:=ae j;clear h j;obtain⟨ZP,b⟩:∃ZP,ZP=aF (nm0 f) n0 t:=⟨_,rfl⟩
 rw[<-b];have r:=ae b;clear b;go_enter func177,ntmps177;go_wp2_with fail;refine(mT a0 n0 c0 f t _ hn o p).mono ?_;rintro e w1 ⟨i,rfl,hi,h1,h2,l⟩;rw[<-r.out];have q:=ae h1;have n:=ae h2;have s:=ae (g.trans (l.mono (by simp)));clear h1 h2 l;go_wp2;exact bp (v:=.tuple #[Q I i,ZC ZP]) (by simp[results,results177,go_sem]) rfl ⟨i,rfl,hi,q,n,s⟩
theorem i8 (nm:ByteArray)(a:Option Addr)(k d:Nat)(t:ByteArray)(w:M):Calls Pg 232 #[ZG #[U nm,Y a k d],U t] w λe i=>∃z:Int,e=ZD (Q I z)/\decide (z<0)=aG nm t/\decide (z=0)=(nm.toList == t.toList)/\Below w.heap.size w i:=by have b:=ae ((BS w).alloc ly (J #[U nm,Y a k d] 146));obtain⟨z,hz,h1,h2⟩:=rV nm t;have h:=ae hz;have g:=ae h1;have f:=ae h2;clear hz h1 h2;go_enter func232,ntmps232;go_wp2_with fail;refine(Tryz.strings_Compare nm t _).mono ?_;rintro e w1 ⟨rfl,rfl⟩;rw[h.out];go_wp2;go_ret;exact⟨z,rfl,g,f,b⟩
theorem mU (b off n cap:Nat)(f:Nat->Target)(t:ByteArray)(w:M)(hn:(n:Int)<=1048576)(ZQ:RowTarget w b off n f)(R:aP (nm1 f) n=ZF):Calls Pg 231 #[Y (T (N b off Z)) n cap,U t,.func (.func 232) #[] #[]] w λe W=>∃i:Nat,e=ZD (.tuple #[Q I (i:Int),ZC (aF (nm1 f) n t)])/\i<=n/\(∀m,m<i->aG (nm1 f m) t=ZF)/\(∀m,i<=m->m<n->aG (nm1 f m) t=ZA)/\Below w.heap.size w W:=by
 have C:=ae ZQ;have K:=ae R;clear ZQ R;obtain⟨ZP,A⟩:∃ZP,ZP=aF (nm1 f) n t:=⟨_,rfl⟩
 rw[<-A];have O:=ae A;clear A;go_enter func231,ntmps231;go_wp2;go_loopw [9,10] (λi j wr=>∃p q:Nat,p<=q/\q<=n/\i=Q I p/\j=Q I q/\Hid (∀m,m<p->aG (nm1 f m) t=ZF)/\Hid (∀m,q<=m->m<n->aG (nm1 f m) t=ZA)/\Hid (Below w.heap.size w wr)) (λi j _=>(intOf j).toNat - (intOf i).toNat);case atStart=>exact⟨0,n,by omega,by omega,rfl,rfl,λm L=>absurd L (JI _),λm h1 h2=>by omega,cM _ _⟩
 case round =>
  obtain⟨p,q,hpq,u,rfl,rfl,s,y,r⟩:=hrel;by_cases hlt:p<q
  ·obtain⟨m,L⟩:∃m:Nat,m=(p+q) / 2:=⟨_,rfl⟩
   have ZM:p<=m:=by omega
   have hm2:m<q:=by omega
   obtain⟨V,H,ZO,ZK,_⟩:=(C.2 m (by omega)).aa r ly C.1;have hsh:((p:Int)+q) / 2=m:=by omega
   clear L;go_wp2_with fail;go_at_call 232;refine(i8 (f m).e H (f m).m ZO t _).mono ?_;rintro e ZL ⟨z,rfl,E,_,g⟩;have P:=ae E;have l:=ae (r.trans (g.mono r.size));clear E g;by_cases hz:z<0
   ·have B:Hid (aG (nm1 f m) t=ZF):=by show aG (f m).e t=ZF;rw[<-P.out];exact LD hz
    go_wp2;refine⟨⟨m+1,q,by omega,u,by go_num,rfl,λx S=>?_,y,l⟩,by simp[intOf];omega⟩;by_cases e:x=m;{subst e;exact B};{exact dR (fN K (show x<m by omega) (by omega)) B}
   ·have B:Hid (aG (nm1 f m) t=ZA):=by show aG (f m).e t=ZA;rw[<-P.out];exact MW hz
    go_wp2;refine⟨⟨p,m,ZM,by omega,rfl,rfl,s,λx h1 h2=>?_,l⟩,by simp[intOf];omega⟩;by_cases e:x=m;{subst e;exact B}
    ·cases S:aG (nm1 f x) t with
     |false=>rfl
     |true =>have:=dR (fN K (show m<x by omega) h2) S;rw[B.out] at this;cases this
  ·have e:p=q:=by omega
   subst e;have ZN:=ae (O.trans (lQ K u s y));by_cases o:p<n
   ·have hlt3:(p:Int)<n:=by omega
    obtain⟨V,H,ZO,ZK,_⟩:=(C.2 p o).aa r ly C.1;go_wp2_with fail;go_at_call 232;refine(i8 (f p).e H (f p).m ZO t _).mono ?_;rintro e ZL ⟨z,rfl,_,D,g⟩;have l:=ae (r.trans (g.mono r.size));have G:Hid (ZP=decide (z=0)):=by show ZP=_;rw[ZN.out,D];simp[o]
    clear D g;by_cases hz:z=0
    ·have h:ZP=ZF:=by rw[G.out];exact LD hz
     subst h;subst hz;go_wp2;exact bp (v:=.tuple #[Q I p,ZC ZF]) (by simp[results,SF,go_sem]) rfl ⟨p,rfl,u,s,y,l⟩
    ·have h:ZP=ZA:=by rw[G.out];exact MW hz
     subst h;have hz':(z == 0)=ZA:=by simpa using hz
     go_wp2;exact bp (v:=.tuple #[Q I p,ZC ZA]) (by simp[results,SF,go_sem]) rfl ⟨p,rfl,u,s,y,l⟩
   ·have h:ZP=ZA:=by rw[ZN.out];simp[o]
    subst h;have hge:¬ (p:Int)<n:=by omega
    go_wp2;exact bp (v:=.tuple #[Q I p,ZC ZA]) (by simp[results,SF,go_sem]) rfl ⟨p,rfl,u,s,y,r⟩
theorem mV (a:Option Addr)(cap:Nat)(g:Nat->ByteArray)(t:ByteArray)(w:M):Calls Pg 231 #[Y a 0 cap,U t,.func (.func 232) #[] #[]] w λe b=>e=ZD (.tuple #[Q I 0,ZC (aF g 0 t)])/\b=w:=by
 rw[fy];go_enter func231,ntmps231;go_wp2;go_loop [9,10] (λi j=>i=Q I 0/\j=Q I 0) (λ_ _=>0);case atStart=>exact⟨rfl,rfl⟩
 case round =>obtain⟨rfl,rfl⟩:=hrel;go_wp2;exact bp (v:=.tuple #[Q I 0,ZC ZA]) (by simp[results,SF,go_sem]) rfl ⟨rfl,rfl⟩
theorem mW (a:Option Addr)(n cap:Nat)(f:Nat->Target)(t:ByteArray)(w:M)(hn:(n:Int)<=1048576)(g:SlTarget w a n f)(p:aP (nm1 f) n=ZF):Calls Pg 231 #[Y a n cap,U t,.func (.func 232) #[] #[]] w λe j=>∃i:Nat,e=ZD (.tuple #[Q I (i:Int),ZC (aF (nm1 f) n t)])/\i<=n/\(∀m,m<i->aG (nm1 f m) t=ZF)/\(∀m,i<=m->m<n->aG (nm1 f m) t=ZA)/\Below w.heap.size w j:=by
 rcases g with rfl|⟨b,off,rfl,g⟩
 {exact(mV a cap _ t w).mono λe j ⟨o,l⟩=>⟨0,o,by omega,λm h=>absurd h (JI _),λm _ h=>absurd h (JI _),by rw[l];exact cM _ _⟩};{exact mU b off n cap f t w hn g p}
theorem gj (a0:Option Addr)(n0 c0:Nat)(a1:Option Addr)(n1 c1:Nat)(f:Nat->Target)(t:ByteArray)(w:M)(hn:(n1:Int)<=1048576)(h:SlTarget w a1 n1 f)(j:aP (nm1 f) n1=ZF):Calls Pg 178 #[ZG #[Y a0 n0 c0,Y a1 n1 c1],U t] w λe u=>∃i:Nat,e=ZD (.tuple #[Q I (i:Int),ZC (aF (nm1 f) n1 t)])/\i<=n1/\(∀m,m<i->aG (nm1 f m) t=ZF)/\(∀m,i<=m->m<n1->aG (nm1 f m) t=ZA)/\Below w.heap.size w u:=by
 have g:=ae ((BS w).alloc ly (J #[Y a0 n0 c0,Y a1 n1 c1] 27));have o:=ae (h.aa g ly);have p:=ae j;clear h j;obtain⟨ZP,b⟩:∃ZP,ZP=aF (nm1 f) n1 t:=⟨_,rfl⟩
 rw[<-b];have r:=ae b;clear b;go_enter func178,ntmps178;go_wp2_with fail;refine(mW a1 n1 c1 f t _ hn o p).mono ?_;rintro e w1 ⟨i,rfl,hi,h1,h2,l⟩;rw[<-r.out];have q:=ae h1;have n:=ae h2;have s:=ae (g.trans (l.mono (by simp)));clear h1 h2 l;go_wp2;exact bp (v:=.tuple #[Q I i,ZC ZP]) (by simp[results,results178,go_sem]) rfl ⟨i,rfl,hi,q,n,s⟩
theorem CY (a0:Option Addr)(n0 c0:Nat)(f0:Nat->Source)(a1:Option Addr)(n1 c1:Nat)(f1:Nat->Target)(t:ByteArray)(w:M)(hn0:(n0:Int)<=1048576)(hn1:(n1:Int)<=1048576)(n:SlSource w a0 n0 f0)(g:SlTarget w a1 n1 f1)(m:aP (nm0 f0) n0=ZF)(h:aP (nm1 f1) n1=ZF):Calls Pg 180 #[ZG #[Y a0 n0 c0,Y a1 n1 c1],U t] w λe B=>e=ZD (ZC (aF (nm0 f0) n0 t || aF (nm1 f1) n1 t))/\Below w.heap.size w B:=by
 have f:=ae ((BS w).alloc ly (J #[Y a0 n0 c0,Y a1 n1 c1] 27));have s:(w.alloc (J #[Y a0 n0 c0,Y a1 n1 c1] 27)).cell? (N w.heap.size 0 Z)=T (Y a0 n0 c0):=by simp
 have x:(w.alloc (J #[Y a0 n0 c0,Y a1 n1 c1] 27)).cell? (N w.heap.size 1 Z)=T (Y a1 n1 c1):=by simp
 have D:=ae (n.aa f ly);have E:=ae (g.aa f ly);have A:=ae m;have K:=ae h;clear n g m h;obtain⟨ZP,o⟩:∃ZP,ZP=aF (nm0 f0) n0 t:=⟨_,rfl⟩
 obtain⟨ZO,q⟩:∃ZO,ZO=aF (nm1 f1) n1 t:=⟨_,rfl⟩
 rw[<-o,<-q];have y:=ae o;have r:=ae q;clear o q;go_enter func180,ntmps180;go_wp2_with fail;refine(eX a0 n0 c0 a1 n1 c1 f0 t _ hn0 D A).mono ?_;rintro e w1 ⟨i,rfl,_,_,_,b⟩;have G:=(b.cell (p:=(N w.heap.size 0 Z)) (by simp)).trans s;have z:=(b.cell (p:=(N w.heap.size 1 Z)) (by simp)).trans x;have H:=ae (E.aa b ly);have u:=ae (f.trans (b.mono (by simp)));clear b s x f;rw[<-y.out];go_wp2_with fail;refine(gj a0 n0 c0 a1 n1 c1 f1 t _ hn1 H K).mono ?_;rintro e w2 ⟨j,rfl,_,_,_,l⟩;have C:=ae (u.trans (l.mono u.size));clear l G z;rw[<-r.out];clear y r;cases ZP
 all_goals
  go_wp2;go_ret;exact⟨rfl,C⟩
