import Derived.Test.YtamacmnikdejeaaGreatDoorMP
import Derived.Test.YtamacmnikdejeaaGreatDoorMY
set_option maxRecDepth 100000
set_option maxHeartbeats 4000000
set_option linter.unusedSimpArgs false
open Go renaming Addr.mk->Q,Value.slice->Y,Value.string->U,Value.int->J,Value.bool->ZC,Value.agg->ZG,Obj.cells->N,IntKind.i64->I,World->E,Ending.returned->ZF,Proofs.Tryz.prog->Pg
open Option renaming none->Z,some->T
open Bool renaming false->ZA,true->ZD
namespace Go.Proofs.YtamacmnikdejeaaGreatDoor.Vp
open Tryz RowKit Go.Sort
theorem nh:∀a b:List UInt8,decide (Lib.compareBytes a b<0)=Op.bytesLess a b
 |[],[]=>by simp[Lib.compareBytes,Op.bytesLess]
 |[],_::_=>by simp[Lib.compareBytes,Op.bytesLess]
 |_::_,[]=>by simp[Lib.compareBytes,Op.bytesLess]
 |a::x,b::y=>by
  have g:=nh x y;rw[Lib.compareBytes,Op.bytesLess,<-g];by_cases h1:a<b
  ·simp[h1]
  ·rw[eT h1]
   by_cases h2:b<a
   ·have f:¬ a=b:=λe=>by subst e;exact h1 h2
    simp[h1,h2,f]
   ·have f:a=b:=UInt8.le_antisymm (SK.1 h2) (SK.1 h1)
    subst f;simp[h1]
theorem kQ:∀a b:List UInt8,decide (Lib.compareBytes a b=0)=(a == b)
 |[],[]=>by simp[Lib.compareBytes]
 |[],_::_=>by simp[Lib.compareBytes]
 |_::_,[]=>by simp[Lib.compareBytes]
 |a::x,b::y=>by
  have g:=kQ x y;rw[Lib.compareBytes];by_cases h1:a<b
  ·have f:¬ a=b:=λe=>by subst e;exact(UInt8.lt_irrefl _ h1)
   simp[h1,f]
  ·rw[eT h1]
   by_cases h2:b<a
   ·have f:¬ a=b:=λe=>by subst e;exact h1 h2
    simp[h2,f]
   ·have f:a=b:=UInt8.le_antisymm (SK.1 h2) (SK.1 h1)
    subst f;rw[eT h2,g];simp
theorem tK (a b:ByteArray):∃z:Int,Lib.compareBytes a.data.toList b.data.toList=z/\decide (z<0)=aJ a b/\decide (z=0)=(a.toList == b.toList):=by
 refine⟨_,rfl,?_,?_⟩;{rw[nh];simp only[aJ,LF]};{rw[kQ];simp only[LF]}
theorem jy (nm tx:ByteArray)(t:ByteArray)(w:E):Calls Pg 155 #[ZG #[U nm,U tx],U t] w λe i=>∃z:Int,e=ZF (J I z)/\decide (z<0)=aJ nm t/\decide (z=0)=(nm.toList == t.toList)/\Below w.heap.size w i:=by have b:=ae ((BS w).alloc ly (N #[U nm,U tx] 121));obtain⟨z,hz,h1,h2⟩:=tK nm t;have g:=ae hz;have h:=ae h1;have f:=ae h2;clear hz h1 h2;go_enter func155,ntmps155;go_wp2_with fail;refine(Tryz.strings_Compare nm t _).mono ?_;rintro e w1 ⟨rfl,rfl⟩;rw[g.out];go_wp2;go_ret;exact⟨z,rfl,h,f,b⟩
theorem ox (b off n cap:Nat)(f:Nat->Source)(t:ByteArray)(w:E)(hn:(n:Int)<=1048576)(K:RowSource w b off n f)(L:aL (nm0 f) n=ZD):Calls Pg 154 #[Y (T (Q b off Z)) n cap,U t,.func (.func 155) #[] #[]] w λe ZK=>∃i:Nat,e=ZF (.tuple #[J I (i:Int),ZC (aG (nm0 f) n t)])/\i<=n/\(∀m,m<i->aJ (nm0 f m) t=ZD)/\(∀m,i<=m->m<n->aJ (nm0 f m) t=ZA)/\Below w.heap.size w ZK:=by
 have C:=ae K;have ZO:=ae L;clear K L;obtain⟨ZP,A⟩:∃ZP,ZP=aG (nm0 f) n t:=⟨_,rfl⟩
 rw[<-A];have ZN:=ae A;clear A;go_enter func154,ntmps154;go_wp2;go_loopw [9,10] (λi j wr=>∃p q:Nat,p<=q/\q<=n/\i=J I p/\j=J I q/\Hid (∀m,m<p->aJ (nm0 f m) t=ZD)/\Hid (∀m,q<=m->m<n->aJ (nm0 f m) t=ZA)/\Hid (Below w.heap.size w wr)) (λi j _=>(intOf j).toNat - (intOf i).toNat);case atStart=>exact⟨0,n,by omega,by omega,rfl,rfl,λm H=>absurd H (KO _),λm h1 h2=>by omega,cM _ _⟩
 case round =>
  obtain⟨p,q,hpq,B,rfl,rfl,y,u,r⟩:=hrel;by_cases hlt:p<q
  ·obtain⟨m,H⟩:∃m:Nat,m=(p+q) / 2:=⟨_,rfl⟩
   have P:p<=m:=by omega
   have hm2:m<q:=by omega
   obtain⟨S,ZL⟩:=(C.2 m (by omega)).aa r C.1;have hsh:((p:Int)+q) / 2=m:=by omega
   clear H;go_wp2_with fail;go_at_call 155;refine(jy (f m).e (f m).H t _).mono ?_;rintro e R ⟨z,rfl,G,_,g⟩;have O:=ae G;have l:=ae (r.trans (g.mono r.size));clear G g;by_cases hz:z<0
   ·have s:Hid (aJ (nm0 f m) t=ZD):=by show aJ (f m).e t=ZD;rw[<-O.out];exact MK hz
    go_wp2;refine⟨⟨m+1,q,by omega,B,by go_num,rfl,λx M=>?_,u,l⟩,by simp[intOf];omega⟩;by_cases e:x=m;{subst e;exact s};{exact eC (gD ZO (show x<m by omega) (by omega)) s}
   ·have s:Hid (aJ (nm0 f m) t=ZA):=by show aJ (f m).e t=ZA;rw[<-O.out];exact MX hz
    go_wp2;refine⟨⟨p,m,P,by omega,rfl,rfl,y,λx h1 h2=>?_,l⟩,by simp[intOf];omega⟩;by_cases e:x=m;{subst e;exact s}
    ·cases M:aJ (nm0 f x) t with
     |false=>rfl
     |true =>have:=eC (gD ZO (show m<x by omega) h2) M;rw[s.out] at this;cases this
  ·have e:p=q:=by omega
   subst e;have ZM:=ae (ZN.trans (iU ZO B y u));by_cases o:p<n
   ·have hlt3:(p:Int)<n:=by omega
    obtain⟨S,ZL⟩:=(C.2 p o).aa r C.1;go_wp2_with fail;go_at_call 155;refine(jy (f p).e (f p).H t _).mono ?_;rintro e R ⟨z,rfl,_,D,g⟩;have l:=ae (r.trans (g.mono r.size));have ZQ:Hid (ZP=decide (z=0)):=by show ZP=_;rw[ZM.out,D];simp[o]
    clear D g;by_cases hz:z=0
    ·have h:ZP=ZD:=by rw[ZQ.out];exact MK hz
     subst h;subst hz;go_wp2;exact bp (v:=.tuple #[J I p,ZC ZD]) (by simp[results,T0,go_sem]) rfl ⟨p,rfl,B,y,u,l⟩
    ·have h:ZP=ZA:=by rw[ZQ.out];exact MX hz
     subst h;have hz':(z == 0)=ZA:=by simpa using hz
     go_wp2;exact bp (v:=.tuple #[J I p,ZC ZA]) (by simp[results,T0,go_sem]) rfl ⟨p,rfl,B,y,u,l⟩
   ·have h:ZP=ZA:=by rw[ZM.out];simp[o]
    subst h;have hge:¬ (p:Int)<n:=by omega
    go_wp2;exact bp (v:=.tuple #[J I p,ZC ZA]) (by simp[results,T0,go_sem]) rfl ⟨p,rfl,B,y,u,r⟩
theorem oy (a:Option Addr)(cap:Nat)(g:Nat->ByteArray)(t:ByteArray)(w:E):Calls Pg 154 #[Y a 0 cap,U t,.func (.func 155) #[] #[]] w λe b=>e=ZF (.tuple #[J I 0,ZC (aG g 0 t)])/\b=w:=by
 rw[fW];go_enter func154,ntmps154;go_wp2;go_loop [9,10] (λi j=>i=J I 0/\j=J I 0) (λ_ _=>0);case atStart=>exact⟨rfl,rfl⟩
 case round =>obtain⟨rfl,rfl⟩:=hrel;go_wp2;exact bp (v:=.tuple #[J I 0,ZC ZA]) (by simp[results,T0,go_sem]) rfl ⟨rfl,rfl⟩
theorem oz (a:Option Addr)(n cap:Nat)(f:Nat->Source)(t:ByteArray)(w:E)(hn:(n:Int)<=1048576)(g:SlSource w a n f)(p:aL (nm0 f) n=ZD):Calls Pg 154 #[Y a n cap,U t,.func (.func 155) #[] #[]] w λe j=>∃i:Nat,e=ZF (.tuple #[J I (i:Int),ZC (aG (nm0 f) n t)])/\i<=n/\(∀m,m<i->aJ (nm0 f m) t=ZD)/\(∀m,i<=m->m<n->aJ (nm0 f m) t=ZA)/\Below w.heap.size w j:=by
 rcases g with rfl|⟨b,off,rfl,g⟩
 {exact(oy a cap _ t w).mono λe j ⟨l,o⟩=>⟨0,l,by omega,λm h=>absurd h (KO _),λm _ h=>absurd h (KO _),by rw[o];exact cM _ _⟩};{exact ox b off n cap f t w hn g p}
theorem eF (a0:Option Addr)(n0 c0:Nat)(a1:Option Addr)(n1 c1:Nat)(f:Nat->Source)(t:ByteArray)(w:E)(hn:(n0:Int)<=1048576)(g:SlSource w a0 n0 f)(j:aL (nm0 f) n0=ZD):Calls Pg 117 #[ZG #[Y a0 n0 c0,Y a1 n1 c1],U t] w λe u=>∃i:Nat,e=ZF (.tuple #[J I (i:Int),ZC (aG (nm0 f) n0 t)])/\i<=n0/\(∀m,m<i->aJ (nm0 f m) t=ZD)/\(∀m,i<=m->m<n0->aJ (nm0 f m) t=ZA)/\Below w.heap.size w u:=by
 have l:=ae ((BS w).alloc ly (N #[Y a0 n0 c0,Y a1 n1 c1] 29));have p:=ae (g.aa l ly);have o:=ae j;clear g j;obtain⟨ZP,b⟩:∃ZP,ZP=aG (nm0 f) n0 t:=⟨_,rfl⟩
 rw[<-b];have n:=ae b;clear b;go_enter func117,ntmps117;go_wp2_with fail;refine(oz a0 n0 c0 f t _ hn p o).mono ?_;rintro e w1 ⟨i,rfl,hi,h1,h2,h⟩;rw[<-n.out];have s:=ae h1;have q:=ae h2;have r:=ae (l.trans (h.mono (by simp)));clear h1 h2 h;go_wp2;exact bp (v:=.tuple #[J I i,ZC ZP]) (by simp[results,results117,go_sem]) rfl ⟨i,rfl,hi,s,q,r⟩
theorem jz (nm:ByteArray)(a:Option Addr)(k d:Nat)(t:ByteArray)(w:E):Calls Pg 158 #[ZG #[U nm,Y a k d],U t] w λe i=>∃z:Int,e=ZF (J I z)/\decide (z<0)=aJ nm t/\decide (z=0)=(nm.toList == t.toList)/\Below w.heap.size w i:=by have b:=ae ((BS w).alloc ly (N #[U nm,Y a k d] 125));obtain⟨z,hz,h1,h2⟩:=tK nm t;have g:=ae hz;have h:=ae h1;have f:=ae h2;clear hz h1 h2;go_enter func158,ntmps158;go_wp2_with fail;refine(Tryz.strings_Compare nm t _).mono ?_;rintro e w1 ⟨rfl,rfl⟩;rw[g.out];go_wp2;go_ret;exact⟨z,rfl,h,f,b⟩
theorem oA (b off n cap:Nat)(f:Nat->Target)(t:ByteArray)(w:E)(hn:(n:Int)<=1048576)(M:RowTarget w b off n f)(ZN:aL (nm1 f) n=ZD):Calls Pg 157 #[Y (T (Q b off Z)) n cap,U t,.func (.func 158) #[] #[]] w λe W=>∃i:Nat,e=ZF (.tuple #[J I (i:Int),ZC (aG (nm1 f) n t)])/\i<=n/\(∀m,m<i->aJ (nm1 f m) t=ZD)/\(∀m,i<=m->m<n->aJ (nm1 f m) t=ZA)/\Below w.heap.size w W:=by
 have C:=ae M;have ZO:=ae ZN;clear M ZN;obtain⟨ZP,A⟩:∃ZP,ZP=aG (nm1 f) n t:=⟨_,rfl⟩
 rw[<-A];have P:=ae A;clear A;go_enter func157,ntmps157;go_wp2;go_loopw [9,10] (λi j wr=>∃p q:Nat,p<=q/\q<=n/\i=J I p/\j=J I q/\Hid (∀m,m<p->aJ (nm1 f m) t=ZD)/\Hid (∀m,q<=m->m<n->aJ (nm1 f m) t=ZA)/\Hid (Below w.heap.size w wr)) (λi j _=>(intOf j).toNat - (intOf i).toNat);case atStart=>exact⟨0,n,by omega,by omega,rfl,rfl,λm H=>absurd H (KO _),λm h1 h2=>by omega,cM _ _⟩
 case round =>
  obtain⟨p,q,hpq,B,rfl,rfl,y,u,r⟩:=hrel;by_cases hlt:p<q
  ·obtain⟨m,H⟩:∃m:Nat,m=(p+q) / 2:=⟨_,rfl⟩
   have R:p<=m:=by omega
   have hm2:m<q:=by omega
   obtain⟨ZK,L,K,V,_⟩:=(C.2 m (by omega)).aa r ly C.1;have hsh:((p:Int)+q) / 2=m:=by omega
   clear H;go_wp2_with fail;go_at_call 158;refine(jz (f m).e L (f m).h K t _).mono ?_;rintro e ZL ⟨z,rfl,G,_,g⟩;have ZM:=ae G;have l:=ae (r.trans (g.mono r.size));clear G g;by_cases hz:z<0
   ·have s:Hid (aJ (nm1 f m) t=ZD):=by show aJ (f m).e t=ZD;rw[<-ZM.out];exact MK hz
    go_wp2;refine⟨⟨m+1,q,by omega,B,by go_num,rfl,λx O=>?_,u,l⟩,by simp[intOf];omega⟩;by_cases e:x=m;{subst e;exact s};{exact eC (gD ZO (show x<m by omega) (by omega)) s}
   ·have s:Hid (aJ (nm1 f m) t=ZA):=by show aJ (f m).e t=ZA;rw[<-ZM.out];exact MX hz
    go_wp2;refine⟨⟨p,m,R,by omega,rfl,rfl,y,λx h1 h2=>?_,l⟩,by simp[intOf];omega⟩;by_cases e:x=m;{subst e;exact s}
    ·cases O:aJ (nm1 f x) t with
     |false=>rfl
     |true =>have:=eC (gD ZO (show m<x by omega) h2) O;rw[s.out] at this;cases this
  ·have e:p=q:=by omega
   subst e;have S:=ae (P.trans (iU ZO B y u));by_cases o:p<n
   ·have hlt3:(p:Int)<n:=by omega
    obtain⟨ZK,L,K,V,_⟩:=(C.2 p o).aa r ly C.1;go_wp2_with fail;go_at_call 158;refine(jz (f p).e L (f p).h K t _).mono ?_;rintro e ZL ⟨z,rfl,_,D,g⟩;have l:=ae (r.trans (g.mono r.size));have ZQ:Hid (ZP=decide (z=0)):=by show ZP=_;rw[S.out,D];simp[o]
    clear D g;by_cases hz:z=0
    ·have h:ZP=ZD:=by rw[ZQ.out];exact MK hz
     subst h;subst hz;go_wp2;exact bp (v:=.tuple #[J I p,ZC ZD]) (by simp[results,T1,go_sem]) rfl ⟨p,rfl,B,y,u,l⟩
    ·have h:ZP=ZA:=by rw[ZQ.out];exact MX hz
     subst h;have hz':(z == 0)=ZA:=by simpa using hz
     go_wp2;exact bp (v:=.tuple #[J I p,ZC ZA]) (by simp[results,T1,go_sem]) rfl ⟨p,rfl,B,y,u,l⟩
   ·have h:ZP=ZA:=by rw[S.out];simp[o]
    subst h;have hge:¬ (p:Int)<n:=by omega
    go_wp2;exact bp (v:=.tuple #[J I p,ZC ZA]) (by simp[results,T1,go_sem]) rfl ⟨p,rfl,B,y,u,r⟩
theorem oB (a:Option Addr)(cap:Nat)(g:Nat->ByteArray)(t:ByteArray)(w:E):Calls Pg 157 #[Y a 0 cap,U t,.func (.func 158) #[] #[]] w λe b=>e=ZF (.tuple #[J I 0,ZC (aG g 0 t)])/\b=w:=by
 rw[fW];go_enter func157,ntmps157;go_wp2;go_loop [9,10] (λi j=>i=J I 0/\j=J I 0) (λ_ _=>0);case atStart=>exact⟨rfl,rfl⟩
 case round =>obtain⟨rfl,rfl⟩:=hrel;go_wp2;exact bp (v:=.tuple #[J I 0,ZC ZA]) (by simp[results,T1,go_sem]) rfl ⟨rfl,rfl⟩
theorem oC (a:Option Addr)(n cap:Nat)(f:Nat->Target)(t:ByteArray)(w:E)(hn:(n:Int)<=1048576)(g:SlTarget w a n f)(p:aL (nm1 f) n=ZD):Calls Pg 157 #[Y a n cap,U t,.func (.func 158) #[] #[]] w λe j=>∃i:Nat,e=ZF (.tuple #[J I (i:Int),ZC (aG (nm1 f) n t)])/\i<=n/\(∀m,m<i->aJ (nm1 f m) t=ZD)/\(∀m,i<=m->m<n->aJ (nm1 f m) t=ZA)/\Below w.heap.size w j:=by
 rcases g with rfl|⟨b,off,rfl,g⟩
 {exact(oB a cap _ t w).mono λe j ⟨l,o⟩=>⟨0,l,by omega,λm h=>absurd h (KO _),λm _ h=>absurd h (KO _),by rw[o];exact cM _ _⟩};{exact oA b off n cap f t w hn g p}
theorem fE (a0:Option Addr)(n0 c0:Nat)(a1:Option Addr)(n1 c1:Nat)(f:Nat->Target)(t:ByteArray)(w:E)(hn:(n1:Int)<=1048576)(g:SlTarget w a1 n1 f)(j:aL (nm1 f) n1=ZD):Calls Pg 118 #[ZG #[Y a0 n0 c0,Y a1 n1 c1],U t] w λe u=>∃i:Nat,e=ZF (.tuple #[J I (i:Int),ZC (aG (nm1 f) n1 t)])/\i<=n1/\(∀m,m<i->aJ (nm1 f m) t=ZD)/\(∀m,i<=m->m<n1->aJ (nm1 f m) t=ZA)/\Below w.heap.size w u:=by
 have l:=ae ((BS w).alloc ly (N #[Y a0 n0 c0,Y a1 n1 c1] 29));have p:=ae (g.aa l ly);have o:=ae j;clear g j;obtain⟨ZP,b⟩:∃ZP,ZP=aG (nm1 f) n1 t:=⟨_,rfl⟩
 rw[<-b];have n:=ae b;clear b;go_enter func118,ntmps118;go_wp2_with fail;refine(oC a1 n1 c1 f t _ hn p o).mono ?_;rintro e w1 ⟨i,rfl,hi,h1,h2,h⟩;rw[<-n.out];have s:=ae h1;have q:=ae h2;have r:=ae (l.trans (h.mono (by simp)));clear h1 h2 h;go_wp2;exact bp (v:=.tuple #[J I i,ZC ZP]) (by simp[results,results118,go_sem]) rfl ⟨i,rfl,hi,s,q,r⟩
theorem qA (a0:Option Addr)(n0 c0:Nat)(f0:Nat->Source)(a1:Option Addr)(n1 c1:Nat)(f1:Nat->Target)(t:ByteArray)(w:E)(hn0:(n0:Int)<=1048576)(hn1:(n1:Int)<=1048576)(l:SlSource w a0 n0 f0)(g:SlTarget w a1 n1 f1)(h:aL (nm0 f0) n0=ZD)(n:aL (nm1 f1) n1=ZD):Calls Pg 120 #[ZG #[Y a0 n0 c0,Y a1 n1 c1],U t] w λe H=>e=ZF (ZC (aG (nm0 f0) n0 t || aG (nm1 f1) n1 t))/\Below w.heap.size w H:=by
 have f:=ae ((BS w).alloc ly (N #[Y a0 n0 c0,Y a1 n1 c1] 29));have u:(w.alloc (N #[Y a0 n0 c0,Y a1 n1 c1] 29)).cell? (Q w.heap.size 0 Z)=T (Y a0 n0 c0):=by simp
 have x:(w.alloc (N #[Y a0 n0 c0,Y a1 n1 c1] 29)).cell? (Q w.heap.size 1 Z)=T (Y a1 n1 c1):=by simp
 have B:=ae (l.aa f ly);have C:=ae (g.aa f ly);have K:=ae h;have A:=ae n;clear l g h n;obtain⟨ZP,q⟩:∃ZP,ZP=aG (nm0 f0) n0 t:=⟨_,rfl⟩
 obtain⟨ZO,o⟩:∃ZO,ZO=aG (nm1 f1) n1 t:=⟨_,rfl⟩
 rw[<-q,<-o];have s:=ae q;have y:=ae o;clear q o;go_enter func120,ntmps120;go_wp2_with fail;refine(eF a0 n0 c0 a1 n1 c1 f0 t _ hn0 B K).mono ?_;rintro e w1 ⟨i,rfl,_,_,_,b⟩;have G:=(b.cell (p:=(Q w.heap.size 0 Z)) (by simp)).trans u;have ZQ:=(b.cell (p:=(Q w.heap.size 1 Z)) (by simp)).trans x;have z:=ae (C.aa b ly);have r:=ae (f.trans (b.mono (by simp)));clear b u x f;rw[<-s.out];go_wp2_with fail;refine(fE a0 n0 c0 a1 n1 c1 f1 t _ hn1 z A).mono ?_;rintro e w2 ⟨j,rfl,_,_,_,m⟩;have D:=ae (r.trans (m.mono r.size));clear m G ZQ;rw[<-y.out];clear s y;cases ZP
 all_goals
  go_wp2;go_ret;exact⟨rfl,D⟩
theorem vD (x:Link)(hb:Nat)(g:Option Addr)(n0 t:Nat)(f0:Nat->Source)(h:Option Addr)(n1 s:Nat)(f1:Nat->Target)(w:E)(u:hb<w.heap.size)(ZP:w.cell? (Q hb 1 Z)=T (Y g n0 t))(ZO:w.cell? (Q hb 2 Z)=T (Y h n1 s))(hn0:(n0:Int)<=1048576)(hn1:(n1:Int)<=1048576)(z:SlSource w g n0 f0)(m:SlTarget w h n1 f1)(o:aL (nm0 f0) n0=ZD)(l:aL (nm1 f1) n1=ZD):Calls Pg 122 #[ZG #[U x.e,ZC x.ask,ZC x.has,J I x.G],.pointer (T (Q hb 0 Z))] w λe ZM=>e=ZF (ZC (dZ n0 f0 n1 f1 x))/\Below w.heap.size w ZM:=by
 have b:=ae ((BS w).alloc ly (N #[U x.e,ZC x.ask,ZC x.has,J I x.G] 129));obtain⟨r,A⟩:∃r,r=dZ n0 f0 n1 f1 x:=⟨_,rfl⟩
 rw[<-A];have G:=ae (show r=(!x.ask && !(x.has == jd n0 f0 n1 f1 x.e)) from A);have j:=ae (z.aa b.out ly);have i:=ae (m.aa b.out ly);have L:=ae o;have O:=ae l;clear A z m o l;cases hq:x.ask with
 |true =>
  obtain rfl:r=ZA:=by rw[G.out,hq];rfl
  rw[hq] at b;go_enter func122,ntmps122;go_wp2_with fail;go_quiet (fail);go_wp2;go_ret;exact⟨rfl,AI b.out _⟩
 |false =>
  have ZQ:Hid (r=!(x.has == jd n0 f0 n1 f1 x.e)):=by show _=_;rw[G.out,hq];rfl
  rw[hq] at b j i;obtain⟨c,n⟩:∃c,c=x.has:=⟨_,rfl⟩
  rw[<-n] at b j i ZQ ⊢;clear n G;have B:=ae (λW (f:Below (w.alloc (N #[U x.e,ZC ZA,ZC c,J I x.G] 129)).heap.size (w.alloc (N #[U x.e,ZC ZA,ZC c,J I x.G] 129)) W)=>qA g n0 t f0 h n1 s f1 x.e W hn0 hn1 (j.out.aa f ly) (i.out.aa f ly) L.out O.out);have m0:(w.alloc (N #[U x.e,ZC ZA,ZC c,J I x.G] 129)).cell? (Q w.heap.size 0 Z)=T (U x.e):=by simp
  have P:(w.alloc (N #[U x.e,ZC ZA,ZC c,J I x.G] 129)).cell? (Q w.heap.size 1 Z)=T (ZC ZA):=by simp
  have C:(w.alloc (N #[U x.e,ZC ZA,ZC c,J I x.G] 129)).cell? (Q w.heap.size 2 Z)=T (ZC c):=by simp
  have ZN:=(b.out.cell (p:=(Q hb 1 Z)) u).trans ZP;have M:=(b.out.cell (p:=(Q hb 2 Z)) u).trans ZO;have hz:w.heap.size<(w.alloc (N #[U x.e,ZC ZA,ZC c,J I x.G] 129)).heap.size:=by simp
  have H:hb<(w.alloc (N #[U x.e,ZC ZA,ZC c,J I x.G] 129)).heap.size:=by omega
  have y:Hid (r=!(c == (aG (nm0 f0) n0 x.e || aG (nm1 f1) n1 x.e))):=ZQ.out;generalize (aG (nm0 f0) n0 x.e || aG (nm1 f1) n1 x.e)=q at B y;clear j i ZQ;go_enter func122,ntmps122;go_wp2_with fail;generalize World.alloc w _=W at b B m0 P C ZN M hz H ⊢;have K0:=ae (And.intro C (And.intro ZN M))
  go_region_with (first
   |(go_at_call 120;refine(B.out _ ?_).mono ?_;(first|exact cM _ _|exact br.drew);rintro e K ⟨rfl,f⟩;have D:Hid (Below W.heap.size W K):=⟨f.os,f.tape,f.output,f.size,f.block⟩;have y2:=(D.out.cell (p:=(Q w.heap.size 2 Z)) hz).trans C;have hz1:w.heap.size<K.heap.size:=lj hz D.out.size;clear f))
  all_goals
   go_simp;go_wp2;go_ret;exact⟨by simp[y.out],b.out.trans (D.out.mono b.out.size)⟩
theorem sH (b off m c:Nat)(h:Nat->Link)(hb:Nat)(j:Option Addr)(n0 A:Nat)(f0:Nat->Source)(l:Option Addr)(n1 z:Nat)(f1:Nat->Target)(w:E)(hm:(m:Int)<=1048576)(n:RowLink w b off m h)(g:hb<w.heap.size)(t:w.cell? (Q hb 1 Z)=T (Y j n0 A))(y:w.cell? (Q hb 2 Z)=T (Y l n1 z))(hn0:(n0:Int)<=1048576)(hn1:(n1:Int)<=1048576)(C:SlSource w j n0 f0)(s:SlTarget w l n1 f1)(u:aL (nm0 f0) n0=ZD)(q:aL (nm1 f1) n1=ZD):Calls Pg 159 #[Y (T (Q b off Z)) m c,.func (.func 122) #[] #[.pointer (T (Q hb 0 Z))]] w λe ZN=>∃r:Int,e=ZF (J I r)/\decide (0<=r)=aM (λk=>dZ n0 f0 n1 f1 (h k)) m/\Below w.heap.size w ZN:=by
 have M:=ae n;have H:=ae (λW (f:Below w.heap.size w W) x=>vD x hb j n0 A f0 l n1 z f1 W (lj g f.size) ((f.cell (p:=(Q hb 1 Z)) g).trans t) ((f.cell (p:=(Q hb 2 Z)) g).trans y) hn0 hn1 (C.aa f ly) (s.aa f ly) u q);clear n C s u q t y g;go_enter func159,ntmps159;go_wp2;go_loopw [8] (λi wr=>∃k:Nat,k<=m/\i=J I k/\Hid (aM (λk=>dZ n0 f0 n1 f1 (h k)) k=ZA)/\Hid (Below w.heap.size w wr)) (λi _=>m - (intOf i).toNat);case atStart=>exact⟨0,by omega,rfl,rfl,cM _ _⟩
 case round =>
  obtain⟨k,hk,rfl,ZQ,o⟩:=hrel;by_cases B:k<m
  ·obtain⟨K,L,ZO,ZP⟩:=(M.out.aa o.out ly).2 k B;go_wp2_with fail;go_at_call 122;refine(H.out _ o.out (h k)).mono ?_;rintro e w1 ⟨rfl,f⟩;have G:=ae (o.out.trans (f.mono o.out.size));clear f K L ZO ZP;cases hq:dZ n0 f0 n1 f1 (h k) with
   |true =>have D:=ae hq;clear hq;go_wp2;go_ret;exact⟨k,rfl,by rw[cW (p:=λk=>dZ n0 f0 n1 f1 (h k)) B D.out];simp,G.out⟩
   |false =>have D:=ae hq;clear hq;go_wp2;exact⟨⟨k+1,by omega,by go_num,by show aM _ (k+1)=ZA;rw[aM,ZQ.out,D.out];rfl,G.out⟩,by simp[intOf];omega⟩
  ·obtain rfl:k=m:=by omega
   go_wp2;go_ret;exact⟨-1,rfl,by rw[ZQ.out];rfl,o.out⟩
theorem sI (a:Option Addr)(c hb:Nat)(w:E):Calls Pg 159 #[Y a 0 c,.func (.func 122) #[] #[.pointer (T (Q hb 0 Z))]] w λe b=>e=ZF (J I (-1))/\b=w:=by
 go_enter func159,ntmps159;go_wp2;go_loop [8] (λi=>i=J I 0) (λ_=>0);case atStart=>rfl
 case round =>subst hrel;go_wp2;go_ret;exact⟨rfl,rfl⟩
theorem sJ (a:Option Addr)(m c:Nat)(h:Nat->Link)(hb:Nat)(g:Option Addr)(n0 l:Nat)(f0:Nat->Source)(i:Option Addr)(n1 j:Nat)(f1:Nat->Target)(w:E)(A:(m:Int)<=1048576)(f:SlLink w a m h)(o:hb<w.heap.size)(t:w.cell? (Q hb 1 Z)=T (Y g n0 l))(y:w.cell? (Q hb 2 Z)=T (Y i n1 j))(hn0:(n0:Int)<=1048576)(hn1:(n1:Int)<=1048576)(x:SlSource w g n0 f0)(s:SlTarget w i n1 f1)(u:aL (nm0 f0) n0=ZD)(n:aL (nm1 f1) n1=ZD):Calls Pg 159 #[Y a m c,.func (.func 122) #[] #[.pointer (T (Q hb 0 Z))]] w λe z=>∃r:Int,e=ZF (J I r)/\decide (0<=r)=aM (λk=>dZ n0 f0 n1 f1 (h k)) m/\Below w.heap.size w z:=by
 rcases f with rfl|⟨b,off,rfl,f⟩
 {exact(sI a c hb w).mono λe z ⟨p,q⟩=>⟨-1,p,rfl,by rw[q];exact cM _ _⟩};{exact sH b off m c h hb g n0 l f0 i n1 j f1 w A f o t y hn0 hn1 x s u n}
theorem oD (a:Option Addr)(m c:Nat)(h:Nat->Link)(hb:Nat)(b:Option Addr)(n0 s:Nat)(f0:Nat->Source)(f:Option Addr)(n1 n:Nat)(f1:Nat->Target)(w:E)(ZQ:(m:Int)<=1048576)(g:SlLink w a m h)(y:hb<w.heap.size)(j:w.cell? (Q hb 1 Z)=T (Y b n0 s))(l:w.cell? (Q hb 2 Z)=T (Y f n1 n))(hn0:(n0:Int)<=1048576)(hn1:(n1:Int)<=1048576)(o:SlSource w b n0 f0)(p:SlTarget w f n1 f1)(q:aL (nm0 f0) n0=ZD)(i:aL (nm1 f1) n1=ZD):Calls Pg 121 #[Y a m c,.func (.func 122) #[] #[.pointer (T (Q hb 0 Z))]] w λe B=>e=ZF (ZC (aM (λk=>dZ n0 f0 n1 f1 (h k)) m))/\Below w.heap.size w B:=by
 have u:=ae (sJ a m c h hb b n0 s f0 f n1 n f1 w ZQ g y j l hn0 hn1 o p q i);obtain⟨A,t⟩:∃A,A=aM (λk=>dZ n0 f0 n1 f1 (h k)) m:=⟨_,rfl⟩
 rw[<-t];rw[<-t] at u;clear t o p q i g j l;go_enter func121,ntmps121;go_wp2_with fail;refine u.out.mono ?_;rintro e w1 ⟨r,rfl,z,x⟩;have D:=ae z;have C:=ae x;clear z x;go_wp2;go_ret;exact⟨bj D.out,C.out⟩
theorem xR (z l n cap:Nat)(f:Option Addr)(n0 m:Nat)(f0:Nat->Source)(g:Option Addr)(n1 i:Nat)(f1:Nat->Target)(d:au)(a0:Option Addr)(h:Nat)(a1:Option Addr)(b:Nat)(w:E)(hn0:(n0:Int)<=1048576)(hn1:(n1:Int)<=1048576)(p:SlSource w f n0 f0)(q:SlTarget w g n1 f1)(s:aL (nm0 f0) n0=ZD)(o:aL (nm1 f1) n1=ZD)(hL:SlLink w a1 d.f d.m)(hfl:d.f<=1048576):Calls Pg 71 #[ZG #[Y (T (Q z l Z)) n cap,Y f n0 m,Y g n1 i],ZG #[U d.e,J I d.L,J I d.M,U d.H,Y a0 d.h h,Y a1 d.f b]] w λe B=>e=ZF (ZC (hasB n0 f0 n1 f1 d))/\Below w.heap.size w B:=by
 have j:=ae (((BS w).alloc ly (N #[Y (T (Q z l Z)) n cap,Y f n0 m,Y g n1 i] 77)).alloc (by simp) (N #[U d.e,J I d.L,J I d.M,U d.H,Y a0 d.h h,Y a1 d.f b] 46));have u:=ae (oD a1 d.f b d.m w.heap.size f n0 m f0 g n1 i f1 _ (by omega) (hL.aa j.out ly) (by simp;omega) (by simp[go_sem]) (by simp[go_sem]) hn0 hn1 (p.aa j.out ly) (q.aa j.out ly) s o);obtain⟨r,t⟩:∃r,r=hasB n0 f0 n1 f1 d:=⟨_,rfl⟩
 rw[<-t];have y:=ae (show aM (λk=>dZ n0 f0 n1 f1 (d.m k)) d.f=r from t.symm);rw[y.out] at u;clear t p q s o hL y;go_enter func71,ntmps71;go_wp2_with fail;refine u.out.mono ?_;rintro e w1 ⟨rfl,x⟩;have A:=ae (j.out.trans (x.mono j.out.size));clear x;go_wp2;go_ret;exact⟨rfl,A.out⟩
