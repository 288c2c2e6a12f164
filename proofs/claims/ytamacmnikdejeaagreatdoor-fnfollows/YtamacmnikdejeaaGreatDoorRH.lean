import Derived.Test.YtamacmnikdejeaaGreatDoorSP
import Derived.Test.YtamacmnikdejeaaGreatDoorSV
set_option maxRecDepth 100000
set_option maxHeartbeats 4000000
open Go.Addr renaming mk->N
open Go.Value renaming slice->Y,string->U,int->J,bool->QC,agg->QG
open Option renaming none->Z,some->T
open Go.Obj renaming cells->Q
open Go.IntKind renaming i64->I
open Go renaming World->G
open Bool renaming false->QB,true->QD
open Go.Ending renaming returned->QF
namespace Go.Proofs.YtamacmnikdejeaaGreatDoor.Vp
open RowKit Go.Sort
theorem mK:∀ a b:List UInt8,decide (Lib.compareBytes a b<0)=Op.bytesLess a b
 | [],[]=>by simp[Lib.compareBytes,Op.bytesLess]
 | [],_ :: _=>by simp[Lib.compareBytes,Op.bytesLess]
 | _ :: _,[]=>by simp[Lib.compareBytes,Op.bytesLess]
 | a :: x,b :: y=>by
  have g:=mK x y;rw[Lib.compareBytes,Op.bytesLess,<-g];by_cases h1:a<b
  ·simp[h1]
  ·rw[cM h1]
   by_cases h2:b<a
   ·have f:¬ a=b:=fun e=>by subst e;exact h1 h2
    simp[h1,h2,f]
   ·have f:a=b:=UInt8.le_antisymm (ME.1 h2) (ME.1 h1)
    subst f;simp[h1]
theorem kF:∀ a b:List UInt8,decide (Lib.compareBytes a b=0)=(a == b)
 | [],[]=>by simp[Lib.compareBytes]
 | [],_ :: _=>by simp[Lib.compareBytes]
 | _ :: _,[]=>by simp[Lib.compareBytes]
 | a :: x,b :: y=>by
  have g:=kF x y;rw[Lib.compareBytes];by_cases h1:a<b
  ·have f:¬ a=b:=fun e=>by subst e;exact(UInt8.lt_irrefl _ h1)
   simp[h1,f]
  ·rw[cM h1]
   by_cases h2:b<a
   ·have f:¬ a=b:=fun e=>by subst e;exact h1 h2
    simp[h2,f]
   ·have f:a=b:=UInt8.le_antisymm (ME.1 h2) (ME.1 h1)
    subst f;rw[cM h2,g];simp
theorem sF (a b:ByteArray):∃ z:Int,Lib.compareBytes a.data.toList b.data.toList=z/\decide (z<0)=aw a b/\decide (z=0)=(a.toList == b.toList):=by
 refine⟨_,rfl,?_,?_⟩
 ·rw[mK]
  simp only[aw,IX]
 ·rw[kF]
  simp only[IX]
theorem jy (nm tx:ByteArray)(t:ByteArray)(w:G):Calls Tryz.prog 155 #[QG #[U nm,U tx],U t] w fun e i=>∃ z:Int,e=QF (J I z)/\decide (z<0)=aw nm t/\decide (z=0)=(nm.toList == t.toList)/\Below w.heap.size w i:=by have h:=ae ((q9 w).alloc ly (Q #[U nm,U tx] 121));obtain⟨z,hz,h1,h2⟩:=sF nm t;have g:=ae hz;have b:=ae h1;have f:=ae h2;clear hz h1 h2;go_enter Tryz.func155,Tryz.ntmps155;go_wp2_with fail;refine(Tryz.strings_Compare nm t _).mono ?_;rintro e w1 ⟨rfl,rfl⟩;rw[g.out];go_wp2;go_ret;exact⟨z,rfl,b,f,h⟩
theorem nS (b off n cap:Nat)(f:Nat->Source)(t:ByteArray)(w:G)(hn:(n:Int)<=1048576)(O:RowSource w b off n f)(K:aI (nm0 f) n=QD):Calls Tryz.prog 154 #[Y (T (N b off Z)) n cap,U t,.func (.func 155) #[] #[]] w fun e QK=>∃ i:Nat,e=QF (.tuple #[J I (i:Int),QC (aG (nm0 f) n t)])/\i<=n/\(∀ m,m<i->aw (nm0 f m) t=QD)/\(∀ m,i<=m->m<n->aw (nm0 f m) t=QB)/\Below w.heap.size w QK:=by
 have C:=ae O;have QO:=ae K;clear O K;obtain⟨QP,s⟩:∃ QP,QP=aG (nm0 f) n t:=⟨_,rfl⟩
 rw[<-s];have L:=ae s;clear s;go_enter Tryz.func154,Tryz.ntmps154;go_wp2;go_loopw [9,10] (fun i j wr=>∃ p q:Nat,p<=q/\q<=n/\i=J I p/\j=J I q/\Hid (∀ m,m<p->aw (nm0 f m) t=QD)/\Hid (∀ m,q<=m->m<n->aw (nm0 f m) t=QB)/\Hid (Below w.heap.size w wr)) (fun i j _=>(intOf j).toNat - (intOf i).toNat);case atStart=>exact⟨0,n,by omega,by omega,rfl,rfl,fun m H=>absurd H (E4 _),fun m h1 h2=>by omega,a8 _ _⟩
 case round =>
  obtain⟨p,q,hpq,A,rfl,rfl,u,y,o⟩:=hrel;by_cases hlt:p<q
  ·obtain⟨m,H⟩:∃ m:Nat,m=(p+q) / 2:=⟨_,rfl⟩
   have M:p<=m:=by omega
   have hm2:m<q:=by omega
   obtain⟨QL,R⟩:=(C.2 m (by omega)).below o C.1;have hsh:((p:Int)+q) / 2=m:=by omega
   clear H;go_wp2_with fail;go_at_call 155;refine(jy (f m).name (f m).text t _).mono ?_;rintro e S ⟨z,rfl,E,_,g⟩;have QM:=ae E;have l:=ae (o.trans (g.mono o.size));clear E g;by_cases hz:z<0
   ·have B:Hid (aw (nm0 f m) t=QD):=by show aw (f m).name t=QD;rw[<-QM.out];exact JF hz
    go_wp2;refine⟨⟨m+1,q,by omega,A,by go_num,rfl,fun x P=>?_,y,l⟩,by simp[intOf];omega⟩;by_cases e:x=m
    ·subst e;exact B
    ·exact dw (fi QO (show x<m by omega) (by omega)) B
   ·have B:Hid (aw (nm0 f m) t=QB):=by show aw (f m).name t=QB;rw[<-QM.out];exact JS hz
    go_wp2;refine⟨⟨p,m,M,by omega,rfl,rfl,u,fun x h1 h2=>?_,l⟩,by simp[intOf];omega⟩;by_cases e:x=m
    ·subst e;exact B
    ·cases P:aw (nm0 f x) t with
     | false=>rfl
     | true =>have:=dw (fi QO (show m<x by omega) h2) P;rw[B.out] at this;cases this
  ·have e:p=q:=by omega
   subst e;have QN:=ae (L.trans (jW QO A u y));by_cases r:p<n
   ·have hlt3:(p:Int)<n:=by omega
    obtain⟨QL,R⟩:=(C.2 p r).below o C.1;go_wp2_with fail;go_at_call 155;refine(jy (f p).name (f p).text t _).mono ?_;rintro e S ⟨z,rfl,_,QR,g⟩;have l:=ae (o.trans (g.mono o.size));have D:Hid (QP=decide (z=0)):=by show QP=_;rw[QN.out,QR];simp[r]
    clear QR g;by_cases hz:z=0
    ·have h:QP=QD:=by rw[D.out];exact JF hz
     subst h;subst hz;go_wp2;exact bp (v:=.tuple #[J I p,QC QD]) (by simp[results,Tryz.results154,go_sem]) rfl ⟨p,rfl,A,u,y,l⟩
    ·have h:QP=QB:=by rw[D.out];exact JS hz
     subst h;have hz':(z == 0)=QB:=by simpa using hz
     go_wp2;exact bp (v:=.tuple #[J I p,QC QB]) (by simp[results,Tryz.results154,go_sem]) rfl ⟨p,rfl,A,u,y,l⟩
   ·have h:QP=QB:=by rw[QN.out];simp[r]
    subst h;have hge:¬ (p:Int)<n:=by omega
    go_wp2;exact bp (v:=.tuple #[J I p,QC QB]) (by simp[results,Tryz.results154,go_sem]) rfl ⟨p,rfl,A,u,y,o⟩
theorem nT (a:Option Addr)(cap:Nat)(g:Nat->ByteArray)(t:ByteArray)(w:G):Calls Tryz.prog 154 #[Y a 0 cap,U t,.func (.func 155) #[] #[]] w fun e b=>e=QF (.tuple #[J I 0,QC (aG g 0 t)])/\b=w:=by
 rw[ju];go_enter Tryz.func154,Tryz.ntmps154;go_wp2;go_loop [9,10] (fun i j=>i=J I 0/\j=J I 0) (fun _ _=>0);case atStart=>exact⟨rfl,rfl⟩
 case round =>obtain⟨rfl,rfl⟩:=hrel;go_wp2;exact bp (v:=.tuple #[J I 0,QC QB]) (by simp[results,Tryz.results154,go_sem]) rfl ⟨rfl,rfl⟩
theorem nU (a:Option Addr)(n cap:Nat)(f:Nat->Source)(t:ByteArray)(w:G)(hn:(n:Int)<=1048576)(h:SlSource w a n f)(l:aI (nm0 f) n=QD):Calls Tryz.prog 154 #[Y a n cap,U t,.func (.func 155) #[] #[]] w fun e j=>∃ i:Nat,e=QF (.tuple #[J I (i:Int),QC (aG (nm0 f) n t)])/\i<=n/\(∀ m,m<i->aw (nm0 f m) t=QD)/\(∀ m,i<=m->m<n->aw (nm0 f m) t=QB)/\Below w.heap.size w j:=by
 rcases h with rfl | ⟨b,off,rfl,h⟩
 ·exact(nT a cap _ t w).mono fun e j ⟨p,o⟩=>⟨0,p,by omega,fun m g=>absurd g (E4 _),fun m _ g=>absurd g (E4 _),by rw[o];exact a8 _ _⟩
 ·exact nS b off n cap f t w hn h l
theorem jY (a0:Option Addr)(n0 c0:Nat)(a1:Option Addr)(n1 c1:Nat)(f:Nat->Source)(t:ByteArray)(w:G)(hn:(n0:Int)<=1048576)(g:SlSource w a0 n0 f)(h:aI (nm0 f) n0=QD):Calls Tryz.prog 117 #[QG #[Y a0 n0 c0,Y a1 n1 c1],U t] w fun e u=>∃ i:Nat,e=QF (.tuple #[J I (i:Int),QC (aG (nm0 f) n0 t)])/\i<=n0/\(∀ m,m<i->aw (nm0 f m) t=QD)/\(∀ m,i<=m->m<n0->aw (nm0 f m) t=QB)/\Below w.heap.size w u:=by
 have j:=ae ((q9 w).alloc ly (Q #[Y a0 n0 c0,Y a1 n1 c1] 29));have n:=ae (g.below j ly);have r:=ae h;clear g h;obtain⟨QP,b⟩:∃ QP,QP=aG (nm0 f) n0 t:=⟨_,rfl⟩
 rw[<-b];have s:=ae b;clear b;go_enter Tryz.func117,Tryz.ntmps117;go_wp2_with fail;refine(nU a0 n0 c0 f t _ hn n r).mono ?_;rintro e w1 ⟨i,rfl,hi,h1,h2,l⟩;rw[<-s.out];have o:=ae h1;have p:=ae h2;have q:=ae (j.trans (l.mono (by simp)));clear h1 h2 l;go_wp2;exact bp (v:=.tuple #[J I i,QC QP]) (by simp[results,Tryz.results117,go_sem]) rfl ⟨i,rfl,hi,o,p,q⟩
theorem jz (nm:ByteArray)(a:Option Addr)(k d:Nat)(t:ByteArray)(w:G):Calls Tryz.prog 158 #[QG #[U nm,Y a k d],U t] w fun e i=>∃ z:Int,e=QF (J I z)/\decide (z<0)=aw nm t/\decide (z=0)=(nm.toList == t.toList)/\Below w.heap.size w i:=by have h:=ae ((q9 w).alloc ly (Q #[U nm,Y a k d] 125));obtain⟨z,hz,h1,h2⟩:=sF nm t;have g:=ae hz;have b:=ae h1;have f:=ae h2;clear hz h1 h2;go_enter Tryz.func158,Tryz.ntmps158;go_wp2_with fail;refine(Tryz.strings_Compare nm t _).mono ?_;rintro e w1 ⟨rfl,rfl⟩;rw[g.out];go_wp2;go_ret;exact⟨z,rfl,b,f,h⟩
theorem nV (b off n cap:Nat)(f:Nat->Target)(t:ByteArray)(w:G)(hn:(n:Int)<=1048576)(QM:RowTarget w b off n f)(M:aI (nm1 f) n=QD):Calls Tryz.prog 157 #[Y (T (N b off Z)) n cap,U t,.func (.func 158) #[] #[]] w fun e W=>∃ i:Nat,e=QF (.tuple #[J I (i:Int),QC (aG (nm1 f) n t)])/\i<=n/\(∀ m,m<i->aw (nm1 f m) t=QD)/\(∀ m,i<=m->m<n->aw (nm1 f m) t=QB)/\Below w.heap.size w W:=by
 have C:=ae QM;have QO:=ae M;clear QM M;obtain⟨QP,s⟩:∃ QP,QP=aG (nm1 f) n t:=⟨_,rfl⟩
 rw[<-s];have QN:=ae s;clear s;go_enter Tryz.func157,Tryz.ntmps157;go_wp2;go_loopw [9,10] (fun i j wr=>∃ p q:Nat,p<=q/\q<=n/\i=J I p/\j=J I q/\Hid (∀ m,m<p->aw (nm1 f m) t=QD)/\Hid (∀ m,q<=m->m<n->aw (nm1 f m) t=QB)/\Hid (Below w.heap.size w wr)) (fun i j _=>(intOf j).toNat - (intOf i).toNat);case atStart=>exact⟨0,n,by omega,by omega,rfl,rfl,fun m H=>absurd H (E4 _),fun m h1 h2=>by omega,a8 _ _⟩
 case round =>
  obtain⟨p,q,hpq,A,rfl,rfl,u,y,o⟩:=hrel;by_cases hlt:p<q
  ·obtain⟨m,H⟩:∃ m:Nat,m=(p+q) / 2:=⟨_,rfl⟩
   have O:p<=m:=by omega
   have hm2:m<q:=by omega
   obtain⟨V,L,K,QL,_⟩:=(C.2 m (by omega)).below o ly C.1;have hsh:((p:Int)+q) / 2=m:=by omega
   clear H;go_wp2_with fail;go_at_call 158;refine(jz (f m).name L (f m).actN K t _).mono ?_;rintro e QK ⟨z,rfl,E,_,g⟩;have S:=ae E;have l:=ae (o.trans (g.mono o.size));clear E g;by_cases hz:z<0
   ·have B:Hid (aw (nm1 f m) t=QD):=by show aw (f m).name t=QD;rw[<-S.out];exact JF hz
    go_wp2;refine⟨⟨m+1,q,by omega,A,by go_num,rfl,fun x R=>?_,y,l⟩,by simp[intOf];omega⟩;by_cases e:x=m
    ·subst e;exact B
    ·exact dw (fi QO (show x<m by omega) (by omega)) B
   ·have B:Hid (aw (nm1 f m) t=QB):=by show aw (f m).name t=QB;rw[<-S.out];exact JS hz
    go_wp2;refine⟨⟨p,m,O,by omega,rfl,rfl,u,fun x h1 h2=>?_,l⟩,by simp[intOf];omega⟩;by_cases e:x=m
    ·subst e;exact B
    ·cases R:aw (nm1 f x) t with
     | false=>rfl
     | true =>have:=dw (fi QO (show m<x by omega) h2) R;rw[B.out] at this;cases this
  ·have e:p=q:=by omega
   subst e;have P:=ae (QN.trans (jW QO A u y));by_cases r:p<n
   ·have hlt3:(p:Int)<n:=by omega
    obtain⟨V,L,K,QL,_⟩:=(C.2 p r).below o ly C.1;go_wp2_with fail;go_at_call 158;refine(jz (f p).name L (f p).actN K t _).mono ?_;rintro e QK ⟨z,rfl,_,QR,g⟩;have l:=ae (o.trans (g.mono o.size));have D:Hid (QP=decide (z=0)):=by show QP=_;rw[P.out,QR];simp[r]
    clear QR g;by_cases hz:z=0
    ·have h:QP=QD:=by rw[D.out];exact JF hz
     subst h;subst hz;go_wp2;exact bp (v:=.tuple #[J I p,QC QD]) (by simp[results,Tryz.results157,go_sem]) rfl ⟨p,rfl,A,u,y,l⟩
    ·have h:QP=QB:=by rw[D.out];exact JS hz
     subst h;have hz':(z == 0)=QB:=by simpa using hz
     go_wp2;exact bp (v:=.tuple #[J I p,QC QB]) (by simp[results,Tryz.results157,go_sem]) rfl ⟨p,rfl,A,u,y,l⟩
   ·have h:QP=QB:=by rw[P.out];simp[r]
    subst h;have hge:¬ (p:Int)<n:=by omega
    go_wp2;exact bp (v:=.tuple #[J I p,QC QB]) (by simp[results,Tryz.results157,go_sem]) rfl ⟨p,rfl,A,u,y,o⟩
theorem nW (a:Option Addr)(cap:Nat)(g:Nat->ByteArray)(t:ByteArray)(w:G):Calls Tryz.prog 157 #[Y a 0 cap,U t,.func (.func 158) #[] #[]] w fun e b=>e=QF (.tuple #[J I 0,QC (aG g 0 t)])/\b=w:=by
 rw[ju];go_enter Tryz.func157,Tryz.ntmps157;go_wp2;go_loop [9,10] (fun i j=>i=J I 0/\j=J I 0) (fun _ _=>0);case atStart=>exact⟨rfl,rfl⟩
 case round =>obtain⟨rfl,rfl⟩:=hrel;go_wp2;exact bp (v:=.tuple #[J I 0,QC QB]) (by simp[results,Tryz.results157,go_sem]) rfl ⟨rfl,rfl⟩
theorem nY (a:Option Addr)(n cap:Nat)(f:Nat->Target)(t:ByteArray)(w:G)(hn:(n:Int)<=1048576)(h:SlTarget w a n f)(l:aI (nm1 f) n=QD):Calls Tryz.prog 157 #[Y a n cap,U t,.func (.func 158) #[] #[]] w fun e j=>∃ i:Nat,e=QF (.tuple #[J I (i:Int),QC (aG (nm1 f) n t)])/\i<=n/\(∀ m,m<i->aw (nm1 f m) t=QD)/\(∀ m,i<=m->m<n->aw (nm1 f m) t=QB)/\Below w.heap.size w j:=by
 rcases h with rfl | ⟨b,off,rfl,h⟩
 ·exact(nW a cap _ t w).mono fun e j ⟨p,o⟩=>⟨0,p,by omega,fun m g=>absurd g (E4 _),fun m _ g=>absurd g (E4 _),by rw[o];exact a8 _ _⟩
 ·exact nV b off n cap f t w hn h l
theorem jZ (a0:Option Addr)(n0 c0:Nat)(a1:Option Addr)(n1 c1:Nat)(f:Nat->Target)(t:ByteArray)(w:G)(hn:(n1:Int)<=1048576)(g:SlTarget w a1 n1 f)(h:aI (nm1 f) n1=QD):Calls Tryz.prog 118 #[QG #[Y a0 n0 c0,Y a1 n1 c1],U t] w fun e u=>∃ i:Nat,e=QF (.tuple #[J I (i:Int),QC (aG (nm1 f) n1 t)])/\i<=n1/\(∀ m,m<i->aw (nm1 f m) t=QD)/\(∀ m,i<=m->m<n1->aw (nm1 f m) t=QB)/\Below w.heap.size w u:=by
 have j:=ae ((q9 w).alloc ly (Q #[Y a0 n0 c0,Y a1 n1 c1] 29));have n:=ae (g.below j ly);have r:=ae h;clear g h;obtain⟨QP,b⟩:∃ QP,QP=aG (nm1 f) n1 t:=⟨_,rfl⟩
 rw[<-b];have s:=ae b;clear b;go_enter Tryz.func118,Tryz.ntmps118;go_wp2_with fail;refine(nY a1 n1 c1 f t _ hn n r).mono ?_;rintro e w1 ⟨i,rfl,hi,h1,h2,l⟩;rw[<-s.out];have o:=ae h1;have p:=ae h2;have q:=ae (j.trans (l.mono (by simp)));clear h1 h2 l;go_wp2;exact bp (v:=.tuple #[J I i,QC QP]) (by simp[results,Tryz.results118,go_sem]) rfl ⟨i,rfl,hi,o,p,q⟩
theorem uZ (a0:Option Addr)(n0 c0:Nat)(f0:Nat->Source)(a1:Option Addr)(n1 c1:Nat)(f1:Nat->Target)(t:ByteArray)(w:G)(hn0:(n0:Int)<=1048576)(hn1:(n1:Int)<=1048576)(l:SlSource w a0 n0 f0)(h:SlTarget w a1 n1 f1)(m:aI (nm0 f0) n0=QD)(g:aI (nm1 f1) n1=QD):Calls Tryz.prog 120 #[QG #[Y a0 n0 c0,Y a1 n1 c1],U t] w fun e K=>e=QF (QC (aG (nm0 f0) n0 t || aG (nm1 f1) n1 t))/\Below w.heap.size w K:=by
 have f:=ae ((q9 w).alloc ly (Q #[Y a0 n0 c0,Y a1 n1 c1] 29));have y:(w.alloc (Q #[Y a0 n0 c0,Y a1 n1 c1] 29)).cell? (N w.heap.size 0 Z)=T (Y a0 n0 c0):=by simp
 have x:(w.alloc (Q #[Y a0 n0 c0,Y a1 n1 c1] 29)).cell? (N w.heap.size 1 Z)=T (Y a1 n1 c1):=by simp
 have A:=ae (l.below f ly);have QR:=ae (h.below f ly);have z:=ae m;have E:=ae g;clear l h m g;obtain⟨QP,o⟩:∃ QP,QP=aG (nm0 f0) n0 t:=⟨_,rfl⟩
 obtain⟨QO,q⟩:∃ QO,QO=aG (nm1 f1) n1 t:=⟨_,rfl⟩
 rw[<-o,<-q];have s:=ae o;have r:=ae q;clear o q;go_enter Tryz.func120,Tryz.ntmps120;go_wp2_with fail;refine(jY a0 n0 c0 a1 n1 c1 f0 t _ hn0 A z).mono ?_;rintro e w1 ⟨i,rfl,_,_,_,b⟩;have B:=(b.cell (p:=(N w.heap.size 0 Z)) (by simp)).trans y;have D:=(b.cell (p:=(N w.heap.size 1 Z)) (by simp)).trans x;have H:=ae (QR.below b ly);have u:=ae (f.trans (b.mono (by simp)));clear b y x f;rw[<-s.out];go_wp2_with fail;refine(jZ a0 n0 c0 a1 n1 c1 f1 t _ hn1 H E).mono ?_;rintro e w2 ⟨j,rfl,_,_,_,n⟩;have C:=ae (u.trans (n.mono u.size));clear n B D;rw[<-r.out];clear s r;cases QP
 all_goals
  go_wp2;go_ret;exact⟨rfl,C⟩
end Go.Proofs.YtamacmnikdejeaaGreatDoor.Vp
namespace Go.Proofs.YtamacmnikdejeaaGreatDoor.Vp
open RowKit
theorem uq (x:Link)(hb:Nat)(g:Option Addr)(n0 s:Nat)(f0:Nat->Source)(h:Option Addr)(n1 y:Nat)(f1:Nat->Target)(w:G)(o:hb<w.heap.size)(L:w.cell? (N hb 1 Z)=T (Y g n0 s))(QN:w.cell? (N hb 2 Z)=T (Y h n1 y))(hn0:(n0:Int)<=1048576)(hn1:(n1:Int)<=1048576)(m:SlSource w g n0 f0)(t:SlTarget w h n1 f1)(u:aI (nm0 f0) n0=QD)(n:aI (nm1 f1) n1=QD):Calls Tryz.prog 122 #[QG #[U x.name,QC x.ask,QC x.has,J I x.at_],.pointer (T (N hb 0 Z))] w fun e QM=>e=QF (QC (gC n0 f0 n1 f1 x))/\Below w.heap.size w QM:=by
 have b:=ae ((q9 w).alloc ly (Q #[U x.name,QC x.ask,QC x.has,J I x.at_] 129));obtain⟨r,E⟩:∃ r,r=gC n0 f0 n1 f1 x:=⟨_,rfl⟩
 rw[<-E];have QR:=ae (show r=(!x.ask && !(x.has == nM n0 f0 n1 f1 x.name)) from E);have i:=ae (m.below b.out ly);have j:=ae (t.below b.out ly);have O:=ae u;have M:=ae n;clear E m t u n;cases hq:x.ask with
 | true =>
  obtain rfl:r=QB:=by rw[QR.out,hq];rfl
  rw[hq] at b;go_enter Tryz.func122,Tryz.ntmps122;go_wp2_with fail;go_quiet (fail);go_wp2;go_ret;exact⟨rfl,AT b.out _⟩
 | false =>
  have A:Hid (r=!(x.has == nM n0 f0 n1 f1 x.name)):=by show _=_;rw[QR.out,hq];rfl
  rw[hq] at b i j;obtain⟨c,l⟩:∃ c,c=x.has:=⟨_,rfl⟩
  rw[<-l] at b i j A ⊢;clear l QR;have D:=ae (fun W (f:Below (w.alloc (Q #[U x.name,QC QB,QC c,J I x.at_] 129)).heap.size (w.alloc (Q #[U x.name,QC QB,QC c,J I x.at_] 129)) W)=>uZ g n0 s f0 h n1 y f1 x.name W hn0 hn1 (i.out.below f ly) (j.out.below f ly) O.out M.out);have m0:(w.alloc (Q #[U x.name,QC QB,QC c,J I x.at_] 129)).cell? (N w.heap.size 0 Z)=T (U x.name):=by simp
  have P:(w.alloc (Q #[U x.name,QC QB,QC c,J I x.at_] 129)).cell? (N w.heap.size 1 Z)=T (QC QB):=by simp
  have B:(w.alloc (Q #[U x.name,QC QB,QC c,J I x.at_] 129)).cell? (N w.heap.size 2 Z)=T (QC c):=by simp
  have K:=(b.out.cell (p:=(N hb 1 Z)) o).trans L;have QP:=(b.out.cell (p:=(N hb 2 Z)) o).trans QN;have hz:w.heap.size<(w.alloc (Q #[U x.name,QC QB,QC c,J I x.at_] 129)).heap.size:=by simp
  have H:hb<(w.alloc (Q #[U x.name,QC QB,QC c,J I x.at_] 129)).heap.size:=by omega
  have z:Hid (r=!(c == (aG (nm0 f0) n0 x.name || aG (nm1 f1) n1 x.name))):=A.out;generalize (aG (nm0 f0) n0 x.name || aG (nm1 f1) n1 x.name)=q at D z;clear i j A;go_enter Tryz.func122,Tryz.ntmps122;go_wp2_with fail;generalize w.alloc (Q #[U x.name,QC QB,QC c,J I x.at_] 129)=W at b D m0 P B K QP hz H ⊢;have K0:=ae (And.intro B (And.intro K QP))
  go_region_with (first
   | (go_at_call 120;refine(D.out _ ?_).mono ?_;(first | exact a8 _ _ | exact br.drew);rintro e QO ⟨rfl,f⟩;have C:Hid (Below W.heap.size W QO):=⟨f.os,f.tape,f.output,f.size,f.block⟩;have y2:=(C.out.cell (p:=(N w.heap.size 2 Z)) hz).trans B;have hz1:w.heap.size<QO.heap.size:=lj hz C.out.size;clear f))
  all_goals
   go_simp;go_wp2;go_ret;exact⟨by simp[z.out],b.out.trans (C.out.mono b.out.size)⟩
theorem rI (b off m c:Nat)(h:Nat->Link)(hb:Nat)(j:Option Addr)(n0 t:Nat)(f0:Nat->Source)(o:Option Addr)(n1 B:Nat)(f1:Nat->Target)(w:G)(hm:(m:Int)<=1048576)(n:RowLink w b off m h)(g:hb<w.heap.size)(A:w.cell? (N hb 1 Z)=T (Y j n0 t))(C:w.cell? (N hb 2 Z)=T (Y o n1 B))(hn0:(n0:Int)<=1048576)(hn1:(n1:Int)<=1048576)(q:SlSource w j n0 f0)(u:SlTarget w o n1 f1)(y:aI (nm0 f0) n0=QD)(s:aI (nm1 f1) n1=QD):Calls Tryz.prog 159 #[Y (T (N b off Z)) m c,.func (.func 122) #[] #[.pointer (T (N hb 0 Z))]] w fun e QN=>∃ r:Int,e=QF (J I r)/\decide (0<=r)=aJ (fun k=>gC n0 f0 n1 f1 (h k)) m/\Below w.heap.size w QN:=by
 have K:=ae n;have L:=ae (fun W (f:Below w.heap.size w W) x=>uq x hb j n0 t f0 o n1 B f1 W (lj g f.size) ((f.cell (p:=(N hb 1 Z)) g).trans A) ((f.cell (p:=(N hb 2 Z)) g).trans C) hn0 hn1 (q.below f ly) (u.below f ly) y s);clear n q u y s A C g;go_enter Tryz.func159,Tryz.ntmps159;go_wp2;go_loopw [8] (fun i wr=>∃ k:Nat,k<=m/\i=J I k/\Hid (aJ (fun k=>gC n0 f0 n1 f1 (h k)) k=QB)/\Hid (Below w.heap.size w wr)) (fun i _=>m - (intOf i).toNat);case atStart=>exact⟨0,by omega,rfl,rfl,a8 _ _⟩
 case round =>
  obtain⟨k,hk,rfl,QR,l⟩:=hrel;by_cases z:k<m
  ·obtain⟨H,M,QP,QO⟩:=(K.out.below l.out ly).2 k z
   go_wp2_with fail;go_at_call 122;refine(L.out _ l.out (h k)).mono ?_;rintro e w1 ⟨rfl,f⟩;have E:=ae (l.out.trans (f.mono l.out.size));clear f H M QP QO;cases hq:gC n0 f0 n1 f1 (h k) with
   | true =>have D:=ae hq;clear hq;go_wp2;go_ret;exact⟨k,rfl,by rw[cW (p:=fun k=>gC n0 f0 n1 f1 (h k)) z D.out];simp,E.out⟩
   | false =>have D:=ae hq;clear hq;go_wp2;exact⟨⟨k+1,by omega,by go_num,by show aJ _ (k+1)=QB;rw[aJ,QR.out,D.out];rfl,E.out⟩,by simp[intOf];omega⟩
  ·obtain rfl:k=m:=by omega
   go_wp2;go_ret;exact⟨-1,rfl,by rw[QR.out];rfl,l.out⟩
theorem rJ (a:Option Addr)(c hb:Nat)(w:G):Calls Tryz.prog 159 #[Y a 0 c,.func (.func 122) #[] #[.pointer (T (N hb 0 Z))]] w fun e b=>e=QF (J I (-1))/\b=w:=by
 go_enter Tryz.func159,Tryz.ntmps159;go_wp2;go_loop [8] (fun i=>i=J I 0) (fun _=>0);case atStart=>rfl
 case round =>subst hrel;go_wp2;go_ret;exact⟨rfl,rfl⟩
theorem rK (a:Option Addr)(m c:Nat)(h:Nat->Link)(hb:Nat)(g:Option Addr)(n0 l:Nat)(f0:Nat->Source)(i:Option Addr)(n1 j:Nat)(f1:Nat->Target)(w:G)(A:(m:Int)<=1048576)(f:SlLink w a m h)(u:hb<w.heap.size)(n:w.cell? (N hb 1 Z)=T (Y g n0 l))(t:w.cell? (N hb 2 Z)=T (Y i n1 j))(hn0:(n0:Int)<=1048576)(hn1:(n1:Int)<=1048576)(o:SlSource w g n0 f0)(x:SlTarget w i n1 f1)(z:aI (nm0 f0) n0=QD)(s:aI (nm1 f1) n1=QD):Calls Tryz.prog 159 #[Y a m c,.func (.func 122) #[] #[.pointer (T (N hb 0 Z))]] w fun e y=>∃ r:Int,e=QF (J I r)/\decide (0<=r)=aJ (fun k=>gC n0 f0 n1 f1 (h k)) m/\Below w.heap.size w y:=by
 rcases f with rfl | ⟨b,off,rfl,f⟩
 ·exact(rJ a c hb w).mono fun e y ⟨p,q⟩=>⟨-1,p,rfl,by rw[q];exact a8 _ _⟩
 ·exact rI b off m c h hb g n0 l f0 i n1 j f1 w A f u n t hn0 hn1 o x z s
theorem nZ (a:Option Addr)(m c:Nat)(h:Nat->Link)(hb:Nat)(b:Option Addr)(n0 p:Nat)(f0:Nat->Source)(g:Option Addr)(n1 q:Nat)(f1:Nat->Target)(w:G)(C:(m:Int)<=1048576)(f:SlLink w a m h)(u:hb<w.heap.size)(l:w.cell? (N hb 1 Z)=T (Y b n0 p))(s:w.cell? (N hb 2 Z)=T (Y g n1 q))(hn0:(n0:Int)<=1048576)(hn1:(n1:Int)<=1048576)(n:SlSource w b n0 f0)(i:SlTarget w g n1 f1)(j:aI (nm0 f0) n0=QD)(o:aI (nm1 f1) n1=QD):Calls Tryz.prog 121 #[Y a m c,.func (.func 122) #[] #[.pointer (T (N hb 0 Z))]] w fun e E=>e=QF (QC (aJ (fun k=>gC n0 f0 n1 f1 (h k)) m))/\Below w.heap.size w E:=by
 have z:=ae (rK a m c h hb b n0 p f0 g n1 q f1 w C f u l s hn0 hn1 n i j o);obtain⟨A,t⟩:∃ A,A=aJ (fun k=>gC n0 f0 n1 f1 (h k)) m:=⟨_,rfl⟩
 rw[<-t];rw[<-t] at z;clear t n i j o f l s;go_enter Tryz.func121,Tryz.ntmps121;go_wp2_with fail;refine z.out.mono ?_;rintro e w1 ⟨r,rfl,y,x⟩;have B:=ae y;have D:=ae x;clear y x;go_wp2;go_ret;exact⟨bo B.out,D.out⟩
theorem wK (y j n cap:Nat)(f:Option Addr)(n0 l:Nat)(f0:Nat->Source)(g:Option Addr)(n1 m:Nat)(f1:Nat->Target)(d:ah)(a0:Option Addr)(i:Nat)(a1:Option Addr)(b:Nat)(w:G)(hn0:(n0:Int)<=1048576)(hn1:(n1:Int)<=1048576)(q:SlSource w f n0 f0)(o:SlTarget w g n1 f1)(p:aI (nm0 f0) n0=QD)(s:aI (nm1 f1) n1=QD)(hL:SlLink w a1 d.linksN d.links)(hfl:d.linksN<=1048576):Calls Tryz.prog 71 #[QG #[Y (T (N y j Z)) n cap,Y f n0 l,Y g n1 m],QG #[U d.name,J I d.kind,J I d.code,U d.text,Y a0 d.actN i,Y a1 d.linksN b]] w fun e B=>e=QF (QC (hasB n0 f0 n1 f1 d))/\Below w.heap.size w B:=by
 have h:=ae (((q9 w).alloc ly (Q #[Y (T (N y j Z)) n cap,Y f n0 l,Y g n1 m] 77)).alloc (by simp) (Q #[U d.name,J I d.kind,J I d.code,U d.text,Y a0 d.actN i,Y a1 d.linksN b] 46));have z:=ae (nZ a1 d.linksN b d.links w.heap.size f n0 l f0 g n1 m f1 _ (by omega) (hL.below h.out ly) (by simp;omega) (by simp[go_sem]) (by simp[go_sem]) hn0 hn1 (q.below h.out ly) (o.below h.out ly) p s);obtain⟨r,t⟩:∃ r,r=hasB n0 f0 n1 f1 d:=⟨_,rfl⟩
 rw[<-t];have x:=ae (show aJ (fun k=>gC n0 f0 n1 f1 (d.links k)) d.linksN=r from t.symm);rw[x.out] at z;clear t q o p s hL x;go_enter Tryz.func71,Tryz.ntmps71;go_wp2_with fail;refine z.out.mono ?_;rintro e w1 ⟨rfl,u⟩;have A:=ae (h.out.trans (u.mono h.out.size));clear u;go_wp2;go_ret;exact⟨rfl,A.out⟩
end Go.Proofs.YtamacmnikdejeaaGreatDoor.Vp
