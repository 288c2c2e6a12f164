import Derived.Test.YtkdimgejdocbbaaGreatDoorZP
import Derived.Test.YtkdimgejdocbbaaGreatDoorZV
set_option maxRecDepth 100000
set_option maxHeartbeats 4000000
open Go.Addr renaming mk->J
open Go.Value renaming slice->Z,string->U,int->Q,bool->QA,agg->QE
open Option renaming none->Y,some->N
open Go.Obj renaming cells->T
open Go.IntKind renaming i64->I
open Go renaming World->E
open Bool renaming false->D,true->QC
open Go.Ending renaming returned->QD
namespace Go.Proofs.YtkdimgejdocbbaaGreatDoor.Vp
open RowKit Go.Sort
theorem mA:∀ a b:List UInt8,decide (Lib.compareBytes a b<0)=Op.bytesLess a b
 | [],[]=>by simp[Lib.compareBytes,Op.bytesLess]
 | [],_ :: _=>by simp[Lib.compareBytes,Op.bytesLess]
 | _ :: _,[]=>by simp[Lib.compareBytes,Op.bytesLess]
 | a :: x,b :: y=>by
  have f:=mA x y;rw[Lib.compareBytes,Op.bytesLess,<-f];by_cases h1:a<b
  ·simp[h1]
  ·rw[a8 h1]
   by_cases h2:b<a
   ·have d:¬ a=b:=fun e=>by subst e;exact h1 h2
    simp[h1,h2,d]
   ·have d:a=b:=UInt8.le_antisymm (L9.1 h2) (L9.1 h1)
    subst d;simp[h1]
theorem kl:∀ a b:List UInt8,decide (Lib.compareBytes a b=0)=(a == b)
 | [],[]=>by simp[Lib.compareBytes]
 | [],_ :: _=>by simp[Lib.compareBytes]
 | _ :: _,[]=>by simp[Lib.compareBytes]
 | a :: x,b :: y=>by
  have f:=kl x y;rw[Lib.compareBytes];by_cases h1:a<b
  ·have d:¬ a=b:=fun e=>by subst e;exact(UInt8.lt_irrefl _ h1)
   simp[h1,d]
  ·rw[a8 h1]
   by_cases h2:b<a
   ·have d:¬ a=b:=fun e=>by subst e;exact h1 h2
    simp[h2,d]
   ·have d:a=b:=UInt8.le_antisymm (L9.1 h2) (L9.1 h1)
    subst d;rw[a8 h2,f];simp
theorem rV (a b:ByteArray):∃ z:Int,Lib.compareBytes a.data.toList b.data.toList=z/\decide (z<0)=ay a b/\decide (z=0)=(a.toList == b.toList):=by
 refine⟨_,rfl,?_,?_⟩
 ·rw[mA]
  simp only[ay,IA]
 ·rw[kl]
  simp only[IA]
theorem jm (nm tx:ByteArray)(t:ByteArray)(w:E):Calls Tryz.prog 147 #[QE #[U nm,U tx],U t] w fun e g=>∃ z:Int,e=QD (Q I z)/\decide (z<0)=ay nm t/\decide (z=0)=(nm.toList == t.toList)/\Below w.heap.size w g:=by have h:=ae ((Qs w).alloc lr (T #[U nm,U tx] 104));obtain⟨z,hz,h1,h2⟩:=rV nm t;have f:=ae hz;have d:=ae h1;have b:=ae h2;clear hz h1 h2;go_enter Tryz.func147,Tryz.ntmps147;go_wp2_with fail;refine(Tryz.strings_Compare nm t _).mono ?_;rintro e w1 ⟨rfl,rfl⟩;rw[f.out];go_wp2;go_ret;exact⟨z,rfl,d,b,h⟩
theorem ni (b off n M:Nat)(f:Nat->Source)(t:ByteArray)(w:E)(hn:(n:Int)<=1048576)(L:RowSource w b off n f)(QN:aE (nm0 f) n=QC):Calls Tryz.prog 146 #[Z (N (J b off Y)) n M,U t,.func (.func 147) #[] #[]] w fun e R=>∃ i:Nat,e=QD (.tuple #[Q I (i:Int),QA (aF (nm0 f) n t)])/\i<=n/\(∀ m,m<i->ay (nm0 f m) t=QC)/\(∀ m,i<=m->m<n->ay (nm0 f m) t=D)/\Below w.heap.size w R:=by
 have A:=ae L;have G:=ae QN;clear L QN;obtain⟨QO,s⟩:∃ QO,QO=aF (nm0 f) n t:=⟨_,rfl⟩
 rw[<-s];have P:=ae s;clear s;go_enter Tryz.func146,Tryz.ntmps146;go_wp2;go_loopw [9,10] (fun i j wr=>∃ p q:Nat,p<=q/\q<=n/\i=Q I p/\j=Q I q/\Hid (∀ m,m<p->ay (nm0 f m) t=QC)/\Hid (∀ m,q<=m->m<n->ay (nm0 f m) t=D)/\Hid (Below w.heap.size w wr)) (fun i j _=>(intOf j).toNat - (intOf i).toNat);case atStart=>exact⟨0,n,by omega,by omega,rfl,rfl,fun m QP=>absurd QP (CV _),fun m h1 h2=>by omega,eI _ _⟩
 case round =>
  obtain⟨p,q,hpq,u,rfl,rfl,r,y,k⟩:=hrel;by_cases hlt:p<q
  ·obtain⟨m,QP⟩:∃ m:Nat,m=(p+q) / 2:=⟨_,rfl⟩
   have K:p<=m:=by omega
   have hm2:m<q:=by omega
   obtain⟨QK,S⟩:=(A.2 m (by omega)).below k A.1;have hsh:((p:Int)+q) / 2=m:=by omega
   clear QP;go_wp2_with fail;go_at_call 147;refine(jm (f m).name (f m).text t _).mono ?_;rintro e QM ⟨z,rfl,B,_,d⟩;have H:=ae B;have h:=ae (k.trans (d.mono k.size));clear B d;by_cases hz:z<0
   ·have o:Hid (ay (nm0 f m) t=QC):=by show ay (f m).name t=QC;rw[<-H.out];exact JK hz
    go_wp2;refine⟨⟨m+1,q,by omega,u,by go_num,rfl,fun x O=>?_,y,h⟩,by simp[intOf];omega⟩;by_cases e:x=m
    ·subst e;exact o
    ·exact du (fj G (show x<m by omega) (by omega)) o
   ·have o:Hid (ay (nm0 f m) t=D):=by show ay (f m).name t=D;rw[<-H.out];exact JT hz
    go_wp2;refine⟨⟨p,m,K,by omega,rfl,rfl,r,fun x h1 h2=>?_,h⟩,by simp[intOf];omega⟩;by_cases e:x=m
    ·subst e;exact o
    ·cases O:ay (nm0 f x) t with
     | false=>rfl
     | true =>have:=du (fj G (show m<x by omega) h2) O;rw[o.out] at this;cases this
  ·have e:p=q:=by omega
   subst e;have QL:=ae (P.trans (iK G u r y));by_cases l:p<n
   ·have hlt3:(p:Int)<n:=by omega
    obtain⟨QK,S⟩:=(A.2 p l).below k A.1;go_wp2_with fail;go_at_call 147;refine(jm (f p).name (f p).text t _).mono ?_;rintro e QM ⟨z,rfl,_,C,d⟩;have h:=ae (k.trans (d.mono k.size));have QQ:Hid (QO=decide (z=0)):=by show QO=_;rw[QL.out,C];simp[l]
    clear C d;by_cases hz:z=0
    ·have g:QO=QC:=by rw[QQ.out];exact JK hz
     subst g;subst hz;go_wp2;exact bp (v:=.tuple #[Q I p,QA QC]) (by simp[results,Tryz.results146,go_sem]) rfl ⟨p,rfl,u,r,y,h⟩
    ·have g:QO=D:=by rw[QQ.out];exact JT hz
     subst g;have hz':(z == 0)=D:=by simpa using hz
     go_wp2;exact bp (v:=.tuple #[Q I p,QA D]) (by simp[results,Tryz.results146,go_sem]) rfl ⟨p,rfl,u,r,y,h⟩
   ·have g:QO=D:=by rw[QL.out];simp[l]
    subst g;have hge:¬ (p:Int)<n:=by omega
    go_wp2;exact bp (v:=.tuple #[Q I p,QA D]) (by simp[results,Tryz.results146,go_sem]) rfl ⟨p,rfl,u,r,y,k⟩
theorem nr (a:Option Addr)(b:Nat)(g:Nat->ByteArray)(t:ByteArray)(w:E):Calls Tryz.prog 146 #[Z a 0 b,U t,.func (.func 147) #[] #[]] w fun e d=>e=QD (.tuple #[Q I 0,QA (aF g 0 t)])/\d=w:=by
 rw[lL];go_enter Tryz.func146,Tryz.ntmps146;go_wp2;go_loop [9,10] (fun i j=>i=Q I 0/\j=Q I 0) (fun _ _=>0);case atStart=>exact⟨rfl,rfl⟩
 case round =>obtain⟨rfl,rfl⟩:=hrel;go_wp2;exact bp (v:=.tuple #[Q I 0,QA D]) (by simp[results,Tryz.results146,go_sem]) rfl ⟨rfl,rfl⟩
theorem nu (a:Option Addr)(n d:Nat)(f:Nat->Source)(t:ByteArray)(w:E)(p:(n:Int)<=1048576)(g:SlSource w a n f)(k:aE (nm0 f) n=QC):Calls Tryz.prog 146 #[Z a n d,U t,.func (.func 147) #[] #[]] w fun e j=>∃ i:Nat,e=QD (.tuple #[Q I (i:Int),QA (aF (nm0 f) n t)])/\i<=n/\(∀ m,m<i->ay (nm0 f m) t=QC)/\(∀ m,i<=m->m<n->ay (nm0 f m) t=D)/\Below w.heap.size w j:=by
 rcases g with rfl | ⟨b,off,rfl,g⟩
 ·exact(nr a d _ t w).mono fun e j ⟨o,l⟩=>⟨0,o,by omega,fun m h=>absurd h (CV _),fun m _ h=>absurd h (CV _),by rw[l];exact eI _ _⟩
 ·exact ni b off n d f t w p g k
theorem eA (a0:Option Addr)(n0 c0:Nat)(a1:Option Addr)(n1 c1:Nat)(f:Nat->Source)(t:ByteArray)(w:E)(s:(n0:Int)<=1048576)(g:SlSource w a0 n0 f)(d:aE (nm0 f) n0=QC):Calls Tryz.prog 64 #[QE #[Z a0 n0 c0,Z a1 n1 c1],U t] w fun e l=>∃ i:Nat,e=QD (.tuple #[Q I (i:Int),QA (aF (nm0 f) n0 t)])/\i<=n0/\(∀ m,m<i->ay (nm0 f m) t=QC)/\(∀ m,i<=m->m<n0->ay (nm0 f m) t=D)/\Below w.heap.size w l:=by
 have j:=ae ((Qs w).alloc lr (T #[Z a0 n0 c0,Z a1 n1 c1] 26));have r:=ae (g.below j lr);have k:=ae d;clear g d;obtain⟨QO,b⟩:∃ QO,QO=aF (nm0 f) n0 t:=⟨_,rfl⟩
 rw[<-b];have p:=ae b;clear b;go_enter Tryz.func64,Tryz.ntmps64;go_wp2_with fail;refine(nu a0 n0 c0 f t _ s r k).mono ?_;rintro e w1 ⟨i,rfl,hi,h1,h2,h⟩;rw[<-p.out];have q:=ae h1;have n:=ae h2;have o:=ae (j.trans (h.mono (by simp)));clear h1 h2 h;go_wp2;exact bp (v:=.tuple #[Q I i,QA QO]) (by simp[results,Tryz.results64,go_sem]) rfl ⟨i,rfl,hi,q,n,o⟩
theorem jn (nm:ByteArray)(a:Option Addr)(k d:Nat)(t:ByteArray)(w:E):Calls Tryz.prog 162 #[QE #[U nm,Z a k d],U t] w fun e f=>∃ z:Int,e=QD (Q I z)/\decide (z<0)=ay nm t/\decide (z=0)=(nm.toList == t.toList)/\Below w.heap.size w f:=by have i:=ae ((Qs w).alloc lr (T #[U nm,Z a k d] 108));obtain⟨z,hz,h1,h2⟩:=rV nm t;have h:=ae hz;have g:=ae h1;have b:=ae h2;clear hz h1 h2;go_enter Tryz.func162,Tryz.ntmps162;go_wp2_with fail;refine(Tryz.strings_Compare nm t _).mono ?_;rintro e w1 ⟨rfl,rfl⟩;rw[h.out];go_wp2;go_ret;exact⟨z,rfl,g,b,i⟩
theorem nw (b off n O:Nat)(f:Nat->Target)(t:ByteArray)(w:E)(hn:(n:Int)<=1048576)(QL:RowTarget w b off n f)(L:aE (nm1 f) n=QC):Calls Tryz.prog 161 #[Z (N (J b off Y)) n O,U t,.func (.func 162) #[] #[]] w fun e QK=>∃ i:Nat,e=QD (.tuple #[Q I (i:Int),QA (aF (nm1 f) n t)])/\i<=n/\(∀ m,m<i->ay (nm1 f m) t=QC)/\(∀ m,i<=m->m<n->ay (nm1 f m) t=D)/\Below w.heap.size w QK:=by
 have A:=ae QL;have QN:=ae L;clear QL L;obtain⟨QO,s⟩:∃ QO,QO=aF (nm1 f) n t:=⟨_,rfl⟩
 rw[<-s];have R:=ae s;clear s;go_enter Tryz.func161,Tryz.ntmps161;go_wp2;go_loopw [9,10] (fun i j wr=>∃ p q:Nat,p<=q/\q<=n/\i=Q I p/\j=Q I q/\Hid (∀ m,m<p->ay (nm1 f m) t=QC)/\Hid (∀ m,q<=m->m<n->ay (nm1 f m) t=D)/\Hid (Below w.heap.size w wr)) (fun i j _=>(intOf j).toNat - (intOf i).toNat);case atStart=>exact⟨0,n,by omega,by omega,rfl,rfl,fun m H=>absurd H (CV _),fun m h1 h2=>by omega,eI _ _⟩
 case round =>
  obtain⟨p,q,hpq,u,rfl,rfl,r,y,k⟩:=hrel;by_cases hlt:p<q
  ·obtain⟨m,H⟩:∃ m:Nat,m=(p+q) / 2:=⟨_,rfl⟩
   have M:p<=m:=by omega
   have hm2:m<q:=by omega
   obtain⟨V,G,QP,QJ,_⟩:=(A.2 m (by omega)).below k lr A.1;have hsh:((p:Int)+q) / 2=m:=by omega
   clear H;go_wp2_with fail;go_at_call 162;refine(jn (f m).name G (f m).actN QP t _).mono ?_;rintro e S ⟨z,rfl,B,_,d⟩;have K:=ae B;have h:=ae (k.trans (d.mono k.size));clear B d;by_cases hz:z<0
   ·have o:Hid (ay (nm1 f m) t=QC):=by show ay (f m).name t=QC;rw[<-K.out];exact JK hz
    go_wp2;refine⟨⟨m+1,q,by omega,u,by go_num,rfl,fun x QM=>?_,y,h⟩,by simp[intOf];omega⟩;by_cases e:x=m
    ·subst e;exact o
    ·exact du (fj QN (show x<m by omega) (by omega)) o
   ·have o:Hid (ay (nm1 f m) t=D):=by show ay (f m).name t=D;rw[<-K.out];exact JT hz
    go_wp2;refine⟨⟨p,m,M,by omega,rfl,rfl,r,fun x h1 h2=>?_,h⟩,by simp[intOf];omega⟩;by_cases e:x=m
    ·subst e;exact o
    ·cases QM:ay (nm1 f x) t with
     | false=>rfl
     | true =>have:=du (fj QN (show m<x by omega) h2) QM;rw[o.out] at this;cases this
  ·have e:p=q:=by omega
   subst e;have P:=ae (R.trans (iK QN u r y));by_cases l:p<n
   ·have hlt3:(p:Int)<n:=by omega
    obtain⟨V,G,QP,QJ,_⟩:=(A.2 p l).below k lr A.1;go_wp2_with fail;go_at_call 162;refine(jn (f p).name G (f p).actN QP t _).mono ?_;rintro e S ⟨z,rfl,_,C,d⟩;have h:=ae (k.trans (d.mono k.size));have QQ:Hid (QO=decide (z=0)):=by show QO=_;rw[P.out,C];simp[l]
    clear C d;by_cases hz:z=0
    ·have g:QO=QC:=by rw[QQ.out];exact JK hz
     subst g;subst hz;go_wp2;exact bp (v:=.tuple #[Q I p,QA QC]) (by simp[results,Tryz.results161,go_sem]) rfl ⟨p,rfl,u,r,y,h⟩
    ·have g:QO=D:=by rw[QQ.out];exact JT hz
     subst g;have hz':(z == 0)=D:=by simpa using hz
     go_wp2;exact bp (v:=.tuple #[Q I p,QA D]) (by simp[results,Tryz.results161,go_sem]) rfl ⟨p,rfl,u,r,y,h⟩
   ·have g:QO=D:=by rw[P.out];simp[l]
    subst g;have hge:¬ (p:Int)<n:=by omega
    go_wp2;exact bp (v:=.tuple #[Q I p,QA D]) (by simp[results,Tryz.results161,go_sem]) rfl ⟨p,rfl,u,r,y,k⟩
theorem ny (a:Option Addr)(b:Nat)(g:Nat->ByteArray)(t:ByteArray)(w:E):Calls Tryz.prog 161 #[Z a 0 b,U t,.func (.func 162) #[] #[]] w fun e d=>e=QD (.tuple #[Q I 0,QA (aF g 0 t)])/\d=w:=by
 rw[lL];go_enter Tryz.func161,Tryz.ntmps161;go_wp2;go_loop [9,10] (fun i j=>i=Q I 0/\j=Q I 0) (fun _ _=>0);case atStart=>exact⟨rfl,rfl⟩
 case round =>obtain⟨rfl,rfl⟩:=hrel;go_wp2;exact bp (v:=.tuple #[Q I 0,QA D]) (by simp[results,Tryz.results161,go_sem]) rfl ⟨rfl,rfl⟩
theorem nA (a:Option Addr)(n d:Nat)(f:Nat->Target)(t:ByteArray)(w:E)(p:(n:Int)<=1048576)(g:SlTarget w a n f)(k:aE (nm1 f) n=QC):Calls Tryz.prog 161 #[Z a n d,U t,.func (.func 162) #[] #[]] w fun e j=>∃ i:Nat,e=QD (.tuple #[Q I (i:Int),QA (aF (nm1 f) n t)])/\i<=n/\(∀ m,m<i->ay (nm1 f m) t=QC)/\(∀ m,i<=m->m<n->ay (nm1 f m) t=D)/\Below w.heap.size w j:=by
 rcases g with rfl | ⟨b,off,rfl,g⟩
 ·exact(ny a d _ t w).mono fun e j ⟨o,l⟩=>⟨0,o,by omega,fun m h=>absurd h (CV _),fun m _ h=>absurd h (CV _),by rw[l];exact eI _ _⟩
 ·exact nw b off n d f t w p g k
theorem fy (a0:Option Addr)(n0 c0:Nat)(a1:Option Addr)(n1 c1:Nat)(f:Nat->Target)(t:ByteArray)(w:E)(s:(n1:Int)<=1048576)(g:SlTarget w a1 n1 f)(d:aE (nm1 f) n1=QC):Calls Tryz.prog 82 #[QE #[Z a0 n0 c0,Z a1 n1 c1],U t] w fun e l=>∃ i:Nat,e=QD (.tuple #[Q I (i:Int),QA (aF (nm1 f) n1 t)])/\i<=n1/\(∀ m,m<i->ay (nm1 f m) t=QC)/\(∀ m,i<=m->m<n1->ay (nm1 f m) t=D)/\Below w.heap.size w l:=by
 have j:=ae ((Qs w).alloc lr (T #[Z a0 n0 c0,Z a1 n1 c1] 26));have r:=ae (g.below j lr);have k:=ae d;clear g d;obtain⟨QO,b⟩:∃ QO,QO=aF (nm1 f) n1 t:=⟨_,rfl⟩
 rw[<-b];have p:=ae b;clear b;go_enter Tryz.func82,Tryz.ntmps82;go_wp2_with fail;refine(nA a1 n1 c1 f t _ s r k).mono ?_;rintro e w1 ⟨i,rfl,hi,h1,h2,h⟩;rw[<-p.out];have q:=ae h1;have n:=ae h2;have o:=ae (j.trans (h.mono (by simp)));clear h1 h2 h;go_wp2;exact bp (v:=.tuple #[Q I i,QA QO]) (by simp[results,Tryz.results82,go_sem]) rfl ⟨i,rfl,hi,q,n,o⟩
theorem o8 (a0:Option Addr)(n0 c0:Nat)(f0:Nat->Source)(a1:Option Addr)(n1 c1:Nat)(f1:Nat->Target)(t:ByteArray)(w:E)(hn0:(n0:Int)<=1048576)(hn1:(n1:Int)<=1048576)(g:SlSource w a0 n0 f0)(h:SlTarget w a1 n1 f1)(f:aE (nm0 f0) n0=QC)(k:aE (nm1 f1) n1=QC):Calls Tryz.prog 88 #[QE #[Z a0 n0 c0,Z a1 n1 c1],U t] w fun e QP=>e=QD (QA (aF (nm0 f0) n0 t || aF (nm1 f1) n1 t))/\Below w.heap.size w QP:=by
 have d:=ae ((Qs w).alloc lr (T #[Z a0 n0 c0,Z a1 n1 c1] 26));have r:(w.alloc (T #[Z a0 n0 c0,Z a1 n1 c1] 26)).cell? (J w.heap.size 0 Y)=N (Z a0 n0 c0):=by simp
 have s:(w.alloc (T #[Z a0 n0 c0,Z a1 n1 c1] 26)).cell? (J w.heap.size 1 Y)=N (Z a1 n1 c1):=by simp
 have B:=ae (g.below d lr);have z:=ae (h.below d lr);have QQ:=ae f;have G:=ae k;clear g h f k;obtain⟨QO,n⟩:∃ QO,QO=aF (nm0 f0) n0 t:=⟨_,rfl⟩
 obtain⟨QN,m⟩:∃ QN,QN=aF (nm1 f1) n1 t:=⟨_,rfl⟩
 rw[<-n,<-m];have q:=ae n;have u:=ae m;clear n m;go_enter Tryz.func88,Tryz.ntmps88;go_wp2_with fail;refine(eA a0 n0 c0 a1 n1 c1 f0 t _ hn0 B QQ).mono ?_;rintro e w1 ⟨i,rfl,_,_,_,b⟩;have C:=(b.cell (p:=(J w.heap.size 0 Y)) (by simp)).trans r;have A:=(b.cell (p:=(J w.heap.size 1 Y)) (by simp)).trans s;have x:=ae (z.below b lr);have o:=ae (d.trans (b.mono (by simp)));clear b r s d;rw[<-q.out];go_wp2_with fail;refine(fy a0 n0 c0 a1 n1 c1 f1 t _ hn1 x G).mono ?_;rintro e w2 ⟨j,rfl,_,_,_,l⟩;have y:=ae (o.trans (l.mono o.size));clear l C A;rw[<-u.out];clear q u;cases QO
 all_goals
  go_wp2;go_ret;exact⟨rfl,y⟩
end Go.Proofs.YtkdimgejdocbbaaGreatDoor.Vp
namespace Go.Proofs.YtkdimgejdocbbaaGreatDoor.Vp
open RowKit
theorem tW (x:Link)(hb:Nat)(g:Option Addr)(n0 m:Nat)(f0:Nat->Source)(f:Option Addr)(n1 o:Nat)(f1:Nat->Target)(w:E)(t:hb<w.heap.size)(K:w.cell? (J hb 1 Y)=N (Z g n0 m))(QP:w.cell? (J hb 2 Y)=N (Z f n1 o))(hn0:(n0:Int)<=1048576)(hn1:(n1:Int)<=1048576)(k:SlSource w g n0 f0)(u:SlTarget w f n1 f1)(n:aE (nm0 f0) n0=QC)(j:aE (nm1 f1) n1=QC):Calls Tryz.prog 232 #[QE #[U x.name,QA x.ask,QA x.has,Q I x.at_],.pointer (N (J hb 0 Y))] w fun e O=>e=QD (QA (fY n0 f0 n1 f1 x))/\Below w.heap.size w O:=by
 have b:=ae ((Qs w).alloc lr (T #[U x.name,QA x.ask,QA x.has,Q I x.at_] 64));obtain⟨r,z⟩:∃ r,r=fY n0 f0 n1 f1 x:=⟨_,rfl⟩
 rw[<-z];have A:=ae (show r=(!x.ask && !(x.has == jB n0 f0 n1 f1 x.name)) from z);have i:=ae (k.below b.out lr);have h:=ae (u.below b.out lr);have M:=ae n;have L:=ae j;clear z k u n j;cases hq:x.ask with
 | true =>
  obtain rfl:r=D:=by rw[A.out,hq];rfl
  rw[hq] at b;go_enter Tryz.func232,Tryz.ntmps232;go_wp2_with fail;go_quiet (fail);go_wp2;go_ret;exact⟨rfl,xT b.out _⟩
 | false =>
  have y:Hid (r=!(x.has == jB n0 f0 n1 f1 x.name)):=by show _=_;rw[A.out,hq];rfl
  rw[hq] at b i h;obtain⟨c,l⟩:∃ c,c=x.has:=⟨_,rfl⟩
  rw[<-l] at b i h y ⊢;clear l A;have QQ:=ae (fun W (d:Below (w.alloc (T #[U x.name,QA D,QA c,Q I x.at_] 64)).heap.size (w.alloc (T #[U x.name,QA D,QA c,Q I x.at_] 64)) W)=>o8 g n0 m f0 f n1 o f1 x.name W hn0 hn1 (i.out.below d lr) (h.out.below d lr) M.out L.out);have m0:(w.alloc (T #[U x.name,QA D,QA c,Q I x.at_] 64)).cell? (J w.heap.size 0 Y)=N (U x.name):=by simp
  have P:(w.alloc (T #[U x.name,QA D,QA c,Q I x.at_] 64)).cell? (J w.heap.size 1 Y)=N (QA D):=by simp
  have C:(w.alloc (T #[U x.name,QA D,QA c,Q I x.at_] 64)).cell? (J w.heap.size 2 Y)=N (QA c):=by simp
  have QO:=(b.out.cell (p:=(J hb 1 Y)) t).trans K;have QL:=(b.out.cell (p:=(J hb 2 Y)) t).trans QP;have hz:w.heap.size<(w.alloc (T #[U x.name,QA D,QA c,Q I x.at_] 64)).heap.size:=by simp
  have QN:hb<(w.alloc (T #[U x.name,QA D,QA c,Q I x.at_] 64)).heap.size:=by omega
  have s:Hid (r=!(c == (aF (nm0 f0) n0 x.name || aF (nm1 f1) n1 x.name))):=y.out;generalize (aF (nm0 f0) n0 x.name || aF (nm1 f1) n1 x.name)=q at QQ s;clear i h y;go_enter Tryz.func232,Tryz.ntmps232;go_wp2_with fail;generalize w.alloc (T #[U x.name,QA D,QA c,Q I x.at_] 64)=W at b QQ m0 P C QO QL hz QN ⊢;have K0:=ae (G.intro C (G.intro QO QL))
  go_region_with (first
   | (go_at_call 88;refine(QQ.out _ ?_).mono ?_;(first | exact eI _ _ | exact br.drew);rintro e H ⟨rfl,d⟩;have B:Hid (Below W.heap.size W H):=⟨d.os,d.tape,d.output,d.size,d.block⟩;have y2:=(B.out.cell (p:=(J w.heap.size 2 Y)) hz).trans C;have hz1:w.heap.size<H.heap.size:=ll hz B.out.size;clear d))
  all_goals
   go_simp;go_wp2;go_ret;exact⟨by simp[s.out],b.out.trans (B.out.mono b.out.size)⟩
theorem qP (b off m c:Nat)(h:Nat->Link)(hb:Nat)(n:Option Addr)(n0 y:Nat)(f0:Nat->Source)(g:Option Addr)(n1 A:Nat)(f1:Nat->Target)(w:E)(hm:(m:Int)<=1048576)(l:RowLink w b off m h)(f:hb<w.heap.size)(t:w.cell? (J hb 1 Y)=N (Z n n0 y))(o:w.cell? (J hb 2 Y)=N (Z g n1 A))(hn0:(n0:Int)<=1048576)(hn1:(n1:Int)<=1048576)(s:SlSource w n n0 f0)(B:SlTarget w g n1 f1)(z:aE (nm0 f0) n0=QC)(q:aE (nm1 f1) n1=QC):Calls Tryz.prog 181 #[Z (N (J b off Y)) m c,.func (.func 232) #[] #[.pointer (N (J hb 0 Y))]] w fun e H=>∃ r:Int,e=QD (Q I r)/\decide (0<=r)=aH (fun k=>fY n0 f0 n1 f1 (h k)) m/\Below w.heap.size w H:=by
 have M:=ae l;have QN:=ae (fun W (d:Below w.heap.size w W) x=>tW x hb n n0 y f0 g n1 A f1 W (ll f d.size) ((d.cell (p:=(J hb 1 Y)) f).trans t) ((d.cell (p:=(J hb 2 Y)) f).trans o) hn0 hn1 (s.below d lr) (B.below d lr) z q);clear l s B z q t o f;go_enter Tryz.func181,Tryz.ntmps181;go_wp2;go_loopw [8] (fun i wr=>∃ k:Nat,k<=m/\i=Q I k/\Hid (aH (fun k=>fY n0 f0 n1 f1 (h k)) k=D)/\Hid (Below w.heap.size w wr)) (fun i _=>m - (intOf i).toNat);case atStart=>exact⟨0,by omega,rfl,rfl,eI _ _⟩
 case round =>
  obtain⟨k,hk,rfl,QP,j⟩:=hrel;by_cases u:k<m
  ·obtain⟨L,QO,K,G⟩:=(M.out.below j.out lr).2 k u
   go_wp2_with fail;go_at_call 232;refine(QN.out _ j.out (h k)).mono ?_;rintro e w1 ⟨rfl,d⟩;have QQ:=ae (j.out.trans (d.mono j.out.size));clear d L QO K G;cases hq:fY n0 f0 n1 f1 (h k) with
   | true =>have C:=ae hq;clear hq;go_wp2;go_ret;exact⟨k,rfl,by rw[cO (p:=fun k=>fY n0 f0 n1 f1 (h k)) u C.out];simp,QQ.out⟩
   | false =>have C:=ae hq;clear hq;go_wp2;exact⟨⟨k+1,by omega,by go_num,by show aH _ (k+1)=D;rw[aH,QP.out,C.out];rfl,QQ.out⟩,by simp[intOf];omega⟩
  ·obtain rfl:k=m:=by omega
   go_wp2;go_ret;exact⟨-1,rfl,by rw[QP.out];rfl,j.out⟩
theorem qQ (a:Option Addr)(c hb:Nat)(w:E):Calls Tryz.prog 181 #[Z a 0 c,.func (.func 232) #[] #[.pointer (N (J hb 0 Y))]] w fun e b=>e=QD (Q I (-1))/\b=w:=by
 go_enter Tryz.func181,Tryz.ntmps181;go_wp2;go_loop [8] (fun i=>i=Q I 0) (fun _=>0);case atStart=>rfl
 case round =>subst hrel;go_wp2;go_ret;exact⟨rfl,rfl⟩
theorem qR (a:Option Addr)(m c:Nat)(h:Nat->Link)(hb:Nat)(g:Option Addr)(n0 i:Nat)(f0:Nat->Source)(f:Option Addr)(n1 j:Nat)(f1:Nat->Target)(w:E)(z:(m:Int)<=1048576)(d:SlLink w a m h)(u:hb<w.heap.size)(t:w.cell? (J hb 1 Y)=N (Z g n0 i))(l:w.cell? (J hb 2 Y)=N (Z f n1 j))(hn0:(n0:Int)<=1048576)(hn1:(n1:Int)<=1048576)(o:SlSource w g n0 f0)(x:SlTarget w f n1 f1)(y:aE (nm0 f0) n0=QC)(n:aE (nm1 f1) n1=QC):Calls Tryz.prog 181 #[Z a m c,.func (.func 232) #[] #[.pointer (N (J hb 0 Y))]] w fun e s=>∃ r:Int,e=QD (Q I r)/\decide (0<=r)=aH (fun k=>fY n0 f0 n1 f1 (h k)) m/\Below w.heap.size w s:=by
 rcases d with rfl | ⟨b,off,rfl,d⟩
 ·exact(qQ a c hb w).mono fun e s ⟨p,q⟩=>⟨-1,p,rfl,by rw[q];exact eI _ _⟩
 ·exact qP b off m c h hb g n0 i f0 f n1 j f1 w z d u t l hn0 hn1 o x y n
theorem nB (a:Option Addr)(m c:Nat)(h:Nat->Link)(hb:Nat)(f:Option Addr)(n0 j:Nat)(f0:Nat->Source)(b:Option Addr)(n1 q:Nat)(f1:Nat->Target)(w:E)(QQ:(m:Int)<=1048576)(d:SlLink w a m h)(t:hb<w.heap.size)(p:w.cell? (J hb 1 Y)=N (Z f n0 j))(g:w.cell? (J hb 2 Y)=N (Z b n1 q))(hn0:(n0:Int)<=1048576)(hn1:(n1:Int)<=1048576)(i:SlSource w f n0 f0)(n:SlTarget w b n1 f1)(l:aE (nm0 f0) n0=QC)(o:aE (nm1 f1) n1=QC):Calls Tryz.prog 111 #[Z a m c,.func (.func 232) #[] #[.pointer (N (J hb 0 Y))]] w fun e B=>e=QD (QA (aH (fun k=>fY n0 f0 n1 f1 (h k)) m))/\Below w.heap.size w B:=by
 have u:=ae (qR a m c h hb f n0 j f0 b n1 q f1 w QQ d t p g hn0 hn1 i n l o);obtain⟨A,s⟩:∃ A,A=aH (fun k=>fY n0 f0 n1 f1 (h k)) m:=⟨_,rfl⟩
 rw[<-s];rw[<-s] at u;clear s i n l o d p g;go_enter Tryz.func111,Tryz.ntmps111;go_wp2_with fail;refine u.out.mono ?_;rintro e w1 ⟨r,rfl,x,y⟩;have z:=ae x;have C:=ae y;clear x y;go_wp2;go_ret;exact⟨aW z.out,C.out⟩
theorem wD (x m n p:Nat)(g:Option Addr)(n0 h:Nat)(f0:Nat->Source)(f:Option Addr)(n1 j:Nat)(f1:Nat->Target)(d:aj)(a0:Option Addr)(l:Nat)(a1:Option Addr)(b:Nat)(w:E)(hn0:(n0:Int)<=1048576)(hn1:(n1:Int)<=1048576)(o:SlSource w g n0 f0)(s:SlTarget w f n1 f1)(q:aE (nm0 f0) n0=QC)(t:aE (nm1 f1) n1=QC)(hL:SlLink w a1 d.linksN d.links)(hfl:d.linksN<=1048576):Calls Tryz.prog 189 #[QE #[Z (N (J x m Y)) n p,Z g n0 h,Z f n1 j],QE #[U d.name,Q I d.kind,Q I d.code,U d.text,Z a0 d.actN l,Z a1 d.linksN b]] w fun e C=>e=QD (QA (hasB n0 f0 n1 f1 d))/\Below w.heap.size w C:=by
 have i:=ae (((Qs w).alloc lr (T #[Z (N (J x m Y)) n p,Z g n0 h,Z f n1 j] 165)).alloc (by simp) (T #[U d.name,Q I d.kind,Q I d.code,U d.text,Z a0 d.actN l,Z a1 d.linksN b] 58));have z:=ae (nB a1 d.linksN b d.links w.heap.size g n0 h f0 f n1 j f1 _ (by omega) (hL.below i.out lr) (by simp;omega) (by simp[go_sem]) (by simp[go_sem]) hn0 hn1 (o.below i.out lr) (s.below i.out lr) q t);obtain⟨r,u⟩:∃ r,r=hasB n0 f0 n1 f1 d:=⟨_,rfl⟩
 rw[<-u];have y:=ae (show aH (fun k=>fY n0 f0 n1 f1 (d.links k)) d.linksN=r from u.symm);rw[y.out] at z;clear u o s q t hL y;go_enter Tryz.func189,Tryz.ntmps189;go_wp2_with fail;refine z.out.mono ?_;rintro e w1 ⟨rfl,A⟩;have B:=ae (i.out.trans (A.mono i.out.size));clear A;go_wp2;go_ret;exact⟨rfl,B.out⟩
end Go.Proofs.YtkdimgejdocbbaaGreatDoor.Vp
