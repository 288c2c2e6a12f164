import Derived.Test.YtkdimgejdocbbaaGreatDoorZP
import Derived.Test.YtkdimgejdocbbaaGreatDoorZV
set_option maxRecDepth 100000
set_option maxHeartbeats 4000000
open Go.Addr renaming mk->J
open Go.Value renaming slice->Y,string->U,int->N,bool->QA,agg->QE
open Option renaming none->Z,some->Q
open Go.Obj renaming cells->T
open Go.IntKind renaming i64->I
open Go renaming World->E
open Bool renaming false->D,true->QC
open Go.Ending renaming returned->QD
namespace Go.Proofs.YtkdimgejdocbbaaGreatDoor.Vp
open RowKit Go.Sort
theorem mA:∀ a b:List UInt8,decide (Lib.compareBytes a b<0)=Op.bytesLess a b
 | [],[]=>by simp[Lib.compareBytes,Op.bytesLess]
 | [],_ :: _=>by simp[Lib.compareBytes,Op.bytesLess]
 | _ :: _,[]=>by simp[Lib.compareBytes,Op.bytesLess]
 | a :: x,b :: y=>by
  have f:=mA x y;rw[Lib.compareBytes,Op.bytesLess,<-f];by_cases h1:a<b
  ·simp[h1]
  ·rw[a8 h1]
   by_cases h2:b<a
   ·have d:¬ a=b:=fun e=>by subst e;exact h1 h2
    simp[h1,h2,d]
   ·have d:a=b:=UInt8.le_antisymm (LY.1 h2) (LY.1 h1)
    subst d;simp[h1]
theorem kl:∀ a b:List UInt8,decide (Lib.compareBytes a b=0)=(a == b)
 | [],[]=>by simp[Lib.compareBytes]
 | [],_ :: _=>by simp[Lib.compareBytes]
 | _ :: _,[]=>by simp[Lib.compareBytes]
 | a :: x,b :: y=>by
  have f:=kl x y;rw[Lib.compareBytes];by_cases h1:a<b
  ·have d:¬ a=b:=fun e=>by subst e;exact(UInt8.lt_irrefl _ h1)
   simp[h1,d]
  ·rw[a8 h1]
   by_cases h2:b<a
   ·have d:¬ a=b:=fun e=>by subst e;exact h1 h2
    simp[h2,d]
   ·have d:a=b:=UInt8.le_antisymm (LY.1 h2) (LY.1 h1)
    subst d;rw[a8 h2,f];simp
theorem rV (a b:ByteArray):∃ z:Int,Lib.compareBytes a.data.toList b.data.toList=z/\decide (z<0)=ay a b/\decide (z=0)=(a.toList == b.toList):=by
 refine⟨_,rfl,?_,?_⟩
 ·rw[mA]
  simp only[ay,H7]
 ·rw[kl]
  simp only[H7]
theorem jm (nm tx:ByteArray)(t:ByteArray)(w:E):Calls Tryz.prog 147 #[QE #[U nm,U tx],U t] w fun e g=>∃ z:Int,e=QD (N I z)/\decide (z<0)=ay nm t/\decide (z=0)=(nm.toList == t.toList)/\Below w.heap.size w g:=by have d:=ae ((Qs w).alloc lr (T #[U nm,U tx] 104));obtain⟨z,hz,h1,h2⟩:=rV nm t;have h:=ae hz;have f:=ae h1;have b:=ae h2;clear hz h1 h2;go_enter Tryz.func147,Tryz.ntmps147;go_wp2_with fail;refine(Tryz.strings_Compare nm t _).mono ?_;rintro e w1 ⟨rfl,rfl⟩;rw[h.out];go_wp2;go_ret;exact⟨z,rfl,f,b,d⟩
theorem ni (b off n QN:Nat)(f:Nat->Source)(t:ByteArray)(w:E)(hn:(n:Int)<=1048576)(L:RowSource w b off n f)(K:aE (nm0 f) n=QC):Calls Tryz.prog 146 #[Y (Q (J b off Z)) n QN,U t,.func (.func 147) #[] #[]] w fun e R=>∃ i:Nat,e=QD (.tuple #[N I (i:Int),QA (aF (nm0 f) n t)])/\i<=n/\(∀ m,m<i->ay (nm0 f m) t=QC)/\(∀ m,i<=m->m<n->ay (nm0 f m) t=D)/\Below w.heap.size w R:=by
 have A:=ae L;have QP:=ae K;clear L K;obtain⟨QO,y⟩:∃ QO,QO=aF (nm0 f) n t:=⟨_,rfl⟩
 rw[<-y];have O:=ae y;clear y;go_enter Tryz.func146,Tryz.ntmps146;go_wp2;go_loopw [9,10] (fun i j wr=>∃ p q:Nat,p<=q/\q<=n/\i=N I p/\j=N I q/\Hid (∀ m,m<p->ay (nm0 f m) t=QC)/\Hid (∀ m,q<=m->m<n->ay (nm0 f m) t=D)/\Hid (Below w.heap.size w wr)) (fun i j _=>(intOf j).toNat - (intOf i).toNat);case atStart=>exact⟨0,n,by omega,by omega,rfl,rfl,fun m G=>absurd G (CS _),fun m h1 h2=>by omega,eI _ _⟩
 case round =>
  obtain⟨p,q,hpq,r,rfl,rfl,o,u,l⟩:=hrel;by_cases hlt:p<q
  ·obtain⟨m,G⟩:∃ m:Nat,m=(p+q) / 2:=⟨_,rfl⟩
   have P:p<=m:=by omega
   have hm2:m<q:=by omega
   obtain⟨S,QL⟩:=(A.2 m (by omega)).below l A.1;have hsh:((p:Int)+q) / 2=m:=by omega
   clear G;go_wp2_with fail;go_at_call 147;refine(jm (f m).name (f m).text t _).mono ?_;rintro e QK ⟨z,rfl,QQ,_,g⟩;have H:=ae QQ;have h:=ae (l.trans (g.mono l.size));clear QQ g;by_cases hz:z<0
   ·have s:Hid (ay (nm0 f m) t=QC):=by show ay (f m).name t=QC;rw[<-H.out];exact JJ hz
    go_wp2;refine⟨⟨m+1,q,by omega,r,by go_num,rfl,fun x QM=>?_,u,h⟩,by simp[intOf];omega⟩;by_cases e:x=m
    ·subst e;exact s
    ·exact du (fj QP (show x<m by omega) (by omega)) s
   ·have s:Hid (ay (nm0 f m) t=D):=by show ay (f m).name t=D;rw[<-H.out];exact JS hz
    go_wp2;refine⟨⟨p,m,P,by omega,rfl,rfl,o,fun x h1 h2=>?_,h⟩,by simp[intOf];omega⟩;by_cases e:x=m
    ·subst e;exact s
    ·cases QM:ay (nm0 f x) t with
     | false=>rfl
     | true =>have:=du (fj QP (show m<x by omega) h2) QM;rw[s.out] at this;cases this
  ·have e:p=q:=by omega
   subst e;have M:=ae (O.trans (iK QP r o u));by_cases k:p<n
   ·have hlt3:(p:Int)<n:=by omega
    obtain⟨S,QL⟩:=(A.2 p k).below l A.1;go_wp2_with fail;go_at_call 147;refine(jm (f p).name (f p).text t _).mono ?_;rintro e QK ⟨z,rfl,_,B,g⟩;have h:=ae (l.trans (g.mono l.size));have C:Hid (QO=decide (z=0)):=by show QO=_;rw[M.out,B];simp[k]
    clear B g;by_cases hz:z=0
    ·have d:QO=QC:=by rw[C.out];exact JJ hz
     subst d;subst hz;go_wp2;exact bp (v:=.tuple #[N I p,QA QC]) (by simp[results,Tryz.results146,go_sem]) rfl ⟨p,rfl,r,o,u,h⟩
    ·have d:QO=D:=by rw[C.out];exact JS hz
     subst d;have hz':(z == 0)=D:=by simpa using hz
     go_wp2;exact bp (v:=.tuple #[N I p,QA D]) (by simp[results,Tryz.results146,go_sem]) rfl ⟨p,rfl,r,o,u,h⟩
   ·have d:QO=D:=by rw[M.out];simp[k]
    subst d;have hge:¬ (p:Int)<n:=by omega
    go_wp2;exact bp (v:=.tuple #[N I p,QA D]) (by simp[results,Tryz.results146,go_sem]) rfl ⟨p,rfl,r,o,u,l⟩
theorem nr (a:Option Addr)(b:Nat)(g:Nat->ByteArray)(t:ByteArray)(w:E):Calls Tryz.prog 146 #[Y a 0 b,U t,.func (.func 147) #[] #[]] w fun e d=>e=QD (.tuple #[N I 0,QA (aF g 0 t)])/\d=w:=by
 rw[lL];go_enter Tryz.func146,Tryz.ntmps146;go_wp2;go_loop [9,10] (fun i j=>i=N I 0/\j=N I 0) (fun _ _=>0);case atStart=>exact⟨rfl,rfl⟩
 case round =>obtain⟨rfl,rfl⟩:=hrel;go_wp2;exact bp (v:=.tuple #[N I 0,QA D]) (by simp[results,Tryz.results146,go_sem]) rfl ⟨rfl,rfl⟩
theorem nu (a:Option Addr)(n d:Nat)(f:Nat->Source)(t:ByteArray)(w:E)(l:(n:Int)<=1048576)(g:SlSource w a n f)(k:aE (nm0 f) n=QC):Calls Tryz.prog 146 #[Y a n d,U t,.func (.func 147) #[] #[]] w fun e j=>∃ i:Nat,e=QD (.tuple #[N I (i:Int),QA (aF (nm0 f) n t)])/\i<=n/\(∀ m,m<i->ay (nm0 f m) t=QC)/\(∀ m,i<=m->m<n->ay (nm0 f m) t=D)/\Below w.heap.size w j:=by
 rcases g with rfl | ⟨b,off,rfl,g⟩
 ·exact(nr a d _ t w).mono fun e j ⟨p,o⟩=>⟨0,p,by omega,fun m h=>absurd h (CS _),fun m _ h=>absurd h (CS _),by rw[o];exact eI _ _⟩
 ·exact ni b off n d f t w l g k
theorem eA (a0:Option Addr)(n0 c0:Nat)(a1:Option Addr)(n1 c1:Nat)(f:Nat->Source)(t:ByteArray)(w:E)(q:(n0:Int)<=1048576)(h:SlSource w a0 n0 f)(d:aE (nm0 f) n0=QC):Calls Tryz.prog 64 #[QE #[Y a0 n0 c0,Y a1 n1 c1],U t] w fun e r=>∃ i:Nat,e=QD (.tuple #[N I (i:Int),QA (aF (nm0 f) n0 t)])/\i<=n0/\(∀ m,m<i->ay (nm0 f m) t=QC)/\(∀ m,i<=m->m<n0->ay (nm0 f m) t=D)/\Below w.heap.size w r:=by
 have j:=ae ((Qs w).alloc lr (T #[Y a0 n0 c0,Y a1 n1 c1] 26));have l:=ae (h.below j lr);have p:=ae d;clear h d;obtain⟨QO,b⟩:∃ QO,QO=aF (nm0 f) n0 t:=⟨_,rfl⟩
 rw[<-b];have n:=ae b;clear b;go_enter Tryz.func64,Tryz.ntmps64;go_wp2_with fail;refine(nu a0 n0 c0 f t _ q l p).mono ?_;rintro e w1 ⟨i,rfl,hi,h1,h2,g⟩;rw[<-n.out];have s:=ae h1;have k:=ae h2;have o:=ae (j.trans (g.mono (by simp)));clear h1 h2 g;go_wp2;exact bp (v:=.tuple #[N I i,QA QO]) (by simp[results,Tryz.results64,go_sem]) rfl ⟨i,rfl,hi,s,k,o⟩
theorem jn (nm:ByteArray)(a:Option Addr)(k d:Nat)(t:ByteArray)(w:E):Calls Tryz.prog 162 #[QE #[U nm,Y a k d],U t] w fun e h=>∃ z:Int,e=QD (N I z)/\decide (z<0)=ay nm t/\decide (z=0)=(nm.toList == t.toList)/\Below w.heap.size w h:=by have f:=ae ((Qs w).alloc lr (T #[U nm,Y a k d] 108));obtain⟨z,hz,h1,h2⟩:=rV nm t;have i:=ae hz;have g:=ae h1;have b:=ae h2;clear hz h1 h2;go_enter Tryz.func162,Tryz.ntmps162;go_wp2_with fail;refine(Tryz.strings_Compare nm t _).mono ?_;rintro e w1 ⟨rfl,rfl⟩;rw[i.out];go_wp2;go_ret;exact⟨z,rfl,g,b,f⟩
theorem nw (b off n L:Nat)(f:Nat->Target)(t:ByteArray)(w:E)(hn:(n:Int)<=1048576)(QM:RowTarget w b off n f)(M:aE (nm1 f) n=QC):Calls Tryz.prog 161 #[Y (Q (J b off Z)) n L,U t,.func (.func 162) #[] #[]] w fun e QK=>∃ i:Nat,e=QD (.tuple #[N I (i:Int),QA (aF (nm1 f) n t)])/\i<=n/\(∀ m,m<i->ay (nm1 f m) t=QC)/\(∀ m,i<=m->m<n->ay (nm1 f m) t=D)/\Below w.heap.size w QK:=by
 have A:=ae QM;have G:=ae M;clear QM M;obtain⟨QO,y⟩:∃ QO,QO=aF (nm1 f) n t:=⟨_,rfl⟩
 rw[<-y];have QL:=ae y;clear y;go_enter Tryz.func161,Tryz.ntmps161;go_wp2;go_loopw [9,10] (fun i j wr=>∃ p q:Nat,p<=q/\q<=n/\i=N I p/\j=N I q/\Hid (∀ m,m<p->ay (nm1 f m) t=QC)/\Hid (∀ m,q<=m->m<n->ay (nm1 f m) t=D)/\Hid (Below w.heap.size w wr)) (fun i j _=>(intOf j).toNat - (intOf i).toNat);case atStart=>exact⟨0,n,by omega,by omega,rfl,rfl,fun m H=>absurd H (CS _),fun m h1 h2=>by omega,eI _ _⟩
 case round =>
  obtain⟨p,q,hpq,r,rfl,rfl,o,u,l⟩:=hrel;by_cases hlt:p<q
  ·obtain⟨m,H⟩:∃ m:Nat,m=(p+q) / 2:=⟨_,rfl⟩
   have R:p<=m:=by omega
   have hm2:m<q:=by omega
   obtain⟨QJ,QN,QP,S,_⟩:=(A.2 m (by omega)).below l lr A.1;have hsh:((p:Int)+q) / 2=m:=by omega
   clear H;go_wp2_with fail;go_at_call 162;refine(jn (f m).name QN (f m).actN QP t _).mono ?_;rintro e V ⟨z,rfl,QQ,_,g⟩;have K:=ae QQ;have h:=ae (l.trans (g.mono l.size));clear QQ g;by_cases hz:z<0
   ·have s:Hid (ay (nm1 f m) t=QC):=by show ay (f m).name t=QC;rw[<-K.out];exact JJ hz
    go_wp2;refine⟨⟨m+1,q,by omega,r,by go_num,rfl,fun x P=>?_,u,h⟩,by simp[intOf];omega⟩;by_cases e:x=m
    ·subst e;exact s
    ·exact du (fj G (show x<m by omega) (by omega)) s
   ·have s:Hid (ay (nm1 f m) t=D):=by show ay (f m).name t=D;rw[<-K.out];exact JS hz
    go_wp2;refine⟨⟨p,m,R,by omega,rfl,rfl,o,fun x h1 h2=>?_,h⟩,by simp[intOf];omega⟩;by_cases e:x=m
    ·subst e;exact s
    ·cases P:ay (nm1 f x) t with
     | false=>rfl
     | true =>have:=du (fj G (show m<x by omega) h2) P;rw[s.out] at this;cases this
  ·have e:p=q:=by omega
   subst e;have O:=ae (QL.trans (iK G r o u));by_cases k:p<n
   ·have hlt3:(p:Int)<n:=by omega
    obtain⟨QJ,QN,QP,S,_⟩:=(A.2 p k).below l lr A.1;go_wp2_with fail;go_at_call 162;refine(jn (f p).name QN (f p).actN QP t _).mono ?_;rintro e V ⟨z,rfl,_,B,g⟩;have h:=ae (l.trans (g.mono l.size));have C:Hid (QO=decide (z=0)):=by show QO=_;rw[O.out,B];simp[k]
    clear B g;by_cases hz:z=0
    ·have d:QO=QC:=by rw[C.out];exact JJ hz
     subst d;subst hz;go_wp2;exact bp (v:=.tuple #[N I p,QA QC]) (by simp[results,Tryz.results161,go_sem]) rfl ⟨p,rfl,r,o,u,h⟩
    ·have d:QO=D:=by rw[C.out];exact JS hz
     subst d;have hz':(z == 0)=D:=by simpa using hz
     go_wp2;exact bp (v:=.tuple #[N I p,QA D]) (by simp[results,Tryz.results161,go_sem]) rfl ⟨p,rfl,r,o,u,h⟩
   ·have d:QO=D:=by rw[O.out];simp[k]
    subst d;have hge:¬ (p:Int)<n:=by omega
    go_wp2;exact bp (v:=.tuple #[N I p,QA D]) (by simp[results,Tryz.results161,go_sem]) rfl ⟨p,rfl,r,o,u,l⟩
theorem ny (a:Option Addr)(b:Nat)(g:Nat->ByteArray)(t:ByteArray)(w:E):Calls Tryz.prog 161 #[Y a 0 b,U t,.func (.func 162) #[] #[]] w fun e d=>e=QD (.tuple #[N I 0,QA (aF g 0 t)])/\d=w:=by
 rw[lL];go_enter Tryz.func161,Tryz.ntmps161;go_wp2;go_loop [9,10] (fun i j=>i=N I 0/\j=N I 0) (fun _ _=>0);case atStart=>exact⟨rfl,rfl⟩
 case round =>obtain⟨rfl,rfl⟩:=hrel;go_wp2;exact bp (v:=.tuple #[N I 0,QA D]) (by simp[results,Tryz.results161,go_sem]) rfl ⟨rfl,rfl⟩
theorem nA (a:Option Addr)(n d:Nat)(f:Nat->Target)(t:ByteArray)(w:E)(l:(n:Int)<=1048576)(g:SlTarget w a n f)(k:aE (nm1 f) n=QC):Calls Tryz.prog 161 #[Y a n d,U t,.func (.func 162) #[] #[]] w fun e j=>∃ i:Nat,e=QD (.tuple #[N I (i:Int),QA (aF (nm1 f) n t)])/\i<=n/\(∀ m,m<i->ay (nm1 f m) t=QC)/\(∀ m,i<=m->m<n->ay (nm1 f m) t=D)/\Below w.heap.size w j:=by
 rcases g with rfl | ⟨b,off,rfl,g⟩
 ·exact(ny a d _ t w).mono fun e j ⟨p,o⟩=>⟨0,p,by omega,fun m h=>absurd h (CS _),fun m _ h=>absurd h (CS _),by rw[o];exact eI _ _⟩
 ·exact nw b off n d f t w l g k
theorem fy (a0:Option Addr)(n0 c0:Nat)(a1:Option Addr)(n1 c1:Nat)(f:Nat->Target)(t:ByteArray)(w:E)(q:(n1:Int)<=1048576)(h:SlTarget w a1 n1 f)(d:aE (nm1 f) n1=QC):Calls Tryz.prog 82 #[QE #[Y a0 n0 c0,Y a1 n1 c1],U t] w fun e r=>∃ i:Nat,e=QD (.tuple #[N I (i:Int),QA (aF (nm1 f) n1 t)])/\i<=n1/\(∀ m,m<i->ay (nm1 f m) t=QC)/\(∀ m,i<=m->m<n1->ay (nm1 f m) t=D)/\Below w.heap.size w r:=by
 have j:=ae ((Qs w).alloc lr (T #[Y a0 n0 c0,Y a1 n1 c1] 26));have l:=ae (h.below j lr);have p:=ae d;clear h d;obtain⟨QO,b⟩:∃ QO,QO=aF (nm1 f) n1 t:=⟨_,rfl⟩
 rw[<-b];have n:=ae b;clear b;go_enter Tryz.func82,Tryz.ntmps82;go_wp2_with fail;refine(nA a1 n1 c1 f t _ q l p).mono ?_;rintro e w1 ⟨i,rfl,hi,h1,h2,g⟩;rw[<-n.out];have s:=ae h1;have k:=ae h2;have o:=ae (j.trans (g.mono (by simp)));clear h1 h2 g;go_wp2;exact bp (v:=.tuple #[N I i,QA QO]) (by simp[results,Tryz.results82,go_sem]) rfl ⟨i,rfl,hi,s,k,o⟩
theorem o8 (a0:Option Addr)(n0 c0:Nat)(f0:Nat->Source)(a1:Option Addr)(n1 c1:Nat)(f1:Nat->Target)(t:ByteArray)(w:E)(hn0:(n0:Int)<=1048576)(hn1:(n1:Int)<=1048576)(f:SlSource w a0 n0 f0)(k:SlTarget w a1 n1 f1)(h:aE (nm0 f0) n0=QC)(l:aE (nm1 f1) n1=QC):Calls Tryz.prog 88 #[QE #[Y a0 n0 c0,Y a1 n1 c1],U t] w fun e B=>e=QD (QA (aF (nm0 f0) n0 t || aF (nm1 f1) n1 t))/\Below w.heap.size w B:=by
 have d:=ae ((Qs w).alloc lr (T #[Y a0 n0 c0,Y a1 n1 c1] 26));have o:(w.alloc (T #[Y a0 n0 c0,Y a1 n1 c1] 26)).cell? (J w.heap.size 0 Z)=Q (Y a0 n0 c0):=by simp
 have r:(w.alloc (T #[Y a0 n0 c0,Y a1 n1 c1] 26)).cell? (J w.heap.size 1 Z)=Q (Y a1 n1 c1):=by simp
 have QP:=ae (f.below d lr);have x:=ae (k.below d lr);have z:=ae h;have G:=ae l;clear f k h l;obtain⟨QO,m⟩:∃ QO,QO=aF (nm0 f0) n0 t:=⟨_,rfl⟩
 obtain⟨QN,n⟩:∃ QN,QN=aF (nm1 f1) n1 t:=⟨_,rfl⟩
 rw[<-m,<-n];have s:=ae m;have q:=ae n;clear m n;go_enter Tryz.func88,Tryz.ntmps88;go_wp2_with fail;refine(eA a0 n0 c0 a1 n1 c1 f0 t _ hn0 QP z).mono ?_;rintro e w1 ⟨i,rfl,_,_,_,b⟩;have y:=(b.cell (p:=(J w.heap.size 0 Z)) (by simp)).trans o;have A:=(b.cell (p:=(J w.heap.size 1 Z)) (by simp)).trans r;have C:=ae (x.below b lr);have u:=ae (d.trans (b.mono (by simp)));clear b o r d;rw[<-s.out];go_wp2_with fail;refine(fy a0 n0 c0 a1 n1 c1 f1 t _ hn1 C G).mono ?_;rintro e w2 ⟨j,rfl,_,_,_,g⟩;have QQ:=ae (u.trans (g.mono u.size));clear g y A;rw[<-q.out];clear s q;cases QO
 all_goals
  go_wp2;go_ret;exact⟨rfl,QQ⟩
end Go.Proofs.YtkdimgejdocbbaaGreatDoor.Vp
namespace Go.Proofs.YtkdimgejdocbbaaGreatDoor.Vp
open RowKit
theorem tW (x:Link)(hb:Nat)(g:Option Addr)(n0 m:Nat)(f0:Nat->Source)(f:Option Addr)(n1 l:Nat)(f1:Nat->Target)(w:E)(j:hb<w.heap.size)(G:w.cell? (J hb 1 Z)=Q (Y g n0 m))(QP:w.cell? (J hb 2 Z)=Q (Y f n1 l))(hn0:(n0:Int)<=1048576)(hn1:(n1:Int)<=1048576)(n:SlSource w g n0 f0)(u:SlTarget w f n1 f1)(s:aE (nm0 f0) n0=QC)(k:aE (nm1 f1) n1=QC):Calls Tryz.prog 232 #[QE #[U x.name,QA x.ask,QA x.has,N I x.at_],.pointer (Q (J hb 0 Z))] w fun e O=>e=QD (QA (fY n0 f0 n1 f1 x))/\Below w.heap.size w O:=by
 have b:=ae ((Qs w).alloc lr (T #[U x.name,QA x.ask,QA x.has,N I x.at_] 64));obtain⟨r,y⟩:∃ r,r=fY n0 f0 n1 f1 x:=⟨_,rfl⟩
 rw[<-y];have A:=ae (show r=(!x.ask && !(x.has == jB n0 f0 n1 f1 x.name)) from y);have h:=ae (n.below b.out lr);have i:=ae (u.below b.out lr);have QN:=ae s;have QO:=ae k;clear y n u s k;cases hq:x.ask with
 | true =>
  obtain rfl:r=D:=by rw[A.out,hq];rfl
  rw[hq] at b;go_enter Tryz.func232,Tryz.ntmps232;go_wp2_with fail;go_quiet (fail);go_wp2;go_ret;exact⟨rfl,wC b.out _⟩
 | false =>
  have QQ:Hid (r=!(x.has == jB n0 f0 n1 f1 x.name)):=by show _=_;rw[A.out,hq];rfl
  rw[hq] at b h i;obtain⟨c,t⟩:∃ c,c=x.has:=⟨_,rfl⟩
  rw[<-t] at b h i QQ ⊢;clear t A;have B:=ae (fun W (d:Below (w.alloc (T #[U x.name,QA D,QA c,N I x.at_] 64)).heap.size (w.alloc (T #[U x.name,QA D,QA c,N I x.at_] 64)) W)=>o8 g n0 m f0 f n1 l f1 x.name W hn0 hn1 (h.out.below d lr) (i.out.below d lr) QN.out QO.out);have m0:(w.alloc (T #[U x.name,QA D,QA c,N I x.at_] 64)).cell? (J w.heap.size 0 Z)=Q (U x.name):=by simp
  have QM:(w.alloc (T #[U x.name,QA D,QA c,N I x.at_] 64)).cell? (J w.heap.size 1 Z)=Q (QA D):=by simp
  have z:(w.alloc (T #[U x.name,QA D,QA c,N I x.at_] 64)).cell? (J w.heap.size 2 Z)=Q (QA c):=by simp
  have M:=(b.out.cell (p:=(J hb 1 Z)) j).trans G;have H:=(b.out.cell (p:=(J hb 2 Z)) j).trans QP;have hz:w.heap.size<(w.alloc (T #[U x.name,QA D,QA c,N I x.at_] 64)).heap.size:=by simp
  have K:hb<(w.alloc (T #[U x.name,QA D,QA c,N I x.at_] 64)).heap.size:=by omega
  have o:Hid (r=!(c == (aF (nm0 f0) n0 x.name || aF (nm1 f1) n1 x.name))):=QQ.out;generalize (aF (nm0 f0) n0 x.name || aF (nm1 f1) n1 x.name)=q at B o;clear h i QQ;go_enter Tryz.func232,Tryz.ntmps232;go_wp2_with fail;generalize w.alloc (T #[U x.name,QA D,QA c,N I x.at_] 64)=W at b B m0 QM z M H hz K ⊢;have K0:=ae (And.intro z (And.intro M H))
  go_region_with (first
   | (go_at_call 88;refine(B.out _ ?_).mono ?_;(first | exact eI _ _ | exact br.drew);rintro e L ⟨rfl,d⟩;have C:Hid (Below W.heap.size W L):=⟨d.os,d.tape,d.output,d.size,d.block⟩;have y2:=(C.out.cell (p:=(J w.heap.size 2 Z)) hz).trans z;have hz1:w.heap.size<L.heap.size:=ll hz C.out.size;clear d))
  all_goals
   go_simp;go_wp2;go_ret;exact⟨by simp[o.out],b.out.trans (C.out.mono b.out.size)⟩
theorem qP (b off m c:Nat)(h:Nat->Link)(hb:Nat)(l:Option Addr)(n0 s:Nat)(f0:Nat->Source)(g:Option Addr)(n1 q:Nat)(f1:Nat->Target)(w:E)(hm:(m:Int)<=1048576)(j:RowLink w b off m h)(f:hb<w.heap.size)(u:w.cell? (J hb 1 Z)=Q (Y l n0 s))(t:w.cell? (J hb 2 Z)=Q (Y g n1 q))(hn0:(n0:Int)<=1048576)(hn1:(n1:Int)<=1048576)(y:SlSource w l n0 f0)(B:SlTarget w g n1 f1)(z:aE (nm0 f0) n0=QC)(o:aE (nm1 f1) n1=QC):Calls Tryz.prog 181 #[Y (Q (J b off Z)) m c,.func (.func 232) #[] #[.pointer (Q (J hb 0 Z))]] w fun e K=>∃ r:Int,e=QD (N I r)/\decide (0<=r)=aH (fun k=>fY n0 f0 n1 f1 (h k)) m/\Below w.heap.size w K:=by
 have QN:=ae j;have G:=ae (fun W (d:Below w.heap.size w W) x=>tW x hb l n0 s f0 g n1 q f1 W (ll f d.size) ((d.cell (p:=(J hb 1 Z)) f).trans u) ((d.cell (p:=(J hb 2 Z)) f).trans t) hn0 hn1 (y.below d lr) (B.below d lr) z o);clear j y B z o u t f;go_enter Tryz.func181,Tryz.ntmps181;go_wp2;go_loopw [8] (fun i wr=>∃ k:Nat,k<=m/\i=N I k/\Hid (aH (fun k=>fY n0 f0 n1 f1 (h k)) k=D)/\Hid (Below w.heap.size w wr)) (fun i _=>m - (intOf i).toNat);case atStart=>exact⟨0,by omega,rfl,rfl,eI _ _⟩
 case round =>
  obtain⟨k,hk,rfl,QQ,n⟩:=hrel;by_cases A:k<m
  ·obtain⟨M,L,QO,H⟩:=(QN.out.below n.out lr).2 k A
   go_wp2_with fail;go_at_call 232;refine(G.out _ n.out (h k)).mono ?_;rintro e w1 ⟨rfl,d⟩;have QP:=ae (n.out.trans (d.mono n.out.size));clear d M L QO H;cases hq:fY n0 f0 n1 f1 (h k) with
   | true =>have C:=ae hq;clear hq;go_wp2;go_ret;exact⟨k,rfl,by rw[cO (p:=fun k=>fY n0 f0 n1 f1 (h k)) A C.out];simp,QP.out⟩
   | false =>have C:=ae hq;clear hq;go_wp2;exact⟨⟨k+1,by omega,by go_num,by show aH _ (k+1)=D;rw[aH,QQ.out,C.out];rfl,QP.out⟩,by simp[intOf];omega⟩
  ·obtain rfl:k=m:=by omega
   go_wp2;go_ret;exact⟨-1,rfl,by rw[QQ.out];rfl,n.out⟩
theorem qQ (a:Option Addr)(c hb:Nat)(w:E):Calls Tryz.prog 181 #[Y a 0 c,.func (.func 232) #[] #[.pointer (Q (J hb 0 Z))]] w fun e b=>e=QD (N I (-1))/\b=w:=by
 go_enter Tryz.func181,Tryz.ntmps181;go_wp2;go_loop [8] (fun i=>i=N I 0) (fun _=>0);case atStart=>rfl
 case round =>subst hrel;go_wp2;go_ret;exact⟨rfl,rfl⟩
theorem qR (a:Option Addr)(m c:Nat)(h:Nat->Link)(hb:Nat)(g:Option Addr)(n0 j:Nat)(f0:Nat->Source)(f:Option Addr)(n1 i:Nat)(f1:Nat->Target)(w:E)(z:(m:Int)<=1048576)(d:SlLink w a m h)(n:hb<w.heap.size)(s:w.cell? (J hb 1 Z)=Q (Y g n0 j))(t:w.cell? (J hb 2 Z)=Q (Y f n1 i))(hn0:(n0:Int)<=1048576)(hn1:(n1:Int)<=1048576)(y:SlSource w g n0 f0)(x:SlTarget w f n1 f1)(l:aE (nm0 f0) n0=QC)(o:aE (nm1 f1) n1=QC):Calls Tryz.prog 181 #[Y a m c,.func (.func 232) #[] #[.pointer (Q (J hb 0 Z))]] w fun e u=>∃ r:Int,e=QD (N I r)/\decide (0<=r)=aH (fun k=>fY n0 f0 n1 f1 (h k)) m/\Below w.heap.size w u:=by
 rcases d with rfl | ⟨b,off,rfl,d⟩
 ·exact(qQ a c hb w).mono fun e u ⟨p,q⟩=>⟨-1,p,rfl,by rw[q];exact eI _ _⟩
 ·exact qP b off m c h hb g n0 j f0 f n1 i f1 w z d n s t hn0 hn1 y x l o
theorem nB (a:Option Addr)(m c:Nat)(h:Nat->Link)(hb:Nat)(f:Option Addr)(n0 l:Nat)(f0:Nat->Source)(b:Option Addr)(n1 j:Nat)(f1:Nat->Target)(w:E)(C:(m:Int)<=1048576)(d:SlLink w a m h)(y:hb<w.heap.size)(o:w.cell? (J hb 1 Z)=Q (Y f n0 l))(n:w.cell? (J hb 2 Z)=Q (Y b n1 j))(hn0:(n0:Int)<=1048576)(hn1:(n1:Int)<=1048576)(p:SlSource w f n0 f0)(q:SlTarget w b n1 f1)(g:aE (nm0 f0) n0=QC)(i:aE (nm1 f1) n1=QC):Calls Tryz.prog 111 #[Y a m c,.func (.func 232) #[] #[.pointer (Q (J hb 0 Z))]] w fun e z=>e=QD (QA (aH (fun k=>fY n0 f0 n1 f1 (h k)) m))/\Below w.heap.size w z:=by
 have u:=ae (qR a m c h hb f n0 l f0 b n1 j f1 w C d y o n hn0 hn1 p q g i);obtain⟨A,s⟩:∃ A,A=aH (fun k=>fY n0 f0 n1 f1 (h k)) m:=⟨_,rfl⟩
 rw[<-s];rw[<-s] at u;clear s p q g i d o n;go_enter Tryz.func111,Tryz.ntmps111;go_wp2_with fail;refine u.out.mono ?_;rintro e w1 ⟨r,rfl,x,t⟩;have B:=ae x;have QQ:=ae t;clear x t;go_wp2;go_ret;exact⟨aW B.out,QQ.out⟩
theorem wD (z j n o:Nat)(g:Option Addr)(n0 m:Nat)(f0:Nat->Source)(f:Option Addr)(n1 l:Nat)(f1:Nat->Target)(d:aj)(a0:Option Addr)(i:Nat)(a1:Option Addr)(b:Nat)(w:E)(hn0:(n0:Int)<=1048576)(hn1:(n1:Int)<=1048576)(s:SlSource w g n0 f0)(t:SlTarget w f n1 f1)(p:aE (nm0 f0) n0=QC)(q:aE (nm1 f1) n1=QC)(hL:SlLink w a1 d.linksN d.links)(hfl:d.linksN<=1048576):Calls Tryz.prog 189 #[QE #[Y (Q (J z j Z)) n o,Y g n0 m,Y f n1 l],QE #[U d.name,N I d.kind,N I d.code,U d.text,Y a0 d.actN i,Y a1 d.linksN b]] w fun e B=>e=QD (QA (hasB n0 f0 n1 f1 d))/\Below w.heap.size w B:=by
 have h:=ae (((Qs w).alloc lr (T #[Y (Q (J z j Z)) n o,Y g n0 m,Y f n1 l] 165)).alloc (by simp) (T #[U d.name,N I d.kind,N I d.code,U d.text,Y a0 d.actN i,Y a1 d.linksN b] 58));have y:=ae (nB a1 d.linksN b d.links w.heap.size g n0 m f0 f n1 l f1 _ (by omega) (hL.below h.out lr) (by simp;omega) (by simp[go_sem]) (by simp[go_sem]) hn0 hn1 (s.below h.out lr) (t.below h.out lr) p q);obtain⟨r,u⟩:∃ r,r=hasB n0 f0 n1 f1 d:=⟨_,rfl⟩
 rw[<-u];have A:=ae (show aH (fun k=>fY n0 f0 n1 f1 (d.links k)) d.linksN=r from u.symm);rw[A.out] at y;clear u s t p q hL A;go_enter Tryz.func189,Tryz.ntmps189;go_wp2_with fail;refine y.out.mono ?_;rintro e w1 ⟨rfl,x⟩;have C:=ae (h.out.trans (x.mono h.out.size));clear x;go_wp2;go_ret;exact⟨rfl,C.out⟩
end Go.Proofs.YtkdimgejdocbbaaGreatDoor.Vp
