import Derived.Test.YtkdimgejdocbbaaGreatDoorZL
import Derived.Sort.Walk0
set_option maxRecDepth 100000
set_option maxHeartbeats 16000000
open Go.Addr renaming mk->J
open Go.Value renaming slice->Y,string->U,int->N,bool->QA,agg->QE
open Option renaming none->Z,some->Q
open Go.Obj renaming cells->T
open Go.IntKind renaming i64->I
open Go renaming World->E
open Bool renaming false->D,true->QC
open Go.Ending renaming returned->QD
namespace Go.Proofs.YtkdimgejdocbbaaGreatDoor.Vp
open RowKit Go.Sort
abbrev ay (a b:ByteArray):Bool:=Op.bytesLess a.toList b.toList
theorem du {a b c:ByteArray}(h1:ay a b=QC)(h2:ay b c=QC):ay a c=QC:=by simp only[ay,bytesLess_eq,j4] at *;exact List.lt_trans h1 h2
theorem fX (a:ByteArray):ay a a=D:=by simp only[ay,bytesLess_eq,IK];exact List.lt_irrefl _
theorem fj {g:Nat->ByteArray}{n:Nat}(h:aE g n=QC){i j:Nat}(hij:i<j)(hj:j<n):ay (g i) (g j)=QC:=by
 induction j with
 | zero=>omega
 | succ m b =>
  have h2:=fu (show m+2<=n by omega) h;simp only[aE,gM] at h2;by_cases e:i=m
  ·subst e;exact h2.2
  ·exact du (b (by omega) (by omega)) h2.2
def aF (g:Nat->ByteArray)(n:Nat)(t:ByteArray):Bool:=(List.range n).any fun i=>(g i).toList == t.toList
theorem iK {g:Nat->ByteArray}{n i:Nat}{t:ByteArray}(l:aE g n=QC)(hi:i<=n)(h1:∀ m,m<i->ay (g m) t=QC)(h2:∀ m,i<=m->m<n->ay (g m) t=D):aF g n t=(decide (i<n) && ((g i).toList == t.toList)):=by
 by_cases f:i<n
 ·simp only[f,decide_true,I9]
  cases e:(g i).toList == t.toList with
  | true =>simp only[aF,J6,BO];exact⟨i,f,e⟩
  | false =>
   simp only[aF,List.any_eq_false,BO];intro m j h;have d:(g m).toList=t.toList:=by simpa using h
   rcases LR m i with c | c | c
   ·have:=h1 m c
    simp only[ay,d] at this;have b:=fX t;simp only[ay] at b;rw[b] at this;cases this
   ·subst c
    rw[h] at e;cases e
   ·have b:=fj l c j
    simp only[ay,d] at b;have k:=h2 i lr f;simp only[ay] at k;rw[b] at k;cases k
 ·have e:i=n:=by omega
  subst e;simp only[Nat.lt_irrefl,decide_false,J5];simp only[aF,List.any_eq_false,BO];intro m j h;have d:(g m).toList=t.toList:=by simpa using h
  have:=h1 m j;simp only[ay,d] at this;have b:=fX t;simp only[ay] at b;rw[b] at this;cases this
theorem E7 (x:ByteArray)(w:E):Calls Tryz.prog 240 #[U x] w fun e b=>e=QD (QA D)/\b=w:=by go_enter Tryz.func240,Tryz.ntmps240;go_wp2;go_ret;exact⟨by simp,rfl⟩
theorem E8 (x:ByteArray)(w:E):Calls Tryz.prog 212 #[U x] w fun e b=>e=QD (QA D)/\b=w:=by go_enter Tryz.func212,Tryz.ntmps212;go_wp2;go_ret;exact⟨by simp,rfl⟩
theorem Cl (x y:ByteArray)(w:E):Calls Tryz.prog 211 #[U x,U y] w fun e b=>e=QD (QA (ay x y))/\b=w:=by
 go_enter Tryz.func211,Tryz.ntmps211;go_wp2_with (go_at_call 240;refine(E7 _ _).mono ?_;rintro e w1 ⟨rfl,rfl⟩);all_goals
  go_ret;exact⟨by simp,rfl⟩
theorem vV (b off n s:Nat)(g:Nat->ByteArray)(t:ByteArray)(w:E)(hn:(n:Int)<=1048576)(y:RowStr w b off n g)(u:aE g n=QC):Calls Tryz.prog 153 #[Y (Q (J b off Z)) n s,U t] w fun e QN=>∃ i:Int,e=QD (.tuple #[N I i,QA (aF g n t)])/\QN=w:=by
 have G:=ae y;have l:=ae u;clear y u;obtain⟨QO,k⟩:∃ QO,QO=aF g n t:=⟨_,rfl⟩
 rw[<-k];have H:=ae k;clear k;go_enter Tryz.func153,Tryz.ntmps153;go_wp2;go_loop [7,8] (fun i j=>∃ p q:Nat,p<=q/\q<=n/\i=N I p/\j=N I q/\Hid (∀ m,m<p->ay (g m) t=QC)/\Hid (∀ m,q<=m->m<n->ay (g m) t=D)) (fun i j=>(intOf j).toNat - (intOf i).toNat);case atStart=>exact⟨0,n,by omega,by omega,rfl,rfl,fun m r=>absurd r (CS _),fun m h1 h2=>by omega⟩
 case round =>
  obtain⟨p,q,hpq,QQ,rfl,rfl,C,QP⟩:=hrel;by_cases hlt:p<q
  ·obtain⟨m,r⟩:∃ m:Nat,m=(p+q) / 2:=⟨_,rfl⟩
   have A:p<=m:=by omega
   have hm2:m<q:=by omega
   have c0:=G.2 m (by omega);have hsh:((p:Int)+q) / 2=m:=by omega
   clear r;cases hb:ay (g m) t with
   | true =>
    have h:=ae hb;clear hb;go_wp2_with (go_at_call 211;refine(Cl _ _ _).mono ?_;rintro e B ⟨rfl,rfl⟩;rw[h.out]);refine⟨⟨m+1,q,by omega,QQ,by go_num,rfl,fun x z=>?_,QP⟩,by simp[intOf];omega⟩;by_cases e:x=m
    ·subst e;exact h
    ·exact du (fj l (show x<m by omega) (by omega)) h
   | false =>
    have h:=ae hb;clear hb;go_wp2_with (go_at_call 211;refine(Cl _ _ _).mono ?_;rintro e B ⟨rfl,rfl⟩;rw[h.out]);refine⟨⟨p,m,A,by omega,rfl,rfl,C,fun x h1 h2=>?_⟩,by simp[intOf];omega⟩;by_cases e:x=m
    ·subst e;exact h
    ·cases z:ay (g x) t with
     | false=>rfl
     | true =>have:=du (fj l (show m<x by omega) h2) z;rw[h.out] at this;cases this
  ·have e:p=q:=by omega
   subst e;have o:=ae (H.trans (iK l QQ C QP));by_cases f:p<n
   ·have c0:=G.2 p f
    cases hb:((g p).toList == t.toList) with
    | true =>
     have d:QO=QC:=by rw[o.out,hb];simp[f]
     subst d;go_wp2;refine bp (v:=.tuple #[N I p,QA QC]) (by simp[results,Tryz.results153,go_sem]) rfl (by first | exact⟨⟨_,rfl⟩,rfl⟩ | exact⟨_,rfl,rfl⟩)
    | false =>
     have d:QO=D:=by rw[o.out,hb];simp
     subst d;go_wp2_with (go_at_call 212;refine(E8 _ _).mono ?_;rintro e B ⟨rfl,rfl⟩);all_goals
      refine bp (v:=.tuple #[N I p,QA D]) (by simp[results,Tryz.results153,go_sem]) rfl (by first | exact⟨⟨_,rfl⟩,rfl⟩ | exact⟨_,rfl,rfl⟩)
   ·have d:QO=D:=by rw[o.out];simp[f]
    subst d;go_wp2;refine bp (v:=.tuple #[N I p,QA D]) (by simp[results,Tryz.results153,go_sem]) rfl (by first | exact⟨⟨_,rfl⟩,rfl⟩ | exact⟨_,rfl,rfl⟩)
theorem vW (a:Option Addr)(b:Nat)(t:ByteArray)(w:E):Calls Tryz.prog 153 #[Y a 0 b,U t] w fun e d=>∃ i:Int,e=QD (.tuple #[N I i,QA D])/\d=w:=by
 go_enter Tryz.func153,Tryz.ntmps153;go_wp2;go_loop [7,8] (fun i j=>i=N I 0/\j=N I 0) (fun _ _=>0);case atStart=>exact⟨rfl,rfl⟩
 case round =>obtain⟨rfl,rfl⟩:=hrel;go_wp2;refine bp (v:=.tuple #[N I 0,QA D]) (by simp[results,Tryz.results153,go_sem]) rfl (by first | exact⟨⟨_,rfl⟩,rfl⟩ | exact⟨_,rfl,rfl⟩)
end Go.Proofs.YtkdimgejdocbbaaGreatDoor.Vp
namespace Go.Proofs.YtkdimgejdocbbaaGreatDoor.Vp
open RowKit
theorem lL (g:Nat->ByteArray)(t:ByteArray):aF g 0 t=D:=rfl
theorem vX (a:Option Addr)(n d:Nat)(g:Nat->ByteArray)(t:ByteArray)(w:E)(j:(n:Int)<=1048576)(f:SlStr w a n g)(h:aE g n=QC):Calls Tryz.prog 153 #[Y a n d,U t] w fun e k=>∃ i:Int,e=QD (.tuple #[N I i,QA (aF g n t)])/\k=w:=by
 rcases f with rfl | ⟨b,off,rfl,f⟩
 ·exact vW a d t w
 ·exact vV b off n d g t w j f h
theorem pI (s:ByteArray)(d:Nat)(a:Option Addr)(n b:Nat)(g:Nat->ByteArray)(w:E)(hc:w.cell? (J d 0 Z)=Q (Y a n b))(l:(n:Int)<=1048576)(h:SlStr w a n g)(f:aE g n=QC):Calls Tryz.prog 152 #[U s,.pointer (Q (J d 0 Z))] w fun e m=>e=QD (QA (aF g n s))/\m=w:=by have j:=ae h;have k:=ae f;clear h f;go_enter Tryz.func152,Tryz.ntmps152;go_wp2_with fail;refine(vX a n b g s _ l j k).mono ?_;rintro e w1 ⟨i,rfl,rfl⟩;go_wp2;go_ret;exact⟨rfl,rfl⟩
def aH (p:Nat->Bool):Nat->Bool
 | 0=>D
 | k+1=>aH p k || p k
theorem cO {p:Nat->Bool}{k n:Nat}(h:k<n)(b:p k=QC):aH p n=QC:=by
 induction n with
 | zero=>omega
 | succ m d =>
  by_cases e:k=m
  ·subst e;simp[aH,b]
  ·simp[aH,d (by omega)]
theorem xO (b off m c:Nat)(h:Nat->ByteArray)(l:Nat)(a:Option Addr)(n f:Nat)(g:Nat->ByteArray)(w:E)(hm:(m:Int)<=1048576)(j:RowStr w b off m h)(x:w.cell? (J l 0 Z)=Q (Y a n f))(u:(n:Int)<=1048576)(y:SlStr w a n g)(s:aE g n=QC):Calls Tryz.prog 210 #[Y (Q (J b off Z)) m c,.func (.func 152) #[] #[.pointer (Q (J l 0 Z))]] w fun e A=>∃ r:Int,e=QD (N I r)/\decide (0<=r)=aH (fun i=>aF g n (h i)) m/\A=w:=by
 have z:=ae j;have q:=ae y;have t:=ae s;clear y s j;go_enter Tryz.func210,Tryz.ntmps210;go_wp2;go_loop [8] (fun i=>∃ k:Nat,k<=m/\i=N I k/\Hid (aH (fun i=>aF g n (h i)) k=D)) (fun i=>m - (intOf i).toNat);case atStart=>exact⟨0,by omega,rfl,rfl⟩
 case round =>
  obtain⟨k,hk,rfl,p⟩:=hrel;by_cases o:k<m
  ·have c0:=z.2 k o
   cases hb:aF g n (h k) with
   | true =>have d:=ae hb;clear hb;go_wp2_with (go_at_call 152;refine(pI _ l a n f g _ x u q t).mono ?_;rintro e B ⟨rfl,rfl⟩;rw[d.out]);go_ret;exact⟨k,rfl,by rw[cO o d.out];simp,rfl⟩
   | false =>have d:=ae hb;clear hb;go_wp2_with (go_at_call 152;refine(pI _ l a n f g _ x u q t).mono ?_;rintro e B ⟨rfl,rfl⟩;rw[d.out]);exact⟨⟨k+1,by omega,by go_num,by show aH _ (k+1)=D;simp[aH,p.out,d.out]⟩,by simp[intOf];omega⟩
  ·have e:k=m:=by omega
   subst e;go_wp2;go_ret;exact⟨-1,rfl,by rw[p.out];rfl,rfl⟩
theorem xP (a0:Option Addr)(c:Nat)(b:Value)(d:Nat)(f:b=.func (.func 152) #[] #[.pointer (Q (J d 0 Z))])(w:E):Calls Tryz.prog 210 #[Y a0 0 c,b] w fun e g=>∃ r:Int,e=QD (N I r)/\decide (0<=r)=D/\g=w:=by
 subst f;go_enter Tryz.func210,Tryz.ntmps210;go_wp2;go_loop [8] (fun i=>i=N I 0) (fun _=>0);case atStart=>rfl
 case round =>
  subst hrel;go_wp2;go_ret;first
   | exact⟨-1,rfl,rfl,rfl⟩
   | exact⟨-1,rfl,by decide,rfl⟩
   | exact⟨⟨-1,rfl,by decide⟩,rfl⟩
   | exact⟨-1,by decide,rfl⟩
theorem xQ (a0:Option Addr)(m c:Nat)(h:Nat->ByteArray)(f:Nat)(a:Option Addr)(n j:Nat)(g:Nat->ByteArray)(w:E)(s:(m:Int)<=1048576)(d:SlStr w a0 m h)(p:w.cell? (J f 0 Z)=Q (Y a n j))(l:(n:Int)<=1048576)(q:SlStr w a n g)(k:aE g n=QC):Calls Tryz.prog 210 #[Y a0 m c,.func (.func 152) #[] #[.pointer (Q (J f 0 Z))]] w fun e o=>∃ r:Int,e=QD (N I r)/\decide (0<=r)=aH (fun i=>aF g n (h i)) m/\o=w:=by
 rcases d with rfl | ⟨b,off,rfl,d⟩
 ·exact xP a0 c _ f rfl w
 ·exact xO b off m c h f a n j g w s d p l q k
theorem rD (a0:Option Addr)(m c:Nat)(h:Nat->ByteArray)(f:Nat)(a:Option Addr)(n d:Nat)(g:Nat->ByteArray)(w:E)(u:(m:Int)<=1048576)(b:SlStr w a0 m h)(t:w.cell? (J f 0 Z)=Q (Y a n d))(q:(n:Int)<=1048576)(o:SlStr w a n g)(l:aE g n=QC):Calls Tryz.prog 151 #[Y a0 m c,.func (.func 152) #[] #[.pointer (Q (J f 0 Z))]] w fun e s=>e=QD (QA (aH (fun i=>aF g n (h i)) m))/\s=w:=by
 have p:=ae (xQ a0 m c h f a n d g w u b t q o l);obtain⟨A,j⟩:∃ A,A=aH (fun i=>aF g n (h i)) m:=⟨_,rfl⟩
 rw[<-j];rw[<-j] at p;clear j o l b;go_enter Tryz.func151,Tryz.ntmps151;go_wp2_with fail;refine p.mono ?_;rintro e w1 ⟨r,rfl,k,rfl⟩;have x:=ae k;clear k;go_wp2;go_ret;exact⟨aW x,rfl⟩
theorem zG (a0:Option Addr)(m c:Nat)(h:Nat->ByteArray)(a:Option Addr)(n b:Nat)(g:Nat->ByteArray)(w:E)(r:(m:Int)<=1048576)(d:SlStr w a0 m h)(p:(n:Int)<=1048576)(l:SlStr w a n g)(k:aE g n=QC):Calls Tryz.prog 75 #[Y a0 m c,Y a n b] w fun e q=>e=QD (QA (aH (fun i=>aF g n (h i)) m))/\Below w.heap.size w q:=by
 have j:=ae ((Qs w).alloc lr (T #[Y a n b] 39));have o:=ae (rD a0 m c h w.heap.size a n b g (w.alloc (T #[Y a n b] 39)) r (d.below j lr) (by simp) p (l.below j lr) k);obtain⟨A,f⟩:∃ A,A=aH (fun i=>aF g n (h i)) m:=⟨_,rfl⟩
 rw[<-f];rw[<-f] at o;clear f l k d;go_enter Tryz.func75,Tryz.ntmps75;go_wp2_with fail;refine o.mono ?_;rintro e w1 ⟨rfl,rfl⟩;go_wp2;go_ret;exact⟨rfl,j⟩
def eo (x:Source):Bool:=decide (2000<(x.text.size:Int))
theorem Cr (nm tx:ByteArray)(w:E):Calls Tryz.prog 77 #[QE #[U nm,U tx]] w fun e b=>e=QD (QA (decide (2000<(tx.size:Int))))/\Below w.heap.size w b:=by go_enter Tryz.func77,Tryz.ntmps77;go_wp2;go_ret;exact⟨rfl,br.alloc lr _⟩
theorem vY (b off m c:Nat)(f:Nat->Source)(w:E)(hm:(m:Int)<=1048576)(g:RowSource w b off m f):Calls Tryz.prog 154 #[Y (Q (J b off Z)) m c,.func (.func 77) #[] #[]] w fun e t=>∃ r:Int,e=QD (N I r)/\decide (0<=r)=aH (fun i=>eo (f i)) m/\Below w.heap.size w t:=by
 have o:=ae g;clear g;go_enter Tryz.func154,Tryz.ntmps154;go_wp2;go_loopw [8] (fun i wr=>∃ k:Nat,k<=m/\i=N I k/\Hid (aH (fun i=>eo (f i)) k=D)/\Below w.heap.size w wr) (fun i _=>m - (intOf i).toNat);case atStart=>exact⟨0,by omega,rfl,rfl,eI _ _⟩
 case round =>
  obtain⟨k,hk,rfl,n,s⟩:=hrel;have d:=ae s;clear s;by_cases j:k<m
  ·obtain⟨c0,c1⟩:=(o.2 k j).below d o.1
   go_wp2_with fail;refine(Cr _ _ _).mono ?_;rintro e w1 ⟨rfl,h⟩;have q:=ae (d.trans (h.mono d.size));clear h;cases hb:eo (f k) with
   | true =>have l:=ae hb;have h2:decide (2000<((f k).text.size:Int))=QC:=hb;clear hb;rw[h2];clear h2;go_wp2;go_ret;exact⟨k,rfl,by rw[cO (p:=fun i=>eo (f i)) j l.out];simp,q.out⟩
   | false =>have l:=ae hb;have h2:decide (2000<((f k).text.size:Int))=D:=hb;clear hb;rw[h2];clear h2;go_wp2;exact⟨⟨k+1,by omega,by go_num,by show aH _ (k+1)=D;simp[aH,n.out,l.out],q.out⟩,by simp[intOf];omega⟩
  ·have e:k=m:=by omega
   subst e;go_wp2;go_ret;exact⟨-1,rfl,by rw[n.out];rfl,d⟩
theorem vZ (a0:Option Addr)(c:Nat)(w:E):Calls Tryz.prog 154 #[Y a0 0 c,.func (.func 77) #[] #[]] w fun e b=>e=QD (N I (-1))/\b=w:=by
 go_enter Tryz.func154,Tryz.ntmps154;go_wp2;go_loop [8] (fun i=>i=N I 0) (fun _=>0);case atStart=>rfl
 case round =>subst hrel;go_wp2;go_ret;exact⟨rfl,rfl⟩
theorem wj (a0:Option Addr)(m c:Nat)(f:Nat->Source)(w:E)(h:(m:Int)<=1048576)(d:SlSource w a0 m f):Calls Tryz.prog 154 #[Y a0 m c,.func (.func 77) #[] #[]] w fun e g=>∃ r:Int,e=QD (N I r)/\decide (0<=r)=aH (fun i=>eo (f i)) m/\Below w.heap.size w g:=by
 rcases d with rfl | ⟨b,off,rfl,d⟩
 ·exact(vZ a0 c w).mono fun e g ⟨p,q⟩=>⟨-1,p,rfl,by rw[q];exact eI _ _⟩
 ·exact vY b off m c f w h d
theorem qG (a0:Option Addr)(m c:Nat)(f:Nat->Source)(w:E)(l:(m:Int)<=1048576)(b:SlSource w a0 m f):Calls Tryz.prog 76 #[Y a0 m c,.func (.func 77) #[] #[]] w fun e k=>e=QD (QA (aH (fun i=>eo (f i)) m))/\Below w.heap.size w k:=by
 have h:=ae (wj a0 m c f w l b);obtain⟨A,d⟩:∃ A,A=aH (fun i=>eo (f i)) m:=⟨_,rfl⟩
 rw[<-d];rw[<-d] at h;clear d b;go_enter Tryz.func76,Tryz.ntmps76;go_wp2_with fail;refine h.mono ?_;rintro e w1 ⟨r,rfl,j,g⟩;have n:=ae j;have o:=ae g;clear j g;go_wp2;go_ret;exact⟨aW n,o⟩
def cy (x:Target):Bool:=!valid x.act x.actN
theorem Ct (nm:ByteArray)(a:Option Addr)(n b:Nat)(f:Nat->Ins)(w:E)(l:n<=1048576)(h:SlIns w a n f)(g:Tab w):Calls Tryz.prog 79 #[QE #[U nm,Y a n b]] w fun e m=>e=QD (QA (!valid f n))/\Below w.heap.size w m:=by have d:=ae ((Qs w).alloc lr (T #[U nm,Y a n b] 108));have j:=ae (lJ a n b f (w.alloc (T #[U nm,Y a n b] 108)) l (h.below d lr) (g.below d g.1));clear h g;go_enter Tryz.func79,Tryz.ntmps79;go_wp2_with fail;refine j.mono ?_;rintro e w1 ⟨rfl,i⟩;have k:=ae (d.trans (i.mono (by simp)));clear i;go_wp2;go_ret;exact⟨rfl,k⟩
theorem wk (b off m c:Nat)(f:Nat->Target)(w:E)(hm:(m:Int)<=1048576)(h:∀ i,i<m->aS (f i))(z:Tab w)(g:RowTarget w b off m f):Calls Tryz.prog 155 #[Y (Q (J b off Z)) m c,.func (.func 79) #[] #[]] w fun e C=>∃ r:Int,e=QD (N I r)/\decide (0<=r)=aH (fun i=>cy (f i)) m/\Below w.heap.size w C:=by
 have x:=ae g;have B:=ae h;have s:=ae z;clear g h z;go_enter Tryz.func155,Tryz.ntmps155;go_wp2;go_loopw [8] (fun i wr=>∃ k:Nat,k<=m/\i=N I k/\Hid (aH (fun i=>cy (f i)) k=D)/\Below w.heap.size w wr) (fun i _=>m - (intOf i).toNat);case atStart=>exact⟨0,by omega,rfl,rfl,eI _ _⟩
 case round =>
  obtain⟨k,hk,rfl,q,t⟩:=hrel;have d:=ae t;clear t;by_cases j:k<m
  ·obtain⟨c0,QQ,A,c1,n⟩:=(x.2 k j).below d lr x.1
   have u:=ae n;clear n;go_wp2_with fail;refine(Ct (f k).name QQ (f k).actN A (f k).act _ (B k j) u (s.below d s.1)).mono ?_;rintro e w1 ⟨rfl,l⟩;have y:=ae (d.trans (l.mono d.size));clear l;cases hb:cy (f k) with
   | true =>have o:=ae hb;have h2:(!valid (f k).act (f k).actN)=QC:=hb;clear hb;rw[h2];clear h2;go_wp2;go_ret;exact⟨k,rfl,by rw[cO (p:=fun i=>cy (f i)) j o.out];simp,y.out⟩
   | false =>have o:=ae hb;have h2:(!valid (f k).act (f k).actN)=D:=hb;clear hb;rw[h2];clear h2;go_wp2;exact⟨⟨k+1,by omega,by go_num,by show aH _ (k+1)=D;simp[aH,q.out,o.out],y.out⟩,by simp[intOf];omega⟩
  ·have e:k=m:=by omega
   subst e;go_wp2;go_ret;exact⟨-1,rfl,by rw[q.out];rfl,d⟩
theorem ws (a0:Option Addr)(c:Nat)(w:E):Calls Tryz.prog 155 #[Y a0 0 c,.func (.func 79) #[] #[]] w fun e b=>e=QD (N I (-1))/\b=w:=by
 go_enter Tryz.func155,Tryz.ntmps155;go_wp2;go_loop [8] (fun i=>i=N I 0) (fun _=>0);case atStart=>rfl
 case round =>subst hrel;go_wp2;go_ret;exact⟨rfl,rfl⟩
theorem wu (a0:Option Addr)(m c:Nat)(f:Nat->Target)(w:E)(j:(m:Int)<=1048576)(g:∀ i,i<m->aS (f i))(k:Tab w)(d:SlTarget w a0 m f):Calls Tryz.prog 155 #[Y a0 m c,.func (.func 79) #[] #[]] w fun e h=>∃ r:Int,e=QD (N I r)/\decide (0<=r)=aH (fun i=>cy (f i)) m/\Below w.heap.size w h:=by
 rcases d with rfl | ⟨b,off,rfl,d⟩
 ·exact(ws a0 c w).mono fun e h ⟨p,q⟩=>⟨-1,p,rfl,by rw[q];exact eI _ _⟩
 ·exact wk b off m c f w j g k d
theorem qH (a0:Option Addr)(m c:Nat)(f:Nat->Target)(w:E)(p:(m:Int)<=1048576)(d:∀ i,i<m->aS (f i))(k:Tab w)(b:SlTarget w a0 m f):Calls Tryz.prog 78 #[Y a0 m c,.func (.func 79) #[] #[]] w fun e o=>e=QD (QA (aH (fun i=>cy (f i)) m))/\Below w.heap.size w o:=by
 have l:=ae (wu a0 m c f w p d k b);obtain⟨A,g⟩:∃ A,A=aH (fun i=>cy (f i)) m:=⟨_,rfl⟩
 rw[<-g];rw[<-g] at l;clear g b d k;go_enter Tryz.func78,Tryz.ntmps78;go_wp2_with fail;refine l.mono ?_;rintro e w1 ⟨r,rfl,h,j⟩;have q:=ae h;have n:=ae j;clear h j;go_wp2;go_ret;exact⟨aW q,n⟩
theorem qI (a:Option Addr)(b:Nat)(w:E):Calls Tryz.prog 74 #[Y a 0 b] w fun e d=>e=QD (QA QC)/\d=w:=by
 go_enter Tryz.func74,Tryz.ntmps74;go_wp2;go_loop [3] (fun i=>i=N I 1) (fun _=>0);case atStart=>rfl
 case round =>subst hrel;go_wp2;go_ret;exact⟨rfl,rfl⟩
theorem lA (a:Option Addr)(n d:Nat)(g:Nat->ByteArray)(w:E)(i:(n:Int)<=1048576)(f:SlStr w a n g):Calls Tryz.prog 74 #[Y a n d] w fun e h=>e=QD (QA (aE g n))/\Below w.heap.size w h:=by
 rcases f with rfl | ⟨b,off,rfl,f⟩
 ·exact(qI a d w).mono fun e h ⟨p,q⟩=>⟨p,by rw[q];exact eI _ _⟩
 ·exact qF b off n d g w i f
abbrev nm0 (f0:Nat->Source):Nat->ByteArray:=fun i=>(f0 i).name
abbrev nm1 (f1:Nat->Target):Nat->ByteArray:=fun i=>(f1 i).name
def aU (n0:Nat)(f0:Nat->Source)(n1:Nat)(f1:Nat->Target):Int :=
 if 200<n0+n1 then 1 else if bM (nm0 f0) n0=D then 2 else if bM (nm1 f1) n1=D then 2 else if aE (nm0 f0) n0=D then 3 else if aE (nm1 f1) n1=D then 4
 else if aH (fun i=>aF (nm1 f1) n1 (nm0 f0 i)) n0=QC then 5 else if aH (fun i=>eo (f0 i)) n0=QC then 6 else if aH (fun i=>cy (f1 i)) n1=QC then 7 else 0
theorem lB (a0:Option Addr)(n0 c0:Nat)(f0:Nat->Source)(a1:Option Addr)(n1 c1:Nat)(f1:Nat->Target)(w:E)(hn0:(n0:Int)<=1048576)(hn1:(n1:Int)<=1048576)(W:SlSource w a0 n0 f0)(H:SlTarget w a1 n1 f1)(r:∀ i,i<n1->aS (f1 i))(hT:Tab w):Calls Tryz.prog 14 #[QE #[Y a0 n0 c0,Y a1 n1 c1]] w fun e w'=>e=QD (N I (aU n0 f0 n1 f1))/\Below w.heap.size w w':=by
 have V0:=ae W;have V1:=ae H;have HF:=ae r;have HT:=ae hT;clear W H r hT;obtain⟨C,y⟩:∃ C,C=aU n0 f0 n1 f1:=⟨_,rfl⟩
 rw[<-y];unfold aU at y;have HC:=ae y;clear y;have A0:=ae ((Qs w).alloc lr (T #[Y a0 n0 c0,Y a1 n1 c1] 26));go_enter Tryz.func14,Tryz.ntmps14;go_wp2_with fail;refine(vQ a0 a1 n0 c0 n1 c1 _ hn0 hn1).mono ?_;rintro e s ⟨rfl,q⟩;have k0:s.cell? (J w.heap.size 0 Z)=Q (Y a0 n0 c0):=(q.cell (p:=(J w.heap.size 0 Z)) (by simp)).trans (by simp);have k1:s.cell? (J w.heap.size 1 Z)=Q (Y a1 n1 c1):=(q.cell (p:=(J w.heap.size 1 Z)) (by simp)).trans (by simp);have z1:w.heap.size<s.heap.size:=by have:=q.size;simp at this;omega
 have u:=ae (A0.trans (q.mono (by simp)));clear q A0;by_cases h1:(200:Int)<n0+n1
 ·have b:=HC.out
  rw[eT (by omega)] at b;subst b;go_wp2;go_ret;exact⟨rfl,u⟩
 have o:=HC.out;rw[a8 (by omega)] at o;have S:=ae o;clear o HC;go_wp2_with fail
 go_region_with (first
  | (go_at_call 71;refine(nV a0 n0 c0 a1 n1 c1 f0 _ hn0 ?_).mono ?_;(first | exact V0.below u lr | exact V0.below u.drew lr);rintro e w2 ⟨sa,sc,rfl,QQ,m⟩;have S2:=ae QQ;have z:Hid (Below s.heap.size s w2):=⟨m.os,m.tape,m.output,m.size,m.block⟩;have B2:=ae (u.trans (z.mono u.size));have ex:=(z.cell (p:=(J w.heap.size 0 Z)) z1).trans k0;have O:=(z.cell (p:=(J w.heap.size 1 Z)) z1).trans k1;have z2:w.heap.size<w2.heap.size:=ll z1 z.size;clear QQ m)
  | (go_at_call 72;refine(nY a1 n1 c1 a0 n0 c0 f1 _ hn1 ?_).mono ?_;exact V1.below B2 lr;rintro e w3 ⟨ta,tc,rfl,A,n⟩;have S3:=ae A;have R3:=ae (S2.below n lr);have B3:=ae (B2.trans (n.mono B2.size));have QO:=(n.cell (p:=(J w.heap.size 0 Z)) z2).trans ex;have P:=(n.cell (p:=(J w.heap.size 1 Z)) z2).trans O;have z3:w.heap.size<w3.heap.size:=ll z2 n.size;clear A n))
 all_goals
  clear k0 k1 ex O;go_wp2_with fail;refine(lK sa n0 sc (nm0 f0) _ hn0 R3).mono ?_;rintro e w4 ⟨rfl,l⟩;have B4:=ae (B3.trans (l.mono B3.size));have R4:=ae (R3.below l lr);have S4:=ae (S3.below l lr);have QN:=(l.cell (p:=(J w.heap.size 0 Z)) z3).trans QO;have L:=(l.cell (p:=(J w.heap.size 1 Z)) z3).trans P;have z4:w.heap.size<w4.heap.size:=ll z3 l.size;clear l QO P;cases q0:bM (nm0 f0) n0 with
  | false =>have b:=S.out;rw[eT q0] at b;subst b;clear q0;go_wp2;go_ret;exact⟨rfl,B4⟩
  | true =>
   have b:=S.out;rw[a8 (by simp[q0])] at b;have QH:=ae b;clear b q0;go_wp2_with fail;refine(lK ta n1 tc (nm1 f1) _ hn1 S4).mono ?_;rintro e w5 ⟨rfl,f⟩;have B5:=ae (B4.trans (f.mono B4.size));have R5:=ae (R4.below f lr);have S5:=ae (S4.below f lr);have X:=(f.cell (p:=(J w.heap.size 0 Z)) z4).trans QN;have bt:=(f.cell (p:=(J w.heap.size 1 Z)) z4).trans L;have z5:w.heap.size<w5.heap.size:=ll z4 f.size;clear f QN L;cases q1:bM (nm1 f1) n1 with
   | false =>have b:=QH.out;rw[eT q1] at b;subst b;clear q1;go_wp2;go_ret;exact⟨rfl,B5⟩
   | true =>
    have b:=QH.out;rw[a8 (by simp[q1])] at b;have V:=ae b;clear b q1;go_wp2_with fail;refine(lA sa n0 sc (nm0 f0) _ hn0 R5).mono ?_;rintro e w6 ⟨rfl,j⟩;have B6:=ae (B5.trans (j.mono B5.size));have R6:=ae (R5.below j lr);have S6:=ae (S5.below j lr);have M:=(j.cell (p:=(J w.heap.size 0 Z)) z5).trans X;have B:=(j.cell (p:=(J w.heap.size 1 Z)) z5).trans bt;have z6:w.heap.size<w6.heap.size:=ll z5 j.size;clear j X bt;cases q2:aE (nm0 f0) n0 with
    | false =>have b:=V.out;rw[eT q2] at b;subst b;clear q2;go_wp2;go_ret;exact⟨rfl,B6⟩
    | true =>
     have b:=V.out;rw[a8 (by simp[q2])] at b;have QG:=ae b;clear b q2;go_wp2_with fail;refine(lA ta n1 tc (nm1 f1) _ hn1 S6).mono ?_;rintro e w7 ⟨rfl,k⟩;have B7:=ae (B6.trans (k.mono B6.size));have R7:=ae (R6.below k lr);have S7:=ae (S6.below k lr);have QP:=(k.cell (p:=(J w.heap.size 0 Z)) z6).trans M;have QK:=(k.cell (p:=(J w.heap.size 1 Z)) z6).trans B;have z7:w.heap.size<w7.heap.size:=ll z6 k.size;clear k M B;cases q3:aE (nm1 f1) n1 with
     | false =>have b:=QG.out;rw[eT q3] at b;subst b;clear q3;go_wp2;go_ret;exact⟨rfl,B7⟩
     | true =>
      have b:=QG.out;rw[a8 (by simp[q3])] at b;have ld:=ae q3;have QL:=ae b;clear b q3;go_wp2_with fail;refine(zG sa n0 sc (nm0 f0) ta n1 tc (nm1 f1) _ hn0 R7 hn1 S7 ld).mono ?_;rintro e w8 ⟨rfl,g⟩;have x:=ae (B7.trans (g.mono B7.size));have R8:=ae (R7.below g lr);have S8:=ae (S7.below g lr);have R:=(g.cell (p:=(J w.heap.size 0 Z)) z7).trans QP;have QM:=(g.cell (p:=(J w.heap.size 1 Z)) z7).trans QK;have z8:w.heap.size<w8.heap.size:=ll z7 g.size;clear g QP QK;cases q4:aH (fun i=>aF (nm1 f1) n1 (nm0 f0 i)) n0 with
      | true =>have b:=QL.out;rw[eT q4] at b;subst b;clear q4;go_wp2;go_ret;exact⟨rfl,x⟩
      | false =>
       have b:=QL.out;rw[a8 (by simp[q4])] at b;have K:=ae b;clear b q4;go_wp2_with fail;refine(qG a0 n0 c0 f0 _ hn0 (V0.below x lr)).mono ?_;rintro e w9 ⟨rfl,h⟩;have t:=ae (x.trans (h.mono x.size));have R9:=ae (R8.below h lr);have S9:=ae (S8.below h lr);have G:=(h.cell (p:=(J w.heap.size 0 Z)) z8).trans R;have aq:=(h.cell (p:=(J w.heap.size 1 Z)) z8).trans QM;have z9:w.heap.size<w9.heap.size:=ll z8 h.size;clear h R QM;cases q5:aH (fun i=>eo (f0 i)) n0 with
       | true =>have b:=K.out;rw[eT q5] at b;subst b;clear q5;go_wp2;go_ret;exact⟨rfl,t⟩
       | false =>
        have b:=K.out;rw[a8 (by simp[q5])] at b;have QJ:=ae b;clear b q5;go_wp2_with fail;refine(qH a1 n1 c1 f1 _ hn1 HF (HT.below t HT.1) (V1.below t lr)).mono ?_;rintro e la ⟨rfl,d⟩;have fd:=ae (t.trans (d.mono t.size));have R10:=ae (R9.below d lr);have S10:=ae (S9.below d lr);have k100:=(d.cell (p:=(J w.heap.size 0 Z)) z9).trans G;have k101:=(d.cell (p:=(J w.heap.size 1 Z)) z9).trans aq;have z10:w.heap.size<la.heap.size:=ll z9 d.size;clear d G aq;cases q6:aH (fun i=>cy (f1 i)) n1 with
        | true =>have b:=QJ.out;rw[eT q6] at b;subst b;clear q6;go_wp2;go_ret;exact⟨rfl,fd⟩
        | false =>have b:=QJ.out;rw[a8 (by simp[q6])] at b;subst b;clear q6;go_wp2;go_ret;exact⟨rfl,fd⟩
theorem lM (g:Nat->ByteArray)(k:Nat)(t:ByteArray):aF g (k+1) t=(aF g k t || ((g k).toList == t.toList)):=by simp[aF,JA]
theorem gY {g:Nat->ByteArray}{k n:Nat}{t:ByteArray}(h:k<n)(b:((g k).toList == t.toList)=QC):aF g n t=QC:=by simp only[aF,J6,BO];exact⟨k,h,b⟩
theorem rE (a0:Option Addr)(n0 c0 b off n1 c1:Nat)(f1:Nat->Target)(t:ByteArray)(w:E)(hn1:(n1:Int)<=1048576)(h:RowTarget w b off n1 f1):Calls Tryz.prog 91 #[QE #[Y a0 n0 c0,Y (Q (J b off Z)) n1 c1],U t] w fun e n=>∃ r:Int,e=QD (N I r)/\decide (0<=r)=aF (nm1 f1) n1 t/\Below w.heap.size w n:=by
 have d:=ae ((Qs w).alloc lr (T #[Y a0 n0 c0,Y (Q (J b off Z)) n1 c1] 26));have m:=ae (h.below d lr);have o:(w.alloc (T #[Y a0 n0 c0,Y (Q (J b off Z)) n1 c1] 26)).cell? (J w.heap.size 1 Z)=Q (Y (Q (J b off Z)) n1 c1):=by simp
 clear h;go_enter Tryz.func91,Tryz.ntmps91;go_wp2;generalize w.alloc (T #[Y a0 n0 c0,Y (Q (J b off Z)) n1 c1] 26)=W at d m o ⊢;go_loop [5] (fun i=>∃ k:Nat,k<=n1/\i=N I k/\Hid (aF (nm1 f1) k t=D)) (fun i=>n1 - (intOf i).toNat);case atStart=>exact⟨0,by omega,rfl,rfl⟩
 case round =>
  obtain⟨k,hk,rfl,l⟩:=hrel;by_cases f:k<n1
  ·obtain⟨d0,ka,kc,d1,_⟩:=m.2 k f
   cases hb:((f1 k).name.toList == t.toList) with
   | true =>have j:=ae hb;go_wp2;go_ret;exact⟨k,rfl,by rw[gY (g:=nm1 f1) f j.out];simp,d.out⟩
   | false =>have j:=ae hb;go_wp2;exact⟨⟨k+1,by omega,by go_num,by show aF (nm1 f1) (k+1) t=D;rw[lM,l.out];exact j⟩,by simp[intOf];omega⟩
  ·have e:k=n1:=by omega
   subst e;go_wp2;go_ret;exact⟨-1,rfl,by rw[l.out];rfl,d⟩
theorem eP {a b:ByteArray}(h:a.toList=b.toList):a=b:=by rw[H7,H7] at h;exact NJ (Array.toList_inj.1 h)
theorem bytes_beq {a b:ByteArray}(h:(a.toList == b.toList)=QC):a=b:=eP (by simpa using h)
theorem asc_one {g:Nat->ByteArray}{n i j:Nat}{t:ByteArray}(f:aE g n=QC)(hi:i<n)(k:j<n)(h1:((g i).toList == t.toList)=QC)(h2:((g j).toList == t.toList)=QC):i=j:=by
 have d:=bytes_beq h1;have b:=bytes_beq h2;rcases LR i j with h | h | h
 ·have:=fj f h k
  rw[d,b,fX] at this;cases this
 ·exact h
 ·have:=fj f h hi
  rw[d,b,fX] at this;cases this
theorem fP {p:Nat->Bool}{n:Nat}(h:aH p n=QC):∃ k,k<n/\p k=QC:=by
 induction n with
 | zero=>simp[aH] at h
 | succ m d =>
  simp only[aH,Bool.or_eq_true] at h;rcases h with h | h
  ·obtain⟨k,hk,b⟩:=d h
   exact⟨k,by omega,b⟩
  ·exact⟨m,by omega,h⟩
theorem uE {g:Nat->ByteArray}{q:Nat->Bool}{n k:Nat}{t:ByteArray}(f:aE g n=QC)(d:k<n)(h1:((g k).toList == t.toList)=QC):aH (fun i=>((g i).toList == t.toList) && q i) n=q k:=by
 cases e:q k with
 | true=>exact cO d (by simp[h1,e])
 | false =>
  cases e2:aH (fun i=>((g i).toList == t.toList) && q i) n with
  | false=>rfl
  | true =>obtain⟨i,hi,b⟩:=fP e2;simp only[gM] at b;obtain rfl:=asc_one f hi d b.1 h1;rw[e] at b;exact absurd b.2 (by simp)
theorem rF {g:Nat->ByteArray}{n:Nat}{t:ByteArray}(h:aF g n t=QC):∃ k,k<n/\((g k).toList == t.toList)=QC:=by simp only[aF,J6,BO] at h;exact h
theorem rG {g:Nat->ByteArray}{q:Nat->Bool}{n:Nat}{t:ByteArray}(h:aF g n t=D):aH (fun i=>((g i).toList == t.toList) && q i) n=D:=by
 cases e2:aH (fun i=>((g i).toList == t.toList) && q i) n with
 | false=>rfl
 | true =>obtain⟨i,hi,b⟩:=fP e2;simp only[gM] at b;rw[gY hi b.1] at h;cases h
theorem pJ {n0:Nat}{f0:Nat->Source}{n1:Nat}{f1:Nat->Target}(h:aU n0 f0 n1 f1=0):aE (nm0 f0) n0=QC/\aE (nm1 f1) n1=QC/\n0+n1<=200:=by
 unfold aU at h;split at h;· omega
 split at h;· omega
 split at h;· omega
 split at h;· omega
 split at h;· omega
 rename_i h0 _ _ b d;exact⟨by simpa using b,by simpa using d,by omega⟩
theorem slS {w:E}{a:Option Addr}{n:Nat}{f:Nat->Source}(h:SlSource w a n f)(d:n≠0):∃ b off,a=Q (J b off Z)/\RowSource w b off n f:=h.resolve_left d
theorem slT {w:E}{a:Option Addr}{n:Nat}{f:Nat->Target}(h:SlTarget w a n f)(d:n≠0):∃ b off,a=Q (J b off Z)/\RowTarget w b off n f:=h.resolve_left d
theorem bx2 {w W b:E}{u v:Value}(z:w.heap.size<W.heap.size)(g:W.cell? (J w.heap.size 0 Z)=Q u)(f:W.cell? (J w.heap.size 1 Z)=Q v)(A:Hid (Below w.heap.size w W))(d:Below W.heap.size W b):b.cell? (J w.heap.size 0 Z)=Q u/\b.cell? (J w.heap.size 1 Z)=Q v/\w.heap.size<b.heap.size/\Hid (Below w.heap.size w b) :=
 ⟨(d.cell (p:=(J w.heap.size 0 Z)) z).trans g,(d.cell (p:=(J w.heap.size 1 Z)) z).trans f,ll z d.size,A.trans (d.mono A.size)⟩
theorem rH (a0:Option Addr)(n0 c0:Nat)(a1:Option Addr)(c1:Nat)(g:Nat->ByteArray)(t:ByteArray)(w:E):Calls Tryz.prog 91 #[QE #[Y a0 n0 c0,Y a1 0 c1],U t] w fun e d=>∃ r:Int,e=QD (N I r)/\decide (0<=r)=aF g 0 t/\Below w.heap.size w d:=by
 have b:=ae ((Qs w).alloc lr (T #[Y a0 n0 c0,Y a1 0 c1] 26));go_enter Tryz.func91,Tryz.ntmps91;go_wp2;go_loop [5] (fun i=>i=N I 0) (fun _=>0);case atStart=>rfl
 case round =>subst hrel;go_wp2;go_ret;exact⟨-1,rfl,by rw[lL];rfl,b⟩
theorem rI (a0:Option Addr)(n0 c0:Nat)(a1:Option Addr)(n1 c1:Nat)(f1:Nat->Target)(t:ByteArray)(w:E)(hn1:(n1:Int)<=1048576)(d:SlTarget w a1 n1 f1):Calls Tryz.prog 91 #[QE #[Y a0 n0 c0,Y a1 n1 c1],U t] w fun e f=>∃ r:Int,e=QD (N I r)/\decide (0<=r)=aF (nm1 f1) n1 t/\Below w.heap.size w f:=by
 rcases d with rfl | ⟨b,off,rfl,g⟩
 ·exact rH a0 n0 c0 a1 c1 (nm1 f1) t w
 ·exact rE a0 n0 c0 b off n1 c1 f1 t w hn1 g
theorem fL (a0:Option Addr)(n0 c0:Nat)(f0:Nat->Source)(a1:Option Addr)(n1 c1:Nat)(f1:Nat->Target)(w:E)(hn0:(n0:Int)<=1048576)(hn1:(n1:Int)<=1048576)(mv:SlSource w a0 n0 f0)(ld:SlTarget w a1 n1 f1)(S:∀ i,i<n1->aS (f1 i))(hs:∀ i,i<n1->∀ j,j<(f1 i).actN->((f1 i).act j).s.size<=maxLen):Calls Tryz.prog 66 #[QE #[Y a0 n0 c0,Y a1 n1 c1]] w fun e w'=>e=QD (N I (aU n0 f0 n1 f1))/\Below w.heap.size w w':=by
 have V0:=ae mv;have W:=ae ld;have HF:=ae S;have HS:=ae hs;clear mv ld S hs;obtain⟨C,hC⟩:∃ C,C=aU n0 f0 n1 f1:=⟨_,rfl⟩
 rw[<-hC];unfold aU at hC;have HC:=ae hC;clear hC;have QK:=ae ((Qs w).alloc lr (T #[Y a0 n0 c0,Y a1 n1 c1] 26));have QM:(w.alloc (T #[Y a0 n0 c0,Y a1 n1 c1] 26)).cell? (J w.heap.size 0 Z)=Q (Y a0 n0 c0):=by simp
 have QQ:(w.alloc (T #[Y a0 n0 c0,Y a1 n1 c1] 26)).cell? (J w.heap.size 1 Z)=Q (Y a1 n1 c1):=by simp
 have z0:w.heap.size<(w.alloc (T #[Y a0 n0 c0,Y a1 n1 c1] 26)).heap.size:=by simp
 go_enter Tryz.func66,Tryz.ntmps66;by_cases h1:(200:Int)<n0+n1
 ·have d:=HC.out
  rw[eT (by omega)] at d;subst d;go_wp2;go_ret;exact⟨rfl,QK⟩
 have ex:=HC.out;rw[a8 (by omega)] at ex;have la:=ae ex;clear ex HC;go_wp2;generalize w.alloc (T #[Y a0 n0 c0,Y a1 n1 c1] 26)=W0 at QK QM QQ z0 ⊢;go_loopw [5] (fun i wr=>∃ k:Nat,k<=n0/\i=N I k/\Hid (bM (nm0 f0) k=QC)/\Below W0.heap.size W0 wr) (fun i _=>n0 - (intOf i).toNat);case atStart=>exact⟨0,by omega,rfl,rfl,eI _ _⟩
 case round =>
  obtain⟨k,O,rfl,n,m⟩:=hrel;obtain⟨L,G,z1,A1⟩:=bx2 z0 QM QQ QK m;have o:=ae m;clear m;by_cases f:k<n0
  ·obtain⟨b,off,rfl,h⟩:=slS V0 (by omega)
   obtain⟨x,u⟩:=(h.2 k f).below A1 h.1;clear h QM QQ;go_wp2_with fail;refine(cX _ _).mono ?_;rintro e w1 ⟨rfl,q⟩;have t:=ae (o.trans (q.mono o.size));clear q;cases l:au (f0 k).name with
   | true =>have p:=ae l;clear l;go_wp2;exact⟨⟨k+1,by omega,by go_num,by show bM (nm0 f0) (k+1)=QC;simp[bM,n.out,p.out],t.out⟩,by simp[intOf];omega⟩
   | false =>have p:=ae l;have d:=la.out;rw[eT (io (g:=(nm0 f0)) f p.out)] at d;subst d;clear l;go_wp2;go_ret;exact⟨rfl,QK.trans (t.mono QK.size)⟩
  ·have e:n0=k:=by omega
   subst e;have d:=la.out;rw[a8 (by simp[n.out])] at d;have aq:=ae d;clear d la n o QM QQ;go_wp2;generalize wr=W1 at L G z1 A1 ⊢;go_loopw [6] (fun i wr=>∃ k:Nat,k<=n1/\i=N I k/\Hid (bM (nm1 f1) k=QC)/\Below W1.heap.size W1 wr) (fun i _=>n1 - (intOf i).toNat);case atStart=>exact⟨0,by omega,rfl,rfl,eI _ _⟩
   case round =>
    obtain⟨k,O,rfl,n,m⟩:=hrel;obtain⟨M,QO,z2,QG⟩:=bx2 z1 L G A1 m;have o:=ae m;clear m;by_cases f:k<n1
    ·obtain⟨b,off,rfl,h⟩:=slT W (by omega)
     obtain⟨x,ka,kc,u,_⟩:=(h.2 k f).below QG lr h.1;clear h L G;go_wp2_with fail;refine(cX _ _).mono ?_;rintro e w1 ⟨rfl,q⟩;have t:=ae (o.trans (q.mono o.size));clear q;cases l:au (f1 k).name with
     | true =>have p:=ae l;clear l;go_wp2;exact⟨⟨k+1,by omega,by go_num,by show bM (nm1 f1) (k+1)=QC;simp[bM,n.out,p.out],t.out⟩,by simp[intOf];omega⟩
     | false =>have p:=ae l;have d:=aq.out;rw[eT (io (g:=(nm1 f1)) f p.out)] at d;subst d;clear l;go_wp2;go_ret;exact⟨rfl,A1.trans (t.mono A1.size)⟩
    ·have e:n1=k:=by omega
     subst e;have d:=aq.out;rw[a8 (by simp[n.out])] at d;have V:=ae d;clear d aq n o L G;go_wp2;generalize wr=W2 at M QO z2 QG ⊢;go_loopw [7] (fun i wr=>∃ k:Nat,(k+1<=n0∨k=0)/\i=N I ((k:Int)+1)/\Hid (aE (nm0 f0) (k+1)=QC)/\Below W2.heap.size W2 wr) (fun i _=>n0+1 - (intOf i).toNat);case atStart=>exact⟨0,.inr rfl,rfl,rfl,eI _ _⟩
     case round =>
      obtain⟨k,O,rfl,n,m⟩:=hrel;obtain⟨z,QN,z3,QL⟩:=bx2 z2 M QO QG m;have o:=ae m;clear m;by_cases f:k+1<n0
      ·obtain⟨b,off,rfl,h⟩:=slS V0 (by omega)
       obtain⟨x,u⟩:=(h.2 k (by omega)).below QL h.1;obtain⟨e0,e1⟩:=(h.2 (k+1) f).below QL h.1;have n6:(k:Int)+1<n0:=by omega
       clear h M QO;go_wp2_with fail;go_quiet (fail);have t:=ae (wC o nq);clear x u e0 e1;generalize wr.drewN nq=X at t ⊢;cases l:Op.bytesLess (f0 k).name.toList (f0 (k+1)).name.toList with
       | true =>have p:=ae l;clear l;go_wp2;exact⟨⟨k+1,.inl (by omega),by go_num,by show aE (nm0 f0) (k+2)=QC;simp[aE,n.out,p.out],t.out⟩,by simp[intOf];omega⟩
       | false =>have p:=ae l;have d:=V.out;rw[eT (jz (g:=(nm0 f0)) f p.out)] at d;subst d;clear l;go_wp2;go_ret;exact⟨rfl,QG.trans (t.mono QG.size)⟩
      ·have n8:¬ (k:Int)+1<n0:=by omega
       have d:=V.out;rw[a8 (by simp[fu (show n0<=k+1 by omega) n.out])] at d;have QH:=ae d;clear d V n o M QO;go_wp2;generalize wr=W3 at z QN z3 QL ⊢;go_loopw [8] (fun i wr=>∃ k:Nat,(k+1<=n1∨k=0)/\i=N I ((k:Int)+1)/\Hid (aE (nm1 f1) (k+1)=QC)/\Below W3.heap.size W3 wr) (fun i _=>n1+1 - (intOf i).toNat);case atStart=>exact⟨0,.inr rfl,rfl,rfl,eI _ _⟩
       case round =>
        obtain⟨k,O,rfl,n,m⟩:=hrel;obtain⟨A,B,z4,P⟩:=bx2 z3 z QN QL m;have o:=ae m;clear m;by_cases f:k+1<n1
        ·obtain⟨b,off,rfl,h⟩:=slT W (by omega)
         obtain⟨x,ka,kc,u,_⟩:=(h.2 k (by omega)).below P lr h.1;obtain⟨e0,kb,kd,e1,_⟩:=(h.2 (k+1) f).below P lr h.1;have n6:(k:Int)+1<n1:=by omega
         clear h z QN;go_wp2_with fail;go_quiet (fail);have t:=ae (wC o nq);clear x u e0 e1;generalize wr.drewN nq=X at t ⊢;cases l:Op.bytesLess (f1 k).name.toList (f1 (k+1)).name.toList with
         | true =>have p:=ae l;clear l;go_wp2;exact⟨⟨k+1,.inl (by omega),by go_num,by show aE (nm1 f1) (k+2)=QC;simp[aE,n.out,p.out],t.out⟩,by simp[intOf];omega⟩
         | false =>have p:=ae l;have d:=QH.out;rw[eT (jz (g:=(nm1 f1)) f p.out)] at d;subst d;clear l;go_wp2;go_ret;exact⟨rfl,QL.trans (t.mono QL.size)⟩
        ·have n8:¬ (k:Int)+1<n1:=by omega
         have d:=QH.out;rw[a8 (by simp[fu (show n1<=k+1 by omega) n.out])] at d;have fd:=ae d;clear d QH n o z QN;go_wp2;generalize wr=W4 at A B z4 P ⊢;go_loopw [9] (fun i wr=>∃ k:Nat,k<=n0/\i=N I k/\Hid (aH (fun i=>aF (nm1 f1) n1 (nm0 f0 i)) k=D)/\Below W4.heap.size W4 wr) (fun i _=>n0 - (intOf i).toNat);case atStart=>exact⟨0,by omega,rfl,rfl,eI _ _⟩
         case round =>
          obtain⟨k,O,rfl,n,m⟩:=hrel;obtain⟨H,K,z5,y⟩:=bx2 z4 A B P m;have o:=ae m;clear m;by_cases f:k<n0
          ·obtain⟨b,off,rfl,h⟩:=slS V0 (by omega)
           obtain⟨x,u⟩:=(h.2 k f).below y h.1;clear h A B;go_wp2_with fail;go_region_with (go_at_call 91;refine(rI (Q (J b off Z)) n0 c0 a1 n1 c1 f1 (f0 k).name _ hn1 ?_).mono ?_;(first | exact W.below y lr | exact W.below y.drew lr);rintro e w1 ⟨r,rfl,hd,q⟩;have HD:=ae hd;clear hd;have t:Hid (Below wr.heap.size wr w1):=⟨q.os,q.tape,q.output,q.size,q.block⟩;clear q);all_goals
            have B2:=ae (o.trans (t.mono o.size));clear x u t;by_cases l:0<=r
            ·have d:=fd.out
             rw[eT (cO f (by have:=HD.out;rw[JJ l] at this;exact this.symm))] at d;subst d;go_wp2;go_ret;exact⟨rfl,P.trans (B2.mono P.size)⟩
            ·have p:=ae l
             go_wp2;exact⟨⟨k+1,by omega,by go_num,by show aH _ (k+1)=D;have:=HD.out;rw[JS p.out] at this;simp[aH,n.out,<-this],B2.out⟩,by simp[intOf];omega⟩
          ·have e:n0=k:=by omega
           subst e;have d:=fd.out;rw[a8 (by simp[n.out])] at d;have QJ:=ae d;clear d fd n o A B;go_wp2;generalize wr=W5 at H K z5 y ⊢;go_loopw [10] (fun i wr=>∃ k:Nat,k<=n0/\i=N I k/\Hid (aH (fun i=>eo (f0 i)) k=D)/\Below W5.heap.size W5 wr) (fun i _=>n0 - (intOf i).toNat);case atStart=>exact⟨0,by omega,rfl,rfl,eI _ _⟩
           case round =>
            obtain⟨k,O,rfl,n,m⟩:=hrel;obtain⟨bt,R,z6,A6⟩:=bx2 z5 H K y m;have o:=ae m;clear m;by_cases f:k<n0
            ·obtain⟨b,off,rfl,h⟩:=slS V0 (by omega)
             obtain⟨x,u⟩:=(h.2 k f).below A6 h.1;clear h H K;by_cases l:(2000:Int)<(f0 k).text.size
             ·have d:=QJ.out
              rw[eT (cO f (by simpa[eo] using l))] at d;subst d;go_wp2;go_ret;exact⟨rfl,y.trans (o.mono y.size)⟩
             ·have p:Hid (eo (f0 k)=D):=JS l
              go_wp2;exact⟨⟨k+1,by omega,by go_num,by show aH _ (k+1)=D;simp[aH,n.out,p.out],o.out⟩,by simp[intOf];omega⟩
            ·have e:n0=k:=by omega
             subst e;have d:=QJ.out;rw[a8 (by simp[n.out])] at d;have n7:=ae d;clear d QJ n o H K;go_wp2;generalize wr=W6 at bt R z6 A6 ⊢;go_loopw [11,4] (fun i v wr=>∃ (k:Nat) (r:Int),k<=n1/\i=N I k/\v=N I r/\Hid (r=if aH (fun i=>cy (f1 i)) k=QC then 7 else 0)/\Below W6.heap.size W6 wr) (fun i _ _=>n1 - (intOf i).toNat);case atStart=>exact⟨0,0,by omega,rfl,rfl,rfl,eI _ _⟩
             case round =>
              obtain⟨k,r,O,rfl,rfl,n,m⟩:=hrel;obtain⟨k70,k71,z7,A7⟩:=bx2 z6 bt R A6 m;have o:=ae m;clear m;by_cases f:k<n1
              ·obtain⟨b,off,rfl,h⟩:=slT W (by omega)
               obtain⟨x,ka,kc,u,hx⟩:=(h.2 k f).below A7 lr h.1;have HX:=ae hx;clear h hx bt R;go_wp2_with fail;refine(iS ka (f1 k).actN kc (f1 k).act _ (HF k f) HX (HS k f)).mono ?_;rintro e w1 ⟨rfl,q⟩;have t:=ae (o.trans (q.mono o.size));clear q x u;cases l:valid (f1 k).act (f1 k).actN with
               | true =>
                have p:=ae l;clear l;have QP:Hid (aH (fun i=>cy (f1 i)) (k+1)=aH (fun i=>cy (f1 i)) k):=by show(aH _ k || cy (f1 k))=_;rw[show cy (f1 k)=D by unfold cy;rw[p.out];rfl,Bool.or_false]
                go_wp2;exact⟨⟨k+1,r,by omega,by go_num,rfl,by show r=_;rw[QP.out];exact n,t⟩,by simp[intOf];omega⟩
               | false =>
                have p:=ae l;clear l;have QP:Hid (aH (fun i=>cy (f1 i)) (k+1)=QC):=by show(aH _ k || cy (f1 k))=_;rw[show cy (f1 k)=QC by unfold cy;rw[p.out];rfl,Bool.or_true]
                go_wp2;exact⟨⟨k+1,7,by omega,by go_num,rfl,by show(7:Int)=_;rw[eT QP.out],t.out⟩,by simp[intOf];omega⟩
              ·have e:n1=k:=by omega
               subst e;have d:=n7.out;rw[<-n.out] at d;subst d;go_wp2;go_ret;exact⟨rfl,A6.trans (o.mono A6.size)⟩
def jB (n0:Nat)(f0:Nat->Source)(n1:Nat)(f1:Nat->Target)(t:ByteArray):Bool:=aF (nm0 f0) n0 t || aF (nm1 f1) n1 t
def lN (n0:Nat)(f0:Nat->Source)(t x:ByteArray):Bool:=aH (fun i=>((nm0 f0 i).toList == t.toList) && ((f0 i).text.toList == x.toList)) n0
def ki (n1:Nat)(f1:Nat->Target)(t:ByteArray)(n:Nat)(f:Nat->Ins):Bool:=aH (fun i=>((nm1 f1 i).toList == t.toList) && cL (f1 i).act f (f1 i).actN n) n1
def iU (n0:Nat)(f0:Nat->Source)(n1:Nat)(f1:Nat->Target)(d:aj):Bool :=
 if d.kind=1 then !lN n0 f0 d.name d.text else if d.kind=3 then !ki n1 f1 d.name d.actN d.act else jB n0 f0 n1 f1 d.name
def fY (n0:Nat)(f0:Nat->Source)(n1:Nat)(f1:Nat->Target)(l:Link):Bool:=!l.ask && !(l.has == jB n0 f0 n1 f1 l.name)
def hasB (n0:Nat)(f0:Nat->Source)(n1:Nat)(f1:Nat->Target)(d:aj):Bool:=aH (fun k=>fY n0 f0 n1 f1 (d.links k)) d.linksN
end Go.Proofs.YtkdimgejdocbbaaGreatDoor.Vp
