import Derived.Test.YtamacmnikdejeaaGreatDoorSL
import Derived.Sort.Walk0
set_option maxRecDepth 100000
set_option maxHeartbeats 16000000
set_option linter.unusedSimpArgs false
open Go.Addr renaming mk->N
open Go.Value renaming slice->Y,string->U,int->J,bool->QC,agg->QG
open Option renaming none->Z,some->T
open Go.Obj renaming cells->Q
open Go.IntKind renaming i64->I
open Go renaming World->G
open Bool renaming false->QB,true->QD
open Go.Ending renaming returned->QF
namespace Go.Proofs.YtamacmnikdejeaaGreatDoor.Vp
open RowKit Go.Sort
abbrev aw (a b:ByteArray):Bool:=Op.bytesLess a.toList b.toList
theorem dw {a b c:ByteArray}(h1:aw a b=QD)(h2:aw b c=QD):aw a c=QD:=by simp only[aw,bytesLess_eq,j5] at *;exact List.lt_trans h1 h2
theorem fX (a:ByteArray):aw a a=QB:=by simp only[aw,bytesLess_eq,IT];exact List.lt_irrefl _
theorem fi {g:Nat->ByteArray}{n:Nat}(h:aI g n=QD){i j:Nat}(hij:i<j)(hj:j<n):aw (g i) (g j)=QD:=by
 induction j with
 | zero=>omega
 | succ m b =>
  have h2:=fA (show m+2<=n by omega) h;simp only[aI,j4] at h2;by_cases e:i=m
  ·subst e;exact h2.2
  ·exact dw (b (by omega) (by omega)) h2.2
def aG (g:Nat->ByteArray)(n:Nat)(t:ByteArray):Bool:=(List.range n).any fun i=>(g i).toList == t.toList
theorem jW {g:Nat->ByteArray}{n i:Nat}{t:ByteArray}(p:aI g n=QD)(hi:i<=n)(h1:∀ m,m<i->aw (g m) t=QD)(h2:∀ m,i<=m->m<n->aw (g m) t=QB):aG g n t=(decide (i<n) && ((g i).toList == t.toList)):=by
 by_cases h:i<n
 ·simp only[h,decide_true,JJ]
  cases e:(g i).toList == t.toList with
  | true =>simp only[aG,MP,HU];exact⟨i,h,e⟩
  | false =>
   simp only[aG,List.any_eq_false,HU];intro m l j;have f:(g m).toList=t.toList:=by simpa using j
   rcases MB m i with c | c | c
   ·have:=h1 m c
    simp only[aw,f] at this;have b:=fX t;simp only[aw] at b;rw[b] at this;cases this
   ·subst c
    rw[j] at e;cases e
   ·have b:=fi p c l
    simp only[aw,f] at b;have o:=h2 i ly h;simp only[aw] at o;rw[b] at o;cases o
 ·have e:i=n:=by omega
  subst e;simp only[Nat.lt_irrefl,decide_false,KT];simp only[aG,List.any_eq_false,HU];intro m l j;have f:(g m).toList=t.toList:=by simpa using j
  have:=h1 m l;simp only[aw,f] at this;have b:=fX t;simp only[aw] at b;rw[b] at this;cases this
theorem EV (x:ByteArray)(w:G):Calls Tryz.prog 206 #[U x] w fun e b=>e=QF (QC QB)/\b=w:=by go_enter Tryz.func206,Tryz.ntmps206;go_wp2;go_ret;exact⟨by simp,rfl⟩
theorem EW (x:ByteArray)(w:G):Calls Tryz.prog 183 #[U x] w fun e b=>e=QF (QC QB)/\b=w:=by go_enter Tryz.func183,Tryz.ntmps183;go_wp2;go_ret;exact⟨by simp,rfl⟩
theorem Cc (x y:ByteArray)(w:G):Calls Tryz.prog 182 #[U x,U y] w fun e b=>e=QF (QC (aw x y))/\b=w:=by
 go_enter Tryz.func182,Tryz.ntmps182;go_wp2_with (go_at_call 206;refine(EV _ _).mono ?_;rintro e w1 ⟨rfl,rfl⟩);all_goals
  go_ret;exact⟨by simp,rfl⟩
theorem wu (b off n cap:Nat)(g:Nat->ByteArray)(t:ByteArray)(w:G)(hn:(n:Int)<=1048576)(B:RowStr w b off n g)(y:aI g n=QD):Calls Tryz.prog 150 #[Y (T (N b off Z)) n cap,U t] w fun e K=>∃ i:Int,e=QF (.tuple #[J I i,QC (aG g n t)])/\K=w:=by
 have D:=ae B;have s:=ae y;clear B y;obtain⟨QP,o⟩:∃ QP,QP=aG g n t:=⟨_,rfl⟩
 rw[<-o];have E:=ae o;clear o;go_enter Tryz.func150,Tryz.ntmps150;go_wp2;go_loop [7,8] (fun i j=>∃ p q:Nat,p<=q/\q<=n/\i=J I p/\j=J I q/\Hid (∀ m,m<p->aw (g m) t=QD)/\Hid (∀ m,q<=m->m<n->aw (g m) t=QB)) (fun i j=>(intOf j).toNat - (intOf i).toNat);case atStart=>exact⟨0,n,by omega,by omega,rfl,rfl,fun m r=>absurd r (E4 _),fun m h1 h2=>by omega⟩
 case round =>
  obtain⟨p,q,hpq,QO,rfl,rfl,H,A⟩:=hrel;by_cases hlt:p<q
  ·obtain⟨m,r⟩:∃ m:Nat,m=(p+q) / 2:=⟨_,rfl⟩
   have QR:p<=m:=by omega
   have hm2:m<q:=by omega
   have c0:=D.2 m (by omega);have hsh:((p:Int)+q) / 2=m:=by omega
   clear r;cases hb:aw (g m) t with
   | true =>
    have h:=ae hb;clear hb;go_wp2_with (go_at_call 182;refine(Cc _ _ _).mono ?_;rintro e z ⟨rfl,rfl⟩;rw[h.out]);refine⟨⟨m+1,q,by omega,QO,by go_num,rfl,fun x C=>?_,A⟩,by simp[intOf];omega⟩;by_cases e:x=m
    ·subst e;exact h
    ·exact dw (fi s (show x<m by omega) (by omega)) h
   | false =>
    have h:=ae hb;clear hb;go_wp2_with (go_at_call 182;refine(Cc _ _ _).mono ?_;rintro e z ⟨rfl,rfl⟩;rw[h.out]);refine⟨⟨p,m,QR,by omega,rfl,rfl,H,fun x h1 h2=>?_⟩,by simp[intOf];omega⟩;by_cases e:x=m
    ·subst e;exact h
    ·cases C:aw (g x) t with
     | false=>rfl
     | true =>have:=dw (fi s (show m<x by omega) h2) C;rw[h.out] at this;cases this
  ·have e:p=q:=by omega
   subst e;have u:=ae (E.trans (jW s QO H A));by_cases l:p<n
   ·have c0:=D.2 p l
    cases hb:((g p).toList == t.toList) with
    | true =>
     have f:QP=QD:=by rw[u.out,hb];simp[l]
     subst f;go_wp2;refine bp (v:=.tuple #[J I p,QC QD]) (by simp[results,Tryz.results150,go_sem]) rfl (by first | exact⟨⟨_,rfl⟩,rfl⟩ | exact⟨_,rfl,rfl⟩)
    | false =>
     have f:QP=QB:=by rw[u.out,hb];simp
     subst f;go_wp2_with (go_at_call 183;refine(EW _ _).mono ?_;rintro e z ⟨rfl,rfl⟩);all_goals
      refine bp (v:=.tuple #[J I p,QC QB]) (by simp[results,Tryz.results150,go_sem]) rfl (by first | exact⟨⟨_,rfl⟩,rfl⟩ | exact⟨_,rfl,rfl⟩)
   ·have f:QP=QB:=by rw[u.out];simp[l]
    subst f;go_wp2;refine bp (v:=.tuple #[J I p,QC QB]) (by simp[results,Tryz.results150,go_sem]) rfl (by first | exact⟨⟨_,rfl⟩,rfl⟩ | exact⟨_,rfl,rfl⟩)
theorem wv (a:Option Addr)(cap:Nat)(t:ByteArray)(w:G):Calls Tryz.prog 150 #[Y a 0 cap,U t] w fun e b=>∃ i:Int,e=QF (.tuple #[J I i,QC QB])/\b=w:=by
 go_enter Tryz.func150,Tryz.ntmps150;go_wp2;go_loop [7,8] (fun i j=>i=J I 0/\j=J I 0) (fun _ _=>0);case atStart=>exact⟨rfl,rfl⟩
 case round =>obtain⟨rfl,rfl⟩:=hrel;go_wp2;refine bp (v:=.tuple #[J I 0,QC QB]) (by simp[results,Tryz.results150,go_sem]) rfl (by first | exact⟨⟨_,rfl⟩,rfl⟩ | exact⟨_,rfl,rfl⟩)
end Go.Proofs.YtamacmnikdejeaaGreatDoor.Vp
namespace Go.Proofs.YtamacmnikdejeaaGreatDoor.Vp
open RowKit
theorem ju (g:Nat->ByteArray)(t:ByteArray):aG g 0 t=QB:=rfl
theorem ww (a:Option Addr)(n cap:Nat)(g:Nat->ByteArray)(t:ByteArray)(w:G)(hn:(n:Int)<=1048576)(f:SlStr w a n g)(h:aI g n=QD):Calls Tryz.prog 150 #[Y a n cap,U t] w fun e j=>∃ i:Int,e=QF (.tuple #[J I i,QC (aG g n t)])/\j=w:=by
 rcases f with rfl | ⟨b,off,rfl,f⟩
 ·exact wv a cap t w
 ·exact wu b off n cap g t w hn f h
theorem qB (s:ByteArray)(bx:Nat)(a:Option Addr)(n cap:Nat)(g:Nat->ByteArray)(w:G)(hc:w.cell? (N bx 0 Z)=T (Y a n cap))(hn:(n:Int)<=1048576)(b:SlStr w a n g)(f:aI g n=QD):Calls Tryz.prog 149 #[U s,.pointer (T (N bx 0 Z))] w fun e j=>e=QF (QC (aG g n s))/\j=w:=by have h:=ae b;have l:=ae f;clear b f;go_enter Tryz.func149,Tryz.ntmps149;go_wp2_with fail;refine(ww a n cap g s _ hn h l).mono ?_;rintro e w1 ⟨i,rfl,rfl⟩;go_wp2;go_ret;exact⟨rfl,rfl⟩
def aJ (p:Nat->Bool):Nat->Bool
 | 0=>QB
 | k+1=>aJ p k || p k
theorem cW {p:Nat->Bool}{k n:Nat}(h:k<n)(f:p k=QD):aJ p n=QD:=by
 induction n with
 | zero=>omega
 | succ m b =>
  by_cases e:k=m
  ·subst e;simp[aJ,f]
  ·simp[aJ,b (by omega)]
theorem xU (b off m c:Nat)(h:Nat->ByteArray)(bx:Nat)(a:Option Addr)(n cap:Nat)(g:Nat->ByteArray)(w:G)(hm:(m:Int)<=1048576)(j:RowStr w b off m h)(t:w.cell? (N bx 0 Z)=T (Y a n cap))(hn:(n:Int)<=1048576)(o:SlStr w a n g)(p:aI g n=QD):Calls Tryz.prog 181 #[Y (T (N b off Z)) m c,.func (.func 149) #[] #[.pointer (T (N bx 0 Z))]] w fun e y=>∃ r:Int,e=QF (J I r)/\decide (0<=r)=aJ (fun i=>aG g n (h i)) m/\y=w:=by
 have x:=ae j;have q:=ae o;have s:=ae p;clear o p j;go_enter Tryz.func181,Tryz.ntmps181;go_wp2;go_loop [8] (fun i=>∃ k:Nat,k<=m/\i=J I k/\Hid (aJ (fun i=>aG g n (h i)) k=QB)) (fun i=>m - (intOf i).toNat);case atStart=>exact⟨0,by omega,rfl,rfl⟩
 case round =>
  obtain⟨k,hk,rfl,u⟩:=hrel;by_cases l:k<m
  ·have c0:=x.2 k l
   cases hb:aG g n (h k) with
   | true =>have f:=ae hb;clear hb;go_wp2_with (go_at_call 149;refine(qB _ bx a n cap g _ t hn q s).mono ?_;rintro e z ⟨rfl,rfl⟩;rw[f.out]);go_ret;exact⟨k,rfl,by rw[cW l f.out];simp,rfl⟩
   | false =>have f:=ae hb;clear hb;go_wp2_with (go_at_call 149;refine(qB _ bx a n cap g _ t hn q s).mono ?_;rintro e z ⟨rfl,rfl⟩;rw[f.out]);exact⟨⟨k+1,by omega,by go_num,by show aJ _ (k+1)=QB;simp[aJ,u.out,f.out]⟩,by simp[intOf];omega⟩
  ·have e:k=m:=by omega
   subst e;go_wp2;go_ret;exact⟨-1,rfl,by rw[u.out];rfl,rfl⟩
theorem xV (a0:Option Addr)(c:Nat)(b:Value)(bx:Nat)(f:b=.func (.func 149) #[] #[.pointer (T (N bx 0 Z))])(w:G):Calls Tryz.prog 181 #[Y a0 0 c,b] w fun e g=>∃ r:Int,e=QF (J I r)/\decide (0<=r)=QB/\g=w:=by
 subst f;go_enter Tryz.func181,Tryz.ntmps181;go_wp2;go_loop [8] (fun i=>i=J I 0) (fun _=>0);case atStart=>rfl
 case round =>
  subst hrel;go_wp2;go_ret;first
   | exact⟨-1,rfl,rfl,rfl⟩
   | exact⟨-1,rfl,by decide,rfl⟩
   | exact⟨⟨-1,rfl,by decide⟩,rfl⟩
   | exact⟨-1,by decide,rfl⟩
theorem xW (a0:Option Addr)(m c:Nat)(h:Nat->ByteArray)(bx:Nat)(a:Option Addr)(n cap:Nat)(g:Nat->ByteArray)(w:G)(j:(m:Int)<=1048576)(f:SlStr w a0 m h)(p:w.cell? (N bx 0 Z)=T (Y a n cap))(hn:(n:Int)<=1048576)(l:SlStr w a n g)(o:aI g n=QD):Calls Tryz.prog 181 #[Y a0 m c,.func (.func 149) #[] #[.pointer (T (N bx 0 Z))]] w fun e q=>∃ r:Int,e=QF (J I r)/\decide (0<=r)=aJ (fun i=>aG g n (h i)) m/\q=w:=by
 rcases f with rfl | ⟨b,off,rfl,f⟩
 ·exact xV a0 c _ bx rfl w
 ·exact xU b off m c h bx a n cap g w j f p hn l o
theorem se (a0:Option Addr)(m c:Nat)(h:Nat->ByteArray)(bx:Nat)(a:Option Addr)(n cap:Nat)(g:Nat->ByteArray)(w:G)(q:(m:Int)<=1048576)(b:SlStr w a0 m h)(t:w.cell? (N bx 0 Z)=T (Y a n cap))(hn:(n:Int)<=1048576)(j:SlStr w a n g)(l:aI g n=QD):Calls Tryz.prog 148 #[Y a0 m c,.func (.func 149) #[] #[.pointer (T (N bx 0 Z))]] w fun e u=>e=QF (QC (aJ (fun i=>aG g n (h i)) m))/\u=w:=by
 have p:=ae (xW a0 m c h bx a n cap g w q b t hn j l);obtain⟨A,f⟩:∃ A,A=aJ (fun i=>aG g n (h i)) m:=⟨_,rfl⟩
 rw[<-f];rw[<-f] at p;clear f j l b;go_enter Tryz.func148,Tryz.ntmps148;go_wp2_with fail;refine p.mono ?_;rintro e w1 ⟨r,rfl,o,rfl⟩;have s:=ae o;clear o;go_wp2;go_ret;exact⟨bo s,rfl⟩
theorem zE (a0:Option Addr)(m c:Nat)(h:Nat->ByteArray)(a:Option Addr)(n cap:Nat)(g:Nat->ByteArray)(w:G)(q:(m:Int)<=1048576)(b:SlStr w a0 m h)(hn:(n:Int)<=1048576)(l:SlStr w a n g)(o:aI g n=QD):Calls Tryz.prog 111 #[Y a0 m c,Y a n cap] w fun e r=>e=QF (QC (aJ (fun i=>aG g n (h i)) m))/\Below w.heap.size w r:=by
 have f:=ae ((q9 w).alloc ly (Q #[Y a n cap] 35));have p:=ae (se a0 m c h w.heap.size a n cap g (w.alloc (Q #[Y a n cap] 35)) q (b.below f ly) (by simp) hn (l.below f ly) o);obtain⟨A,j⟩:∃ A,A=aJ (fun i=>aG g n (h i)) m:=⟨_,rfl⟩
 rw[<-j];rw[<-j] at p;clear j l o b;go_enter Tryz.func111,Tryz.ntmps111;go_wp2_with fail;refine p.mono ?_;rintro e w1 ⟨rfl,rfl⟩;go_wp2;go_ret;exact⟨rfl,f⟩
def ey (x:Source):Bool:=decide (2000<(x.text.size:Int))
theorem Cl (nm tx:ByteArray)(w:G):Calls Tryz.prog 113 #[QG #[U nm,U tx]] w fun e b=>e=QF (QC (decide (2000<(tx.size:Int))))/\Below w.heap.size w b:=by go_enter Tryz.func113,Tryz.ntmps113;go_wp2;go_ret;exact⟨rfl,br.alloc ly _⟩
theorem wA (b off m c:Nat)(f:Nat->Source)(w:G)(hm:(m:Int)<=1048576)(h:RowSource w b off m f):Calls Tryz.prog 151 #[Y (T (N b off Z)) m c,.func (.func 113) #[] #[]] w fun e u=>∃ r:Int,e=QF (J I r)/\decide (0<=r)=aJ (fun i=>ey (f i)) m/\Below w.heap.size w u:=by
 have q:=ae h;clear h;go_enter Tryz.func151,Tryz.ntmps151;go_wp2;go_loopw [8] (fun i wr=>∃ k:Nat,k<=m/\i=J I k/\Hid (aJ (fun i=>ey (f i)) k=QB)/\Below w.heap.size w wr) (fun i _=>m - (intOf i).toNat);case atStart=>exact⟨0,by omega,rfl,rfl,a8 _ _⟩
 case round =>
  obtain⟨k,hk,rfl,s,t⟩:=hrel;have g:=ae t;clear t;by_cases j:k<m
  ·obtain⟨c0,c1⟩:=(q.2 k j).below g q.1
   go_wp2_with fail;refine(Cl _ _ _).mono ?_;rintro e w1 ⟨rfl,l⟩;have o:=ae (g.trans (l.mono g.size));clear l;cases hb:ey (f k) with
   | true =>have n:=ae hb;have h2:decide (2000<((f k).text.size:Int))=QD:=hb;clear hb;rw[h2];clear h2;go_wp2;go_ret;exact⟨k,rfl,by rw[cW (p:=fun i=>ey (f i)) j n.out];simp,o.out⟩
   | false =>have n:=ae hb;have h2:decide (2000<((f k).text.size:Int))=QB:=hb;clear hb;rw[h2];clear h2;go_wp2;exact⟨⟨k+1,by omega,by go_num,by show aJ _ (k+1)=QB;simp[aJ,s.out,n.out],o.out⟩,by simp[intOf];omega⟩
  ·have e:k=m:=by omega
   subst e;go_wp2;go_ret;exact⟨-1,rfl,by rw[s.out];rfl,g⟩
theorem wB (a0:Option Addr)(c:Nat)(w:G):Calls Tryz.prog 151 #[Y a0 0 c,.func (.func 113) #[] #[]] w fun e b=>e=QF (J I (-1))/\b=w:=by
 go_enter Tryz.func151,Tryz.ntmps151;go_wp2;go_loop [8] (fun i=>i=J I 0) (fun _=>0);case atStart=>rfl
 case round =>subst hrel;go_wp2;go_ret;exact⟨rfl,rfl⟩
theorem wD (a0:Option Addr)(m c:Nat)(f:Nat->Source)(w:G)(j:(m:Int)<=1048576)(g:SlSource w a0 m f):Calls Tryz.prog 151 #[Y a0 m c,.func (.func 113) #[] #[]] w fun e h=>∃ r:Int,e=QF (J I r)/\decide (0<=r)=aJ (fun i=>ey (f i)) m/\Below w.heap.size w h:=by
 rcases g with rfl | ⟨b,off,rfl,g⟩
 ·exact(wB a0 c w).mono fun e h ⟨p,q⟩=>⟨-1,p,rfl,by rw[q];exact a8 _ _⟩
 ·exact wA b off m c f w j g
theorem rz (a0:Option Addr)(m c:Nat)(f:Nat->Source)(w:G)(n:(m:Int)<=1048576)(b:SlSource w a0 m f):Calls Tryz.prog 112 #[Y a0 m c,.func (.func 113) #[] #[]] w fun e q=>e=QF (QC (aJ (fun i=>ey (f i)) m))/\Below w.heap.size w q:=by
 have l:=ae (wD a0 m c f w n b);obtain⟨A,g⟩:∃ A,A=aJ (fun i=>ey (f i)) m:=⟨_,rfl⟩
 rw[<-g];rw[<-g] at l;clear g b;go_enter Tryz.func112,Tryz.ntmps112;go_wp2_with fail;refine l.mono ?_;rintro e w1 ⟨r,rfl,h,j⟩;have p:=ae h;have o:=ae j;clear h j;go_wp2;go_ret;exact⟨bo p,o⟩
def b9 (x:Target):Bool:=!valid x.act x.actN
theorem Cm (nm:ByteArray)(a:Option Addr)(n cap:Nat)(f:Nat->Ins)(w:G)(hn:n<=1048576)(h:SlIns w a n f)(g:Tab w):Calls Tryz.prog 115 #[QG #[U nm,Y a n cap]] w fun e m=>e=QF (QC (!valid f n))/\Below w.heap.size w m:=by have b:=ae ((q9 w).alloc ly (Q #[U nm,Y a n cap] 125));have j:=ae (lP a n cap f (w.alloc (Q #[U nm,Y a n cap] 125)) hn (h.below b ly) (g.below b g.1));clear h g;go_enter Tryz.func115,Tryz.ntmps115;go_wp2_with fail;refine j.mono ?_;rintro e w1 ⟨rfl,i⟩;have l:=ae (b.trans (i.mono (by simp)));clear i;go_wp2;go_ret;exact⟨rfl,l⟩
theorem wE (b off m c:Nat)(f:Nat->Target)(w:G)(hm:(m:Int)<=1048576)(j:∀ i,i<m->bk (f i))(z:Tab w)(h:RowTarget w b off m f):Calls Tryz.prog 152 #[Y (T (N b off Z)) m c,.func (.func 115) #[] #[]] w fun e E=>∃ r:Int,e=QF (J I r)/\decide (0<=r)=aJ (fun i=>b9 (f i)) m/\Below w.heap.size w E:=by
 have u:=ae h;have C:=ae j;have A:=ae z;clear h j z;go_enter Tryz.func152,Tryz.ntmps152;go_wp2;go_loopw [8] (fun i wr=>∃ k:Nat,k<=m/\i=J I k/\Hid (aJ (fun i=>b9 (f i)) k=QB)/\Below w.heap.size w wr) (fun i _=>m - (intOf i).toNat);case atStart=>exact⟨0,by omega,rfl,rfl,a8 _ _⟩
 case round =>
  obtain⟨k,hk,rfl,y,s⟩:=hrel;have g:=ae s;clear s;by_cases l:k<m
  ·obtain⟨c0,D,B,c1,n⟩:=(u.2 k l).below g ly u.1
   have t:=ae n;clear n;go_wp2_with fail;refine(Cm (f k).name D (f k).actN B (f k).act _ (C k l) t (A.below g A.1)).mono ?_;rintro e w1 ⟨rfl,o⟩;have x:=ae (g.trans (o.mono g.size));clear o;cases hb:b9 (f k) with
   | true =>have q:=ae hb;have h2:(!valid (f k).act (f k).actN)=QD:=hb;clear hb;rw[h2];clear h2;go_wp2;go_ret;exact⟨k,rfl,by rw[cW (p:=fun i=>b9 (f i)) l q.out];simp,x.out⟩
   | false =>have q:=ae hb;have h2:(!valid (f k).act (f k).actN)=QB:=hb;clear hb;rw[h2];clear h2;go_wp2;exact⟨⟨k+1,by omega,by go_num,by show aJ _ (k+1)=QB;simp[aJ,y.out,q.out],x.out⟩,by simp[intOf];omega⟩
  ·have e:k=m:=by omega
   subst e;go_wp2;go_ret;exact⟨-1,rfl,by rw[y.out];rfl,g⟩
theorem wF (a0:Option Addr)(c:Nat)(w:G):Calls Tryz.prog 152 #[Y a0 0 c,.func (.func 115) #[] #[]] w fun e b=>e=QF (J I (-1))/\b=w:=by
 go_enter Tryz.func152,Tryz.ntmps152;go_wp2;go_loop [8] (fun i=>i=J I 0) (fun _=>0);case atStart=>rfl
 case round =>subst hrel;go_wp2;go_ret;exact⟨rfl,rfl⟩
theorem wG (a0:Option Addr)(m c:Nat)(f:Nat->Target)(w:G)(l:(m:Int)<=1048576)(h:∀ i,i<m->bk (f i))(n:Tab w)(g:SlTarget w a0 m f):Calls Tryz.prog 152 #[Y a0 m c,.func (.func 115) #[] #[]] w fun e j=>∃ r:Int,e=QF (J I r)/\decide (0<=r)=aJ (fun i=>b9 (f i)) m/\Below w.heap.size w j:=by
 rcases g with rfl | ⟨b,off,rfl,g⟩
 ·exact(wF a0 c w).mono fun e j ⟨p,q⟩=>⟨-1,p,rfl,by rw[q];exact a8 _ _⟩
 ·exact wE b off m c f w l h n g
theorem rA (a0:Option Addr)(m c:Nat)(f:Nat->Target)(w:G)(p:(m:Int)<=1048576)(g:∀ i,i<m->bk (f i))(o:Tab w)(b:SlTarget w a0 m f):Calls Tryz.prog 114 #[Y a0 m c,.func (.func 115) #[] #[]] w fun e t=>e=QF (QC (aJ (fun i=>b9 (f i)) m))/\Below w.heap.size w t:=by
 have l:=ae (wG a0 m c f w p g o b);obtain⟨A,h⟩:∃ A,A=aJ (fun i=>b9 (f i)) m:=⟨_,rfl⟩
 rw[<-h];rw[<-h] at l;clear h b g o;go_enter Tryz.func114,Tryz.ntmps114;go_wp2_with fail;refine l.mono ?_;rintro e w1 ⟨r,rfl,j,n⟩;have q:=ae j;have s:=ae n;clear j n;go_wp2;go_ret;exact⟨bo q,s⟩
theorem rB (a:Option Addr)(cap:Nat)(w:G):Calls Tryz.prog 110 #[Y a 0 cap] w fun e b=>e=QF (QC QD)/\b=w:=by
 go_enter Tryz.func110,Tryz.ntmps110;go_wp2;go_loop [3] (fun i=>i=J I 1) (fun _=>0);case atStart=>rfl
 case round =>subst hrel;go_wp2;go_ret;exact⟨rfl,rfl⟩
theorem lL (a:Option Addr)(n cap:Nat)(g:Nat->ByteArray)(w:G)(hn:(n:Int)<=1048576)(f:SlStr w a n g):Calls Tryz.prog 110 #[Y a n cap] w fun e h=>e=QF (QC (aI g n))/\Below w.heap.size w h:=by
 rcases f with rfl | ⟨b,off,rfl,f⟩
 ·exact(rB a cap w).mono fun e h ⟨p,q⟩=>⟨p,by rw[q];exact a8 _ _⟩
 ·exact ry b off n cap g w hn f
abbrev nm0 (f0:Nat->Source):Nat->ByteArray:=fun i=>(f0 i).name
abbrev nm1 (f1:Nat->Target):Nat->ByteArray:=fun i=>(f1 i).name
def bh (n0:Nat)(f0:Nat->Source)(n1:Nat)(f1:Nat->Target):Int :=
 if 200<n0+n1 then 1 else if bM (nm0 f0) n0=QB then 2 else if bM (nm1 f1) n1=QB then 2 else if aI (nm0 f0) n0=QB then 3 else if aI (nm1 f1) n1=QB then 4
 else if aJ (fun i=>aG (nm1 f1) n1 (nm0 f0 i)) n0=QD then 5 else if aJ (fun i=>ey (f0 i)) n0=QD then 6 else if aJ (fun i=>b9 (f1 i)) n1=QD then 7 else 0
theorem rC (a0:Option Addr)(n0 c0:Nat)(f0:Nat->Source)(a1:Option Addr)(n1 c1:Nat)(f1:Nat->Target)(w:G)(hn0:(n0:Int)<=1048576)(hn1:(n1:Int)<=1048576)(E:SlSource w a0 n0 f0)(bt:SlTarget w a1 n1 f1)(y:∀ i,i<n1->bk (f1 i))(hT:Tab w):Calls Tryz.prog 69 #[QG #[Y a0 n0 c0,Y a1 n1 c1]] w fun e w'=>e=QF (J I (bh n0 f0 n1 f1))/\Below w.heap.size w w':=by
 have V0:=ae E;have V1:=ae bt;have HF:=ae y;have HT:=ae hT;clear E bt y hT;obtain⟨C,B⟩:∃ C,C=bh n0 f0 n1 f1:=⟨_,rfl⟩
 rw[<-B];unfold bh at B;have HC:=ae B;clear B;have A0:=ae ((q9 w).alloc ly (Q #[Y a0 n0 c0,Y a1 n1 c1] 29));go_enter Tryz.func69,Tryz.ntmps69;go_wp2_with fail;refine(vX a0 a1 n0 c0 n1 c1 _ hn0 hn1).mono ?_;rintro e u ⟨rfl,t⟩;have k0:u.cell? (N w.heap.size 0 Z)=T (Y a0 n0 c0):=(t.cell (p:=(N w.heap.size 0 Z)) (by simp)).trans (by simp);have k1:u.cell? (N w.heap.size 1 Z)=T (Y a1 n1 c1):=(t.cell (p:=(N w.heap.size 1 Z)) (by simp)).trans (by simp);have z1:w.heap.size<u.heap.size:=by have:=t.size;simp at this;omega
 have r:=ae (A0.trans (t.mono (by simp)));clear t A0;by_cases h1:(200:Int)<n0+n1
 ·have b:=HC.out
  rw[gM (by omega)] at b;subst b;go_wp2;go_ret;exact⟨rfl,r⟩
 have x:=HC.out;rw[cM (by omega)] at x;have D:=ae x;clear x HC;go_wp2_with fail
 go_region_with (first
  | (go_at_call 107;refine(oK a0 n0 c0 a1 n1 c1 f0 _ hn0 ?_).mono ?_;(first | exact V0.below r ly | exact V0.below r.drew ly);rintro e w2 ⟨sa,sc,rfl,R,q⟩;have S2:=ae R;have z:Hid (Below u.heap.size u w2):=⟨q.os,q.tape,q.output,q.size,q.block⟩;have B2:=ae (r.trans (z.mono r.size));have QL:=(z.cell (p:=(N w.heap.size 0 Z)) z1).trans k0;have QH:=(z.cell (p:=(N w.heap.size 1 Z)) z1).trans k1;have z2:w.heap.size<w2.heap.size:=lj z1 z.size;clear R q)
  | (go_at_call 108;refine(oN a1 n1 c1 a0 n0 c0 f1 _ hn1 ?_).mono ?_;exact V1.below B2 ly;rintro e w3 ⟨ta,tc,rfl,QR,o⟩;have S3:=ae QR;have R3:=ae (S2.below o ly);have B3:=ae (B2.trans (o.mono B2.size));have M:=(o.cell (p:=(N w.heap.size 0 Z)) z2).trans QL;have QP:=(o.cell (p:=(N w.heap.size 1 Z)) z2).trans QH;have z3:w.heap.size<w3.heap.size:=lj z2 o.size;clear QR o))
 all_goals
  clear k0 k1 QL QH;go_wp2_with fail;refine(lR sa n0 sc (nm0 f0) _ hn0 R3).mono ?_;rintro e w4 ⟨rfl,h⟩;have B4:=ae (B3.trans (h.mono B3.size));have R4:=ae (R3.below h ly);have S4:=ae (S3.below h ly);have la:=(h.cell (p:=(N w.heap.size 0 Z)) z3).trans M;have QN:=(h.cell (p:=(N w.heap.size 1 Z)) z3).trans QP;have z4:w.heap.size<w4.heap.size:=lj z3 h.size;clear h M QP;cases q0:bM (nm0 f0) n0 with
  | false =>have b:=D.out;rw[gM q0] at b;subst b;clear q0;go_wp2;go_ret;exact⟨rfl,B4⟩
  | true =>
   have b:=D.out;rw[cM (by simp[q0])] at b;have P:=ae b;clear b q0;go_wp2_with fail;refine(lR ta n1 tc (nm1 f1) _ hn1 S4).mono ?_;rintro e w5 ⟨rfl,m⟩;have B5:=ae (B4.trans (m.mono B4.size));have R5:=ae (R4.below m ly);have S5:=ae (S4.below m ly);have aq:=(m.cell (p:=(N w.heap.size 0 Z)) z4).trans la;have fd:=(m.cell (p:=(N w.heap.size 1 Z)) z4).trans QN;have z5:w.heap.size<w5.heap.size:=lj z4 m.size;clear m la QN;cases q1:bM (nm1 f1) n1 with
   | false =>have b:=P.out;rw[gM q1] at b;subst b;clear q1;go_wp2;go_ret;exact⟨rfl,B5⟩
   | true =>
    have b:=P.out;rw[cM (by simp[q1])] at b;have O:=ae b;clear b q1;go_wp2_with fail;refine(lL sa n0 sc (nm0 f0) _ hn0 R5).mono ?_;rintro e w6 ⟨rfl,n⟩;have B6:=ae (B5.trans (n.mono B5.size));have R6:=ae (R5.below n ly);have S6:=ae (S5.below n ly);have QJ:=(n.cell (p:=(N w.heap.size 0 Z)) z5).trans aq;have ex:=(n.cell (p:=(N w.heap.size 1 Z)) z5).trans fd;have z6:w.heap.size<w6.heap.size:=lj z5 n.size;clear n aq fd;cases q2:aI (nm0 f0) n0 with
    | false =>have b:=O.out;rw[gM q2] at b;subst b;clear q2;go_wp2;go_ret;exact⟨rfl,B6⟩
    | true =>
     have b:=O.out;rw[cM (by simp[q2])] at b;have W:=ae b;clear b q2;go_wp2_with fail;refine(lL ta n1 tc (nm1 f1) _ hn1 S6).mono ?_;rintro e w7 ⟨rfl,l⟩;have B7:=ae (B6.trans (l.mono B6.size));have R7:=ae (R6.below l ly);have S7:=ae (S6.below l ly);have L:=(l.cell (p:=(N w.heap.size 0 Z)) z6).trans QJ;have V:=(l.cell (p:=(N w.heap.size 1 Z)) z6).trans ex;have z7:w.heap.size<w7.heap.size:=lj z6 l.size;clear l QJ ex;cases q3:aI (nm1 f1) n1 with
     | false =>have b:=W.out;rw[gM q3] at b;subst b;clear q3;go_wp2;go_ret;exact⟨rfl,B7⟩
     | true =>
      have b:=W.out;rw[cM (by simp[q3])] at b;have n6:=ae q3;have H:=ae b;clear b q3;go_wp2_with fail;refine(zE sa n0 sc (nm0 f0) ta n1 tc (nm1 f1) _ hn0 R7 hn1 S7 n6).mono ?_;rintro e w8 ⟨rfl,j⟩;have A:=ae (B7.trans (j.mono B7.size));have R8:=ae (R7.below j ly);have S8:=ae (S7.below j ly);have QM:=(j.cell (p:=(N w.heap.size 0 Z)) z7).trans L;have QK:=(j.cell (p:=(N w.heap.size 1 Z)) z7).trans V;have z8:w.heap.size<w8.heap.size:=lj z7 j.size;clear j L V;cases q4:aJ (fun i=>aG (nm1 f1) n1 (nm0 f0 i)) n0 with
      | true =>have b:=H.out;rw[gM q4] at b;subst b;clear q4;go_wp2;go_ret;exact⟨rfl,A⟩
      | false =>
       have b:=H.out;rw[cM (by simp[q4])] at b;have ld:=ae b;clear b q4;go_wp2_with fail;refine(rz a0 n0 c0 f0 _ hn0 (V0.below A ly)).mono ?_;rintro e w9 ⟨rfl,g⟩;have s:=ae (A.trans (g.mono A.size));have R9:=ae (R8.below g ly);have S9:=ae (S8.below g ly);have S:=(g.cell (p:=(N w.heap.size 0 Z)) z8).trans QM;have K:=(g.cell (p:=(N w.heap.size 1 Z)) z8).trans QK;have z9:w.heap.size<w9.heap.size:=lj z8 g.size;clear g QM QK;cases q5:aJ (fun i=>ey (f0 i)) n0 with
       | true =>have b:=ld.out;rw[gM q5] at b;subst b;clear q5;go_wp2;go_ret;exact⟨rfl,s⟩
       | false =>
        have b:=ld.out;rw[cM (by simp[q5])] at b;have X:=ae b;clear b q5;go_wp2_with fail;refine(rA a1 n1 c1 f1 _ hn1 HF (HT.below s HT.1) (V1.below s ly)).mono ?_;rintro e mv ⟨rfl,f⟩;have QO:=ae (s.trans (f.mono s.size));have R10:=ae (R9.below f ly);have S10:=ae (S9.below f ly);have k100:=(f.cell (p:=(N w.heap.size 0 Z)) z9).trans S;have k101:=(f.cell (p:=(N w.heap.size 1 Z)) z9).trans K;have z10:w.heap.size<mv.heap.size:=lj z9 f.size;clear f S K;cases q6:aJ (fun i=>b9 (f1 i)) n1 with
        | true =>have b:=X.out;rw[gM q6] at b;subst b;clear q6;go_wp2;go_ret;exact⟨rfl,QO⟩
        | false =>have b:=X.out;rw[cM (by simp[q6])] at b;subst b;clear q6;go_wp2;go_ret;exact⟨rfl,QO⟩
theorem jv (g:Nat->ByteArray)(k:Nat)(t:ByteArray):aG g (k+1) t=(aG g k t || ((g k).toList == t.toList)):=by simp[aG,JA]
theorem fO {g:Nat->ByteArray}{k n:Nat}{t:ByteArray}(h:k<n)(b:((g k).toList == t.toList)=QD):aG g n t=QD:=by simp only[aG,MP,HU];exact⟨k,h,b⟩
theorem sf (a0:Option Addr)(n0 c0 b off n1 c1:Nat)(f1:Nat->Target)(t:ByteArray)(w:G)(hn1:(n1:Int)<=1048576)(h:RowTarget w b off n1 f1):Calls Tryz.prog 74 #[QG #[Y a0 n0 c0,Y (T (N b off Z)) n1 c1],U t] w fun e p=>∃ r:Int,e=QF (J I r)/\decide (0<=r)=aG (nm1 f1) n1 t/\Below w.heap.size w p:=by
 have f:=ae ((q9 w).alloc ly (Q #[Y a0 n0 c0,Y (T (N b off Z)) n1 c1] 29));have m:=ae (h.below f ly);have o:(w.alloc (Q #[Y a0 n0 c0,Y (T (N b off Z)) n1 c1] 29)).cell? (N w.heap.size 1 Z)=T (Y (T (N b off Z)) n1 c1):=by simp
 clear h;go_enter Tryz.func74,Tryz.ntmps74;go_wp2;generalize w.alloc (Q #[Y a0 n0 c0,Y (T (N b off Z)) n1 c1] 29)=W at f m o ⊢;go_loop [5] (fun i=>∃ k:Nat,k<=n1/\i=J I k/\Hid (aG (nm1 f1) k t=QB)) (fun i=>n1 - (intOf i).toNat);case atStart=>exact⟨0,by omega,rfl,rfl⟩
 case round =>
  obtain⟨k,hk,rfl,n⟩:=hrel;by_cases j:k<n1
  ·obtain⟨d0,ka,kc,d1,_⟩:=m.2 k j
   cases hb:((f1 k).name.toList == t.toList) with
   | true =>have l:=ae hb;go_wp2;go_ret;exact⟨k,rfl,by rw[fO (g:=nm1 f1) j l.out];simp,f.out⟩
   | false =>have l:=ae hb;go_wp2;exact⟨⟨k+1,by omega,by go_num,by show aG (nm1 f1) (k+1) t=QB;rw[jv,n.out];exact l⟩,by simp[intOf];omega⟩
  ·have e:k=n1:=by omega
   subst e;go_wp2;go_ret;exact⟨-1,rfl,by rw[n.out];rfl,f⟩
theorem fK {a b:ByteArray}(h:a.toList=b.toList):a=b:=by rw[IX,IX] at h;exact NQ (Array.toList_inj.1 h)
theorem bytes_beq {a b:ByteArray}(h:(a.toList == b.toList)=QD):a=b:=fK (by simpa using h)
theorem asc_one {g:Nat->ByteArray}{n i j:Nat}{t:ByteArray}(b:aI g n=QD)(hi:i<n)(m:j<n)(h1:((g i).toList == t.toList)=QD)(h2:((g j).toList == t.toList)=QD):i=j:=by
 have f:=bytes_beq h1;have l:=bytes_beq h2;rcases MB i j with h | h | h
 ·have:=fi b h m
  rw[f,l,fX] at this;cases this
 ·exact h
 ·have:=fi b h hi
  rw[f,l,fX] at this;cases this
theorem gU {p:Nat->Bool}{n:Nat}(h:aJ p n=QD):∃ k,k<n/\p k=QD:=by
 induction n with
 | zero=>simp[aJ] at h
 | succ m b =>
  simp only[aJ,Bool.or_eq_true] at h;rcases h with h | h
  ·obtain⟨k,hk,f⟩:=b h
   exact⟨k,by omega,f⟩
  ·exact⟨m,by omega,h⟩
theorem uW {g:Nat->ByteArray}{q:Nat->Bool}{n k:Nat}{t:ByteArray}(h:aI g n=QD)(f:k<n)(h1:((g k).toList == t.toList)=QD):aJ (fun i=>((g i).toList == t.toList) && q i) n=q k:=by
 cases e:q k with
 | true=>exact cW f (by simp[h1,e])
 | false =>
  cases e2:aJ (fun i=>((g i).toList == t.toList) && q i) n with
  | false=>rfl
  | true =>obtain⟨i,hi,b⟩:=gU e2;simp only[j4] at b;obtain rfl:=asc_one h hi f b.1 h1;rw[e] at b;exact absurd b.2 (by simp)
theorem sj {g:Nat->ByteArray}{n:Nat}{t:ByteArray}(h:aG g n t=QD):∃ k,k<n/\((g k).toList == t.toList)=QD:=by simp only[aG,MP,HU] at h;exact h
theorem ss {g:Nat->ByteArray}{q:Nat->Bool}{n:Nat}{t:ByteArray}(h:aG g n t=QB):aJ (fun i=>((g i).toList == t.toList) && q i) n=QB:=by
 cases e2:aJ (fun i=>((g i).toList == t.toList) && q i) n with
 | false=>rfl
 | true =>obtain⟨i,hi,b⟩:=gU e2;simp only[j4] at b;rw[fO hi b.1] at h;cases h
theorem qC {n0:Nat}{f0:Nat->Source}{n1:Nat}{f1:Nat->Target}(h:bh n0 f0 n1 f1=0):aI (nm0 f0) n0=QD/\aI (nm1 f1) n1=QD/\n0+n1<=200:=by
 unfold bh at h;split at h;· omega
 split at h;· omega
 split at h;· omega
 split at h;· omega
 split at h;· omega
 rename_i h0 _ _ f b;exact⟨by simpa using f,by simpa using b,by omega⟩
def nM (n0:Nat)(f0:Nat->Source)(n1:Nat)(f1:Nat->Target)(t:ByteArray):Bool:=aG (nm0 f0) n0 t || aG (nm1 f1) n1 t
def pL (n0:Nat)(f0:Nat->Source)(t x:ByteArray):Bool:=aJ (fun i=>((nm0 f0 i).toList == t.toList) && ((f0 i).text.toList == x.toList)) n0
def nN (n1:Nat)(f1:Nat->Target)(t:ByteArray)(n:Nat)(f:Nat->Ins):Bool:=aJ (fun i=>((nm1 f1 i).toList == t.toList) && fg (f1 i).act f (f1 i).actN n) n1
def jM (n0:Nat)(f0:Nat->Source)(n1:Nat)(f1:Nat->Target)(d:ah):Bool :=
 if d.kind=1 then !pL n0 f0 d.name d.text else if d.kind=3 then !nN n1 f1 d.name d.actN d.act else nM n0 f0 n1 f1 d.name
def gC (n0:Nat)(f0:Nat->Source)(n1:Nat)(f1:Nat->Target)(l:Link):Bool:=!l.ask && !(l.has == nM n0 f0 n1 f1 l.name)
def hasB (n0:Nat)(f0:Nat->Source)(n1:Nat)(f1:Nat->Target)(d:ah):Bool:=aJ (fun k=>gC n0 f0 n1 f1 (d.links k)) d.linksN
theorem slS {w:G}{a:Option Addr}{n:Nat}{f:Nat->Source}(h:SlSource w a n f)(hn:n≠0):∃ b off,a=T (N b off Z)/\RowSource w b off n f:=h.resolve_left hn
theorem slT {w:G}{a:Option Addr}{n:Nat}{f:Nat->Target}(h:SlTarget w a n f)(hn:n≠0):∃ b off,a=T (N b off Z)/\RowTarget w b off n f:=h.resolve_left hn
theorem bx2 {w W b:G}{u v:Value}(z:w.heap.size<W.heap.size)(h:W.cell? (N w.heap.size 0 Z)=T u)(g:W.cell? (N w.heap.size 1 Z)=T v)(A:Hid (Below w.heap.size w W))(f:Below W.heap.size W b):b.cell? (N w.heap.size 0 Z)=T u/\b.cell? (N w.heap.size 1 Z)=T v/\w.heap.size<b.heap.size/\Hid (Below w.heap.size w b) :=
 ⟨(f.cell (p:=(N w.heap.size 0 Z)) z).trans h,(f.cell (p:=(N w.heap.size 1 Z)) z).trans g,lj z f.size,A.trans (f.mono A.size)⟩
theorem su (a0:Option Addr)(n0 c0:Nat)(a1:Option Addr)(c1:Nat)(g:Nat->ByteArray)(t:ByteArray)(w:G):Calls Tryz.prog 74 #[QG #[Y a0 n0 c0,Y a1 0 c1],U t] w fun e b=>∃ r:Int,e=QF (J I r)/\decide (0<=r)=aG g 0 t/\Below w.heap.size w b:=by
 have f:=ae ((q9 w).alloc ly (Q #[Y a0 n0 c0,Y a1 0 c1] 29));go_enter Tryz.func74,Tryz.ntmps74;go_wp2;go_loop [5] (fun i=>i=J I 0) (fun _=>0);case atStart=>rfl
 case round =>subst hrel;go_wp2;go_ret;exact⟨-1,rfl,by rw[ju];rfl,f⟩
theorem lS (a0:Option Addr)(n0 c0:Nat)(a1:Option Addr)(n1 c1:Nat)(f1:Nat->Target)(t:ByteArray)(w:G)(hn1:(n1:Int)<=1048576)(f:SlTarget w a1 n1 f1):Calls Tryz.prog 74 #[QG #[Y a0 n0 c0,Y a1 n1 c1],U t] w fun e h=>∃ r:Int,e=QF (J I r)/\decide (0<=r)=aG (nm1 f1) n1 t/\Below w.heap.size w h:=by
 rcases f with rfl | ⟨b,off,rfl,g⟩
 ·exact su a0 n0 c0 a1 c1 (nm1 f1) t w
 ·exact sf a0 n0 c0 b off n1 c1 f1 t w hn1 g
theorem eV (a0:Option Addr)(n0 c0:Nat)(f0:Nat->Source)(a1:Option Addr)(n1 c1:Nat)(f1:Nat->Target)(w:G)(hn0:(n0:Int)<=1048576)(hn1:(n1:Int)<=1048576)(ld:SlSource w a0 n0 f0)(mv:SlTarget w a1 n1 f1)(bt:∀ i,i<n1->bk (f1 i))(hs:∀ i,i<n1->∀ j,j<(f1 i).actN->((f1 i).act j).s.size<=maxLen):Calls Tryz.prog 43 #[QG #[Y a0 n0 c0,Y a1 n1 c1]] w fun e w'=>e=QF (J I (bh n0 f0 n1 f1))/\Below w.heap.size w w':=by
 have V0:=ae ld;have W:=ae mv;have HF:=ae bt;have HS:=ae hs;clear ld mv bt hs;obtain⟨C,hC⟩:∃ C,C=bh n0 f0 n1 f1:=⟨_,rfl⟩
 rw[<-hC];unfold bh at hC;have HC:=ae hC;clear hC;have A0:=ae ((q9 w).alloc ly (Q #[Y a0 n0 c0,Y a1 n1 c1] 29));have H:(w.alloc (Q #[Y a0 n0 c0,Y a1 n1 c1] 29)).cell? (N w.heap.size 0 Z)=T (Y a0 n0 c0):=by simp
 have D:(w.alloc (Q #[Y a0 n0 c0,Y a1 n1 c1] 29)).cell? (N w.heap.size 1 Z)=T (Y a1 n1 c1):=by simp
 have z0:w.heap.size<(w.alloc (Q #[Y a0 n0 c0,Y a1 n1 c1] 29)).heap.size:=by simp
 go_enter Tryz.func43,Tryz.ntmps43;by_cases h1:(200:Int)<n0+n1
 ·have f:=HC.out
  rw[gM (by omega)] at f;subst f;go_wp2;go_ret;exact⟨rfl,A0⟩
 have QJ:=HC.out;rw[cM (by omega)] at QJ;have S:=ae QJ;clear QJ HC;go_wp2;generalize w.alloc (Q #[Y a0 n0 c0,Y a1 n1 c1] 29)=W0 at A0 H D z0 ⊢;go_loopw [5] (fun i wr=>∃ k:Nat,k<=n0/\i=J I k/\Hid (bM (nm0 f0) k=QD)/\Below W0.heap.size W0 wr) (fun i _=>n0 - (intOf i).toNat);case atStart=>exact⟨0,by omega,rfl,rfl,a8 _ _⟩
 case round =>
  obtain⟨k,QM,rfl,o,n⟩:=hrel;obtain⟨QN,A,z1,A1⟩:=bx2 z0 H D A0 n;have p:=ae n;clear n;by_cases h:k<n0
  ·obtain⟨b,off,rfl,l⟩:=slS V0 (by omega)
   obtain⟨y,x⟩:=(l.2 k h).below A1 l.1;clear l H D;go_wp2_with fail;refine(cP _ _).mono ?_;rintro e w1 ⟨rfl,q⟩;have u:=ae (p.trans (q.mono p.size));clear q;cases m:au (f0 k).name with
   | true =>have t:=ae m;clear m;go_wp2;exact⟨⟨k+1,by omega,by go_num,by show bM (nm0 f0) (k+1)=QD;simp[bM,o.out,t.out],u.out⟩,by simp[intOf];omega⟩
   | false =>have t:=ae m;have f:=S.out;rw[gM (iq (g:=(nm0 f0)) h t.out)] at f;subst f;clear m;go_wp2;go_ret;exact⟨rfl,A0.trans (u.mono A0.size)⟩
  ·have e:n0=k:=by omega
   subst e;have f:=S.out;rw[cM (by simp[o.out])] at f;have V:=ae f;clear f S o p H D;go_wp2;generalize wr=W1 at QN A z1 A1 ⊢;go_loopw [6] (fun i wr=>∃ k:Nat,k<=n1/\i=J I k/\Hid (bM (nm1 f1) k=QD)/\Below W1.heap.size W1 wr) (fun i _=>n1 - (intOf i).toNat);case atStart=>exact⟨0,by omega,rfl,rfl,a8 _ _⟩
   case round =>
    obtain⟨k,QM,rfl,o,n⟩:=hrel;obtain⟨B,QP,z2,A2⟩:=bx2 z1 QN A A1 n;have p:=ae n;clear n;by_cases h:k<n1
    ·obtain⟨b,off,rfl,l⟩:=slT W (by omega)
     obtain⟨y,ka,kc,x,_⟩:=(l.2 k h).below A2 ly l.1;clear l QN A;go_wp2_with fail;refine(cP _ _).mono ?_;rintro e w1 ⟨rfl,q⟩;have u:=ae (p.trans (q.mono p.size));clear q;cases m:au (f1 k).name with
     | true =>have t:=ae m;clear m;go_wp2;exact⟨⟨k+1,by omega,by go_num,by show bM (nm1 f1) (k+1)=QD;simp[bM,o.out,t.out],u.out⟩,by simp[intOf];omega⟩
     | false =>have t:=ae m;have f:=V.out;rw[gM (iq (g:=(nm1 f1)) h t.out)] at f;subst f;clear m;go_wp2;go_ret;exact⟨rfl,A1.trans (u.mono A1.size)⟩
    ·have e:n1=k:=by omega
     subst e;have f:=V.out;rw[cM (by simp[o.out])] at f;have QL:=ae f;clear f V o p QN A;go_wp2;generalize wr=W2 at B QP z2 A2 ⊢;go_loopw [7] (fun i wr=>∃ k:Nat,(k+1<=n0∨k=0)/\i=J I ((k:Int)+1)/\Hid (aI (nm0 f0) (k+1)=QD)/\Below W2.heap.size W2 wr) (fun i _=>n0+1 - (intOf i).toNat);case atStart=>exact⟨0,.inr rfl,rfl,rfl,a8 _ _⟩
     case round =>
      obtain⟨k,QM,rfl,o,n⟩:=hrel;obtain⟨QO,QR,z3,P⟩:=bx2 z2 B QP A2 n;have p:=ae n;clear n;by_cases h:k+1<n0
      ·obtain⟨b,off,rfl,l⟩:=slS V0 (by omega)
       obtain⟨y,x⟩:=(l.2 k (by omega)).below P l.1;obtain⟨e0,e1⟩:=(l.2 (k+1) h).below P l.1;have n6:(k:Int)+1<n0:=by omega
       clear l B QP;go_wp2_with fail;go_quiet (fail);have u:=ae (AT p nq);clear y x e0 e1;generalize wr.drewN nq=X at u ⊢;cases m:Op.bytesLess (f0 k).name.toList (f0 (k+1)).name.toList with
       | true =>have t:=ae m;clear m;go_wp2;exact⟨⟨k+1,.inl (by omega),by go_num,by show aI (nm0 f0) (k+2)=QD;simp[aI,o.out,t.out],u.out⟩,by simp[intOf];omega⟩
       | false =>have t:=ae m;have f:=QL.out;rw[gM (jJ (g:=(nm0 f0)) h t.out)] at f;subst f;clear m;go_wp2;go_ret;exact⟨rfl,A2.trans (u.mono A2.size)⟩
      ·have n8:¬ (k:Int)+1<n0:=by omega
       have f:=QL.out;rw[cM (by simp[fA (show n0<=k+1 by omega) o.out])] at f;have aq:=ae f;clear f QL o p B QP;go_wp2;generalize wr=W3 at QO QR z3 P ⊢;go_loopw [8] (fun i wr=>∃ k:Nat,(k+1<=n1∨k=0)/\i=J I ((k:Int)+1)/\Hid (aI (nm1 f1) (k+1)=QD)/\Below W3.heap.size W3 wr) (fun i _=>n1+1 - (intOf i).toNat);case atStart=>exact⟨0,.inr rfl,rfl,rfl,a8 _ _⟩
       case round =>
        obtain⟨k,QM,rfl,o,n⟩:=hrel;obtain⟨O,L,z4,R⟩:=bx2 z3 QO QR P n;have p:=ae n;clear n;by_cases h:k+1<n1
        ·obtain⟨b,off,rfl,l⟩:=slT W (by omega)
         obtain⟨y,ka,kc,x,_⟩:=(l.2 k (by omega)).below R ly l.1;obtain⟨e0,kb,kd,e1,_⟩:=(l.2 (k+1) h).below R ly l.1;have n6:(k:Int)+1<n1:=by omega
         clear l QO QR;go_wp2_with fail;go_quiet (fail);have u:=ae (AT p nq);clear y x e0 e1;generalize wr.drewN nq=X at u ⊢;cases m:Op.bytesLess (f1 k).name.toList (f1 (k+1)).name.toList with
         | true =>have t:=ae m;clear m;go_wp2;exact⟨⟨k+1,.inl (by omega),by go_num,by show aI (nm1 f1) (k+2)=QD;simp[aI,o.out,t.out],u.out⟩,by simp[intOf];omega⟩
         | false =>have t:=ae m;have f:=aq.out;rw[gM (jJ (g:=(nm1 f1)) h t.out)] at f;subst f;clear m;go_wp2;go_ret;exact⟨rfl,P.trans (u.mono P.size)⟩
        ·have n8:¬ (k:Int)+1<n1:=by omega
         have f:=aq.out;rw[cM (by simp[fA (show n1<=k+1 by omega) o.out])] at f;have QH:=ae f;clear f aq o p QO QR;go_wp2;generalize wr=W4 at O L z4 R ⊢;go_loopw [9] (fun i wr=>∃ k:Nat,k<=n0/\i=J I k/\Hid (aJ (fun i=>aG (nm1 f1) n1 (nm0 f0 i)) k=QB)/\Below W4.heap.size W4 wr) (fun i _=>n0 - (intOf i).toNat);case atStart=>exact⟨0,by omega,rfl,rfl,a8 _ _⟩
         case round =>
          obtain⟨k,QM,rfl,o,n⟩:=hrel;obtain⟨K,M,z5,z⟩:=bx2 z4 O L R n;have p:=ae n;clear n;by_cases h:k<n0
          ·obtain⟨b,off,rfl,l⟩:=slS V0 (by omega)
           obtain⟨y,x⟩:=(l.2 k h).below z l.1;clear l O L;go_wp2_with fail;go_region_with (go_at_call 74;refine(lS (T (N b off Z)) n0 c0 a1 n1 c1 f1 (f0 k).name _ hn1 ?_).mono ?_;(first | exact W.below z ly | exact W.below z.drew ly);rintro e w1 ⟨r,rfl,hd,q⟩;have HD:=ae hd;clear hd;have u:Hid (Below wr.heap.size wr w1):=⟨q.os,q.tape,q.output,q.size,q.block⟩;clear q);all_goals
            have B2:=ae (p.trans (u.mono p.size));clear y x u;by_cases m:0<=r
            ·have f:=QH.out
             rw[gM (cW h (by have:=HD.out;rw[JF m] at this;exact this.symm))] at f;subst f;go_wp2;go_ret;exact⟨rfl,R.trans (B2.mono R.size)⟩
            ·have t:=ae m
             go_wp2;exact⟨⟨k+1,by omega,by go_num,by show aJ _ (k+1)=QB;have:=HD.out;rw[JS t.out] at this;simp[aJ,o.out,<-this],B2.out⟩,by simp[intOf];omega⟩
          ·have e:n0=k:=by omega
           subst e;have f:=QH.out;rw[cM (by simp[o.out])] at f;have la:=ae f;clear f QH o p O L;go_wp2;generalize wr=W5 at K M z5 z ⊢;go_loopw [10] (fun i wr=>∃ k:Nat,k<=n0/\i=J I k/\Hid (aJ (fun i=>ey (f0 i)) k=QB)/\Below W5.heap.size W5 wr) (fun i _=>n0 - (intOf i).toNat);case atStart=>exact⟨0,by omega,rfl,rfl,a8 _ _⟩
           case round =>
            obtain⟨k,QM,rfl,o,n⟩:=hrel;obtain⟨ex,fd,z6,QK⟩:=bx2 z5 K M z n;have p:=ae n;clear n;by_cases h:k<n0
            ·obtain⟨b,off,rfl,l⟩:=slS V0 (by omega)
             obtain⟨y,x⟩:=(l.2 k h).below QK l.1;clear l K M;by_cases m:(2000:Int)<(f0 k).text.size
             ·have f:=la.out
              rw[gM (cW h (by simpa[ey] using m))] at f;subst f;go_wp2;go_ret;exact⟨rfl,z.trans (p.mono z.size)⟩
             ·have t:Hid (ey (f0 k)=QB):=JS m
              go_wp2;exact⟨⟨k+1,by omega,by go_num,by show aJ _ (k+1)=QB;simp[aJ,o.out,t.out],p.out⟩,by simp[intOf];omega⟩
            ·have e:n0=k:=by omega
             subst e;have f:=la.out;rw[cM (by simp[o.out])] at f;have n7:=ae f;clear f la o p K M;go_wp2;generalize wr=W6 at ex fd z6 QK ⊢;go_loopw [11,4] (fun i v wr=>∃ (k:Nat) (r:Int),k<=n1/\i=J I k/\v=J I r/\Hid (r=if aJ (fun i=>b9 (f1 i)) k=QD then 7 else 0)/\Below W6.heap.size W6 wr) (fun i _ _=>n1 - (intOf i).toNat);case atStart=>exact⟨0,0,by omega,rfl,rfl,rfl,a8 _ _⟩
             case round =>
              obtain⟨k,r,QM,rfl,rfl,o,n⟩:=hrel;obtain⟨k70,k71,z7,A7⟩:=bx2 z6 ex fd QK n;have p:=ae n;clear n;by_cases h:k<n1
              ·obtain⟨b,off,rfl,l⟩:=slT W (by omega)
               obtain⟨y,ka,kc,x,hx⟩:=(l.2 k h).below A7 ly l.1;have HX:=ae hx;clear l hx ex fd;go_wp2_with fail;refine(iW ka (f1 k).actN kc (f1 k).act _ (HF k h) HX (HS k h)).mono ?_;rintro e w1 ⟨rfl,q⟩;have u:=ae (p.trans (q.mono p.size));clear q y x;cases m:valid (f1 k).act (f1 k).actN with
               | true =>
                have t:=ae m;clear m;have E:Hid (aJ (fun i=>b9 (f1 i)) (k+1)=aJ (fun i=>b9 (f1 i)) k):=by show(aJ _ k || b9 (f1 k))=_;rw[show b9 (f1 k)=QB by unfold b9;rw[t.out];rfl,Bool.or_false]
                go_wp2;exact⟨⟨k+1,r,by omega,by go_num,rfl,by show r=_;rw[E.out];exact o,u⟩,by simp[intOf];omega⟩
               | false =>
                have t:=ae m;clear m;have E:Hid (aJ (fun i=>b9 (f1 i)) (k+1)=QD):=by show(aJ _ k || b9 (f1 k))=_;rw[show b9 (f1 k)=QD by unfold b9;rw[t.out];rfl,Bool.or_true]
                go_wp2;exact⟨⟨k+1,7,by omega,by go_num,rfl,by show(7:Int)=_;rw[gM E.out],u.out⟩,by simp[intOf];omega⟩
              ·have e:n1=k:=by omega
               subst e;have f:=n7.out;rw[<-o.out] at f;subst f;go_wp2;go_ret;exact⟨rfl,QK.trans (p.mono QK.size)⟩
end Go.Proofs.YtamacmnikdejeaaGreatDoor.Vp
