import Derived.Test.YtcnilonhfpimnaaGreatDoorGM
import Derived.Sort.Walk0
set_option linter.all false
set_option maxRecDepth 100000
set_option maxHeartbeats 16000000
open Go renaming Addr.mk->T,Value.slice->Y,Value.string->U,Value.int->J,Value.bool->ZF,Value.agg->ZJ,Obj.cells->N,IntKind.i64->I,World->E,Ending.returned->ZI,World.heap->z,World.alloc->ZU,World.cell?->ZV,Proofs.Tryz.prog->Pg,Calls->Qw
open Option renaming none->Z,some->Q
open Bool renaming false->ZA,true->ZH
open Array renaming size->B
namespace Go.Proofs.YtcnilonhfpimnaaGreatDoor.Vp
open Tryz RowKit Go.Sort
variable {n i j:Nat}{g:B_}{t a b:F_}{w:E}{p q:Nat->Bool}
abbrev aC (a b:F_):Bool:=Op.bytesLess a.toList b.toList
def eY{c:F_}(h1:aC a b=ZH)(h2:aC b c=ZH):aC a c=ZH:=by simp only[aC,bytesLess_eq,nD] at *;exact List.lt_trans h1 h2
def gY (a:F_):aC a a=ZA:=by simp only[aC,bytesLess_eq,NY];exact VQ _
def gZ (h:aK g n=ZH)(hij:i<j)(hj:j<n):aC (g i) (g j)=ZH:=by
 induction j with
 |zero=>omega
 |succ m b =>
  have h2:=fR (show m+2<=n by omega) h;simp only[aK,j6] at h2;by_cases e:i=m;{subst e;exact h2.2};{exact eY (b (by omega) (by omega)) h2.2}
def aF (g:B_)(n:Nat)(t:F_):Bool:=(List.range n).any λi=>(g i).toList == t.toList
def kU (p:aK g n=ZH)(hi:i<=n)(h1:∀m,m<i->aC (g m) t=ZH)(h2:∀m,i<=m->m<n->aC (g m) t=ZA):aF g n t=(decide (i<n) && ((g i).toList == t.toList)):=by
 by_cases h:i<n
 ·simp only[h,decide_true,P9];cases e:(g i).toList == t.toList with
  |true =>simp only[aF,TI,E4];exact⟨i,h,e⟩
  |false =>
   simp only[aF,List.any_eq_false,E4];intro m o j;have f:(g m).toList=t.toList:=by simpa using j
   rcases VO m i with c|c|c;{have:=h1 m c;simp only[aC,f] at this;have b:=gY t;simp only[aC] at b;rw[b] at this;cases this};{subst c;rw[j] at e;cases e};{have b:=gZ p c o;simp only[aC,f] at b;have l:=h2 i ly h;simp only[aC] at l;rw[b] at l;cases l}
 ·have e:i=n:=by omega
  subst e;simp only[Nat.lt_irrefl,decide_false,YC];simp only[aF,List.any_eq_false,E4];intro m o j;have f:(g m).toList=t.toList:=by simpa using j
  have:=h1 m o;simp only[aC,f] at this;have b:=gY t;simp only[aC] at b;rw[b] at this;cases this
def Jw (x:F_)(w:E):Qw Pg 180 #[U x] w λe b=>e=ZI (ZF ZA)/\b=w:=by go_enter func180,ntmps180;go_wp2;go_ret;exact⟨by simp,rfl⟩
def Jy (x:F_)(w:E):Qw Pg 156 #[U x] w λe b=>e=ZI (ZF ZA)/\b=w:=by go_enter func156,ntmps156;go_wp2;go_ret;exact⟨by simp,rfl⟩
def GH (x y:F_)(w:E):Qw Pg 155 #[U x,U y] w λe b=>e=ZI (ZF (aC x y))/\b=w:=by
 go_enter func155,ntmps155;go_wp2_with (go_at_call 180;refine(Jw _ _).P ?_;rintro e w1⟨rfl,rfl⟩);all_goals
  go_ret;exact⟨by simp,rfl⟩
def yR (b off n j_:Nat)(g:B_)(t:F_)(w:E)(hn:(n:Int)<=1048576)(ZR:RowStr w b off n g)(C:aK g n=ZH):Qw Pg 126 #[Y (Q (T b off Z)) n j_,U t] w λe K=>∃i:Int,e=ZI (.tuple #[J I i,ZF (aF g n t)])/\K=w:=by
 have H:=ae ZR;have r:=ae C;clear ZR C;obtain⟨ZS,o⟩:∃ZS,ZS=aF g n t:=⟨_,rfl⟩
 rw[<-o];have A:=ae o;clear o;go_enter func126,ntmps126;go_wp2;go_loop [7,8] (λi j=>∃p q:Nat,p<=q/\q<=n/\i=J I p/\j=J I q/\Hid (∀m,m<p->aC (g m) t=ZH)/\Hid (∀m,q<=m->m<n->aC (g m) t=ZA)) (λi j=>(intOf j).toNat - (intOf i).toNat);case atStart=>exact⟨0,n,by omega,by omega,rfl,rfl,λm u=>absurd u (NE _),λm h1 h2=>by omega⟩
 case round =>
  obtain⟨p,q,hpq,D,rfl,rfl,ZW,ZT⟩:=hrel;by_cases hlt:p<q
  ·obtain⟨m,u⟩:∃m:Nat,m=(p+q) / 2:=⟨_,rfl⟩
   have G:p<=m:=by omega
   have hm2:m<q:=by omega
   have c0:=H.2 m (by omega);have hsh:((p:Int)+q) / 2=m:=by omega
   clear u;cases hb:aC (g m) t with
   |true =>
    have h:=ae hb;clear hb;go_wp2_with (go_at_call 155;refine(GH _ _ _).P ?_;rintro e y⟨rfl,rfl⟩;rw[h.i]);refine⟨⟨m+1,q,by omega,D,by go_num,rfl,λx ZX=>?_,ZT⟩,by simp[intOf];omega⟩;by_cases e:x=m;{subst e;exact h};{exact eY (gZ r (show x<m by omega) (by omega)) h}
   |false =>
    have h:=ae hb;clear hb;go_wp2_with (go_at_call 155;refine(GH _ _ _).P ?_;rintro e y⟨rfl,rfl⟩;rw[h.i]);refine⟨⟨p,m,G,by omega,rfl,rfl,ZW,λx h1 h2=>?_⟩,by simp[intOf];omega⟩;by_cases e:x=m;{subst e;exact h}
    ·cases ZX:aC (g x) t with
     |false=>rfl
     |true =>have:=eY (gZ r (show m<x by omega) h2) ZX;rw[h.i] at this;cases this
  ·have e:p=q:=by omega
   subst e;have s:=ae (A.k (kU r D ZW ZT));by_cases l:p<n
   ·have c0:=H.2 p l;cases hb:((g p).toList == t.toList) with
    |true =>
     have f:ZS=ZH:=by rw[s.i,hb];simp[l]
     subst f;go_wp2;refine bp (v:=.tuple #[J I p,ZF ZH]) (by simp[results,XF,go_sem]) rfl (by first|exact⟨⟨_,rfl⟩,rfl⟩|exact⟨_,rfl,rfl⟩)
    |false =>
     have f:ZS=ZA:=by rw[s.i,hb];simp
     subst f;go_wp2_with (go_at_call 156;refine(Jy _ _).P ?_;rintro e y⟨rfl,rfl⟩);all_goals
      refine bp (v:=.tuple #[J I p,ZF ZA]) (by simp[results,XF,go_sem]) rfl (by first|exact⟨⟨_,rfl⟩,rfl⟩|exact⟨_,rfl,rfl⟩)
   ·have f:ZS=ZA:=by rw[s.i];simp[l]
    subst f;go_wp2;refine bp (v:=.tuple #[J I p,ZF ZA]) (by simp[results,XF,go_sem]) rfl (by first|exact⟨⟨_,rfl⟩,rfl⟩|exact⟨_,rfl,rfl⟩)
def yS (a:O_)(j_:Nat)(t:F_)(w:E):Qw Pg 126 #[Y a 0 j_,U t] w λe b=>∃i:Int,e=ZI (.tuple #[J I i,ZF ZA])/\b=w:=by
 go_enter func126,ntmps126;go_wp2;go_loop [7,8] (λi j=>i=J I 0/\j=J I 0) (λ_ _=>0);case atStart=>exact⟨rfl,rfl⟩
 case round =>obtain⟨rfl,rfl⟩:=hrel;go_wp2;refine bp (v:=.tuple #[J I 0,ZF ZA]) (by simp[results,XF,go_sem]) rfl (by first|exact⟨⟨_,rfl⟩,rfl⟩|exact⟨_,rfl,rfl⟩)
def iS (g:B_)(t:F_):aF g 0 t=ZA:=rfl
def yT (a:O_)(n j_:Nat)(g:B_)(t:F_)(w:E)(hn:(n:Int)<=1048576)(f:SlStr w a n g)(h:aK g n=ZH):Qw Pg 126 #[Y a n j_,U t] w λe j=>∃i:Int,e=ZI (.tuple #[J I i,ZF (aF g n t)])/\j=w:=by
 rcases f with rfl|⟨b,off,rfl,f⟩
 {exact yS a j_ t w};{exact yR b off n j_ g t w hn f h}
def sy (s:F_)(bx:Nat)(a:O_)(n j_:Nat)(g:B_)(w:E)(hc:ZV w (T bx 0 Z)=Q (Y a n j_))(hn:(n:Int)<=1048576)(b:SlStr w a n g)(f:aK g n=ZH):Qw Pg 125 #[U s,.pointer (Q (T bx 0 Z))] w λe l=>e=ZI (ZF (aF g n s))/\l=w:=by have h:=ae b;have j:=ae f;clear b f;go_enter func125,ntmps125;go_wp2_with fail;refine(yT a n j_ g s _ hn h j).P ?_;rintro e w1⟨i,rfl,rfl⟩;go_wp2;go_ret;exact⟨rfl,rfl⟩
def aM (p:Nat->Bool):Nat->Bool
 |0=>ZA
 |k+1=>aM p k || p k
def cS{k:Nat}(h:k<n)(f:p k=ZH):aM p n=ZH:=by
 induction n with
 |zero=>omega
 |succ m b =>
  by_cases e:k=m;{subst e;simp[aM,f]};{simp[aM,b (by omega)]}
def AO (b off m c:Nat)(h:B_)(bx:Nat)(a:O_)(n j_:Nat)(g:B_)(w:E)(hm:(m:Int)<=1048576)(j:RowStr w b off m h)(t:ZV w (T bx 0 Z)=Q (Y a n j_))(hn:(n:Int)<=1048576)(o:SlStr w a n g)(u:aK g n=ZH):Qw Pg 154 #[Y (Q (T b off Z)) m c,.func (.func 125) #[] #[.pointer (Q (T bx 0 Z))]] w λe y=>∃r:Int,e=ZI (J I r)/\decide (0<=r)=aM (λi=>aF g n (h i)) m/\y=w:=by
 have ZX:=ae j;have s:=ae o;have p:=ae u;clear o u j;go_enter func154,ntmps154;go_wp2;go_loop [8] (λi=>∃k:Nat,k<=m/\i=J I k/\Hid (aM (λi=>aF g n (h i)) k=ZA)) (λi=>m - (intOf i).toNat);case atStart=>exact⟨0,by omega,rfl,rfl⟩
 case round =>
  obtain⟨k,hk,rfl,q⟩:=hrel;by_cases l:k<m
  ·have c0:=ZX.2 k l;cases hb:aF g n (h k) with
   |true =>have f:=ae hb;clear hb;go_wp2_with (go_at_call 125;refine(sy _ bx a n j_ g _ t hn s p).P ?_;rintro e x⟨rfl,rfl⟩;rw[f.i]);go_ret;exact⟨k,rfl,by rw[cS l f.i];simp,rfl⟩
   |false =>have f:=ae hb;clear hb;go_wp2_with (go_at_call 125;refine(sy _ bx a n j_ g _ t hn s p).P ?_;rintro e x⟨rfl,rfl⟩;rw[f.i]);exact⟨⟨k+1,by omega,by go_num,by show aM _ (k+1)=ZA;simp[aM,q.i,f.i]⟩,by simp[intOf];omega⟩
  ·have e:k=m:=by omega
   subst e;go_wp2;go_ret;exact⟨-1,rfl,by rw[q.i];rfl,rfl⟩
def AP (a0:O_)(c:Nat)(b:Value)(bx:Nat)(f:b=.func (.func 125) #[] #[.pointer (Q (T bx 0 Z))])(w:E):Qw Pg 154 #[Y a0 0 c,b] w λe g=>∃r:Int,e=ZI (J I r)/\decide (0<=r)=ZA/\g=w:=by
 subst f;go_enter func154,ntmps154;go_wp2;go_loop [8] (λi=>i=J I 0) (λ_=>0);case atStart=>rfl
 case round =>
  subst hrel;go_wp2;go_ret;first
   |exact⟨-1,rfl,rfl,rfl⟩
   |exact⟨-1,rfl,by decide,rfl⟩
   |exact⟨⟨-1,rfl,by decide⟩,rfl⟩
   |exact⟨-1,by decide,rfl⟩
def AQ (a0:O_)(m c:Nat)(h:B_)(bx:Nat)(a:O_)(n j_:Nat)(g:B_)(w:E)(o:(m:Int)<=1048576)(f:SlStr w a0 m h)(p:ZV w (T bx 0 Z)=Q (Y a n j_))(hn:(n:Int)<=1048576)(j:SlStr w a n g)(q:aK g n=ZH):Qw Pg 154 #[Y a0 m c,.func (.func 125) #[] #[.pointer (Q (T bx 0 Z))]] w λe l=>∃r:Int,e=ZI (J I r)/\decide (0<=r)=aM (λi=>aF g n (h i)) m/\l=w:=by
 rcases f with rfl|⟨b,off,rfl,f⟩
 {exact AP a0 c _ bx rfl w};{exact AO b off m c h bx a n j_ g w o f p hn j q}
def um (a0:O_)(m c:Nat)(h:B_)(bx:Nat)(a:O_)(n j_:Nat)(g:B_)(w:E)(s:(m:Int)<=1048576)(b:SlStr w a0 m h)(t:ZV w (T bx 0 Z)=Q (Y a n j_))(hn:(n:Int)<=1048576)(l:SlStr w a n g)(p:aK g n=ZH):Qw Pg 124 #[Y a0 m c,.func (.func 125) #[] #[.pointer (Q (T bx 0 Z))]] w λe q=>e=ZI (ZF (aM (λi=>aF g n (h i)) m))/\q=w:=by
 have o:=ae (AQ a0 m c h bx a n j_ g w s b t hn l p);obtain⟨A,f⟩:∃A,A=aM (λi=>aF g n (h i)) m:=⟨_,rfl⟩
 rw[<-f];rw[<-f] at o;clear f l p b;go_enter func124,ntmps124;go_wp2_with fail;refine o.P ?_;rintro e w1⟨r,rfl,j,rfl⟩;have u:=ae j;clear j;go_wp2;go_ret;exact⟨bv u,rfl⟩
def DV (a0:O_)(m c:Nat)(h:B_)(a:O_)(n j_:Nat)(g:B_)(w:E)(r:(m:Int)<=1048576)(b:SlStr w a0 m h)(hn:(n:Int)<=1048576)(l:SlStr w a n g)(p:aK g n=ZH):Qw Pg 89 #[Y a0 m c,Y a n j_] w λe q=>e=ZI (ZF (aM (λi=>aF g n (h i)) m))/\Below (B (z w)) w q:=by
 have j:=ae ((BS w).alloc ly (N #[Y a n j_] 43));have o:=ae (um a0 m c h (B (z w)) a n j_ g (ZU w (N #[Y a n j_] 43)) r (b.aa j ly) (by simp) hn (l.aa j ly) p);obtain⟨A,f⟩:∃A,A=aM (λi=>aF g n (h i)) m:=⟨_,rfl⟩
 rw[<-f];rw[<-f] at o;clear f l p b;go_enter func89,ntmps89;go_wp2_with fail;refine o.P ?_;rintro e w1⟨rfl,rfl⟩;go_wp2;go_ret;exact⟨rfl,j⟩
def fx (x:Source):Bool:=decide (2000<(x.H.size:Int))
def GO (nm tx:F_)(w:E):Qw Pg 91 #[ZJ #[U nm,U tx]] w λe b=>e=ZI (ZF (decide (2000<(tx.size:Int))))/\Below (B (z w)) w b:=by go_enter func91,ntmps91;go_wp2;go_ret;exact⟨rfl,br.alloc ly _⟩
def yU (b off m c:Nat)(f:Nat->Source)(w:E)(hm:(m:Int)<=1048576)(h:RowSource w b off m f):Qw Pg 127 #[Y (Q (T b off Z)) m c,.func (.func 91) #[] #[]] w λe u=>∃r:Int,e=ZI (J I r)/\decide (0<=r)=aM (λi=>fx (f i)) m/\Below (B (z w)) w u:=by
 have t:=ae h;clear h;go_enter func127,ntmps127;go_wp2;go_loopw [8] (λi wr=>∃k:Nat,k<=m/\i=J I k/\Hid (aM (λi=>fx (f i)) k=ZA)/\Below (B (z w)) w wr) (λi _=>m - (intOf i).toNat);case atStart=>exact⟨0,by omega,rfl,rfl,a8 _ _⟩
 case round =>
  obtain⟨k,hk,rfl,s,o⟩:=hrel;have g:=ae o;clear o;by_cases l:k<m
  ·obtain⟨c0,c1⟩:=(t.2 k l).aa g t.1;go_wp2_with fail;refine(GO _ _ _).P ?_;rintro e w1⟨rfl,j⟩;have q:=ae (g.k (j.P g.size));clear j;cases hb:fx (f k) with
   |true =>have n:=ae hb;have h2:decide (2000<((f k).H.size:Int))=ZH:=hb;clear hb;rw[h2];clear h2;go_wp2;go_ret;exact⟨k,rfl,by rw[cS (p:=λi=>fx (f i)) l n.i];simp,q.i⟩
   |false =>have n:=ae hb;have h2:decide (2000<((f k).H.size:Int))=ZA:=hb;clear hb;rw[h2];clear h2;go_wp2;exact⟨⟨k+1,by omega,by go_num,by show aM _ (k+1)=ZA;simp[aM,s.i,n.i],q.i⟩,by simp[intOf];omega⟩
  ·have e:k=m:=by omega
   subst e;go_wp2;go_ret;exact⟨-1,rfl,by rw[s.i];rfl,g⟩
def yV (a0:O_)(c:Nat)(w:E):Qw Pg 127 #[Y a0 0 c,.func (.func 91) #[] #[]] w λe b=>e=ZI (J I (-1))/\b=w:=by
 go_enter func127,ntmps127;go_wp2;go_loop [8] (λi=>i=J I 0) (λ_=>0);case atStart=>rfl
 case round =>subst hrel;go_wp2;go_ret;exact⟨rfl,rfl⟩
def yW (a0:O_)(m c:Nat)(f:Nat->Source)(w:E)(j:(m:Int)<=1048576)(g:Qx w a0 m f):Qw Pg 127 #[Y a0 m c,.func (.func 91) #[] #[]] w λe h=>∃r:Int,e=ZI (J I r)/\decide (0<=r)=aM (λi=>fx (f i)) m/\Below (B (z w)) w h:=by
 rcases g with rfl|⟨b,off,rfl,g⟩
 {exact(yV a0 c w).P λe h ⟨p,q⟩=>⟨-1,p,rfl,by rw[q];exact a8 _ _⟩};{exact yU b off m c f w j g}
def tG (a0:O_)(m c:Nat)(f:Nat->Source)(w:E)(p:(m:Int)<=1048576)(b:Qx w a0 m f):Qw Pg 90 #[Y a0 m c,.func (.func 91) #[] #[]] w λe o=>e=ZI (ZF (aM (λi=>fx (f i)) m))/\Below (B (z w)) w o:=by
 have j:=ae (yW a0 m c f w p b);obtain⟨A,g⟩:∃A,A=aM (λi=>fx (f i)) m:=⟨_,rfl⟩
 rw[<-g];rw[<-g] at j;clear g b;go_enter func90,ntmps90;go_wp2_with fail;refine j.P ?_;rintro e w1⟨r,rfl,h,l⟩;have q:=ae h;have n:=ae l;clear h l;go_wp2;go_ret;exact⟨bv q,n⟩
def cP (x:Target):Bool:=!valid x.q x.h
def GP (nm:F_)(a:O_)(n j_:Nat)(f:Nat->Ins)(w:E)(hn:n<=1048576)(i:SlIns w a n f)(g:Tab w):Qw Pg 93 #[ZJ #[U nm,Y a n j_]] w λe m=>e=ZI (ZF (!valid f n))/\Below (B (z w)) w m:=by have b:=ae ((BS w).alloc ly (N #[U nm,Y a n j_] 86));have j:=ae (nf a n j_ f (ZU w (N #[U nm,Y a n j_] 86)) hn (i.aa b ly) (g.aa b g.1));clear i g;go_enter func93,ntmps93;go_wp2_with fail;refine j.P ?_;rintro e w1⟨rfl,h⟩;have l:=ae (b.k (h.P (by simp)));clear h;go_wp2;go_ret;exact⟨rfl,l⟩
def yX (b off m c:Nat)(f:Nat->Target)(w:E)(hm:(m:Int)<=1048576)(l:∀i,i<m->aP (f i))(ZX:Tab w)(j:RowTarget w b off m f):Qw Pg 128 #[Y (Q (T b off Z)) m c,.func (.func 93) #[] #[]] w λe C=>∃r:Int,e=ZI (J I r)/\decide (0<=r)=aM (λi=>cP (f i)) m/\Below (B (z w)) w C:=by
 have u:=ae j;have ZT:=ae l;have y:=ae ZX;clear j l ZX;go_enter func128,ntmps128;go_wp2;go_loopw [8] (λi wr=>∃k:Nat,k<=m/\i=J I k/\Hid (aM (λi=>cP (f i)) k=ZA)/\Below (B (z w)) w wr) (λi _=>m - (intOf i).toNat);case atStart=>exact⟨0,by omega,rfl,rfl,a8 _ _⟩
 case round =>
  obtain⟨k,hk,rfl,t,x⟩:=hrel;have g:=ae x;clear x;by_cases h:k<m
  ·obtain⟨c0,ZW,D,c1,n⟩:=(u.2 k h).aa g ly u.1;have A:=ae n;clear n;go_wp2_with fail;refine(GP (f k).e ZW (f k).h D (f k).q _ (ZT k h) A (y.aa g y.1)).P ?_;rintro e w1⟨rfl,o⟩;have s:=ae (g.k (o.P g.size));clear o;cases hb:cP (f k) with
   |true =>have q:=ae hb;have h2:(!valid (f k).q (f k).h)=ZH:=hb;clear hb;rw[h2];clear h2;go_wp2;go_ret;exact⟨k,rfl,by rw[cS (p:=λi=>cP (f i)) h q.i];simp,s.i⟩
   |false =>have q:=ae hb;have h2:(!valid (f k).q (f k).h)=ZA:=hb;clear hb;rw[h2];clear h2;go_wp2;exact⟨⟨k+1,by omega,by go_num,by show aM _ (k+1)=ZA;simp[aM,t.i,q.i],s.i⟩,by simp[intOf];omega⟩
  ·have e:k=m:=by omega
   subst e;go_wp2;go_ret;exact⟨-1,rfl,by rw[t.i];rfl,g⟩
def yY (a0:O_)(c:Nat)(w:E):Qw Pg 128 #[Y a0 0 c,.func (.func 93) #[] #[]] w λe b=>e=ZI (J I (-1))/\b=w:=by
 go_enter func128,ntmps128;go_wp2;go_loop [8] (λi=>i=J I 0) (λ_=>0);case atStart=>rfl
 case round =>subst hrel;go_wp2;go_ret;exact⟨rfl,rfl⟩
def yZ (a0:O_)(m c:Nat)(f:Nat->Target)(w:E)(n:(m:Int)<=1048576)(h:∀i,i<m->aP (f i))(l:Tab w)(g:Qq w a0 m f):Qw Pg 128 #[Y a0 m c,.func (.func 93) #[] #[]] w λe j=>∃r:Int,e=ZI (J I r)/\decide (0<=r)=aM (λi=>cP (f i)) m/\Below (B (z w)) w j:=by
 rcases g with rfl|⟨b,off,rfl,g⟩
 {exact(yY a0 c w).P λe j ⟨p,q⟩=>⟨-1,p,rfl,by rw[q];exact a8 _ _⟩};{exact yX b off m c f w n h l g}
def tH (a0:O_)(m c:Nat)(f:Nat->Target)(w:E)(s:(m:Int)<=1048576)(b:∀i,i<m->aP (f i))(n:Tab w)(g:Qq w a0 m f):Qw Pg 92 #[Y a0 m c,.func (.func 93) #[] #[]] w λe q=>e=ZI (ZF (aM (λi=>cP (f i)) m))/\Below (B (z w)) w q:=by
 have o:=ae (yZ a0 m c f w s b n g);obtain⟨A,h⟩:∃A,A=aM (λi=>cP (f i)) m:=⟨_,rfl⟩
 rw[<-h];rw[<-h] at o;clear h g b n;go_enter func92,ntmps92;go_wp2_with fail;refine o.P ?_;rintro e w1⟨r,rfl,l,j⟩;have t:=ae l;have p:=ae j;clear l j;go_wp2;go_ret;exact⟨bv t,p⟩
def tI (a:O_)(j_:Nat)(w:E):Qw Pg 88 #[Y a 0 j_] w λe b=>e=ZI (ZF ZH)/\b=w:=by
 go_enter func88,ntmps88;go_wp2;go_loop [3] (λi=>i=J I 1) (λ_=>0);case atStart=>rfl
 case round =>subst hrel;go_wp2;go_ret;exact⟨rfl,rfl⟩
def mT (a:O_)(n j_:Nat)(g:B_)(w:E)(hn:(n:Int)<=1048576)(f:SlStr w a n g):Qw Pg 88 #[Y a n j_] w λe h=>e=ZI (ZF (aK g n))/\Below (B (z w)) w h:=by
 rcases f with rfl|⟨b,off,rfl,f⟩
 {exact(tI a j_ w).P λe h ⟨p,q⟩=>⟨p,by rw[q];exact a8 _ _⟩};{exact tF b off n j_ g w hn f}
abbrev nm0 (f0:Nat->Source):B_:=λi=>(f0 i).e
abbrev nm1 (f1:Nat->Target):B_:=λi=>(f1 i).e
def aR (n0:Nat)(f0:Nat->Source)(n1:Nat)(f1:Nat->Target):Int:=
 if 200<n0+n1 then 1 else if bY (nm0 f0) n0=ZA then 2 else if bY (nm1 f1) n1=ZA then 2 else if aK (nm0 f0) n0=ZA then 3 else if aK (nm1 f1) n1=ZA then 4
 else if aM (λi=>aF (nm1 f1) n1 (nm0 f0 i)) n0=ZH then 5 else if aM (λi=>fx (f0 i)) n0=ZH then 6 else if aM (λi=>cP (f1 i)) n1=ZH then 7 else 0
def mU (a0:O_)(n0 c0:Nat)(f0:Nat->Source)(a1:O_)(n1 c1:Nat)(f1:Nat->Target)(w:E)(hn0:(n0:Int)<=1048576)(hn1:(n1:Int)<=1048576)(y:Qx w a0 n0 f0)(ZT:Qq w a1 n1 f1)(s:∀i,i<n1->aP (f1 i))(ZN:Tab w):Qw Pg 59 #[ZJ #[Y a0 n0 c0,Y a1 n1 c1]] w λe w'=>e=ZI (J I (aR n0 f0 n1 f1))/\Below (B (z w)) w w':=by
 have K:=ae y;have X:=ae ZT;have HF:=ae s;have ZP:=ae ZN;clear y ZT s ZN;obtain⟨C,t⟩:∃C,C=aR n0 f0 n1 f1:=⟨_,rfl⟩
 rw[<-t];unfold aR at t;have j:=ae t;clear t;have A0:=ae ((BS w).alloc ly (N #[Y a0 n0 c0,Y a1 n1 c1] 29));go_enter func59,ntmps59;go_wp2_with fail;refine(yQ a0 a1 n0 c0 n1 c1 _ hn0 hn1).P ?_;rintro e m⟨rfl,b⟩;have r:ZV m (T (B (z w)) 0 Z)=Q (Y a0 n0 c0):=(b.O (p:=(T (B (z w)) 0 Z)) (by simp)).k (by simp);have q:ZV m (T (B (z w)) 1 Z)=Q (Y a1 n1 c1):=(b.O (p:=(T (B (z w)) 1 Z)) (by simp)).k (by simp);have z1:B (z w)<B (z m):=by have:=b.size;simp at this;omega
 have n:=ae (A0.k (b.P (by simp)));clear b A0;by_cases h1:(200:Int)<n0+n1;{have h:=j.i;rw[eT (by omega)] at h;subst h;go_wp2;go_ret;exact⟨rfl,n⟩};have o:=j.i;rw[eI (by omega)] at o;have x:=ae o;clear o j;go_wp2_with fail
 go_region_with (first
  |(go_at_call 85;refine(pX a0 n0 c0 a1 n1 c1 f0 _ hn0 ?_).P ?_;(first|exact K.aa n ly|exact K.aa n.drew ly);rintro e V⟨ZQ,P,rfl,ZS,f⟩;have S2:=ae ZS;have u:Hid (Below (B (z m)) m V):=⟨f.os,f.tape,f.output,f.size,f.p⟩;have O:=ae (n.k (u.P n.size));have D:=(u.O (p:=(T (B (z w)) 0 Z)) z1).k r;have H:=(u.O (p:=(T (B (z w)) 1 Z)) z1).k q;have z2:B (z w)<B (z V):=lj z1 u.size;clear ZS f)
  |(go_at_call 86;refine(qb a1 n1 c1 a0 n0 c0 f1 _ hn1 ?_).P ?_;exact X.aa O ly;rintro e w3⟨L,M,rfl,A,g⟩;have ZO:=ae A;have ZL:=ae (S2.aa g ly);have W:=ae (O.k (g.P O.size));have G:=(g.O (p:=(T (B (z w)) 0 Z)) z2).k D;have ZR:=(g.O (p:=(T (B (z w)) 1 Z)) z2).k H;have z3:B (z w)<B (z w3):=lj z2 g.size;clear A g))
 all_goals
  clear r q D H;have ZW:=W;have R:=ZL;have S:=ZO;have r:=G;have q:=ZR;have ZX:=z3;have j:=x;clear W ZL ZO G ZR z3 x
  iterate 7
   go_wp2_with fail;first
    |with_reducible refine(ng ZQ n0 P (nm0 f0) _ hn0 R.i).P ?_
    |with_reducible refine(ng L n1 M (nm1 f1) _ hn1 S.i).P ?_
    |with_reducible refine(mT ZQ n0 P (nm0 f0) _ hn0 R.i).P ?_
    |with_reducible refine(mT L n1 M (nm1 f1) _ hn1 S.i).P ?_
    |with_reducible refine(DV ZQ n0 P (nm0 f0) L n1 M (nm1 f1) _ hn0 R.i hn1 S.i ZM.i).P ?_
    |with_reducible refine(tG a0 n0 c0 f0 _ hn0 (K.i.aa ZW.i ly)).P ?_
    |refine(tH a1 n1 c1 f1 _ hn1 HF (ZP.aa ZW ZP.1) (X.aa ZW ly)).P ?_
   rintro e wx⟨rfl,b⟩;replace r:=(b.O (p:=(T (B (z w)) 0 Z)) ZX).k r;replace q:=(b.O (p:=(T (B (z w)) 1 Z)) ZX).k q;replace ZX:=lj ZX b.size;replace R:=ae (R.i.aa b ly);replace S:=ae (S.i.aa b ly);replace ZW:=ae (ZW.i.k (b.P ZW.i.size));clear b;have h:=j.i;clear j;split at h
   ·rename_i l
    subst h;rw[l];go_wp2;go_ret;exact⟨rfl,ZW⟩
   rename_i l;have j:=ae h
   (try have ZM:=ae (show aK (nm1 f1) n1=ZH from Bool.of_not_eq_false l))
   first|rw[Bool.of_not_eq_false l]|rw[Bool.of_not_eq_true l]
   clear h l
  have h:=j.i;subst h;go_wp2;go_ret;exact⟨rfl,ZW⟩
def gI (g:B_)(k:Nat)(t:F_):aF g (k+1) t=(aF g k t || ((g k).toList == t.toList)):=by simp[aF,PH]
def eO{k:Nat}(h:k<n)(b:((g k).toList == t.toList)=ZH):aF g n t=ZH:=by simp only[aF,TI,E4];exact⟨k,h,b⟩
def un (a0:O_)(n0 c0 b off n1 c1:Nat)(f1:Nat->Target)(t:F_)(w:E)(hn1:(n1:Int)<=1048576)(l:RowTarget w b off n1 f1):Qw Pg 28 #[ZJ #[Y a0 n0 c0,Y (Q (T b off Z)) n1 c1],U t] w λe q=>∃r:Int,e=ZI (J I r)/\decide (0<=r)=aF (nm1 f1) n1 t/\Below (B (z w)) w q:=by
 obtain⟨W,f⟩:∃W:E,ZU w (N #[Y a0 n0 c0,Y (Q (T b off Z)) n1 c1] 29)=W:=⟨_,rfl⟩
 obtain⟨n,-,-⟩:=nb1 f;have h:=ae f;clear f;have p:=ae (l.aa n ly);have k1:ZV W (T (B (z w)) 1 Z)=Q (Y (Q (T b off Z)) n1 c1):=by rw[<-h.i];simp
 clear l;go_enter WU,VR;go_wp2;rw[h.i];clear h;go_loop [5] (λi=>∃k:Nat,k<=n1/\i=J I k/\Hid (aF (nm1 f1) k t=ZA)) (λi=>n1 - (intOf i).toNat);case atStart=>exact⟨0,by omega,rfl,rfl⟩
 case round =>
  obtain⟨k,hk,rfl,o⟩:=hrel;by_cases j:k<n1
  ·obtain⟨d0,ka,kc,d1,_⟩:=p.2 k j;cases hb:((f1 k).e.toList == t.toList) with
   |true =>have m:=ae hb;go_wp2;go_ret;exact⟨k,rfl,by rw[eO (g:=nm1 f1) j m.i];simp,n.i⟩
   |false =>have m:=ae hb;go_wp2;exact⟨⟨k+1,by omega,by go_num,by show aF (nm1 f1) (k+1) t=ZA;rw[gI,o.i];exact m⟩,by simp[intOf];omega⟩
  ·have e:k=n1:=by omega
   subst e;go_wp2;go_ret;exact⟨-1,rfl,by rw[o.i];rfl,n⟩
def fy (h:a.toList=b.toList):a=b:=by rw[NJ,NJ] at h;exact YU (Array.toList_inj.1 h)
def Qv (h:(a.toList == b.toList)=ZH):a=b:=fy (by simpa using h)
def asc_one (l:aK g n=ZH)(hi:i<n)(m:j<n)(h1:((g i).toList == t.toList)=ZH)(h2:((g j).toList == t.toList)=ZH):i=j:=by
 have b:=Qv h1;have f:=Qv h2;rcases VO i j with h|h|h;{have:=gZ l h m;rw[b,f,gY] at this;cases this};{exact h};{have:=gZ l h hi;rw[b,f,gY] at this;cases this}
def gJ (h:aM p n=ZH):∃k,k<n/\p k=ZH:=by
 induction n with
 |zero=>simp[aM] at h
 |succ m f =>
  simp only[aM,Bool.or_eq_true] at h;rcases h with h|h;{obtain⟨k,hk,b⟩:=f h;exact⟨k,by omega,b⟩};{exact⟨m,by omega,h⟩}
def ox{k:Nat}(h:aK g n=ZH)(f:k<n)(h1:((g k).toList == t.toList)=ZH):aM (λi=>((g i).toList == t.toList) && q i) n=q k:=by
 cases e:q k with
 |true=>exact cS f (by simp[h1,e])
 |false =>
  cases e2:aM (λi=>((g i).toList == t.toList) && q i) n with
  |false=>rfl
  |true =>obtain⟨i,hi,b⟩:=gJ e2;simp only[j6] at b;obtain rfl:=asc_one h hi f b.1 h1;rw[e] at b;exact absurd b.2 (by simp)
def pa (h:aF g n t=ZH):∃k,k<n/\((g k).toList == t.toList)=ZH:=by simp only[aF,TI,E4] at h;exact h
def lN (h:aF g n t=ZA):aM (λi=>((g i).toList == t.toList) && q i) n=ZA:=by
 cases e2:aM (λi=>((g i).toList == t.toList) && q i) n with
 |false=>rfl
 |true =>obtain⟨i,hi,b⟩:=gJ e2;simp only[j6] at b;rw[eO hi b.1] at h;cases h
def nh{n0:Nat}{f0:Nat->Source}{n1:Nat}{f1:Nat->Target}(h:aR n0 f0 n1 f1=0):aK (nm0 f0) n0=ZH/\aK (nm1 f1) n1=ZH/\n0+n1<=200:=by
 unfold aR at h;split at h;· omega
 split at h;· omega
 split at h;· omega
 split at h;· omega
 split at h;· omega
 rename_i h0 _ _ b f;exact⟨by simpa using b,by simpa using f,by omega⟩
def slS{a:O_}{f:Nat->Source}(h:Qx w a n f)(hn:n≠0):∃b off,a=Q (T b off Z)/\RowSource w b off n f:=h.resolve_left hn
def slT{a:O_}{f:Nat->Target}(h:Qq w a n f)(hn:n≠0):∃b off,a=Q (T b off Z)/\RowTarget w b off n f:=h.resolve_left hn
def bx2{W b:E}{u v:Value}(ZX:B (z w)<B (z W))(h:ZV W (T (B (z w)) 0 Z)=Q u)(g:ZV W (T (B (z w)) 1 Z)=Q v)(A:Hid (Below (B (z w)) w W))(f:Below (B (z W)) W b):ZV b (T (B (z w)) 0 Z)=Q u/\ZV b (T (B (z w)) 1 Z)=Q v/\(B (z w))<B (z b)/\Hid (Below (B (z w)) w b):=
 ⟨(f.O (p:=(T (B (z w)) 0 Z)) ZX).k h,(f.O (p:=(T (B (z w)) 1 Z)) ZX).k g,lj ZX f.size,A.k (f.P A.size)⟩
def uo (a0:O_)(n0 c0:Nat)(a1:O_)(c1:Nat)(g:B_)(t:F_)(w:E):Qw Pg 28 #[ZJ #[Y a0 n0 c0,Y a1 0 c1],U t] w λe f=>∃r:Int,e=ZI (J I r)/\decide (0<=r)=aF g 0 t/\Below (B (z w)) w f:=by
 have b:=ae ((BS w).alloc ly (N #[Y a0 n0 c0,Y a1 0 c1] 29));go_enter WU,VR;go_wp2;go_loop [5] (λi=>i=J I 0) (λ_=>0);case atStart=>rfl
 case round =>subst hrel;go_wp2;go_ret;exact⟨-1,rfl,by rw[iS];rfl,b⟩
def ni (a0:O_)(n0 c0:Nat)(a1:O_)(n1 c1:Nat)(f1:Nat->Target)(t:F_)(w:E)(hn1:(n1:Int)<=1048576)(f:Qq w a1 n1 f1):Qw Pg 28 #[ZJ #[Y a0 n0 c0,Y a1 n1 c1],U t] w λe h=>∃r:Int,e=ZI (J I r)/\decide (0<=r)=aF (nm1 f1) n1 t/\Below (B (z w)) w h:=by
 rcases f with rfl|⟨b,off,rfl,g⟩
 {exact uo a0 n0 c0 a1 c1 (nm1 f1) t w};{exact un a0 n0 c0 b off n1 c1 f1 t w hn1 g}
def eK (a0:O_)(n0 c0:Nat)(f0:Nat->Source)(a1:O_)(n1 c1:Nat)(f1:Nat->Target)(w:E)(hn0:(n0:Int)<=1048576)(hn1:(n1:Int)<=1048576)(la:Qx w a0 n0 f0)(ld:Qq w a1 n1 f1)(bt:∀i,i<n1->aP (f1 i))(hs:∀i,i<n1->∀j,j<(f1 i).h->((f1 i).q j).s.size<=maxLen):Qw Pg 25 #[ZJ #[Y a0 n0 c0,Y a1 n1 c1]] w λe w'=>e=ZI (J I (aR n0 f0 n1 f1))/\Below (B (z w)) w w':=by
 have V0:=ae la;have V1:=ae ld;have HF:=ae bt;have HS:=ae hs;clear la ld bt hs;obtain⟨C,hC⟩:∃C,C=aR n0 f0 n1 f1:=⟨_,rfl⟩
 rw[<-hC];unfold aR at hC;have HC:=ae hC;clear hC;have A0:=ae ((BS w).alloc ly (N #[Y a0 n0 c0,Y a1 n1 c1] 29));have D:ZV (ZU w (N #[Y a0 n0 c0,Y a1 n1 c1] 29)) (T (B (z w)) 0 Z)=Q (Y a0 n0 c0):=by simp
 have H:ZV (ZU w (N #[Y a0 n0 c0,Y a1 n1 c1] 29)) (T (B (z w)) 1 Z)=Q (Y a1 n1 c1):=by simp
 have z0:B (z w)<B (z (ZU w (N #[Y a0 n0 c0,Y a1 n1 c1] 29))):=by simp
 go_enter func25,ntmps25;by_cases h1:(200:Int)<n0+n1;{have f:=HC.i;rw[eT (by omega)] at f;subst f;go_wp2;go_ret;exact⟨rfl,A0⟩};have ZP:=HC.i;rw[eI (by omega)] at ZP;have S:=ae ZP;clear ZP HC;go_wp2;generalize World.alloc w _=W0 at A0 D H z0 ⊢;go_loopw [5] (λi wr=>∃k:Nat,k<=n0/\i=J I k/\Hid (bY (nm0 f0) k=ZH)/\Below (B (z W0)) W0 wr) (λi _=>n0 - (intOf i).toNat);case atStart=>exact⟨0,by omega,rfl,rfl,a8 _ _⟩
 case round =>
  obtain⟨k,P,rfl,o,n⟩:=hrel;obtain⟨L,A,z1,ZN⟩:=bx2 z0 D H A0 n;have p:=ae n;clear n;by_cases h:k<n0
  ·obtain⟨b,off,rfl,l⟩:=slS V0 (by omega);obtain⟨x,y⟩:=(l.2 k h).aa ZN l.1;clear l D H;go_wp2_with fail;refine(dl _ _).P ?_;rintro e w1⟨rfl,q⟩;have u:=ae (p.k (q.P p.size));clear q;cases m:aA (f0 k).e with
   |true =>have t:=ae m;clear m;go_wp2;exact⟨⟨k+1,by omega,by go_num,by show bY (nm0 f0) (k+1)=ZH;simp[bY,o.i,t.i],u.i⟩,by simp[intOf];omega⟩
   |false =>have t:=ae m;have f:=S.i;rw[eT (jc (g:=(nm0 f0)) h t.i)] at f;subst f;clear m;go_wp2;go_ret;exact⟨rfl,A0.k (u.P A0.size)⟩
  ·have e:n0=k:=by omega
   subst e;have f:=S.i;rw[eI (by simp[o.i])] at f;have W:=ae f;clear f S o p D H;go_wp2;generalize wr=W1 at L A z1 ZN ⊢;go_loopw [6] (λi wr=>∃k:Nat,k<=n1/\i=J I k/\Hid (bY (nm1 f1) k=ZH)/\Below (B (z W1)) W1 wr) (λi _=>n1 - (intOf i).toNat);case atStart=>exact⟨0,by omega,rfl,rfl,a8 _ _⟩
   case round =>
    obtain⟨k,P,rfl,o,n⟩:=hrel;obtain⟨ZS,K,z2,A2⟩:=bx2 z1 L A ZN n;have p:=ae n;clear n;by_cases h:k<n1
    ·obtain⟨b,off,rfl,l⟩:=slT V1 (by omega);obtain⟨x,ka,kc,y,_⟩:=(l.2 k h).aa A2 ly l.1;clear l L A;go_wp2_with fail;refine(dl _ _).P ?_;rintro e w1⟨rfl,q⟩;have u:=ae (p.k (q.P p.size));clear q;cases m:aA (f1 k).e with
     |true =>have t:=ae m;clear m;go_wp2;exact⟨⟨k+1,by omega,by go_num,by show bY (nm1 f1) (k+1)=ZH;simp[bY,o.i,t.i],u.i⟩,by simp[intOf];omega⟩
     |false =>have t:=ae m;have f:=W.i;rw[eT (jc (g:=(nm1 f1)) h t.i)] at f;subst f;clear m;go_wp2;go_ret;exact⟨rfl,ZN.k (u.P ZN.size)⟩
    ·have e:n1=k:=by omega
     subst e;have f:=W.i;rw[eI (by simp[o.i])] at f;have ex:=ae f;clear f W o p L A;go_wp2;generalize wr=W2 at ZS K z2 A2 ⊢;go_loopw [7] (λi wr=>∃k:Nat,(k+1<=n0\/k=0)/\i=J I ((k:Int)+1)/\Hid (aK (nm0 f0) (k+1)=ZH)/\Below (B (z W2)) W2 wr) (λi _=>n0+1 - (intOf i).toNat);case atStart=>exact⟨0,.inr rfl,rfl,rfl,a8 _ _⟩
     case round =>
      obtain⟨k,P,rfl,o,n⟩:=hrel;obtain⟨ZR,ZQ,z3,R⟩:=bx2 z2 ZS K A2 n;have p:=ae n;clear n;by_cases h:k+1<n0
      ·obtain⟨b,off,rfl,l⟩:=slS V0 (by omega);obtain⟨x,y⟩:=(l.2 k (by omega)).aa R l.1;obtain⟨e0,e1⟩:=(l.2 (k+1) h).aa R l.1;have mv:(k:Int)+1<n0:=by omega
       clear l ZS K;go_wp2_with fail;go_quiet (fail);have u:=ae (AD p nq);clear x y e0 e1;generalize wr.drewN nq=X at u ⊢;cases m:Op.bytesLess (f0 k).e.toList (f0 (k+1)).e.toList with
       |true =>have t:=ae m;clear m;go_wp2;exact⟨⟨k+1,.inl (by omega),by go_num,by show aK (nm0 f0) (k+2)=ZH;simp[aK,o.i,t.i],u.i⟩,by simp[intOf];omega⟩
       |false =>have t:=ae m;have f:=ex.i;rw[eT (kG (g:=(nm0 f0)) h t.i)] at f;subst f;clear m;go_wp2;go_ret;exact⟨rfl,A2.k (u.P A2.size)⟩
      ·have n9:¬ (k:Int)+1<n0:=by omega
       have f:=ex.i;rw[eI (by simp[fR (show n0<=k+1 by omega) o.i])] at f;have fd:=ae f;clear f ex o p ZS K;go_wp2;generalize wr=W3 at ZR ZQ z3 R ⊢;go_loopw [8] (λi wr=>∃k:Nat,(k+1<=n1\/k=0)/\i=J I ((k:Int)+1)/\Hid (aK (nm1 f1) (k+1)=ZH)/\Below (B (z W3)) W3 wr) (λi _=>n1+1 - (intOf i).toNat);case atStart=>exact⟨0,.inr rfl,rfl,rfl,a8 _ _⟩
       case round =>
        obtain⟨k,P,rfl,o,n⟩:=hrel;obtain⟨M,ZW,z4,ZO⟩:=bx2 z3 ZR ZQ R n;have p:=ae n;clear n;by_cases h:k+1<n1
        ·obtain⟨b,off,rfl,l⟩:=slT V1 (by omega);obtain⟨x,ka,kc,y,_⟩:=(l.2 k (by omega)).aa ZO ly l.1;obtain⟨e0,kb,kd,e1,_⟩:=(l.2 (k+1) h).aa ZO ly l.1;have mv:(k:Int)+1<n1:=by omega
         clear l ZR ZQ;go_wp2_with fail;go_quiet (fail);have u:=ae (AD p nq);clear x y e0 e1;generalize wr.drewN nq=X at u ⊢;cases m:Op.bytesLess (f1 k).e.toList (f1 (k+1)).e.toList with
         |true =>have t:=ae m;clear m;go_wp2;exact⟨⟨k+1,.inl (by omega),by go_num,by show aK (nm1 f1) (k+2)=ZH;simp[aK,o.i,t.i],u.i⟩,by simp[intOf];omega⟩
         |false =>have t:=ae m;have f:=fd.i;rw[eT (kG (g:=(nm1 f1)) h t.i)] at f;subst f;clear m;go_wp2;go_ret;exact⟨rfl,R.k (u.P R.size)⟩
        ·have n9:¬ (k:Int)+1<n1:=by omega
         have f:=fd.i;rw[eI (by simp[fR (show n1<=k+1 by omega) o.i])] at f;have ZM:=ae f;clear f fd o p ZR ZQ;go_wp2;generalize wr=W4 at M ZW z4 ZO ⊢;go_loopw [9] (λi wr=>∃k:Nat,k<=n0/\i=J I k/\Hid (aM (λi=>aF (nm1 f1) n1 (nm0 f0 i)) k=ZA)/\Below (B (z W4)) W4 wr) (λi _=>n0 - (intOf i).toNat);case atStart=>exact⟨0,by omega,rfl,rfl,a8 _ _⟩
         case round =>
          obtain⟨k,P,rfl,o,n⟩:=hrel;obtain⟨G,O,z5,ZX⟩:=bx2 z4 M ZW ZO n;have p:=ae n;clear n;by_cases h:k<n0
          ·obtain⟨b,off,rfl,l⟩:=slS V0 (by omega);obtain⟨x,y⟩:=(l.2 k h).aa ZX l.1;clear l M ZW;go_wp2_with fail;go_region_with (go_at_call 28;refine(ni (Q (T b off Z)) n0 c0 a1 n1 c1 f1 (f0 k).e _ hn1 ?_).P ?_;(first|exact V1.aa ZX ly|exact V1.aa ZX.drew ly);rintro e w1⟨r,rfl,hd,q⟩;have HD:=ae hd;clear hd;have u:Hid (Below (B (z wr)) wr w1):=⟨q.os,q.tape,q.output,q.size,q.p⟩;clear q);all_goals
            have B2:=ae (p.k (u.P p.size));clear x y u;by_cases m:0<=r
            ·have f:=ZM.i
             rw[eT (cS h (by have:=HD.i;rw[QC m] at this;exact this.c))] at f;subst f;go_wp2;go_ret;exact⟨rfl,ZO.k (B2.P ZO.size)⟩
            ·have t:=ae m
             go_wp2;exact⟨⟨k+1,by omega,by go_num,by show aM _ (k+1)=ZA;have:=HD.i;rw[U8 t.i] at this;simp[aM,o.i,<-this],B2.i⟩,by simp[intOf];omega⟩
          ·have e:n0=k:=by omega
           subst e;have f:=ZM.i;rw[eI (by simp[o.i])] at f;have aq:=ae f;clear f ZM o p M ZW;go_wp2;generalize wr=W5 at G O z5 ZX ⊢;go_loopw [10] (λi wr=>∃k:Nat,k<=n0/\i=J I k/\Hid (aM (λi=>fx (f0 i)) k=ZA)/\Below (B (z W5)) W5 wr) (λi _=>n0 - (intOf i).toNat);case atStart=>exact⟨0,by omega,rfl,rfl,a8 _ _⟩
           case round =>
            obtain⟨k,P,rfl,o,n⟩:=hrel;obtain⟨V,ZL,z6,A6⟩:=bx2 z5 G O ZX n;have p:=ae n;clear n;by_cases h:k<n0;{obtain⟨b,off,rfl,l⟩:=slS V0 (by omega);obtain⟨x,y⟩:=(l.2 k h).aa A6 l.1;clear l G O;by_cases m:(2000:Int)<(f0 k).H.size;{have f:=aq.i;rw[eT (cS h (by simpa[fx] using m))] at f;subst f;go_wp2;go_ret;exact⟨rfl,ZX.k (p.P ZX.size)⟩};{have t:Hid (fx (f0 k)=ZA):=U8 m;go_wp2;exact⟨⟨k+1,by omega,by go_num,by show aM _ (k+1)=ZA;simp[aM,o.i,t.i],p.i⟩,by simp[intOf];omega⟩}}
            ·have e:n0=k:=by omega
             subst e;have f:=aq.i;rw[eI (by simp[o.i])] at f;have n8:=ae f;clear f aq o p G O;go_wp2;generalize wr=W6 at V ZL z6 A6 ⊢;go_loopw [11,4] (λi v wr=>∃(k:Nat) (r:Int),k<=n1/\i=J I k/\v=J I r/\Hid (r=if aM (λi=>cP (f1 i)) k=ZH then 7 else 0)/\Below (B (z W6)) W6 wr) (λi _ _=>n1 - (intOf i).toNat);case atStart=>exact⟨0,0,by omega,rfl,rfl,rfl,a8 _ _⟩
             case round =>
              obtain⟨k,r,P,rfl,rfl,o,n⟩:=hrel;obtain⟨k70,k71,z7,A7⟩:=bx2 z6 V ZL A6 n;have p:=ae n;clear n;by_cases h:k<n1
              ·obtain⟨b,off,rfl,l⟩:=slT V1 (by omega);obtain⟨x,ka,kc,y,hx⟩:=(l.2 k h).aa A7 ly l.1;have HX:=ae hx;clear l hx V ZL;go_wp2_with fail;refine(jD ka (f1 k).h kc (f1 k).q _ (HF k h) HX (HS k h)).P ?_;rintro e w1⟨rfl,q⟩;have u:=ae (p.k (q.P p.size));clear q x y;cases m:valid (f1 k).q (f1 k).h with
               |true =>
                have t:=ae m;clear m;have ZT:Hid (aM (λi=>cP (f1 i)) (k+1)=aM (λi=>cP (f1 i)) k):=by show(aM _ k || cP (f1 k))=_;rw[show cP (f1 k)=ZA by unfold cP;rw[t.i];rfl,Bool.or_false]
                go_wp2;exact⟨⟨k+1,r,by omega,by go_num,rfl,by show r=_;rw[ZT.i];exact o,u⟩,by simp[intOf];omega⟩
               |false =>
                have t:=ae m;clear m;have ZT:Hid (aM (λi=>cP (f1 i)) (k+1)=ZH):=by show(aM _ k || cP (f1 k))=_;rw[show cP (f1 k)=ZH by unfold cP;rw[t.i];rfl,Bool.or_true]
                go_wp2;exact⟨⟨k+1,7,by omega,by go_num,rfl,by show(7:Int)=_;rw[eT ZT.i],u.i⟩,by simp[intOf];omega⟩
              ·have e:n1=k:=by omega
               subst e;have f:=n8.i;rw[<-o.i] at f;subst f;go_wp2;go_ret;exact⟨rfl,A6.k (p.P A6.size)⟩
def hZ (n0:Nat)(f0:Nat->Source)(n1:Nat)(f1:Nat->Target)(t:F_):Bool:=aF (nm0 f0) n0 t || aF (nm1 f1) n1 t
def jd (n0:Nat)(f0:Nat->Source)(t x:F_):Bool:=aM (λi=>((nm0 f0 i).toList == t.toList) && ((f0 i).H.toList == x.toList)) n0
def iB (n1:Nat)(f1:Nat->Target)(t:F_)(n:Nat)(f:Nat->Ins):Bool:=aM (λi=>((nm1 f1 i).toList == t.toList) && cD (f1 i).q f (f1 i).h n) n1
def gD (n0:Nat)(f0:Nat->Source)(n1:Nat)(f1:Nat->Target)(d:au):Bool:=
 if d.L=1 then !jd n0 f0 d.e d.H else if d.L=3 then !iB n1 f1 d.e d.h d.q else hZ n0 f0 n1 f1 d.e
def dY (n0:Nat)(f0:Nat->Source)(n1:Nat)(f1:Nat->Target)(l:Link):Bool:=!l.ask && !(l.has == hZ n0 f0 n1 f1 l.e)
def hasB (n0:Nat)(f0:Nat->Source)(n1:Nat)(f1:Nat->Target)(d:au):Bool:=aM (λk=>dY n0 f0 n1 f1 (d.m k)) d.f
def PlaceOf (g:B_)(n:Nat)(t:F_)(r:Int):Prop:=(r=-1/\aF g n t=ZA)\/∃k:Nat,r=k/\k<n/\((g k).toList == t.toList)=ZH
def PlaceOf.has{r:Int}(h:PlaceOf g n t r):aF g n t=decide (0<=r):=by
 rcases h with⟨rfl,h⟩|⟨k,rfl,b,h⟩
 {rw[h];rfl};{rw[eO b h];simp}
def rm (a0:O_)(n0 c0 b off n1 c1:Nat)(f1:Nat->Target)(t:F_)(w:E)(hn1:(n1:Int)<=1048576)(j:RowTarget w b off n1 f1):Qw Pg 28 #[ZJ #[Y a0 n0 c0,Y (Q (T b off Z)) n1 c1],U t] w λe p=>∃r:Int,e=ZI (J I r)/\PlaceOf (nm1 f1) n1 t r/\Below (B (z w)) w p:=by
 obtain⟨W,f⟩:∃W:E,ZU w (N #[Y a0 n0 c0,Y (Q (T b off Z)) n1 c1] 29)=W:=⟨_,rfl⟩
 obtain⟨m,-,-⟩:=nb1 f;have g:=ae f;clear f;have o:=ae (j.aa m.i ly);have k1:ZV W (T (B (z w)) 1 Z)=Q (Y (Q (T b off Z)) n1 c1):=by rw[<-g.i];simp
 clear j;go_enter WU,VR;go_wp2;rw[g.i];clear g;go_loop [5] (λi=>∃k:Nat,k<=n1/\i=J I k/\Hid (aF (nm1 f1) k t=ZA)) (λi=>n1 - (intOf i).toNat);case atStart=>exact⟨0,by omega,rfl,rfl⟩
 case round =>
  obtain⟨k,hk,rfl,n⟩:=hrel;by_cases h:k<n1
  ·obtain⟨d0,ka,kc,d1,_⟩:=o.i.2 k h;cases hb:((f1 k).e.toList == t.toList) with
   |true =>have l:=ae hb;go_wp2;go_ret;exact⟨k,rfl,.inr ⟨k,rfl,h,l.i⟩,m.i⟩
   |false =>have l:=ae hb;go_wp2;exact⟨⟨k+1,by omega,by go_num,by show aF (nm1 f1) (k+1) t=ZA;rw[gI,n.i];exact l.i⟩,by simp[intOf];omega⟩
  ·have e:k=n1:=by omega
   subst e;go_wp2;go_ret;exact⟨-1,rfl,.inl ⟨rfl,n.i⟩,m.i⟩
def rp (a0:O_)(n0 c0:Nat)(a1:O_)(c1:Nat)(g:B_)(t:F_)(w:E):Qw Pg 28 #[ZJ #[Y a0 n0 c0,Y a1 0 c1],U t] w λe f=>∃r:Int,e=ZI (J I r)/\PlaceOf g 0 t r/\Below (B (z w)) w f:=by
 have b:=ae ((BS w).alloc ly (N #[Y a0 n0 c0,Y a1 0 c1] 29));go_enter WU,VR;go_wp2;go_loop [5] (λi=>i=J I 0) (λ_=>0);case atStart=>rfl
 case round =>subst hrel;go_wp2;go_ret;exact⟨-1,rfl,.inl ⟨rfl,iS _ _⟩,b.i⟩
def kV (a0:O_)(n0 c0:Nat)(a1:O_)(n1 c1:Nat)(f1:Nat->Target)(t:F_)(w:E)(hn1:(n1:Int)<=1048576)(f:Qq w a1 n1 f1):Qw Pg 28 #[ZJ #[Y a0 n0 c0,Y a1 n1 c1],U t] w λe h=>∃r:Int,e=ZI (J I r)/\PlaceOf (nm1 f1) n1 t r/\Below (B (z w)) w h:=by
 rcases f with rfl|⟨b,off,rfl,g⟩
 {exact rp a0 n0 c0 a1 c1 (nm1 f1) t w};{exact rm a0 n0 c0 b off n1 c1 f1 t w hn1 g}
def rq (b off n0 c0:Nat)(a1:O_)(n1 c1:Nat)(f0:Nat->Source)(t:F_)(w:E)(hn0:(n0:Int)<=1048576)(h:RowSource w b off n0 f0):Qw Pg 27 #[ZJ #[Y (Q (T b off Z)) n0 c0,Y a1 n1 c1],U t] w λe p=>∃r:Int,e=ZI (J I r)/\PlaceOf (nm0 f0) n0 t r/\Below (B (z w)) w p:=by
 obtain⟨W,f⟩:∃W:E,ZU w (N #[Y (Q (T b off Z)) n0 c0,Y a1 n1 c1] 29)=W:=⟨_,rfl⟩
 obtain⟨m,-,-⟩:=nb1 f;have g:=ae f;clear f;have o:=ae (h.aa m.i ly);have k0:ZV W (T (B (z w)) 0 Z)=Q (Y (Q (T b off Z)) n0 c0):=by rw[<-g.i];simp
 clear h;go_enter WV,VT;go_wp2;rw[g.i];clear g;go_loop [5] (λi=>∃k:Nat,k<=n0/\i=J I k/\Hid (aF (nm0 f0) k t=ZA)) (λi=>n0 - (intOf i).toNat);case atStart=>exact⟨0,by omega,rfl,rfl⟩
 case round =>
  obtain⟨k,hk,rfl,n⟩:=hrel;by_cases j:k<n0
  ·obtain⟨d0,d1⟩:=o.i.2 k j;cases hb:((f0 k).e.toList == t.toList) with
   |true =>have l:=ae hb;go_wp2;go_ret;exact⟨k,rfl,.inr ⟨k,rfl,j,l.i⟩,m.i⟩
   |false =>have l:=ae hb;go_wp2;exact⟨⟨k+1,by omega,by go_num,by show aF (nm0 f0) (k+1) t=ZA;rw[gI,n.i];exact l.i⟩,by simp[intOf];omega⟩
  ·have e:k=n0:=by omega
   subst e;go_wp2;go_ret;exact⟨-1,rfl,.inl ⟨rfl,n.i⟩,m.i⟩
def ru (a0:O_)(c0:Nat)(a1:O_)(n1 c1:Nat)(g:B_)(t:F_)(w:E):Qw Pg 27 #[ZJ #[Y a0 0 c0,Y a1 n1 c1],U t] w λe f=>∃r:Int,e=ZI (J I r)/\PlaceOf g 0 t r/\Below (B (z w)) w f:=by
 have b:=ae ((BS w).alloc ly (N #[Y a0 0 c0,Y a1 n1 c1] 29));go_enter WV,VT;go_wp2;go_loop [5] (λi=>i=J I 0) (λ_=>0);case atStart=>rfl
 case round =>subst hrel;go_wp2;go_ret;exact⟨-1,rfl,.inl ⟨rfl,iS _ _⟩,b.i⟩
def kW (a0:O_)(n0 c0:Nat)(a1:O_)(n1 c1:Nat)(f0:Nat->Source)(t:F_)(w:E)(hn0:(n0:Int)<=1048576)(f:Qx w a0 n0 f0):Qw Pg 27 #[ZJ #[Y a0 n0 c0,Y a1 n1 c1],U t] w λe h=>∃r:Int,e=ZI (J I r)/\PlaceOf (nm0 f0) n0 t r/\Below (B (z w)) w h:=by
 rcases f with rfl|⟨b,off,rfl,g⟩
 {exact ru a0 c0 a1 n1 c1 (nm0 f0) t w};{exact rq b off n0 c0 a1 n1 c1 f0 t w hn0 g}
