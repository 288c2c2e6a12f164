import Derived.Test.YtcnilonhfpimnaaGreatDoorGM
import Derived.Sort.Walk0
set_option linter.all false
set_option maxRecDepth 100000
set_option maxHeartbeats 16000000
open Go renaming Addr.mk->T,Value.slice->Z,Value.string->U,Value.int->J,Value.bool->ZF,Value.agg->ZJ,Obj.cells->N,IntKind.i64->I,World->E,Ending.returned->ZI,World.heap->z,World.alloc->ZU,World.cell?->ZV,Proofs.Tryz.prog->Pg
open Option renaming none->Y,some->Q
open Bool renaming false->ZA,true->ZH
open Array renaming size->B
namespace Go.Proofs.YtcnilonhfpimnaaGreatDoor.Vp
open Tryz RowKit Go.Sort
variable {n i j:Nat}{g:B_}{t a b:F_}{w:E}{p q:Nat->Bool}
abbrev aC (a b:F_):Bool:=Op.bytesLess a.toList b.toList
def eY{c:F_}(h1:aC a b=ZH)(h2:aC b c=ZH):aC a c=ZH:=by simp only[aC,bytesLess_eq,nD] at *;exact List.lt_trans h1 h2
def gY (a:F_):aC a a=ZA:=by simp only[aC,bytesLess_eq,NZ];exact VQ _
def gZ (h:aK g n=ZH)(hij:i<j)(hj:j<n):aC (g i) (g j)=ZH:=by
 induction j with
 |zero=>omega
 |succ m b =>
  have h2:=fR (show m+2<=n by omega) h;simp only[aK,j6] at h2;by_cases e:i=m;{subst e;exact h2.2};{exact eY (b (by omega) (by omega)) h2.2}
def aF (g:B_)(n:Nat)(t:F_):Bool:=(List.range n).any λi=>(g i).toList == t.toList
def kU (p:aK g n=ZH)(hi:i<=n)(h1:∀m,m<i->aC (g m) t=ZH)(h2:∀m,i<=m->m<n->aC (g m) t=ZA):aF g n t=(decide (i<n) && ((g i).toList == t.toList)):=by
 by_cases h:i<n
 ·simp only[h,decide_true,QB];cases e:(g i).toList == t.toList with
  |true =>simp only[aF,TI,IH];exact⟨i,h,e⟩
  |false =>
   simp only[aF,List.any_eq_false,IH];intro m l j;have f:(g m).toList=t.toList:=by simpa using j
   rcases VO m i with c|c|c;{have:=h1 m c;simp only[aC,f] at this;have b:=gY t;simp only[aC] at b;rw[b] at this;cases this};{subst c;rw[j] at e;cases e};{have b:=gZ p c l;simp only[aC,f] at b;have o:=h2 i ly h;simp only[aC] at o;rw[b] at o;cases o}
 ·have e:i=n:=by omega
  subst e;simp only[Nat.lt_irrefl,decide_false,YC];simp only[aF,List.any_eq_false,IH];intro m l j;have f:(g m).toList=t.toList:=by simpa using j
  have:=h1 m l;simp only[aC,f] at this;have b:=gY t;simp only[aC] at b;rw[b] at this;cases this
def Jw (x:F_)(w:E):Calls Pg 180 #[U x] w λe b=>e=ZI (ZF ZA)/\b=w:=by go_enter func180,ntmps180;go_wp2;go_ret;exact⟨by simp,rfl⟩
def Jy (x:F_)(w:E):Calls Pg 156 #[U x] w λe b=>e=ZI (ZF ZA)/\b=w:=by go_enter func156,ntmps156;go_wp2;go_ret;exact⟨by simp,rfl⟩
def GH (x y:F_)(w:E):Calls Pg 155 #[U x,U y] w λe b=>e=ZI (ZF (aC x y))/\b=w:=by
 go_enter func155,ntmps155;go_wp2_with (go_at_call 180;refine(Jw _ _).P ?_;rintro e w1⟨rfl,rfl⟩);all_goals
  go_ret;exact⟨by simp,rfl⟩
def yR (b off n j_:Nat)(g:B_)(t:F_)(w:E)(hn:(n:Int)<=1048576)(ZX:RowStr w b off n g)(ZT:aK g n=ZH):Calls Pg 126 #[Z (Q (T b off Y)) n j_,U t] w λe K=>∃i:Int,e=ZI (.tuple #[J I i,ZF (aF g n t)])/\K=w:=by
 have A:=ae ZX;have u:=ae ZT;clear ZX ZT;obtain⟨ZS,o⟩:∃ZS,ZS=aF g n t:=⟨_,rfl⟩
 rw[<-o];have C:=ae o;clear o;go_enter func126,ntmps126;go_wp2;go_loop [7,8] (λi j=>∃p q:Nat,p<=q/\q<=n/\i=J I p/\j=J I q/\Hid (∀m,m<p->aC (g m) t=ZH)/\Hid (∀m,q<=m->m<n->aC (g m) t=ZA)) (λi j=>(intOf j).toNat - (intOf i).toNat);case atStart=>exact⟨0,n,by omega,by omega,rfl,rfl,λm s=>absurd s (NF _),λm h1 h2=>by omega⟩
 case round =>
  obtain⟨p,q,hpq,G,rfl,rfl,ZW,D⟩:=hrel;by_cases hlt:p<q
  ·obtain⟨m,s⟩:∃m:Nat,m=(p+q) / 2:=⟨_,rfl⟩
   have H:p<=m:=by omega
   have hm2:m<q:=by omega
   have c0:=A.2 m (by omega);have hsh:((p:Int)+q) / 2=m:=by omega
   clear s;cases hb:aC (g m) t with
   |true =>
    have l:=ae hb;clear hb;go_wp2_with (go_at_call 155;refine(GH _ _ _).P ?_;rintro e ZR⟨rfl,rfl⟩;rw[l.i]);refine⟨⟨m+1,q,by omega,G,by go_num,rfl,λx y=>?_,D⟩,by simp[intOf];omega⟩;by_cases e:x=m;{subst e;exact l};{exact eY (gZ u (show x<m by omega) (by omega)) l}
   |false =>
    have l:=ae hb;clear hb;go_wp2_with (go_at_call 155;refine(GH _ _ _).P ?_;rintro e ZR⟨rfl,rfl⟩;rw[l.i]);refine⟨⟨p,m,H,by omega,rfl,rfl,ZW,λx h1 h2=>?_⟩,by simp[intOf];omega⟩;by_cases e:x=m;{subst e;exact l}
    ·cases y:aC (g x) t with
     |false=>rfl
     |true =>have:=eY (gZ u (show m<x by omega) h2) y;rw[l.i] at this;cases this
  ·have e:p=q:=by omega
   subst e;have r:=ae (C.k (kU u G ZW D));by_cases h:p<n
   ·have c0:=A.2 p h;cases hb:((g p).toList == t.toList) with
    |true =>
     have f:ZS=ZH:=by rw[r.i,hb];simp[h]
     subst f;go_wp2;refine bp (v:=.tuple #[J I p,ZF ZH]) (by simp[results,XF,go_sem]) rfl (by first|exact⟨⟨_,rfl⟩,rfl⟩|exact⟨_,rfl,rfl⟩)
    |false =>
     have f:ZS=ZA:=by rw[r.i,hb];simp
     subst f;go_wp2_with (go_at_call 156;refine(Jy _ _).P ?_;rintro e ZR⟨rfl,rfl⟩);all_goals
      refine bp (v:=.tuple #[J I p,ZF ZA]) (by simp[results,XF,go_sem]) rfl (by first|exact⟨⟨_,rfl⟩,rfl⟩|exact⟨_,rfl,rfl⟩)
   ·have f:ZS=ZA:=by rw[r.i];simp[h]
    subst f;go_wp2;refine bp (v:=.tuple #[J I p,ZF ZA]) (by simp[results,XF,go_sem]) rfl (by first|exact⟨⟨_,rfl⟩,rfl⟩|exact⟨_,rfl,rfl⟩)
def yS (a:O_)(j_:Nat)(t:F_)(w:E):Calls Pg 126 #[Z a 0 j_,U t] w λe b=>∃i:Int,e=ZI (.tuple #[J I i,ZF ZA])/\b=w:=by
 go_enter func126,ntmps126;go_wp2;go_loop [7,8] (λi j=>i=J I 0/\j=J I 0) (λ_ _=>0);case atStart=>exact⟨rfl,rfl⟩
 case round =>obtain⟨rfl,rfl⟩:=hrel;go_wp2;refine bp (v:=.tuple #[J I 0,ZF ZA]) (by simp[results,XF,go_sem]) rfl (by first|exact⟨⟨_,rfl⟩,rfl⟩|exact⟨_,rfl,rfl⟩)
def iS (g:B_)(t:F_):aF g 0 t=ZA:=rfl
def yT (a:O_)(n j_:Nat)(g:B_)(t:F_)(w:E)(hn:(n:Int)<=1048576)(f:SlStr w a n g)(j:aK g n=ZH):Calls Pg 126 #[Z a n j_,U t] w λe h=>∃i:Int,e=ZI (.tuple #[J I i,ZF (aF g n t)])/\h=w:=by
 rcases f with rfl|⟨b,off,rfl,f⟩
 {exact yS a j_ t w};{exact yR b off n j_ g t w hn f j}
def sy (s:F_)(bx:Nat)(a:O_)(n j_:Nat)(g:B_)(w:E)(hc:ZV w (T bx 0 Y)=Q (Z a n j_))(hn:(n:Int)<=1048576)(b:SlStr w a n g)(f:aK g n=ZH):Calls Pg 125 #[U s,.pointer (Q (T bx 0 Y))] w λe h=>e=ZI (ZF (aF g n s))/\h=w:=by have j:=ae b;have l:=ae f;clear b f;go_enter func125,ntmps125;go_wp2_with fail;refine(yT a n j_ g s _ hn j l).P ?_;rintro e w1⟨i,rfl,rfl⟩;go_wp2;go_ret;exact⟨rfl,rfl⟩
def aM (p:Nat->Bool):Nat->Bool
 |0=>ZA
 |k+1=>aM p k || p k
def cS{k:Nat}(h:k<n)(b:p k=ZH):aM p n=ZH:=by
 induction n with
 |zero=>omega
 |succ m f =>
  by_cases e:k=m;{subst e;simp[aM,b]};{simp[aM,f (by omega)]}
def AO (b off m c:Nat)(h:B_)(bx:Nat)(a:O_)(n j_:Nat)(g:B_)(w:E)(hm:(m:Int)<=1048576)(f:RowStr w b off m h)(p:ZV w (T bx 0 Y)=Q (Z a n j_))(hn:(n:Int)<=1048576)(t:SlStr w a n g)(q:aK g n=ZH):Calls Pg 154 #[Z (Q (T b off Y)) m c,.func (.func 125) #[] #[.pointer (Q (T bx 0 Y))]] w λe ZX=>∃r:Int,e=ZI (J I r)/\decide (0<=r)=aM (λi=>aF g n (h i)) m/\ZX=w:=by
 have x:=ae f;have o:=ae t;have u:=ae q;clear t q f;go_enter func154,ntmps154;go_wp2;go_loop [8] (λi=>∃k:Nat,k<=m/\i=J I k/\Hid (aM (λi=>aF g n (h i)) k=ZA)) (λi=>m - (intOf i).toNat);case atStart=>exact⟨0,by omega,rfl,rfl⟩
 case round =>
  obtain⟨k,hk,rfl,s⟩:=hrel;by_cases l:k<m
  ·have c0:=x.2 k l;cases hb:aF g n (h k) with
   |true =>have j:=ae hb;clear hb;go_wp2_with (go_at_call 125;refine(sy _ bx a n j_ g _ p hn o u).P ?_;rintro e y⟨rfl,rfl⟩;rw[j.i]);go_ret;exact⟨k,rfl,by rw[cS l j.i];simp,rfl⟩
   |false =>have j:=ae hb;clear hb;go_wp2_with (go_at_call 125;refine(sy _ bx a n j_ g _ p hn o u).P ?_;rintro e y⟨rfl,rfl⟩;rw[j.i]);exact⟨⟨k+1,by omega,by go_num,by show aM _ (k+1)=ZA;simp[aM,s.i,j.i]⟩,by simp[intOf];omega⟩
  ·have e:k=m:=by omega
   subst e;go_wp2;go_ret;exact⟨-1,rfl,by rw[s.i];rfl,rfl⟩
def AP (a0:O_)(c:Nat)(b:Value)(bx:Nat)(f:b=.func (.func 125) #[] #[.pointer (Q (T bx 0 Y))])(w:E):Calls Pg 154 #[Z a0 0 c,b] w λe g=>∃r:Int,e=ZI (J I r)/\decide (0<=r)=ZA/\g=w:=by
 subst f;go_enter func154,ntmps154;go_wp2;go_loop [8] (λi=>i=J I 0) (λ_=>0);case atStart=>rfl
 case round =>
  subst hrel;go_wp2;go_ret;first
   |exact⟨-1,rfl,rfl,rfl⟩
   |exact⟨-1,rfl,by decide,rfl⟩
   |exact⟨⟨-1,rfl,by decide⟩,rfl⟩
   |exact⟨-1,by decide,rfl⟩
def AQ (a0:O_)(m c:Nat)(h:B_)(bx:Nat)(a:O_)(n j_:Nat)(g:B_)(w:E)(o:(m:Int)<=1048576)(f:SlStr w a0 m h)(j:ZV w (T bx 0 Y)=Q (Z a n j_))(hn:(n:Int)<=1048576)(p:SlStr w a n g)(l:aK g n=ZH):Calls Pg 154 #[Z a0 m c,.func (.func 125) #[] #[.pointer (Q (T bx 0 Y))]] w λe q=>∃r:Int,e=ZI (J I r)/\decide (0<=r)=aM (λi=>aF g n (h i)) m/\q=w:=by
 rcases f with rfl|⟨b,off,rfl,f⟩
 {exact AP a0 c _ bx rfl w};{exact AO b off m c h bx a n j_ g w o f j hn p l}
def um (a0:O_)(m c:Nat)(h:B_)(bx:Nat)(a:O_)(n j_:Nat)(g:B_)(w:E)(t:(m:Int)<=1048576)(b:SlStr w a0 m h)(q:ZV w (T bx 0 Y)=Q (Z a n j_))(hn:(n:Int)<=1048576)(p:SlStr w a n g)(j:aK g n=ZH):Calls Pg 124 #[Z a0 m c,.func (.func 125) #[] #[.pointer (Q (T bx 0 Y))]] w λe u=>e=ZI (ZF (aM (λi=>aF g n (h i)) m))/\u=w:=by
 have o:=ae (AQ a0 m c h bx a n j_ g w t b q hn p j);obtain⟨A,f⟩:∃A,A=aM (λi=>aF g n (h i)) m:=⟨_,rfl⟩
 rw[<-f];rw[<-f] at o;clear f p j b;go_enter func124,ntmps124;go_wp2_with fail;refine o.P ?_;rintro e w1⟨r,rfl,l,rfl⟩;have s:=ae l;clear l;go_wp2;go_ret;exact⟨bv s,rfl⟩
def DV (a0:O_)(m c:Nat)(h:B_)(a:O_)(n j_:Nat)(g:B_)(w:E)(q:(m:Int)<=1048576)(b:SlStr w a0 m h)(hn:(n:Int)<=1048576)(p:SlStr w a n g)(l:aK g n=ZH):Calls Pg 89 #[Z a0 m c,Z a n j_] w λe r=>e=ZI (ZF (aM (λi=>aF g n (h i)) m))/\Below (B (z w)) w r:=by
 have j:=ae ((BS w).alloc ly (N #[Z a n j_] 43));have o:=ae (um a0 m c h (B (z w)) a n j_ g (ZU w (N #[Z a n j_] 43)) q (b.aa j ly) (by simp) hn (p.aa j ly) l);obtain⟨A,f⟩:∃A,A=aM (λi=>aF g n (h i)) m:=⟨_,rfl⟩
 rw[<-f];rw[<-f] at o;clear f p l b;go_enter func89,ntmps89;go_wp2_with fail;refine o.P ?_;rintro e w1⟨rfl,rfl⟩;go_wp2;go_ret;exact⟨rfl,j⟩
def fx (x:Source):Bool:=decide (2000<(x.H.size:Int))
def GO (nm tx:F_)(w:E):Calls Pg 91 #[ZJ #[U nm,U tx]] w λe b=>e=ZI (ZF (decide (2000<(tx.size:Int))))/\Below (B (z w)) w b:=by go_enter func91,ntmps91;go_wp2;go_ret;exact⟨rfl,br.alloc ly _⟩
def yU (b off m c:Nat)(f:Nat->Source)(w:E)(hm:(m:Int)<=1048576)(h:RowSource w b off m f):Calls Pg 127 #[Z (Q (T b off Y)) m c,.func (.func 91) #[] #[]] w λe u=>∃r:Int,e=ZI (J I r)/\decide (0<=r)=aM (λi=>fx (f i)) m/\Below (B (z w)) w u:=by
 have q:=ae h;clear h;go_enter func127,ntmps127;go_wp2;go_loopw [8] (λi wr=>∃k:Nat,k<=m/\i=J I k/\Hid (aM (λi=>fx (f i)) k=ZA)/\Below (B (z w)) w wr) (λi _=>m - (intOf i).toNat);case atStart=>exact⟨0,by omega,rfl,rfl,a8 _ _⟩
 case round =>
  obtain⟨k,hk,rfl,s,t⟩:=hrel;have g:=ae t;clear t;by_cases j:k<m
  ·obtain⟨c0,c1⟩:=(q.2 k j).aa g q.1;go_wp2_with fail;refine(GO _ _ _).P ?_;rintro e w1⟨rfl,l⟩;have o:=ae (g.k (l.P g.size));clear l;cases hb:fx (f k) with
   |true =>have n:=ae hb;have h2:decide (2000<((f k).H.size:Int))=ZH:=hb;clear hb;rw[h2];clear h2;go_wp2;go_ret;exact⟨k,rfl,by rw[cS (p:=λi=>fx (f i)) j n.i];simp,o.i⟩
   |false =>have n:=ae hb;have h2:decide (2000<((f k).H.size:Int))=ZA:=hb;clear hb;rw[h2];clear h2;go_wp2;exact⟨⟨k+1,by omega,by go_num,by show aM _ (k+1)=ZA;simp[aM,s.i,n.i],o.i⟩,by simp[intOf];omega⟩
  ·have e:k=m:=by omega
   subst e;go_wp2;go_ret;exact⟨-1,rfl,by rw[s.i];rfl,g⟩
def yV (a0:O_)(c:Nat)(w:E):Calls Pg 127 #[Z a0 0 c,.func (.func 91) #[] #[]] w λe b=>e=ZI (J I (-1))/\b=w:=by
 go_enter func127,ntmps127;go_wp2;go_loop [8] (λi=>i=J I 0) (λ_=>0);case atStart=>rfl
 case round =>subst hrel;go_wp2;go_ret;exact⟨rfl,rfl⟩
def yW (a0:O_)(m c:Nat)(f:Nat->Source)(w:E)(j:(m:Int)<=1048576)(g:Qy w a0 m f):Calls Pg 127 #[Z a0 m c,.func (.func 91) #[] #[]] w λe h=>∃r:Int,e=ZI (J I r)/\decide (0<=r)=aM (λi=>fx (f i)) m/\Below (B (z w)) w h:=by
 rcases g with rfl|⟨b,off,rfl,g⟩
 {exact(yV a0 c w).P λe h ⟨p,q⟩=>⟨-1,p,rfl,by rw[q];exact a8 _ _⟩};{exact yU b off m c f w j g}
def tG (a0:O_)(m c:Nat)(f:Nat->Source)(w:E)(n:(m:Int)<=1048576)(b:Qy w a0 m f):Calls Pg 90 #[Z a0 m c,.func (.func 91) #[] #[]] w λe o=>e=ZI (ZF (aM (λi=>fx (f i)) m))/\Below (B (z w)) w o:=by
 have l:=ae (yW a0 m c f w n b);obtain⟨A,g⟩:∃A,A=aM (λi=>fx (f i)) m:=⟨_,rfl⟩
 rw[<-g];rw[<-g] at l;clear g b;go_enter func90,ntmps90;go_wp2_with fail;refine l.P ?_;rintro e w1⟨r,rfl,h,j⟩;have q:=ae h;have p:=ae j;clear h j;go_wp2;go_ret;exact⟨bv q,p⟩
def cP (x:Target):Bool:=!valid x.q x.h
def GP (nm:F_)(a:O_)(n j_:Nat)(f:Nat->Ins)(w:E)(hn:n<=1048576)(h:SlIns w a n f)(g:Tab w):Calls Pg 93 #[ZJ #[U nm,Z a n j_]] w λe j=>e=ZI (ZF (!valid f n))/\Below (B (z w)) w j:=by have b:=ae ((BS w).alloc ly (N #[U nm,Z a n j_] 86));have m:=ae (nf a n j_ f (ZU w (N #[U nm,Z a n j_] 86)) hn (h.aa b ly) (g.aa b g.1));clear h g;go_enter func93,ntmps93;go_wp2_with fail;refine m.P ?_;rintro e w1⟨rfl,i⟩;have l:=ae (b.k (i.P (by simp)));clear i;go_wp2;go_ret;exact⟨rfl,l⟩
def yX (b off m c:Nat)(f:Nat->Target)(w:E)(hm:(m:Int)<=1048576)(j:∀i,i<m->aP (f i))(A:Tab w)(h:RowTarget w b off m f):Calls Pg 128 #[Z (Q (T b off Y)) m c,.func (.func 93) #[] #[]] w λe D=>∃r:Int,e=ZI (J I r)/\decide (0<=r)=aM (λi=>cP (f i)) m/\Below (B (z w)) w D:=by
 have u:=ae h;have ZT:=ae j;have y:=ae A;clear h j A;go_enter func128,ntmps128;go_wp2;go_loopw [8] (λi wr=>∃k:Nat,k<=m/\i=J I k/\Hid (aM (λi=>cP (f i)) k=ZA)/\Below (B (z w)) w wr) (λi _=>m - (intOf i).toNat);case atStart=>exact⟨0,by omega,rfl,rfl,a8 _ _⟩
 case round =>
  obtain⟨k,hk,rfl,x,ZX⟩:=hrel;have g:=ae ZX;clear ZX;by_cases l:k<m
  ·obtain⟨c0,ZW,C,c1,o⟩:=(u.2 k l).aa g ly u.1;have s:=ae o;clear o;go_wp2_with fail;refine(GP (f k).e ZW (f k).h C (f k).q _ (ZT k l) s (y.aa g y.1)).P ?_;rintro e w1⟨rfl,n⟩;have t:=ae (g.k (n.P g.size));clear n;cases hb:cP (f k) with
   |true =>have q:=ae hb;have h2:(!valid (f k).q (f k).h)=ZH:=hb;clear hb;rw[h2];clear h2;go_wp2;go_ret;exact⟨k,rfl,by rw[cS (p:=λi=>cP (f i)) l q.i];simp,t.i⟩
   |false =>have q:=ae hb;have h2:(!valid (f k).q (f k).h)=ZA:=hb;clear hb;rw[h2];clear h2;go_wp2;exact⟨⟨k+1,by omega,by go_num,by show aM _ (k+1)=ZA;simp[aM,x.i,q.i],t.i⟩,by simp[intOf];omega⟩
  ·have e:k=m:=by omega
   subst e;go_wp2;go_ret;exact⟨-1,rfl,by rw[x.i];rfl,g⟩
def yY (a0:O_)(c:Nat)(w:E):Calls Pg 128 #[Z a0 0 c,.func (.func 93) #[] #[]] w λe b=>e=ZI (J I (-1))/\b=w:=by
 go_enter func128,ntmps128;go_wp2;go_loop [8] (λi=>i=J I 0) (λ_=>0);case atStart=>rfl
 case round =>subst hrel;go_wp2;go_ret;exact⟨rfl,rfl⟩
def yZ (a0:O_)(m c:Nat)(f:Nat->Target)(w:E)(n:(m:Int)<=1048576)(h:∀i,i<m->aP (f i))(l:Tab w)(g:Qx w a0 m f):Calls Pg 128 #[Z a0 m c,.func (.func 93) #[] #[]] w λe j=>∃r:Int,e=ZI (J I r)/\decide (0<=r)=aM (λi=>cP (f i)) m/\Below (B (z w)) w j:=by
 rcases g with rfl|⟨b,off,rfl,g⟩
 {exact(yY a0 c w).P λe j ⟨p,q⟩=>⟨-1,p,rfl,by rw[q];exact a8 _ _⟩};{exact yX b off m c f w n h l g}
def tH (a0:O_)(m c:Nat)(f:Nat->Target)(w:E)(s:(m:Int)<=1048576)(g:∀i,i<m->aP (f i))(j:Tab w)(b:Qx w a0 m f):Calls Pg 92 #[Z a0 m c,.func (.func 93) #[] #[]] w λe t=>e=ZI (ZF (aM (λi=>cP (f i)) m))/\Below (B (z w)) w t:=by
 have n:=ae (yZ a0 m c f w s g j b);obtain⟨A,h⟩:∃A,A=aM (λi=>cP (f i)) m:=⟨_,rfl⟩
 rw[<-h];rw[<-h] at n;clear h b g j;go_enter func92,ntmps92;go_wp2_with fail;refine n.P ?_;rintro e w1⟨r,rfl,l,o⟩;have q:=ae l;have p:=ae o;clear l o;go_wp2;go_ret;exact⟨bv q,p⟩
def tI (a:O_)(j_:Nat)(w:E):Calls Pg 88 #[Z a 0 j_] w λe b=>e=ZI (ZF ZH)/\b=w:=by
 go_enter func88,ntmps88;go_wp2;go_loop [3] (λi=>i=J I 1) (λ_=>0);case atStart=>rfl
 case round =>subst hrel;go_wp2;go_ret;exact⟨rfl,rfl⟩
def mT (a:O_)(n j_:Nat)(g:B_)(w:E)(hn:(n:Int)<=1048576)(f:SlStr w a n g):Calls Pg 88 #[Z a n j_] w λe h=>e=ZI (ZF (aK g n))/\Below (B (z w)) w h:=by
 rcases f with rfl|⟨b,off,rfl,f⟩
 {exact(tI a j_ w).P λe h ⟨p,q⟩=>⟨p,by rw[q];exact a8 _ _⟩};{exact tF b off n j_ g w hn f}
abbrev nm0 (f0:Nat->Source):B_:=λi=>(f0 i).e
abbrev nm1 (f1:Nat->Target):B_:=λi=>(f1 i).e
def aR (n0:Nat)(f0:Nat->Source)(n1:Nat)(f1:Nat->Target):Int:=
 if 200<n0+n1 then 1 else if bY (nm0 f0) n0=ZA then 2 else if bY (nm1 f1) n1=ZA then 2 else if aK (nm0 f0) n0=ZA then 3 else if aK (nm1 f1) n1=ZA then 4
 else if aM (λi=>aF (nm1 f1) n1 (nm0 f0 i)) n0=ZH then 5 else if aM (λi=>fx (f0 i)) n0=ZH then 6 else if aM (λi=>cP (f1 i)) n1=ZH then 7 else 0
def mU (a0:O_)(n0 c0:Nat)(f0:Nat->Source)(a1:O_)(n1 c1:Nat)(f1:Nat->Target)(w:E)(hn0:(n0:Int)<=1048576)(hn1:(n1:Int)<=1048576)(y:Qy w a0 n0 f0)(x:Qx w a1 n1 f1)(r:∀i,i<n1->aP (f1 i))(W:Tab w):Calls Pg 59 #[ZJ #[Z a0 n0 c0,Z a1 n1 c1]] w λe w'=>e=ZI (J I (aR n0 f0 n1 f1))/\Below (B (z w)) w w':=by
 have O:=ae y;have ZP:=ae x;have HF:=ae r;have ZN:=ae W;clear y x r W;obtain⟨C,t⟩:∃C,C=aR n0 f0 n1 f1:=⟨_,rfl⟩
 rw[<-t];unfold aR at t;have j:=ae t;clear t;have A0:=ae ((BS w).alloc ly (N #[Z a0 n0 c0,Z a1 n1 c1] 29));go_enter func59,ntmps59;go_wp2_with fail;refine(yQ a0 a1 n0 c0 n1 c1 _ hn0 hn1).P ?_;rintro e s⟨rfl,b⟩;have q:ZV s (T (B (z w)) 0 Y)=Q (Z a0 n0 c0):=(b.O (p:=(T (B (z w)) 0 Y)) (by simp)).k (by simp);have o:ZV s (T (B (z w)) 1 Y)=Q (Z a1 n1 c1):=(b.O (p:=(T (B (z w)) 1 Y)) (by simp)).k (by simp);have z1:B (z w)<B (z s):=by have:=b.size;simp at this;omega
 have m:=ae (A0.k (b.P (by simp)));clear b A0;by_cases h1:(200:Int)<n0+n1;{have h:=j.i;rw[eT (by omega)] at h;subst h;go_wp2;go_ret;exact⟨rfl,m⟩};have n:=j.i;rw[eI (by omega)] at n;have H:=ae n;clear n j;go_wp2_with fail
 go_region_with (first
  |(go_at_call 85;refine(pX a0 n0 c0 a1 n1 c1 f0 _ hn0 ?_).P ?_;(first|exact O.aa m ly|exact O.aa m.drew ly);rintro e X⟨P,K,rfl,ZS,g⟩;have S2:=ae ZS;have u:Hid (Below (B (z s)) s X):=⟨g.os,g.tape,g.output,g.size,g.p⟩;have M:=ae (m.k (u.P m.size));have D:=(u.O (p:=(T (B (z w)) 0 Y)) z1).k q;have ZT:=(u.O (p:=(T (B (z w)) 1 Y)) z1).k o;have z2:B (z w)<B (z X):=lj z1 u.size;clear ZS g)
  |(go_at_call 86;refine(qb a1 n1 c1 a0 n0 c0 f1 _ hn1 ?_).P ?_;exact ZP.aa M ly;rintro e w3⟨ZQ,L,rfl,G,f⟩;have ZM:=ae G;have ZL:=ae (S2.aa f ly);have V:=ae (M.k (f.P M.size));have ZR:=(f.O (p:=(T (B (z w)) 0 Y)) z2).k D;have A:=(f.O (p:=(T (B (z w)) 1 Y)) z2).k ZT;have z3:B (z w)<B (z w3):=lj z2 f.size;clear G f))
 all_goals
  clear q o D ZT;have ZW:=V;have R:=ZL;have S:=ZM;have q:=ZR;have o:=A;have ZX:=z3;have j:=H;clear V ZL ZM ZR A z3 H
  iterate 7
   go_wp2_with fail;first
    |with_reducible refine(ng P n0 K (nm0 f0) _ hn0 R.i).P ?_
    |with_reducible refine(ng ZQ n1 L (nm1 f1) _ hn1 S.i).P ?_
    |with_reducible refine(mT P n0 K (nm0 f0) _ hn0 R.i).P ?_
    |with_reducible refine(mT ZQ n1 L (nm1 f1) _ hn1 S.i).P ?_
    |with_reducible refine(DV P n0 K (nm0 f0) ZQ n1 L (nm1 f1) _ hn0 R.i hn1 S.i ZO.i).P ?_
    |with_reducible refine(tG a0 n0 c0 f0 _ hn0 (O.i.aa ZW.i ly)).P ?_
    |refine(tH a1 n1 c1 f1 _ hn1 HF (ZN.aa ZW ZN.1) (ZP.aa ZW ly)).P ?_
   rintro e wx⟨rfl,b⟩;replace q:=(b.O (p:=(T (B (z w)) 0 Y)) ZX).k q;replace o:=(b.O (p:=(T (B (z w)) 1 Y)) ZX).k o;replace ZX:=lj ZX b.size;replace R:=ae (R.i.aa b ly);replace S:=ae (S.i.aa b ly);replace ZW:=ae (ZW.i.k (b.P ZW.i.size));clear b;have h:=j.i;clear j;split at h
   ·rename_i l
    subst h;rw[l];go_wp2;go_ret;exact⟨rfl,ZW⟩
   rename_i l;have j:=ae h
   (try have ZO:=ae (show aK (nm1 f1) n1=ZH from Bool.of_not_eq_false l))
   first|rw[Bool.of_not_eq_false l]|rw[Bool.of_not_eq_true l]
   clear h l
  have h:=j.i;subst h;go_wp2;go_ret;exact⟨rfl,ZW⟩
def gI (g:B_)(k:Nat)(t:F_):aF g (k+1) t=(aF g k t || ((g k).toList == t.toList)):=by simp[aF,PI]
def eO{k:Nat}(h:k<n)(b:((g k).toList == t.toList)=ZH):aF g n t=ZH:=by simp only[aF,TI,IH];exact⟨k,h,b⟩
def un (a0:O_)(n0 c0 b off n1 c1:Nat)(f1:Nat->Target)(t:F_)(w:E)(hn1:(n1:Int)<=1048576)(l:RowTarget w b off n1 f1):Calls Pg 28 #[ZJ #[Z a0 n0 c0,Z (Q (T b off Y)) n1 c1],U t] w λe q=>∃r:Int,e=ZI (J I r)/\decide (0<=r)=aF (nm1 f1) n1 t/\Below (B (z w)) w q:=by
 obtain⟨W,f⟩:∃W:E,ZU w (N #[Z a0 n0 c0,Z (Q (T b off Y)) n1 c1] 29)=W:=⟨_,rfl⟩
 obtain⟨m,-,-⟩:=nb1 f;have h:=ae f;clear f;have p:=ae (l.aa m ly);have k1:ZV W (T (B (z w)) 1 Y)=Q (Z (Q (T b off Y)) n1 c1):=by rw[<-h.i];simp
 clear l;go_enter WU,VR;go_wp2;rw[h.i];clear h;go_loop [5] (λi=>∃k:Nat,k<=n1/\i=J I k/\Hid (aF (nm1 f1) k t=ZA)) (λi=>n1 - (intOf i).toNat);case atStart=>exact⟨0,by omega,rfl,rfl⟩
 case round =>
  obtain⟨k,hk,rfl,o⟩:=hrel;by_cases j:k<n1
  ·obtain⟨d0,ka,kc,d1,_⟩:=p.2 k j;cases hb:((f1 k).e.toList == t.toList) with
   |true =>have n:=ae hb;go_wp2;go_ret;exact⟨k,rfl,by rw[eO (g:=nm1 f1) j n.i];simp,m.i⟩
   |false =>have n:=ae hb;go_wp2;exact⟨⟨k+1,by omega,by go_num,by show aF (nm1 f1) (k+1) t=ZA;rw[gI,o.i];exact n⟩,by simp[intOf];omega⟩
  ·have e:k=n1:=by omega
   subst e;go_wp2;go_ret;exact⟨-1,rfl,by rw[o.i];rfl,m⟩
def fy (h:a.toList=b.toList):a=b:=by rw[NM,NM] at h;exact YU (Array.toList_inj.1 h)
def Qw (h:(a.toList == b.toList)=ZH):a=b:=fy (by simpa using h)
def asc_one (l:aK g n=ZH)(hi:i<n)(m:j<n)(h1:((g i).toList == t.toList)=ZH)(h2:((g j).toList == t.toList)=ZH):i=j:=by
 have b:=Qw h1;have f:=Qw h2;rcases VO i j with h|h|h;{have:=gZ l h m;rw[b,f,gY] at this;cases this};{exact h};{have:=gZ l h hi;rw[b,f,gY] at this;cases this}
def gJ (h:aM p n=ZH):∃k,k<n/\p k=ZH:=by
 induction n with
 |zero=>simp[aM] at h
 |succ m b =>
  simp only[aM,Bool.or_eq_true] at h;rcases h with h|h;{obtain⟨k,hk,f⟩:=b h;exact⟨k,by omega,f⟩};{exact⟨m,by omega,h⟩}
def ox{k:Nat}(h:aK g n=ZH)(f:k<n)(h1:((g k).toList == t.toList)=ZH):aM (λi=>((g i).toList == t.toList) && q i) n=q k:=by
 cases e:q k with
 |true=>exact cS f (by simp[h1,e])
 |false =>
  cases e2:aM (λi=>((g i).toList == t.toList) && q i) n with
  |false=>rfl
  |true =>obtain⟨i,hi,b⟩:=gJ e2;simp only[j6] at b;obtain rfl:=asc_one h hi f b.1 h1;rw[e] at b;exact absurd b.2 (by simp)
def pa (h:aF g n t=ZH):∃k,k<n/\((g k).toList == t.toList)=ZH:=by simp only[aF,TI,IH] at h;exact h
def lN (h:aF g n t=ZA):aM (λi=>((g i).toList == t.toList) && q i) n=ZA:=by
 cases e2:aM (λi=>((g i).toList == t.toList) && q i) n with
 |false=>rfl
 |true =>obtain⟨i,hi,b⟩:=gJ e2;simp only[j6] at b;rw[eO hi b.1] at h;cases h
def nh{n0:Nat}{f0:Nat->Source}{n1:Nat}{f1:Nat->Target}(h:aR n0 f0 n1 f1=0):aK (nm0 f0) n0=ZH/\aK (nm1 f1) n1=ZH/\n0+n1<=200:=by
 unfold aR at h;split at h;· omega
 split at h;· omega
 split at h;· omega
 split at h;· omega
 split at h;· omega
 rename_i h0 _ _ f b;exact⟨by simpa using f,by simpa using b,by omega⟩
def slS{a:O_}{f:Nat->Source}(h:Qy w a n f)(hn:n≠0):∃b off,a=Q (T b off Y)/\RowSource w b off n f:=h.resolve_left hn
def slT{a:O_}{f:Nat->Target}(h:Qx w a n f)(hn:n≠0):∃b off,a=Q (T b off Y)/\RowTarget w b off n f:=h.resolve_left hn
def bx2{W b:E}{u v:Value}(ZX:B (z w)<B (z W))(g:ZV W (T (B (z w)) 0 Y)=Q u)(h:ZV W (T (B (z w)) 1 Y)=Q v)(A:Hid (Below (B (z w)) w W))(f:Below (B (z W)) W b):ZV b (T (B (z w)) 0 Y)=Q u/\ZV b (T (B (z w)) 1 Y)=Q v/\(B (z w))<B (z b)/\Hid (Below (B (z w)) w b):=
 ⟨(f.O (p:=(T (B (z w)) 0 Y)) ZX).k g,(f.O (p:=(T (B (z w)) 1 Y)) ZX).k h,lj ZX f.size,A.k (f.P A.size)⟩
def uo (a0:O_)(n0 c0:Nat)(a1:O_)(c1:Nat)(g:B_)(t:F_)(w:E):Calls Pg 28 #[ZJ #[Z a0 n0 c0,Z a1 0 c1],U t] w λe f=>∃r:Int,e=ZI (J I r)/\decide (0<=r)=aF g 0 t/\Below (B (z w)) w f:=by
 have b:=ae ((BS w).alloc ly (N #[Z a0 n0 c0,Z a1 0 c1] 29));go_enter WU,VR;go_wp2;go_loop [5] (λi=>i=J I 0) (λ_=>0);case atStart=>rfl
 case round =>subst hrel;go_wp2;go_ret;exact⟨-1,rfl,by rw[iS];rfl,b⟩
def ni (a0:O_)(n0 c0:Nat)(a1:O_)(n1 c1:Nat)(f1:Nat->Target)(t:F_)(w:E)(hn1:(n1:Int)<=1048576)(f:Qx w a1 n1 f1):Calls Pg 28 #[ZJ #[Z a0 n0 c0,Z a1 n1 c1],U t] w λe h=>∃r:Int,e=ZI (J I r)/\decide (0<=r)=aF (nm1 f1) n1 t/\Below (B (z w)) w h:=by
 rcases f with rfl|⟨b,off,rfl,g⟩
 {exact uo a0 n0 c0 a1 c1 (nm1 f1) t w};{exact un a0 n0 c0 b off n1 c1 f1 t w hn1 g}
def eK (a0:O_)(n0 c0:Nat)(f0:Nat->Source)(a1:O_)(n1 c1:Nat)(f1:Nat->Target)(w:E)(hn0:(n0:Int)<=1048576)(hn1:(n1:Int)<=1048576)(n9:Qy w a0 n0 f0)(n8:Qx w a1 n1 f1)(ex:∀i,i<n1->aP (f1 i))(hs:∀i,i<n1->∀j,j<(f1 i).h->((f1 i).q j).s.size<=maxLen):Calls Pg 25 #[ZJ #[Z a0 n0 c0,Z a1 n1 c1]] w λe w'=>e=ZI (J I (aR n0 f0 n1 f1))/\Below (B (z w)) w w':=by
 have V0:=ae n9;have S:=ae n8;have HF:=ae ex;have HS:=ae hs;clear n9 n8 ex hs;obtain⟨C,hC⟩:∃C,C=aR n0 f0 n1 f1:=⟨_,rfl⟩
 rw[<-hC];unfold aR at hC;have HC:=ae hC;clear hC;have A0:=ae ((BS w).alloc ly (N #[Z a0 n0 c0,Z a1 n1 c1] 29));have L:ZV (ZU w (N #[Z a0 n0 c0,Z a1 n1 c1] 29)) (T (B (z w)) 0 Y)=Q (Z a0 n0 c0):=by simp
 have ZQ:ZV (ZU w (N #[Z a0 n0 c0,Z a1 n1 c1] 29)) (T (B (z w)) 1 Y)=Q (Z a1 n1 c1):=by simp
 have z0:B (z w)<B (z (ZU w (N #[Z a0 n0 c0,Z a1 n1 c1] 29))):=by simp
 go_enter func25,ntmps25;by_cases h1:(200:Int)<n0+n1;{have f:=HC.i;rw[eT (by omega)] at f;subst f;go_wp2;go_ret;exact⟨rfl,A0⟩};have V:=HC.i;rw[eI (by omega)] at V;have aq:=ae V;clear V HC;go_wp2;generalize World.alloc w _=W0 at A0 L ZQ z0 ⊢;go_loopw [5] (λi wr=>∃k:Nat,k<=n0/\i=J I k/\Hid (bY (nm0 f0) k=ZH)/\Below (B (z W0)) W0 wr) (λi _=>n0 - (intOf i).toNat);case atStart=>exact⟨0,by omega,rfl,rfl,a8 _ _⟩
 case round =>
  obtain⟨k,R,rfl,o,n⟩:=hrel;obtain⟨ZS,K,z1,ZP⟩:=bx2 z0 L ZQ A0 n;have p:=ae n;clear n;by_cases h:k<n0
  ·obtain⟨b,off,rfl,l⟩:=slS V0 (by omega);obtain⟨x,y⟩:=(l.2 k h).aa ZP l.1;clear l L ZQ;go_wp2_with fail;refine(dl _ _).P ?_;rintro e w1⟨rfl,q⟩;have u:=ae (p.k (q.P p.size));clear q;cases m:aA (f0 k).e with
   |true =>have t:=ae m;clear m;go_wp2;exact⟨⟨k+1,by omega,by go_num,by show bY (nm0 f0) (k+1)=ZH;simp[bY,o.i,t.i],u.i⟩,by simp[intOf];omega⟩
   |false =>have t:=ae m;have f:=aq.i;rw[eT (jc (g:=(nm0 f0)) h t.i)] at f;subst f;clear m;go_wp2;go_ret;exact⟨rfl,A0.k (u.P A0.size)⟩
  ·have e:n0=k:=by omega
   subst e;have f:=aq.i;rw[eI (by simp[o.i])] at f;have bt:=ae f;clear f aq o p L ZQ;go_wp2;generalize wr=W1 at ZS K z1 ZP ⊢;go_loopw [6] (λi wr=>∃k:Nat,k<=n1/\i=J I k/\Hid (bY (nm1 f1) k=ZH)/\Below (B (z W1)) W1 wr) (λi _=>n1 - (intOf i).toNat);case atStart=>exact⟨0,by omega,rfl,rfl,a8 _ _⟩
   case round =>
    obtain⟨k,R,rfl,o,n⟩:=hrel;obtain⟨H,ZR,z2,ZN⟩:=bx2 z1 ZS K ZP n;have p:=ae n;clear n;by_cases h:k<n1
    ·obtain⟨b,off,rfl,l⟩:=slT S (by omega);obtain⟨x,ka,kc,y,_⟩:=(l.2 k h).aa ZN ly l.1;clear l ZS K;go_wp2_with fail;refine(dl _ _).P ?_;rintro e w1⟨rfl,q⟩;have u:=ae (p.k (q.P p.size));clear q;cases m:aA (f1 k).e with
     |true =>have t:=ae m;clear m;go_wp2;exact⟨⟨k+1,by omega,by go_num,by show bY (nm1 f1) (k+1)=ZH;simp[bY,o.i,t.i],u.i⟩,by simp[intOf];omega⟩
     |false =>have t:=ae m;have f:=bt.i;rw[eT (jc (g:=(nm1 f1)) h t.i)] at f;subst f;clear m;go_wp2;go_ret;exact⟨rfl,ZP.k (u.P ZP.size)⟩
    ·have e:n1=k:=by omega
     subst e;have f:=bt.i;rw[eI (by simp[o.i])] at f;have mv:=ae f;clear f bt o p ZS K;go_wp2;generalize wr=W2 at H ZR z2 ZN ⊢;go_loopw [7] (λi wr=>∃k:Nat,(k+1<=n0\/k=0)/\i=J I ((k:Int)+1)/\Hid (aK (nm0 f0) (k+1)=ZH)/\Below (B (z W2)) W2 wr) (λi _=>n0+1 - (intOf i).toNat);case atStart=>exact⟨0,.inr rfl,rfl,rfl,a8 _ _⟩
     case round =>
      obtain⟨k,R,rfl,o,n⟩:=hrel;obtain⟨O,G,z3,P⟩:=bx2 z2 H ZR ZN n;have p:=ae n;clear n;by_cases h:k+1<n0
      ·obtain⟨b,off,rfl,l⟩:=slS V0 (by omega);obtain⟨x,y⟩:=(l.2 k (by omega)).aa P l.1;obtain⟨e0,e1⟩:=(l.2 (k+1) h).aa P l.1;have ph:(k:Int)+1<n0:=by omega
       clear l H ZR;go_wp2_with fail;go_quiet (fail);have u:=ae (AD p nq);clear x y e0 e1;generalize wr.drewN nq=X at u ⊢;cases m:Op.bytesLess (f0 k).e.toList (f0 (k+1)).e.toList with
       |true =>have t:=ae m;clear m;go_wp2;exact⟨⟨k+1,.inl (by omega),by go_num,by show aK (nm0 f0) (k+2)=ZH;simp[aK,o.i,t.i],u.i⟩,by simp[intOf];omega⟩
       |false =>have t:=ae m;have f:=mv.i;rw[eT (kG (g:=(nm0 f0)) h t.i)] at f;subst f;clear m;go_wp2;go_ret;exact⟨rfl,ZN.k (u.P ZN.size)⟩
      ·have ro:¬ (k:Int)+1<n0:=by omega
       have f:=mv.i;rw[eI (by simp[fR (show n0<=k+1 by omega) o.i])] at f;have fd:=ae f;clear f mv o p H ZR;go_wp2;generalize wr=W3 at O G z3 P ⊢;go_loopw [8] (λi wr=>∃k:Nat,(k+1<=n1\/k=0)/\i=J I ((k:Int)+1)/\Hid (aK (nm1 f1) (k+1)=ZH)/\Below (B (z W3)) W3 wr) (λi _=>n1+1 - (intOf i).toNat);case atStart=>exact⟨0,.inr rfl,rfl,rfl,a8 _ _⟩
       case round =>
        obtain⟨k,R,rfl,o,n⟩:=hrel;obtain⟨ZW,D,z4,ZO⟩:=bx2 z3 O G P n;have p:=ae n;clear n;by_cases h:k+1<n1
        ·obtain⟨b,off,rfl,l⟩:=slT S (by omega);obtain⟨x,ka,kc,y,_⟩:=(l.2 k (by omega)).aa ZO ly l.1;obtain⟨e0,kb,kd,e1,_⟩:=(l.2 (k+1) h).aa ZO ly l.1;have ph:(k:Int)+1<n1:=by omega
         clear l O G;go_wp2_with fail;go_quiet (fail);have u:=ae (AD p nq);clear x y e0 e1;generalize wr.drewN nq=X at u ⊢;cases m:Op.bytesLess (f1 k).e.toList (f1 (k+1)).e.toList with
         |true =>have t:=ae m;clear m;go_wp2;exact⟨⟨k+1,.inl (by omega),by go_num,by show aK (nm1 f1) (k+2)=ZH;simp[aK,o.i,t.i],u.i⟩,by simp[intOf];omega⟩
         |false =>have t:=ae m;have f:=fd.i;rw[eT (kG (g:=(nm1 f1)) h t.i)] at f;subst f;clear m;go_wp2;go_ret;exact⟨rfl,P.k (u.P P.size)⟩
        ·have ro:¬ (k:Int)+1<n1:=by omega
         have f:=fd.i;rw[eI (by simp[fR (show n1<=k+1 by omega) o.i])] at f;have la:=ae f;clear f fd o p O G;go_wp2;generalize wr=W4 at ZW D z4 ZO ⊢;go_loopw [9] (λi wr=>∃k:Nat,k<=n0/\i=J I k/\Hid (aM (λi=>aF (nm1 f1) n1 (nm0 f0 i)) k=ZA)/\Below (B (z W4)) W4 wr) (λi _=>n0 - (intOf i).toNat);case atStart=>exact⟨0,by omega,rfl,rfl,a8 _ _⟩
         case round =>
          obtain⟨k,R,rfl,o,n⟩:=hrel;obtain⟨A,M,z5,ZX⟩:=bx2 z4 ZW D ZO n;have p:=ae n;clear n;by_cases h:k<n0
          ·obtain⟨b,off,rfl,l⟩:=slS V0 (by omega);obtain⟨x,y⟩:=(l.2 k h).aa ZX l.1;clear l ZW D;go_wp2_with fail;go_region_with (go_at_call 28;refine(ni (Q (T b off Y)) n0 c0 a1 n1 c1 f1 (f0 k).e _ hn1 ?_).P ?_;(first|exact S.aa ZX ly|exact S.aa ZX.drew ly);rintro e w1⟨r,rfl,hd,q⟩;have HD:=ae hd;clear hd;have u:Hid (Below (B (z wr)) wr w1):=⟨q.os,q.tape,q.output,q.size,q.p⟩;clear q);all_goals
            have B2:=ae (p.k (u.P p.size));clear x y u;by_cases m:0<=r
            ·have f:=la.i
             rw[eT (cS h (by have:=HD.i;rw[QD m] at this;exact this.c))] at f;subst f;go_wp2;go_ret;exact⟨rfl,ZO.k (B2.P ZO.size)⟩
            ·have t:=ae m
             go_wp2;exact⟨⟨k+1,by omega,by go_num,by show aM _ (k+1)=ZA;have:=HD.i;rw[U8 t.i] at this;simp[aM,o.i,<-this],B2.i⟩,by simp[intOf];omega⟩
          ·have e:n0=k:=by omega
           subst e;have f:=la.i;rw[eI (by simp[o.i])] at f;have W:=ae f;clear f la o p ZW D;go_wp2;generalize wr=W5 at A M z5 ZX ⊢;go_loopw [10] (λi wr=>∃k:Nat,k<=n0/\i=J I k/\Hid (aM (λi=>fx (f0 i)) k=ZA)/\Below (B (z W5)) W5 wr) (λi _=>n0 - (intOf i).toNat);case atStart=>exact⟨0,by omega,rfl,rfl,a8 _ _⟩
           case round =>
            obtain⟨k,R,rfl,o,n⟩:=hrel;obtain⟨ZL,ld,z6,ZM⟩:=bx2 z5 A M ZX n;have p:=ae n;clear n;by_cases h:k<n0;{obtain⟨b,off,rfl,l⟩:=slS V0 (by omega);obtain⟨x,y⟩:=(l.2 k h).aa ZM l.1;clear l A M;by_cases m:(2000:Int)<(f0 k).H.size;{have f:=W.i;rw[eT (cS h (by simpa[fx] using m))] at f;subst f;go_wp2;go_ret;exact⟨rfl,ZX.k (p.P ZX.size)⟩};{have t:Hid (fx (f0 k)=ZA):=U8 m;go_wp2;exact⟨⟨k+1,by omega,by go_num,by show aM _ (k+1)=ZA;simp[aM,o.i,t.i],p.i⟩,by simp[intOf];omega⟩}}
            ·have e:n0=k:=by omega
             subst e;have f:=W.i;rw[eI (by simp[o.i])] at f;have qr:=ae f;clear f W o p A M;go_wp2;generalize wr=W6 at ZL ld z6 ZM ⊢;go_loopw [11,4] (λi v wr=>∃(k:Nat) (r:Int),k<=n1/\i=J I k/\v=J I r/\Hid (r=if aM (λi=>cP (f1 i)) k=ZH then 7 else 0)/\Below (B (z W6)) W6 wr) (λi _ _=>n1 - (intOf i).toNat);case atStart=>exact⟨0,0,by omega,rfl,rfl,rfl,a8 _ _⟩
             case round =>
              obtain⟨k,r,R,rfl,rfl,o,n⟩:=hrel;obtain⟨k70,k71,z7,A7⟩:=bx2 z6 ZL ld ZM n;have p:=ae n;clear n;by_cases h:k<n1
              ·obtain⟨b,off,rfl,l⟩:=slT S (by omega);obtain⟨x,ka,kc,y,hx⟩:=(l.2 k h).aa A7 ly l.1;have HX:=ae hx;clear l hx ZL ld;go_wp2_with fail;refine(jD ka (f1 k).h kc (f1 k).q _ (HF k h) HX (HS k h)).P ?_;rintro e w1⟨rfl,q⟩;have u:=ae (p.k (q.P p.size));clear q x y;cases m:valid (f1 k).q (f1 k).h with
               |true =>
                have t:=ae m;clear m;have ZT:Hid (aM (λi=>cP (f1 i)) (k+1)=aM (λi=>cP (f1 i)) k):=by show(aM _ k || cP (f1 k))=_;rw[show cP (f1 k)=ZA by unfold cP;rw[t.i];rfl,Bool.or_false]
                go_wp2;exact⟨⟨k+1,r,by omega,by go_num,rfl,by show r=_;rw[ZT.i];exact o,u⟩,by simp[intOf];omega⟩
               |false =>
                have t:=ae m;clear m;have ZT:Hid (aM (λi=>cP (f1 i)) (k+1)=ZH):=by show(aM _ k || cP (f1 k))=_;rw[show cP (f1 k)=ZH by unfold cP;rw[t.i];rfl,Bool.or_true]
                go_wp2;exact⟨⟨k+1,7,by omega,by go_num,rfl,by show(7:Int)=_;rw[eT ZT.i],u.i⟩,by simp[intOf];omega⟩
              ·have e:n1=k:=by omega
               subst e;have f:=qr.i;rw[<-o.i] at f;subst f;go_wp2;go_ret;exact⟨rfl,ZM.k (p.P ZM.size)⟩
def hZ (n0:Nat)(f0:Nat->Source)(n1:Nat)(f1:Nat->Target)(t:F_):Bool:=aF (nm0 f0) n0 t || aF (nm1 f1) n1 t
def jd (n0:Nat)(f0:Nat->Source)(t x:F_):Bool:=aM (λi=>((nm0 f0 i).toList == t.toList) && ((f0 i).H.toList == x.toList)) n0
def iB (n1:Nat)(f1:Nat->Target)(t:F_)(n:Nat)(f:Nat->Ins):Bool:=aM (λi=>((nm1 f1 i).toList == t.toList) && cD (f1 i).q f (f1 i).h n) n1
def gD (n0:Nat)(f0:Nat->Source)(n1:Nat)(f1:Nat->Target)(d:au):Bool:=
 if d.L=1 then !jd n0 f0 d.e d.H else if d.L=3 then !iB n1 f1 d.e d.h d.q else hZ n0 f0 n1 f1 d.e
def dY (n0:Nat)(f0:Nat->Source)(n1:Nat)(f1:Nat->Target)(l:Link):Bool:=!l.ask && !(l.has == hZ n0 f0 n1 f1 l.e)
def hasB (n0:Nat)(f0:Nat->Source)(n1:Nat)(f1:Nat->Target)(d:au):Bool:=aM (λk=>dY n0 f0 n1 f1 (d.m k)) d.f
def PlaceOf (g:B_)(n:Nat)(t:F_)(r:Int):Prop:=(r=-1/\aF g n t=ZA)\/∃k:Nat,r=k/\k<n/\((g k).toList == t.toList)=ZH
def PlaceOf.has{r:Int}(h:PlaceOf g n t r):aF g n t=decide (0<=r):=by
 rcases h with⟨rfl,h⟩|⟨k,rfl,b,h⟩
 {rw[h];rfl};{rw[eO b h];simp}
def rm (a0:O_)(n0 c0 b off n1 c1:Nat)(f1:Nat->Target)(t:F_)(w:E)(hn1:(n1:Int)<=1048576)(j:RowTarget w b off n1 f1):Calls Pg 28 #[ZJ #[Z a0 n0 c0,Z (Q (T b off Y)) n1 c1],U t] w λe p=>∃r:Int,e=ZI (J I r)/\PlaceOf (nm1 f1) n1 t r/\Below (B (z w)) w p:=by
 obtain⟨W,f⟩:∃W:E,ZU w (N #[Z a0 n0 c0,Z (Q (T b off Y)) n1 c1] 29)=W:=⟨_,rfl⟩
 obtain⟨l,-,-⟩:=nb1 f;have g:=ae f;clear f;have o:=ae (j.aa l.i ly);have k1:ZV W (T (B (z w)) 1 Y)=Q (Z (Q (T b off Y)) n1 c1):=by rw[<-g.i];simp
 clear j;go_enter WU,VR;go_wp2;rw[g.i];clear g;go_loop [5] (λi=>∃k:Nat,k<=n1/\i=J I k/\Hid (aF (nm1 f1) k t=ZA)) (λi=>n1 - (intOf i).toNat);case atStart=>exact⟨0,by omega,rfl,rfl⟩
 case round =>
  obtain⟨k,hk,rfl,n⟩:=hrel;by_cases h:k<n1
  ·obtain⟨d0,ka,kc,d1,_⟩:=o.i.2 k h;cases hb:((f1 k).e.toList == t.toList) with
   |true =>have m:=ae hb;go_wp2;go_ret;exact⟨k,rfl,.inr ⟨k,rfl,h,m.i⟩,l.i⟩
   |false =>have m:=ae hb;go_wp2;exact⟨⟨k+1,by omega,by go_num,by show aF (nm1 f1) (k+1) t=ZA;rw[gI,n.i];exact m.i⟩,by simp[intOf];omega⟩
  ·have e:k=n1:=by omega
   subst e;go_wp2;go_ret;exact⟨-1,rfl,.inl ⟨rfl,n.i⟩,l.i⟩
def rp (a0:O_)(n0 c0:Nat)(a1:O_)(c1:Nat)(g:B_)(t:F_)(w:E):Calls Pg 28 #[ZJ #[Z a0 n0 c0,Z a1 0 c1],U t] w λe f=>∃r:Int,e=ZI (J I r)/\PlaceOf g 0 t r/\Below (B (z w)) w f:=by
 have b:=ae ((BS w).alloc ly (N #[Z a0 n0 c0,Z a1 0 c1] 29));go_enter WU,VR;go_wp2;go_loop [5] (λi=>i=J I 0) (λ_=>0);case atStart=>rfl
 case round =>subst hrel;go_wp2;go_ret;exact⟨-1,rfl,.inl ⟨rfl,iS _ _⟩,b.i⟩
def kV (a0:O_)(n0 c0:Nat)(a1:O_)(n1 c1:Nat)(f1:Nat->Target)(t:F_)(w:E)(hn1:(n1:Int)<=1048576)(f:Qx w a1 n1 f1):Calls Pg 28 #[ZJ #[Z a0 n0 c0,Z a1 n1 c1],U t] w λe h=>∃r:Int,e=ZI (J I r)/\PlaceOf (nm1 f1) n1 t r/\Below (B (z w)) w h:=by
 rcases f with rfl|⟨b,off,rfl,g⟩
 {exact rp a0 n0 c0 a1 c1 (nm1 f1) t w};{exact rm a0 n0 c0 b off n1 c1 f1 t w hn1 g}
def rq (b off n0 c0:Nat)(a1:O_)(n1 c1:Nat)(f0:Nat->Source)(t:F_)(w:E)(hn0:(n0:Int)<=1048576)(j:RowSource w b off n0 f0):Calls Pg 27 #[ZJ #[Z (Q (T b off Y)) n0 c0,Z a1 n1 c1],U t] w λe p=>∃r:Int,e=ZI (J I r)/\PlaceOf (nm0 f0) n0 t r/\Below (B (z w)) w p:=by
 obtain⟨W,f⟩:∃W:E,ZU w (N #[Z (Q (T b off Y)) n0 c0,Z a1 n1 c1] 29)=W:=⟨_,rfl⟩
 obtain⟨l,-,-⟩:=nb1 f;have g:=ae f;clear f;have o:=ae (j.aa l.i ly);have k0:ZV W (T (B (z w)) 0 Y)=Q (Z (Q (T b off Y)) n0 c0):=by rw[<-g.i];simp
 clear j;go_enter WV,VT;go_wp2;rw[g.i];clear g;go_loop [5] (λi=>∃k:Nat,k<=n0/\i=J I k/\Hid (aF (nm0 f0) k t=ZA)) (λi=>n0 - (intOf i).toNat);case atStart=>exact⟨0,by omega,rfl,rfl⟩
 case round =>
  obtain⟨k,hk,rfl,n⟩:=hrel;by_cases h:k<n0
  ·obtain⟨d0,d1⟩:=o.i.2 k h;cases hb:((f0 k).e.toList == t.toList) with
   |true =>have m:=ae hb;go_wp2;go_ret;exact⟨k,rfl,.inr ⟨k,rfl,h,m.i⟩,l.i⟩
   |false =>have m:=ae hb;go_wp2;exact⟨⟨k+1,by omega,by go_num,by show aF (nm0 f0) (k+1) t=ZA;rw[gI,n.i];exact m.i⟩,by simp[intOf];omega⟩
  ·have e:k=n0:=by omega
   subst e;go_wp2;go_ret;exact⟨-1,rfl,.inl ⟨rfl,n.i⟩,l.i⟩
def ru (a0:O_)(c0:Nat)(a1:O_)(n1 c1:Nat)(g:B_)(t:F_)(w:E):Calls Pg 27 #[ZJ #[Z a0 0 c0,Z a1 n1 c1],U t] w λe f=>∃r:Int,e=ZI (J I r)/\PlaceOf g 0 t r/\Below (B (z w)) w f:=by
 have b:=ae ((BS w).alloc ly (N #[Z a0 0 c0,Z a1 n1 c1] 29));go_enter WV,VT;go_wp2;go_loop [5] (λi=>i=J I 0) (λ_=>0);case atStart=>rfl
 case round =>subst hrel;go_wp2;go_ret;exact⟨-1,rfl,.inl ⟨rfl,iS _ _⟩,b.i⟩
def kW (a0:O_)(n0 c0:Nat)(a1:O_)(n1 c1:Nat)(f0:Nat->Source)(t:F_)(w:E)(hn0:(n0:Int)<=1048576)(f:Qy w a0 n0 f0):Calls Pg 27 #[ZJ #[Z a0 n0 c0,Z a1 n1 c1],U t] w λe h=>∃r:Int,e=ZI (J I r)/\PlaceOf (nm0 f0) n0 t r/\Below (B (z w)) w h:=by
 rcases f with rfl|⟨b,off,rfl,g⟩
 {exact ru a0 c0 a1 n1 c1 (nm0 f0) t w};{exact rq b off n0 c0 a1 n1 c1 f0 t w hn0 g}
