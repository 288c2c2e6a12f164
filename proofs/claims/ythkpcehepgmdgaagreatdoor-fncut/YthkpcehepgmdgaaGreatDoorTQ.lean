import Derived.Test.YthkpcehepgmdgaaGreatDoorTM
import Derived.Sort.Walk0
set_option maxRecDepth 100000
set_option maxHeartbeats 16000000
set_option linter.unusedSimpArgs false
open Go renaming Addr.mk->Q,Value.slice->Z,Value.string->U,Value.int->J,Value.bool->ZC,Value.agg->ZH,Obj.cells->N,IntKind.i64->I,World->G,Ending.returned->ZG,World.alloc->ZT,World.cell?->ZU,Proofs.Tryz.prog->Pg
open Option renaming none->Y,some->T
open Bool renaming false->ZB,true->ZF
namespace Go.Proofs.YthkpcehepgmdgaaGreatDoor.Vp
open Tryz RowKit Go.Sort
variable {n i j:Nat}{g:Nat->ByteArray}{t a b:ByteArray}{w:G}{p q:Nat->Bool}
abbrev aX (a b:ByteArray):Bool:=Op.bytesLess a.toList b.toList
theorem fM{c:ByteArray}(h1:aX a b=ZF)(h2:aX b c=ZF):aX a c=ZF:=by simp only[aX,bytesLess_eq,nX] at *;exact List.lt_trans h1 h2
theorem gK (a:ByteArray):aX a a=ZB:=by simp only[aX,bytesLess_eq,LG];exact List.lt_irrefl _
theorem jm (h:aJ g n=ZF)(hij:i<j)(hj:j<n):aX (g i) (g j)=ZF:=by
 induction j with
 |zero=>omega
 |succ m b =>
  have h2:=gJ (show m+2<=n by omega) h;simp only[aJ,j5] at h2;by_cases e:i=m;{subst e;exact h2.2};{exact fM (b (by omega) (by omega)) h2.2}
def aG (g:Nat->ByteArray)(n:Nat)(t:ByteArray):Bool:=(List.range n).any λi=>(g i).toList == t.toList
theorem mZ (p:aJ g n=ZF)(hi:i<=n)(h1:∀m,m<i->aX (g m) t=ZF)(h2:∀m,i<=m->m<n->aX (g m) t=ZB):aG g n t=(decide (i<n) && ((g i).toList == t.toList)):=by
 by_cases h:i<n
 ·simp only[h,decide_true,MI];cases e:(g i).toList == t.toList with
  |true =>simp only[aG,SH,KT];exact⟨i,h,e⟩
  |false =>
   simp only[aG,List.any_eq_false,KT];intro m l j;have f:(g m).toList=t.toList:=by simpa using j
   rcases RH m i with c|c|c;{have:=h1 m c;simp only[aX,f] at this;have b:=gK t;simp only[aX] at b;rw[b] at this;cases this};{subst c;rw[j] at e;cases e};{have b:=jm p c l;simp only[aX,f] at b;have o:=h2 i ly h;simp only[aX] at o;rw[b] at o;cases o}
 ·have e:i=n:=by omega
  subst e;simp only[Nat.lt_irrefl,decide_false,UD];simp only[aG,List.any_eq_false,KT];intro m l j;have f:(g m).toList=t.toList:=by simpa using j
  have:=h1 m l;simp only[aX,f] at this;have b:=gK t;simp only[aX] at b;rw[b] at this;cases this
theorem GY (x:ByteArray)(w:G):Calls Pg 152 #[U x] w λe b=>e=ZG (ZC ZB)/\b=w:=by go_enter func152,ntmps152;go_wp2;go_ret;exact⟨by simp,rfl⟩
theorem Ha (x:ByteArray)(w:G):Calls Pg 145 #[U x] w λe b=>e=ZG (ZC ZB)/\b=w:=by go_enter func145,ntmps145;go_wp2;go_ret;exact⟨by simp,rfl⟩
theorem Eh (x y:ByteArray)(w:G):Calls Pg 144 #[U x,U y] w λe b=>e=ZG (ZC (aX x y))/\b=w:=by
 go_enter func144,ntmps144;go_wp2_with (go_at_call 152;refine(GY _ _).mono ?_;rintro e w1 ⟨rfl,rfl⟩);all_goals
  go_ret;exact⟨by simp,rfl⟩
theorem xA (b off n cap:Nat)(g:Nat->ByteArray)(t:ByteArray)(w:G)(hn:(n:Int)<=1048576)(H:RowStr w b off n g)(E:aJ g n=ZF):Calls Pg 126 #[Z (T (Q b off Y)) n cap,U t] w λe K=>∃i:Int,e=ZG (.tuple #[J I i,ZC (aG g n t)])/\K=w:=by
 have D:=ae H;have u:=ae E;clear H E;obtain⟨ZQ,o⟩:∃ZQ,ZQ=aG g n t:=⟨_,rfl⟩
 rw[<-o];have B:=ae o;clear o;go_enter func126,ntmps126;go_wp2;go_loop [7,8] (λi j=>∃p q:Nat,p<=q/\q<=n/\i=J I p/\j=J I q/\Hid (∀m,m<p->aX (g m) t=ZF)/\Hid (∀m,q<=m->m<n->aX (g m) t=ZB)) (λi j=>(intOf j).toNat - (intOf i).toNat);case atStart=>exact⟨0,n,by omega,by omega,rfl,rfl,λm r=>absurd r (IT _),λm h1 h2=>by omega⟩
 case round =>
  obtain⟨p,q,hpq,ZP,rfl,rfl,y,ZS⟩:=hrel;by_cases hlt:p<q
  ·obtain⟨m,r⟩:∃m:Nat,m=(p+q) / 2:=⟨_,rfl⟩
   have C:p<=m:=by omega
   have hm2:m<q:=by omega
   have c0:=D.2 m (by omega);have hsh:((p:Int)+q) / 2=m:=by omega
   clear r;cases hb:aX (g m) t with
   |true =>
    have h:=ae hb;clear hb;go_wp2_with (go_at_call 144;refine(Eh _ _ _).mono ?_;rintro e z ⟨rfl,rfl⟩;rw[h.out]);refine⟨⟨m+1,q,by omega,ZP,by go_num,rfl,λx A=>?_,ZS⟩,by simp[intOf];omega⟩;by_cases e:x=m;{subst e;exact h};{exact fM (jm u (show x<m by omega) (by omega)) h}
   |false =>
    have h:=ae hb;clear hb;go_wp2_with (go_at_call 144;refine(Eh _ _ _).mono ?_;rintro e z ⟨rfl,rfl⟩;rw[h.out]);refine⟨⟨p,m,C,by omega,rfl,rfl,y,λx h1 h2=>?_⟩,by simp[intOf];omega⟩;by_cases e:x=m;{subst e;exact h}
    ·cases A:aX (g x) t with
     |false=>rfl
     |true =>have:=fM (jm u (show m<x by omega) h2) A;rw[h.out] at this;cases this
  ·have e:p=q:=by omega
   subst e;have s:=ae (B.trans (mZ u ZP y ZS));by_cases l:p<n
   ·have c0:=D.2 p l;cases hb:((g p).toList == t.toList) with
    |true =>
     have f:ZQ=ZF:=by rw[s.out,hb];simp[l]
     subst f;go_wp2;refine bp (v:=.tuple #[J I p,ZC ZF]) (by simp[results,TS,go_sem]) rfl (by first|exact⟨⟨_,rfl⟩,rfl⟩|exact⟨_,rfl,rfl⟩)
    |false =>
     have f:ZQ=ZB:=by rw[s.out,hb];simp
     subst f;go_wp2_with (go_at_call 145;refine(Ha _ _).mono ?_;rintro e z ⟨rfl,rfl⟩);all_goals
      refine bp (v:=.tuple #[J I p,ZC ZB]) (by simp[results,TS,go_sem]) rfl (by first|exact⟨⟨_,rfl⟩,rfl⟩|exact⟨_,rfl,rfl⟩)
   ·have f:ZQ=ZB:=by rw[s.out];simp[l]
    subst f;go_wp2;refine bp (v:=.tuple #[J I p,ZC ZB]) (by simp[results,TS,go_sem]) rfl (by first|exact⟨⟨_,rfl⟩,rfl⟩|exact⟨_,rfl,rfl⟩)
theorem xB (a:Option Addr)(cap:Nat)(t:ByteArray)(w:G):Calls Pg 126 #[Z a 0 cap,U t] w λe b=>∃i:Int,e=ZG (.tuple #[J I i,ZC ZB])/\b=w:=by
 go_enter func126,ntmps126;go_wp2;go_loop [7,8] (λi j=>i=J I 0/\j=J I 0) (λ_ _=>0);case atStart=>exact⟨rfl,rfl⟩
 case round =>obtain⟨rfl,rfl⟩:=hrel;go_wp2;refine bp (v:=.tuple #[J I 0,ZC ZB]) (by simp[results,TS,go_sem]) rfl (by first|exact⟨⟨_,rfl⟩,rfl⟩|exact⟨_,rfl,rfl⟩)
theorem iz (g:Nat->ByteArray)(t:ByteArray):aG g 0 t=ZB:=rfl
theorem xC (a:Option Addr)(n cap:Nat)(g:Nat->ByteArray)(t:ByteArray)(w:G)(hn:(n:Int)<=1048576)(f:SlStr w a n g)(h:aJ g n=ZF):Calls Pg 126 #[Z a n cap,U t] w λe j=>∃i:Int,e=ZG (.tuple #[J I i,ZC (aG g n t)])/\j=w:=by
 rcases f with rfl|⟨b,off,rfl,f⟩
 {exact xB a cap t w};{exact xA b off n cap g t w hn f h}
theorem qR (s:ByteArray)(bx:Nat)(a:Option Addr)(n cap:Nat)(g:Nat->ByteArray)(w:G)(hc:ZU w (Q bx 0 Y)=T (Z a n cap))(hn:(n:Int)<=1048576)(b:SlStr w a n g)(f:aJ g n=ZF):Calls Pg 125 #[U s,.pointer (T (Q bx 0 Y))] w λe l=>e=ZG (ZC (aG g n s))/\l=w:=by have h:=ae b;have j:=ae f;clear b f;go_enter func125,ntmps125;go_wp2_with fail;refine(xC a n cap g s _ hn h j).mono ?_;rintro e w1 ⟨i,rfl,rfl⟩;go_wp2;go_ret;exact⟨rfl,rfl⟩
def aI (p:Nat->Bool):Nat->Bool
 |0=>ZB
 |k+1=>aI p k || p k
theorem cY{k:Nat}(h:k<n)(b:p k=ZF):aI p n=ZF:=by
 induction n with
 |zero=>omega
 |succ m f =>
  by_cases e:k=m;{subst e;simp[aI,b]};{simp[aI,f (by omega)]}
theorem zq (b off m c:Nat)(h:Nat->ByteArray)(bx:Nat)(a:Option Addr)(n cap:Nat)(g:Nat->ByteArray)(w:G)(hm:(m:Int)<=1048576)(j:RowStr w b off m h)(o:ZU w (Q bx 0 Y)=T (Z a n cap))(hn:(n:Int)<=1048576)(s:SlStr w a n g)(t:aJ g n=ZF):Calls Pg 143 #[Z (T (Q b off Y)) m c,.func (.func 125) #[] #[.pointer (T (Q bx 0 Y))]] w λe z=>∃r:Int,e=ZG (J I r)/\decide (0<=r)=aI (λi=>aG g n (h i)) m/\z=w:=by
 have y:=ae j;have p:=ae s;have u:=ae t;clear s t j;go_enter func143,ntmps143;go_wp2;go_loop [8] (λi=>∃k:Nat,k<=m/\i=J I k/\Hid (aI (λi=>aG g n (h i)) k=ZB)) (λi=>m - (intOf i).toNat);case atStart=>exact⟨0,by omega,rfl,rfl⟩
 case round =>
  obtain⟨k,hk,rfl,q⟩:=hrel;by_cases l:k<m
  ·have c0:=y.2 k l;cases hb:aG g n (h k) with
   |true =>have f:=ae hb;clear hb;go_wp2_with (go_at_call 125;refine(qR _ bx a n cap g _ o hn p u).mono ?_;rintro e x ⟨rfl,rfl⟩;rw[f.out]);go_ret;exact⟨k,rfl,by rw[cY l f.out];simp,rfl⟩
   |false =>have f:=ae hb;clear hb;go_wp2_with (go_at_call 125;refine(qR _ bx a n cap g _ o hn p u).mono ?_;rintro e x ⟨rfl,rfl⟩;rw[f.out]);exact⟨⟨k+1,by omega,by go_num,by show aI _ (k+1)=ZB;simp[aI,q.out,f.out]⟩,by simp[intOf];omega⟩
  ·have e:k=m:=by omega
   subst e;go_wp2;go_ret;exact⟨-1,rfl,by rw[q.out];rfl,rfl⟩
theorem zu (a0:Option Addr)(c:Nat)(b:Value)(bx:Nat)(g:b=.func (.func 125) #[] #[.pointer (T (Q bx 0 Y))])(w:G):Calls Pg 143 #[Z a0 0 c,b] w λe f=>∃r:Int,e=ZG (J I r)/\decide (0<=r)=ZB/\f=w:=by
 subst g;go_enter func143,ntmps143;go_wp2;go_loop [8] (λi=>i=J I 0) (λ_=>0);case atStart=>rfl
 case round =>
  subst hrel;go_wp2;go_ret;first
   |exact⟨-1,rfl,rfl,rfl⟩
   |exact⟨-1,rfl,by decide,rfl⟩
   |exact⟨⟨-1,rfl,by decide⟩,rfl⟩
   |exact⟨-1,by decide,rfl⟩
theorem zv (a0:Option Addr)(m c:Nat)(h:Nat->ByteArray)(bx:Nat)(a:Option Addr)(n cap:Nat)(g:Nat->ByteArray)(w:G)(l:(m:Int)<=1048576)(f:SlStr w a0 m h)(j:ZU w (Q bx 0 Y)=T (Z a n cap))(hn:(n:Int)<=1048576)(o:SlStr w a n g)(p:aJ g n=ZF):Calls Pg 143 #[Z a0 m c,.func (.func 125) #[] #[.pointer (T (Q bx 0 Y))]] w λe q=>∃r:Int,e=ZG (J I r)/\decide (0<=r)=aI (λi=>aG g n (h i)) m/\q=w:=by
 rcases f with rfl|⟨b,off,rfl,f⟩
 {exact zu a0 c _ bx rfl w};{exact zq b off m c h bx a n cap g w l f j hn o p}
theorem sX (a0:Option Addr)(m c:Nat)(h:Nat->ByteArray)(bx:Nat)(a:Option Addr)(n cap:Nat)(g:Nat->ByteArray)(w:G)(s:(m:Int)<=1048576)(b:SlStr w a0 m h)(q:ZU w (Q bx 0 Y)=T (Z a n cap))(hn:(n:Int)<=1048576)(o:SlStr w a n g)(p:aJ g n=ZF):Calls Pg 124 #[Z a0 m c,.func (.func 125) #[] #[.pointer (T (Q bx 0 Y))]] w λe u=>e=ZG (ZC (aI (λi=>aG g n (h i)) m))/\u=w:=by
 have j:=ae (zv a0 m c h bx a n cap g w s b q hn o p);obtain⟨A,f⟩:∃A,A=aI (λi=>aG g n (h i)) m:=⟨_,rfl⟩
 rw[<-f];rw[<-f] at j;clear f o p b;go_enter func124,ntmps124;go_wp2_with fail;refine j.mono ?_;rintro e w1 ⟨r,rfl,l,rfl⟩;have t:=ae l;clear l;go_wp2;go_ret;exact⟨be t,rfl⟩
theorem Bd (a0:Option Addr)(m c:Nat)(h:Nat->ByteArray)(a:Option Addr)(n cap:Nat)(g:Nat->ByteArray)(w:G)(q:(m:Int)<=1048576)(b:SlStr w a0 m h)(hn:(n:Int)<=1048576)(o:SlStr w a n g)(p:aJ g n=ZF):Calls Pg 99 #[Z a0 m c,Z a n cap] w λe r=>e=ZG (ZC (aI (λi=>aG g n (h i)) m))/\Below w.heap.size w r:=by
 have j:=ae ((q9 w).alloc ly (N #[Z a n cap] 45));have l:=ae (sX a0 m c h w.heap.size a n cap g (ZT w (N #[Z a n cap] 45)) q (b.aa j ly) (by simp) hn (o.aa j ly) p);obtain⟨A,f⟩:∃A,A=aI (λi=>aG g n (h i)) m:=⟨_,rfl⟩
 rw[<-f];rw[<-f] at l;clear f o p b;go_enter func99,ntmps99;go_wp2_with fail;refine l.mono ?_;rintro e w1 ⟨rfl,rfl⟩;go_wp2;go_ret;exact⟨rfl,j⟩
def fQ (x:Source):Bool:=decide (2000<(x.B.size:Int))
theorem Ep (nm tx:ByteArray)(w:G):Calls Pg 101 #[ZH #[U nm,U tx]] w λe b=>e=ZG (ZC (decide (2000<(tx.size:Int))))/\Below w.heap.size w b:=by go_enter func101,ntmps101;go_wp2;go_ret;exact⟨rfl,br.alloc ly _⟩
theorem xD (b off m c:Nat)(f:Nat->Source)(w:G)(hm:(m:Int)<=1048576)(h:RowSource w b off m f):Calls Pg 127 #[Z (T (Q b off Y)) m c,.func (.func 101) #[] #[]] w λe u=>∃r:Int,e=ZG (J I r)/\decide (0<=r)=aI (λi=>fQ (f i)) m/\Below w.heap.size w u:=by
 have t:=ae h;clear h;go_enter func127,ntmps127;go_wp2;go_loopw [8] (λi wr=>∃k:Nat,k<=m/\i=J I k/\Hid (aI (λi=>fQ (f i)) k=ZB)/\Below w.heap.size w wr) (λi _=>m - (intOf i).toNat);case atStart=>exact⟨0,by omega,rfl,rfl,cM _ _⟩
 case round =>
  obtain⟨k,hk,rfl,q,o⟩:=hrel;have g:=ae o;clear o;by_cases l:k<m
  ·obtain⟨c0,c1⟩:=(t.2 k l).aa g t.1;go_wp2_with fail;refine(Ep _ _ _).mono ?_;rintro e w1 ⟨rfl,j⟩;have s:=ae (g.trans (j.mono g.size));clear j;cases hb:fQ (f k) with
   |true =>have n:=ae hb;have h2:decide (2000<((f k).B.size:Int))=ZF:=hb;clear hb;rw[h2];clear h2;go_wp2;go_ret;exact⟨k,rfl,by rw[cY (p:=λi=>fQ (f i)) l n.out];simp,s.out⟩
   |false =>have n:=ae hb;have h2:decide (2000<((f k).B.size:Int))=ZB:=hb;clear hb;rw[h2];clear h2;go_wp2;exact⟨⟨k+1,by omega,by go_num,by show aI _ (k+1)=ZB;simp[aI,q.out,n.out],s.out⟩,by simp[intOf];omega⟩
  ·have e:k=m:=by omega
   subst e;go_wp2;go_ret;exact⟨-1,rfl,by rw[q.out];rfl,g⟩
theorem xE (a0:Option Addr)(c:Nat)(w:G):Calls Pg 127 #[Z a0 0 c,.func (.func 101) #[] #[]] w λe b=>e=ZG (J I (-1))/\b=w:=by
 go_enter func127,ntmps127;go_wp2;go_loop [8] (λi=>i=J I 0) (λ_=>0);case atStart=>rfl
 case round =>subst hrel;go_wp2;go_ret;exact⟨rfl,rfl⟩
theorem xF (a0:Option Addr)(m c:Nat)(f:Nat->Source)(w:G)(j:(m:Int)<=1048576)(g:SlSource w a0 m f):Calls Pg 127 #[Z a0 m c,.func (.func 101) #[] #[]] w λe h=>∃r:Int,e=ZG (J I r)/\decide (0<=r)=aI (λi=>fQ (f i)) m/\Below w.heap.size w h:=by
 rcases g with rfl|⟨b,off,rfl,g⟩
 {exact(xE a0 c w).mono λe h ⟨p,q⟩=>⟨-1,p,rfl,by rw[q];exact cM _ _⟩};{exact xD b off m c f w j g}
theorem rW (a0:Option Addr)(m c:Nat)(f:Nat->Source)(w:G)(o:(m:Int)<=1048576)(b:SlSource w a0 m f):Calls Pg 100 #[Z a0 m c,.func (.func 101) #[] #[]] w λe q=>e=ZG (ZC (aI (λi=>fQ (f i)) m))/\Below w.heap.size w q:=by
 have j:=ae (xF a0 m c f w o b);obtain⟨A,g⟩:∃A,A=aI (λi=>fQ (f i)) m:=⟨_,rfl⟩
 rw[<-g];rw[<-g] at j;clear g b;go_enter func100,ntmps100;go_wp2_with fail;refine j.mono ?_;rintro e w1 ⟨r,rfl,l,h⟩;have p:=ae l;have n:=ae h;clear l h;go_wp2;go_ret;exact⟨be p,n⟩
def dk (x:Target):Bool:=!valid x.u x.l
theorem Er (nm:ByteArray)(a:Option Addr)(n cap:Nat)(f:Nat->Ins)(w:G)(hn:n<=1048576)(i:SlIns w a n f)(g:Tab w):Calls Pg 103 #[ZH #[U nm,Z a n cap]] w λe m=>e=ZG (ZC (!valid f n))/\Below w.heap.size w m:=by have b:=ae ((q9 w).alloc ly (N #[U nm,Z a n cap] 94));have j:=ae (ma a n cap f (ZT w (N #[U nm,Z a n cap] 94)) hn (i.aa b ly) (g.aa b g.1));clear i g;go_enter func103,ntmps103;go_wp2_with fail;refine j.mono ?_;rintro e w1 ⟨rfl,h⟩;have l:=ae (b.trans (h.mono (by simp)));clear h;go_wp2;go_ret;exact⟨rfl,l⟩
theorem xG (b off m c:Nat)(f:Nat->Target)(w:G)(hm:(m:Int)<=1048576)(l:∀i,i<m->aU (f i))(y:Tab w)(h:RowTarget w b off m f):Calls Pg 128 #[Z (T (Q b off Y)) m c,.func (.func 103) #[] #[]] w λe E=>∃r:Int,e=ZG (J I r)/\decide (0<=r)=aI (λi=>dk (f i)) m/\Below w.heap.size w E:=by
 have A:=ae h;have C:=ae l;have u:=ae y;clear h l y;go_enter func128,ntmps128;go_wp2;go_loopw [8] (λi wr=>∃k:Nat,k<=m/\i=J I k/\Hid (aI (λi=>dk (f i)) k=ZB)/\Below w.heap.size w wr) (λi _=>m - (intOf i).toNat);case atStart=>exact⟨0,by omega,rfl,rfl,cM _ _⟩
 case round =>
  obtain⟨k,hk,rfl,t,s⟩:=hrel;have g:=ae s;clear s;by_cases j:k<m
  ·obtain⟨c0,D,B,c1,o⟩:=(A.2 k j).aa g ly A.1;have z:=ae o;clear o;go_wp2_with fail;refine(Er (f k).e D (f k).l B (f k).u _ (C k j) z (u.aa g u.1)).mono ?_;rintro e w1 ⟨rfl,n⟩;have x:=ae (g.trans (n.mono g.size));clear n;cases hb:dk (f k) with
   |true =>have q:=ae hb;have h2:(!valid (f k).u (f k).l)=ZF:=hb;clear hb;rw[h2];clear h2;go_wp2;go_ret;exact⟨k,rfl,by rw[cY (p:=λi=>dk (f i)) j q.out];simp,x.out⟩
   |false =>have q:=ae hb;have h2:(!valid (f k).u (f k).l)=ZB:=hb;clear hb;rw[h2];clear h2;go_wp2;exact⟨⟨k+1,by omega,by go_num,by show aI _ (k+1)=ZB;simp[aI,t.out,q.out],x.out⟩,by simp[intOf];omega⟩
  ·have e:k=m:=by omega
   subst e;go_wp2;go_ret;exact⟨-1,rfl,by rw[t.out];rfl,g⟩
theorem xH (a0:Option Addr)(c:Nat)(w:G):Calls Pg 128 #[Z a0 0 c,.func (.func 103) #[] #[]] w λe b=>e=ZG (J I (-1))/\b=w:=by
 go_enter func128,ntmps128;go_wp2;go_loop [8] (λi=>i=J I 0) (λ_=>0);case atStart=>rfl
 case round =>subst hrel;go_wp2;go_ret;exact⟨rfl,rfl⟩
theorem xI (a0:Option Addr)(m c:Nat)(f:Nat->Target)(w:G)(l:(m:Int)<=1048576)(h:∀i,i<m->aU (f i))(n:Tab w)(g:SlTarget w a0 m f):Calls Pg 128 #[Z a0 m c,.func (.func 103) #[] #[]] w λe j=>∃r:Int,e=ZG (J I r)/\decide (0<=r)=aI (λi=>dk (f i)) m/\Below w.heap.size w j:=by
 rcases g with rfl|⟨b,off,rfl,g⟩
 {exact(xH a0 c w).mono λe j ⟨p,q⟩=>⟨-1,p,rfl,by rw[q];exact cM _ _⟩};{exact xG b off m c f w l h n g}
theorem rX (a0:Option Addr)(m c:Nat)(f:Nat->Target)(w:G)(p:(m:Int)<=1048576)(b:∀i,i<m->aU (f i))(n:Tab w)(g:SlTarget w a0 m f):Calls Pg 102 #[Z a0 m c,.func (.func 103) #[] #[]] w λe t=>e=ZG (ZC (aI (λi=>dk (f i)) m))/\Below w.heap.size w t:=by
 have l:=ae (xI a0 m c f w p b n g);obtain⟨A,h⟩:∃A,A=aI (λi=>dk (f i)) m:=⟨_,rfl⟩
 rw[<-h];rw[<-h] at l;clear h g b n;go_enter func102,ntmps102;go_wp2_with fail;refine l.mono ?_;rintro e w1 ⟨r,rfl,o,j⟩;have q:=ae o;have s:=ae j;clear o j;go_wp2;go_ret;exact⟨be q,s⟩
theorem rY (a:Option Addr)(cap:Nat)(w:G):Calls Pg 98 #[Z a 0 cap] w λe b=>e=ZG (ZC ZF)/\b=w:=by
 go_enter func98,ntmps98;go_wp2;go_loop [3] (λi=>i=J I 1) (λ_=>0);case atStart=>rfl
 case round =>subst hrel;go_wp2;go_ret;exact⟨rfl,rfl⟩
theorem lW (a:Option Addr)(n cap:Nat)(g:Nat->ByteArray)(w:G)(hn:(n:Int)<=1048576)(f:SlStr w a n g):Calls Pg 98 #[Z a n cap] w λe h=>e=ZG (ZC (aJ g n))/\Below w.heap.size w h:=by
 rcases f with rfl|⟨b,off,rfl,f⟩
 {exact(rY a cap w).mono λe h ⟨p,q⟩=>⟨p,by rw[q];exact cM _ _⟩};{exact rV b off n cap g w hn f}
abbrev nm0 (f0:Nat->Source):Nat->ByteArray:=λi=>(f0 i).e
abbrev nm1 (f1:Nat->Target):Nat->ByteArray:=λi=>(f1 i).e
def bm (n0:Nat)(f0:Nat->Source)(n1:Nat)(f1:Nat->Target):Int :=
 if 200<n0+n1 then 1 else if cJ (nm0 f0) n0=ZB then 2 else if cJ (nm1 f1) n1=ZB then 2 else if aJ (nm0 f0) n0=ZB then 3 else if aJ (nm1 f1) n1=ZB then 4
 else if aI (λi=>aG (nm1 f1) n1 (nm0 f0 i)) n0=ZF then 5 else if aI (λi=>fQ (f0 i)) n0=ZF then 6 else if aI (λi=>dk (f1 i)) n1=ZF then 7 else 0
theorem rZ (a0:Option Addr)(n0 c0:Nat)(f0:Nat->Source)(a1:Option Addr)(n1 c1:Nat)(f1:Nat->Target)(w:G)(hn0:(n0:Int)<=1048576)(hn1:(n1:Int)<=1048576)(E:SlSource w a0 n0 f0)(ZP:SlTarget w a1 n1 f1)(r:∀i,i<n1->aU (f1 i))(hT:Tab w):Calls Pg 69 #[ZH #[Z a0 n0 c0,Z a1 n1 c1]] w λe w'=>e=ZG (J I (bm n0 f0 n1 f1))/\Below w.heap.size w w':=by
 have O:=ae E;have W:=ae ZP;have HF:=ae r;have ZL:=ae hT;clear E ZP r hT;obtain⟨C,t⟩:∃C,C=bm n0 f0 n1 f1:=⟨_,rfl⟩
 rw[<-t];unfold bm at t;have j:=ae t;clear t;have ZM:=ae ((q9 w).alloc ly (N #[Z a0 n0 c0,Z a1 n1 c1] 33));go_enter func69,ntmps69;go_wp2_with fail;refine(xx a0 a1 n0 c0 n1 c1 _ hn0 hn1).mono ?_;rintro e n ⟨rfl,b⟩;have m:ZU n (Q w.heap.size 0 Y)=T (Z a0 n0 c0):=(b.cell (p:=(Q w.heap.size 0 Y)) (by simp)).trans (by simp);have o:ZU n (Q w.heap.size 1 Y)=T (Z a1 n1 c1):=(b.cell (p:=(Q w.heap.size 1 Y)) (by simp)).trans (by simp);have z1:w.heap.size<n.heap.size:=by have:=b.size;simp at this;omega
 have q:=ae (ZM.trans (b.mono (by simp)));clear b ZM;by_cases h1:(200:Int)<n0+n1;{have h:=j.out;rw[hU (by omega)] at h;subst h;go_wp2;go_ret;exact⟨rfl,q⟩};have s:=j.out;rw[eT (by omega)] at s;have D:=ae s;clear s j;go_wp2_with fail
 go_region_with (first
  |(go_at_call 95;refine(o8 a0 n0 c0 a1 n1 c1 f0 _ hn0 ?_).mono ?_;(first|exact O.aa q ly|exact O.aa q.drew ly);rintro e ZK ⟨L,P,rfl,ZS,f⟩;have S2:=ae ZS;have u:Hid (Below n.heap.size n ZK):=⟨f.os,f.tape,f.output,f.size,f.block⟩;have ZO:=ae (q.trans (u.mono q.size));have H:=(u.cell (p:=(Q w.heap.size 0 Y)) z1).trans m;have y:=(u.cell (p:=(Q w.heap.size 1 Y)) z1).trans o;have z2:w.heap.size<ZK.heap.size:=lj z1 u.size;clear ZS f)
  |(go_at_call 96;refine(pd a1 n1 c1 a0 n0 c0 f1 _ hn1 ?_).mono ?_;exact W.aa ZO ly;rintro e w3 ⟨M,K,rfl,A,g⟩;have ZN:=ae A;have ZJ:=ae (S2.aa g ly);have X:=ae (ZO.trans (g.mono ZO.size));have x:=(g.cell (p:=(Q w.heap.size 0 Y)) z2).trans H;have ZQ:=(g.cell (p:=(Q w.heap.size 1 Y)) z2).trans y;have z3:w.heap.size<w3.heap.size:=lj z2 g.size;clear A g))
 all_goals
  clear m o H y;have B:=X;have R:=ZJ;have S:=ZN;have m:=x;have o:=ZQ;have z:=z3;have j:=D;clear X ZJ ZN x ZQ z3 D
  iterate 7
   go_wp2_with fail;first
    |with_reducible refine(me L n0 P (nm0 f0) _ hn0 R.out).mono ?_
    |with_reducible refine(me M n1 K (nm1 f1) _ hn1 S.out).mono ?_
    |with_reducible refine(lW L n0 P (nm0 f0) _ hn0 R.out).mono ?_
    |with_reducible refine(lW M n1 K (nm1 f1) _ hn1 S.out).mono ?_
    |with_reducible refine(Bd L n0 P (nm0 f0) M n1 K (nm1 f1) _ hn0 R.out hn1 S.out V.out).mono ?_
    |with_reducible refine(rW a0 n0 c0 f0 _ hn0 (O.out.aa B.out ly)).mono ?_
    |refine(rX a1 n1 c1 f1 _ hn1 HF (ZL.aa B ZL.1) (W.aa B ly)).mono ?_
   rintro e wx ⟨rfl,b⟩;replace m:=(b.cell (p:=(Q w.heap.size 0 Y)) z).trans m;replace o:=(b.cell (p:=(Q w.heap.size 1 Y)) z).trans o;replace z:=lj z b.size;replace R:=ae (R.out.aa b ly);replace S:=ae (S.out.aa b ly);replace B:=ae (B.out.trans (b.mono B.out.size));clear b;have h:=j.out;clear j;split at h
   ·rename_i l
    subst h;rw[l];go_wp2;go_ret;exact⟨rfl,B⟩
   rename_i l;have j:=ae h
   (try have V:=ae (show aJ (nm1 f1) n1=ZF from Bool.of_not_eq_false l))
   first|rw[Bool.of_not_eq_false l]|rw[Bool.of_not_eq_true l]
   clear h l
  have h:=j.out;subst h;go_wp2;go_ret;exact⟨rfl,B⟩
theorem gw (g:Nat->ByteArray)(k:Nat)(t:ByteArray):aG g (k+1) t=(aG g k t || ((g k).toList == t.toList)):=by simp[aG,LP]
theorem eC{k:Nat}(h:k<n)(b:((g k).toList == t.toList)=ZF):aG g n t=ZF:=by simp only[aG,SH,KT];exact⟨k,h,b⟩
theorem sY (a0:Option Addr)(n0 c0 b off n1 c1:Nat)(f1:Nat->Target)(t:ByteArray)(w:G)(hn1:(n1:Int)<=1048576)(l:RowTarget w b off n1 f1):Calls Pg 32 #[ZH #[Z a0 n0 c0,Z (T (Q b off Y)) n1 c1],U t] w λe q=>∃r:Int,e=ZG (J I r)/\decide (0<=r)=aG (nm1 f1) n1 t/\Below w.heap.size w q:=by
 obtain⟨W,f⟩:∃W:G,ZT w (N #[Z a0 n0 c0,Z (T (Q b off Y)) n1 c1] 33)=W:=⟨_,rfl⟩
 obtain⟨n,-,-⟩:=nb1 f;have h:=ae f;clear f;have p:=ae (l.aa n ly);have k1:ZU W (Q w.heap.size 1 Y)=T (Z (T (Q b off Y)) n1 c1):=by rw[<-h.out];simp
 clear l;go_enter TH,RI;go_wp2;rw[h.out];clear h;go_loop [5] (λi=>∃k:Nat,k<=n1/\i=J I k/\Hid (aG (nm1 f1) k t=ZB)) (λi=>n1 - (intOf i).toNat);case atStart=>exact⟨0,by omega,rfl,rfl⟩
 case round =>
  obtain⟨k,hk,rfl,o⟩:=hrel;by_cases j:k<n1
  ·obtain⟨d0,ka,kc,d1,_⟩:=p.2 k j;cases hb:((f1 k).e.toList == t.toList) with
   |true =>have m:=ae hb;go_wp2;go_ret;exact⟨k,rfl,by rw[eC (g:=nm1 f1) j m.out];simp,n.out⟩
   |false =>have m:=ae hb;go_wp2;exact⟨⟨k+1,by omega,by go_num,by show aG (nm1 f1) (k+1) t=ZB;rw[gw,o.out];exact m⟩,by simp[intOf];omega⟩
  ·have e:k=n1:=by omega
   subst e;go_wp2;go_ret;exact⟨-1,rfl,by rw[o.out];rfl,n⟩
theorem slS{a:Option Addr}{f:Nat->Source}(h:SlSource w a n f)(hn:n≠0):∃b off,a=T (Q b off Y)/\RowSource w b off n f:=h.resolve_left hn
theorem slT{a:Option Addr}{f:Nat->Target}(h:SlTarget w a n f)(hn:n≠0):∃b off,a=T (Q b off Y)/\RowTarget w b off n f:=h.resolve_left hn
theorem bx2{W b:G}{u v:Value}(z:w.heap.size<W.heap.size)(g:ZU W (Q w.heap.size 0 Y)=T u)(h:ZU W (Q w.heap.size 1 Y)=T v)(A:Hid (Below w.heap.size w W))(f:Below W.heap.size W b):ZU b (Q w.heap.size 0 Y)=T u/\ZU b (Q w.heap.size 1 Y)=T v/\w.heap.size<b.heap.size/\Hid (Below w.heap.size w b) :=
 ⟨(f.cell (p:=(Q w.heap.size 0 Y)) z).trans g,(f.cell (p:=(Q w.heap.size 1 Y)) z).trans h,lj z f.size,A.trans (f.mono A.size)⟩
theorem sZ (a0:Option Addr)(n0 c0:Nat)(a1:Option Addr)(c1:Nat)(g:Nat->ByteArray)(t:ByteArray)(w:G):Calls Pg 32 #[ZH #[Z a0 n0 c0,Z a1 0 c1],U t] w λe f=>∃r:Int,e=ZG (J I r)/\decide (0<=r)=aG g 0 t/\Below w.heap.size w f:=by
 have b:=ae ((q9 w).alloc ly (N #[Z a0 n0 c0,Z a1 0 c1] 33));go_enter TH,RI;go_wp2;go_loop [5] (λi=>i=J I 0) (λ_=>0);case atStart=>rfl
 case round =>subst hrel;go_wp2;go_ret;exact⟨-1,rfl,by rw[iz];rfl,b⟩
theorem mg (a0:Option Addr)(n0 c0:Nat)(a1:Option Addr)(n1 c1:Nat)(f1:Nat->Target)(t:ByteArray)(w:G)(hn1:(n1:Int)<=1048576)(f:SlTarget w a1 n1 f1):Calls Pg 32 #[ZH #[Z a0 n0 c0,Z a1 n1 c1],U t] w λe h=>∃r:Int,e=ZG (J I r)/\decide (0<=r)=aG (nm1 f1) n1 t/\Below w.heap.size w h:=by
 rcases f with rfl|⟨b,off,rfl,g⟩
 {exact sZ a0 n0 c0 a1 c1 (nm1 f1) t w};{exact sY a0 n0 c0 b off n1 c1 f1 t w hn1 g}
theorem eu (a0:Option Addr)(n0 c0:Nat)(f0:Nat->Source)(a1:Option Addr)(n1 c1:Nat)(f1:Nat->Target)(w:G)(hn0:(n0:Int)<=1048576)(hn1:(n1:Int)<=1048576)(ld:SlSource w a0 n0 f0)(n7:SlTarget w a1 n1 f1)(ex:∀i,i<n1->aU (f1 i))(hs:∀i,i<n1->∀j,j<(f1 i).l->((f1 i).u j).s.size<=maxLen):Calls Pg 29 #[ZH #[Z a0 n0 c0,Z a1 n1 c1]] w λe w'=>e=ZG (J I (bm n0 f0 n1 f1))/\Below w.heap.size w w':=by
 have V0:=ae ld;have V1:=ae n7;have HF:=ae ex;have HS:=ae hs;clear ld n7 ex hs;obtain⟨C,hC⟩:∃C,C=bm n0 f0 n1 f1:=⟨_,rfl⟩
 rw[<-hC];unfold bm at hC;have HC:=ae hC;clear hC;have V:=ae ((q9 w).alloc ly (N #[Z a0 n0 c0,Z a1 n1 c1] 33));have D:ZU (ZT w (N #[Z a0 n0 c0,Z a1 n1 c1] 33)) (Q w.heap.size 0 Y)=T (Z a0 n0 c0):=by simp
 have ZQ:ZU (ZT w (N #[Z a0 n0 c0,Z a1 n1 c1] 33)) (Q w.heap.size 1 Y)=T (Z a1 n1 c1):=by simp
 have z0:w.heap.size<(ZT w (N #[Z a0 n0 c0,Z a1 n1 c1] 33)).heap.size:=by simp
 go_enter func29,ntmps29;by_cases h1:(200:Int)<n0+n1;{have f:=HC.out;rw[hU (by omega)] at f;subst f;go_wp2;go_ret;exact⟨rfl,V⟩};have fd:=HC.out;rw[eT (by omega)] at fd;have bt:=ae fd;clear fd HC;go_wp2;generalize World.alloc w _=W0 at V D ZQ z0 ⊢;go_loopw [5] (λi wr=>∃k:Nat,k<=n0/\i=J I k/\Hid (cJ (nm0 f0) k=ZF)/\Below W0.heap.size W0 wr) (λi _=>n0 - (intOf i).toNat);case atStart=>exact⟨0,by omega,rfl,rfl,cM _ _⟩
 case round =>
  obtain⟨k,P,rfl,o,n⟩:=hrel;obtain⟨ZO,O,z1,A1⟩:=bx2 z0 D ZQ V n;have p:=ae n;clear n;by_cases h:k<n0
  ·obtain⟨b,off,rfl,l⟩:=slS V0 (by omega);obtain⟨x,y⟩:=(l.2 k h).aa A1 l.1;clear l D ZQ;go_wp2_with fail;refine(cV _ _).mono ?_;rintro e w1 ⟨rfl,q⟩;have u:=ae (p.trans (q.mono p.size));clear q;cases m:av (f0 k).e with
   |true =>have t:=ae m;clear m;go_wp2;exact⟨⟨k+1,by omega,by go_num,by show cJ (nm0 f0) (k+1)=ZF;simp[cJ,o.out,t.out],u.out⟩,by simp[intOf];omega⟩
   |false =>have t:=ae m;have f:=bt.out;rw[hU (iK (g:=(nm0 f0)) h t.out)] at f;subst f;clear m;go_wp2;go_ret;exact⟨rfl,V.trans (u.mono V.size)⟩
  ·have e:n0=k:=by omega
   subst e;have f:=bt.out;rw[eT (by simp[o.out])] at f;have ZJ:=ae f;clear f bt o p D ZQ;go_wp2;generalize wr=W1 at ZO O z1 A1 ⊢;go_loopw [6] (λi wr=>∃k:Nat,k<=n1/\i=J I k/\Hid (cJ (nm1 f1) k=ZF)/\Below W1.heap.size W1 wr) (λi _=>n1 - (intOf i).toNat);case atStart=>exact⟨0,by omega,rfl,rfl,cM _ _⟩
   case round =>
    obtain⟨k,P,rfl,o,n⟩:=hrel;obtain⟨L,B,z2,ZM⟩:=bx2 z1 ZO O A1 n;have p:=ae n;clear n;by_cases h:k<n1
    ·obtain⟨b,off,rfl,l⟩:=slT V1 (by omega);obtain⟨x,ka,kc,y,_⟩:=(l.2 k h).aa ZM ly l.1;clear l ZO O;go_wp2_with fail;refine(cV _ _).mono ?_;rintro e w1 ⟨rfl,q⟩;have u:=ae (p.trans (q.mono p.size));clear q;cases m:av (f1 k).e with
     |true =>have t:=ae m;clear m;go_wp2;exact⟨⟨k+1,by omega,by go_num,by show cJ (nm1 f1) (k+1)=ZF;simp[cJ,o.out,t.out],u.out⟩,by simp[intOf];omega⟩
     |false =>have t:=ae m;have f:=ZJ.out;rw[hU (iK (g:=(nm1 f1)) h t.out)] at f;subst f;clear m;go_wp2;go_ret;exact⟨rfl,A1.trans (u.mono A1.size)⟩
    ·have e:n1=k:=by omega
     subst e;have f:=ZJ.out;rw[eT (by simp[o.out])] at f;have W:=ae f;clear f ZJ o p ZO O;go_wp2;generalize wr=W2 at L B z2 ZM ⊢;go_loopw [7] (λi wr=>∃k:Nat,(k+1<=n0∨k=0)/\i=J I ((k:Int)+1)/\Hid (aJ (nm0 f0) (k+1)=ZF)/\Below W2.heap.size W2 wr) (λi _=>n0+1 - (intOf i).toNat);case atStart=>exact⟨0,.inr rfl,rfl,rfl,cM _ _⟩
     case round =>
      obtain⟨k,P,rfl,o,n⟩:=hrel;obtain⟨A,M,z3,ZN⟩:=bx2 z2 L B ZM n;have p:=ae n;clear n;by_cases h:k+1<n0
      ·obtain⟨b,off,rfl,l⟩:=slS V0 (by omega);obtain⟨x,y⟩:=(l.2 k (by omega)).aa ZN l.1;obtain⟨e0,e1⟩:=(l.2 (k+1) h).aa ZN l.1;have n8:(k:Int)+1<n0:=by omega
       clear l L B;go_wp2_with fail;go_quiet (fail);have u:=ae (BG p nq);clear x y e0 e1;generalize wr.drewN nq=X at u ⊢;cases m:Op.bytesLess (f0 k).e.toList (f0 (k+1)).e.toList with
       |true =>have t:=ae m;clear m;go_wp2;exact⟨⟨k+1,.inl (by omega),by go_num,by show aJ (nm0 f0) (k+2)=ZF;simp[aJ,o.out,t.out],u.out⟩,by simp[intOf];omega⟩
       |false =>have t:=ae m;have f:=W.out;rw[hU (jS (g:=(nm0 f0)) h t.out)] at f;subst f;clear m;go_wp2;go_ret;exact⟨rfl,ZM.trans (u.mono ZM.size)⟩
      ·have n9:¬ (k:Int)+1<n0:=by omega
       have f:=W.out;rw[eT (by simp[gJ (show n0<=k+1 by omega) o.out])] at f;have S:=ae f;clear f W o p L B;go_wp2;generalize wr=W3 at A M z3 ZN ⊢;go_loopw [8] (λi wr=>∃k:Nat,(k+1<=n1∨k=0)/\i=J I ((k:Int)+1)/\Hid (aJ (nm1 f1) (k+1)=ZF)/\Below W3.heap.size W3 wr) (λi _=>n1+1 - (intOf i).toNat);case atStart=>exact⟨0,.inr rfl,rfl,rfl,cM _ _⟩
       case round =>
        obtain⟨k,P,rfl,o,n⟩:=hrel;obtain⟨ZS,K,z4,R⟩:=bx2 z3 A M ZN n;have p:=ae n;clear n;by_cases h:k+1<n1
        ·obtain⟨b,off,rfl,l⟩:=slT V1 (by omega);obtain⟨x,ka,kc,y,_⟩:=(l.2 k (by omega)).aa R ly l.1;obtain⟨e0,kb,kd,e1,_⟩:=(l.2 (k+1) h).aa R ly l.1;have n8:(k:Int)+1<n1:=by omega
         clear l A M;go_wp2_with fail;go_quiet (fail);have u:=ae (BG p nq);clear x y e0 e1;generalize wr.drewN nq=X at u ⊢;cases m:Op.bytesLess (f1 k).e.toList (f1 (k+1)).e.toList with
         |true =>have t:=ae m;clear m;go_wp2;exact⟨⟨k+1,.inl (by omega),by go_num,by show aJ (nm1 f1) (k+2)=ZF;simp[aJ,o.out,t.out],u.out⟩,by simp[intOf];omega⟩
         |false =>have t:=ae m;have f:=S.out;rw[hU (jS (g:=(nm1 f1)) h t.out)] at f;subst f;clear m;go_wp2;go_ret;exact⟨rfl,ZN.trans (u.mono ZN.size)⟩
        ·have n9:¬ (k:Int)+1<n1:=by omega
         have f:=S.out;rw[eT (by simp[gJ (show n1<=k+1 by omega) o.out])] at f;have la:=ae f;clear f S o p A M;go_wp2;generalize wr=W4 at ZS K z4 R ⊢;go_loopw [9] (λi wr=>∃k:Nat,k<=n0/\i=J I k/\Hid (aI (λi=>aG (nm1 f1) n1 (nm0 f0 i)) k=ZB)/\Below W4.heap.size W4 wr) (λi _=>n0 - (intOf i).toNat);case atStart=>exact⟨0,by omega,rfl,rfl,cM _ _⟩
         case round =>
          obtain⟨k,P,rfl,o,n⟩:=hrel;obtain⟨H,ZP,z5,z⟩:=bx2 z4 ZS K R n;have p:=ae n;clear n;by_cases h:k<n0
          ·obtain⟨b,off,rfl,l⟩:=slS V0 (by omega);obtain⟨x,y⟩:=(l.2 k h).aa z l.1;clear l ZS K;go_wp2_with fail;go_region_with (go_at_call 32;refine(mg (T (Q b off Y)) n0 c0 a1 n1 c1 f1 (f0 k).e _ hn1 ?_).mono ?_;(first|exact V1.aa z ly|exact V1.aa z.drew ly);rintro e w1 ⟨r,rfl,hd,q⟩;have HD:=ae hd;clear hd;have u:Hid (Below wr.heap.size wr w1):=⟨q.os,q.tape,q.output,q.size,q.block⟩;clear q);all_goals
            have B2:=ae (p.trans (u.mono p.size));clear x y u;by_cases m:0<=r
            ·have f:=la.out
             rw[hU (cY h (by have:=HD.out;rw[MR m] at this;exact this.symm))] at f;subst f;go_wp2;go_ret;exact⟨rfl,R.trans (B2.mono R.size)⟩
            ·have t:=ae m
             go_wp2;exact⟨⟨k+1,by omega,by go_num,by show aI _ (k+1)=ZB;have:=HD.out;rw[N9 t.out] at this;simp[aI,o.out,<-this],B2.out⟩,by simp[intOf];omega⟩
          ·have e:n0=k:=by omega
           subst e;have f:=la.out;rw[eT (by simp[o.out])] at f;have ZK:=ae f;clear f la o p ZS K;go_wp2;generalize wr=W5 at H ZP z5 z ⊢;go_loopw [10] (λi wr=>∃k:Nat,k<=n0/\i=J I k/\Hid (aI (λi=>fQ (f0 i)) k=ZB)/\Below W5.heap.size W5 wr) (λi _=>n0 - (intOf i).toNat);case atStart=>exact⟨0,by omega,rfl,rfl,cM _ _⟩
           case round =>
            obtain⟨k,P,rfl,o,n⟩:=hrel;obtain⟨aq,ZL,z6,A6⟩:=bx2 z5 H ZP z n;have p:=ae n;clear n;by_cases h:k<n0;{obtain⟨b,off,rfl,l⟩:=slS V0 (by omega);obtain⟨x,y⟩:=(l.2 k h).aa A6 l.1;clear l H ZP;by_cases m:(2000:Int)<(f0 k).B.size;{have f:=ZK.out;rw[hU (cY h (by simpa[fQ] using m))] at f;subst f;go_wp2;go_ret;exact⟨rfl,z.trans (p.mono z.size)⟩};{have t:Hid (fQ (f0 k)=ZB):=N9 m;go_wp2;exact⟨⟨k+1,by omega,by go_num,by show aI _ (k+1)=ZB;simp[aI,o.out,t.out],p.out⟩,by simp[intOf];omega⟩}}
            ·have e:n0=k:=by omega
             subst e;have f:=ZK.out;rw[eT (by simp[o.out])] at f;have ph:=ae f;clear f ZK o p H ZP;go_wp2;generalize wr=W6 at aq ZL z6 A6 ⊢;go_loopw [11,4] (λi v wr=>∃(k:Nat) (r:Int),k<=n1/\i=J I k/\v=J I r/\Hid (r=if aI (λi=>dk (f1 i)) k=ZF then 7 else 0)/\Below W6.heap.size W6 wr) (λi _ _=>n1 - (intOf i).toNat);case atStart=>exact⟨0,0,by omega,rfl,rfl,rfl,cM _ _⟩
             case round =>
              obtain⟨k,r,P,rfl,rfl,o,n⟩:=hrel;obtain⟨k70,k71,z7,A7⟩:=bx2 z6 aq ZL A6 n;have p:=ae n;clear n;by_cases h:k<n1
              ·obtain⟨b,off,rfl,l⟩:=slT V1 (by omega);obtain⟨x,ka,kc,y,hx⟩:=(l.2 k h).aa A7 ly l.1;have HX:=ae hx;clear l hx aq ZL;go_wp2_with fail;refine(jj ka (f1 k).l kc (f1 k).u _ (HF k h) HX (HS k h)).mono ?_;rintro e w1 ⟨rfl,q⟩;have u:=ae (p.trans (q.mono p.size));clear q x y;cases m:valid (f1 k).u (f1 k).l with
               |true =>
                have t:=ae m;clear m;have E:Hid (aI (λi=>dk (f1 i)) (k+1)=aI (λi=>dk (f1 i)) k):=by show(aI _ k || dk (f1 k))=_;rw[show dk (f1 k)=ZB by unfold dk;rw[t.out];rfl,Bool.or_false]
                go_wp2;exact⟨⟨k+1,r,by omega,by go_num,rfl,by show r=_;rw[E.out];exact o,u⟩,by simp[intOf];omega⟩
               |false =>
                have t:=ae m;clear m;have E:Hid (aI (λi=>dk (f1 i)) (k+1)=ZF):=by show(aI _ k || dk (f1 k))=_;rw[show dk (f1 k)=ZF by unfold dk;rw[t.out];rfl,Bool.or_true]
                go_wp2;exact⟨⟨k+1,7,by omega,by go_num,rfl,by show(7:Int)=_;rw[hU E.out],u.out⟩,by simp[intOf];omega⟩
              ·have e:n1=k:=by omega
               subst e;have f:=ph.out;rw[<-o.out] at f;subst f;go_wp2;go_ret;exact⟨rfl,A6.trans (p.mono A6.size)⟩
theorem fa (h:a.toList=b.toList):a=b:=by rw[LV,LV] at h;exact UU (Array.toList_inj.1 h)
theorem bytes_beq (h:(a.toList == b.toList)=ZF):a=b:=fa (by simpa using h)
theorem asc_one (b:aJ g n=ZF)(hi:i<n)(m:j<n)(h1:((g i).toList == t.toList)=ZF)(h2:((g j).toList == t.toList)=ZF):i=j:=by
 have f:=bytes_beq h1;have l:=bytes_beq h2;rcases RH i j with h|h|h;{have:=jm b h m;rw[f,l,gK] at this;cases this};{exact h};{have:=jm b h hi;rw[f,l,gK] at this;cases this}
theorem iA (h:aI p n=ZF):∃k,k<n/\p k=ZF:=by
 induction n with
 |zero=>simp[aI] at h
 |succ m b =>
  simp only[aI,Bool.or_eq_true] at h;rcases h with h|h;{obtain⟨k,hk,f⟩:=b h;exact⟨k,by omega,f⟩};{exact⟨m,by omega,h⟩}
theorem nd{k:Nat}(h:aJ g n=ZF)(f:k<n)(h1:((g k).toList == t.toList)=ZF):aI (λi=>((g i).toList == t.toList) && q i) n=q k:=by
 cases e:q k with
 |true=>exact cY f (by simp[h1,e])
 |false =>
  cases e2:aI (λi=>((g i).toList == t.toList) && q i) n with
  |false=>rfl
  |true =>obtain⟨i,hi,b⟩:=iA e2;simp only[j5] at b;obtain rfl:=asc_one h hi f b.1 h1;rw[e] at b;exact absurd b.2 (by simp)
theorem ol (h:aG g n t=ZF):∃k,k<n/\((g k).toList == t.toList)=ZF:=by simp only[aG,SH,KT] at h;exact h
theorem kV (h:aG g n t=ZB):aI (λi=>((g i).toList == t.toList) && q i) n=ZB:=by
 cases e2:aI (λi=>((g i).toList == t.toList) && q i) n with
 |false=>rfl
 |true =>obtain⟨i,hi,b⟩:=iA e2;simp only[j5] at b;rw[eC hi b.1] at h;cases h
theorem mh{n0:Nat}{f0:Nat->Source}{n1:Nat}{f1:Nat->Target}(h:bm n0 f0 n1 f1=0):aJ (nm0 f0) n0=ZF/\aJ (nm1 f1) n1=ZF/\n0+n1<=200:=by
 unfold bm at h;split at h;· omega
 split at h;· omega
 split at h;· omega
 split at h;· omega
 split at h;· omega
 rename_i h0 _ _ b f;exact⟨by simpa using b,by simpa using f,by omega⟩
def jn (n0:Nat)(f0:Nat->Source)(n1:Nat)(f1:Nat->Target)(t:ByteArray):Bool:=aG (nm0 f0) n0 t || aG (nm1 f1) n1 t
def jU (n0:Nat)(f0:Nat->Source)(t x:ByteArray):Bool:=aI (λi=>((nm0 f0 i).toList == t.toList) && ((f0 i).B.toList == x.toList)) n0
def jV (n1:Nat)(f1:Nat->Target)(t:ByteArray)(n:Nat)(f:Nat->Ins):Bool:=aI (λi=>((nm1 f1 i).toList == t.toList) && cK (f1 i).u f (f1 i).l n) n1
def gU (n0:Nat)(f0:Nat->Source)(n1:Nat)(f1:Nat->Target)(d:af):Bool :=
 if d.H=1 then !jU n0 f0 d.e d.B else if d.H=3 then !jV n1 f1 d.e d.l d.u else jn n0 f0 n1 f1 d.e
def dT (n0:Nat)(f0:Nat->Source)(n1:Nat)(f1:Nat->Target)(l:Link):Bool:=!l.ask && !(l.has == jn n0 f0 n1 f1 l.e)
def hasB (n0:Nat)(f0:Nat->Source)(n1:Nat)(f1:Nat->Target)(d:af):Bool:=aI (λk=>dT n0 f0 n1 f1 (d.m k)) d.f
def PlaceOf (g:Nat->ByteArray)(n:Nat)(t:ByteArray)(r:Int):Prop:=(r=-1/\aG g n t=ZB)∨∃k:Nat,r=k/\k<n/\((g k).toList == t.toList)=ZF
theorem PlaceOf.has{r:Int}(h:PlaceOf g n t r):aG g n t=decide (0<=r):=by
 rcases h with ⟨rfl,h⟩|⟨k,rfl,b,h⟩
 {rw[h];rfl};{rw[eC b h];simp}
theorem pZ (a0:Option Addr)(n0 c0 b off n1 c1:Nat)(f1:Nat->Target)(t:ByteArray)(w:G)(hn1:(n1:Int)<=1048576)(j:RowTarget w b off n1 f1):Calls Pg 32 #[ZH #[Z a0 n0 c0,Z (T (Q b off Y)) n1 c1],U t] w λe p=>∃r:Int,e=ZG (J I r)/\PlaceOf (nm1 f1) n1 t r/\Below w.heap.size w p:=by
 obtain⟨W,f⟩:∃W:G,ZT w (N #[Z a0 n0 c0,Z (T (Q b off Y)) n1 c1] 33)=W:=⟨_,rfl⟩
 obtain⟨m,-,-⟩:=nb1 f;have g:=ae f;clear f;have o:=ae (j.aa m.out ly);have k1:ZU W (Q w.heap.size 1 Y)=T (Z (T (Q b off Y)) n1 c1):=by rw[<-g.out];simp
 clear j;go_enter TH,RI;go_wp2;rw[g.out];clear g;go_loop [5] (λi=>∃k:Nat,k<=n1/\i=J I k/\Hid (aG (nm1 f1) k t=ZB)) (λi=>n1 - (intOf i).toNat);case atStart=>exact⟨0,by omega,rfl,rfl⟩
 case round =>
  obtain⟨k,hk,rfl,n⟩:=hrel;by_cases h:k<n1
  ·obtain⟨d0,ka,kc,d1,_⟩:=o.out.2 k h;cases hb:((f1 k).e.toList == t.toList) with
   |true =>have l:=ae hb;go_wp2;go_ret;exact⟨k,rfl,.inr ⟨k,rfl,h,l.out⟩,m.out⟩
   |false =>have l:=ae hb;go_wp2;exact⟨⟨k+1,by omega,by go_num,by show aG (nm1 f1) (k+1) t=ZB;rw[gw,n.out];exact l.out⟩,by simp[intOf];omega⟩
  ·have e:k=n1:=by omega
   subst e;go_wp2;go_ret;exact⟨-1,rfl,.inl ⟨rfl,n.out⟩,m.out⟩
theorem qb (a0:Option Addr)(n0 c0:Nat)(a1:Option Addr)(c1:Nat)(g:Nat->ByteArray)(t:ByteArray)(w:G):Calls Pg 32 #[ZH #[Z a0 n0 c0,Z a1 0 c1],U t] w λe f=>∃r:Int,e=ZG (J I r)/\PlaceOf g 0 t r/\Below w.heap.size w f:=by
 have b:=ae ((q9 w).alloc ly (N #[Z a0 n0 c0,Z a1 0 c1] 33));go_enter TH,RI;go_wp2;go_loop [5] (λi=>i=J I 0) (λ_=>0);case atStart=>rfl
 case round =>subst hrel;go_wp2;go_ret;exact⟨-1,rfl,.inl ⟨rfl,iz _ _⟩,b.out⟩
theorem kf (a0:Option Addr)(n0 c0:Nat)(a1:Option Addr)(n1 c1:Nat)(f1:Nat->Target)(t:ByteArray)(w:G)(hn1:(n1:Int)<=1048576)(f:SlTarget w a1 n1 f1):Calls Pg 32 #[ZH #[Z a0 n0 c0,Z a1 n1 c1],U t] w λe h=>∃r:Int,e=ZG (J I r)/\PlaceOf (nm1 f1) n1 t r/\Below w.heap.size w h:=by
 rcases f with rfl|⟨b,off,rfl,g⟩
 {exact qb a0 n0 c0 a1 c1 (nm1 f1) t w};{exact pZ a0 n0 c0 b off n1 c1 f1 t w hn1 g}
theorem qd (b off n0 c0:Nat)(a1:Option Addr)(n1 c1:Nat)(f0:Nat->Source)(t:ByteArray)(w:G)(hn0:(n0:Int)<=1048576)(h:RowSource w b off n0 f0):Calls Pg 31 #[ZH #[Z (T (Q b off Y)) n0 c0,Z a1 n1 c1],U t] w λe p=>∃r:Int,e=ZG (J I r)/\PlaceOf (nm0 f0) n0 t r/\Below w.heap.size w p:=by
 obtain⟨W,f⟩:∃W:G,ZT w (N #[Z (T (Q b off Y)) n0 c0,Z a1 n1 c1] 33)=W:=⟨_,rfl⟩
 obtain⟨m,-,-⟩:=nb1 f;have g:=ae f;clear f;have o:=ae (h.aa m.out ly);have k0:ZU W (Q w.heap.size 0 Y)=T (Z (T (Q b off Y)) n0 c0):=by rw[<-g.out];simp
 clear h;go_enter TI,RJ;go_wp2;rw[g.out];clear g;go_loop [5] (λi=>∃k:Nat,k<=n0/\i=J I k/\Hid (aG (nm0 f0) k t=ZB)) (λi=>n0 - (intOf i).toNat);case atStart=>exact⟨0,by omega,rfl,rfl⟩
 case round =>
  obtain⟨k,hk,rfl,n⟩:=hrel;by_cases j:k<n0
  ·obtain⟨d0,d1⟩:=o.out.2 k j;cases hb:((f0 k).e.toList == t.toList) with
   |true =>have l:=ae hb;go_wp2;go_ret;exact⟨k,rfl,.inr ⟨k,rfl,j,l.out⟩,m.out⟩
   |false =>have l:=ae hb;go_wp2;exact⟨⟨k+1,by omega,by go_num,by show aG (nm0 f0) (k+1) t=ZB;rw[gw,n.out];exact l.out⟩,by simp[intOf];omega⟩
  ·have e:k=n0:=by omega
   subst e;go_wp2;go_ret;exact⟨-1,rfl,.inl ⟨rfl,n.out⟩,m.out⟩
theorem qe (a0:Option Addr)(c0:Nat)(a1:Option Addr)(n1 c1:Nat)(g:Nat->ByteArray)(t:ByteArray)(w:G):Calls Pg 31 #[ZH #[Z a0 0 c0,Z a1 n1 c1],U t] w λe f=>∃r:Int,e=ZG (J I r)/\PlaceOf g 0 t r/\Below w.heap.size w f:=by
 have b:=ae ((q9 w).alloc ly (N #[Z a0 0 c0,Z a1 n1 c1] 33));go_enter TI,RJ;go_wp2;go_loop [5] (λi=>i=J I 0) (λ_=>0);case atStart=>rfl
 case round =>subst hrel;go_wp2;go_ret;exact⟨-1,rfl,.inl ⟨rfl,iz _ _⟩,b.out⟩
theorem ki (a0:Option Addr)(n0 c0:Nat)(a1:Option Addr)(n1 c1:Nat)(f0:Nat->Source)(t:ByteArray)(w:G)(hn0:(n0:Int)<=1048576)(f:SlSource w a0 n0 f0):Calls Pg 31 #[ZH #[Z a0 n0 c0,Z a1 n1 c1],U t] w λe h=>∃r:Int,e=ZG (J I r)/\PlaceOf (nm0 f0) n0 t r/\Below w.heap.size w h:=by
 rcases f with rfl|⟨b,off,rfl,g⟩
 {exact qe a0 c0 a1 n1 c1 (nm0 f0) t w};{exact qd b off n0 c0 a1 n1 c1 f0 t w hn0 g}
