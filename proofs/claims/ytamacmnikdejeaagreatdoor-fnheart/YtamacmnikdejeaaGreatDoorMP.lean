import Derived.Test.YtamacmnikdejeaaGreatDoorML
import Derived.Sort.Walk0
set_option maxRecDepth 100000
set_option maxHeartbeats 16000000
set_option linter.unusedSimpArgs false
open Go renaming Addr.mk->Q,Value.slice->Y,Value.string->U,Value.int->J,Value.bool->ZC,Value.agg->ZG,Obj.cells->N,IntKind.i64->I,World->E,Ending.returned->ZF,World.heap->z,Proofs.Tryz.prog->Pg
open Option renaming none->Z,some->T
open Bool renaming false->ZA,true->ZD
open Array renaming size->B
namespace Go.Proofs.YtamacmnikdejeaaGreatDoor.Vp
open Tryz RowKit Go.Sort
variable {n i j:Nat}{g:Nat->ByteArray}{t a b:ByteArray}{w:E}{p q:Nat->Bool}
abbrev aJ (a b:ByteArray):Bool:=Op.bytesLess a.toList b.toList
theorem eC{c:ByteArray}(h1:aJ a b=ZD)(h2:aJ b c=ZD):aJ a c=ZD:=by simp only[aJ,bytesLess_eq,p6] at *;exact List.lt_trans h1 h2
theorem gC (a:ByteArray):aJ a a=ZA:=by simp only[aJ,bytesLess_eq,LH];exact List.lt_irrefl _
theorem gD (h:aL g n=ZD)(hij:i<j)(hj:j<n):aJ (g i) (g j)=ZD:=by
 induction j with
 |zero=>omega
 |succ m b =>
  have h2:=gB (show m+2<=n by omega) h;simp only[aL,nD] at h2;by_cases e:i=m;{subst e;exact h2.2};{exact eC (b (by omega) (by omega)) h2.2}
def aG (g:Nat->ByteArray)(n:Nat)(t:ByteArray):Bool:=(List.range n).any λi=>(g i).toList == t.toList
theorem iU (p:aL g n=ZD)(hi:i<=n)(h1:∀m,m<i->aJ (g m) t=ZD)(h2:∀m,i<=m->m<n->aJ (g m) t=ZA):aG g n t=(decide (i<n) && ((g i).toList == t.toList)):=by
 by_cases h:i<n
 ·simp only[h,decide_true,MR];cases e:(g i).toList == t.toList with
  |true =>simp only[aG,QN,KV];exact⟨i,h,e⟩
  |false =>
   simp only[aG,List.any_eq_false,KV];intro m o j;have f:(g m).toList=t.toList:=by simpa using j
   rcases SD m i with c|c|c;{have:=h1 m c;simp only[aJ,f] at this;have b:=gC t;simp only[aJ] at b;rw[b] at this;cases this};{subst c;rw[j] at e;cases e};{have b:=gD p c o;simp only[aJ,f] at b;have l:=h2 i ly h;simp only[aJ] at l;rw[b] at l;cases l}
 ·have e:i=n:=by omega
  subst e;simp only[Nat.lt_irrefl,decide_false,UG];simp only[aG,List.any_eq_false,KV];intro m o j;have f:(g m).toList=t.toList:=by simpa using j
  have:=h1 m o;simp only[aJ,f] at this;have b:=gC t;simp only[aJ] at b;rw[b] at this;cases this
theorem GO (x:ByteArray)(w:E):Calls Pg 206 #[U x] w λe b=>e=ZF (ZC ZA)/\b=w:=by go_enter func206,ntmps206;go_wp2;go_ret;exact⟨by simp,rfl⟩
theorem GP (x:ByteArray)(w:E):Calls Pg 183 #[U x] w λe b=>e=ZF (ZC ZA)/\b=w:=by go_enter func183,ntmps183;go_wp2;go_ret;exact⟨by simp,rfl⟩
theorem Es (x y:ByteArray)(w:E):Calls Pg 182 #[U x,U y] w λe b=>e=ZF (ZC (aJ x y))/\b=w:=by
 go_enter func182,ntmps182;go_wp2_with (go_at_call 206;refine(GO _ _).mono ?_;rintro e w1 ⟨rfl,rfl⟩);all_goals
  go_ret;exact⟨by simp,rfl⟩
theorem xD (b off n cap:Nat)(g:Nat->ByteArray)(t:ByteArray)(w:E)(hn:(n:Int)<=1048576)(y:RowStr w b off n g)(ZQ:aL g n=ZD):Calls Pg 150 #[Y (T (Q b off Z)) n cap,U t] w λe K=>∃i:Int,e=ZF (.tuple #[J I i,ZC (aG g n t)])/\K=w:=by
 have D:=ae y;have u:=ae ZQ;clear y ZQ;obtain⟨ZP,o⟩:∃ZP,ZP=aG g n t:=⟨_,rfl⟩
 rw[<-o];have H:=ae o;clear o;go_enter func150,ntmps150;go_wp2;go_loop [7,8] (λi j=>∃p q:Nat,p<=q/\q<=n/\i=J I p/\j=J I q/\Hid (∀m,m<p->aJ (g m) t=ZD)/\Hid (∀m,q<=m->m<n->aJ (g m) t=ZA)) (λi j=>(intOf j).toNat - (intOf i).toNat);case atStart=>exact⟨0,n,by omega,by omega,rfl,rfl,λm s=>absurd s (KO _),λm h1 h2=>by omega⟩
 case round =>
  obtain⟨p,q,hpq,ZO,rfl,rfl,A,ZS⟩:=hrel;by_cases hlt:p<q
  ·obtain⟨m,s⟩:∃m:Nat,m=(p+q) / 2:=⟨_,rfl⟩
   have C:p<=m:=by omega
   have hm2:m<q:=by omega
   have c0:=D.2 m (by omega);have hsh:((p:Int)+q) / 2=m:=by omega
   clear s;cases hb:aJ (g m) t with
   |true =>
    have l:=ae hb;clear hb;go_wp2_with (go_at_call 182;refine(Es _ _ _).mono ?_;rintro e ZR ⟨rfl,rfl⟩;rw[l.out]);refine⟨⟨m+1,q,by omega,ZO,by go_num,rfl,λx G=>?_,ZS⟩,by simp[intOf];omega⟩;by_cases e:x=m;{subst e;exact l};{exact eC (gD u (show x<m by omega) (by omega)) l}
   |false =>
    have l:=ae hb;clear hb;go_wp2_with (go_at_call 182;refine(Es _ _ _).mono ?_;rintro e ZR ⟨rfl,rfl⟩;rw[l.out]);refine⟨⟨p,m,C,by omega,rfl,rfl,A,λx h1 h2=>?_⟩,by simp[intOf];omega⟩;by_cases e:x=m;{subst e;exact l}
    ·cases G:aJ (g x) t with
     |false=>rfl
     |true =>have:=eC (gD u (show m<x by omega) h2) G;rw[l.out] at this;cases this
  ·have e:p=q:=by omega
   subst e;have r:=ae (H.trans (iU u ZO A ZS));by_cases h:p<n
   ·have c0:=D.2 p h;cases hb:((g p).toList == t.toList) with
    |true =>
     have f:ZP=ZD:=by rw[r.out,hb];simp[h]
     subst f;go_wp2;refine bp (v:=.tuple #[J I p,ZC ZD]) (by simp[results,TV,go_sem]) rfl (by first|exact⟨⟨_,rfl⟩,rfl⟩|exact⟨_,rfl,rfl⟩)
    |false =>
     have f:ZP=ZA:=by rw[r.out,hb];simp
     subst f;go_wp2_with (go_at_call 183;refine(GP _ _).mono ?_;rintro e ZR ⟨rfl,rfl⟩);all_goals
      refine bp (v:=.tuple #[J I p,ZC ZA]) (by simp[results,TV,go_sem]) rfl (by first|exact⟨⟨_,rfl⟩,rfl⟩|exact⟨_,rfl,rfl⟩)
   ·have f:ZP=ZA:=by rw[r.out];simp[h]
    subst f;go_wp2;refine bp (v:=.tuple #[J I p,ZC ZA]) (by simp[results,TV,go_sem]) rfl (by first|exact⟨⟨_,rfl⟩,rfl⟩|exact⟨_,rfl,rfl⟩)
theorem xE (a:Option Addr)(cap:Nat)(t:ByteArray)(w:E):Calls Pg 150 #[Y a 0 cap,U t] w λe b=>∃i:Int,e=ZF (.tuple #[J I i,ZC ZA])/\b=w:=by
 go_enter func150,ntmps150;go_wp2;go_loop [7,8] (λi j=>i=J I 0/\j=J I 0) (λ_ _=>0);case atStart=>exact⟨rfl,rfl⟩
 case round =>obtain⟨rfl,rfl⟩:=hrel;go_wp2;refine bp (v:=.tuple #[J I 0,ZC ZA]) (by simp[results,TV,go_sem]) rfl (by first|exact⟨⟨_,rfl⟩,rfl⟩|exact⟨_,rfl,rfl⟩)
theorem fW (g:Nat->ByteArray)(t:ByteArray):aG g 0 t=ZA:=rfl
theorem xF (a:Option Addr)(n cap:Nat)(g:Nat->ByteArray)(t:ByteArray)(w:E)(hn:(n:Int)<=1048576)(f:SlStr w a n g)(j:aL g n=ZD):Calls Pg 150 #[Y a n cap,U t] w λe h=>∃i:Int,e=ZF (.tuple #[J I i,ZC (aG g n t)])/\h=w:=by
 rcases f with rfl|⟨b,off,rfl,f⟩
 {exact xE a cap t w};{exact xD b off n cap g t w hn f j}
theorem rp (s:ByteArray)(bx:Nat)(a:Option Addr)(n cap:Nat)(g:Nat->ByteArray)(w:E)(hc:w.cell? (Q bx 0 Z)=T (Y a n cap))(hn:(n:Int)<=1048576)(b:SlStr w a n g)(f:aL g n=ZD):Calls Pg 149 #[U s,.pointer (T (Q bx 0 Z))] w λe h=>e=ZF (ZC (aG g n s))/\h=w:=by have j:=ae b;have l:=ae f;clear b f;go_enter func149,ntmps149;go_wp2_with fail;refine(xF a n cap g s _ hn j l).mono ?_;rintro e w1 ⟨i,rfl,rfl⟩;go_wp2;go_ret;exact⟨rfl,rfl⟩
def aM (p:Nat->Bool):Nat->Bool
 |0=>ZA
 |k+1=>aM p k || p k
theorem cW{k:Nat}(h:k<n)(b:p k=ZD):aM p n=ZD:=by
 induction n with
 |zero=>omega
 |succ m f =>
  by_cases e:k=m;{subst e;simp[aM,b]};{simp[aM,f (by omega)]}
theorem zk (b off m c:Nat)(h:Nat->ByteArray)(bx:Nat)(a:Option Addr)(n cap:Nat)(g:Nat->ByteArray)(w:E)(hm:(m:Int)<=1048576)(f:RowStr w b off m h)(t:w.cell? (Q bx 0 Z)=T (Y a n cap))(hn:(n:Int)<=1048576)(o:SlStr w a n g)(p:aL g n=ZD):Calls Pg 181 #[Y (T (Q b off Z)) m c,.func (.func 149) #[] #[.pointer (T (Q bx 0 Z))]] w λe ZS=>∃r:Int,e=ZF (J I r)/\decide (0<=r)=aM (λi=>aG g n (h i)) m/\ZS=w:=by
 have x:=ae f;have u:=ae o;have s:=ae p;clear o p f;go_enter func181,ntmps181;go_wp2;go_loop [8] (λi=>∃k:Nat,k<=m/\i=J I k/\Hid (aM (λi=>aG g n (h i)) k=ZA)) (λi=>m - (intOf i).toNat);case atStart=>exact⟨0,by omega,rfl,rfl⟩
 case round =>
  obtain⟨k,hk,rfl,q⟩:=hrel;by_cases l:k<m
  ·have c0:=x.2 k l;cases hb:aG g n (h k) with
   |true =>have j:=ae hb;clear hb;go_wp2_with (go_at_call 149;refine(rp _ bx a n cap g _ t hn u s).mono ?_;rintro e y ⟨rfl,rfl⟩;rw[j.out]);go_ret;exact⟨k,rfl,by rw[cW l j.out];simp,rfl⟩
   |false =>have j:=ae hb;clear hb;go_wp2_with (go_at_call 149;refine(rp _ bx a n cap g _ t hn u s).mono ?_;rintro e y ⟨rfl,rfl⟩;rw[j.out]);exact⟨⟨k+1,by omega,by go_num,by show aM _ (k+1)=ZA;simp[aM,q.out,j.out]⟩,by simp[intOf];omega⟩
  ·have e:k=m:=by omega
   subst e;go_wp2;go_ret;exact⟨-1,rfl,by rw[q.out];rfl,rfl⟩
theorem zm (a0:Option Addr)(c:Nat)(b:Value)(bx:Nat)(g:b=.func (.func 149) #[] #[.pointer (T (Q bx 0 Z))])(w:E):Calls Pg 181 #[Y a0 0 c,b] w λe f=>∃r:Int,e=ZF (J I r)/\decide (0<=r)=ZA/\f=w:=by
 subst g;go_enter func181,ntmps181;go_wp2;go_loop [8] (λi=>i=J I 0) (λ_=>0);case atStart=>rfl
 case round =>
  subst hrel;go_wp2;go_ret;first
   |exact⟨-1,rfl,rfl,rfl⟩
   |exact⟨-1,rfl,by decide,rfl⟩
   |exact⟨⟨-1,rfl,by decide⟩,rfl⟩
   |exact⟨-1,by decide,rfl⟩
theorem zn (a0:Option Addr)(m c:Nat)(h:Nat->ByteArray)(bx:Nat)(a:Option Addr)(n cap:Nat)(g:Nat->ByteArray)(w:E)(l:(m:Int)<=1048576)(f:SlStr w a0 m h)(p:w.cell? (Q bx 0 Z)=T (Y a n cap))(hn:(n:Int)<=1048576)(j:SlStr w a n g)(o:aL g n=ZD):Calls Pg 181 #[Y a0 m c,.func (.func 149) #[] #[.pointer (T (Q bx 0 Z))]] w λe q=>∃r:Int,e=ZF (J I r)/\decide (0<=r)=aM (λi=>aG g n (h i)) m/\q=w:=by
 rcases f with rfl|⟨b,off,rfl,f⟩
 {exact zm a0 c _ bx rfl w};{exact zk b off m c h bx a n cap g w l f p hn j o}
theorem tv (a0:Option Addr)(m c:Nat)(h:Nat->ByteArray)(bx:Nat)(a:Option Addr)(n cap:Nat)(g:Nat->ByteArray)(w:E)(s:(m:Int)<=1048576)(b:SlStr w a0 m h)(t:w.cell? (Q bx 0 Z)=T (Y a n cap))(hn:(n:Int)<=1048576)(j:SlStr w a n g)(o:aL g n=ZD):Calls Pg 148 #[Y a0 m c,.func (.func 149) #[] #[.pointer (T (Q bx 0 Z))]] w λe u=>e=ZF (ZC (aM (λi=>aG g n (h i)) m))/\u=w:=by
 have p:=ae (zn a0 m c h bx a n cap g w s b t hn j o);obtain⟨A,f⟩:∃A,A=aM (λi=>aG g n (h i)) m:=⟨_,rfl⟩
 rw[<-f];rw[<-f] at p;clear f j o b;go_enter func148,ntmps148;go_wp2_with fail;refine p.mono ?_;rintro e w1 ⟨r,rfl,l,rfl⟩;have q:=ae l;clear l;go_wp2;go_ret;exact⟨bj q,rfl⟩
theorem Bl (a0:Option Addr)(m c:Nat)(h:Nat->ByteArray)(a:Option Addr)(n cap:Nat)(g:Nat->ByteArray)(w:E)(q:(m:Int)<=1048576)(b:SlStr w a0 m h)(hn:(n:Int)<=1048576)(l:SlStr w a n g)(o:aL g n=ZD):Calls Pg 111 #[Y a0 m c,Y a n cap] w λe r=>e=ZF (ZC (aM (λi=>aG g n (h i)) m))/\Below (B (z w)) w r:=by
 have f:=ae ((BS w).alloc ly (N #[Y a n cap] 35));have p:=ae (tv a0 m c h (B (z w)) a n cap g (w.alloc (N #[Y a n cap] 35)) q (b.aa f ly) (by simp) hn (l.aa f ly) o);obtain⟨A,j⟩:∃A,A=aM (λi=>aG g n (h i)) m:=⟨_,rfl⟩
 rw[<-j];rw[<-j] at p;clear j l o b;go_enter func111,ntmps111;go_wp2_with fail;refine p.mono ?_;rintro e w1 ⟨rfl,rfl⟩;go_wp2;go_ret;exact⟨rfl,f⟩
def fO (x:Source):Bool:=decide (2000<(x.H.size:Int))
theorem ED (nm tx:ByteArray)(w:E):Calls Pg 113 #[ZG #[U nm,U tx]] w λe b=>e=ZF (ZC (decide (2000<(tx.size:Int))))/\Below (B (z w)) w b:=by go_enter func113,ntmps113;go_wp2;go_ret;exact⟨rfl,br.alloc ly _⟩
theorem xG (b off m c:Nat)(f:Nat->Source)(w:E)(hm:(m:Int)<=1048576)(h:RowSource w b off m f):Calls Pg 151 #[Y (T (Q b off Z)) m c,.func (.func 113) #[] #[]] w λe u=>∃r:Int,e=ZF (J I r)/\decide (0<=r)=aM (λi=>fO (f i)) m/\Below (B (z w)) w u:=by
 have t:=ae h;clear h;go_enter func151,ntmps151;go_wp2;go_loopw [8] (λi wr=>∃k:Nat,k<=m/\i=J I k/\Hid (aM (λi=>fO (f i)) k=ZA)/\Below (B (z w)) w wr) (λi _=>m - (intOf i).toNat);case atStart=>exact⟨0,by omega,rfl,rfl,cM _ _⟩
 case round =>
  obtain⟨k,hk,rfl,s,q⟩:=hrel;have g:=ae q;clear q;by_cases l:k<m
  ·obtain⟨c0,c1⟩:=(t.2 k l).aa g t.1;go_wp2_with fail;refine(ED _ _ _).mono ?_;rintro e w1 ⟨rfl,j⟩;have o:=ae (g.trans (j.mono g.size));clear j;cases hb:fO (f k) with
   |true =>have n:=ae hb;have h2:decide (2000<((f k).H.size:Int))=ZD:=hb;clear hb;rw[h2];clear h2;go_wp2;go_ret;exact⟨k,rfl,by rw[cW (p:=λi=>fO (f i)) l n.out];simp,o.out⟩
   |false =>have n:=ae hb;have h2:decide (2000<((f k).H.size:Int))=ZA:=hb;clear hb;rw[h2];clear h2;go_wp2;exact⟨⟨k+1,by omega,by go_num,by show aM _ (k+1)=ZA;simp[aM,s.out,n.out],o.out⟩,by simp[intOf];omega⟩
  ·have e:k=m:=by omega
   subst e;go_wp2;go_ret;exact⟨-1,rfl,by rw[s.out];rfl,g⟩
theorem xH (a0:Option Addr)(c:Nat)(w:E):Calls Pg 151 #[Y a0 0 c,.func (.func 113) #[] #[]] w λe b=>e=ZF (J I (-1))/\b=w:=by
 go_enter func151,ntmps151;go_wp2;go_loop [8] (λi=>i=J I 0) (λ_=>0);case atStart=>rfl
 case round =>subst hrel;go_wp2;go_ret;exact⟨rfl,rfl⟩
theorem xI (a0:Option Addr)(m c:Nat)(f:Nat->Source)(w:E)(j:(m:Int)<=1048576)(g:SlSource w a0 m f):Calls Pg 151 #[Y a0 m c,.func (.func 113) #[] #[]] w λe h=>∃r:Int,e=ZF (J I r)/\decide (0<=r)=aM (λi=>fO (f i)) m/\Below (B (z w)) w h:=by
 rcases g with rfl|⟨b,off,rfl,g⟩
 {exact(xH a0 c w).mono λe h ⟨p,q⟩=>⟨-1,p,rfl,by rw[q];exact cM _ _⟩};{exact xG b off m c f w j g}
theorem sA (a0:Option Addr)(m c:Nat)(f:Nat->Source)(w:E)(o:(m:Int)<=1048576)(b:SlSource w a0 m f):Calls Pg 112 #[Y a0 m c,.func (.func 113) #[] #[]] w λe p=>e=ZF (ZC (aM (λi=>fO (f i)) m))/\Below (B (z w)) w p:=by
 have h:=ae (xI a0 m c f w o b);obtain⟨A,g⟩:∃A,A=aM (λi=>fO (f i)) m:=⟨_,rfl⟩
 rw[<-g];rw[<-g] at h;clear g b;go_enter func112,ntmps112;go_wp2_with fail;refine h.mono ?_;rintro e w1 ⟨r,rfl,l,j⟩;have n:=ae l;have q:=ae j;clear l j;go_wp2;go_ret;exact⟨bj n,q⟩
def de (x:Target):Bool:=!valid x.u x.h
theorem EE (nm:ByteArray)(a:Option Addr)(n cap:Nat)(f:Nat->Ins)(w:E)(hn:n<=1048576)(h:SlIns w a n f)(b:Tab w):Calls Pg 115 #[ZG #[U nm,Y a n cap]] w λe m=>e=ZF (ZC (!valid f n))/\Below (B (z w)) w m:=by have g:=ae ((BS w).alloc ly (N #[U nm,Y a n cap] 125));have j:=ae (me a n cap f (w.alloc (N #[U nm,Y a n cap] 125)) hn (h.aa g ly) (b.aa g b.1));clear h b;go_enter func115,ntmps115;go_wp2_with fail;refine j.mono ?_;rintro e w1 ⟨rfl,i⟩;have l:=ae (g.trans (i.mono (by simp)));clear i;go_wp2;go_ret;exact⟨rfl,l⟩
theorem xJ (b off m c:Nat)(f:Nat->Target)(w:E)(hm:(m:Int)<=1048576)(j:∀i,i<m->aX (f i))(s:Tab w)(h:RowTarget w b off m f):Calls Pg 152 #[Y (T (Q b off Z)) m c,.func (.func 115) #[] #[]] w λe ZQ=>∃r:Int,e=ZF (J I r)/\decide (0<=r)=aM (λi=>de (f i)) m/\Below (B (z w)) w ZQ:=by
 have A:=ae h;have D:=ae j;have x:=ae s;clear h j s;go_enter func152,ntmps152;go_wp2;go_loopw [8] (λi wr=>∃k:Nat,k<=m/\i=J I k/\Hid (aM (λi=>de (f i)) k=ZA)/\Below (B (z w)) w wr) (λi _=>m - (intOf i).toNat);case atStart=>exact⟨0,by omega,rfl,rfl,cM _ _⟩
 case round =>
  obtain⟨k,hk,rfl,t,ZS⟩:=hrel;have g:=ae ZS;clear ZS;by_cases l:k<m
  ·obtain⟨c0,C,ZR,c1,n⟩:=(A.2 k l).aa g ly A.1;have u:=ae n;clear n;go_wp2_with fail;refine(EE (f k).e C (f k).h ZR (f k).u _ (D k l) u (x.aa g x.1)).mono ?_;rintro e w1 ⟨rfl,o⟩;have y:=ae (g.trans (o.mono g.size));clear o;cases hb:de (f k) with
   |true =>have q:=ae hb;have h2:(!valid (f k).u (f k).h)=ZD:=hb;clear hb;rw[h2];clear h2;go_wp2;go_ret;exact⟨k,rfl,by rw[cW (p:=λi=>de (f i)) l q.out];simp,y.out⟩
   |false =>have q:=ae hb;have h2:(!valid (f k).u (f k).h)=ZA:=hb;clear hb;rw[h2];clear h2;go_wp2;exact⟨⟨k+1,by omega,by go_num,by show aM _ (k+1)=ZA;simp[aM,t.out,q.out],y.out⟩,by simp[intOf];omega⟩
  ·have e:k=m:=by omega
   subst e;go_wp2;go_ret;exact⟨-1,rfl,by rw[t.out];rfl,g⟩
theorem xK (a0:Option Addr)(c:Nat)(w:E):Calls Pg 152 #[Y a0 0 c,.func (.func 115) #[] #[]] w λe b=>e=ZF (J I (-1))/\b=w:=by
 go_enter func152,ntmps152;go_wp2;go_loop [8] (λi=>i=J I 0) (λ_=>0);case atStart=>rfl
 case round =>subst hrel;go_wp2;go_ret;exact⟨rfl,rfl⟩
theorem xL (a0:Option Addr)(m c:Nat)(f:Nat->Target)(w:E)(n:(m:Int)<=1048576)(h:∀i,i<m->aX (f i))(l:Tab w)(g:SlTarget w a0 m f):Calls Pg 152 #[Y a0 m c,.func (.func 115) #[] #[]] w λe j=>∃r:Int,e=ZF (J I r)/\decide (0<=r)=aM (λi=>de (f i)) m/\Below (B (z w)) w j:=by
 rcases g with rfl|⟨b,off,rfl,g⟩
 {exact(xK a0 c w).mono λe j ⟨p,q⟩=>⟨-1,p,rfl,by rw[q];exact cM _ _⟩};{exact xJ b off m c f w n h l g}
theorem sB (a0:Option Addr)(m c:Nat)(f:Nat->Target)(w:E)(q:(m:Int)<=1048576)(g:∀i,i<m->aX (f i))(j:Tab w)(b:SlTarget w a0 m f):Calls Pg 114 #[Y a0 m c,.func (.func 115) #[] #[]] w λe t=>e=ZF (ZC (aM (λi=>de (f i)) m))/\Below (B (z w)) w t:=by
 have o:=ae (xL a0 m c f w q g j b);obtain⟨A,h⟩:∃A,A=aM (λi=>de (f i)) m:=⟨_,rfl⟩
 rw[<-h];rw[<-h] at o;clear h b g j;go_enter func114,ntmps114;go_wp2_with fail;refine o.mono ?_;rintro e w1 ⟨r,rfl,l,n⟩;have p:=ae l;have s:=ae n;clear l n;go_wp2;go_ret;exact⟨bj p,s⟩
theorem sC (a:Option Addr)(cap:Nat)(w:E):Calls Pg 110 #[Y a 0 cap] w λe b=>e=ZF (ZC ZD)/\b=w:=by
 go_enter func110,ntmps110;go_wp2;go_loop [3] (λi=>i=J I 1) (λ_=>0);case atStart=>rfl
 case round =>subst hrel;go_wp2;go_ret;exact⟨rfl,rfl⟩
theorem lV (a:Option Addr)(n cap:Nat)(g:Nat->ByteArray)(w:E)(hn:(n:Int)<=1048576)(f:SlStr w a n g):Calls Pg 110 #[Y a n cap] w λe h=>e=ZF (ZC (aL g n))/\Below (B (z w)) w h:=by
 rcases f with rfl|⟨b,off,rfl,f⟩
 {exact(sC a cap w).mono λe h ⟨p,q⟩=>⟨p,by rw[q];exact cM _ _⟩};{exact sy b off n cap g w hn f}
abbrev nm0 (f0:Nat->Source):Nat->ByteArray:=λi=>(f0 i).e
abbrev nm1 (f1:Nat->Target):Nat->ByteArray:=λi=>(f1 i).e
def bq (n0:Nat)(f0:Nat->Source)(n1:Nat)(f1:Nat->Target):Int :=
 if 200<n0+n1 then 1 else if cJ (nm0 f0) n0=ZA then 2 else if cJ (nm1 f1) n1=ZA then 2 else if aL (nm0 f0) n0=ZA then 3 else if aL (nm1 f1) n1=ZA then 4
 else if aM (λi=>aG (nm1 f1) n1 (nm0 f0 i)) n0=ZD then 5 else if aM (λi=>fO (f0 i)) n0=ZD then 6 else if aM (λi=>de (f1 i)) n1=ZD then 7 else 0
theorem lW (a0:Option Addr)(n0 c0:Nat)(f0:Nat->Source)(a1:Option Addr)(n1 c1:Nat)(f1:Nat->Target)(w:E)(hn0:(n0:Int)<=1048576)(hn1:(n1:Int)<=1048576)(ZP:SlSource w a0 n0 f0)(H:SlTarget w a1 n1 f1)(q:∀i,i<n1->aX (f1 i))(ZM:Tab w):Calls Pg 69 #[ZG #[Y a0 n0 c0,Y a1 n1 c1]] w λe w'=>e=ZF (J I (bq n0 f0 n1 f1))/\Below (B (z w)) w w':=by
 have L:=ae ZP;have ZK:=ae H;have HF:=ae q;have W:=ae ZM;clear ZP H q ZM;obtain⟨C,u⟩:∃C,C=bq n0 f0 n1 f1:=⟨_,rfl⟩
 rw[<-u];unfold bq at u;have j:=ae u;clear u;have X:=ae ((BS w).alloc ly (N #[Y a0 n0 c0,Y a1 n1 c1] 29));go_enter func69,ntmps69;go_wp2_with fail;refine(xy a0 a1 n0 c0 n1 c1 _ hn0 hn1).mono ?_;rintro e n ⟨rfl,b⟩;have r:n.cell? (Q (B (z w)) 0 Z)=T (Y a0 n0 c0):=(b.cell (p:=(Q (B (z w)) 0 Z)) (by simp)).trans (by simp);have s:n.cell? (Q (B (z w)) 1 Z)=T (Y a1 n1 c1):=(b.cell (p:=(Q (B (z w)) 1 Z)) (by simp)).trans (by simp);have z1:B (z w)<B (z n):=by have:=b.size;simp at this;omega
 have o:=ae (X.trans (b.mono (by simp)));clear b X;by_cases h1:(200:Int)<n0+n1;{have h:=j.out;rw[j6 (by omega)] at h;subst h;go_wp2;go_ret;exact⟨rfl,o⟩};have m:=j.out;rw[eT (by omega)] at m;have D:=ae m;clear m j;go_wp2_with fail
 go_region_with (first
  |(go_at_call 107;refine(pn a0 n0 c0 a1 n1 c1 f0 _ hn0 ?_).mono ?_;(first|exact L.aa o ly|exact L.aa o.drew ly);rintro e ZL ⟨K,M,rfl,ZQ,f⟩;have S2:=ae ZQ;have t:Hid (Below (B (z n)) n ZL):=⟨f.os,f.tape,f.output,f.size,f.block⟩;have O:=ae (o.trans (t.mono o.size));have A:=(t.cell (p:=(Q (B (z w)) 0 Z)) z1).trans r;have x:=(t.cell (p:=(Q (B (z w)) 1 Z)) z1).trans s;have z2:B (z w)<B (z ZL):=lj z1 t.size;clear ZQ f)
  |(go_at_call 108;refine(pu a1 n1 c1 a0 n0 c0 f1 _ hn1 ?_).mono ?_;exact ZK.aa O ly;rintro e w3 ⟨P,ZN,rfl,G,g⟩;have ZI:=ae G;have ZJ:=ae (S2.aa g ly);have V:=ae (O.trans (g.mono O.size));have y:=(g.cell (p:=(Q (B (z w)) 0 Z)) z2).trans A;have ZO:=(g.cell (p:=(Q (B (z w)) 1 Z)) z2).trans x;have z3:B (z w)<B (z w3):=lj z2 g.size;clear G g))
 all_goals
  clear r s A x;have ZR:=V;have R:=ZJ;have S:=ZI;have r:=y;have s:=ZO;have ZS:=z3;have j:=D;clear V ZJ ZI y ZO z3 D
  iterate 7
   go_wp2_with fail;first
    |with_reducible refine(mh K n0 M (nm0 f0) _ hn0 R.out).mono ?_
    |with_reducible refine(mh P n1 ZN (nm1 f1) _ hn1 S.out).mono ?_
    |with_reducible refine(lV K n0 M (nm0 f0) _ hn0 R.out).mono ?_
    |with_reducible refine(lV P n1 ZN (nm1 f1) _ hn1 S.out).mono ?_
    |with_reducible refine(Bl K n0 M (nm0 f0) P n1 ZN (nm1 f1) _ hn0 R.out hn1 S.out aq.out).mono ?_
    |with_reducible refine(sA a0 n0 c0 f0 _ hn0 (L.out.aa ZR.out ly)).mono ?_
    |refine(sB a1 n1 c1 f1 _ hn1 HF (W.aa ZR W.1) (ZK.aa ZR ly)).mono ?_
   rintro e wx ⟨rfl,b⟩;replace r:=(b.cell (p:=(Q (B (z w)) 0 Z)) ZS).trans r;replace s:=(b.cell (p:=(Q (B (z w)) 1 Z)) ZS).trans s;replace ZS:=lj ZS b.size;replace R:=ae (R.out.aa b ly);replace S:=ae (S.out.aa b ly);replace ZR:=ae (ZR.out.trans (b.mono ZR.out.size));clear b;have h:=j.out;clear j;split at h
   ·rename_i l
    subst h;rw[l];go_wp2;go_ret;exact⟨rfl,ZR⟩
   rename_i l;have j:=ae h
   (try have aq:=ae (show aL (nm1 f1) n1=ZD from Bool.of_not_eq_false l))
   first|rw[Bool.of_not_eq_false l]|rw[Bool.of_not_eq_true l]
   clear h l
  have h:=j.out;subst h;go_wp2;go_ret;exact⟨rfl,ZR⟩
theorem fX (g:Nat->ByteArray)(k:Nat)(t:ByteArray):aG g (k+1) t=(aG g k t || ((g k).toList == t.toList)):=by simp[aG,MB]
theorem er{k:Nat}(h:k<n)(b:((g k).toList == t.toList)=ZD):aG g n t=ZD:=by simp only[aG,QN,KV];exact⟨k,h,b⟩
theorem tw (a0:Option Addr)(n0 c0 b off n1 c1:Nat)(f1:Nat->Target)(t:ByteArray)(w:E)(hn1:(n1:Int)<=1048576)(j:RowTarget w b off n1 f1):Calls Pg 74 #[ZG #[Y a0 n0 c0,Y (T (Q b off Z)) n1 c1],U t] w λe q=>∃r:Int,e=ZF (J I r)/\decide (0<=r)=aG (nm1 f1) n1 t/\Below (B (z w)) w q:=by
 obtain⟨W,h⟩:∃W:E,w.alloc (N #[Y a0 n0 c0,Y (T (Q b off Z)) n1 c1] 29)=W:=⟨_,rfl⟩
 obtain⟨m,-,-⟩:=nb1 h;have f:=ae h;clear h;have p:=ae (j.aa m ly);have k1:W.cell? (Q (B (z w)) 1 Z)=T (Y (T (Q b off Z)) n1 c1):=by rw[<-f.out];simp
 clear j;go_enter TQ,SE;go_wp2;rw[f.out];clear f;go_loop [5] (λi=>∃k:Nat,k<=n1/\i=J I k/\Hid (aG (nm1 f1) k t=ZA)) (λi=>n1 - (intOf i).toNat);case atStart=>exact⟨0,by omega,rfl,rfl⟩
 case round =>
  obtain⟨k,hk,rfl,o⟩:=hrel;by_cases l:k<n1
  ·obtain⟨d0,ka,kc,d1,_⟩:=p.2 k l;cases hb:((f1 k).e.toList == t.toList) with
   |true =>have n:=ae hb;go_wp2;go_ret;exact⟨k,rfl,by rw[er (g:=nm1 f1) l n.out];simp,m.out⟩
   |false =>have n:=ae hb;go_wp2;exact⟨⟨k+1,by omega,by go_num,by show aG (nm1 f1) (k+1) t=ZA;rw[fX,o.out];exact n⟩,by simp[intOf];omega⟩
  ·have e:k=n1:=by omega
   subst e;go_wp2;go_ret;exact⟨-1,rfl,by rw[o.out];rfl,m⟩
theorem eX (h:a.toList=b.toList):a=b:=by rw[LF,LF] at h;exact UY (Array.toList_inj.1 h)
theorem bytes_beq (h:(a.toList == b.toList)=ZD):a=b:=eX (by simpa using h)
theorem asc_one (l:aL g n=ZD)(hi:i<n)(m:j<n)(h1:((g i).toList == t.toList)=ZD)(h2:((g j).toList == t.toList)=ZD):i=j:=by
 have f:=bytes_beq h1;have b:=bytes_beq h2;rcases SD i j with h|h|h;{have:=gD l h m;rw[f,b,gC] at this;cases this};{exact h};{have:=gD l h hi;rw[f,b,gC] at this;cases this}
theorem ig (h:aM p n=ZD):∃k,k<n/\p k=ZD:=by
 induction n with
 |zero=>simp[aM] at h
 |succ m b =>
  simp only[aM,Bool.or_eq_true] at h;rcases h with h|h;{obtain⟨k,hk,f⟩:=b h;exact⟨k,by omega,f⟩};{exact⟨m,by omega,h⟩}
theorem nf{k:Nat}(h:aL g n=ZD)(f:k<n)(h1:((g k).toList == t.toList)=ZD):aM (λi=>((g i).toList == t.toList) && q i) n=q k:=by
 cases e:q k with
 |true=>exact cW f (by simp[h1,e])
 |false =>
  cases e2:aM (λi=>((g i).toList == t.toList) && q i) n with
  |false=>rfl
  |true =>obtain⟨i,hi,b⟩:=ig e2;simp only[nD] at b;obtain rfl:=asc_one h hi f b.1 h1;rw[e] at b;exact absurd b.2 (by simp)
theorem oe (h:aG g n t=ZD):∃k,k<n/\((g k).toList == t.toList)=ZD:=by simp only[aG,QN,KV] at h;exact h
theorem kL (h:aG g n t=ZA):aM (λi=>((g i).toList == t.toList) && q i) n=ZA:=by
 cases e2:aM (λi=>((g i).toList == t.toList) && q i) n with
 |false=>rfl
 |true =>obtain⟨i,hi,b⟩:=ig e2;simp only[nD] at b;rw[er hi b.1] at h;cases h
theorem mj{n0:Nat}{f0:Nat->Source}{n1:Nat}{f1:Nat->Target}(h:bq n0 f0 n1 f1=0):aL (nm0 f0) n0=ZD/\aL (nm1 f1) n1=ZD/\n0+n1<=200:=by
 unfold bq at h;split at h;· omega
 split at h;· omega
 split at h;· omega
 split at h;· omega
 split at h;· omega
 rename_i h0 _ _ b f;exact⟨by simpa using b,by simpa using f,by omega⟩
theorem slS{a:Option Addr}{f:Nat->Source}(h:SlSource w a n f)(hn:n≠0):∃b off,a=T (Q b off Z)/\RowSource w b off n f:=h.resolve_left hn
theorem slT{a:Option Addr}{f:Nat->Target}(h:SlTarget w a n f)(hn:n≠0):∃b off,a=T (Q b off Z)/\RowTarget w b off n f:=h.resolve_left hn
theorem bx2{W b:E}{u v:Value}(ZS:B (z w)<B (z W))(g:W.cell? (Q (B (z w)) 0 Z)=T u)(h:W.cell? (Q (B (z w)) 1 Z)=T v)(A:Hid (Below (B (z w)) w W))(f:Below (B (z W)) W b):b.cell? (Q (B (z w)) 0 Z)=T u/\b.cell? (Q (B (z w)) 1 Z)=T v/\(B (z w))<B (z b)/\Hid (Below (B (z w)) w b) :=
 ⟨(f.cell (p:=(Q (B (z w)) 0 Z)) ZS).trans g,(f.cell (p:=(Q (B (z w)) 1 Z)) ZS).trans h,lj ZS f.size,A.trans (f.mono A.size)⟩
theorem tA (a0:Option Addr)(n0 c0:Nat)(a1:Option Addr)(c1:Nat)(g:Nat->ByteArray)(t:ByteArray)(w:E):Calls Pg 74 #[ZG #[Y a0 n0 c0,Y a1 0 c1],U t] w λe b=>∃r:Int,e=ZF (J I r)/\decide (0<=r)=aG g 0 t/\Below (B (z w)) w b:=by
 have f:=ae ((BS w).alloc ly (N #[Y a0 n0 c0,Y a1 0 c1] 29));go_enter TQ,SE;go_wp2;go_loop [5] (λi=>i=J I 0) (λ_=>0);case atStart=>rfl
 case round =>subst hrel;go_wp2;go_ret;exact⟨-1,rfl,by rw[fW];rfl,f⟩
theorem mo (a0:Option Addr)(n0 c0:Nat)(a1:Option Addr)(n1 c1:Nat)(f1:Nat->Target)(t:ByteArray)(w:E)(hn1:(n1:Int)<=1048576)(f:SlTarget w a1 n1 f1):Calls Pg 74 #[ZG #[Y a0 n0 c0,Y a1 n1 c1],U t] w λe h=>∃r:Int,e=ZF (J I r)/\decide (0<=r)=aG (nm1 f1) n1 t/\Below (B (z w)) w h:=by
 rcases f with rfl|⟨b,off,rfl,g⟩
 {exact tA a0 n0 c0 a1 c1 (nm1 f1) t w};{exact tw a0 n0 c0 b off n1 c1 f1 t w hn1 g}
theorem eo (a0:Option Addr)(n0 c0:Nat)(f0:Nat->Source)(a1:Option Addr)(n1 c1:Nat)(f1:Nat->Target)(w:E)(hn0:(n0:Int)<=1048576)(hn1:(n1:Int)<=1048576)(mv:SlSource w a0 n0 f0)(ld:SlTarget w a1 n1 f1)(ZI:∀i,i<n1->aX (f1 i))(hs:∀i,i<n1->∀j,j<(f1 i).h->((f1 i).u j).s.size<=maxLen):Calls Pg 43 #[ZG #[Y a0 n0 c0,Y a1 n1 c1]] w λe w'=>e=ZF (J I (bq n0 f0 n1 f1))/\Below (B (z w)) w w':=by
 have V0:=ae mv;have ZL:=ae ld;have HF:=ae ZI;have HS:=ae hs;clear mv ld ZI hs;obtain⟨C,hC⟩:∃C,C=bq n0 f0 n1 f1:=⟨_,rfl⟩
 rw[<-hC];unfold bq at hC;have HC:=ae hC;clear hC;have A0:=ae ((BS w).alloc ly (N #[Y a0 n0 c0,Y a1 n1 c1] 29));have G:(w.alloc (N #[Y a0 n0 c0,Y a1 n1 c1] 29)).cell? (Q (B (z w)) 0 Z)=T (Y a0 n0 c0):=by simp
 have ZN:(w.alloc (N #[Y a0 n0 c0,Y a1 n1 c1] 29)).cell? (Q (B (z w)) 1 Z)=T (Y a1 n1 c1):=by simp
 have z0:B (z w)<(w.alloc (N #[Y a0 n0 c0,Y a1 n1 c1] 29)).heap.size:=by simp
 go_enter func43,ntmps43;by_cases h1:(200:Int)<n0+n1;{have f:=HC.out;rw[j6 (by omega)] at f;subst f;go_wp2;go_ret;exact⟨rfl,A0⟩};have ZK:=HC.out;rw[eT (by omega)] at ZK;have ZJ:=ae ZK;clear ZK HC;go_wp2;generalize World.alloc w _=W0 at A0 G ZN z0 ⊢;go_loopw [5] (λi wr=>∃k:Nat,k<=n0/\i=J I k/\Hid (cJ (nm0 f0) k=ZD)/\Below (B (z W0)) W0 wr) (λi _=>n0 - (intOf i).toNat);case atStart=>exact⟨0,by omega,rfl,rfl,cM _ _⟩
 case round =>
  obtain⟨k,ZM,rfl,o,n⟩:=hrel;obtain⟨M,L,z1,W⟩:=bx2 z0 G ZN A0 n;have p:=ae n;clear n;by_cases h:k<n0
  ·obtain⟨b,off,rfl,l⟩:=slS V0 (by omega);obtain⟨x,y⟩:=(l.2 k h).aa W l.1;clear l G ZN;go_wp2_with fail;refine(cV _ _).mono ?_;rintro e w1 ⟨rfl,t⟩;have u:=ae (p.trans (t.mono p.size));clear t;cases m:aB (f0 k).e with
   |true =>have q:=ae m;clear m;go_wp2;exact⟨⟨k+1,by omega,by go_num,by show cJ (nm0 f0) (k+1)=ZD;simp[cJ,o.out,q.out],u.out⟩,by simp[intOf];omega⟩
   |false =>have q:=ae m;have f:=ZJ.out;rw[j6 (iy (g:=(nm0 f0)) h q.out)] at f;subst f;clear m;go_wp2;go_ret;exact⟨rfl,A0.trans (u.mono A0.size)⟩
  ·have e:n0=k:=by omega
   subst e;have f:=ZJ.out;rw[eT (by simp[o.out])] at f;have aq:=ae f;clear f ZJ o p G ZN;go_wp2;generalize wr=W1 at M L z1 W ⊢;go_loopw [6] (λi wr=>∃k:Nat,k<=n1/\i=J I k/\Hid (cJ (nm1 f1) k=ZD)/\Below (B (z W1)) W1 wr) (λi _=>n1 - (intOf i).toNat);case atStart=>exact⟨0,by omega,rfl,rfl,cM _ _⟩
   case round =>
    obtain⟨k,ZM,rfl,o,n⟩:=hrel;obtain⟨H,ZR,z2,A2⟩:=bx2 z1 M L W n;have p:=ae n;clear n;by_cases h:k<n1
    ·obtain⟨b,off,rfl,l⟩:=slT ZL (by omega);obtain⟨x,ka,kc,y,_⟩:=(l.2 k h).aa A2 ly l.1;clear l M L;go_wp2_with fail;refine(cV _ _).mono ?_;rintro e w1 ⟨rfl,t⟩;have u:=ae (p.trans (t.mono p.size));clear t;cases m:aB (f1 k).e with
     |true =>have q:=ae m;clear m;go_wp2;exact⟨⟨k+1,by omega,by go_num,by show cJ (nm1 f1) (k+1)=ZD;simp[cJ,o.out,q.out],u.out⟩,by simp[intOf];omega⟩
     |false =>have q:=ae m;have f:=aq.out;rw[j6 (iy (g:=(nm1 f1)) h q.out)] at f;subst f;clear m;go_wp2;go_ret;exact⟨rfl,W.trans (u.mono W.size)⟩
    ·have e:n1=k:=by omega
     subst e;have f:=aq.out;rw[eT (by simp[o.out])] at f;have ex:=ae f;clear f aq o p M L;go_wp2;generalize wr=W2 at H ZR z2 A2 ⊢;go_loopw [7] (λi wr=>∃k:Nat,(k+1<=n0∨k=0)/\i=J I ((k:Int)+1)/\Hid (aL (nm0 f0) (k+1)=ZD)/\Below (B (z W2)) W2 wr) (λi _=>n0+1 - (intOf i).toNat);case atStart=>exact⟨0,.inr rfl,rfl,rfl,cM _ _⟩
     case round =>
      obtain⟨k,ZM,rfl,o,n⟩:=hrel;obtain⟨D,A,z3,R⟩:=bx2 z2 H ZR A2 n;have p:=ae n;clear n;by_cases h:k+1<n0
      ·obtain⟨b,off,rfl,l⟩:=slS V0 (by omega);obtain⟨x,y⟩:=(l.2 k (by omega)).aa R l.1;obtain⟨e0,e1⟩:=(l.2 (k+1) h).aa R l.1;have n6:(k:Int)+1<n0:=by omega
       clear l H ZR;go_wp2_with fail;go_quiet (fail);have u:=ae (AI p nq);clear x y e0 e1;generalize wr.drewN nq=X at u ⊢;cases m:Op.bytesLess (f0 k).e.toList (f0 (k+1)).e.toList with
       |true =>have q:=ae m;clear m;go_wp2;exact⟨⟨k+1,.inl (by omega),by go_num,by show aL (nm0 f0) (k+2)=ZD;simp[aL,o.out,q.out],u.out⟩,by simp[intOf];omega⟩
       |false =>have q:=ae m;have f:=ex.out;rw[j6 (jN (g:=(nm0 f0)) h q.out)] at f;subst f;clear m;go_wp2;go_ret;exact⟨rfl,A2.trans (u.mono A2.size)⟩
      ·have n8:¬ (k:Int)+1<n0:=by omega
       have f:=ex.out;rw[eT (by simp[gB (show n0<=k+1 by omega) o.out])] at f;have V:=ae f;clear f ex o p H ZR;go_wp2;generalize wr=W3 at D A z3 R ⊢;go_loopw [8] (λi wr=>∃k:Nat,(k+1<=n1∨k=0)/\i=J I ((k:Int)+1)/\Hid (aL (nm1 f1) (k+1)=ZD)/\Below (B (z W3)) W3 wr) (λi _=>n1+1 - (intOf i).toNat);case atStart=>exact⟨0,.inr rfl,rfl,rfl,cM _ _⟩
       case round =>
        obtain⟨k,ZM,rfl,o,n⟩:=hrel;obtain⟨ZP,O,z4,P⟩:=bx2 z3 D A R n;have p:=ae n;clear n;by_cases h:k+1<n1
        ·obtain⟨b,off,rfl,l⟩:=slT ZL (by omega);obtain⟨x,ka,kc,y,_⟩:=(l.2 k (by omega)).aa P ly l.1;obtain⟨e0,kb,kd,e1,_⟩:=(l.2 (k+1) h).aa P ly l.1;have n6:(k:Int)+1<n1:=by omega
         clear l D A;go_wp2_with fail;go_quiet (fail);have u:=ae (AI p nq);clear x y e0 e1;generalize wr.drewN nq=X at u ⊢;cases m:Op.bytesLess (f1 k).e.toList (f1 (k+1)).e.toList with
         |true =>have q:=ae m;clear m;go_wp2;exact⟨⟨k+1,.inl (by omega),by go_num,by show aL (nm1 f1) (k+2)=ZD;simp[aL,o.out,q.out],u.out⟩,by simp[intOf];omega⟩
         |false =>have q:=ae m;have f:=V.out;rw[j6 (jN (g:=(nm1 f1)) h q.out)] at f;subst f;clear m;go_wp2;go_ret;exact⟨rfl,R.trans (u.mono R.size)⟩
        ·have n8:¬ (k:Int)+1<n1:=by omega
         have f:=V.out;rw[eT (by simp[gB (show n1<=k+1 by omega) o.out])] at f;have la:=ae f;clear f V o p D A;go_wp2;generalize wr=W4 at ZP O z4 P ⊢;go_loopw [9] (λi wr=>∃k:Nat,k<=n0/\i=J I k/\Hid (aM (λi=>aG (nm1 f1) n1 (nm0 f0 i)) k=ZA)/\Below (B (z W4)) W4 wr) (λi _=>n0 - (intOf i).toNat);case atStart=>exact⟨0,by omega,rfl,rfl,cM _ _⟩
         case round =>
          obtain⟨k,ZM,rfl,o,n⟩:=hrel;obtain⟨K,ZO,z5,ZS⟩:=bx2 z4 ZP O P n;have p:=ae n;clear n;by_cases h:k<n0
          ·obtain⟨b,off,rfl,l⟩:=slS V0 (by omega);obtain⟨x,y⟩:=(l.2 k h).aa ZS l.1;clear l ZP O;go_wp2_with fail;go_region_with (go_at_call 74;refine(mo (T (Q b off Z)) n0 c0 a1 n1 c1 f1 (f0 k).e _ hn1 ?_).mono ?_;(first|exact ZL.aa ZS ly|exact ZL.aa ZS.drew ly);rintro e w1 ⟨r,rfl,hd,t⟩;have HD:=ae hd;clear hd;have u:Hid (Below (B (z wr)) wr w1):=⟨t.os,t.tape,t.output,t.size,t.block⟩;clear t);all_goals
            have B2:=ae (p.trans (u.mono p.size));clear x y u;by_cases m:0<=r
            ·have f:=la.out
             rw[j6 (cW h (by have:=HD.out;rw[MK m] at this;exact this.symm))] at f;subst f;go_wp2;go_ret;exact⟨rfl,P.trans (B2.mono P.size)⟩
            ·have q:=ae m
             go_wp2;exact⟨⟨k+1,by omega,by go_num,by show aM _ (k+1)=ZA;have:=HD.out;rw[MX q.out] at this;simp[aM,o.out,<-this],B2.out⟩,by simp[intOf];omega⟩
          ·have e:n0=k:=by omega
           subst e;have f:=la.out;rw[eT (by simp[o.out])] at f;have S:=ae f;clear f la o p ZP O;go_wp2;generalize wr=W5 at K ZO z5 ZS ⊢;go_loopw [10] (λi wr=>∃k:Nat,k<=n0/\i=J I k/\Hid (aM (λi=>fO (f0 i)) k=ZA)/\Below (B (z W5)) W5 wr) (λi _=>n0 - (intOf i).toNat);case atStart=>exact⟨0,by omega,rfl,rfl,cM _ _⟩
           case round =>
            obtain⟨k,ZM,rfl,o,n⟩:=hrel;obtain⟨bt,fd,z6,A6⟩:=bx2 z5 K ZO ZS n;have p:=ae n;clear n;by_cases h:k<n0;{obtain⟨b,off,rfl,l⟩:=slS V0 (by omega);obtain⟨x,y⟩:=(l.2 k h).aa A6 l.1;clear l K ZO;by_cases m:(2000:Int)<(f0 k).H.size;{have f:=S.out;rw[j6 (cW h (by simpa[fO] using m))] at f;subst f;go_wp2;go_ret;exact⟨rfl,ZS.trans (p.mono ZS.size)⟩};{have q:Hid (fO (f0 k)=ZA):=MX m;go_wp2;exact⟨⟨k+1,by omega,by go_num,by show aM _ (k+1)=ZA;simp[aM,o.out,q.out],p.out⟩,by simp[intOf];omega⟩}}
            ·have e:n0=k:=by omega
             subst e;have f:=S.out;rw[eT (by simp[o.out])] at f;have n7:=ae f;clear f S o p K ZO;go_wp2;generalize wr=W6 at bt fd z6 A6 ⊢;go_loopw [11,4] (λi v wr=>∃(k:Nat) (r:Int),k<=n1/\i=J I k/\v=J I r/\Hid (r=if aM (λi=>de (f1 i)) k=ZD then 7 else 0)/\Below (B (z W6)) W6 wr) (λi _ _=>n1 - (intOf i).toNat);case atStart=>exact⟨0,0,by omega,rfl,rfl,rfl,cM _ _⟩
             case round =>
              obtain⟨k,r,ZM,rfl,rfl,o,n⟩:=hrel;obtain⟨k70,k71,z7,A7⟩:=bx2 z6 bt fd A6 n;have p:=ae n;clear n;by_cases h:k<n1
              ·obtain⟨b,off,rfl,l⟩:=slT ZL (by omega);obtain⟨x,ka,kc,y,hx⟩:=(l.2 k h).aa A7 ly l.1;have HX:=ae hx;clear l hx bt fd;go_wp2_with fail;refine(i8 ka (f1 k).h kc (f1 k).u _ (HF k h) HX (HS k h)).mono ?_;rintro e w1 ⟨rfl,t⟩;have u:=ae (p.trans (t.mono p.size));clear t x y;cases m:valid (f1 k).u (f1 k).h with
               |true =>
                have q:=ae m;clear m;have ZQ:Hid (aM (λi=>de (f1 i)) (k+1)=aM (λi=>de (f1 i)) k):=by show(aM _ k || de (f1 k))=_;rw[show de (f1 k)=ZA by unfold de;rw[q.out];rfl,Bool.or_false]
                go_wp2;exact⟨⟨k+1,r,by omega,by go_num,rfl,by show r=_;rw[ZQ.out];exact o,u⟩,by simp[intOf];omega⟩
               |false =>
                have q:=ae m;clear m;have ZQ:Hid (aM (λi=>de (f1 i)) (k+1)=ZD):=by show(aM _ k || de (f1 k))=_;rw[show de (f1 k)=ZD by unfold de;rw[q.out];rfl,Bool.or_true]
                go_wp2;exact⟨⟨k+1,7,by omega,by go_num,rfl,by show(7:Int)=_;rw[j6 ZQ.out],u.out⟩,by simp[intOf];omega⟩
              ·have e:n1=k:=by omega
               subst e;have f:=n7.out;rw[<-o.out] at f;subst f;go_wp2;go_ret;exact⟨rfl,A6.trans (p.mono A6.size)⟩
def jd (n0:Nat)(f0:Nat->Source)(n1:Nat)(f1:Nat->Target)(t:ByteArray):Bool:=aG (nm0 f0) n0 t || aG (nm1 f1) n1 t
def jP (n0:Nat)(f0:Nat->Source)(t x:ByteArray):Bool:=aM (λi=>((nm0 f0 i).toList == t.toList) && ((f0 i).H.toList == x.toList)) n0
def je (n1:Nat)(f1:Nat->Target)(t:ByteArray)(n:Nat)(f:Nat->Ins):Bool:=aM (λi=>((nm1 f1 i).toList == t.toList) && cB (f1 i).u f (f1 i).h n) n1
def gE (n0:Nat)(f0:Nat->Source)(n1:Nat)(f1:Nat->Target)(d:au):Bool :=
 if d.L=1 then !jP n0 f0 d.e d.H else if d.L=3 then !je n1 f1 d.e d.h d.u else jd n0 f0 n1 f1 d.e
def dZ (n0:Nat)(f0:Nat->Source)(n1:Nat)(f1:Nat->Target)(l:Link):Bool:=!l.ask && !(l.has == jd n0 f0 n1 f1 l.e)
def hasB (n0:Nat)(f0:Nat->Source)(n1:Nat)(f1:Nat->Target)(d:au):Bool:=aM (λk=>dZ n0 f0 n1 f1 (d.m k)) d.f
def PlaceOf (g:Nat->ByteArray)(n:Nat)(t:ByteArray)(r:Int):Prop:=(r=-1/\aG g n t=ZA)∨∃k:Nat,r=k/\k<n/\((g k).toList == t.toList)=ZD
theorem PlaceOf.has{r:Int}(h:PlaceOf g n t r):aG g n t=decide (0<=r):=by
 rcases h with ⟨rfl,h⟩|⟨k,rfl,b,h⟩
 {rw[h];rfl};{rw[er b h];simp}
theorem qp (a0:Option Addr)(n0 c0 b off n1 c1:Nat)(f1:Nat->Target)(t:ByteArray)(w:E)(hn1:(n1:Int)<=1048576)(h:RowTarget w b off n1 f1):Calls Pg 74 #[ZG #[Y a0 n0 c0,Y (T (Q b off Z)) n1 c1],U t] w λe p=>∃r:Int,e=ZF (J I r)/\PlaceOf (nm1 f1) n1 t r/\Below (B (z w)) w p:=by
 obtain⟨W,g⟩:∃W:E,w.alloc (N #[Y a0 n0 c0,Y (T (Q b off Z)) n1 c1] 29)=W:=⟨_,rfl⟩
 obtain⟨l,-,-⟩:=nb1 g;have f:=ae g;clear g;have o:=ae (h.aa l.out ly);have k1:W.cell? (Q (B (z w)) 1 Z)=T (Y (T (Q b off Z)) n1 c1):=by rw[<-f.out];simp
 clear h;go_enter TQ,SE;go_wp2;rw[f.out];clear f;go_loop [5] (λi=>∃k:Nat,k<=n1/\i=J I k/\Hid (aG (nm1 f1) k t=ZA)) (λi=>n1 - (intOf i).toNat);case atStart=>exact⟨0,by omega,rfl,rfl⟩
 case round =>
  obtain⟨k,hk,rfl,n⟩:=hrel;by_cases j:k<n1
  ·obtain⟨d0,ka,kc,d1,_⟩:=o.out.2 k j;cases hb:((f1 k).e.toList == t.toList) with
   |true =>have m:=ae hb;go_wp2;go_ret;exact⟨k,rfl,.inr ⟨k,rfl,j,m.out⟩,l.out⟩
   |false =>have m:=ae hb;go_wp2;exact⟨⟨k+1,by omega,by go_num,by show aG (nm1 f1) (k+1) t=ZA;rw[fX,n.out];exact m.out⟩,by simp[intOf];omega⟩
  ·have e:k=n1:=by omega
   subst e;go_wp2;go_ret;exact⟨-1,rfl,.inl ⟨rfl,n.out⟩,l.out⟩
theorem qq (a0:Option Addr)(n0 c0:Nat)(a1:Option Addr)(c1:Nat)(g:Nat->ByteArray)(t:ByteArray)(w:E):Calls Pg 74 #[ZG #[Y a0 n0 c0,Y a1 0 c1],U t] w λe b=>∃r:Int,e=ZF (J I r)/\PlaceOf g 0 t r/\Below (B (z w)) w b:=by
 have f:=ae ((BS w).alloc ly (N #[Y a0 n0 c0,Y a1 0 c1] 29));go_enter TQ,SE;go_wp2;go_loop [5] (λi=>i=J I 0) (λ_=>0);case atStart=>rfl
 case round =>subst hrel;go_wp2;go_ret;exact⟨-1,rfl,.inl ⟨rfl,fW _ _⟩,f.out⟩
theorem jZ (a0:Option Addr)(n0 c0:Nat)(a1:Option Addr)(n1 c1:Nat)(f1:Nat->Target)(t:ByteArray)(w:E)(hn1:(n1:Int)<=1048576)(f:SlTarget w a1 n1 f1):Calls Pg 74 #[ZG #[Y a0 n0 c0,Y a1 n1 c1],U t] w λe h=>∃r:Int,e=ZF (J I r)/\PlaceOf (nm1 f1) n1 t r/\Below (B (z w)) w h:=by
 rcases f with rfl|⟨b,off,rfl,g⟩
 {exact qq a0 n0 c0 a1 c1 (nm1 f1) t w};{exact qp a0 n0 c0 b off n1 c1 f1 t w hn1 g}
theorem qt (b off n0 c0:Nat)(a1:Option Addr)(n1 c1:Nat)(f0:Nat->Source)(t:ByteArray)(w:E)(hn0:(n0:Int)<=1048576)(j:RowSource w b off n0 f0):Calls Pg 73 #[ZG #[Y (T (Q b off Z)) n0 c0,Y a1 n1 c1],U t] w λe p=>∃r:Int,e=ZF (J I r)/\PlaceOf (nm0 f0) n0 t r/\Below (B (z w)) w p:=by
 obtain⟨W,g⟩:∃W:E,w.alloc (N #[Y (T (Q b off Z)) n0 c0,Y a1 n1 c1] 29)=W:=⟨_,rfl⟩
 obtain⟨l,-,-⟩:=nb1 g;have f:=ae g;clear g;have o:=ae (j.aa l.out ly);have k0:W.cell? (Q (B (z w)) 0 Z)=T (Y (T (Q b off Z)) n0 c0):=by rw[<-f.out];simp
 clear j;go_enter TS,SF;go_wp2;rw[f.out];clear f;go_loop [5] (λi=>∃k:Nat,k<=n0/\i=J I k/\Hid (aG (nm0 f0) k t=ZA)) (λi=>n0 - (intOf i).toNat);case atStart=>exact⟨0,by omega,rfl,rfl⟩
 case round =>
  obtain⟨k,hk,rfl,n⟩:=hrel;by_cases h:k<n0
  ·obtain⟨d0,d1⟩:=o.out.2 k h;cases hb:((f0 k).e.toList == t.toList) with
   |true =>have m:=ae hb;go_wp2;go_ret;exact⟨k,rfl,.inr ⟨k,rfl,h,m.out⟩,l.out⟩
   |false =>have m:=ae hb;go_wp2;exact⟨⟨k+1,by omega,by go_num,by show aG (nm0 f0) (k+1) t=ZA;rw[fX,n.out];exact m.out⟩,by simp[intOf];omega⟩
  ·have e:k=n0:=by omega
   subst e;go_wp2;go_ret;exact⟨-1,rfl,.inl ⟨rfl,n.out⟩,l.out⟩
theorem qu (a0:Option Addr)(c0:Nat)(a1:Option Addr)(n1 c1:Nat)(g:Nat->ByteArray)(t:ByteArray)(w:E):Calls Pg 73 #[ZG #[Y a0 0 c0,Y a1 n1 c1],U t] w λe b=>∃r:Int,e=ZF (J I r)/\PlaceOf g 0 t r/\Below (B (z w)) w b:=by
 have f:=ae ((BS w).alloc ly (N #[Y a0 0 c0,Y a1 n1 c1] 29));go_enter TS,SF;go_wp2;go_loop [5] (λi=>i=J I 0) (λ_=>0);case atStart=>rfl
 case round =>subst hrel;go_wp2;go_ret;exact⟨-1,rfl,.inl ⟨rfl,fW _ _⟩,f.out⟩
theorem j7 (a0:Option Addr)(n0 c0:Nat)(a1:Option Addr)(n1 c1:Nat)(f0:Nat->Source)(t:ByteArray)(w:E)(hn0:(n0:Int)<=1048576)(f:SlSource w a0 n0 f0):Calls Pg 73 #[ZG #[Y a0 n0 c0,Y a1 n1 c1],U t] w λe h=>∃r:Int,e=ZF (J I r)/\PlaceOf (nm0 f0) n0 t r/\Below (B (z w)) w h:=by
 rcases f with rfl|⟨b,off,rfl,g⟩
 {exact qu a0 c0 a1 n1 c1 (nm0 f0) t w};{exact qt b off n0 c0 a1 n1 c1 f0 t w hn0 g}
