import Derived.Test.YtpmnbjkjpnclaaaGreatDoorMM
import Derived.Sort.Walk0
set_option maxRecDepth 100000
set_option maxHeartbeats 16000000
set_option linter.unusedSimpArgs false
open Go renaming Addr.mk->N,Value.slice->Y,Value.string->U,Value.int->Q,Value.bool->ZC,Value.agg->ZG,Obj.cells->J,IntKind.i64->I,World->M,Ending.returned->ZD,World.heap->z,Proofs.Tryz.prog->Pg
open Option renaming none->Z,some->T
open Bool renaming false->ZA,true->ZF
open Array renaming size->B
namespace Go.Proofs.YtpmnbjkjpnclaaaGreatDoor.Vp
open Tryz RowKit Go.Sort
variable {n i j:Nat}{g:Nat->ByteArray}{t a b:ByteArray}{w:M}{p q:Nat->Bool}
abbrev aG (a b:ByteArray):Bool:=Op.bytesLess a.toList b.toList
theorem dR{c:ByteArray}(h1:aG a b=ZF)(h2:aG b c=ZF):aG a c=ZF:=by simp only[aG,bytesLess_eq,xT] at *;exact List.lt_trans h1 h2
theorem fM (a:ByteArray):aG a a=ZA:=by simp only[aG,bytesLess_eq,JY];exact QB _
theorem fN (h:aP g n=ZF)(hij:i<j)(hj:j<n):aG (g i) (g j)=ZF:=by
 induction j with
 |zero=>omega
 |succ m b =>
  have h2:=fL (show m+2<=n by omega) h;simp only[aP,p6] at h2;by_cases e:i=m;{subst e;exact h2.2};{exact dR (b (by omega) (by omega)) h2.2}
def aF (g:Nat->ByteArray)(n:Nat)(t:ByteArray):Bool:=(List.range n).any λi=>(g i).toList == t.toList
theorem lQ (p:aP g n=ZF)(hi:i<=n)(h1:∀m,m<i->aG (g m) t=ZF)(h2:∀m,i<=m->m<n->aG (g m) t=ZA):aF g n t=(decide (i<n) && ((g i).toList == t.toList)):=by
 by_cases h:i<n
 ·simp only[h,decide_true,ND];cases e:(g i).toList == t.toList with
  |true =>simp only[aF,OT,J4];exact⟨i,h,e⟩
  |false =>
   simp only[aF,List.any_eq_false,J4];intro m o j;have f:(g m).toList=t.toList:=by simpa using j
   rcases QA m i with c|c|c;{have:=h1 m c;simp only[aG,f] at this;have b:=fM t;simp only[aG] at b;rw[b] at this;cases this};{subst c;rw[j] at e;cases e};{have b:=fN p c o;simp only[aG,f] at b;have l:=h2 i ly h;simp only[aG] at l;rw[b] at l;cases l}
 ·have e:i=n:=by omega
  subst e;simp only[Nat.lt_irrefl,decide_false,SZ];simp only[aF,List.any_eq_false,J4];intro m o j;have f:(g m).toList=t.toList:=by simpa using j
  have:=h1 m o;simp only[aG,f] at this;have b:=fM t;simp only[aG] at b;rw[b] at this;cases this
theorem Fx (x:ByteArray)(w:M):Calls Pg 290 #[U x] w λe b=>e=ZD (ZC ZA)/\b=w:=by go_enter func290,ntmps290;go_wp2;go_ret;exact⟨by simp,rfl⟩
theorem Fy (x:ByteArray)(w:M):Calls Pg 266 #[U x] w λe b=>e=ZD (ZC ZA)/\b=w:=by go_enter func266,ntmps266;go_wp2;go_ret;exact⟨by simp,rfl⟩
theorem Cr (x y:ByteArray)(w:M):Calls Pg 259 #[U x,U y] w λe b=>e=ZD (ZC (aG x y))/\b=w:=by
 go_enter func259,ntmps259;go_wp2_with (go_at_call 290;refine(Fx _ _).mono ?_;rintro e w1 ⟨rfl,rfl⟩);all_goals
  go_ret;exact⟨by simp,rfl⟩
theorem vP (b off n cap:Nat)(g:Nat->ByteArray)(t:ByteArray)(w:M)(hn:(n:Int)<=1048576)(y:RowStr w b off n g)(E:aP g n=ZF):Calls Pg 217 #[Y (T (N b off Z)) n cap,U t] w λe K=>∃i:Int,e=ZD (.tuple #[Q I i,ZC (aF g n t)])/\K=w:=by
 have ZS:=ae y;have r:=ae E;clear y E;obtain⟨ZP,o⟩:∃ZP,ZP=aF g n t:=⟨_,rfl⟩
 rw[<-o];have D:=ae o;clear o;go_enter func217,ntmps217;go_wp2;go_loop [7,8] (λi j=>∃p q:Nat,p<=q/\q<=n/\i=Q I p/\j=Q I q/\Hid (∀m,m<p->aG (g m) t=ZF)/\Hid (∀m,q<=m->m<n->aG (g m) t=ZA)) (λi j=>(intOf j).toNat - (intOf i).toNat);case atStart=>exact⟨0,n,by omega,by omega,rfl,rfl,λm u=>absurd u (JI _),λm h1 h2=>by omega⟩
 case round =>
  obtain⟨p,q,hpq,H,rfl,rfl,ZR,C⟩:=hrel;by_cases hlt:p<q
  ·obtain⟨m,u⟩:∃m:Nat,m=(p+q) / 2:=⟨_,rfl⟩
   have A:p<=m:=by omega
   have hm2:m<q:=by omega
   have c0:=ZS.2 m (by omega);have hsh:((p:Int)+q) / 2=m:=by omega
   clear u;cases hb:aG (g m) t with
   |true =>
    have h:=ae hb;clear hb;go_wp2_with (go_at_call 259;refine(Cr _ _ _).mono ?_;rintro e G ⟨rfl,rfl⟩;rw[h.out]);refine⟨⟨m+1,q,by omega,H,by go_num,rfl,λx ZO=>?_,C⟩,by simp[intOf];omega⟩;by_cases e:x=m;{subst e;exact h};{exact dR (fN r (show x<m by omega) (by omega)) h}
   |false =>
    have h:=ae hb;clear hb;go_wp2_with (go_at_call 259;refine(Cr _ _ _).mono ?_;rintro e G ⟨rfl,rfl⟩;rw[h.out]);refine⟨⟨p,m,A,by omega,rfl,rfl,ZR,λx h1 h2=>?_⟩,by simp[intOf];omega⟩;by_cases e:x=m;{subst e;exact h}
    ·cases ZO:aG (g x) t with
     |false=>rfl
     |true =>have:=dR (fN r (show m<x by omega) h2) ZO;rw[h.out] at this;cases this
  ·have e:p=q:=by omega
   subst e;have s:=ae (D.trans (lQ r H ZR C));by_cases l:p<n
   ·have c0:=ZS.2 p l;cases hb:((g p).toList == t.toList) with
    |true =>
     have f:ZP=ZF:=by rw[s.out,hb];simp[l]
     subst f;go_wp2;refine bp (v:=.tuple #[Q I p,ZC ZF]) (by simp[results,RZ,go_sem]) rfl (by first|exact⟨⟨_,rfl⟩,rfl⟩|exact⟨_,rfl,rfl⟩)
    |false =>
     have f:ZP=ZA:=by rw[s.out,hb];simp
     subst f;go_wp2_with (go_at_call 266;refine(Fy _ _).mono ?_;rintro e G ⟨rfl,rfl⟩);all_goals
      refine bp (v:=.tuple #[Q I p,ZC ZA]) (by simp[results,RZ,go_sem]) rfl (by first|exact⟨⟨_,rfl⟩,rfl⟩|exact⟨_,rfl,rfl⟩)
   ·have f:ZP=ZA:=by rw[s.out];simp[l]
    subst f;go_wp2;refine bp (v:=.tuple #[Q I p,ZC ZA]) (by simp[results,RZ,go_sem]) rfl (by first|exact⟨⟨_,rfl⟩,rfl⟩|exact⟨_,rfl,rfl⟩)
theorem vQ (a:Option Addr)(cap:Nat)(t:ByteArray)(w:M):Calls Pg 217 #[Y a 0 cap,U t] w λe b=>∃i:Int,e=ZD (.tuple #[Q I i,ZC ZA])/\b=w:=by
 go_enter func217,ntmps217;go_wp2;go_loop [7,8] (λi j=>i=Q I 0/\j=Q I 0) (λ_ _=>0);case atStart=>exact⟨rfl,rfl⟩
 case round =>obtain⟨rfl,rfl⟩:=hrel;go_wp2;refine bp (v:=.tuple #[Q I 0,ZC ZA]) (by simp[results,RZ,go_sem]) rfl (by first|exact⟨⟨_,rfl⟩,rfl⟩|exact⟨_,rfl,rfl⟩)
theorem fy (g:Nat->ByteArray)(t:ByteArray):aF g 0 t=ZA:=rfl
theorem vR (a:Option Addr)(n cap:Nat)(g:Nat->ByteArray)(t:ByteArray)(w:M)(hn:(n:Int)<=1048576)(f:SlStr w a n g)(h:aP g n=ZF):Calls Pg 217 #[Y a n cap,U t] w λe j=>∃i:Int,e=ZD (.tuple #[Q I i,ZC (aF g n t)])/\j=w:=by
 rcases f with rfl|⟨b,off,rfl,f⟩
 {exact vQ a cap t w};{exact vP b off n cap g t w hn f h}
theorem pN (s:ByteArray)(bx:Nat)(a:Option Addr)(n cap:Nat)(g:Nat->ByteArray)(w:M)(hc:w.cell? (N bx 0 Z)=T (Y a n cap))(hn:(n:Int)<=1048576)(f:SlStr w a n g)(b:aP g n=ZF):Calls Pg 216 #[U s,.pointer (T (N bx 0 Z))] w λe l=>e=ZD (ZC (aF g n s))/\l=w:=by have h:=ae f;have j:=ae b;clear f b;go_enter func216,ntmps216;go_wp2_with fail;refine(vR a n cap g s _ hn h j).mono ?_;rintro e w1 ⟨i,rfl,rfl⟩;go_wp2;go_ret;exact⟨rfl,rfl⟩
def aM (p:Nat->Bool):Nat->Bool
 |0=>ZA
 |k+1=>aM p k || p k
theorem dy{k:Nat}(h:k<n)(b:p k=ZF):aM p n=ZF:=by
 induction n with
 |zero=>omega
 |succ m f =>
  by_cases e:k=m;{subst e;simp[aM,b]};{simp[aM,f (by omega)]}
theorem xN (b off m c:Nat)(h:Nat->ByteArray)(bx:Nat)(a:Option Addr)(n cap:Nat)(g:Nat->ByteArray)(w:M)(hm:(m:Int)<=1048576)(f:RowStr w b off m h)(u:w.cell? (N bx 0 Z)=T (Y a n cap))(hn:(n:Int)<=1048576)(o:SlStr w a n g)(t:aP g n=ZF):Calls Pg 265 #[Y (T (N b off Z)) m c,.func (.func 216) #[] #[.pointer (T (N bx 0 Z))]] w λe ZS=>∃r:Int,e=ZD (Q I r)/\decide (0<=r)=aM (λi=>aF g n (h i)) m/\ZS=w:=by
 have y:=ae f;have q:=ae o;have s:=ae t;clear o t f;go_enter func265,ntmps265;go_wp2;go_loop [8] (λi=>∃k:Nat,k<=m/\i=Q I k/\Hid (aM (λi=>aF g n (h i)) k=ZA)) (λi=>m - (intOf i).toNat);case atStart=>exact⟨0,by omega,rfl,rfl⟩
 case round =>
  obtain⟨k,hk,rfl,p⟩:=hrel;by_cases l:k<m
  ·have c0:=y.2 k l;cases hb:aF g n (h k) with
   |true =>have j:=ae hb;clear hb;go_wp2_with (go_at_call 216;refine(pN _ bx a n cap g _ u hn q s).mono ?_;rintro e x ⟨rfl,rfl⟩;rw[j.out]);go_ret;exact⟨k,rfl,by rw[dy l j.out];simp,rfl⟩
   |false =>have j:=ae hb;clear hb;go_wp2_with (go_at_call 216;refine(pN _ bx a n cap g _ u hn q s).mono ?_;rintro e x ⟨rfl,rfl⟩;rw[j.out]);exact⟨⟨k+1,by omega,by go_num,by show aM _ (k+1)=ZA;simp[aM,p.out,j.out]⟩,by simp[intOf];omega⟩
  ·have e:k=m:=by omega
   subst e;go_wp2;go_ret;exact⟨-1,rfl,by rw[p.out];rfl,rfl⟩
theorem xO (a0:Option Addr)(c:Nat)(b:Value)(bx:Nat)(g:b=.func (.func 216) #[] #[.pointer (T (N bx 0 Z))])(w:M):Calls Pg 265 #[Y a0 0 c,b] w λe f=>∃r:Int,e=ZD (Q I r)/\decide (0<=r)=ZA/\f=w:=by
 subst g;go_enter func265,ntmps265;go_wp2;go_loop [8] (λi=>i=Q I 0) (λ_=>0);case atStart=>rfl
 case round =>
  subst hrel;go_wp2;go_ret;first
   |exact⟨-1,rfl,rfl,rfl⟩
   |exact⟨-1,rfl,by decide,rfl⟩
   |exact⟨⟨-1,rfl,by decide⟩,rfl⟩
   |exact⟨-1,by decide,rfl⟩
theorem xP (a0:Option Addr)(m c:Nat)(h:Nat->ByteArray)(bx:Nat)(a:Option Addr)(n cap:Nat)(g:Nat->ByteArray)(w:M)(l:(m:Int)<=1048576)(f:SlStr w a0 m h)(p:w.cell? (N bx 0 Z)=T (Y a n cap))(hn:(n:Int)<=1048576)(j:SlStr w a n g)(o:aP g n=ZF):Calls Pg 265 #[Y a0 m c,.func (.func 216) #[] #[.pointer (T (N bx 0 Z))]] w λe q=>∃r:Int,e=ZD (Q I r)/\decide (0<=r)=aM (λi=>aF g n (h i)) m/\q=w:=by
 rcases f with rfl|⟨b,off,rfl,f⟩
 {exact xO a0 c _ bx rfl w};{exact xN b off m c h bx a n cap g w l f p hn j o}
theorem rA (a0:Option Addr)(m c:Nat)(h:Nat->ByteArray)(bx:Nat)(a:Option Addr)(n cap:Nat)(g:Nat->ByteArray)(w:M)(s:(m:Int)<=1048576)(b:SlStr w a0 m h)(t:w.cell? (N bx 0 Z)=T (Y a n cap))(hn:(n:Int)<=1048576)(j:SlStr w a n g)(o:aP g n=ZF):Calls Pg 215 #[Y a0 m c,.func (.func 216) #[] #[.pointer (T (N bx 0 Z))]] w λe u=>e=ZD (ZC (aM (λi=>aF g n (h i)) m))/\u=w:=by
 have l:=ae (xP a0 m c h bx a n cap g w s b t hn j o);obtain⟨A,f⟩:∃A,A=aM (λi=>aF g n (h i)) m:=⟨_,rfl⟩
 rw[<-f];rw[<-f] at l;clear f j o b;go_enter func215,ntmps215;go_wp2_with fail;refine l.mono ?_;rintro e w1 ⟨r,rfl,p,rfl⟩;have q:=ae p;clear p;go_wp2;go_ret;exact⟨bq q,rfl⟩
theorem zC (a0:Option Addr)(m c:Nat)(h:Nat->ByteArray)(a:Option Addr)(n cap:Nat)(g:Nat->ByteArray)(w:M)(q:(m:Int)<=1048576)(b:SlStr w a0 m h)(hn:(n:Int)<=1048576)(l:SlStr w a n g)(p:aP g n=ZF):Calls Pg 162 #[Y a0 m c,Y a n cap] w λe r=>e=ZD (ZC (aM (λi=>aF g n (h i)) m))/\Below (B (z w)) w r:=by
 have f:=ae ((BS w).alloc ly (J #[Y a n cap] 30));have o:=ae (rA a0 m c h (B (z w)) a n cap g (w.alloc (J #[Y a n cap] 30)) q (b.aa f ly) (by simp) hn (l.aa f ly) p);obtain⟨A,j⟩:∃A,A=aM (λi=>aF g n (h i)) m:=⟨_,rfl⟩
 rw[<-j];rw[<-j] at o;clear j l p b;go_enter func162,ntmps162;go_wp2_with fail;refine o.mono ?_;rintro e w1 ⟨rfl,rfl⟩;go_wp2;go_ret;exact⟨rfl,f⟩
def fo (x:Source):Bool:=decide (2000<(x.y.size:Int))
theorem CE (nm tx:ByteArray)(w:M):Calls Pg 164 #[ZG #[U nm,U tx]] w λe b=>e=ZD (ZC (decide (2000<(tx.size:Int))))/\Below (B (z w)) w b:=by go_enter func164,ntmps164;go_wp2;go_ret;exact⟨rfl,br.alloc ly _⟩
theorem vS (b off m c:Nat)(f:Nat->Source)(w:M)(hm:(m:Int)<=1048576)(h:RowSource w b off m f):Calls Pg 218 #[Y (T (N b off Z)) m c,.func (.func 164) #[] #[]] w λe u=>∃r:Int,e=ZD (Q I r)/\decide (0<=r)=aM (λi=>fo (f i)) m/\Below (B (z w)) w u:=by
 have q:=ae h;clear h;go_enter func218,ntmps218;go_wp2;go_loopw [8] (λi wr=>∃k:Nat,k<=m/\i=Q I k/\Hid (aM (λi=>fo (f i)) k=ZA)/\Below (B (z w)) w wr) (λi _=>m - (intOf i).toNat);case atStart=>exact⟨0,by omega,rfl,rfl,cM _ _⟩
 case round =>
  obtain⟨k,hk,rfl,o,t⟩:=hrel;have g:=ae t;clear t;by_cases l:k<m
  ·obtain⟨c0,c1⟩:=(q.2 k l).aa g q.1;go_wp2_with fail;refine(CE _ _ _).mono ?_;rintro e w1 ⟨rfl,j⟩;have s:=ae (g.trans (j.mono g.size));clear j;cases hb:fo (f k) with
   |true =>have n:=ae hb;have h2:decide (2000<((f k).y.size:Int))=ZF:=hb;clear hb;rw[h2];clear h2;go_wp2;go_ret;exact⟨k,rfl,by rw[dy (p:=λi=>fo (f i)) l n.out];simp,s.out⟩
   |false =>have n:=ae hb;have h2:decide (2000<((f k).y.size:Int))=ZA:=hb;clear hb;rw[h2];clear h2;go_wp2;exact⟨⟨k+1,by omega,by go_num,by show aM _ (k+1)=ZA;simp[aM,o.out,n.out],s.out⟩,by simp[intOf];omega⟩
  ·have e:k=m:=by omega
   subst e;go_wp2;go_ret;exact⟨-1,rfl,by rw[o.out];rfl,g⟩
theorem vT (a0:Option Addr)(c:Nat)(w:M):Calls Pg 218 #[Y a0 0 c,.func (.func 164) #[] #[]] w λe b=>e=ZD (Q I (-1))/\b=w:=by
 go_enter func218,ntmps218;go_wp2;go_loop [8] (λi=>i=Q I 0) (λ_=>0);case atStart=>rfl
 case round =>subst hrel;go_wp2;go_ret;exact⟨rfl,rfl⟩
theorem vU (a0:Option Addr)(m c:Nat)(f:Nat->Source)(w:M)(j:(m:Int)<=1048576)(g:SlSource w a0 m f):Calls Pg 218 #[Y a0 m c,.func (.func 164) #[] #[]] w λe h=>∃r:Int,e=ZD (Q I r)/\decide (0<=r)=aM (λi=>fo (f i)) m/\Below (B (z w)) w h:=by
 rcases g with rfl|⟨b,off,rfl,g⟩
 {exact(vT a0 c w).mono λe h ⟨p,q⟩=>⟨-1,p,rfl,by rw[q];exact cM _ _⟩};{exact vS b off m c f w j g}
theorem qI (a0:Option Addr)(m c:Nat)(f:Nat->Source)(w:M)(p:(m:Int)<=1048576)(b:SlSource w a0 m f):Calls Pg 163 #[Y a0 m c,.func (.func 164) #[] #[]] w λe q=>e=ZD (ZC (aM (λi=>fo (f i)) m))/\Below (B (z w)) w q:=by
 have h:=ae (vU a0 m c f w p b);obtain⟨A,g⟩:∃A,A=aM (λi=>fo (f i)) m:=⟨_,rfl⟩
 rw[<-g];rw[<-g] at h;clear g b;go_enter func163,ntmps163;go_wp2_with fail;refine h.mono ?_;rintro e w1 ⟨r,rfl,j,l⟩;have o:=ae j;have n:=ae l;clear j l;go_wp2;go_ret;exact⟨bq o,n⟩
def cK (x:Target):Bool:=!valid x.D x.m
theorem CF (nm:ByteArray)(a:Option Addr)(n cap:Nat)(f:Nat->Ins)(w:M)(hn:n<=1048576)(h:SlIns w a n f)(g:Tab w):Calls Pg 166 #[ZG #[U nm,Y a n cap]] w λe m=>e=ZD (ZC (!valid f n))/\Below (B (z w)) w m:=by have b:=ae ((BS w).alloc ly (J #[U nm,Y a n cap] 146));have j:=ae (kL a n cap f (w.alloc (J #[U nm,Y a n cap] 146)) hn (h.aa b ly) (g.aa b g.1));clear h g;go_enter func166,ntmps166;go_wp2_with fail;refine j.mono ?_;rintro e w1 ⟨rfl,i⟩;have l:=ae (b.trans (i.mono (by simp)));clear i;go_wp2;go_ret;exact⟨rfl,l⟩
theorem vV (b off m c:Nat)(f:Nat->Target)(w:M)(hm:(m:Int)<=1048576)(h:∀i,i<m->aY (f i))(y:Tab w)(l:RowTarget w b off m f):Calls Pg 219 #[Y (T (N b off Z)) m c,.func (.func 166) #[] #[]] w λe E=>∃r:Int,e=ZD (Q I r)/\decide (0<=r)=aM (λi=>cK (f i)) m/\Below (B (z w)) w E:=by
 have ZS:=ae l;have D:=ae h;have x:=ae y;clear l h y;go_enter func219,ntmps219;go_wp2;go_loopw [8] (λi wr=>∃k:Nat,k<=m/\i=Q I k/\Hid (aM (λi=>cK (f i)) k=ZA)/\Below (B (z w)) w wr) (λi _=>m - (intOf i).toNat);case atStart=>exact⟨0,by omega,rfl,rfl,cM _ _⟩
 case round =>
  obtain⟨k,hk,rfl,s,A⟩:=hrel;have g:=ae A;clear A;by_cases j:k<m
  ·obtain⟨c0,ZR,C,c1,o⟩:=(ZS.2 k j).aa g ly ZS.1;have t:=ae o;clear o;go_wp2_with fail;refine(CF (f k).e ZR (f k).m C (f k).D _ (D k j) t (x.aa g x.1)).mono ?_;rintro e w1 ⟨rfl,n⟩;have u:=ae (g.trans (n.mono g.size));clear n;cases hb:cK (f k) with
   |true =>have q:=ae hb;have h2:(!valid (f k).D (f k).m)=ZF:=hb;clear hb;rw[h2];clear h2;go_wp2;go_ret;exact⟨k,rfl,by rw[dy (p:=λi=>cK (f i)) j q.out];simp,u.out⟩
   |false =>have q:=ae hb;have h2:(!valid (f k).D (f k).m)=ZA:=hb;clear hb;rw[h2];clear h2;go_wp2;exact⟨⟨k+1,by omega,by go_num,by show aM _ (k+1)=ZA;simp[aM,s.out,q.out],u.out⟩,by simp[intOf];omega⟩
  ·have e:k=m:=by omega
   subst e;go_wp2;go_ret;exact⟨-1,rfl,by rw[s.out];rfl,g⟩
theorem vW (a0:Option Addr)(c:Nat)(w:M):Calls Pg 219 #[Y a0 0 c,.func (.func 166) #[] #[]] w λe b=>e=ZD (Q I (-1))/\b=w:=by
 go_enter func219,ntmps219;go_wp2;go_loop [8] (λi=>i=Q I 0) (λ_=>0);case atStart=>rfl
 case round =>subst hrel;go_wp2;go_ret;exact⟨rfl,rfl⟩
theorem vX (a0:Option Addr)(m c:Nat)(f:Nat->Target)(w:M)(n:(m:Int)<=1048576)(h:∀i,i<m->aY (f i))(l:Tab w)(g:SlTarget w a0 m f):Calls Pg 219 #[Y a0 m c,.func (.func 166) #[] #[]] w λe j=>∃r:Int,e=ZD (Q I r)/\decide (0<=r)=aM (λi=>cK (f i)) m/\Below (B (z w)) w j:=by
 rcases g with rfl|⟨b,off,rfl,g⟩
 {exact(vW a0 c w).mono λe j ⟨p,q⟩=>⟨-1,p,rfl,by rw[q];exact cM _ _⟩};{exact vV b off m c f w n h l g}
theorem qJ (a0:Option Addr)(m c:Nat)(f:Nat->Target)(w:M)(q:(m:Int)<=1048576)(g:∀i,i<m->aY (f i))(j:Tab w)(b:SlTarget w a0 m f):Calls Pg 165 #[Y a0 m c,.func (.func 166) #[] #[]] w λe t=>e=ZD (ZC (aM (λi=>cK (f i)) m))/\Below (B (z w)) w t:=by
 have l:=ae (vX a0 m c f w q g j b);obtain⟨A,h⟩:∃A,A=aM (λi=>cK (f i)) m:=⟨_,rfl⟩
 rw[<-h];rw[<-h] at l;clear h b g j;go_enter func165,ntmps165;go_wp2_with fail;refine l.mono ?_;rintro e w1 ⟨r,rfl,n,o⟩;have p:=ae n;have s:=ae o;clear n o;go_wp2;go_ret;exact⟨bq p,s⟩
theorem qK (a:Option Addr)(cap:Nat)(w:M):Calls Pg 161 #[Y a 0 cap] w λe b=>e=ZD (ZC ZF)/\b=w:=by
 go_enter func161,ntmps161;go_wp2;go_loop [3] (λi=>i=Q I 1) (λ_=>0);case atStart=>rfl
 case round =>subst hrel;go_wp2;go_ret;exact⟨rfl,rfl⟩
theorem kG (a:Option Addr)(n cap:Nat)(g:Nat->ByteArray)(w:M)(hn:(n:Int)<=1048576)(f:SlStr w a n g):Calls Pg 161 #[Y a n cap] w λe h=>e=ZD (ZC (aP g n))/\Below (B (z w)) w h:=by
 rcases f with rfl|⟨b,off,rfl,f⟩
 {exact(qK a cap w).mono λe h ⟨p,q⟩=>⟨p,by rw[q];exact cM _ _⟩};{exact qH b off n cap g w hn f}
abbrev nm0 (f0:Nat->Source):Nat->ByteArray:=λi=>(f0 i).e
abbrev nm1 (f1:Nat->Target):Nat->ByteArray:=λi=>(f1 i).e
def be (n0:Nat)(f0:Nat->Source)(n1:Nat)(f1:Nat->Target):Int :=
 if 200<n0+n1 then 1 else if ce (nm0 f0) n0=ZA then 2 else if ce (nm1 f1) n1=ZA then 2 else if aP (nm0 f0) n0=ZA then 3 else if aP (nm1 f1) n1=ZA then 4
 else if aM (λi=>aF (nm1 f1) n1 (nm0 f0 i)) n0=ZF then 5 else if aM (λi=>fo (f0 i)) n0=ZF then 6 else if aM (λi=>cK (f1 i)) n1=ZF then 7 else 0
theorem qL (a0:Option Addr)(n0 c0:Nat)(f0:Nat->Source)(a1:Option Addr)(n1 c1:Nat)(f1:Nat->Target)(w:M)(hn0:(n0:Int)<=1048576)(hn1:(n1:Int)<=1048576)(ZO:SlSource w a0 n0 f0)(H:SlTarget w a1 n1 f1)(s:∀i,i<n1->aY (f1 i))(ZL:Tab w):Calls Pg 108 #[ZG #[Y a0 n0 c0,Y a1 n1 c1]] w λe w'=>e=ZD (Q I (be n0 f0 n1 f1))/\Below (B (z w)) w w':=by
 have P:=ae ZO;have W:=ae H;have HF:=ae s;have ZJ:=ae ZL;clear ZO H s ZL;obtain⟨C,t⟩:∃C,C=be n0 f0 n1 f1:=⟨_,rfl⟩
 rw[<-t];unfold be at t;have j:=ae t;clear t;have V:=ae ((BS w).alloc ly (J #[Y a0 n0 c0,Y a1 n1 c1] 27));go_enter func108,ntmps108;go_wp2_with fail;refine(vL a0 a1 n0 c0 n1 c1 _ hn0 hn1).mono ?_;rintro e r ⟨rfl,b⟩;have m:r.cell? (N (B (z w)) 0 Z)=T (Y a0 n0 c0):=(b.cell (p:=(N (B (z w)) 0 Z)) (by simp)).trans (by simp);have o:r.cell? (N (B (z w)) 1 Z)=T (Y a1 n1 c1):=(b.cell (p:=(N (B (z w)) 1 Z)) (by simp)).trans (by simp);have z1:B (z w)<B (z r):=by have:=b.size;simp at this;omega
 have n:=ae (V.trans (b.mono (by simp)));clear b V;by_cases h1:(200:Int)<n0+n1;{have h:=j.out;rw[nL (by omega)] at h;subst h;go_wp2;go_ret;exact⟨rfl,n⟩};have q:=j.out;rw[eT (by omega)] at q;have E:=ae q;clear q j;go_wp2_with fail
 go_region_with (first
  |(go_at_call 158;refine(nQ a0 n0 c0 a1 n1 c1 f0 _ hn0 ?_).mono ?_;(first|exact P.aa n ly|exact P.aa n.drew ly);rintro e ZI ⟨K,ZQ,rfl,G,g⟩;have S2:=ae G;have u:Hid (Below (B (z r)) r ZI):=⟨g.os,g.tape,g.output,g.size,g.block⟩;have L:=ae (n.trans (u.mono n.size));have x:=(u.cell (p:=(N (B (z w)) 0 Z)) z1).trans m;have ZP:=(u.cell (p:=(N (B (z w)) 1 Z)) z1).trans o;have z2:B (z w)<B (z ZI):=lj z1 u.size;clear G g)
  |(go_at_call 159;refine(nT a1 n1 c1 a0 n0 c0 f1 _ hn1 ?_).mono ?_;exact W.aa L ly;rintro e w3 ⟨O,ZM,rfl,D,f⟩;have X:=ae D;have ZK:=ae (S2.aa f ly);have B3:=ae (L.trans (f.mono L.size));have y:=(f.cell (p:=(N (B (z w)) 0 Z)) z2).trans x;have A:=(f.cell (p:=(N (B (z w)) 1 Z)) z2).trans ZP;have z3:B (z w)<B (z w3):=lj z2 f.size;clear D f))
 all_goals
  clear m o x ZP;have ZR:=B3;have R:=ZK;have S:=X;have m:=y;have o:=A;have ZS:=z3;have j:=E;clear B3 ZK X y A z3 E
  iterate 7
   go_wp2_with fail;first
    |with_reducible refine(kM K n0 ZQ (nm0 f0) _ hn0 R.out).mono ?_
    |with_reducible refine(kM O n1 ZM (nm1 f1) _ hn1 S.out).mono ?_
    |with_reducible refine(kG K n0 ZQ (nm0 f0) _ hn0 R.out).mono ?_
    |with_reducible refine(kG O n1 ZM (nm1 f1) _ hn1 S.out).mono ?_
    |with_reducible refine(zC K n0 ZQ (nm0 f0) O n1 ZM (nm1 f1) _ hn0 R.out hn1 S.out ZN.out).mono ?_
    |with_reducible refine(qI a0 n0 c0 f0 _ hn0 (P.out.aa ZR.out ly)).mono ?_
    |refine(qJ a1 n1 c1 f1 _ hn1 HF (ZJ.aa ZR ZJ.1) (W.aa ZR ly)).mono ?_
   rintro e wx ⟨rfl,b⟩;replace m:=(b.cell (p:=(N (B (z w)) 0 Z)) ZS).trans m;replace o:=(b.cell (p:=(N (B (z w)) 1 Z)) ZS).trans o;replace ZS:=lj ZS b.size;replace R:=ae (R.out.aa b ly);replace S:=ae (S.out.aa b ly);replace ZR:=ae (ZR.out.trans (b.mono ZR.out.size));clear b;have h:=j.out;clear j;split at h
   ·rename_i l
    subst h;rw[l];go_wp2;go_ret;exact⟨rfl,ZR⟩
   rename_i l;have j:=ae h
   (try have ZN:=ae (show aP (nm1 f1) n1=ZF from Bool.of_not_eq_false l))
   first|rw[Bool.of_not_eq_false l]|rw[Bool.of_not_eq_true l]
   clear h l
  have h:=j.out;subst h;go_wp2;go_ret;exact⟨rfl,ZR⟩
theorem fA (g:Nat->ByteArray)(k:Nat)(t:ByteArray):aF g (k+1) t=(aF g k t || ((g k).toList == t.toList)):=by simp[aF,KV]
theorem dM{k:Nat}(h:k<n)(b:((g k).toList == t.toList)=ZF):aF g n t=ZF:=by simp only[aF,OT,J4];exact⟨k,h,b⟩
theorem rB (a0:Option Addr)(n0 c0 b off n1 c1:Nat)(f1:Nat->Target)(t:ByteArray)(w:M)(hn1:(n1:Int)<=1048576)(l:RowTarget w b off n1 f1):Calls Pg 52 #[ZG #[Y a0 n0 c0,Y (T (N b off Z)) n1 c1],U t] w λe q=>∃r:Int,e=ZD (Q I r)/\decide (0<=r)=aF (nm1 f1) n1 t/\Below (B (z w)) w q:=by
 obtain⟨W,f⟩:∃W:M,w.alloc (J #[Y a0 n0 c0,Y (T (N b off Z)) n1 c1] 27)=W:=⟨_,rfl⟩
 obtain⟨m,-,-⟩:=nb1 f;have h:=ae f;clear f;have p:=ae (l.aa m ly);have k1:W.cell? (N (B (z w)) 1 Z)=T (Y (T (N b off Z)) n1 c1):=by rw[<-h.out];simp
 clear l;go_enter RC,QC;go_wp2;rw[h.out];clear h;go_loop [5] (λi=>∃k:Nat,k<=n1/\i=Q I k/\Hid (aF (nm1 f1) k t=ZA)) (λi=>n1 - (intOf i).toNat);case atStart=>exact⟨0,by omega,rfl,rfl⟩
 case round =>
  obtain⟨k,hk,rfl,o⟩:=hrel;by_cases j:k<n1
  ·obtain⟨d0,ka,kc,d1,_⟩:=p.2 k j;cases hb:((f1 k).e.toList == t.toList) with
   |true =>have n:=ae hb;go_wp2;go_ret;exact⟨k,rfl,by rw[dM (g:=nm1 f1) j n.out];simp,m.out⟩
   |false =>have n:=ae hb;go_wp2;exact⟨⟨k+1,by omega,by go_num,by show aF (nm1 f1) (k+1) t=ZA;rw[fA,o.out];exact n⟩,by simp[intOf];omega⟩
  ·have e:k=n1:=by omega
   subst e;go_wp2;go_ret;exact⟨-1,rfl,by rw[o.out];rfl,m⟩
theorem fZ (h:a.toList=b.toList):a=b:=by rw[JO,JO] at h;exact T0 (Array.toList_inj.1 h)
theorem bytes_beq (h:(a.toList == b.toList)=ZF):a=b:=fZ (by simpa using h)
theorem asc_one (b:aP g n=ZF)(hi:i<n)(m:j<n)(h1:((g i).toList == t.toList)=ZF)(h2:((g j).toList == t.toList)=ZF):i=j:=by
 have f:=bytes_beq h1;have l:=bytes_beq h2;rcases QA i j with h|h|h;{have:=fN b h m;rw[f,l,fM] at this;cases this};{exact h};{have:=fN b h hi;rw[f,l,fM] at this;cases this}
theorem iW (h:aM p n=ZF):∃k,k<n/\p k=ZF:=by
 induction n with
 |zero=>simp[aM] at h
 |succ m b =>
  simp only[aM,Bool.or_eq_true] at h;rcases h with h|h;{obtain⟨k,hk,f⟩:=b h;exact⟨k,by omega,f⟩};{exact⟨m,by omega,h⟩}
theorem uN{k:Nat}(h:aP g n=ZF)(f:k<n)(h1:((g k).toList == t.toList)=ZF):aM (λi=>((g i).toList == t.toList) && q i) n=q k:=by
 cases e:q k with
 |true=>exact dy f (by simp[h1,e])
 |false =>
  cases e2:aM (λi=>((g i).toList == t.toList) && q i) n with
  |false=>rfl
  |true =>obtain⟨i,hi,b⟩:=iW e2;simp only[p6] at b;obtain rfl:=asc_one h hi f b.1 h1;rw[e] at b;exact absurd b.2 (by simp)
theorem rC (h:aF g n t=ZF):∃k,k<n/\((g k).toList == t.toList)=ZF:=by simp only[aF,OT,J4] at h;exact h
theorem rD (h:aF g n t=ZA):aM (λi=>((g i).toList == t.toList) && q i) n=ZA:=by
 cases e2:aM (λi=>((g i).toList == t.toList) && q i) n with
 |false=>rfl
 |true =>obtain⟨i,hi,b⟩:=iW e2;simp only[p6] at b;rw[dM hi b.1] at h;cases h
theorem pO{n0:Nat}{f0:Nat->Source}{n1:Nat}{f1:Nat->Target}(h:be n0 f0 n1 f1=0):aP (nm0 f0) n0=ZF/\aP (nm1 f1) n1=ZF/\n0+n1<=200:=by
 unfold be at h;split at h;· omega
 split at h;· omega
 split at h;· omega
 split at h;· omega
 split at h;· omega
 rename_i h0 _ _ b f;exact⟨by simpa using b,by simpa using f,by omega⟩
theorem slS{a:Option Addr}{f:Nat->Source}(h:SlSource w a n f)(hn:n≠0):∃b off,a=T (N b off Z)/\RowSource w b off n f:=h.resolve_left hn
theorem slT{a:Option Addr}{f:Nat->Target}(h:SlTarget w a n f)(hn:n≠0):∃b off,a=T (N b off Z)/\RowTarget w b off n f:=h.resolve_left hn
theorem bx2{W b:M}{u v:Value}(ZS:B (z w)<B (z W))(g:W.cell? (N (B (z w)) 0 Z)=T u)(h:W.cell? (N (B (z w)) 1 Z)=T v)(A:Hid (Below (B (z w)) w W))(f:Below (B (z W)) W b):b.cell? (N (B (z w)) 0 Z)=T u/\b.cell? (N (B (z w)) 1 Z)=T v/\(B (z w))<B (z b)/\Hid (Below (B (z w)) w b) :=
 ⟨(f.cell (p:=(N (B (z w)) 0 Z)) ZS).trans g,(f.cell (p:=(N (B (z w)) 1 Z)) ZS).trans h,lj ZS f.size,A.trans (f.mono A.size)⟩
theorem rE (a0:Option Addr)(n0 c0:Nat)(a1:Option Addr)(c1:Nat)(g:Nat->ByteArray)(t:ByteArray)(w:M):Calls Pg 52 #[ZG #[Y a0 n0 c0,Y a1 0 c1],U t] w λe f=>∃r:Int,e=ZD (Q I r)/\decide (0<=r)=aF g 0 t/\Below (B (z w)) w f:=by
 have b:=ae ((BS w).alloc ly (J #[Y a0 n0 c0,Y a1 0 c1] 27));go_enter RC,QC;go_wp2;go_loop [5] (λi=>i=Q I 0) (λ_=>0);case atStart=>rfl
 case round =>subst hrel;go_wp2;go_ret;exact⟨-1,rfl,by rw[fy];rfl,b⟩
theorem kN (a0:Option Addr)(n0 c0:Nat)(a1:Option Addr)(n1 c1:Nat)(f1:Nat->Target)(t:ByteArray)(w:M)(hn1:(n1:Int)<=1048576)(f:SlTarget w a1 n1 f1):Calls Pg 52 #[ZG #[Y a0 n0 c0,Y a1 n1 c1],U t] w λe h=>∃r:Int,e=ZD (Q I r)/\decide (0<=r)=aF (nm1 f1) n1 t/\Below (B (z w)) w h:=by
 rcases f with rfl|⟨b,off,rfl,g⟩
 {exact rE a0 n0 c0 a1 c1 (nm1 f1) t w};{exact rB a0 n0 c0 b off n1 c1 f1 t w hn1 g}
theorem dK (a0:Option Addr)(n0 c0:Nat)(f0:Nat->Source)(a1:Option Addr)(n1 c1:Nat)(f1:Nat->Target)(w:M)(hn0:(n0:Int)<=1048576)(hn1:(n1:Int)<=1048576)(ph:SlSource w a0 n0 f0)(n9:SlTarget w a1 n1 f1)(ld:∀i,i<n1->aY (f1 i))(hs:∀i,i<n1->∀j,j<(f1 i).m->((f1 i).D j).s.size<=maxLen):Calls Pg 49 #[ZG #[Y a0 n0 c0,Y a1 n1 c1]] w λe w'=>e=ZD (Q I (be n0 f0 n1 f1))/\Below (B (z w)) w w':=by
 have V0:=ae ph;have V1:=ae n9;have HF:=ae ld;have HS:=ae hs;clear ph n9 ld hs;obtain⟨C,hC⟩:∃C,C=be n0 f0 n1 f1:=⟨_,rfl⟩
 rw[<-hC];unfold be at hC;have HC:=ae hC;clear hC;have ZJ:=ae ((BS w).alloc ly (J #[Y a0 n0 c0,Y a1 n1 c1] 27));have ZQ:(w.alloc (J #[Y a0 n0 c0,Y a1 n1 c1] 27)).cell? (N (B (z w)) 0 Z)=T (Y a0 n0 c0):=by simp
 have ZO:(w.alloc (J #[Y a0 n0 c0,Y a1 n1 c1] 27)).cell? (N (B (z w)) 1 Z)=T (Y a1 n1 c1):=by simp
 have z0:B (z w)<(w.alloc (J #[Y a0 n0 c0,Y a1 n1 c1] 27)).heap.size:=by simp
 go_enter func49,ntmps49;by_cases h1:(200:Int)<n0+n1;{have f:=HC.out;rw[nL (by omega)] at f;subst f;go_wp2;go_ret;exact⟨rfl,ZJ⟩};have aq:=HC.out;rw[eT (by omega)] at aq;have ZI:=ae aq;clear aq HC;go_wp2;generalize World.alloc w _=W0 at ZJ ZQ ZO z0 ⊢;go_loopw [5] (λi wr=>∃k:Nat,k<=n0/\i=Q I k/\Hid (ce (nm0 f0) k=ZF)/\Below (B (z W0)) W0 wr) (λi _=>n0 - (intOf i).toNat);case atStart=>exact⟨0,by omega,rfl,rfl,cM _ _⟩
 case round =>
  obtain⟨k,P,rfl,o,n⟩:=hrel;obtain⟨O,ZP,z1,S⟩:=bx2 z0 ZQ ZO ZJ n;have p:=ae n;clear n;by_cases h:k<n0
  ·obtain⟨b,off,rfl,l⟩:=slS V0 (by omega);obtain⟨y,x⟩:=(l.2 k h).aa S l.1;clear l ZQ ZO;go_wp2_with fail;refine(cH _ _).mono ?_;rintro e w1 ⟨rfl,q⟩;have u:=ae (p.trans (q.mono p.size));clear q;cases m:aA (f0 k).e with
   |true =>have t:=ae m;clear m;go_wp2;exact⟨⟨k+1,by omega,by go_num,by show ce (nm0 f0) (k+1)=ZF;simp[ce,o.out,t.out],u.out⟩,by simp[intOf];omega⟩
   |false =>have t:=ae m;have f:=ZI.out;rw[nL (gT (g:=(nm0 f0)) h t.out)] at f;subst f;clear m;go_wp2;go_ret;exact⟨rfl,ZJ.trans (u.mono ZJ.size)⟩
  ·have e:n0=k:=by omega
   subst e;have f:=ZI.out;rw[eT (by simp[o.out])] at f;have fd:=ae f;clear f ZI o p ZQ ZO;go_wp2;generalize wr=W1 at O ZP z1 S ⊢;go_loopw [6] (λi wr=>∃k:Nat,k<=n1/\i=Q I k/\Hid (ce (nm1 f1) k=ZF)/\Below (B (z W1)) W1 wr) (λi _=>n1 - (intOf i).toNat);case atStart=>exact⟨0,by omega,rfl,rfl,cM _ _⟩
   case round =>
    obtain⟨k,P,rfl,o,n⟩:=hrel;obtain⟨A,K,z2,ZL⟩:=bx2 z1 O ZP S n;have p:=ae n;clear n;by_cases h:k<n1
    ·obtain⟨b,off,rfl,l⟩:=slT V1 (by omega);obtain⟨y,ka,kc,x,_⟩:=(l.2 k h).aa ZL ly l.1;clear l O ZP;go_wp2_with fail;refine(cH _ _).mono ?_;rintro e w1 ⟨rfl,q⟩;have u:=ae (p.trans (q.mono p.size));clear q;cases m:aA (f1 k).e with
     |true =>have t:=ae m;clear m;go_wp2;exact⟨⟨k+1,by omega,by go_num,by show ce (nm1 f1) (k+1)=ZF;simp[ce,o.out,t.out],u.out⟩,by simp[intOf];omega⟩
     |false =>have t:=ae m;have f:=fd.out;rw[nL (gT (g:=(nm1 f1)) h t.out)] at f;subst f;clear m;go_wp2;go_ret;exact⟨rfl,S.trans (u.mono S.size)⟩
    ·have e:n1=k:=by omega
     subst e;have f:=fd.out;rw[eT (by simp[o.out])] at f;have ex:=ae f;clear f fd o p O ZP;go_wp2;generalize wr=W2 at A K z2 ZL ⊢;go_loopw [7] (λi wr=>∃k:Nat,(k+1<=n0∨k=0)/\i=Q I ((k:Int)+1)/\Hid (aP (nm0 f0) (k+1)=ZF)/\Below (B (z W2)) W2 wr) (λi _=>n0+1 - (intOf i).toNat);case atStart=>exact⟨0,.inr rfl,rfl,rfl,cM _ _⟩
     case round =>
      obtain⟨k,P,rfl,o,n⟩:=hrel;obtain⟨ZR,G,z3,R⟩:=bx2 z2 A K ZL n;have p:=ae n;clear n;by_cases h:k+1<n0
      ·obtain⟨b,off,rfl,l⟩:=slS V0 (by omega);obtain⟨y,x⟩:=(l.2 k (by omega)).aa R l.1;obtain⟨e0,e1⟩:=(l.2 (k+1) h).aa R l.1;have qr:(k:Int)+1<n0:=by omega
       clear l A K;go_wp2_with fail;go_quiet (fail);have u:=ae (E9 p nq);clear y x e0 e1;generalize wr.drewN nq=X at u ⊢;cases m:Op.bytesLess (f0 k).e.toList (f0 (k+1)).e.toList with
       |true =>have t:=ae m;clear m;go_wp2;exact⟨⟨k+1,.inl (by omega),by go_num,by show aP (nm0 f0) (k+2)=ZF;simp[aP,o.out,t.out],u.out⟩,by simp[intOf];omega⟩
       |false =>have t:=ae m;have f:=ex.out;rw[nL (jk (g:=(nm0 f0)) h t.out)] at f;subst f;clear m;go_wp2;go_ret;exact⟨rfl,ZL.trans (u.mono ZL.size)⟩
      ·have sm:¬ (k:Int)+1<n0:=by omega
       have f:=ex.out;rw[eT (by simp[fL (show n0<=k+1 by omega) o.out])] at f;have ZK:=ae f;clear f ex o p A K;go_wp2;generalize wr=W3 at ZR G z3 R ⊢;go_loopw [8] (λi wr=>∃k:Nat,(k+1<=n1∨k=0)/\i=Q I ((k:Int)+1)/\Hid (aP (nm1 f1) (k+1)=ZF)/\Below (B (z W3)) W3 wr) (λi _=>n1+1 - (intOf i).toNat);case atStart=>exact⟨0,.inr rfl,rfl,rfl,cM _ _⟩
       case round =>
        obtain⟨k,P,rfl,o,n⟩:=hrel;obtain⟨ZM,D,z4,ZN⟩:=bx2 z3 ZR G R n;have p:=ae n;clear n;by_cases h:k+1<n1
        ·obtain⟨b,off,rfl,l⟩:=slT V1 (by omega);obtain⟨y,ka,kc,x,_⟩:=(l.2 k (by omega)).aa ZN ly l.1;obtain⟨e0,kb,kd,e1,_⟩:=(l.2 (k+1) h).aa ZN ly l.1;have qr:(k:Int)+1<n1:=by omega
         clear l ZR G;go_wp2_with fail;go_quiet (fail);have u:=ae (E9 p nq);clear y x e0 e1;generalize wr.drewN nq=X at u ⊢;cases m:Op.bytesLess (f1 k).e.toList (f1 (k+1)).e.toList with
         |true =>have t:=ae m;clear m;go_wp2;exact⟨⟨k+1,.inl (by omega),by go_num,by show aP (nm1 f1) (k+2)=ZF;simp[aP,o.out,t.out],u.out⟩,by simp[intOf];omega⟩
         |false =>have t:=ae m;have f:=ZK.out;rw[nL (jk (g:=(nm1 f1)) h t.out)] at f;subst f;clear m;go_wp2;go_ret;exact⟨rfl,R.trans (u.mono R.size)⟩
        ·have sm:¬ (k:Int)+1<n1:=by omega
         have f:=ZK.out;rw[eT (by simp[fL (show n1<=k+1 by omega) o.out])] at f;have bt:=ae f;clear f ZK o p ZR G;go_wp2;generalize wr=W4 at ZM D z4 ZN ⊢;go_loopw [9] (λi wr=>∃k:Nat,k<=n0/\i=Q I k/\Hid (aM (λi=>aF (nm1 f1) n1 (nm0 f0 i)) k=ZA)/\Below (B (z W4)) W4 wr) (λi _=>n0 - (intOf i).toNat);case atStart=>exact⟨0,by omega,rfl,rfl,cM _ _⟩
         case round =>
          obtain⟨k,P,rfl,o,n⟩:=hrel;obtain⟨H,L,z5,ZS⟩:=bx2 z4 ZM D ZN n;have p:=ae n;clear n;by_cases h:k<n0
          ·obtain⟨b,off,rfl,l⟩:=slS V0 (by omega);obtain⟨y,x⟩:=(l.2 k h).aa ZS l.1;clear l ZM D;go_wp2_with fail;go_region_with (go_at_call 52;refine(kN (T (N b off Z)) n0 c0 a1 n1 c1 f1 (f0 k).e _ hn1 ?_).mono ?_;(first|exact V1.aa ZS ly|exact V1.aa ZS.drew ly);rintro e w1 ⟨r,rfl,hd,q⟩;have HD:=ae hd;clear hd;have u:Hid (Below (B (z wr)) wr w1):=⟨q.os,q.tape,q.output,q.size,q.block⟩;clear q);all_goals
            have B2:=ae (p.trans (u.mono p.size));clear y x u;by_cases m:0<=r
            ·have f:=bt.out
             rw[nL (dy h (by have:=HD.out;rw[LD m] at this;exact this.symm))] at f;subst f;go_wp2;go_ret;exact⟨rfl,ZN.trans (B2.mono ZN.size)⟩
            ·have t:=ae m
             go_wp2;exact⟨⟨k+1,by omega,by go_num,by show aM _ (k+1)=ZA;have:=HD.out;rw[MW t.out] at this;simp[aM,o.out,<-this],B2.out⟩,by simp[intOf];omega⟩
          ·have e:n0=k:=by omega
           subst e;have f:=bt.out;rw[eT (by simp[o.out])] at f;have mv:=ae f;clear f bt o p ZM D;go_wp2;generalize wr=W5 at H L z5 ZS ⊢;go_loopw [10] (λi wr=>∃k:Nat,k<=n0/\i=Q I k/\Hid (aM (λi=>fo (f0 i)) k=ZA)/\Below (B (z W5)) W5 wr) (λi _=>n0 - (intOf i).toNat);case atStart=>exact⟨0,by omega,rfl,rfl,cM _ _⟩
           case round =>
            obtain⟨k,P,rfl,o,n⟩:=hrel;obtain⟨W,n8,z6,V⟩:=bx2 z5 H L ZS n;have p:=ae n;clear n;by_cases h:k<n0;{obtain⟨b,off,rfl,l⟩:=slS V0 (by omega);obtain⟨y,x⟩:=(l.2 k h).aa V l.1;clear l H L;by_cases m:(2000:Int)<(f0 k).y.size;{have f:=mv.out;rw[nL (dy h (by simpa[fo] using m))] at f;subst f;go_wp2;go_ret;exact⟨rfl,ZS.trans (p.mono ZS.size)⟩};{have t:Hid (fo (f0 k)=ZA):=MW m;go_wp2;exact⟨⟨k+1,by omega,by go_num,by show aM _ (k+1)=ZA;simp[aM,o.out,t.out],p.out⟩,by simp[intOf];omega⟩}}
            ·have e:n0=k:=by omega
             subst e;have f:=mv.out;rw[eT (by simp[o.out])] at f;have ro:=ae f;clear f mv o p H L;go_wp2;generalize wr=W6 at W n8 z6 V ⊢;go_loopw [11,4] (λi v wr=>∃(k:Nat) (r:Int),k<=n1/\i=Q I k/\v=Q I r/\Hid (r=if aM (λi=>cK (f1 i)) k=ZF then 7 else 0)/\Below (B (z W6)) W6 wr) (λi _ _=>n1 - (intOf i).toNat);case atStart=>exact⟨0,0,by omega,rfl,rfl,rfl,cM _ _⟩
             case round =>
              obtain⟨k,r,P,rfl,rfl,o,n⟩:=hrel;obtain⟨k70,k71,z7,A7⟩:=bx2 z6 W n8 V n;have p:=ae n;clear n;by_cases h:k<n1
              ·obtain⟨b,off,rfl,l⟩:=slT V1 (by omega);obtain⟨y,ka,kc,x,hx⟩:=(l.2 k h).aa A7 ly l.1;have HX:=ae hx;clear l hx W n8;go_wp2_with fail;refine(iH ka (f1 k).m kc (f1 k).D _ (HF k h) HX (HS k h)).mono ?_;rintro e w1 ⟨rfl,q⟩;have u:=ae (p.trans (q.mono p.size));clear q y x;cases m:valid (f1 k).D (f1 k).m with
               |true =>
                have t:=ae m;clear m;have E:Hid (aM (λi=>cK (f1 i)) (k+1)=aM (λi=>cK (f1 i)) k):=by show(aM _ k || cK (f1 k))=_;rw[show cK (f1 k)=ZA by unfold cK;rw[t.out];rfl,Bool.or_false]
                go_wp2;exact⟨⟨k+1,r,by omega,by go_num,rfl,by show r=_;rw[E.out];exact o,u⟩,by simp[intOf];omega⟩
               |false =>
                have t:=ae m;clear m;have E:Hid (aM (λi=>cK (f1 i)) (k+1)=ZF):=by show(aM _ k || cK (f1 k))=_;rw[show cK (f1 k)=ZF by unfold cK;rw[t.out];rfl,Bool.or_true]
                go_wp2;exact⟨⟨k+1,7,by omega,by go_num,rfl,by show(7:Int)=_;rw[nL E.out],u.out⟩,by simp[intOf];omega⟩
              ·have e:n1=k:=by omega
               subst e;have f:=ro.out;rw[<-o.out] at f;subst f;go_wp2;go_ret;exact⟨rfl,V.trans (p.mono V.size)⟩
def mI (n0:Nat)(f0:Nat->Source)(n1:Nat)(f1:Nat->Target)(t:ByteArray):Bool:=aF (nm0 f0) n0 t || aF (nm1 f1) n1 t
def rF (n0:Nat)(f0:Nat->Source)(t x:ByteArray):Bool:=aM (λi=>((nm0 f0 i).toList == t.toList) && ((f0 i).y.toList == x.toList)) n0
def rG (n1:Nat)(f1:Nat->Target)(t:ByteArray)(n:Nat)(f:Nat->Ins):Bool:=aM (λi=>((nm1 f1 i).toList == t.toList) && iq (f1 i).D f (f1 i).m n) n1
def mJ (n0:Nat)(f0:Nat->Source)(n1:Nat)(f1:Nat->Target)(d:aj):Bool :=
 if d.H=1 then !rF n0 f0 d.e d.y else if d.H=3 then !rG n1 f1 d.e d.m d.D else mI n0 f0 n1 f1 d.e
def gU (n0:Nat)(f0:Nat->Source)(n1:Nat)(f1:Nat->Target)(l:Link):Bool:=!l.ask && !(l.has == mI n0 f0 n1 f1 l.e)
def hasB (n0:Nat)(f0:Nat->Source)(n1:Nat)(f1:Nat->Target)(d:aj):Bool:=aM (λk=>gU n0 f0 n1 f1 (d.u k)) d.l
def PlaceOf (g:Nat->ByteArray)(n:Nat)(t:ByteArray)(r:Int):Prop:=(r=-1/\aF g n t=ZA)∨∃k:Nat,r=k/\k<n/\((g k).toList == t.toList)=ZF
theorem PlaceOf.has{r:Int}(h:PlaceOf g n t r):aF g n t=decide (0<=r):=by
 rcases h with ⟨rfl,h⟩|⟨k,rfl,b,h⟩
 {rw[h];rfl};{rw[dM b h];simp}
theorem oV (a0:Option Addr)(n0 c0 b off n1 c1:Nat)(f1:Nat->Target)(t:ByteArray)(w:M)(hn1:(n1:Int)<=1048576)(j:RowTarget w b off n1 f1):Calls Pg 52 #[ZG #[Y a0 n0 c0,Y (T (N b off Z)) n1 c1],U t] w λe p=>∃r:Int,e=ZD (Q I r)/\PlaceOf (nm1 f1) n1 t r/\Below (B (z w)) w p:=by
 obtain⟨W,f⟩:∃W:M,w.alloc (J #[Y a0 n0 c0,Y (T (N b off Z)) n1 c1] 27)=W:=⟨_,rfl⟩
 obtain⟨l,-,-⟩:=nb1 f;have g:=ae f;clear f;have o:=ae (j.aa l.out ly);have k1:W.cell? (N (B (z w)) 1 Z)=T (Y (T (N b off Z)) n1 c1):=by rw[<-g.out];simp
 clear j;go_enter RC,QC;go_wp2;rw[g.out];clear g;go_loop [5] (λi=>∃k:Nat,k<=n1/\i=Q I k/\Hid (aF (nm1 f1) k t=ZA)) (λi=>n1 - (intOf i).toNat);case atStart=>exact⟨0,by omega,rfl,rfl⟩
 case round =>
  obtain⟨k,hk,rfl,n⟩:=hrel;by_cases h:k<n1
  ·obtain⟨d0,ka,kc,d1,_⟩:=o.out.2 k h;cases hb:((f1 k).e.toList == t.toList) with
   |true =>have m:=ae hb;go_wp2;go_ret;exact⟨k,rfl,.inr ⟨k,rfl,h,m.out⟩,l.out⟩
   |false =>have m:=ae hb;go_wp2;exact⟨⟨k+1,by omega,by go_num,by show aF (nm1 f1) (k+1) t=ZA;rw[fA,n.out];exact m.out⟩,by simp[intOf];omega⟩
  ·have e:k=n1:=by omega
   subst e;go_wp2;go_ret;exact⟨-1,rfl,.inl ⟨rfl,n.out⟩,l.out⟩
theorem oW (a0:Option Addr)(n0 c0:Nat)(a1:Option Addr)(c1:Nat)(g:Nat->ByteArray)(t:ByteArray)(w:M):Calls Pg 52 #[ZG #[Y a0 n0 c0,Y a1 0 c1],U t] w λe f=>∃r:Int,e=ZD (Q I r)/\PlaceOf g 0 t r/\Below (B (z w)) w f:=by
 have b:=ae ((BS w).alloc ly (J #[Y a0 n0 c0,Y a1 0 c1] 27));go_enter RC,QC;go_wp2;go_loop [5] (λi=>i=Q I 0) (λ_=>0);case atStart=>rfl
 case round =>subst hrel;go_wp2;go_ret;exact⟨-1,rfl,.inl ⟨rfl,fy _ _⟩,b.out⟩
theorem jw (a0:Option Addr)(n0 c0:Nat)(a1:Option Addr)(n1 c1:Nat)(f1:Nat->Target)(t:ByteArray)(w:M)(hn1:(n1:Int)<=1048576)(f:SlTarget w a1 n1 f1):Calls Pg 52 #[ZG #[Y a0 n0 c0,Y a1 n1 c1],U t] w λe h=>∃r:Int,e=ZD (Q I r)/\PlaceOf (nm1 f1) n1 t r/\Below (B (z w)) w h:=by
 rcases f with rfl|⟨b,off,rfl,g⟩
 {exact oW a0 n0 c0 a1 c1 (nm1 f1) t w};{exact oV a0 n0 c0 b off n1 c1 f1 t w hn1 g}
theorem oX (b off n0 c0:Nat)(a1:Option Addr)(n1 c1:Nat)(f0:Nat->Source)(t:ByteArray)(w:M)(hn0:(n0:Int)<=1048576)(j:RowSource w b off n0 f0):Calls Pg 51 #[ZG #[Y (T (N b off Z)) n0 c0,Y a1 n1 c1],U t] w λe p=>∃r:Int,e=ZD (Q I r)/\PlaceOf (nm0 f0) n0 t r/\Below (B (z w)) w p:=by
 obtain⟨W,f⟩:∃W:M,w.alloc (J #[Y (T (N b off Z)) n0 c0,Y a1 n1 c1] 27)=W:=⟨_,rfl⟩
 obtain⟨l,-,-⟩:=nb1 f;have g:=ae f;clear f;have o:=ae (j.aa l.out ly);have k0:W.cell? (N (B (z w)) 0 Z)=T (Y (T (N b off Z)) n0 c0):=by rw[<-g.out];simp
 clear j;go_enter RF,QD;go_wp2;rw[g.out];clear g;go_loop [5] (λi=>∃k:Nat,k<=n0/\i=Q I k/\Hid (aF (nm0 f0) k t=ZA)) (λi=>n0 - (intOf i).toNat);case atStart=>exact⟨0,by omega,rfl,rfl⟩
 case round =>
  obtain⟨k,hk,rfl,n⟩:=hrel;by_cases h:k<n0
  ·obtain⟨d0,d1⟩:=o.out.2 k h;cases hb:((f0 k).e.toList == t.toList) with
   |true =>have m:=ae hb;go_wp2;go_ret;exact⟨k,rfl,.inr ⟨k,rfl,h,m.out⟩,l.out⟩
   |false =>have m:=ae hb;go_wp2;exact⟨⟨k+1,by omega,by go_num,by show aF (nm0 f0) (k+1) t=ZA;rw[fA,n.out];exact m.out⟩,by simp[intOf];omega⟩
  ·have e:k=n0:=by omega
   subst e;go_wp2;go_ret;exact⟨-1,rfl,.inl ⟨rfl,n.out⟩,l.out⟩
theorem oY (a0:Option Addr)(c0:Nat)(a1:Option Addr)(n1 c1:Nat)(g:Nat->ByteArray)(t:ByteArray)(w:M):Calls Pg 51 #[ZG #[Y a0 0 c0,Y a1 n1 c1],U t] w λe f=>∃r:Int,e=ZD (Q I r)/\PlaceOf g 0 t r/\Below (B (z w)) w f:=by
 have b:=ae ((BS w).alloc ly (J #[Y a0 0 c0,Y a1 n1 c1] 27));go_enter RF,QD;go_wp2;go_loop [5] (λi=>i=Q I 0) (λ_=>0);case atStart=>rfl
 case round =>subst hrel;go_wp2;go_ret;exact⟨-1,rfl,.inl ⟨rfl,fy _ _⟩,b.out⟩
theorem jx (a0:Option Addr)(n0 c0:Nat)(a1:Option Addr)(n1 c1:Nat)(f0:Nat->Source)(t:ByteArray)(w:M)(hn0:(n0:Int)<=1048576)(f:SlSource w a0 n0 f0):Calls Pg 51 #[ZG #[Y a0 n0 c0,Y a1 n1 c1],U t] w λe h=>∃r:Int,e=ZD (Q I r)/\PlaceOf (nm0 f0) n0 t r/\Below (B (z w)) w h:=by
 rcases f with rfl|⟨b,off,rfl,g⟩
 {exact oY a0 c0 a1 n1 c1 (nm0 f0) t w};{exact oX b off n0 c0 a1 n1 c1 f0 t w hn0 g}
