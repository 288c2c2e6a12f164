import Derived.Test.YtcnilonhfpimnaaGreatDoorFW
import Derived.Test.YtcnilonhfpimnaaGreatDoorFQ
set_option linter.all false
open Option renaming none->Z,some->Q
open Bool renaming false->ZA,true->ZH
open List renaming length->E
namespace Go.Proofs.YtcnilonhfpimnaaGreatDoor.Vp
open RowKit
variable {i n t p x_ m zd v_ j n0 n1 lo q:Nat}{nm x a tx:F_}{b y_ r L:List F_}{f:Nat->au}{g:B_}{f0:Nat->Source}{f1:Nat->Target}
structure xl where
 n0:Nat
 f0:Nat->Source
 n1:Nat
 f1:Nat->Target
structure Lk where
 e:F_
 ask:Bool
 has:Bool
structure k_ where
 e:F_
 L:Int
 M:Int
 H:F_
 tg:Nat
 D:List Lk
abbrev Out (b:Type):=(List k_ × b) ⊕ List F_ ⊕ F_
def pB:aD:=⟨ZA,0,⟨#[]⟩⟩
def yL (b:List aD):Nat->aD:=λk=>b.getD k pB
def gF (e:k_):aD:=⟨decide (¬ e.L=2),e.M,e.H⟩
def fL (S:xl)(t:F_):Bool:=aF (nm0 S.f0) S.n0 t || aF (nm1 S.f1) S.n1 t
def atI (g:B_)(n:Nat)(t:F_):Option Nat:=(List.range n).find? λi=>(g i).toList == t.toList
def atL (L:List F_)(t:F_):Option Nat:=L.findIdx? λx=>x.toList == t.toList
def aS (b:List k_)(t:F_):Option k_:=b.find? λe=>e.e.toList == t.toList
def bK (S:xl)(t:Nat)(b:List aD):Turn:=cA (S.f1 t).q (S.f1 t).h (yL b) (E b) 2001 0 0 0 []
def bT (S:xl)(lies:List k_->F_->Out k_)(t:Nat):Nat->List k_->List aD->List Lk->Out (Turn × List Lk)
 |0,_,_,_=>.inr (.inr ⟨#[]⟩)
 |k+1,q_,ys,ls =>
  if (bK S t ys).K=ZH then .inl (q_,(bK S t ys,ls))
  else if (bK S t ys).ask=ZA then bT S lies t k q_ (ys++[⟨fL S (bK S t ys).e,0,⟨#[]⟩⟩]) (ls++[⟨(bK S t ys).e,ZA,fL S (bK S t ys).e⟩])
  else match lies q_ (bK S t ys).e with
   |.inl (made',e)=>bT S lies t k made' (ys++[gF e]) (ls++[⟨(bK S t ys).e,ZH,ZA⟩])
   |.inr (.inl c)=>.inr (.inl c)
   |.inr (.inr d)=>.inr (.inr d)
def ee (b:List k_)(e:k_):Out k_:=.inl ((b++[e]),e)
def iF (nm:F_)(t:Nat):Out (Turn × List Lk)->Out k_
 |.inl (q_,x)=>ee q_ ⟨nm,3,x.1.M,x.1.H,t,x.2⟩
 |.inr (.inl c)=>.inr (.inl c)
 |.inr (.inr d)=>.inr (.inr d)
def eW (S:xl)(tgt:Nat->Out k_)(b:List k_)(nm:F_):Out k_:=
 match atI (nm0 S.f0) S.n0 nm with
 |some i=>ee b ⟨nm,1,0,(S.f0 i).H,0,[]⟩
 |none=>match atI (nm1 S.f1) S.n1 nm with
  |some t=>tgt t
  |none=>ee b ⟨nm,2,0,⟨#[]⟩,0,[]⟩
def dB (S:xl)(tgt:Nat->Out k_)(b:List F_)(f:List k_)(nm:F_):Out k_:=
 match aS f nm with
 |some e=>.inl (f,e)
 |none=>match atL b nm with
  |some i=>.inr (.inl (b.drop i))
  |none=>eW S tgt f nm
def aT (S:xl):Nat->List F_->List k_->F_->Out k_
 |0,y_,q_,nm=>dB S (λ_=>.inr (.inr nm)) y_ q_ nm
 |n+1,y_,q_,nm=>dB S (λt=>iF nm t (bT S (aT S n (y_++[nm])) t 201 q_ [] [])) y_ q_ nm
def nR (S:xl)(n:Nat)(b:List F_)(f:List k_)(nm:F_)(t:Nat):Out k_:=
 match n with
 |0=>.inr (.inr nm)
 |n+1=>iF nm t (bT S (aT S n (b++[nm])) t 201 f [] [])
def jT (S:xl)(n:Nat)(b:List F_)(f:List k_)(nm:F_):aT S n b f nm=dB S (nR S n b f nm) b f nm:=by
 cases n with
 |zero=>rw[aT];rfl
 |succ n=>rw[aT];rfl
structure jj where
 M:Int
 H:F_
 R:List F_
def dt (e:k_):jj:=if e.L=2 then ⟨4,e.e,[]⟩ else ⟨e.M,e.H,[]⟩
def bE (S:xl)(nm:F_):List k_ × jj:=
 if aR S.n0 S.f0 S.n1 S.f1=0/\aA nm=ZH then
  (match aT S 60 [] [] nm with
   |.inl (q_,e)=>(q_,dt e)
   |.inr (.inl c)=>([],⟨6,⟨#[]⟩,c⟩)
   |.inr (.inr d)=>([],⟨7,d,[]⟩))
 else ([],⟨9,⟨#[]⟩,[]⟩)
def GJ (b:List aD)(r:aD):yL (b++[r]) (E b)=r:=by simp[yL]
def Cb (b:List aD)(r:aD){k:Nat}(h:k<E b):yL (b++[r]) k=yL b k:=by simp[yL,NH h]
def kL (f:Nat->Ins)(yh:Nat)(y z:Nat->aD)(n:Nat)(k:Nat):∀zd v_ x_ b,(∀i,x_<=i->i<n->y i=z i)->cA f yh y n k zd v_ x_ b=cA f yh z n k zd v_ x_ b:=by
 induction k with
 |zero=>intro _ _ _ _ _;rfl
 |succ k g =>
  intro zd v_ x_ b h;rw[cA,cA];rcases bQ f yh zd v_ x_ b with⟨s,p⟩|⟨c,x⟩|⟨a,nm,s⟩
  {exact g _ _ _ _ h};{rfl};{simp only;by_cases hn:n<=x_;{rw[eT hn,eT hn]};{rw[eI hn,eI hn,h x_ ly (by omega),g _ _ _ _ λi hi=>h i (by omega),g _ _ _ _ λi hi=>h i (by omega)]}}
def qF (u:Nat):(Lib.decDigits u).length<=u+1:=by
 induction u using Nat.strongRecOn with
 |ind u b =>
  rw[Lib.decDigits];split;{simp};{have:=b (u / 10) (by omega);simp only[cM,vF,IS];omega}
def kl (h:p<=2000):(dV p).size<=2000:=by
 show(Lib.decDigits p).length<=2000;rw[Lib.decDigits];split;{simp};{have:=qF (p / 10);simp only[cM,vF,IS];omega}
def oC (c:Int)(x:F_):Prop:=0<=c/\c<=5/\x.size<=2000
def zR{ask:Bool}{b:Nat}{c:Int}(h:iN ask a r b x_=.inr (.inl (c,x)))(f:b<=2000):oC c x:=by
 unfold iN at h;split at h;{cases h;exact⟨by omega,by omega,kl f⟩};{split at h;{cases h;exact⟨by omega,by omega,by decide⟩};{cases h}}
def tU{op:Nat}{t:F_}{b:Nat}{f:List F_}{c:Int}(h:cK op n t b x_ f=.inr (.inl (c,x)))(i:∀z∈f,z.size<=2000)(g:b<=2000):oC c x:=by
  unfold cK at h;split at h;all_goals first
    |(cases h;done)
    |exact zR h g
    | (split at h
       · cases h
       · cases h;exact⟨by omega,by omega,kl g⟩)
    |(cases h;exact⟨by omega,by omega,i _ (by simp)⟩)
    |(cases h;exact⟨by omega,by omega,by decide⟩)
def zT{f:Nat->Ins}{yh:Nat}{c:Int}(h:bQ f yh zd v_ x_ b=.inr (.inl (c,x)))(i:∀z∈b,z.size<=2000)(g:zd<=2000):oC c x:=by
 unfold bQ at h;split at h;{cases h;exact⟨by omega,by omega,kl g⟩};{split at h;{cases h;exact⟨by omega,by omega,by decide⟩};{split at h;{cases h;exact⟨by omega,by omega,kl g⟩};{exact tU h i g}}}
def xw{f:Nat->Ins}{yh:Nat}(h1:E b<=50)(h2:∀z∈b,z.size<=2000)(h:x_<=200)(g:dn f yh=ZH)(hc:yh<=200):rG (bQ f yh zd v_ x_ b) x_:=by
 unfold bQ;split;{trivial}
 ·rename_i h1;split;{trivial}
  ·split;{trivial}
   ·rename_i h;have hi:=j7 g (show zd<yh by omega);simp only[cL,nD] at hi;obtain⟨i1,i2,i3,i4,i5⟩:=hi;have hmt:dX (f zd).op<=2000:=by unfold dX;split<;>(try split)<;>omega
    have hmt2:bW (f zd).op<=2000:=by unfold bW;split<;>omega
    exact ji _ _ _ _ _ _ (by assumption) h2 (by omega) (by omega) (by omega) (by assumption) (by omega) (by omega) (by simpa using h)
def Cc (n:Nat)(ZP:Turn):Prop:=(ZP.K=ZH/\oC ZP.M ZP.H)\/(ZP.K=ZA/\n<200/\aA ZP.e=ZH)
def vr{f:Nat->Ins}{yh:Nat}{s:List F_}{a:Bool}(h:bQ f yh zd v_ x_ b=.inr (.inr (a,nm,s))):zd<yh:=by
 unfold bQ at h;split at h;{cases h};{omega}
def nS (h:aA nm=ZH):nm.size<=60:=by simp only[aA,j6,nD] at h;omega
def Fl (f:Nat->Ins)(yh:Nat)(y:Nat->aD)(n:Nat)(q:dn f yh=ZH)(C:yh<=200)(B:∀i,i<n->(y i).H.size<=2000)(k:Nat):∀zd v_ x_ b,E b<=50->(∀z∈b,z.size<=2000)->zd<=2000->v_<=2000->x_<=200->x_<=n->k+v_=2001->Cc n (cA f yh y n k zd v_ x_ b):=by
 induction k with
 |zero=>intro _ _ _ _ _ _ _ _ _ _ h;omega
 |succ k m =>
  intro zd v_ x_ b h1 h2 u h4 t A h7;have l:=xw (f:=f) (yh:=yh) (zd:=zd) (v_:=v_) h1 h2 t q C;rw[cA];rcases hs:bQ f yh zd v_ x_ b with⟨s,p⟩|⟨c,x⟩|⟨a,nm,s⟩
  {rw[hs] at l;obtain⟨r,j,g⟩:=l;obtain⟨o,D⟩:=jP hs;simp only;rw[o];exact m _ _ _ _ r j g (by omega) t A (by omega)};{exact .inl ⟨rfl,zT hs h2 u⟩};{rw[hs] at l;obtain⟨r,j,g,g4⟩:=l;obtain⟨o,D⟩:=lX hs;have hp:=vr hs;have hz:=nS g;simp only;rw[o];split;{exact .inr ⟨rfl,by omega,g⟩};{split;{refine m _ _ _ _ (by simp;omega) (λz hz=>?_) (by omega) (by omega) (by omega) (by omega) (by omega);rcases vG.1 hz with rfl|hz;{exact jr _};{exact j z hz}};{split;{exact .inl ⟨rfl,by simp[gi],by simp[gi],by simp only[gi];omega⟩};{split;{refine m _ _ _ _ (by simp;omega) (λz hz=>?_) (by omega) (by omega) (by omega) (by omega) (by omega);rcases vG.1 hz with rfl|hz;{exact B _ (by omega)};{exact j z hz}};{exact .inl ⟨rfl,by simp[gi],by simp[gi],by simp only[gi];omega⟩}}}}}
def js (S:xl)(b:List F_)(f:List k_):Nat->Bool:=λt=>(aS f (S.f1 t).e).isNone && (atL b (S.f1 t).e).isNone
def dU (S:xl)(b:List F_)(f:List k_):Nat:=(List.range S.n1).countP (js S b f)
def iX (b:List k_)(e:k_)(t:F_):aS (b++[e]) t=(aS b t).or (if (e.e.toList == t.toList)=ZH then Q e else Z):=by unfold aS;rw[List.find?_append];cases h:(e.e.toList == t.toList)<;>simp[h]
def rJ (L:List F_)(x t:F_):(atL (L++[x]) t).isNone=((atL L t).isNone && !(x.toList == t.toList)):=by unfold atL;rw[UQ];cases h:(x.toList == t.toList)<;>cases h2:List.findIdx? (λx=>x.toList == t.toList) L<;>simp[h,VE]
def km (S:xl)(b:List F_)(f:List k_)(e:k_):dU S b (f++[e])<=dU S b f:=by
 refine UB λt _ h=>?_;simp only[js,j6,iX] at h ⊢;refine⟨?_,h.2⟩;cases h2:aS f (S.f1 t).e with
 |none=>rfl
 |some x=>rw[h2] at h;simp at h
def sN (S:xl)(b:List F_)(f:List k_)(e:k_):dU S b (f++[e])<=dU S (b++[e.e]) f:=by
 refine UB λt _ h=>?_;simp only[js,j6,iX,rJ] at h ⊢;cases h2:aS f (S.f1 t).e with
 |some x=>rw[h2] at h;simp at h
 |none =>
  rw[h2] at h;refine⟨rfl,h.2,?_⟩;cases h3:(e.e.toList == (S.f1 t).e.toList) with
  |false=>rfl
  |true=>rw[h3] at h;simp at h
def sO{p q:Nat->Bool}{l:List Nat}(h:∀x∈l,p x=ZH->q x=ZH){a:Nat}(b:a∈l)(h1:p a=ZA)(h2:q a=ZH):l.countP p+1<=l.countP q:=by
 induction l with
 |nil=>cases b
 |cons x l f =>
  have hm:l.countP p<=l.countP q:=UB λz hz=>h z (mq _ hz);rw[List.countP_cons,List.countP_cons];rcases vG.1 b with rfl|b;{rw[h1,h2];simp;omega}
  ·have:=f (λz hz=>h z (mq _ hz)) b;cases hp:p x with
   |false=>simp;split<;>omega
   |true=>rw[h x R8 hp];simp;omega
def gu{S:xl}{q_:List k_}(b:t<S.n1)(hn:(S.f1 t).e=nm)(h1:aS q_ nm=Z)(h2:atL y_ nm=Z):dU S (y_++[nm]) q_+1<=dU S y_ q_:=by
 refine sO (λx _ h=>?_) (E4.2 b) ?_ ?_;{simp only[js,j6,rJ] at h ⊢;exact⟨h.1,h.2.1⟩};{simp[js,rJ,hn]};{simp[js,hn,h1,h2]}
def bu{t:F_}(h:atI g n t=Q i):i<n/\g i=t:=by unfold atI at h;have h1:=List.find?_some h;have h2:=UY h;exact⟨E4.1 h2,Qv h1⟩
def fO (S:xl)(b:List F_)(g f:List k_)(k:Nat):Prop:=E f+201*dU S b f<=E g+201*dU S b g+k
def sP{S:xl}{lies:List k_->F_->Out k_}(l:∀f nm b e,lies f nm=.inl (b,e)->fO S y_ f b 1):∀k f i g b x,bT S lies t k f i g=.inl (b,x)->fO S y_ f b (k - 1):=by
 intro k;induction k with
 |zero=>intro f i g b x h;cases h
 |succ k j =>
  intro f i g b x h;rw[bT] at h;split at h;{cases h;unfold fO;omega}
  ·cases k with
   |zero =>
    split at h;{cases h};{split at h<;>cases h}
   |succ k =>
    split at h;{have:=j _ _ _ _ _ h;unfold fO at this ⊢;omega};{split at h;{rename_i made1 e m;have h1:=l _ _ _ _ m;have h2:=j _ _ _ _ _ h;unfold fO at h1 h2 ⊢;omega};{cases h};{cases h}}
def iq (S:xl):∀n b g nm f e,aT S n b g nm=.inl (f,e)->fO S b g f 1:=by
 intro n;have m:∀b g nm f e (tgt:Nat->Out k_),(∀t f e,atI (nm1 S.f1) S.n1 nm=Q t->aS g nm=Z->atL b nm=Z->tgt t=.inl (f,e)->fO S b g f 1)->dB S tgt b g nm=.inl (f,e)->fO S b g f 1:=by
  intro b g nm f e tgt r h;unfold dB at h;split at h;{cases h;unfold fO;omega}
  ·rename_i o;split at h;{cases h}
   ·rename_i h1;unfold eW ee at h;split at h
    ·rename_i i hi;cases h
     have:=km S b g ⟨nm,1,0,(S.f0 i).H,0,[]⟩;unfold fO;rw[cM,AI];omega
    ·split at h;{rename_i t l;exact r _ _ _ l o h1 h}
     ·cases h
      have:=km S b g ⟨nm,2,0,⟨#[]⟩,0,[]⟩;unfold fO;rw[cM,AI];omega
 induction n with
 |zero =>intro b g nm f e h;rw[aT] at h;exact m _ _ _ _ _ _ (λt _ _ _ _ _ h=>by cases h) h
 |succ n q =>
  intro b g nm f e h;rw[aT] at h;refine m _ _ _ _ _ _ (λt f e l o h1 h=>?_) h;rcases hr:bT S (aT S n (b++[nm])) t 201 g [] [] with⟨j,x⟩|c|c;{rw[hr] at h;simp only[iF,ee,T8,LK] at h;obtain⟨rfl,rfl⟩:=h;have s:=sP (y_:=b++[nm]) (λg nm2 f e p=>q _ _ _ _ _ p) _ _ _ _ _ _ hr;have g2:=gu (y_:=b) (q_:=g) (bu l).1 (bu l).2 o h1;have g3:dU S b (j++[⟨nm,3,x.1.M,x.1.H,t,x.2⟩])<=dU S (b++[nm]) j:=sN S b j ⟨nm,3,x.1.M,x.1.H,t,x.2⟩;unfold fO at s ⊢;rw[cM,AI];omega};{rw[hr] at h;cases h};{rw[hr] at h;cases h}
structure SpcOk (S:xl):Prop where
 chk:aR S.n0 S.f0 S.n1 S.f1=0
 asc0:aK (nm0 S.f0) S.n0=ZH
 asc1:aK (nm1 S.f1) S.n1=ZH
 bb:S.n0+S.n1<=200
 H:∀i,i<S.n0->(S.f0 i).H.size<=2000
 q:∀t,t<S.n1->valid (S.f1 t).q (S.f1 t).h=ZH
def iG{p:Nat->Bool}(h:aM p n=ZA)(hi:i<n):p i=ZA:=by
 induction n with
 |zero=>omega
 |succ n b =>
  rw[aM,XC] at h;by_cases e:i=n;{subst e;exact h.2};{exact b h.1 (by omega)}
def SpcOk.of{S:xl}(h:aR S.n0 S.f0 S.n1 S.f1=0):SpcOk S:=by
 obtain⟨h1,h2,f⟩:=nh h;have b:=h;unfold aR at h;split at h;· omega
 split at h;· omega
 split at h;· omega
 split at h;· omega
 split at h;· omega
 split at h;· omega
 split at h;· omega
 split at h;· omega
 rename_i l g;refine⟨b,h1,h2,f,λi hi=>?_,λt j=>?_⟩;{have:=iG (Bool.eq_false_iff.2 l) hi;simp only[fx,NY] at this;omega};{have:=iG (Bool.eq_false_iff.2 g) j;simpa[cP] using this}
structure EG (S:xl)(x:k_):Prop where
 nm:aA x.e=ZH
 tx:x.H.size<=2000
 M:0<=x.M/\x.M<=5
 L:(x.L=1/\x.M=0/\x.D=[]/\∃i,atI (nm0 S.f0) S.n0 x.e=Q i/\x.H=(S.f0 i).H)\/(x.L=2/\x.M=0/\x.H=⟨#[]⟩/\x.D=[]/\atI (nm0 S.f0) S.n0 x.e=Z/\atI (nm1 S.f1) S.n1 x.e=Z)\/(x.L=3/\atI (nm0 S.f0) S.n0 x.e=Z/\atI (nm1 S.f1) S.n1 x.e=Q x.tg)
 D:E x.D<=200
 lname:∀l∈x.D,aA l.e=ZH
structure PG (S:xl)(y_:List F_)(q_:List k_):Prop where
 W:∀x∈q_,EG S x
 nod:q_.Pairwise λx y=>x.e≠y.e
 off:∀x∈q_,atL y_ x.e=Z
 ord:∀(i:Nat) (x:k_),q_[i]?=Q x->∀l∈x.D,l.ask=ZH->∃(j:Nat) (y:k_),j<i/\q_[j]?=Q y/\y.e=l.e
def gv (S:xl)(b:List F_):PG S b []:=⟨λx h=>absurd h nj,List.Pairwise.nil,λx h=>absurd h nj,λi x h=>by simp at h⟩
def dI{b:List k_}(h:aS b nm=Z):∀x∈b,x.e≠nm:=by intro x f e;have:=SD.1 h x f;rw[e] at this;simp at this
def iu{b:List k_}{e:k_}(h:aS b nm=Q e):e∈b/\e.e=nm:=⟨UY h,Qv (List.find?_some (p:=λe:k_=>e.e.toList == nm.toList) h)⟩
def jU (h:atL L nm=Z):∀x∈L,x≠nm:=by intro x b e;have:=SJ.1 h x b;rw[e] at this;simp at this
def kM (h:∀x∈L,x≠nm):atL L nm=Z:=
 SJ.2 λx b=>by
  cases e:(x.toList == nm.toList) with
  |false=>rfl
  |true=>exact absurd (Qv e) (h x b)
def PG.add{S:xl}{m:List F_}{f:List k_}{e:k_}(h:PG S m f)(z:EG S e)(A:∀x∈f,x.e≠e.e)(h1:atL m e.e=Z)(u:∀l∈e.D,l.ask=ZH->∃x∈f,x.e=l.e):PG S m (f++[e]):=by
 refine⟨λx g=>?_,?_,λx g=>?_,λi x hi l s p=>?_⟩;{rcases p8.1 g with g|g;{exact h.W x g};{rw[j4.1 g];exact z}};{rw[PC];exact⟨h.nod,VK _ _,λa p b hb=>by rw[j4.1 hb];exact A a p⟩};{rcases p8.1 g with g|g;{exact h.off x g};{rw[j4.1 g];exact h1}}
 ·rcases OR i (E f) with q|r;{rw[NH q] at hi;obtain⟨j,y,o,n,hn⟩:=h.ord i x hi l s p;exact⟨j,y,o,by rw[NH (by omega)];exact n,hn⟩}
  ·rw[KK r] at hi;have t:x=e:=by
    cases hk:i - (E f) with
    |zero=>rw[hk] at hi;simpa using hi.c
    |succ k=>rw[hk] at hi;simp at hi
   subst t;obtain⟨y,n,hn⟩:=u l s p;obtain⟨j,o,n⟩:=QK n;exact⟨j,y,by omega,by rw[NH o,gq o,n],hn⟩
structure RG (S:xl)(q_:List k_)(ys:List aD)(ls:List Lk):Prop where
 good:∀y∈ys,cI y=ZH
 len:E ls=E ys
 names:∀l∈ls,aA l.e=ZH
 asked:∀l∈ls,l.ask=ZH->∃x∈q_,x.e=l.e
def iv (S:xl)(b:List k_):RG S b [] []:=⟨λ_ h=>absurd h nj,rfl,λ_ h=>absurd h nj,λ_ h=>absurd h nj⟩
def RG.P{S:xl}{f b:List k_}{i:List aD}{g:List Lk}(h:RG S f i g)(j:∀x∈f,x∈b):RG S b i g:=⟨h.good,h.len,h.names,λl m n=>let ⟨x,hx,e⟩:=h.asked l m n;⟨x,j x hx,e⟩⟩
def RG.add{S:xl}{b:List k_}{g:List aD}{f:List Lk}{y:aD}{l:Lk}(h:RG S b g f)(j:cI y=ZH)(hn:aA l.e=ZH)(i:l.ask=ZH->∃x∈b,x.e=l.e):RG S b (g++[y]) (f++[l]):=by
 refine⟨λz hz=>?_,by simp[h.len],λz hz=>?_,λz hz=>?_⟩;{rcases p8.1 hz with hz|hz;{exact h.good z hz};{rw[j4.1 hz];exact j}};{rcases p8.1 hz with hz|hz;{exact h.names z hz};{rw[j4.1 hz];exact hn}};{rcases p8.1 hz with hz|hz;{exact h.asked z hz};{rw[j4.1 hz];exact i}}
def GK{f:List aD}(h:∀y∈f,cI y=ZH)(k:Nat):cI (yL f k)=ZH:=by
 unfold yL;rcases OR k (E f) with b|b;{rw[CL,gq b];exact h _ (gz b)};{rw[CL,NT b];rfl}
def me{S:xl}(f:SpcOk S)(g:t<S.n1){b:List aD}(h:∀y∈b,cI y=ZH):Cc (E b) (bK S t b):=by obtain⟨h1,h2,h3⟩:=bJ (f.q t g);refine Fl _ _ _ _ h1 (by omega) (λi _=>?_) 2001 0 0 0 [] (by simp) (by simp) (by omega) (by omega) (by omega) (by omega) (by omega);have:=GK h i;simp only[cI,nD] at this;exact this.1
def lv (S:xl)(t:F_):cI ⟨fL S t,0,⟨#[]⟩⟩=ZH:=by simp only[cI,nD];exact⟨by decide,by decide,by decide⟩
def lw{S:xl}{x:k_}(h:EG S x):cI (gF x)=ZH:=by have h1:=h.tx;have h2:=h.M;exact QC ⟨h1,h2.1,Int.le_trans h2.2 (by decide)⟩
def mg (S:xl)(f:List F_)(lies:List k_->F_->Out k_):Prop:=∀g nm b e,PG S f g->aA nm=ZH->lies g nm=.inl (b,e)->PG S f b/\(∃more,b=g++more)/\e∈b/\e.e=nm
def gS{S:xl}(ZR:SpcOk S){lies:List k_->F_->Out k_}{g:List F_}(D:t<S.n1)(C:mg S g lies):∀k f i m b x,PG S g f->RG S f i m->E i+k=201->bT S lies t k f i m=.inl (b,x)->PG S g b/\(∃more,b=f++more)/\oC x.1.M x.1.H/\x.2.length<=200/\(∀l∈x.2,aA l.e=ZH)/\∀l∈x.2,l.ask=ZH->∃y∈b,y.e=l.e:=by
 intro k;induction k with
 |zero=>intro f i m b x _ _ _ h;cases h
 |succ k r =>
  intro f i m b x q j hk h;have H:=me ZR D j.good;rw[bT] at h;rcases H with⟨o,p⟩|⟨o,hlt,hn⟩
  ·rw[eT o] at h;cases h
   exact⟨q,⟨[],by simp⟩,p,by rw[j.len];omega,j.names,j.asked⟩
  ·rw[eI (by rw[o];simp)] at h;split at h;{exact r _ _ _ _ _ q (j.add (lv _ _) hn (λh=>by cases h)) (by simp;omega) h}
   ·split at h
    ·rename_i n e p;obtain⟨A,⟨more,z⟩,s,G⟩:=C _ _ _ _ q hn p;have u:RG S n i m:=j.P λx ZT=>by rw[z];exact NW _ ZT
     obtain⟨K,⟨more2,ZS⟩,B⟩:=r _ _ _ _ _ A (u.add (l:=⟨(bK S t i).e,ZH,ZA⟩) (lw (A.W e s)) hn (λ_=>⟨e,s,G⟩)) (by simp;omega) h;exact⟨K,⟨more++more2,by rw[ZS,z,NP]⟩,B⟩
    {cases h};{cases h}
def iH{S:xl}{f:List k_}(h:PG S b f)(i:aS f nm=Z):PG S (b++[nm]) f:=
 ⟨h.W,h.nod,λx g=>kM λz hz=>by
  rcases p8.1 hz with hz|hz
  ·exact jU (h.off x g) z hz
  ·rw[j4.1 hz];exact λe=>dI i x g e.c,h.ord⟩
def jB{S:xl}{f:List k_}(h:PG S (b++[nm]) f):PG S b f/\∀x∈f,x.e≠nm:=
 ⟨⟨h.W,h.nod,λx g=>kM λz hz=>jU (h.off x g) z (NW _ hz),h.ord⟩,λx g e=>jU (h.off x g) nm (PJ _ (j4.2 rfl)) e.c⟩
def Fo{S:xl}{f:List k_}{x:Turn × List Lk}(h:PG S (b++[nm]) f)(hn:aA nm=ZH)(h1:atL b nm=Z)(h2:atI (nm0 S.f0) S.n0 nm=Z)(m:atI (nm1 S.f1) S.n1 nm=Q t)(g:oC x.1.M x.1.H)(j:x.2.length<=200)(i:∀l∈x.2,aA l.e=ZH)(n:∀l∈x.2,l.ask=ZH->∃y∈f,y.e=l.e):PG S b (f++[⟨nm,3,x.1.M,x.1.H,t,x.2⟩]):=
 (jB h).1.add ⟨hn,g.2.2,⟨g.1,g.2.1⟩,.inr (.inr ⟨rfl,h2,m⟩),j,i⟩ (jB h).2 h1 n
def Fp{S:xl}(j:SpcOk S){f:List k_}(h:PG S b f)(hn:aA nm=ZH)(m:aS f nm=Z)(h1:atL b nm=Z)(h2:atI (nm0 S.f0) S.n0 nm=Q i):PG S b (f++[⟨nm,1,0,(S.f0 i).H,0,[]⟩]):=
 h.add ⟨hn,j.H i (bu h2).1,⟨YR _,by show(0:Int)<=5;decide⟩,.inl ⟨rfl,rfl,rfl,i,h2,rfl⟩,DW _,λl g=>absurd g nj⟩ (dI m) h1 λl g=>absurd g nj
def Cd{S:xl}{f:List k_}(h:PG S b f)(hn:aA nm=ZH)(i:aS f nm=Z)(h1:atL b nm=Z)(h2:atI (nm0 S.f0) S.n0 nm=Z)(j:atI (nm1 S.f1) S.n1 nm=Z):PG S b (f++[⟨nm,2,0,⟨#[]⟩,0,[]⟩]):=
 h.add ⟨hn,DW _,⟨YR _,by show(0:Int)<=5;decide⟩,.inr (.inl ⟨rfl,rfl,rfl,rfl,h2,j⟩),DW _,λl g=>absurd g nj⟩ (dI i) h1 λl g=>absurd g nj
def dm{S:xl}(p:SpcOk S):∀n b,mg S b (aT S n b):=by
 intro n;have o:∀b g nm f e (tgt:Nat->Out k_),PG S b g->aA nm=ZH->(∀t f e,atI (nm0 S.f0) S.n0 nm=Z->atI (nm1 S.f1) S.n1 nm=Q t->aS g nm=Z->atL b nm=Z->tgt t=.inl (f,e)->PG S b f/\(∃more,f=g++more)/\e∈f/\e.e=nm)->dB S tgt b g nm=.inl (f,e)->PG S b f/\(∃more,f=g++more)/\e∈f/\e.e=nm:=by
  intro b g nm f e tgt j hn u h;unfold dB at h;split at h
  ·rename_i e1 q;cases h
   exact⟨j,⟨[],by simp⟩,iu q⟩
  ·rename_i m;split at h;{cases h}
   ·rename_i h1;unfold eW ee at h;split at h
    ·rename_i i hi;cases h
     exact⟨Fp p j hn m h1 hi,⟨_,rfl⟩,by simp,rfl⟩
    ·rename_i h2;split at h;{rename_i t l;exact u _ _ _ h2 l m h1 h}
     ·rename_i l;cases h
      exact⟨Cd j hn m h1 h2 l,⟨_,rfl⟩,by simp,rfl⟩
 induction n with
 |zero =>intro b g nm f e j hn h;rw[aT] at h;exact o _ _ _ _ _ _ j hn (λt _ _ _ _ _ _ h=>by cases h) h
 |succ n r =>
  intro b g nm f e j hn h;rw[aT] at h;refine o _ _ _ _ _ _ j hn (λt f e h2 l m h1 h=>?_) h;rcases hr:bT S (aT S n (b++[nm])) t 201 g [] [] with⟨made1,x⟩|c|c;{rw[hr] at h;simp only[iF,ee,T8,LK] at h;obtain⟨rfl,rfl⟩:=h;obtain⟨B,⟨more,A⟩,s,y,C,z⟩:=gS p (bu l).1 (r (b++[nm])) _ _ _ _ _ _ (iH j m) (iv S g) rfl hr;exact⟨Fo B hn h1 h2 l s y C z,⟨more++[_],by rw[A,NP]⟩,by simp,rfl⟩};{rw[hr] at h;cases h};{rw[hr] at h;cases h}
def iw (b:List k_)(nm:F_):Nat:=b.findIdx λe=>e.e.toList == nm.toList
def lkD (b:List k_)(l:Lk):Link:=⟨l.e,l.ask,l.has,if l.ask=ZH then ((iw b l.e:Nat):Int) else 0⟩
def lkF (b:List k_)(f:List Lk):Nat->Link:=λi=>lkD b (f.getD i ⟨⟨#[]⟩,ZA,ZA⟩)
def bP (S:xl)(e:k_):Nat:=if e.L=3 then (S.f1 e.tg).h else 0
def bo (S:xl)(b:List k_)(e:k_):au:=⟨e.e,e.L,e.M,e.H,bP S e,(S.f1 e.tg).q,E e.D,lkF b e.D⟩
def bk (S:xl)(b:List k_):List au:=b.map (bo S b)
def lA{b:List k_}{f:List Lk}{l:Lk}(h:f[i]?=Q l):lkF b f i=lkD b l:=by unfold lkF;rw[CL,h];rfl
def mh (S:xl)(nm:F_):PG S [] (bE S nm).1/\(bE S nm).1.length<=40201/\((bE S nm).1≠[]->SpcOk S):=by
 unfold bE;split
 ·rename_i h;have f:=SpcOk.of h.1;split
  ·rename_i b e g;have i:=iq S 60 [] [] nm b e g;unfold fO at i;have hl:dU S [] []<=S.n1:=by unfold dU;have:=UC (p:=js S [] []) (l:=List.range S.n1);simpa using this
   have hs:=f.bb;refine⟨(dm f 60 [] [] nm b e (gv S []) h.2 g).1,?_,λ_=>f⟩;simp only[IS] at i;show (E b)<=40201;omega
  {exact⟨gv S [],DW _,λh=>absurd rfl h⟩};{exact⟨gv S [],DW _,λh=>absurd rfl h⟩}
 {exact⟨gv S [],DW _,λh=>absurd rfl h⟩}
def PG.idx{S:xl}{f:List F_}{b:List k_}(h:PG S f b){x:k_}(m:b[i]?=Q x):iw b x.e=i:=by
 obtain⟨hi,e⟩:=j5.1 m;unfold iw;rw[List.findIdx_eq hi];refine⟨by simp[e],λj l=>?_⟩;have g:=D0.1 h.nod j i (by omega) hi l;rw[e] at g;cases hb:(b[j].e.toList == x.e.toList) with
 |false=>rfl
 |true=>exact absurd (Qv hb) g
def PG.asked{S:xl}{f:List F_}{b:List k_}(h:PG S f b){x:k_}(o:b[i]?=Q x){l:Lk}(m:l∈x.D)(n:l.ask=ZH):∃y,b[iw b l.e]?=Q y/\y.e=l.e/\iw b l.e<i:=by obtain⟨j,y,hj,g,e⟩:=h.ord i x o l m n;have:=h.idx g;rw[e] at this;exact⟨y,by rw[this];exact g,e,by omega⟩
def Ce{S:xl}{b:List k_}(h:PG S [] b)(g:∀i,i<S.n1->aP (S.f1 i)):∀x∈bk S b,cX x:=by
 intro x l;obtain⟨e,j,rfl⟩:=NM.1 l;have f:=h.W e j;refine⟨?_,?_⟩
 ·show bP S e<=1048576;unfold bP;split
  ·rename_i hk;rcases f.L with⟨k,_⟩|⟨k,_⟩|⟨_,_,k⟩
   {omega};{omega};{exact g e.tg (bu k).1}
  {omega}
 {have:=f.D;show (E e.D)<=1048576;omega}
def dv (b:List k_)(l:Lk):aD:=if l.ask=ZH then ((aS b l.e).elim pB gF) else ⟨l.has,0,⟨#[]⟩⟩
structure Rn (S:xl)(q_:List k_)(x:k_):Prop where
 has:∀l∈x.D,l.ask=ZH->l.has=ZA
 ahd:∀l∈x.D,l.ask=ZH->∃y,aS q_ l.e=Q y
 go:x.L=3->∀k l,x.D[k]?=Q l->(bK S x.tg ((x.D.take k).map (dv q_))).K=ZA/\(bK S x.tg ((x.D.take k).map (dv q_))).e=l.e/\(bK S x.tg ((x.D.take k).map (dv q_))).ask=l.ask
 fin:x.L=3->(bK S x.tg (x.D.map (dv q_))).K=ZH/\(bK S x.tg (x.D.map (dv q_))).M=x.M/\(bK S x.tg (x.D.map (dv q_))).H=x.H
def mj{b more:List k_}{t:F_}{y:k_}(h:aS b t=Q y):aS (b++more) t=Q y:=by unfold aS at h ⊢;rw[List.find?_append,h];rfl
def Cf{b more:List k_}{l:Lk}(h:l.ask=ZH->∃y,aS b l.e=Q y):dv (b++more) l=dv b l:=by
 unfold dv;split;{rename_i g;obtain⟨y,f⟩:=h g;rw[f,mj f]};{rfl}
def mo{q_ more:List k_}{b:List Lk}(h:∀l∈b,l.ask=ZH->∃y,aS q_ l.e=Q y):b.map (dv (q_++more))=b.map (dv q_):=
 XS λl f=>Cf (h l f)
def Rn.more{S:xl}{b more:List k_}{x:k_}(h:Rn S b x):Rn S (b++more) x:=by
 refine⟨h.has,λl f j=>?_,λg k l f=>?_,λg=>?_⟩;{obtain⟨y,i⟩:=h.ahd l f j;exact⟨y,mj i⟩};{rw[mo (q_:=b) (more:=more) λl f=>h.ahd l (QW f)];exact h.go g k l f};{rw[mo h.ahd];exact h.fin g}
def yk{S:xl}{b:List k_}{x:k_}(g:x.L≠3)(f:x.D=[]):Rn S b x:=
 ⟨(λl h=>by rw[f] at h;cases h),(λl h=>by rw[f] at h;cases h),λh=>absurd h g,λh=>absurd h g⟩
structure Rl (S:xl)(t:Nat)(q_:List k_)(ys:List aD)(ls:List Lk):Prop where
 rep:ys=ls.map (dv q_)
 has:∀l∈ls,l.ask=ZH->l.has=ZA
 ahd:∀l∈ls,l.ask=ZH->∃y,aS q_ l.e=Q y
 go:∀k l,ls[k]?=Q l->(bK S t ((ls.take k).map (dv q_))).K=ZA/\(bK S t ((ls.take k).map (dv q_))).e=l.e/\(bK S t ((ls.take k).map (dv q_))).ask=l.ask
def Rl.more{S:xl}{b more:List k_}{i:List aD}{g:List Lk}(h:Rl S t b i g):Rl S t (b++more) i g:=by
 refine⟨by rw[mo h.ahd];exact h.rep,h.has,λl f m=>?_,λk l f=>?_⟩;{obtain⟨y,j⟩:=h.ahd l f m;exact⟨y,mj j⟩};{rw[mo (q_:=b) (more:=more) λl f=>h.ahd l (QW f)];exact h.go k l f}
def Rl.add{S:xl}{b:List k_}{f:List aD}{g:List Lk}{r:aD}{l:Lk}(h:Rl S t b f g)(j:r=dv b l)(h1:l.ask=ZH->l.has=ZA)(h2:l.ask=ZH->∃y,aS b l.e=Q y)(n:(bK S t f).K=ZA)(hn:(bK S t f).e=l.e)(m:(bK S t f).ask=l.ask):Rl S t b (f++[r]) (g++[l]):=by
 refine⟨by rw[ND,<-h.rep,j];rfl,λz hz=>?_,λz hz=>?_,λk z hz=>?_⟩;{rcases p8.1 hz with hz|hz;{exact h.has z hz};{rw[j4.1 hz];exact h1}};{rcases p8.1 hz with hz|hz;{exact h.ahd z hz};{rw[j4.1 hz];exact h2}}
 ·rcases OR k (E g) with i|hge;{rw[NH i] at hz;rw[List.take_append_of_le_length (by omega)];exact h.go k z hz}
  ·have o:k=E g:=by
    have:=(j5.1 hz).1;simp at this;omega
   subst o;rw[KK ly,UV] at hz;obtain rfl:l=z:=by simpa using hz
   rw[List.take_left,<-h.rep];exact⟨n,hn,m⟩
def ym (S:xl)(g:List F_)(lies:List k_->F_->Out k_):Prop:=∀f nm b e,PG S g f->aA nm=ZH->(∀x∈f,Rn S f x)->lies f nm=.inl (b,e)->(∀x∈b,Rn S b x)/\aS b nm=Q e
def Fq{S:xl}(K:SpcOk S){lies:List k_->F_->Out k_}{g:List F_}(L:t<S.n1)(ZR:mg S g lies)(hn:ym S g lies):∀k f i n b x,PG S g f->RG S f i n->(∀x∈f,Rn S f x)->Rl S t f i n->E i+k=201->bT S lies t k f i n=.inl (b,x) ->
  (∀z∈b,Rn S b z)/\(∀l∈x.2,l.ask=ZH->l.has=ZA)/\(∀l∈x.2,l.ask=ZH->∃y,aS b l.e=Q y)/\(∀k l,x.2[k]?=Q l->(bK S t ((x.2.take k).map (dv b))).K=ZA/\(bK S t ((x.2.take k).map (dv b))).e=l.e/\(bK S t ((x.2.take k).map (dv b))).ask=l.ask)/\(bK S t (x.2.map (dv b))).K=ZH/\bK S t (x.2.map (dv b))=x.1:=by
 intro k;induction k with
 |zero=>intro f i n b x _ _ _ _ _ h;cases h
 |succ k B =>
  intro f i n b x A s q j hk h;have O:=me K L s.good;rw[bT] at h;rcases O with⟨p,r⟩|⟨p,hlt,o⟩
  ·rw[eT p] at h;cases h
   exact⟨q,j.has,j.ahd,j.go,by rw[<-j.rep];exact p,by rw[<-j.rep]⟩
  ·rw[eI (by rw[p];simp)] at h;split at h;{rename_i u;exact B _ _ _ _ _ A (s.add (lv _ _) o (λh=>by cases h)) q (j.add (by unfold dv;rw[eI (by simp)]) (λh=>by cases h) (λh=>by cases h) p rfl u) (by simp;omega) h}
   ·rename_i u;split at h
    ·rename_i m e r;obtain⟨ZS,⟨more,H⟩,C,ZQ⟩:=ZR _ _ _ _ A o r;obtain⟨M,G⟩:=hn _ _ _ _ A o q r;have D:RG S m i n:=s.P λx j=>by rw[H];exact NW _ j
     have ZT:Rl S t m i n:=by rw[H];exact j.more
     exact B _ _ _ _ _ ZS (D.add (l:=⟨(bK S t i).e,ZH,ZA⟩) (lw (ZS.W e C)) o (λ_=>⟨e,C,ZQ⟩)) M (ZT.add (by unfold dv;rw[eT rfl];show gF e=(aS m (bK S t i).e).elim pB gF;rw[G];rfl) (λ_=>rfl) (λ_=>⟨e,G⟩) p rfl (by simpa using u)) (by simp;omega) h
    {cases h};{cases h}
def jt{b:List k_}{e:k_}(h:aS b e.e=Z):aS (b++[e]) e.e=Q e:=by rw[iX,h];simp
def vt{b:List k_}(h:∀x∈b,x.e≠nm):aS b nm=Z:=
 SD.2 λx f e=>h x f (Qv e)
def rK{S:xl}{b:List k_}{e:k_}(h:∀x∈b,Rn S b x)(g:Rn S b e):∀x∈b++[e],Rn S (b++[e]) x:=λx f=>by
 rcases p8.1 f with f|f
 ·exact(h x f).more
 ·rw[j4.1 f];exact g.more
def IZ (S:xl)(t:Nat)(b:List k_):Rl S t b [] []:=⟨rfl,λ_ h=>absurd h nj,λ_ h=>absurd h nj,λk l h=>by simp at h⟩
def Cg{S:xl}(o:SpcOk S):∀n b,ym S b (aT S n b):=by
 intro n;have p:∀b g nm f e (tgt:Nat->Out k_),PG S b g->aA nm=ZH->(∀x∈g,Rn S g x)->(∀t f e,atI (nm1 S.f1) S.n1 nm=Q t->aS g nm=Z->tgt t=.inl (f,e)->(∀x∈f,Rn S f x)/\aS f nm=Q e)->dB S tgt b g nm=.inl (f,e)->(∀x∈f,Rn S f x)/\aS f nm=Q e:=by
  intro b g nm f e tgt j hn i A h;unfold dB at h;split at h
  ·rename_i e1 u;cases h
   exact⟨i,u⟩
  ·rename_i l;split at h;{cases h}
   ·unfold eW ee at h;split at h
    ·cases h
     exact⟨rK i (yk (by show(1:Int)≠3;decide) rfl),jt l⟩
    ·split at h;{rename_i t m;exact A _ _ _ m l h}
     ·cases h
      exact⟨rK i (yk (by show(2:Int)≠3;decide) rfl),jt l⟩
 induction n with
 |zero =>intro b g nm f e j hn i h;rw[aT] at h;exact p _ _ _ _ _ _ j hn i (λt _ _ _ _ h=>by cases h) h
 |succ n y =>
  intro b g nm f e j hn i h;rw[aT] at h;refine p _ _ _ _ _ _ j hn i (λt f e m l h=>?_) h;rcases hr:bT S (aT S n (b++[nm])) t 201 g [] [] with⟨made1,x⟩|c|c;{rw[hr] at h;simp only[iF,ee,T8,LK] at h;obtain⟨rfl,rfl⟩:=h;have q:=iH j l;obtain⟨B,_⟩:=gS o (bu m).1 (dm o n (b++[nm])) _ _ _ _ _ _ q (iv S g) rfl hr;obtain⟨s,z,C,D,ZT,r⟩:=Fq o (bu m).1 (dm o n (b++[nm])) (y (b++[nm])) _ _ _ _ _ _ q (iv S g) i (IZ S t g) rfl hr;exact⟨rK s ⟨z,C,λ_=>D,λ_=>⟨ZT,by rw[r],by rw[r]⟩⟩,jt (e:=⟨nm,3,x.1.M,x.1.H,t,x.2⟩) (vt (jB B).2)⟩};{rw[hr] at h;cases h};{rw[hr] at h;cases h}
def Ci (f:Nat->Ins)(yh:Nat)(i:List aD)(r:aD)(q:r.has=ZA)(k:Nat):∀zd v_ x_ j,x_<=E i->(cA f yh (yL i) (E i) k zd v_ x_ j).K=ZA->(cA f yh (yL i) (E i) k zd v_ x_ j).ask=ZH->(cA f yh (yL (i++[r])) (E i+1) k zd v_ x_ j).K=ZH:=by
 induction k with
 |zero=>intro _ _ _ _ _ _ h;cases h
 |succ k l =>
  intro zd v_ x_ j n g b;rw[cA] at g b ⊢;rcases hs:bQ f yh zd v_ x_ j with⟨s,p⟩|⟨c,x⟩|⟨a,nm,s⟩
  {rw[hs] at g b;exact l _ _ _ _ n g b};{rfl}
  ·rw[hs] at g b;simp only at g b ⊢;rw[eI (show ¬ (E i)+1<=x_ by omega)];by_cases hn:E i<=x_
   ·obtain rfl:x_=E i:=by omega
    rw[eT hn] at g b;have m:a=ZH:=b;subst m;rw[eI (by simp),GJ,eT q];rfl
   {rw[eI hn] at g b;rw[Cb _ _ (by omega)];split;{rename_i h1;rw[eT h1] at g b;exact l _ _ _ _ (by omega) g b};{rename_i h1;rw[eI h1] at g b;split;{rfl};{rename_i h2;rw[eI h2] at g b;split;{rename_i o;rw[eT o] at g b;exact l _ _ _ _ (by omega) g b};{rfl}}}}
def mr (S:xl)(b:List k_):Nat:=(List.range S.n0).countP λi=>(aS b (S.f0 i).e).isNone
def Mu (S:xl)(f:List F_)(b:List k_):Nat:=E b+2*dU S f b+mr S b
def sQ (S:xl)(b:List k_)(e:k_):mr S (b++[e])<=mr S b:=by
 refine UB λt _ h=>?_;rw[iX] at h;cases h2:aS b (S.f0 t).e with
 |none=>rfl
 |some x=>rw[h2] at h;simp at h
def Cj{S:xl}{b:List k_}{e:k_}(hi:i<S.n0)(hn:(S.f0 i).e=e.e)(h:aS b e.e=Z):mr S (b++[e])+1<=mr S b:=by
 refine sO (λx _ h=>?_) (E4.2 hi) ?_ ?_
 ·rw[iX] at h;cases h2:aS b (S.f0 x).e with
  |none=>rfl
  |some y=>rw[h2] at h;simp at h
 {rw[hn,jt h];rfl};{rw[hn,h];rfl}
def Ck (S:xl)(b:List F_)(lies:List k_->F_->Out k_):Prop:=∀g nm f e,lies g nm=.inl (f,e)->Mu S b f<=Mu S b g+if e.L=2 then 1 else 0
def Hy{S:xl}{lies:List k_->F_->Out k_}{f:List F_}(o:Ck S f lies):∀k g i l b x,bT S lies t k g i l=.inl (b,x)->Mu S f b<=Mu S f g+1:=by
 intro k;induction k with
 |zero=>intro g i l b x h;cases h
 |succ k m =>
  intro g i l b x h;rw[bT] at h;split at h;{cases h;omega}
  ·rename_i q;split at h;{exact m _ _ _ _ _ h}
   ·rename_i r;split at h
    ·rename_i made1 e p;have h1:=o _ _ _ _ p;by_cases j:e.L=2
     ·have n:(bK S t (i++[gF e])).K=ZH:=by
       have:=Ci (S.f1 t).q (S.f1 t).h i (gF e) (by simp[gF,j]) 2001 0 0 0 [] (DW _) (by simpa[bK] using q) (by simpa[bK] using r);unfold bK;rw[cM];exact this
      cases k with
      |zero=>cases h
      |succ k =>
       rw[bT,eT n] at h;cases h
       rw[eT j] at h1;exact h1
     {rw[eI j] at h1;have:=m _ _ _ _ _ h;omega}
    {cases h};{cases h}
def Fs (S:xl):∀n b,Ck S b (aT S n b):=by
 intro n;have o:∀b f nm g e (tgt:Nat->Out k_),(∀t g e,atI (nm1 S.f1) S.n1 nm=Q t->aS f nm=Z->atL b nm=Z->tgt t=.inl (g,e)->Mu S b g<=Mu S b f)->dB S tgt b f nm=.inl (g,e)->Mu S b g<=Mu S b f+if e.L=2 then 1 else 0:=by
  intro b f nm g e tgt q h;unfold dB at h;split at h;{cases h;omega}
  ·rename_i m;split at h;{cases h}
   ·rename_i h1;unfold eW ee at h;split at h
    ·rename_i i hi;cases h
     have:=km S b f ⟨nm,1,0,(S.f0 i).H,0,[]⟩;have:=Cj (S:=S) (e:=⟨nm,1,0,(S.f0 i).H,0,[]⟩) (bu hi).1 (bu hi).2 m;unfold Mu;rw[cM,AI];omega
    ·split at h;{rename_i t l;have:=q _ _ _ l m h1 h;omega}
     ·cases h
      have:=km S b f ⟨nm,2,0,⟨#[]⟩,0,[]⟩;have:=sQ S f ⟨nm,2,0,⟨#[]⟩,0,[]⟩;rw[eT rfl];unfold Mu;rw[cM,AI];omega
 induction n with
 |zero =>intro b f nm g e h;rw[aT] at h;exact o _ _ _ _ _ _ (λt _ _ _ _ _ h=>by cases h) h
 |succ n p =>
  intro b f nm g e h;rw[aT] at h;refine o _ _ _ _ _ _ (λt g e l m h1 h=>?_) h;rcases hr:bT S (aT S n (b++[nm])) t 201 f [] [] with⟨j,x⟩|c|c;{rw[hr] at h;simp only[iF,ee,T8,LK] at h;obtain⟨rfl,rfl⟩:=h;have r:=Hy (p (b++[nm])) _ _ _ _ _ _ hr;have g2:=gu (y_:=b) (q_:=f) (bu l).1 (bu l).2 m h1;have g3:dU S b (j++[⟨nm,3,x.1.M,x.1.H,t,x.2⟩])<=dU S (b++[nm]) j:=sN S b j ⟨nm,3,x.1.M,x.1.H,t,x.2⟩;have g4:=sQ S j ⟨nm,3,x.1.M,x.1.H,t,x.2⟩;unfold Mu at r ⊢;rw[cM,AI];omega};{rw[hr] at h;cases h};{rw[hr] at h;cases h}
def qG{S:xl}(g:SpcOk S){b:List k_}{e:k_}(h:aT S 60 [] [] nm=.inl (b,e)):E b<=400:=by
 have h1:=Fs S 60 [] [] nm b e h;have hl:dU S [] []<=S.n1:=by have:=UC (p:=js S [] []) (l:=List.range S.n1);simpa[dU] using this
 have hs:mr S []<=S.n0:=by have:=UC (p:=λi=>(aS [] (S.f0 i).e).isNone) (l:=List.range S.n0);simpa[mr] using this
 have h2:=g.bb;by_cases f:e.L=2
 ·rw[aT] at h;unfold dB at h;simp only[aS,List.find?_nil,atL,List.findIdx?_nil] at h;unfold eW ee at h;split at h;{cases h;cases f}
  ·split at h;{rename_i t h3;simp only at h;rcases hr:bT S (aT S 59 ([]++[nm])) t 201 [] [] [] with⟨made1,x⟩|c|c;{rw[hr] at h;simp only[iF,ee,T8,LK] at h;obtain⟨rfl,rfl⟩:=h;cases f};{rw[hr] at h;cases h};{rw[hr] at h;cases h}}
   ·cases h
    show 1<=400;omega
 {rw[eI f] at h1;unfold Mu at h1;rw[IS] at h1;omega}
def sLt (m:Nat):Nat->Bool:=λq=>decide (q<m)
def nT (m:Nat):put (sLt m) m=sLt (m+1):=by funext q;rw[OH];simp only[put,sLt,Bool.or_eq_true,TS,nD];omega
def ix{S:xl}{M:List k_}{x:k_}(h:M[i]?=Q x):dF (bk S M) i=bo S M x:=by unfold dF bk;rw[CL,LR,h];rfl
def vu{M b rest:List k_}{x:k_}(hM:M=b++rest)(h:b[i]?=Q x):M[i]?=Q x:=by rw[hM,NH (j5.1 h).1];exact h
def vv{S:xl}{lies:List k_->F_->Out k_}:∀k f i g b x,bT S lies t k f i g=.inl (b,x)->∃more,x.2=g++more:=by
 intro k;induction k with
 |zero=>intro f i g b x h;cases h
 |succ k j =>
  intro f i g b x h;rw[bT] at h;split at h
  ·cases h
   exact⟨[],by simp⟩
  {split at h;{obtain⟨m,e⟩:=j _ _ _ _ _ h;exact⟨[_]++m,by rw[e,NP]⟩};{split at h;{obtain⟨m,e⟩:=j _ _ _ _ _ h;exact⟨[_]++m,by rw[e,NP]⟩};{cases h};{cases h}}}
section
variable {S:xl}{M:List k_}
def vw (S:xl)(M:List k_)(g:List F_)(m:Nat)(lies:List k_->F_->Out k_):Prop:=∀f nm b e,PG S g f->aA nm=ZH->lies f nm=.inl (b,e)->(∃rest,M=b++rest) ->
 (b=f/\∃i,i<E f/\M[i]?=Q e/\e.e=nm)\/(E f<E b/\M[E b - 1]?=Q e/\e.e=nm/\∀k d,E b<=k->∃L,lst (dF (bk S M)) k (E b - 1) d (sLt (E f))=(sLt (E b),L)/\L.map (·.1)=List.range' (E f) (E b - (E f))/\∀x∈L,(dF (bk S M) x.1).L=3->x.2<d+m)
def vA{go:Nat->Nat->(Nat->Bool)->(Nat->Bool) × List (Nat × Nat)}{x:au}{d:Nat}{s:Nat->Bool}(h:¬ ((x.m j).ask=ZH/\(lks go x d s j).1 (x.m j).G.toNat=ZA)):lks go x d s (j+1)=lks go x d s j:=by rw[lks,eI h]
def Cl (hS:SpcOk S)(hM:PG S [] M){lies:List k_->F_->Out k_}(ht:t<S.n1)(hl:mg S r lies)(hh:vw S M r m lies):∀k b A u f x,PG S r b->RG S b A u->E A+k=201->bT S lies t k b A u=.inl (f,x)->(∃rest,M=f++rest)->∀(p j d:Nat) (s0:Nat->Bool) (C:List (Nat × Nat)) (y:k_),M[p]?=Q y->y.D=x.2->E f<=p->p<=j->lks (lst (dF (bk S M)) j) (dF (bk S M) p) d s0 (E u)=(sLt (E b),C) ->
  ∃L,lks (lst (dF (bk S M)) j) (dF (bk S M) p) d s0 x.2.length=(sLt (E f),C++L)/\L.map (·.1)=List.range' (E b) (E f - (E b))/\∀z∈L,(dF (bk S M) z.1).L=3->z.2<d+1+m:=by
 intro k;induction k with
 |zero=>intro b A u f x _ _ _ h;cases h
 |succ k ZO =>
  intro b A u f x ZL X hk h G p j d s0 C y ZQ D B K hlk;have hT:=me hS ht X.good;have h0:=h;rw[bT] at h;rcases hT with⟨R,ZP⟩|⟨R,hlt,ZT⟩
  ·rw[eT R] at h;cases h
   exact⟨[],by rw[hlk,XI],by simp,λz hz=>absurd hz nj⟩
  ·rw[eI (by rw[R];simp)] at h;have lk:∀l more,x.2=(u++[l])++more->(dF (bk S M) p).m (E u)=lkD M l:=λl more e=>by rw[ix ZQ];refine lA ?_;rw[D,e,NP,KK ly,UV];rfl
   split at h;{rename_i ha;obtain⟨more,e⟩:=vv _ _ _ _ _ _ h;have o:=lk _ _ e;refine ZO _ _ _ _ _ ZL (X.add (lv _ _) ZT (λh=>by cases h)) (by simp;omega) h G p j d s0 C y ZQ D B K ?_;rw[cM,AI,vA (by rw[o];exact λh=>by cases h.1)];exact hlk}
   ·rename_i ha;split at h
    ·rename_i g V ZP;obtain⟨O,⟨more1,g2⟩,ZM,g4⟩:=hl _ _ _ _ ZL ZT ZP;have bt:RG S g A u:=X.P λx hx=>by rw[g2];exact NW _ hx
     have ZS:=bt.add (l:=⟨(bK S t A).e,ZH,ZA⟩) (lw (O.W V ZM)) ZT (λ_=>⟨V,ZM,g4⟩);obtain⟨-,⟨more2,q2⟩,-⟩:=gS hS ht hl _ _ _ _ _ _ O ZS (by simp;omega) h;obtain⟨rest,q⟩:=G;have ex:∃rest,M=g++rest:=⟨more2++rest,by rw[q,q2,NP]⟩
     have hle:E g<=E f:=by rw[q2,cM];omega
     obtain⟨more,e⟩:=vv _ _ _ _ _ _ h;have o:=lk _ _ e;have ZR:∀i:Nat,M[i]?=Q V->((dF (bk S M) p).m (E u)).G.toNat=i:=λi hi=>by rw[o];have:=hM.idx hi;rw[g4] at this;simp[lkD,this]
     have ZN:((dF (bk S M) p).m (E u)).ask=ZH:=by rw[o];rfl
     rcases hh _ _ _ _ ZL ZT ZP ex with⟨rfl,i,hi,H,-⟩|⟨hlt1,H,-,fd⟩
     {refine ZO _ _ _ _ _ O ZS (by simp;omega) h ⟨rest,q⟩ p j d s0 C y ZQ D B K ?_;rw[cM,AI,vA (by rw[hlk,ZR i H];simp[sLt,hi])];exact hlk}
     ·obtain⟨W,aq,e2,e3⟩:=fd j (d+1) (by omega);have P:lks (lst (dF (bk S M)) j) (dF (bk S M) p) d s0 (u++[(⟨(bK S t A).e,ZH,ZA⟩:Lk)]).length=(sLt (E g),C++W):=by rw[cM,AI,lks,eT ⟨ZN,by rw[hlk,ZR _ H];simp[sLt];omega⟩,ZR _ H,hlk,aq]
      obtain⟨L2,f1,f2,f3⟩:=ZO _ _ _ _ _ O ZS (by simp;omega) h ⟨rest,q⟩ p j d s0 (C++W) y ZQ D B K P;refine⟨W++L2,by rw[f1,NP],?_,λz hz=>?_⟩;{rw[ND,e2,f2];have:=List.range'_append_1 (s:=E b) (m:=E g - (E b)) (n:=E f - (E g));rw[show (E b)+(E g - (E b))=E g by omega,show (E g) - (E b)+(E f - (E g))=E f - (E b) by omega] at this;exact this};{rcases p8.1 hz with hz|hz;{exact e3 z hz};{exact f3 z hz}}
    {cases h};{cases h}
def Cm{b:List k_}{e:k_}(j:e.L≠3)(g:e.D=[])(hM:M[E b]?=Q e):∀k d,E b+1<=k->∃L,lst (dF (bk S M)) k (E b) d (sLt (E b))=(sLt (E b+1),L)/\L.map (·.1)=List.range' (E b) 1/\∀x∈L,(dF (bk S M) x.1).L=3->x.2<d+0:=by
 intro k d hk1;cases k with
 |zero=>omega
 |succ k =>
  refine⟨[(E b,d)],?_,rfl,λx i f=>?_⟩;{have h:(dF (bk S M) (E b)).f=0:=(by rw[ix hM];show (E e.D)=0;rw[g];rfl);rw[lst,h];show(put (sLt (E b)) (E b),_)=_;rw[nT];rfl};{rw[j4.1 i,ix hM] at f;exact absurd f j}
def zU (u:SpcOk S)(hM:PG S [] M):∀n g,vw S M g n (aT S n g):=by
 intro n;have y:∀g b nm f e (tgt:Nat->Out k_) (m:Nat),PG S g b->aA nm=ZH->(∃rest,M=f++rest)->(∀t f e,atI (nm0 S.f0) S.n0 nm=Z->atI (nm1 S.f1) S.n1 nm=Q t->aS b nm=Z->atL g nm=Z->tgt t=.inl (f,e)->(∃rest,M=f++rest)->(E b<E f/\M[E f - 1]?=Q e/\e.e=nm/\∀k d,E f<=k->∃L,lst (dF (bk S M)) k (E f - 1) d (sLt (E b))=(sLt (E f),L)/\L.map (·.1)=List.range' (E b) (E f - (E b))/\∀x∈L,(dF (bk S M) x.1).L=3->x.2<d+m))->dB S tgt g b nm=.inl (f,e) ->
   (f=b/\∃i,i<E b/\M[i]?=Q e/\e.e=nm)\/(E b<E f/\M[E f - 1]?=Q e/\e.e=nm/\∀k d,E f<=k->∃L,lst (dF (bk S M)) k (E f - 1) d (sLt (E b))=(sLt (E f),L)/\L.map (·.1)=List.range' (E b) (E f - (E b))/\∀x∈L,(dF (bk S M) x.1).L=3->x.2<d+m):=by
  intro g b nm f e tgt m s hn o ZQ h;have r:∀l:k_,l.L≠3->l.D=[]->l.e=nm->(∃rest,M=(b++[l])++rest)->(E b<(b++[l]).length/\M[(b++[l]).length - 1]?=Q l/\l.e=nm/\∀k d,(b++[l]).length<=k->∃L,lst (dF (bk S M)) k ((b++[l]).length - 1) d (sLt (E b))=(sLt (b++[l]).length,L)/\L.map (·.1)=List.range' (E b) ((b++[l]).length - (E b))/\∀x∈L,(dF (bk S M) x.1).L=3->x.2<d+m):=by
   intro l ZT H hn0 ⟨rest,D⟩;have p:M[E b]?=Q l:=vu D (by simp);have hz:(b++[l]).length=E b+1:=by simp
   rw[hz,QR,Nat.add_sub_cancel_left];refine⟨by omega,p,hn0,λk d C=>?_⟩;obtain⟨L,h1,h2,q⟩:=Cm (S:=S) ZT H p k d C;exact⟨L,h1,h2,λx P ZO=>by have:=q x P ZO;omega⟩
  unfold dB at h;split at h
  ·rename_i G ZS
   cases h
   obtain⟨h1,h2⟩:=iu ZS;obtain⟨i,hi⟩:=PD h1;obtain⟨rest,o⟩:=o;exact .inl ⟨rfl,i,(j5.1 hi).1,vu o hi,h2⟩
  ·rename_i B
   split at h
   ·cases h
   ·rename_i h1
    unfold eW ee at h;split at h
    ·cases h
     exact .inr (r _ (by show(1:Int)≠3;decide) rfl rfl o)
    ·rename_i h2
     split at h
     ·rename_i t q
      exact .inr (ZQ _ _ _ h2 q B h1 h o)
     ·cases h
      exact .inr (r _ (by show(2:Int)≠3;decide) rfl rfl o)
 induction n with
 |zero =>intro g b nm f e s hn h o;rw[aT] at h;exact y _ _ _ _ _ _ _ s hn o (λt _ _ _ _ _ _ h=>by cases h) h
 |succ n ZR =>
  intro g b nm f e s hn h o;rw[aT] at h;refine y _ _ _ _ _ _ _ s hn o (λt f e h2 q B h1 h o=>?_) h;rcases hq:bT S (aT S n (g++[nm])) t 201 b [] [] with⟨j,x⟩|c|c
  ·rw[hq] at h;simp only[iF,ee,T8,LK] at h;obtain⟨rfl,rfl⟩:=h;have A:=iH s B;obtain⟨-,⟨more,R⟩,-⟩:=gS u (bu q).1 (dm u n (g++[nm])) _ _ _ _ _ _ A (iv S b) rfl hq;obtain⟨rest,o⟩:=o;have hz:(j++[(⟨nm,3,x.1.M,x.1.H,t,x.2⟩:k_)]).length=E j+1:=by simp
   have hle:E b<=E j:=by rw[R,cM];omega
   have p:M[E j]?=Q ⟨nm,3,x.1.M,x.1.H,t,x.2⟩:=vu o (by simp);rw[hz,QR];refine⟨by omega,p,rfl,λk d ZT=>?_⟩;cases k with
   |zero=>omega
   |succ k =>
    obtain⟨L,G,ZP,K⟩:=Cl u hM (bu q).1 (dm u n (g++[nm])) (ZR (g++[nm])) _ _ _ _ _ _ A (iv S b) rfl hq ⟨[_]++rest,by rw[o,NP]⟩ (E j) k d (sLt (E b)) [] _ p rfl ly (by omega) rfl;have O:(dF (bk S M) (E j)).f=x.2.length:=by rw[ix p];rfl
    refine⟨L++[(E j,d)],?_,?_,λz hz=>?_⟩;{rw[lst,O,G,nT,NR]};{rw[ND,ZP,show (E j)+1 - (E b)=E j - (E b)+1 by omega,List.range'_1_concat,show (E b)+(E j - (E b))=E j by omega];rfl}
    ·rcases p8.1 hz with hz|hz;{intro q;have:=K z hz q;omega}
     ·rw[j4.1 hz];intro _;show d<d+(n+1)
      omega
  {rw[hq] at h;cases h};{rw[hq] at h;cases h}
end
def oT:∀(L:List (Nat × Nat)) (i:Nat),L.map (·.1)=List.range' i (E L)->bG i L=-1
 |[],_,_=>rfl
 |x::L,i,h=>by rw[T7,vF,List.range'_succ] at h;obtain⟨h1,h2⟩:=List.cons.inj h;rw[bG,eT h1];exact oT L (i+1) h2
def oU {f:Nat->au}:∀(L:List (Nat × Nat)),(∀x∈L,(f x.1).L=3->x.2<60)->bm f L=-1
 |[],_=>rfl
 |x::L,h=>by rw[bm,eI λh1=>absurd (h x R8 h1.1) (by omega)];exact oU L λy b=>h y (mq _ b)
def zV{x:au}(h:∀i,i<n->dW f p (x.m i)=ZH):bX f p x n=ZH:=by
 induction n with
 |zero=>rfl
 |succ k b=>rw[bX,b λi hi=>h i (by omega),h k (by omega)];rfl
def Hz{S:xl}(G:SpcOk S){M:List k_}(hM:PG S [] M)(hR:∀x∈M,Rn S M x)(hi:i<E M):bw (dF (bk S M)) i=ZH:=by
 obtain⟨x,p⟩:∃x,M[i]?=Q x:=⟨M[i],gq hi⟩
 have r:=I5 p;have h:=hM.W x r;have e:dF (bk S M) i=bo S M x:=ix p;unfold bw;rw[e,j6,j6];refine⟨⟨h.nm,QC h.tx⟩,?_⟩;have K:=h.M;rcases h.L with⟨h1,h2,m,-⟩|⟨h1,h2,m,ZR,-⟩|⟨h1,-,m⟩
 {have b:(bo S M x).L=1:=h1;unfold kindOk;rw[eT b];simp[aY,bo,bP,h1,h2,m]};{have b:(bo S M x).L=2:=h1;unfold kindOk;rw[eI (by rw[b];decide),eT b];simp[aY,bo,bP,h1,h2,m,ZR];rfl}
 ·have b:(bo S M x).L=3:=h1;have B:(bo S M x).h=(S.f1 x.tg).h:=by show bP S x=_;unfold bP;rw[eT h1]
  unfold kindOk;rw[eI (by rw[b];decide),eI (by rw[b];decide),eT b];unfold cC;rw[B];have t:valid (bo S M x).q (S.f1 x.tg).h=ZH:=G.q _ (bu m).1;have s:(bo S M x).f<=200:=h.D;have hlk:bX (dF (bk S M)) i (bo S M x) (bo S M x).f=ZH:=zV λj ZT=>by
   have n:j<E x.D:=ZT;have q:x.D[j]?=Q x.D[j]:=gq n;have f:=gz n;have H:(bo S M x).m j=lkD M x.D[j]:=lA q;rw[H];generalize x.D[j]=l at f;unfold dW;rw[j6];refine⟨h.lname l f,?_⟩;by_cases g:l.ask=ZH
   ·obtain⟨y,C,hn,hlt⟩:=hM.asked p f g;have D:=(hR x r).has l f g;have o:(lkD M l).ask=ZH:=g;have hH:(lkD M l).has=ZA:=D;have A:(lkD M l).G=((iw M l.e:Nat):Int):=by unfold lkD;simp[g]
    have ZS:(lkD M l).e=l.e:=rfl;rw[eT o,hH,A,ZS,Int.toNat_natCast,ix C];have u:((bo S M y).e.toList == l.e.toList)=ZH:=by show(y.e.toList == l.e.toList)=ZH;rw[hn];simp
    rw[u];simp only[Bool.not_false,P9,TC,j6,nD];omega
   {have o:¬ (lkD M l).ask=ZH:=g;rw[eI o];unfold lkD;simp[g]}
  rw[t,hlk];have z:(bo S M x).M=x.M:=rfl;rw[z];simp only[TC,j6,nD];exact⟨K,s⟩
def zW{k:Nat}(h:∀j,j<k->(f j).e≠(f p).e):bj f p k=ZH:=by
 induction k with
 |zero=>rfl
 |succ k b =>
  rw[bj,b λj hj=>h j (by omega),P9];cases hb:((f k).e.toList == (f p).e.toList) with
  |false=>rfl
  |true=>exact absurd (Qv hb) (h k (by omega))
def Fu{S:xl}(b:SpcOk S)(hn:aA nm=ZH){M:List k_}{e:k_}(h:aT S 60 [] [] nm=.inl (M,e)):dE (dF (bk S M)) (E M)=(0,0)/\0<E M/\M[E M - 1]?=Q e/\e.e=nm/\PG S [] M/\∀x∈M,Rn S M x:=by
 have hM:=(dm b 60 [] [] nm M e (gv S []) hn h).1;have hR:=(Cg b 60 [] [] nm M e (gv S []) hn (λx g=>absurd g nj) h).1;have hs:=qG b h;rcases zU b hM 60 [] [] nm M e (gv S []) hn h ⟨[],by simp⟩ with⟨-,i,hi,-⟩|⟨h1,h2,s,y⟩
 {cases hi}
 ·refine⟨?_,h1,h2,s,hM,hR⟩;obtain⟨L,o,n,u⟩:=y (E M) 0 ly;have m:sLt ([]:List k_).length=λ_=>ZA:=by funext q;simp[sLt]
  have f:aG (dF (bk S M)) (E M)=L:=by unfold aG;rw[<-m,o]
  have l:E L=E M:=by have:=xT List.length n;simpa using this
  have f1:aQ (bw (dF (bk S M))) (E M)=-1:=ej λi hi=>Hz b hM hR hi;have z:aQ (λp=>bj (dF (bk S M)) p p) (E M)=-1:=ej λi hi=>zW λj r=>by rw[ix (gq hi),ix (gq (show j<E M by omega))];exact D0.1 hM.nod j i (by omega) hi r
  have A:bG 0 L=-1:=oT L 0 (by rw[l];exact n);have t:bm (dF (bk S M)) L=-1:=oU L λx g B=>by have:=u x g B;omega
  have h1':0<E M:=h1;unfold dE;rw[eI (by omega),f1,eI (by simp),z,eI (by simp),f,A,eI (by simp),t,eI (by simp)]
structure Borne (S:xl)(f:Nat->au)(p:Nat):Prop where
 lie:gD S.n0 S.f0 S.n1 S.f1 (f p)=ZA
 has:hasB S.n0 S.f0 S.n1 S.f1 (f p)=ZA
 run:codeF f p=0
def tgD (S:xl)(d:au):Nat:=if d.L=3 then (atI (nm1 S.f1) S.n1 d.e).getD 0 else 0
def lkE (l:Link):Lk:=⟨l.e,l.ask,l.has⟩
def fP (d:au)(k:Nat):List Lk:=(List.range k).map λj=>lkE (d.m j)
def dw (S:xl)(f:Nat->au)(p:Nat):k_:=⟨(f p).e,(f p).L,(f p).M,(f p).H,tgD S (f p),fP (f p) (f p).f⟩
def cF (S:xl)(f:Nat->au)(k:Nat):List k_:=(List.range k).map (dw S f)
def ysD (f:Nat->au)(p j:Nat):List aD:=(List.range j).map (yOf f p)
def yn{t:F_}(b:aK g n=ZH)(hi:i<n)(h:((g i).toList == t.toList)=ZH):atI g n t=Q i:=by
 cases e:atI g n t with
 |none=>exact absurd h (SD.1 e i (E4.2 hi))
 |some j =>obtain⟨h1,h2⟩:=bu e;rw[asc_one b h1 hi (by rw[h2];simp) h]
def rL{t:F_}(h:aF g n t=ZA):atI g n t=Z:=
 SD.2 λx b e=>by rw[eO (E4.1 b) e] at h;cases h
def SpcOk.apart{S:xl}(b:SpcOk S)(f:t<S.n1):aF (nm0 S.f0) S.n0 (S.f1 t).e=ZA:=by
 have h:=b.chk;unfold aR at h;split at h;· omega
 split at h;· omega
 split at h;· omega
 split at h;· omega
 split at h;· omega
 split at h;· omega
 rename_i g;cases e:aF (nm0 S.f0) S.n0 (S.f1 t).e with
 |false=>rfl
 |true =>obtain⟨k,i,hb⟩:=pa e;exact absurd (cS i (eO f (by rw[Qv hb];simp))) g
def sR{f g:Nat->Ins}{yh:Nat}(h:∀i,i<yh->f i=g i)(y:Nat->aD)(n k:Nat):∀zd v_ x_ b,cA f yh y n k zd v_ x_ b=cA g yh y n k zd v_ x_ b:=by
 induction k with
 |zero=>intro _ _ _ _;rfl
 |succ k j =>
  intro zd v_ x_ b;have e:bQ f yh zd v_ x_ b=bQ g yh zd v_ x_ b:=by
   unfold bQ;by_cases l:yh<=zd;{rw[eT l,eT l]};{rw[h zd (by omega)]}
  rw[cA,cA,e];rcases bQ g yh zd v_ x_ b with⟨s,p⟩|⟨c,x⟩|⟨a,nm,s⟩
  {exact j _ _ _ _};{rfl};{simp only[j]}
def H6{x y:Ins}(h:kE x y=ZH):x=y:=by obtain⟨a,b,c⟩:=x;obtain⟨a',b',c'⟩:=y;simp only[kE,j6,TS] at h;obtain⟨⟨rfl,hb⟩,rfl⟩:=h;rw[fy hb]
def vB{f g:Nat->Ins}(h:cO f g n=ZH)(i:Nat)(hi:i<n):f i=g i:=by have:=pT (show i+1<=n by omega) h;simp only[cO,j6] at this;exact H6 this.2
def gT (h:bc f n=ZH)(i:p<n):aA (f p).e=ZH/\((f p).L≠3->(f p).M=0/\(f p).h=0/\(f p).f=0)/\((f p).L=2->(f p).H=⟨#[]⟩)/\∀j,j<(f p).f->dW f p ((f p).m j)=ZH:=by
 have h1:=eN (er h).2.2 p i;simp only[bw,j6,kindOk,nD] at h1;obtain⟨⟨l,_⟩,h2⟩:=h1;refine⟨l,?_⟩;split at h2;{rename_i b;simp only[aY,j6,nD] at h2;exact⟨λ_=>⟨h2.1.1,h2.1.2,h2.2⟩,λe=>by omega,λj g=>by omega⟩};{split at h2;{rename_i b;simp only[aY,j6,nD] at h2;exact⟨λ_=>⟨h2.1.1.1,h2.1.1.2,h2.1.2⟩,λ_=>YU (TH h2.2),λj g=>by omega⟩};{split at h2;{rename_i b;simp only[cC,j6] at h2;exact⟨λe=>absurd b e,λe=>by omega,lI h2.2⟩};{cases h2}}}
def vC:∀(L:List (Nat × Nat)) (i:Nat),bG i L=-1->L.map (·.1)=List.range' i (E L)
 |[],_,_=>rfl
 |x::L,i,h=>by
  rw[bG] at h;split at h
  ·rename_i e
   rw[T7,vF,List.range'_succ,vC L (i+1) h,e]
  ·omega
def sS {f:Nat->au}:∀(L:List (Nat × Nat)),bm f L=-1->∀x∈L,(f x.1).L=3->x.2<60
 |[],_,x,b,_=>absurd b nj
 |y::L,h,x,b,hk=>by
  rw[bm] at h;split at h
  ·omega
  ·rename_i hn
   rcases vG.1 b with rfl|b
   ·exact Nat.lt_of_not_le λg=>hn ⟨hk,g⟩
   ·exact sS L h x b hk
def xx (h:bc f n=ZH):bG 0 (aG f n)=-1/\bm f (aG f n)=-1:=by
 have h1:(dE f n).1=0:=OT h;unfold dE at h1;split at h1;{simp at h1};{split at h1;{simp at h1};{split at h1;{simp at h1};{split at h1;{simp at h1};{rename_i i;split at h1;{simp at h1};{rename_i g;exact⟨PR λb=>i b,PR λb=>g b⟩}}}}}
def seg{A B:List (Nat × Nat)}(h:(A++B).map (·.1)=List.range' lo (A++B).length):A.map (·.1)=List.range' lo (E A)/\B.map (·.1)=List.range' (lo+E A) (E B):=by rw[ND,cM,<-List.range'_append_1] at h;exact List.append_inj h (by simp)
def yo (go:Nat->Nat->(Nat->Bool)->(Nat->Bool) × List (Nat × Nat))(x:au)(d:Nat)(s:Nat->Bool)(j:Nat):∀ZR,j<=ZR->∃more,(lks go x d s ZR).2=(lks go x d s j).2++more
 |0,h=>⟨[],by
  obtain rfl:j=0:=by omega
  simp⟩
 |ZR+1,h=>by
  by_cases e:j=ZR+1
  ·exact⟨[],by rw[e];simp⟩
  ·obtain⟨m,b⟩:=yo go x d s j ZR (by omega)
   rw[lks];split
   ·exact⟨m++(go (x.m ZR).G.toNat (d+1) (lks go x d s ZR).1).2,by rw[b,NP]⟩
   ·exact⟨m,b⟩
def sT {f:Nat->au}{p:Nat}:∀ZR k,k+ZR<=eF f p ZR k->∀i,i<ZR->eA f p (k+i)=ZA
 |0,_,_,i,hi=>absurd hi (NE i)
 |ZR+1,k,h,i,hi=>by
  rw[eF] at h;split at h
  ·omega
  ·rename_i b
   cases i with
   |zero=>simpa using b
   |succ i =>have:=sT (f:=f) (p:=p) ZR (k+1) (by omega) i (by omega);rwa[show k+(i+1)=k+1+i by omega]
def vD (h:codeF f p=0)(l:(f p).L=3):(∀j,j<(f p).f->(bB f p j).K=ZA/\(bB f p j).e=((f p).m j).e/\(bB f p j).ask=((f p).m j).ask)/\(bB f p (f p).f).K=ZH/\(bB f p (f p).f).M=(f p).M/\(bB f p (f p).f).H=(f p).H:=by
 rw[codeF,eT l,gB] at h;have hle:=px f p (f p).f 0;split at h;{omega}
 ·rename_i h1;have g:bD f p=(f p).f:=by unfold bD at h1 ⊢;omega
  rw[g] at h;split at h;{omega};{rename_i h2;split at h;{rename_i b;refine⟨λj i=>?_,by simpa using h2,b.1,fy b.2⟩;have:=sT (f:=f) (p:=p) (f p).f 0 (by unfold bD at g;omega) j i;rw[IT] at this;simp only[eA,XC,VF,TS] at this;exact⟨this.1.1,fy this.1.2,this.2⟩};{omega}}
def Borne.lies{S:xl}(q:bc f n=ZH)(o:p<n)(j:SpcOk S)(h:Borne S f p):((f p).L=1/\∃i,atI (nm0 S.f0) S.n0 (f p).e=Q i/\(S.f0 i).H=(f p).H)\/((f p).L=2/\atI (nm0 S.f0) S.n0 (f p).e=Z/\atI (nm1 S.f1) S.n1 (f p).e=Z)\/((f p).L=3/\atI (nm0 S.f0) S.n0 (f p).e=Z/\∃t,atI (nm1 S.f1) S.n1 (f p).e=Q t/\(S.f1 t).h=(f p).h/\∀i,i<(f p).h->(S.f1 t).q i=(f p).q i):=by
 have b:=h.lie;unfold gD at b;rcases(ed q p o).2 with⟨g,-⟩|⟨g,-⟩|⟨g,-⟩
 {rw[eT g,VF] at b;obtain⟨i,hi,hb⟩:=gJ b;rw[j6] at hb;exact .inl ⟨g,i,yn j.asc0 hi hb.1,Qv hb.2⟩};{rw[eI (by omega),eI (by omega)] at b;unfold hZ at b;rw[XC] at b;exact .inr (.inl ⟨g,rL b.1,rL b.2⟩)};{rw[eI (by omega),eT g,VF] at b;obtain⟨t,m,hb⟩:=gJ b;rw[j6] at hb;have l:=hb.2;simp only[cD,j6,nD] at l;have hn:(S.f1 t).e=(f p).e:=Qv hb.1;refine .inr (.inr ⟨g,rL (by rw[<-hn];exact j.apart m),t,yn j.asc1 m hb.1,l.1,λi hi=>vB l.2 i (by omega)⟩)}
section
variable {S:xl}{f:Nat->au}{n:Nat}
def mu (k:Nat):cF S f (k+1)=cF S f k++[dw S f k]:=by unfold cF;rw[PH,ND];rfl
def zX (g:bc f n=ZH){k:Nat}(hk:k<=p)(b:p<n):aS (cF S f k) (f p).e=Z:=
 vt λx h e=>by obtain⟨i,hi,rfl⟩:=NM.1 h;have h1:=E4.1 hi;have:=j8 g i p (by omega) b (xT ByteArray.toList e);omega
def zY (g:bc f n=ZH){k:Nat}(b:q<k)(hk:k<=n):aS (cF S f k) (f q).e=Q (dw S f q):=by
 cases h:aS (cF S f k) (f q).e with
 |none=>exact absurd rfl (dI h (dw S f q) (NM.2 ⟨q,E4.2 b,rfl⟩))
 |some y =>obtain⟨h1,h2⟩:=iu h;obtain⟨i,hi,rfl⟩:=NM.1 h1;have:=E4.1 hi;rw[j8 g i q (by omega) (by omega) (xT ByteArray.toList h2)]
def sU (h1:(S.f1 t).h=(f p).h)(h2:∀i,i<(f p).h->(S.f1 t).q i=(f p).q i):bK S t (ysD f p j)=bB f p j:=by
 have e:(ysD f p j).length=j:=by simp[ysD]
 unfold bK bB;rw[e,h1,sR h2];exact kL _ _ _ _ _ _ _ _ _ _ λi _ hi=>by simp[yL,ysD,hi]
def I6 (S:xl)(f:Nat->au)(n k:Nat):Prop:=∀p d lo m b,p<k->p<n->lo<=p->(lst f k p d (sLt lo)).2.map (·.1)=List.range' lo (lst f k p d (sLt lo)).2.length->(∀x∈(lst f k p d (sLt lo)).2,(f x.1).L=3->x.2<d+m)->(∀z∈b,∀q,q<=p->z≠(f q).e) ->
 (lst f k p d (sLt lo)).1=sLt (p+1)/\p+1=lo+(lst f k p d (sLt lo)).2.length/\aT S m b (cF S f lo) (f p).e=.inl (cF S f (p+1),dw S f p)
def Fv (u:bc f n=ZH)(ZQ:∀p,p<n->Borne S f p){k d:Nat}(V:I6 S f n k)(hk:p<k+1)(A:p<n)(R:lo<=p)(h3:(f p).L=3)(L:(S.f1 t).h=(f p).h)(K:∀i,i<(f p).h->(S.f1 t).q i=(f p).q i)
  (O:(lks (lst f k) (f p) d (sLt lo) (f p).f).2.map (·.1)=List.range' lo (lks (lst f k) (f p) d (sLt lo) (f p).f).2.length) (H:∀x∈(lks (lst f k) (f p) d (sLt lo) (f p).f).2,(f x.1).L=3->x.2<d+1+m) (hm:∀z∈y_,∀q,q<p->z≠(f q).e) :
  ∀j,j<=(f p).f->(lks (lst f k) (f p) d (sLt lo) j).1=sLt (lo+(lks (lst f k) (f p) d (sLt lo) j).2.length)/\lo+(lks (lst f k) (f p) d (sLt lo) j).2.length<=p /\
   bT S (aT S m y_) t 201 (cF S f lo) [] []=bT S (aT S m y_) t (201 - j) (cF S f (lo+(lks (lst f k) (f p) d (sLt lo) j).2.length)) (ysD f p j) (fP (f p) j):=by
 have hN:(f p).f<=200:=gj u p A;obtain⟨ZO,-⟩:=vD (ZQ p A).run h3;intro j;induction j with
 |zero=>intro _;exact⟨rfl,R,rfl⟩
 |succ j jh =>
  intro ZN;obtain⟨g,P,W⟩:=jh (by omega);obtain⟨t1,t2,ZL⟩:=ZO j (by omega);have hlk:=(gT u A).2.2.2 j (by omega);have B:ysD f p (j+1)=ysD f p j++[yOf f p j]:=by unfold ysD;rw[PH,ND];rfl
  have C:fP (f p) (j+1)=fP (f p) j++[lkE ((f p).m j)]:=by unfold fP;rw[PH,ND];rfl
  rw[W,show 201 - j=201 - (j+1)+1 by omega,bT,sU L K,t1,t2,ZL,eI (by simp)];by_cases b:((f p).m j).ask=ZH
  ·obtain⟨a1,a2,a3⟩:=fq u p A j (by omega) b;have G:((f p).m j).has=ZA:=by simp only[dW,b,Y2,j6,Bool.not_eq_true'] at hlk;exact hlk.2.1.1.1
   have s:∀q,q=((f p).m j).G.toNat->gF (dw S f q)=yOf f p j:=λq e=>by subst e;unfold yOf;rw[nK u b (by omega)];rfl
   have ZT:lkE ((f p).m j)=⟨((f p).m j).e,ZH,ZA⟩:=by unfold lkE;rw[b,G]
   have y:((f p).m j).e=(f ((f p).m j).G.toNat).e:=fy a3.c;rw[eI (by rw[b];simp),B,C,ZT];generalize o:((f p).m j).G.toNat=q at a2 y;have s:=s q o.c;rw[lks];by_cases D:q<lo+(lks (lst f k) (f p) d (sLt lo) j).2.length;{rw[eI (by rw[g,o];simp[sLt,D])];refine⟨g,P,?_⟩;rw[jT];unfold dB;rw[y,zY u D (by omega)];simp only[s]};{rw[eT ⟨b,by rw[g,o];simp[sLt];omega⟩,o,g];obtain⟨more,l⟩:=yo (lst f k) (f p) d (sLt lo) (j+1) (f p).f ZN;rw[lks,eT ⟨b,by rw[g,o];simp[sLt];omega⟩,o,g] at l;simp only at l;rw[l] at O H;have s1:=(seg O).1;have s2:=(seg s1).2;obtain⟨X,ZP,b3⟩:=V q (d+1) (lo+(lks (lst f k) (f p) d (sLt lo) j).2.length) m y_ (by omega) (by omega) (by omega) s2 (λx ZM M=>H x (NW _ (PJ _ ZM)) M) (λz hz r hr'=>hm z hz r (by omega));rw[y,b3];simp only[s,cM];refine⟨by rw[X,ZP,U6],by omega,by rw[<-U6,<-ZP]⟩}
  ·have hn:((f p).m j).ask=ZA:=by simpa using b
   have ZR:=iG (ZQ p A).has (show j<(f p).f by omega);simp only[dY,hn,Bool.not_false,P9,VF,TS] at ZR;have ZS:fL S ((f p).m j).e=((f p).m j).has:=ZR.c;rw[eT hn,ZS,vA (λh=>b h.1),B,C];have s:yOf f p j=⟨((f p).m j).has,0,⟨#[]⟩⟩:=by unfold yOf eJ;rw[eI b]
   have ZT:lkE ((f p).m j)=⟨((f p).m j).e,ZA,((f p).m j).has⟩:=by unfold lkE;rw[hn]
   rw[s,ZT];exact⟨g,P,rfl⟩
def Fw (o:bc f n=ZH)(P:SpcOk S)(G:∀p,p<n->Borne S f p):∀k,I6 S f n k:=by
 intro k;induction k with
 |zero=>intro p d lo m b L;omega
 |succ k O =>
  intro p d lo m b L j B H s ZQ;rw[lst] at H s ⊢;simp only at H s ⊢;obtain⟨s1,ZN⟩:=seg H;have l:p=lo+(lks (lst f k) (f p) d (sLt lo) (f p).f).2.length:=by simpa using ZN
  have hz:p+1=lo+((lks (lst f k) (f p) d (sLt lo) (f p).f).2++[(p,d)]).length:=by rw[cM,AI];omega
  have ZP:=zX (S:=S) o B j;have h1:atL b (f p).e=Z:=kM λx D=>ZQ x D p ly;have r:=gT o j;rw[jT];unfold dB;rw[ZP,h1];simp only[eW];rcases(G p j).lies o j P with⟨g,i,hi,ZR⟩|⟨g,hi,u⟩|⟨g,hi,t,u,A,y⟩
  ·obtain⟨c1,c2,c3⟩:=r.2.1 (by omega);have ZT:lks (lst f k) (f p) d (sLt lo) (f p).f=(sLt lo,[]):=by rw[c3];rfl
   rw[ZT] at l hz ⊢;obtain rfl:p=lo:=by simpa using l
   refine⟨nT p,hz,?_⟩;rw[hi];simp only[ee,mu];have e:dw S f p=⟨(f p).e,1,0,(S.f0 i).H,0,[]⟩:=by unfold dw tgD fP;rw[c3,c1,g,ZR];rfl
   rw[e]
  ·obtain⟨c1,c2,c3⟩:=r.2.1 (by omega);have ZT:lks (lst f k) (f p) d (sLt lo) (f p).f=(sLt lo,[]):=by rw[c3];rfl
   rw[ZT] at l hz ⊢;obtain rfl:p=lo:=by simpa using l
   refine⟨nT p,hz,?_⟩;rw[hi,u];simp only[ee,mu];have e:dw S f p=⟨(f p).e,2,0,⟨#[]⟩,0,[]⟩:=by unfold dw tgD fP;rw[c3,c1,g,r.2.2.1 g];rfl
   rw[e]
  ·have K:=s (p,d) (PJ _ (j4.2 rfl)) g;obtain⟨C,rfl⟩:∃C,m=C+1:=⟨m - 1,by simp only at K;omega⟩
   have hN:(f p).f<=200:=gj o p j;obtain⟨-,r1,ZO,R⟩:=vD (G p j).run g
   obtain⟨M,-,ZS⟩:=Fv o G (m:=C) (y_:=b++[(f p).e]) O L j B g A y s1 (λx D h=>by have:=s x (NW _ D) h;omega) (λz hz q hq=>by
    rcases p8.1 hz with hz|hz;{exact ZQ z hz q (by omega)}
    ·rw[j4.1 hz]
     exact λe=>by have:=j8 o p q j (by omega) (xT ByteArray.toList e);omega) (f p).f ly
   rw[<-l] at M ZS;refine⟨by rw[M];exact nT p,hz,?_⟩;rw[hi,u];simp only[nR];rw[ZS,show 201 - (f p).f=200 - (f p).f+1 by omega,bT,sU A y,eT r1];simp only[iF,ee,mu];have e:dw S f p=⟨(f p).e,3,(bB f p (f p).f).M,(bB f p (f p).f).H,t,fP (f p) (f p).f⟩:=by unfold dw tgD;rw[g,u,ZO,R];rfl
   rw[e]
def zZ (b:bc f n=ZH)(j:SpcOk S)(i:∀p,p<n->Borne S f p):aT S 60 [] [] (f (n - 1)).e=.inl (cF S f n,dw S f (n - 1)):=by
 have hn:=er b;obtain⟨h1,h2⟩:=xx b;have g:sLt 0=λ_=>ZA:=by funext q;simp[sLt]
 unfold aG at h1 h2;rw[<-g] at h1 h2;obtain⟨-,-,h⟩:=Fw b j i n (n - 1) 0 0 60 [] (by omega) (by omega) (DW _) (vC _ _ h1) (λx l m=>by have:=sS _ h2 x l m;omega) (λz hz=>absurd hz nj);rw[show n - 1+1=n by omega] at h;exact h
structure DeedEq (x y:au):Prop where
 e:x.e=y.e
 L:x.L=y.L
 M:x.M=y.M
 H:x.H=y.H
 h:x.h=y.h
 q:∀i,i<x.h->x.q i=y.q i
 f:x.f=y.f
 m:∀i,i<x.f->x.m i=y.m i
def Fx{k:Nat}(h:i<k):(cF S f k)[i]?=Q (dw S f i):=by unfold cF;simp[h]
def I7 (g:bc f n=ZH)(b:q<n):iw (cF S f n) (f q).e=q:=by
 have hi:q<(cF S f n).length:=by simp[cF,b]
 unfold iw;rw[List.findIdx_eq hi];refine⟨by simp[cF,dw],λj hj=>?_⟩;cases hb:((cF S f n)[j].e.toList == (f q).e.toList) with
 |false=>rfl
 |true =>
  have e:(cF S f n)[j].e=(f j).e:=by simp[cF,dw]
  rw[e] at hb;have:=j8 g j q (by omega) b (by simpa using hb);omega
def Aa (l:bc f n=ZH)(y:SpcOk S)(x:∀p,p<n->Borne S f p)(hi:i<n):DeedEq (dF (bk S (cF S f n)) i) (f i):=by
 rw[ix (Fx hi)];have g:(bo S (cF S f n) (dw S f i)).f=(f i).f:=by show(fP (f i) (f i).f).length=_;simp[fP]
 have b:∀j,j<(bo S (cF S f n) (dw S f i)).f->(bo S (cF S f n) (dw S f i)).m j=(f i).m j:=λj h=>by
  rw[g] at h;have hlk:=(gT l hi).2.2.2 j h;have e:(bo S (cF S f n) (dw S f i)).m j=lkD (cF S f n) (lkE ((f i).m j)):=lA (by simp[dw,fP,h]);rw[e];unfold lkD lkE;by_cases m:((f i).m j).ask=ZH;{obtain⟨a1,a2,q⟩:=fq l i hi j h m;simp only[m,Y2];rw[<-fy q,I7 l (by omega),Int.toNat_of_nonneg a1,fy q,<-m]};{have A:((f i).m j).G=0:=(by simp only[dW,eI m,j6,nD] at hlk;exact hlk.2);simp only[eI m];rw[<-A]}
 rcases(x i hi).lies l hi y with⟨o,-⟩|⟨o,-⟩|⟨o,-,t,z,u,s⟩
 ·obtain⟨c1,c2,c3⟩:=(gT l hi).2.1 (by omega);have e:(bo S (cF S f n) (dw S f i)).h=0:=by show bP S (dw S f i)=0;unfold bP;rw[eI (by show ¬ (f i).L=3;omega)]
  exact⟨rfl,rfl,rfl,rfl,by rw[e,c2],λj h=>by omega,g,b⟩
 ·obtain⟨c1,c2,c3⟩:=(gT l hi).2.1 (by omega);have e:(bo S (cF S f n) (dw S f i)).h=0:=by show bP S (dw S f i)=0;unfold bP;rw[eI (by show ¬ (f i).L=3;omega)]
  exact⟨rfl,rfl,rfl,rfl,by rw[e,c2],λj h=>by omega,g,b⟩
 ·have r:(dw S f i).tg=t:=by show tgD S (f i)=t;unfold tgD;rw[eT o,z];rfl
  have e:(bo S (cF S f n) (dw S f i)).h=(f i).h:=by show bP S (dw S f i)=_;unfold bP;rw[eT (by exact o),r,u]
  refine⟨rfl,rfl,rfl,rfl,e,λj h=>?_,g,b⟩;show(S.f1 (dw S f i).tg).q j=_;rw[r];exact s j (by omega)
end
def LkHas (S:xl)(b:List Lk):Prop:=∀l∈b,l.ask=ZA->l.has=fL S l.e
def Hs (S:xl)(b:List k_):Prop:=∀x∈b,LkHas S x.D
def Hs.add{S:xl}{f:List k_}{e:k_}(h:Hs S f)(g:LkHas S e.D):Hs S (f++[e]):=λx b=>by
 rcases p8.1 b with b|b
 ·exact h x b
 ·rw[j4.1 b];exact g
def nU (S:xl):LkHas S []:=λ_ h=>absurd h nj
def LkHas.add{S:xl}{f:List Lk}{l:Lk}(h:LkHas S f)(g:l.ask=ZA->l.has=fL S l.e):LkHas S (f++[l]):=λx b=>by
 rcases p8.1 b with b|b
 ·exact h x b
 ·rw[j4.1 b];exact g
def Fy{S:xl}{lies:List k_->F_->Out k_}(n:∀f nm b e,Hs S f->lies f nm=.inl (b,e)->Hs S b):∀k f j g b x,Hs S f->LkHas S g->bT S lies t k f j g=.inl (b,x)->Hs S b/\LkHas S x.2:=by
 intro k;induction k with
 |zero=>intro f j g b x _ _ h;cases h
 |succ k m =>
  intro f j g b x i l h;rw[bT] at h;split at h
  ·cases h
   exact⟨i,l⟩
  {split at h;{exact m _ _ _ _ _ i (l.add λ_=>rfl) h};{split at h;{rename_i made1 e o;exact m _ _ _ _ _ (n _ _ _ _ i o) (l.add λh=>by cases h) h};{cases h};{cases h}}}
def Cn (S:xl):∀n g f nm b e,Hs S f->aT S n g f nm=.inl (b,e)->Hs S b:=by
 intro n;have j:∀g f nm b e (tgt:Nat->Out k_),Hs S f->(∀t b e,tgt t=.inl (b,e)->Hs S b)->dB S tgt g f nm=.inl (b,e)->Hs S b:=by
  intro g f nm b e tgt i m h;unfold dB at h;split at h;{cases h;exact i};{split at h;{cases h};{unfold eW ee at h;split at h;{cases h;exact i.add (nU S)};{split at h;{exact m _ _ _ h};{cases h;exact i.add (nU S)}}}}
 induction n with
 |zero =>intro g f nm b e i h;rw[aT] at h;exact j _ _ _ _ _ _ i (λt _ _ h=>by cases h) h
 |succ n l =>
  intro g f nm b e i h;rw[aT] at h;refine j _ _ _ _ _ _ i (λt b e h=>?_) h;rcases hr:bT S (aT S n (g++[nm])) t 201 f [] [] with⟨made1,x⟩|c|c;{rw[hr] at h;simp only[iF,ee,T8,LK] at h;obtain⟨rfl,rfl⟩:=h;obtain⟨h1,h2⟩:=Fy (λf nm b e=>l _ f nm b e) _ _ _ _ _ _ i (nU S) hr;exact h1.add h2};{rw[hr] at h;cases h};{rw[hr] at h;cases h}
def vE{t:F_}(h:atI g n t=Z):aF g n t=ZA:=by
 cases e:aF g n t with
 |false=>rfl
 |true =>obtain⟨k,b,hb⟩:=pa e;exact absurd hb (SD.1 h k (E4.2 b))
def nV{p:Nat->Bool}(h:∀i,i<n->p i=ZA):aM p n=ZA:=by
 cases e:aM p n with
 |false=>rfl
 |true =>obtain⟨k,b,hb⟩:=gJ e;rw[h k b] at hb;cases hb
def mw {f g:Nat->Ins}:∀{n:Nat},(∀i,i<n->f i=g i)->cO f g n=ZH
 |0,_=>rfl
 |n+1,h=>by rw[cO,mw λi hi=>h i (by omega),h n (by omega)];simp[kE]
def sV {f:Nat->au}{p:Nat}:∀ZR k,(∀i,i<ZR->eA f p (k+i)=ZA)->eF f p ZR k=k+ZR
 |0,_,_=>rfl
 |ZR+1,k,h=>by rw[eF,eI (by have:=h 0 (by omega);rw[QE] at this;rw[this];simp),sV ZR (k+1) λi hi=>by rw[show k+1+i=k+(i+1) by omega];exact h (i+1) (by omega)];omega
def sW (h:(f p).L=3->(∀j,j<(f p).f->(bB f p j).K=ZA/\(bB f p j).e=((f p).m j).e/\(bB f p j).ask=((f p).m j).ask)/\(bB f p (f p).f).K=ZH/\(bB f p (f p).f).M=(f p).M/\(bB f p (f p).f).H=(f p).H):codeF f p=0:=by
 unfold codeF;split
 ·rename_i n;obtain⟨h1,h2,g,l⟩:=h n;have m:bD f p=(f p).f:=by
   unfold bD
   rw[sV _ _ λi hi=>by
    obtain⟨a,b,c⟩:=h1 i hi;rw[IT]
    simp[eA,a,b,c]]
   omega
  unfold gB;rw[m,eI (by omega),eI (by rw[h2];simp),eT ⟨g,by rw[l]⟩]
 {rfl}
def Co{S:xl}(K:SpcOk S)(hn:aA nm=ZH){M:List k_}{e:k_}(h:aT S 60 [] [] nm=.inl (M,e)):bc (dF (bk S M)) (E M)=ZH/\∀p,p<E M->Borne S (dF (bk S M)) p:=by
 obtain⟨h1,-,-,-,hM,hR⟩:=Fu K hn h;have hH:=Cn S 60 [] [] nm M e (λx o=>absurd o nj) h;have D:bc (dF (bk S M)) (E M)=ZH:=by unfold bc;rw[h1];rfl
 refine⟨D,λp P=>?_⟩;have o:M[p]?=Q M[p]:=gq P;generalize M[p]=x at o;have r:=I5 o;have ZQ:=hM.W x r;have n:dF (bk S M) p=bo S M x:=ix o;have hlk:∀j l,x.D[j]?=Q l->(bo S M x).m j=lkD M l:=λj l ZS=>lA ZS;refine⟨?_,?_,sW λZT=>?_⟩
 ·rw[n];unfold gD;rcases ZQ.L with⟨k,-,-,i,hi,s⟩|⟨k,-,-,-,h2,B⟩|⟨k,-,B⟩
  {rw[eT (show(bo S M x).L=1 from k)];obtain⟨A,u⟩:=bu hi;have:jd S.n0 S.f0 (bo S M x).e (bo S M x).H=ZH:=cS A (by show((nm0 S.f0 i).toList == x.e.toList && (S.f0 i).H.toList == x.H.toList)=ZH;rw[u,s];simp);rw[this];rfl};{have H:(bo S M x).L=2:=k;rw[eI (by omega),eI (by omega)];show(aF (nm0 S.f0) S.n0 x.e || aF (nm1 S.f1) S.n1 x.e)=ZA;rw[vE h2,vE B];rfl}
  ·have H:(bo S M x).L=3:=k;rw[eI (by omega),eT H];obtain⟨A,u⟩:=bu B;have C:(bo S M x).h=(S.f1 x.tg).h:=by show bP S x=_;unfold bP;rw[eT k]
   have:iB S.n1 S.f1 (bo S M x).e (bo S M x).h (bo S M x).q=ZH:=cS A (by
    show((nm1 S.f1 x.tg).toList == x.e.toList && cD (S.f1 x.tg).q (bo S M x).q (S.f1 x.tg).h (bo S M x).h)=ZH;rw[u,C];simp only[cD,decide_true,P9,beq_self_eq_true]
    exact mw λ_ _=>rfl)
   rw[this];rfl
 ·rw[n];refine nV λj g=>?_;have t:j<E x.D:=g;have f:x.D[j]?=Q x.D[j]:=gq t;have b:=gz t;simp only[hlk j _ f];generalize x.D[j]=l at b;unfold dY lkD;cases m:l.ask with
  |true=>rfl
  |false =>have:=hH x r l b m;show(!ZA && !(l.has == fL S l.e))=ZA;rw[this];simp
 ·rw[n] at ZT;have k:x.L=3:=ZT;have C:(bo S M x).h=(S.f1 x.tg).h:=by show bP S x=_;unfold bP;rw[eT k]
  have q:∀j,j<E x.D->yOf (dF (bk S M)) p j=yL (x.D.map (dv M)) j:=λj g=>by
   have f:x.D[j]?=Q x.D[j]:=gq g;have b:=gz g;have O:yL (x.D.map (dv M)) j=dv M x.D[j]:=by simp[yL,g]
   unfold yOf;rw[n,hlk j _ f,O];generalize x.D[j]=l at b;by_cases m:l.ask=ZH
   ·obtain⟨y,q,hny,hlt⟩:=hM.asked o b m;have G:(lkD M l).G.toNat=iw M l.e:=by unfold lkD;simp[m]
    rw[nK D (show(lkD M l).ask=ZH from m) (by rw[G];omega),G,ix q];have ZR:aS M l.e=Q y:=by obtain⟨z,hz⟩:=(hR x r).ahd l b m;obtain⟨z1,z2⟩:=iu hz;obtain⟨i,hi⟩:=PD z1;have:=hM.idx hi;rw[z2] at this;rw[this,hi] at q;rw[hz];exact q
    unfold dv;rw[eT m,ZR];rfl
   {unfold dv eJ;rw[eI m,eI (show ¬ (lkD M l).ask=ZH from m)];rfl}
  have s:∀j,j<=E x.D->bB (dF (bk S M)) p j=bK S x.tg ((x.D.take j).map (dv M)):=λj g=>by unfold bB bK;rw[n,C,PI,N9,QL g];refine kL _ _ _ _ _ _ _ _ _ _ λi _ hi=>?_;rw[q i (by omega)];simp[yL,hi,show i<E x.D by omega]
  have L:(dF (bk S M) p).f=E x.D:=by rw[n];rfl
  rw[L];refine⟨λj g=>?_,?_⟩;{have f:x.D[j]?=Q x.D[j]:=gq g;rw[s j (by omega),n,hlk j _ f];exact(hR x r).go k j _ f};{rw[s _ ly,List.take_length,n];exact(hR x r).fin k}
section
variable {f g:Nat->au}{n:Nat}
def DeedEq.c{x y:au}(h:DeedEq x y):DeedEq y x:=⟨h.e.c,h.L.c,h.M.c,h.H.c,h.h.c,λi hi=>(h.q i (by rw[h.h];exact hi)).c,h.f.c,λi hi=>(h.m i (by rw[h.f];exact hi)).c⟩
def Js{a b:Nat->Ins}(h:∀i,i<m->a i=b i):valid a m=valid b m:=by
 have:∀k,k<=m->dn a k=dn b k:=by
  intro k;induction k with
  |zero=>intro _;rfl
  |succ k f=>intro hk;rw[dn,dn,f (by omega),h k (by omega)]
 unfold valid;rw[this m ly ]
def qH (m:bc f n=ZH)(h:∀i,i<n->DeedEq (f i) (g i))(l:p<n)(hj:j<=(f p).f):bB g p j=bB f p j:=by
 have e:=h p l;unfold bB;rw[<-e.h,<-sR e.q];refine kL _ _ _ _ _ _ _ _ _ _ λi _ hi=>?_;unfold yOf eJ;rw[e.m i (by omega)];split;{rename_i o;have:=fq m p l i (by omega) (by rw[e.m i (by omega)];exact o);rw[e.m i (by omega)] at this;have b:=h ((g p).m i).G.toNat (by omega);rw[b.L,b.M,b.H]};{rfl}
def Ab{a b c:Nat->Ins}{k:Nat}(h:∀i,i<k->b i=c i):cD a b m k=cD a c m k:=by
 unfold cD;by_cases e:m=k
 ·subst e;have:∀j,j<=m->cO a b j=cO a c j:=by
   intro j;induction j with
   |zero=>intro _;rfl
   |succ j f=>intro hj;rw[cO,cO,f (by omega),h j (by omega)]
  rw[this m ly ]
 {simp[e]}
def Ac{S:xl}(o:bc f n=ZH)(h:∀i,i<n->DeedEq (f i) (g i))(m:p<n)(l:Borne S f p):Borne S g p:=by
 have e:=h p m;refine⟨?_,?_,sW λq=>?_⟩;{have:=l.lie;unfold gD iB at this ⊢;rw[<-e.L,<-e.e,<-e.H,<-e.h];simp only[<-Ab e.q];exact this};{refine nV λj b=>?_;rw[<-e.f] at b;have:=iG l.has b;rw[e.m j b] at this;exact this};{obtain⟨h1,h2⟩:=vD l.run (by rw[e.L];exact q);rw[<-e.f];refine⟨λj b=>?_,?_⟩;{rw[qH o h m (by omega),<-e.m j b];exact h1 j b};{rw[qH o h m ly,<-e.M,<-e.H];exact h2}}
end
def dx (n0:Nat)(f0:Nat->Source)(n1:Nat)(f1:Nat->Target)(f:Nat->au)(p:Nat):Int:=if gD n0 f0 n1 f1 (f p)=ZH then 2 else if hasB n0 f0 n1 f1 (f p)=ZH then 3 else codeF f p
def fi (c:Nat->Int):Nat->Int × Int
 |0=>(0,0)
 |k+1=>if (fi c k).1=0 then (if c k=0 then (0,0) else (c k,(k:Int))) else fi c k
def fj (n0:Nat)(f0:Nat->Source)(n1:Nat)(f1:Nat->Target)(f:Nat->au)(n:Nat):Int × Int:=if bc f n=ZH then (if aR n0 f0 n1 f1=0 then fi (dx n0 f0 n1 f1 f) n else (1,0)) else (1,0)
def ju{c:Nat->Int}{k:Nat}(hk:k<n)(f:∀i,i<k->c i=0)(h:c k≠0):fi c n=(c k,(k:Int)):=by
 have hz:∀m,m<=k->fi c m=(0,0):=by
  intro m hm;induction m with
  |zero=>rfl
  |succ m b=>rw[fi,b (by omega),eT rfl,eT (f m (by omega))]
 induction n with
 |zero=>omega
 |succ n b =>
  rw[fi];by_cases e:k=n;{subst e;rw[hz k ly,eT rfl,eI h]};{rw[b (by omega),eI h]}
def nW{c:Nat->Int}(b:∀i,i<n->c i=0):fi c n=(0,0):=by
 induction n with
 |zero=>rfl
 |succ m f=>rw[fi,f λi hi=>b i (by omega),eT rfl,eT (b m (by omega))]
def xy (S:xl)(nm:F_):aT S 60 [] [] nm=eW S (nR S 60 [] [] nm) [] nm:=by rw[jT];rfl
def vH{S:xl}(b:aR S.n0 S.f0 S.n1 S.f1=0)(hn:aA nm=ZH)(hi:atI (nm0 S.f0) S.n0 nm=Q i):(bE S nm).2=⟨0,(S.f0 i).H,[]⟩:=by unfold bE;rw[eT ⟨b,hn⟩,xy,eW,hi];rfl
def Ad{t:F_}(hi:i<n)(f:(g i).toList=t.toList)(h:∀j,j<i->(g j).toList≠t.toList):atI g n t=Q i:=by unfold atI;rw[List.find?_range_eq_some];refine⟨by simp[f],by simpa using hi,λj b=>?_⟩;simpa using h j b
def Fz (n0:Nat)(f0:Nat->Source)(n1:Nat)(f1:Nat->Target)(f:Nat->au)(p:Nat):dx n0 f0 n1 f1 f p=if gD n0 f0 n1 f1 (f p)=ZH then 2 else if hasB n0 f0 n1 f1 (f p)=ZH then 3 else if jS f p=ZH then 4 else if py f p=ZH then 5 else 0:=by unfold dx;rw[Hu]
structure GoodE (LS:List Source)(LT:List Target):Prop where
 few:E LS+E LT<=200
 src:∀x∈LS,aA x.e=ZH/\fx x=ZA
 w:∀x∈LT,aA x.e=ZH/\cP x=ZA
 s:LS.Pairwise λa b=>aC a.e b.e=ZH
 t:LT.Pairwise λa b=>aC a.e b.e=ZH
 apart:∀x∈LS,∀y∈LT,(y.e.toList == x.e.toList)=ZA
def mx {g:B_}:∀{n:Nat},bY g n=ZH->∀i,i<n->aA (g i)=ZH
 |0,_,i,hi=>absurd hi (NE i)
 |n+1,h,i,hi=>by
  have h2:(bY g n && aA (g n))=ZH:=h;rw[j6] at h2;by_cases e:i=n
  ·rw[e];exact h2.2
  ·exact mx h2.1 i (by omega)
def my {g:B_}:∀{n:Nat},(∀i,i<n->aA (g i)=ZH)->bY g n=ZH
 |0,_=>rfl
 |n+1,h=>by show(bY g n && aA (g n))=ZH;rw[my λi hi=>h i (by omega),h n (eL n)];rfl
def mB {p:Nat->Bool}:∀{n:Nat},(∀i,i<n->p i=ZA)->aM p n=ZA
 |0,_=>rfl
 |n+1,h=>by show(aM p n || p n)=ZA;rw[mB λi hi=>h i (by omega),h n (eL n)];rfl
def yp{t:F_}:aF g n t=ZA ↔ ∀i,i<n->((g i).toList == t.toList)=ZA:=by
 unfold aF;rw[List.any_eq_false];constructor;{intro h i hi;have:=h i (E4.2 hi);simpa using this};{intro h i hi;have:=h i (E4.1 hi);simpa using this}
def qI{j:Type}(f:Nat->j)(nm:j->F_)(h:aK (λi=>nm (f i)) n=ZH):((List.range n).map f).Pairwise λa b=>aC (nm a) (nm b)=ZH:=by rw[List.pairwise_map];refine List.Pairwise.imp_of_mem ?_ List.pairwise_lt_range;intro a b _ hb g;exact gZ h g (E4.1 hb)
def tV (h:aR n0 f0 n1 f1=0):GoodE ((List.range n0).map f0) ((List.range n1).map f1):=by
 unfold aR at h;by_cases a1:200<n0+n1;{rw[eT a1] at h;cases h};rw[eI a1] at h;by_cases l:bY (nm0 f0) n0=ZA;{rw[eT l] at h;cases h};rw[eI l] at h;by_cases f:bY (nm1 f1) n1=ZA;{rw[eT f] at h;cases h};rw[eI f] at h;by_cases m:aK (nm0 f0) n0=ZA;{rw[eT m] at h;cases h};rw[eI m] at h;by_cases n:aK (nm1 f1) n1=ZA;{rw[eT n] at h;cases h};rw[eI n] at h;by_cases g:aM (λi=>aF (nm1 f1) n1 (nm0 f0 i)) n0=ZH;{rw[eT g] at h;cases h};rw[eI g] at h;by_cases o:aM (λi=>fx (f0 i)) n0=ZH;{rw[eT o] at h;cases h};rw[eI o] at h;by_cases p:aM (λi=>cP (f1 i)) n1=ZH;{rw[eT p] at h;cases h};rw[QH] at l f m n;rw[TJ] at g o p;refine⟨by simp;omega,λx b=>?_,λx b=>?_,qI f0 (·.e) m,qI f1 (·.e) n,λx b y r=>?_⟩;{obtain⟨i,hi,rfl⟩:=NM.1 b;have hi:=E4.1 hi;exact⟨mx l i hi,jo o hi⟩};{obtain⟨i,hi,rfl⟩:=NM.1 b;have hi:=E4.1 hi;exact⟨mx f i hi,jo p hi⟩};{obtain⟨i,hi,rfl⟩:=NM.1 b;obtain⟨j,q,rfl⟩:=NM.1 r;exact yp.1 (jo g (E4.1 hi)) j (E4.1 q)}
def jv{g:List Source}{f:List Target}(h:GoodE g f):aR (E g) (aV g) (E f) (aW f)=0:=by
 unfold aR;rw[eI (by have:=h.few;omega),eI,eI,eI,eI,eI,eI,eI];{rw[TJ];refine mB λi hi=>?_;rw[dy hi];exact(h.w _ (gz hi)).2};{rw[TJ];refine mB λi hi=>?_;rw[dh hi];exact(h.src _ (gz hi)).2};{rw[TJ];refine mB λi hi=>yp.2 λj b=>?_;show((aW f j).e.toList == (aV g i).e.toList)=ZA;rw[dh hi,dy b];exact h.apart _ (gz hi) _ (gz b)};{rw[QH];refine iD λi j l b=>?_;show aC (aW f i).e (aW f j).e=ZH;rw[dy b,dy (by omega)];exact D0.1 h.t i j (by omega) b l};{rw[QH];refine iD λi j l b=>?_;show aC (aV g i).e (aV g j).e=ZH;rw[dh b,dh (by omega)];exact D0.1 h.s i j (by omega) b l};{rw[QH];refine my λi hi=>?_;show aA (aW f i).e=ZH;rw[dy hi];exact(h.w _ (gz hi)).1};{rw[QH];refine my λi hi=>?_;show aA (aV g i).e=ZH;rw[dh hi];exact(h.src _ (gz hi)).1}
def GoodE.sub{m i:List Source}{l j:List Target}(h:GoodE m l)(g:i.Sublist m)(f:j.Sublist l):GoodE i j:=
 ⟨by have:=g.length_le;have:=f.length_le;have:=h.few;omega,λx b=>h.src x (g.subset b),λx b=>h.w x (f.subset b),h.s.sublist g,h.t.sublist f,λx b y n=>h.apart x (g.subset b) y (f.subset n)⟩
def iY (t:F_)(h:aR n0 f0 n1 f1=0):GoodE (Qy f0 t n0) (Qj f1 t n1):=
 (tV h).sub List.filter_sublist List.filter_sublist
def jV {g:B_}{t:F_}:∀{n:Nat},aK g n=ZH->∃i,i<=n/\(∀m,m<i->aC (g m) t=ZH)/\∀m,i<=m->m<n->aC (g m) t=ZA
 |0,_=>⟨0,p7 _,λm b=>absurd b (NE m),λm _ b=>absurd b (NE m)⟩
 |n+1,h=>by
  obtain⟨i,hi,h1,h2⟩:=jV (t:=t) (fR (BV n) h);cases e:aC (g n) t with
  |true =>
   by_cases o:i=n
   ·subst o
    refine⟨i+1,p7 _,λm b=>?_,λm b l=>by omega⟩;by_cases f:m=i
    ·rw[f];exact e
    ·exact h1 m (by omega)
   ·have j:=h2 i ly (by omega)
    rw[eY (gZ h (show i<n by omega) (eL n)) e] at j;cases j
  |false =>
   refine⟨i,by omega,h1,λm b l=>?_⟩;by_cases f:m=n
   ·rw[f];exact e
   ·exact h2 m b (by omega)
def vI{l:Type}(nm:l->F_){L:List l}{x:l}(h:L.Pairwise λa b=>aC (nm a) (nm b)=ZH)(h1:∀m (g:m<E L),m<i->aC (nm L[m]) (nm x)=ZH)(h2:∀m (g:m<E L),i<=m->aC (nm x) (nm L[m])=ZH):(L.take i++x::L.drop i).Pairwise λa b=>aC (nm a) (nm b)=ZH:=by
 have f:∀a∈L.take i,aC (nm a) (nm x)=ZH:=λa f=>by obtain⟨m,g,rfl⟩:=QK f;rw[N9] at g;rw[List.getElem_take];exact h1 m (by omega) (by omega)
 have hb:∀a∈L.drop i,aC (nm x) (nm a)=ZH:=λa f=>by obtain⟨m,g,rfl⟩:=QK f;rw[NN] at g;rw[VZ];exact h2 _ (by omega) (by omega)
 rw[PC,PX];refine⟨h.sublist (List.take_sublist i L),⟨hb,h.sublist (List.drop_sublist i L)⟩,λa n b j=>?_⟩;rcases vG.1 j with rfl|j;{exact f a n};{exact eY (f a n) (hb b j)}
def lB{b:Type}{L:List b}{x y:b}(h:y∈L.take i++x::L.drop i):y=x\/y∈L:=by
 rcases p8.1 h with h|h;{exact .inr (QW h)};{rcases vG.1 h with h|h;{exact .inl h};{exact .inr (XE h)}}
def yq{b:Type}{L:List b}{x:b}(hi:i<=E L):(L.take i++x::L.drop i).length=E L+1:=by rw[cM,vF,N9,NN];omega
def yr{b:Type}{L:List b}{x:b}(hi:i<=E L):(L.take i++x::L.drop i)[i]?=Q x:=by
 have e:(L.take i).length=i:=by rw[N9];omega
 rw[KK (by omega),e,UV];rfl
def oV{b:F_}(h:aC b a=ZA)(f:(b.toList == a.toList)=ZA):aC a b=ZH:=by
 rcases jN h with h|⟨_,h⟩
 {exact h}
 ·have e:a.toList=b.toList:=by simpa using h
  rw[e] at f;simp at f
def Cp{b:List Source}{n:List Target}(h:GoodE b n){t:F_}(hl:E b+E n<200)(hn:aA t=ZH)(hx:¬ 2000<(tx.size:Int))(u:∀y∈b,(y.e.toList == t.toList)=ZA)(h1:∀y∈n,(y.e.toList == t.toList)=ZA):GoodE (ik b ⟨t,tx⟩ t) n/\∃i:Nat,(ik b ⟨t,tx⟩ t)[i]?=Q (⟨t,tx⟩:Source):=by
 have o:aK (nm0 (aV b)) (E b)=ZH:=iD λi j r p=>by show aC (aV b i).e (aV b j).e=ZH;rw[dh p,dh (by omega)];exact D0.1 h.s i j (by omega) p r
 obtain⟨i,hi,a1,q⟩:=jV (t:=t) o;rw[xZ hi a1 q u];refine⟨⟨by rw[yq hi];omega,λy f=>?_,h.w,?_,h.t,λy f z hz=>?_⟩,i,yr hi⟩;{rcases lB f with rfl|f;{exact⟨hn,by simp[fx];omega⟩};{exact h.src y f}};{refine vI (λy:Source=>y.e) h.s (λm g l=>?_) λm g l=>?_;{have:=a1 m l;rw[show nm0 (aV b) m=(aV b m).e from rfl,dh g] at this;exact this};{have:=q m l g;rw[show nm0 (aV b) m=(aV b m).e from rfl,dh g] at this;exact oV this (u _ (gz g))}};{rcases lB f with rfl|f;{exact h1 z hz};{exact h.apart y f z hz}}
def Cq{n:List Source}{b:List Target}(h:GoodE n b){x:Target}{t:F_}(p:x.e=t)(hl:E n+E b<200)(hn:aA t=ZH)(A:cP x=ZA)(B:∀y∈n,(y.e.toList == t.toList)=ZA)(h1:∀y∈b,(y.e.toList == t.toList)=ZA):GoodE n (jO b x t)/\∃i:Nat,(jO b x t)[i]?=Q x:=by
 have o:aK (nm1 (aW b)) (E b)=ZH:=iD λi j u q=>by show aC (aW b i).e (aW b j).e=ZH;rw[dy q,dy (by omega)];exact D0.1 h.t i j (by omega) q u
 obtain⟨i,hi,a1,r⟩:=jV (t:=t) o
 rw[jO,x7 hi a1 r λm f=>by
  show((aW b m).e.toList == t.toList)=ZA;rw[dy f]
  exact h1 _ (gz f)]
 refine⟨⟨by rw[yq hi];omega,h.src,λy g=>?_,h.s,?_,λy g z hz=>?_⟩,i,yr hi⟩;{rcases lB g with rfl|g;{exact⟨p ▸ hn,A⟩};{exact h.w y g}};{subst p;refine vI (λy:Target=>y.e) h.t (λm f l=>?_) λm f l=>?_;{have:=a1 m l;rw[show nm1 (aW b) m=(aW b m).e from rfl,dy f] at this;exact this};{have:=r m l f;rw[show nm1 (aW b) m=(aW b m).e from rfl,dy f] at this;exact oV this (h1 _ (gz f))}};{rcases lB hz with rfl|hz;{have:=B y g;rw[p];rw[XP] at this ⊢;exact λe=>this e.c};{exact h.apart y g z hz}}
def pC{f:Nat->Target}{t:F_}:∀y∈Qj f t n,(y.e.toList == t.toList)=ZA:=by intro y b;simpa using(U9.1 b).2
def FA{t:F_}(h:iC n0 f0 n1 f1 t tx=0):GoodE (eZ n0 f0 n1 f1 t tx) (fC n0 f0 n1 f1 t tx)/\(bE ⟨(eZ n0 f0 n1 f1 t tx).length,aV (eZ n0 f0 n1 f1 t tx),(fC n0 f0 n1 f1 t tx).length,aW (fC n0 f0 n1 f1 t tx)⟩ t).2=⟨0,tx,[]⟩:=by
 have b:=h;unfold iC at b;by_cases a1:aR n0 f0 n1 f1≠0;{rw[eT a1] at b;cases b};rw[eI a1] at b;by_cases f:aA t=ZA\/2000<(tx.size:Int)
 {rw[eT f] at b;cases b};rw[eI f] at b;by_cases r:200<=(Qy f0 t n0).length+(Qj f1 t n1).length;{rw[eT r] at b;cases b};have y:aR n0 f0 n1 f1=0:=by omega
 have hn:aA t=ZH:=by rw[<-QH];exact λe=>f (.inl e)
 obtain⟨g,i,o⟩:=Cp (tx:=tx) (iY t y) (by omega) hn (λe=>f (.inr e)) nB pC;have u:eZ n0 f0 n1 f1 t tx=ik (Qy f0 t n0) ⟨t,tx⟩ t:=by rw[eZ,eT h]
 have x:fC n0 f0 n1 f1 t tx=Qj f1 t n1:=by rw[fC,eT h]
 rw[u,x];refine⟨g,?_⟩;generalize ik (Qy f0 t n0) ⟨t,tx⟩ t=L at g o;obtain⟨hi,e⟩:=j5.1 o;have p:aV L i=⟨t,tx⟩:=by rw[dh hi,e]
 have n:atI (nm0 (aV L)) (E L) t=Q i:=Ad hi (by show(aV L i).e.toList=_;rw[p]) λj q=>by show(aV L j).e.toList≠t.toList;have l:=D0.1 g.s j i (by omega) hi q;rw[e] at l;have m:=(iW l).2;rw[dh (by omega)];rw[XP] at m;exact λe=>m e.c
 have:=vH (S:=⟨E L,aV L,(Qj f1 t n1).length,aW (Qj f1 t n1)⟩) (nm:=t) (i:=i) (jv g) hn n;rw[this];show(⟨0,(aV L i).H,[]⟩:jj)=_;rw[p]
def Ae (L:List Source):(List.range (E L)).map (aV L)=L:=by refine WO (by simp) λi h1 h2=>?_;rw[TM,List.getElem_range,dh h2]
def Af (L:List Target):(List.range (E L)).map (aW L)=L:=by refine WO (by simp) λi h1 h2=>?_;rw[TM,List.getElem_range,dy h2]
