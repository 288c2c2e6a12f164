import Derived.Test.YtpmnbjkjpnclaaaGreatDoorLU
import Derived.Test.YtpmnbjkjpnclaaaGreatDoorMQ
set_option linter.unusedSimpArgs false
open Option renaming none->Z,some->T
open Bool renaming false->ZA,true->ZF
namespace Go.Proofs.YtpmnbjkjpnclaaaGreatDoor.Vp
open RowKit
variable {nm x:ByteArray}{n p t i looks place steps:Nat}{b making L:List ByteArray}{f:Nat->Ins}{g:Nat->ByteArray}
structure Spc where
 n0:Nat
 f0:Nat->Source
 n1:Nat
 f1:Nat->Target
structure Lk where
 e:ByteArray
 ask:Bool
 has:Bool
structure Ent where
 e:ByteArray
 H:Int
 E:Int
 y:ByteArray
 tg:Nat
 looks:List Lk
abbrev Out (b:Type):=(List Ent × b) ⊕ List ByteArray ⊕ ByteArray
def AE:aB:=⟨ZA,0,⟨#[]⟩⟩
def yL (b:List aB):Nat->aB:=λk=>b.getD k AE
def hZ (e:Ent):aB:=⟨decide (¬ e.H=2),e.E,e.y⟩
def ft (S:Spc)(t:ByteArray):Bool:=aF (nm0 S.f0) S.n0 t || aF (nm1 S.f1) S.n1 t
def atI (g:Nat->ByteArray)(n:Nat)(t:ByteArray):Option Nat:=(List.range n).find? λi=>(g i).toList == t.toList
def atL (L:List ByteArray)(t:ByteArray):Option Nat:=L.findIdx? λx=>x.toList == t.toList
def aZ (b:List Ent)(t:ByteArray):Option Ent:=b.find? λe=>e.e.toList == t.toList
def dt (S:Spc)(t:Nat)(b:List aB):Turn:=bT (S.f1 t).D (S.f1 t).m (yL b) b.length 2001 0 0 0 []
def bU (S:Spc)(lies:List Ent->ByteArray->Out Ent)(t:Nat):Nat->List Ent->List aB->List Lk->Out (Turn × List Lk)
 |0,_,_,_=>.inr (.inr ⟨#[]⟩)
 |k+1,made,ys,ls =>
  if (dt S t ys).ak=ZF then .inl (made,(dt S t ys,ls))
  else if (dt S t ys).ask=ZA then bU S lies t k made (ys++[⟨ft S (dt S t ys).e,0,⟨#[]⟩⟩]) (ls++[⟨(dt S t ys).e,ZA,ft S (dt S t ys).e⟩])
  else match lies made (dt S t ys).e with
   |.inl (made',e)=>bU S lies t k made' (ys++[hZ e]) (ls++[⟨(dt S t ys).e,ZF,ZA⟩])
   |.inr (.inl c)=>.inr (.inl c)
   |.inr (.inr d)=>.inr (.inr d)
def eJ (b:List Ent)(e:Ent):Out Ent:=.inl ((b++[e]),e)
def jq (nm:ByteArray)(t:Nat):Out (Turn × List Lk)->Out Ent
 |.inl (made,x)=>eJ made ⟨nm,3,x.1.E,x.1.y,t,x.2⟩
 |.inr (.inl c)=>.inr (.inl c)
 |.inr (.inr d)=>.inr (.inr d)
def fR (S:Spc)(tgt:Nat->Out Ent)(b:List Ent)(nm:ByteArray):Out Ent :=
 match atI (nm0 S.f0) S.n0 nm with
 |some i=>eJ b ⟨nm,1,0,(S.f0 i).y,0,[]⟩
 |none=>match atI (nm1 S.f1) S.n1 nm with
  |some t=>tgt t
  |none=>eJ b ⟨nm,2,0,⟨#[]⟩,0,[]⟩
def ew (S:Spc)(tgt:Nat->Out Ent)(b:List ByteArray)(f:List Ent)(nm:ByteArray):Out Ent :=
 match aZ f nm with
 |some e=>.inl (f,e)
 |none=>match atL b nm with
  |some i=>.inr (.inl (b.drop i))
  |none=>fR S tgt f nm
def aQ (S:Spc):Nat->List ByteArray->List Ent->ByteArray->Out Ent
 |0,making,made,nm=>ew S (λ_=>.inr (.inr nm)) making made nm
 |n+1,making,made,nm=>ew S (λt=>jq nm t (bU S (aQ S n (making++[nm])) t 201 made [] [])) making made nm
def nh (S:Spc)(n:Nat)(b:List ByteArray)(f:List Ent)(nm:ByteArray)(t:Nat):Out Ent :=
 match n with
 |0=>.inr (.inr nm)
 |n+1=>jq nm t (bU S (aQ S n (b++[nm])) t 201 f [] [])
theorem ni (S:Spc)(n:Nat)(b:List ByteArray)(f:List Ent)(nm:ByteArray):aQ S n b f nm=ew S (nh S n b f nm) b f nm:=by
 cases n with
 |zero=>rw[aQ];rfl
 |succ n=>rw[aQ];rfl
structure iO where
 E:Int
 y:ByteArray
 w:List ByteArray
def cI (e:Ent):iO:=if e.H=2 then ⟨4,e.e,[]⟩ else ⟨e.E,e.y,[]⟩
def aX (S:Spc)(nm:ByteArray):List Ent × iO :=
 if be S.n0 S.f0 S.n1 S.f1=0/\aA nm=ZF then
  (match aQ S 60 [] [] nm with
   |.inl (made,e)=>(made,cI e)
   |.inr (.inl c)=>([],⟨6,⟨#[]⟩,c⟩)
   |.inr (.inr d)=>([],⟨7,d,[]⟩))
 else ([],⟨9,⟨#[]⟩,[]⟩)
theorem Cu (b:List aB)(r:aB):yL (b++[r]) b.length=r:=by simp[yL]
theorem yt (b:List aB)(r:aB){k:Nat}(h:k<b.length):yL (b++[r]) k=yL b k:=by simp[yL,JU h]
theorem uu (f:Nat->Ins)(cnt:Nat)(y z:Nat->aB)(n:Nat)(k:Nat):∀place steps looks b,(∀i,looks<=i->i<n->y i=z i)->bT f cnt y n k place steps looks b=bT f cnt z n k place steps looks b:=by
 induction k with
 |zero=>intro _ _ _ _ _;rfl
 |succ k g =>
  intro place steps looks b h;rw[bT,bT];rcases bv f cnt place steps looks b with ⟨s,p⟩|⟨c,x⟩|⟨a,nm,s⟩
  {exact g _ _ _ _ h};{rfl};{simp only;by_cases hn:n<=looks;{rw[nL hn,nL hn]};{rw[eT hn,eT hn,h looks ly (by omega),g _ _ _ _ λi hi=>h i (by omega),g _ _ _ _ λi hi=>h i (by omega)]}}
theorem oF (u:Nat):(Lib.decDigits u).length<=u+1:=by
 induction u using Nat.strongRecOn with
 |ind u b =>
  rw[Lib.decDigits];split;{simp};{have:=b (u / 10) (by omega);simp only[eL,BG,JJ];omega}
theorem jc (h:p<=2000):(dw p).size<=2000:=by
 show(Lib.decDigits p).length<=2000;rw[Lib.decDigits];split;{simp};{have:=oF (p / 10);simp only[eL,BG,JJ];omega}
def lY (c:Int)(x:ByteArray):Prop:=0<=c/\c<=5/\x.size<=2000
theorem wZ{ask:Bool}{a:ByteArray}{r:List ByteArray}{b:Nat}{c:Int}(h:gC ask a r b looks=.inr (.inl (c,x)))(f:b<=2000):lY c x:=by
 unfold gC at h;split at h;{cases h;exact⟨by omega,by omega,jc f⟩};{split at h;{cases h;exact⟨by omega,by omega,by decide⟩};{cases h}}
theorem qU{op:Nat}{t:ByteArray}{b:Nat}{f:List ByteArray}{c:Int}(h:bZ op n t b looks f=.inr (.inl (c,x)))(i:∀z∈f,z.size<=2000)(g:b<=2000):lY c x:=by
  unfold bZ at h;split at h;all_goals first
    |(cases h;done)
    |exact wZ h g
    | (split at h
       · cases h
       · cases h;exact⟨by omega,by omega,jc g⟩)
    |(cases h;exact⟨by omega,by omega,i _ (by simp)⟩)
    |(cases h;exact⟨by omega,by omega,by decide⟩)
theorem xa{cnt:Nat}{c:Int}(h:bv f cnt place steps looks b=.inr (.inl (c,x)))(i:∀z∈b,z.size<=2000)(g:place<=2000):lY c x:=by
 unfold bv at h;split at h;{cases h;exact⟨by omega,by omega,jc g⟩};{split at h;{cases h;exact⟨by omega,by omega,by decide⟩};{split at h;{cases h;exact⟨by omega,by omega,jc g⟩};{exact qU h i g}}}
theorem uv{cnt:Nat}(h1:b.length<=50)(h2:∀z∈b,z.size<=2000)(g:looks<=200)(h:cX f cnt=ZF)(hc:cnt<=200):pi (bv f cnt place steps looks b) looks:=by
 unfold bv;split;{trivial}
 ·rename_i h1;split;{trivial}
  ·split;{trivial}
   ·rename_i g;have hi:=iU h (show place<cnt by omega);simp only[b9,xT] at hi;obtain⟨i1,i2,i3,i4,i5⟩:=hi;have hmt:dx (f place).op<=2000:=by unfold dx;split<;>(try split)<;>omega
    have hmt2:bF (f place).op<=2000:=by unfold bF;split<;>omega
    exact gY _ _ _ _ _ _ (by assumption) h2 (by omega) (by omega) (by omega) (by assumption) (by omega) (by omega) (by simpa using g)
def yu (n:Nat)(ZL:Turn):Prop:=(ZL.ak=ZF/\lY ZL.E ZL.y)∨(ZL.ak=ZA/\n<200/\aA ZL.e=ZF)
theorem sQ{cnt:Nat}{s:List ByteArray}{a:Bool}(h:bv f cnt place steps looks b=.inr (.inr (a,nm,s))):place<cnt:=by
 unfold bv at h;split at h;{cases h};{omega}
theorem lF (h:aA nm=ZF):nm.size<=60:=by simp only[aA,p6,xT] at h;omega
theorem AF (f:Nat->Ins)(cnt:Nat)(y:Nat->aB)(n:Nat)(t:cX f cnt=ZF)(B:cnt<=200)(u:∀i,i<n->(y i).y.size<=2000)(k:Nat):∀place steps looks b,b.length<=50->(∀z∈b,z.size<=2000)->place<=2000->steps<=2000->looks<=200->looks<=n->k+steps=2001->yu n (bT f cnt y n k place steps looks b):=by
 induction k with
 |zero=>intro _ _ _ _ _ _ _ _ _ _ h;omega
 |succ k o =>
  intro place steps looks b h1 h2 C h4 r A h7;have g:=uv (f:=f) (cnt:=cnt) (place:=place) (steps:=steps) h1 h2 r t B;rw[bT];rcases hs:bv f cnt place steps looks b with ⟨s,p⟩|⟨c,x⟩|⟨a,nm,s⟩
  {rw[hs] at g;obtain⟨q,j,l⟩:=g;obtain⟨m,D⟩:=iM hs;simp only;rw[m];exact o _ _ _ _ q j l (by omega) r A (by omega)};{exact .inl ⟨rfl,xa hs h2 C⟩};{rw[hs] at g;obtain⟨q,j,l,g4⟩:=g;obtain⟨m,D⟩:=jY hs;have hp:=sQ hs;have hz:=lF l;simp only;rw[m];split;{exact .inr ⟨rfl,by omega,l⟩};{split;{refine o _ _ _ _ (by simp;omega) (λz hz=>?_) (by omega) (by omega) (by omega) (by omega) (by omega);rcases BO.1 hz with rfl|hz;{exact ix _};{exact j z hz}};{split;{exact .inl ⟨rfl,by simp[fe],by simp[fe],by simp only[fe];omega⟩};{split;{refine o _ _ _ _ (by simp;omega) (λz hz=>?_) (by omega) (by omega) (by omega) (by omega) (by omega);rcases BO.1 hz with rfl|hz;{exact u _ (by omega)};{exact j z hz}};{exact .inl ⟨rfl,by simp[fe],by simp[fe],by simp only[fe];omega⟩}}}}}
def iy (S:Spc)(b:List ByteArray)(f:List Ent):Nat->Bool:=λt=>(aZ f (S.f1 t).e).isNone && (atL b (S.f1 t).e).isNone
def du (S:Spc)(b:List ByteArray)(f:List Ent):Nat:=(List.range S.n1).countP (iy S b f)
theorem gO (b:List Ent)(e:Ent)(t:ByteArray):aZ (b++[e]) t=(aZ b t).or (if (e.e.toList == t.toList)=ZF then T e else Z):=by unfold aZ;rw[List.find?_append];cases h:(e.e.toList == t.toList)<;>simp[h]
theorem pn (L:List ByteArray)(x t:ByteArray):(atL (L++[x]) t).isNone=((atL L t).isNone && !(x.toList == t.toList)):=by unfold atL;rw[ON];cases h:(x.toList == t.toList)<;>cases h2:List.findIdx? (λx=>x.toList == t.toList) L<;>simp[h,PO]
theorem jd (S:Spc)(b:List ByteArray)(f:List Ent)(e:Ent):du S b (f++[e])<=du S b f:=by
 refine NT λt _ h=>?_;simp only[iy,p6,gO] at h ⊢;refine⟨?_,h.2⟩;cases h2:aZ f (S.f1 t).e with
 |none=>rfl
 |some x=>rw[h2] at h;simp at h
theorem qe (S:Spc)(b:List ByteArray)(f:List Ent)(e:Ent):du S b (f++[e])<=du S (b++[e.e]) f:=by
 refine NT λt _ h=>?_;simp only[iy,p6,gO,pn] at h ⊢;cases h2:aZ f (S.f1 t).e with
 |some x=>rw[h2] at h;simp at h
 |none =>
  rw[h2] at h;refine⟨rfl,h.2,?_⟩;cases h3:(e.e.toList == (S.f1 t).e.toList) with
  |false=>rfl
  |true=>rw[h3] at h;simp at h
theorem qg{p q:Nat->Bool}{l:List Nat}(h:∀x∈l,p x=ZF->q x=ZF){a:Nat}(b:a∈l)(h1:p a=ZA)(h2:q a=ZF):l.countP p+1<=l.countP q:=by
 induction l with
 |nil=>cases b
 |cons x l f =>
  have hm:l.countP p<=l.countP q:=NT λz hz=>h z (mq _ hz);rw[List.countP_cons,List.countP_cons];rcases BO.1 b with rfl|b;{rw[h1,h2];simp;omega}
  ·have:=f (λz hz=>h z (mq _ hz)) b;cases hp:p x with
   |false=>simp;split<;>omega
   |true=>rw[h x NL hp];simp;omega
theorem fj{S:Spc}{made:List Ent}(b:t<S.n1)(hn:(S.f1 t).e=nm)(h1:aZ made nm=Z)(h2:atL making nm=Z):du S (making++[nm]) made+1<=du S making made:=by
 refine qg (λx _ h=>?_) (J4.2 b) ?_ ?_;{simp only[iy,p6,pn] at h ⊢;exact⟨h.1,h.2.1⟩};{simp[iy,pn,hn]};{simp[iy,hn,h1,h2]}
theorem bA{t:ByteArray}(h:atI g n t=T i):i<n/\g i=t:=by unfold atI at h;have h1:=List.find?_some h;have h2:=PD h;exact⟨J4.1 h2,bytes_beq h1⟩
def eV (S:Spc)(b:List ByteArray)(g f:List Ent)(k:Nat):Prop:=f.length+201*du S b f<=g.length+201*du S b g+k
theorem qi{S:Spc}{lies:List Ent->ByteArray->Out Ent}(m:∀f nm b e,lies f nm=.inl (b,e)->eV S making f b 1):∀k f i g b x,bU S lies t k f i g=.inl (b,x)->eV S making f b (k - 1):=by
 intro k;induction k with
 |zero=>intro f i g b x h;cases h
 |succ k j =>
  intro f i g b x h;rw[bU] at h;split at h;{cases h;unfold eV;omega}
  ·cases k with
   |zero =>
    split at h;{cases h};{split at h<;>cases h}
   |succ k =>
    split at h;{have:=j _ _ _ _ _ h;unfold eV at this ⊢;omega};{split at h;{rename_i made1 e l;have h1:=m _ _ _ _ l;have h2:=j _ _ _ _ _ h;unfold eV at h1 h2 ⊢;omega};{cases h};{cases h}}
theorem fS (S:Spc):∀n b g nm f e,aQ S n b g nm=.inl (f,e)->eV S b g f 1:=by
 intro n;have m:∀b g nm f e (tgt:Nat->Out Ent),(∀t f e,atI (nm1 S.f1) S.n1 nm=T t->aZ g nm=Z->atL b nm=Z->tgt t=.inl (f,e)->eV S b g f 1)->ew S tgt b g nm=.inl (f,e)->eV S b g f 1:=by
  intro b g nm f e tgt q h;unfold ew at h;split at h;{cases h;unfold eV;omega}
  ·rename_i o;split at h;{cases h}
   ·rename_i h1;unfold fR eJ at h;split at h
    ·rename_i i hi;cases h
     have:=jd S b g ⟨nm,1,0,(S.f0 i).y,0,[]⟩;unfold eV;rw[eL,D0];omega
    ·split at h;{rename_i t l;exact q _ _ _ l o h1 h}
     ·cases h
      have:=jd S b g ⟨nm,2,0,⟨#[]⟩,0,[]⟩;unfold eV;rw[eL,D0];omega
 induction n with
 |zero =>intro b g nm f e h;rw[aQ] at h;exact m _ _ _ _ _ _ (λt _ _ _ _ _ h=>by cases h) h
 |succ n s =>
  intro b g nm f e h;rw[aQ] at h;refine m _ _ _ _ _ _ (λt f e l o h1 h=>?_) h;rcases hr:bU S (aQ S n (b++[nm])) t 201 g [] [] with ⟨j,x⟩|c|c;{rw[hr] at h;simp only[jq,eJ,UC,JL] at h;obtain⟨rfl,rfl⟩:=h;have r:=qi (making:=b++[nm]) (λg nm2 f e p=>s _ _ _ _ _ p) _ _ _ _ _ _ hr;have g2:=fj (making:=b) (made:=g) (bA l).1 (bA l).2 o h1;have g3:du S b (j++[⟨nm,3,x.1.E,x.1.y,t,x.2⟩])<=du S (b++[nm]) j:=qe S b j ⟨nm,3,x.1.E,x.1.y,t,x.2⟩;unfold eV at r ⊢;rw[eL,D0];omega};{rw[hr] at h;cases h};{rw[hr] at h;cases h}
structure SpcOk (S:Spc):Prop where
 chk:be S.n0 S.f0 S.n1 S.f1=0
 asc0:aP (nm0 S.f0) S.n0=ZF
 asc1:aP (nm1 S.f1) S.n1=ZF
 ax:S.n0+S.n1<=200
 y:∀i,i<S.n0->(S.f0 i).y.size<=2000
 D:∀t,t<S.n1->valid (S.f1 t).D (S.f1 t).m=ZF
theorem j7{p:Nat->Bool}(h:aM p n=ZA)(hi:i<n):p i=ZA:=by
 induction n with
 |zero=>omega
 |succ n b =>
  rw[aM,RY] at h;by_cases e:i=n;{subst e;exact h.2};{exact b h.1 (by omega)}
theorem SpcOk.of{S:Spc}(h:be S.n0 S.f0 S.n1 S.f1=0):SpcOk S:=by
 obtain⟨h1,h2,b⟩:=pO h;have l:=h;unfold be at h;split at h;· omega
 split at h;· omega
 split at h;· omega
 split at h;· omega
 split at h;· omega
 split at h;· omega
 split at h;· omega
 split at h;· omega
 rename_i j f;refine⟨l,h1,h2,b,λi hi=>?_,λt g=>?_⟩;{have:=j7 (Bool.eq_false_iff.2 j) hi;simp only[fo,JY] at this;omega};{have:=j7 (Bool.eq_false_iff.2 f) g;simpa[cK] using this}
structure EG (S:Spc)(x:Ent):Prop where
 nm:aA x.e=ZF
 tx:x.y.size<=2000
 E:0<=x.E/\x.E<=5
 H:(x.H=1/\x.E=0/\x.looks=[]/\∃i,atI (nm0 S.f0) S.n0 x.e=T i/\x.y=(S.f0 i).y)∨(x.H=2/\x.E=0/\x.y=⟨#[]⟩/\x.looks=[]/\atI (nm0 S.f0) S.n0 x.e=Z/\atI (nm1 S.f1) S.n1 x.e=Z)∨(x.H=3/\atI (nm0 S.f0) S.n0 x.e=Z/\atI (nm1 S.f1) S.n1 x.e=T x.tg)
 looks:x.looks.length<=200
 lname:∀l∈x.looks,aA l.e=ZF
structure PG (S:Spc)(making:List ByteArray)(made:List Ent):Prop where
 ao:∀x∈made,EG S x
 nod:made.Pairwise λx y=>x.e≠y.e
 off:∀x∈made,atL making x.e=Z
 ord:∀(i:Nat) (x:Ent),made[i]?=T x->∀l∈x.looks,l.ask=ZF->∃(j:Nat) (y:Ent),j<i/\made[j]?=T y/\y.e=l.e
theorem iP (S:Spc)(b:List ByteArray):PG S b []:=⟨λx h=>absurd h nj,List.Pairwise.nil,λx h=>absurd h nj,λi x h=>by simp at h⟩
theorem dC{b:List Ent}(h:aZ b nm=Z):∀x∈b,x.e≠nm:=by intro x f e;have:=PQ.1 h x f;rw[e] at this;simp at this
theorem j8{b:List Ent}{e:Ent}(h:aZ b nm=T e):e∈b/\e.e=nm:=⟨PD h,bytes_beq (List.find?_some (p:=λe:Ent=>e.e.toList == nm.toList) h)⟩
theorem iQ (h:atL L nm=Z):∀x∈L,x≠nm:=by intro x b e;have:=MV.1 h x b;rw[e] at this;simp at this
theorem jr (h:∀x∈L,x≠nm):atL L nm=Z :=
 MV.2 λx b=>by
  cases e:(x.toList == nm.toList) with
  |false=>rfl
  |true=>exact absurd (bytes_beq e) (h x b)
theorem PG.add{S:Spc}{g:List ByteArray}{f:List Ent}{e:Ent}(h:PG S g f)(u:EG S e)(z:∀x∈f,x.e≠e.e)(h1:atL g e.e=Z)(A:∀l∈e.looks,l.ask=ZF->∃x∈f,x.e=l.e):PG S g (f++[e]):=by
 refine⟨λx m=>?_,?_,λx m=>?_,λi x hi l r p=>?_⟩;{rcases BC.1 m with m|m;{exact h.ao x m};{rw[hU.1 m];exact u}};{rw[KT];exact⟨h.nod,P0 _ _,λa p b hb=>by rw[hU.1 hb];exact z a p⟩};{rcases BC.1 m with m|m;{exact h.off x m};{rw[hU.1 m];exact h1}}
 ·rcases J7 i f.length with q|s;{rw[JU q] at hi;obtain⟨j,y,o,n,hn⟩:=h.ord i x hi l r p;exact⟨j,y,o,by rw[JU (by omega)];exact n,hn⟩}
  ·rw[JP s] at hi;have t:x=e:=by
    cases hk:i - f.length with
    |zero=>rw[hk] at hi;simpa using hi.symm
    |succ k=>rw[hk] at hi;simp at hi
   subst t;obtain⟨y,n,hn⟩:=A l r p;obtain⟨j,o,n⟩:=SH n;exact⟨j,y,by omega,by rw[JU o,gq o,n],hn⟩
structure RG (S:Spc)(made:List Ent)(ys:List aB)(ls:List Lk):Prop where
 good:∀y∈ys,ci y=ZF
 len:ls.length=ys.length
 names:∀l∈ls,aA l.e=ZF
 asked:∀l∈ls,l.ask=ZF->∃x∈made,x.e=l.e
theorem lG (S:Spc)(b:List Ent):RG S b [] []:=⟨λ_ h=>absurd h nj,rfl,λ_ h=>absurd h nj,λ_ h=>absurd h nj⟩
theorem RG.mono{S:Spc}{f b:List Ent}{i:List aB}{g:List Lk}(h:RG S f i g)(j:∀x∈f,x∈b):RG S b i g:=⟨h.good,h.len,h.names,λl n m=>let ⟨x,hx,e⟩:=h.asked l n m;⟨x,j x hx,e⟩⟩
theorem RG.add{S:Spc}{b:List Ent}{g:List aB}{f:List Lk}{y:aB}{l:Lk}(h:RG S b g f)(i:ci y=ZF)(hn:aA l.e=ZF)(j:l.ask=ZF->∃x∈b,x.e=l.e):RG S b (g++[y]) (f++[l]):=by
 refine⟨λz hz=>?_,by simp[h.len],λz hz=>?_,λz hz=>?_⟩;{rcases BC.1 hz with hz|hz;{exact h.good z hz};{rw[hU.1 hz];exact i}};{rcases BC.1 hz with hz|hz;{exact h.names z hz};{rw[hU.1 hz];exact hn}};{rcases BC.1 hz with hz|hz;{exact h.asked z hz};{rw[hU.1 hz];exact j}}
theorem Cv{f:List aB}(h:∀y∈f,ci y=ZF)(k:Nat):ci (yL f k)=ZF:=by
 unfold yL;rcases J7 k f.length with b|b;{rw[JB,gq b];exact h _ (gz b)};{rw[JB,JR b];rfl}
theorem sR{S:Spc}(h:SpcOk S)(g:t<S.n1){b:List aB}(f:∀y∈b,ci y=ZF):yu b.length (dt S t b):=by obtain⟨h1,h2,h3⟩:=bM (h.D t g);refine AF _ _ _ _ h1 (by omega) (λi _=>?_) 2001 0 0 0 [] (by simp) (by simp) (by omega) (by omega) (by omega) (by omega) (by omega);have:=Cv f i;simp only[ci,xT] at this;exact this.1
theorem pq (S:Spc)(t:ByteArray):ci ⟨ft S t,0,⟨#[]⟩⟩=ZF:=by simp only[ci,xT];exact⟨by decide,by decide,by decide⟩
theorem pr{S:Spc}{x:Ent}(h:EG S x):ci (hZ x)=ZF:=by have h1:=h.tx;have h2:=h.E;exact LD ⟨h1,h2.1,Int.le_trans h2.2 (by decide)⟩
def sS (S:Spc)(f:List ByteArray)(lies:List Ent->ByteArray->Out Ent):Prop:=∀g nm b e,PG S f g->aA nm=ZF->lies g nm=.inl (b,e)->PG S f b/\(∃more,b=g++more)/\e∈b/\e.e=nm
theorem lH{S:Spc}(D:SpcOk S){lies:List Ent->ByteArray->Out Ent}{g:List ByteArray}(ZP:t<S.n1)(ZO:sS S g lies):∀k f i m b x,PG S g f->RG S f i m->i.length+k=201->bU S lies t k f i m=.inl (b,x)->PG S g b/\(∃more,b=f++more)/\lY x.1.E x.1.y/\x.2.length<=200/\(∀l∈x.2,aA l.e=ZF)/\∀l∈x.2,l.ask=ZF->∃y∈b,y.e=l.e:=by
 intro k;induction k with
 |zero=>intro f i m b x _ _ _ h;cases h
 |succ k A =>
  intro f i m b x q j hk h;have G:=sR D ZP j.good;rw[bU] at h;rcases G with ⟨p,o⟩|⟨p,hlt,hn⟩
  ·rw[nL p] at h;cases h
   exact⟨q,⟨[],by simp⟩,o,by rw[j.len];omega,j.names,j.asked⟩
  ·rw[eT (by rw[p];simp)] at h;split at h;{exact A _ _ _ _ _ q (j.add (pq _ _) hn (λh=>by cases h)) (by simp;omega) h}
   ·split at h
    ·rename_i n e o;obtain⟨s,⟨more,u⟩,z,B⟩:=ZO _ _ _ _ q hn o;have r:RG S n i m:=j.mono λx K=>by rw[u];exact KE _ K
     obtain⟨E,⟨more2,H⟩,C⟩:=A _ _ _ _ _ s (r.add (l:=⟨(dt S t i).e,ZF,ZA⟩) (pr (s.ao e z)) hn (λ_=>⟨e,z,B⟩)) (by simp;omega) h;exact⟨E,⟨more++more2,by rw[H,u,KQ]⟩,C⟩
    {cases h};{cases h}
theorem jC{S:Spc}{f:List Ent}(h:PG S b f)(i:aZ f nm=Z):PG S (b++[nm]) f :=
 ⟨h.ao,h.nod,λx g=>jr λz hz=>by
  rcases BC.1 hz with hz|hz
  ·exact iQ (h.off x g) z hz
  ·rw[hU.1 hz];exact λe=>dC i x g e.symm,h.ord⟩
theorem jD{S:Spc}{f:List Ent}(h:PG S (b++[nm]) f):PG S b f/\∀x∈f,x.e≠nm :=
 ⟨⟨h.ao,h.nod,λx g=>jr λz hz=>iQ (h.off x g) z (KE _ hz),h.ord⟩,λx g e=>iQ (h.off x g) nm (LK _ (hU.2 rfl)) e.symm⟩
theorem AG{S:Spc}{f:List Ent}{x:Turn × List Lk}(h:PG S (b++[nm]) f)(hn:aA nm=ZF)(h1:atL b nm=Z)(h2:atI (nm0 S.f0) S.n0 nm=Z)(j:atI (nm1 S.f1) S.n1 nm=T t)(g:lY x.1.E x.1.y)(m:x.2.length<=200)(i:∀l∈x.2,aA l.e=ZF)(n:∀l∈x.2,l.ask=ZF->∃y∈f,y.e=l.e):PG S b (f++[⟨nm,3,x.1.E,x.1.y,t,x.2⟩]) :=
 (jD h).1.add ⟨hn,g.2.2,⟨g.1,g.2.1⟩,.inr (.inr ⟨rfl,h2,j⟩),m,i⟩ (jD h).2 h1 n
theorem AH{S:Spc}(j:SpcOk S){f:List Ent}(h:PG S b f)(hn:aA nm=ZF)(m:aZ f nm=Z)(h1:atL b nm=Z)(h2:atI (nm0 S.f0) S.n0 nm=T i):PG S b (f++[⟨nm,1,0,(S.f0 i).y,0,[]⟩]) :=
 h.add ⟨hn,j.y i (bA h2).1,⟨TU _,by show(0:Int)<=5;decide⟩,.inl ⟨rfl,rfl,rfl,i,h2,rfl⟩,IH _,λl g=>absurd g nj⟩ (dC m) h1 λl g=>absurd g nj
theorem yv{S:Spc}{f:List Ent}(h:PG S b f)(hn:aA nm=ZF)(j:aZ f nm=Z)(h1:atL b nm=Z)(h2:atI (nm0 S.f0) S.n0 nm=Z)(i:atI (nm1 S.f1) S.n1 nm=Z):PG S b (f++[⟨nm,2,0,⟨#[]⟩,0,[]⟩]) :=
 h.add ⟨hn,IH _,⟨TU _,by show(0:Int)<=5;decide⟩,.inr (.inl ⟨rfl,rfl,rfl,rfl,h2,i⟩),IH _,λl g=>absurd g nj⟩ (dC j) h1 λl g=>absurd g nj
theorem ey{S:Spc}(p:SpcOk S):∀n b,sS S b (aQ S n b):=by
 intro n;have o:∀b g nm f e (tgt:Nat->Out Ent),PG S b g->aA nm=ZF->(∀t f e,atI (nm0 S.f0) S.n0 nm=Z->atI (nm1 S.f1) S.n1 nm=T t->aZ g nm=Z->atL b nm=Z->tgt t=.inl (f,e)->PG S b f/\(∃more,f=g++more)/\e∈f/\e.e=nm)->ew S tgt b g nm=.inl (f,e)->PG S b f/\(∃more,f=g++more)/\e∈f/\e.e=nm:=by
  intro b g nm f e tgt j hn q h;unfold ew at h;split at h
  ·rename_i e1 z;cases h
   exact⟨j,⟨[],by simp⟩,j8 z⟩
  ·rename_i m;split at h;{cases h}
   ·rename_i h1;unfold fR eJ at h;split at h
    ·rename_i i hi;cases h
     exact⟨AH p j hn m h1 hi,⟨_,rfl⟩,by simp,rfl⟩
    ·rename_i h2;split at h;{rename_i t l;exact q _ _ _ h2 l m h1 h}
     ·rename_i l;cases h
      exact⟨yv j hn m h1 h2 l,⟨_,rfl⟩,by simp,rfl⟩
 induction n with
 |zero =>intro b g nm f e j hn h;rw[aQ] at h;exact o _ _ _ _ _ _ j hn (λt _ _ _ _ _ _ h=>by cases h) h
 |succ n C =>
  intro b g nm f e j hn h;rw[aQ] at h;refine o _ _ _ _ _ _ j hn (λt f e h2 l m h1 h=>?_) h;rcases hr:bU S (aQ S n (b++[nm])) t 201 g [] [] with ⟨made1,x⟩|c|c;{rw[hr] at h;simp only[jq,eJ,UC,JL] at h;obtain⟨rfl,rfl⟩:=h;obtain⟨r,⟨more,A⟩,B,s,y,u⟩:=lH p (bA l).1 (C (b++[nm])) _ _ _ _ _ _ (jC j m) (lG S g) rfl hr;exact⟨AG r hn h1 h2 l B s y u,⟨more++[_],by rw[A,KQ]⟩,by simp,rfl⟩};{rw[hr] at h;cases h};{rw[hr] at h;cases h}
def nr (b:List Ent)(nm:ByteArray):Nat:=b.findIdx λe=>e.e.toList == nm.toList
def lkD (b:List Ent)(l:Lk):Link:=⟨l.e,l.ask,l.has,if l.ask=ZF then ((nr b l.e:Nat):Int) else 0⟩
def lkF (b:List Ent)(f:List Lk):Nat->Link:=λi=>lkD b (f.getD i ⟨⟨#[]⟩,ZA,ZA⟩)
def ez (S:Spc)(e:Ent):Nat:=if e.H=3 then (S.f1 e.tg).m else 0
def gE (S:Spc)(b:List Ent)(e:Ent):aj:=⟨e.e,e.H,e.E,e.y,ez S e,(S.f1 e.tg).D,e.looks.length,lkF b e.looks⟩
def fT (S:Spc)(b:List Ent):List aj:=b.map (gE S b)
theorem yw{b:List Ent}{f:List Lk}{l:Lk}(h:f[i]?=T l):lkF b f i=lkD b l:=by unfold lkF;rw[JB,h];rfl
theorem oG (S:Spc)(nm:ByteArray):PG S [] (aX S nm).1/\(aX S nm).1.length<=40201/\((aX S nm).1≠[]->SpcOk S):=by
 unfold aX;split
 ·rename_i h;have f:=SpcOk.of h.1;split
  ·rename_i b e g;have i:=fS S 60 [] [] nm b e g;unfold eV at i;have hl:du S [] []<=S.n1:=by unfold du;have:=NU (p:=iy S [] []) (l:=List.range S.n1);simpa using this
   have hs:=f.ax;refine⟨(ey f 60 [] [] nm b e (iP S []) h.2 g).1,?_,λ_=>f⟩;simp only[JJ] at i;show b.length<=40201;omega
  {exact⟨iP S [],IH _,λh=>absurd rfl h⟩};{exact⟨iP S [],IH _,λh=>absurd rfl h⟩}
 {exact⟨iP S [],IH _,λh=>absurd rfl h⟩}
theorem PG.idx{S:Spc}{f:List ByteArray}{b:List Ent}(h:PG S f b){x:Ent}(m:b[i]?=T x):nr b x.e=i:=by
 obtain⟨hi,e⟩:=p9.1 m;unfold nr;rw[List.findIdx_eq hi];refine⟨by simp[e],λj l=>?_⟩;have g:=KF.1 h.nod j i (by omega) hi l;rw[e] at g;cases hb:(b[j].e.toList == x.e.toList) with
 |false=>rfl
 |true=>exact absurd (bytes_beq hb) g
theorem PG.asked{S:Spc}{f:List ByteArray}{b:List Ent}(h:PG S f b){x:Ent}(o:b[i]?=T x){l:Lk}(m:l∈x.looks)(n:l.ask=ZF):∃y,b[nr b l.e]?=T y/\y.e=l.e/\nr b l.e<i:=by obtain⟨j,y,hj,g,e⟩:=h.ord i x o l m n;have:=h.idx g;rw[e] at this;exact⟨y,by rw[this];exact g,e,by omega⟩
theorem xc{b:List Ent}{e:Ent}(h:aZ b e.e=Z):aZ (b++[e]) e.e=T e:=by rw[gO,h];simp
theorem yx (f:Nat->Ins)(cnt:Nat)(i:List aB)(r:aB)(n:r.has=ZA)(k:Nat):∀place steps looks j,looks<=i.length->(bT f cnt (yL i) i.length k place steps looks j).ak=ZA->(bT f cnt (yL i) i.length k place steps looks j).ask=ZF->(bT f cnt (yL (i++[r])) (i.length+1) k place steps looks j).ak=ZF:=by
 induction k with
 |zero=>intro _ _ _ _ _ _ h;cases h
 |succ k l =>
  intro place steps looks j q g b;rw[bT] at g b ⊢;rcases hs:bv f cnt place steps looks j with ⟨s,p⟩|⟨c,x⟩|⟨a,nm,s⟩
  {rw[hs] at g b;exact l _ _ _ _ q g b};{rfl}
  ·rw[hs] at g b;simp only at g b ⊢;rw[eT (show ¬ i.length+1<=looks by omega)];by_cases hn:i.length<=looks
   ·obtain rfl:looks=i.length:=by omega
    rw[nL hn] at g b;have m:a=ZF:=b;subst m;rw[eT (by simp),Cu,nL n];rfl
   {rw[eT hn] at g b;rw[yt _ _ (by omega)];split;{rename_i h1;rw[nL h1] at g b;exact l _ _ _ _ (by omega) g b};{rename_i h1;rw[eT h1] at g b;split;{rfl};{rename_i h2;rw[eT h2] at g b;split;{rename_i o;rw[nL o] at g b;exact l _ _ _ _ (by omega) g b};{rfl}}}}
def j9 (S:Spc)(b:List Ent):Nat:=(List.range S.n0).countP λi=>(aZ b (S.f0 i).e).isNone
def Mu (S:Spc)(f:List ByteArray)(b:List Ent):Nat:=b.length+2*du S f b+j9 S b
theorem qj (S:Spc)(b:List Ent)(e:Ent):j9 S (b++[e])<=j9 S b:=by
 refine NT λt _ h=>?_;rw[gO] at h;cases h2:aZ b (S.f0 t).e with
 |none=>rfl
 |some x=>rw[h2] at h;simp at h
theorem yy{S:Spc}{b:List Ent}{e:Ent}(hi:i<S.n0)(hn:(S.f0 i).e=e.e)(h:aZ b e.e=Z):j9 S (b++[e])+1<=j9 S b:=by
 refine qg (λx _ h=>?_) (J4.2 hi) ?_ ?_
 ·rw[gO] at h;cases h2:aZ b (S.f0 x).e with
  |none=>rfl
  |some y=>rw[h2] at h;simp at h
 {rw[hn,xc h];rfl};{rw[hn,h];rfl}
def yz (S:Spc)(b:List ByteArray)(lies:List Ent->ByteArray->Out Ent):Prop:=∀g nm f e,lies g nm=.inl (f,e)->Mu S b f<=Mu S b g+if e.H=2 then 1 else 0
theorem DD{S:Spc}{lies:List Ent->ByteArray->Out Ent}{f:List ByteArray}(q:yz S f lies):∀k g i l b x,bU S lies t k g i l=.inl (b,x)->Mu S f b<=Mu S f g+1:=by
 intro k;induction k with
 |zero=>intro g i l b x h;cases h
 |succ k n =>
  intro g i l b x h;rw[bU] at h;split at h;{cases h;omega}
  ·rename_i r;split at h;{exact n _ _ _ _ _ h}
   ·rename_i o;split at h
    ·rename_i made1 e p;have h1:=q _ _ _ _ p;by_cases j:e.H=2
     ·have m:(dt S t (i++[hZ e])).ak=ZF:=by
       have:=yx (S.f1 t).D (S.f1 t).m i (hZ e) (by simp[hZ,j]) 2001 0 0 0 [] (IH _) (by simpa[dt] using r) (by simpa[dt] using o);unfold dt;rw[eL];exact this
      cases k with
      |zero=>cases h
      |succ k =>
       rw[bU,nL m] at h;cases h
       rw[nL j] at h1;exact h1
     {rw[eT j] at h1;have:=n _ _ _ _ _ h;omega}
    {cases h};{cases h}
theorem AJ (S:Spc):∀n b,yz S b (aQ S n b):=by
 intro n;have o:∀b f nm g e (tgt:Nat->Out Ent),(∀t g e,atI (nm1 S.f1) S.n1 nm=T t->aZ f nm=Z->atL b nm=Z->tgt t=.inl (g,e)->Mu S b g<=Mu S b f)->ew S tgt b f nm=.inl (g,e)->Mu S b g<=Mu S b f+if e.H=2 then 1 else 0:=by
  intro b f nm g e tgt p h;unfold ew at h;split at h;{cases h;omega}
  ·rename_i l;split at h;{cases h}
   ·rename_i h1;unfold fR eJ at h;split at h
    ·rename_i i hi;cases h
     have:=jd S b f ⟨nm,1,0,(S.f0 i).y,0,[]⟩;have:=yy (S:=S) (e:=⟨nm,1,0,(S.f0 i).y,0,[]⟩) (bA hi).1 (bA hi).2 l;unfold Mu;rw[eL,D0];omega
    ·split at h;{rename_i t m;have:=p _ _ _ m l h1 h;omega}
     ·cases h
      have:=jd S b f ⟨nm,2,0,⟨#[]⟩,0,[]⟩;have:=qj S f ⟨nm,2,0,⟨#[]⟩,0,[]⟩;rw[nL rfl];unfold Mu;rw[eL,D0];omega
 induction n with
 |zero =>intro b f nm g e h;rw[aQ] at h;exact o _ _ _ _ _ _ (λt _ _ _ _ _ h=>by cases h) h
 |succ n r =>
  intro b f nm g e h;rw[aQ] at h;refine o _ _ _ _ _ _ (λt g e m l h1 h=>?_) h;rcases hr:bU S (aQ S n (b++[nm])) t 201 f [] [] with ⟨j,x⟩|c|c;{rw[hr] at h;simp only[jq,eJ,UC,JL] at h;obtain⟨rfl,rfl⟩:=h;have q:=DD (r (b++[nm])) _ _ _ _ _ _ hr;have g2:=fj (making:=b) (made:=f) (bA m).1 (bA m).2 l h1;have g3:du S b (j++[⟨nm,3,x.1.E,x.1.y,t,x.2⟩])<=du S (b++[nm]) j:=qe S b j ⟨nm,3,x.1.E,x.1.y,t,x.2⟩;have g4:=qj S j ⟨nm,3,x.1.E,x.1.y,t,x.2⟩;unfold Mu at q ⊢;rw[eL,D0];omega};{rw[hr] at h;cases h};{rw[hr] at h;cases h}
theorem xd{S:Spc}(g:SpcOk S){b:List Ent}{e:Ent}(h:aQ S 60 [] [] nm=.inl (b,e)):b.length<=400:=by
 have h1:=AJ S 60 [] [] nm b e h;have hl:du S [] []<=S.n1:=by have:=NU (p:=iy S [] []) (l:=List.range S.n1);simpa[du] using this
 have hs:j9 S []<=S.n0:=by have:=NU (p:=λi=>(aZ [] (S.f0 i).e).isNone) (l:=List.range S.n0);simpa[j9] using this
 have h2:=g.ax;by_cases f:e.H=2
 ·rw[aQ] at h;unfold ew at h;simp only[aZ,List.find?_nil,atL,List.findIdx?_nil] at h;unfold fR eJ at h;split at h;{cases h;cases f}
  ·split at h;{rename_i t h3;simp only at h;rcases hr:bU S (aQ S 59 ([]++[nm])) t 201 [] [] [] with ⟨made1,x⟩|c|c;{rw[hr] at h;simp only[jq,eJ,UC,JL] at h;obtain⟨rfl,rfl⟩:=h;cases f};{rw[hr] at h;cases h};{rw[hr] at h;cases h}}
   ·cases h
    show 1<=400;omega
 {rw[eT f] at h1;unfold Mu at h1;rw[JJ] at h1;omega}
structure Borne (S:Spc)(f:Nat->aj)(p:Nat):Prop where
 lie:mJ S.n0 S.f0 S.n1 S.f1 (f p)=ZA
 has:hasB S.n0 S.f0 S.n1 S.f1 (f p)=ZA
 run:codeF f p=0
def tgD (S:Spc)(d:aj):Nat:=if d.H=3 then (atI (nm1 S.f1) S.n1 d.e).getD 0 else 0
def lkE (l:Link):Lk:=⟨l.e,l.ask,l.has⟩
def fk (d:aj)(k:Nat):List Lk:=(List.range k).map λj=>lkE (d.u j)
def gw (S:Spc)(f:Nat->aj)(p:Nat):Ent:=⟨(f p).e,(f p).H,(f p).E,(f p).y,tgD S (f p),fk (f p) (f p).l⟩
def ysD (f:Nat->aj)(p j:Nat):List aB:=(List.range j).map (yOf f p)
theorem vh{t:ByteArray}(b:aP g n=ZF)(hi:i<n)(h:((g i).toList == t.toList)=ZF):atI g n t=T i:=by
 cases e:atI g n t with
 |none=>exact absurd h (PQ.1 e i (J4.2 hi))
 |some j =>obtain⟨h1,h2⟩:=bA e;rw[asc_one b h1 hi (by rw[h2];simp) h]
theorem pt{t:ByteArray}(h:aF g n t=ZA):atI g n t=Z :=
 PQ.2 λx b e=>by rw[dM (J4.1 b) e] at h;cases h
theorem SpcOk.apart{S:Spc}(i:SpcOk S)(g:t<S.n1):aF (nm0 S.f0) S.n0 (S.f1 t).e=ZA:=by
 have h:=i.chk;unfold be at h;split at h;· omega
 split at h;· omega
 split at h;· omega
 split at h;· omega
 split at h;· omega
 split at h;· omega
 rename_i b;cases e:aF (nm0 S.f0) S.n0 (S.f1 t).e with
 |false=>rfl
 |true =>obtain⟨k,f,hb⟩:=rC e;exact absurd (dy f (dM g (by rw[bytes_beq hb];simp))) b
theorem yA{g:Nat->Ins}{cnt:Nat}(h:∀i,i<cnt->f i=g i)(y:Nat->aB)(n k:Nat):∀place steps looks b,bT f cnt y n k place steps looks b=bT g cnt y n k place steps looks b:=by
 induction k with
 |zero=>intro _ _ _ _;rfl
 |succ k l =>
  intro place steps looks b;have e:bv f cnt place steps looks b=bv g cnt place steps looks b:=by
   unfold bv;by_cases j:cnt<=place;{rw[nL j,nL j]};{rw[h place (by omega)]}
  rw[bT,bT,e];rcases bv g cnt place steps looks b with ⟨s,p⟩|⟨c,x⟩|⟨a,nm,s⟩
  {exact l _ _ _ _};{rfl};{simp only[l]}
theorem DG{x y:Ins}(h:mG x y=ZF):x=y:=by obtain⟨a,b,c⟩:=x;obtain⟨a',b',c'⟩:=y;simp only[mG,p6,PJ] at h;obtain⟨⟨rfl,hb⟩,rfl⟩:=h;rw[fZ hb]
theorem AN{g:Nat->Ins}(h:ei f g n=ZF)(i:Nat)(hi:i<n):f i=g i:=by have:=nM (show i+1<=n by omega) h;simp only[ei,p6] at this;exact DG this.2
theorem lI{f:Nat->aj}(h:bK f n=ZF)(i:p<n):aA (f p).e=ZF/\((f p).H≠3->(f p).E=0/\(f p).m=0/\(f p).l=0)/\((f p).H=2->(f p).y=⟨#[]⟩)/\∀j,j<(f p).l->dU f p ((f p).u j)=ZF:=by
 have h1:=dL (fx h).2.2 p i;simp only[bc,p6,kindOk,xT] at h1;obtain⟨⟨l,_⟩,h2⟩:=h1;refine⟨l,?_⟩;split at h2;{rename_i b;simp only[aN,p6,xT] at h2;exact⟨λ_=>⟨h2.1.1,h2.1.2,h2.2⟩,λe=>by omega,λj g=>by omega⟩};{split at h2;{rename_i b;simp only[aN,p6,xT] at h2;exact⟨λ_=>⟨h2.1.1.1,h2.1.1.2,h2.1.2⟩,λ_=>T0 (NF h2.2),λj g=>by omega⟩};{split at h2;{rename_i b;simp only[bV,p6] at h2;exact⟨λe=>absurd b e,λe=>by omega,jI h2.2⟩};{cases h2}}}
theorem qk {f:Nat->aj}{p:Nat}:∀ZO k,k+ZO<=eZ f p ZO k->∀i,i<ZO->eI f p (k+i)=ZA
 |0,_,_,i,hi=>absurd hi (JI i)
 |ZO+1,k,h,i,hi=>by
  rw[eZ] at h;split at h
  ·omega
  ·rename_i b
   cases i with
   |zero=>simpa using b
   |succ i =>have:=qk (f:=f) (p:=p) ZO (k+1) (by omega) i (by omega);rwa[show k+(i+1)=k+1+i by omega]
theorem yB{f:Nat->aj}(h:codeF f p=0)(l:(f p).H=3):(∀j,j<(f p).l->(cQ f p j).ak=ZA/\(cQ f p j).e=((f p).u j).e/\(cQ f p j).ask=((f p).u j).ask)/\(cQ f p (f p).l).ak=ZF/\(cQ f p (f p).l).E=(f p).E/\(cQ f p (f p).l).y=(f p).y:=by
 rw[codeF,nL l,gD] at h;have hle:=sM f p (f p).l 0;split at h;{omega}
 ·rename_i h1;have g:fi f p=(f p).l:=by unfold fi at h1 ⊢;omega
  rw[g] at h;split at h;{omega};{rename_i h2;split at h;{rename_i b;refine⟨λj i=>?_,by simpa using h2,b.1,fZ b.2⟩;have:=qk (f:=f) (p:=p) (f p).l 0 (by unfold fi at g;omega) j i;rw[JC] at this;simp only[eI,RY,PR,PJ] at this;exact⟨this.1.1,fZ this.1.2,this.2⟩};{omega}}
theorem Borne.lies{S:Spc}{f:Nat->aj}(o:bK f n=ZF)(q:p<n)(j:SpcOk S)(h:Borne S f p):((f p).H=1/\∃i,atI (nm0 S.f0) S.n0 (f p).e=T i/\(S.f0 i).y=(f p).y)∨((f p).H=2/\atI (nm0 S.f0) S.n0 (f p).e=Z/\atI (nm1 S.f1) S.n1 (f p).e=Z)∨((f p).H=3/\atI (nm0 S.f0) S.n0 (f p).e=Z/\∃t,atI (nm1 S.f1) S.n1 (f p).e=T t/\(S.f1 t).m=(f p).m/\∀i,i<(f p).m->(S.f1 t).D i=(f p).D i):=by
 have b:=h.lie;unfold mJ at b;rcases(fa o p q).2 with ⟨g,-⟩|⟨g,-⟩|⟨g,-⟩
 {rw[nL g,PR] at b;obtain⟨i,hi,hb⟩:=iW b;rw[p6] at hb;exact .inl ⟨g,i,vh j.asc0 hi hb.1,bytes_beq hb.2⟩};{rw[eT (by omega),eT (by omega)] at b;unfold mI at b;rw[RY] at b;exact .inr (.inl ⟨g,pt b.1,pt b.2⟩)};{rw[eT (by omega),nL g,PR] at b;obtain⟨t,m,hb⟩:=iW b;rw[p6] at hb;have l:=hb.2;simp only[iq,p6,xT] at l;have hn:(S.f1 t).e=(f p).e:=bytes_beq hb.1;refine .inr (.inr ⟨g,pt (by rw[<-hn];exact j.apart m),t,vh j.asc1 m hb.1,l.1,λi hi=>AN l.2 i (by omega)⟩)}
section
variable {S:Spc}{f:Nat->aj}{n:Nat}
theorem qn{j:Nat}(h1:(S.f1 t).m=(f p).m)(h2:∀i,i<(f p).m->(S.f1 t).D i=(f p).D i):dt S t (ysD f p j)=cQ f p j:=by
 have e:(ysD f p j).length=j:=by simp[ysD]
 unfold dt cQ;rw[e,h1,yA h2];exact uu _ _ _ _ _ _ _ _ _ _ λi _ hi=>by simp[yL,ysD,hi]
end
section
variable {S:Spc}{f:Nat->aj}{n:Nat}
def Sub (S:Spc)(f:Nat->aj)(n:Nat)(b:List Ent):Prop:=∀e∈b,∃p,p<n/\e=gw S f p
theorem DJ:Sub S f n []:=λe b=>(by cases b)
theorem pu{g:List Ent}(h:Sub S f n g)(i:p<n):Sub S f n (g++[gw S f p]):=λe b=>by
 rcases BC.1 b with b|b
 ·exact h e b
 ·exact⟨p,i,hU.1 b⟩
theorem DK (i:bK f n=ZF){b:List Ent}(h:Sub S f n b)(l:p<n){e:Ent}(j:aZ b (f p).e=T e):e=gw S f p:=by obtain⟨h1,h2⟩:=j8 j;obtain⟨q,g,rfl⟩:=h e h1;rw[pM i q p g l (A9 ByteArray.toList h2)]
def EO (S:Spc)(f:Nat->aj)(n p:Nat)(X:Out Ent):Prop:=(∃b,Sub S f n b/\X=.inl (b,gw S f p))∨∃d,X=.inr (.inr d)
def Cw (S:Spc)(f:Nat->aj)(n k:Nat):Prop:=∀p m b g,p<k->p<n->Sub S f n g->(∀z∈b,∀q,q<=p->z≠(f q).e)->EO S f n p (aQ S m b g (f p).e)
theorem yC (x:bK f n=ZF)(ZQ:∀p,p<n->Borne S f p){k m:Nat}(W:Cw S f n k)(hk:p<k+1)(u:p<n)(ZL:(f p).H=3)(C:(S.f1 t).m=(f p).m)(B:∀i,i<(f p).m->(S.f1 t).D i=(f p).D i)(ZK:∀z∈making,∀q,q<p->z≠(f q).e):∀i j b,i+j=(f p).l->Sub S f n b->(∃g,Sub S f n g/\bU S (aQ S m making) t (201 - j) b (ysD f p j) (fk (f p) j)=.inl (g,(cQ f p (f p).l,fk (f p) (f p).l)))∨∃d,bU S (aQ S m making) t (201 - j) b (ysD f p j) (fk (f p) j)=.inr (.inr d):=by
 have hN:(f p).l<=200:=tS x p u;obtain⟨ZP,r1,r2,r3⟩:=yB (ZQ p u).run ZL;intro i;induction i with
 |zero =>
  intro j b V y;obtain rfl:j=(f p).l:=by omega
  refine .inl ⟨b,y,?_⟩;rw[show 201 - (f p).l=200 - (f p).l+1 by omega,bU,qn C B,nL r1]
 |succ i L =>
  intro j b V y;obtain⟨ZM,X,ZN⟩:=ZP j (by omega);have hlk:=(lI x u).2.2.2 j (by omega);have D:ysD f p (j+1)=ysD f p j++[yOf f p j]:=by unfold ysD;rw[KV,JS];rfl
  have A:fk (f p) (j+1)=fk (f p) j++[lkE ((f p).u j)]:=by unfold fk;rw[KV,JS];rfl
  rw[show 201 - j=201 - (j+1)+1 by omega,bU,qn C B,ZM,X,ZN,eT (by simp)];by_cases l:((f p).u j).ask=ZF
  ·obtain⟨a1,R,O⟩:=iV x p u j (by omega) l;have E:((f p).u j).has=ZA:=by simp only[dU,l,if_true,p6,Bool.not_eq_true'] at hlk;exact hlk.2.1.1.1
   have o:∀q,q=((f p).u j).G.toNat->hZ (gw S f q)=yOf f p j:=λq e=>by subst e;unfold yOf;rw[yp x l (by omega)];rfl
   have G:lkE ((f p).u j)=⟨((f p).u j).e,ZF,ZA⟩:=by unfold lkE;rw[l,E]
   have s:((f p).u j).e=(f ((f p).u j).G.toNat).e:=fZ O.symm;generalize P:((f p).u j).G.toNat=q at R s;have o:=o q P.symm;rw[eT (by rw[l];simp),s];rcases W q m making b (by omega) (by omega) y (λz hz r hr=>ZK z hz r (by omega)) with ⟨g,H,e⟩|⟨d,e⟩
   {rw[e];simp only[o];have h:=L (j+1) g (by omega) H;rw[D,A,G,s] at h;exact h};{rw[e];exact .inr ⟨d,rfl⟩}
  ·have hn:((f p).u j).ask=ZA:=by simpa using l
   have ZO:=j7 (ZQ p u).has (show j<(f p).l by omega);simp only[gU,hn,Bool.not_false,ND,PR,PJ] at ZO;have K:ft S ((f p).u j).e=((f p).u j).has:=ZO.symm;have o:yOf f p j=⟨((f p).u j).has,0,⟨#[]⟩⟩:=by unfold yOf gZ;rw[eT l]
   have G:lkE ((f p).u j)=⟨((f p).u j).e,ZA,((f p).u j).has⟩:=by unfold lkE;rw[hn]
   rw[nL hn,K];have h:=L (j+1) b (by omega) y;rw[D,A,G,o] at h;exact h
theorem yD (l:bK f n=ZF)(ZO:SpcOk S)(u:∀p,p<n->Borne S f p):∀k,Cw S f n k:=by
 intro k;induction k with
 |zero=>intro p m b g B;omega
 |succ k L =>
  intro p m b g B h o G;have h1:atL b (f p).e=Z:=jr λx ZQ=>G x ZQ p ly;have r:=lI l h;rw[ni];unfold ew;cases h0:aZ g (f p).e with
  |some e =>rw[DK l o h h0];exact .inl ⟨g,o,rfl⟩
  |none =>
   rw[h1];simp only[fR];rcases(u p h).lies l h ZO with ⟨j,i,hi,D⟩|⟨j,hi,s⟩|⟨j,hi,t,s,E,C⟩
   ·obtain⟨c1,c2,c3⟩:=r.2.1 (by omega);have e:gw S f p=⟨(f p).e,1,0,(S.f0 i).y,0,[]⟩:=by unfold gw tgD fk;rw[c3,c1,j,D];rfl
    rw[hi];simp only[eJ];rw[<-e];exact .inl ⟨_,pu o h,rfl⟩
   ·obtain⟨c1,c2,c3⟩:=r.2.1 (by omega);have e:gw S f p=⟨(f p).e,2,0,⟨#[]⟩,0,[]⟩:=by unfold gw tgD fk;rw[c3,c1,j,r.2.2.1 j];rfl
    rw[hi,s];simp only[eJ];rw[<-e];exact .inl ⟨_,pu o h,rfl⟩
   ·rw[hi,s];cases m with
    |zero=>exact .inr ⟨_,rfl⟩
    |succ y =>
     obtain⟨-,r1,H,K⟩:=yB (u p h).run j;simp only[nh]
     rcases yC l u (m:=y) (making:=b++[(f p).e]) L B h j E C (λz hz q hq=>by
      rcases BC.1 hz with hz|hz;{exact G z hz q (by omega)}
      ·rw[hU.1 hz]
       exact λe=>by have:=pM l p q h (by omega) (A9 ByteArray.toList e);omega) (f p).l 0 g (by omega) o with ⟨made',hs',e⟩|⟨d,e⟩
     ·have A:bU S (aQ S y (b++[(f p).e])) t 201 g [] []=_:=e;have ZP:gw S f p=⟨(f p).e,3,(cQ f p (f p).l).E,(cQ f p (f p).l).y,t,fk (f p) (f p).l⟩:=by unfold gw tgD;rw[j,s,H,K];rfl
      rw[A];simp only[jq,eJ];rw[<-ZP];exact .inl ⟨_,pu hs' h,rfl⟩
     {have A:bU S (aQ S y (b++[(f p).e])) t 201 g [] []=_:=e;rw[A];exact .inr ⟨d,rfl⟩}
theorem yE (g:bK f n=ZF)(h:SpcOk S)(i:∀p,p<n->Borne S f p)(b:p<n):EO S f n p (aQ S 60 [] [] (f p).e) :=
 yD g h i n p 60 [] [] b b DJ (λz hz=>by cases hz)
end
def fc (n0:Nat)(f0:Nat->Source)(n1:Nat)(f1:Nat->Target)(f:Nat->aj)(p:Nat):Int:=if mJ n0 f0 n1 f1 (f p)=ZF then 2 else if hasB n0 f0 n1 f1 (f p)=ZF then 3 else codeF f p
def fU (c:Nat->Int):Nat->Int × Int
 |0=>(0,0)
 |k+1=>if (fU c k).1=0 then (if c k=0 then (0,0) else (c k,(k:Int))) else fU c k
def js (n0:Nat)(f0:Nat->Source)(n1:Nat)(f1:Nat->Target)(f:Nat->aj)(n:Nat):Int × Int:=if bK f n=ZF then (if be n0 f0 n1 f1=0 then fU (fc n0 f0 n1 f1 f) n else (1,0)) else (1,0)
theorem ke{c:Nat->Int}{k:Nat}(hk:k<n)(f:∀i,i<k->c i=0)(h:c k≠0):fU c n=(c k,(k:Int)):=by
 have hz:∀m,m<=k->fU c m=(0,0):=by
  intro m hm;induction m with
  |zero=>rfl
  |succ m b=>rw[fU,b (by omega),nL rfl,nL (f m (by omega))]
 induction n with
 |zero=>omega
 |succ n b =>
  rw[fU];by_cases e:k=n;{subst e;rw[hz k ly,nL rfl,eT h]};{rw[b (by omega),eT h]}
theorem qp{c:Nat->Int}(b:∀i,i<n->c i=0):fU c n=(0,0):=by
 induction n with
 |zero=>rfl
 |succ m f=>rw[fU,f λi hi=>b i (by omega),nL rfl,nL (b m (by omega))]
