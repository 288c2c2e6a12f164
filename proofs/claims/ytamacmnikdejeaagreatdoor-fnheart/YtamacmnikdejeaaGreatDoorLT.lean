import Derived.Test.YtamacmnikdejeaaGreatDoorLQ
import Derived.Test.YtamacmnikdejeaaGreatDoorMP
set_option linter.unusedSimpArgs false
open Option renaming none->Z,some->T
open Bool renaming false->ZA,true->ZD
namespace Go.Proofs.YtamacmnikdejeaaGreatDoor.Vp
open RowKit
variable {nm x:ByteArray}{t p i n looks m place steps j lo q:Nat}{b making L:List ByteArray}{f:Nat->au}{g:Nat->ByteArray}{a:Nat->Ins}
structure Spc where
 n0:Nat
 f0:Nat->Source
 n1:Nat
 f1:Nat->Target
structure Lk where
 e:ByteArray
 ask:Bool
 has:Bool
structure Ent where
 e:ByteArray
 L:Int
 M:Int
 H:ByteArray
 tg:Nat
 looks:List Lk
abbrev Out (b:Type):=(List Ent × b) ⊕ List ByteArray ⊕ ByteArray
def oN:aC:=⟨ZA,0,⟨#[]⟩⟩
def yL (b:List aC):Nat->aC:=λk=>b.getD k oN
def fT (e:Ent):aC:=⟨decide (¬ e.L=2),e.M,e.H⟩
def fo (S:Spc)(t:ByteArray):Bool:=aG (nm0 S.f0) S.n0 t || aG (nm1 S.f1) S.n1 t
def atI (g:Nat->ByteArray)(n:Nat)(t:ByteArray):Option Nat:=(List.range n).find? λi=>(g i).toList == t.toList
def atL (L:List ByteArray)(t:ByteArray):Option Nat:=L.findIdx? λx=>x.toList == t.toList
def aO (b:List Ent)(t:ByteArray):Option Ent:=b.find? λe=>e.e.toList == t.toList
def bG (S:Spc)(t:Nat)(b:List aC):Turn:=bZ (S.f1 t).u (S.f1 t).h (yL b) b.length 2001 0 0 0 []
def bR (S:Spc)(lies:List Ent->ByteArray->Out Ent)(t:Nat):Nat->List Ent->List aC->List Lk->Out (Turn × List Lk)
 |0,_,_,_=>.inr (.inr ⟨#[]⟩)
 |k+1,made,ys,ls =>
  if (bG S t ys).K=ZD then .inl (made,(bG S t ys,ls))
  else if (bG S t ys).ask=ZA then bR S lies t k made (ys++[⟨fo S (bG S t ys).e,0,⟨#[]⟩⟩]) (ls++[⟨(bG S t ys).e,ZA,fo S (bG S t ys).e⟩])
  else match lies made (bG S t ys).e with
   |.inl (made',e)=>bR S lies t k made' (ys++[fT e]) (ls++[⟨(bG S t ys).e,ZD,ZA⟩])
   |.inr (.inl c)=>.inr (.inl c)
   |.inr (.inr d)=>.inr (.inr d)
def dV (b:List Ent)(e:Ent):Out Ent:=.inl ((b++[e]),e)
def gR (nm:ByteArray)(t:Nat):Out (Turn × List Lk)->Out Ent
 |.inl (made,x)=>dV made ⟨nm,3,x.1.M,x.1.H,t,x.2⟩
 |.inr (.inl c)=>.inr (.inl c)
 |.inr (.inr d)=>.inr (.inr d)
def fj (S:Spc)(tgt:Nat->Out Ent)(b:List Ent)(nm:ByteArray):Out Ent :=
 match atI (nm0 S.f0) S.n0 nm with
 |some i=>dV b ⟨nm,1,0,(S.f0 i).H,0,[]⟩
 |none=>match atI (nm1 S.f1) S.n1 nm with
  |some t=>tgt t
  |none=>dV b ⟨nm,2,0,⟨#[]⟩,0,[]⟩
def du (S:Spc)(tgt:Nat->Out Ent)(b:List ByteArray)(f:List Ent)(nm:ByteArray):Out Ent :=
 match aO f nm with
 |some e=>.inl (f,e)
 |none=>match atL b nm with
  |some i=>.inr (.inl (b.drop i))
  |none=>fj S tgt f nm
def aP (S:Spc):Nat->List ByteArray->List Ent->ByteArray->Out Ent
 |0,making,made,nm=>du S (λ_=>.inr (.inr nm)) making made nm
 |n+1,making,made,nm=>du S (λt=>gR nm t (bR S (aP S n (making++[nm])) t 201 made [] [])) making made nm
def oO (S:Spc)(n:Nat)(b:List ByteArray)(f:List Ent)(nm:ByteArray)(t:Nat):Out Ent :=
 match n with
 |0=>.inr (.inr nm)
 |n+1=>gR nm t (bR S (aP S n (b++[nm])) t 201 f [] [])
theorem lA (S:Spc)(n:Nat)(b:List ByteArray)(f:List Ent)(nm:ByteArray):aP S n b f nm=du S (oO S n b f nm) b f nm:=by
 cases n with
 |zero=>rw[aP];rfl
 |succ n=>rw[aP];rfl
structure jm where
 M:Int
 H:ByteArray
 R:List ByteArray
def dk (e:Ent):jm:=if e.L=2 then ⟨4,e.e,[]⟩ else ⟨e.M,e.H,[]⟩
def aV (S:Spc)(nm:ByteArray):List Ent × jm :=
 if bq S.n0 S.f0 S.n1 S.f1=0/\aB nm=ZD then
  (match aP S 60 [] [] nm with
   |.inl (made,e)=>(made,dk e)
   |.inr (.inl c)=>([],⟨6,⟨#[]⟩,c⟩)
   |.inr (.inr d)=>([],⟨7,d,[]⟩))
 else ([],⟨9,⟨#[]⟩,[]⟩)
theorem Eu (b:List aC)(r:aC):yL (b++[r]) b.length=r:=by simp[yL]
theorem zX (b:List aC)(r:aC){k:Nat}(h:k<b.length):yL (b++[r]) k=yL b k:=by simp[yL,KP h]
theorem jT (f:Nat->Ins)(cnt:Nat)(y z:Nat->aC)(n:Nat)(k:Nat):∀place steps looks b,(∀i,looks<=i->i<n->y i=z i)->bZ f cnt y n k place steps looks b=bZ f cnt z n k place steps looks b:=by
 induction k with
 |zero=>intro _ _ _ _ _;rfl
 |succ k g =>
  intro place steps looks b h;rw[bZ,bZ];rcases bN f cnt place steps looks b with ⟨s,p⟩|⟨c,x⟩|⟨a,nm,s⟩
  {exact g _ _ _ _ h};{rfl};{simp only;by_cases hn:n<=looks;{rw[j6 hn,j6 hn]};{rw[eT hn,eT hn,h looks ly (by omega),g _ _ _ _ λi hi=>h i (by omega),g _ _ _ _ λi hi=>h i (by omega)]}}
theorem pQ (u:Nat):(Lib.decDigits u).length<=u+1:=by
 induction u using Nat.strongRecOn with
 |ind u b =>
  rw[Lib.decDigits];split;{simp};{have:=b (u / 10) (by omega);simp only[eL,xT,KF];omega}
theorem jD (h:p<=2000):(dO p).size<=2000:=by
 show(Lib.decDigits p).length<=2000;rw[Lib.decDigits];split;{simp};{have:=pQ (p / 10);simp only[eL,xT,KF];omega}
def nw (c:Int)(x:ByteArray):Prop:=0<=c/\c<=5/\x.size<=2000
theorem yo{ask:Bool}{a:ByteArray}{r:List ByteArray}{b:Nat}{c:Int}(h:gV ask a r b looks=.inr (.inl (c,x)))(f:b<=2000):nw c x:=by
 unfold gV at h;split at h;{cases h;exact⟨by omega,by omega,jD f⟩};{split at h;{cases h;exact⟨by omega,by omega,by decide⟩};{cases h}}
theorem sN{op:Nat}{t:ByteArray}{b:Nat}{f:List ByteArray}{c:Int}(h:cF op n t b looks f=.inr (.inl (c,x)))(i:∀z∈f,z.size<=2000)(g:b<=2000):nw c x:=by
  unfold cF at h;split at h;all_goals first
    |(cases h;done)
    |exact yo h g
    | (split at h
       · cases h
       · cases h;exact⟨by omega,by omega,jD g⟩)
    |(cases h;exact⟨by omega,by omega,i _ (by simp)⟩)
    |(cases h;exact⟨by omega,by omega,by decide⟩)
theorem yp{f:Nat->Ins}{cnt:Nat}{c:Int}(h:bN f cnt place steps looks b=.inr (.inl (c,x)))(i:∀z∈b,z.size<=2000)(g:place<=2000):nw c x:=by
 unfold bN at h;split at h;{cases h;exact⟨by omega,by omega,jD g⟩};{split at h;{cases h;exact⟨by omega,by omega,by decide⟩};{split at h;{cases h;exact⟨by omega,by omega,jD g⟩};{exact sN h i g}}}
theorem vP{f:Nat->Ins}{cnt:Nat}(h1:b.length<=50)(h2:∀z∈b,z.size<=2000)(h:looks<=200)(g:cY f cnt=ZD)(hc:cnt<=200):qE (bN f cnt place steps looks b) looks:=by
 unfold bN;split;{trivial}
 ·rename_i h1;split;{trivial}
  ·split;{trivial}
   ·rename_i h;have hi:=jv g (show place<cnt by omega);simp only[cG,p6] at hi;obtain⟨i1,i2,i3,i4,i5⟩:=hi;have hmt:dQ (f place).op<=2000:=by unfold dQ;split<;>(try split)<;>omega
    have hmt2:bT (f place).op<=2000:=by unfold bT;split<;>omega
    exact iB _ _ _ _ _ _ (by assumption) h2 (by omega) (by omega) (by omega) (by assumption) (by omega) (by omega) (by simpa using h)
def zY (n:Nat)(ZL:Turn):Prop:=(ZL.K=ZD/\nw ZL.M ZL.H)∨(ZL.K=ZA/\n<200/\aB ZL.e=ZD)
theorem uo{f:Nat->Ins}{cnt:Nat}{s:List ByteArray}{a:Bool}(h:bN f cnt place steps looks b=.inr (.inr (a,nm,s))):place<cnt:=by
 unfold bN at h;split at h;{cases h};{omega}
theorem mL (h:aB nm=ZD):nm.size<=60:=by simp only[aB,nD,p6] at h;omega
theorem Cz (f:Nat->Ins)(cnt:Nat)(y:Nat->aC)(n:Nat)(q:cY f cnt=ZD)(A:cnt<=200)(C:∀i,i<n->(y i).H.size<=2000)(k:Nat):∀place steps looks b,b.length<=50->(∀z∈b,z.size<=2000)->place<=2000->steps<=2000->looks<=200->looks<=n->k+steps=2001->zY n (bZ f cnt y n k place steps looks b):=by
 induction k with
 |zero=>intro _ _ _ _ _ _ _ _ _ _ h;omega
 |succ k o =>
  intro place steps looks b h1 h2 D h4 t u h7;have g:=vP (f:=f) (cnt:=cnt) (place:=place) (steps:=steps) h1 h2 t q A;rw[bZ];rcases hs:bN f cnt place steps looks b with ⟨s,p⟩|⟨c,x⟩|⟨a,nm,s⟩
  {rw[hs] at g;obtain⟨r,l,j⟩:=g;obtain⟨m,B⟩:=jj hs;simp only;rw[m];exact o _ _ _ _ r l j (by omega) t u (by omega)};{exact .inl ⟨rfl,yp hs h2 D⟩};{rw[hs] at g;obtain⟨r,l,j,g4⟩:=g;obtain⟨m,B⟩:=lm hs;have hp:=uo hs;have hz:=mL j;simp only;rw[m];split;{exact .inr ⟨rfl,by omega,j⟩};{split;{refine o _ _ _ _ (by simp;omega) (λz hz=>?_) (by omega) (by omega) (by omega) (by omega) (by omega);rcases A9.1 hz with rfl|hz;{exact iM _};{exact l z hz}};{split;{exact .inl ⟨rfl,by simp[fH],by simp[fH],by simp only[fH];omega⟩};{split;{refine o _ _ _ _ (by simp;omega) (λz hz=>?_) (by omega) (by omega) (by omega) (by omega) (by omega);rcases A9.1 hz with rfl|hz;{exact C _ (by omega)};{exact l z hz}};{exact .inl ⟨rfl,by simp[fH],by simp[fH],by simp only[fH];omega⟩}}}}}
def iN (S:Spc)(b:List ByteArray)(f:List Ent):Nat->Bool:=λt=>(aO f (S.f1 t).e).isNone && (atL b (S.f1 t).e).isNone
def dN (S:Spc)(b:List ByteArray)(f:List Ent):Nat:=(List.range S.n1).countP (iN S b f)
theorem iq (b:List Ent)(e:Ent)(t:ByteArray):aO (b++[e]) t=(aO b t).or (if (e.e.toList == t.toList)=ZD then T e else Z):=by unfold aO;rw[List.find?_append];cases h:(e.e.toList == t.toList)<;>simp[h]
theorem qH (L:List ByteArray)(x t:ByteArray):(atL (L++[x]) t).isNone=((atL L t).isNone && !(x.toList == t.toList)):=by unfold atL;rw[QK];cases h:(x.toList == t.toList)<;>cases h2:List.findIdx? (λx=>x.toList == t.toList) L<;>simp[h,Q9]
theorem jE (S:Spc)(b:List ByteArray)(f:List Ent)(e:Ent):dN S b (f++[e])<=dN S b f:=by
 refine PV λt _ h=>?_;simp only[iN,nD,iq] at h ⊢;refine⟨?_,h.2⟩;cases h2:aO f (S.f1 t).e with
 |none=>rfl
 |some x=>rw[h2] at h;simp at h
theorem rG (S:Spc)(b:List ByteArray)(f:List Ent)(e:Ent):dN S b (f++[e])<=dN S (b++[e.e]) f:=by
 refine PV λt _ h=>?_;simp only[iN,nD,iq,qH] at h ⊢;cases h2:aO f (S.f1 t).e with
 |some x=>rw[h2] at h;simp at h
 |none =>
  rw[h2] at h;refine⟨rfl,h.2,?_⟩;cases h3:(e.e.toList == (S.f1 t).e.toList) with
  |false=>rfl
  |true=>rw[h3] at h;simp at h
theorem rH{p q:Nat->Bool}{l:List Nat}(h:∀x∈l,p x=ZD->q x=ZD){a:Nat}(b:a∈l)(h1:p a=ZA)(h2:q a=ZD):l.countP p+1<=l.countP q:=by
 induction l with
 |nil=>cases b
 |cons x l f =>
  have hm:l.countP p<=l.countP q:=PV λz hz=>h z (mq _ hz);rw[List.countP_cons,List.countP_cons];rcases A9.1 b with rfl|b;{rw[h1,h2];simp;omega}
  ·have:=f (λz hz=>h z (mq _ hz)) b;cases hp:p x with
   |false=>simp;split<;>omega
   |true=>rw[h x NH hp];simp;omega
theorem fK{S:Spc}{made:List Ent}(b:t<S.n1)(hn:(S.f1 t).e=nm)(h1:aO made nm=Z)(h2:atL making nm=Z):dN S (making++[nm]) made+1<=dN S making made:=by
 refine rH (λx _ h=>?_) (KV.2 b) ?_ ?_;{simp only[iN,nD,qH] at h ⊢;exact⟨h.1,h.2.1⟩};{simp[iN,qH,hn]};{simp[iN,hn,h1,h2]}
theorem bc{t:ByteArray}(h:atI g n t=T i):i<n/\g i=t:=by unfold atI at h;have h1:=List.find?_some h;have h2:=QU h;exact⟨KV.1 h2,bytes_beq h1⟩
def fx (S:Spc)(b:List ByteArray)(g f:List Ent)(k:Nat):Prop:=f.length+201*dN S b f<=g.length+201*dN S b g+k
theorem rI{S:Spc}{lies:List Ent->ByteArray->Out Ent}(m:∀f nm b e,lies f nm=.inl (b,e)->fx S making f b 1):∀k f g i b x,bR S lies t k f g i=.inl (b,x)->fx S making f b (k - 1):=by
 intro k;induction k with
 |zero=>intro f g i b x h;cases h
 |succ k j =>
  intro f g i b x h;rw[bR] at h;split at h;{cases h;unfold fx;omega}
  ·cases k with
   |zero =>
    split at h;{cases h};{split at h<;>cases h}
   |succ k =>
    split at h;{have:=j _ _ _ _ _ h;unfold fx at this ⊢;omega};{split at h;{rename_i made1 e l;have h1:=m _ _ _ _ l;have h2:=j _ _ _ _ _ h;unfold fx at h1 h2 ⊢;omega};{cases h};{cases h}}
theorem gJ (S:Spc):∀n b g nm f e,aP S n b g nm=.inl (f,e)->fx S b g f 1:=by
 intro n;have m:∀b g nm f e (tgt:Nat->Out Ent),(∀t f e,atI (nm1 S.f1) S.n1 nm=T t->aO g nm=Z->atL b nm=Z->tgt t=.inl (f,e)->fx S b g f 1)->du S tgt b g nm=.inl (f,e)->fx S b g f 1:=by
  intro b g nm f e tgt q h;unfold du at h;split at h;{cases h;unfold fx;omega}
  ·rename_i o;split at h;{cases h}
   ·rename_i h1;unfold fj dV at h;split at h
    ·rename_i i hi;cases h
     have:=jE S b g ⟨nm,1,0,(S.f0 i).H,0,[]⟩;unfold fx;rw[eL,AT];omega
    ·split at h;{rename_i t l;exact q _ _ _ l o h1 h}
     ·cases h
      have:=jE S b g ⟨nm,2,0,⟨#[]⟩,0,[]⟩;unfold fx;rw[eL,AT];omega
 induction n with
 |zero =>intro b g nm f e h;rw[aP] at h;exact m _ _ _ _ _ _ (λt _ _ _ _ _ h=>by cases h) h
 |succ n r =>
  intro b g nm f e h;rw[aP] at h;refine m _ _ _ _ _ _ (λt f e l o h1 h=>?_) h;rcases hr:bR S (aP S n (b++[nm])) t 201 g [] [] with ⟨j,x⟩|c|c;{rw[hr] at h;simp only[gR,dV,PR,KH] at h;obtain⟨rfl,rfl⟩:=h;have s:=rI (making:=b++[nm]) (λg nm2 f e p=>r _ _ _ _ _ p) _ _ _ _ _ _ hr;have g2:=fK (making:=b) (made:=g) (bc l).1 (bc l).2 o h1;have g3:dN S b (j++[⟨nm,3,x.1.M,x.1.H,t,x.2⟩])<=dN S (b++[nm]) j:=rG S b j ⟨nm,3,x.1.M,x.1.H,t,x.2⟩;unfold fx at s ⊢;rw[eL,AT];omega};{rw[hr] at h;cases h};{rw[hr] at h;cases h}
structure SpcOk (S:Spc):Prop where
 chk:bq S.n0 S.f0 S.n1 S.f1=0
 asc0:aL (nm0 S.f0) S.n0=ZD
 asc1:aL (nm1 S.f1) S.n1=ZD
 av:S.n0+S.n1<=200
 H:∀i,i<S.n0->(S.f0 i).H.size<=2000
 u:∀t,t<S.n1->valid (S.f1 t).u (S.f1 t).h=ZD
theorem jn{p:Nat->Bool}(h:aM p n=ZA)(hi:i<n):p i=ZA:=by
 induction n with
 |zero=>omega
 |succ n b =>
  rw[aM,TU] at h;by_cases e:i=n;{subst e;exact h.2};{exact b h.1 (by omega)}
theorem SpcOk.of{S:Spc}(h:bq S.n0 S.f0 S.n1 S.f1=0):SpcOk S:=by
 obtain⟨h1,h2,j⟩:=mj h;have f:=h;unfold bq at h;split at h;· omega
 split at h;· omega
 split at h;· omega
 split at h;· omega
 split at h;· omega
 split at h;· omega
 split at h;· omega
 split at h;· omega
 rename_i g l;refine⟨f,h1,h2,j,λi hi=>?_,λt b=>?_⟩;{have:=jn (Bool.eq_false_iff.2 g) hi;simp only[fO,LH] at this;omega};{have:=jn (Bool.eq_false_iff.2 l) b;simpa[de] using this}
structure EG (S:Spc)(x:Ent):Prop where
 nm:aB x.e=ZD
 tx:x.H.size<=2000
 M:0<=x.M/\x.M<=5
 L:(x.L=1/\x.M=0/\x.looks=[]/\∃i,atI (nm0 S.f0) S.n0 x.e=T i/\x.H=(S.f0 i).H)∨(x.L=2/\x.M=0/\x.H=⟨#[]⟩/\x.looks=[]/\atI (nm0 S.f0) S.n0 x.e=Z/\atI (nm1 S.f1) S.n1 x.e=Z)∨(x.L=3/\atI (nm0 S.f0) S.n0 x.e=Z/\atI (nm1 S.f1) S.n1 x.e=T x.tg)
 looks:x.looks.length<=200
 lname:∀l∈x.looks,aB l.e=ZD
structure PG (S:Spc)(making:List ByteArray)(made:List Ent):Prop where
 W:∀x∈made,EG S x
 nod:made.Pairwise λx y=>x.e≠y.e
 off:∀x∈made,atL making x.e=Z
 ord:∀(i:Nat) (x:Ent),made[i]?=T x->∀l∈x.looks,l.ask=ZD->∃(j:Nat) (y:Ent),j<i/\made[j]?=T y/\y.e=l.e
theorem fL (S:Spc)(b:List ByteArray):PG S b []:=⟨λx h=>absurd h nj,List.Pairwise.nil,λx h=>absurd h nj,λi x h=>by simp at h⟩
theorem dx{b:List Ent}(h:aO b nm=Z):∀x∈b,x.e≠nm:=by intro x f e;have:=NT.1 h x f;rw[e] at this;simp at this
theorem gK{b:List Ent}{e:Ent}(h:aO b nm=T e):e∈b/\e.e=nm:=⟨QU h,bytes_beq (List.find?_some (p:=λe:Ent=>e.e.toList == nm.toList) h)⟩
theorem jo (h:atL L nm=Z):∀x∈L,x≠nm:=by intro x b e;have:=NZ.1 h x b;rw[e] at this;simp at this
theorem jU (h:∀x∈L,x≠nm):atL L nm=Z :=
 NZ.2 λx b=>by
  cases e:(x.toList == nm.toList) with
  |false=>rfl
  |true=>exact absurd (bytes_beq e) (h x b)
theorem PG.add{S:Spc}{m:List ByteArray}{f:List Ent}{e:Ent}(h:PG S m f)(t:EG S e)(A:∀x∈f,x.e≠e.e)(h1:atL m e.e=Z)(z:∀l∈e.looks,l.ask=ZD->∃x∈f,x.e=l.e):PG S m (f++[e]):=by
 refine⟨λx g=>?_,?_,λx g=>?_,λi x hi l r o=>?_⟩;{rcases wC.1 g with g|g;{exact h.W x g};{rw[hU.1 g];exact t}};{rw[MN];exact⟨h.nod,RU _ _,λa o b hb=>by rw[hU.1 hb];exact A a o⟩};{rcases wC.1 g with g|g;{exact h.off x g};{rw[hU.1 g];exact h1}}
 ·rcases MG i f.length with s|q;{rw[KP s] at hi;obtain⟨j,y,p,n,hn⟩:=h.ord i x hi l r o;exact⟨j,y,p,by rw[KP (by omega)];exact n,hn⟩}
  ·rw[KL q] at hi;have u:x=e:=by
    cases hk:i - f.length with
    |zero=>rw[hk] at hi;simpa using hi.symm
    |succ k=>rw[hk] at hi;simp at hi
   subst u;obtain⟨y,n,hn⟩:=z l r o;obtain⟨j,p,n⟩:=T7 n;exact⟨j,y,by omega,by rw[KP p,gq p,n],hn⟩
structure RG (S:Spc)(made:List Ent)(ys:List aC)(ls:List Lk):Prop where
 good:∀y∈ys,cD y=ZD
 len:ls.length=ys.length
 names:∀l∈ls,aB l.e=ZD
 asked:∀l∈ls,l.ask=ZD->∃x∈made,x.e=l.e
theorem gL (S:Spc)(b:List Ent):RG S b [] []:=⟨λ_ h=>absurd h nj,rfl,λ_ h=>absurd h nj,λ_ h=>absurd h nj⟩
theorem RG.mono{S:Spc}{f b:List Ent}{g:List aC}{i:List Lk}(h:RG S f g i)(n:∀x∈f,x∈b):RG S b g i:=⟨h.good,h.len,h.names,λl j m=>let ⟨x,hx,e⟩:=h.asked l j m;⟨x,n x hx,e⟩⟩
theorem RG.add{S:Spc}{b:List Ent}{f:List aC}{g:List Lk}{y:aC}{l:Lk}(h:RG S b f g)(i:cD y=ZD)(hn:aB l.e=ZD)(j:l.ask=ZD->∃x∈b,x.e=l.e):RG S b (f++[y]) (g++[l]):=by
 refine⟨λz hz=>?_,by simp[h.len],λz hz=>?_,λz hz=>?_⟩;{rcases wC.1 hz with hz|hz;{exact h.good z hz};{rw[hU.1 hz];exact i}};{rcases wC.1 hz with hz|hz;{exact h.names z hz};{rw[hU.1 hz];exact hn}};{rcases wC.1 hz with hz|hz;{exact h.asked z hz};{rw[hU.1 hz];exact j}}
theorem Ev{f:List aC}(h:∀y∈f,cD y=ZD)(k:Nat):cD (yL f k)=ZD:=by
 unfold yL;rcases MG k f.length with b|b;{rw[IS,gq b];exact h _ (gz b)};{rw[IS,LJ b];rfl}
theorem lB{S:Spc}(h:SpcOk S)(f:t<S.n1){b:List aC}(g:∀y∈b,cD y=ZD):zY b.length (bG S t b):=by obtain⟨h1,h2,h3⟩:=bF (h.u t f);refine Cz _ _ _ _ h1 (by omega) (λi _=>?_) 2001 0 0 0 [] (by simp) (by simp) (by omega) (by omega) (by omega) (by omega) (by omega);have:=Ev g i;simp only[cD,p6] at this;exact this.1
theorem kj (S:Spc)(t:ByteArray):cD ⟨fo S t,0,⟨#[]⟩⟩=ZD:=by simp only[cD,p6];exact⟨by decide,by decide,by decide⟩
theorem kl{S:Spc}{x:Ent}(h:EG S x):cD (fT x)=ZD:=by have h1:=h.tx;have h2:=h.M;exact MK ⟨h1,h2.1,Int.le_trans h2.2 (by decide)⟩
def lC (S:Spc)(f:List ByteArray)(lies:List Ent->ByteArray->Out Ent):Prop:=∀g nm b e,PG S f g->aB nm=ZD->lies g nm=.inl (b,e)->PG S f b/\(∃more,b=g++more)/\e∈b/\e.e=nm
theorem gu{S:Spc}(K:SpcOk S){lies:List Ent->ByteArray->Out Ent}{g:List ByteArray}(C:t<S.n1)(D:lC S g lies):∀k f i m b x,PG S g f->RG S f i m->i.length+k=201->bR S lies t k f i m=.inl (b,x)->PG S g b/\(∃more,b=f++more)/\nw x.1.M x.1.H/\x.2.length<=200/\(∀l∈x.2,aB l.e=ZD)/\∀l∈x.2,l.ask=ZD->∃y∈b,y.e=l.e:=by
 intro k;induction k with
 |zero=>intro f i m b x _ _ _ h;cases h
 |succ k A =>
  intro f i m b x o j hk h;have B:=lB K C j.good;rw[bR] at h;rcases B with ⟨q,p⟩|⟨q,hlt,hn⟩
  ·rw[j6 q] at h;cases h
   exact⟨o,⟨[],by simp⟩,p,by rw[j.len];omega,j.names,j.asked⟩
  ·rw[eT (by rw[q];simp)] at h;split at h;{exact A _ _ _ _ _ o (j.add (kj _ _) hn (λh=>by cases h)) (by simp;omega) h}
   ·split at h
    ·rename_i n e p;obtain⟨s,⟨more,z⟩,u,H⟩:=D _ _ _ _ o hn p;have r:RG S n i m:=j.mono λx ZP=>by rw[z];exact LB _ ZP
     obtain⟨ZQ,⟨more2,G⟩,ZO⟩:=A _ _ _ _ _ s (r.add (l:=⟨(bG S t i).e,ZD,ZA⟩) (kl (s.W e u)) hn (λ_=>⟨e,u,H⟩)) (by simp;omega) h;exact⟨ZQ,⟨more++more2,by rw[G,z,KU]⟩,ZO⟩
    {cases h};{cases h}
theorem gS{S:Spc}{f:List Ent}(h:PG S b f)(i:aO f nm=Z):PG S (b++[nm]) f :=
 ⟨h.W,h.nod,λx g=>jU λz hz=>by
  rcases wC.1 hz with hz|hz
  ·exact jo (h.off x g) z hz
  ·rw[hU.1 hz];exact λe=>dx i x g e.symm,h.ord⟩
theorem iW{S:Spc}{f:List Ent}(h:PG S (b++[nm]) f):PG S b f/\∀x∈f,x.e≠nm :=
 ⟨⟨h.W,h.nod,λx g=>jU λz hz=>jo (h.off x g) z (LB _ hz),h.ord⟩,λx g e=>jo (h.off x g) nm (ME _ (hU.2 rfl)) e.symm⟩
theorem CB{S:Spc}{f:List Ent}{x:Turn × List Lk}(h:PG S (b++[nm]) f)(hn:aB nm=ZD)(h1:atL b nm=Z)(h2:atI (nm0 S.f0) S.n0 nm=Z)(m:atI (nm1 S.f1) S.n1 nm=T t)(g:nw x.1.M x.1.H)(j:x.2.length<=200)(i:∀l∈x.2,aB l.e=ZD)(n:∀l∈x.2,l.ask=ZD->∃y∈f,y.e=l.e):PG S b (f++[⟨nm,3,x.1.M,x.1.H,t,x.2⟩]) :=
 (iW h).1.add ⟨hn,g.2.2,⟨g.1,g.2.1⟩,.inr (.inr ⟨rfl,h2,m⟩),j,i⟩ (iW h).2 h1 n
theorem CH{S:Spc}(m:SpcOk S){f:List Ent}(h:PG S b f)(hn:aB nm=ZD)(j:aO f nm=Z)(h1:atL b nm=Z)(h2:atI (nm0 S.f0) S.n0 nm=T i):PG S b (f++[⟨nm,1,0,(S.f0 i).H,0,[]⟩]) :=
 h.add ⟨hn,m.H i (bc h2).1,⟨UT _,by show(0:Int)<=5;decide⟩,.inl ⟨rfl,rfl,rfl,i,h2,rfl⟩,IH _,λl g=>absurd g nj⟩ (dx j) h1 λl g=>absurd g nj
theorem zZ{S:Spc}{f:List Ent}(h:PG S b f)(hn:aB nm=ZD)(j:aO f nm=Z)(h1:atL b nm=Z)(h2:atI (nm0 S.f0) S.n0 nm=Z)(i:atI (nm1 S.f1) S.n1 nm=Z):PG S b (f++[⟨nm,2,0,⟨#[]⟩,0,[]⟩]) :=
 h.add ⟨hn,IH _,⟨UT _,by show(0:Int)<=5;decide⟩,.inr (.inl ⟨rfl,rfl,rfl,rfl,h2,i⟩),IH _,λl g=>absurd g nj⟩ (dx j) h1 λl g=>absurd g nj
theorem cX{S:Spc}(p:SpcOk S):∀n b,lC S b (aP S n b):=by
 intro n;have o:∀b g nm f e (tgt:Nat->Out Ent),PG S b g->aB nm=ZD->(∀t f e,atI (nm0 S.f0) S.n0 nm=Z->atI (nm1 S.f1) S.n1 nm=T t->aO g nm=Z->atL b nm=Z->tgt t=.inl (f,e)->PG S b f/\(∃more,f=g++more)/\e∈f/\e.e=nm)->du S tgt b g nm=.inl (f,e)->PG S b f/\(∃more,f=g++more)/\e∈f/\e.e=nm:=by
  intro b g nm f e tgt j hn r h;unfold du at h;split at h
  ·rename_i e1 y;cases h
   exact⟨j,⟨[],by simp⟩,gK y⟩
  ·rename_i m;split at h;{cases h}
   ·rename_i h1;unfold fj dV at h;split at h
    ·rename_i i hi;cases h
     exact⟨CH p j hn m h1 hi,⟨_,rfl⟩,by simp,rfl⟩
    ·rename_i h2;split at h;{rename_i t l;exact r _ _ _ h2 l m h1 h}
     ·rename_i l;cases h
      exact⟨zZ j hn m h1 h2 l,⟨_,rfl⟩,by simp,rfl⟩
 induction n with
 |zero =>intro b g nm f e j hn h;rw[aP] at h;exact o _ _ _ _ _ _ j hn (λt _ _ _ _ _ _ h=>by cases h) h
 |succ n C =>
  intro b g nm f e j hn h;rw[aP] at h;refine o _ _ _ _ _ _ j hn (λt f e h2 l m h1 h=>?_) h;rcases hr:bR S (aP S n (b++[nm])) t 201 g [] [] with ⟨made1,x⟩|c|c;{rw[hr] at h;simp only[gR,dV,PR,KH] at h;obtain⟨rfl,rfl⟩:=h;obtain⟨s,⟨more,A⟩,u,q,z,B⟩:=gu p (bc l).1 (C (b++[nm])) _ _ _ _ _ _ (gS j m) (gL S g) rfl hr;exact⟨CB s hn h1 h2 l u q z B,⟨more++[_],by rw[A,KU]⟩,by simp,rfl⟩};{rw[hr] at h;cases h};{rw[hr] at h;cases h}
def gN (b:List Ent)(nm:ByteArray):Nat:=b.findIdx λe=>e.e.toList == nm.toList
def lkD (b:List Ent)(l:Lk):Link:=⟨l.e,l.ask,l.has,if l.ask=ZD then ((gN b l.e:Nat):Int) else 0⟩
def lkF (b:List Ent)(f:List Lk):Nat->Link:=λi=>lkD b (f.getD i ⟨⟨#[]⟩,ZA,ZA⟩)
def bM (S:Spc)(e:Ent):Nat:=if e.L=3 then (S.f1 e.tg).h else 0
def a8 (S:Spc)(b:List Ent)(e:Ent):au:=⟨e.e,e.L,e.M,e.H,bM S e,(S.f1 e.tg).u,e.looks.length,lkF b e.looks⟩
def aT (S:Spc)(b:List Ent):List au:=b.map (a8 S b)
theorem km{b:List Ent}{f:List Lk}{l:Lk}(h:f[i]?=T l):lkF b f i=lkD b l:=by unfold lkF;rw[IS,h];rfl
theorem lD (S:Spc)(nm:ByteArray):PG S [] (aV S nm).1/\(aV S nm).1.length<=40201/\((aV S nm).1≠[]->SpcOk S):=by
 unfold aV;split
 ·rename_i h;have f:=SpcOk.of h.1;split
  ·rename_i b e i;have g:=gJ S 60 [] [] nm b e i;unfold fx at g;have hl:dN S [] []<=S.n1:=by unfold dN;have:=PX (p:=iN S [] []) (l:=List.range S.n1);simpa using this
   have hs:=f.av;refine⟨(cX f 60 [] [] nm b e (fL S []) h.2 i).1,?_,λ_=>f⟩;simp only[KF] at g;show b.length<=40201;omega
  {exact⟨fL S [],IH _,λh=>absurd rfl h⟩};{exact⟨fL S [],IH _,λh=>absurd rfl h⟩}
 {exact⟨fL S [],IH _,λh=>absurd rfl h⟩}
theorem PG.idx{S:Spc}{f:List ByteArray}{b:List Ent}(h:PG S f b){x:Ent}(l:b[i]?=T x):gN b x.e=i:=by
 obtain⟨hi,e⟩:=j5.1 l;unfold gN;rw[List.findIdx_eq hi];refine⟨by simp[e],λj m=>?_⟩;have g:=LC.1 h.nod j i (by omega) hi m;rw[e] at g;cases hb:(b[j].e.toList == x.e.toList) with
 |false=>rfl
 |true=>exact absurd (bytes_beq hb) g
theorem PG.asked{S:Spc}{f:List ByteArray}{b:List Ent}(h:PG S f b){x:Ent}(m:b[i]?=T x){l:Lk}(n:l∈x.looks)(o:l.ask=ZD):∃y,b[gN b l.e]?=T y/\y.e=l.e/\gN b l.e<i:=by obtain⟨j,y,hj,g,e⟩:=h.ord i x m l n o;have:=h.idx g;rw[e] at this;exact⟨y,by rw[this];exact g,e,by omega⟩
theorem Aa{S:Spc}{b:List Ent}(h:PG S [] b)(l:∀i,i<S.n1->aX (S.f1 i)):∀x∈aT S b,dw x:=by
 intro x g;obtain⟨e,j,rfl⟩:=LM.1 g;have f:=h.W e j;refine⟨?_,?_⟩
 ·show bM S e<=1048576;unfold bM;split
  ·rename_i hk;rcases f.L with ⟨k,_⟩|⟨k,_⟩|⟨_,_,k⟩
   {omega};{omega};{exact l e.tg (bc k).1}
  {omega}
 {have:=f.looks;show e.looks.length<=1048576;omega}
def dm (b:List Ent)(l:Lk):aC:=if l.ask=ZD then ((aO b l.e).elim oN fT) else ⟨l.has,0,⟨#[]⟩⟩
structure Rn (S:Spc)(made:List Ent)(x:Ent):Prop where
 has:∀l∈x.looks,l.ask=ZD->l.has=ZA
 ahd:∀l∈x.looks,l.ask=ZD->∃y,aO made l.e=T y
 go:x.L=3->∀k l,x.looks[k]?=T l->(bG S x.tg ((x.looks.take k).map (dm made))).K=ZA/\(bG S x.tg ((x.looks.take k).map (dm made))).e=l.e/\(bG S x.tg ((x.looks.take k).map (dm made))).ask=l.ask
 fin:x.L=3->(bG S x.tg (x.looks.map (dm made))).K=ZD/\(bG S x.tg (x.looks.map (dm made))).M=x.M/\(bG S x.tg (x.looks.map (dm made))).H=x.H
theorem lE{b more:List Ent}{t:ByteArray}{y:Ent}(h:aO b t=T y):aO (b++more) t=T y:=by unfold aO at h ⊢;rw[List.find?_append,h];rfl
theorem Ab{b more:List Ent}{l:Lk}(h:l.ask=ZD->∃y,aO b l.e=T y):dm (b++more) l=dm b l:=by
 unfold dm;split;{rename_i g;obtain⟨y,f⟩:=h g;rw[f,lE f]};{rfl}
theorem lF{made more:List Ent}{b:List Lk}(h:∀l∈b,l.ask=ZD->∃y,aO made l.e=T y):b.map (dm (made++more))=b.map (dm made) :=
 UB λl f=>Ab (h l f)
theorem Rn.more{S:Spc}{b more:List Ent}{x:Ent}(h:Rn S b x):Rn S (b++more) x:=by
 refine⟨h.has,λl f j=>?_,λg k l f=>?_,λg=>?_⟩;{obtain⟨y,i⟩:=h.ahd l f j;exact⟨y,lE i⟩};{rw[lF (made:=b) (more:=more) λl f=>h.ahd l (OH f)];exact h.go g k l f};{rw[lF h.ahd];exact h.fin g}
theorem wP{S:Spc}{b:List Ent}{x:Ent}(f:x.L≠3)(g:x.looks=[]):Rn S b x :=
 ⟨(λl h=>by rw[g] at h;cases h),(λl h=>by rw[g] at h;cases h),λh=>absurd h f,λh=>absurd h f⟩
structure Rl (S:Spc)(t:Nat)(made:List Ent)(ys:List aC)(ls:List Lk):Prop where
 rep:ys=ls.map (dm made)
 has:∀l∈ls,l.ask=ZD->l.has=ZA
 ahd:∀l∈ls,l.ask=ZD->∃y,aO made l.e=T y
 go:∀k l,ls[k]?=T l->(bG S t ((ls.take k).map (dm made))).K=ZA/\(bG S t ((ls.take k).map (dm made))).e=l.e/\(bG S t ((ls.take k).map (dm made))).ask=l.ask
theorem Rl.more{S:Spc}{b more:List Ent}{g:List aC}{i:List Lk}(h:Rl S t b g i):Rl S t (b++more) g i:=by
 refine⟨by rw[lF h.ahd];exact h.rep,h.has,λl f m=>?_,λk l f=>?_⟩;{obtain⟨y,j⟩:=h.ahd l f m;exact⟨y,lE j⟩};{rw[lF (made:=b) (more:=more) λl f=>h.ahd l (OH f)];exact h.go k l f}
theorem Rl.add{S:Spc}{b:List Ent}{f:List aC}{g:List Lk}{r:aC}{l:Lk}(h:Rl S t b f g)(j:r=dm b l)(h1:l.ask=ZD->l.has=ZA)(h2:l.ask=ZD->∃y,aO b l.e=T y)(n:(bG S t f).K=ZA)(hn:(bG S t f).e=l.e)(o:(bG S t f).ask=l.ask):Rl S t b (f++[r]) (g++[l]):=by
 refine⟨by rw[KI,<-h.rep,j];rfl,λz hz=>?_,λz hz=>?_,λk z hz=>?_⟩;{rcases wC.1 hz with hz|hz;{exact h.has z hz};{rw[hU.1 hz];exact h1}};{rcases wC.1 hz with hz|hz;{exact h.ahd z hz};{rw[hU.1 hz];exact h2}}
 ·rcases MG k g.length with i|hge;{rw[KP i] at hz;rw[List.take_append_of_le_length (by omega)];exact h.go k z hz}
  ·have m:k=g.length:=by
    have:=(j5.1 hz).1;simp at this;omega
   subst m;rw[KL ly,SU] at hz;obtain rfl:l=z:=by simpa using hz
   rw[List.take_left,<-h.rep];exact⟨n,hn,o⟩
def wQ (S:Spc)(g:List ByteArray)(lies:List Ent->ByteArray->Out Ent):Prop:=∀f nm b e,PG S g f->aB nm=ZD->(∀x∈f,Rn S f x)->lies f nm=.inl (b,e)->(∀x∈b,Rn S b x)/\aO b nm=T e
theorem CJ{S:Spc}(O:SpcOk S){lies:List Ent->ByteArray->Out Ent}{g:List ByteArray}(L:t<S.n1)(M:lC S g lies)(hn:wQ S g lies):∀k f i n b x,PG S g f->RG S f i n->(∀x∈f,Rn S f x)->Rl S t f i n->i.length+k=201->bR S lies t k f i n=.inl (b,x) ->
  (∀z∈b,Rn S b z)/\(∀l∈x.2,l.ask=ZD->l.has=ZA)/\(∀l∈x.2,l.ask=ZD->∃y,aO b l.e=T y)/\(∀k l,x.2[k]?=T l->(bG S t ((x.2.take k).map (dm b))).K=ZA/\(bG S t ((x.2.take k).map (dm b))).e=l.e/\(bG S t ((x.2.take k).map (dm b))).ask=l.ask)/\(bG S t (x.2.map (dm b))).K=ZD/\bG S t (x.2.map (dm b))=x.1:=by
 intro k;induction k with
 |zero=>intro f i n b x _ _ _ _ _ h;cases h
 |succ k ZP =>
  intro f i n b x r q A j hk h;have K:=lB O L q.good;rw[bR] at h;rcases K with ⟨p,s⟩|⟨p,hlt,o⟩
  ·rw[j6 p] at h;cases h
   exact⟨A,j.has,j.ahd,j.go,by rw[<-j.rep];exact p,by rw[<-j.rep]⟩
  ·rw[eT (by rw[p];simp)] at h;split at h;{rename_i u;exact ZP _ _ _ _ _ r (q.add (kj _ _) o (λh=>by cases h)) A (j.add (by unfold dm;rw[eT (by simp)]) (λh=>by cases h) (λh=>by cases h) p rfl u) (by simp;omega) h}
   ·rename_i u;split at h
    ·rename_i m e s;obtain⟨C,⟨more,H⟩,ZQ,ZO⟩:=M _ _ _ _ r o s;obtain⟨ZN,B⟩:=hn _ _ _ _ r o A s;have G:RG S m i n:=q.mono λx j=>by rw[H];exact LB _ j
     have D:Rl S t m i n:=by rw[H];exact j.more
     exact ZP _ _ _ _ _ C (G.add (l:=⟨(bG S t i).e,ZD,ZA⟩) (kl (C.W e ZQ)) o (λ_=>⟨e,ZQ,ZO⟩)) ZN (D.add (by unfold dm;rw[j6 rfl];show fT e=(aO m (bG S t i).e).elim oN fT;rw[B];rfl) (λ_=>rfl) (λ_=>⟨e,B⟩) p rfl (by simpa using u)) (by simp;omega) h
    {cases h};{cases h}
theorem iO{b:List Ent}{e:Ent}(h:aO b e.e=Z):aO (b++[e]) e.e=T e:=by rw[iq,h];simp
theorem uq{b:List Ent}(h:∀x∈b,x.e≠nm):aO b nm=Z :=
 NT.2 λx f e=>h x f (bytes_beq e)
theorem qI{S:Spc}{b:List Ent}{e:Ent}(h:∀x∈b,Rn S b x)(g:Rn S b e):∀x∈b++[e],Rn S (b++[e]) x:=λx f=>by
 rcases wC.1 f with f|f
 ·exact(h x f).more
 ·rw[hU.1 f];exact g.more
theorem Gl (S:Spc)(t:Nat)(b:List Ent):Rl S t b [] []:=⟨rfl,λ_ h=>absurd h nj,λ_ h=>absurd h nj,λk l h=>by simp at h⟩
theorem Ac{S:Spc}(o:SpcOk S):∀n b,wQ S b (aP S n b):=by
 intro n;have q:∀b g nm f e (tgt:Nat->Out Ent),PG S b g->aB nm=ZD->(∀x∈g,Rn S g x)->(∀t f e,atI (nm1 S.f1) S.n1 nm=T t->aO g nm=Z->tgt t=.inl (f,e)->(∀x∈f,Rn S f x)/\aO f nm=T e)->du S tgt b g nm=.inl (f,e)->(∀x∈f,Rn S f x)/\aO f nm=T e:=by
  intro b g nm f e tgt j hn i A h;unfold du at h;split at h
  ·rename_i e1 y;cases h
   exact⟨i,y⟩
  ·rename_i l;split at h;{cases h}
   ·unfold fj dV at h;split at h
    ·cases h
     exact⟨qI i (wP (by show(1:Int)≠3;decide) rfl),iO l⟩
    ·split at h;{rename_i t m;exact A _ _ _ m l h}
     ·cases h
      exact⟨qI i (wP (by show(2:Int)≠3;decide) rfl),iO l⟩
 induction n with
 |zero =>intro b g nm f e j hn i h;rw[aP] at h;exact q _ _ _ _ _ _ j hn i (λt _ _ _ _ h=>by cases h) h
 |succ n C =>
  intro b g nm f e j hn i h;rw[aP] at h;refine q _ _ _ _ _ _ j hn i (λt f e m l h=>?_) h;rcases hr:bR S (aP S n (b++[nm])) t 201 g [] [] with ⟨made1,x⟩|c|c;{rw[hr] at h;simp only[gR,dV,PR,KH] at h;obtain⟨rfl,rfl⟩:=h;have p:=gS j l;obtain⟨D,_⟩:=gu o (bc m).1 (cX o n (b++[nm])) _ _ _ _ _ _ p (gL S g) rfl hr;obtain⟨u,z,s,ZQ,B,r⟩:=CJ o (bc m).1 (cX o n (b++[nm])) (C (b++[nm])) _ _ _ _ _ _ p (gL S g) i (Gl S t g) rfl hr;exact⟨qI u ⟨z,s,λ_=>ZQ,λ_=>⟨B,by rw[r],by rw[r]⟩⟩,iO (e:=⟨nm,3,x.1.M,x.1.H,t,x.2⟩) (uq (iW D).2)⟩};{rw[hr] at h;cases h};{rw[hr] at h;cases h}
theorem Ad (f:Nat->Ins)(cnt:Nat)(i:List aC)(r:aC)(n:r.has=ZA)(k:Nat):∀place steps looks j,looks<=i.length->(bZ f cnt (yL i) i.length k place steps looks j).K=ZA->(bZ f cnt (yL i) i.length k place steps looks j).ask=ZD->(bZ f cnt (yL (i++[r])) (i.length+1) k place steps looks j).K=ZD:=by
 induction k with
 |zero=>intro _ _ _ _ _ _ h;cases h
 |succ k l =>
  intro place steps looks j q g b;rw[bZ] at g b ⊢;rcases hs:bN f cnt place steps looks j with ⟨s,p⟩|⟨c,x⟩|⟨a,nm,s⟩
  {rw[hs] at g b;exact l _ _ _ _ q g b};{rfl}
  ·rw[hs] at g b;simp only at g b ⊢;rw[eT (show ¬ i.length+1<=looks by omega)];by_cases hn:i.length<=looks
   ·obtain rfl:looks=i.length:=by omega
    rw[j6 hn] at g b;have m:a=ZD:=b;subst m;rw[eT (by simp),Eu,j6 n];rfl
   {rw[eT hn] at g b;rw[zX _ _ (by omega)];split;{rename_i h1;rw[j6 h1] at g b;exact l _ _ _ _ (by omega) g b};{rename_i h1;rw[eT h1] at g b;split;{rfl};{rename_i h2;rw[eT h2] at g b;split;{rename_i o;rw[j6 o] at g b;exact l _ _ _ _ (by omega) g b};{rfl}}}}
def lG (S:Spc)(b:List Ent):Nat:=(List.range S.n0).countP λi=>(aO b (S.f0 i).e).isNone
def Mu (S:Spc)(f:List ByteArray)(b:List Ent):Nat:=b.length+2*dN S f b+lG S b
theorem rJ (S:Spc)(b:List Ent)(e:Ent):lG S (b++[e])<=lG S b:=by
 refine PV λt _ h=>?_;rw[iq] at h;cases h2:aO b (S.f0 t).e with
 |none=>rfl
 |some x=>rw[h2] at h;simp at h
theorem Ae{S:Spc}{b:List Ent}{e:Ent}(hi:i<S.n0)(hn:(S.f0 i).e=e.e)(h:aO b e.e=Z):lG S (b++[e])+1<=lG S b:=by
 refine rH (λx _ h=>?_) (KV.2 hi) ?_ ?_
 ·rw[iq] at h;cases h2:aO b (S.f0 x).e with
  |none=>rfl
  |some y=>rw[h2] at h;simp at h
 {rw[hn,iO h];rfl};{rw[hn,h];rfl}
def Af (S:Spc)(b:List ByteArray)(lies:List Ent->ByteArray->Out Ent):Prop:=∀g nm f e,lies g nm=.inl (f,e)->Mu S b f<=Mu S b g+if e.L=2 then 1 else 0
theorem Fu{S:Spc}{lies:List Ent->ByteArray->Out Ent}{f:List ByteArray}(o:Af S f lies):∀k g i l b x,bR S lies t k g i l=.inl (b,x)->Mu S f b<=Mu S f g+1:=by
 intro k;induction k with
 |zero=>intro g i l b x h;cases h
 |succ k m =>
  intro g i l b x h;rw[bR] at h;split at h;{cases h;omega}
  ·rename_i q;split at h;{exact m _ _ _ _ _ h}
   ·rename_i r;split at h
    ·rename_i made1 e p;have h1:=o _ _ _ _ p;by_cases j:e.L=2
     ·have n:(bG S t (i++[fT e])).K=ZD:=by
       have:=Ad (S.f1 t).u (S.f1 t).h i (fT e) (by simp[fT,j]) 2001 0 0 0 [] (IH _) (by simpa[bG] using q) (by simpa[bG] using r);unfold bG;rw[eL];exact this
      cases k with
      |zero=>cases h
      |succ k =>
       rw[bR,j6 n] at h;cases h
       rw[j6 j] at h1;exact h1
     {rw[eT j] at h1;have:=m _ _ _ _ _ h;omega}
    {cases h};{cases h}
theorem CK (S:Spc):∀n b,Af S b (aP S n b):=by
 intro n;have o:∀b f nm g e (tgt:Nat->Out Ent),(∀t g e,atI (nm1 S.f1) S.n1 nm=T t->aO f nm=Z->atL b nm=Z->tgt t=.inl (g,e)->Mu S b g<=Mu S b f)->du S tgt b f nm=.inl (g,e)->Mu S b g<=Mu S b f+if e.L=2 then 1 else 0:=by
  intro b f nm g e tgt p h;unfold du at h;split at h;{cases h;omega}
  ·rename_i m;split at h;{cases h}
   ·rename_i h1;unfold fj dV at h;split at h
    ·rename_i i hi;cases h
     have:=jE S b f ⟨nm,1,0,(S.f0 i).H,0,[]⟩;have:=Ae (S:=S) (e:=⟨nm,1,0,(S.f0 i).H,0,[]⟩) (bc hi).1 (bc hi).2 m;unfold Mu;rw[eL,AT];omega
    ·split at h;{rename_i t l;have:=p _ _ _ l m h1 h;omega}
     ·cases h
      have:=jE S b f ⟨nm,2,0,⟨#[]⟩,0,[]⟩;have:=rJ S f ⟨nm,2,0,⟨#[]⟩,0,[]⟩;rw[j6 rfl];unfold Mu;rw[eL,AT];omega
 induction n with
 |zero =>intro b f nm g e h;rw[aP] at h;exact o _ _ _ _ _ _ (λt _ _ _ _ _ h=>by cases h) h
 |succ n q =>
  intro b f nm g e h;rw[aP] at h;refine o _ _ _ _ _ _ (λt g e l m h1 h=>?_) h;rcases hr:bR S (aP S n (b++[nm])) t 201 f [] [] with ⟨j,x⟩|c|c;{rw[hr] at h;simp only[gR,dV,PR,KH] at h;obtain⟨rfl,rfl⟩:=h;have r:=Fu (q (b++[nm])) _ _ _ _ _ _ hr;have g2:=fK (making:=b) (made:=f) (bc l).1 (bc l).2 m h1;have g3:dN S b (j++[⟨nm,3,x.1.M,x.1.H,t,x.2⟩])<=dN S (b++[nm]) j:=rG S b j ⟨nm,3,x.1.M,x.1.H,t,x.2⟩;have g4:=rJ S j ⟨nm,3,x.1.M,x.1.H,t,x.2⟩;unfold Mu at r ⊢;rw[eL,AT];omega};{rw[hr] at h;cases h};{rw[hr] at h;cases h}
theorem pR{S:Spc}(g:SpcOk S){b:List Ent}{e:Ent}(h:aP S 60 [] [] nm=.inl (b,e)):b.length<=400:=by
 have h1:=CK S 60 [] [] nm b e h;have hl:dN S [] []<=S.n1:=by have:=PX (p:=iN S [] []) (l:=List.range S.n1);simpa[dN] using this
 have hs:lG S []<=S.n0:=by have:=PX (p:=λi=>(aO [] (S.f0 i).e).isNone) (l:=List.range S.n0);simpa[lG] using this
 have h2:=g.av;by_cases f:e.L=2
 ·rw[aP] at h;unfold du at h;simp only[aO,List.find?_nil,atL,List.findIdx?_nil] at h;unfold fj dV at h;split at h;{cases h;cases f}
  ·split at h;{rename_i t h3;simp only at h;rcases hr:bR S (aP S 59 ([]++[nm])) t 201 [] [] [] with ⟨made1,x⟩|c|c;{rw[hr] at h;simp only[gR,dV,PR,KH] at h;obtain⟨rfl,rfl⟩:=h;cases f};{rw[hr] at h;cases h};{rw[hr] at h;cases h}}
   ·cases h
    show 1<=400;omega
 {rw[eT f] at h1;unfold Mu at h1;rw[KF] at h1;omega}
def sLt (m:Nat):Nat->Bool:=λq=>decide (q<m)
theorem mM (m:Nat):put (sLt m) m=sLt (m+1):=by funext q;rw[L9];simp only[put,sLt,Bool.or_eq_true,PH,p6];omega
theorem gO{S:Spc}{M:List Ent}{x:Ent}(h:M[i]?=T x):dF (aT S M) i=a8 S M x:=by unfold dF aT;rw[IS,KN,h];rfl
theorem us{M b rest:List Ent}{x:Ent}(hM:M=b++rest)(h:b[i]?=T x):M[i]?=T x:=by rw[hM,KP (j5.1 h).1];exact h
theorem ut{S:Spc}{lies:List Ent->ByteArray->Out Ent}:∀k f i g b x,bR S lies t k f i g=.inl (b,x)->∃more,x.2=g++more:=by
 intro k;induction k with
 |zero=>intro f i g b x h;cases h
 |succ k j =>
  intro f i g b x h;rw[bR] at h;split at h
  ·cases h
   exact⟨[],by simp⟩
  {split at h;{obtain⟨m,e⟩:=j _ _ _ _ _ h;exact⟨[_]++m,by rw[e,KU]⟩};{split at h;{obtain⟨m,e⟩:=j _ _ _ _ _ h;exact⟨[_]++m,by rw[e,KU]⟩};{cases h};{cases h}}}
section
variable {S:Spc}{M:List Ent}
def uu (S:Spc)(M:List Ent)(g:List ByteArray)(m:Nat)(lies:List Ent->ByteArray->Out Ent):Prop:=∀f nm b e,PG S g f->aB nm=ZD->lies f nm=.inl (b,e)->(∃rest,M=b++rest) ->
 (b=f/\∃i,i<f.length/\M[i]?=T e/\e.e=nm)∨(f.length<b.length/\M[b.length - 1]?=T e/\e.e=nm/\∀k d,b.length<=k->∃L,lst (dF (aT S M)) k (b.length - 1) d (sLt f.length)=(sLt b.length,L)/\L.map (·.1)=List.range' f.length (b.length - f.length)/\∀x∈L,(dF (aT S M) x.1).L=3->x.2<d+m)
theorem uv{go:Nat->Nat->(Nat->Bool)->(Nat->Bool) × List (Nat × Nat)}{x:au}{d:Nat}{s:Nat->Bool}(h:¬ ((x.m j).ask=ZD/\(lks go x d s j).1 (x.m j).G.toNat=ZA)):lks go x d s (j+1)=lks go x d s j:=by rw[lks,eT h]
theorem Ag (hS:SpcOk S)(hM:PG S [] M){lies:List Ent->ByteArray->Out Ent}{q:List ByteArray}(ht:t<S.n1)(ZJ:lC S q lies)(hh:uu S M q m lies):∀k f A u b x,PG S q f->RG S f A u->A.length+k=201->bR S lies t k f A u=.inl (b,x)->(∃rest,M=b++rest)->∀(p j d:Nat) (s0:Nat->Bool) (B:List (Nat × Nat)) (y:Ent),M[p]?=T y->y.looks=x.2->b.length<=p->p<=j->lks (lst (dF (aT S M)) j) (dF (aT S M) p) d s0 u.length=(sLt f.length,B) ->
  ∃L,lks (lst (dF (aT S M)) j) (dF (aT S M) p) d s0 x.2.length=(sLt b.length,B++L)/\L.map (·.1)=List.range' f.length (b.length - f.length)/\∀z∈L,(dF (aT S M) z.1).L=3->z.2<d+1+m:=by
 intro k;induction k with
 |zero=>intro f A u b x _ _ _ h;cases h
 |succ k V =>
  intro f A u b x X W hk h G p j d s0 B y O ZQ C ZO hlk;have hT:=lB hS ht W.good;have h0:=h;rw[bR] at h;rcases hT with ⟨ZK,ZM⟩|⟨ZK,hlt,D⟩
  ·rw[j6 ZK] at h;cases h
   exact⟨[],by rw[hlk,TZ],by simp,λz hz=>absurd hz nj⟩
  ·rw[eT (by rw[ZK];simp)] at h;have lk:∀l more,x.2=(u++[l])++more->(dF (aT S M) p).m u.length=lkD M l:=λl more e=>by rw[gO O];refine km ?_;rw[ZQ,e,KU,KL ly,SU];rfl
   split at h;{rename_i ha;obtain⟨more,e⟩:=ut _ _ _ _ _ _ h;have o:=lk _ _ e;refine V _ _ _ _ _ X (W.add (kj _ _) D (λh=>by cases h)) (by simp;omega) h G p j d s0 B y O ZQ C ZO ?_;rw[eL,AT,uv (by rw[o];exact λh=>by cases h.1)];exact hlk}
   ·rename_i ha;split at h
    ·rename_i g ZL ZM;obtain⟨P,⟨more1,g2⟩,g3,g4⟩:=ZJ _ _ _ _ X D ZM;have bt:RG S g A u:=W.mono λx hx=>by rw[g2];exact LB _ hx
     have ZP:=bt.add (l:=⟨(bG S t A).e,ZD,ZA⟩) (kl (P.W ZL g3)) D (λ_=>⟨ZL,g3,g4⟩);obtain⟨-,⟨more2,q2⟩,-⟩:=gu hS ht ZJ _ _ _ _ _ _ P ZP (by simp;omega) h;obtain⟨rest,r⟩:=G;have fd:∃rest,M=g++rest:=⟨more2++rest,by rw[r,q2,KU]⟩
     have hle:g.length<=b.length:=by rw[q2,eL];omega
     obtain⟨more,e⟩:=ut _ _ _ _ _ _ h;have o:=lk _ _ e;have K:∀i:Nat,M[i]?=T ZL->((dF (aT S M) p).m u.length).G.toNat=i:=λi hi=>by rw[o];have:=hM.idx hi;rw[g4] at this;simp[lkD,this]
     have R:((dF (aT S M) p).m u.length).ask=ZD:=by rw[o];rfl
     rcases hh _ _ _ _ X D ZM fd with ⟨rfl,i,hi,H,-⟩|⟨hlt1,H,-,aq⟩
     {refine V _ _ _ _ _ P ZP (by simp;omega) h ⟨rest,r⟩ p j d s0 B y O ZQ C ZO ?_;rw[eL,AT,uv (by rw[hlk,K i H];simp[sLt,hi])];exact hlk}
     ·obtain⟨ZI,ex,e2,e3⟩:=aq j (d+1) (by omega);have ZN:lks (lst (dF (aT S M)) j) (dF (aT S M) p) d s0 (u++[(⟨(bG S t A).e,ZD,ZA⟩:Lk)]).length=(sLt g.length,B++ZI):=by rw[eL,AT,lks,j6 ⟨R,by rw[hlk,K _ H];simp[sLt];omega⟩,K _ H,hlk,ex]
      obtain⟨L2,f1,f2,f3⟩:=V _ _ _ _ _ P ZP (by simp;omega) h ⟨rest,r⟩ p j d s0 (B++ZI) y O ZQ C ZO ZN;refine⟨ZI++L2,by rw[f1,KU],?_,λz hz=>?_⟩;{rw[KI,e2,f2];have:=List.range'_append_1 (s:=f.length) (m:=g.length - f.length) (n:=b.length - g.length);rw[show f.length+(g.length - f.length)=g.length by omega,show g.length - f.length+(b.length - g.length)=b.length - f.length by omega] at this;exact this};{rcases wC.1 hz with hz|hz;{exact e3 z hz};{exact f3 z hz}}
    {cases h};{cases h}
theorem Ah{b:List Ent}{e:Ent}(i:e.L≠3)(j:e.looks=[])(hM:M[b.length]?=T e):∀k d,b.length+1<=k->∃L,lst (dF (aT S M)) k b.length d (sLt b.length)=(sLt (b.length+1),L)/\L.map (·.1)=List.range' b.length 1/\∀x∈L,(dF (aT S M) x.1).L=3->x.2<d+0:=by
 intro k d hk1;cases k with
 |zero=>omega
 |succ k =>
  refine⟨[(b.length,d)],?_,rfl,λx h f=>?_⟩;{have g:(dF (aT S M) b.length).f=0:=(by rw[gO hM];show e.looks.length=0;rw[j];rfl);rw[lst,g];show(put (sLt b.length) b.length,_)=_;rw[mM];rfl};{rw[hU.1 h,gO hM] at f;exact absurd f i}
theorem yq (u:SpcOk S)(hM:PG S [] M):∀n g,uu S M g n (aP S n g):=by
 intro n;have y:∀g b nm f e (tgt:Nat->Out Ent) (m:Nat),PG S g b->aB nm=ZD->(∃rest,M=f++rest)->(∀t f e,atI (nm0 S.f0) S.n0 nm=Z->atI (nm1 S.f1) S.n1 nm=T t->aO b nm=Z->atL g nm=Z->tgt t=.inl (f,e)->(∃rest,M=f++rest)->(b.length<f.length/\M[f.length - 1]?=T e/\e.e=nm/\∀k d,f.length<=k->∃L,lst (dF (aT S M)) k (f.length - 1) d (sLt b.length)=(sLt f.length,L)/\L.map (·.1)=List.range' b.length (f.length - b.length)/\∀x∈L,(dF (aT S M) x.1).L=3->x.2<d+m))->du S tgt g b nm=.inl (f,e) ->
   (f=b/\∃i,i<b.length/\M[i]?=T e/\e.e=nm)∨(b.length<f.length/\M[f.length - 1]?=T e/\e.e=nm/\∀k d,f.length<=k->∃L,lst (dF (aT S M)) k (f.length - 1) d (sLt b.length)=(sLt f.length,L)/\L.map (·.1)=List.range' b.length (f.length - b.length)/\∀x∈L,(dF (aT S M) x.1).L=3->x.2<d+m):=by
  intro g b nm f e tgt m s hn l ZP h;have r:∀o:Ent,o.L≠3->o.looks=[]->o.e=nm->(∃rest,M=(b++[o])++rest)->(b.length<(b++[o]).length/\M[(b++[o]).length - 1]?=T o/\o.e=nm/\∀k d,(b++[o]).length<=k->∃L,lst (dF (aT S M)) k ((b++[o]).length - 1) d (sLt b.length)=(sLt (b++[o]).length,L)/\L.map (·.1)=List.range' b.length ((b++[o]).length - b.length)/\∀x∈L,(dF (aT S M) x.1).L=3->x.2<d+m):=by
   intro o C K hn0 ⟨rest,D⟩;have p:M[b.length]?=T o:=us D (by simp);have hz:(b++[o]).length=b.length+1:=by simp
   rw[hz,NG,Nat.add_sub_cancel_left];refine⟨by omega,p,hn0,λk d ZQ=>?_⟩;obtain⟨L,h1,h2,q⟩:=Ah (S:=S) C K p k d ZQ;exact⟨L,h1,h2,λx H ZM=>by have:=q x H ZM;omega⟩
  unfold du at h;split at h
  ·rename_i G ZN
   cases h
   obtain⟨h1,h2⟩:=gK ZN;obtain⟨i,hi⟩:=LZ h1;obtain⟨rest,l⟩:=l;exact .inl ⟨rfl,i,(j5.1 hi).1,us l hi,h2⟩
  ·rename_i B
   split at h
   ·cases h
   ·rename_i h1
    unfold fj dV at h;split at h
    ·cases h
     exact .inr (r _ (by show(1:Int)≠3;decide) rfl rfl l)
    ·rename_i h2
     split at h
     ·rename_i t q
      exact .inr (ZP _ _ _ h2 q B h1 h l)
     ·cases h
      exact .inr (r _ (by show(2:Int)≠3;decide) rfl rfl l)
 induction n with
 |zero =>intro g b nm f e s hn h l;rw[aP] at h;exact y _ _ _ _ _ _ _ s hn l (λt _ _ _ _ _ _ h=>by cases h) h
 |succ n R =>
  intro g b nm f e s hn h l;rw[aP] at h;refine y _ _ _ _ _ _ _ s hn l (λt f e h2 q B h1 h l=>?_) h;rcases hq:bR S (aP S n (g++[nm])) t 201 b [] [] with ⟨j,x⟩|c|c
  ·rw[hq] at h;simp only[gR,dV,PR,KH] at h;obtain⟨rfl,rfl⟩:=h;have A:=gS s B;obtain⟨-,⟨more,P⟩,-⟩:=gu u (bc q).1 (cX u n (g++[nm])) _ _ _ _ _ _ A (gL S b) rfl hq;obtain⟨rest,l⟩:=l;have hz:(j++[(⟨nm,3,x.1.M,x.1.H,t,x.2⟩:Ent)]).length=j.length+1:=by simp
   have hle:b.length<=j.length:=by rw[P,eL];omega
   have p:M[j.length]?=T ⟨nm,3,x.1.M,x.1.H,t,x.2⟩:=us l (by simp);rw[hz,NG];refine⟨by omega,p,rfl,λk d C=>?_⟩;cases k with
   |zero=>omega
   |succ k =>
    obtain⟨L,G,O,ZO⟩:=Ag u hM (bc q).1 (cX u n (g++[nm])) (R (g++[nm])) _ _ _ _ _ _ A (gL S b) rfl hq ⟨[_]++rest,by rw[l,KU]⟩ j.length k d (sLt b.length) [] _ p rfl ly (by omega) rfl;have ZL:(dF (aT S M) j.length).f=x.2.length:=by rw[gO p];rfl
    refine⟨L++[(j.length,d)],?_,?_,λz hz=>?_⟩;{rw[lst,ZL,G,mM,LA]};{rw[KI,O,show j.length+1 - b.length=j.length - b.length+1 by omega,List.range'_1_concat,show b.length+(j.length - b.length)=j.length by omega];rfl}
    ·rcases wC.1 hz with hz|hz;{intro q;have:=ZO z hz q;omega}
     ·rw[hU.1 hz];intro _;show d<d+(n+1)
      omega
  {rw[hq] at h;cases h};{rw[hq] at h;cases h}
end
theorem nQ:∀(L:List (Nat × Nat)) (i:Nat),L.map (·.1)=List.range' i L.length->bB i L=-1
 |[],_,_=>rfl
 |x::L,i,h=>by rw[PQ,xT,List.range'_succ] at h;obtain⟨h1,h2⟩:=List.cons.inj h;rw[bB,j6 h1];exact nQ L (i+1) h2
theorem nR {f:Nat->au}:∀(L:List (Nat × Nat)),(∀x∈L,(f x.1).L=3->x.2<60)->aY f L=-1
 |[],_=>rfl
 |x::L,h=>by rw[aY,eT λh1=>absurd (h x NH h1.1) (by omega)];exact nR L λy b=>h y (mq _ b)
theorem yr{x:au}(h:∀i,i<n->dH f p (x.m i)=ZD):bI f p x n=ZD:=by
 induction n with
 |zero=>rfl
 |succ k b=>rw[bI,b λi hi=>h i (by omega),h k (by omega)];rfl
theorem Fv{S:Spc}(ZO:SpcOk S){M:List Ent}(hM:PG S [] M)(hR:∀x∈M,Rn S M x)(hi:i<M.length):bi (dF (aT S M)) i=ZD:=by
 obtain⟨x,p⟩:∃x,M[i]?=T x:=⟨M[i],gq hi⟩
 have r:=J2 p;have g:=hM.W x r;have e:dF (aT S M) i=a8 S M x:=gO p;unfold bi;rw[e,nD,nD];refine⟨⟨g.nm,MK g.tx⟩,?_⟩;have t:=g.M;rcases g.L with ⟨h1,h2,m,-⟩|⟨h1,h2,m,G,-⟩|⟨h1,-,m⟩
 {have b:(a8 S M x).L=1:=h1;unfold kindOk;rw[j6 b];simp[aU,a8,bM,h1,h2,m]};{have b:(a8 S M x).L=2:=h1;unfold kindOk;rw[eT (by rw[b];decide),j6 b];simp[aU,a8,bM,h1,h2,m,G];rfl}
 ·have b:(a8 S M x).L=3:=h1;have A:(a8 S M x).h=(S.f1 x.tg).h:=by show bM S x=_;unfold bM;rw[j6 h1]
  unfold kindOk;rw[eT (by rw[b];decide),eT (by rw[b];decide),j6 b];unfold bW;rw[A];have B:valid (a8 S M x).u (S.f1 x.tg).h=ZD:=ZO.u _ (bc m).1;have u:(a8 S M x).f<=200:=g.looks;have hlk:bI (dF (aT S M)) i (a8 S M x) (a8 S M x).f=ZD:=yr λj C=>by
   have n:j<x.looks.length:=C;have q:x.looks[j]?=T x.looks[j]:=gq n;have f:=gz n;have K:(a8 S M x).m j=lkD M x.looks[j]:=km q;rw[K];generalize x.looks[j]=l at f;unfold dH;rw[nD];refine⟨g.lname l f,?_⟩;by_cases h:l.ask=ZD
   ·obtain⟨y,H,hn,hlt⟩:=hM.asked p f h;have ZQ:=(hR x r).has l f h;have o:(lkD M l).ask=ZD:=h;have hH:(lkD M l).has=ZA:=ZQ;have s:(lkD M l).G=((gN M l.e:Nat):Int):=by unfold lkD;simp[h]
    have ZP:(lkD M l).e=l.e:=rfl;rw[j6 o,hH,s,ZP,Int.toNat_natCast,gO H];have D:((a8 S M y).e.toList == l.e.toList)=ZD:=by show(y.e.toList == l.e.toList)=ZD;rw[hn];simp
    rw[D];simp only[Bool.not_false,MR,OR,nD,p6];omega
   {have o:¬ (lkD M l).ask=ZD:=h;rw[eT o];unfold lkD;simp[h]}
  rw[B,hlk];have z:(a8 S M x).M=x.M:=rfl;rw[z];simp only[OR,nD,p6];exact⟨t,u⟩
theorem yt{k:Nat}(h:∀j,j<k->(f j).e≠(f p).e):aR f p k=ZD:=by
 induction k with
 |zero=>rfl
 |succ k b =>
  rw[aR,b λj hj=>h j (by omega),MR];cases hb:((f k).e.toList == (f p).e.toList) with
  |false=>rfl
  |true=>exact absurd (bytes_beq hb) (h k (by omega))
theorem CO{S:Spc}(b:SpcOk S)(hn:aB nm=ZD){M:List Ent}{e:Ent}(h:aP S 60 [] [] nm=.inl (M,e)):dh (dF (aT S M)) M.length=(0,0)/\0<M.length/\M[M.length - 1]?=T e/\e.e=nm/\PG S [] M/\∀x∈M,Rn S M x:=by
 have hM:=(cX b 60 [] [] nm M e (fL S []) hn h).1;have hR:=(Ac b 60 [] [] nm M e (fL S []) hn (λx g=>absurd g nj) h).1;have hs:=pR b h;rcases yq b hM 60 [] [] nm M e (fL S []) hn h ⟨[],by simp⟩ with ⟨-,i,hi,-⟩|⟨h1,h2,A,t⟩
 {cases hi}
 ·refine⟨?_,h1,h2,A,hM,hR⟩;obtain⟨L,s,l,u⟩:=t M.length 0 ly;have n:sLt ([]:List Ent).length=λ_=>ZA:=by funext q;simp[sLt]
  have f:aD (dF (aT S M)) M.length=L:=by unfold aD;rw[<-n,s]
  have m:L.length=M.length:=by have:=CV List.length l;simpa using this
  have f1:aI (bi (dF (aT S M))) M.length=-1:=dX λi hi=>Fv b hM hR hi;have y:aI (λp=>aR (dF (aT S M)) p p) M.length=-1:=dX λi hi=>yt λj r=>by rw[gO (gq hi),gO (gq (show j<M.length by omega))];exact LC.1 hM.nod j i (by omega) hi r
  have B:bB 0 L=-1:=nQ L 0 (by rw[m];exact l);have z:aY (dF (aT S M)) L=-1:=nR L λx g o=>by have:=u x g o;omega
  have h1':0<M.length:=h1;unfold dh;rw[eT (by omega),f1,eT (by simp),y,eT (by simp),f,B,eT (by simp),z,eT (by simp)]
structure Borne (S:Spc)(f:Nat->au)(p:Nat):Prop where
 lie:gE S.n0 S.f0 S.n1 S.f1 (f p)=ZA
 has:hasB S.n0 S.f0 S.n1 S.f1 (f p)=ZA
 run:codeF f p=0
def tgD (S:Spc)(d:au):Nat:=if d.L=3 then (atI (nm1 S.f1) S.n1 d.e).getD 0 else 0
def lkE (l:Link):Lk:=⟨l.e,l.ask,l.has⟩
def fy (d:au)(k:Nat):List Lk:=(List.range k).map λj=>lkE (d.m j)
def dn (S:Spc)(f:Nat->au)(p:Nat):Ent:=⟨(f p).e,(f p).L,(f p).M,(f p).H,tgD S (f p),fy (f p) (f p).f⟩
def cC (S:Spc)(f:Nat->au)(k:Nat):List Ent:=(List.range k).map (dn S f)
def ysD (f:Nat->au)(p j:Nat):List aC:=(List.range j).map (yOf f p)
theorem wR{t:ByteArray}(b:aL g n=ZD)(hi:i<n)(h:((g i).toList == t.toList)=ZD):atI g n t=T i:=by
 cases e:atI g n t with
 |none=>exact absurd h (NT.1 e i (KV.2 hi))
 |some j =>obtain⟨h1,h2⟩:=bc e;rw[asc_one b h1 hi (by rw[h2];simp) h]
theorem qJ{t:ByteArray}(h:aG g n t=ZA):atI g n t=Z :=
 NT.2 λx b e=>by rw[er (KV.1 b) e] at h;cases h
theorem SpcOk.apart{S:Spc}(i:SpcOk S)(g:t<S.n1):aG (nm0 S.f0) S.n0 (S.f1 t).e=ZA:=by
 have h:=i.chk;unfold bq at h;split at h;· omega
 split at h;· omega
 split at h;· omega
 split at h;· omega
 split at h;· omega
 split at h;· omega
 rename_i f;cases e:aG (nm0 S.f0) S.n0 (S.f1 t).e with
 |false=>rfl
 |true =>obtain⟨k,b,hb⟩:=oe e;exact absurd (cW b (er g (by rw[bytes_beq hb];simp))) f
theorem rK{f g:Nat->Ins}{cnt:Nat}(h:∀i,i<cnt->f i=g i)(y:Nat->aC)(n k:Nat):∀place steps looks b,bZ f cnt y n k place steps looks b=bZ g cnt y n k place steps looks b:=by
 induction k with
 |zero=>intro _ _ _ _;rfl
 |succ k l =>
  intro place steps looks b;have e:bN f cnt place steps looks b=bN g cnt place steps looks b:=by
   unfold bN;by_cases j:cnt<=place;{rw[j6 j,j6 j]};{rw[h place (by omega)]}
  rw[bZ,bZ,e];rcases bN g cnt place steps looks b with ⟨s,p⟩|⟨c,x⟩|⟨a,nm,s⟩
  {exact l _ _ _ _};{rfl};{simp only[l]}
theorem Fw{x y:Ins}(h:jL x y=ZD):x=y:=by obtain⟨a,b,c⟩:=x;obtain⟨a',b',c'⟩:=y;simp only[jL,nD,PH] at h;obtain⟨⟨rfl,hb⟩,rfl⟩:=h;rw[eX hb]
theorem uw{f g:Nat->Ins}(h:cH f g n=ZD)(i:Nat)(hi:i<n):f i=g i:=by have:=pa (show i+1<=n by omega) h;simp only[cH,nD] at this;exact Fw this.2
theorem gv (h:bv f n=ZD)(g:p<n):aB (f p).e=ZD/\((f p).L≠3->(f p).M=0/\(f p).h=0/\(f p).f=0)/\((f p).L=2->(f p).H=⟨#[]⟩)/\∀j,j<(f p).f->dH f p ((f p).m j)=ZD:=by
 have h1:=ep (fl h).2.2 p g;simp only[bi,nD,kindOk,p6] at h1;obtain⟨⟨l,_⟩,h2⟩:=h1;refine⟨l,?_⟩;split at h2;{rename_i b;simp only[aU,nD,p6] at h2;exact⟨λ_=>⟨h2.1.1,h2.1.2,h2.2⟩,λe=>by omega,λj i=>by omega⟩};{split at h2;{rename_i b;simp only[aU,nD,p6] at h2;exact⟨λ_=>⟨h2.1.1.1,h2.1.1.2,h2.1.2⟩,λ_=>UY (PD h2.2),λj i=>by omega⟩};{split at h2;{rename_i b;simp only[bW,nD] at h2;exact⟨λe=>absurd b e,λe=>by omega,kG h2.2⟩};{cases h2}}}
theorem ux:∀(L:List (Nat × Nat)) (i:Nat),bB i L=-1->L.map (·.1)=List.range' i L.length
 |[],_,_=>rfl
 |x::L,i,h=>by
  rw[bB] at h;split at h
  ·rename_i e
   rw[PQ,xT,List.range'_succ,ux L (i+1) h,e]
  ·omega
theorem rL {f:Nat->au}:∀(L:List (Nat × Nat)),aY f L=-1->∀x∈L,(f x.1).L=3->x.2<60
 |[],_,x,b,_=>absurd b nj
 |y::L,h,x,b,hk=>by
  rw[aY] at h;split at h
  ·omega
  ·rename_i hn
   rcases A9.1 b with rfl|b
   ·exact Nat.lt_of_not_le λg=>hn ⟨hk,g⟩
   ·exact rL L h x b hk
theorem vQ (h:bv f n=ZD):bB 0 (aD f n)=-1/\aY f (aD f n)=-1:=by
 have h1:(dh f n).1=0:=MJ h;unfold dh at h1;split at h1;{simp at h1};{split at h1;{simp at h1};{split at h1;{simp at h1};{split at h1;{simp at h1};{rename_i i;split at h1;{simp at h1};{rename_i g;exact⟨NY λb=>i b,NY λb=>g b⟩}}}}}
theorem seg{A B:List (Nat × Nat)}(h:(A++B).map (·.1)=List.range' lo (A++B).length):A.map (·.1)=List.range' lo A.length/\B.map (·.1)=List.range' (lo+A.length) B.length:=by rw[KI,eL,<-List.range'_append_1] at h;exact List.append_inj h (by simp)
theorem wU (go:Nat->Nat->(Nat->Bool)->(Nat->Bool) × List (Nat × Nat))(x:au)(d:Nat)(s:Nat->Bool)(j:Nat):∀ZO,j<=ZO->∃more,(lks go x d s ZO).2=(lks go x d s j).2++more
 |0,h=>⟨[],by
  obtain rfl:j=0:=by omega
  simp⟩
 |ZO+1,h=>by
  by_cases e:j=ZO+1
  ·exact⟨[],by rw[e];simp⟩
  ·obtain⟨m,b⟩:=wU go x d s j ZO (by omega)
   rw[lks];split
   ·exact⟨m++(go (x.m ZO).G.toNat (d+1) (lks go x d s ZO).1).2,by rw[b,KU]⟩
   ·exact⟨m,b⟩
theorem rM {f:Nat->au}{p:Nat}:∀ZO k,k+ZO<=ee f p ZO k->∀i,i<ZO->ec f p (k+i)=ZA
 |0,_,_,i,hi=>absurd hi (KO i)
 |ZO+1,k,h,i,hi=>by
  rw[ee] at h;split at h
  ·omega
  ·rename_i b
   cases i with
   |zero=>simpa using b
   |succ i =>have:=rM (f:=f) (p:=p) ZO (k+1) (by omega) i (by omega);rwa[show k+(i+1)=k+1+i by omega]
theorem uy (h:codeF f p=0)(i:(f p).L=3):(∀j,j<(f p).f->(bo f p j).K=ZA/\(bo f p j).e=((f p).m j).e/\(bo f p j).ask=((f p).m j).ask)/\(bo f p (f p).f).K=ZD/\(bo f p (f p).f).M=(f p).M/\(bo f p (f p).f).H=(f p).H:=by
 rw[codeF,j6 i,fP] at h;have hle:=oJ f p (f p).f 0;split at h;{omega}
 ·rename_i h1;have g:bu f p=(f p).f:=by unfold bu at h1 ⊢;omega
  rw[g] at h;split at h;{omega};{rename_i h2;split at h;{rename_i b;refine⟨λj l=>?_,by simpa using h2,b.1,eX b.2⟩;have:=rM (f:=f) (p:=p) (f p).f 0 (by unfold bu at g;omega) j l;rw[IT] at this;simp only[ec,TU,RC,PH] at this;exact⟨this.1.1,eX this.1.2,this.2⟩};{omega}}
theorem Borne.lies{S:Spc}(o:bv f n=ZD)(q:p<n)(l:SpcOk S)(h:Borne S f p):((f p).L=1/\∃i,atI (nm0 S.f0) S.n0 (f p).e=T i/\(S.f0 i).H=(f p).H)∨((f p).L=2/\atI (nm0 S.f0) S.n0 (f p).e=Z/\atI (nm1 S.f1) S.n1 (f p).e=Z)∨((f p).L=3/\atI (nm0 S.f0) S.n0 (f p).e=Z/\∃t,atI (nm1 S.f1) S.n1 (f p).e=T t/\(S.f1 t).h=(f p).h/\∀i,i<(f p).h->(S.f1 t).u i=(f p).u i):=by
 have b:=h.lie;unfold gE at b;rcases(dU o p q).2 with ⟨g,-⟩|⟨g,-⟩|⟨g,-⟩
 {rw[j6 g,RC] at b;obtain⟨i,hi,hb⟩:=ig b;rw[nD] at hb;exact .inl ⟨g,i,wR l.asc0 hi hb.1,bytes_beq hb.2⟩};{rw[eT (by omega),eT (by omega)] at b;unfold jd at b;rw[TU] at b;exact .inr (.inl ⟨g,qJ b.1,qJ b.2⟩)};{rw[eT (by omega),j6 g,RC] at b;obtain⟨t,m,hb⟩:=ig b;rw[nD] at hb;have j:=hb.2;simp only[cB,nD,p6] at j;have hn:(S.f1 t).e=(f p).e:=bytes_beq hb.1;refine .inr (.inr ⟨g,qJ (by rw[<-hn];exact l.apart m),t,wR l.asc1 m hb.1,j.1,λi hi=>uw j.2 i (by omega)⟩)}
section
variable {S:Spc}{f:Nat->au}{n:Nat}
theorem lH (k:Nat):cC S f (k+1)=cC S f k++[dn S f k]:=by unfold cC;rw[MB,KI];rfl
theorem yu (g:bv f n=ZD){k:Nat}(hk:k<=p)(h:p<n):aO (cC S f k) (f p).e=Z :=
 uq λx b e=>by obtain⟨i,hi,rfl⟩:=LM.1 b;have h1:=KV.1 hi;have:=jw g i p (by omega) h (CV ByteArray.toList e);omega
theorem yv (g:bv f n=ZD){k:Nat}(b:q<k)(hk:k<=n):aO (cC S f k) (f q).e=T (dn S f q):=by
 cases h:aO (cC S f k) (f q).e with
 |none=>exact absurd rfl (dx h (dn S f q) (LM.2 ⟨q,KV.2 b,rfl⟩))
 |some y =>obtain⟨h1,h2⟩:=gK h;obtain⟨i,hi,rfl⟩:=LM.1 h1;have:=KV.1 hi;rw[jw g i q (by omega) (by omega) (CV ByteArray.toList h2)]
theorem rN (h1:(S.f1 t).h=(f p).h)(h2:∀i,i<(f p).h->(S.f1 t).u i=(f p).u i):bG S t (ysD f p j)=bo f p j:=by
 have e:(ysD f p j).length=j:=by simp[ysD]
 unfold bG bo;rw[e,h1,rK h2];exact jT _ _ _ _ _ _ _ _ _ _ λi _ hi=>by simp[yL,ysD,hi]
def Gm (S:Spc)(f:Nat->au)(n k:Nat):Prop:=∀p d lo m b,p<k->p<n->lo<=p->(lst f k p d (sLt lo)).2.map (·.1)=List.range' lo (lst f k p d (sLt lo)).2.length->(∀x∈(lst f k p d (sLt lo)).2,(f x.1).L=3->x.2<d+m)->(∀z∈b,∀q,q<=p->z≠(f q).e) ->
 (lst f k p d (sLt lo)).1=sLt (p+1)/\p+1=lo+(lst f k p d (sLt lo)).2.length/\aP S m b (cC S f lo) (f p).e=.inl (cC S f (p+1),dn S f p)
theorem CQ (A:bv f n=ZD)(O:∀p,p<n->Borne S f p){k d:Nat}(ih:Gm S f n k)(hk:p<k+1)(y:p<n)(ZM:lo<=p)(h3:(f p).L=3)(R:(S.f1 t).h=(f p).h)(ZN:∀i,i<(f p).h->(S.f1 t).u i=(f p).u i)
  (H:(lks (lst f k) (f p) d (sLt lo) (f p).f).2.map (·.1)=List.range' lo (lks (lst f k) (f p) d (sLt lo) (f p).f).2.length) (ZL:∀x∈(lks (lst f k) (f p) d (sLt lo) (f p).f).2,(f x.1).L=3->x.2<d+1+m) (ZK:∀z∈making,∀q,q<p->z≠(f q).e) :
  ∀j,j<=(f p).f->(lks (lst f k) (f p) d (sLt lo) j).1=sLt (lo+(lks (lst f k) (f p) d (sLt lo) j).2.length)/\lo+(lks (lst f k) (f p) d (sLt lo) j).2.length<=p /\
   bR S (aP S m making) t 201 (cC S f lo) [] []=bR S (aP S m making) t (201 - j) (cC S f (lo+(lks (lst f k) (f p) d (sLt lo) j).2.length)) (ysD f p j) (fy (f p) j):=by
 have hN:(f p).f<=200:=nH A p y;obtain⟨M,-⟩:=uy (O p y).run h3;intro j;induction j with
 |zero=>intro _;exact⟨rfl,ZM,rfl⟩
 |succ j W =>
  intro ZI;obtain⟨g,P,ZJ⟩:=W (by omega);obtain⟨t1,t2,t3⟩:=M j (by omega);have hlk:=(gv A y).2.2.2 j (by omega);have B:ysD f p (j+1)=ysD f p j++[yOf f p j]:=by unfold ysD;rw[MB,KI];rfl
  have D:fy (f p) (j+1)=fy (f p) j++[lkE ((f p).m j)]:=by unfold fy;rw[MB,KI];rfl
  rw[ZJ,show 201 - j=201 - (j+1)+1 by omega,bR,rN R ZN,t1,t2,t3,eT (by simp)];by_cases b:((f p).m j).ask=ZD
  ·obtain⟨a1,X,a3⟩:=eS A p y j (by omega) b;have G:((f p).m j).has=ZA:=by simp only[dH,b,if_true,nD,Bool.not_eq_true'] at hlk;exact hlk.2.1.1.1
   have s:∀q,q=((f p).m j).G.toNat->fT (dn S f q)=yOf f p j:=λq e=>by subst e;unfold yOf;rw[mF A b (by omega)];rfl
   have ZQ:lkE ((f p).m j)=⟨((f p).m j).e,ZD,ZA⟩:=by unfold lkE;rw[b,G]
   have u:((f p).m j).e=(f ((f p).m j).G.toNat).e:=eX a3.symm;rw[eT (by rw[b];simp),B,D,ZQ];generalize o:((f p).m j).G.toNat=q at X u;have s:=s q o.symm;rw[lks];by_cases C:q<lo+(lks (lst f k) (f p) d (sLt lo) j).2.length;{rw[eT (by rw[g,o];simp[sLt,C])];refine⟨g,P,?_⟩;rw[lA];unfold du;rw[u,yv A C (by omega)];simp only[s]};{rw[j6 ⟨b,by rw[g,o];simp[sLt];omega⟩,o,g];obtain⟨more,l⟩:=wU (lst f k) (f p) d (sLt lo) (j+1) (f p).f ZI;rw[lks,j6 ⟨b,by rw[g,o];simp[sLt];omega⟩,o,g] at l;simp only at l;rw[l] at H ZL;have s1:=(seg H).1;have s2:=(seg s1).2;obtain⟨b1,L,b3⟩:=ih q (d+1) (lo+(lks (lst f k) (f p) d (sLt lo) j).2.length) m making (by omega) (by omega) (by omega) s2 (λx V ZO=>ZL x (LB _ (ME _ V)) ZO) (λz hz r hr'=>ZK z hz r (by omega));rw[u,b3];simp only[s,eL];refine⟨by rw[b1,L,Nat.add_assoc],by omega,by rw[<-Nat.add_assoc,<-L]⟩}
  ·have hn:((f p).m j).ask=ZA:=by simpa using b
   have K:=jn (O p y).has (show j<(f p).f by omega);simp only[dZ,hn,Bool.not_false,MR,RC,PH] at K;have ZP:fo S ((f p).m j).e=((f p).m j).has:=K.symm;rw[j6 hn,ZP,uv (λh=>b h.1),B,D];have s:yOf f p j=⟨((f p).m j).has,0,⟨#[]⟩⟩:=by unfold yOf ej;rw[eT b]
   have ZQ:lkE ((f p).m j)=⟨((f p).m j).e,ZA,((f p).m j).has⟩:=by unfold lkE;rw[hn]
   rw[s,ZQ];exact⟨g,P,rfl⟩
theorem CU (o:bv f n=ZD)(R:SpcOk S)(H:∀p,p<n->Borne S f p):∀k,Gm S f n k:=by
 intro k;induction k with
 |zero=>intro p d lo m b ZP;omega
 |succ k ZM =>
  intro p d lo m b ZP j A C u K;rw[lst] at C u ⊢;simp only at C u ⊢;obtain⟨s1,P⟩:=seg C;have l:p=lo+(lks (lst f k) (f p) d (sLt lo) (f p).f).2.length:=by simpa using P
  have hz:p+1=lo+((lks (lst f k) (f p) d (sLt lo) (f p).f).2++[(p,d)]).length:=by rw[eL,AT];omega
  have ZK:=yu (S:=S) o A j;have h1:atL b (f p).e=Z:=jU λx D=>K x D p ly;have r:=gv o j;rw[lA];unfold du;rw[ZK,h1];simp only[fj];rcases(H p j).lies o j R with ⟨g,i,hi,ZN⟩|⟨g,hi,s⟩|⟨g,hi,t,s,B,y⟩
  ·obtain⟨c1,c2,c3⟩:=r.2.1 (by omega);have G:lks (lst f k) (f p) d (sLt lo) (f p).f=(sLt lo,[]):=by rw[c3];rfl
   rw[G] at l hz ⊢;obtain rfl:p=lo:=by simpa using l
   refine⟨mM p,hz,?_⟩;rw[hi];simp only[dV,lH];have e:dn S f p=⟨(f p).e,1,0,(S.f0 i).H,0,[]⟩:=by unfold dn tgD fy;rw[c3,c1,g,ZN];rfl
   rw[e]
  ·obtain⟨c1,c2,c3⟩:=r.2.1 (by omega);have G:lks (lst f k) (f p) d (sLt lo) (f p).f=(sLt lo,[]):=by rw[c3];rfl
   rw[G] at l hz ⊢;obtain rfl:p=lo:=by simpa using l
   refine⟨mM p,hz,?_⟩;rw[hi,s];simp only[dV,lH];have e:dn S f p=⟨(f p).e,2,0,⟨#[]⟩,0,[]⟩:=by unfold dn tgD fy;rw[c3,c1,g,r.2.2.1 g];rfl
   rw[e]
  ·have ZO:=u (p,d) (ME _ (hU.2 rfl)) g;obtain⟨ZQ,rfl⟩:∃ZQ,m=ZQ+1:=⟨m - 1,by simp only at ZO;omega⟩
   have hN:(f p).f<=200:=nH o p j;obtain⟨-,r1,O,ZL⟩:=uy (H p j).run g
   obtain⟨L,-,M⟩:=CQ o H (m:=ZQ) (making:=b++[(f p).e]) ZM ZP j A g B y s1 (λx D h=>by have:=u x (LB _ D) h;omega) (λz hz q hq=>by
    rcases wC.1 hz with hz|hz;{exact K z hz q (by omega)}
    ·rw[hU.1 hz]
     exact λe=>by have:=jw o p q j (by omega) (CV ByteArray.toList e);omega) (f p).f ly
   rw[<-l] at L M;refine⟨by rw[L];exact mM p,hz,?_⟩;rw[hi,s];simp only[oO];rw[M,show 201 - (f p).f=200 - (f p).f+1 by omega,bR,rN B y,j6 r1];simp only[gR,dV,lH];have e:dn S f p=⟨(f p).e,3,(bo f p (f p).f).M,(bo f p (f p).f).H,t,fy (f p) (f p).f⟩:=by unfold dn tgD;rw[g,s,O,ZL];rfl
   rw[e]
theorem yw (b:bv f n=ZD)(m:SpcOk S)(l:∀p,p<n->Borne S f p):aP S 60 [] [] (f (n - 1)).e=.inl (cC S f n,dn S f (n - 1)):=by
 have hn:=fl b;obtain⟨h1,h2⟩:=vQ b;have g:sLt 0=λ_=>ZA:=by funext q;simp[sLt]
 unfold aD at h1 h2;rw[<-g] at h1 h2;obtain⟨-,-,h⟩:=CU b m l n (n - 1) 0 0 60 [] (by omega) (by omega) (IH _) (ux _ _ h1) (λx i j=>by have:=rL _ h2 x i j;omega) (λz hz=>absurd hz nj);rw[show n - 1+1=n by omega] at h;exact h
structure DeedEq (x y:au):Prop where
 e:x.e=y.e
 L:x.L=y.L
 M:x.M=y.M
 H:x.H=y.H
 h:x.h=y.h
 u:∀i,i<x.h->x.u i=y.u i
 f:x.f=y.f
 m:∀i,i<x.f->x.m i=y.m i
theorem CY{k:Nat}(h:i<k):(cC S f k)[i]?=T (dn S f i):=by unfold cC;simp[h]
theorem Gn (g:bv f n=ZD)(b:q<n):gN (cC S f n) (f q).e=q:=by
 have hi:q<(cC S f n).length:=by simp[cC,b]
 unfold gN;rw[List.findIdx_eq hi];refine⟨by simp[cC,dn],λj hj=>?_⟩;cases hb:((cC S f n)[j].e.toList == (f q).e.toList) with
 |false=>rfl
 |true =>
  have e:(cC S f n)[j].e=(f j).e:=by simp[cC,dn]
  rw[e] at hb;have:=jw g j q (by omega) b (by simpa using hb);omega
theorem yx (l:bv f n=ZD)(z:SpcOk S)(x:∀p,p<n->Borne S f p)(hi:i<n):DeedEq (dF (aT S (cC S f n)) i) (f i):=by
 rw[gO (CY hi)];have g:(a8 S (cC S f n) (dn S f i)).f=(f i).f:=by show(fy (f i) (f i).f).length=_;simp[fy]
 have b:∀j,j<(a8 S (cC S f n) (dn S f i)).f->(a8 S (cC S f n) (dn S f i)).m j=(f i).m j:=λj h=>by
  rw[g] at h;have hlk:=(gv l hi).2.2.2 j h;have e:(a8 S (cC S f n) (dn S f i)).m j=lkD (cC S f n) (lkE ((f i).m j)):=km (by simp[dn,fy,h]);rw[e];unfold lkD lkE;by_cases m:((f i).m j).ask=ZD;{obtain⟨a1,a2,q⟩:=eS l i hi j h m;simp only[m,if_true];rw[<-eX q,Gn l (by omega),Int.toNat_of_nonneg a1,eX q,<-m]};{have A:((f i).m j).G=0:=(by simp only[dH,eT m,nD,p6] at hlk;exact hlk.2);simp only[eT m];rw[<-A]}
 rcases(x i hi).lies l hi z with ⟨o,-⟩|⟨o,-⟩|⟨o,-,t,y,u,s⟩
 ·obtain⟨c1,c2,c3⟩:=(gv l hi).2.1 (by omega);have e:(a8 S (cC S f n) (dn S f i)).h=0:=by show bM S (dn S f i)=0;unfold bM;rw[eT (by show ¬ (f i).L=3;omega)]
  exact⟨rfl,rfl,rfl,rfl,by rw[e,c2],λj h=>by omega,g,b⟩
 ·obtain⟨c1,c2,c3⟩:=(gv l hi).2.1 (by omega);have e:(a8 S (cC S f n) (dn S f i)).h=0:=by show bM S (dn S f i)=0;unfold bM;rw[eT (by show ¬ (f i).L=3;omega)]
  exact⟨rfl,rfl,rfl,rfl,by rw[e,c2],λj h=>by omega,g,b⟩
 ·have r:(dn S f i).tg=t:=by show tgD S (f i)=t;unfold tgD;rw[j6 o,y];rfl
  have e:(a8 S (cC S f n) (dn S f i)).h=(f i).h:=by show bM S (dn S f i)=_;unfold bM;rw[j6 (by exact o),r,u]
  refine⟨rfl,rfl,rfl,rfl,e,λj h=>?_,g,b⟩;show(S.f1 (dn S f i).tg).u j=_;rw[r];exact s j (by omega)
end
def LkHas (S:Spc)(b:List Lk):Prop:=∀l∈b,l.ask=ZA->l.has=fo S l.e
def Hs (S:Spc)(b:List Ent):Prop:=∀x∈b,LkHas S x.looks
theorem Hs.add{S:Spc}{f:List Ent}{e:Ent}(h:Hs S f)(g:LkHas S e.looks):Hs S (f++[e]):=λx b=>by
 rcases wC.1 b with b|b
 ·exact h x b
 ·rw[hU.1 b];exact g
theorem mN (S:Spc):LkHas S []:=λ_ h=>absurd h nj
theorem LkHas.add{S:Spc}{f:List Lk}{l:Lk}(h:LkHas S f)(g:l.ask=ZA->l.has=fo S l.e):LkHas S (f++[l]):=λx b=>by
 rcases wC.1 b with b|b
 ·exact h x b
 ·rw[hU.1 b];exact g
theorem CZ{S:Spc}{lies:List Ent->ByteArray->Out Ent}(o:∀f nm b e,Hs S f->lies f nm=.inl (b,e)->Hs S b):∀k f i g b x,Hs S f->LkHas S g->bR S lies t k f i g=.inl (b,x)->Hs S b/\LkHas S x.2:=by
 intro k;induction k with
 |zero=>intro f i g b x _ _ h;cases h
 |succ k m =>
  intro f i g b x j l h;rw[bR] at h;split at h
  ·cases h
   exact⟨j,l⟩
  {split at h;{exact m _ _ _ _ _ j (l.add λ_=>rfl) h};{split at h;{rename_i made1 e n;exact m _ _ _ _ _ (o _ _ _ _ j n) (l.add λh=>by cases h) h};{cases h};{cases h}}}
theorem Ai (S:Spc):∀n f g nm b e,Hs S g->aP S n f g nm=.inl (b,e)->Hs S b:=by
 intro n;have j:∀f g nm b e (tgt:Nat->Out Ent),Hs S g->(∀t b e,tgt t=.inl (b,e)->Hs S b)->du S tgt f g nm=.inl (b,e)->Hs S b:=by
  intro f g nm b e tgt i l h;unfold du at h;split at h;{cases h;exact i};{split at h;{cases h};{unfold fj dV at h;split at h;{cases h;exact i.add (mN S)};{split at h;{exact l _ _ _ h};{cases h;exact i.add (mN S)}}}}
 induction n with
 |zero =>intro f g nm b e i h;rw[aP] at h;exact j _ _ _ _ _ _ i (λt _ _ h=>by cases h) h
 |succ n m =>
  intro f g nm b e i h;rw[aP] at h;refine j _ _ _ _ _ _ i (λt b e h=>?_) h;rcases hr:bR S (aP S n (f++[nm])) t 201 g [] [] with ⟨made1,x⟩|c|c;{rw[hr] at h;simp only[gR,dV,PR,KH] at h;obtain⟨rfl,rfl⟩:=h;obtain⟨h1,h2⟩:=CZ (λg nm b e=>m _ g nm b e) _ _ _ _ _ _ i (mN S) hr;exact h1.add h2};{rw[hr] at h;cases h};{rw[hr] at h;cases h}
theorem uA{t:ByteArray}(h:atI g n t=Z):aG g n t=ZA:=by
 cases e:aG g n t with
 |false=>rfl
 |true =>obtain⟨k,b,hb⟩:=oe e;exact absurd hb (NT.1 h k (KV.2 b))
theorem rO{p:Nat->Bool}(h:∀i,i<n->p i=ZA):aM p n=ZA:=by
 cases e:aM p n with
 |false=>rfl
 |true =>obtain⟨k,b,hb⟩:=ig e;rw[h k b] at hb;cases hb
theorem lI {f g:Nat->Ins}:∀{n:Nat},(∀i,i<n->f i=g i)->cH f g n=ZD
 |0,_=>rfl
 |n+1,h=>by rw[cH,lI λi hi=>h i (by omega),h n (by omega)];simp[jL]
theorem rP {f:Nat->au}{p:Nat}:∀ZO k,(∀i,i<ZO->ec f p (k+i)=ZA)->ee f p ZO k=k+ZO
 |0,_,_=>rfl
 |ZO+1,k,h=>by rw[ee,eT (by have:=h 0 (by omega);rw[LX] at this;rw[this];simp),rP ZO (k+1) λi hi=>by rw[show k+1+i=k+(i+1) by omega];exact h (i+1) (by omega)];omega
theorem rQ (h:(f p).L=3->(∀j,j<(f p).f->(bo f p j).K=ZA/\(bo f p j).e=((f p).m j).e/\(bo f p j).ask=((f p).m j).ask)/\(bo f p (f p).f).K=ZD/\(bo f p (f p).f).M=(f p).M/\(bo f p (f p).f).H=(f p).H):codeF f p=0:=by
 unfold codeF;split
 ·rename_i g;obtain⟨h1,h2,l,m⟩:=h g;have n:bu f p=(f p).f:=by
   unfold bu
   rw[rP _ _ λi hi=>by
    obtain⟨a,b,c⟩:=h1 i hi;rw[IT]
    simp[ec,a,b,c]]
   omega
  unfold fP;rw[n,eT (by omega),eT (by rw[h2];simp),j6 ⟨l,by rw[m]⟩]
 {rfl}
theorem rR{S:Spc}(O:SpcOk S)(hn:aB nm=ZD){M:List Ent}{e:Ent}(h:aP S 60 [] [] nm=.inl (M,e)):bv (dF (aT S M)) M.length=ZD/\∀p,p<M.length->Borne S (dF (aT S M)) p:=by
 obtain⟨h1,-,-,-,hM,hR⟩:=CO O hn h;have hH:=Ai S 60 [] [] nm M e (λx o=>absurd o nj) h;have H:bv (dF (aT S M)) M.length=ZD:=by unfold bv;rw[h1];rfl
 refine⟨H,λp ZO=>?_⟩;have o:M[p]?=T M[p]:=gq ZO;generalize M[p]=x at o;have q:=J2 o;have ZP:=hM.W x q;have n:dF (aT S M) p=a8 S M x:=gO o;have hlk:∀j l,x.looks[j]?=T l->(a8 S M x).m j=lkD M l:=λj l K=>km K;refine⟨?_,?_,rQ λZQ=>?_⟩
 ·rw[n];unfold gE;rcases ZP.L with ⟨k,-,-,i,hi,s⟩|⟨k,-,-,-,h2,B⟩|⟨k,-,B⟩
  {rw[j6 (show(a8 S M x).L=1 from k)];obtain⟨C,u⟩:=bc hi;have:jP S.n0 S.f0 (a8 S M x).e (a8 S M x).H=ZD:=cW C (by show((nm0 S.f0 i).toList == x.e.toList && (S.f0 i).H.toList == x.H.toList)=ZD;rw[u,s];simp);rw[this];rfl};{have G:(a8 S M x).L=2:=k;rw[eT (by omega),eT (by omega)];show(aG (nm0 S.f0) S.n0 x.e || aG (nm1 S.f1) S.n1 x.e)=ZA;rw[uA h2,uA B];rfl}
  ·have G:(a8 S M x).L=3:=k;rw[eT (by omega),j6 G];obtain⟨C,u⟩:=bc B;have A:(a8 S M x).h=(S.f1 x.tg).h:=by show bM S x=_;unfold bM;rw[j6 k]
   have:je S.n1 S.f1 (a8 S M x).e (a8 S M x).h (a8 S M x).u=ZD:=cW C (by
    show((nm1 S.f1 x.tg).toList == x.e.toList && cB (S.f1 x.tg).u (a8 S M x).u (S.f1 x.tg).h (a8 S M x).h)=ZD;rw[u,A];simp only[cB,decide_true,MR,beq_self_eq_true]
    exact lI λ_ _=>rfl)
   rw[this];rfl
 ·rw[n];refine rO λj g=>?_;have t:j<x.looks.length:=g;have b:x.looks[j]?=T x.looks[j]:=gq t;have f:=gz t;simp only[hlk j _ b];generalize x.looks[j]=l at f;unfold dZ lkD;cases m:l.ask with
  |true=>rfl
  |false =>have:=hH x q l f m;show(!ZA && !(l.has == fo S l.e))=ZA;rw[this];simp
 ·rw[n] at ZQ;have k:x.L=3:=ZQ;have A:(a8 S M x).h=(S.f1 x.tg).h:=by show bM S x=_;unfold bM;rw[j6 k]
  have r:∀j,j<x.looks.length->yOf (dF (aT S M)) p j=yL (x.looks.map (dm M)) j:=λj g=>by
   have b:x.looks[j]?=T x.looks[j]:=gq g;have f:=gz g;have ZN:yL (x.looks.map (dm M)) j=dm M x.looks[j]:=by simp[yL,g]
   unfold yOf;rw[n,hlk j _ b,ZN];generalize x.looks[j]=l at f;by_cases m:l.ask=ZD
   ·obtain⟨y,r,hny,hlt⟩:=hM.asked o f m;have D:(lkD M l).G.toNat=gN M l.e:=by unfold lkD;simp[m]
    rw[mF H (show(lkD M l).ask=ZD from m) (by rw[D];omega),D,gO r];have L:aO M l.e=T y:=by obtain⟨z,hz⟩:=(hR x q).ahd l f m;obtain⟨z1,z2⟩:=gK hz;obtain⟨i,hi⟩:=LZ z1;have:=hM.idx hi;rw[z2] at this;rw[this,hi] at r;rw[hz];exact r
    unfold dm;rw[j6 m,L];rfl
   {unfold dm ej;rw[eT m,eT (show ¬ (lkD M l).ask=ZD from m)];rfl}
  have s:∀j,j<=x.looks.length->bo (dF (aT S M)) p j=bG S x.tg ((x.looks.take j).map (dm M)):=λj g=>by unfold bo bG;rw[n,A,MP,LY,MZ g];refine jT _ _ _ _ _ _ _ _ _ _ λi _ hi=>?_;rw[r i (by omega)];simp[yL,hi,show i<x.looks.length by omega]
  have P:(dF (aT S M) p).f=x.looks.length:=by rw[n];rfl
  rw[P];refine⟨λj g=>?_,?_⟩;{have b:x.looks[j]?=T x.looks[j]:=gq g;rw[s j (by omega),n,hlk j _ b];exact(hR x q).go k j _ b};{rw[s _ ly,List.take_length,n];exact(hR x q).fin k}
section
variable {f g:Nat->au}{n:Nat}
theorem DeedEq.refl (x:au):DeedEq x x:=⟨rfl,rfl,rfl,rfl,rfl,λ_ _=>rfl,rfl,λ_ _=>rfl⟩
theorem DeedEq.symm{x y:au}(h:DeedEq x y):DeedEq y x:=⟨h.e.symm,h.L.symm,h.M.symm,h.H.symm,h.h.symm,λi hi=>(h.u i (by rw[h.h];exact hi)).symm,h.f.symm,λi hi=>(h.m i (by rw[h.f];exact hi)).symm⟩
theorem yy{b:Nat->Ins}(h:∀i,i<m->a i=b i):valid a m=valid b m:=by
 have:∀k,k<=m->cY a k=cY b k:=by
  intro k;induction k with
  |zero=>intro _;rfl
  |succ k f=>intro hk;rw[cY,cY,f (by omega),h k (by omega)]
 unfold valid;rw[this m ly ]
theorem mO {p:Nat}{x y:au}(j:p<n)(h:∀i,i<n->DeedEq (f i) (g i)):∀k,(∀i,i<k->x.m i=y.m i)->bI f p x k=bI g p y k
 |0,_=>rfl
 |k+1,hl=>by
  rw[bI,bI,mO j h k λi hi=>hl i (by omega),hl k (by omega)];congr 1;unfold dH;by_cases b:(0<=(y.m k).G/\(y.m k).G<(p:Int))
  ·rw[(h (y.m k).G.toNat (by omega)).e]
  ·have:(decide (0<=(y.m k).G) && decide ((y.m k).G<(p:Int)))=ZA:=by
    rw[Bool.and_eq_false_iff];rcases Decidable.not_and_iff_or_not.1 b with b|b
    ·exact .inl (MX b)
    ·exact .inr (MX b)
   cases (y.m k).has<;>cases h1:decide (0<=(y.m k).G)<;>cases h2:decide ((y.m k).G<(p:Int))<;>simp_all
theorem vR (h:∀i,i<n->DeedEq (f i) (g i))(b:p<n):bi f p=bi g p:=by have e:=h p b;unfold bi kindOk aU bW;rw[mO b h (f p).f e.m,yy e.u,e.e,e.L,e.M,e.H,e.h,e.f]
theorem mP (h:∀i,i<n->DeedEq (f i) (g i)){p:Nat}(b:p<n):∀k,k<=n->aR f p k=aR g p k
 |0,_=>rfl
 |k+1,hk=>by rw[aR,aR,mP h b k (by omega),(h p b).e,(h k (by omega)).e]
theorem jp {a b:Nat->Bool}:∀{m:Nat},(∀i,i<m->a i=b i)->aI a m=aI b m
 |0,_=>rfl
 |m+1,h=>by rw[aI,aI,jp λi hi=>h i (by omega),h m (by omega)]
theorem uB (b:fC f n)(h:∀i,i<n->DeedEq (f i) (g i)):∀k p d s,p<n->lst f k p d s=lst g k p d s
 |0,_,_,_,_=>rfl
 |k+1,p,d,s,hp=>by
  have e:=h p hp;have l:∀j,j<=(f p).f->lks (lst f k) (f p) d s j=lks (lst g k) (g p) d s j:=by
   intro j;induction j with
   |zero=>intro _;rfl
   |succ j o =>
    intro hj;rw[lks,lks,o (by omega),e.m j (by omega)];split
    ·rename_i m
     have q:=(b p hp j (by omega) (by rw[e.m j (by omega)];exact m.1)).1;rw[e.m j (by omega)] at q;rw[uB b h k _ _ _ (by omega)]
    ·rfl
  rw[lst,lst,l _ ly,e.f]
theorem nS (h:∀i,i<n->DeedEq (f i) (g i)):∀(L:List (Nat × Nat)),(∀x∈L,x.1<n)->aY f L=aY g L
 |[],_=>rfl
 |x::L,hl=>by rw[aY,aY,(h x.1 (hl x NH)).L,nS h L λy b=>hl y (mq _ b)]
theorem yz (h:∀i,i<n->DeedEq (f i) (g i))(l:bv f n=ZD):bv g n=ZD:=by
 obtain⟨h1,h2,r⟩:=fl l;have o:=gP r;have m:=uB o h n (n - 1) 0 (λ_=>ZA) (by omega);have j:=(qj o n (n - 1) 0 (λ_=>ZA) (by omega) (by omega) rfl).le;have e:dh f n=dh g n:=by unfold dh aD;rw[m] at j;rw[jp λi hi=>vR h hi,jp (a:=λp=>aR f p p) (b:=λp=>aR g p p) λi hi=>mP h hi i (by omega),m,nS h _ λx q=>by have:=j x q;omega]
 unfold bv at l ⊢;rw[<-e];exact l
theorem pS (o:bv f n=ZD)(h:∀i,i<n->DeedEq (f i) (g i))(l:p<n)(hj:j<=(f p).f):bo g p j=bo f p j:=by
 have e:=h p l;unfold bo;rw[<-e.h,<-rK e.u];refine jT _ _ _ _ _ _ _ _ _ _ λi _ hi=>?_;unfold yOf ej;rw[e.m i (by omega)];split;{rename_i m;have:=eS o p l i (by omega) (by rw[e.m i (by omega)];exact m);rw[e.m i (by omega)] at this;have b:=h ((g p).m i).G.toNat (by omega);rw[b.L,b.M,b.H]};{rfl}
theorem yA{b c:Nat->Ins}{k:Nat}(h:∀i,i<k->b i=c i):cB a b m k=cB a c m k:=by
 unfold cB;by_cases e:m=k
 ·subst e;have:∀j,j<=m->cH a b j=cH a c j:=by
   intro j;induction j with
   |zero=>intro _;rfl
   |succ j f=>intro hj;rw[cH,cH,f (by omega),h j (by omega)]
  rw[this m ly ]
 {simp[e]}
theorem yB{S:Spc}(o:bv f n=ZD)(h:∀i,i<n->DeedEq (f i) (g i))(m:p<n)(l:Borne S f p):Borne S g p:=by
 have e:=h p m;refine⟨?_,?_,rQ λq=>?_⟩;{have:=l.lie;unfold gE je at this ⊢;rw[<-e.L,<-e.e,<-e.H,<-e.h];simp only[<-yA e.u];exact this};{refine rO λj b=>?_;rw[<-e.f] at b;have:=jn l.has b;rw[e.m j b] at this;exact this};{obtain⟨h1,h2⟩:=uy l.run (by rw[e.L];exact q);rw[<-e.f];refine⟨λj b=>?_,?_⟩;{rw[pS o h m (by omega),<-e.m j b];exact h1 j b};{rw[pS o h m ly,<-e.M,<-e.H];exact h2}}
end
def dq (n0:Nat)(f0:Nat->Source)(n1:Nat)(f1:Nat->Target)(f:Nat->au)(p:Nat):Int:=if gE n0 f0 n1 f1 (f p)=ZD then 2 else if hasB n0 f0 n1 f1 (f p)=ZD then 3 else codeF f p
def eP (c:Nat->Int):Nat->Int × Int
 |0=>(0,0)
 |k+1=>if (eP c k).1=0 then (if c k=0 then (0,0) else (c k,(k:Int))) else eP c k
def iC (n0:Nat)(f0:Nat->Source)(n1:Nat)(f1:Nat->Target)(f:Nat->au)(n:Nat):Int × Int:=if bv f n=ZD then (if bq n0 f0 n1 f1=0 then eP (dq n0 f0 n1 f1 f) n else (1,0)) else (1,0)
theorem iP{c:Nat->Int}{k:Nat}(hk:k<n)(f:∀i,i<k->c i=0)(h:c k≠0):eP c n=(c k,(k:Int)):=by
 have hz:∀m,m<=k->eP c m=(0,0):=by
  intro m hm;induction m with
  |zero=>rfl
  |succ m b=>rw[eP,b (by omega),j6 rfl,j6 (f m (by omega))]
 induction n with
 |zero=>omega
 |succ n b =>
  rw[eP];by_cases e:k=n;{subst e;rw[hz k ly,j6 rfl,eT h]};{rw[b (by omega),eT h]}
theorem mQ{c:Nat->Int}(b:∀i,i<n->c i=0):eP c n=(0,0):=by
 induction n with
 |zero=>rfl
 |succ m f=>rw[eP,f λi hi=>b i (by omega),j6 rfl,j6 (b m (by omega))]
theorem Dc (n0:Nat)(f0:Nat->Source)(n1:Nat)(f1:Nat->Target)(f:Nat->au)(p:Nat):dq n0 f0 n1 f1 f p=if gE n0 f0 n1 f1 (f p)=ZD then 2 else if hasB n0 f0 n1 f1 (f p)=ZD then 3 else if jl f p=ZD then 4 else if oK f p=ZD then 5 else 0:=by unfold dq;rw[Fo]
