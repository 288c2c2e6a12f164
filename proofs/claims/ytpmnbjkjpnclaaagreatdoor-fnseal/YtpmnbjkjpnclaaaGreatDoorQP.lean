import Derived.Test.YtpmnbjkjpnclaaaGreatDoorQM
set_option linter.unusedSimpArgs false
open Option renaming none->U,some->T
open Bool renaming false->ZA,true->ZG
namespace Go.Proofs.YtpmnbjkjpnclaaaGreatDoor.Vp
open RowKit
variable {nm x:ByteArray}{b making L:List ByteArray}{i t looks n place steps:Nat}{f:Nat->Ins}{c:Int}{p:Nat->Bool}
structure Spc where
 n0:Nat
 f0:Nat->Source
 n1:Nat
 f1:Nat->Target
structure Lk where
 e:ByteArray
 ask:Bool
 has:Bool
structure Ent where
 e:ByteArray
 m:Int
 E:Int
 B:ByteArray
 tg:Nat
 looks:List Lk
abbrev Out (b:Type):=(List Ent × b) ⊕ List ByteArray ⊕ ByteArray
def Fi:aK:=⟨ZA,0,⟨#[]⟩⟩
def yL (b:List aK):Nat->aK:=λk=>b.getD k Fi
def nw (e:Ent):aK:=⟨decide (¬ e.m=2),e.E,e.B⟩
def kW (S:Spc)(t:ByteArray):Bool:=cI (nm0 S.f0) S.n0 t || cI (nm1 S.f1) S.n1 t
def atI (g:Nat->ByteArray)(n:Nat)(t:ByteArray):Option Nat:=(List.range n).find? λi=>(g i).toList == t.toList
def atL (L:List ByteArray)(t:ByteArray):Option Nat:=L.findIdx? λx=>x.toList == t.toList
def cL (b:List Ent)(t:ByteArray):Option Ent:=b.find? λe=>e.e.toList == t.toList
def eY (S:Spc)(t:Nat)(b:List aK):Turn:=dS (S.f1 t).H (S.f1 t).f (yL b) b.length 2001 0 0 0 []
def dW (S:Spc)(b:List Ent->ByteArray->Out Ent)(t:Nat):Nat->List Ent->List aK->List Lk->Out (Turn × List Lk)
 |0,_,_,_=>.inr (.inr ⟨#[]⟩)
 |k+1,made,ys,ls =>
  if (eY S t ys).over=ZG then .inl (made,(eY S t ys,ls))
  else if (eY S t ys).ask=ZA then dW S b t k made (ys++[⟨kW S (eY S t ys).e,0,⟨#[]⟩⟩]) (ls++[⟨(eY S t ys).e,ZA,kW S (eY S t ys).e⟩])
  else match b made (eY S t ys).e with
   |.inl (made',e)=>dW S b t k made' (ys++[nw e]) (ls++[⟨(eY S t ys).e,ZG,ZA⟩])
   |.inr (.inl c)=>.inr (.inl c)
   |.inr (.inr d)=>.inr (.inr d)
def jq (b:List Ent)(e:Ent):Out Ent:=.inl ((b++[e]),e)
def ny (nm:ByteArray)(t:Nat):Out (Turn × List Lk)->Out Ent
 |.inl (made,x)=>jq made ⟨nm,3,x.1.E,x.1.B,t,x.2⟩
 |.inr (.inl c)=>.inr (.inl c)
 |.inr (.inr d)=>.inr (.inr d)
def jY (S:Spc)(tgt:Nat->Out Ent)(b:List Ent)(nm:ByteArray):Out Ent :=
 match atI (nm0 S.f0) S.n0 nm with
 |some i=>jq b ⟨nm,1,0,(S.f0 i).B,0,[]⟩
 |none=>match atI (nm1 S.f1) S.n1 nm with
  |some t=>tgt t
  |none=>jq b ⟨nm,2,0,⟨#[]⟩,0,[]⟩
def fV (S:Spc)(tgt:Nat->Out Ent)(b:List ByteArray)(c:List Ent)(nm:ByteArray):Out Ent :=
 match cL c nm with
 |some e=>.inl (c,e)
 |none=>match atL b nm with
  |some i=>.inr (.inl (b.drop i))
  |none=>jY S tgt c nm
def bH (S:Spc):Nat->List ByteArray->List Ent->ByteArray->Out Ent
 |0,making,made,nm=>fV S (λ_=>.inr (.inr nm)) making made nm
 |n+1,making,made,nm=>fV S (λt=>ny nm t (dW S (bH S n (making++[nm])) t 201 made [] [])) making made nm
def Kn (S:Spc)(n:Nat)(b:List ByteArray)(c:List Ent)(nm:ByteArray)(t:Nat):Out Ent :=
 match n with
 |0=>.inr (.inr nm)
 |n+1=>ny nm t (dW S (bH S n (b++[nm])) t 201 c [] [])
theorem Fj (S:Spc)(n:Nat)(b:List ByteArray)(c:List Ent)(nm:ByteArray):bH S n b c nm=fV S (Kn S n b c nm) b c nm:=by
 cases n with
 |zero=>rw[bH];rfl
 |succ n=>rw[bH];rfl
structure kY where
 E:Int
 B:ByteArray
 j:List ByteArray
def dQ (e:Ent):kY:=if e.m=2 then ⟨4,e.e,[]⟩ else ⟨e.E,e.B,[]⟩
def ci (S:Spc)(nm:ByteArray):List Ent × kY :=
 if ce S.n0 S.f0 S.n1 S.f1=0/\aw nm=ZG then
  (match bH S 60 [] [] nm with
   |.inl (made,e)=>(made,dQ e)
   |.inr (.inl c)=>([],⟨6,⟨#[]⟩,c⟩)
   |.inr (.inr d)=>([],⟨7,d,[]⟩))
 else ([],⟨9,⟨#[]⟩,[]⟩)
theorem J8 (b:List aK)(r:aK):yL (b++[r]) b.length=r:=by simp[yL]
theorem Jp (b:List aK)(r:aK){k:Nat}(h:k<b.length):yL (b++[r]) k=yL b k:=by simp[yL,N9 h]
theorem JR (f:Nat->Ins)(cnt:Nat)(y z:Nat->aK)(n:Nat)(k:Nat):∀place steps looks b,(∀i,looks<=i->i<n->y i=z i)->dS f cnt y n k place steps looks b=dS f cnt z n k place steps looks b:=by
 induction k with
 |zero=>intro _ _ _ _ _;rfl
 |succ k g =>
  intro place steps looks b h;rw[dS,dS];rcases dr f cnt place steps looks b with ⟨s,p⟩|⟨c,x⟩|⟨a,nm,s⟩
  {exact g _ _ _ _ h};{rfl};{simp only;by_cases hn:n<=looks;{rw[p6 hn,p6 hn]};{rw[gM hn,gM hn,h looks ly (by omega),g _ _ _ _ λi hi=>h i (by omega),g _ _ _ _ λi hi=>h i (by omega)]}}
theorem qx (u:Nat):(Lib.decDigits u).length<=u+1:=by
 induction u using Nat.strongRecOn with
 |ind u b =>
  rw[Lib.decDigits];split;{simp};{have:=b (u / 10) (by omega);simp only[cM,eL,nX];omega}
theorem kI{p:Nat}(h:p<=2000):(fg p).size<=2000:=by
 show(Lib.decDigits p).length<=2000;rw[Lib.decDigits];split;{simp};{have:=qx (p / 10);simp only[cM,eL,nX];omega}
def nT (c:Int)(x:ByteArray):Prop:=0<=c/\c<=5/\x.size<=2000
theorem Aa{ask:Bool}{a:ByteArray}{r:List ByteArray}{here:Nat}(h:kG ask a r here looks=.inr (.inl (c,x)))(b:here<=2000):nT c x:=by
 unfold kG at h;split at h;{cases h;exact⟨by omega,by omega,kI b⟩};{split at h;{cases h;exact⟨by omega,by omega,by decide⟩};{cases h}}
theorem tK{op:Nat}{t:ByteArray}{here:Nat}(h:dP op n t here looks b=.inr (.inl (c,x)))(f:∀z∈b,z.size<=2000)(g:here<=2000):nT c x:=by
  unfold dP at h;split at h;all_goals first
    |(cases h;done)
    |exact Aa h g
    | (split at h
       · cases h
       · cases h;exact⟨by omega,by omega,kI g⟩)
    |(cases h;exact⟨by omega,by omega,f _ (by simp)⟩)
    |(cases h;exact⟨by omega,by omega,by decide⟩)
theorem Ab{cnt:Nat}(h:dr f cnt place steps looks b=.inr (.inl (c,x)))(i:∀z∈b,z.size<=2000)(g:place<=2000):nT c x:=by
 unfold dr at h;split at h;{cases h;exact⟨by omega,by omega,kI g⟩};{split at h;{cases h;exact⟨by omega,by omega,by decide⟩};{split at h;{cases h;exact⟨by omega,by omega,kI g⟩};{exact tK h i g}}}
theorem xt{cnt:Nat}(h1:b.length<=50)(h2:∀z∈b,z.size<=2000)(h3:looks<=200)(c:dC f cnt=ZG)(hc:cnt<=200):kV (dr f cnt place steps looks b) looks:=by
 unfold dr;split;{trivial}
 ·rename_i h1;split;{trivial}
  ·split;{trivial}
   ·rename_i h3;have hi:=gP c (show place<cnt by omega);simp only[aH,AI] at hi;obtain⟨i1,i2,i3,i4,i5⟩:=hi;have hmt:bO (f place).op<=2000:=by unfold bO;split<;>(try split)<;>omega
    have hmt2:aE (f place).op<=2000:=by unfold aE;split<;>omega
    exact mL _ _ _ _ _ _ (by assumption) h2 (by omega) (by omega) (by omega) (by assumption) (by omega) (by omega) (by simpa using h3)
def Ck (n:Nat)(ZL:Turn):Prop:=(ZL.over=ZG/\nT ZL.E ZL.B)∨(ZL.over=ZA/\n<200/\aw ZL.e=ZG)
theorem vl{cnt:Nat}{s:List ByteArray}{a:Bool}(h:dr f cnt place steps looks b=.inr (.inr (a,nm,s))):place<cnt:=by
 unfold dr at h;split at h;{cases h};{omega}
theorem Cl (h:aw nm=ZG):nm.size<=60:=by simp only[aw,z8,AI] at h;omega
theorem Fl (f:Nat->Ins)(cnt:Nat)(y:Nat->aK)(n:Nat)(t:dC f cnt=ZG)(A:cnt<=200)(u:∀i,i<n->(y i).B.size<=2000)(k:Nat):∀place steps looks b,b.length<=50->(∀z∈b,z.size<=2000)->place<=2000->steps<=2000->looks<=200->looks<=n->k+steps=2001->Ck n (dS f cnt y n k place steps looks b):=by
 induction k with
 |zero=>intro _ _ _ _ _ _ _ _ _ _ h;omega
 |succ k m =>
  intro place steps looks b h1 h2 h3 h4 r C h7;have g:=xt (f:=f) (cnt:=cnt) (place:=place) (steps:=steps) h1 h2 r t A;rw[dS];rcases hs:dr f cnt place steps looks b with ⟨s,p⟩|⟨c,x⟩|⟨a,nm,s⟩
  {rw[hs] at g;obtain⟨q,l,j⟩:=g;obtain⟨o,B⟩:=vh hs;simp only;rw[o];exact m _ _ _ _ q l j (by omega) r C (by omega)};{exact .inl ⟨rfl,Ab hs h2 h3⟩};{rw[hs] at g;obtain⟨q,l,j,g4⟩:=g;obtain⟨o,B⟩:=qw hs;have hp:=vl hs;have hz:=Cl j;simp only;rw[o];split;{exact .inr ⟨rfl,by omega,j⟩};{split;{refine m _ _ _ _ (by simp;omega) (λz hz=>?_) (by omega) (by omega) (by omega) (by omega) (by omega);rcases AT.1 hz with rfl|hz;{exact mu _};{exact l z hz}};{split;{exact .inl ⟨rfl,by simp[iH],by simp[iH],by simp only[iH];omega⟩};{split;{refine m _ _ _ _ (by simp;omega) (λz hz=>?_) (by omega) (by omega) (by omega) (by omega) (by omega);rcases AT.1 hz with rfl|hz;{exact u _ (by omega)};{exact l z hz}};{exact .inl ⟨rfl,by simp[iH],by simp[iH],by simp only[iH];omega⟩}}}}}
def jz (S:Spc)(b:List ByteArray)(c:List Ent):Nat->Bool:=λt=>(cL c (S.f1 t).e).isNone && (atL b (S.f1 t).e).isNone
def ei (S:Spc)(b:List ByteArray)(c:List Ent):Nat:=(List.range S.n1).countP (jz S b c)
theorem je (b:List Ent)(e:Ent)(t:ByteArray):cL (b++[e]) t=(cL b t).or (if (e.e.toList == t.toList)=ZG then T e else U):=by unfold cL;rw[List.find?_append];cases h:(e.e.toList == t.toList)<;>simp[h]
theorem rq (L:List ByteArray)(x t:ByteArray):(atL (L++[x]) t).isNone=((atL L t).isNone && !(x.toList == t.toList)):=by unfold atL;rw[List.findIdx?_append];cases h:(x.toList == t.toList)<;>cases h2:List.findIdx? (λx=>x.toList == t.toList) L<;>simp[h,List.findIdx?_cons]
theorem kJ (S:Spc)(b:List ByteArray)(c:List Ent)(e:Ent):ei S b (c++[e])<=ei S b c:=by
 refine TT λt _ h=>?_;simp only[jz,z8,je] at h ⊢;refine⟨?_,h.2⟩;cases h2:cL c (S.f1 t).e with
 |none=>rfl
 |some x=>rw[h2] at h;simp at h
theorem sJ (S:Spc)(b:List ByteArray)(c:List Ent)(e:Ent):ei S b (c++[e])<=ei S (b++[e.e]) c:=by
 refine TT λt _ h=>?_;simp only[jz,z8,je,rq] at h ⊢;cases h2:cL c (S.f1 t).e with
 |some x=>rw[h2] at h;simp at h
 |none =>
  rw[h2] at h;refine⟨rfl,h.2,?_⟩;cases h3:(e.e.toList == (S.f1 t).e.toList) with
  |false=>rfl
  |true=>rw[h3] at h;simp at h
theorem sK{q:Nat->Bool}{l:List Nat}(h:∀x∈l,p x=ZG->q x=ZG){a:Nat}(b:a∈l)(h1:p a=ZA)(h2:q a=ZG):l.countP p+1<=l.countP q:=by
 induction l with
 |nil=>cases b
 |cons x l c =>
  have hm:l.countP p<=l.countP q:=TT λz hz=>h z (mq _ hz);rw[List.countP_cons,List.countP_cons];rcases AT.1 b with rfl|b;{rw[h1,h2];simp;omega}
  ·have:=c (λz hz=>h z (mq _ hz)) b;cases hp:p x with
   |false=>simp;split<;>omega
   |true=>rw[h x List.mem_cons_self hp];simp;omega
theorem iV{S:Spc}{made:List Ent}(b:t<S.n1)(hn:(S.f1 t).e=nm)(h1:cL made nm=U)(h2:atL making nm=U):ei S (making++[nm]) made+1<=ei S making made:=by
 refine sK (λx _ h=>?_) (PE.2 b) ?_ ?_;{simp only[jz,z8,rq] at h ⊢;exact⟨h.1,h.2.1⟩};{simp[jz,rq,hn]};{simp[jz,hn,h1,h2]}
theorem cW{g:Nat->ByteArray}{t:ByteArray}(h:atI g n t=T i):i<n/\g i=t:=by unfold atI at h;have h1:=List.find?_some h;have h2:=List.mem_of_find?_eq_some h;exact⟨PE.1 h2,bytes_beq h1⟩
def gA (S:Spc)(b:List ByteArray)(f c:List Ent)(k:Nat):Prop:=c.length+201*ei S b c<=f.length+201*ei S b f+k
theorem sL{S:Spc}{f:List Ent->ByteArray->Out Ent}(m:∀c nm b e,f c nm=.inl (b,e)->gA S making c b 1):∀k c g i b x,dW S f t k c g i=.inl (b,x)->gA S making c b (k - 1):=by
 intro k;induction k with
 |zero=>intro c g i b x h;cases h
 |succ k j =>
  intro c g i b x h;rw[dW] at h;split at h;{cases h;unfold gA;omega}
  ·cases k with
   |zero =>
    split at h;{cases h};{split at h<;>cases h}
   |succ k =>
    split at h;{have:=j _ _ _ _ _ h;unfold gA at this ⊢;omega};{split at h;{rename_i made1 e l;have h1:=m _ _ _ _ l;have h2:=j _ _ _ _ _ h;unfold gA at h1 h2 ⊢;omega};{cases h};{cases h}}
theorem mx (S:Spc):∀n b g nm f e,bH S n b g nm=.inl (f,e)->gA S b g f 1:=by
 intro n;have l:∀b g nm f e (tgt:Nat->Out Ent),(∀t f e,atI (nm1 S.f1) S.n1 nm=T t->cL g nm=U->atL b nm=U->tgt t=.inl (f,e)->gA S b g f 1)->fV S tgt b g nm=.inl (f,e)->gA S b g f 1:=by
  intro b g nm f e tgt q h;unfold fV at h;split at h;{cases h;unfold gA;omega}
  ·rename_i m;split at h;{cases h}
   ·rename_i h1;unfold jY jq at h;split at h
    ·rename_i i hi;cases h
     have:=kJ S b g ⟨nm,1,0,(S.f0 i).B,0,[]⟩;unfold gA;rw[cM,DW];omega
    ·split at h;{rename_i t h3;exact q _ _ _ h3 m h1 h}
     ·cases h
      have:=kJ S b g ⟨nm,2,0,⟨#[]⟩,0,[]⟩;unfold gA;rw[cM,DW];omega
 induction n with
 |zero =>intro b g nm f e h;rw[bH] at h;exact l _ _ _ _ _ _ (λt _ _ _ _ _ h=>by cases h) h
 |succ n o =>
  intro b g nm f e h;rw[bH] at h;refine l _ _ _ _ _ _ (λt f e h3 m h1 h=>?_) h;rcases hr:dW S (bH S n (b++[nm])) t 201 g [] [] with ⟨j,x⟩|c|c;{rw[hr] at h;simp only[ny,jq,XP,LK] at h;obtain⟨rfl,rfl⟩:=h;have p:=sL (making:=b++[nm]) (λg nm2 f e r=>o _ _ _ _ _ r) _ _ _ _ _ _ hr;have g2:=iV (making:=b) (made:=g) (cW h3).1 (cW h3).2 m h1;have g3:ei S b (j++[⟨nm,3,x.1.E,x.1.B,t,x.2⟩])<=ei S (b++[nm]) j:=sJ S b j ⟨nm,3,x.1.E,x.1.B,t,x.2⟩;unfold gA at p ⊢;rw[cM,DW];omega};{rw[hr] at h;cases h};{rw[hr] at h;cases h}
structure SpcOk (S:Spc):Prop where
 chk:ce S.n0 S.f0 S.n1 S.f1=0
 asc0:dR (nm0 S.f0) S.n0=ZG
 asc1:dR (nm1 S.f1) S.n1=ZG
 av:S.n0+S.n1<=200
 B:∀i,i<S.n0->(S.f0 i).B.size<=2000
 H:∀t,t<S.n1->valid (S.f1 t).H (S.f1 t).f=ZG
theorem pn (h:dG p n=ZA)(hi:i<n):p i=ZA:=by
 induction n with
 |zero=>omega
 |succ n b =>
  rw[dG,Bool.or_eq_false_iff] at h;by_cases e:i=n;{subst e;exact h.2};{exact b h.1 (by omega)}
theorem SpcOk.of{S:Spc}(h:ce S.n0 S.f0 S.n1 S.f1=0):SpcOk S:=by
 obtain⟨h1,h2,h3⟩:=AJ h;have f:=h;unfold ce at h;split at h;· omega
 split at h;· omega
 split at h;· omega
 split at h;· omega
 split at h;· omega
 split at h;· omega
 split at h;· omega
 split at h;· omega
 rename_i b c;refine⟨f,h1,h2,h3,λi hi=>?_,λt g=>?_⟩;{have:=pn (Bool.eq_false_iff.2 b) hi;simp only[pN,OU] at this;omega};{have:=pn (Bool.eq_false_iff.2 c) g;simpa[eZ] using this}
structure EG (S:Spc)(x:Ent):Prop where
 nm:aw x.e=ZG
 tx:x.B.size<=2000
 E:0<=x.E/\x.E<=5
 m:(x.m=1/\x.E=0/\x.looks=[]/\∃i,atI (nm0 S.f0) S.n0 x.e=T i/\x.B=(S.f0 i).B)∨(x.m=2/\x.E=0/\x.B=⟨#[]⟩/\x.looks=[]/\atI (nm0 S.f0) S.n0 x.e=U/\atI (nm1 S.f1) S.n1 x.e=U)∨(x.m=3/\atI (nm0 S.f0) S.n0 x.e=U/\atI (nm1 S.f1) S.n1 x.e=T x.tg)
 looks:x.looks.length<=200
 lname:∀l∈x.looks,aw l.e=ZG
structure PG (S:Spc)(making:List ByteArray)(made:List Ent):Prop where
 ents:∀x∈made,EG S x
 nod:made.Pairwise λx y=>x.e≠y.e
 off:∀x∈made,atL making x.e=U
 ord:∀(i:Nat) (x:Ent),made[i]?=T x->∀l∈x.looks,l.ask=ZG->∃(j:Nat) (y:Ent),j<i/\made[j]?=T y/\y.e=l.e
theorem nA (S:Spc)(b:List ByteArray):PG S b []:=⟨λx h=>absurd h nj,List.Pairwise.nil,λx h=>absurd h nj,λi x h=>by simp at h⟩
theorem ij{b:List Ent}(h:cL b nm=U):∀x∈b,x.e≠nm:=by intro x c e;have:=List.find?_eq_none.1 h x c;rw[e] at this;simp at this
theorem qy{b:List Ent}{e:Ent}(h:cL b nm=T e):e∈b/\e.e=nm:=⟨List.mem_of_find?_eq_some h,bytes_beq (List.find?_some (p:=λe:Ent=>e.e.toList == nm.toList) h)⟩
theorem jZ (h:atL L nm=U):∀x∈L,x≠nm:=by intro x b e;have:=SH.1 h x b;rw[e] at this;simp at this
theorem oD (h:∀x∈L,x≠nm):atL L nm=U :=
 SH.2 λx b=>by
  cases e:(x.toList == nm.toList) with
  |false=>rfl
  |true=>exact absurd (bytes_beq e) (h x b)
theorem PG.add{S:Spc}{g:List ByteArray}{c:List Ent}{e:Ent}(h:PG S g c)(u:EG S e)(s:∀x∈c,x.e≠e.e)(h1:atL g e.e=U)(z:∀l∈e.looks,l.ask=ZG->∃x∈c,x.e=l.e):PG S g (c++[e]):=by
 refine⟨λx f=>?_,?_,λx f=>?_,λi x hi l r o=>?_⟩;{rcases p8.1 f with f|f;{exact h.ents x f};{rw[nD.1 f];exact u}};{rw[PF];exact⟨h.nod,U2 _ _,λa o b hb=>by rw[nD.1 hb];exact s a o⟩};{rcases p8.1 f with f|f;{exact h.off x f};{rw[nD.1 f];exact h1}}
 ·rcases PJ i c.length with q|p;{rw[N9 q] at hi;obtain⟨j,y,n,m,hn⟩:=h.ord i x hi l r o;exact⟨j,y,n,by rw[N9 (by omega)];exact m,hn⟩}
  ·rw[IX p] at hi;have t:x=e:=by
    cases hk:i - c.length with
    |zero=>rw[hk] at hi;simpa using hi.symm
    |succ k=>rw[hk] at hi;simp at hi
   subst t;obtain⟨y,m,hn⟩:=z l r o;obtain⟨j,n,m⟩:=UK m;exact⟨j,y,by omega,by rw[N9 n,gq n,m],hn⟩
structure RG (S:Spc)(made:List Ent)(ys:List aK)(ls:List Lk):Prop where
 good:∀y∈ys,dk y=ZG
 len:ls.length=ys.length
 names:∀l∈ls,aw l.e=ZG
 asked:∀l∈ls,l.ask=ZG->∃x∈made,x.e=l.e
theorem vm (S:Spc)(b:List Ent):RG S b [] []:=⟨λ_ h=>absurd h nj,rfl,λ_ h=>absurd h nj,λ_ h=>absurd h nj⟩
theorem RG.mono{S:Spc}{c b:List Ent}{f:List aK}{g:List Lk}(h:RG S c f g)(m:∀x∈c,x∈b):RG S b f g:=⟨h.good,h.len,h.names,λl i j=>let ⟨x,hx,e⟩:=h.asked l i j;⟨x,m x hx,e⟩⟩
theorem RG.add{S:Spc}{b:List Ent}{c:List aK}{f:List Lk}{y:aK}{l:Lk}(h:RG S b c f)(g:dk y=ZG)(hn:aw l.e=ZG)(i:l.ask=ZG->∃x∈b,x.e=l.e):RG S b (c++[y]) (f++[l]):=by
 refine⟨λz hz=>?_,by simp[h.len],λz hz=>?_,λz hz=>?_⟩;{rcases p8.1 hz with hz|hz;{exact h.good z hz};{rw[nD.1 hz];exact g}};{rcases p8.1 hz with hz|hz;{exact h.names z hz};{rw[nD.1 hz];exact hn}};{rcases p8.1 hz with hz|hz;{exact h.asked z hz};{rw[nD.1 hz];exact i}}
theorem Gv{c:List aK}(h:∀y∈c,dk y=ZG)(k:Nat):dk (yL c k)=ZG:=by
 unfold yL;rcases PJ k c.length with b|b;{rw[IA,gq b];exact h _ (gz b)};{rw[IA,OH b];rfl}
theorem vq{S:Spc}(f:SpcOk S)(g:t<S.n1){b:List aK}(c:∀y∈b,dk y=ZG):Ck b.length (eY S t b):=by obtain⟨h1,h2,h3⟩:=bP (f.H t g);refine Fl _ _ _ _ h1 (by omega) (λi _=>?_) 2001 0 0 0 [] (by simp) (by simp) (by omega) (by omega) (by omega) (by omega) (by omega);have:=Gv c i;simp only[dk,AI] at this;exact this.1
theorem yu (S:Spc)(t:ByteArray):dk ⟨kW S t,0,⟨#[]⟩⟩=ZG:=by simp only[dk,AI];exact⟨by decide,by decide,by decide⟩
theorem yv{S:Spc}{x:Ent}(h:EG S x):dk (nw x)=ZG:=by have h1:=h.tx;have h2:=h.E;exact decide_eq_true ⟨h1,h2.1,Int.le_trans h2.2 (by decide)⟩
def vr (S:Spc)(c:List ByteArray)(g:List Ent->ByteArray->Out Ent):Prop:=∀f nm b e,PG S c f->aw nm=ZG->g f nm=.inl (b,e)->PG S c b/\(∃more,b=f++more)/\e∈b/\e.e=nm
theorem sM{S:Spc}(G:SpcOk S){j:List Ent->ByteArray->Out Ent}{f:List ByteArray}(H:t<S.n1)(ZP:vr S f j):∀k c g m b x,PG S f c->RG S c g m->g.length+k=201->dW S j t k c g m=.inl (b,x)->PG S f b/\(∃more,b=c++more)/\nT x.1.E x.1.B/\x.2.length<=200/\(∀l∈x.2,aw l.e=ZG)/\∀l∈x.2,l.ask=ZG->∃y∈b,y.e=l.e:=by
 intro k;induction k with
 |zero=>intro c g m b x _ _ _ h;cases h
 |succ k r =>
  intro c g m b x p i hk h;have D:=vq G H i.good;rw[dW] at h;rcases D with ⟨q,o⟩|⟨q,hlt,hn⟩
  ·rw[p6 q] at h;cases h
   exact⟨p,⟨[],by simp⟩,o,by rw[i.len];omega,i.names,i.asked⟩
  ·rw[gM (by rw[q];simp)] at h;split at h;{exact r _ _ _ _ _ p (i.add (yu _ _) hn (λh=>by cases h)) (by simp;omega) h}
   ·split at h
    ·rename_i n e o;obtain⟨s,⟨more,z⟩,u,B⟩:=ZP _ _ _ _ p hn o;have A:RG S n g m:=i.mono λx F=>by rw[z];exact QC _ F
     obtain⟨ZN,⟨more2,C⟩,E⟩:=r _ _ _ _ _ s (A.add (l:=⟨(eY S t g).e,ZG,ZA⟩) (yv (s.ents e u)) hn (λ_=>⟨e,u,B⟩)) (by simp;omega) h;exact⟨ZN,⟨more++more2,by rw[C,z,ON]⟩,E⟩
    {cases h};{cases h}
theorem ru{S:Spc}{c:List Ent}(h:PG S b c)(g:cL c nm=U):PG S (b++[nm]) c :=
 ⟨h.ents,h.nod,λx f=>oD λz hz=>by
  rcases p8.1 hz with hz|hz
  ·exact jZ (h.off x f) z hz
  ·rw[nD.1 hz];exact λe=>ij g x f e.symm,h.ord⟩
theorem ry{S:Spc}{c:List Ent}(h:PG S (b++[nm]) c):PG S b c/\∀x∈c,x.e≠nm :=
 ⟨⟨h.ents,h.nod,λx f=>oD λz hz=>jZ (h.off x f) z (QC _ hz),h.ord⟩,λx f e=>jZ (h.off x f) nm (Q2 _ (nD.2 rfl)) e.symm⟩
theorem Fo{S:Spc}{c:List Ent}{x:Turn × List Lk}(h:PG S (b++[nm]) c)(hn:aw nm=ZG)(h1:atL b nm=U)(h2:atI (nm0 S.f0) S.n0 nm=U)(h3:atI (nm1 S.f1) S.n1 nm=T t)(f:nT x.1.E x.1.B)(i:x.2.length<=200)(g:∀l∈x.2,aw l.e=ZG)(j:∀l∈x.2,l.ask=ZG->∃y∈c,y.e=l.e):PG S b (c++[⟨nm,3,x.1.E,x.1.B,t,x.2⟩]) :=
 (ry h).1.add ⟨hn,f.2.2,⟨f.1,f.2.1⟩,.inr (.inr ⟨rfl,h2,h3⟩),i,g⟩ (ry h).2 h1 j
theorem Fp{S:Spc}(j:SpcOk S){c:List Ent}(h:PG S b c)(hn:aw nm=ZG)(g:cL c nm=U)(h1:atL b nm=U)(h2:atI (nm0 S.f0) S.n0 nm=T i):PG S b (c++[⟨nm,1,0,(S.f0 i).B,0,[]⟩]) :=
 h.add ⟨hn,j.B i (cW h2).1,⟨Int.le_refl _,by show(0:Int)<=5;decide⟩,.inl ⟨rfl,rfl,rfl,i,h2,rfl⟩,E4 _,λl f=>absurd f nj⟩ (ij g) h1 λl f=>absurd f nj
theorem Cm{S:Spc}{c:List Ent}(h:PG S b c)(hn:aw nm=ZG)(g:cL c nm=U)(h1:atL b nm=U)(h2:atI (nm0 S.f0) S.n0 nm=U)(h3:atI (nm1 S.f1) S.n1 nm=U):PG S b (c++[⟨nm,2,0,⟨#[]⟩,0,[]⟩]) :=
 h.add ⟨hn,E4 _,⟨Int.le_refl _,by show(0:Int)<=5;decide⟩,.inr (.inl ⟨rfl,rfl,rfl,rfl,h2,h3⟩),E4 _,λl f=>absurd f nj⟩ (ij g) h1 λl f=>absurd f nj
theorem my{S:Spc}(o:SpcOk S):∀n b,vr S b (bH S n b):=by
 intro n;have m:∀b g nm f e (tgt:Nat->Out Ent),PG S b g->aw nm=ZG->(∀t f e,atI (nm0 S.f0) S.n0 nm=U->atI (nm1 S.f1) S.n1 nm=T t->cL g nm=U->atL b nm=U->tgt t=.inl (f,e)->PG S b f/\(∃more,f=g++more)/\e∈f/\e.e=nm)->fV S tgt b g nm=.inl (f,e)->PG S b f/\(∃more,f=g++more)/\e∈f/\e.e=nm:=by
  intro b g nm f e tgt j hn r h;unfold fV at h;split at h
  ·rename_i e1 s;cases h
   exact⟨j,⟨[],by simp⟩,qy s⟩
  ·rename_i l;split at h;{cases h}
   ·rename_i h1;unfold jY jq at h;split at h
    ·rename_i i hi;cases h
     exact⟨Fp o j hn l h1 hi,⟨_,rfl⟩,by simp,rfl⟩
    ·rename_i h2;split at h;{rename_i t h3;exact r _ _ _ h2 h3 l h1 h}
     ·rename_i h3;cases h
      exact⟨Cm j hn l h1 h2 h3,⟨_,rfl⟩,by simp,rfl⟩
 induction n with
 |zero =>intro b g nm f e j hn h;rw[bH] at h;exact m _ _ _ _ _ _ j hn (λt _ _ _ _ _ _ h=>by cases h) h
 |succ n p =>
  intro b g nm f e j hn h;rw[bH] at h;refine m _ _ _ _ _ _ j hn (λt f e h2 h3 l h1 h=>?_) h;rcases hr:dW S (bH S n (b++[nm])) t 201 g [] [] with ⟨made1,x⟩|c|c;{rw[hr] at h;simp only[ny,jq,XP,LK] at h;obtain⟨rfl,rfl⟩:=h;obtain⟨q,⟨more,z⟩,y,u,B,A⟩:=sM o (cW h3).1 (p (b++[nm])) _ _ _ _ _ _ (ru j l) (vm S g) rfl hr;exact⟨Fo q hn h1 h2 h3 y u B A,⟨more++[_],by rw[z,ON]⟩,by simp,rfl⟩};{rw[hr] at h;cases h};{rw[hr] at h;cases h}
def pp (b:List Ent)(nm:ByteArray):Nat:=b.findIdx λe=>e.e.toList == nm.toList
def lkD (b:List Ent)(l:Lk):Link:=⟨l.e,l.ask,l.has,if l.ask=ZG then ((pp b l.e:Nat):Int) else 0⟩
def lkF (b:List Ent)(c:List Lk):Nat->Link:=λi=>lkD b (c.getD i ⟨⟨#[]⟩,ZA,ZA⟩)
def fx (S:Spc)(e:Ent):Nat:=if e.m=3 then (S.f1 e.tg).f else 0
def iW (S:Spc)(b:List Ent)(e:Ent):Deed:=⟨e.e,e.m,e.E,e.B,fx S e,(S.f1 e.tg).H,e.looks.length,lkF b e.looks⟩
def ik (S:Spc)(b:List Ent):List Deed:=b.map (iW S b)
theorem Cn{b:List Ent}{c:List Lk}{l:Lk}(h:c[i]?=T l):lkF b c i=lkD b l:=by unfold lkF;rw[IA,h];rfl
theorem qA (S:Spc)(nm:ByteArray):PG S [] (ci S nm).1/\(ci S nm).1.length<=40201/\((ci S nm).1≠[]->SpcOk S):=by
 unfold ci;split
 ·rename_i h;have c:=SpcOk.of h.1;split
  ·rename_i b e f;have g:=mx S 60 [] [] nm b e f;unfold gA at g;have hl:ei S [] []<=S.n1:=by unfold ei;have:=TU (p:=jz S [] []) (l:=List.range S.n1);simpa using this
   have hs:=c.av;refine⟨(my c 60 [] [] nm b e (nA S []) h.2 f).1,?_,λ_=>c⟩;simp only[nX] at g;show b.length<=40201;omega
  {exact⟨nA S [],E4 _,λh=>absurd rfl h⟩};{exact⟨nA S [],E4 _,λh=>absurd rfl h⟩}
 {exact⟨nA S [],E4 _,λh=>absurd rfl h⟩}
theorem PG.idx{S:Spc}{c:List ByteArray}{b:List Ent}(h:PG S c b){x:Ent}(g:b[i]?=T x):pp b x.e=i:=by
 obtain⟨hi,e⟩:=n8.1 g;unfold pp;rw[List.findIdx_eq hi];refine⟨by simp[e],λj l=>?_⟩;have f:=PO.1 h.nod j i (by omega) hi l;rw[e] at f;cases hb:(b[j].e.toList == x.e.toList) with
 |false=>rfl
 |true=>exact absurd (bytes_beq hb) f
theorem PG.asked{S:Spc}{c:List ByteArray}{b:List Ent}(h:PG S c b){x:Ent}(m:b[i]?=T x){l:Lk}(g:l∈x.looks)(n:l.ask=ZG):∃y,b[pp b l.e]?=T y/\y.e=l.e/\pp b l.e<i:=by obtain⟨j,y,hj,f,e⟩:=h.ord i x m l g n;have:=h.idx f;rw[e] at this;exact⟨y,by rw[this];exact f,e,by omega⟩
theorem Ac{b:List Ent}{e:Ent}(h:cL b e.e=U):cL (b++[e]) e.e=T e:=by rw[je,h];simp
theorem Co (f:Nat->Ins)(cnt:Nat)(i:List aK)(r:aK)(n:r.has=ZA)(k:Nat):∀place steps looks j,looks<=i.length->(dS f cnt (yL i) i.length k place steps looks j).over=ZA->(dS f cnt (yL i) i.length k place steps looks j).ask=ZG->(dS f cnt (yL (i++[r])) (i.length+1) k place steps looks j).over=ZG:=by
 induction k with
 |zero=>intro _ _ _ _ _ _ h;cases h
 |succ k l =>
  intro place steps looks j o g b;rw[dS] at g b ⊢;rcases hs:dr f cnt place steps looks j with ⟨s,p⟩|⟨c,x⟩|⟨a,nm,s⟩
  {rw[hs] at g b;exact l _ _ _ _ o g b};{rfl}
  ·rw[hs] at g b;simp only at g b ⊢;rw[gM (show ¬ i.length+1<=looks by omega)];by_cases hn:i.length<=looks
   ·obtain rfl:looks=i.length:=by omega
    rw[p6 hn] at g b;have m:a=ZG:=b;subst m;rw[gM (by simp),J8,p6 n];rfl
   {rw[gM hn] at g b;rw[Jp _ _ (by omega)];split;{rename_i h1;rw[p6 h1] at g b;exact l _ _ _ _ (by omega) g b};{rename_i h1;rw[gM h1] at g b;split;{rfl};{rename_i h2;rw[gM h2] at g b;split;{rename_i h4;rw[p6 h4] at g b;exact l _ _ _ _ (by omega) g b};{rfl}}}}
def mz (S:Spc)(b:List Ent):Nat:=(List.range S.n0).countP λi=>(cL b (S.f0 i).e).isNone
def Mu (S:Spc)(c:List ByteArray)(b:List Ent):Nat:=b.length+2*ei S c b+mz S b
theorem sN (S:Spc)(b:List Ent)(e:Ent):mz S (b++[e])<=mz S b:=by
 refine TT λt _ h=>?_;rw[je] at h;cases h2:cL b (S.f0 t).e with
 |none=>rfl
 |some x=>rw[h2] at h;simp at h
theorem Cp{S:Spc}{b:List Ent}{e:Ent}(hi:i<S.n0)(hn:(S.f0 i).e=e.e)(h:cL b e.e=U):mz S (b++[e])+1<=mz S b:=by
 refine sK (λx _ h=>?_) (PE.2 hi) ?_ ?_
 ·rw[je] at h;cases h2:cL b (S.f0 x).e with
  |none=>rfl
  |some y=>rw[h2] at h;simp at h
 {rw[hn,Ac h];rfl};{rw[hn,h];rfl}
def Cq (S:Spc)(b:List ByteArray)(g:List Ent->ByteArray->Out Ent):Prop:=∀f nm c e,g f nm=.inl (c,e)->Mu S b c<=Mu S b f+if e.m=2 then 1 else 0
theorem Ib{S:Spc}{g:List Ent->ByteArray->Out Ent}{c:List ByteArray}(p:Cq S c g):∀k f i l b x,dW S g t k f i l=.inl (b,x)->Mu S c b<=Mu S c f+1:=by
 intro k;induction k with
 |zero=>intro f i l b x h;cases h
 |succ k m =>
  intro f i l b x h;rw[dW] at h;split at h;{cases h;omega}
  ·rename_i q;split at h;{exact m _ _ _ _ _ h}
   ·rename_i r;split at h
    ·rename_i made1 e o;have h1:=p _ _ _ _ o;by_cases j:e.m=2
     ·have n:(eY S t (i++[nw e])).over=ZG:=by
       have:=Co (S.f1 t).H (S.f1 t).f i (nw e) (by simp[nw,j]) 2001 0 0 0 [] (E4 _) (by simpa[eY] using q) (by simpa[eY] using r);unfold eY;rw[cM];exact this
      cases k with
      |zero=>cases h
      |succ k =>
       rw[dW,p6 n] at h;cases h
       rw[p6 j] at h1;exact h1
     {rw[gM j] at h1;have:=m _ _ _ _ _ h;omega}
    {cases h};{cases h}
theorem Fq (S:Spc):∀n b,Cq S b (bH S n b):=by
 intro n;have m:∀b f nm g e (tgt:Nat->Out Ent),(∀t g e,atI (nm1 S.f1) S.n1 nm=T t->cL f nm=U->atL b nm=U->tgt t=.inl (g,e)->Mu S b g<=Mu S b f)->fV S tgt b f nm=.inl (g,e)->Mu S b g<=Mu S b f+if e.m=2 then 1 else 0:=by
  intro b f nm g e tgt q h;unfold fV at h;split at h;{cases h;omega}
  ·rename_i l;split at h;{cases h}
   ·rename_i h1;unfold jY jq at h;split at h
    ·rename_i i hi;cases h
     have:=kJ S b f ⟨nm,1,0,(S.f0 i).B,0,[]⟩;have:=Cp (S:=S) (e:=⟨nm,1,0,(S.f0 i).B,0,[]⟩) (cW hi).1 (cW hi).2 l;unfold Mu;rw[cM,DW];omega
    ·split at h;{rename_i t h3;have:=q _ _ _ h3 l h1 h;omega}
     ·cases h
      have:=kJ S b f ⟨nm,2,0,⟨#[]⟩,0,[]⟩;have:=sN S f ⟨nm,2,0,⟨#[]⟩,0,[]⟩;rw[p6 rfl];unfold Mu;rw[cM,DW];omega
 induction n with
 |zero =>intro b f nm g e h;rw[bH] at h;exact m _ _ _ _ _ _ (λt _ _ _ _ _ h=>by cases h) h
 |succ n o =>
  intro b f nm g e h;rw[bH] at h;refine m _ _ _ _ _ _ (λt g e h3 l h1 h=>?_) h;rcases hr:dW S (bH S n (b++[nm])) t 201 f [] [] with ⟨j,x⟩|c|c;{rw[hr] at h;simp only[ny,jq,XP,LK] at h;obtain⟨rfl,rfl⟩:=h;have p:=Ib (o (b++[nm])) _ _ _ _ _ _ hr;have g2:=iV (making:=b) (made:=f) (cW h3).1 (cW h3).2 l h1;have g3:ei S b (j++[⟨nm,3,x.1.E,x.1.B,t,x.2⟩])<=ei S (b++[nm]) j:=sJ S b j ⟨nm,3,x.1.E,x.1.B,t,x.2⟩;have g4:=sN S j ⟨nm,3,x.1.E,x.1.B,t,x.2⟩;unfold Mu at p ⊢;rw[cM,DW];omega};{rw[hr] at h;cases h};{rw[hr] at h;cases h}
theorem Ad{S:Spc}(g:SpcOk S){b:List Ent}{e:Ent}(h:bH S 60 [] [] nm=.inl (b,e)):b.length<=400:=by
 have h1:=Fq S 60 [] [] nm b e h;have hl:ei S [] []<=S.n1:=by have:=TU (p:=jz S [] []) (l:=List.range S.n1);simpa[ei] using this
 have hs:mz S []<=S.n0:=by have:=TU (p:=λi=>(cL [] (S.f0 i).e).isNone) (l:=List.range S.n0);simpa[mz] using this
 have h2:=g.av;by_cases f:e.m=2
 ·rw[bH] at h;unfold fV at h;simp only[cL,List.find?_nil,atL,List.findIdx?_nil] at h;unfold jY jq at h;split at h;{cases h;cases f}
  ·split at h;{rename_i t h3;simp only at h;rcases hr:dW S (bH S 59 ([]++[nm])) t 201 [] [] [] with ⟨made1,x⟩|c|c;{rw[hr] at h;simp only[ny,jq,XP,LK] at h;obtain⟨rfl,rfl⟩:=h;cases f};{rw[hr] at h;cases h};{rw[hr] at h;cases h}}
   ·cases h
    show 1<=400;omega
 {rw[gM f] at h1;unfold Mu at h1;rw[nX] at h1;omega}
theorem Ic{x y:Ins}(h:mP x y=ZG):x=y:=by obtain⟨a,b,c⟩:=x;obtain⟨a',b',c'⟩:=y;simp only[mP,z8,beq_iff_eq] at h;obtain⟨⟨rfl,hb⟩,rfl⟩:=h;rw[oO hb]
theorem Fs{g:Nat->Ins}(h:fm f g n=ZG)(i:Nat)(hi:i<n):f i=g i:=by have:=pL (show i+1<=n by omega) h;simp only[fm,z8] at this;exact Ic this.2
section
variable {S:Spc}{f:Nat->Deed}{n:Nat}
structure fC (x y:Deed):Prop where
 e:x.e=y.e
 m:x.m=y.m
 E:x.E=y.E
 B:x.B=y.B
 f:x.f=y.f
 H:∀i,i<x.f->x.H i=y.H i
 b:x.b=y.b
 D:∀i,i<x.b->x.D i=y.D i
end
theorem qB {f g:Nat->Ins}:∀{n:Nat},(∀i,i<n->f i=g i)->fm f g n=ZG
 |0,_=>rfl
 |n+1,h=>by rw[fm,qB λi hi=>h i (by omega),h n (by omega)];simp[mP]
