import Derived.Test.YtpmnbjkjpnclaaaGreatDoorQM
set_option linter.unusedSimpArgs false
open Option renaming none->Y,some->T
open Bool renaming false->ZA,true->ZG
namespace Go.Proofs.YtpmnbjkjpnclaaaGreatDoor.Vp
open RowKit
variable {nm x:ByteArray}{b making L:List ByteArray}{i t looks n place steps:Nat}{f:Nat->Ins}{c:Int}{p:Nat->Bool}
structure Spc where
 n0:Nat
 f0:Nat->Source
 n1:Nat
 f1:Nat->Target
structure Lk where
 e:ByteArray
 ask:Bool
 has:Bool
structure Ent where
 e:ByteArray
 m:Int
 E:Int
 B:ByteArray
 tg:Nat
 looks:List Lk
abbrev Out (b:Type):=(List Ent × b) ⊕ List ByteArray ⊕ ByteArray
def Ft:aI:=⟨ZA,0,⟨#[]⟩⟩
def yL (b:List aI):Nat->aI:=λk=>b.getD k Ft
def nB (e:Ent):aI:=⟨decide (¬ e.m=2),e.E,e.B⟩
def kY (S:Spc)(t:ByteArray):Bool:=cI (nm0 S.f0) S.n0 t || cI (nm1 S.f1) S.n1 t
def atI (g:Nat->ByteArray)(n:Nat)(t:ByteArray):Option Nat:=(List.range n).find? λi=>(g i).toList == t.toList
def atL (L:List ByteArray)(t:ByteArray):Option Nat:=L.findIdx? λx=>x.toList == t.toList
def cL (b:List Ent)(t:ByteArray):Option Ent:=b.find? λe=>e.e.toList == t.toList
def eZ (S:Spc)(t:Nat)(b:List aI):Turn:=dn (S.f1 t).H (S.f1 t).f (yL b) b.length 2001 0 0 0 []
def dR (S:Spc)(b:List Ent->ByteArray->Out Ent)(t:Nat):Nat->List Ent->List aI->List Lk->Out (Turn × List Lk)
 |0,_,_,_=>.inr (.inr ⟨#[]⟩)
 |k+1,made,ys,ls =>
  if (eZ S t ys).over=ZG then .inl (made,(eZ S t ys,ls))
  else if (eZ S t ys).ask=ZA then dR S b t k made (ys++[⟨kY S (eZ S t ys).e,0,⟨#[]⟩⟩]) (ls++[⟨(eZ S t ys).e,ZA,kY S (eZ S t ys).e⟩])
  else match b made (eZ S t ys).e with
   |.inl (made',e)=>dR S b t k made' (ys++[nB e]) (ls++[⟨(eZ S t ys).e,ZG,ZA⟩])
   |.inr (.inl c)=>.inr (.inl c)
   |.inr (.inr d)=>.inr (.inr d)
def jr (b:List Ent)(e:Ent):Out Ent:=.inl ((b++[e]),e)
def nC (nm:ByteArray)(t:Nat):Out (Turn × List Lk)->Out Ent
 |.inl (made,x)=>jr made ⟨nm,3,x.1.E,x.1.B,t,x.2⟩
 |.inr (.inl c)=>.inr (.inl c)
 |.inr (.inr d)=>.inr (.inr d)
def jZ (S:Spc)(tgt:Nat->Out Ent)(b:List Ent)(nm:ByteArray):Out Ent :=
 match atI (nm0 S.f0) S.n0 nm with
 |some i=>jr b ⟨nm,1,0,(S.f0 i).B,0,[]⟩
 |none=>match atI (nm1 S.f1) S.n1 nm with
  |some t=>tgt t
  |none=>jr b ⟨nm,2,0,⟨#[]⟩,0,[]⟩
def fW (S:Spc)(tgt:Nat->Out Ent)(b:List ByteArray)(c:List Ent)(nm:ByteArray):Out Ent :=
 match cL c nm with
 |some e=>.inl (c,e)
 |none=>match atL b nm with
  |some i=>.inr (.inl (b.drop i))
  |none=>jZ S tgt c nm
def bC (S:Spc):Nat->List ByteArray->List Ent->ByteArray->Out Ent
 |0,making,made,nm=>fW S (λ_=>.inr (.inr nm)) making made nm
 |n+1,making,made,nm=>fW S (λt=>nC nm t (dR S (bC S n (making++[nm])) t 201 made [] [])) making made nm
def KJ (S:Spc)(n:Nat)(b:List ByteArray)(c:List Ent)(nm:ByteArray)(t:Nat):Out Ent :=
 match n with
 |0=>.inr (.inr nm)
 |n+1=>nC nm t (dR S (bC S n (b++[nm])) t 201 c [] [])
theorem Fu (S:Spc)(n:Nat)(b:List ByteArray)(c:List Ent)(nm:ByteArray):bC S n b c nm=fW S (KJ S n b c nm) b c nm:=by
 cases n with
 |zero=>rw[bC];rfl
 |succ n=>rw[bC];rfl
structure kZ where
 E:Int
 B:ByteArray
 j:List ByteArray
def dS (e:Ent):kZ:=if e.m=2 then ⟨4,e.e,[]⟩ else ⟨e.E,e.B,[]⟩
def ci (S:Spc)(nm:ByteArray):List Ent × kZ :=
 if ce S.n0 S.f0 S.n1 S.f1=0/\aw nm=ZG then
  (match bC S 60 [] [] nm with
   |.inl (made,e)=>(made,dS e)
   |.inr (.inl c)=>([],⟨6,⟨#[]⟩,c⟩)
   |.inr (.inr d)=>([],⟨7,d,[]⟩))
 else ([],⟨9,⟨#[]⟩,[]⟩)
theorem Kl (b:List aI)(r:aI):yL (b++[r]) b.length=r:=by simp[yL]
theorem JB (b:List aI)(r:aI){k:Nat}(h:k<b.length):yL (b++[r]) k=yL b k:=by simp[yL,OP h]
theorem J7 (f:Nat->Ins)(cnt:Nat)(y z:Nat->aI)(n:Nat)(k:Nat):∀place steps looks b,(∀i,looks<=i->i<n->y i=z i)->dn f cnt y n k place steps looks b=dn f cnt z n k place steps looks b:=by
 induction k with
 |zero=>intro _ _ _ _ _;rfl
 |succ k g =>
  intro place steps looks b h;rw[dn,dn];rcases dt f cnt place steps looks b with ⟨s,p⟩|⟨c,x⟩|⟨a,nm,s⟩
  {exact g _ _ _ _ h};{rfl};{simp only;by_cases hn:n<=looks;{rw[p6 hn,p6 hn]};{rw[gM hn,gM hn,h looks ly (by omega),g _ _ _ _ λi hi=>h i (by omega),g _ _ _ _ λi hi=>h i (by omega)]}}
theorem qB (u:Nat):(Lib.decDigits u).length<=u+1:=by
 induction u using Nat.strongRecOn with
 |ind u b =>
  rw[Lib.decDigits];split;{simp};{have:=b (u / 10) (by omega);simp only[cM,eL,nX];omega}
theorem kJ{p:Nat}(h:p<=2000):(fh p).size<=2000:=by
 show(Lib.decDigits p).length<=2000;rw[Lib.decDigits];split;{simp};{have:=qB (p / 10);simp only[cM,eL,nX];omega}
def nY (c:Int)(x:ByteArray):Prop:=0<=c/\c<=5/\x.size<=2000
theorem Ae{ask:Bool}{a:ByteArray}{r:List ByteArray}{here:Nat}(h:kF ask a r here looks=.inr (.inl (c,x)))(b:here<=2000):nY c x:=by
 unfold kF at h;split at h;{cases h;exact⟨by omega,by omega,kJ b⟩};{split at h;{cases h;exact⟨by omega,by omega,by decide⟩};{cases h}}
theorem tO{op:Nat}{t:ByteArray}{here:Nat}(h:dQ op n t here looks b=.inr (.inl (c,x)))(g:∀z∈b,z.size<=2000)(f:here<=2000):nY c x:=by
  unfold dQ at h;split at h;all_goals first
    |(cases h;done)
    |exact Ae h f
    | (split at h
       · cases h
       · cases h;exact⟨by omega,by omega,kJ f⟩)
    |(cases h;exact⟨by omega,by omega,g _ (by simp)⟩)
    |(cases h;exact⟨by omega,by omega,by decide⟩)
theorem Af{cnt:Nat}(h:dt f cnt place steps looks b=.inr (.inl (c,x)))(i:∀z∈b,z.size<=2000)(g:place<=2000):nY c x:=by
 unfold dt at h;split at h;{cases h;exact⟨by omega,by omega,kJ g⟩};{split at h;{cases h;exact⟨by omega,by omega,by decide⟩};{split at h;{cases h;exact⟨by omega,by omega,kJ g⟩};{exact tO h i g}}}
theorem xw{cnt:Nat}(h1:b.length<=50)(h2:∀z∈b,z.size<=2000)(h3:looks<=200)(c:dD f cnt=ZG)(hc:cnt<=200):kV (dt f cnt place steps looks b) looks:=by
 unfold dt;split;{trivial}
 ·rename_i h1;split;{trivial}
  ·split;{trivial}
   ·rename_i h3;have hi:=gR c (show place<cnt by omega);simp only[aH,z8] at hi;obtain⟨i1,i2,i3,i4,i5⟩:=hi;have hmt:bO (f place).op<=2000:=by unfold bO;split<;>(try split)<;>omega
    have hmt2:aE (f place).op<=2000:=by unfold aE;split<;>omega
    exact mO _ _ _ _ _ _ (by assumption) h2 (by omega) (by omega) (by omega) (by assumption) (by omega) (by omega) (by simpa using h3)
def Co (n:Nat)(ZM:Turn):Prop:=(ZM.over=ZG/\nY ZM.E ZM.B)∨(ZM.over=ZA/\n<200/\aw ZM.e=ZG)
theorem vr{cnt:Nat}{s:List ByteArray}{a:Bool}(h:dt f cnt place steps looks b=.inr (.inr (a,nm,s))):place<cnt:=by
 unfold dt at h;split at h;{cases h};{omega}
theorem Cp (h:aw nm=ZG):nm.size<=60:=by simp only[aw,zA,z8] at h;omega
theorem Fv (f:Nat->Ins)(cnt:Nat)(y:Nat->aI)(n:Nat)(q:dD f cnt=ZG)(B:cnt<=200)(C:∀i,i<n->(y i).B.size<=2000)(k:Nat):∀place steps looks b,b.length<=50->(∀z∈b,z.size<=2000)->place<=2000->steps<=2000->looks<=200->looks<=n->k+steps=2001->Co n (dn f cnt y n k place steps looks b):=by
 induction k with
 |zero=>intro _ _ _ _ _ _ _ _ _ _ h;omega
 |succ k o =>
  intro place steps looks b h1 h2 h3 h4 r u h7;have j:=xw (f:=f) (cnt:=cnt) (place:=place) (steps:=steps) h1 h2 r q B;rw[dn];rcases hs:dt f cnt place steps looks b with ⟨s,p⟩|⟨c,x⟩|⟨a,nm,s⟩
  {rw[hs] at j;obtain⟨t,l,g⟩:=j;obtain⟨m,A⟩:=uV hs;simp only;rw[m];exact o _ _ _ _ t l g (by omega) r u (by omega)};{exact .inl ⟨rfl,Af hs h2 h3⟩};{rw[hs] at j;obtain⟨t,l,g,g4⟩:=j;obtain⟨m,A⟩:=qv hs;have hp:=vr hs;have hz:=Cp g;simp only;rw[m];split;{exact .inr ⟨rfl,by omega,g⟩};{split;{refine o _ _ _ _ (by simp;omega) (λz hz=>?_) (by omega) (by omega) (by omega) (by omega) (by omega);rcases AT.1 hz with rfl|hz;{exact my _};{exact l z hz}};{split;{exact .inl ⟨rfl,by simp[fY],by simp[fY],by simp only[fY];omega⟩};{split;{refine o _ _ _ _ (by simp;omega) (λz hz=>?_) (by omega) (by omega) (by omega) (by omega) (by omega);rcases AT.1 hz with rfl|hz;{exact C _ (by omega)};{exact l z hz}};{exact .inl ⟨rfl,by simp[fY],by simp[fY],by simp only[fY];omega⟩}}}}}
def jA (S:Spc)(b:List ByteArray)(c:List Ent):Nat->Bool:=λt=>(cL c (S.f1 t).e).isNone && (atL b (S.f1 t).e).isNone
def d9 (S:Spc)(b:List ByteArray)(c:List Ent):Nat:=(List.range S.n1).countP (jA S b c)
theorem jf (b:List Ent)(e:Ent)(t:ByteArray):cL (b++[e]) t=(cL b t).or (if (e.e.toList == t.toList)=ZG then T e else Y):=by unfold cL;rw[List.find?_append];cases h:(e.e.toList == t.toList)<;>simp[h]
theorem rA (L:List ByteArray)(x t:ByteArray):(atL (L++[x]) t).isNone=((atL L t).isNone && !(x.toList == t.toList)):=by unfold atL;rw[List.findIdx?_append];cases h:(x.toList == t.toList)<;>cases h2:List.findIdx? (λx=>x.toList == t.toList) L<;>simp[h,List.findIdx?_cons]
theorem kK (S:Spc)(b:List ByteArray)(c:List Ent)(e:Ent):d9 S b (c++[e])<=d9 S b c:=by
 refine TZ λt _ h=>?_;simp only[jA,zA,jf] at h ⊢;refine⟨?_,h.2⟩;cases h2:cL c (S.f1 t).e with
 |none=>rfl
 |some x=>rw[h2] at h;simp at h
theorem sM (S:Spc)(b:List ByteArray)(c:List Ent)(e:Ent):d9 S b (c++[e])<=d9 S (b++[e.e]) c:=by
 refine TZ λt _ h=>?_;simp only[jA,zA,jf,rA] at h ⊢;cases h2:cL c (S.f1 t).e with
 |some x=>rw[h2] at h;simp at h
 |none =>
  rw[h2] at h;refine⟨rfl,h.2,?_⟩;cases h3:(e.e.toList == (S.f1 t).e.toList) with
  |false=>rfl
  |true=>rw[h3] at h;simp at h
theorem sN{q:Nat->Bool}{l:List Nat}(h:∀x∈l,p x=ZG->q x=ZG){a:Nat}(b:a∈l)(h1:p a=ZA)(h2:q a=ZG):l.countP p+1<=l.countP q:=by
 induction l with
 |nil=>cases b
 |cons x l c =>
  have hm:l.countP p<=l.countP q:=TZ λz hz=>h z (mq _ hz);rw[List.countP_cons,List.countP_cons];rcases AT.1 b with rfl|b;{rw[h1,h2];simp;omega}
  ·have:=c (λz hz=>h z (mq _ hz)) b;cases hp:p x with
   |false=>simp;split<;>omega
   |true=>rw[h x List.mem_cons_self hp];simp;omega
theorem iW{S:Spc}{made:List Ent}(b:t<S.n1)(hn:(S.f1 t).e=nm)(h1:cL made nm=Y)(h2:atL making nm=Y):d9 S (making++[nm]) made+1<=d9 S making made:=by
 refine sN (λx _ h=>?_) (PL.2 b) ?_ ?_;{simp only[jA,zA,rA] at h ⊢;exact⟨h.1,h.2.1⟩};{simp[jA,rA,hn]};{simp[jA,hn,h1,h2]}
theorem cW{g:Nat->ByteArray}{t:ByteArray}(h:atI g n t=T i):i<n/\g i=t:=by unfold atI at h;have h1:=List.find?_some h;have h2:=List.mem_of_find?_eq_some h;exact⟨PL.1 h2,bytes_beq h1⟩
def gC (S:Spc)(b:List ByteArray)(f c:List Ent)(k:Nat):Prop:=c.length+201*d9 S b c<=f.length+201*d9 S b f+k
theorem sO{S:Spc}{f:List Ent->ByteArray->Out Ent}(l:∀c nm b e,f c nm=.inl (b,e)->gC S making c b 1):∀k c i g b x,dR S f t k c i g=.inl (b,x)->gC S making c b (k - 1):=by
 intro k;induction k with
 |zero=>intro c i g b x h;cases h
 |succ k j =>
  intro c i g b x h;rw[dR] at h;split at h;{cases h;unfold gC;omega}
  ·cases k with
   |zero =>
    split at h;{cases h};{split at h<;>cases h}
   |succ k =>
    split at h;{have:=j _ _ _ _ _ h;unfold gC at this ⊢;omega};{split at h;{rename_i made1 e m;have h1:=l _ _ _ _ m;have h2:=j _ _ _ _ _ h;unfold gC at h1 h2 ⊢;omega};{cases h};{cases h}}
theorem mB (S:Spc):∀n b g nm f e,bC S n b g nm=.inl (f,e)->gC S b g f 1:=by
 intro n;have l:∀b g nm f e (tgt:Nat->Out Ent),(∀t f e,atI (nm1 S.f1) S.n1 nm=T t->cL g nm=Y->atL b nm=Y->tgt t=.inl (f,e)->gC S b g f 1)->fW S tgt b g nm=.inl (f,e)->gC S b g f 1:=by
  intro b g nm f e tgt q h;unfold fW at h;split at h;{cases h;unfold gC;omega}
  ·rename_i m;split at h;{cases h}
   ·rename_i h1;unfold jZ jr at h;split at h
    ·rename_i i hi;cases h
     have:=kK S b g ⟨nm,1,0,(S.f0 i).B,0,[]⟩;unfold gC;rw[cM,DW];omega
    ·split at h;{rename_i t h3;exact q _ _ _ h3 m h1 h}
     ·cases h
      have:=kK S b g ⟨nm,2,0,⟨#[]⟩,0,[]⟩;unfold gC;rw[cM,DW];omega
 induction n with
 |zero =>intro b g nm f e h;rw[bC] at h;exact l _ _ _ _ _ _ (λt _ _ _ _ _ h=>by cases h) h
 |succ n o =>
  intro b g nm f e h;rw[bC] at h;refine l _ _ _ _ _ _ (λt f e h3 m h1 h=>?_) h;rcases hr:dR S (bC S n (b++[nm])) t 201 g [] [] with ⟨j,x⟩|c|c;{rw[hr] at h;simp only[nC,jr,X5,LN] at h;obtain⟨rfl,rfl⟩:=h;have p:=sO (making:=b++[nm]) (λg nm2 f e r=>o _ _ _ _ _ r) _ _ _ _ _ _ hr;have g2:=iW (making:=b) (made:=g) (cW h3).1 (cW h3).2 m h1;have g3:d9 S b (j++[⟨nm,3,x.1.E,x.1.B,t,x.2⟩])<=d9 S (b++[nm]) j:=sM S b j ⟨nm,3,x.1.E,x.1.B,t,x.2⟩;unfold gC at p ⊢;rw[cM,DW];omega};{rw[hr] at h;cases h};{rw[hr] at h;cases h}
structure SpcOk (S:Spc):Prop where
 chk:ce S.n0 S.f0 S.n1 S.f1=0
 asc0:dT (nm0 S.f0) S.n0=ZG
 asc1:dT (nm1 S.f1) S.n1=ZG
 az:S.n0+S.n1<=200
 B:∀i,i<S.n0->(S.f0 i).B.size<=2000
 H:∀t,t<S.n1->valid (S.f1 t).H (S.f1 t).f=ZG
theorem pt (h:dH p n=ZA)(hi:i<n):p i=ZA:=by
 induction n with
 |zero=>omega
 |succ n b =>
  rw[dH,Bool.or_eq_false_iff] at h;by_cases e:i=n;{subst e;exact h.2};{exact b h.1 (by omega)}
theorem SpcOk.of{S:Spc}(h:ce S.n0 S.f0 S.n1 S.f1=0):SpcOk S:=by
 obtain⟨h1,h2,h3⟩:=AO h;have b:=h;unfold ce at h;split at h;· omega
 split at h;· omega
 split at h;· omega
 split at h;· omega
 split at h;· omega
 split at h;· omega
 split at h;· omega
 split at h;· omega
 rename_i c f;refine⟨b,h1,h2,h3,λi hi=>?_,λt g=>?_⟩;{have:=pt (Bool.eq_false_iff.2 c) hi;simp only[pS,PH] at this;omega};{have:=pt (Bool.eq_false_iff.2 f) g;simpa[fc] using this}
structure EG (S:Spc)(x:Ent):Prop where
 nm:aw x.e=ZG
 tx:x.B.size<=2000
 E:0<=x.E/\x.E<=5
 m:(x.m=1/\x.E=0/\x.looks=[]/\∃i,atI (nm0 S.f0) S.n0 x.e=T i/\x.B=(S.f0 i).B)∨(x.m=2/\x.E=0/\x.B=⟨#[]⟩/\x.looks=[]/\atI (nm0 S.f0) S.n0 x.e=Y/\atI (nm1 S.f1) S.n1 x.e=Y)∨(x.m=3/\atI (nm0 S.f0) S.n0 x.e=Y/\atI (nm1 S.f1) S.n1 x.e=T x.tg)
 looks:x.looks.length<=200
 lname:∀l∈x.looks,aw l.e=ZG
structure PG (S:Spc)(making:List ByteArray)(made:List Ent):Prop where
 ents:∀x∈made,EG S x
 nod:made.Pairwise λx y=>x.e≠y.e
 off:∀x∈made,atL making x.e=Y
 ord:∀(i:Nat) (x:Ent),made[i]?=T x->∀l∈x.looks,l.ask=ZG->∃(j:Nat) (y:Ent),j<i/\made[j]?=T y/\y.e=l.e
theorem nE (S:Spc)(b:List ByteArray):PG S b []:=⟨λx h=>absurd h nj,List.Pairwise.nil,λx h=>absurd h nj,λi x h=>by simp at h⟩
theorem iq{b:List Ent}(h:cL b nm=Y):∀x∈b,x.e≠nm:=by intro x c e;have:=List.find?_eq_none.1 h x c;rw[e] at this;simp at this
theorem qC{b:List Ent}{e:Ent}(h:cL b nm=T e):e∈b/\e.e=nm:=⟨List.mem_of_find?_eq_some h,bytes_beq (List.find?_some (p:=λe:Ent=>e.e.toList == nm.toList) h)⟩
theorem j4 (h:atL L nm=Y):∀x∈L,x≠nm:=by intro x b e;have:=SV.1 h x b;rw[e] at this;simp at this
theorem oH (h:∀x∈L,x≠nm):atL L nm=Y :=
 SV.2 λx b=>by
  cases e:(x.toList == nm.toList) with
  |false=>rfl
  |true=>exact absurd (bytes_beq e) (h x b)
theorem PG.add{S:Spc}{f:List ByteArray}{c:List Ent}{e:Ent}(h:PG S f c)(z:EG S e)(s:∀x∈c,x.e≠e.e)(h1:atL f e.e=Y)(u:∀l∈e.looks,l.ask=ZG->∃x∈c,x.e=l.e):PG S f (c++[e]):=by
 refine⟨λx g=>?_,?_,λx g=>?_,λi x hi l q o=>?_⟩;{rcases p8.1 g with g|g;{exact h.ents x g};{rw[nD.1 g];exact z}};{rw[PM];exact⟨h.nod,U8 _ _,λa o b hb=>by rw[nD.1 hb];exact s a o⟩};{rcases p8.1 g with g|g;{exact h.off x g};{rw[nD.1 g];exact h1}}
 ·rcases PR i c.length with p|r;{rw[OP p] at hi;obtain⟨j,y,n,m,hn⟩:=h.ord i x hi l q o;exact⟨j,y,n,by rw[OP (by omega)];exact m,hn⟩}
  ·rw[IX r] at hi;have t:x=e:=by
    cases hk:i - c.length with
    |zero=>rw[hk] at hi;simpa using hi.symm
    |succ k=>rw[hk] at hi;simp at hi
   subst t;obtain⟨y,m,hn⟩:=u l q o;obtain⟨j,n,m⟩:=US m;exact⟨j,y,by omega,by rw[OP n,gq n,m],hn⟩
structure RG (S:Spc)(made:List Ent)(ys:List aI)(ls:List Lk):Prop where
 good:∀y∈ys,dk y=ZG
 len:ls.length=ys.length
 names:∀l∈ls,aw l.e=ZG
 asked:∀l∈ls,l.ask=ZG->∃x∈made,x.e=l.e
theorem vt (S:Spc)(b:List Ent):RG S b [] []:=⟨λ_ h=>absurd h nj,rfl,λ_ h=>absurd h nj,λ_ h=>absurd h nj⟩
theorem RG.mono{S:Spc}{c b:List Ent}{g:List aI}{f:List Lk}(h:RG S c g f)(j:∀x∈c,x∈b):RG S b g f:=⟨h.good,h.len,h.names,λl i m=>let ⟨x,hx,e⟩:=h.asked l i m;⟨x,j x hx,e⟩⟩
theorem RG.add{S:Spc}{b:List Ent}{f:List aI}{c:List Lk}{y:aI}{l:Lk}(h:RG S b f c)(g:dk y=ZG)(hn:aw l.e=ZG)(i:l.ask=ZG->∃x∈b,x.e=l.e):RG S b (f++[y]) (c++[l]):=by
 refine⟨λz hz=>?_,by simp[h.len],λz hz=>?_,λz hz=>?_⟩;{rcases p8.1 hz with hz|hz;{exact h.good z hz};{rw[nD.1 hz];exact g}};{rcases p8.1 hz with hz|hz;{exact h.names z hz};{rw[nD.1 hz];exact hn}};{rcases p8.1 hz with hz|hz;{exact h.asked z hz};{rw[nD.1 hz];exact i}}
theorem GH{c:List aI}(h:∀y∈c,dk y=ZG)(k:Nat):dk (yL c k)=ZG:=by
 unfold yL;rcases PR k c.length with b|b;{rw[IA,gq b];exact h _ (gz b)};{rw[IA,OT b];rfl}
theorem vu{S:Spc}(c:SpcOk S)(g:t<S.n1){b:List aI}(f:∀y∈b,dk y=ZG):Co b.length (eZ S t b):=by obtain⟨h1,h2,h3⟩:=bP (c.H t g);refine Fv _ _ _ _ h1 (by omega) (λi _=>?_) 2001 0 0 0 [] (by simp) (by simp) (by omega) (by omega) (by omega) (by omega) (by omega);have:=GH f i;simp only[dk,z8] at this;exact this.1
theorem yx (S:Spc)(t:ByteArray):dk ⟨kY S t,0,⟨#[]⟩⟩=ZG:=by simp only[dk,z8];exact⟨by decide,by decide,by decide⟩
theorem yy{S:Spc}{x:Ent}(h:EG S x):dk (nB x)=ZG:=by have h1:=h.tx;have h2:=h.E;exact decide_eq_true ⟨h1,h2.1,Int.le_trans h2.2 (by decide)⟩
def vv (S:Spc)(c:List ByteArray)(g:List Ent->ByteArray->Out Ent):Prop:=∀f nm b e,PG S c f->aw nm=ZG->g f nm=.inl (b,e)->PG S c b/\(∃more,b=f++more)/\e∈b/\e.e=nm
theorem sP{S:Spc}(B:SpcOk S){m:List Ent->ByteArray->Out Ent}{f:List ByteArray}(G:t<S.n1)(C:vv S f m):∀k c g j b x,PG S f c->RG S c g j->g.length+k=201->dR S m t k c g j=.inl (b,x)->PG S f b/\(∃more,b=c++more)/\nY x.1.E x.1.B/\x.2.length<=200/\(∀l∈x.2,aw l.e=ZG)/\∀l∈x.2,l.ask=ZG->∃y∈b,y.e=l.e:=by
 intro k;induction k with
 |zero=>intro c g j b x _ _ _ h;cases h
 |succ k s =>
  intro c g j b x o i hk h;have F:=vu B G i.good;rw[dR] at h;rcases F with ⟨q,p⟩|⟨q,hlt,hn⟩
  ·rw[p6 q] at h;cases h
   exact⟨o,⟨[],by simp⟩,p,by rw[i.len];omega,i.names,i.asked⟩
  ·rw[gM (by rw[q];simp)] at h;split at h;{exact s _ _ _ _ _ o (i.add (yx _ _) hn (λh=>by cases h)) (by simp;omega) h}
   ·split at h
    ·rename_i n e p;obtain⟨u,⟨more,A⟩,z,E⟩:=C _ _ _ _ o hn p;have r:RG S n g j:=i.mono λx D=>by rw[A];exact QJ _ D
     obtain⟨H,⟨more2,ZP⟩,ZQ⟩:=s _ _ _ _ _ u (r.add (l:=⟨(eZ S t g).e,ZG,ZA⟩) (yy (u.ents e z)) hn (λ_=>⟨e,z,E⟩)) (by simp;omega) h;exact⟨H,⟨more++more2,by rw[ZP,A,OV]⟩,ZQ⟩
    {cases h};{cases h}
theorem rB{S:Spc}{c:List Ent}(h:PG S b c)(g:cL c nm=Y):PG S (b++[nm]) c :=
 ⟨h.ents,h.nod,λx f=>oH λz hz=>by
  rcases p8.1 hz with hz|hz
  ·exact j4 (h.off x f) z hz
  ·rw[nD.1 hz];exact λe=>iq g x f e.symm,h.ord⟩
theorem rC{S:Spc}{c:List Ent}(h:PG S (b++[nm]) c):PG S b c/\∀x∈c,x.e≠nm :=
 ⟨⟨h.ents,h.nod,λx f=>oH λz hz=>j4 (h.off x f) z (QJ _ hz),h.ord⟩,λx f e=>j4 (h.off x f) nm (RH _ (nD.2 rfl)) e.symm⟩
theorem Fw{S:Spc}{c:List Ent}{x:Turn × List Lk}(h:PG S (b++[nm]) c)(hn:aw nm=ZG)(h1:atL b nm=Y)(h2:atI (nm0 S.f0) S.n0 nm=Y)(h3:atI (nm1 S.f1) S.n1 nm=T t)(f:nY x.1.E x.1.B)(i:x.2.length<=200)(g:∀l∈x.2,aw l.e=ZG)(j:∀l∈x.2,l.ask=ZG->∃y∈c,y.e=l.e):PG S b (c++[⟨nm,3,x.1.E,x.1.B,t,x.2⟩]) :=
 (rC h).1.add ⟨hn,f.2.2,⟨f.1,f.2.1⟩,.inr (.inr ⟨rfl,h2,h3⟩),i,g⟩ (rC h).2 h1 j
theorem Fx{S:Spc}(j:SpcOk S){c:List Ent}(h:PG S b c)(hn:aw nm=ZG)(g:cL c nm=Y)(h1:atL b nm=Y)(h2:atI (nm0 S.f0) S.n0 nm=T i):PG S b (c++[⟨nm,1,0,(S.f0 i).B,0,[]⟩]) :=
 h.add ⟨hn,j.B i (cW h2).1,⟨Int.le_refl _,by show(0:Int)<=5;decide⟩,.inl ⟨rfl,rfl,rfl,i,h2,rfl⟩,E4 _,λl f=>absurd f nj⟩ (iq g) h1 λl f=>absurd f nj
theorem Cq{S:Spc}{c:List Ent}(h:PG S b c)(hn:aw nm=ZG)(g:cL c nm=Y)(h1:atL b nm=Y)(h2:atI (nm0 S.f0) S.n0 nm=Y)(h3:atI (nm1 S.f1) S.n1 nm=Y):PG S b (c++[⟨nm,2,0,⟨#[]⟩,0,[]⟩]) :=
 h.add ⟨hn,E4 _,⟨Int.le_refl _,by show(0:Int)<=5;decide⟩,.inr (.inl ⟨rfl,rfl,rfl,rfl,h2,h3⟩),E4 _,λl f=>absurd f nj⟩ (iq g) h1 λl f=>absurd f nj
theorem mC{S:Spc}(o:SpcOk S):∀n b,vv S b (bC S n b):=by
 intro n;have m:∀b g nm f e (tgt:Nat->Out Ent),PG S b g->aw nm=ZG->(∀t f e,atI (nm0 S.f0) S.n0 nm=Y->atI (nm1 S.f1) S.n1 nm=T t->cL g nm=Y->atL b nm=Y->tgt t=.inl (f,e)->PG S b f/\(∃more,f=g++more)/\e∈f/\e.e=nm)->fW S tgt b g nm=.inl (f,e)->PG S b f/\(∃more,f=g++more)/\e∈f/\e.e=nm:=by
  intro b g nm f e tgt j hn r h;unfold fW at h;split at h
  ·rename_i e1 s;cases h
   exact⟨j,⟨[],by simp⟩,qC s⟩
  ·rename_i l;split at h;{cases h}
   ·rename_i h1;unfold jZ jr at h;split at h
    ·rename_i i hi;cases h
     exact⟨Fx o j hn l h1 hi,⟨_,rfl⟩,by simp,rfl⟩
    ·rename_i h2;split at h;{rename_i t h3;exact r _ _ _ h2 h3 l h1 h}
     ·rename_i h3;cases h
      exact⟨Cq j hn l h1 h2 h3,⟨_,rfl⟩,by simp,rfl⟩
 induction n with
 |zero =>intro b g nm f e j hn h;rw[bC] at h;exact m _ _ _ _ _ _ j hn (λt _ _ _ _ _ _ h=>by cases h) h
 |succ n u =>
  intro b g nm f e j hn h;rw[bC] at h;refine m _ _ _ _ _ _ j hn (λt f e h2 h3 l h1 h=>?_) h;rcases hr:dR S (bC S n (b++[nm])) t 201 g [] [] with ⟨made1,x⟩|c|c;{rw[hr] at h;simp only[nC,jr,X5,LN] at h;obtain⟨rfl,rfl⟩:=h;obtain⟨y,⟨more,z⟩,p,B,q,A⟩:=sP o (cW h3).1 (u (b++[nm])) _ _ _ _ _ _ (rB j l) (vt S g) rfl hr;exact⟨Fw y hn h1 h2 h3 p B q A,⟨more++[_],by rw[z,OV]⟩,by simp,rfl⟩};{rw[hr] at h;cases h};{rw[hr] at h;cases h}
def pu (b:List Ent)(nm:ByteArray):Nat:=b.findIdx λe=>e.e.toList == nm.toList
def lkD (b:List Ent)(l:Lk):Link:=⟨l.e,l.ask,l.has,if l.ask=ZG then ((pu b l.e:Nat):Int) else 0⟩
def lkF (b:List Ent)(c:List Lk):Nat->Link:=λi=>lkD b (c.getD i ⟨⟨#[]⟩,ZA,ZA⟩)
def fy (S:Spc)(e:Ent):Nat:=if e.m=3 then (S.f1 e.tg).f else 0
def iX (S:Spc)(b:List Ent)(e:Ent):Deed:=⟨e.e,e.m,e.E,e.B,fy S e,(S.f1 e.tg).H,e.looks.length,lkF b e.looks⟩
def iu (S:Spc)(b:List Ent):List Deed:=b.map (iX S b)
theorem Ct{b:List Ent}{c:List Lk}{l:Lk}(h:c[i]?=T l):lkF b c i=lkD b l:=by unfold lkF;rw[IA,h];rfl
theorem qD (S:Spc)(nm:ByteArray):PG S [] (ci S nm).1/\(ci S nm).1.length<=40201/\((ci S nm).1≠[]->SpcOk S):=by
 unfold ci;split
 ·rename_i h;have c:=SpcOk.of h.1;split
  ·rename_i b e g;have f:=mB S 60 [] [] nm b e g;unfold gC at f;have hl:d9 S [] []<=S.n1:=by unfold d9;have:=T0 (p:=jA S [] []) (l:=List.range S.n1);simpa using this
   have hs:=c.az;refine⟨(mC c 60 [] [] nm b e (nE S []) h.2 g).1,?_,λ_=>c⟩;simp only[nX] at f;show b.length<=40201;omega
  {exact⟨nE S [],E4 _,λh=>absurd rfl h⟩};{exact⟨nE S [],E4 _,λh=>absurd rfl h⟩}
 {exact⟨nE S [],E4 _,λh=>absurd rfl h⟩}
theorem PG.idx{S:Spc}{c:List ByteArray}{b:List Ent}(h:PG S c b){x:Ent}(g:b[i]?=T x):pu b x.e=i:=by
 obtain⟨hi,e⟩:=n8.1 g;unfold pu;rw[List.findIdx_eq hi];refine⟨by simp[e],λj l=>?_⟩;have f:=PV.1 h.nod j i (by omega) hi l;rw[e] at f;cases hb:(b[j].e.toList == x.e.toList) with
 |false=>rfl
 |true=>exact absurd (bytes_beq hb) f
theorem PG.asked{S:Spc}{c:List ByteArray}{b:List Ent}(h:PG S c b){x:Ent}(g:b[i]?=T x){l:Lk}(m:l∈x.looks)(n:l.ask=ZG):∃y,b[pu b l.e]?=T y/\y.e=l.e/\pu b l.e<i:=by obtain⟨j,y,hj,f,e⟩:=h.ord i x g l m n;have:=h.idx f;rw[e] at this;exact⟨y,by rw[this];exact f,e,by omega⟩
theorem Ag{b:List Ent}{e:Ent}(h:cL b e.e=Y):cL (b++[e]) e.e=T e:=by rw[jf,h];simp
theorem Cu (f:Nat->Ins)(cnt:Nat)(i:List aI)(r:aI)(o:r.has=ZA)(k:Nat):∀place steps looks j,looks<=i.length->(dn f cnt (yL i) i.length k place steps looks j).over=ZA->(dn f cnt (yL i) i.length k place steps looks j).ask=ZG->(dn f cnt (yL (i++[r])) (i.length+1) k place steps looks j).over=ZG:=by
 induction k with
 |zero=>intro _ _ _ _ _ _ h;cases h
 |succ k l =>
  intro place steps looks j n g b;rw[dn] at g b ⊢;rcases hs:dt f cnt place steps looks j with ⟨s,p⟩|⟨c,x⟩|⟨a,nm,s⟩
  {rw[hs] at g b;exact l _ _ _ _ n g b};{rfl}
  ·rw[hs] at g b;simp only at g b ⊢;rw[gM (show ¬ i.length+1<=looks by omega)];by_cases hn:i.length<=looks
   ·obtain rfl:looks=i.length:=by omega
    rw[p6 hn] at g b;have m:a=ZG:=b;subst m;rw[gM (by simp),Kl,p6 o];rfl
   {rw[gM hn] at g b;rw[JB _ _ (by omega)];split;{rename_i h1;rw[p6 h1] at g b;exact l _ _ _ _ (by omega) g b};{rename_i h1;rw[gM h1] at g b;split;{rfl};{rename_i h2;rw[gM h2] at g b;split;{rename_i h4;rw[p6 h4] at g b;exact l _ _ _ _ (by omega) g b};{rfl}}}}
def mD (S:Spc)(b:List Ent):Nat:=(List.range S.n0).countP λi=>(cL b (S.f0 i).e).isNone
def Mu (S:Spc)(c:List ByteArray)(b:List Ent):Nat:=b.length+2*d9 S c b+mD S b
theorem sQ (S:Spc)(b:List Ent)(e:Ent):mD S (b++[e])<=mD S b:=by
 refine TZ λt _ h=>?_;rw[jf] at h;cases h2:cL b (S.f0 t).e with
 |none=>rfl
 |some x=>rw[h2] at h;simp at h
theorem Cv{S:Spc}{b:List Ent}{e:Ent}(hi:i<S.n0)(hn:(S.f0 i).e=e.e)(h:cL b e.e=Y):mD S (b++[e])+1<=mD S b:=by
 refine sN (λx _ h=>?_) (PL.2 hi) ?_ ?_
 ·rw[jf] at h;cases h2:cL b (S.f0 x).e with
  |none=>rfl
  |some y=>rw[h2] at h;simp at h
 {rw[hn,Ag h];rfl};{rw[hn,h];rfl}
def Cw (S:Spc)(b:List ByteArray)(g:List Ent->ByteArray->Out Ent):Prop:=∀f nm c e,g f nm=.inl (c,e)->Mu S b c<=Mu S b f+if e.m=2 then 1 else 0
theorem Im{S:Spc}{i:List Ent->ByteArray->Out Ent}{c:List ByteArray}(p:Cw S c i):∀k f g j b x,dR S i t k f g j=.inl (b,x)->Mu S c b<=Mu S c f+1:=by
 intro k;induction k with
 |zero=>intro f g j b x h;cases h
 |succ k m =>
  intro f g j b x h;rw[dR] at h;split at h;{cases h;omega}
  ·rename_i q;split at h;{exact m _ _ _ _ _ h}
   ·rename_i r;split at h
    ·rename_i made1 e o;have h1:=p _ _ _ _ o;by_cases l:e.m=2
     ·have n:(eZ S t (g++[nB e])).over=ZG:=by
       have:=Cu (S.f1 t).H (S.f1 t).f g (nB e) (by simp[nB,l]) 2001 0 0 0 [] (E4 _) (by simpa[eZ] using q) (by simpa[eZ] using r);unfold eZ;rw[cM];exact this
      cases k with
      |zero=>cases h
      |succ k =>
       rw[dR,p6 n] at h;cases h
       rw[p6 l] at h1;exact h1
     {rw[gM l] at h1;have:=m _ _ _ _ _ h;omega}
    {cases h};{cases h}
theorem Fy (S:Spc):∀n b,Cw S b (bC S n b):=by
 intro n;have m:∀b f nm g e (tgt:Nat->Out Ent),(∀t g e,atI (nm1 S.f1) S.n1 nm=T t->cL f nm=Y->atL b nm=Y->tgt t=.inl (g,e)->Mu S b g<=Mu S b f)->fW S tgt b f nm=.inl (g,e)->Mu S b g<=Mu S b f+if e.m=2 then 1 else 0:=by
  intro b f nm g e tgt q h;unfold fW at h;split at h;{cases h;omega}
  ·rename_i l;split at h;{cases h}
   ·rename_i h1;unfold jZ jr at h;split at h
    ·rename_i i hi;cases h
     have:=kK S b f ⟨nm,1,0,(S.f0 i).B,0,[]⟩;have:=Cv (S:=S) (e:=⟨nm,1,0,(S.f0 i).B,0,[]⟩) (cW hi).1 (cW hi).2 l;unfold Mu;rw[cM,DW];omega
    ·split at h;{rename_i t h3;have:=q _ _ _ h3 l h1 h;omega}
     ·cases h
      have:=kK S b f ⟨nm,2,0,⟨#[]⟩,0,[]⟩;have:=sQ S f ⟨nm,2,0,⟨#[]⟩,0,[]⟩;rw[p6 rfl];unfold Mu;rw[cM,DW];omega
 induction n with
 |zero =>intro b f nm g e h;rw[bC] at h;exact m _ _ _ _ _ _ (λt _ _ _ _ _ h=>by cases h) h
 |succ n o =>
  intro b f nm g e h;rw[bC] at h;refine m _ _ _ _ _ _ (λt g e h3 l h1 h=>?_) h;rcases hr:dR S (bC S n (b++[nm])) t 201 f [] [] with ⟨j,x⟩|c|c;{rw[hr] at h;simp only[nC,jr,X5,LN] at h;obtain⟨rfl,rfl⟩:=h;have p:=Im (o (b++[nm])) _ _ _ _ _ _ hr;have g2:=iW (making:=b) (made:=f) (cW h3).1 (cW h3).2 l h1;have g3:d9 S b (j++[⟨nm,3,x.1.E,x.1.B,t,x.2⟩])<=d9 S (b++[nm]) j:=sM S b j ⟨nm,3,x.1.E,x.1.B,t,x.2⟩;have g4:=sQ S j ⟨nm,3,x.1.E,x.1.B,t,x.2⟩;unfold Mu at p ⊢;rw[cM,DW];omega};{rw[hr] at h;cases h};{rw[hr] at h;cases h}
theorem Ah{S:Spc}(g:SpcOk S){b:List Ent}{e:Ent}(h:bC S 60 [] [] nm=.inl (b,e)):b.length<=400:=by
 have h1:=Fy S 60 [] [] nm b e h;have hl:d9 S [] []<=S.n1:=by have:=T0 (p:=jA S [] []) (l:=List.range S.n1);simpa[d9] using this
 have hs:mD S []<=S.n0:=by have:=T0 (p:=λi=>(cL [] (S.f0 i).e).isNone) (l:=List.range S.n0);simpa[mD] using this
 have h2:=g.az;by_cases f:e.m=2
 ·rw[bC] at h;unfold fW at h;simp only[cL,List.find?_nil,atL,List.findIdx?_nil] at h;unfold jZ jr at h;split at h;{cases h;cases f}
  ·split at h;{rename_i t h3;simp only at h;rcases hr:dR S (bC S 59 ([]++[nm])) t 201 [] [] [] with ⟨made1,x⟩|c|c;{rw[hr] at h;simp only[nC,jr,X5,LN] at h;obtain⟨rfl,rfl⟩:=h;cases f};{rw[hr] at h;cases h};{rw[hr] at h;cases h}}
   ·cases h
    show 1<=400;omega
 {rw[gM f] at h1;unfold Mu at h1;rw[nX] at h1;omega}
theorem Io{x y:Ins}(h:mS x y=ZG):x=y:=by obtain⟨a,b,c⟩:=x;obtain⟨a',b',c'⟩:=y;simp only[mS,zA,beq_iff_eq] at h;obtain⟨⟨rfl,hb⟩,rfl⟩:=h;rw[oS hb]
theorem Fz{g:Nat->Ins}(h:fo f g n=ZG)(i:Nat)(hi:i<n):f i=g i:=by have:=pQ (show i+1<=n by omega) h;simp only[fo,zA] at this;exact Io this.2
section
variable {S:Spc}{f:Nat->Deed}{n:Nat}
structure fD (x y:Deed):Prop where
 e:x.e=y.e
 m:x.m=y.m
 E:x.E=y.E
 B:x.B=y.B
 f:x.f=y.f
 H:∀i,i<x.f->x.H i=y.H i
 b:x.b=y.b
 D:∀i,i<x.b->x.D i=y.D i
end
theorem qE {f g:Nat->Ins}:∀{n:Nat},(∀i,i<n->f i=g i)->fo f g n=ZG
 |0,_=>rfl
 |n+1,h=>by rw[fo,qE λi hi=>h i (by omega),h n (by omega)];simp[mS]
