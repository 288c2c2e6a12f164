import Derived.Test.YtoddkejemcbkmaaGreatDoorQK
import Derived.Test.YtoddkejemcbkmaaGreatDoorSP
set_option linter.unusedSimpArgs false
open Option renaming none->Y,some->T
open Bool renaming false->ZA,true->ZG
namespace Go.Proofs.YtoddkejemcbkmaaGreatDoor.Vp
open RowKit
variable {nm x:ByteArray}{b making L:List ByteArray}{i t looks n place steps:Nat}{f:Nat->Ins}{c:Int}{p:Nat->Bool}
structure Spc where
 n0:Nat
 f0:Nat->Source
 n1:Nat
 f1:Nat->Target
structure Lk where
 e:ByteArray
 ask:Bool
 has:Bool
structure Ent where
 e:ByteArray
 E:Int
 B:Int
 h:ByteArray
 tg:Nat
 looks:List Lk
abbrev Out (b:Type):=(List Ent × b) ⊕ List ByteArray ⊕ ByteArray
def Ek:aK:=⟨ZA,0,⟨#[]⟩⟩
def yL (b:List aK):Nat->aK:=λk=>b.getD k Ek
def mV (e:Ent):aK:=⟨decide (¬ e.E=2),e.B,e.h⟩
def kL (S:Spc)(t:ByteArray):Bool:=cH (nm0 S.f0) S.n0 t || cH (nm1 S.f1) S.n1 t
def atI (g:Nat->ByteArray)(n:Nat)(t:ByteArray):Option Nat:=(List.range n).find? λi=>(g i).toList == t.toList
def atL (L:List ByteArray)(t:ByteArray):Option Nat:=L.findIdx? λx=>x.toList == t.toList
def cJ (b:List Ent)(t:ByteArray):Option Ent:=b.find? λe=>e.e.toList == t.toList
def eS (S:Spc)(t:Nat)(b:List aK):Turn:=dR (S.f1 t).G (S.f1 t).f (yL b) b.length 2001 0 0 0 []
def dV (S:Spc)(b:List Ent->ByteArray->Out Ent)(t:Nat):Nat->List Ent->List aK->List Lk->Out (Turn × List Lk)
 |0,_,_,_=>.inr (.inr ⟨#[]⟩)
 |k+1,made,ys,ls =>
  if (eS S t ys).over=ZG then .inl (made,(eS S t ys,ls))
  else if (eS S t ys).ask=ZA then dV S b t k made (ys++[⟨kL S (eS S t ys).e,0,⟨#[]⟩⟩]) (ls++[⟨(eS S t ys).e,ZA,kL S (eS S t ys).e⟩])
  else match b made (eS S t ys).e with
   |.inl (made',e)=>dV S b t k made' (ys++[mV e]) (ls++[⟨(eS S t ys).e,ZG,ZA⟩])
   |.inr (.inl c)=>.inr (.inl c)
   |.inr (.inr d)=>.inr (.inr d)
def jh (b:List Ent)(e:Ent):Out Ent:=.inl ((b++[e]),e)
def mW (nm:ByteArray)(t:Nat):Out (Turn × List Lk)->Out Ent
 |.inl (made,x)=>jh made ⟨nm,3,x.1.B,x.1.h,t,x.2⟩
 |.inr (.inl c)=>.inr (.inl c)
 |.inr (.inr d)=>.inr (.inr d)
def jO (S:Spc)(tgt:Nat->Out Ent)(b:List Ent)(nm:ByteArray):Out Ent :=
 match atI (nm0 S.f0) S.n0 nm with
 |some i=>jh b ⟨nm,1,0,(S.f0 i).h,0,[]⟩
 |none=>match atI (nm1 S.f1) S.n1 nm with
  |some t=>tgt t
  |none=>jh b ⟨nm,2,0,⟨#[]⟩,0,[]⟩
def fQ (S:Spc)(tgt:Nat->Out Ent)(b:List ByteArray)(c:List Ent)(nm:ByteArray):Out Ent :=
 match cJ c nm with
 |some e=>.inl (c,e)
 |none=>match atL b nm with
  |some i=>.inr (.inl (b.drop i))
  |none=>jO S tgt c nm
def bG (S:Spc):Nat->List ByteArray->List Ent->ByteArray->Out Ent
 |0,making,made,nm=>fQ S (λ_=>.inr (.inr nm)) making made nm
 |n+1,making,made,nm=>fQ S (λt=>mW nm t (dV S (bG S n (making++[nm])) t 201 made [] [])) making made nm
def Jk (S:Spc)(n:Nat)(b:List ByteArray)(c:List Ent)(nm:ByteArray)(t:Nat):Out Ent :=
 match n with
 |0=>.inr (.inr nm)
 |n+1=>mW nm t (dV S (bG S n (b++[nm])) t 201 c [] [])
theorem El (S:Spc)(n:Nat)(b:List ByteArray)(c:List Ent)(nm:ByteArray):bG S n b c nm=fQ S (Jk S n b c nm) b c nm:=by
 cases n with
 |zero=>rw[bG];rfl
 |succ n=>rw[bG];rfl
structure kM where
 B:Int
 h:ByteArray
 j:List ByteArray
def dP (e:Ent):kM:=if e.E=2 then ⟨4,e.e,[]⟩ else ⟨e.B,e.h,[]⟩
def cf (S:Spc)(nm:ByteArray):List Ent × kM :=
 if ce S.n0 S.f0 S.n1 S.f1=0/\aw nm=ZG then
  (match bG S 60 [] [] nm with
   |.inl (made,e)=>(made,dP e)
   |.inr (.inl c)=>([],⟨6,⟨#[]⟩,c⟩)
   |.inr (.inr d)=>([],⟨7,d,[]⟩))
 else ([],⟨9,⟨#[]⟩,[]⟩)
theorem I9 (b:List aK)(r:aK):yL (b++[r]) b.length=r:=by simp[yL]
theorem Ik (b:List aK)(r:aK){k:Nat}(h:k<b.length):yL (b++[r]) k=yL b k:=by simp[yL,MM h]
theorem IJ (f:Nat->Ins)(cnt:Nat)(y z:Nat->aK)(n:Nat)(k:Nat):∀place steps looks b,(∀i,looks<=i->i<n->y i=z i)->dR f cnt y n k place steps looks b=dR f cnt z n k place steps looks b:=by
 induction k with
 |zero=>intro _ _ _ _ _;rfl
 |succ k g =>
  intro place steps looks b h;rw[dR,dR];rcases dm f cnt place steps looks b with ⟨s,p⟩|⟨c,x⟩|⟨a,nm,s⟩
  {exact g _ _ _ _ h};{rfl};{simp only;by_cases hn:n<=looks;{rw[p7 hn,p7 hn]};{rw[nD hn,nD hn,h looks ly (by omega),g _ _ _ _ λi hi=>h i (by omega),g _ _ _ _ λi hi=>h i (by omega)]}}
theorem pT (u:Nat):(Lib.decDigits u).length<=u+1:=by
 induction u using Nat.strongRecOn with
 |ind u b =>
  rw[Lib.decDigits];split;{simp};{have:=b (u / 10) (by omega);simp only[cM,eT,nX];omega}
theorem ko{p:Nat}(h:p<=2000):(eW p).size<=2000:=by
 show(Lib.decDigits p).length<=2000;rw[Lib.decDigits];split;{simp};{have:=pT (p / 10);simp only[cM,eT,nX];omega}
def nG (c:Int)(x:ByteArray):Prop:=0<=c/\c<=5/\x.size<=2000
theorem yY{ask:Bool}{a:ByteArray}{r:List ByteArray}{here:Nat}(h:kl ask a r here looks=.inr (.inl (c,x)))(b:here<=2000):nG c x:=by
 unfold kl at h;split at h;{cases h;exact⟨by omega,by omega,ko b⟩};{split at h;{cases h;exact⟨by omega,by omega,by decide⟩};{cases h}}
theorem sR{op:Nat}{t:ByteArray}{here:Nat}(h:dO op n t here looks b=.inr (.inl (c,x)))(g:∀z∈b,z.size<=2000)(f:here<=2000):nG c x:=by
  unfold dO at h;split at h;all_goals first
    |(cases h;done)
    |exact yY h f
    | (split at h
       · cases h
       · cases h;exact⟨by omega,by omega,ko f⟩)
    |(cases h;exact⟨by omega,by omega,g _ (by simp)⟩)
    |(cases h;exact⟨by omega,by omega,by decide⟩)
theorem yZ{cnt:Nat}(h:dm f cnt place steps looks b=.inr (.inl (c,x)))(i:∀z∈b,z.size<=2000)(g:place<=2000):nG c x:=by
 unfold dm at h;split at h;{cases h;exact⟨by omega,by omega,ko g⟩};{split at h;{cases h;exact⟨by omega,by omega,by decide⟩};{split at h;{cases h;exact⟨by omega,by omega,ko g⟩};{exact sR h i g}}}
theorem wv{cnt:Nat}(h1:b.length<=50)(h2:∀z∈b,z.size<=2000)(h3:looks<=200)(c:dA f cnt=ZG)(hc:cnt<=200):kK (dm f cnt place steps looks b) looks:=by
 unfold dm;split;{trivial}
 ·rename_i h1;split;{trivial}
  ·split;{trivial}
   ·rename_i h3;have hi:=gL c (show place<cnt by omega);simp only[aG,z8] at hi;obtain⟨i1,i2,i3,i4,i5⟩:=hi;have hmt:bN (f place).op<=2000:=by unfold bN;split<;>(try split)<;>omega
    have hmt2:aF (f place).op<=2000:=by unfold aF;split<;>omega
    exact my _ _ _ _ _ _ (by assumption) h2 (by omega) (by omega) (by omega) (by assumption) (by omega) (by omega) (by simpa using h3)
def AV (n:Nat)(ZL:Turn):Prop:=(ZL.over=ZG/\nG ZL.B ZL.h)∨(ZL.over=ZA/\n<200/\aw ZL.e=ZG)
theorem ux{cnt:Nat}{s:List ByteArray}{a:Bool}(h:dm f cnt place steps looks b=.inr (.inr (a,nm,s))):place<cnt:=by
 unfold dm at h;split at h;{cases h};{omega}
theorem AX (h:aw nm=ZG):nm.size<=60:=by simp only[aw,zA,z8] at h;omega
theorem Em (f:Nat->Ins)(cnt:Nat)(y:Nat->aK)(n:Nat)(q:dA f cnt=ZG)(C:cnt<=200)(B:∀i,i<n->(y i).h.size<=2000)(k:Nat):∀place steps looks b,b.length<=50->(∀z∈b,z.size<=2000)->place<=2000->steps<=2000->looks<=200->looks<=n->k+steps=2001->AV n (dR f cnt y n k place steps looks b):=by
 induction k with
 |zero=>intro _ _ _ _ _ _ _ _ _ _ h;omega
 |succ k o =>
  intro place steps looks b h1 h2 h3 h4 r A h7;have l:=wv (f:=f) (cnt:=cnt) (place:=place) (steps:=steps) h1 h2 r q C;rw[dR];rcases hs:dm f cnt place steps looks b with ⟨s,p⟩|⟨c,x⟩|⟨a,nm,s⟩
  {rw[hs] at l;obtain⟨t,j,g⟩:=l;obtain⟨m,u⟩:=uu hs;simp only;rw[m];exact o _ _ _ _ t j g (by omega) r A (by omega)};{exact .inl ⟨rfl,yZ hs h2 h3⟩};{rw[hs] at l;obtain⟨t,j,g,g4⟩:=l;obtain⟨m,u⟩:=pS hs;have hp:=ux hs;have hz:=AX g;simp only;rw[m];split;{exact .inr ⟨rfl,by omega,g⟩};{split;{refine o _ _ _ _ (by simp;omega) (λz hz=>?_) (by omega) (by omega) (by omega) (by omega) (by omega);rcases A9.1 hz with rfl|hz;{exact lX _};{exact j z hz}};{split;{exact .inl ⟨rfl,by simp[iC],by simp[iC],by simp only[iC];omega⟩};{split;{refine o _ _ _ _ (by simp;omega) (λz hz=>?_) (by omega) (by omega) (by omega) (by omega) (by omega);rcases A9.1 hz with rfl|hz;{exact B _ (by omega)};{exact j z hz}};{exact .inl ⟨rfl,by simp[iC],by simp[iC],by simp only[iC];omega⟩}}}}}
def jq (S:Spc)(b:List ByteArray)(c:List Ent):Nat->Bool:=λt=>(cJ c (S.f1 t).e).isNone && (atL b (S.f1 t).e).isNone
def ei (S:Spc)(b:List ByteArray)(c:List Ent):Nat:=(List.range S.n1).countP (jq S b c)
theorem iX (b:List Ent)(e:Ent)(t:ByteArray):cJ (b++[e]) t=(cJ b t).or (if (e.e.toList == t.toList)=ZG then T e else Y):=by unfold cJ;rw[List.find?_append];cases h:(e.e.toList == t.toList)<;>simp[h]
theorem qI (L:List ByteArray)(x t:ByteArray):(atL (L++[x]) t).isNone=((atL L t).isNone && !(x.toList == t.toList)):=by unfold atL;rw[List.findIdx?_append];cases h:(x.toList == t.toList)<;>cases h2:List.findIdx? (λx=>x.toList == t.toList) L<;>simp[h,List.findIdx?_cons]
theorem kq (S:Spc)(b:List ByteArray)(c:List Ent)(e:Ent):ei S b (c++[e])<=ei S b c:=by
 refine Q3 λt _ h=>?_;simp only[jq,zA,iX] at h ⊢;refine⟨?_,h.2⟩;cases h2:cJ c (S.f1 t).e with
 |none=>rfl
 |some x=>rw[h2] at h;simp at h
theorem rQ (S:Spc)(b:List ByteArray)(c:List Ent)(e:Ent):ei S b (c++[e])<=ei S (b++[e.e]) c:=by
 refine Q3 λt _ h=>?_;simp only[jq,zA,iX,qI] at h ⊢;cases h2:cJ c (S.f1 t).e with
 |some x=>rw[h2] at h;simp at h
 |none =>
  rw[h2] at h;refine⟨rfl,h.2,?_⟩;cases h3:(e.e.toList == (S.f1 t).e.toList) with
  |false=>rfl
  |true=>rw[h3] at h;simp at h
theorem rR{q:Nat->Bool}{l:List Nat}(h:∀x∈l,p x=ZG->q x=ZG){a:Nat}(b:a∈l)(h1:p a=ZA)(h2:q a=ZG):l.countP p+1<=l.countP q:=by
 induction l with
 |nil=>cases b
 |cons x l c =>
  have hm:l.countP p<=l.countP q:=Q3 λz hz=>h z (mq _ hz);rw[List.countP_cons,List.countP_cons];rcases A9.1 b with rfl|b;{rw[h1,h2];simp;omega}
  ·have:=c (λz hz=>h z (mq _ hz)) b;cases hp:p x with
   |false=>simp;split<;>omega
   |true=>rw[h x List.mem_cons_self hp];simp;omega
theorem iN{S:Spc}{made:List Ent}(b:t<S.n1)(hn:(S.f1 t).e=nm)(h1:cJ made nm=Y)(h2:atL making nm=Y):ei S (making++[nm]) made+1<=ei S making made:=by
 refine rR (λx _ h=>?_) (NH.2 b) ?_ ?_;{simp only[jq,zA,qI] at h ⊢;exact⟨h.1,h.2.1⟩};{simp[jq,qI,hn]};{simp[jq,hn,h1,h2]}
theorem cT{g:Nat->ByteArray}{t:ByteArray}(h:atI g n t=T i):i<n/\g i=t:=by unfold atI at h;have h1:=List.find?_some h;have h2:=List.mem_of_find?_eq_some h;exact⟨NH.1 h2,bytes_beq h1⟩
def gu (S:Spc)(b:List ByteArray)(f c:List Ent)(k:Nat):Prop:=c.length+201*ei S b c<=f.length+201*ei S b f+k
theorem rS{S:Spc}{f:List Ent->ByteArray->Out Ent}(l:∀c nm b e,f c nm=.inl (b,e)->gu S making c b 1):∀k c g i b x,dV S f t k c g i=.inl (b,x)->gu S making c b (k - 1):=by
 intro k;induction k with
 |zero=>intro c g i b x h;cases h
 |succ k j =>
  intro c g i b x h;rw[dV] at h;split at h;{cases h;unfold gu;omega}
  ·cases k with
   |zero =>
    split at h;{cases h};{split at h<;>cases h}
   |succ k =>
    split at h;{have:=j _ _ _ _ _ h;unfold gu at this ⊢;omega};{split at h;{rename_i made1 e m;have h1:=l _ _ _ _ m;have h2:=j _ _ _ _ _ h;unfold gu at h1 h2 ⊢;omega};{cases h};{cases h}}
theorem lZ (S:Spc):∀n b g nm f e,bG S n b g nm=.inl (f,e)->gu S b g f 1:=by
 intro n;have l:∀b g nm f e (tgt:Nat->Out Ent),(∀t f e,atI (nm1 S.f1) S.n1 nm=T t->cJ g nm=Y->atL b nm=Y->tgt t=.inl (f,e)->gu S b g f 1)->fQ S tgt b g nm=.inl (f,e)->gu S b g f 1:=by
  intro b g nm f e tgt r h;unfold fQ at h;split at h;{cases h;unfold gu;omega}
  ·rename_i m;split at h;{cases h}
   ·rename_i h1;unfold jO jh at h;split at h
    ·rename_i i hi;cases h
     have:=kq S b g ⟨nm,1,0,(S.f0 i).h,0,[]⟩;unfold gu;rw[cM,DW];omega
    ·split at h;{rename_i t h3;exact r _ _ _ h3 m h1 h}
     ·cases h
      have:=kq S b g ⟨nm,2,0,⟨#[]⟩,0,[]⟩;unfold gu;rw[cM,DW];omega
 induction n with
 |zero =>intro b g nm f e h;rw[bG] at h;exact l _ _ _ _ _ _ (λt _ _ _ _ _ h=>by cases h) h
 |succ n q =>
  intro b g nm f e h;rw[bG] at h;refine l _ _ _ _ _ _ (λt f e h3 m h1 h=>?_) h;rcases hr:dV S (bG S n (b++[nm])) t 201 g [] [] with ⟨j,x⟩|c|c;{rw[hr] at h;simp only[mW,jh,VG,MG] at h;obtain⟨rfl,rfl⟩:=h;have o:=rS (making:=b++[nm]) (λg nm2 f e p=>q _ _ _ _ _ p) _ _ _ _ _ _ hr;have g2:=iN (making:=b) (made:=g) (cT h3).1 (cT h3).2 m h1;have g3:ei S b (j++[⟨nm,3,x.1.B,x.1.h,t,x.2⟩])<=ei S (b++[nm]) j:=rQ S b j ⟨nm,3,x.1.B,x.1.h,t,x.2⟩;unfold gu at o ⊢;rw[cM,DW];omega};{rw[hr] at h;cases h};{rw[hr] at h;cases h}
structure SpcOk (S:Spc):Prop where
 chk:ce S.n0 S.f0 S.n1 S.f1=0
 asc0:dQ (nm0 S.f0) S.n0=ZG
 asc1:dQ (nm1 S.f1) S.n1=ZG
 av:S.n0+S.n1<=200
 h:∀i,i<S.n0->(S.f0 i).h.size<=2000
 G:∀t,t<S.n1->valid (S.f1 t).G (S.f1 t).f=ZG
theorem oW (h:dE p n=ZA)(hi:i<n):p i=ZA:=by
 induction n with
 |zero=>omega
 |succ n b =>
  rw[dE,Bool.or_eq_false_iff] at h;by_cases e:i=n;{subst e;exact h.2};{exact b h.1 (by omega)}
theorem SpcOk.of{S:Spc}(h:ce S.n0 S.f0 S.n1 S.f1=0):SpcOk S:=by
 obtain⟨h1,h2,h3⟩:=zO h;have f:=h;unfold ce at h;split at h;· omega
 split at h;· omega
 split at h;· omega
 split at h;· omega
 split at h;· omega
 split at h;· omega
 split at h;· omega
 split at h;· omega
 rename_i c g;refine⟨f,h1,h2,h3,λi hi=>?_,λt b=>?_⟩;{have:=oW (Bool.eq_false_iff.2 c) hi;simp only[pn,NF] at this;omega};{have:=oW (Bool.eq_false_iff.2 g) b;simpa[eU] using this}
structure EG (S:Spc)(x:Ent):Prop where
 nm:aw x.e=ZG
 tx:x.h.size<=2000
 B:0<=x.B/\x.B<=5
 E:(x.E=1/\x.B=0/\x.looks=[]/\∃i,atI (nm0 S.f0) S.n0 x.e=T i/\x.h=(S.f0 i).h)∨(x.E=2/\x.B=0/\x.h=⟨#[]⟩/\x.looks=[]/\atI (nm0 S.f0) S.n0 x.e=Y/\atI (nm1 S.f1) S.n1 x.e=Y)∨(x.E=3/\atI (nm0 S.f0) S.n0 x.e=Y/\atI (nm1 S.f1) S.n1 x.e=T x.tg)
 looks:x.looks.length<=200
 lname:∀l∈x.looks,aw l.e=ZG
structure PG (S:Spc)(making:List ByteArray)(made:List Ent):Prop where
 ents:∀x∈made,EG S x
 nod:made.Pairwise λx y=>x.e≠y.e
 off:∀x∈made,atL making x.e=Y
 ord:∀(i:Nat) (x:Ent),made[i]?=T x->∀l∈x.looks,l.ask=ZG->∃(j:Nat) (y:Ent),j<i/\made[j]?=T y/\y.e=l.e
theorem mX (S:Spc)(b:List ByteArray):PG S b []:=⟨λx h=>absurd h nj,List.Pairwise.nil,λx h=>absurd h nj,λi x h=>by simp at h⟩
theorem gZ{b:List Ent}(h:cJ b nm=Y):∀x∈b,x.e≠nm:=by intro x c e;have:=List.find?_eq_none.1 h x c;rw[e] at this;simp at this
theorem pU{b:List Ent}{e:Ent}(h:cJ b nm=T e):e∈b/\e.e=nm:=⟨List.mem_of_find?_eq_some h,bytes_beq (List.find?_some (p:=λe:Ent=>e.e.toList == nm.toList) h)⟩
theorem jP (h:atL L nm=Y):∀x∈L,x≠nm:=by intro x b e;have:=QD.1 h x b;rw[e] at this;simp at this
theorem nZ (h:∀x∈L,x≠nm):atL L nm=Y :=
 QD.2 λx b=>by
  cases e:(x.toList == nm.toList) with
  |false=>rfl
  |true=>exact absurd (bytes_beq e) (h x b)
theorem PG.add{S:Spc}{g:List ByteArray}{c:List Ent}{e:Ent}(h:PG S g c)(t:EG S e)(z:∀x∈c,x.e≠e.e)(h1:atL g e.e=Y)(s:∀l∈e.looks,l.ask=ZG->∃x∈c,x.e=l.e):PG S g (c++[e]):=by
 refine⟨λx f=>?_,?_,λx f=>?_,λi x hi l q n=>?_⟩;{rcases p8.1 f with f|f;{exact h.ents x f};{rw[nL.1 f];exact t}};{rw[NI];exact⟨h.nod,TI _ _,λa n b hb=>by rw[nL.1 hb];exact z a n⟩};{rcases p8.1 f with f|f;{exact h.off x f};{rw[nL.1 f];exact h1}}
 ·rcases N1 i c.length with p|r;{rw[MM p] at hi;obtain⟨j,y,o,m,hn⟩:=h.ord i x hi l q n;exact⟨j,y,o,by rw[MM (by omega)];exact m,hn⟩}
  ·rw[I5 r] at hi;have u:x=e:=by
    cases hk:i - c.length with
    |zero=>rw[hk] at hi;simpa using hi.symm
    |succ k=>rw[hk] at hi;simp at hi
   subst u;obtain⟨y,m,hn⟩:=s l q n;obtain⟨j,o,m⟩:=SJ m;exact⟨j,y,by omega,by rw[MM o,gq o,m],hn⟩
structure RG (S:Spc)(made:List Ent)(ys:List aK)(ls:List Lk):Prop where
 good:∀y∈ys,de y=ZG
 len:ls.length=ys.length
 names:∀l∈ls,aw l.e=ZG
 asked:∀l∈ls,l.ask=ZG->∃x∈made,x.e=l.e
theorem uy (S:Spc)(b:List Ent):RG S b [] []:=⟨λ_ h=>absurd h nj,rfl,λ_ h=>absurd h nj,λ_ h=>absurd h nj⟩
theorem RG.mono{S:Spc}{c b:List Ent}{f:List aK}{g:List Lk}(h:RG S c f g)(j:∀x∈c,x∈b):RG S b f g:=⟨h.good,h.len,h.names,λl m i=>let ⟨x,hx,e⟩:=h.asked l m i;⟨x,j x hx,e⟩⟩
theorem RG.add{S:Spc}{b:List Ent}{c:List aK}{f:List Lk}{y:aK}{l:Lk}(h:RG S b c f)(g:de y=ZG)(hn:aw l.e=ZG)(i:l.ask=ZG->∃x∈b,x.e=l.e):RG S b (c++[y]) (f++[l]):=by
 refine⟨λz hz=>?_,by simp[h.len],λz hz=>?_,λz hz=>?_⟩;{rcases p8.1 hz with hz|hz;{exact h.good z hz};{rw[nL.1 hz];exact g}};{rcases p8.1 hz with hz|hz;{exact h.names z hz};{rw[nL.1 hz];exact hn}};{rcases p8.1 hz with hz|hz;{exact h.asked z hz};{rw[nL.1 hz];exact i}}
theorem FD{c:List aK}(h:∀y∈c,de y=ZG)(k:Nat):de (yL c k)=ZG:=by
 unfold yL;rcases N1 k c.length with b|b;{rw[IX,gq b];exact h _ (gz b)};{rw[IX,MR b];rfl}
theorem uz{S:Spc}(f:SpcOk S)(c:t<S.n1){b:List aK}(g:∀y∈b,de y=ZG):AV b.length (eS S t b):=by obtain⟨h1,h2,h3⟩:=bO (f.G t c);refine Em _ _ _ _ h1 (by omega) (λi _=>?_) 2001 0 0 0 [] (by simp) (by simp) (by omega) (by omega) (by omega) (by omega) (by omega);have:=FD g i;simp only[de,z8] at this;exact this.1
theorem xE (S:Spc)(t:ByteArray):de ⟨kL S t,0,⟨#[]⟩⟩=ZG:=by simp only[de,z8];exact⟨by decide,by decide,by decide⟩
theorem xF{S:Spc}{x:Ent}(h:EG S x):de (mV x)=ZG:=by have h1:=h.tx;have h2:=h.B;exact decide_eq_true ⟨h1,h2.1,Int.le_trans h2.2 (by decide)⟩
def uA (S:Spc)(c:List ByteArray)(g:List Ent->ByteArray->Out Ent):Prop:=∀f nm b e,PG S c f->aw nm=ZG->g f nm=.inl (b,e)->PG S c b/\(∃more,b=f++more)/\e∈b/\e.e=nm
theorem rT{S:Spc}(G:SpcOk S){j:List Ent->ByteArray->Out Ent}{f:List ByteArray}(H:t<S.n1)(B:uA S f j):∀k c g m b x,PG S f c->RG S c g m->g.length+k=201->dV S j t k c g m=.inl (b,x)->PG S f b/\(∃more,b=c++more)/\nG x.1.B x.1.h/\x.2.length<=200/\(∀l∈x.2,aw l.e=ZG)/\∀l∈x.2,l.ask=ZG->∃y∈b,y.e=l.e:=by
 intro k;induction k with
 |zero=>intro c g m b x _ _ _ h;cases h
 |succ k s =>
  intro c g m b x o i hk h;have ZP:=uz G H i.good;rw[dV] at h;rcases ZP with ⟨q,p⟩|⟨q,hlt,hn⟩
  ·rw[p7 q] at h;cases h
   exact⟨o,⟨[],by simp⟩,p,by rw[i.len];omega,i.names,i.asked⟩
  ·rw[nD (by rw[q];simp)] at h;split at h;{exact s _ _ _ _ _ o (i.add (xE _ _) hn (λh=>by cases h)) (by simp;omega) h}
   ·split at h
    ·rename_i n e p;obtain⟨z,⟨more,u⟩,r,F⟩:=B _ _ _ _ o hn p;have A:RG S n g m:=i.mono λx ZO=>by rw[u];exact OB _ ZO
     obtain⟨E,⟨more2,D⟩,C⟩:=s _ _ _ _ _ z (A.add (l:=⟨(eS S t g).e,ZG,ZA⟩) (xF (z.ents e r)) hn (λ_=>⟨e,r,F⟩)) (by simp;omega) h;exact⟨E,⟨more++more2,by rw[D,u,MV]⟩,C⟩
    {cases h};{cases h}
theorem qJ{S:Spc}{c:List Ent}(h:PG S b c)(g:cJ c nm=Y):PG S (b++[nm]) c :=
 ⟨h.ents,h.nod,λx f=>nZ λz hz=>by
  rcases p8.1 hz with hz|hz
  ·exact jP (h.off x f) z hz
  ·rw[nL.1 hz];exact λe=>gZ g x f e.symm,h.ord⟩
theorem qK{S:Spc}{c:List Ent}(h:PG S (b++[nm]) c):PG S b c/\∀x∈c,x.e≠nm :=
 ⟨⟨h.ents,h.nod,λx f=>nZ λz hz=>jP (h.off x f) z (OB _ hz),h.ord⟩,λx f e=>jP (h.off x f) nm (PM _ (nL.2 rfl)) e.symm⟩
theorem En{S:Spc}{c:List Ent}{x:Turn × List Lk}(h:PG S (b++[nm]) c)(hn:aw nm=ZG)(h1:atL b nm=Y)(h2:atI (nm0 S.f0) S.n0 nm=Y)(h3:atI (nm1 S.f1) S.n1 nm=T t)(f:nG x.1.B x.1.h)(j:x.2.length<=200)(g:∀l∈x.2,aw l.e=ZG)(i:∀l∈x.2,l.ask=ZG->∃y∈c,y.e=l.e):PG S b (c++[⟨nm,3,x.1.B,x.1.h,t,x.2⟩]) :=
 (qK h).1.add ⟨hn,f.2.2,⟨f.1,f.2.1⟩,.inr (.inr ⟨rfl,h2,h3⟩),j,g⟩ (qK h).2 h1 i
theorem Eo{S:Spc}(g:SpcOk S){c:List Ent}(h:PG S b c)(hn:aw nm=ZG)(j:cJ c nm=Y)(h1:atL b nm=Y)(h2:atI (nm0 S.f0) S.n0 nm=T i):PG S b (c++[⟨nm,1,0,(S.f0 i).h,0,[]⟩]) :=
 h.add ⟨hn,g.h i (cT h2).1,⟨Int.le_refl _,by show(0:Int)<=5;decide⟩,.inl ⟨rfl,rfl,rfl,i,h2,rfl⟩,E4 _,λl f=>absurd f nj⟩ (gZ j) h1 λl f=>absurd f nj
theorem AY{S:Spc}{c:List Ent}(h:PG S b c)(hn:aw nm=ZG)(g:cJ c nm=Y)(h1:atL b nm=Y)(h2:atI (nm0 S.f0) S.n0 nm=Y)(h3:atI (nm1 S.f1) S.n1 nm=Y):PG S b (c++[⟨nm,2,0,⟨#[]⟩,0,[]⟩]) :=
 h.add ⟨hn,E4 _,⟨Int.le_refl _,by show(0:Int)<=5;decide⟩,.inr (.inl ⟨rfl,rfl,rfl,rfl,h2,h3⟩),E4 _,λl f=>absurd f nj⟩ (gZ g) h1 λl f=>absurd f nj
theorem ma{S:Spc}(o:SpcOk S):∀n b,uA S b (bG S n b):=by
 intro n;have m:∀b g nm f e (tgt:Nat->Out Ent),PG S b g->aw nm=ZG->(∀t f e,atI (nm0 S.f0) S.n0 nm=Y->atI (nm1 S.f1) S.n1 nm=T t->cJ g nm=Y->atL b nm=Y->tgt t=.inl (f,e)->PG S b f/\(∃more,f=g++more)/\e∈f/\e.e=nm)->fQ S tgt b g nm=.inl (f,e)->PG S b f/\(∃more,f=g++more)/\e∈f/\e.e=nm:=by
  intro b g nm f e tgt j hn p h;unfold fQ at h;split at h
  ·rename_i e1 u;cases h
   exact⟨j,⟨[],by simp⟩,pU u⟩
  ·rename_i l;split at h;{cases h}
   ·rename_i h1;unfold jO jh at h;split at h
    ·rename_i i hi;cases h
     exact⟨Eo o j hn l h1 hi,⟨_,rfl⟩,by simp,rfl⟩
    ·rename_i h2;split at h;{rename_i t h3;exact p _ _ _ h2 h3 l h1 h}
     ·rename_i h3;cases h
      exact⟨AY j hn l h1 h2 h3,⟨_,rfl⟩,by simp,rfl⟩
 induction n with
 |zero =>intro b g nm f e j hn h;rw[bG] at h;exact m _ _ _ _ _ _ j hn (λt _ _ _ _ _ _ h=>by cases h) h
 |succ n y =>
  intro b g nm f e j hn h;rw[bG] at h;refine m _ _ _ _ _ _ j hn (λt f e h2 h3 l h1 h=>?_) h;rcases hr:dV S (bG S n (b++[nm])) t 201 g [] [] with ⟨made1,x⟩|c|c;{rw[hr] at h;simp only[mW,jh,VG,MG] at h;obtain⟨rfl,rfl⟩:=h;obtain⟨B,⟨more,z⟩,s,A,q,r⟩:=rT o (cT h3).1 (y (b++[nm])) _ _ _ _ _ _ (qJ j l) (uy S g) rfl hr;exact⟨En B hn h1 h2 h3 s A q r,⟨more++[_],by rw[z,MV]⟩,by simp,rfl⟩};{rw[hr] at h;cases h};{rw[hr] at h;cases h}
def oX (b:List Ent)(nm:ByteArray):Nat:=b.findIdx λe=>e.e.toList == nm.toList
def lkD (b:List Ent)(l:Lk):Link:=⟨l.e,l.ask,l.has,if l.ask=ZG then ((oX b l.e:Nat):Int) else 0⟩
def lkF (b:List Ent)(c:List Lk):Nat->Link:=λi=>lkD b (c.getD i ⟨⟨#[]⟩,ZA,ZA⟩)
def fo (S:Spc)(e:Ent):Nat:=if e.E=3 then (S.f1 e.tg).f else 0
def iO (S:Spc)(b:List Ent)(e:Ent):Deed:=⟨e.e,e.E,e.B,e.h,fo S e,(S.f1 e.tg).G,e.looks.length,lkF b e.looks⟩
def ie (S:Spc)(b:List Ent):List Deed:=b.map (iO S b)
theorem AZ{b:List Ent}{c:List Lk}{l:Lk}(h:c[i]?=T l):lkF b c i=lkD b l:=by unfold lkF;rw[IX,h];rfl
theorem pV (S:Spc)(nm:ByteArray):PG S [] (cf S nm).1/\(cf S nm).1.length<=40201/\((cf S nm).1≠[]->SpcOk S):=by
 unfold cf;split
 ·rename_i h;have c:=SpcOk.of h.1;split
  ·rename_i b e g;have f:=lZ S 60 [] [] nm b e g;unfold gu at f;have hl:ei S [] []<=S.n1:=by unfold ei;have:=Q9 (p:=jq S [] []) (l:=List.range S.n1);simpa using this
   have hs:=c.av;refine⟨(ma c 60 [] [] nm b e (mX S []) h.2 g).1,?_,λ_=>c⟩;simp only[nX] at f;show b.length<=40201;omega
  {exact⟨mX S [],E4 _,λh=>absurd rfl h⟩};{exact⟨mX S [],E4 _,λh=>absurd rfl h⟩}
 {exact⟨mX S [],E4 _,λh=>absurd rfl h⟩}
theorem PG.idx{S:Spc}{c:List ByteArray}{b:List Ent}(h:PG S c b){x:Ent}(l:b[i]?=T x):oX b x.e=i:=by
 obtain⟨hi,e⟩:=p6.1 l;unfold oX;rw[List.findIdx_eq hi];refine⟨by simp[e],λj g=>?_⟩;have f:=NP.1 h.nod j i (by omega) hi g;rw[e] at f;cases hb:(b[j].e.toList == x.e.toList) with
 |false=>rfl
 |true=>exact absurd (bytes_beq hb) f
theorem PG.asked{S:Spc}{c:List ByteArray}{b:List Ent}(h:PG S c b){x:Ent}(m:b[i]?=T x){l:Lk}(n:l∈x.looks)(g:l.ask=ZG):∃y,b[oX b l.e]?=T y/\y.e=l.e/\oX b l.e<i:=by obtain⟨j,y,hj,f,e⟩:=h.ord i x m l n g;have:=h.idx f;rw[e] at this;exact⟨y,by rw[this];exact f,e,by omega⟩
theorem zb{b:List Ent}{e:Ent}(h:cJ b e.e=Y):cJ (b++[e]) e.e=T e:=by rw[iX,h];simp
theorem Bb (f:Nat->Ins)(cnt:Nat)(i:List aK)(r:aK)(o:r.has=ZA)(k:Nat):∀place steps looks j,looks<=i.length->(dR f cnt (yL i) i.length k place steps looks j).over=ZA->(dR f cnt (yL i) i.length k place steps looks j).ask=ZG->(dR f cnt (yL (i++[r])) (i.length+1) k place steps looks j).over=ZG:=by
 induction k with
 |zero=>intro _ _ _ _ _ _ h;cases h
 |succ k l =>
  intro place steps looks j n g b;rw[dR] at g b ⊢;rcases hs:dm f cnt place steps looks j with ⟨s,p⟩|⟨c,x⟩|⟨a,nm,s⟩
  {rw[hs] at g b;exact l _ _ _ _ n g b};{rfl}
  ·rw[hs] at g b;simp only at g b ⊢;rw[nD (show ¬ i.length+1<=looks by omega)];by_cases hn:i.length<=looks
   ·obtain rfl:looks=i.length:=by omega
    rw[p7 hn] at g b;have m:a=ZG:=b;subst m;rw[nD (by simp),I9,p7 o];rfl
   {rw[nD hn] at g b;rw[Ik _ _ (by omega)];split;{rename_i h1;rw[p7 h1] at g b;exact l _ _ _ _ (by omega) g b};{rename_i h1;rw[nD h1] at g b;split;{rfl};{rename_i h2;rw[nD h2] at g b;split;{rename_i h4;rw[p7 h4] at g b;exact l _ _ _ _ (by omega) g b};{rfl}}}}
def mc (S:Spc)(b:List Ent):Nat:=(List.range S.n0).countP λi=>(cJ b (S.f0 i).e).isNone
def Mu (S:Spc)(c:List ByteArray)(b:List Ent):Nat:=b.length+2*ei S c b+mc S b
theorem rU (S:Spc)(b:List Ent)(e:Ent):mc S (b++[e])<=mc S b:=by
 refine Q3 λt _ h=>?_;rw[iX] at h;cases h2:cJ b (S.f0 t).e with
 |none=>rfl
 |some x=>rw[h2] at h;simp at h
theorem Bc{S:Spc}{b:List Ent}{e:Ent}(hi:i<S.n0)(hn:(S.f0 i).e=e.e)(h:cJ b e.e=Y):mc S (b++[e])+1<=mc S b:=by
 refine rR (λx _ h=>?_) (NH.2 hi) ?_ ?_
 ·rw[iX] at h;cases h2:cJ b (S.f0 x).e with
  |none=>rfl
  |some y=>rw[h2] at h;simp at h
 {rw[hn,zb h];rfl};{rw[hn,h];rfl}
def Be (S:Spc)(b:List ByteArray)(g:List Ent->ByteArray->Out Ent):Prop:=∀f nm c e,g f nm=.inl (c,e)->Mu S b c<=Mu S b f+if e.E=2 then 1 else 0
theorem GD{S:Spc}{i:List Ent->ByteArray->Out Ent}{c:List ByteArray}(o:Be S c i):∀k f g j b x,dV S i t k f g j=.inl (b,x)->Mu S c b<=Mu S c f+1:=by
 intro k;induction k with
 |zero=>intro f g j b x h;cases h
 |succ k m =>
  intro f g j b x h;rw[dV] at h;split at h;{cases h;omega}
  ·rename_i r;split at h;{exact m _ _ _ _ _ h}
   ·rename_i p;split at h
    ·rename_i made1 e q;have h1:=o _ _ _ _ q;by_cases l:e.E=2
     ·have n:(eS S t (g++[mV e])).over=ZG:=by
       have:=Bb (S.f1 t).G (S.f1 t).f g (mV e) (by simp[mV,l]) 2001 0 0 0 [] (E4 _) (by simpa[eS] using r) (by simpa[eS] using p);unfold eS;rw[cM];exact this
      cases k with
      |zero=>cases h
      |succ k =>
       rw[dV,p7 n] at h;cases h
       rw[p7 l] at h1;exact h1
     {rw[nD l] at h1;have:=m _ _ _ _ _ h;omega}
    {cases h};{cases h}
theorem Ep (S:Spc):∀n b,Be S b (bG S n b):=by
 intro n;have m:∀b f nm g e (tgt:Nat->Out Ent),(∀t g e,atI (nm1 S.f1) S.n1 nm=T t->cJ f nm=Y->atL b nm=Y->tgt t=.inl (g,e)->Mu S b g<=Mu S b f)->fQ S tgt b f nm=.inl (g,e)->Mu S b g<=Mu S b f+if e.E=2 then 1 else 0:=by
  intro b f nm g e tgt q h;unfold fQ at h;split at h;{cases h;omega}
  ·rename_i l;split at h;{cases h}
   ·rename_i h1;unfold jO jh at h;split at h
    ·rename_i i hi;cases h
     have:=kq S b f ⟨nm,1,0,(S.f0 i).h,0,[]⟩;have:=Bc (S:=S) (e:=⟨nm,1,0,(S.f0 i).h,0,[]⟩) (cT hi).1 (cT hi).2 l;unfold Mu;rw[cM,DW];omega
    ·split at h;{rename_i t h3;have:=q _ _ _ h3 l h1 h;omega}
     ·cases h
      have:=kq S b f ⟨nm,2,0,⟨#[]⟩,0,[]⟩;have:=rU S f ⟨nm,2,0,⟨#[]⟩,0,[]⟩;rw[p7 rfl];unfold Mu;rw[cM,DW];omega
 induction n with
 |zero =>intro b f nm g e h;rw[bG] at h;exact m _ _ _ _ _ _ (λt _ _ _ _ _ h=>by cases h) h
 |succ n p =>
  intro b f nm g e h;rw[bG] at h;refine m _ _ _ _ _ _ (λt g e h3 l h1 h=>?_) h;rcases hr:dV S (bG S n (b++[nm])) t 201 f [] [] with ⟨j,x⟩|c|c;{rw[hr] at h;simp only[mW,jh,VG,MG] at h;obtain⟨rfl,rfl⟩:=h;have o:=GD (p (b++[nm])) _ _ _ _ _ _ hr;have g2:=iN (making:=b) (made:=f) (cT h3).1 (cT h3).2 l h1;have g3:ei S b (j++[⟨nm,3,x.1.B,x.1.h,t,x.2⟩])<=ei S (b++[nm]) j:=rQ S b j ⟨nm,3,x.1.B,x.1.h,t,x.2⟩;have g4:=rU S j ⟨nm,3,x.1.B,x.1.h,t,x.2⟩;unfold Mu at o ⊢;rw[cM,DW];omega};{rw[hr] at h;cases h};{rw[hr] at h;cases h}
theorem zc{S:Spc}(g:SpcOk S){b:List Ent}{e:Ent}(h:bG S 60 [] [] nm=.inl (b,e)):b.length<=400:=by
 have h1:=Ep S 60 [] [] nm b e h;have hl:ei S [] []<=S.n1:=by have:=Q9 (p:=jq S [] []) (l:=List.range S.n1);simpa[ei] using this
 have hs:mc S []<=S.n0:=by have:=Q9 (p:=λi=>(cJ [] (S.f0 i).e).isNone) (l:=List.range S.n0);simpa[mc] using this
 have h2:=g.av;by_cases f:e.E=2
 ·rw[bG] at h;unfold fQ at h;simp only[cJ,List.find?_nil,atL,List.findIdx?_nil] at h;unfold jO jh at h;split at h;{cases h;cases f}
  ·split at h;{rename_i t h3;simp only at h;rcases hr:dV S (bG S 59 ([]++[nm])) t 201 [] [] [] with ⟨made1,x⟩|c|c;{rw[hr] at h;simp only[mW,jh,VG,MG] at h;obtain⟨rfl,rfl⟩:=h;cases f};{rw[hr] at h;cases h};{rw[hr] at h;cases h}}
   ·cases h
    show 1<=400;omega
 {rw[nD f] at h1;unfold Mu at h1;rw[nX] at h1;omega}
theorem GF{x y:Ins}(h:mD x y=ZG):x=y:=by obtain⟨a,b,c⟩:=x;obtain⟨a',b',c'⟩:=y;simp only[mD,zA,beq_iff_eq] at h;obtain⟨⟨rfl,hb⟩,rfl⟩:=h;rw[oB hb]
theorem Eq{g:Nat->Ins}(h:fe f g n=ZG)(i:Nat)(hi:i<n):f i=g i:=by have:=pk (show i+1<=n by omega) h;simp only[fe,zA] at this;exact GF this.2
section
variable {S:Spc}{f:Nat->Deed}{n:Nat}
structure fv (x y:Deed):Prop where
 e:x.e=y.e
 E:x.E=y.E
 B:x.B=y.B
 h:x.h=y.h
 f:x.f=y.f
 G:∀i,i<x.f->x.G i=y.G i
 b:x.b=y.b
 m:∀i,i<x.b->x.m i=y.m i
end
theorem pW {f g:Nat->Ins}:∀{n:Nat},(∀i,i<n->f i=g i)->fe f g n=ZG
 |0,_=>rfl
 |n+1,h=>by rw[fe,pW λi hi=>h i (by omega),h n (by omega)];simp[mD]
