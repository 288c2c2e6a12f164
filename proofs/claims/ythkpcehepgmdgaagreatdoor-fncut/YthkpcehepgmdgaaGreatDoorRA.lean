import Derived.Test.YthkpcehepgmdgaaGreatDoorSX
import Derived.Test.YthkpcehepgmdgaaGreatDoorTQ
set_option linter.unusedSimpArgs false
open Option renaming none->Y,some->T
open Bool renaming false->ZB,true->ZF
open List renaming length->G
namespace Go.Proofs.YthkpcehepgmdgaaGreatDoor.Vp
open RowKit
variable {p t i n looks j m steps lo q:Nat}{nm x:ByteArray}{b making:List ByteArray}{f:Nat->af}{g:Nat->ByteArray}{L:List Nat}{s:Nat->Bool}
structure Spc where
 n0:Nat
 f0:Nat->Source
 n1:Nat
 f1:Nat->Target
structure Lk where
 e:ByteArray
 ask:Bool
 has:Bool
structure Ent where
 e:ByteArray
 H:Int
 E:Int
 B:ByteArray
 tg:Nat
 D:List Lk
abbrev Out (b:Type):=(List Ent × b) ⊕ List ByteArray ⊕ ByteArray
def oJ:ay:=⟨ZB,0,⟨#[]⟩⟩
def yL (b:List ay):Nat->ay:=λk=>b.getD k oJ
def gY (e:Ent):ay:=⟨decide (¬ e.H=2),e.E,e.B⟩
def fX (S:Spc)(t:ByteArray):Bool:=aG (nm0 S.f0) S.n0 t || aG (nm1 S.f1) S.n1 t
def atI (g:Nat->ByteArray)(n:Nat)(t:ByteArray):Option Nat:=(List.range n).find? λi=>(g i).toList == t.toList
def atL (L:List ByteArray)(t:ByteArray):Option Nat:=L.findIdx? λx=>x.toList == t.toList
def bc (b:List Ent)(t:ByteArray):Option Ent:=b.find? λe=>e.e.toList == t.toList
def bH (S:Spc)(t:Nat)(b:List ay):Turn:=bW (S.f1 t).u (S.f1 t).l (yL b) (G b) 2001 0 0 0 []
def bS (S:Spc)(lies:List Ent->ByteArray->Out Ent)(t:Nat):Nat->List Ent->List ay->List Lk->Out (Turn × List Lk)
 |0,_,_,_=>.inr (.inr ⟨#[]⟩)
 |k+1,made,ys,ls =>
  if (bH S t ys).K=ZF then .inl (made,(bH S t ys,ls))
  else if (bH S t ys).ask=ZB then bS S lies t k made (ys++[⟨fX S (bH S t ys).e,0,⟨#[]⟩⟩]) (ls++[⟨(bH S t ys).e,ZB,fX S (bH S t ys).e⟩])
  else match lies made (bH S t ys).e with
   |.inl (made',e)=>bS S lies t k made' (ys++[gY e]) (ls++[⟨(bH S t ys).e,ZF,ZB⟩])
   |.inr (.inl c)=>.inr (.inl c)
   |.inr (.inr d)=>.inr (.inr d)
def ec (b:List Ent)(e:Ent):Out Ent:=.inl ((b++[e]),e)
def gZ (nm:ByteArray)(t:Nat):Out (Turn × List Lk)->Out Ent
 |.inl (made,x)=>ec made ⟨nm,3,x.1.E,x.1.B,t,x.2⟩
 |.inr (.inl c)=>.inr (.inl c)
 |.inr (.inr d)=>.inr (.inr d)
def fl (S:Spc)(tgt:Nat->Out Ent)(b:List Ent)(nm:ByteArray):Out Ent :=
 match atI (nm0 S.f0) S.n0 nm with
 |some i=>ec b ⟨nm,1,0,(S.f0 i).B,0,[]⟩
 |none=>match atI (nm1 S.f1) S.n1 nm with
  |some t=>tgt t
  |none=>ec b ⟨nm,2,0,⟨#[]⟩,0,[]⟩
def dv (S:Spc)(tgt:Nat->Out Ent)(b:List ByteArray)(f:List Ent)(nm:ByteArray):Out Ent :=
 match bc f nm with
 |some e=>.inl (f,e)
 |none=>match atL b nm with
  |some i=>.inr (.inl (b.drop i))
  |none=>fl S tgt f nm
def aL (S:Spc):Nat->List ByteArray->List Ent->ByteArray->Out Ent
 |0,making,made,nm=>dv S (λ_=>.inr (.inr nm)) making made nm
 |n+1,making,made,nm=>dv S (λt=>gZ nm t (bS S (aL S n (making++[nm])) t 201 made [] [])) making made nm
def Cx (S:Spc)(n:Nat)(b:List ByteArray)(f:List Ent)(nm:ByteArray)(t:Nat):Out Ent :=
 match n with
 |0=>.inr (.inr nm)
 |n+1=>gZ nm t (bS S (aL S n (b++[nm])) t 201 f [] [])
theorem jt (S:Spc)(n:Nat)(b:List ByteArray)(f:List Ent)(nm:ByteArray):aL S n b f nm=dv S (Cx S n b f nm) b f nm:=by
 cases n with
 |zero=>rw[aL];rfl
 |succ n=>rw[aL];rfl
structure jZ where
 E:Int
 B:ByteArray
 chain:List ByteArray
def dK (e:Ent):jZ:=if e.H=2 then ⟨4,e.e,[]⟩ else ⟨e.E,e.B,[]⟩
def bQ (S:Spc)(nm:ByteArray):List Ent × jZ :=
 if bm S.n0 S.f0 S.n1 S.f1=0/\av nm=ZF then
  (match aL S 60 [] [] nm with
   |.inl (made,e)=>(made,dK e)
   |.inr (.inl c)=>([],⟨6,⟨#[]⟩,c⟩)
   |.inr (.inr d)=>([],⟨7,d,[]⟩))
 else ([],⟨9,⟨#[]⟩,[]⟩)
theorem GQ (b:List ay)(r:ay):yL (b++[r]) (G b)=r:=by simp[yL]
theorem Gk (b:List ay)(r:ay){k:Nat}(h:k<G b):yL (b++[r]) k=yL b k:=by simp[yL,KO h]
theorem j7 (f:Nat->Ins)(cnt:Nat)(y z:Nat->ay)(n:Nat)(k:Nat):∀place steps looks b,(∀i,looks<=i->i<n->y i=z i)->bW f cnt y n k place steps looks b=bW f cnt z n k place steps looks b:=by
 induction k with
 |zero=>intro _ _ _ _ _;rfl
 |succ k g =>
  intro place steps looks b h;rw[bW,bW];rcases bG f cnt place steps looks b with ⟨s,p⟩|⟨c,x⟩|⟨a,nm,s⟩
  {exact g _ _ _ _ h};{rfl};{simp only;by_cases hn:n<=looks;{rw[hU hn,hU hn]};{rw[eT hn,eT hn,h looks ly (by omega),g _ _ _ _ λi hi=>h i (by omega),g _ _ _ _ λi hi=>h i (by omega)]}}
theorem pG (u:Nat):(Lib.decDigits u).length<=u+1:=by
 induction u using Nat.strongRecOn with
 |ind u b =>
  rw[Lib.decDigits];split;{simp};{have:=b (u / 10) (by omega);simp only[gB,p6,J1];omega}
theorem jK (h:p<=2000):(dU p).size<=2000:=by
 show(Lib.decDigits p).length<=2000;rw[Lib.decDigits];split;{simp};{have:=pG (p / 10);simp only[gB,p6,J1];omega}
def nu (c:Int)(x:ByteArray):Prop:=0<=c/\c<=5/\x.size<=2000
theorem yw{ask:Bool}{a:ByteArray}{r:List ByteArray}{here:Nat}{c:Int}(h:ij ask a r here looks=.inr (.inl (c,x)))(b:here<=2000):nu c x:=by
 unfold ij at h;split at h;{cases h;exact⟨by omega,by omega,jK b⟩};{split at h;{cases h;exact⟨by omega,by omega,by decide⟩};{cases h}}
theorem sC{op:Nat}{t:ByteArray}{here:Nat}{c:Int}(h:cE op n t here looks b=.inr (.inl (c,x)))(g:∀z∈b,z.size<=2000)(f:here<=2000):nu c x:=by
  unfold cE at h;split at h;all_goals first
    |(cases h;done)
    |exact yw h f
    | (split at h
       · cases h
       · cases h;exact⟨by omega,by omega,jK f⟩)
    |(cases h;exact⟨by omega,by omega,g _ (by simp)⟩)
    |(cases h;exact⟨by omega,by omega,by decide⟩)
theorem yx{f:Nat->Ins}{cnt place:Nat}{c:Int}(h:bG f cnt place steps looks b=.inr (.inl (c,x)))(i:∀z∈b,z.size<=2000)(g:place<=2000):nu c x:=by
 unfold bG at h;split at h;{cases h;exact⟨by omega,by omega,jK g⟩};{split at h;{cases h;exact⟨by omega,by omega,by decide⟩};{split at h;{cases h;exact⟨by omega,by omega,jK g⟩};{exact sC h i g}}}
theorem vM{f:Nat->Ins}{cnt place:Nat}(h1:G b<=50)(h2:∀z∈b,z.size<=2000)(g:looks<=200)(h:da f cnt=ZF)(hc:cnt<=200):qt (bG f cnt place steps looks b) looks:=by
 unfold bG;split;{trivial}
 ·rename_i h1;split;{trivial}
  ·split;{trivial}
   ·rename_i g;have hi:=jC h (show place<cnt by omega);simp only[cF,nX] at hi;obtain⟨i1,i2,i3,i4,i5⟩:=hi;have hmt:dW (f place).op<=2000:=by unfold dW;split<;>(try split)<;>omega
    have hmt2:bR (f place).op<=2000:=by unfold bR;split<;>omega
    exact iO _ _ _ _ _ _ (by assumption) h2 (by omega) (by omega) (by omega) (by assumption) (by omega) (by omega) (by simpa using g)
def Ab (n:Nat)(ZM:Turn):Prop:=(ZM.K=ZF/\nu ZM.E ZM.B)∨(ZM.K=ZB/\n<200/\av ZM.e=ZF)
theorem uh{f:Nat->Ins}{cnt place:Nat}{s:List ByteArray}{a:Bool}(h:bG f cnt place steps looks b=.inr (.inr (a,nm,s))):place<cnt:=by
 unfold bG at h;split at h;{cases h};{omega}
theorem Ac (h:av nm=ZF):nm.size<=60:=by simp only[av,j5,nX] at h;omega
theorem Cy (f:Nat->Ins)(cnt:Nat)(y:Nat->ay)(n:Nat)(r:da f cnt=ZF)(u:cnt<=200)(D:∀i,i<n->(y i).B.size<=2000)(k:Nat):∀place steps looks b,G b<=50->(∀z∈b,z.size<=2000)->place<=2000->steps<=2000->looks<=200->looks<=n->k+steps=2001->Ab n (bW f cnt y n k place steps looks b):=by
 induction k with
 |zero=>intro _ _ _ _ _ _ _ _ _ _ h;omega
 |succ k o =>
  intro place steps looks b h1 h2 A h4 q C h7;have g:=vM (f:=f) (cnt:=cnt) (place:=place) (steps:=steps) h1 h2 q r u;rw[bW];rcases hs:bG f cnt place steps looks b with ⟨s,p⟩|⟨c,x⟩|⟨a,nm,s⟩
  {rw[hs] at g;obtain⟨t,l,j⟩:=g;obtain⟨m,B⟩:=jq hs;simp only;rw[m];exact o _ _ _ _ t l j (by omega) q C (by omega)};{exact .inl ⟨rfl,yx hs h2 A⟩};{rw[hs] at g;obtain⟨t,l,j,g4⟩:=g;obtain⟨m,B⟩:=lB hs;have hp:=uh hs;have hz:=Ac j;simp only;rw[m];split;{exact .inr ⟨rfl,by omega,j⟩};{split;{refine o _ _ _ _ (by simp;omega) (λz hz=>?_) (by omega) (by omega) (by omega) (by omega) (by omega);rcases BS.1 hz with rfl|hz;{exact iW _};{exact l z hz}};{split;{exact .inl ⟨rfl,by simp[fL],by simp[fL],by simp only[fL];omega⟩};{split;{refine o _ _ _ _ (by simp;omega) (λz hz=>?_) (by omega) (by omega) (by omega) (by omega) (by omega);rcases BS.1 hz with rfl|hz;{exact D _ (by omega)};{exact l z hz}};{exact .inl ⟨rfl,by simp[fL],by simp[fL],by simp only[fL];omega⟩}}}}}
def iX (S:Spc)(b:List ByteArray)(f:List Ent):Nat->Bool:=λt=>(bc f (S.f1 t).e).isNone && (atL b (S.f1 t).e).isNone
def ed (S:Spc)(b:List ByteArray)(f:List Ent):Nat:=(List.range S.n1).countP (iX S b f)
theorem iE (b:List Ent)(e:Ent)(t:ByteArray):bc (b++[e]) t=(bc b t).or (if (e.e.toList == t.toList)=ZF then T e else Y):=by unfold bc;rw[List.find?_append];cases h:(e.e.toList == t.toList)<;>simp[h]
theorem qx (L:List ByteArray)(x t:ByteArray):(atL (L++[x]) t).isNone=((atL L t).isNone && !(x.toList == t.toList)):=by unfold atL;rw[List.findIdx?_append];cases h:(x.toList == t.toList)<;>cases h2:List.findIdx? (λx=>x.toList == t.toList) L<;>simp[h,List.findIdx?_cons]
theorem jL (S:Spc)(b:List ByteArray)(f:List Ent)(e:Ent):ed S b (f++[e])<=ed S b f:=by
 refine P9 λt _ h=>?_;simp only[iX,j5,iE] at h ⊢;refine⟨?_,h.2⟩;cases h2:bc f (S.f1 t).e with
 |none=>rfl
 |some x=>rw[h2] at h;simp at h
theorem ru (S:Spc)(b:List ByteArray)(f:List Ent)(e:Ent):ed S b (f++[e])<=ed S (b++[e.e]) f:=by
 refine P9 λt _ h=>?_;simp only[iX,j5,iE,qx] at h ⊢;cases h2:bc f (S.f1 t).e with
 |some x=>rw[h2] at h;simp at h
 |none =>
  rw[h2] at h;refine⟨rfl,h.2,?_⟩;cases h3:(e.e.toList == (S.f1 t).e.toList) with
  |false=>rfl
  |true=>rw[h3] at h;simp at h
theorem ry{p q:Nat->Bool}{l:List Nat}(h:∀x∈l,p x=ZF->q x=ZF){a:Nat}(b:a∈l)(h1:p a=ZB)(h2:q a=ZF):l.countP p+1<=l.countP q:=by
 induction l with
 |nil=>cases b
 |cons x l f =>
  have hm:l.countP p<=l.countP q:=P9 λz hz=>h z (mq _ hz);rw[List.countP_cons,List.countP_cons];rcases BS.1 b with rfl|b;{rw[h1,h2];simp;omega}
  ·have:=f (λz hz=>h z (mq _ hz)) b;cases hp:p x with
   |false=>simp;split<;>omega
   |true=>rw[h x NT hp];simp;omega
theorem ip{S:Spc}{made:List Ent}(b:t<S.n1)(hn:(S.f1 t).e=nm)(h1:bc made nm=Y)(h2:atL making nm=Y):ed S (making++[nm]) made+1<=ed S making made:=by
 refine ry (λx _ h=>?_) (KT.2 b) ?_ ?_;{simp only[iX,j5,qx] at h ⊢;exact⟨h.1,h.2.1⟩};{simp[iX,qx,hn]};{simp[iX,hn,h1,h2]}
theorem bN{t:ByteArray}(h:atI g n t=T i):i<n/\g i=t:=by unfold atI at h;have h1:=List.find?_some h;have h2:=List.mem_of_find?_eq_some h;exact⟨KT.1 h2,bytes_beq h1⟩
def fY (S:Spc)(b:List ByteArray)(g f:List Ent)(k:Nat):Prop:=G f+201*ed S b f<=G g+201*ed S b g+k
theorem rz{S:Spc}{lies:List Ent->ByteArray->Out Ent}(m:∀f nm b e,lies f nm=.inl (b,e)->fY S making f b 1):∀k f i g b x,bS S lies t k f i g=.inl (b,x)->fY S making f b (k - 1):=by
 intro k;induction k with
 |zero=>intro f i g b x h;cases h
 |succ k j =>
  intro f i g b x h;rw[bS] at h;split at h;{cases h;unfold fY;omega}
  ·cases k with
   |zero =>
    split at h;{cases h};{split at h<;>cases h}
   |succ k =>
    split at h;{have:=j _ _ _ _ _ h;unfold fY at this ⊢;omega};{split at h;{rename_i made1 e l;have h1:=m _ _ _ _ l;have h2:=j _ _ _ _ _ h;unfold fY at h1 h2 ⊢;omega};{cases h};{cases h}}
theorem lG (S:Spc):∀n b g nm f e,aL S n b g nm=.inl (f,e)->fY S b g f 1:=by
 intro n;have m:∀b g nm f e (tgt:Nat->Out Ent),(∀t f e,atI (nm1 S.f1) S.n1 nm=T t->bc g nm=Y->atL b nm=Y->tgt t=.inl (f,e)->fY S b g f 1)->dv S tgt b g nm=.inl (f,e)->fY S b g f 1:=by
  intro b g nm f e tgt q h;unfold dv at h;split at h;{cases h;unfold fY;omega}
  ·rename_i o;split at h;{cases h}
   ·rename_i h1;unfold fl ec at h;split at h
    ·rename_i i hi;cases h
     have:=jL S b g ⟨nm,1,0,(S.f0 i).B,0,[]⟩;unfold fY;rw[gB,CV];omega
    ·split at h;{rename_i t l;exact q _ _ _ l o h1 h}
     ·cases h
      have:=jL S b g ⟨nm,2,0,⟨#[]⟩,0,[]⟩;unfold fY;rw[gB,CV];omega
 induction n with
 |zero =>intro b g nm f e h;rw[aL] at h;exact m _ _ _ _ _ _ (λt _ _ _ _ _ h=>by cases h) h
 |succ n s =>
  intro b g nm f e h;rw[aL] at h;refine m _ _ _ _ _ _ (λt f e l o h1 h=>?_) h;rcases hr:bS S (aL S n (b++[nm])) t 201 g [] [] with ⟨j,x⟩|c|c;{rw[hr] at h;simp only[gZ,ec,PX,KJ] at h;obtain⟨rfl,rfl⟩:=h;have r:=rz (making:=b++[nm]) (λg nm2 f e p=>s _ _ _ _ _ p) _ _ _ _ _ _ hr;have g2:=ip (making:=b) (made:=g) (bN l).1 (bN l).2 o h1;have g3:ed S b (j++[⟨nm,3,x.1.E,x.1.B,t,x.2⟩])<=ed S (b++[nm]) j:=ru S b j ⟨nm,3,x.1.E,x.1.B,t,x.2⟩;unfold fY at r ⊢;rw[gB,CV];omega};{rw[hr] at h;cases h};{rw[hr] at h;cases h}
structure SpcOk (S:Spc):Prop where
 chk:bm S.n0 S.f0 S.n1 S.f1=0
 asc0:aJ (nm0 S.f0) S.n0=ZF
 asc1:aJ (nm1 S.f1) S.n1=ZF
 bh:S.n0+S.n1<=200
 B:∀i,i<S.n0->(S.f0 i).B.size<=2000
 u:∀t,t<S.n1->valid (S.f1 t).u (S.f1 t).l=ZF
theorem hZ{p:Nat->Bool}(h:aI p n=ZB)(hi:i<n):p i=ZB:=by
 induction n with
 |zero=>omega
 |succ n b =>
  rw[aI,TP] at h;by_cases e:i=n;{subst e;exact h.2};{exact b h.1 (by omega)}
theorem SpcOk.of{S:Spc}(h:bm S.n0 S.f0 S.n1 S.f1=0):SpcOk S:=by
 obtain⟨h1,h2,f⟩:=mh h;have g:=h;unfold bm at h;split at h;· omega
 split at h;· omega
 split at h;· omega
 split at h;· omega
 split at h;· omega
 split at h;· omega
 split at h;· omega
 split at h;· omega
 rename_i b j;refine⟨g,h1,h2,f,λi hi=>?_,λt l=>?_⟩;{have:=hZ (Bool.eq_false_iff.2 b) hi;simp only[fQ,LG] at this;omega};{have:=hZ (Bool.eq_false_iff.2 j) l;simpa[dk] using this}
structure EG (S:Spc)(x:Ent):Prop where
 nm:av x.e=ZF
 tx:x.B.size<=2000
 E:0<=x.E/\x.E<=5
 H:(x.H=1/\x.E=0/\x.D=[]/\∃i,atI (nm0 S.f0) S.n0 x.e=T i/\x.B=(S.f0 i).B)∨(x.H=2/\x.E=0/\x.B=⟨#[]⟩/\x.D=[]/\atI (nm0 S.f0) S.n0 x.e=Y/\atI (nm1 S.f1) S.n1 x.e=Y)∨(x.H=3/\atI (nm0 S.f0) S.n0 x.e=Y/\atI (nm1 S.f1) S.n1 x.e=T x.tg)
 D:G x.D<=200
 lname:∀l∈x.D,av l.e=ZF
structure PG (S:Spc)(making:List ByteArray)(made:List Ent):Prop where
 bd:∀x∈made,EG S x
 nod:made.Pairwise λx y=>x.e≠y.e
 off:∀x∈made,atL making x.e=Y
 ord:∀(i:Nat) (x:Ent),made[i]?=T x->∀l∈x.D,l.ask=ZF->∃(j:Nat) (y:Ent),j<i/\made[j]?=T y/\y.e=l.e
theorem iF (S:Spc)(b:List ByteArray):PG S b []:=⟨λx h=>absurd h nj,List.Pairwise.nil,λx h=>absurd h nj,λi x h=>by simp at h⟩
theorem fi{b:List Ent}(h:bc b nm=Y):∀x∈b,x.e≠nm:=by intro x f e;have:=PI.1 h x f;rw[e] at this;simp at this
theorem fK{b:List Ent}{e:Ent}(h:bc b nm=T e):e∈b/\e.e=nm:=⟨List.mem_of_find?_eq_some h,bytes_beq (List.find?_some (p:=λe:Ent=>e.e.toList == nm.toList) h)⟩
theorem ju{L:List ByteArray}(h:atL L nm=Y):∀x∈L,x≠nm:=by intro x b e;have:=N5.1 h x b;rw[e] at this;simp at this
theorem iq{L:List ByteArray}(h:∀x∈L,x≠nm):atL L nm=Y :=
 N5.2 λx b=>by
  cases e:(x.toList == nm.toList) with
  |false=>rfl
  |true=>exact absurd (bytes_beq e) (h x b)
theorem PG.add{S:Spc}{g:List ByteArray}{f:List Ent}{e:Ent}(h:PG S g f)(t:EG S e)(A:∀x∈f,x.e≠e.e)(h1:atL g e.e=Y)(z:∀l∈e.D,l.ask=ZF->∃x∈f,x.e=l.e):PG S g (f++[e]):=by
 refine⟨λx m=>?_,?_,λx m=>?_,λi x hi l q o=>?_⟩;{rcases n6.1 m with m|m;{exact h.bd x m};{rw[j4.1 m];exact t}};{rw[MN];exact⟨h.nod,List.pairwise_singleton _ _,λa o b hb=>by rw[j4.1 hb];exact A a o⟩};{rcases n6.1 m with m|m;{exact h.off x m};{rw[j4.1 m];exact h1}}
 ·rcases MJ i (G f) with s|r;{rw[KO s] at hi;obtain⟨j,y,p,n,hn⟩:=h.ord i x hi l q o;exact⟨j,y,p,by rw[KO (by omega)];exact n,hn⟩}
  ·rw[KL r] at hi;have u:x=e:=by
    cases hk:i - (G f) with
    |zero=>rw[hk] at hi;simpa using hi.symm
    |succ k=>rw[hk] at hi;simp at hi
   subst u;obtain⟨y,n,hn⟩:=z l q o;obtain⟨j,p,n⟩:=T3 n;exact⟨j,y,by omega,by rw[KO p,gq p,n],hn⟩
structure RG (S:Spc)(made:List Ent)(ys:List ay)(ls:List Lk):Prop where
 good:∀y∈ys,cy y=ZF
 len:G ls=G ys
 names:∀l∈ls,av l.e=ZF
 asked:∀l∈ls,l.ask=ZF->∃x∈made,x.e=l.e
theorem jv (S:Spc)(b:List Ent):RG S b [] []:=⟨λ_ h=>absurd h nj,rfl,λ_ h=>absurd h nj,λ_ h=>absurd h nj⟩
theorem RG.mono{S:Spc}{f b:List Ent}{g:List ay}{i:List Lk}(h:RG S f g i)(j:∀x∈f,x∈b):RG S b g i:=⟨h.good,h.len,h.names,λl n m=>let ⟨x,hx,e⟩:=h.asked l n m;⟨x,j x hx,e⟩⟩
theorem RG.add{S:Spc}{b:List Ent}{f:List ay}{g:List Lk}{y:ay}{l:Lk}(h:RG S b f g)(j:cy y=ZF)(hn:av l.e=ZF)(i:l.ask=ZF->∃x∈b,x.e=l.e):RG S b (f++[y]) (g++[l]):=by
 refine⟨λz hz=>?_,by simp[h.len],λz hz=>?_,λz hz=>?_⟩;{rcases n6.1 hz with hz|hz;{exact h.good z hz};{rw[j4.1 hz];exact j}};{rcases n6.1 hz with hz|hz;{exact h.names z hz};{rw[j4.1 hz];exact hn}};{rcases n6.1 hz with hz|hz;{exact h.asked z hz};{rw[j4.1 hz];exact i}}
theorem Ej{f:List ay}(h:∀y∈f,cy y=ZF)(k:Nat):cy (yL f k)=ZF:=by
 unfold yL;rcases MJ k (G f) with b|b;{rw[CP,gq b];exact h _ (gz b)};{rw[CP,LJ b];rfl}
theorem lH{S:Spc}(f:SpcOk S)(h:t<S.n1){b:List ay}(g:∀y∈b,cy y=ZF):Ab (G b) (bH S t b):=by obtain⟨h1,h2,h3⟩:=bO (f.u t h);refine Cy _ _ _ _ h1 (by omega) (λi _=>?_) 2001 0 0 0 [] (by simp) (by simp) (by omega) (by omega) (by omega) (by omega) (by omega);have:=Ej g i;simp only[cy,nX] at this;exact this.1
theorem nw (S:Spc)(t:ByteArray):cy ⟨fX S t,0,⟨#[]⟩⟩=ZF:=by simp only[cy,nX];exact⟨by decide,by decide,by decide⟩
theorem ny{S:Spc}{x:Ent}(h:EG S x):cy (gY x)=ZF:=by have h1:=h.tx;have h2:=h.E;exact MR ⟨h1,h2.1,Int.le_trans h2.2 (by decide)⟩
def lI (S:Spc)(f:List ByteArray)(lies:List Ent->ByteArray->Out Ent):Prop:=∀g nm b e,PG S f g->av nm=ZF->lies g nm=.inl (b,e)->PG S f b/\(∃more,b=g++more)/\e∈b/\e.e=nm
theorem iG{S:Spc}(D:SpcOk S){lies:List Ent->ByteArray->Out Ent}{g:List ByteArray}(H:t<S.n1)(C:lI S g lies):∀k f i m b x,PG S g f->RG S f i m->G i+k=201->bS S lies t k f i m=.inl (b,x)->PG S g b/\(∃more,b=f++more)/\nu x.1.E x.1.B/\x.2.length<=200/\(∀l∈x.2,av l.e=ZF)/\∀l∈x.2,l.ask=ZF->∃y∈b,y.e=l.e:=by
 intro k;induction k with
 |zero=>intro f i m b x _ _ _ h;cases h
 |succ k r =>
  intro f i m b x q j hk h;have ZP:=lH D H j.good;rw[bS] at h;rcases ZP with ⟨o,p⟩|⟨o,hlt,hn⟩
  ·rw[hU o] at h;cases h
   exact⟨q,⟨[],by simp⟩,p,by rw[j.len];omega,j.names,j.asked⟩
  ·rw[eT (by rw[o];simp)] at h;split at h;{exact r _ _ _ _ _ q (j.add (nw _ _) hn (λh=>by cases h)) (by simp;omega) h}
   ·split at h
    ·rename_i n e p;obtain⟨u,⟨more,A⟩,z,E⟩:=C _ _ _ _ q hn p;have s:RG S n i m:=j.mono λx B=>by rw[A];exact KM _ B
     obtain⟨K,⟨more2,ZS⟩,ZQ⟩:=r _ _ _ _ _ u (s.add (l:=⟨(bH S t i).e,ZF,ZB⟩) (ny (u.bd e z)) hn (λ_=>⟨e,z,E⟩)) (by simp;omega) h;exact⟨K,⟨more++more2,by rw[ZS,A,KK]⟩,ZQ⟩
    {cases h};{cases h}
theorem kE{S:Spc}{f:List Ent}(h:PG S b f)(i:bc f nm=Y):PG S (b++[nm]) f :=
 ⟨h.bd,h.nod,λx g=>iq λz hz=>by
  rcases n6.1 hz with hz|hz
  ·exact ju (h.off x g) z hz
  ·rw[j4.1 hz];exact λe=>fi i x g e.symm,h.ord⟩
theorem nA{S:Spc}{f:List Ent}(h:PG S (b++[nm]) f):PG S b f/\∀x∈f,x.e≠nm :=
 ⟨⟨h.bd,h.nod,λx g=>iq λz hz=>ju (h.off x g) z (KM _ hz),h.ord⟩,λx g e=>ju (h.off x g) nm (LM _ (j4.2 rfl)) e.symm⟩
theorem Cz{S:Spc}{f:List Ent}{x:Turn × List Lk}(h:PG S (b++[nm]) f)(hn:av nm=ZF)(h1:atL b nm=Y)(h2:atI (nm0 S.f0) S.n0 nm=Y)(m:atI (nm1 S.f1) S.n1 nm=T t)(g:nu x.1.E x.1.B)(n:x.2.length<=200)(i:∀l∈x.2,av l.e=ZF)(j:∀l∈x.2,l.ask=ZF->∃y∈f,y.e=l.e):PG S b (f++[⟨nm,3,x.1.E,x.1.B,t,x.2⟩]) :=
 (nA h).1.add ⟨hn,g.2.2,⟨g.1,g.2.1⟩,.inr (.inr ⟨rfl,h2,m⟩),n,i⟩ (nA h).2 h1 j
theorem CB{S:Spc}(j:SpcOk S){f:List Ent}(h:PG S b f)(hn:av nm=ZF)(m:bc f nm=Y)(h1:atL b nm=Y)(h2:atI (nm0 S.f0) S.n0 nm=T i):PG S b (f++[⟨nm,1,0,(S.f0 i).B,0,[]⟩]) :=
 h.add ⟨hn,j.B i (bN h2).1,⟨TF _,by show(0:Int)<=5;decide⟩,.inl ⟨rfl,rfl,rfl,i,h2,rfl⟩,DN _,λl g=>absurd g nj⟩ (fi m) h1 λl g=>absurd g nj
theorem Ad{S:Spc}{f:List Ent}(h:PG S b f)(hn:av nm=ZF)(j:bc f nm=Y)(h1:atL b nm=Y)(h2:atI (nm0 S.f0) S.n0 nm=Y)(i:atI (nm1 S.f1) S.n1 nm=Y):PG S b (f++[⟨nm,2,0,⟨#[]⟩,0,[]⟩]) :=
 h.add ⟨hn,DN _,⟨TF _,by show(0:Int)<=5;decide⟩,.inr (.inl ⟨rfl,rfl,rfl,rfl,h2,i⟩),DN _,λl g=>absurd g nj⟩ (fi j) h1 λl g=>absurd g nj
theorem eN{S:Spc}(p:SpcOk S):∀n b,lI S b (aL S n b):=by
 intro n;have o:∀b g nm f e (tgt:Nat->Out Ent),PG S b g->av nm=ZF->(∀t f e,atI (nm0 S.f0) S.n0 nm=Y->atI (nm1 S.f1) S.n1 nm=T t->bc g nm=Y->atL b nm=Y->tgt t=.inl (f,e)->PG S b f/\(∃more,f=g++more)/\e∈f/\e.e=nm)->dv S tgt b g nm=.inl (f,e)->PG S b f/\(∃more,f=g++more)/\e∈f/\e.e=nm:=by
  intro b g nm f e tgt j hn y h;unfold dv at h;split at h
  ·rename_i e1 q;cases h
   exact⟨j,⟨[],by simp⟩,fK q⟩
  ·rename_i m;split at h;{cases h}
   ·rename_i h1;unfold fl ec at h;split at h
    ·rename_i i hi;cases h
     exact⟨CB p j hn m h1 hi,⟨_,rfl⟩,by simp,rfl⟩
    ·rename_i h2;split at h;{rename_i t l;exact y _ _ _ h2 l m h1 h}
     ·rename_i l;cases h
      exact⟨Ad j hn m h1 h2 l,⟨_,rfl⟩,by simp,rfl⟩
 induction n with
 |zero =>intro b g nm f e j hn h;rw[aL] at h;exact o _ _ _ _ _ _ j hn (λt _ _ _ _ _ _ h=>by cases h) h
 |succ n C =>
  intro b g nm f e j hn h;rw[aL] at h;refine o _ _ _ _ _ _ j hn (λt f e h2 l m h1 h=>?_) h;rcases hr:bS S (aL S n (b++[nm])) t 201 g [] [] with ⟨made1,x⟩|c|c;{rw[hr] at h;simp only[gZ,ec,PX,KJ] at h;obtain⟨rfl,rfl⟩:=h;obtain⟨z,⟨more,B⟩,A,s,r,u⟩:=iG p (bN l).1 (C (b++[nm])) _ _ _ _ _ _ (kE j m) (jv S g) rfl hr;exact⟨Cz z hn h1 h2 l A s r u,⟨more++[_],by rw[B,KK]⟩,by simp,rfl⟩};{rw[hr] at h;cases h};{rw[hr] at h;cases h}
def jw (b:List Ent)(nm:ByteArray):Nat:=b.findIdx λe=>e.e.toList == nm.toList
def lkD (b:List Ent)(l:Lk):Link:=⟨l.e,l.ask,l.has,if l.ask=ZF then ((jw b l.e:Nat):Int) else 0⟩
def lkF (b:List Ent)(f:List Lk):Nat->Link:=λi=>lkD b (f.getD i ⟨⟨#[]⟩,ZB,ZB⟩)
def dh (S:Spc)(e:Ent):Nat:=if e.H=3 then (S.f1 e.tg).l else 0
def bv (S:Spc)(b:List Ent)(e:Ent):af:=⟨e.e,e.H,e.E,e.B,dh S e,(S.f1 e.tg).u,G e.D,lkF b e.D⟩
def aV (S:Spc)(b:List Ent):List af:=b.map (bv S b)
theorem kF{b:List Ent}{f:List Lk}{l:Lk}(h:f[i]?=T l):lkF b f i=lkD b l:=by unfold lkF;rw[CP,h];rfl
theorem pH (S:Spc)(nm:ByteArray):PG S [] (bQ S nm).1/\(bQ S nm).1.length<=40201/\((bQ S nm).1≠[]->SpcOk S):=by
 unfold bQ;split
 ·rename_i h;have f:=SpcOk.of h.1;split
  ·rename_i b e g;have i:=lG S 60 [] [] nm b e g;unfold fY at i;have hl:ed S [] []<=S.n1:=by unfold ed;have:=QB (p:=iX S [] []) (l:=List.range S.n1);simpa using this
   have hs:=f.bh;refine⟨(eN f 60 [] [] nm b e (iF S []) h.2 g).1,?_,λ_=>f⟩;simp only[J1] at i;show (G b)<=40201;omega
  {exact⟨iF S [],DN _,λh=>absurd rfl h⟩};{exact⟨iF S [],DN _,λh=>absurd rfl h⟩}
 {exact⟨iF S [],DN _,λh=>absurd rfl h⟩}
theorem PG.idx{S:Spc}{f:List ByteArray}{b:List Ent}(h:PG S f b){x:Ent}(l:b[i]?=T x):jw b x.e=i:=by
 obtain⟨hi,e⟩:=j2.1 l;unfold jw;rw[List.findIdx_eq hi];refine⟨by simp[e],λj m=>?_⟩;have g:=LD.1 h.nod j i (by omega) hi m;rw[e] at g;cases hb:(b[j].e.toList == x.e.toList) with
 |false=>rfl
 |true=>exact absurd (bytes_beq hb) g
theorem PG.asked{S:Spc}{f:List ByteArray}{b:List Ent}(h:PG S f b){x:Ent}(m:b[i]?=T x){l:Lk}(o:l∈x.D)(n:l.ask=ZF):∃y,b[jw b l.e]?=T y/\y.e=l.e/\jw b l.e<i:=by obtain⟨j,y,hj,g,e⟩:=h.ord i x m l o n;have:=h.idx g;rw[e] at this;exact⟨y,by rw[this];exact g,e,by omega⟩
def dw (b:List Ent)(l:Lk):ay:=if l.ask=ZF then ((bc b l.e).elim oJ gY) else ⟨l.has,0,⟨#[]⟩⟩
structure Rn (S:Spc)(made:List Ent)(x:Ent):Prop where
 has:∀l∈x.D,l.ask=ZF->l.has=ZB
 ahd:∀l∈x.D,l.ask=ZF->∃y,bc made l.e=T y
 go:x.H=3->∀k l,x.D[k]?=T l->(bH S x.tg ((x.D.take k).map (dw made))).K=ZB/\(bH S x.tg ((x.D.take k).map (dw made))).e=l.e/\(bH S x.tg ((x.D.take k).map (dw made))).ask=l.ask
 fin:x.H=3->(bH S x.tg (x.D.map (dw made))).K=ZF/\(bH S x.tg (x.D.map (dw made))).E=x.E/\(bH S x.tg (x.D.map (dw made))).B=x.B
theorem lJ{b more:List Ent}{t:ByteArray}{y:Ent}(h:bc b t=T y):bc (b++more) t=T y:=by unfold bc at h ⊢;rw[List.find?_append,h];rfl
theorem Ae{b more:List Ent}{l:Lk}(h:l.ask=ZF->∃y,bc b l.e=T y):dw (b++more) l=dw b l:=by
 unfold dw;split;{rename_i g;obtain⟨y,f⟩:=h g;rw[f,lJ f]};{rfl}
theorem lK{made more:List Ent}{b:List Lk}(h:∀l∈b,l.ask=ZF->∃y,bc made l.e=T y):b.map (dw (made++more))=b.map (dw made) :=
 T0 λl f=>Ae (h l f)
theorem Rn.more{S:Spc}{b more:List Ent}{x:Ent}(h:Rn S b x):Rn S (b++more) x:=by
 refine⟨h.has,λl f i=>?_,λg k l f=>?_,λg=>?_⟩;{obtain⟨y,j⟩:=h.ahd l f i;exact⟨y,lJ j⟩};{rw[lK (made:=b) (more:=more) λl f=>h.ahd l (NI f)];exact h.go g k l f};{rw[lK h.ahd];exact h.fin g}
theorem wO{S:Spc}{b:List Ent}{x:Ent}(f:x.H≠3)(g:x.D=[]):Rn S b x :=
 ⟨(λl h=>by rw[g] at h;cases h),(λl h=>by rw[g] at h;cases h),λh=>absurd h f,λh=>absurd h f⟩
structure Rl (S:Spc)(t:Nat)(made:List Ent)(ys:List ay)(ls:List Lk):Prop where
 rep:ys=ls.map (dw made)
 has:∀l∈ls,l.ask=ZF->l.has=ZB
 ahd:∀l∈ls,l.ask=ZF->∃y,bc made l.e=T y
 go:∀k l,ls[k]?=T l->(bH S t ((ls.take k).map (dw made))).K=ZB/\(bH S t ((ls.take k).map (dw made))).e=l.e/\(bH S t ((ls.take k).map (dw made))).ask=l.ask
theorem Rl.more{S:Spc}{b more:List Ent}{g:List ay}{i:List Lk}(h:Rl S t b g i):Rl S t (b++more) g i:=by
 refine⟨by rw[lK h.ahd];exact h.rep,h.has,λl f j=>?_,λk l f=>?_⟩;{obtain⟨y,m⟩:=h.ahd l f j;exact⟨y,lJ m⟩};{rw[lK (made:=b) (more:=more) λl f=>h.ahd l (NI f)];exact h.go k l f}
theorem Rl.add{S:Spc}{b:List Ent}{f:List ay}{g:List Lk}{r:ay}{l:Lk}(h:Rl S t b f g)(o:r=dw b l)(h1:l.ask=ZF->l.has=ZB)(h2:l.ask=ZF->∃y,bc b l.e=T y)(m:(bH S t f).K=ZB)(hn:(bH S t f).e=l.e)(n:(bH S t f).ask=l.ask):Rl S t b (f++[r]) (g++[l]):=by
 refine⟨by rw[AI,<-h.rep,o];rfl,λz hz=>?_,λz hz=>?_,λk z hz=>?_⟩;{rcases n6.1 hz with hz|hz;{exact h.has z hz};{rw[j4.1 hz];exact h1}};{rcases n6.1 hz with hz|hz;{exact h.ahd z hz};{rw[j4.1 hz];exact h2}}
 ·rcases MJ k (G g) with i|hge;{rw[KO i] at hz;rw[List.take_append_of_le_length (by omega)];exact h.go k z hz}
  ·have j:k=G g:=by
    have:=(j2.1 hz).1;simp at this;omega
   subst j;rw[KL ly,RV] at hz;obtain rfl:l=z:=by simpa using hz
   rw[List.take_left,<-h.rep];exact⟨m,hn,n⟩
def wP (S:Spc)(g:List ByteArray)(lies:List Ent->ByteArray->Out Ent):Prop:=∀f nm b e,PG S g f->av nm=ZF->(∀x∈f,Rn S f x)->lies f nm=.inl (b,e)->(∀x∈b,Rn S b x)/\bc b nm=T e
theorem CH{S:Spc}(ZP:SpcOk S){lies:List Ent->ByteArray->Out Ent}{g:List ByteArray}(L:t<S.n1)(ZO:lI S g lies)(hn:wP S g lies):∀k f i n b x,PG S g f->RG S f i n->(∀x∈f,Rn S f x)->Rl S t f i n->G i+k=201->bS S lies t k f i n=.inl (b,x) ->
  (∀z∈b,Rn S b z)/\(∀l∈x.2,l.ask=ZF->l.has=ZB)/\(∀l∈x.2,l.ask=ZF->∃y,bc b l.e=T y)/\(∀k l,x.2[k]?=T l->(bH S t ((x.2.take k).map (dw b))).K=ZB/\(bH S t ((x.2.take k).map (dw b))).e=l.e/\(bH S t ((x.2.take k).map (dw b))).ask=l.ask)/\(bH S t (x.2.map (dw b))).K=ZF/\bH S t (x.2.map (dw b))=x.1:=by
 intro k;induction k with
 |zero=>intro f i n b x _ _ _ _ _ h;cases h
 |succ k ZQ =>
  intro f i n b x u s A m hk h;have O:=lH ZP L s.good;rw[bS] at h;rcases O with ⟨p,q⟩|⟨p,hlt,o⟩
  ·rw[hU p] at h;cases h
   exact⟨A,m.has,m.ahd,m.go,by rw[<-m.rep];exact p,by rw[<-m.rep]⟩
  ·rw[eT (by rw[p];simp)] at h;split at h;{rename_i r;exact ZQ _ _ _ _ _ u (s.add (nw _ _) o (λh=>by cases h)) A (m.add (by unfold dw;rw[eT (by simp)]) (λh=>by cases h) (λh=>by cases h) p rfl r) (by simp;omega) h}
   ·rename_i r;split at h
    ·rename_i j e q;obtain⟨E,⟨more,H⟩,ZS,K⟩:=ZO _ _ _ _ u o q;obtain⟨M,C⟩:=hn _ _ _ _ u o A q;have B:RG S j i n:=s.mono λx m=>by rw[H];exact KM _ m
     have D:Rl S t j i n:=by rw[H];exact m.more
     exact ZQ _ _ _ _ _ E (B.add (l:=⟨(bH S t i).e,ZF,ZB⟩) (ny (E.bd e ZS)) o (λ_=>⟨e,ZS,K⟩)) M (D.add (by unfold dw;rw[hU rfl];show gY e=(bc j (bH S t i).e).elim oJ gY;rw[C];rfl) (λ_=>rfl) (λ_=>⟨e,C⟩) p rfl (by simpa using r)) (by simp;omega) h
    {cases h};{cases h}
theorem iY{b:List Ent}{e:Ent}(h:bc b e.e=Y):bc (b++[e]) e.e=T e:=by rw[iE,h];simp
theorem oK{b:List Ent}(h:∀x∈b,x.e≠nm):bc b nm=Y :=
 PI.2 λx f e=>h x f (bytes_beq e)
theorem qy{S:Spc}{b:List Ent}{e:Ent}(h:∀x∈b,Rn S b x)(g:Rn S b e):∀x∈b++[e],Rn S (b++[e]) x:=λx f=>by
 rcases n6.1 f with f|f
 ·exact(h x f).more
 ·rw[j4.1 f];exact g.more
theorem Gl (S:Spc)(t:Nat)(b:List Ent):Rl S t b [] []:=⟨rfl,λ_ h=>absurd h nj,λ_ h=>absurd h nj,λk l h=>by simp at h⟩
theorem Af{S:Spc}(o:SpcOk S):∀n b,wP S b (aL S n b):=by
 intro n;have p:∀b g nm f e (tgt:Nat->Out Ent),PG S b g->av nm=ZF->(∀x∈g,Rn S g x)->(∀t f e,atI (nm1 S.f1) S.n1 nm=T t->bc g nm=Y->tgt t=.inl (f,e)->(∀x∈f,Rn S f x)/\bc f nm=T e)->dv S tgt b g nm=.inl (f,e)->(∀x∈f,Rn S f x)/\bc f nm=T e:=by
  intro b g nm f e tgt l hn i E h;unfold dv at h;split at h
  ·rename_i e1 s;cases h
   exact⟨i,s⟩
  ·rename_i j;split at h;{cases h}
   ·unfold fl ec at h;split at h
    ·cases h
     exact⟨qy i (wO (by show(1:Int)≠3;decide) rfl),iY j⟩
    ·split at h;{rename_i t m;exact E _ _ _ m j h}
     ·cases h
      exact⟨qy i (wO (by show(2:Int)≠3;decide) rfl),iY j⟩
 induction n with
 |zero =>intro b g nm f e l hn i h;rw[aL] at h;exact p _ _ _ _ _ _ l hn i (λt _ _ _ _ h=>by cases h) h
 |succ n B =>
  intro b g nm f e l hn i h;rw[aL] at h;refine p _ _ _ _ _ _ l hn i (λt f e m j h=>?_) h;rcases hr:bS S (aL S n (b++[nm])) t 201 g [] [] with ⟨made1,x⟩|c|c;{rw[hr] at h;simp only[gZ,ec,PX,KJ] at h;obtain⟨rfl,rfl⟩:=h;have q:=kE l j;obtain⟨z,_⟩:=iG o (bN m).1 (eN o n (b++[nm])) _ _ _ _ _ _ q (jv S g) rfl hr;obtain⟨y,A,C,u,D,r⟩:=CH o (bN m).1 (eN o n (b++[nm])) (B (b++[nm])) _ _ _ _ _ _ q (jv S g) i (Gl S t g) rfl hr;exact⟨qy y ⟨A,C,λ_=>u,λ_=>⟨D,by rw[r],by rw[r]⟩⟩,iY (e:=⟨nm,3,x.1.E,x.1.B,t,x.2⟩) (oK (nA z).2)⟩};{rw[hr] at h;cases h};{rw[hr] at h;cases h}
theorem Ag (f:Nat->Ins)(cnt:Nat)(i:List ay)(r:ay)(q:r.has=ZB)(k:Nat):∀place steps looks j,looks<=G i->(bW f cnt (yL i) (G i) k place steps looks j).K=ZB->(bW f cnt (yL i) (G i) k place steps looks j).ask=ZF->(bW f cnt (yL (i++[r])) (G i+1) k place steps looks j).K=ZF:=by
 induction k with
 |zero=>intro _ _ _ _ _ _ h;cases h
 |succ k l =>
  intro place steps looks j n g b;rw[bW] at g b ⊢;rcases hs:bG f cnt place steps looks j with ⟨s,p⟩|⟨c,x⟩|⟨a,nm,s⟩
  {rw[hs] at g b;exact l _ _ _ _ n g b};{rfl}
  ·rw[hs] at g b;simp only at g b ⊢;rw[eT (show ¬ (G i)+1<=looks by omega)];by_cases hn:G i<=looks
   ·obtain rfl:looks=G i:=by omega
    rw[hU hn] at g b;have m:a=ZF:=b;subst m;rw[eT (by simp),GQ,hU q];rfl
   {rw[eT hn] at g b;rw[Gk _ _ (by omega)];split;{rename_i h1;rw[hU h1] at g b;exact l _ _ _ _ (by omega) g b};{rename_i h1;rw[eT h1] at g b;split;{rfl};{rename_i h2;rw[eT h2] at g b;split;{rename_i o;rw[hU o] at g b;exact l _ _ _ _ (by omega) g b};{rfl}}}}
def lL (S:Spc)(b:List Ent):Nat:=(List.range S.n0).countP λi=>(bc b (S.f0 i).e).isNone
def Mu (S:Spc)(f:List ByteArray)(b:List Ent):Nat:=G b+2*ed S f b+lL S b
theorem rA (S:Spc)(b:List Ent)(e:Ent):lL S (b++[e])<=lL S b:=by
 refine P9 λt _ h=>?_;rw[iE] at h;cases h2:bc b (S.f0 t).e with
 |none=>rfl
 |some x=>rw[h2] at h;simp at h
theorem Ah{S:Spc}{b:List Ent}{e:Ent}(hi:i<S.n0)(hn:(S.f0 i).e=e.e)(h:bc b e.e=Y):lL S (b++[e])+1<=lL S b:=by
 refine ry (λx _ h=>?_) (KT.2 hi) ?_ ?_
 ·rw[iE] at h;cases h2:bc b (S.f0 x).e with
  |none=>rfl
  |some y=>rw[h2] at h;simp at h
 {rw[hn,iY h];rfl};{rw[hn,h];rfl}
def Ai (S:Spc)(b:List ByteArray)(lies:List Ent->ByteArray->Out Ent):Prop:=∀g nm f e,lies g nm=.inl (f,e)->Mu S b f<=Mu S b g+if e.H=2 then 1 else 0
theorem Ff{S:Spc}{lies:List Ent->ByteArray->Out Ent}{f:List ByteArray}(r:Ai S f lies):∀k g i l b x,bS S lies t k g i l=.inl (b,x)->Mu S f b<=Mu S f g+1:=by
 intro k;induction k with
 |zero=>intro g i l b x h;cases h
 |succ k n =>
  intro g i l b x h;rw[bS] at h;split at h;{cases h;omega}
  ·rename_i q;split at h;{exact n _ _ _ _ _ h}
   ·rename_i p;split at h
    ·rename_i made1 e o;have h1:=r _ _ _ _ o;by_cases j:e.H=2
     ·have m:(bH S t (i++[gY e])).K=ZF:=by
       have:=Ag (S.f1 t).u (S.f1 t).l i (gY e) (by simp[gY,j]) 2001 0 0 0 [] (DN _) (by simpa[bH] using q) (by simpa[bH] using p);unfold bH;rw[gB];exact this
      cases k with
      |zero=>cases h
      |succ k =>
       rw[bS,hU m] at h;cases h
       rw[hU j] at h1;exact h1
     {rw[eT j] at h1;have:=n _ _ _ _ _ h;omega}
    {cases h};{cases h}
theorem CJ (S:Spc):∀n b,Ai S b (aL S n b):=by
 intro n;have o:∀b f nm g e (tgt:Nat->Out Ent),(∀t g e,atI (nm1 S.f1) S.n1 nm=T t->bc f nm=Y->atL b nm=Y->tgt t=.inl (g,e)->Mu S b g<=Mu S b f)->dv S tgt b f nm=.inl (g,e)->Mu S b g<=Mu S b f+if e.H=2 then 1 else 0:=by
  intro b f nm g e tgt r h;unfold dv at h;split at h;{cases h;omega}
  ·rename_i m;split at h;{cases h}
   ·rename_i h1;unfold fl ec at h;split at h
    ·rename_i i hi;cases h
     have:=jL S b f ⟨nm,1,0,(S.f0 i).B,0,[]⟩;have:=Ah (S:=S) (e:=⟨nm,1,0,(S.f0 i).B,0,[]⟩) (bN hi).1 (bN hi).2 m;unfold Mu;rw[gB,CV];omega
    ·split at h;{rename_i t l;have:=r _ _ _ l m h1 h;omega}
     ·cases h
      have:=jL S b f ⟨nm,2,0,⟨#[]⟩,0,[]⟩;have:=rA S f ⟨nm,2,0,⟨#[]⟩,0,[]⟩;rw[hU rfl];unfold Mu;rw[gB,CV];omega
 induction n with
 |zero =>intro b f nm g e h;rw[aL] at h;exact o _ _ _ _ _ _ (λt _ _ _ _ _ h=>by cases h) h
 |succ n q =>
  intro b f nm g e h;rw[aL] at h;refine o _ _ _ _ _ _ (λt g e l m h1 h=>?_) h;rcases hr:bS S (aL S n (b++[nm])) t 201 f [] [] with ⟨j,x⟩|c|c;{rw[hr] at h;simp only[gZ,ec,PX,KJ] at h;obtain⟨rfl,rfl⟩:=h;have p:=Ff (q (b++[nm])) _ _ _ _ _ _ hr;have g2:=ip (making:=b) (made:=f) (bN l).1 (bN l).2 m h1;have g3:ed S b (j++[⟨nm,3,x.1.E,x.1.B,t,x.2⟩])<=ed S (b++[nm]) j:=ru S b j ⟨nm,3,x.1.E,x.1.B,t,x.2⟩;have g4:=rA S j ⟨nm,3,x.1.E,x.1.B,t,x.2⟩;unfold Mu at p ⊢;rw[gB,CV];omega};{rw[hr] at h;cases h};{rw[hr] at h;cases h}
theorem pI{S:Spc}(g:SpcOk S){b:List Ent}{e:Ent}(h:aL S 60 [] [] nm=.inl (b,e)):G b<=400:=by
 have h1:=CJ S 60 [] [] nm b e h;have hl:ed S [] []<=S.n1:=by have:=QB (p:=iX S [] []) (l:=List.range S.n1);simpa[ed] using this
 have hs:lL S []<=S.n0:=by have:=QB (p:=λi=>(bc [] (S.f0 i).e).isNone) (l:=List.range S.n0);simpa[lL] using this
 have h2:=g.bh;by_cases f:e.H=2
 ·rw[aL] at h;unfold dv at h;simp only[bc,List.find?_nil,atL,List.findIdx?_nil] at h;unfold fl ec at h;split at h;{cases h;cases f}
  ·split at h;{rename_i t h3;simp only at h;rcases hr:bS S (aL S 59 ([]++[nm])) t 201 [] [] [] with ⟨made1,x⟩|c|c;{rw[hr] at h;simp only[gZ,ec,PX,KJ] at h;obtain⟨rfl,rfl⟩:=h;cases f};{rw[hr] at h;cases h};{rw[hr] at h;cases h}}
   ·cases h
    show 1<=400;omega
 {rw[eT f] at h1;unfold Mu at h1;rw[J1] at h1;omega}
def sLt (m:Nat):Nat->Bool:=λq=>decide (q<m)
theorem mI (m:Nat):put (sLt m) m=sLt (m+1):=by funext q;rw[MF];simp only[put,sLt,Bool.or_eq_true,ON,nX];omega
theorem gP{S:Spc}{M:List Ent}{x:Ent}(h:M[i]?=T x):dF (aV S M) i=bv S M x:=by unfold dF aV;rw[CP,HU,h];rfl
theorem ui{M b rest:List Ent}{x:Ent}(hM:M=b++rest)(h:b[i]?=T x):M[i]?=T x:=by rw[hM,KO (j2.1 h).1];exact h
theorem uj{S:Spc}{lies:List Ent->ByteArray->Out Ent}:∀k f i g b x,bS S lies t k f i g=.inl (b,x)->∃more,x.2=g++more:=by
 intro k;induction k with
 |zero=>intro f i g b x h;cases h
 |succ k j =>
  intro f i g b x h;rw[bS] at h;split at h
  ·cases h
   exact⟨[],by simp⟩
  {split at h;{obtain⟨m,e⟩:=j _ _ _ _ _ h;exact⟨[_]++m,by rw[e,KK]⟩};{split at h;{obtain⟨m,e⟩:=j _ _ _ _ _ h;exact⟨[_]++m,by rw[e,KK]⟩};{cases h};{cases h}}}
section
variable {S:Spc}{M:List Ent}
def uk (S:Spc)(M:List Ent)(g:List ByteArray)(m:Nat)(lies:List Ent->ByteArray->Out Ent):Prop:=∀f nm b e,PG S g f->av nm=ZF->lies f nm=.inl (b,e)->(∃rest,M=b++rest) ->
 (b=f/\∃i,i<G f/\M[i]?=T e/\e.e=nm)∨(G f<G b/\M[G b - 1]?=T e/\e.e=nm/\∀k d,G b<=k->∃L,lst (dF (aV S M)) k (G b - 1) d (sLt (G f))=(sLt (G b),L)/\L.map (·.1)=List.range' (G f) (G b - (G f))/\∀x∈L,(dF (aV S M) x.1).H=3->x.2<d+m)
theorem um{go:Nat->Nat->(Nat->Bool)->(Nat->Bool) × List (Nat × Nat)}{x:af}{d:Nat}(h:¬ ((x.m j).ask=ZF/\(lks go x d s j).1 (x.m j).L.toNat=ZB)):lks go x d s (j+1)=lks go x d s j:=by rw[lks,eT h]
theorem Aj (hS:SpcOk S)(hM:PG S [] M){lies:List Ent->ByteArray->Out Ent}{u:List ByteArray}(ht:t<S.n1)(ZJ:lI S u lies)(hh:uk S M u m lies):∀k b A r f x,PG S u b->RG S b A r->G A+k=201->bS S lies t k b A r=.inl (f,x)->(∃rest,M=f++rest)->∀(p j d:Nat) (s0:Nat->Bool) (B:List (Nat × Nat)) (y:Ent),M[p]?=T y->y.D=x.2->G f<=p->p<=j->lks (lst (dF (aV S M)) j) (dF (aV S M) p) d s0 (G r)=(sLt (G b),B) ->
  ∃L,lks (lst (dF (aV S M)) j) (dF (aV S M) p) d s0 x.2.length=(sLt (G f),B++L)/\L.map (·.1)=List.range' (G b) (G f - (G b))/\∀z∈L,(dF (aV S M) z.1).H=3->z.2<d+1+m:=by
 intro k;induction k with
 |zero=>intro b A r f x _ _ _ h;cases h
 |succ k X =>
  intro b A r f x ZL ZK hk h E p j d s0 B y ZO H C K hlk;have hT:=lH hS ht ZK.good;have h0:=h;rw[bS] at h;rcases hT with ⟨W,ZN⟩|⟨W,hlt,ZS⟩
  ·rw[hU W] at h;cases h
   exact⟨[],by rw[hlk,QU],by simp,λz hz=>absurd hz nj⟩
  ·rw[eT (by rw[W];simp)] at h;have lk:∀l more,x.2=(r++[l])++more->(dF (aV S M) p).m (G r)=lkD M l:=λl more e=>by rw[gP ZO];refine kF ?_;rw[H,e,KK,KL ly,RV];rfl
   split at h;{rename_i ha;obtain⟨more,e⟩:=uj _ _ _ _ _ _ h;have o:=lk _ _ e;refine X _ _ _ _ _ ZL (ZK.add (nw _ _) ZS (λh=>by cases h)) (by simp;omega) h E p j d s0 B y ZO H C K ?_;rw[gB,CV,um (by rw[o];exact λh=>by cases h.1)];exact hlk}
   ·rename_i ha;split at h
    ·rename_i g R ZN;obtain⟨O,⟨more1,g2⟩,g3,g4⟩:=ZJ _ _ _ _ ZL ZS ZN;have ex:RG S g A r:=ZK.mono λx hx=>by rw[g2];exact KM _ hx
     have ZP:=ex.add (l:=⟨(bH S t A).e,ZF,ZB⟩) (ny (O.bd R g3)) ZS (λ_=>⟨R,g3,g4⟩);obtain⟨-,⟨more2,q2⟩,-⟩:=iG hS ht ZJ _ _ _ _ _ _ O ZP (by simp;omega) h;obtain⟨rest,q⟩:=E;have bt:∃rest,M=g++rest:=⟨more2++rest,by rw[q,q2,KK]⟩
     have hle:G g<=G f:=by rw[q2,gB];omega
     obtain⟨more,e⟩:=uj _ _ _ _ _ _ h;have o:=lk _ _ e;have ZQ:∀i:Nat,M[i]?=T R->((dF (aV S M) p).m (G r)).L.toNat=i:=λi hi=>by rw[o];have:=hM.idx hi;rw[g4] at this;simp[lkD,this]
     have ZM:((dF (aV S M) p).m (G r)).ask=ZF:=by rw[o];rfl
     rcases hh _ _ _ _ ZL ZS ZN bt with ⟨rfl,i,hi,D,-⟩|⟨hlt1,D,-,aq⟩
     {refine X _ _ _ _ _ O ZP (by simp;omega) h ⟨rest,q⟩ p j d s0 B y ZO H C K ?_;rw[gB,CV,um (by rw[hlk,ZQ i D];simp[sLt,hi])];exact hlk}
     ·obtain⟨V,fd,e2,e3⟩:=aq j (d+1) (by omega);have P:lks (lst (dF (aV S M)) j) (dF (aV S M) p) d s0 (r++[(⟨(bH S t A).e,ZF,ZB⟩:Lk)]).length=(sLt (G g),B++V):=by rw[gB,CV,lks,hU ⟨ZM,by rw[hlk,ZQ _ D];simp[sLt];omega⟩,ZQ _ D,hlk,fd]
      obtain⟨L2,f1,f2,f3⟩:=X _ _ _ _ _ O ZP (by simp;omega) h ⟨rest,q⟩ p j d s0 (B++V) y ZO H C K P;refine⟨V++L2,by rw[f1,KK],?_,λz hz=>?_⟩;{rw[AI,e2,f2];have:=List.range'_append_1 (s:=G b) (m:=G g - (G b)) (n:=G f - (G g));rw[show (G b)+(G g - (G b))=G g by omega,show (G g) - (G b)+(G f - (G g))=G f - (G b) by omega] at this;exact this};{rcases n6.1 hz with hz|hz;{exact e3 z hz};{exact f3 z hz}}
    {cases h};{cases h}
theorem Ak{b:List Ent}{e:Ent}(g:e.H≠3)(i:e.D=[])(hM:M[G b]?=T e):∀k d,G b+1<=k->∃L,lst (dF (aV S M)) k (G b) d (sLt (G b))=(sLt (G b+1),L)/\L.map (·.1)=List.range' (G b) 1/\∀x∈L,(dF (aV S M) x.1).H=3->x.2<d+0:=by
 intro k d hk1;cases k with
 |zero=>omega
 |succ k =>
  refine⟨[(G b,d)],?_,rfl,λx h f=>?_⟩;{have j:(dF (aV S M) (G b)).f=0:=(by rw[gP hM];show (G e.D)=0;rw[i];rfl);rw[lst,j];show(put (sLt (G b)) (G b),_)=_;rw[mI];rfl};{rw[j4.1 h,gP hM] at f;exact absurd f g}
theorem yy (u:SpcOk S)(hM:PG S [] M):∀n g,uk S M g n (aL S n g):=by
 intro n;have y:∀g b nm f e (tgt:Nat->Out Ent) (m:Nat),PG S g b->av nm=ZF->(∃rest,M=f++rest)->(∀t f e,atI (nm0 S.f0) S.n0 nm=Y->atI (nm1 S.f1) S.n1 nm=T t->bc b nm=Y->atL g nm=Y->tgt t=.inl (f,e)->(∃rest,M=f++rest)->(G b<G f/\M[G f - 1]?=T e/\e.e=nm/\∀k d,G f<=k->∃L,lst (dF (aV S M)) k (G f - 1) d (sLt (G b))=(sLt (G f),L)/\L.map (·.1)=List.range' (G b) (G f - (G b))/\∀x∈L,(dF (aV S M) x.1).H=3->x.2<d+m))->dv S tgt g b nm=.inl (f,e) ->
   (f=b/\∃i,i<G b/\M[i]?=T e/\e.e=nm)∨(G b<G f/\M[G f - 1]?=T e/\e.e=nm/\∀k d,G f<=k->∃L,lst (dF (aV S M)) k (G f - 1) d (sLt (G b))=(sLt (G f),L)/\L.map (·.1)=List.range' (G b) (G f - (G b))/\∀x∈L,(dF (aV S M) x.1).H=3->x.2<d+m):=by
  intro g b nm f e tgt m s hn l O h;have r:∀o:Ent,o.H≠3->o.D=[]->o.e=nm->(∃rest,M=(b++[o])++rest)->(G b<(b++[o]).length/\M[(b++[o]).length - 1]?=T o/\o.e=nm/\∀k d,(b++[o]).length<=k->∃L,lst (dF (aV S M)) k ((b++[o]).length - 1) d (sLt (G b))=(sLt (b++[o]).length,L)/\L.map (·.1)=List.range' (G b) ((b++[o]).length - (G b))/\∀x∈L,(dF (aV S M) x.1).H=3->x.2<d+m):=by
   intro o C ZN hn0 ⟨rest,E⟩;have p:M[G b]?=T o:=ui E (by simp);have hz:(b++[o]).length=G b+1:=by simp
   rw[hz,NR,Nat.add_sub_cancel_left];refine⟨by omega,p,hn0,λk d ZS=>?_⟩;obtain⟨L,h1,h2,q⟩:=Ak (S:=S) C ZN p k d ZS;exact⟨L,h1,h2,λx K ZQ=>by have:=q x K ZQ;omega⟩
  unfold dv at h;split at h
  ·rename_i D H
   cases h
   obtain⟨h1,h2⟩:=fK H;obtain⟨i,hi⟩:=ME h1;obtain⟨rest,l⟩:=l;exact .inl ⟨rfl,i,(j2.1 hi).1,ui l hi,h2⟩
  ·rename_i B
   split at h
   ·cases h
   ·rename_i h1
    unfold fl ec at h;split at h
    ·cases h
     exact .inr (r _ (by show(1:Int)≠3;decide) rfl rfl l)
    ·rename_i h2
     split at h
     ·rename_i t q
      exact .inr (O _ _ _ h2 q B h1 h l)
     ·cases h
      exact .inr (r _ (by show(2:Int)≠3;decide) rfl rfl l)
 induction n with
 |zero =>intro g b nm f e s hn h l;rw[aL] at h;exact y _ _ _ _ _ _ _ s hn l (λt _ _ _ _ _ _ h=>by cases h) h
 |succ n ZM =>
  intro g b nm f e s hn h l;rw[aL] at h;refine y _ _ _ _ _ _ _ s hn l (λt f e h2 q B h1 h l=>?_) h;rcases hq:bS S (aL S n (g++[nm])) t 201 b [] [] with ⟨j,x⟩|c|c
  ·rw[hq] at h;simp only[gZ,ec,PX,KJ] at h;obtain⟨rfl,rfl⟩:=h;have A:=kE s B;obtain⟨-,⟨more,R⟩,-⟩:=iG u (bN q).1 (eN u n (g++[nm])) _ _ _ _ _ _ A (jv S b) rfl hq;obtain⟨rest,l⟩:=l;have hz:(j++[(⟨nm,3,x.1.E,x.1.B,t,x.2⟩:Ent)]).length=G j+1:=by simp
   have hle:G b<=G j:=by rw[R,gB];omega
   have p:M[G j]?=T ⟨nm,3,x.1.E,x.1.B,t,x.2⟩:=ui l (by simp);rw[hz,NR];refine⟨by omega,p,rfl,λk d C=>?_⟩;cases k with
   |zero=>omega
   |succ k =>
    obtain⟨L,D,ZO,P⟩:=Aj u hM (bN q).1 (eN u n (g++[nm])) (ZM (g++[nm])) _ _ _ _ _ _ A (jv S b) rfl hq ⟨[_]++rest,by rw[l,KK]⟩ (G j) k d (sLt (G b)) [] _ p rfl ly (by omega) rfl;have ZP:(dF (aV S M) (G j)).f=x.2.length:=by rw[gP p];rfl
    refine⟨L++[(G j,d)],?_,?_,λz hz=>?_⟩;{rw[lst,ZP,D,mI,J2]};{rw[AI,ZO,show (G j)+1 - (G b)=G j - (G b)+1 by omega,List.range'_1_concat,show (G b)+(G j - (G b))=G j by omega];rfl}
    ·rcases n6.1 hz with hz|hz;{intro q;have:=P z hz q;omega}
     ·rw[j4.1 hz];intro _;show d<d+(n+1)
      omega
  {rw[hq] at h;cases h};{rw[hq] at h;cases h}
end
theorem nT:∀(L:List (Nat × Nat)) (i:Nat),L.map (·.1)=List.range' i (G L)->bu i L=-1
 |[],_,_=>rfl
 |x::L,i,h=>by rw[QR,p6,List.range'_succ] at h;obtain⟨h1,h2⟩:=List.cons.inj h;rw[bu,hU h1];exact nT L (i+1) h2
theorem nU {f:Nat->af}:∀(L:List (Nat × Nat)),(∀x∈L,(f x.1).H=3->x.2<60)->aR f L=-1
 |[],_=>rfl
 |x::L,h=>by rw[aR,eT λh1=>absurd (h x NT h1.1) (by omega)];exact nU L λy b=>h y (mq _ b)
theorem yz{x:af}(h:∀i,i<n->dD f p (x.m i)=ZF):bE f p x n=ZF:=by
 induction n with
 |zero=>rfl
 |succ k b=>rw[bE,b λi hi=>h i (by omega),h k (by omega)];rfl
theorem Fg{S:Spc}(D:SpcOk S){M:List Ent}(hM:PG S [] M)(hR:∀x∈M,Rn S M x)(hi:i<G M):ba (dF (aV S M)) i=ZF:=by
 obtain⟨x,o⟩:∃x,M[i]?=T x:=⟨M[i],gq hi⟩
 have q:=IN o;have h:=hM.bd x q;have e:dF (aV S M) i=bv S M x:=gP o;unfold ba;rw[e,j5,j5];refine⟨⟨h.nm,MR h.tx⟩,?_⟩;have s:=h.E;rcases h.H with ⟨h1,h2,m,-⟩|⟨h1,h2,m,C,-⟩|⟨h1,-,m⟩
 {have b:(bv S M x).H=1:=h1;unfold kindOk;rw[hU b];simp[aP,bv,dh,h1,h2,m]};{have b:(bv S M x).H=2:=h1;unfold kindOk;rw[eT (by rw[b];decide),hU b];simp[aP,bv,dh,h1,h2,m,C];rfl}
 ·have b:(bv S M x).H=3:=h1;have ZS:(bv S M x).l=(S.f1 x.tg).l:=by show dh S x=_;unfold dh;rw[hU h1]
  unfold kindOk;rw[eT (by rw[b];decide),eT (by rw[b];decide),hU b];unfold bT;rw[ZS];have t:valid (bv S M x).u (S.f1 x.tg).l=ZF:=D.u _ (bN m).1;have A:(bv S M x).f<=200:=h.D;have hlk:bE (dF (aV S M)) i (bv S M x) (bv S M x).f=ZF:=yz λj K=>by
   have n:j<G x.D:=K;have r:x.D[j]?=T x.D[j]:=gq n;have f:=gz n;have z:(bv S M x).m j=lkD M x.D[j]:=kF r;rw[z];generalize x.D[j]=l at f;unfold dD;rw[j5];refine⟨h.lname l f,?_⟩;by_cases g:l.ask=ZF
   ·obtain⟨y,B,hn,hlt⟩:=hM.asked o f g;have u:=(hR x q).has l f g;have p:(lkD M l).ask=ZF:=g;have hH:(lkD M l).has=ZB:=u;have ZP:(lkD M l).L=((jw M l.e:Nat):Int):=by unfold lkD;simp[g]
    have ZQ:(lkD M l).e=l.e:=rfl;rw[hU p,hH,ZP,ZQ,MV,gP B];have H:((bv S M y).e.toList == l.e.toList)=ZF:=by show(y.e.toList == l.e.toList)=ZF;rw[hn];simp
    rw[H];simp only[Bool.not_false,MI,OP,j5,nX];omega
   {have p:¬ (lkD M l).ask=ZF:=g;rw[eT p];unfold lkD;simp[g]}
  rw[t,hlk];have E:(bv S M x).E=x.E:=rfl;rw[E];simp only[OP,j5,nX];exact⟨s,A⟩
theorem yA{k:Nat}(h:∀j,j<k->(f j).e≠(f p).e):aN f p k=ZF:=by
 induction k with
 |zero=>rfl
 |succ k b =>
  rw[aN,b λj hj=>h j (by omega),MI];cases hb:((f k).e.toList == (f p).e.toList) with
  |false=>rfl
  |true=>exact absurd (bytes_beq hb) (h k (by omega))
theorem CK{S:Spc}(b:SpcOk S)(hn:av nm=ZF){M:List Ent}{e:Ent}(h:aL S 60 [] [] nm=.inl (M,e)):dl (dF (aV S M)) (G M)=(0,0)/\0<G M/\M[G M - 1]?=T e/\e.e=nm/\PG S [] M/\∀x∈M,Rn S M x:=by
 have hM:=(eN b 60 [] [] nm M e (iF S []) hn h).1;have hR:=(Af b 60 [] [] nm M e (iF S []) hn (λx g=>absurd g nj) h).1;have hs:=pI b h;rcases yy b hM 60 [] [] nm M e (iF S []) hn h ⟨[],by simp⟩ with ⟨-,i,hi,-⟩|⟨h1,h2,t,z⟩
 {cases hi}
 ·refine⟨?_,h1,h2,t,hM,hR⟩;obtain⟨L,s,m,r⟩:=z (G M) 0 ly;have l:sLt ([]:List Ent).length=λ_=>ZB:=by funext q;simp[sLt]
  have f:aw (dF (aV S M)) (G M)=L:=by unfold aw;rw[<-l,s]
  have n:G L=G M:=by have:=CD List.length m;simpa using this
  have f1:aE (ba (dF (aV S M))) (G M)=-1:=dn λi hi=>Fg b hM hR hi;have A:aE (λp=>aN (dF (aV S M)) p p) (G M)=-1:=dn λi hi=>yA λj B=>by rw[gP (gq hi),gP (gq (show j<G M by omega))];exact LD.1 hM.nod j i (by omega) hi B
  have u:bu 0 L=-1:=nT L 0 (by rw[n];exact m);have y:aR (dF (aV S M)) L=-1:=nU L λx g o=>by have:=r x g o;omega
  have h1':0<G M:=h1;unfold dl;rw[eT (by omega),f1,eT (by simp),A,eT (by simp),f,u,eT (by simp),y,eT (by simp)]
structure Borne (S:Spc)(f:Nat->af)(p:Nat):Prop where
 lie:gU S.n0 S.f0 S.n1 S.f1 (f p)=ZB
 has:hasB S.n0 S.f0 S.n1 S.f1 (f p)=ZB
 run:codeF f p=0
def tgD (S:Spc)(d:af):Nat:=if d.H=3 then (atI (nm1 S.f1) S.n1 d.e).getD 0 else 0
def lkE (l:Link):Lk:=⟨l.e,l.ask,l.has⟩
def dH (d:af)(k:Nat):List Lk:=(List.range k).map λj=>lkE (d.m j)
def ci (S:Spc)(f:Nat->af)(p:Nat):Ent:=⟨(f p).e,(f p).H,(f p).E,(f p).B,tgD S (f p),dH (f p) (f p).f⟩
def gQ (S:Spc)(f:Nat->af)(k:Nat):List Ent:=(List.range k).map (ci S f)
def ysD (f:Nat->af)(p j:Nat):List ay:=(List.range j).map (yOf f p)
theorem wQ{t:ByteArray}(b:aJ g n=ZF)(hi:i<n)(h:((g i).toList == t.toList)=ZF):atI g n t=T i:=by
 cases e:atI g n t with
 |none=>exact absurd h (PI.1 e i (KT.2 hi))
 |some j =>obtain⟨h1,h2⟩:=bN e;rw[asc_one b h1 hi (by rw[h2];simp) h]
theorem qA{t:ByteArray}(h:aG g n t=ZB):atI g n t=Y :=
 PI.2 λx b e=>by rw[eC (KT.1 b) e] at h;cases h
theorem SpcOk.apart{S:Spc}(f:SpcOk S)(i:t<S.n1):aG (nm0 S.f0) S.n0 (S.f1 t).e=ZB:=by
 have h:=f.chk;unfold bm at h;split at h;· omega
 split at h;· omega
 split at h;· omega
 split at h;· omega
 split at h;· omega
 split at h;· omega
 rename_i g;cases e:aG (nm0 S.f0) S.n0 (S.f1 t).e with
 |false=>rfl
 |true =>obtain⟨k,b,hb⟩:=ol e;exact absurd (cY b (eC i (by rw[bytes_beq hb];simp))) g
theorem Al{f g:Nat->Ins}{cnt:Nat}(h:∀i,i<cnt->f i=g i)(y:Nat->ay)(n k:Nat):∀place steps looks b,bW f cnt y n k place steps looks b=bW g cnt y n k place steps looks b:=by
 induction k with
 |zero=>intro _ _ _ _;rfl
 |succ k j =>
  intro place steps looks b;have e:bG f cnt place steps looks b=bG g cnt place steps looks b:=by
   unfold bG;by_cases l:cnt<=place;{rw[hU l,hU l]};{rw[h place (by omega)]}
  rw[bW,bW,e];rcases bG g cnt place steps looks b with ⟨s,p⟩|⟨c,x⟩|⟨a,nm,s⟩
  {exact j _ _ _ _};{rfl};{simp only[j]}
theorem Fh{x y:Ins}(h:jQ x y=ZF):x=y:=by obtain⟨a,b,c⟩:=x;obtain⟨a',b',c'⟩:=y;simp only[jQ,j5,ON] at h;obtain⟨⟨rfl,hb⟩,rfl⟩:=h;rw[fa hb]
theorem un{f g:Nat->Ins}(h:cX f g n=ZF)(i:Nat)(hi:i<n):f i=g i:=by have:=oY (show i+1<=n by omega) h;simp only[cX,j5] at this;exact Fh this.2
theorem eO (h:aK f n=ZF)(g:p<n):av (f p).e=ZF/\((f p).H≠3->(f p).E=0/\(f p).l=0/\(f p).f=0)/\((f p).H=2->(f p).B=⟨#[]⟩)/\∀j,j<(f p).f->dD f p ((f p).m j)=ZF:=by
 have h1:=dY (dy h).2.2 p g;simp only[ba,j5,kindOk,nX] at h1;obtain⟨⟨i,_⟩,h2⟩:=h1;refine⟨i,?_⟩;split at h2;{rename_i b;simp only[aP,j5,nX] at h2;exact⟨λ_=>⟨h2.1.1,h2.1.2,h2.2⟩,λe=>by omega,λj l=>by omega⟩};{split at h2;{rename_i b;simp only[aP,j5,nX] at h2;exact⟨λ_=>⟨h2.1.1.1,h2.1.1.2,h2.1.2⟩,λ_=>UU (OU h2.2),λj l=>by omega⟩};{split at h2;{rename_i b;simp only[bT,j5] at h2;exact⟨λe=>absurd b e,λe=>by omega,kK h2.2⟩};{cases h2}}}
theorem uo:∀(L:List (Nat × Nat)) (i:Nat),bu i L=-1->L.map (·.1)=List.range' i (G L)
 |[],_,_=>rfl
 |x::L,i,h=>by
  rw[bu] at h;split at h
  ·rename_i e
   rw[QR,p6,List.range'_succ,uo L (i+1) h,e]
  ·omega
theorem rB {f:Nat->af}:∀(L:List (Nat × Nat)),aR f L=-1->∀x∈L,(f x.1).H=3->x.2<60
 |[],_,x,b,_=>absurd b nj
 |y::L,h,x,b,hk=>by
  rw[aR] at h;split at h
  ·omega
  ·rename_i hn
   rcases BS.1 b with rfl|b
   ·exact Nat.lt_of_not_le λg=>hn ⟨hk,g⟩
   ·exact rB L h x b hk
theorem vN (h:aK f n=ZF):bu 0 (aw f n)=-1/\aR f (aw f n)=-1:=by
 have h1:(dl f n).1=0:=MA h;unfold dl at h1;split at h1;{simp at h1};{split at h1;{simp at h1};{split at h1;{simp at h1};{split at h1;{simp at h1};{rename_i i;split at h1;{simp at h1};{rename_i g;exact⟨NZ λb=>i b,NZ λb=>g b⟩}}}}}
theorem seg{A B:List (Nat × Nat)}(h:(A++B).map (·.1)=List.range' lo (A++B).length):A.map (·.1)=List.range' lo (G A)/\B.map (·.1)=List.range' (lo+G A) (G B):=by rw[AI,gB,<-List.range'_append_1] at h;exact List.append_inj h (by simp)
theorem wR (go:Nat->Nat->(Nat->Bool)->(Nat->Bool) × List (Nat × Nat))(x:af)(d:Nat)(s:Nat->Bool)(j:Nat):∀ZP,j<=ZP->∃more,(lks go x d s ZP).2=(lks go x d s j).2++more
 |0,h=>⟨[],by
  obtain rfl:j=0:=by omega
  simp⟩
 |ZP+1,h=>by
  by_cases e:j=ZP+1
  ·exact⟨[],by rw[e];simp⟩
  ·obtain⟨m,b⟩:=wR go x d s j ZP (by omega)
   rw[lks];split
   ·exact⟨m++(go (x.m ZP).L.toNat (d+1) (lks go x d s ZP).1).2,by rw[b,KK]⟩
   ·exact⟨m,b⟩
theorem rC {f:Nat->af}{p:Nat}:∀ZP k,k+ZP<=ep f p ZP k->∀i,i<ZP->eo f p (k+i)=ZB
 |0,_,_,i,hi=>absurd hi (IT i)
 |ZP+1,k,h,i,hi=>by
  rw[ep] at h;split at h
  ·omega
  ·rename_i b
   cases i with
   |zero=>simpa using b
   |succ i =>have:=rC (f:=f) (p:=p) ZP (k+1) (by omega) i (by omega);rwa[show k+(i+1)=k+1+i by omega]
theorem mJ (h:codeF f p=0)(i:(f p).H=3):(∀j,j<(f p).f->(aZ f p j).K=ZB/\(aZ f p j).e=((f p).m j).e/\(aZ f p j).ask=((f p).m j).ask)/\(aZ f p (f p).f).K=ZF/\(aZ f p (f p).f).E=(f p).E/\(aZ f p (f p).f).B=(f p).B:=by
 rw[codeF,hU i,fS] at h;have hle:=oF f p (f p).f 0;split at h;{omega}
 ·rename_i h1;have g:bo f p=(f p).f:=by unfold bo at h1 ⊢;omega
  rw[g] at h;split at h;{omega};{rename_i h2;split at h;{rename_i b;refine⟨λj l=>?_,by simpa using h2,b.1,fa b.2⟩;have:=rC (f:=f) (p:=p) (f p).f 0 (by unfold bo at g;omega) j l;rw[E4] at this;simp only[eo,TP,PJ,ON] at this;exact⟨this.1.1,fa this.1.2,this.2⟩};{omega}}
theorem Borne.lies{S:Spc}(q:aK f n=ZF)(o:p<n)(l:SpcOk S)(h:Borne S f p):((f p).H=1/\∃i,atI (nm0 S.f0) S.n0 (f p).e=T i/\(S.f0 i).B=(f p).B)∨((f p).H=2/\atI (nm0 S.f0) S.n0 (f p).e=Y/\atI (nm1 S.f1) S.n1 (f p).e=Y)∨((f p).H=3/\atI (nm0 S.f0) S.n0 (f p).e=Y/\∃t,atI (nm1 S.f1) S.n1 (f p).e=T t/\(S.f1 t).l=(f p).l/\∀i,i<(f p).l->(S.f1 t).u i=(f p).u i):=by
 have b:=h.lie;unfold gU at b;rcases(d9 q p o).2 with ⟨g,-⟩|⟨g,-⟩|⟨g,-⟩
 {rw[hU g,PJ] at b;obtain⟨i,hi,hb⟩:=iA b;rw[j5] at hb;exact .inl ⟨g,i,wQ l.asc0 hi hb.1,bytes_beq hb.2⟩};{rw[eT (by omega),eT (by omega)] at b;unfold jn at b;rw[TP] at b;exact .inr (.inl ⟨g,qA b.1,qA b.2⟩)};{rw[eT (by omega),hU g,PJ] at b;obtain⟨t,m,hb⟩:=iA b;rw[j5] at hb;have j:=hb.2;simp only[cK,j5,nX] at j;have hn:(S.f1 t).e=(f p).e:=bytes_beq hb.1;refine .inr (.inr ⟨g,qA (by rw[<-hn];exact l.apart m),t,wQ l.asc1 m hb.1,j.1,λi hi=>un j.2 i (by omega)⟩)}
section
variable {S:Spc}{f:Nat->af}{n:Nat}
theorem lM (k:Nat):gQ S f (k+1)=gQ S f k++[ci S f k]:=by unfold gQ;rw[LP,AI];rfl
theorem yB (h:aK f n=ZF){k:Nat}(hk:k<=p)(g:p<n):bc (gQ S f k) (f p).e=Y :=
 oK λx b e=>by obtain⟨i,hi,rfl⟩:=LA.1 b;have h1:=KT.1 hi;have:=eB h i p (by omega) g (CD ByteArray.toList e);omega
theorem yC (g:aK f n=ZF){k:Nat}(b:q<k)(hk:k<=n):bc (gQ S f k) (f q).e=T (ci S f q):=by
 cases h:bc (gQ S f k) (f q).e with
 |none=>exact absurd rfl (fi h (ci S f q) (LA.2 ⟨q,KT.2 b,rfl⟩))
 |some y =>obtain⟨h1,h2⟩:=fK h;obtain⟨i,hi,rfl⟩:=LA.1 h1;have:=KT.1 hi;rw[eB g i q (by omega) (by omega) (CD ByteArray.toList h2)]
theorem jM (h1:(S.f1 t).l=(f p).l)(h2:∀i,i<(f p).l->(S.f1 t).u i=(f p).u i):bH S t (ysD f p j)=aZ f p j:=by
 have e:(ysD f p j).length=j:=by simp[ysD]
 unfold bH aZ;rw[e,h1,Al h2];exact j7 _ _ _ _ _ _ _ _ _ _ λi _ hi=>by simp[yL,ysD,hi]
def Gm (S:Spc)(f:Nat->af)(n k:Nat):Prop:=∀p d lo m b,p<k->p<n->lo<=p->(lst f k p d (sLt lo)).2.map (·.1)=List.range' lo (lst f k p d (sLt lo)).2.length->(∀x∈(lst f k p d (sLt lo)).2,(f x.1).H=3->x.2<d+m)->(∀z∈b,∀q,q<=p->z≠(f q).e) ->
 (lst f k p d (sLt lo)).1=sLt (p+1)/\p+1=lo+(lst f k p d (sLt lo)).2.length/\aL S m b (gQ S f lo) (f p).e=.inl (gQ S f (p+1),ci S f p)
theorem CN (u:aK f n=ZF)(H:∀p,p<n->Borne S f p){k d:Nat}(ih:Gm S f n k)(hk:p<k+1)(y:p<n)(ZM:lo<=p)(ZL:(f p).H=3)(ZP:(S.f1 t).l=(f p).l)(R:∀i,i<(f p).l->(S.f1 t).u i=(f p).u i)
  (L:(lks (lst f k) (f p) d (sLt lo) (f p).f).2.map (·.1)=List.range' lo (lks (lst f k) (f p) d (sLt lo) (f p).f).2.length) (O:∀x∈(lks (lst f k) (f p) d (sLt lo) (f p).f).2,(f x.1).H=3->x.2<d+1+m) (hm:∀z∈making,∀q,q<p->z≠(f q).e) :
  ∀j,j<=(f p).f->(lks (lst f k) (f p) d (sLt lo) j).1=sLt (lo+(lks (lst f k) (f p) d (sLt lo) j).2.length)/\lo+(lks (lst f k) (f p) d (sLt lo) j).2.length<=p /\
   bS S (aL S m making) t 201 (gQ S f lo) [] []=bS S (aL S m making) t (201 - j) (gQ S f (lo+(lks (lst f k) (f p) d (sLt lo) j).2.length)) (ysD f p j) (dH (f p) j):=by
 have hN:(f p).f<=200:=eP u p y;obtain⟨ZO,-⟩:=mJ (H p y).run ZL;intro j;induction j with
 |zero=>intro _;exact⟨rfl,ZM,rfl⟩
 |succ j W =>
  intro ZJ;obtain⟨g,P,g3⟩:=W (by omega);obtain⟨t1,ZK,t3⟩:=ZO j (by omega);have hlk:=(eO u y).2.2.2 j (by omega);have D:ysD f p (j+1)=ysD f p j++[yOf f p j]:=by unfold ysD;rw[LP,AI];rfl
  have B:dH (f p) (j+1)=dH (f p) j++[lkE ((f p).m j)]:=by unfold dH;rw[LP,AI];rfl
  rw[g3,show 201 - j=201 - (j+1)+1 by omega,bS,jM ZP R,t1,ZK,t3,eT (by simp)];by_cases b:((f p).m j).ask=ZF
  ·obtain⟨a1,V,a3⟩:=eA u p y j (by omega) b;have E:((f p).m j).has=ZB:=by simp only[dD,b,SV,j5,Bool.not_eq_true'] at hlk;exact hlk.2.1.1.1
   have s:∀q,q=((f p).m j).L.toNat->gY (ci S f q)=yOf f p j:=λq e=>by subst e;unfold yOf;rw[jJ u b (by omega)];rfl
   have ZS:lkE ((f p).m j)=⟨((f p).m j).e,ZF,ZB⟩:=by unfold lkE;rw[b,E]
   have A:((f p).m j).e=(f ((f p).m j).L.toNat).e:=fa a3.symm;rw[eT (by rw[b];simp),D,B,ZS];generalize o:((f p).m j).L.toNat=q at V A;have s:=s q o.symm;rw[lks];by_cases C:q<lo+(lks (lst f k) (f p) d (sLt lo) j).2.length;{rw[eT (by rw[g,o];simp[sLt,C])];refine⟨g,P,?_⟩;rw[jt];unfold dv;rw[A,yC u C (by omega)];simp only[s]};{rw[hU ⟨b,by rw[g,o];simp[sLt];omega⟩,o,g];obtain⟨more,l⟩:=wR (lst f k) (f p) d (sLt lo) (j+1) (f p).f ZJ;rw[lks,hU ⟨b,by rw[g,o];simp[sLt];omega⟩,o,g] at l;simp only at l;rw[l] at L O;have s1:=(seg L).1;have s2:=(seg s1).2;obtain⟨b1,M,b3⟩:=ih q (d+1) (lo+(lks (lst f k) (f p) d (sLt lo) j).2.length) m making (by omega) (by omega) (by omega) s2 (λx X ZQ=>O x (KM _ (LM _ X)) ZQ) (λz hz r hr'=>hm z hz r (by omega));rw[A,b3];simp only[s,gB];refine⟨by rw[b1,M,Nat.add_assoc],by omega,by rw[<-Nat.add_assoc,<-M]⟩}
  ·have hn:((f p).m j).ask=ZB:=by simpa using b
   have ZN:=hZ (H p y).has (show j<(f p).f by omega);simp only[dT,hn,Bool.not_false,MI,PJ,ON] at ZN;have K:fX S ((f p).m j).e=((f p).m j).has:=ZN.symm;rw[hU hn,K,um (λh=>b h.1),D,B];have s:yOf f p j=⟨((f p).m j).has,0,⟨#[]⟩⟩:=by unfold yOf dV;rw[eT b]
   have ZS:lkE ((f p).m j)=⟨((f p).m j).e,ZB,((f p).m j).has⟩:=by unfold lkE;rw[hn]
   rw[s,ZS];exact⟨g,P,rfl⟩
theorem CO (o:aK f n=ZF)(O:SpcOk S)(C:∀p,p<n->Borne S f p):∀k,Gm S f n k:=by
 intro k;induction k with
 |zero=>intro p d lo m b ZQ;omega
 |succ k ZM =>
  intro p d lo m b ZQ l B D u K;rw[lst] at D u ⊢;simp only at D u ⊢;obtain⟨s1,ZN⟩:=seg D;have j:p=lo+(lks (lst f k) (f p) d (sLt lo) (f p).f).2.length:=by simpa using ZN
  have hz:p+1=lo+((lks (lst f k) (f p) d (sLt lo) (f p).f).2++[(p,d)]).length:=by rw[gB,CV];omega
  have R:=yB (S:=S) o B l;have h1:atL b (f p).e=Y:=iq λx E=>K x E p ly;have r:=eO o l;rw[jt];unfold dv;rw[R,h1];simp only[fl];rcases(C p l).lies o l O with ⟨g,i,hi,L⟩|⟨g,hi,s⟩|⟨g,hi,t,s,y,A⟩
  ·obtain⟨c1,c2,c3⟩:=r.2.1 (by omega);have ZS:lks (lst f k) (f p) d (sLt lo) (f p).f=(sLt lo,[]):=by rw[c3];rfl
   rw[ZS] at j hz ⊢;obtain rfl:p=lo:=by simpa using j
   refine⟨mI p,hz,?_⟩;rw[hi];simp only[ec,lM];have e:ci S f p=⟨(f p).e,1,0,(S.f0 i).B,0,[]⟩:=by unfold ci tgD dH;rw[c3,c1,g,L];rfl
   rw[e]
  ·obtain⟨c1,c2,c3⟩:=r.2.1 (by omega);have ZS:lks (lst f k) (f p) d (sLt lo) (f p).f=(sLt lo,[]):=by rw[c3];rfl
   rw[ZS] at j hz ⊢;obtain rfl:p=lo:=by simpa using j
   refine⟨mI p,hz,?_⟩;rw[hi,s];simp only[ec,lM];have e:ci S f p=⟨(f p).e,2,0,⟨#[]⟩,0,[]⟩:=by unfold ci tgD dH;rw[c3,c1,g,r.2.2.1 g];rfl
   rw[e]
  ·have ZP:=u (p,d) (LM _ (j4.2 rfl)) g;obtain⟨H,rfl⟩:∃H,m=H+1:=⟨m - 1,by simp only at ZP;omega⟩
   have hN:(f p).f<=200:=eP o p l;obtain⟨-,r1,ZL,P⟩:=mJ (C p l).run g
   obtain⟨M,-,ZO⟩:=CN o C (m:=H) (making:=b++[(f p).e]) ZM ZQ l B g y A s1 (λx E h=>by have:=u x (KM _ E) h;omega) (λz hz q hq=>by
    rcases n6.1 hz with hz|hz;{exact K z hz q (by omega)}
    ·rw[j4.1 hz]
     exact λe=>by have:=eB o p q l (by omega) (CD ByteArray.toList e);omega) (f p).f ly
   rw[<-j] at M ZO;refine⟨by rw[M];exact mI p,hz,?_⟩;rw[hi,s];simp only[Cx];rw[ZO,show 201 - (f p).f=200 - (f p).f+1 by omega,bS,jM y A,hU r1];simp only[gZ,ec,lM];have e:ci S f p=⟨(f p).e,3,(aZ f p (f p).f).E,(aZ f p (f p).f).B,t,dH (f p) (f p).f⟩:=by unfold ci tgD;rw[g,s,ZL,P];rfl
   rw[e]
theorem yD (b:aK f n=ZF)(m:SpcOk S)(i:∀p,p<n->Borne S f p):aL S 60 [] [] (f (n - 1)).e=.inl (gQ S f n,ci S f (n - 1)):=by
 have hn:=dy b;obtain⟨h1,h2⟩:=vN b;have g:sLt 0=λ_=>ZB:=by funext q;simp[sLt]
 unfold aw at h1 h2;rw[<-g] at h1 h2;obtain⟨-,-,h⟩:=CO b m i n (n - 1) 0 0 60 [] (by omega) (by omega) (DN _) (uo _ _ h1) (λx l j=>by have:=rB _ h2 x l j;omega) (λz hz=>absurd hz nj);rw[show n - 1+1=n by omega] at h;exact h
structure DeedEq (x y:af):Prop where
 e:x.e=y.e
 H:x.H=y.H
 E:x.E=y.E
 B:x.B=y.B
 l:x.l=y.l
 u:∀i,i<x.l->x.u i=y.u i
 f:x.f=y.f
 m:∀i,i<x.f->x.m i=y.m i
end
def LkHas (S:Spc)(b:List Lk):Prop:=∀l∈b,l.ask=ZB->l.has=fX S l.e
def Hs (S:Spc)(b:List Ent):Prop:=∀x∈b,LkHas S x.D
theorem Hs.add{S:Spc}{b:List Ent}{e:Ent}(h:Hs S b)(g:LkHas S e.D):Hs S (b++[e]):=λx f=>by
 rcases n6.1 f with f|f
 ·exact h x f
 ·rw[j4.1 f];exact g
theorem mK (S:Spc):LkHas S []:=λ_ h=>absurd h nj
theorem LkHas.add{S:Spc}{f:List Lk}{l:Lk}(h:LkHas S f)(g:l.ask=ZB->l.has=fX S l.e):LkHas S (f++[l]):=λx b=>by
 rcases n6.1 b with b|b
 ·exact h x b
 ·rw[j4.1 b];exact g
theorem CQ{S:Spc}{lies:List Ent->ByteArray->Out Ent}(o:∀f nm b e,Hs S f->lies f nm=.inl (b,e)->Hs S b):∀k f l g b x,Hs S f->LkHas S g->bS S lies t k f l g=.inl (b,x)->Hs S b/\LkHas S x.2:=by
 intro k;induction k with
 |zero=>intro f l g b x _ _ h;cases h
 |succ k m =>
  intro f l g b x i j h;rw[bS] at h;split at h
  ·cases h
   exact⟨i,j⟩
  {split at h;{exact m _ _ _ _ _ i (j.add λ_=>rfl) h};{split at h;{rename_i made1 e n;exact m _ _ _ _ _ (o _ _ _ _ i n) (j.add λh=>by cases h) h};{cases h};{cases h}}}
theorem Am (S:Spc):∀n f g nm b e,Hs S g->aL S n f g nm=.inl (b,e)->Hs S b:=by
 intro n;have j:∀f g nm b e (tgt:Nat->Out Ent),Hs S g->(∀t b e,tgt t=.inl (b,e)->Hs S b)->dv S tgt f g nm=.inl (b,e)->Hs S b:=by
  intro f g nm b e tgt i l h;unfold dv at h;split at h;{cases h;exact i};{split at h;{cases h};{unfold fl ec at h;split at h;{cases h;exact i.add (mK S)};{split at h;{exact l _ _ _ h};{cases h;exact i.add (mK S)}}}}
 induction n with
 |zero =>intro f g nm b e i h;rw[aL] at h;exact j _ _ _ _ _ _ i (λt _ _ h=>by cases h) h
 |succ n m =>
  intro f g nm b e i h;rw[aL] at h;refine j _ _ _ _ _ _ i (λt b e h=>?_) h;rcases hr:bS S (aL S n (f++[nm])) t 201 g [] [] with ⟨made1,x⟩|c|c;{rw[hr] at h;simp only[gZ,ec,PX,KJ] at h;obtain⟨rfl,rfl⟩:=h;obtain⟨h1,h2⟩:=CQ (λg nm b e=>m _ g nm b e) _ _ _ _ _ _ i (mK S) hr;exact h1.add h2};{rw[hr] at h;cases h};{rw[hr] at h;cases h}
theorem uq{t:ByteArray}(h:atI g n t=Y):aG g n t=ZB:=by
 cases e:aG g n t with
 |false=>rfl
 |true =>obtain⟨k,b,hb⟩:=ol e;exact absurd hb (PI.1 h k (KT.2 b))
theorem rD{p:Nat->Bool}(h:∀i,i<n->p i=ZB):aI p n=ZB:=by
 cases e:aI p n with
 |false=>rfl
 |true =>obtain⟨k,b,hb⟩:=iA e;rw[h k b] at hb;cases hb
theorem lN {f g:Nat->Ins}:∀{n:Nat},(∀i,i<n->f i=g i)->cX f g n=ZF
 |0,_=>rfl
 |n+1,h=>by rw[cX,lN λi hi=>h i (by omega),h n (by omega)];simp[jQ]
theorem rE {f:Nat->af}{p:Nat}:∀ZP k,(∀i,i<ZP->eo f p (k+i)=ZB)->ep f p ZP k=k+ZP
 |0,_,_=>rfl
 |ZP+1,k,h=>by rw[ep,eT (by have:=h 0 (by omega);rw[NO] at this;rw[this];simp),rE ZP (k+1) λi hi=>by rw[show k+1+i=k+(i+1) by omega];exact h (i+1) (by omega)];omega
theorem rF (h:(f p).H=3->(∀j,j<(f p).f->(aZ f p j).K=ZB/\(aZ f p j).e=((f p).m j).e/\(aZ f p j).ask=((f p).m j).ask)/\(aZ f p (f p).f).K=ZF/\(aZ f p (f p).f).E=(f p).E/\(aZ f p (f p).f).B=(f p).B):codeF f p=0:=by
 unfold codeF;split
 ·rename_i g;obtain⟨h1,h2,m,l⟩:=h g;have n:bo f p=(f p).f:=by
   unfold bo
   rw[rE _ _ λi hi=>by
    obtain⟨a,b,c⟩:=h1 i hi;rw[E4]
    simp[eo,a,b,c]]
   omega
  unfold fS;rw[n,eT (by omega),eT (by rw[h2];simp),hU ⟨m,by rw[l]⟩]
 {rfl}
theorem An{S:Spc}(K:SpcOk S)(hn:av nm=ZF){M:List Ent}{e:Ent}(h:aL S 60 [] [] nm=.inl (M,e)):aK (dF (aV S M)) (G M)=ZF/\∀p,p<G M->Borne S (dF (aV S M)) p:=by
 obtain⟨h1,-,-,-,hM,hR⟩:=CK K hn h;have hH:=Am S 60 [] [] nm M e (λx o=>absurd o nj) h;have E:aK (dF (aV S M)) (G M)=ZF:=by unfold aK;rw[h1];rfl
 refine⟨E,λp O=>?_⟩;have o:M[p]?=T M[p]:=gq O;generalize M[p]=x at o;have q:=IN o;have L:=hM.bd x q;have n:dF (aV S M) p=bv S M x:=gP o;have hlk:∀j l,x.D[j]?=T l->(bv S M x).m j=lkD M l:=λj l P=>kF P;refine⟨?_,?_,rF λD=>?_⟩
 ·rw[n];unfold gU;rcases L.H with ⟨k,-,-,i,hi,s⟩|⟨k,-,-,-,h2,A⟩|⟨k,-,A⟩
  {rw[hU (show(bv S M x).H=1 from k)];obtain⟨u,C⟩:=bN hi;have:jU S.n0 S.f0 (bv S M x).e (bv S M x).B=ZF:=cY u (by show((nm0 S.f0 i).toList == x.e.toList && (S.f0 i).B.toList == x.B.toList)=ZF;rw[C,s];simp);rw[this];rfl};{have H:(bv S M x).H=2:=k;rw[eT (by omega),eT (by omega)];show(aG (nm0 S.f0) S.n0 x.e || aG (nm1 S.f1) S.n1 x.e)=ZB;rw[uq h2,uq A];rfl}
  ·have H:(bv S M x).H=3:=k;rw[eT (by omega),hU H];obtain⟨u,C⟩:=bN A;have B:(bv S M x).l=(S.f1 x.tg).l:=by show dh S x=_;unfold dh;rw[hU k]
   have:jV S.n1 S.f1 (bv S M x).e (bv S M x).l (bv S M x).u=ZF:=cY u (by
    show((nm1 S.f1 x.tg).toList == x.e.toList && cK (S.f1 x.tg).u (bv S M x).u (S.f1 x.tg).l (bv S M x).l)=ZF;rw[C,B];simp only[cK,decide_true,MI,beq_self_eq_true]
    exact lN λ_ _=>rfl)
   rw[this];rfl
 ·rw[n];refine rD λj m=>?_;have t:j<G x.D:=m;have b:x.D[j]?=T x.D[j]:=gq t;have f:=gz t;simp only[hlk j _ b];generalize x.D[j]=l at f;unfold dT lkD;cases g:l.ask with
  |true=>rfl
  |false =>have:=hH x q l f g;show(!ZB && !(l.has == fX S l.e))=ZB;rw[this];simp
 ·rw[n] at D;have k:x.H=3:=D;have B:(bv S M x).l=(S.f1 x.tg).l:=by show dh S x=_;unfold dh;rw[hU k]
  have r:∀j,j<G x.D->yOf (dF (aV S M)) p j=yL (x.D.map (dw M)) j:=λj m=>by
   have b:x.D[j]?=T x.D[j]:=gq m;have f:=gz m;have ZP:yL (x.D.map (dw M)) j=dw M x.D[j]:=by simp[yL,m]
   unfold yOf;rw[n,hlk j _ b,ZP];generalize x.D[j]=l at f;by_cases g:l.ask=ZF
   ·obtain⟨y,r,hny,hlt⟩:=hM.asked o f g;have ZS:(lkD M l).L.toNat=jw M l.e:=by unfold lkD;simp[g]
    rw[jJ E (show(lkD M l).ask=ZF from g) (by rw[ZS];omega),ZS,gP r];have ZQ:bc M l.e=T y:=by obtain⟨z,hz⟩:=(hR x q).ahd l f g;obtain⟨z1,z2⟩:=fK hz;obtain⟨i,hi⟩:=ME z1;have:=hM.idx hi;rw[z2] at this;rw[this,hi] at r;rw[hz];exact r
    unfold dw;rw[hU g,ZQ];rfl
   {unfold dw dV;rw[eT g,eT (show ¬ (lkD M l).ask=ZF from g)];rfl}
  have s:∀j,j<=G x.D->aZ (dF (aV S M)) p j=bH S x.tg ((x.D.take j).map (dw M)):=λj m=>by unfold aZ bH;rw[n,B,LR,LU,ND m];refine j7 _ _ _ _ _ _ _ _ _ _ λi _ hi=>?_;rw[r i (by omega)];simp[yL,hi,show i<G x.D by omega]
  have ZO:(dF (aV S M) p).f=G x.D:=by rw[n];rfl
  rw[ZO];refine⟨λj m=>?_,?_⟩;{have b:x.D[j]?=T x.D[j]:=gq m;rw[s j (by omega),n,hlk j _ b];exact(hR x q).go k j _ b};{rw[s _ ly,List.take_length,n];exact(hR x q).fin k}
section
variable {f g:Nat->af}{n:Nat}
theorem DeedEq.refl (x:af):DeedEq x x:=⟨rfl,rfl,rfl,rfl,rfl,λ_ _=>rfl,rfl,λ_ _=>rfl⟩
theorem DeedEq.symm{x y:af}(h:DeedEq x y):DeedEq y x:=⟨h.e.symm,h.H.symm,h.E.symm,h.B.symm,h.l.symm,λi hi=>(h.u i (by rw[h.l];exact hi)).symm,h.f.symm,λi hi=>(h.m i (by rw[h.f];exact hi)).symm⟩
theorem yE{a b:Nat->Ins}(h:∀i,i<m->a i=b i):valid a m=valid b m:=by
 have:∀k,k<=m->da a k=da b k:=by
  intro k;induction k with
  |zero=>intro _;rfl
  |succ k f=>intro hk;rw[da,da,f (by omega),h k (by omega)]
 unfold valid;rw[this m ly ]
theorem mL {p:Nat}{x y:af}(j:p<n)(h:∀i,i<n->DeedEq (f i) (g i)):∀k,(∀i,i<k->x.m i=y.m i)->bE f p x k=bE g p y k
 |0,_=>rfl
 |k+1,hl=>by
  rw[bE,bE,mL j h k λi hi=>hl i (by omega),hl k (by omega)];congr 1;unfold dD;by_cases b:(0<=(y.m k).L/\(y.m k).L<(p:Int))
  ·rw[(h (y.m k).L.toNat (by omega)).e]
  ·have:(decide (0<=(y.m k).L) && decide ((y.m k).L<(p:Int)))=ZB:=by
    rw[Bool.and_eq_false_iff];rcases Decidable.not_and_iff_or_not.1 b with b|b
    ·exact .inl (N9 b)
    ·exact .inr (N9 b)
   cases (y.m k).has<;>cases h1:decide (0<=(y.m k).L)<;>cases h2:decide ((y.m k).L<(p:Int))<;>simp_all
theorem vO (h:∀i,i<n->DeedEq (f i) (g i))(b:p<n):ba f p=ba g p:=by have e:=h p b;unfold ba kindOk aP bT;rw[mL b h (f p).f e.m,yE e.u,e.e,e.H,e.E,e.B,e.l,e.f]
theorem mM (h:∀i,i<n->DeedEq (f i) (g i)){p:Nat}(b:p<n):∀k,k<=n->aN f p k=aN g p k
 |0,_=>rfl
 |k+1,hk=>by rw[aN,aN,mM h b k (by omega),(h p b).e,(h k (by omega)).e]
theorem jx {a b:Nat->Bool}:∀{m:Nat},(∀i,i<m->a i=b i)->aE a m=aE b m
 |0,_=>rfl
 |m+1,h=>by rw[aE,aE,jx λi hi=>h i (by omega),h m (by omega)]
theorem us (l:cG f n)(h:∀i,i<n->DeedEq (f i) (g i)):∀k p d s,p<n->lst f k p d s=lst g k p d s
 |0,_,_,_,_=>rfl
 |k+1,p,d,s,hp=>by
  have e:=h p hp;have b:∀j,j<=(f p).f->lks (lst f k) (f p) d s j=lks (lst g k) (g p) d s j:=by
   intro j;induction j with
   |zero=>intro _;rfl
   |succ j q =>
    intro hj;rw[lks,lks,q (by omega),e.m j (by omega)];split
    ·rename_i m
     have o:=(l p hp j (by omega) (by rw[e.m j (by omega)];exact m.1)).1;rw[e.m j (by omega)] at o;rw[us l h k _ _ _ (by omega)]
    ·rfl
  rw[lst,lst,b _ ly,e.f]
theorem nV (h:∀i,i<n->DeedEq (f i) (g i)):∀(L:List (Nat × Nat)),(∀x∈L,x.1<n)->aR f L=aR g L
 |[],_=>rfl
 |x::L,hl=>by rw[aR,aR,(h x.1 (hl x NT)).H,nV h L λy b=>hl y (mq _ b)]
theorem yF (h:∀i,i<n->DeedEq (f i) (g i))(l:aK f n=ZF):aK g n=ZF:=by
 obtain⟨h1,h2,r⟩:=dy l;have m:=dI r;have o:=us m h n (n - 1) 0 (λ_=>ZB) (by omega);have j:=(fG m n (n - 1) 0 (λ_=>ZB) (by omega) (by omega) rfl).le;have e:dl f n=dl g n:=by unfold dl aw;rw[o] at j;rw[jx λi hi=>vO h hi,jx (a:=λp=>aN f p p) (b:=λp=>aN g p p) λi hi=>mM h hi i (by omega),o,nV h _ λx q=>by have:=j x q;omega]
 unfold aK at l ⊢;rw[<-e];exact l
end
section
variable {S:Spc}{f:Nat->af}{n:Nat}
def eL (S:Spc)(f:Nat->af)(L:List Nat):List Ent:=L.map (ci S f)
theorem Fi (j:aK f n=ZF)(hL:∀q∈L,q<n)(g:p<n)(h:p ∉ L):bc (eL S f L) (f p).e=Y :=
 oK λx b e=>by obtain⟨i,hi,rfl⟩:=LA.1 b;rw[eB j i p (hL i hi) g (CD ByteArray.toList e)] at hi;exact h hi
theorem Fj (g:aK f n=ZF)(hL:∀q∈L,q<n)(b:p<n)(h:p∈L):bc (eL S f L) (f p).e=T (ci S f p):=by
 cases h0:bc (eL S f L) (f p).e with
 |none=>exact absurd rfl (fi h0 (ci S f p) (LA.2 ⟨p,h,rfl⟩))
 |some y =>obtain⟨h1,h2⟩:=fK h0;obtain⟨i,hi,rfl⟩:=LA.1 h1;rw[eB g i p (hL i hi) b (CD ByteArray.toList h2)]
def Ao (S:Spc)(f:Nat->af)(n k:Nat):Prop:=∀p m b s L d,p<k->p<n->(∀q,s q=ZF ↔ q∈L)->(∀q∈L,q<n)->s p=ZB->(∀z∈b,∀q,q<=p->z≠(f q).e) ->
 aL S m b (eL S f L) (f p).e=.inl (eL S f (L++plc (lst f k p d s)),ci S f p)∨∃x,aL S m b (eL S f L) (f p).e=.inr (.inr x)
theorem yG (u:aK f n=ZF)(ZP:∀p,p<n->Borne S f p){k d:Nat}(ih:Ao S f n k)(hk:p<k+1)(D:p<n)(ZN:(f p).H=3)(K:(S.f1 t).l=(f p).l)(P:∀i,i<(f p).l->(S.f1 t).u i=(f p).u i)
  (hs:∀q,s q=ZF ↔ q∈L) (hL:∀q∈L,q<n) (ZJ:∀z∈making,∀q,q<p->z≠(f q).e) :
  ∀j,j<=(f p).f->(∀q,(lks (lst f k) (f p) d s j).1 q=ZF ↔ q∈L++plc (lks (lst f k) (f p) d s j))/\(∀q∈L++plc (lks (lst f k) (f p) d s j),q<n) /\
   (bS S (aL S m making) t 201 (eL S f L) [] []=bS S (aL S m making) t (201 - j) (eL S f (L++plc (lks (lst f k) (f p) d s j))) (ysD f p j) (dH (f p) j)∨∃x,bS S (aL S m making) t 201 (eL S f L) [] []=.inr (.inr x)):=by
 have hN:(f p).f<=200:=eP u p D;have hH:=dI (dy u).2.2;obtain⟨ZO,-⟩:=mJ (ZP p D).run ZN;intro j;induction j with
 |zero =>
  intro _;have e:L++plc (lks (lst f k) (f p) d s 0)=L:=by simp[lks,plc]
  rw[e];exact⟨hs,hL,.inl rfl⟩
 |succ j ZM =>
  intro hj;obtain⟨B,C,b⟩:=ZM (by omega);obtain⟨t1,ZL,t3⟩:=ZO j (by omega);have hlk:=(eO u D).2.2.2 j (by omega);have ZS:ysD f p (j+1)=ysD f p j++[yOf f p j]:=by unfold ysD;rw[LP,AI];rfl
  have E:dH (f p) (j+1)=dH (f p) j++[lkE ((f p).m j)]:=by unfold dH;rw[LP,AI];rfl
  rw[lks];generalize lks (lst f k) (f p) d s j=X at B C b ⊢;generalize bS S (aL S m making) t 201 (eL S f L) [] []=ZK at b ⊢;rw[show 201 - j=201 - (j+1)+1 by omega,bS,jM K P,t1,ZL,t3,eT (by simp)] at b;by_cases l:((f p).m j).ask=ZF
  ·obtain⟨a1,R,V⟩:=eA u p D j (by omega) l;have H:((f p).m j).has=ZB:=by simp only[dD,l,SV,j5,Bool.not_eq_true'] at hlk;exact hlk.2.1.1.1
   have A:∀q,q=((f p).m j).L.toNat->gY (ci S f q)=yOf f p j:=λq e=>by subst e;unfold yOf;rw[jJ u l (by omega)];rfl
   have ZQ:lkE ((f p).m j)=⟨((f p).m j).e,ZF,ZB⟩:=by unfold lkE;rw[l,H]
   have o:((f p).m j).e=(f ((f p).m j).L.toNat).e:=fa V.symm;rw[eT (by rw[l];simp)] at b;rw[ZS,E,ZQ];generalize W:((f p).m j).L.toNat=q at R o;have A:=A q W.symm;by_cases g:X.1 q=ZF;{rw[eT (by rw[g];simp)];refine⟨B,C,?_⟩;rw[jt] at b;unfold dv at b;rw[o,Fj u C (by omega) ((B q).1 g)] at b;simp only[A] at b;rw[o];exact b}
   ·have g:X.1 q=ZB:=by simpa using g
    rw[hU ⟨l,g⟩];have e:L++plc ((lst f k q (d+1) X.1).1,X.2++(lst f k q (d+1) X.1).2)=(L++plc X)++plc (lst f k q (d+1) X.1):=by unfold plc;rw[AI,KK]
    rw[e];obtain⟨-,c2⟩:=og hH k q (d+1) X.1 (L++plc X) (by omega) (by omega) g B;refine⟨c2,λr y=>?_,?_⟩;{rcases n6.1 y with y|y;{exact C r y};{obtain⟨z,hz,rfl⟩:=LA.1 y;have:=(fG hH k q (d+1) X.1 (by omega) (by omega) g).le z hz;omega}}
    ·rw[o] at b ⊢;rcases ih q m making X.1 (L++plc X) (d+1) (by omega) (by omega) B C g (λz hz r y=>ZJ z hz r (by omega)) with e|⟨x,e⟩
     {rw[e] at b;simp only[A] at b;exact b};{rw[e] at b;rcases b with b|b;{exact .inr ⟨x,b⟩};{exact .inr b}}
  ·have hn:((f p).m j).ask=ZB:=by simpa using l
   have O:=hZ (ZP p D).has (show j<(f p).f by omega);simp only[dT,hn,Bool.not_false,MI,PJ,ON] at O;have M:fX S ((f p).m j).e=((f p).m j).has:=O.symm;rw[eT (λh=>l h.1)];rw[hU hn,M] at b;have A:yOf f p j=⟨((f p).m j).has,0,⟨#[]⟩⟩:=by unfold yOf dV;rw[eT l]
   have ZQ:lkE ((f p).m j)=⟨((f p).m j).e,ZB,((f p).m j).has⟩:=by unfold lkE;rw[hn]
   rw[ZS,E,A,ZQ];exact⟨B,C,b⟩
theorem yH (o:aK f n=ZF)(ZQ:SpcOk S)(C:∀p,p<n->Borne S f p):∀k,Ao S f n k:=by
 intro k;induction k with
 |zero=>intro p m b s L d D;omega
 |succ k ZN =>
  intro p m b s L d D j H hL A E;have h1:atL b (f p).e=Y:=iq λx K=>E x K p ly;have P:=Fi (S:=S) o hL j (λh=>by rw[(H p).2 h] at A;cases A);have l:=eO o j;have e:L++plc (lst f (k+1) p d s)=L++plc (lks (lst f k) (f p) d s (f p).f)++[p]:=by unfold plc;rw[lst,AI,KK];rfl
  have ZO:∀M,eL S f (M++[p])=eL S f M++[ci S f p]:=λM=>AI;rw[jt,e,ZO];unfold dv;rw[P,h1];simp only[fl];have hz:(f p).H≠3->L++plc (lks (lst f k) (f p) d s (f p).f)=L:=λh=>by rw[(l.2.1 h).2.2];simp[lks,plc]
  rcases(C p j).lies o j ZQ with ⟨g,i,hi,ZS⟩|⟨g,hi,u⟩|⟨g,hi,t,u,y,B⟩
  ·obtain⟨c1,c2,c3⟩:=l.2.1 (by omega);have e:ci S f p=⟨(f p).e,1,0,(S.f0 i).B,0,[]⟩:=by unfold ci tgD dH;rw[c3,c1,g,ZS];rfl
   rw[hi,hz (by omega)];simp only[ec];rw[<-e];exact .inl rfl
  ·obtain⟨c1,c2,c3⟩:=l.2.1 (by omega);have e:ci S f p=⟨(f p).e,2,0,⟨#[]⟩,0,[]⟩:=by unfold ci tgD dH;rw[c3,c1,g,l.2.2.1 g];rfl
   rw[hi,u,hz (by omega)];simp only[ec];rw[<-e];exact .inl rfl
  ·rw[hi,u];cases m with
   |zero=>exact .inr ⟨_,rfl⟩
   |succ O =>
    have hN:(f p).f<=200:=eP o p j;obtain⟨-,r1,R,ZP⟩:=mJ (C p j).run g
    obtain⟨-,-,r⟩:=yG o C (d:=d) (m:=O) (making:=b++[(f p).e]) ZN D j g y B H hL (λz hz q hq=>by
     rcases n6.1 hz with hz|hz;{exact E z hz q (by omega)}
     ·rw[j4.1 hz]
      exact λe=>by have:=eB o p q j (by omega) (CD ByteArray.toList e);omega) (f p).f ly
    simp only[Cx];rcases r with r|⟨x,r⟩
    ·rw[r,show 201 - (f p).f=200 - (f p).f+1 by omega,bS,jM y B,hU r1];simp only[gZ,ec];have e:ci S f p=⟨(f p).e,3,(aZ f p (f p).f).E,(aZ f p (f p).f).B,t,dH (f p) (f p).f⟩:=by unfold ci tgD;rw[g,u,R,ZP];rfl
     rw[e];exact .inl rfl
    {rw[r];exact .inr ⟨x,rfl⟩}
theorem CR (j:aK f n=ZF)(g:SpcOk S)(b:∀p,p<n->Borne S f p)(h:p<n):aL S 60 [] [] (f p).e=.inl (eL S f (bC f p),ci S f p)∨∃x,aL S 60 [] [] (f p).e=.inr (.inr x) :=
 yH j g b (p+1) p 60 [] (λ_=>ZB) [] 0 (gM _) h (by simp) (λq i=>absurd i nj) rfl (λz hz=>absurd hz nj)
theorem rG (hH:cG f n)(l:p<n){x:Nat}(i:x∈bC f p)(m:j<(f x).f)(g:((f x).m j).ask=ZF):((f x).m j).L.toNat∈bC f p:=by obtain⟨a,b,e⟩:=List.append_of_mem i;have h:=(kQ (mf hH l) e).2 j m g;rw[e];exact KM _ (by simpa using h)
theorem Ap (hH:cG f n)(b:p<n):∃o,bC f p=o++[p]:=by obtain⟨o,h⟩:=(fG hH (p+1) p 0 (λ_=>ZB) (gM _) b rfl).last;exact⟨o.map (·.1),by unfold bC plc;rw[h,AI];rfl⟩
theorem fm (hi:i<(bC f p).length):dF (bs f p) i=mv f (bC f p) (bC f p)[i]:=by unfold dF bs;rw[CP,HU,gq hi];rfl
theorem GU (hH:cG f n)(l:p<n)(hi:i<(bC f p).length)(m:j<(f (bC f p)[i]).f):yOf (dF (bs f p)) i j=yOf f (bC f p)[i] j:=by
 unfold yOf;rw[fm hi];show dV _ (dG (bC f p) ((f (bC f p)[i]).m j))=_;unfold dG;split
 ·rename_i b;have h:=rG hH l (gz hi) m b;have g:=QC h;have e:dF (bs f p) (List.idxOf ((f (bC f p)[i]).m j).L.toNat (bC f p):Int).toNat=mv f (bC f p) ((f (bC f p)[i]).m j).L.toNat:=by rw[MV,fm g,UE g]
  unfold dV;simp only[b,SV];rw[e];rfl
 {rename_i b;unfold dV;rw[eT b,eT b]}
theorem ut (hH:cG f n){k:Nat}(b:p<n)(hi:i<(bC f p).length)(hk:k<=(f (bC f p)[i]).f):aZ (dF (bs f p)) i k=aZ f (bC f p)[i] k:=by
 have h:aZ (dF (bs f p)) i k=bW (f (bC f p)[i]).u (f (bC f p)[i]).l (yOf (dF (bs f p)) i) k 2001 0 0 0 []:=by unfold aZ;rw[fm hi];rfl
 rw[h];exact j7 _ _ _ _ _ _ _ _ _ _ λj _ hj=>GU hH b hi (by omega)
theorem rH (s:aK f n=ZF)(q:∀p,p<n->Borne S f p)(g:p<n)(hi:i<(bC f p).length):Borne S (dF (bs f p)) i:=by
 have hH:=dI (dy s).2.2;have t:=mX hH g _ (gz hi);have h:=q _ (Nat.lt_of_le_of_lt t g);refine⟨by rw[fm hi];exact h.lie,?_,rF λb=>?_⟩;{rw[fm hi];refine rD λj m=>?_;have:=hZ h.has m;show dT _ _ _ _ (dG _ _)=ZB;unfold dG;split;{exact this};{exact this}}
 ·have e:(dF (bs f p) i).f=(f (bC f p)[i]).f:=by rw[fm hi];rfl
  have b:(f (bC f p)[i]).H=3:=by rw[fm hi] at b;exact b
  obtain⟨r0,r1,y,r⟩:=mJ h.run b;rw[e,ut hH g hi ly ];refine⟨λj m=>?_,r1,by rw[y,fm hi];rfl,by rw[r,fm hi];rfl⟩;rw[ut hH g hi (PD m),fm hi];obtain⟨x,u,z⟩:=r0 j m;have o:∀l:Link,(dG (bC f p) l).e=l.e/\(dG (bC f p) l).ask=l.ask:=λl=>by unfold dG;split<;>exact⟨rfl,rfl⟩
  exact⟨x,u.trans (o _).1.symm,z.trans (o _).2.symm⟩
theorem Gn (m:aK f n=ZF)(hL:∀q∈L,q<n)(h:q∈L):jw (eL S f L) (f q).e=L.idxOf q:=by
 have b:=QC h;have hi:L.idxOf q<(eL S f L).length:=by simp[eL,b]
 unfold jw;rw[List.findIdx_eq hi];refine⟨by simp[eL,ci,UE b],λj l=>?_⟩;have g:j<G L:=by omega
 cases hb:((eL S f L)[j].e.toList == (f q).e.toList) with
 |false=>rfl
 |true =>
  have e:(eL S f L)[j].e=(f L[j]).e:=by simp[eL,ci]
  rw[e] at hb;have h1:=eB m L[j] q (hL _ (gz g)) (hL q h) (by simpa using hb);have:=List.not_of_lt_findIdx (p:=λy=>y == q) (xs:=L) (i:=j) l;simp[h1] at this
theorem uu (m:aK f n=ZF)(B:SpcOk S)(A:∀p,p<n->Borne S f p)(s:p<n)(hi:i<(bC f p).length):DeedEq (dF (aV S (eL S f (bC f p))) i) (dF (bs f p) i):=by
 have hH:=dI (dy m).2.2;have hL:∀q∈bC f p,q<n:=λq ZS=>Nat.lt_of_le_of_lt (mX hH s q ZS) s;have has:=λj=>rG hH s (gz hi) (j:=j);rw[gP (x:=ci S f (bC f p)[i]) (by simp[eL,hi]),fm hi];have o:=hL _ (gz hi);generalize (bC f p)[i]=x at o has;generalize bC f p=L at hL has;have h:(bv S (eL S f L) (ci S f x)).f=(f x).f:=by show(dH (f x) (f x).f).length=_;simp[dH]
 have b:∀j,j<(bv S (eL S f L) (ci S f x)).f->(bv S (eL S f L) (ci S f x)).m j=dG L ((f x).m j):=λj l=>by
  rw[h] at l;have hlk:=(eO m o).2.2.2 j l;have e:(bv S (eL S f L) (ci S f x)).m j=lkD (eL S f L) (lkE ((f x).m j)):=kF (by simp[ci,dH,l]);rw[e];unfold lkD lkE dG;by_cases g:((f x).m j).ask=ZF;{obtain⟨a1,a2,D⟩:=eA m x o j l g;rw[hU g];simp only[g,SV];rw[<-fa D,Gn m hL (has j l g)]};{have C:((f x).m j).L=0:=(by simp only[dD,eT g,j5,nX] at hlk;exact hlk.2);rw[eT g];simp only[eT g];rw[<-C]}
 rcases(A x o).lies m o B with ⟨r,-⟩|⟨r,-⟩|⟨r,-,t,E,u,z⟩
 rotate_right
 ·have y:(ci S f x).tg=t:=by show tgD S (f x)=t;unfold tgD;rw[hU r,E];rfl
  have e:(bv S (eL S f L) (ci S f x)).l=(f x).l:=by show dh S (ci S f x)=_;unfold dh;rw[hU (by exact r),y,u]
  refine⟨rfl,rfl,rfl,rfl,e,λj l=>?_,h,b⟩;show(S.f1 (ci S f x).tg).u j=_;rw[y];exact z j (by omega)
 all_goals
  obtain⟨c1,c2,c3⟩:=(eO m o).2.1 (by omega);have e:(bv S (eL S f L) (ci S f x)).l=0:=by show dh S (ci S f x)=0;unfold dh;rw[eT (by show ¬ (f x).H=3;omega)]
  exact⟨rfl,rfl,rfl,rfl,e.trans c2.symm,λj l=>by omega,h,b⟩
theorem CU (g:aK f n=ZF)(b:p<n):bZ f (f p).e n=(p:Int) :=
 dX b (by simp) λj hj=>by
  have:(f j).e.toList≠(f p).e.toList:=λe=>by have:=eB g j p (by omega) b e;omega
  simp[this]
theorem Gp (g:aK f n=ZF)(m:SpcOk S)(l:∀p,p<n->Borne S f p)(b:p<n):(∃M e,aL S 60 [] [] (f p).e=.inl (M,e)/\(G M)=(cD f n (f p).e).length/\1<=G M/\aK (dF (cD f n (f p).e)) (G M)=ZF/\∀i,i<G M->DeedEq (dF (aV S M) i) (dF (cD f n (f p).e) i)/\Borne S (dF (cD f n (f p).e)) i) ∨
  (cD f n (f p).e=[]/\∃x,aL S 60 [] [] (f p).e=.inr (.inr x)):=by
 have hH:=dI (dy g).2.2;have q:(bs f p).length=(bC f p).length:=by simp[bs]
 have j:(eL S f (bC f p)).length=(bC f p).length:=by simp[eL]
 unfold cD;rw[hU g,CU g b,eT (by omega),MV,q];rcases CR g m l b with e|⟨x,e⟩
 {obtain⟨r,k2⟩:=An m (eO g b).1 e;rw[j] at r;have k:=yF (λi hi=>uu g m l b hi) r;rw[hU k];exact .inl ⟨_,_,e,by rw[j,q],by rw[j];exact(gS hH b).2,by rw[j];exact k,λi hi=>by rw[j] at hi;exact⟨uu g m l b hi,rH g l b hi⟩⟩}
 ·refine .inr ⟨eT λk=>?_,x,e⟩;have h:=yD k m λi hi=>rH g l b hi;have hl:=(gS hH b).2;obtain⟨o,s⟩:=Ap hH b;have t:(dF (bs f p) ((bC f p).length - 1)).e=(f p).e:=by rw[fm (by omega)];show(f (bC f p)[(bC f p).length - 1]).e=_;simp only[s];simp
  rw[t,e] at h;cases h
end
def dx (n0:Nat)(f0:Nat->Source)(n1:Nat)(f1:Nat->Target)(f:Nat->af)(p:Nat):Int:=if gU n0 f0 n1 f1 (f p)=ZF then 2 else if hasB n0 f0 n1 f1 (f p)=ZF then 3 else codeF f p
def eV (c:Nat->Int):Nat->Int × Int
 |0=>(0,0)
 |k+1=>if (eV c k).1=0 then (if c k=0 then (0,0) else (c k,(k:Int))) else eV c k
def fZ (n0:Nat)(f0:Nat->Source)(n1:Nat)(f1:Nat->Target)(f:Nat->af)(n:Nat):Int × Int:=if aK f n=ZF then (if bm n0 f0 n1 f1=0 then eV (dx n0 f0 n1 f1 f) n else (1,0)) else (1,0)
theorem iZ{c:Nat->Int}{k:Nat}(hk:k<n)(f:∀i,i<k->c i=0)(h:c k≠0):eV c n=(c k,(k:Int)):=by
 have hz:∀m,m<=k->eV c m=(0,0):=by
  intro m hm;induction m with
  |zero=>rfl
  |succ m b=>rw[eV,b (by omega),hU rfl,hU (f m (by omega))]
 induction n with
 |zero=>omega
 |succ n b =>
  rw[eV];by_cases e:k=n;{subst e;rw[hz k ly,hU rfl,eT h]};{rw[b (by omega),eT h]}
theorem mN{c:Nat->Int}(b:∀i,i<n->c i=0):eV c n=(0,0):=by
 induction n with
 |zero=>rfl
 |succ m f=>rw[eV,f λi hi=>b i (by omega),hU rfl,hU (b m (by omega))]
theorem CY (n0:Nat)(f0:Nat->Source)(n1:Nat)(f1:Nat->Target)(f:Nat->af)(p:Nat):dx n0 f0 n1 f1 f p=if gU n0 f0 n1 f1 (f p)=ZF then 2 else if hasB n0 f0 n1 f1 (f p)=ZF then 3 else if js f p=ZF then 4 else if oG f p=ZF then 5 else 0:=by unfold dx;rw[Fb]
