import Derived.Test.YtamacmnikdejeaaGreatDoorYX
import Derived.Test.YtamacmnikdejeaaGreatDoorZQ
set_option linter.unusedSimpArgs false
open Option renaming none->Z,some->N
open Bool renaming false->QQ,true->QR
namespace Go.Proofs.YtamacmnikdejeaaGreatDoor.Vp
open RowKit
structure Spc where
 n0:Nat
 f0:Nat->Source
 n1:Nat
 f1:Nat->Target
structure Lk where
 name:ByteArray
 ask:Bool
 has:Bool
structure Ent where
 name:ByteArray
 kind:Int
 code:Int
 text:ByteArray
 tg:Nat
 looks:List Lk
abbrev Out (b:Type):=(List Ent × b) ⊕ List ByteArray ⊕ ByteArray
def oM:aI:=⟨QQ,0,⟨#[]⟩⟩
def yL (b:List aI):Nat->aI:=fun k=>b.getD k oM
def i8 (e:Ent):aI:=⟨decide (¬ e.kind=2),e.code,e.text⟩
def gX (S:Spc)(t:ByteArray):Bool:=bF (nm0 S.f0) S.n0 t || bF (nm1 S.f1) S.n1 t
def atI (g:Nat->ByteArray)(n:Nat)(t:ByteArray):Option Nat:=(List.range n).find? fun i=>(g i).toList == t.toList
def atL (L:List ByteArray)(t:ByteArray):Option Nat:=L.findIdx? fun x=>x.toList == t.toList
def bj (b:List Ent)(t:ByteArray):Option Ent:=b.find? fun e=>e.name.toList == t.toList
def bK (S:Spc)(t:Nat)(b:List aI):Turn:=cV (S.f1 t).act (S.f1 t).actN (yL b) b.length 2001 0 0 0 []
def ct (S:Spc)(lies:List Ent->ByteArray->Out Ent)(t:Nat):Nat->List Ent->List aI->List Lk->Out (Turn × List Lk)
 | 0,_,_,_=>.inr (.inr ⟨#[]⟩)
 | k+1,made,ys,ls =>
  if (bK S t ys).over=QR then .inl (made,(bK S t ys,ls))
  else if (bK S t ys).ask=QQ then ct S lies t k made (ys++[⟨gX S (bK S t ys).name,0,⟨#[]⟩⟩]) (ls++[⟨(bK S t ys).name,QQ,gX S (bK S t ys).name⟩])
  else match lies made (bK S t ys).name with
   | .inl (made',e)=>ct S lies t k made' (ys++[i8 e]) (ls++[⟨(bK S t ys).name,QR,QQ⟩])
   | .inr (.inl c)=>.inr (.inl c)
   | .inr (.inr d)=>.inr (.inr d)
def eQ (b:List Ent)(e:Ent):Out Ent:=.inl ((b++[e]),e)
def i9 (nm:ByteArray)(t:Nat):Out (Turn × List Lk)->Out Ent
 | .inl (made,x)=>eQ made ⟨nm,3,x.1.code,x.1.text,t,x.2⟩
 | .inr (.inl c)=>.inr (.inl c)
 | .inr (.inr d)=>.inr (.inr d)
def fa (S:Spc)(tgt:Nat->Out Ent)(b:List Ent)(nm:ByteArray):Out Ent :=
 match atI (nm0 S.f0) S.n0 nm with
 | some i=>eQ b ⟨nm,1,0,(S.f0 i).text,0,[]⟩
 | none=>match atI (nm1 S.f1) S.n1 nm with
  | some t=>tgt t
  | none=>eQ b ⟨nm,2,0,⟨#[]⟩,0,[]⟩
def dO (S:Spc)(tgt:Nat->Out Ent)(b:List ByteArray)(c:List Ent)(nm:ByteArray):Out Ent :=
 match bj c nm with
 | some e=>.inl (c,e)
 | none=>match atL b nm with
  | some i=>.inr (.inl (b.drop i))
  | none=>fa S tgt c nm
def aX (S:Spc):Nat->List ByteArray->List Ent->ByteArray->Out Ent
 | 0,making,made,nm=>dO S (fun _=>.inr (.inr nm)) making made nm
 | n+1,making,made,nm=>dO S (fun t=>i9 nm t (ct S (aX S n (making++[nm])) t 201 made [] [])) making made nm
def Cz (S:Spc)(n:Nat)(b:List ByteArray)(c:List Ent)(nm:ByteArray)(t:Nat):Out Ent :=
 match n with
 | 0=>.inr (.inr nm)
 | n+1=>i9 nm t (ct S (aX S n (b++[nm])) t 201 c [] [])
theorem lN (S:Spc)(n:Nat)(b:List ByteArray)(c:List Ent)(nm:ByteArray):aX S n b c nm=dO S (Cz S n b c nm) b c nm:=by
 cases n with
 | zero=>rw[aX];rfl
 | succ n=>rw[aX];rfl
structure jH where
 code:Int
 text:ByteArray
 chain:List ByteArray
def dK (e:Ent):jH:=if e.kind=2 then ⟨4,e.name,[]⟩ else ⟨e.code,e.text,[]⟩
def aG (S:Spc)(nm:ByteArray):List Ent × jH :=
 if bw S.n0 S.f0 S.n1 S.f1=0/\av nm=QR then
  (match aX S 60 [] [] nm with
   | .inl (made,e)=>(made,dK e)
   | .inr (.inl c)=>([],⟨6,⟨#[]⟩,c⟩)
   | .inr (.inr d)=>([],⟨7,d,[]⟩))
 else ([],⟨9,⟨#[]⟩,[]⟩)
theorem Gs (b:List aI)(r:aI):yL (b++[r]) b.length=r:=by simp[yL]
theorem FV (b:List aI)(r:aI){k:Nat}(h:k<b.length):yL (b++[r]) k=yL b k:=by simp[yL,IH h]
theorem kH (f:Nat->Ins)(cnt:Nat)(y z:Nat->aI)(n:Nat)(k:Nat):∀ place steps looks b,(∀ i,looks<=i->i<n->y i=z i)->cV f cnt y n k place steps looks b=cV f cnt z n k place steps looks b:=by
 induction k with
 | zero=>intro _ _ _ _ _;rfl
 | succ k g =>
  intro place steps looks b h;rw[cV,cV];rcases cP f cnt place steps looks b with ⟨s,p⟩ | ⟨c,x⟩ | ⟨a,nm,s⟩
  ·exact g _ _ _ _ h
  ·rfl
  ·simp only
   by_cases hn:n<=looks
   ·rw[gA hn,gA hn]
   ·rw[eI hn,eI hn,h looks ly (by omega),g _ _ _ _ fun i hi=>h i (by omega),g _ _ _ _ fun i hi=>h i (by omega)]
theorem pN (u:Nat):(Lib.decDigits u).length<=u+1:=by
 induction u using Nat.strongRecOn with
 | ind u b =>
  rw[Lib.decDigits];split
  ·simp
  ·have:=b (u / 10) (by omega)
   simp only[a8,z8,IS];omega
theorem j8 {p:Nat}(h:p<=2000):(eX p).size<=2000:=by
 show(Lib.decDigits p).length<=2000;rw[Lib.decDigits];split
 ·simp
 ·have:=pN (p / 10)
  simp only[a8,z8,IS];omega
def nH (c:Int)(x:ByteArray):Prop:=0<=c/\c<=5/\x.size<=2000
theorem ye {ask:Bool}{a:ByteArray}{r:List ByteArray}{here looks:Nat}{c:Int}{x:ByteArray}(h:jZ ask a r here looks=.inr (.inl (c,x)))(b:here<=2000):nH c x:=by
 unfold jZ at h;split at h
 ·cases h;exact⟨by omega,by omega,j8 b⟩
 ·split at h
  ·cases h;exact⟨by omega,by omega,by decide⟩
  ·cases h
theorem sB {op n:Nat}{t:ByteArray}{here looks:Nat}{b:List ByteArray}{c:Int}{x:ByteArray}(h:dJ op n t here looks b=.inr (.inl (c,x)))(g:∀ z∈b,z.size<=2000)(f:here<=2000):nH c x:=by
  unfold dJ at h;split at h;all_goals first
    | (cases h;done)
    | exact ye h f
    | (split at h
       · cases h
       · cases h;exact⟨by omega,by omega,j8 f⟩)
    | (cases h;exact⟨by omega,by omega,g _ (by simp)⟩)
    | (cases h;exact⟨by omega,by omega,by decide⟩)
theorem yg {f:Nat->Ins}{cnt place steps looks:Nat}{b:List ByteArray}{c:Int}{x:ByteArray}(h:cP f cnt place steps looks b=.inr (.inl (c,x)))(i:∀ z∈b,z.size<=2000)(g:place<=2000):nH c x:=by
 unfold cP at h;split at h
 ·cases h;exact⟨by omega,by omega,j8 g⟩
 ·split at h
  ·cases h;exact⟨by omega,by omega,by decide⟩
  ·split at h
   ·cases h;exact⟨by omega,by omega,j8 g⟩
   ·exact sB h i g
theorem vC {f:Nat->Ins}{cnt place steps looks:Nat}{b:List ByteArray}(h1:b.length<=50)(h2:∀ z∈b,z.size<=2000)(g:looks<=200)(c:dT f cnt=QR)(hc:cnt<=200):tN (cP f cnt place steps looks b) looks:=by
 unfold cP;split
 ·trivial
 ·rename_i h1
  split
  ·trivial
  ·split
   ·trivial
   ·rename_i g
    have hi:=nA c (show place<cnt by omega);simp only[cK,kP] at hi;obtain⟨i1,i2,i3,i4,i5⟩:=hi;have hmt:fg (f place).op<=2000:=by unfold fg;split<;>(try split)<;>omega
    have hmt2:bW (f place).op<=2000:=by unfold bW;split<;>omega
    exact mE _ _ _ _ _ _ (by assumption) h2 (by omega) (by omega) (by omega) (by assumption) (by omega) (by omega) (by simpa using g)
def zT (n:Nat)(Q2:Turn):Prop:=(Q2.over=QR/\nH Q2.code Q2.text)∨(Q2.over=QQ/\n<200/\av Q2.name=QR)
theorem tW {f:Nat->Ins}{cnt place steps looks:Nat}{b s:List ByteArray}{a:Bool}{nm:ByteArray}(h:cP f cnt place steps looks b=.inr (.inr (a,nm,s))):place<cnt:=by
 unfold cP at h;split at h
 ·cases h
 ·omega
theorem zU {nm:ByteArray}(h:av nm=QR):nm.size<=60:=by simp only[av,gB,kP] at h;omega
theorem CE (f:Nat->Ins)(cnt:Nat)(y:Nat->aI)(n:Nat)(q:dT f cnt=QR)(C:cnt<=200)(u:∀ i,i<n->(y i).text.size<=2000)(k:Nat):∀ place steps looks b,b.length<=50->(∀ z∈b,z.size<=2000)->place<=2000->steps<=2000->looks<=200->looks<=n->k+steps=2001->zT n (cV f cnt y n k place steps looks b):=by
 induction k with
 | zero=>intro _ _ _ _ _ _ _ _ _ _ h;omega
 | succ k m =>
  intro place steps looks b h1 h2 D h4 r A h7;have j:=vC (f:=f) (cnt:=cnt) (place:=place) (steps:=steps) h1 h2 r q C;rw[cV];rcases hs:cP f cnt place steps looks b with ⟨s,p⟩ | ⟨c,x⟩ | ⟨a,nm,s⟩
  ·rw[hs] at j
   obtain⟨t,g,l⟩:=j;obtain⟨o,B⟩:=tO hs;simp only;rw[o];exact m _ _ _ _ t g l (by omega) r A (by omega)
  ·exact .inl ⟨rfl,yg hs h2 D⟩
  ·rw[hs] at j
   obtain⟨t,g,l,g4⟩:=j;obtain⟨o,B⟩:=pI hs;have hp:=tW hs;have hz:=zU l;simp only;rw[o];split
   ·exact .inr ⟨rfl,by omega,l⟩
   ·split
    ·refine m _ _ _ _ (by simp;omega) (fun z hz=>?_) (by omega) (by omega) (by omega) (by omega) (by omega)
     rcases nD.1 hz with rfl | hz
     ·exact lL _
     ·exact g z hz
    ·split
     ·exact .inl ⟨rfl,by simp[iv],by simp[iv],by simp only[iv];omega⟩
     ·split
      ·refine m _ _ _ _ (by simp;omega) (fun z hz=>?_) (by omega) (by omega) (by omega) (by omega) (by omega)
       rcases nD.1 hz with rfl | hz
       ·exact u _ (by omega)
       ·exact g z hz
      ·exact .inl ⟨rfl,by simp[iv],by simp[iv],by simp only[iv];omega⟩
def jk (S:Spc)(b:List ByteArray)(c:List Ent):Nat->Bool:=fun t=>(bj c (S.f1 t).name).isNone && (atL b (S.f1 t).name).isNone
def eo (S:Spc)(b:List ByteArray)(c:List Ent):Nat:=(List.range S.n1).countP (jk S b c)
theorem iO (b:List Ent)(e:Ent)(t:ByteArray):bj (b++[e]) t=(bj b t).or (if (e.name.toList == t.toList)=QR then N e else Z):=by unfold bj;rw[List.find?_append];cases h:(e.name.toList == t.toList)<;>simp[h]
theorem qB (L:List ByteArray)(x t:ByteArray):(atL (L++[x]) t).isNone=((atL L t).isNone && !(x.toList == t.toList)):=by unfold atL;rw[List.findIdx?_append];cases h:(x.toList == t.toList)<;>cases h2:List.findIdx? (fun x=>x.toList == t.toList) L<;>simp[h,List.findIdx?_cons]
theorem j9 (S:Spc)(b:List ByteArray)(c:List Ent)(e:Ent):eo S b (c++[e])<=eo S b c:=by
 refine NJ fun t _ h=>?_;simp only[jk,gB,iO] at h ⊢;refine⟨?_,h.2⟩;cases h2:bj c (S.f1 t).name with
 | none=>rfl
 | some x=>rw[h2] at h;simp at h
theorem rC (S:Spc)(b:List ByteArray)(c:List Ent)(e:Ent):eo S b (c++[e])<=eo S (b++[e.name]) c:=by
 refine NJ fun t _ h=>?_;simp only[jk,gB,iO,qB] at h ⊢;cases h2:bj c (S.f1 t).name with
 | some x=>rw[h2] at h;simp at h
 | none =>
  rw[h2] at h;refine⟨rfl,h.2,?_⟩;cases h3:(e.name.toList == (S.f1 t).name.toList) with
  | false=>rfl
  | true=>rw[h3] at h;simp at h
theorem rD {p q:Nat->Bool}{l:List Nat}(h:∀ x∈l,p x=QR->q x=QR){a:Nat}(b:a∈l)(h1:p a=QQ)(h2:q a=QR):l.countP p+1<=l.countP q:=by
 induction l with
 | nil=>cases b
 | cons x l c =>
  have hm:l.countP p<=l.countP q:=NJ fun z hz=>h z (mz _ hz);rw[List.countP_cons,List.countP_cons];rcases nD.1 b with rfl | b
  ·rw[h1,h2];simp;omega
  ·have:=c (fun z hz=>h z (mz _ hz)) b
   cases hp:p x with
   | false=>simp;split<;>omega
   | true=>rw[h x NB hp];simp;omega
theorem iI {S:Spc}{making:List ByteArray}{made:List Ent}{nm:ByteArray}{t:Nat}(b:t<S.n1)(hn:(S.f1 t).name=nm)(h1:bj made nm=Z)(h2:atL making nm=Z):eo S (making++[nm]) made+1<=eo S making made:=by
 refine rD (fun x _ h=>?_) (H7.2 b) ?_ ?_
 ·simp only[jk,gB,qB] at h ⊢
  exact⟨h.1,h.2.1⟩
 ·simp[jk,qB,hn]
 ·simp[jk,hn,h1,h2]
theorem bN {g:Nat->ByteArray}{n:Nat}{t:ByteArray}{i:Nat}(h:atI g n t=N i):i<n/\g i=t:=by unfold atI at h;have h1:=List.find?_some h;have h2:=List.mem_of_find?_eq_some h;exact⟨H7.1 h2,bytes_beq h1⟩
def gC (S:Spc)(b:List ByteArray)(f c:List Ent)(k:Nat):Prop:=c.length+201*eo S b c<=f.length+201*eo S b f+k
theorem rE {S:Spc}{lies:List Ent->ByteArray->Out Ent}{making:List ByteArray}{t:Nat}(l:∀ c nm b e,lies c nm=.inl (b,e)->gC S making c b 1):∀ k c g f b x,ct S lies t k c g f=.inl (b,x)->gC S making c b (k - 1):=by
 intro k;induction k with
 | zero=>intro c g f b x h;cases h
 | succ k i =>
  intro c g f b x h;rw[ct] at h;split at h
  ·cases h;unfold gC;omega
  ·cases k with
   | zero =>
    split at h
    ·cases h
    ·split at h<;>cases h
   | succ k =>
    split at h
    ·have:=i _ _ _ _ _ h
     unfold gC at this ⊢;omega
    ·split at h
     ·rename_i made1 e j
      have h1:=l _ _ _ _ j;have h2:=i _ _ _ _ _ h;unfold gC at h1 h2 ⊢;omega
     ·cases h
     ·cases h
theorem lO (S:Spc):∀ n b g nm f e,aX S n b g nm=.inl (f,e)->gC S b g f 1:=by
 intro n;have m:∀ b g nm f e (tgt:Nat->Out Ent),(∀ t f e,atI (nm1 S.f1) S.n1 nm=N t->bj g nm=Z->atL b nm=Z->tgt t=.inl (f,e)->gC S b g f 1)->dO S tgt b g nm=.inl (f,e)->gC S b g f 1:=by
  intro b g nm f e tgt p h;unfold dO at h;split at h
  ·cases h;unfold gC;omega
  ·rename_i o
   split at h
   ·cases h
   ·rename_i h1
    unfold fa eQ at h;split at h
    ·rename_i i hi
     cases h
     have:=j9 S b g ⟨nm,1,0,(S.f0 i).text,0,[]⟩;unfold gC;rw[a8,p9];omega
    ·split at h
     ·rename_i t l
      exact p _ _ _ l o h1 h
     ·cases h
      have:=j9 S b g ⟨nm,2,0,⟨#[]⟩,0,[]⟩;unfold gC;rw[a8,p9];omega
 induction n with
 | zero =>intro b g nm f e h;rw[aX] at h;exact m _ _ _ _ _ _ (fun t _ _ _ _ _ h=>by cases h) h
 | succ n r =>
  intro b g nm f e h;rw[aX] at h;refine m _ _ _ _ _ _ (fun t f e l o h1 h=>?_) h;rcases hr:ct S (aX S n (b++[nm])) t 201 g [] [] with ⟨j,x⟩ | c | c
  ·rw[hr] at h
   simp only[i9,eQ,NH,IT] at h;obtain⟨rfl,rfl⟩:=h;have s:=rE (making:=b++[nm]) (fun g nm2 f e q=>r _ _ _ _ _ q) _ _ _ _ _ _ hr;have g2:=iI (making:=b) (made:=g) (bN l).1 (bN l).2 o h1;have g3:eo S b (j++[⟨nm,3,x.1.code,x.1.text,t,x.2⟩])<=eo S (b++[nm]) j:=rC S b j ⟨nm,3,x.1.code,x.1.text,t,x.2⟩;unfold gC at s ⊢;rw[a8,p9];omega
  ·rw[hr] at h;cases h
  ·rw[hr] at h;cases h
structure SpcOk (S:Spc):Prop where
 chk:bw S.n0 S.f0 S.n1 S.f1=0
 asc0:bQ (nm0 S.f0) S.n0=QR
 asc1:bQ (nm1 S.f1) S.n1=QR
 small:S.n0+S.n1<=200
 text:∀ i,i<S.n0->(S.f0 i).text.size<=2000
 act:∀ t,t<S.n1->valid (S.f1 t).act (S.f1 t).actN=QR
theorem iz {p:Nat->Bool}{n i:Nat}(h:bT p n=QQ)(hi:i<n):p i=QQ:=by
 induction n with
 | zero=>omega
 | succ n b =>
  rw[bT,PT] at h;by_cases e:i=n
  ·subst e;exact h.2
  ·exact b h.1 (by omega)
theorem SpcOk.of {S:Spc}(h:bw S.n0 S.f0 S.n1 S.f1=0):SpcOk S:=by
 obtain⟨h1,h2,g⟩:=yY h;have j:=h;unfold bw at h;split at h;· omega
 split at h;· omega
 split at h;· omega
 split at h;· omega
 split at h;· omega
 split at h;· omega
 split at h;· omega
 split at h;· omega
 rename_i c f;refine⟨j,h1,h2,g,fun i hi=>?_,fun t b=>?_⟩
 ·have:=iz (Bool.eq_false_iff.2 c) hi
  simp only[jT,JX] at this;omega
 ·have:=iz (Bool.eq_false_iff.2 f) b
  simpa[dE] using this
structure EG (S:Spc)(x:Ent):Prop where
 nm:av x.name=QR
 tx:x.text.size<=2000
 code:0<=x.code/\x.code<=5
 kind:(x.kind=1/\x.code=0/\x.looks=[]/\∃ i,atI (nm0 S.f0) S.n0 x.name=N i/\x.text=(S.f0 i).text)∨(x.kind=2/\x.code=0/\x.text=⟨#[]⟩/\x.looks=[]/\atI (nm0 S.f0) S.n0 x.name=Z/\atI (nm1 S.f1) S.n1 x.name=Z)∨(x.kind=3/\atI (nm0 S.f0) S.n0 x.name=Z/\atI (nm1 S.f1) S.n1 x.name=N x.tg)
 looks:x.looks.length<=200
 lname:∀ l∈x.looks,av l.name=QR
structure PG (S:Spc)(making:List ByteArray)(made:List Ent):Prop where
 ents:∀ x∈made,EG S x
 nod:made.Pairwise fun x y=>x.name≠y.name
 off:∀ x∈made,atL making x.name=Z
 ord:∀ (i:Nat) (x:Ent),made[i]?=N x->∀ l∈x.looks,l.ask=QR->∃ (j:Nat) (y:Ent),j<i/\made[j]?=N y/\y.name=l.name
theorem iP (S:Spc)(b:List ByteArray):PG S b []:=⟨fun x h=>absurd h nj,List.Pairwise.nil,fun x h=>absurd h nj,fun i x h=>by simp at h⟩
theorem fR {b:List Ent}{nm:ByteArray}(h:bj b nm=Z):∀ x∈b,x.name≠nm:=by intro x c e;have:=ND.1 h x c;rw[e] at this;simp at this
theorem gY {b:List Ent}{nm:ByteArray}{e:Ent}(h:bj b nm=N e):e∈b/\e.name=nm:=⟨List.mem_of_find?_eq_some h,bytes_beq (List.find?_some (p:=fun e:Ent=>e.name.toList == nm.toList) h)⟩
theorem jI {L:List ByteArray}{nm:ByteArray}(h:atL L nm=Z):∀ x∈L,x≠nm:=by intro x b e;have:=LI.1 h x b;rw[e] at this;simp at this
theorem kI {L:List ByteArray}{nm:ByteArray}(h:∀ x∈L,x≠nm):atL L nm=Z :=
 LI.2 fun x b=>by
  cases e:(x.toList == nm.toList) with
  | false=>rfl
  | true=>exact absurd (bytes_beq e) (h x b)
theorem PG.add {S:Spc}{g:List ByteArray}{c:List Ent}{e:Ent}(h:PG S g c)(s:EG S e)(u:∀ x∈c,x.name≠e.name)(h1:atL g e.name=Z)(t:∀ l∈e.looks,l.ask=QR->∃ x∈c,x.name=l.name):PG S g (c++[e]):=by
 refine⟨fun x f=>?_,?_,fun x f=>?_,fun i x hi l p n=>?_⟩
 ·rcases hU.1 f with f | f
  ·exact h.ents x f
  ·rw[eT.1 f];exact s
 ·rw[KT]
  exact⟨h.nod,List.pairwise_singleton _ _,fun a n b hb=>by rw[eT.1 hb];exact u a n⟩
 ·rcases hU.1 f with f | f
  ·exact h.off x f
  ·rw[eT.1 f];exact h1
 ·rcases KP i c.length with r | q
  ·rw[IH r] at hi
   obtain⟨j,y,o,m,hn⟩:=h.ord i x hi l p n;exact⟨j,y,o,by rw[IH (by omega)];exact m,hn⟩
  ·rw[p8 q] at hi
   have z:x=e:=by
    cases hk:i - c.length with
    | zero=>rw[hk] at hi;simpa using hi.symm
    | succ k=>rw[hk] at hi;simp at hi
   subst z;obtain⟨y,m,hn⟩:=t l p n;obtain⟨j,o,m⟩:=MU m;exact⟨j,y,by omega,by rw[IH o,gq o,m],hn⟩
structure RG (S:Spc)(made:List Ent)(ys:List aI)(ls:List Lk):Prop where
 good:∀ y∈ys,dh y=QR
 len:ls.length=ys.length
 names:∀ l∈ls,av l.name=QR
 asked:∀ l∈ls,l.ask=QR->∃ x∈made,x.name=l.name
theorem jJ (S:Spc)(b:List Ent):RG S b [] []:=⟨fun _ h=>absurd h nj,rfl,fun _ h=>absurd h nj,fun _ h=>absurd h nj⟩
theorem RG.mono {S:Spc}{c b:List Ent}{f:List aI}{g:List Lk}(h:RG S c f g)(j:∀ x∈c,x∈b):RG S b f g:=⟨h.good,h.len,h.names,fun l m i=>let ⟨x,hx,e⟩:=h.asked l m i;⟨x,j x hx,e⟩⟩
theorem RG.add {S:Spc}{b:List Ent}{c:List aI}{f:List Lk}{y:aI}{l:Lk}(h:RG S b c f)(i:dh y=QR)(hn:av l.name=QR)(g:l.ask=QR->∃ x∈b,x.name=l.name):RG S b (c++[y]) (f++[l]):=by
 refine⟨fun z hz=>?_,by simp[h.len],fun z hz=>?_,fun z hz=>?_⟩
 ·rcases hU.1 hz with hz | hz
  ·exact h.good z hz
  ·rw[eT.1 hz];exact i
 ·rcases hU.1 hz with hz | hz
  ·exact h.names z hz
  ·rw[eT.1 hz];exact hn
 ·rcases hU.1 hz with hz | hz
  ·exact h.asked z hz
  ·rw[eT.1 hz];exact g
theorem Ef {c:List aI}(h:∀ y∈c,dh y=QR)(k:Nat):dh (yL c k)=QR:=by
 unfold yL;rcases KP k c.length with b | b
 ·rw[BO,gq b]
  exact h _ (gj b)
 ·rw[BO,J2 b]
  rfl
theorem lP {S:Spc}(g:SpcOk S){t:Nat}(f:t<S.n1){b:List aI}(c:∀ y∈b,dh y=QR):zT b.length (bK S t b):=by obtain⟨h1,h2,h3⟩:=cJ (g.act t f);refine CE _ _ _ _ h1 (by omega) (fun i _=>?_) 2001 0 0 0 [] (by simp) (by simp) (by omega) (by omega) (by omega) (by omega) (by omega);have:=Ef c i;simp only[dh,kP] at this;exact this.1
theorem nI (S:Spc)(t:ByteArray):dh ⟨gX S t,0,⟨#[]⟩⟩=QR:=by simp only[dh,kP];exact⟨by decide,by decide,by decide⟩
theorem nJ {S:Spc}{x:Ent}(h:EG S x):dh (i8 x)=QR:=by have h1:=h.tx;have h2:=h.code;exact QJ ⟨h1,h2.1,Int.le_trans h2.2 (by decide)⟩
def lQ (S:Spc)(c:List ByteArray)(lies:List Ent->ByteArray->Out Ent):Prop:=∀ f nm b e,PG S c f->av nm=QR->lies f nm=.inl (b,e)->PG S c b/\(∃ more,b=f++more)/\e∈b/\e.name=nm
theorem iQ {S:Spc}(F:SpcOk S){lies:List Ent->ByteArray->Out Ent}{f:List ByteArray}{t:Nat}(ZB:t<S.n1)(ZA:lQ S f lies):∀ k c g j b x,PG S f c->RG S c g j->g.length+k=201->ct S lies t k c g j=.inl (b,x)->PG S f b/\(∃ more,b=c++more)/\nH x.1.code x.1.text/\x.2.length<=200/\(∀ l∈x.2,av l.name=QR)/\∀ l∈x.2,l.ask=QR->∃ y∈b,y.name=l.name:=by
 intro k;induction k with
 | zero=>intro c g j b x _ _ _ h;cases h
 | succ k q =>
  intro c g j b x p i hk h;have G:=lP F ZB i.good;rw[ct] at h;rcases G with ⟨o,n⟩ | ⟨o,hlt,hn⟩
  ·rw[gA o] at h
   cases h
   exact⟨p,⟨[],by simp⟩,n,by rw[i.len];omega,i.names,i.asked⟩
  ·rw[eI (by rw[o];simp)] at h
   split at h
   ·exact q _ _ _ _ _ p (i.add (nI _ _) hn (fun h=>by cases h)) (by simp;omega) h
   ·split at h
    ·rename_i m e n
     obtain⟨z,⟨more,r⟩,u,B⟩:=ZA _ _ _ _ p hn n;have s:RG S m g j:=i.mono fun x D=>by rw[r];exact JK _ D
     obtain⟨E,⟨more2,A⟩,C⟩:=q _ _ _ _ _ z (s.add (l:=⟨(bK S t g).name,QR,QQ⟩) (nJ (z.ents e u)) hn (fun _=>⟨e,u,B⟩)) (by simp;omega) h;exact⟨E,⟨more++more2,by rw[A,r,JM]⟩,C⟩
    ·cases h
    ·cases h
theorem kV {S:Spc}{b:List ByteArray}{c:List Ent}{nm:ByteArray}(h:PG S b c)(g:bj c nm=Z):PG S (b++[nm]) c :=
 ⟨h.ents,h.nod,fun x f=>kI fun z hz=>by
  rcases hU.1 hz with hz | hz
  ·exact jI (h.off x f) z hz
  ·rw[eT.1 hz];exact fun e=>fR g x f e.symm,h.ord⟩
theorem nK {S:Spc}{b:List ByteArray}{c:List Ent}{nm:ByteArray}(h:PG S (b++[nm]) c):PG S b c/\∀ x∈c,x.name≠nm :=
 ⟨⟨h.ents,h.nod,fun x f=>kI fun z hz=>jI (h.off x f) z (JK _ hz),h.ord⟩,fun x f e=>jI (h.off x f) nm (J4 _ (eT.2 rfl)) e.symm⟩
theorem CF {S:Spc}{b:List ByteArray}{c:List Ent}{nm:ByteArray}{t:Nat}{x:Turn × List Lk}(h:PG S (b++[nm]) c)(hn:av nm=QR)(h1:atL b nm=Z)(h2:atI (nm0 S.f0) S.n0 nm=Z)(j:atI (nm1 S.f1) S.n1 nm=N t)(f:nH x.1.code x.1.text)(m:x.2.length<=200)(g:∀ l∈x.2,av l.name=QR)(i:∀ l∈x.2,l.ask=QR->∃ y∈c,y.name=l.name):PG S b (c++[⟨nm,3,x.1.code,x.1.text,t,x.2⟩]) :=
 (nK h).1.add ⟨hn,f.2.2,⟨f.1,f.2.1⟩,.inr (.inr ⟨rfl,h2,j⟩),m,g⟩ (nK h).2 h1 i
theorem CG {S:Spc}(j:SpcOk S){b:List ByteArray}{c:List Ent}{nm:ByteArray}{i:Nat}(h:PG S b c)(hn:av nm=QR)(g:bj c nm=Z)(h1:atL b nm=Z)(h2:atI (nm0 S.f0) S.n0 nm=N i):PG S b (c++[⟨nm,1,0,(S.f0 i).text,0,[]⟩]) :=
 h.add ⟨hn,j.text i (bN h2).1,⟨Int.le_refl _,by show(0:Int)<=5;decide⟩,.inl ⟨rfl,rfl,rfl,i,h2,rfl⟩,AI _,fun l f=>absurd f nj⟩ (fR g) h1 fun l f=>absurd f nj
theorem zV {S:Spc}{b:List ByteArray}{c:List Ent}{nm:ByteArray}(h:PG S b c)(hn:av nm=QR)(i:bj c nm=Z)(h1:atL b nm=Z)(h2:atI (nm0 S.f0) S.n0 nm=Z)(g:atI (nm1 S.f1) S.n1 nm=Z):PG S b (c++[⟨nm,2,0,⟨#[]⟩,0,[]⟩]) :=
 h.add ⟨hn,AI _,⟨Int.le_refl _,by show(0:Int)<=5;decide⟩,.inr (.inl ⟨rfl,rfl,rfl,rfl,h2,g⟩),AI _,fun l f=>absurd f nj⟩ (fR i) h1 fun l f=>absurd f nj
theorem eN {S:Spc}(p:SpcOk S):∀ n b,lQ S b (aX S n b):=by
 intro n;have o:∀ b g nm f e (tgt:Nat->Out Ent),PG S b g->av nm=QR->(∀ t f e,atI (nm0 S.f0) S.n0 nm=Z->atI (nm1 S.f1) S.n1 nm=N t->bj g nm=Z->atL b nm=Z->tgt t=.inl (f,e)->PG S b f/\(∃ more,f=g++more)/\e∈f/\e.name=nm)->dO S tgt b g nm=.inl (f,e)->PG S b f/\(∃ more,f=g++more)/\e∈f/\e.name=nm:=by
  intro b g nm f e tgt j hn y h;unfold dO at h;split at h
  ·rename_i e1 q
   cases h
   exact⟨j,⟨[],by simp⟩,gY q⟩
  ·rename_i m
   split at h
   ·cases h
   ·rename_i h1
    unfold fa eQ at h;split at h
    ·rename_i i hi
     cases h
     exact⟨CG p j hn m h1 hi,⟨_,rfl⟩,by simp,rfl⟩
    ·rename_i h2
     split at h
     ·rename_i t l
      exact y _ _ _ h2 l m h1 h
     ·rename_i l
      cases h
      exact⟨zV j hn m h1 h2 l,⟨_,rfl⟩,by simp,rfl⟩
 induction n with
 | zero =>intro b g nm f e j hn h;rw[aX] at h;exact o _ _ _ _ _ _ j hn (fun t _ _ _ _ _ _ h=>by cases h) h
 | succ n z =>
  intro b g nm f e j hn h;rw[aX] at h;refine o _ _ _ _ _ _ j hn (fun t f e h2 l m h1 h=>?_) h;rcases hr:ct S (aX S n (b++[nm])) t 201 g [] [] with ⟨made1,x⟩ | c | c
  ·rw[hr] at h
   simp only[i9,eQ,NH,IT] at h;obtain⟨rfl,rfl⟩:=h;obtain⟨C,⟨more,r⟩,B,A,s,u⟩:=iQ p (bN l).1 (z (b++[nm])) _ _ _ _ _ _ (kV j m) (jJ S g) rfl hr;exact⟨CF C hn h1 h2 l B A s u,⟨more++[_],by rw[r,JM]⟩,by simp,rfl⟩
  ·rw[hr] at h;cases h
  ·rw[hr] at h;cases h
def jK (b:List Ent)(nm:ByteArray):Nat:=b.findIdx fun e=>e.name.toList == nm.toList
def lkD (b:List Ent)(l:Lk):Link:=⟨l.name,l.ask,l.has,if l.ask=QR then ((jK b l.name:Nat):Int) else 0⟩
def lkF (b:List Ent)(c:List Lk):Nat->Link:=fun i=>lkD b (c.getD i ⟨⟨#[]⟩,QQ,QQ⟩)
def cT (S:Spc)(e:Ent):Nat:=if e.kind=3 then (S.f1 e.tg).actN else 0
def bk (S:Spc)(b:List Ent)(e:Ent):aj:=⟨e.name,e.kind,e.code,e.text,cT S e,(S.f1 e.tg).act,e.looks.length,lkF b e.looks⟩
def aM (S:Spc)(b:List Ent):List aj:=b.map (bk S b)
theorem kW {b:List Ent}{c:List Lk}{i:Nat}{l:Lk}(h:c[i]?=N l):lkF b c i=lkD b l:=by unfold lkF;rw[BO,h];rfl
theorem pO (S:Spc)(nm:ByteArray):PG S [] (aG S nm).1/\(aG S nm).1.length<=40201/\((aG S nm).1≠[]->SpcOk S):=by
 unfold aG;split
 ·rename_i h
  have c:=SpcOk.of h.1;split
  ·rename_i b e f
   have g:=lO S 60 [] [] nm b e f;unfold gC at g;have hl:eo S [] []<=S.n1:=by unfold eo;have:=NK (p:=jk S [] []) (l:=List.range S.n1);simpa using this
   have hs:=c.small;refine⟨(eN c 60 [] [] nm b e (iP S []) h.2 f).1,?_,fun _=>c⟩;simp only[IS] at g;show b.length<=40201;omega
  ·exact⟨iP S [],AI _,fun h=>absurd rfl h⟩
  ·exact⟨iP S [],AI _,fun h=>absurd rfl h⟩
 ·exact⟨iP S [],AI _,fun h=>absurd rfl h⟩
theorem PG.idx {S:Spc}{c:List ByteArray}{b:List Ent}(h:PG S c b){i:Nat}{x:Ent}(g:b[i]?=N x):jK b x.name=i:=by
 obtain⟨hi,e⟩:=gM.1 g;unfold jK;rw[List.findIdx_eq hi];refine⟨by simp[e],fun j l=>?_⟩;have f:=DC.1 h.nod j i (by omega) hi l;rw[e] at f;cases hb:(b[j].name.toList == x.name.toList) with
 | false=>rfl
 | true=>exact absurd (bytes_beq hb) f
theorem PG.asked {S:Spc}{c:List ByteArray}{b:List Ent}(h:PG S c b){i:Nat}{x:Ent}(m:b[i]?=N x){l:Lk}(n:l∈x.looks)(g:l.ask=QR):∃ y,b[jK b l.name]?=N y/\y.name=l.name/\jK b l.name<i:=by obtain⟨j,y,hj,f,e⟩:=h.ord i x m l n g;have:=h.idx f;rw[e] at this;exact⟨y,by rw[this];exact f,e,by omega⟩
def dt (b:List Ent)(l:Lk):aI:=if l.ask=QR then ((bj b l.name).elim oM i8) else ⟨l.has,0,⟨#[]⟩⟩
structure Rn (S:Spc)(made:List Ent)(x:Ent):Prop where
 has:∀ l∈x.looks,l.ask=QR->l.has=QQ
 ahd:∀ l∈x.looks,l.ask=QR->∃ y,bj made l.name=N y
 go:x.kind=3->∀ k l,x.looks[k]?=N l->(bK S x.tg ((x.looks.take k).map (dt made))).over=QQ/\(bK S x.tg ((x.looks.take k).map (dt made))).name=l.name/\(bK S x.tg ((x.looks.take k).map (dt made))).ask=l.ask
 fin:x.kind=3->(bK S x.tg (x.looks.map (dt made))).over=QR/\(bK S x.tg (x.looks.map (dt made))).code=x.code/\(bK S x.tg (x.looks.map (dt made))).text=x.text
theorem lR {b more:List Ent}{t:ByteArray}{y:Ent}(h:bj b t=N y):bj (b++more) t=N y:=by unfold bj at h ⊢;rw[List.find?_append,h];rfl
theorem zW {b more:List Ent}{l:Lk}(h:l.ask=QR->∃ y,bj b l.name=N y):dt (b++more) l=dt b l:=by
 unfold dt;split
 ·rename_i f
  obtain⟨y,c⟩:=h f;rw[c,lR c]
 ·rfl
theorem lS {made more:List Ent}{b:List Lk}(h:∀ l∈b,l.ask=QR->∃ y,bj made l.name=N y):b.map (dt (made++more))=b.map (dt made) :=
 List.map_congr_left fun l c=>zW (h l c)
theorem Rn.more {S:Spc}{b more:List Ent}{x:Ent}(h:Rn S b x):Rn S (b++more) x:=by
 refine⟨h.has,fun l c g=>?_,fun f k l c=>?_,fun f=>?_⟩
 ·obtain⟨y,i⟩:=h.ahd l c g
  exact⟨y,lR i⟩
 ·rw[lS (made:=b) (more:=more) fun l c=>h.ahd l (LU c)]
  exact h.go f k l c
 ·rw[lS h.ahd]
  exact h.fin f
theorem wD {S:Spc}{b:List Ent}{x:Ent}(c:x.kind≠3)(f:x.looks=[]):Rn S b x :=
 ⟨(fun l h=>by rw[f] at h;cases h),(fun l h=>by rw[f] at h;cases h),fun h=>absurd h c,fun h=>absurd h c⟩
structure Rl (S:Spc)(t:Nat)(made:List Ent)(ys:List aI)(ls:List Lk):Prop where
 rep:ys=ls.map (dt made)
 has:∀ l∈ls,l.ask=QR->l.has=QQ
 ahd:∀ l∈ls,l.ask=QR->∃ y,bj made l.name=N y
 go:∀ k l,ls[k]?=N l->(bK S t ((ls.take k).map (dt made))).over=QQ/\(bK S t ((ls.take k).map (dt made))).name=l.name/\(bK S t ((ls.take k).map (dt made))).ask=l.ask
theorem Rl.more {S:Spc}{t:Nat}{b more:List Ent}{f:List aI}{g:List Lk}(h:Rl S t b f g):Rl S t (b++more) f g:=by
 refine⟨by rw[lS h.ahd];exact h.rep,h.has,fun l c i=>?_,fun k l c=>?_⟩
 ·obtain⟨y,j⟩:=h.ahd l c i
  exact⟨y,lR j⟩
 ·rw[lS (made:=b) (more:=more) fun l c=>h.ahd l (LU c)]
  exact h.go k l c
theorem Rl.add {S:Spc}{t:Nat}{b:List Ent}{c:List aI}{f:List Lk}{r:aI}{l:Lk}(h:Rl S t b c f)(m:r=dt b l)(h1:l.ask=QR->l.has=QQ)(h2:l.ask=QR->∃ y,bj b l.name=N y)(j:(bK S t c).over=QQ)(hn:(bK S t c).name=l.name)(i:(bK S t c).ask=l.ask):Rl S t b (c++[r]) (f++[l]):=by
 refine⟨by rw[CV,<-h.rep,m];rfl,fun z hz=>?_,fun z hz=>?_,fun k z hz=>?_⟩
 ·rcases hU.1 hz with hz | hz
  ·exact h.has z hz
  ·rw[eT.1 hz];exact h1
 ·rcases hU.1 hz with hz | hz
  ·exact h.ahd z hz
  ·rw[eT.1 hz];exact h2
 ·rcases KP k f.length with g | hge
  ·rw[IH g] at hz
   rw[List.take_append_of_le_length (by omega)];exact h.go k z hz
  ·have n:k=f.length:=by
    have:=(gM.1 hz).1;simp at this;omega
   subst n;rw[p8 ly,NE] at hz;obtain rfl:l=z:=by simpa using hz
   rw[List.take_left,<-h.rep];exact⟨j,hn,i⟩
def wE (S:Spc)(f:List ByteArray)(lies:List Ent->ByteArray->Out Ent):Prop:=∀ c nm b e,PG S f c->av nm=QR->(∀ x∈c,Rn S c x)->lies c nm=.inl (b,e)->(∀ x∈b,Rn S b x)/\bj b nm=N e
theorem CH {S:Spc}(ZA:SpcOk S){lies:List Ent->ByteArray->Out Ent}{f:List ByteArray}{t:Nat}(K:t<S.n1)(L:lQ S f lies)(hn:wE S f lies):∀ k c g m b x,PG S f c->RG S c g m->(∀ x∈c,Rn S c x)->Rl S t c g m->g.length+k=201->ct S lies t k c g m=.inl (b,x) ->
  (∀ z∈b,Rn S b z)/\(∀ l∈x.2,l.ask=QR->l.has=QQ)/\(∀ l∈x.2,l.ask=QR->∃ y,bj b l.name=N y)/\(∀ k l,x.2[k]?=N l->(bK S t ((x.2.take k).map (dt b))).over=QQ/\(bK S t ((x.2.take k).map (dt b))).name=l.name/\(bK S t ((x.2.take k).map (dt b))).ask=l.ask)/\(bK S t (x.2.map (dt b))).over=QR/\bK S t (x.2.map (dt b))=x.1:=by
 intro k;induction k with
 | zero=>intro c g m b x _ _ _ _ _ h;cases h
 | succ k D =>
  intro c g m b x u s q i hk h;have Q9:=lP ZA K s.good;rw[ct] at h;rcases Q9 with ⟨o,r⟩ | ⟨o,hlt,n⟩
  ·rw[gA o] at h
   cases h
   exact⟨q,i.has,i.ahd,i.go,by rw[<-i.rep];exact o,by rw[<-i.rep]⟩
  ·rw[eI (by rw[o];simp)] at h
   split at h
   ·rename_i p
    exact D _ _ _ _ _ u (s.add (nI _ _) n (fun h=>by cases h)) q (i.add (by unfold dt;rw[eI (by simp)]) (fun h=>by cases h) (fun h=>by cases h) o rfl p) (by simp;omega) h
   ·rename_i p
    split at h
    ·rename_i j e r
     obtain⟨G,⟨more,B⟩,F,M⟩:=L _ _ _ _ u n r;obtain⟨ZB,E⟩:=hn _ _ _ _ u n q r;have C:RG S j g m:=s.mono fun x i=>by rw[B];exact JK _ i
     have A:Rl S t j g m:=by rw[B];exact i.more
     exact D _ _ _ _ _ G (C.add (l:=⟨(bK S t g).name,QR,QQ⟩) (nJ (G.ents e F)) n (fun _=>⟨e,F,M⟩)) ZB (A.add (by unfold dt;rw[gA rfl];show i8 e=(bj j (bK S t g).name).elim oM i8;rw[E];rfl) (fun _=>rfl) (fun _=>⟨e,E⟩) o rfl (by simpa using p)) (by simp;omega) h
    ·cases h
    ·cases h
theorem jl {b:List Ent}{e:Ent}(h:bj b e.name=Z):bj (b++[e]) e.name=N e:=by rw[iO,h];simp
theorem tX {b:List Ent}{nm:ByteArray}(h:∀ x∈b,x.name≠nm):bj b nm=Z :=
 ND.2 fun x c e=>h x c (bytes_beq e)
theorem qC {S:Spc}{b:List Ent}{e:Ent}(h:∀ x∈b,Rn S b x)(f:Rn S b e):∀ x∈b++[e],Rn S (b++[e]) x:=fun x c=>by
 rcases hU.1 c with c | c
 ·exact(h x c).more
 ·rw[eT.1 c];exact f.more
theorem FW (S:Spc)(t:Nat)(b:List Ent):Rl S t b [] []:=⟨rfl,fun _ h=>absurd h nj,fun _ h=>absurd h nj,fun k l h=>by simp at h⟩
theorem zX {S:Spc}(o:SpcOk S):∀ n b,wE S b (aX S n b):=by
 intro n;have q:∀ b g nm f e (tgt:Nat->Out Ent),PG S b g->av nm=QR->(∀ x∈g,Rn S g x)->(∀ t f e,atI (nm1 S.f1) S.n1 nm=N t->bj g nm=Z->tgt t=.inl (f,e)->(∀ x∈f,Rn S f x)/\bj f nm=N e)->dO S tgt b g nm=.inl (f,e)->(∀ x∈f,Rn S f x)/\bj f nm=N e:=by
  intro b g nm f e tgt j hn i u h;unfold dO at h;split at h
  ·rename_i e1 y
   cases h
   exact⟨i,y⟩
  ·rename_i l
   split at h
   ·cases h
   ·unfold fa eQ at h
    split at h
    ·cases h
     exact⟨qC i (wD (by show(1:Int)≠3;decide) rfl),jl l⟩
    ·split at h
     ·rename_i t m
      exact u _ _ _ m l h
     ·cases h
      exact⟨qC i (wD (by show(2:Int)≠3;decide) rfl),jl l⟩
 induction n with
 | zero =>intro b g nm f e j hn i h;rw[aX] at h;exact q _ _ _ _ _ _ j hn i (fun t _ _ _ _ h=>by cases h) h
 | succ n A =>
  intro b g nm f e j hn i h;rw[aX] at h;refine q _ _ _ _ _ _ j hn i (fun t f e m l h=>?_) h;rcases hr:ct S (aX S n (b++[nm])) t 201 g [] [] with ⟨made1,x⟩ | c | c
  ·rw[hr] at h
   simp only[i9,eQ,NH,IT] at h;obtain⟨rfl,rfl⟩:=h;have p:=kV j l;obtain⟨C,_⟩:=iQ o (bN m).1 (eN o n (b++[nm])) _ _ _ _ _ _ p (jJ S g) rfl hr;obtain⟨B,E,D,s,z,r⟩:=CH o (bN m).1 (eN o n (b++[nm])) (A (b++[nm])) _ _ _ _ _ _ p (jJ S g) i (FW S t g) rfl hr;exact⟨qC B ⟨E,D,fun _=>s,fun _=>⟨z,by rw[r],by rw[r]⟩⟩,jl (e:=⟨nm,3,x.1.code,x.1.text,t,x.2⟩) (tX (nK C).2)⟩
  ·rw[hr] at h;cases h
  ·rw[hr] at h;cases h
theorem zY (f:Nat->Ins)(cnt:Nat)(i:List aI)(r:aI)(o:r.has=QQ)(k:Nat):∀ place steps looks j,looks<=i.length->(cV f cnt (yL i) i.length k place steps looks j).over=QQ->(cV f cnt (yL i) i.length k place steps looks j).ask=QR->(cV f cnt (yL (i++[r])) (i.length+1) k place steps looks j).over=QR:=by
 induction k with
 | zero=>intro _ _ _ _ _ _ h;cases h
 | succ k l =>
  intro place steps looks j n g b;rw[cV] at g b ⊢;rcases hs:cP f cnt place steps looks j with ⟨s,p⟩ | ⟨c,x⟩ | ⟨a,nm,s⟩
  ·rw[hs] at g b
   exact l _ _ _ _ n g b
  ·rfl
  ·rw[hs] at g b
   simp only at g b ⊢;rw[eI (show ¬ i.length+1<=looks by omega)];by_cases hn:i.length<=looks
   ·obtain rfl:looks=i.length:=by omega
    rw[gA hn] at g b;have m:a=QR:=b;subst m;rw[eI (by simp),Gs,gA o];rfl
   ·rw[eI hn] at g b
    rw[FV _ _ (by omega)];split
    ·rename_i h1
     rw[gA h1] at g b;exact l _ _ _ _ (by omega) g b
    ·rename_i h1
     rw[eI h1] at g b;split
     ·rfl
     ·rename_i h2
      rw[eI h2] at g b;split
      ·rename_i q
       rw[gA q] at g b;exact l _ _ _ _ (by omega) g b
      ·rfl
def lT (S:Spc)(b:List Ent):Nat:=(List.range S.n0).countP fun i=>(bj b (S.f0 i).name).isNone
def Mu (S:Spc)(c:List ByteArray)(b:List Ent):Nat:=b.length+2*eo S c b+lT S b
theorem rF (S:Spc)(b:List Ent)(e:Ent):lT S (b++[e])<=lT S b:=by
 refine NJ fun t _ h=>?_;rw[iO] at h;cases h2:bj b (S.f0 t).name with
 | none=>rfl
 | some x=>rw[h2] at h;simp at h
theorem zZ {S:Spc}{b:List Ent}{e:Ent}{i:Nat}(hi:i<S.n0)(hn:(S.f0 i).name=e.name)(h:bj b e.name=Z):lT S (b++[e])+1<=lT S b:=by
 refine rD (fun x _ h=>?_) (H7.2 hi) ?_ ?_
 ·rw[iO] at h
  cases h2:bj b (S.f0 x).name with
  | none=>rfl
  | some y=>rw[h2] at h;simp at h
 ·rw[hn,jl h]
  rfl
 ·rw[hn,h]
  rfl
def Aa (S:Spc)(b:List ByteArray)(lies:List Ent->ByteArray->Out Ent):Prop:=∀ f nm c e,lies f nm=.inl (c,e)->Mu S b c<=Mu S b f+if e.kind=2 then 1 else 0
theorem EX {S:Spc}{lies:List Ent->ByteArray->Out Ent}{c:List ByteArray}{t:Nat}(q:Aa S c lies):∀ k f g i b x,ct S lies t k f g i=.inl (b,x)->Mu S c b<=Mu S c f+1:=by
 intro k;induction k with
 | zero=>intro f g i b x h;cases h
 | succ k m =>
  intro f g i b x h;rw[ct] at h;split at h
  ·cases h;omega
  ·rename_i p
   split at h
   ·exact m _ _ _ _ _ h
   ·rename_i n
    split at h
    ·rename_i made1 e o
     have h1:=q _ _ _ _ o;by_cases j:e.kind=2
     ·have l:(bK S t (g++[i8 e])).over=QR:=by
       have:=zY (S.f1 t).act (S.f1 t).actN g (i8 e) (by simp[i8,j]) 2001 0 0 0 [] (AI _) (by simpa[bK] using p) (by simpa[bK] using n);unfold bK;rw[a8];exact this
      cases k with
      | zero=>cases h
      | succ k =>
       rw[ct,gA l] at h;cases h
       rw[gA j] at h1;exact h1
     ·rw[eI j] at h1
      have:=m _ _ _ _ _ h;omega
    ·cases h
    ·cases h
theorem CJ (S:Spc):∀ n b,Aa S b (aX S n b):=by
 intro n;have o:∀ b f nm g e (tgt:Nat->Out Ent),(∀ t g e,atI (nm1 S.f1) S.n1 nm=N t->bj f nm=Z->atL b nm=Z->tgt t=.inl (g,e)->Mu S b g<=Mu S b f)->dO S tgt b f nm=.inl (g,e)->Mu S b g<=Mu S b f+if e.kind=2 then 1 else 0:=by
  intro b f nm g e tgt p h;unfold dO at h;split at h
  ·cases h;omega
  ·rename_i m
   split at h
   ·cases h
   ·rename_i h1
    unfold fa eQ at h;split at h
    ·rename_i i hi
     cases h
     have:=j9 S b f ⟨nm,1,0,(S.f0 i).text,0,[]⟩;have:=zZ (S:=S) (e:=⟨nm,1,0,(S.f0 i).text,0,[]⟩) (bN hi).1 (bN hi).2 m;unfold Mu;rw[a8,p9];omega
    ·split at h
     ·rename_i t l
      have:=p _ _ _ l m h1 h;omega
     ·cases h
      have:=j9 S b f ⟨nm,2,0,⟨#[]⟩,0,[]⟩;have:=rF S f ⟨nm,2,0,⟨#[]⟩,0,[]⟩;rw[gA rfl];unfold Mu;rw[a8,p9];omega
 induction n with
 | zero =>intro b f nm g e h;rw[aX] at h;exact o _ _ _ _ _ _ (fun t _ _ _ _ _ h=>by cases h) h
 | succ n q =>
  intro b f nm g e h;rw[aX] at h;refine o _ _ _ _ _ _ (fun t g e l m h1 h=>?_) h;rcases hr:ct S (aX S n (b++[nm])) t 201 f [] [] with ⟨j,x⟩ | c | c
  ·rw[hr] at h
   simp only[i9,eQ,NH,IT] at h;obtain⟨rfl,rfl⟩:=h;have r:=EX (q (b++[nm])) _ _ _ _ _ _ hr;have g2:=iI (making:=b) (made:=f) (bN l).1 (bN l).2 m h1;have g3:eo S b (j++[⟨nm,3,x.1.code,x.1.text,t,x.2⟩])<=eo S (b++[nm]) j:=rC S b j ⟨nm,3,x.1.code,x.1.text,t,x.2⟩;have g4:=rF S j ⟨nm,3,x.1.code,x.1.text,t,x.2⟩;unfold Mu at r ⊢;rw[a8,p9];omega
  ·rw[hr] at h;cases h
  ·rw[hr] at h;cases h
theorem pQ {S:Spc}(g:SpcOk S){nm:ByteArray}{b:List Ent}{e:Ent}(h:aX S 60 [] [] nm=.inl (b,e)):b.length<=400:=by
 have h1:=CJ S 60 [] [] nm b e h;have hl:eo S [] []<=S.n1:=by have:=NK (p:=jk S [] []) (l:=List.range S.n1);simpa[eo] using this
 have hs:lT S []<=S.n0:=by have:=NK (p:=fun i=>(bj [] (S.f0 i).name).isNone) (l:=List.range S.n0);simpa[lT] using this
 have h2:=g.small;by_cases f:e.kind=2
 ·rw[aX] at h
  unfold dO at h;simp only[bj,List.find?_nil,atL,List.findIdx?_nil] at h;unfold fa eQ at h;split at h
  ·cases h;cases f
  ·split at h
   ·rename_i t h3
    simp only at h;rcases hr:ct S (aX S 59 ([]++[nm])) t 201 [] [] [] with ⟨made1,x⟩ | c | c
    ·rw[hr] at h
     simp only[i9,eQ,NH,IT] at h;obtain⟨rfl,rfl⟩:=h;cases f
    ·rw[hr] at h;cases h
    ·rw[hr] at h;cases h
   ·cases h
    show 1<=400;omega
 ·rw[eI f] at h1
  unfold Mu at h1;rw[IS] at h1;omega
def sLt (m:Nat):Nat->Bool:=fun q=>decide (q<m)
theorem nf (m:Nat):put (sLt m) m=sLt (m+1):=by funext q;rw[KN];simp only[put,sLt,Bool.or_eq_true,NY,kP];omega
theorem gn {S:Spc}{M:List Ent}{i:Nat}{x:Ent}(h:M[i]?=N x):dF (aM S M) i=bk S M x:=by unfold dF aM;rw[BO,IN,h];rfl
theorem tY {M b rest:List Ent}{i:Nat}{x:Ent}(hM:M=b++rest)(h:b[i]?=N x):M[i]?=N x:=by rw[hM,IH (gM.1 h).1];exact h
theorem tZ {S:Spc}{lies:List Ent->ByteArray->Out Ent}{t:Nat}:∀ k c g f b x,ct S lies t k c g f=.inl (b,x)->∃ more,x.2=f++more:=by
 intro k;induction k with
 | zero=>intro c g f b x h;cases h
 | succ k i =>
  intro c g f b x h;rw[ct] at h;split at h
  ·cases h
   exact⟨[],by simp⟩
  ·split at h
   ·obtain⟨m,e⟩:=i _ _ _ _ _ h
    exact⟨[_]++m,by rw[e,JM]⟩
   ·split at h
    ·obtain⟨m,e⟩:=i _ _ _ _ _ h
     exact⟨[_]++m,by rw[e,JM]⟩
    ·cases h
    ·cases h
section
variable {S:Spc}{M:List Ent}
def t8 (S:Spc)(M:List Ent)(f:List ByteArray)(m:Nat)(lies:List Ent->ByteArray->Out Ent):Prop:=∀ c nm b e,PG S f c->av nm=QR->lies c nm=.inl (b,e)->(∃ rest,M=b++rest) ->
 (b=c/\∃ i,i<c.length/\M[i]?=N e/\e.name=nm)∨(c.length<b.length/\M[b.length - 1]?=N e/\e.name=nm/\∀ k d,b.length<=k->∃ L,lst (dF (aM S M)) k (b.length - 1) d (sLt c.length)=(sLt b.length,L)/\L.map (·.1)=List.range' c.length (b.length - c.length)/\∀ x∈L,(dF (aM S M) x.1).kind=3->x.2<d+m)
theorem ua {go:Nat->Nat->(Nat->Bool)->(Nat->Bool) × List (Nat × Nat)}{x:aj}{d:Nat}{s:Nat->Bool}{j:Nat}(h:¬ ((x.links j).ask=QR/\(lks go x d s j).1 (x.links j).at_.toNat=QQ)):lks go x d s (j+1)=lks go x d s j:=by rw[lks,eI h]
theorem Ab (hS:SpcOk S)(hM:PG S [] M){lies:List Ent->ByteArray->Out Ent}{o:List ByteArray}{t m:Nat}(ht:t<S.n1)(hl:lQ S o lies)(hh:t8 S M o m lies):∀ k b A r c x,PG S o b->RG S b A r->A.length+k=201->ct S lies t k b A r=.inl (c,x)->(∃ rest,M=c++rest)->∀ (p g d:Nat) (D:Nat->Bool) (B:List (Nat × Nat)) (y:Ent),M[p]?=N y->y.looks=x.2->c.length<=p->p<=g->lks (lst (dF (aM S M)) g) (dF (aM S M) p) d D r.length=(sLt b.length,B) ->
  ∃ L,lks (lst (dF (aM S M)) g) (dF (aM S M) p) d D x.2.length=(sLt c.length,B++L)/\L.map (·.1)=List.range' b.length (c.length - b.length)/\∀ z∈L,(dF (aM S M) z.1).kind=3->z.2<d+1+m:=by
 intro k;induction k with
 | zero=>intro b A r c x _ _ _ h;cases h
 | succ k QW =>
  intro b A r c x W X hk h F p g d D B y O E C Q9 u;have hT:=lP hS ht X.good;have h0:=h;rw[ct] at h;rcases hT with ⟨QY,Q0⟩ | ⟨QY,hlt,G⟩
  ·rw[gA QY] at h
   cases h
   exact⟨[],by rw[u,L8],by simp,fun z hz=>absurd hz nj⟩
  ·rw[eI (by rw[QY];simp)] at h
   have lk:∀ l more,x.2=(r++[l])++more->(dF (aM S M) p).links r.length=lkD M l:=fun l more e=>by rw[gn O];refine kW ?_;rw[E,e,JM,p8 ly,NE];rfl
   split at h
   ·rename_i ha
    obtain⟨more,e⟩:=tZ _ _ _ _ _ _ h;have j:=lk _ _ e;refine QW _ _ _ _ _ W (X.add (nI _ _) G (fun h=>by cases h)) (by simp;omega) h F p g d D B y O E C Q9 ?_;rw[a8,p9,ua (by rw[j];exact fun h=>by cases h.1)];exact u
   ·rename_i ha
    split at h
    ·rename_i f Q2 Q0
     obtain⟨P,⟨more1,g2⟩,g3,g4⟩:=hl _ _ _ _ W G Q0;have fd:RG S f A r:=X.mono fun x hx=>by rw[g2];exact JK _ hx
     have ZA:=fd.add (l:=⟨(bK S t A).name,QR,QQ⟩) (nJ (P.ents Q2 g3)) G (fun _=>⟨Q2,g3,g4⟩);obtain⟨-,⟨more2,q2⟩,-⟩:=iQ hS ht hl _ _ _ _ _ _ P ZA (by simp;omega) h;obtain⟨rest,q⟩:=F;have aq:∃ rest,M=f++rest:=⟨more2++rest,by rw[q,q2,JM]⟩
     have hle:f.length<=c.length:=by rw[q2,a8];omega
     obtain⟨more,e⟩:=tZ _ _ _ _ _ _ h;have j:=lk _ _ e;have K:∀ i:Nat,M[i]?=N Q2->((dF (aM S M) p).links r.length).at_.toNat=i:=fun i hi=>by rw[j];have:=hM.idx hi;rw[g4] at this;simp[lkD,this]
     have R:((dF (aM S M) p).links r.length).ask=QR:=by rw[j];rfl
     rcases hh _ _ _ _ W G Q0 aq with ⟨rfl,i,hi,ZB,-⟩ | ⟨hlt1,ZB,-,bt⟩
     ·refine QW _ _ _ _ _ P ZA (by simp;omega) h ⟨rest,q⟩ p g d D B y O E C Q9 ?_
      rw[a8,p9,ua (by rw[u,K i ZB];simp[sLt,hi])];exact u
     ·obtain⟨V,QX,e2,e3⟩:=bt g (d+1) (by omega)
      have QZ:lks (lst (dF (aM S M)) g) (dF (aM S M) p) d D (r++[(⟨(bK S t A).name,QR,QQ⟩:Lk)]).length=(sLt f.length,B++V):=by rw[a8,p9,lks,gA ⟨R,by rw[u,K _ ZB];simp[sLt];omega⟩,K _ ZB,u,QX]
      obtain⟨L2,f1,f2,f3⟩:=QW _ _ _ _ _ P ZA (by simp;omega) h ⟨rest,q⟩ p g d D (B++V) y O E C Q9 QZ;refine⟨V++L2,by rw[f1,JM],?_,fun z hz=>?_⟩
      ·rw[CV,e2,f2]
       have:=List.range'_append_1 (s:=b.length) (m:=f.length - b.length) (n:=c.length - f.length);rw[show b.length+(f.length - b.length)=f.length by omega,show f.length - b.length+(c.length - f.length)=c.length - b.length by omega] at this;exact this
      ·rcases hU.1 hz with hz | hz
       ·exact e3 z hz
       ·exact f3 z hz
    ·cases h
    ·cases h
theorem Ac {b:List Ent}{e:Ent}(g:e.kind≠3)(h:e.looks=[])(hM:M[b.length]?=N e):∀ k d,b.length+1<=k->∃ L,lst (dF (aM S M)) k b.length d (sLt b.length)=(sLt (b.length+1),L)/\L.map (·.1)=List.range' b.length 1/\∀ x∈L,(dF (aM S M) x.1).kind=3->x.2<d+0:=by
 intro k d hk1;cases k with
 | zero=>omega
 | succ k =>
  refine⟨[(b.length,d)],?_,rfl,fun x f c=>?_⟩
  ·have i:(dF (aM S M) b.length).linksN=0:=by
    rw[gn hM];show e.looks.length=0;rw[h];rfl
   rw[lst,i];show(put (sLt b.length) b.length,_)=_;rw[nf];rfl
  ·rw[eT.1 f,gn hM] at c
   exact absurd c g
theorem yi (u:SpcOk S)(hM:PG S [] M):∀ n g,t8 S M g n (aX S n g):=by
 intro n
 have y:∀ g b nm f e (tgt:Nat->Out Ent) (m:Nat),PG S g b->av nm=QR->(∃ rest,M=f++rest)->(∀ t f e,atI (nm0 S.f0) S.n0 nm=Z->atI (nm1 S.f1) S.n1 nm=N t->bj b nm=Z->atL g nm=Z->tgt t=.inl (f,e)->(∃ rest,M=f++rest)->(b.length<f.length/\M[f.length - 1]?=N e/\e.name=nm/\∀ k d,f.length<=k->∃ L,lst (dF (aM S M)) k (f.length - 1) d (sLt b.length)=(sLt f.length,L)/\L.map (·.1)=List.range' b.length (f.length - b.length)/\∀ x∈L,(dF (aM S M) x.1).kind=3->x.2<d+m))->dO S tgt g b nm=.inl (f,e) ->
   (f=b/\∃ i,i<b.length/\M[i]?=N e/\e.name=nm)∨(b.length<f.length/\M[f.length - 1]?=N e/\e.name=nm/\∀ k d,f.length<=k->∃ L,lst (dF (aM S M)) k (f.length - 1) d (sLt b.length)=(sLt f.length,L)/\L.map (·.1)=List.range' b.length (f.length - b.length)/\∀ x∈L,(dF (aM S M) x.1).kind=3->x.2<d+m):=by
  intro g b nm f e tgt m s hn l P h;have r:∀ o:Ent,o.kind≠3->o.looks=[]->o.name=nm->(∃ rest,M=(b++[o])++rest)->(b.length<(b++[o]).length/\M[(b++[o]).length - 1]?=N o/\o.name=nm/\∀ k d,(b++[o]).length<=k->∃ L,lst (dF (aM S M)) k ((b++[o]).length - 1) d (sLt b.length)=(sLt (b++[o]).length,L)/\L.map (·.1)=List.range' b.length ((b++[o]).length - b.length)/\∀ x∈L,(dF (aM S M) x.1).kind=3->x.2<d+m):=by
   intro o D R hn0 ⟨rest,E⟩;have p:M[b.length]?=N o:=tY E (by simp);have hz:(b++[o]).length=b.length+1:=by simp
   rw[hz,Nat.add_sub_cancel,Nat.add_sub_cancel_left];refine⟨by omega,p,hn0,fun k d C=>?_⟩;obtain⟨L,h1,h2,q⟩:=Ac (S:=S) D R p k d C;exact⟨L,h1,h2,fun x G QZ=>by have:=q x G QZ;omega⟩
  unfold dO at h;split at h
  ·rename_i F ZA
   cases h
   obtain⟨h1,h2⟩:=gY ZA;obtain⟨i,hi⟩:=KU h1;obtain⟨rest,l⟩:=l;exact .inl ⟨rfl,i,(gM.1 hi).1,tY l hi,h2⟩
  ·rename_i B
   split at h
   ·cases h
   ·rename_i h1
    unfold fa eQ at h;split at h
    ·cases h
     exact .inr (r _ (by show(1:Int)≠3;decide) rfl rfl l)
    ·rename_i h2
     split at h
     ·rename_i t q
      exact .inr (P _ _ _ h2 q B h1 h l)
     ·cases h
      exact .inr (r _ (by show(2:Int)≠3;decide) rfl rfl l)
 induction n with
 | zero =>intro g b nm f e s hn h l;rw[aX] at h;exact y _ _ _ _ _ _ _ s hn l (fun t _ _ _ _ _ _ h=>by cases h) h
 | succ n Q0 =>
  intro g b nm f e s hn h l;rw[aX] at h;refine y _ _ _ _ _ _ _ s hn l (fun t f e h2 q B h1 h l=>?_) h;rcases hq:ct S (aX S n (g++[nm])) t 201 b [] [] with ⟨j,x⟩ | c | c
  ·rw[hq] at h
   simp only[i9,eQ,NH,IT] at h;obtain⟨rfl,rfl⟩:=h;have A:=kV s B;obtain⟨-,⟨more,Q9⟩,-⟩:=iQ u (bN q).1 (eN u n (g++[nm])) _ _ _ _ _ _ A (jJ S b) rfl hq;obtain⟨rest,l⟩:=l;have hz:(j++[(⟨nm,3,x.1.code,x.1.text,t,x.2⟩:Ent)]).length=j.length+1:=by simp
   have hle:b.length<=j.length:=by rw[Q9,a8];omega
   have p:M[j.length]?=N ⟨nm,3,x.1.code,x.1.text,t,x.2⟩:=tY l (by simp);rw[hz,Nat.add_sub_cancel];refine⟨by omega,p,rfl,fun k d D=>?_⟩;cases k with
   | zero=>omega
   | succ k =>
    obtain⟨L,F,O,K⟩:=Ab u hM (bN q).1 (eN u n (g++[nm])) (Q0 (g++[nm])) _ _ _ _ _ _ A (jJ S b) rfl hq ⟨[_]++rest,by rw[l,JM]⟩ j.length k d (sLt b.length) [] _ p rfl ly (by omega) rfl;have ZB:(dF (aM S M) j.length).linksN=x.2.length:=by rw[gn p];rfl
    refine⟨L++[(j.length,d)],?_,?_,fun z hz=>?_⟩
    ·rw[lst,ZB,F,nf,JT]
    ·rw[CV,O,show j.length+1 - b.length=j.length - b.length+1 by omega,List.range'_1_concat,show b.length+(j.length - b.length)=j.length by omega]
     rfl
    ·rcases hU.1 hz with hz | hz
     ·intro q
      have:=K z hz q;omega
     ·rw[eT.1 hz]
      intro _;show d<d+(n+1)
      omega
  ·rw[hq] at h;cases h
  ·rw[hq] at h;cases h
end
theorem nZ:∀ (L:List (Nat × Nat)) (i:Nat),L.map (·.1)=List.range' i L.length->bD i L=-1
 | [],_,_=>rfl
 | x :: L,i,h=>by rw[NV,z8,List.range'_succ] at h;obtain⟨h1,h2⟩:=List.cons.inj h;rw[bD,gA h1];exact nZ L (i+1) h2
theorem od {f:Nat->aj}:∀ (L:List (Nat × Nat)),(∀ x∈L,(f x.1).kind=3->x.2<60)->aY f L=-1
 | [],_=>rfl
 | x :: L,h=>by rw[aY,eI fun h1=>absurd (h x NB h1.1) (by omega)];exact od L fun y b=>h y (mz _ b)
theorem yj {f:Nat->aj}{p:Nat}{x:aj}{n:Nat}(h:∀ i,i<n->ee f p (x.links i)=QR):bS f p x n=QR:=by
 induction n with
 | zero=>rfl
 | succ k b=>rw[bS,b fun i hi=>h i (by omega),h k (by omega)];rfl
theorem EY {S:Spc}(G:SpcOk S){M:List Ent}(hM:PG S [] M)(hR:∀ x∈M,Rn S M x){i:Nat}(hi:i<M.length):bi (dF (aM S M)) i=QR:=by
 obtain⟨x,n⟩:∃ x,M[i]?=N x:=⟨M[i],gq hi⟩
 have r:=IF n;have g:=hM.ents x r;have e:dF (aM S M) i=bk S M x:=gn n;unfold bi;rw[e,gB,gB];refine⟨⟨g.nm,QJ g.tx⟩,?_⟩;have B:=g.code;rcases g.kind with ⟨h1,h2,h,-⟩ | ⟨h1,h2,h,z,-⟩ | ⟨h1,-,h⟩
 ·have b:(bk S M x).kind=1:=h1
  unfold kindOk;rw[gA b];simp[aP,bk,cT,h1,h2,h]
 ·have b:(bk S M x).kind=2:=h1
  unfold kindOk;rw[eI (by rw[b];decide),gA b];simp[aP,bk,cT,h1,h2,h,z];rfl
 ·have b:(bk S M x).kind=3:=h1
  have A:(bk S M x).actN=(S.f1 x.tg).actN:=by show cT S x=_;unfold cT;rw[gA h1]
  unfold kindOk;rw[eI (by rw[b];decide),eI (by rw[b];decide),gA b];unfold ci;rw[A];have D:valid (bk S M x).act (S.f1 x.tg).actN=QR:=G.act _ (bN h).1;have ZA:(bk S M x).linksN<=200:=g.looks;have p:bS (dF (aM S M)) i (bk S M x) (bk S M x).linksN=QR:=yj fun j Q9=>by
   have m:j<x.looks.length:=Q9;have q:x.looks[j]?=N x.looks[j]:=gq m;have c:=gj m;have t:(bk S M x).links j=lkD M x.looks[j]:=kW q;rw[t];generalize x.looks[j]=l at c;unfold ee;rw[gB];refine⟨g.lname l c,?_⟩;by_cases f:l.ask=QR
   ·obtain⟨y,F,hn,hlt⟩:=hM.asked n c f
    have C:=(hR x r).has l c f;have o:(lkD M l).ask=QR:=f;have hH:(lkD M l).has=QQ:=C;have ZB:(lkD M l).at_=((jK M l.name:Nat):Int):=by unfold lkD;simp[f]
    have s:(lkD M l).name=l.name:=rfl;rw[gA o,hH,ZB,s,Int.toNat_natCast,gn F];have u:((bk S M y).name.toList == l.name.toList)=QR:=by show(y.name.toList == l.name.toList)=QR;rw[hn];simp
    rw[u];simp only[Bool.not_false,LA,LP,gB,kP];omega
   ·have o:¬ (lkD M l).ask=QR:=f
    rw[eI o];unfold lkD;simp[f]
  rw[D,p];have E:(bk S M x).code=x.code:=rfl;rw[E];simp only[LP,gB,kP];exact⟨B,ZA⟩
theorem yk {f:Nat->aj}{p:Nat}{k:Nat}(h:∀ j,j<k->(f j).name≠(f p).name):aW f p k=QR:=by
 induction k with
 | zero=>rfl
 | succ k b =>
  rw[aW,b fun j hj=>h j (by omega),LA];cases hb:((f k).name.toList == (f p).name.toList) with
  | false=>rfl
  | true=>exact absurd (bytes_beq hb) (h k (by omega))
theorem ub {S:Spc}(b:SpcOk S){nm:ByteArray}(hn:av nm=QR){M:List Ent}{e:Ent}(h:aX S 60 [] [] nm=.inl (M,e)):dH (dF (aM S M)) M.length=(0,0)/\0<M.length/\M[M.length - 1]?=N e/\e.name=nm/\PG S [] M/\∀ x∈M,Rn S M x:=by
 have hM:=(eN b 60 [] [] nm M e (iP S []) hn h).1;have hR:=(zX b 60 [] [] nm M e (iP S []) hn (fun x f=>absurd f nj) h).1;have hs:=pQ b h;rcases yi b hM 60 [] [] nm M e (iP S []) hn h ⟨[],by simp⟩ with ⟨-,i,hi,-⟩ | ⟨h1,h2,r,y⟩
 ·cases hi
 ·refine⟨?_,h1,h2,r,hM,hR⟩
  obtain⟨L,z,m,s⟩:=y M.length 0 ly;have g:sLt ([]:List Ent).length=fun _=>QQ:=by funext q;simp[sLt]
  have c:aC (dF (aM S M)) M.length=L:=by unfold aC;rw[<-g,z]
  have l:L.length=M.length:=by have:=JN List.length m;simpa using this
  have f1:aK (bi (dF (aM S M))) M.length=-1:=ep fun i hi=>EY b hM hR hi;have n:aK (fun p=>aW (dF (aM S M)) p p) M.length=-1:=ep fun i hi=>yk fun j A=>by rw[gn (gq hi),gn (gq (show j<M.length by omega))];exact DC.1 hM.nod j i (by omega) hi A
  have o:bD 0 L=-1:=nZ L 0 (by rw[l];exact m);have t:aY (dF (aM S M)) L=-1:=od L fun x f u=>by have:=s x f u;omega
  have h1':0<M.length:=h1;unfold dH;rw[eI (by omega),f1,eI (by simp),n,eI (by simp),c,o,eI (by simp),t,eI (by simp)]
structure Borne (S:Spc)(f:Nat->aj)(p:Nat):Prop where
 lie:oA S.n0 S.f0 S.n1 S.f1 (f p)=QQ
 has:hasB S.n0 S.f0 S.n1 S.f1 (f p)=QQ
 run:codeF f p=0
def tgD (S:Spc)(d:aj):Nat:=if d.kind=3 then (atI (nm1 S.f1) S.n1 d.name).getD 0 else 0
def lkE (l:Link):Lk:=⟨l.name,l.ask,l.has⟩
def fH (d:aj)(k:Nat):List Lk:=(List.range k).map fun j=>lkE (d.links j)
def du (S:Spc)(f:Nat->aj)(p:Nat):Ent:=⟨(f p).name,(f p).kind,(f p).code,(f p).text,tgD S (f p),fH (f p) (f p).linksN⟩
def cB (S:Spc)(f:Nat->aj)(k:Nat):List Ent:=(List.range k).map (du S f)
def ysD (f:Nat->aj)(p j:Nat):List aI:=(List.range j).map (yOf f p)
theorem wF {g:Nat->ByteArray}{n i:Nat}{t:ByteArray}(b:bQ g n=QR)(hi:i<n)(h:((g i).toList == t.toList)=QR):atI g n t=N i:=by
 cases e:atI g n t with
 | none=>exact absurd h (ND.1 e i (H7.2 hi))
 | some j =>obtain⟨h1,h2⟩:=bN e;rw[asc_one b h1 hi (by rw[h2];simp) h]
theorem qD {g:Nat->ByteArray}{n:Nat}{t:ByteArray}(h:bF g n t=QQ):atI g n t=Z :=
 ND.2 fun x b e=>by rw[fe (H7.1 b) e] at h;cases h
theorem SpcOk.apart {S:Spc}(g:SpcOk S){t:Nat}(b:t<S.n1):bF (nm0 S.f0) S.n0 (S.f1 t).name=QQ:=by
 have h:=g.chk;unfold bw at h;split at h;· omega
 split at h;· omega
 split at h;· omega
 split at h;· omega
 split at h;· omega
 split at h;· omega
 rename_i c;cases e:bF (nm0 S.f0) S.n0 (S.f1 t).name with
 | false=>rfl
 | true =>obtain⟨k,f,hb⟩:=sR e;exact absurd (eJ f (fe b (by rw[bytes_beq hb];simp))) c
theorem rG {f g:Nat->Ins}{cnt:Nat}(h:∀ i,i<cnt->f i=g i)(y:Nat->aI)(n k:Nat):∀ place steps looks b,cV f cnt y n k place steps looks b=cV g cnt y n k place steps looks b:=by
 induction k with
 | zero=>intro _ _ _ _;rfl
 | succ k l =>
  intro place steps looks b;have e:cP f cnt place steps looks b=cP g cnt place steps looks b:=by
   unfold cP;by_cases j:cnt<=place
   ·rw[gA j,gA j]
   ·rw[h place (by omega)]
  rw[cV,cV,e];rcases cP g cnt place steps looks b with ⟨s,p⟩ | ⟨c,x⟩ | ⟨a,nm,s⟩
  ·exact l _ _ _ _
  ·rfl
  ·simp only[l]
theorem EZ {x y:Ins}(h:iX x y=QR):x=y:=by obtain⟨a,b,c⟩:=x;obtain⟨a',b',c'⟩:=y;simp only[iX,gB,NY] at h;obtain⟨⟨rfl,hb⟩,rfl⟩:=h;rw[ew hb]
theorem oN {f g:Nat->Ins}{n:Nat}(h:cA f g n=QR)(i:Nat)(hi:i<n):f i=g i:=by have:=pa (show i+1<=n by omega) h;simp only[cA,gB] at this;exact EZ this.2
theorem fJ {f:Nat->aj}{n:Nat}(h:aZ f n=QR){p:Nat}(c:p<n):av (f p).name=QR/\((f p).kind≠3->(f p).code=0/\(f p).actN=0/\(f p).linksN=0)/\((f p).kind=2->(f p).text=⟨#[]⟩)/\∀ j,j<(f p).linksN->ee f p ((f p).links j)=QR:=by
 have h1:=dM (dX h).2.2 p c;simp only[bi,gB,kindOk,kP] at h1;obtain⟨⟨g,_⟩,h2⟩:=h1;refine⟨g,?_⟩;split at h2
 ·rename_i b
  simp only[aP,gB,kP] at h2;exact⟨fun _=>⟨h2.1.1,h2.1.2,h2.2⟩,fun e=>by omega,fun j i=>by omega⟩
 ·split at h2
  ·rename_i b
   simp only[aP,gB,kP] at h2;exact⟨fun _=>⟨h2.1.1.1,h2.1.1.2,h2.1.2⟩,fun _=>PO (MV h2.2),fun j i=>by omega⟩
  ·split at h2
   ·rename_i b
    simp only[ci,gB] at h2;exact⟨fun e=>absurd b e,fun e=>by omega,lp h2.2⟩
   ·cases h2
theorem uc:∀ (L:List (Nat × Nat)) (i:Nat),bD i L=-1->L.map (·.1)=List.range' i L.length
 | [],_,_=>rfl
 | x :: L,i,h=>by
  rw[bD] at h;split at h
  ·rename_i e
   rw[NV,z8,List.range'_succ,uc L (i+1) h,e]
  ·omega
theorem rH {f:Nat->aj}:∀ (L:List (Nat × Nat)),aY f L=-1->∀ x∈L,(f x.1).kind=3->x.2<60
 | [],_,x,b,_=>absurd b nj
 | y :: L,h,x,b,hk=>by
  rw[aY] at h;split at h
  ·omega
  ·rename_i hn
   rcases nD.1 b with rfl | b
   ·exact Nat.lt_of_not_le fun c=>hn ⟨hk,c⟩
   ·exact rH L h x b hk
theorem vD {f:Nat->aj}{n:Nat}(h:aZ f n=QR):bD 0 (aC f n)=-1/\aY f (aC f n)=-1:=by
 have h1:(dH f n).1=0:=J8 h;unfold dH at h1;split at h1
 ·simp at h1
 ·split at h1
  ·simp at h1
  ·split at h1
   ·simp at h1
   ·split at h1
    ·simp at h1
    ·rename_i c
     split at h1
     ·simp at h1
     ·rename_i g
      exact⟨KI fun b=>c b,KI fun b=>g b⟩
theorem seg {A B:List (Nat × Nat)}{lo:Nat}(h:(A++B).map (·.1)=List.range' lo (A++B).length):A.map (·.1)=List.range' lo A.length/\B.map (·.1)=List.range' (lo+A.length) B.length:=by rw[CV,a8,<-List.range'_append_1] at h;exact List.append_inj h (by simp)
theorem wG (go:Nat->Nat->(Nat->Bool)->(Nat->Bool) × List (Nat × Nat))(x:aj)(d:Nat)(s:Nat->Bool)(j:Nat):∀ Q9,j<=Q9->∃ more,(lks go x d s Q9).2=(lks go x d s j).2++more
 | 0,h=>⟨[],by
  obtain rfl:j=0:=by omega
  simp⟩
 | Q9+1,h=>by
  by_cases e:j=Q9+1
  ·exact⟨[],by rw[e];simp⟩
  ·obtain⟨m,b⟩:=wG go x d s j Q9 (by omega)
   rw[lks];split
   ·exact⟨m++(go (x.links Q9).at_.toNat (d+1) (lks go x d s Q9).1).2,by rw[b,JM]⟩
   ·exact⟨m,b⟩
theorem rI {f:Nat->aj}{p:Nat}:∀ Q9 k,k+Q9<=ji f p Q9 k->∀ i,i<Q9->tS f p (k+i)=QQ
 | 0,_,_,i,hi=>absurd hi (JP i)
 | Q9+1,k,h,i,hi=>by
  rw[ji] at h;split at h
  ·omega
  ·rename_i b
   cases i with
   | zero=>simpa using b
   | succ i =>have:=rI (f:=f) (p:=p) Q9 (k+1) (by omega) i (by omega);rwa[show k+(i+1)=k+1+i by omega]
theorem ud {f:Nat->aj}{p:Nat}(h:codeF f p=0)(g:(f p).kind=3):(∀ j,j<(f p).linksN->(cQ f p j).over=QQ/\(cQ f p j).name=((f p).links j).name/\(cQ f p j).ask=((f p).links j).ask)/\(cQ f p (f p).linksN).over=QR/\(cQ f p (f p).linksN).code=(f p).code/\(cQ f p (f p).linksN).text=(f p).text:=by
 rw[codeF,gA g,xZ] at h;have hle:=tT f p (f p).linksN 0;split at h
 ·omega
 ·rename_i h1
  have b:gV f p=(f p).linksN:=by unfold gV at h1 ⊢;omega
  rw[b] at h;split at h
  ·omega
  ·rename_i h2
   split at h
   ·rename_i c
    refine⟨fun j i=>?_,by simpa using h2,c.1,ew c.2⟩;have:=rI (f:=f) (p:=p) (f p).linksN 0 (by unfold gV at b;omega) j i;rw[DN] at this;simp only[tS,PT,OB,NY] at this;exact⟨this.1.1,ew this.1.2,this.2⟩
   ·omega
theorem Borne.lies {S:Spc}{f:Nat->aj}{n p:Nat}(m:aZ f n=QR)(o:p<n)(j:SpcOk S)(h:Borne S f p):((f p).kind=1/\∃ i,atI (nm0 S.f0) S.n0 (f p).name=N i/\(S.f0 i).text=(f p).text)∨((f p).kind=2/\atI (nm0 S.f0) S.n0 (f p).name=Z/\atI (nm1 S.f1) S.n1 (f p).name=Z)∨((f p).kind=3/\atI (nm0 S.f0) S.n0 (f p).name=Z/\∃ t,atI (nm1 S.f1) S.n1 (f p).name=N t/\(S.f1 t).actN=(f p).actN/\∀ i,i<(f p).actN->(S.f1 t).act i=(f p).act i):=by
 have b:=h.lie;unfold oA at b;rcases(pL m p o).2 with ⟨c,-⟩ | ⟨c,-⟩ | ⟨c,-⟩
 ·rw[gA c,OB] at b
  obtain⟨i,hi,hb⟩:=gE b;rw[gB] at hb;exact .inl ⟨c,i,wF j.asc0 hi hb.1,bytes_beq hb.2⟩
 ·rw[eI (by omega),eI (by omega)] at b
  unfold fS at b;rw[PT] at b;exact .inr (.inl ⟨c,qD b.1,qD b.2⟩)
 ·rw[eI (by omega),gA c,OB] at b
  obtain⟨t,l,hb⟩:=gE b;rw[gB] at hb;have g:=hb.2;simp only[bu,gB,kP] at g;have hn:(S.f1 t).name=(f p).name:=bytes_beq hb.1;refine .inr (.inr ⟨c,qD (by rw[<-hn];exact j.apart l),t,wF j.asc1 l hb.1,g.1,fun i hi=>oN g.2 i (by omega)⟩)
section
variable {S:Spc}{f:Nat->aj}{n:Nat}
theorem lU (k:Nat):cB S f (k+1)=cB S f k++[du S f k]:=by unfold cB;rw[KV,CV];rfl
theorem ym (b:aZ f n=QR){k p:Nat}(hk:k<=p)(g:p<n):bj (cB S f k) (f p).name=Z :=
 tX fun x c e=>by obtain⟨i,hi,rfl⟩:=JQ.1 c;have h1:=H7.1 hi;have:=jS b i p (by omega) g (JN ByteArray.toList e);omega
theorem yo (b:aZ f n=QR){k q:Nat}(c:q<k)(hk:k<=n):bj (cB S f k) (f q).name=N (du S f q):=by
 cases h:bj (cB S f k) (f q).name with
 | none=>exact absurd rfl (fR h (du S f q) (JQ.2 ⟨q,H7.2 c,rfl⟩))
 | some y =>obtain⟨h1,h2⟩:=gY h;obtain⟨i,hi,rfl⟩:=JQ.1 h1;have:=H7.1 hi;rw[jS b i q (by omega) (by omega) (JN ByteArray.toList h2)]
theorem rJ {p t j:Nat}(h1:(S.f1 t).actN=(f p).actN)(h2:∀ i,i<(f p).actN->(S.f1 t).act i=(f p).act i):bK S t (ysD f p j)=cQ f p j:=by
 have e:(ysD f p j).length=j:=by simp[ysD]
 unfold bK cQ;rw[e,h1,rG h2];exact kH _ _ _ _ _ _ _ _ _ _ fun i _ hi=>by simp[yL,ysD,hi]
def FY (S:Spc)(f:Nat->aj)(n k:Nat):Prop:=∀ p d lo m b,p<k->p<n->lo<=p->(lst f k p d (sLt lo)).2.map (·.1)=List.range' lo (lst f k p d (sLt lo)).2.length->(∀ x∈(lst f k p d (sLt lo)).2,(f x.1).kind=3->x.2<d+m)->(∀ z∈b,∀ q,q<=p->z≠(f q).name) ->
 (lst f k p d (sLt lo)).1=sLt (p+1)/\p+1=lo+(lst f k p d (sLt lo)).2.length/\aX S m b (cB S f lo) (f p).name=.inl (cB S f (p+1),du S f p)
theorem CK (s:aZ f n=QR)(R:∀ p,p<n->Borne S f p){k p d lo m t:Nat}{making:List ByteArray}(ih:FY S f n k)(hk:p<k+1)(y:p<n)(O:lo<=p)(h3:(f p).kind=3)(QZ:(S.f1 t).actN=(f p).actN)(Q0:∀ i,i<(f p).actN->(S.f1 t).act i=(f p).act i)
  (M:(lks (lst f k) (f p) d (sLt lo) (f p).linksN).2.map (·.1)=List.range' lo (lks (lst f k) (f p) d (sLt lo) (f p).linksN).2.length) (ZB:∀ x∈(lks (lst f k) (f p) d (sLt lo) (f p).linksN).2,(f x.1).kind=3->x.2<d+1+m) (hm:∀ z∈making,∀ q,q<p->z≠(f q).name) :
  ∀ j,j<=(f p).linksN->(lks (lst f k) (f p) d (sLt lo) j).1=sLt (lo+(lks (lst f k) (f p) d (sLt lo) j).2.length)/\lo+(lks (lst f k) (f p) d (sLt lo) j).2.length<=p /\
   ct S (aX S m making) t 201 (cB S f lo) [] []=ct S (aX S m making) t (201 - j) (cB S f (lo+(lks (lst f k) (f p) d (sLt lo) j).2.length)) (ysD f p j) (fH (f p) j):=by
 have hN:(f p).linksN<=200:=cZ s p y;obtain⟨P,-⟩:=ud (R p y).run h3;intro j;induction j with
 | zero=>intro _;exact⟨rfl,O,rfl⟩
 | succ j W =>
  intro hj;obtain⟨g,K,g3⟩:=W (by omega);obtain⟨V,Q2,QX⟩:=P j (by omega);have B:=(fJ s y).2.2.2 j (by omega);have C:ysD f p (j+1)=ysD f p j++[yOf f p j]:=by unfold ysD;rw[KV,CV];rfl
  have D:fH (f p) (j+1)=fH (f p) j++[lkE ((f p).links j)]:=by unfold fH;rw[KV,CV];rfl
  rw[g3,show 201 - j=201 - (j+1)+1 by omega,ct,rJ QZ Q0,V,Q2,QX,eI (by simp)];by_cases b:((f p).links j).ask=QR
  ·obtain⟨a1,a2,a3⟩:=mI s p y j (by omega) b
   have F:((f p).links j).has=QQ:=by simp only[ee,b,QE,gB,Bool.not_eq_true'] at B;exact B.2.1.1.1
   have o:∀ q,q=((f p).links j).at_.toNat->i8 (du S f q)=yOf f p j:=fun q e=>by subst e;unfold yOf;rw[rA s b (by omega)];rfl
   have E:lkE ((f p).links j)=⟨((f p).links j).name,QR,QQ⟩:=by unfold lkE;rw[b,F]
   have u:((f p).links j).name=(f ((f p).links j).at_.toNat).name:=ew a3.symm;rw[eI (by rw[b];simp),C,D,E];generalize l:((f p).links j).at_.toNat=q at a2 u;have o:=o q l.symm;rw[lks];by_cases A:q<lo+(lks (lst f k) (f p) d (sLt lo) j).2.length
   ·rw[eI (by rw[g,l];simp[sLt,A])]
    refine⟨g,K,?_⟩;rw[lN];unfold dO;rw[u,yo s A (by omega)];simp only[o]
   ·rw[gA ⟨b,by rw[g,l];simp[sLt];omega⟩,l,g]
    obtain⟨more,c⟩:=wG (lst f k) (f p) d (sLt lo) (j+1) (f p).linksN hj;rw[lks,gA ⟨b,by rw[g,l];simp[sLt];omega⟩,l,g] at c;simp only at c;rw[c] at M ZB;have s1:=(seg M).1;have s2:=(seg s1).2;obtain⟨X,G,QW⟩:=ih q (d+1) (lo+(lks (lst f k) (f p) d (sLt lo) j).2.length) m making (by omega) (by omega) (by omega) s2 (fun x QY L=>ZB x (JK _ (J4 _ QY)) L) (fun z hz r hr'=>hm z hz r (by omega));rw[u,QW];simp only[o,a8];refine⟨by rw[X,G,NW],by omega,by rw[<-NW,<-G]⟩
  ·have hn:((f p).links j).ask=QQ:=by simpa using b
   have ZA:=iz (R p y).has (show j<(f p).linksN by omega);simp only[sS,hn,Bool.not_false,LA,OB,NY] at ZA;have Q9:gX S ((f p).links j).name=((f p).links j).has:=ZA.symm;rw[gA hn,Q9,ua (fun h=>b h.1),C,D];have o:yOf f p j=⟨((f p).links j).has,0,⟨#[]⟩⟩:=by unfold yOf qy;rw[eI b]
   have E:lkE ((f p).links j)=⟨((f p).links j).name,QQ,((f p).links j).has⟩:=by unfold lkE;rw[hn]
   rw[o,E];exact⟨g,K,rfl⟩
theorem CL (l:aZ f n=QR)(O:SpcOk S)(F:∀ p,p<n->Borne S f p):∀ k,FY S f n k:=by
 intro k;induction k with
 | zero=>intro p d lo m b Q9;omega
 | succ k Q0 =>
  intro p d lo m b Q9 j y C r ZA;rw[lst] at C r ⊢;simp only at C r ⊢;obtain⟨P,R⟩:=seg C;have g:p=lo+(lks (lst f k) (f p) d (sLt lo) (f p).linksN).2.length:=by simpa using R
  have hz:p+1=lo+((lks (lst f k) (f p) d (sLt lo) (f p).linksN).2++[(p,d)]).length:=by rw[a8,p9];omega
  have Q2:=ym (S:=S) l y j;have h1:atL b (f p).name=Z:=kI fun x B=>ZA x B p ly;have o:=fJ l j;rw[lN];unfold dO;rw[Q2,h1];simp only[fa];rcases(F p j).lies l j O with ⟨c,i,hi,ZB⟩ | ⟨c,hi,s⟩ | ⟨c,hi,t,s,u,A⟩
  ·obtain⟨c1,c2,c3⟩:=o.2.1 (by omega)
   have D:lks (lst f k) (f p) d (sLt lo) (f p).linksN=(sLt lo,[]):=by rw[c3];rfl
   rw[D] at g hz ⊢;obtain rfl:p=lo:=by simpa using g
   refine⟨nf p,hz,?_⟩;rw[hi];simp only[eQ,lU];have e:du S f p=⟨(f p).name,1,0,(S.f0 i).text,0,[]⟩:=by unfold du tgD fH;rw[c3,c1,c,ZB];rfl
   rw[e]
  ·obtain⟨c1,c2,c3⟩:=o.2.1 (by omega)
   have D:lks (lst f k) (f p) d (sLt lo) (f p).linksN=(sLt lo,[]):=by rw[c3];rfl
   rw[D] at g hz ⊢;obtain rfl:p=lo:=by simpa using g
   refine⟨nf p,hz,?_⟩;rw[hi,s];simp only[eQ,lU];have e:du S f p=⟨(f p).name,2,0,⟨#[]⟩,0,[]⟩:=by unfold du tgD fH;rw[c3,c1,c,o.2.2.1 c];rfl
   rw[e]
  ·have G:=r (p,d) (J4 _ (eT.2 rfl)) c
   obtain⟨E,rfl⟩:∃ E,m=E+1:=⟨m - 1,by simp only at G;omega⟩
   have hN:(f p).linksN<=200:=cZ l p j;obtain⟨-,r1,QZ,M⟩:=ud (F p j).run c
   obtain⟨L,-,K⟩:=CK l F (m:=E) (making:=b++[(f p).name]) Q0 Q9 j y c u A P (fun x B h=>by have:=r x (JK _ B) h;omega) (fun z hz q hq=>by
    rcases hU.1 hz with hz | hz
    ·exact ZA z hz q (by omega)
    ·rw[eT.1 hz]
     exact fun e=>by have:=jS l p q j (by omega) (JN ByteArray.toList e);omega) (f p).linksN ly
   rw[<-g] at L K;refine⟨by rw[L];exact nf p,hz,?_⟩;rw[hi,s];simp only[Cz];rw[K,show 201 - (f p).linksN=200 - (f p).linksN+1 by omega,ct,rJ u A,gA r1];simp only[i9,eQ,lU];have e:du S f p=⟨(f p).name,3,(cQ f p (f p).linksN).code,(cQ f p (f p).linksN).text,t,fH (f p) (f p).linksN⟩:=by unfold du tgD;rw[c,s,QZ,M];rfl
   rw[e]
theorem yp (b:aZ f n=QR)(l:SpcOk S)(j:∀ p,p<n->Borne S f p):aX S 60 [] [] (f (n - 1)).name=.inl (cB S f n,du S f (n - 1)):=by
 have hn:=dX b;obtain⟨h1,h2⟩:=vD b;have c:sLt 0=fun _=>QQ:=by funext q;simp[sLt]
 unfold aC at h1 h2;rw[<-c] at h1 h2;obtain⟨-,-,h⟩:=CL b l j n (n - 1) 0 0 60 [] (by omega) (by omega) (AI _) (uc _ _ h1) (fun x g i=>by have:=rH _ h2 x g i;omega) (fun z hz=>absurd hz nj);rw[show n - 1+1=n by omega] at h;exact h
structure DeedEq (x y:aj):Prop where
 name:x.name=y.name
 kind:x.kind=y.kind
 code:x.code=y.code
 text:x.text=y.text
 actN:x.actN=y.actN
 act:∀ i,i<x.actN->x.act i=y.act i
 linksN:x.linksN=y.linksN
 links:∀ i,i<x.linksN->x.links i=y.links i
theorem CN {i k:Nat}(h:i<k):(cB S f k)[i]?=N (du S f i):=by unfold cB;simp[h]
theorem F0 (c:aZ f n=QR){q:Nat}(b:q<n):jK (cB S f n) (f q).name=q:=by
 have hi:q<(cB S f n).length:=by simp[cB,b]
 unfold jK;rw[List.findIdx_eq hi];refine⟨by simp[cB,du],fun j hj=>?_⟩;cases hb:((cB S f n)[j].name.toList == (f q).name.toList) with
 | false=>rfl
 | true =>
  have e:(cB S f n)[j].name=(f j).name:=by simp[cB,du]
  rw[e] at hb;have:=jS c j q (by omega) b (by simpa using hb);omega
theorem yq (h:aZ f n=QR)(A:SpcOk S)(z:∀ p,p<n->Borne S f p){i:Nat}(hi:i<n):DeedEq (dF (aM S (cB S f n)) i) (f i):=by
 rw[gn (CN hi)];have c:(bk S (cB S f n) (du S f i)).linksN=(f i).linksN:=by show(fH (f i) (f i).linksN).length=_;simp[fH]
 have b:∀ j,j<(bk S (cB S f n) (du S f i)).linksN->(bk S (cB S f n) (du S f i)).links j=(f i).links j:=fun j g=>by
  rw[c] at g;have o:=(fJ h hi).2.2.2 j g;have e:(bk S (cB S f n) (du S f i)).links j=lkD (cB S f n) (lkE ((f i).links j)):=kW (by simp[du,fH,g]);rw[e];unfold lkD lkE;by_cases l:((f i).links j).ask=QR
  ·obtain⟨a1,a2,u⟩:=mI h i hi j g l
   simp only[l,QE];rw[<-ew u,F0 h (by omega),Int.toNat_of_nonneg a1,ew u,<-l]
  ·have y:((f i).links j).at_=0:=by
    simp only[ee,eI l,gB,kP] at o;exact o.2
   simp only[eI l];rw[<-y]
 rcases(z i hi).lies h hi A with ⟨m,-⟩ | ⟨m,-⟩ | ⟨m,-,t,x,q,s⟩
 ·obtain⟨c1,c2,c3⟩:=(fJ h hi).2.1 (by omega)
  have e:(bk S (cB S f n) (du S f i)).actN=0:=by show cT S (du S f i)=0;unfold cT;rw[eI (by show ¬ (f i).kind=3;omega)]
  exact⟨rfl,rfl,rfl,rfl,by rw[e,c2],fun j g=>by omega,c,b⟩
 ·obtain⟨c1,c2,c3⟩:=(fJ h hi).2.1 (by omega)
  have e:(bk S (cB S f n) (du S f i)).actN=0:=by show cT S (du S f i)=0;unfold cT;rw[eI (by show ¬ (f i).kind=3;omega)]
  exact⟨rfl,rfl,rfl,rfl,by rw[e,c2],fun j g=>by omega,c,b⟩
 ·have r:(du S f i).tg=t:=by show tgD S (f i)=t;unfold tgD;rw[gA m,x];rfl
  have e:(bk S (cB S f n) (du S f i)).actN=(f i).actN:=by show cT S (du S f i)=_;unfold cT;rw[gA (by exact m),r,q]
  refine⟨rfl,rfl,rfl,rfl,e,fun j g=>?_,c,b⟩;show(S.f1 (du S f i).tg).act j=_;rw[r];exact s j (by omega)
end
def LkHas (S:Spc)(b:List Lk):Prop:=∀ l∈b,l.ask=QQ->l.has=gX S l.name
def Hs (S:Spc)(b:List Ent):Prop:=∀ x∈b,LkHas S x.looks
theorem Hs.add {S:Spc}{c:List Ent}{e:Ent}(h:Hs S c)(f:LkHas S e.looks):Hs S (c++[e]):=fun x b=>by
 rcases hU.1 b with b | b
 ·exact h x b
 ·rw[eT.1 b];exact f
theorem ng (S:Spc):LkHas S []:=fun _ h=>absurd h nj
theorem LkHas.add {S:Spc}{c:List Lk}{l:Lk}(h:LkHas S c)(f:l.ask=QQ->l.has=gX S l.name):LkHas S (c++[l]):=fun x b=>by
 rcases hU.1 b with b | b
 ·exact h x b
 ·rw[eT.1 b];exact f
theorem CO {S:Spc}{lies:List Ent->ByteArray->Out Ent}{t:Nat}(n:∀ c nm b e,Hs S c->lies c nm=.inl (b,e)->Hs S b):∀ k c j f b x,Hs S c->LkHas S f->ct S lies t k c j f=.inl (b,x)->Hs S b/\LkHas S x.2:=by
 intro k;induction k with
 | zero=>intro c j f b x _ _ h;cases h
 | succ k l =>
  intro c j f b x i g h;rw[ct] at h;split at h
  ·cases h
   exact⟨i,g⟩
  ·split at h
   ·exact l _ _ _ _ _ i (g.add fun _=>rfl) h
   ·split at h
    ·rename_i made1 e m
     exact l _ _ _ _ _ (n _ _ _ _ i m) (g.add fun h=>by cases h) h
    ·cases h
    ·cases h
theorem Ad (S:Spc):∀ n f g nm b e,Hs S g->aX S n f g nm=.inl (b,e)->Hs S b:=by
 intro n;have j:∀ f g nm b e (tgt:Nat->Out Ent),Hs S g->(∀ t b e,tgt t=.inl (b,e)->Hs S b)->dO S tgt f g nm=.inl (b,e)->Hs S b:=by
  intro f g nm b e tgt i l h;unfold dO at h;split at h
  ·cases h;exact i
  ·split at h
   ·cases h
   ·unfold fa eQ at h
    split at h
    ·cases h;exact i.add (ng S)
    ·split at h
     ·exact l _ _ _ h
     ·cases h;exact i.add (ng S)
 induction n with
 | zero =>intro f g nm b e i h;rw[aX] at h;exact j _ _ _ _ _ _ i (fun t _ _ h=>by cases h) h
 | succ n m =>
  intro f g nm b e i h;rw[aX] at h;refine j _ _ _ _ _ _ i (fun t b e h=>?_) h;rcases hr:ct S (aX S n (f++[nm])) t 201 g [] [] with ⟨made1,x⟩ | c | c
  ·rw[hr] at h
   simp only[i9,eQ,NH,IT] at h;obtain⟨rfl,rfl⟩:=h;obtain⟨h1,h2⟩:=CO (fun g nm b e=>m _ g nm b e) _ _ _ _ _ _ i (ng S) hr;exact h1.add h2
  ·rw[hr] at h;cases h
  ·rw[hr] at h;cases h
theorem ue {g:Nat->ByteArray}{n:Nat}{t:ByteArray}(h:atI g n t=Z):bF g n t=QQ:=by
 cases e:bF g n t with
 | false=>rfl
 | true =>obtain⟨k,b,hb⟩:=sR e;exact absurd hb (ND.1 h k (H7.2 b))
theorem nh {p:Nat->Bool}{n:Nat}(h:∀ i,i<n->p i=QQ):bT p n=QQ:=by
 cases e:bT p n with
 | false=>rfl
 | true =>obtain⟨k,b,hb⟩:=gE e;rw[h k b] at hb;cases hb
theorem jm {f g:Nat->Ins}:∀ {n:Nat},(∀ i,i<n->f i=g i)->cA f g n=QR
 | 0,_=>rfl
 | n+1,h=>by rw[cA,jm fun i hi=>h i (by omega),h n (by omega)];simp[iX]
theorem rK {f:Nat->aj}{p:Nat}:∀ Q9 k,(∀ i,i<Q9->tS f p (k+i)=QQ)->ji f p Q9 k=k+Q9
 | 0,_,_=>rfl
 | Q9+1,k,h=>by rw[ji,eI (by have:=h 0 (by omega);rw[KJ] at this;rw[this];simp),rK Q9 (k+1) fun i hi=>by rw[show k+1+i=k+(i+1) by omega];exact h (i+1) (by omega)];omega
theorem rL {f:Nat->aj}{p:Nat}(h:(f p).kind=3->(∀ j,j<(f p).linksN->(cQ f p j).over=QQ/\(cQ f p j).name=((f p).links j).name/\(cQ f p j).ask=((f p).links j).ask)/\(cQ f p (f p).linksN).over=QR/\(cQ f p (f p).linksN).code=(f p).code/\(cQ f p (f p).linksN).text=(f p).text):codeF f p=0:=by
 unfold codeF;split
 ·rename_i l
  obtain⟨h1,h2,n,m⟩:=h l;have g:gV f p=(f p).linksN:=by
   unfold gV
   rw[rK _ _ fun i hi=>by
    obtain⟨a,b,c⟩:=h1 i hi;rw[DN]
    simp[tS,a,b,c]]
   omega
  unfold xZ;rw[g,eI (by omega),eI (by rw[h2];simp),gA ⟨n,by rw[m]⟩]
 ·rfl
theorem rM {S:Spc}(K:SpcOk S){nm:ByteArray}(hn:av nm=QR){M:List Ent}{e:Ent}(h:aX S 60 [] [] nm=.inl (M,e)):aZ (dF (aM S M)) M.length=QR/\∀ p,p<M.length->Borne S (dF (aM S M)) p:=by
 obtain⟨h1,-,-,-,hM,hR⟩:=ub K hn h;have hH:=Ad S 60 [] [] nm M e (fun x n=>absurd n nj) h;have D:aZ (dF (aM S M)) M.length=QR:=by unfold aZ;rw[h1];rfl
 refine⟨D,fun p L=>?_⟩;have n:M[p]?=N M[p]:=gq L;generalize M[p]=x at n;have r:=IF n;have Q9:=hM.ents x r;have m:dF (aM S M) p=bk S M x:=gn n;have o:∀ j l,x.looks[j]?=N l->(bk S M x).links j=lkD M l:=fun j l QZ=>kW QZ;refine⟨?_,?_,rL fun G=>?_⟩
 ·rw[m]
  unfold oA;rcases Q9.kind with ⟨k,-,-,i,hi,s⟩ | ⟨k,-,-,-,h2,B⟩ | ⟨k,-,B⟩
  ·rw[gA (show(bk S M x).kind=1 from k)]
   obtain⟨C,u⟩:=bN hi;have:lA S.n0 S.f0 (bk S M x).name (bk S M x).text=QR:=eJ C (by show((nm0 S.f0 i).toList == x.name.toList && (S.f0 i).text.toList == x.text.toList)=QR;rw[u,s];simp);rw[this];rfl
  ·have E:(bk S M x).kind=2:=k
   rw[eI (by omega),eI (by omega)];show(bF (nm0 S.f0) S.n0 x.name || bF (nm1 S.f1) S.n1 x.name)=QQ;rw[ue h2,ue B];rfl
  ·have E:(bk S M x).kind=3:=k
   rw[eI (by omega),gA E];obtain⟨C,u⟩:=bN B;have A:(bk S M x).actN=(S.f1 x.tg).actN:=by show cT S x=_;unfold cT;rw[gA k]
   have:jy S.n1 S.f1 (bk S M x).name (bk S M x).actN (bk S M x).act=QR:=eJ C (by
    show((nm1 S.f1 x.tg).toList == x.name.toList && bu (S.f1 x.tg).act (bk S M x).act (S.f1 x.tg).actN (bk S M x).actN)=QR;rw[u,A];simp only[bu,decide_true,LA,MH]
    exact jm fun _ _=>rfl)
   rw[this];rfl
 ·rw[m]
  refine nh fun j g=>?_;have t:j<x.looks.length:=g;have b:x.looks[j]?=N x.looks[j]:=gq t;have c:=gj t;simp only[o j _ b];generalize x.looks[j]=l at c;unfold sS lkD;cases f:l.ask with
  | true=>rfl
  | false =>have:=hH x r l c f;show(!QQ && !(l.has == gX S l.name))=QQ;rw[this];simp
 ·rw[m] at G
  have k:x.kind=3:=G;have A:(bk S M x).actN=(S.f1 x.tg).actN:=by show cT S x=_;unfold cT;rw[gA k]
  have q:∀ j,j<x.looks.length->yOf (dF (aM S M)) p j=yL (x.looks.map (dt M)) j:=fun j g=>by
   have b:x.looks[j]?=N x.looks[j]:=gq g;have c:=gj g;have O:yL (x.looks.map (dt M)) j=dt M x.looks[j]:=by simp[yL,g]
   unfold yOf;rw[m,o j _ b,O];generalize x.looks[j]=l at c;by_cases f:l.ask=QR
   ·obtain⟨y,q,hny,hlt⟩:=hM.asked n c f
    have F:(lkD M l).at_.toNat=jK M l.name:=by unfold lkD;simp[f]
    rw[rA D (show(lkD M l).ask=QR from f) (by rw[F];omega),F,gn q];have ZA:bj M l.name=N y:=by obtain⟨z,hz⟩:=(hR x r).ahd l c f;obtain⟨z1,z2⟩:=gY hz;obtain⟨i,hi⟩:=KU z1;have:=hM.idx hi;rw[z2] at this;rw[this,hi] at q;rw[hz];exact q
    unfold dt;rw[gA f,ZA];rfl
   ·unfold dt qy
    rw[eI f,eI (show ¬ (lkD M l).ask=QR from f)];rfl
  have s:∀ j,j<=x.looks.length->cQ (dF (aM S M)) p j=bK S x.tg ((x.looks.take j).map (dt M)):=fun j g=>by unfold cQ bK;rw[m,A,KO,JY,LE g];refine kH _ _ _ _ _ _ _ _ _ _ fun i _ hi=>?_;rw[q i (by omega)];simp[yL,hi,show i<x.looks.length by omega]
  have ZB:(dF (aM S M) p).linksN=x.looks.length:=by rw[m];rfl
  rw[ZB];refine⟨fun j g=>?_,?_⟩
  ·have b:x.looks[j]?=N x.looks[j]:=gq g
   rw[s j (by omega),m,o j _ b];exact(hR x r).go k j _ b
  ·rw[s _ ly,List.take_length,m]
   exact(hR x r).fin k
section
variable {f g:Nat->aj}{n:Nat}
theorem DeedEq.symm {x y:aj}(h:DeedEq x y):DeedEq y x:=⟨h.name.symm,h.kind.symm,h.code.symm,h.text.symm,h.actN.symm,fun i hi=>(h.act i (by rw[h.actN];exact hi)).symm,h.linksN.symm,fun i hi=>(h.links i (by rw[h.linksN];exact hi)).symm⟩
theorem Gt {a b:Nat->Ins}{m:Nat}(h:∀ i,i<m->a i=b i):valid a m=valid b m:=by
 have:∀ k,k<=m->dT a k=dT b k:=by
  intro k;induction k with
  | zero=>intro _;rfl
  | succ k c=>intro hk;rw[dT,dT,c (by omega),h k (by omega)]
 unfold valid;rw[this m ly ]
theorem pR (l:aZ f n=QR)(h:∀ i,i<n->DeedEq (f i) (g i)){p:Nat}(c:p<n){j:Nat}(hj:j<=(f p).linksN):cQ g p j=cQ f p j:=by
 have e:=h p c;unfold cQ;rw[<-e.actN,<-rG e.act];refine kH _ _ _ _ _ _ _ _ _ _ fun i _ hi=>?_;unfold yOf qy;rw[e.links i (by omega)];split
 ·rename_i m
  have:=mI l p c i (by omega) (by rw[e.links i (by omega)];exact m);rw[e.links i (by omega)] at this;have b:=h ((g p).links i).at_.toNat (by omega);rw[b.kind,b.code,b.text]
 ·rfl
theorem yr {a b c:Nat->Ins}{m k:Nat}(h:∀ i,i<k->b i=c i):bu a b m k=bu a c m k:=by
 unfold bu;by_cases e:m=k
 ·subst e
  have:∀ j,j<=m->cA a b j=cA a c j:=by
   intro j;induction j with
   | zero=>intro _;rfl
   | succ j f=>intro hj;rw[cA,cA,f (by omega),h j (by omega)]
  rw[this m ly ]
 ·simp[e]
theorem pS {S:Spc}(m:aZ f n=QR)(h:∀ i,i<n->DeedEq (f i) (g i)){p:Nat}(c:p<n)(l:Borne S f p):Borne S g p:=by
 have e:=h p c;refine⟨?_,?_,rL fun o=>?_⟩
 ·have:=l.lie
  unfold oA jy at this ⊢;rw[<-e.kind,<-e.name,<-e.text,<-e.actN];simp only[<-yr e.act];exact this
 ·refine nh fun j b=>?_
  rw[<-e.linksN] at b;have:=iz l.has b;rw[e.links j b] at this;exact this
 ·obtain⟨h1,h2⟩:=ud l.run (by rw[e.kind];exact o)
  rw[<-e.linksN];refine⟨fun j b=>?_,?_⟩
  ·rw[pR m h c (by omega),<-e.links j b]
   exact h1 j b
  ·rw[pR m h c ly,<-e.code,<-e.text]
   exact h2
end
def yt (n0:Nat)(f0:Nat->Source)(n1:Nat)(f1:Nat->Target)(f:Nat->aj)(p:Nat):Int:=if oA n0 f0 n1 f1 (f p)=QR then 2 else if hasB n0 f0 n1 f1 (f p)=QR then 3 else codeF f p
def oO (c:Nat->Int):Nat->Int × Int
 | 0=>(0,0)
 | k+1=>if (oO c k).1=0 then (if c k=0 then (0,0) else (c k,(k:Int))) else oO c k
def CR (n0:Nat)(f0:Nat->Source)(n1:Nat)(f1:Nat->Target)(f:Nat->aj)(n:Nat):Int × Int:=if aZ f n=QR then (if bw n0 f0 n1 f1=0 then oO (yt n0 f0 n1 f1 f) n else (1,0)) else (1,0)
theorem Ae {c:Nat->Int}{n:Nat}(b:∀ i,i<n->c i=0):oO c n=(0,0):=by
 induction n with
 | zero=>rfl
 | succ m f=>rw[oO,f fun i hi=>b i (by omega),gA rfl,gA (b m (by omega))]
theorem vE (S:Spc)(nm:ByteArray):aX S 60 [] [] nm=fa S (Cz S 60 [] [] nm) [] nm:=by rw[lN];rfl
theorem uf {S:Spc}{nm:ByteArray}{i:Nat}(b:bw S.n0 S.f0 S.n1 S.f1=0)(hn:av nm=QR)(hi:atI (nm0 S.f0) S.n0 nm=N i):(aG S nm).2=⟨0,(S.f0 i).text,[]⟩:=by unfold aG;rw[gA ⟨b,hn⟩,vE,fa,hi];rfl
theorem yu {g:Nat->ByteArray}{n i:Nat}{t:ByteArray}(hi:i<n)(c:(g i).toList=t.toList)(b:∀ j,j<i->(g j).toList≠t.toList):atI g n t=N i:=by unfold atI;rw[List.find?_range_eq_some];refine⟨by simp[c],by simpa using hi,fun j f=>?_⟩;simpa using b j f
end Go.Proofs.YtamacmnikdejeaaGreatDoor.Vp
