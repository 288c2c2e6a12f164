import Derived.Test.YtkdimgejdocbbaaGreatDoorYP
import Derived.Test.YtkdimgejdocbbaaGreatDoorZP
open Option renaming none->Z,some->Q
open Bool renaming false->D,true->QC
namespace Go.Proofs.YtkdimgejdocbbaaGreatDoor.Vp
open RowKit
structure Spc where
 n0:Nat
 f0:Nat->Source
 n1:Nat
 f1:Nat->Target
structure Lk where
 name:ByteArray
 ask:Bool
 has:Bool
structure Ent where
 name:ByteArray
 kind:Int
 code:Int
 text:ByteArray
 tg:Nat
 looks:List Lk
abbrev Out (b:Type):=(List Ent × b) ⊕ List ByteArray ⊕ ByteArray
def gE:aA:=⟨D,0,⟨#[]⟩⟩
def yL (b:List aA):Nat->aA:=fun k=>b.getD k gE
def fg (e:Ent):aA:=⟨decide (¬ e.kind=2),e.code,e.text⟩
def fh (S:Spc)(t:ByteArray):Bool:=aF (nm0 S.f0) S.n0 t || aF (nm1 S.f1) S.n1 t
def atI (g:Nat->ByteArray)(n:Nat)(t:ByteArray):Option Nat:=(List.range n).find? fun i=>(g i).toList == t.toList
def atL (L:List ByteArray)(t:ByteArray):Option Nat:=L.findIdx? fun x=>x.toList == t.toList
def aK (b:List Ent)(t:ByteArray):Option Ent:=b.find? fun e=>e.name.toList == t.toList
def bF (S:Spc)(t:Nat)(b:List aA):Turn:=bV (S.f1 t).act (S.f1 t).actN (yL b) b.length 2001 0 0 0 []
def bO (S:Spc)(lies:List Ent->ByteArray->Out Ent)(t:Nat):Nat->List Ent->List aA->List Lk->Out (Turn × List Lk)
 | 0,_,_,_=>.inr (.inr ⟨#[]⟩)
 | k+1,made,ys,ls =>
  if (bF S t ys).over=QC then .inl (made,(bF S t ys,ls))
  else if (bF S t ys).ask=D then bO S lies t k made (ys++[⟨fh S (bF S t ys).name,0,⟨#[]⟩⟩]) (ls++[⟨(bF S t ys).name,D,fh S (bF S t ys).name⟩])
  else match lies made (bF S t ys).name with
   | .inl (made',e)=>bO S lies t k made' (ys++[fg e]) (ls++[⟨(bF S t ys).name,QC,D⟩])
   | .inr (.inl c)=>.inr (.inl c)
   | .inr (.inr d)=>.inr (.inr d)
def dP (b:List Ent)(e:Ent):Out Ent:=.inl ((b++[e]),e)
def gF (nm:ByteArray)(t:Nat):Out (Turn × List Lk)->Out Ent
 | .inl (made,x)=>dP made ⟨nm,3,x.1.code,x.1.text,t,x.2⟩
 | .inr (.inl c)=>.inr (.inl c)
 | .inr (.inr d)=>.inr (.inr d)
def d9 (S:Spc)(tgt:Nat->Out Ent)(b:List Ent)(nm:ByteArray):Out Ent :=
 match atI (nm0 S.f0) S.n0 nm with
 | some i=>dP b ⟨nm,1,0,(S.f0 i).text,0,[]⟩
 | none=>match atI (nm1 S.f1) S.n1 nm with
  | some t=>tgt t
  | none=>dP b ⟨nm,2,0,⟨#[]⟩,0,[]⟩
def dm (S:Spc)(tgt:Nat->Out Ent)(b:List ByteArray)(d:List Ent)(nm:ByteArray):Out Ent :=
 match aK d nm with
 | some e=>.inl (d,e)
 | none=>match atL b nm with
  | some i=>.inr (.inl (b.drop i))
  | none=>d9 S tgt d nm
def aL (S:Spc):Nat->List ByteArray->List Ent->ByteArray->Out Ent
 | 0,making,made,nm=>dm S (fun _=>.inr (.inr nm)) making made nm
 | n+1,making,made,nm=>dm S (fun t=>gF nm t (bO S (aL S n (making++[nm])) t 201 made [] [])) making made nm
def me (S:Spc)(n:Nat)(b:List ByteArray)(d:List Ent)(nm:ByteArray)(t:Nat):Out Ent :=
 match n with
 | 0=>.inr (.inr nm)
 | n+1=>gF nm t (bO S (aL S n (b++[nm])) t 201 d [] [])
theorem jc (S:Spc)(n:Nat)(b:List ByteArray)(d:List Ent)(nm:ByteArray):aL S n b d nm=dm S (me S n b d nm) b d nm:=by
 cases n with
 | zero=>rw[aL];rfl
 | succ n=>rw[aL];rfl
structure ResL where
 code:Int
 text:ByteArray
 chain:List ByteArray
def cR (e:Ent):ResL:=if e.kind=2 then ⟨4,e.name,[]⟩ else ⟨e.code,e.text,[]⟩
def bj (S:Spc)(nm:ByteArray):List Ent × ResL :=
 if aU S.n0 S.f0 S.n1 S.f1=0/\au nm=QC then
  (match aL S 60 [] [] nm with
   | .inl (made,e)=>(made,cR e)
   | .inr (.inl c)=>([],⟨6,⟨#[]⟩,c⟩)
   | .inr (.inr d)=>([],⟨7,d,[]⟩))
 else ([],⟨9,⟨#[]⟩,[]⟩)
theorem Cm (b:List aA)(r:aA):yL (b++[r]) b.length=r:=by simp[yL]
theorem yw (b:List aA)(r:aA){k:Nat}(h:k<b.length):yL (b++[r]) k=yL b k:=by simp[yL,IJ h]
theorem jI (f:Nat->Ins)(cnt:Nat)(y z:Nat->aA)(n:Nat)(k:Nat):∀ place steps looks b,(∀ i,looks<=i->i<n->y i=z i)->bV f cnt y n k place steps looks b=bV f cnt z n k place steps looks b:=by
 induction k with
 | zero=>intro _ _ _ _ _;rfl
 | succ k g =>
  intro place steps looks b h;rw[bV,bV];rcases bH f cnt place steps looks b with ⟨s,p⟩ | ⟨c,x⟩ | ⟨a,nm,s⟩
  ·exact g _ _ _ _ h
  ·rfl
  ·simp only
   by_cases d:n<=looks
   ·rw[eT d,eT d]
   ·rw[a8 d,a8 d,h looks lr (by omega),g _ _ _ _ fun i hi=>h i (by omega),g _ _ _ _ fun i hi=>h i (by omega)]
theorem oI (u:Nat):(Lib.decDigits u).length<=u+1:=by
 induction u using Nat.strongRecOn with
 | ind u b =>
  rw[Lib.decDigits];split
  ·simp
  ·have:=b (u / 10) (by omega)
   simp only[cM,o3,ES];omega
theorem jr {p:Nat}(h:p<=2000):(dI p).size<=2000:=by
 show(Lib.decDigits p).length<=2000;rw[Lib.decDigits];split
 ·simp
 ·have:=oI (p / 10)
  simp only[cM,o3,ES];omega
def mD (c:Int)(x:ByteArray):Prop:=0<=c/\c<=5/\x.size<=2000
theorem wW {ask:Bool}{a:ByteArray}{r:List ByteArray}{b looks:Nat}{c:Int}{x:ByteArray}(h:gR ask a r b looks=.inr (.inl (c,x)))(d:b<=2000):mD c x:=by
 unfold gR at h;split at h
 ·cases h;exact⟨by omega,by omega,jr d⟩
 ·split at h
  ·cases h;exact⟨by omega,by omega,by decide⟩
  ·cases h
theorem qV {op n:Nat}{t:ByteArray}{b looks:Nat}{d:List ByteArray}{c:Int}{x:ByteArray}(h:cC op n t b looks d=.inr (.inl (c,x)))(f:∀ z∈d,z.size<=2000)(g:b<=2000):mD c x:=by
  unfold cC at h;split at h;all_goals first
    | (cases h;done)
    | exact wW h g
    | (split at h
       · cases h
       · cases h;exact⟨by omega,by omega,jr g⟩)
    | (cases h;exact⟨by omega,by omega,f _ (by simp)⟩)
    | (cases h;exact⟨by omega,by omega,by decide⟩)
theorem wX {f:Nat->Ins}{cnt place steps looks:Nat}{b:List ByteArray}{c:Int}{x:ByteArray}(h:bH f cnt place steps looks b=.inr (.inl (c,x)))(g:∀ z∈b,z.size<=2000)(d:place<=2000):mD c x:=by
 unfold bH at h;split at h
 ·cases h;exact⟨by omega,by omega,jr d⟩
 ·split at h
  ·cases h;exact⟨by omega,by omega,by decide⟩
  ·split at h
   ·cases h;exact⟨by omega,by omega,jr d⟩
   ·exact qV h g d
theorem ui {f:Nat->Ins}{cnt place steps looks:Nat}{b:List ByteArray}(h1:b.length<=50)(h2:∀ z∈b,z.size<=2000)(d:looks<=200)(g:cQ f cnt=QC)(hc:cnt<=200):pd (bH f cnt place steps looks b) looks:=by
 unfold bH;split
 ·trivial
 ·rename_i h1
  split
  ·trivial
  ·split
   ·trivial
   ·rename_i d
    have hi:=jj g (show place<cnt by omega);simp only[cD,j4] at hi;obtain⟨i1,i2,i3,i4,i5⟩:=hi;have hmt:dK (f place).op<=2000:=by unfold dK;split<;>(try split)<;>omega
    have hmt2:bP (f place).op<=2000:=by unfold bP;split<;>omega
    exact iu _ _ _ _ _ _ (by assumption) h2 (by omega) (by omega) (by omega) (by assumption) (by omega) (by omega) (by simpa using d)
def yx (n:Nat)(QK:Turn):Prop:=(QK.over=QC/\mD QK.code QK.text)∨(QK.over=D/\n<200/\au QK.name=QC)
theorem sK {f:Nat->Ins}{cnt place steps looks:Nat}{b s:List ByteArray}{a:Bool}{nm:ByteArray}(h:bH f cnt place steps looks b=.inr (.inr (a,nm,s))):place<cnt:=by
 unfold bH at h;split at h
 ·cases h
 ·omega
theorem mg {nm:ByteArray}(h:au nm=QC):nm.size<=60:=by simp only[au,gM,j4] at h;omega
theorem AE (f:Nat->Ins)(cnt:Nat)(y:Nat->aA)(n:Nat)(o:cQ f cnt=QC)(u:cnt<=200)(C:∀ i,i<n->(y i).text.size<=2000)(k:Nat):∀ place steps looks b,b.length<=50->(∀ z∈b,z.size<=2000)->place<=2000->steps<=2000->looks<=200->looks<=n->k+steps=2001->yx n (bV f cnt y n k place steps looks b):=by
 induction k with
 | zero=>intro _ _ _ _ _ _ _ _ _ _ h;omega
 | succ k m =>
  intro place steps looks b h1 h2 t h4 q B h7;have d:=ui (f:=f) (cnt:=cnt) (place:=place) (steps:=steps) h1 h2 q o u;rw[bV];rcases hs:bH f cnt place steps looks b with ⟨s,p⟩ | ⟨c,x⟩ | ⟨a,nm,s⟩
  ·rw[hs] at d
   obtain⟨r,g,j⟩:=d;obtain⟨l,A⟩:=i8 hs;simp only;rw[l];exact m _ _ _ _ r g j (by omega) q B (by omega)
  ·exact .inl ⟨rfl,wX hs h2 t⟩
  ·rw[hs] at d
   obtain⟨r,g,j,g4⟩:=d;obtain⟨l,A⟩:=ku hs;have hp:=sK hs;have hz:=mg j;simp only;rw[l];split
   ·exact .inr ⟨rfl,by omega,j⟩
   ·split
    ·refine m _ _ _ _ (by simp;omega) (fun z hz=>?_) (by omega) (by omega) (by omega) (by omega) (by omega)
     rcases BC.1 hz with rfl | hz
     ·exact iC _
     ·exact g z hz
    ·split
     ·exact .inl ⟨rfl,by simp[fC],by simp[fC],by simp only[fC];omega⟩
     ·split
      ·refine m _ _ _ _ (by simp;omega) (fun z hz=>?_) (by omega) (by omega) (by omega) (by omega) (by omega)
       rcases BC.1 hz with rfl | hz
       ·exact C _ (by omega)
       ·exact g z hz
      ·exact .inl ⟨rfl,by simp[fC],by simp[fC],by simp only[fC];omega⟩
def iE (S:Spc)(b:List ByteArray)(d:List Ent):Nat->Bool:=fun t=>(aK d (S.f1 t).name).isNone && (atL b (S.f1 t).name).isNone
def dG (S:Spc)(b:List ByteArray)(d:List Ent):Nat:=(List.range S.n1).countP (iE S b d)
theorem ic (b:List Ent)(e:Ent)(t:ByteArray):aK (b++[e]) t=(aK b t).or (if (e.name.toList == t.toList)=QC then Q e else Z):=by unfold aK;rw[List.find?_append];cases h:(e.name.toList == t.toList)<;>simp[h]
theorem pk (L:List ByteArray)(x t:ByteArray):(atL (L++[x]) t).isNone=((atL L t).isNone && !(x.toList == t.toList)):=by unfold atL;rw[KU];cases h:(x.toList == t.toList)<;>cases h2:List.findIdx? (fun x=>x.toList == t.toList) L<;>simp[h,LJ]
theorem js (S:Spc)(b:List ByteArray)(d:List Ent)(e:Ent):dG S b (d++[e])<=dG S b d:=by
 refine KN fun t _ h=>?_;simp only[iE,gM,ic] at h ⊢;refine⟨?_,h.2⟩;cases h2:aK d (S.f1 t).name with
 | none=>rfl
 | some x=>rw[h2] at h;simp at h
theorem pV (S:Spc)(b:List ByteArray)(d:List Ent)(e:Ent):dG S b (d++[e])<=dG S (b++[e.name]) d:=by
 refine KN fun t _ h=>?_;simp only[iE,gM,ic,pk] at h ⊢;cases h2:aK d (S.f1 t).name with
 | some x=>rw[h2] at h;simp at h
 | none =>
  rw[h2] at h;refine⟨rfl,h.2,?_⟩;cases h3:(e.name.toList == (S.f1 t).name.toList) with
  | false=>rfl
  | true=>rw[h3] at h;simp at h
theorem pW {p q:Nat->Bool}{l:List Nat}(h:∀ x∈l,p x=QC->q x=QC){a:Nat}(b:a∈l)(h1:p a=D)(h2:q a=QC):l.countP p+1<=l.countP q:=by
 induction l with
 | nil=>cases b
 | cons x l d =>
  have hm:l.countP p<=l.countP q:=KN fun z hz=>h z (mq _ hz);rw[List.countP_cons,List.countP_cons];rcases BC.1 b with rfl | b
  ·rw[h1,h2];simp;omega
  ·have:=d (fun z hz=>h z (mq _ hz)) b
   cases hp:p x with
   | false=>simp;split<;>omega
   | true=>rw[h x JN hp];simp;omega
theorem fG {S:Spc}{making:List ByteArray}{made:List Ent}{nm:ByteArray}{t:Nat}(d:t<S.n1)(b:(S.f1 t).name=nm)(h1:aK made nm=Z)(h2:atL making nm=Z):dG S (making++[nm]) made+1<=dG S making made:=by
 refine pW (fun x _ h=>?_) (BO.2 d) ?_ ?_
 ·simp only[iE,gM,pk] at h ⊢
  exact⟨h.1,h.2.1⟩
 ·simp[iE,pk,b]
 ·simp[iE,b,h1,h2]
theorem aT {g:Nat->ByteArray}{n:Nat}{t:ByteArray}{i:Nat}(h:atI g n t=Q i):i<n/\g i=t:=by unfold atI at h;have h1:=List.find?_some h;have h2:=LA h;exact⟨BO.1 h2,bytes_beq h1⟩
def fq (S:Spc)(b:List ByteArray)(f d:List Ent)(k:Nat):Prop:=d.length+201*dG S b d<=f.length+201*dG S b f+k
theorem pX {S:Spc}{lies:List Ent->ByteArray->Out Ent}{making:List ByteArray}{t:Nat}(j:∀ d nm b e,lies d nm=.inl (b,e)->fq S making d b 1):∀ k d f g b x,bO S lies t k d f g=.inl (b,x)->fq S making d b (k - 1):=by
 intro k;induction k with
 | zero=>intro d f g b x h;cases h
 | succ k i =>
  intro d f g b x h;rw[bO] at h;split at h
  ·cases h;unfold fq;omega
  ·cases k with
   | zero =>
    split at h
    ·cases h
    ·split at h<;>cases h
   | succ k =>
    split at h
    ·have:=i _ _ _ _ _ h
     unfold fq at this ⊢;omega
    ·split at h
     ·rename_i made1 e l
      have h1:=j _ _ _ _ l;have h2:=i _ _ _ _ _ h;unfold fq at h1 h2 ⊢;omega
     ·cases h
     ·cases h
theorem gj (S:Spc):∀ n b f nm d e,aL S n b f nm=.inl (d,e)->fq S b f d 1:=by
 intro n;have k:∀ b f nm d e (tgt:Nat->Out Ent),(∀ t d e,atI (nm1 S.f1) S.n1 nm=Q t->aK f nm=Z->atL b nm=Z->tgt t=.inl (d,e)->fq S b f d 1)->dm S tgt b f nm=.inl (d,e)->fq S b f d 1:=by
  intro b f nm d e tgt o h;unfold dm at h;split at h
  ·cases h;unfold fq;omega
  ·rename_i l
   split at h
   ·cases h
   ·rename_i h1
    unfold d9 dP at h;split at h
    ·rename_i i hi
     cases h
     have:=js S b f ⟨nm,1,0,(S.f0 i).text,0,[]⟩;unfold fq;rw[cM,p7];omega
    ·split at h
     ·rename_i t j
      exact o _ _ _ j l h1 h
     ·cases h
      have:=js S b f ⟨nm,2,0,⟨#[]⟩,0,[]⟩;unfold fq;rw[cM,p7];omega
 induction n with
 | zero =>intro b f nm d e h;rw[aL] at h;exact k _ _ _ _ _ _ (fun t _ _ _ _ _ h=>by cases h) h
 | succ n m =>
  intro b f nm d e h;rw[aL] at h;refine k _ _ _ _ _ _ (fun t d e j l h1 h=>?_) h;rcases hr:bO S (aL S n (b++[nm])) t 201 f [] [] with ⟨g,x⟩ | c | c
  ·rw[hr] at h
   simp only[gF,dP,KK,CV] at h;obtain⟨rfl,rfl⟩:=h;have q:=pX (making:=b++[nm]) (fun f nm2 d e p=>m _ _ _ _ _ p) _ _ _ _ _ _ hr;have g2:=fG (making:=b) (made:=f) (aT j).1 (aT j).2 l h1;have g3:dG S b (g++[⟨nm,3,x.1.code,x.1.text,t,x.2⟩])<=dG S (b++[nm]) g:=pV S b g ⟨nm,3,x.1.code,x.1.text,t,x.2⟩;unfold fq at q ⊢;rw[cM,p7];omega
  ·rw[hr] at h;cases h
  ·rw[hr] at h;cases h
structure SpcOk (S:Spc):Prop where
 chk:aU S.n0 S.f0 S.n1 S.f1=0
 asc0:aE (nm0 S.f0) S.n0=QC
 asc1:aE (nm1 S.f1) S.n1=QC
 small:S.n0+S.n1<=200
 text:∀ i,i<S.n0->(S.f0 i).text.size<=2000
 act:∀ t,t<S.n1->valid (S.f1 t).act (S.f1 t).actN=QC
theorem gG {p:Nat->Bool}{n i:Nat}(h:aH p n=D)(hi:i<n):p i=D:=by
 induction n with
 | zero=>omega
 | succ n b =>
  rw[aH,MW] at h;by_cases e:i=n
  ·subst e;exact h.2
  ·exact b h.1 (by omega)
theorem SpcOk.of {S:Spc}(h:aU S.n0 S.f0 S.n1 S.f1=0):SpcOk S:=by
 obtain⟨h1,h2,f⟩:=pJ h;have b:=h;unfold aU at h;split at h;· omega
 split at h;· omega
 split at h;· omega
 split at h;· omega
 split at h;· omega
 split at h;· omega
 split at h;· omega
 split at h;· omega
 rename_i j g;refine⟨b,h1,h2,f,fun i hi=>?_,fun t d=>?_⟩
 ·have:=gG (Bool.eq_false_iff.2 j) hi
  simp only[eo,IK] at this;omega
 ·have:=gG (Bool.eq_false_iff.2 g) d
  simpa[cy] using this
structure EG (S:Spc)(x:Ent):Prop where
 nm:au x.name=QC
 tx:x.text.size<=2000
 code:0<=x.code/\x.code<=5
 kind:(x.kind=1/\x.code=0/\x.looks=[]/\∃ i,atI (nm0 S.f0) S.n0 x.name=Q i/\x.text=(S.f0 i).text)∨(x.kind=2/\x.code=0/\x.text=⟨#[]⟩/\x.looks=[]/\atI (nm0 S.f0) S.n0 x.name=Z/\atI (nm1 S.f1) S.n1 x.name=Z)∨(x.kind=3/\atI (nm0 S.f0) S.n0 x.name=Z/\atI (nm1 S.f1) S.n1 x.name=Q x.tg)
 looks:x.looks.length<=200
 lname:∀ l∈x.looks,au l.name=QC
structure PG (S:Spc)(making:List ByteArray)(made:List Ent):Prop where
 ents:∀ x∈made,EG S x
 nod:made.Pairwise fun x y=>x.name≠y.name
 off:∀ x∈made,atL making x.name=Z
 ord:∀ (i:Nat) (x:Ent),made[i]?=Q x->∀ l∈x.looks,l.ask=QC->∃ (j:Nat) (y:Ent),j<i/\made[j]?=Q y/\y.name=l.name
theorem fH (S:Spc)(b:List ByteArray):PG S b []:=⟨fun x h=>absurd h nj,List.Pairwise.nil,fun x h=>absurd h nj,fun i x h=>by simp at h⟩
theorem dd {b:List Ent}{nm:ByteArray}(h:aK b nm=Z):∀ x∈b,x.name≠nm:=by intro x d e;have:=JO.1 h x d;rw[e] at this;simp at this
theorem fB {b:List Ent}{nm:ByteArray}{e:Ent}(h:aK b nm=Q e):e∈b/\e.name=nm:=⟨LA h,bytes_beq (List.find?_some (p:=fun e:Ent=>e.name.toList == nm.toList) h)⟩
theorem jd {L:List ByteArray}{nm:ByteArray}(h:atL L nm=Z):∀ x∈L,x≠nm:=by intro x b e;have:=JH.1 h x b;rw[e] at this;simp at this
theorem jJ {L:List ByteArray}{nm:ByteArray}(h:∀ x∈L,x≠nm):atL L nm=Z :=
 JH.2 fun x b=>by
  cases e:(x.toList == nm.toList) with
  | false=>rfl
  | true=>exact absurd (bytes_beq e) (h x b)
theorem PG.add {S:Spc}{g:List ByteArray}{d:List Ent}{e:Ent}(h:PG S g d)(u:EG S e)(A:∀ x∈d,x.name≠e.name)(h1:atL g e.name=Z)(t:∀ l∈e.looks,l.ask=QC->∃ x∈d,x.name=l.name):PG S g (d++[e]):=by
 refine⟨fun x f=>?_,?_,fun x f=>?_,fun i x hi l r o=>?_⟩
 ·rcases kP.1 f with f | f
  ·exact h.ents x f
  ·rw[j3.1 f];exact u
 ·rw[IX]
  exact⟨h.nod,LL _ _,fun a o b hb=>by rw[j3.1 hb];exact A a o⟩
 ·rcases kP.1 f with f | f
  ·exact h.off x f
  ·rw[j3.1 f];exact h1
 ·rcases IW i d.length with q | s
  ·rw[IJ q] at hi
   obtain⟨j,y,n,m,p⟩:=h.ord i x hi l r o;exact⟨j,y,n,by rw[IJ (by omega)];exact m,p⟩
  ·rw[AT s] at hi
   have z:x=e:=by
    cases hk:i - d.length with
    | zero=>rw[hk] at hi;simpa using hi.symm
    | succ k=>rw[hk] at hi;simp at hi
   subst z;obtain⟨y,m,p⟩:=t l r o;obtain⟨j,n,m⟩:=J2 m;exact⟨j,y,by omega,by rw[IJ n,gq n,m],p⟩
structure RG (S:Spc)(made:List Ent)(ys:List aA)(ls:List Lk):Prop where
 good:∀ y∈ys,bT y=QC
 len:ls.length=ys.length
 names:∀ l∈ls,au l.name=QC
 asked:∀ l∈ls,l.ask=QC->∃ x∈made,x.name=l.name
theorem gn (S:Spc)(b:List Ent):RG S b [] []:=⟨fun _ h=>absurd h nj,rfl,fun _ h=>absurd h nj,fun _ h=>absurd h nj⟩
theorem RG.mono {S:Spc}{d b:List Ent}{g:List aA}{f:List Lk}(h:RG S d g f)(j:∀ x∈d,x∈b):RG S b g f:=⟨h.good,h.len,h.names,fun l i k=>let ⟨x,hx,e⟩:=h.asked l i k;⟨x,j x hx,e⟩⟩
theorem RG.add {S:Spc}{b:List Ent}{f:List aA}{d:List Lk}{y:aA}{l:Lk}(h:RG S b f d)(g:bT y=QC)(i:au l.name=QC)(j:l.ask=QC->∃ x∈b,x.name=l.name):RG S b (f++[y]) (d++[l]):=by
 refine⟨fun z hz=>?_,by simp[h.len],fun z hz=>?_,fun z hz=>?_⟩
 ·rcases kP.1 hz with hz | hz
  ·exact h.good z hz
  ·rw[j3.1 hz];exact g
 ·rcases kP.1 hz with hz | hz
  ·exact h.names z hz
  ·rw[j3.1 hz];exact i
 ·rcases kP.1 hz with hz | hz
  ·exact h.asked z hz
  ·rw[j3.1 hz];exact j
theorem wY {d:List aA}(h:∀ y∈d,bT y=QC)(k:Nat):bT (yL d k)=QC:=by
 unfold yL;rcases IW k d.length with b | b
 ·rw[vF,gq b]
  exact h _ (gz b)
 ·rw[vF,IP b]
  rfl
theorem kH {S:Spc}(f:SpcOk S){t:Nat}(d:t<S.n1){b:List aA}(g:∀ y∈b,bT y=QC):yx b.length (bF S t b):=by obtain⟨h1,h2,h3⟩:=bY (f.act t d);refine AE _ _ _ _ h1 (by omega) (fun i _=>?_) 2001 0 0 0 [] (by simp) (by simp) (by omega) (by omega) (by omega) (by omega) (by omega);have:=wY g i;simp only[bT,j4] at this;exact this.1
theorem jS (S:Spc)(t:ByteArray):bT ⟨fh S t,0,⟨#[]⟩⟩=QC:=by simp only[bT,j4];exact⟨by decide,by decide,by decide⟩
theorem iO {S:Spc}{x:Ent}(h:EG S x):bT (fg x)=QC:=by have h1:=h.tx;have h2:=h.code;exact JJ ⟨h1,h2.1,Int.le_trans h2.2 (by decide)⟩
def kI (S:Spc)(d:List ByteArray)(lies:List Ent->ByteArray->Out Ent):Prop:=∀ f nm b e,PG S d f->au nm=QC->lies f nm=.inl (b,e)->PG S d b/\(∃ more,b=f++more)/\e∈b/\e.name=nm
theorem fU {S:Spc}(C:SpcOk S){lies:List Ent->ByteArray->Out Ent}{f:List ByteArray}{t:Nat}(QQ:t<S.n1)(B:kI S f lies):∀ k d g j b x,PG S f d->RG S d g j->g.length+k=201->bO S lies t k d g j=.inl (b,x)->PG S f b/\(∃ more,b=d++more)/\mD x.1.code x.1.text/\x.2.length<=200/\(∀ l∈x.2,au l.name=QC)/\∀ l∈x.2,l.ask=QC->∃ y∈b,y.name=l.name:=by
 intro k;induction k with
 | zero=>intro d g j b x _ _ _ h;cases h
 | succ k r =>
  intro d g j b x o i hk h;have G:=kH C QQ i.good;rw[bO] at h;rcases G with ⟨n,p⟩ | ⟨n,hlt,q⟩
  ·rw[eT n] at h
   cases h
   exact⟨o,⟨[],by simp⟩,p,by rw[i.len];omega,i.names,i.asked⟩
  ·rw[a8 (by rw[n];simp)] at h
   split at h
   ·exact r _ _ _ _ _ o (i.add (jS _ _) q (fun h=>by cases h)) (by simp;omega) h
   ·split at h
    ·rename_i m e p
     obtain⟨s,⟨more,z⟩,u,QN⟩:=B _ _ _ _ o q p;have A:RG S m g j:=i.mono fun x QP=>by rw[z];exact II _ QP
     obtain⟨H,⟨more2,QO⟩,K⟩:=r _ _ _ _ _ s (A.add (l:=⟨(bF S t g).name,QC,D⟩) (iO (s.ents e u)) q (fun _=>⟨e,u,QN⟩)) (by simp;omega) h;exact⟨H,⟨more++more2,by rw[QO,z,IA]⟩,K⟩
    ·cases h
    ·cases h
theorem gH {S:Spc}{b:List ByteArray}{d:List Ent}{nm:ByteArray}(h:PG S b d)(g:aK d nm=Z):PG S (b++[nm]) d :=
 ⟨h.ents,h.nod,fun x f=>jJ fun z hz=>by
  rcases kP.1 hz with hz | hz
  ·exact jd (h.off x f) z hz
  ·rw[j3.1 hz];exact fun e=>dd g x f e.symm,h.ord⟩
theorem iP {S:Spc}{b:List ByteArray}{d:List Ent}{nm:ByteArray}(h:PG S (b++[nm]) d):PG S b d/\∀ x∈d,x.name≠nm :=
 ⟨⟨h.ents,h.nod,fun x f=>jJ fun z hz=>jd (h.off x f) z (II _ hz),h.ord⟩,fun x f e=>jd (h.off x f) nm (I6 _ (j3.2 rfl)) e.symm⟩
theorem AF {S:Spc}{b:List ByteArray}{d:List Ent}{nm:ByteArray}{t:Nat}{x:Turn × List Lk}(h:PG S (b++[nm]) d)(m:au nm=QC)(h1:atL b nm=Z)(h2:atI (nm0 S.f0) S.n0 nm=Z)(k:atI (nm1 S.f1) S.n1 nm=Q t)(f:mD x.1.code x.1.text)(j:x.2.length<=200)(g:∀ l∈x.2,au l.name=QC)(i:∀ l∈x.2,l.ask=QC->∃ y∈d,y.name=l.name):PG S b (d++[⟨nm,3,x.1.code,x.1.text,t,x.2⟩]) :=
 (iP h).1.add ⟨m,f.2.2,⟨f.1,f.2.1⟩,.inr (.inr ⟨rfl,h2,k⟩),j,g⟩ (iP h).2 h1 i
theorem AG {S:Spc}(g:SpcOk S){b:List ByteArray}{d:List Ent}{nm:ByteArray}{i:Nat}(h:PG S b d)(j:au nm=QC)(k:aK d nm=Z)(h1:atL b nm=Z)(h2:atI (nm0 S.f0) S.n0 nm=Q i):PG S b (d++[⟨nm,1,0,(S.f0 i).text,0,[]⟩]) :=
 h.add ⟨j,g.text i (aT h2).1,⟨Int.le_refl _,by show(0:Int)<=5;decide⟩,.inl ⟨rfl,rfl,rfl,i,h2,rfl⟩,CP _,fun l f=>absurd f nj⟩ (dd k) h1 fun l f=>absurd f nj
theorem yy {S:Spc}{b:List ByteArray}{d:List Ent}{nm:ByteArray}(h:PG S b d)(i:au nm=QC)(j:aK d nm=Z)(h1:atL b nm=Z)(h2:atI (nm0 S.f0) S.n0 nm=Z)(g:atI (nm1 S.f1) S.n1 nm=Z):PG S b (d++[⟨nm,2,0,⟨#[]⟩,0,[]⟩]) :=
 h.add ⟨i,CP _,⟨Int.le_refl _,by show(0:Int)<=5;decide⟩,.inr (.inl ⟨rfl,rfl,rfl,rfl,h2,g⟩),CP _,fun l f=>absurd f nj⟩ (dd j) h1 fun l f=>absurd f nj
theorem cP {S:Spc}(o:SpcOk S):∀ n b,kI S b (aL S n b):=by
 intro n;have m:∀ b f nm d e (tgt:Nat->Out Ent),PG S b f->au nm=QC->(∀ t d e,atI (nm0 S.f0) S.n0 nm=Z->atI (nm1 S.f1) S.n1 nm=Q t->aK f nm=Z->atL b nm=Z->tgt t=.inl (d,e)->PG S b d/\(∃ more,d=f++more)/\e∈d/\e.name=nm)->dm S tgt b f nm=.inl (d,e)->PG S b d/\(∃ more,d=f++more)/\e∈d/\e.name=nm:=by
  intro b f nm d e tgt g j u h;unfold dm at h;split at h
  ·rename_i e1 p
   cases h
   exact⟨g,⟨[],by simp⟩,fB p⟩
  ·rename_i l
   split at h
   ·cases h
   ·rename_i h1
    unfold d9 dP at h;split at h
    ·rename_i i hi
     cases h
     exact⟨AG o g j l h1 hi,⟨_,rfl⟩,by simp,rfl⟩
    ·rename_i h2
     split at h
     ·rename_i t k
      exact u _ _ _ h2 k l h1 h
     ·rename_i k
      cases h
      exact⟨yy g j l h1 h2 k,⟨_,rfl⟩,by simp,rfl⟩
 induction n with
 | zero =>intro b f nm d e g j h;rw[aL] at h;exact m _ _ _ _ _ _ g j (fun t _ _ _ _ _ _ h=>by cases h) h
 | succ n r =>
  intro b f nm d e g j h;rw[aL] at h;refine m _ _ _ _ _ _ g j (fun t d e h2 k l h1 h=>?_) h;rcases hr:bO S (aL S n (b++[nm])) t 201 f [] [] with ⟨made1,x⟩ | c | c
  ·rw[hr] at h
   simp only[gF,dP,KK,CV] at h;obtain⟨rfl,rfl⟩:=h;obtain⟨s,⟨more,y⟩,B,A,z,q⟩:=fU o (aT k).1 (r (b++[nm])) _ _ _ _ _ _ (gH g l) (gn S f) rfl hr;exact⟨AF s j h1 h2 k B A z q,⟨more++[_],by rw[y,IA]⟩,by simp,rfl⟩
  ·rw[hr] at h;cases h
  ·rw[hr] at h;cases h
def gI (b:List Ent)(nm:ByteArray):Nat:=b.findIdx fun e=>e.name.toList == nm.toList
def lkD (b:List Ent)(l:Lk):Link:=⟨l.name,l.ask,l.has,if l.ask=QC then ((gI b l.name:Nat):Int) else 0⟩
def lkF (b:List Ent)(d:List Lk):Nat->Link:=fun i=>lkD b (d.getD i ⟨⟨#[]⟩,D,D⟩)
def bW (S:Spc)(e:Ent):Nat:=if e.kind=3 then (S.f1 e.tg).actN else 0
def bi (S:Spc)(b:List Ent)(e:Ent):aj:=⟨e.name,e.kind,e.code,e.text,bW S e,(S.f1 e.tg).act,e.looks.length,lkF b e.looks⟩
def bk (S:Spc)(b:List Ent):List aj:=b.map (bi S b)
theorem jT {b:List Ent}{d:List Lk}{i:Nat}{l:Lk}(h:d[i]?=Q l):lkF b d i=lkD b l:=by unfold lkF;rw[vF,h];rfl
theorem oJ (S:Spc)(nm:ByteArray):PG S [] (bj S nm).1/\(bj S nm).1.length<=40201/\((bj S nm).1≠[]->SpcOk S):=by
 unfold bj;split
 ·rename_i h
  have d:=SpcOk.of h.1;split
  ·rename_i b e g
   have f:=gj S 60 [] [] nm b e g;unfold fq at f;have hl:dG S [] []<=S.n1:=by unfold dG;have:=KO (p:=iE S [] []) (l:=List.range S.n1);simpa using this
   have hs:=d.small;refine⟨(cP d 60 [] [] nm b e (fH S []) h.2 g).1,?_,fun _=>d⟩;simp only[ES] at f;show b.length<=40201;omega
  ·exact⟨fH S [],CP _,fun h=>absurd rfl h⟩
  ·exact⟨fH S [],CP _,fun h=>absurd rfl h⟩
 ·exact⟨fH S [],CP _,fun h=>absurd rfl h⟩
theorem PG.idx {S:Spc}{d:List ByteArray}{b:List Ent}(h:PG S d b){i:Nat}{x:Ent}(k:b[i]?=Q x):gI b x.name=i:=by
 obtain⟨hi,e⟩:=kS.1 k;unfold gI;rw[List.findIdx_eq hi];refine⟨by simp[e],fun j g=>?_⟩;have f:=DN.1 h.nod j i (by omega) hi g;rw[e] at f;cases hb:(b[j].name.toList == x.name.toList) with
 | false=>rfl
 | true=>exact absurd (bytes_beq hb) f
theorem PG.asked {S:Spc}{d:List ByteArray}{b:List Ent}(h:PG S d b){i:Nat}{x:Ent}(k:b[i]?=Q x){l:Lk}(g:l∈x.looks)(m:l.ask=QC):∃ y,b[gI b l.name]?=Q y/\y.name=l.name/\gI b l.name<i:=by obtain⟨j,y,hj,f,e⟩:=h.ord i x k l g m;have:=h.idx f;rw[e] at this;exact⟨y,by rw[this];exact f,e,by omega⟩
theorem yz {S:Spc}{b:List Ent}(h:PG S [] b)(g:∀ i,i<S.n1->aS (S.f1 i)):∀ x∈bk S b,cY x:=by
 intro x j;obtain⟨e,f,rfl⟩:=IC.1 j;have d:=h.ents e f;refine⟨?_,?_⟩
 ·show bW S e<=1048576
  unfold bW;split
  ·rename_i hk
   rcases d.kind with ⟨k,_⟩ | ⟨k,_⟩ | ⟨_,_,k⟩
   ·omega
   ·omega
   ·exact g e.tg (aT k).1
  ·omega
 ·have:=d.looks
  show e.looks.length<=1048576;omega
def ec (n0:Nat)(f0:Nat->Source)(n1:Nat)(f1:Nat->Target)(f:Nat->aj)(p:Nat):Int:=if iU n0 f0 n1 f1 (f p)=QC then 2 else if hasB n0 f0 n1 f1 (f p)=QC then 3 else codeF f p
def fr (c:Nat->Int):Nat->Int × Int
 | 0=>(0,0)
 | k+1=>if (fr c k).1=0 then (if c k=0 then (0,0) else (c k,(k:Int))) else fr c k
def gu (n0:Nat)(f0:Nat->Source)(n1:Nat)(f1:Nat->Target)(f:Nat->aj)(n:Nat):Int × Int:=if aX f n=QC then (if aU n0 f0 n1 f1=0 then fr (ec n0 f0 n1 f1 f) n else (1,0)) else (1,0)
theorem iF {c:Nat->Int}{n k:Nat}(hk:k<n)(d:∀ i,i<k->c i=0)(h:c k≠0):fr c n=(c k,(k:Int)):=by
 have hz:∀ m,m<=k->fr c m=(0,0):=by
  intro m hm;induction m with
  | zero=>rfl
  | succ m b=>rw[fr,b (by omega),eT rfl,eT (d m (by omega))]
 induction n with
 | zero=>omega
 | succ n b =>
  rw[fr];by_cases e:k=n
  ·subst e
   rw[hz k lr,eT rfl,a8 h]
  ·rw[b (by omega),a8 h]
theorem pY {c:Nat->Int}{n:Nat}(b:∀ i,i<n->c i=0):fr c n=(0,0):=by
 induction n with
 | zero=>rfl
 | succ m d=>rw[fr,d fun i hi=>b i (by omega),eT rfl,eT (b m (by omega))]
theorem AH (n0:Nat)(f0:Nat->Source)(n1:Nat)(f1:Nat->Target)(f:Nat->aj)(p:Nat):ec n0 f0 n1 f1 f p=if iU n0 f0 n1 f1 (f p)=QC then 2 else if hasB n0 f0 n1 f1 (f p)=QC then 3 else if fm f p=QC then 4 else if jb f p=QC then 5 else 0:=by unfold ec;rw[uV]
def cj (b:List Ent)(l:Lk):aA:=if l.ask=QC then ((aK b l.name).elim gE fg) else ⟨l.has,0,⟨#[]⟩⟩
structure Rn (S:Spc)(made:List Ent)(x:Ent):Prop where
 has:∀ l∈x.looks,l.ask=QC->l.has=D
 ahd:∀ l∈x.looks,l.ask=QC->∃ y,aK made l.name=Q y
 go:x.kind=3->∀ k l,x.looks[k]?=Q l->(bF S x.tg ((x.looks.take k).map (cj made))).over=D/\(bF S x.tg ((x.looks.take k).map (cj made))).name=l.name/\(bF S x.tg ((x.looks.take k).map (cj made))).ask=l.ask
 fin:x.kind=3->(bF S x.tg (x.looks.map (cj made))).over=QC/\(bF S x.tg (x.looks.map (cj made))).code=x.code/\(bF S x.tg (x.looks.map (cj made))).text=x.text
theorem kJ {b more:List Ent}{t:ByteArray}{y:Ent}(h:aK b t=Q y):aK (b++more) t=Q y:=by unfold aK at h ⊢;rw[List.find?_append,h];rfl
theorem yA {b more:List Ent}{l:Lk}(h:l.ask=QC->∃ y,aK b l.name=Q y):cj (b++more) l=cj b l:=by
 unfold cj;split
 ·rename_i f
  obtain⟨y,d⟩:=h f;rw[d,kJ d]
 ·rfl
theorem kK {made more:List Ent}{b:List Lk}(h:∀ l∈b,l.ask=QC->∃ y,aK made l.name=Q y):b.map (cj (made++more))=b.map (cj made) :=
 List.map_congr_left fun l d=>yA (h l d)
theorem Rn.more {S:Spc}{b more:List Ent}{x:Ent}(h:Rn S b x):Rn S (b++more) x:=by
 refine⟨h.has,fun l d i=>?_,fun f k l d=>?_,fun f=>?_⟩
 ·obtain⟨y,g⟩:=h.ahd l d i
  exact⟨y,kJ g⟩
 ·rw[kK (made:=b) (more:=more) fun l d=>h.ahd l (JT d)]
  exact h.go f k l d
 ·rw[kK h.ahd]
  exact h.fin f
theorem uX {S:Spc}{b:List Ent}{x:Ent}(d:x.kind≠3)(f:x.looks=[]):Rn S b x :=
 ⟨(fun l h=>by rw[f] at h;cases h),(fun l h=>by rw[f] at h;cases h),fun h=>absurd h d,fun h=>absurd h d⟩
structure Rl (S:Spc)(t:Nat)(made:List Ent)(ys:List aA)(ls:List Lk):Prop where
 rep:ys=ls.map (cj made)
 has:∀ l∈ls,l.ask=QC->l.has=D
 ahd:∀ l∈ls,l.ask=QC->∃ y,aK made l.name=Q y
 go:∀ k l,ls[k]?=Q l->(bF S t ((ls.take k).map (cj made))).over=D/\(bF S t ((ls.take k).map (cj made))).name=l.name/\(bF S t ((ls.take k).map (cj made))).ask=l.ask
theorem Rl.more {S:Spc}{t:Nat}{b more:List Ent}{g:List aA}{f:List Lk}(h:Rl S t b g f):Rl S t (b++more) g f:=by
 refine⟨by rw[kK h.ahd];exact h.rep,h.has,fun l d j=>?_,fun k l d=>?_⟩
 ·obtain⟨y,i⟩:=h.ahd l d j
  exact⟨y,kJ i⟩
 ·rw[kK (made:=b) (more:=more) fun l d=>h.ahd l (JT d)]
  exact h.go k l d
theorem Rl.add {S:Spc}{t:Nat}{b:List Ent}{d:List aA}{f:List Lk}{r:aA}{l:Lk}(h:Rl S t b d f)(o:r=cj b l)(h1:l.ask=QC->l.has=D)(h2:l.ask=QC->∃ y,aK b l.name=Q y)(j:(bF S t d).over=D)(m:(bF S t d).name=l.name)(n:(bF S t d).ask=l.ask):Rl S t b (d++[r]) (f++[l]):=by
 refine⟨by rw[E2,<-h.rep,o];rfl,fun z hz=>?_,fun z hz=>?_,fun k z hz=>?_⟩
 ·rcases kP.1 hz with hz | hz
  ·exact h.has z hz
  ·rw[j3.1 hz];exact h1
 ·rcases kP.1 hz with hz | hz
  ·exact h.ahd z hz
  ·rw[j3.1 hz];exact h2
 ·rcases IW k f.length with g | hge
  ·rw[IJ g] at hz
   rw[List.take_append_of_le_length (by omega)];exact h.go k z hz
  ·have i:k=f.length:=by
    have:=(kS.1 hz).1;simp at this;omega
   subst i;rw[AT lr,JW] at hz;obtain rfl:l=z:=by simpa using hz
   rw[List.take_left,<-h.rep];exact⟨j,m,n⟩
def uY (S:Spc)(f:List ByteArray)(lies:List Ent->ByteArray->Out Ent):Prop:=∀ d nm b e,PG S f d->au nm=QC->(∀ x∈d,Rn S d x)->lies d nm=.inl (b,e)->(∀ x∈b,Rn S b x)/\aK b nm=Q e
theorem AJ {S:Spc}(QN:SpcOk S){lies:List Ent->ByteArray->Out Ent}{f:List ByteArray}{t:Nat}(K:t<S.n1)(QO:kI S f lies)(M:uY S f lies):∀ k d g m b x,PG S f d->RG S d g m->(∀ x∈d,Rn S d x)->Rl S t d g m->g.length+k=201->bO S lies t k d g m=.inl (b,x) ->
  (∀ z∈b,Rn S b z)/\(∀ l∈x.2,l.ask=QC->l.has=D)/\(∀ l∈x.2,l.ask=QC->∃ y,aK b l.name=Q y)/\(∀ k l,x.2[k]?=Q l->(bF S t ((x.2.take k).map (cj b))).over=D/\(bF S t ((x.2.take k).map (cj b))).name=l.name/\(bF S t ((x.2.take k).map (cj b))).ask=l.ask)/\(bF S t (x.2.map (cj b))).over=QC/\bF S t (x.2.map (cj b))=x.1:=by
 intro k;induction k with
 | zero=>intro d g m b x _ _ _ _ _ h;cases h
 | succ k A =>
  intro d g m b x u q s i hk h;have O:=kH QN K q.good;rw[bO] at h;rcases O with ⟨o,r⟩ | ⟨o,hlt,n⟩
  ·rw[eT o] at h
   cases h
   exact⟨s,i.has,i.ahd,i.go,by rw[<-i.rep];exact o,by rw[<-i.rep]⟩
  ·rw[a8 (by rw[o];simp)] at h
   split at h
   ·rename_i p
    exact A _ _ _ _ _ u (q.add (jS _ _) n (fun h=>by cases h)) s (i.add (by unfold cj;rw[a8 (by simp)]) (fun h=>by cases h) (fun h=>by cases h) o rfl p) (by simp;omega) h
   ·rename_i p
    split at h
    ·rename_i j e r
     obtain⟨B,⟨more,QQ⟩,H,QM⟩:=QO _ _ _ _ u n r;obtain⟨L,C⟩:=M _ _ _ _ u n s r;have QP:RG S j g m:=q.mono fun x i=>by rw[QQ];exact II _ i
     have G:Rl S t j g m:=by rw[QQ];exact i.more
     exact A _ _ _ _ _ B (QP.add (l:=⟨(bF S t g).name,QC,D⟩) (iO (B.ents e H)) n (fun _=>⟨e,H,QM⟩)) L (G.add (by unfold cj;rw[eT rfl];show fg e=(aK j (bF S t g).name).elim gE fg;rw[C];rfl) (fun _=>rfl) (fun _=>⟨e,C⟩) o rfl (by simpa using p)) (by simp;omega) h
    ·cases h
    ·cases h
theorem iG {b:List Ent}{e:Ent}(h:aK b e.name=Z):aK (b++[e]) e.name=Q e:=by rw[ic,h];simp
theorem sL {b:List Ent}{nm:ByteArray}(h:∀ x∈b,x.name≠nm):aK b nm=Z :=
 JO.2 fun x d e=>h x d (bytes_beq e)
theorem pn {S:Spc}{b:List Ent}{e:Ent}(h:∀ x∈b,Rn S b x)(f:Rn S b e):∀ x∈b++[e],Rn S (b++[e]) x:=fun x d=>by
 rcases kP.1 d with d | d
 ·exact(h x d).more
 ·rw[j3.1 d];exact f.more
theorem Ep (S:Spc)(t:Nat)(b:List Ent):Rl S t b [] []:=⟨rfl,fun _ h=>absurd h nj,fun _ h=>absurd h nj,fun k l h=>by simp at h⟩
theorem yB {S:Spc}(m:SpcOk S):∀ n b,uY S b (aL S n b):=by
 intro n;have o:∀ b f nm d e (tgt:Nat->Out Ent),PG S b f->au nm=QC->(∀ x∈f,Rn S f x)->(∀ t d e,atI (nm1 S.f1) S.n1 nm=Q t->aK f nm=Z->tgt t=.inl (d,e)->(∀ x∈d,Rn S d x)/\aK d nm=Q e)->dm S tgt b f nm=.inl (d,e)->(∀ x∈d,Rn S d x)/\aK d nm=Q e:=by
  intro b f nm d e tgt i l g s h;unfold dm at h;split at h
  ·rename_i e1 B
   cases h
   exact⟨g,B⟩
  ·rename_i j
   split at h
   ·cases h
   ·unfold d9 dP at h
    split at h
    ·cases h
     exact⟨pn g (uX (by show(1:Int)≠3;decide) rfl),iG j⟩
    ·split at h
     ·rename_i t k
      exact s _ _ _ k j h
     ·cases h
      exact⟨pn g (uX (by show(2:Int)≠3;decide) rfl),iG j⟩
 induction n with
 | zero =>intro b f nm d e i l g h;rw[aL] at h;exact o _ _ _ _ _ _ i l g (fun t _ _ _ _ h=>by cases h) h
 | succ n r =>
  intro b f nm d e i l g h;rw[aL] at h;refine o _ _ _ _ _ _ i l g (fun t d e k j h=>?_) h;rcases hr:bO S (aL S n (b++[nm])) t 201 f [] [] with ⟨made1,x⟩ | c | c
  ·rw[hr] at h
   simp only[gF,dP,KK,CV] at h;obtain⟨rfl,rfl⟩:=h;have p:=gH i j;obtain⟨QQ,_⟩:=fU m (aT k).1 (cP m n (b++[nm])) _ _ _ _ _ _ p (gn S f) rfl hr;obtain⟨A,C,u,z,y,q⟩:=AJ m (aT k).1 (cP m n (b++[nm])) (r (b++[nm])) _ _ _ _ _ _ p (gn S f) g (Ep S t f) rfl hr;exact⟨pn A ⟨C,u,fun _=>z,fun _=>⟨y,by rw[q],by rw[q]⟩⟩,iG (e:=⟨nm,3,x.1.code,x.1.text,t,x.2⟩) (sL (iP QQ).2)⟩
  ·rw[hr] at h;cases h
  ·rw[hr] at h;cases h
theorem yD (f:Nat->Ins)(cnt:Nat)(g:List aA)(r:aA)(o:r.has=D)(k:Nat):∀ place steps looks i,looks<=g.length->(bV f cnt (yL g) g.length k place steps looks i).over=D->(bV f cnt (yL g) g.length k place steps looks i).ask=QC->(bV f cnt (yL (g++[r])) (g.length+1) k place steps looks i).over=QC:=by
 induction k with
 | zero=>intro _ _ _ _ _ _ h;cases h
 | succ k j =>
  intro place steps looks i n d b;rw[bV] at d b ⊢;rcases hs:bH f cnt place steps looks i with ⟨s,p⟩ | ⟨c,x⟩ | ⟨a,nm,s⟩
  ·rw[hs] at d b
   exact j _ _ _ _ n d b
  ·rfl
  ·rw[hs] at d b
   simp only at d b ⊢;rw[a8 (show ¬ g.length+1<=looks by omega)];by_cases m:g.length<=looks
   ·obtain rfl:looks=g.length:=by omega
    rw[eT m] at d b;have l:a=QC:=b;subst l;rw[a8 (by simp),Cm,eT o];rfl
   ·rw[a8 m] at d b
    rw[yw _ _ (by omega)];split
    ·rename_i h1
     rw[eT h1] at d b;exact j _ _ _ _ (by omega) d b
    ·rename_i h1
     rw[a8 h1] at d b;split
     ·rfl
     ·rename_i h2
      rw[a8 h2] at d b;split
      ·rename_i q
       rw[eT q] at d b;exact j _ _ _ _ (by omega) d b
      ·rfl
def kL (S:Spc)(b:List Ent):Nat:=(List.range S.n0).countP fun i=>(aK b (S.f0 i).name).isNone
def Mu (S:Spc)(d:List ByteArray)(b:List Ent):Nat:=b.length+2*dG S d b+kL S b
theorem pZ (S:Spc)(b:List Ent)(e:Ent):kL S (b++[e])<=kL S b:=by
 refine KN fun t _ h=>?_;rw[ic] at h;cases h2:aK b (S.f0 t).name with
 | none=>rfl
 | some x=>rw[h2] at h;simp at h
theorem yE {S:Spc}{b:List Ent}{e:Ent}{i:Nat}(hi:i<S.n0)(d:(S.f0 i).name=e.name)(h:aK b e.name=Z):kL S (b++[e])+1<=kL S b:=by
 refine pW (fun x _ h=>?_) (BO.2 hi) ?_ ?_
 ·rw[ic] at h
  cases h2:aK b (S.f0 x).name with
  | none=>rfl
  | some y=>rw[h2] at h;simp at h
 ·rw[d,iG h]
  rfl
 ·rw[d,h]
  rfl
def yF (S:Spc)(b:List ByteArray)(lies:List Ent->ByteArray->Out Ent):Prop:=∀ f nm d e,lies f nm=.inl (d,e)->Mu S b d<=Mu S b f+if e.kind=2 then 1 else 0
theorem Dq {S:Spc}{lies:List Ent->ByteArray->Out Ent}{d:List ByteArray}{t:Nat}(n:yF S d lies):∀ k f g j b x,bO S lies t k f g j=.inl (b,x)->Mu S d b<=Mu S d f+1:=by
 intro k;induction k with
 | zero=>intro f g j b x h;cases h
 | succ k m =>
  intro f g j b x h;rw[bO] at h;split at h
  ·cases h;omega
  ·rename_i o
   split at h
   ·exact m _ _ _ _ _ h
   ·rename_i p
    split at h
    ·rename_i made1 e q
     have h1:=n _ _ _ _ q;by_cases i:e.kind=2
     ·have l:(bF S t (g++[fg e])).over=QC:=by
       have:=yD (S.f1 t).act (S.f1 t).actN g (fg e) (by simp[fg,i]) 2001 0 0 0 [] (CP _) (by simpa[bF] using o) (by simpa[bF] using p);unfold bF;rw[cM];exact this
      cases k with
      | zero=>cases h
      | succ k =>
       rw[bO,eT l] at h;cases h
       rw[eT i] at h1;exact h1
     ·rw[a8 i] at h1
      have:=m _ _ _ _ _ h;omega
    ·cases h
    ·cases h
theorem AN (S:Spc):∀ n b,yF S b (aL S n b):=by
 intro n;have l:∀ b d nm f e (tgt:Nat->Out Ent),(∀ t f e,atI (nm1 S.f1) S.n1 nm=Q t->aK d nm=Z->atL b nm=Z->tgt t=.inl (f,e)->Mu S b f<=Mu S b d)->dm S tgt b d nm=.inl (f,e)->Mu S b f<=Mu S b d+if e.kind=2 then 1 else 0:=by
  intro b d nm f e tgt o h;unfold dm at h;split at h
  ·cases h;omega
  ·rename_i k
   split at h
   ·cases h
   ·rename_i h1
    unfold d9 dP at h;split at h
    ·rename_i i hi
     cases h
     have:=js S b d ⟨nm,1,0,(S.f0 i).text,0,[]⟩;have:=yE (S:=S) (e:=⟨nm,1,0,(S.f0 i).text,0,[]⟩) (aT hi).1 (aT hi).2 k;unfold Mu;rw[cM,p7];omega
    ·split at h
     ·rename_i t j
      have:=o _ _ _ j k h1 h;omega
     ·cases h
      have:=js S b d ⟨nm,2,0,⟨#[]⟩,0,[]⟩;have:=pZ S d ⟨nm,2,0,⟨#[]⟩,0,[]⟩;rw[eT rfl];unfold Mu;rw[cM,p7];omega
 induction n with
 | zero =>intro b d nm f e h;rw[aL] at h;exact l _ _ _ _ _ _ (fun t _ _ _ _ _ h=>by cases h) h
 | succ n m =>
  intro b d nm f e h;rw[aL] at h;refine l _ _ _ _ _ _ (fun t f e j k h1 h=>?_) h;rcases hr:bO S (aL S n (b++[nm])) t 201 d [] [] with ⟨g,x⟩ | c | c
  ·rw[hr] at h
   simp only[gF,dP,KK,CV] at h;obtain⟨rfl,rfl⟩:=h;have p:=Dq (m (b++[nm])) _ _ _ _ _ _ hr;have g2:=fG (making:=b) (made:=d) (aT j).1 (aT j).2 k h1;have g3:dG S b (g++[⟨nm,3,x.1.code,x.1.text,t,x.2⟩])<=dG S (b++[nm]) g:=pV S b g ⟨nm,3,x.1.code,x.1.text,t,x.2⟩;have g4:=pZ S g ⟨nm,3,x.1.code,x.1.text,t,x.2⟩;unfold Mu at p ⊢;rw[cM,p7];omega
  ·rw[hr] at h;cases h
  ·rw[hr] at h;cases h
theorem wZ {S:Spc}(f:SpcOk S){nm:ByteArray}{b:List Ent}{e:Ent}(h:aL S 60 [] [] nm=.inl (b,e)):b.length<=400:=by
 have h1:=AN S 60 [] [] nm b e h;have hl:dG S [] []<=S.n1:=by have:=KO (p:=iE S [] []) (l:=List.range S.n1);simpa[dG] using this
 have hs:kL S []<=S.n0:=by have:=KO (p:=fun i=>(aK [] (S.f0 i).name).isNone) (l:=List.range S.n0);simpa[kL] using this
 have h2:=f.small;by_cases d:e.kind=2
 ·rw[aL] at h
  unfold dm at h;simp only[aK,List.find?_nil,atL,List.findIdx?_nil] at h;unfold d9 dP at h;split at h
  ·cases h;cases d
  ·split at h
   ·rename_i t h3
    simp only at h;rcases hr:bO S (aL S 59 ([]++[nm])) t 201 [] [] [] with ⟨made1,x⟩ | c | c
    ·rw[hr] at h
     simp only[gF,dP,KK,CV] at h;obtain⟨rfl,rfl⟩:=h;cases d
    ·rw[hr] at h;cases h
    ·rw[hr] at h;cases h
   ·cases h
    show 1<=400;omega
 ·rw[a8 d] at h1
  unfold Mu at h1;rw[ES] at h1;omega
def sLt (m:Nat):Nat->Bool:=fun q=>decide (q<m)
theorem mh (m:Nat):put (sLt m) m=sLt (m+1):=by funext q;rw[IL];simp only[put,sLt,Bool.or_eq_true,MP,j4];omega
theorem fi {S:Spc}{M:List Ent}{i:Nat}{x:Ent}(h:M[i]?=Q x):dF (bk S M) i=bi S M x:=by unfold dF bk;rw[vF,ID,h];rfl
theorem sM {M b rest:List Ent}{i:Nat}{x:Ent}(hM:M=b++rest)(h:b[i]?=Q x):M[i]?=Q x:=by rw[hM,IJ (kS.1 h).1];exact h
theorem sN {S:Spc}{lies:List Ent->ByteArray->Out Ent}{t:Nat}:∀ k d g f b x,bO S lies t k d g f=.inl (b,x)->∃ more,x.2=f++more:=by
 intro k;induction k with
 | zero=>intro d g f b x h;cases h
 | succ k i =>
  intro d g f b x h;rw[bO] at h;split at h
  ·cases h
   exact⟨[],by simp⟩
  ·split at h
   ·obtain⟨m,e⟩:=i _ _ _ _ _ h
    exact⟨[_]++m,by rw[e,IA]⟩
   ·split at h
    ·obtain⟨m,e⟩:=i _ _ _ _ _ h
     exact⟨[_]++m,by rw[e,IA]⟩
    ·cases h
    ·cases h
section
variable {S:Spc}{M:List Ent}
def sO (S:Spc)(M:List Ent)(g:List ByteArray)(m:Nat)(lies:List Ent->ByteArray->Out Ent):Prop:=∀ f nm b e,PG S g f->au nm=QC->lies f nm=.inl (b,e)->(∃ rest,M=b++rest) ->
 (b=f/\∃ i,i<f.length/\M[i]?=Q e/\e.name=nm)∨(f.length<b.length/\M[b.length - 1]?=Q e/\e.name=nm/\∀ k d,b.length<=k->∃ L,lst (dF (bk S M)) k (b.length - 1) d (sLt f.length)=(sLt b.length,L)/\L.map (·.1)=List.range' f.length (b.length - f.length)/\∀ x∈L,(dF (bk S M) x.1).kind=3->x.2<d+m)
theorem sP {go:Nat->Nat->(Nat->Bool)->(Nat->Bool) × List (Nat × Nat)}{x:aj}{d:Nat}{s:Nat->Bool}{j:Nat}(h:¬ ((x.links j).ask=QC/\(lks go x d s j).1 (x.links j).at_.toNat=D)):lks go x d s (j+1)=lks go x d s j:=by rw[lks,a8 h]
theorem yG (hS:SpcOk S)(hM:PG S [] M){lies:List Ent->ByteArray->Out Ent}{q:List ByteArray}{t m:Nat}(QH:t<S.n1)(hl:kI S q lies)(hh:sO S M q m lies):∀ k b A u f x,PG S q b->RG S b A u->A.length+k=201->bO S lies t k b A u=.inl (f,x)->(∃ rest,M=f++rest)->∀ (p j d:Nat) (s0:Nat->Bool) (C:List (Nat × Nat)) (y:Ent),M[p]?=Q y->y.looks=x.2->f.length<=p->p<=j->lks (lst (dF (bk S M)) j) (dF (bk S M) p) d s0 u.length=(sLt b.length,C) ->
  ∃ L,lks (lst (dF (bk S M)) j) (dF (bk S M) p) d s0 x.2.length=(sLt f.length,C++L)/\L.map (·.1)=List.range' b.length (f.length - b.length)/\∀ z∈L,(dF (bk S M) z.1).kind=3->z.2<d+1+m:=by
 intro k;induction k with
 | zero=>intro b A u f x _ _ _ h;cases h
 | succ k V =>
  intro b A u f x QL QJ hk h QQ p j d s0 C y O G B QO hlk;have hT:=kH hS QH QJ.good;have h0:=h;rw[bO] at h;rcases hT with ⟨QK,X⟩ | ⟨QK,hlt,QP⟩
  ·rw[eT QK] at h
   cases h
   exact⟨[],by rw[hlk,MZ],by simp,fun z hz=>absurd hz nj⟩
  ·rw[a8 (by rw[QK];simp)] at h
   have lk:∀ l more,x.2=(u++[l])++more->(dF (bk S M) p).links u.length=lkD M l:=fun l more e=>by rw[fi O];refine jT ?_;rw[G,e,IA,AT lr,JW];rfl
   split at h
   ·rename_i ha
    obtain⟨more,e⟩:=sN _ _ _ _ _ _ h;have o:=lk _ _ e;refine V _ _ _ _ _ QL (QJ.add (jS _ _) QP (fun h=>by cases h)) (by simp;omega) h QQ p j d s0 C y O G B QO ?_;rw[cM,p7,sP (by rw[o];exact fun h=>by cases h.1)];exact hlk
   ·rename_i ha
    split at h
    ·rename_i g W X
     obtain⟨QM,⟨more1,g2⟩,g3,g4⟩:=hl _ _ _ _ QL QP X;have aq:RG S g A u:=QJ.mono fun x hx=>by rw[g2];exact II _ hx
     have K:=aq.add (l:=⟨(bF S t A).name,QC,D⟩) (iO (QM.ents W g3)) QP (fun _=>⟨W,g3,g4⟩);obtain⟨-,⟨more2,q2⟩,-⟩:=fU hS QH hl _ _ _ _ _ _ QM K (by simp;omega) h;obtain⟨rest,r⟩:=QQ;have bt:∃ rest,M=g++rest:=⟨more2++rest,by rw[r,q2,IA]⟩
     have hle:g.length<=f.length:=by rw[q2,cM];omega
     obtain⟨more,e⟩:=sN _ _ _ _ _ _ h;have o:=lk _ _ e;have QN:∀ i:Nat,M[i]?=Q W->((dF (bk S M) p).links u.length).at_.toNat=i:=fun i hi=>by rw[o];have:=hM.idx hi;rw[g4] at this;simp[lkD,this]
     have R:((dF (bk S M) p).links u.length).ask=QC:=by rw[o];rfl
     rcases hh _ _ _ _ QL QP X bt with ⟨rfl,i,hi,H,-⟩ | ⟨hlt1,H,-,fd⟩
     ·refine V _ _ _ _ _ QM K (by simp;omega) h ⟨rest,r⟩ p j d s0 C y O G B QO ?_
      rw[cM,p7,sP (by rw[hlk,QN i H];simp[sLt,hi])];exact hlk
     ·obtain⟨QG,ex,e2,e3⟩:=fd j (d+1) (by omega)
      have P:lks (lst (dF (bk S M)) j) (dF (bk S M) p) d s0 (u++[(⟨(bF S t A).name,QC,D⟩:Lk)]).length=(sLt g.length,C++QG):=by rw[cM,p7,lks,eT ⟨R,by rw[hlk,QN _ H];simp[sLt];omega⟩,QN _ H,hlk,ex]
      obtain⟨L2,f1,f2,f3⟩:=V _ _ _ _ _ QM K (by simp;omega) h ⟨rest,r⟩ p j d s0 (C++QG) y O G B QO P;refine⟨QG++L2,by rw[f1,IA],?_,fun z hz=>?_⟩
      ·rw[E2,e2,f2]
       have:=List.range'_append_1 (s:=b.length) (m:=g.length - b.length) (n:=f.length - g.length);rw[show b.length+(g.length - b.length)=g.length by omega,show g.length - b.length+(f.length - g.length)=f.length - b.length by omega] at this;exact this
      ·rcases kP.1 hz with hz | hz
       ·exact e3 z hz
       ·exact f3 z hz
    ·cases h
    ·cases h
theorem yH {b:List Ent}{e:Ent}(g:e.kind≠3)(h:e.looks=[])(hM:M[b.length]?=Q e):∀ k d,b.length+1<=k->∃ L,lst (dF (bk S M)) k b.length d (sLt b.length)=(sLt (b.length+1),L)/\L.map (·.1)=List.range' b.length 1/\∀ x∈L,(dF (bk S M) x.1).kind=3->x.2<d+0:=by
 intro k d hk1;cases k with
 | zero=>omega
 | succ k =>
  refine⟨[(b.length,d)],?_,rfl,fun x i f=>?_⟩
  ·have j:(dF (bk S M) b.length).linksN=0:=by
    rw[fi hM];show e.looks.length=0;rw[h];rfl
   rw[lst,j];show(put (sLt b.length) b.length,_)=_;rw[mh];rfl
  ·rw[j3.1 i,fi hM] at f
   exact absurd f g
theorem xa (u:SpcOk S)(hM:PG S [] M):∀ n g,sO S M g n (aL S n g):=by
 intro n
 have A:∀ g b nm f e (tgt:Nat->Out Ent) (m:Nat),PG S g b->au nm=QC->(∃ rest,M=f++rest)->(∀ t f e,atI (nm0 S.f0) S.n0 nm=Z->atI (nm1 S.f1) S.n1 nm=Q t->aK b nm=Z->atL g nm=Z->tgt t=.inl (f,e)->(∃ rest,M=f++rest)->(b.length<f.length/\M[f.length - 1]?=Q e/\e.name=nm/\∀ k d,f.length<=k->∃ L,lst (dF (bk S M)) k (f.length - 1) d (sLt b.length)=(sLt f.length,L)/\L.map (·.1)=List.range' b.length (f.length - b.length)/\∀ x∈L,(dF (bk S M) x.1).kind=3->x.2<d+m))->dm S tgt g b nm=.inl (f,e) ->
   (f=b/\∃ i,i<b.length/\M[i]?=Q e/\e.name=nm)∨(b.length<f.length/\M[f.length - 1]?=Q e/\e.name=nm/\∀ k d,f.length<=k->∃ L,lst (dF (bk S M)) k (f.length - 1) d (sLt b.length)=(sLt f.length,L)/\L.map (·.1)=List.range' b.length (f.length - b.length)/\∀ x∈L,(dF (bk S M) x.1).kind=3->x.2<d+m):=by
  intro g b nm f e tgt m s y o P h;have r:∀ l:Ent,l.kind≠3->l.looks=[]->l.name=nm->(∃ rest,M=(b++[l])++rest)->(b.length<(b++[l]).length/\M[(b++[l]).length - 1]?=Q l/\l.name=nm/\∀ k d,(b++[l]).length<=k->∃ L,lst (dF (bk S M)) k ((b++[l]).length - 1) d (sLt b.length)=(sLt (b++[l]).length,L)/\L.map (·.1)=List.range' b.length ((b++[l]).length - b.length)/\∀ x∈L,(dF (bk S M) x.1).kind=3->x.2<d+m):=by
   intro l QQ QO hn0 ⟨rest,QP⟩;have p:M[b.length]?=Q l:=sM QP (by simp);have hz:(b++[l]).length=b.length+1:=by simp
   rw[hz,JD,Nat.add_sub_cancel_left];refine⟨by omega,p,hn0,fun k d H=>?_⟩;obtain⟨L,h1,h2,q⟩:=yH (S:=S) QQ QO p k d H;exact⟨L,h1,h2,fun x R QJ=>by have:=q x R QJ;omega⟩
  unfold dm at h;split at h
  ·rename_i G K
   cases h
   obtain⟨h1,h2⟩:=fB K;obtain⟨i,hi⟩:=I7 h1;obtain⟨rest,o⟩:=o;exact .inl ⟨rfl,i,(kS.1 hi).1,sM o hi,h2⟩
  ·rename_i C
   split at h
   ·cases h
   ·rename_i h1
    unfold d9 dP at h;split at h
    ·cases h
     exact .inr (r _ (by show(1:Int)≠3;decide) rfl rfl o)
    ·rename_i h2
     split at h
     ·rename_i t q
      exact .inr (P _ _ _ h2 q C h1 h o)
     ·cases h
      exact .inr (r _ (by show(2:Int)≠3;decide) rfl rfl o)
 induction n with
 | zero =>intro g b nm f e s y h o;rw[aL] at h;exact A _ _ _ _ _ _ _ s y o (fun t _ _ _ _ _ _ h=>by cases h) h
 | succ n O =>
  intro g b nm f e s y h o;rw[aL] at h;refine A _ _ _ _ _ _ _ s y o (fun t f e h2 q C h1 h o=>?_) h;rcases hq:bO S (aL S n (g++[nm])) t 201 b [] [] with ⟨j,x⟩ | c | c
  ·rw[hq] at h
   simp only[gF,dP,KK,CV] at h;obtain⟨rfl,rfl⟩:=h;have B:=gH s C;obtain⟨-,⟨more,QL⟩,-⟩:=fU u (aT q).1 (cP u n (g++[nm])) _ _ _ _ _ _ B (gn S b) rfl hq;obtain⟨rest,o⟩:=o;have hz:(j++[(⟨nm,3,x.1.code,x.1.text,t,x.2⟩:Ent)]).length=j.length+1:=by simp
   have hle:b.length<=j.length:=by rw[QL,cM];omega
   have p:M[j.length]?=Q ⟨nm,3,x.1.code,x.1.text,t,x.2⟩:=sM o (by simp);rw[hz,JD];refine⟨by omega,p,rfl,fun k d QQ=>?_⟩;cases k with
   | zero=>omega
   | succ k =>
    obtain⟨L,G,QM,QK⟩:=yG u hM (aT q).1 (cP u n (g++[nm])) (O (g++[nm])) _ _ _ _ _ _ B (gn S b) rfl hq ⟨[_]++rest,by rw[o,IA]⟩ j.length k d (sLt b.length) [] _ p rfl lr (by omega) rfl;have QN:(dF (bk S M) j.length).linksN=x.2.length:=by rw[fi p];rfl
    refine⟨L++[(j.length,d)],?_,?_,fun z hz=>?_⟩
    ·rw[lst,QN,G,mh,IM]
    ·rw[E2,QM,show j.length+1 - b.length=j.length - b.length+1 by omega,List.range'_1_concat,show b.length+(j.length - b.length)=j.length by omega]
     rfl
    ·rcases kP.1 hz with hz | hz
     ·intro q
      have:=QK z hz q;omega
     ·rw[j3.1 hz]
      intro _;show d<d+(n+1)
      omega
  ·rw[hq] at h;cases h
  ·rw[hq] at h;cases h
end
theorem mQ:∀ (L:List (Nat × Nat)) (i:Nat),L.map (·.1)=List.range' i L.length->bz i L=-1
 | [],_,_=>rfl
 | x :: L,i,h=>by rw[LD,o3,List.range'_succ] at h;obtain⟨h1,h2⟩:=List.cons.inj h;rw[bz,eT h1];exact mQ L (i+1) h2
theorem mR {f:Nat->aj}:∀ (L:List (Nat × Nat)),(∀ x∈L,(f x.1).kind=3->x.2<60)->aR f L=-1
 | [],_=>rfl
 | x :: L,h=>by rw[aR,a8 fun h1=>absurd (h x JN h1.1) (by omega)];exact mR L fun y b=>h y (mq _ b)
theorem xc {f:Nat->aj}{p:Nat}{x:aj}{n:Nat}(h:∀ i,i<n->dJ f p (x.links i)=QC):bQ f p x n=QC:=by
 induction n with
 | zero=>rfl
 | succ k b=>rw[bQ,b fun i hi=>h i (by omega),h k (by omega)];rfl
theorem Dr {S:Spc}(t:SpcOk S){M:List Ent}(hM:PG S [] M)(hR:∀ x∈M,Rn S M x){i:Nat}(hi:i<M.length):bc (dF (bk S M)) i=QC:=by
 obtain⟨x,n⟩:∃ x,M[i]?=Q x:=⟨M[i],gq hi⟩
 have p:=D0 n;have g:=hM.ents x p;have e:dF (bk S M) i=bi S M x:=fi n;unfold bc;rw[e,gM,gM];refine⟨⟨g.nm,JJ g.tx⟩,?_⟩;have C:=g.code;rcases g.kind with ⟨h1,h2,h,-⟩ | ⟨h1,h2,h,QN,-⟩ | ⟨h1,-,h⟩
 ·have b:(bi S M x).kind=1:=h1
  unfold kindOk;rw[eT b];simp[aO,bi,bW,h1,h2,h]
 ·have b:(bi S M x).kind=2:=h1
  unfold kindOk;rw[a8 (by rw[b];decide),eT b];simp[aO,bi,bW,h1,h2,h,QN];rfl
 ·have b:(bi S M x).kind=3:=h1
  have QQ:(bi S M x).actN=(S.f1 x.tg).actN:=by show bW S x=_;unfold bW;rw[eT h1]
  unfold kindOk;rw[a8 (by rw[b];decide),a8 (by rw[b];decide),eT b];unfold ce;rw[QQ];have H:valid (bi S M x).act (S.f1 x.tg).actN=QC:=t.act _ (aT h).1;have q:(bi S M x).linksN<=200:=g.looks;have hlk:bQ (dF (bk S M)) i (bi S M x) (bi S M x).linksN=QC:=xc fun j s=>by
   have k:j<x.looks.length:=s;have o:x.looks[j]?=Q x.looks[j]:=gq k;have d:=gz k;have r:(bi S M x).links j=lkD M x.looks[j]:=jT o;rw[r];generalize x.looks[j]=l at d;unfold dJ;rw[gM];refine⟨g.lname l d,?_⟩;by_cases f:l.ask=QC
   ·obtain⟨y,u,G,hlt⟩:=hM.asked n d f
    have QP:=(hR x p).has l d f;have m:(lkD M l).ask=QC:=f;have hH:(lkD M l).has=D:=QP;have A:(lkD M l).at_=((gI M l.name:Nat):Int):=by unfold lkD;simp[f]
    have QO:(lkD M l).name=l.name:=rfl;rw[eT m,hH,A,QO,KQ,fi u];have B:((bi S M y).name.toList == l.name.toList)=QC:=by show(y.name.toList == l.name.toList)=QC;rw[G];simp
    rw[B];simp only[Bool.not_false,I9,JX,gM,j4];omega
   ·have m:¬ (lkD M l).ask=QC:=f
    rw[a8 m];unfold lkD;simp[f]
  rw[H,hlk];have z:(bi S M x).code=x.code:=rfl;rw[z];simp only[JX,gM,j4];exact⟨C,q⟩
theorem xd {f:Nat->aj}{p:Nat}{k:Nat}(h:∀ j,j<k->(f j).name≠(f p).name):aQ f p k=QC:=by
 induction k with
 | zero=>rfl
 | succ k b =>
  rw[aQ,b fun j hj=>h j (by omega),I9];cases hb:((f k).name.toList == (f p).name.toList) with
  | false=>rfl
  | true=>exact absurd (bytes_beq hb) (h k (by omega))
theorem sQ {S:Spc}(b:SpcOk S){nm:ByteArray}(g:au nm=QC){M:List Ent}{e:Ent}(h:aL S 60 [] [] nm=.inl (M,e)):dr (dF (bk S M)) M.length=(0,0)/\0<M.length/\M[M.length - 1]?=Q e/\e.name=nm/\PG S [] M/\∀ x∈M,Rn S M x:=by
 have hM:=(cP b 60 [] [] nm M e (fH S []) g h).1;have hR:=(yB b 60 [] [] nm M e (fH S []) g (fun x f=>absurd f nj) h).1;have hs:=wZ b h;rcases xa b hM 60 [] [] nm M e (fH S []) g h ⟨[],by simp⟩ with ⟨-,i,hi,-⟩ | ⟨h1,h2,s,z⟩
 ·cases hi
 ·refine⟨?_,h1,h2,s,hM,hR⟩
  obtain⟨L,y,k,u⟩:=z M.length 0 lr;have l:sLt ([]:List Ent).length=fun _=>D:=by funext q;simp[sLt]
  have d:aB (dF (bk S M)) M.length=L:=by unfold aB;rw[<-l,y]
  have m:L.length=M.length:=by have:=vG List.length k;simpa using this
  have f1:aJ (bc (dF (bk S M))) M.length=-1:=eh fun i hi=>Dr b hM hR hi;have r:aJ (fun p=>aQ (dF (bk S M)) p p) M.length=-1:=eh fun i hi=>xd fun j t=>by rw[fi (gq hi),fi (gq (show j<M.length by omega))];exact DN.1 hM.nod j i (by omega) hi t
  have A:bz 0 L=-1:=mQ L 0 (by rw[m];exact k);have n:aR (dF (bk S M)) L=-1:=mR L fun x f o=>by have:=u x f o;omega
  have h1':0<M.length:=h1;unfold dr;rw[a8 (by omega),f1,a8 (by simp),r,a8 (by simp),d,A,a8 (by simp),n,a8 (by simp)]
structure Borne (S:Spc)(f:Nat->aj)(p:Nat):Prop where
 lie:iU S.n0 S.f0 S.n1 S.f1 (f p)=D
 has:hasB S.n0 S.f0 S.n1 S.f1 (f p)=D
 run:codeF f p=0
def tgD (S:Spc)(d:aj):Nat:=if d.kind=3 then (atI (nm1 S.f1) S.n1 d.name).getD 0 else 0
def lkE (l:Link):Lk:=⟨l.name,l.ask,l.has⟩
def fs (d:aj)(k:Nat):List Lk:=(List.range k).map fun j=>lkE (d.links j)
def de (S:Spc)(f:Nat->aj)(p:Nat):Ent:=⟨(f p).name,(f p).kind,(f p).code,(f p).text,tgD S (f p),fs (f p) (f p).linksN⟩
def cA (S:Spc)(f:Nat->aj)(k:Nat):List Ent:=(List.range k).map (de S f)
def ysD (f:Nat->aj)(p j:Nat):List aA:=(List.range j).map (yOf f p)
theorem uZ {g:Nat->ByteArray}{n i:Nat}{t:ByteArray}(b:aE g n=QC)(hi:i<n)(h:((g i).toList == t.toList)=QC):atI g n t=Q i:=by
 cases e:atI g n t with
 | none=>exact absurd h (JO.1 e i (BO.2 hi))
 | some j =>obtain⟨h1,h2⟩:=aT e;rw[asc_one b h1 hi (by rw[h2];simp) h]
theorem pq {g:Nat->ByteArray}{n:Nat}{t:ByteArray}(h:aF g n t=D):atI g n t=Z :=
 JO.2 fun x b e=>by rw[gY (BO.1 b) e] at h;cases h
theorem SpcOk.apart {S:Spc}(f:SpcOk S){t:Nat}(d:t<S.n1):aF (nm0 S.f0) S.n0 (S.f1 t).name=D:=by
 have h:=f.chk;unfold aU at h;split at h;· omega
 split at h;· omega
 split at h;· omega
 split at h;· omega
 split at h;· omega
 split at h;· omega
 rename_i g;cases e:aF (nm0 S.f0) S.n0 (S.f1 t).name with
 | false=>rfl
 | true =>obtain⟨k,b,hb⟩:=rF e;exact absurd (cO b (gY d (by rw[bytes_beq hb];simp))) g
theorem qa {f g:Nat->Ins}{cnt:Nat}(h:∀ i,i<cnt->f i=g i)(y:Nat->aA)(n k:Nat):∀ place steps looks b,bV f cnt y n k place steps looks b=bV g cnt y n k place steps looks b:=by
 induction k with
 | zero=>intro _ _ _ _;rfl
 | succ k j =>
  intro place steps looks b;have e:bH f cnt place steps looks b=bH g cnt place steps looks b:=by
   unfold bH;by_cases d:cnt<=place
   ·rw[eT d,eT d]
   ·rw[h place (by omega)]
  rw[bV,bV,e];rcases bH g cnt place steps looks b with ⟨s,p⟩ | ⟨c,x⟩ | ⟨a,nm,s⟩
  ·exact j _ _ _ _
  ·rfl
  ·simp only[j]
theorem Ds {x y:Ins}(h:j7 x y=QC):x=y:=by obtain⟨a,b,c⟩:=x;obtain⟨a',b',c'⟩:=y;simp only[j7,gM,MP] at h;obtain⟨⟨rfl,hb⟩,rfl⟩:=h;rw[eP hb]
theorem sR {f g:Nat->Ins}{n:Nat}(h:cU f g n=QC)(i:Nat)(hi:i<n):f i=g i:=by have:=nR (show i+1<=n by omega) h;simp only[cU,gM] at this;exact Ds this.2
theorem fV {f:Nat->aj}{n:Nat}(h:aX f n=QC){p:Nat}(g:p<n):au (f p).name=QC/\((f p).kind≠3->(f p).code=0/\(f p).actN=0/\(f p).linksN=0)/\((f p).kind=2->(f p).text=⟨#[]⟩)/\∀ j,j<(f p).linksN->dJ f p ((f p).links j)=QC:=by
 have h1:=dW (dU h).2.2 p g;simp only[bc,gM,kindOk,j4] at h1;obtain⟨⟨d,_⟩,h2⟩:=h1;refine⟨d,?_⟩;split at h2
 ·rename_i b
  simp only[aO,gM,j4] at h2;exact⟨fun _=>⟨h2.1.1,h2.1.2,h2.2⟩,fun e=>by omega,fun j i=>by omega⟩
 ·split at h2
  ·rename_i b
   simp only[aO,gM,j4] at h2;exact⟨fun _=>⟨h2.1.1.1,h2.1.1.2,h2.1.2⟩,fun _=>NJ (J4 h2.2),fun j i=>by omega⟩
  ·split at h2
   ·rename_i b
    simp only[ce,gM] at h2;exact⟨fun e=>absurd b e,fun e=>by omega,jZ h2.2⟩
   ·cases h2
theorem sS:∀ (L:List (Nat × Nat)) (i:Nat),bz i L=-1->L.map (·.1)=List.range' i L.length
 | [],_,_=>rfl
 | x :: L,i,h=>by
  rw[bz] at h;split at h
  ·rename_i e
   rw[LD,o3,List.range'_succ,sS L (i+1) h,e]
  ·omega
theorem qb {f:Nat->aj}:∀ (L:List (Nat × Nat)),aR f L=-1->∀ x∈L,(f x.1).kind=3->x.2<60
 | [],_,x,b,_=>absurd b nj
 | y :: L,h,x,b,hk=>by
  rw[aR] at h;split at h
  ·omega
  ·rename_i d
   rcases BC.1 b with rfl | b
   ·exact Nat.lt_of_not_le fun g=>d ⟨hk,g⟩
   ·exact qb L h x b hk
theorem uj {f:Nat->aj}{n:Nat}(h:aX f n=QC):bz 0 (aB f n)=-1/\aR f (aB f n)=-1:=by
 have h1:(dr f n).1=0:=IU h;unfold dr at h1;split at h1
 ·simp at h1
 ·split at h1
  ·simp at h1
  ·split at h1
   ·simp at h1
   ·split at h1
    ·simp at h1
    ·rename_i d
     split at h1
     ·simp at h1
     ·rename_i g
      exact⟨JR fun b=>d b,JR fun b=>g b⟩
theorem seg {A B:List (Nat × Nat)}{lo:Nat}(h:(A++B).map (·.1)=List.range' lo (A++B).length):A.map (·.1)=List.range' lo A.length/\B.map (·.1)=List.range' (lo+A.length) B.length:=by rw[E2,cM,<-List.range'_append_1] at h;exact List.append_inj h (by simp)
theorem vb (go:Nat->Nat->(Nat->Bool)->(Nat->Bool) × List (Nat × Nat))(x:aj)(d:Nat)(s:Nat->Bool)(j:Nat):∀ QN,j<=QN->∃ more,(lks go x d s QN).2=(lks go x d s j).2++more
 | 0,h=>⟨[],by
  obtain rfl:j=0:=by omega
  simp⟩
 | QN+1,h=>by
  by_cases e:j=QN+1
  ·exact⟨[],by rw[e];simp⟩
  ·obtain⟨m,b⟩:=vb go x d s j QN (by omega)
   rw[lks];split
   ·exact⟨m++(go (x.links QN).at_.toNat (d+1) (lks go x d s QN).1).2,by rw[b,IA]⟩
   ·exact⟨m,b⟩
theorem qd {f:Nat->aj}{p:Nat}:∀ QN k,k+QN<=dO f p QN k->∀ i,i<QN->eV f p (k+i)=D
 | 0,_,_,i,hi=>absurd hi (CS i)
 | QN+1,k,h,i,hi=>by
  rw[dO] at h;split at h
  ·omega
  ·rename_i b
   cases i with
   | zero=>simpa using b
   | succ i =>have:=qd (f:=f) (p:=p) QN (k+1) (by omega) i (by omega);rwa[show k+(i+1)=k+1+i by omega]
theorem sT {f:Nat->aj}{p:Nat}(h:codeF f p=0)(g:(f p).kind=3):(∀ j,j<(f p).linksN->(aY f p j).over=D/\(aY f p j).name=((f p).links j).name/\(aY f p j).ask=((f p).links j).ask)/\(aY f p (f p).linksN).over=QC/\(aY f p (f p).linksN).code=(f p).code/\(aY f p (f p).linksN).text=(f p).text:=by
 rw[codeF,eT g,rm] at h;have hle:=kF f p (f p).linksN 0;split at h
 ·omega
 ·rename_i h1
  have d:aN f p=(f p).linksN:=by unfold aN at h1 ⊢;omega
  rw[d] at h;split at h
  ·omega
  ·rename_i h2
   split at h
   ·rename_i b
    refine⟨fun j i=>?_,by simpa using h2,b.1,eP b.2⟩;have:=qd (f:=f) (p:=p) (f p).linksN 0 (by unfold aN at d;omega) j i;rw[C9] at this;simp only[eV,MW,LK,MP] at this;exact⟨this.1.1,eP this.1.2,this.2⟩
   ·omega
theorem Borne.lies {S:Spc}{f:Nat->aj}{n p:Nat}(o:aX f n=QC)(l:p<n)(g:SpcOk S)(h:Borne S f p):((f p).kind=1/\∃ i,atI (nm0 S.f0) S.n0 (f p).name=Q i/\(S.f0 i).text=(f p).text)∨((f p).kind=2/\atI (nm0 S.f0) S.n0 (f p).name=Z/\atI (nm1 S.f1) S.n1 (f p).name=Z)∨((f p).kind=3/\atI (nm0 S.f0) S.n0 (f p).name=Z/\∃ t,atI (nm1 S.f1) S.n1 (f p).name=Q t/\(S.f1 t).actN=(f p).actN/\∀ i,i<(f p).actN->(S.f1 t).act i=(f p).act i):=by
 have b:=h.lie;unfold iU at b;rcases(dZ o p l).2 with ⟨d,-⟩ | ⟨d,-⟩ | ⟨d,-⟩
 ·rw[eT d,LK] at b
  obtain⟨i,hi,hb⟩:=fP b;rw[gM] at hb;exact .inl ⟨d,i,uZ g.asc0 hi hb.1,bytes_beq hb.2⟩
 ·rw[a8 (by omega),a8 (by omega)] at b
  unfold jB at b;rw[MW] at b;exact .inr (.inl ⟨d,pq b.1,pq b.2⟩)
 ·rw[a8 (by omega),eT d,LK] at b
  obtain⟨t,k,hb⟩:=fP b;rw[gM] at hb;have j:=hb.2;simp only[cL,gM,j4] at j;have m:(S.f1 t).name=(f p).name:=bytes_beq hb.1;refine .inr (.inr ⟨d,pq (by rw[<-m];exact g.apart k),t,uZ g.asc1 k hb.1,j.1,fun i hi=>sR j.2 i (by omega)⟩)
section
variable {S:Spc}{f:Nat->aj}{n:Nat}
theorem kM (k:Nat):cA S f (k+1)=cA S f k++[de S f k]:=by unfold cA;rw[JA,E2];rfl
theorem xe (g:aX f n=QC){k p:Nat}(hk:k<=p)(b:p<n):aK (cA S f k) (f p).name=Z :=
 sL fun x d e=>by obtain⟨i,hi,rfl⟩:=IC.1 d;have h1:=BO.1 hi;have:=jk g i p (by omega) b (vG ByteArray.toList e);omega
theorem xf (d:aX f n=QC){k q:Nat}(b:q<k)(hk:k<=n):aK (cA S f k) (f q).name=Q (de S f q):=by
 cases h:aK (cA S f k) (f q).name with
 | none=>exact absurd rfl (dd h (de S f q) (IC.2 ⟨q,BO.2 b,rfl⟩))
 | some y =>obtain⟨h1,h2⟩:=fB h;obtain⟨i,hi,rfl⟩:=IC.1 h1;have:=BO.1 hi;rw[jk d i q (by omega) (by omega) (vG ByteArray.toList h2)]
theorem qe {p t j:Nat}(h1:(S.f1 t).actN=(f p).actN)(h2:∀ i,i<(f p).actN->(S.f1 t).act i=(f p).act i):bF S t (ysD f p j)=aY f p j:=by
 have e:(ysD f p j).length=j:=by simp[ysD]
 unfold bF aY;rw[e,h1,qa h2];exact jI _ _ _ _ _ _ _ _ _ _ fun i _ hi=>by simp[yL,ysD,hi]
def Er (S:Spc)(f:Nat->aj)(n k:Nat):Prop:=∀ p d lo m b,p<k->p<n->lo<=p->(lst f k p d (sLt lo)).2.map (·.1)=List.range' lo (lst f k p d (sLt lo)).2.length->(∀ x∈(lst f k p d (sLt lo)).2,(f x.1).kind=3->x.2<d+m)->(∀ z∈b,∀ q,q<=p->z≠(f q).name) ->
 (lst f k p d (sLt lo)).1=sLt (p+1)/\p+1=lo+(lst f k p d (sLt lo)).2.length/\aL S m b (cA S f lo) (f p).name=.inl (cA S f (p+1),de S f p)
theorem AO (u:aX f n=QC)(L:∀ p,p<n->Borne S f p){k p d lo m t:Nat}{making:List ByteArray}(ih:Er S f n k)(hk:p<k+1)(y:p<n)(QO:lo<=p)(W:(f p).kind=3)(QN:(S.f1 t).actN=(f p).actN)(O:∀ i,i<(f p).actN->(S.f1 t).act i=(f p).act i)
  (M:(lks (lst f k) (f p) d (sLt lo) (f p).linksN).2.map (·.1)=List.range' lo (lks (lst f k) (f p) d (sLt lo) (f p).linksN).2.length) (QL:∀ x∈(lks (lst f k) (f p) d (sLt lo) (f p).linksN).2,(f x.1).kind=3->x.2<d+1+m) (hm:∀ z∈making,∀ q,q<p->z≠(f q).name) :
  ∀ j,j<=(f p).linksN->(lks (lst f k) (f p) d (sLt lo) j).1=sLt (lo+(lks (lst f k) (f p) d (sLt lo) j).2.length)/\lo+(lks (lst f k) (f p) d (sLt lo) j).2.length<=p /\
   bO S (aL S m making) t 201 (cA S f lo) [] []=bO S (aL S m making) t (201 - j) (cA S f (lo+(lks (lst f k) (f p) d (sLt lo) j).2.length)) (ysD f p j) (fs (f p) j):=by
 have hN:(f p).linksN<=200:=gP u p y;obtain⟨QJ,-⟩:=sT (L p y).run W;intro j;induction j with
 | zero=>intro _;exact⟨rfl,QO,rfl⟩
 | succ j jh =>
  intro X;obtain⟨g,P,g3⟩:=jh (by omega);obtain⟨t1,t2,QH⟩:=QJ j (by omega);have hlk:=(fV u y).2.2.2 j (by omega);have B:ysD f p (j+1)=ysD f p j++[yOf f p j]:=by unfold ysD;rw[JA,E2];rfl
  have C:fs (f p) (j+1)=fs (f p) j++[lkE ((f p).links j)]:=by unfold fs;rw[JA,E2];rfl
  rw[g3,show 201 - j=201 - (j+1)+1 by omega,bO,qe QN O,t1,t2,QH,a8 (by simp)];by_cases b:((f p).links j).ask=QC
  ·obtain⟨a1,a2,V⟩:=gX u p y j (by omega) b
   have H:((f p).links j).has=D:=by simp only[dJ,b,if_true,gM,Bool.not_eq_true'] at hlk;exact hlk.2.1.1.1
   have s:∀ q,q=((f p).links j).at_.toNat->fg (de S f q)=yOf f p j:=fun q e=>by subst e;unfold yOf;rw[mc u b (by omega)];rfl
   have QP:lkE ((f p).links j)=⟨((f p).links j).name,QC,D⟩:=by unfold lkE;rw[b,H]
   have A:((f p).links j).name=(f ((f p).links j).at_.toNat).name:=eP V.symm;rw[a8 (by rw[b];simp),B,C,QP];generalize o:((f p).links j).at_.toNat=q at a2 A;have s:=s q o.symm;rw[lks];by_cases QQ:q<lo+(lks (lst f k) (f p) d (sLt lo) j).2.length
   ·rw[a8 (by rw[g,o];simp[sLt,QQ])]
    refine⟨g,P,?_⟩;rw[jc];unfold dm;rw[A,xf u QQ (by omega)];simp only[s]
   ·rw[eT ⟨b,by rw[g,o];simp[sLt];omega⟩,o,g]
    obtain⟨more,l⟩:=vb (lst f k) (f p) d (sLt lo) (j+1) (f p).linksN X;rw[lks,eT ⟨b,by rw[g,o];simp[sLt];omega⟩,o,g] at l;simp only at l;rw[l] at M QL;have s1:=(seg M).1;have s2:=(seg s1).2;obtain⟨QG,R,b3⟩:=ih q (d+1) (lo+(lks (lst f k) (f p) d (sLt lo) j).2.length) m making (by omega) (by omega) (by omega) s2 (fun x hx K=>QL x (II _ (I6 _ hx)) K) (fun z hz r hr'=>hm z hz r (by omega));rw[A,b3];simp only[s,cM];refine⟨by rw[QG,R,LE],by omega,by rw[<-LE,<-R]⟩
  ·have G:((f p).links j).ask=D:=by simpa using b
   have QK:=gG (L p y).has (show j<(f p).linksN by omega);simp only[fY,G,Bool.not_false,I9,LK,MP] at QK;have QM:fh S ((f p).links j).name=((f p).links j).has:=QK.symm;rw[eT G,QM,sP (fun h=>b h.1),B,C];have s:yOf f p j=⟨((f p).links j).has,0,⟨#[]⟩⟩:=by unfold yOf eG;rw[a8 b]
   have QP:lkE ((f p).links j)=⟨((f p).links j).name,D,((f p).links j).has⟩:=by unfold lkE;rw[G]
   rw[s,QP];exact⟨g,P,rfl⟩
theorem AP (o:aX f n=QC)(QL:SpcOk S)(QQ:∀ p,p<n->Borne S f p):∀ k,Er S f n k:=by
 intro k;induction k with
 | zero=>intro p d lo m b QO;omega
 | succ k QK =>
  intro p d lo m b QO l y QP u L;rw[lst] at QP u ⊢;simp only at QP u ⊢;obtain⟨s1,QJ⟩:=seg QP;have j:p=lo+(lks (lst f k) (f p) d (sLt lo) (f p).linksN).2.length:=by simpa using QJ
  have hz:p+1=lo+((lks (lst f k) (f p) d (sLt lo) (f p).linksN).2++[(p,d)]).length:=by rw[cM,p7];omega
  have P:=xe (S:=S) o y l;have h1:atL b (f p).name=Z:=jJ fun x G=>L x G p lr;have r:=fV o l;rw[jc];unfold dm;rw[P,h1];simp only[d9];rcases(QQ p l).lies o l QL with ⟨g,i,hi,QM⟩ | ⟨g,hi,s⟩ | ⟨g,hi,t,s,A,B⟩
  ·obtain⟨c1,c2,c3⟩:=r.2.1 (by omega)
   have C:lks (lst f k) (f p) d (sLt lo) (f p).linksN=(sLt lo,[]):=by rw[c3];rfl
   rw[C] at j hz ⊢;obtain rfl:p=lo:=by simpa using j
   refine⟨mh p,hz,?_⟩;rw[hi];simp only[dP,kM];have e:de S f p=⟨(f p).name,1,0,(S.f0 i).text,0,[]⟩:=by unfold de tgD fs;rw[c3,c1,g,QM];rfl
   rw[e]
  ·obtain⟨c1,c2,c3⟩:=r.2.1 (by omega)
   have C:lks (lst f k) (f p) d (sLt lo) (f p).linksN=(sLt lo,[]):=by rw[c3];rfl
   rw[C] at j hz ⊢;obtain rfl:p=lo:=by simpa using j
   refine⟨mh p,hz,?_⟩;rw[hi,s];simp only[dP,kM];have e:de S f p=⟨(f p).name,2,0,⟨#[]⟩,0,[]⟩:=by unfold de tgD fs;rw[c3,c1,g,r.2.2.1 g];rfl
   rw[e]
  ·have QN:=u (p,d) (I6 _ (j3.2 rfl)) g
   obtain⟨H,rfl⟩:∃ H,m=H+1:=⟨m - 1,by simp only at QN;omega⟩
   have hN:(f p).linksN<=200:=gP o p l;obtain⟨-,r1,R,O⟩:=sT (QQ p l).run g
   obtain⟨K,-,M⟩:=AO o QQ (m:=H) (making:=b++[(f p).name]) QK QO l y g A B s1 (fun x G h=>by have:=u x (II _ G) h;omega) (fun z hz q hq=>by
    rcases kP.1 hz with hz | hz
    ·exact L z hz q (by omega)
    ·rw[j3.1 hz]
     exact fun e=>by have:=jk o p q l (by omega) (vG ByteArray.toList e);omega) (f p).linksN lr
   rw[<-j] at K M;refine⟨by rw[K];exact mh p,hz,?_⟩;rw[hi,s];simp only[me];rw[M,show 201 - (f p).linksN=200 - (f p).linksN+1 by omega,bO,qe A B,eT r1];simp only[gF,dP,kM];have e:de S f p=⟨(f p).name,3,(aY f p (f p).linksN).code,(aY f p (f p).linksN).text,t,fs (f p) (f p).linksN⟩:=by unfold de tgD;rw[g,s,R,O];rfl
   rw[e]
theorem xg (b:aX f n=QC)(i:SpcOk S)(k:∀ p,p<n->Borne S f p):aL S 60 [] [] (f (n - 1)).name=.inl (cA S f n,de S f (n - 1)):=by
 have hn:=dU b;obtain⟨h1,h2⟩:=uj b;have d:sLt 0=fun _=>D:=by funext q;simp[sLt]
 unfold aB at h1 h2;rw[<-d] at h1 h2;obtain⟨-,-,h⟩:=AP b i k n (n - 1) 0 0 60 [] (by omega) (by omega) (CP _) (sS _ _ h1) (fun x j g=>by have:=qb _ h2 x j g;omega) (fun z hz=>absurd hz nj);rw[show n - 1+1=n by omega] at h;exact h
structure DeedEq (x y:aj):Prop where
 name:x.name=y.name
 kind:x.kind=y.kind
 code:x.code=y.code
 text:x.text=y.text
 actN:x.actN=y.actN
 act:∀ i,i<x.actN->x.act i=y.act i
 linksN:x.linksN=y.linksN
 links:∀ i,i<x.linksN->x.links i=y.links i
theorem AQ {i k:Nat}(h:i<k):(cA S f k)[i]?=Q (de S f i):=by unfold cA;simp[h]
theorem Es (d:aX f n=QC){q:Nat}(b:q<n):gI (cA S f n) (f q).name=q:=by
 have hi:q<(cA S f n).length:=by simp[cA,b]
 unfold gI;rw[List.findIdx_eq hi];refine⟨by simp[cA,de],fun j hj=>?_⟩;cases hb:((cA S f n)[j].name.toList == (f q).name.toList) with
 | false=>rfl
 | true =>
  have e:(cA S f n)[j].name=(f j).name:=by simp[cA,de]
  rw[e] at hb;have:=jk d j q (by omega) b (by simpa using hb);omega
theorem xh (h:aX f n=QC)(y:SpcOk S)(u:∀ p,p<n->Borne S f p){i:Nat}(hi:i<n):DeedEq (dF (bk S (cA S f n)) i) (f i):=by
 rw[fi (AQ hi)];have d:(bi S (cA S f n) (de S f i)).linksN=(f i).linksN:=by show(fs (f i) (f i).linksN).length=_;simp[fs]
 have b:∀ j,j<(bi S (cA S f n) (de S f i)).linksN->(bi S (cA S f n) (de S f i)).links j=(f i).links j:=fun j g=>by
  rw[d] at g;have hlk:=(fV h hi).2.2.2 j g;have e:(bi S (cA S f n) (de S f i)).links j=lkD (cA S f n) (lkE ((f i).links j)):=jT (by simp[de,fs,g]);rw[e];unfold lkD lkE;by_cases k:((f i).links j).ask=QC
  ·obtain⟨a1,a2,m⟩:=gX h i hi j g k
   simp only[k,if_true];rw[<-eP m,Es h (by omega),Int.toNat_of_nonneg a1,eP m,<-k]
  ·have x:((f i).links j).at_=0:=by
    simp only[dJ,a8 k,gM,j4] at hlk;exact hlk.2
   simp only[a8 k];rw[<-x]
 rcases(u i hi).lies h hi y with ⟨l,-⟩ | ⟨l,-⟩ | ⟨l,-,t,s,o,r⟩
 ·obtain⟨c1,c2,c3⟩:=(fV h hi).2.1 (by omega)
  have e:(bi S (cA S f n) (de S f i)).actN=0:=by show bW S (de S f i)=0;unfold bW;rw[a8 (by show ¬ (f i).kind=3;omega)]
  exact⟨rfl,rfl,rfl,rfl,by rw[e,c2],fun j g=>by omega,d,b⟩
 ·obtain⟨c1,c2,c3⟩:=(fV h hi).2.1 (by omega)
  have e:(bi S (cA S f n) (de S f i)).actN=0:=by show bW S (de S f i)=0;unfold bW;rw[a8 (by show ¬ (f i).kind=3;omega)]
  exact⟨rfl,rfl,rfl,rfl,by rw[e,c2],fun j g=>by omega,d,b⟩
 ·have q:(de S f i).tg=t:=by show tgD S (f i)=t;unfold tgD;rw[eT l,s];rfl
  have e:(bi S (cA S f n) (de S f i)).actN=(f i).actN:=by show bW S (de S f i)=_;unfold bW;rw[eT (by exact l),q,o]
  refine⟨rfl,rfl,rfl,rfl,e,fun j g=>?_,d,b⟩;show(S.f1 (de S f i).tg).act j=_;rw[q];exact r j (by omega)
end
def LkHas (S:Spc)(b:List Lk):Prop:=∀ l∈b,l.ask=D->l.has=fh S l.name
def Hs (S:Spc)(b:List Ent):Prop:=∀ x∈b,LkHas S x.looks
theorem Hs.add {S:Spc}{b:List Ent}{e:Ent}(h:Hs S b)(f:LkHas S e.looks):Hs S (b++[e]):=fun x d=>by
 rcases kP.1 d with d | d
 ·exact h x d
 ·rw[j3.1 d];exact f
theorem mj (S:Spc):LkHas S []:=fun _ h=>absurd h nj
theorem LkHas.add {S:Spc}{d:List Lk}{l:Lk}(h:LkHas S d)(f:l.ask=D->l.has=fh S l.name):LkHas S (d++[l]):=fun x b=>by
 rcases kP.1 b with b | b
 ·exact h x b
 ·rw[j3.1 b];exact f
theorem AR {S:Spc}{lies:List Ent->ByteArray->Out Ent}{t:Nat}(m:∀ d nm b e,Hs S d->lies d nm=.inl (b,e)->Hs S b):∀ k d i f b x,Hs S d->LkHas S f->bO S lies t k d i f=.inl (b,x)->Hs S b/\LkHas S x.2:=by
 intro k;induction k with
 | zero=>intro d i f b x _ _ h;cases h
 | succ k l =>
  intro d i f b x j g h;rw[bO] at h;split at h
  ·cases h
   exact⟨j,g⟩
  ·split at h
   ·exact l _ _ _ _ _ j (g.add fun _=>rfl) h
   ·split at h
    ·rename_i made1 e n
     exact l _ _ _ _ _ (m _ _ _ _ j n) (g.add fun h=>by cases h) h
    ·cases h
    ·cases h
theorem yI (S:Spc):∀ n d f nm b e,Hs S f->aL S n d f nm=.inl (b,e)->Hs S b:=by
 intro n;have i:∀ d f nm b e (tgt:Nat->Out Ent),Hs S f->(∀ t b e,tgt t=.inl (b,e)->Hs S b)->dm S tgt d f nm=.inl (b,e)->Hs S b:=by
  intro d f nm b e tgt g k h;unfold dm at h;split at h
  ·cases h;exact g
  ·split at h
   ·cases h
   ·unfold d9 dP at h
    split at h
    ·cases h;exact g.add (mj S)
    ·split at h
     ·exact k _ _ _ h
     ·cases h;exact g.add (mj S)
 induction n with
 | zero =>intro d f nm b e g h;rw[aL] at h;exact i _ _ _ _ _ _ g (fun t _ _ h=>by cases h) h
 | succ n j =>
  intro d f nm b e g h;rw[aL] at h;refine i _ _ _ _ _ _ g (fun t b e h=>?_) h;rcases hr:bO S (aL S n (d++[nm])) t 201 f [] [] with ⟨made1,x⟩ | c | c
  ·rw[hr] at h
   simp only[gF,dP,KK,CV] at h;obtain⟨rfl,rfl⟩:=h;obtain⟨h1,h2⟩:=AR (fun f nm b e=>j _ f nm b e) _ _ _ _ _ _ g (mj S) hr;exact h1.add h2
  ·rw[hr] at h;cases h
  ·rw[hr] at h;cases h
theorem sU {g:Nat->ByteArray}{n:Nat}{t:ByteArray}(h:atI g n t=Z):aF g n t=D:=by
 cases e:aF g n t with
 | false=>rfl
 | true =>obtain⟨k,b,hb⟩:=rF e;exact absurd hb (JO.1 h k (BO.2 b))
theorem ml {p:Nat->Bool}{n:Nat}(h:∀ i,i<n->p i=D):aH p n=D:=by
 cases e:aH p n with
 | false=>rfl
 | true =>obtain⟨k,b,hb⟩:=fP e;rw[h k b] at hb;cases hb
theorem kN {f g:Nat->Ins}:∀ {n:Nat},(∀ i,i<n->f i=g i)->cU f g n=QC
 | 0,_=>rfl
 | n+1,h=>by rw[cU,kN fun i hi=>h i (by omega),h n (by omega)];simp[j7]
theorem qg {f:Nat->aj}{p:Nat}:∀ QN k,(∀ i,i<QN->eV f p (k+i)=D)->dO f p QN k=k+QN
 | 0,_,_=>rfl
 | QN+1,k,h=>by rw[dO,a8 (by have:=h 0 (by omega);rw[NB] at this;rw[this];simp),qg QN (k+1) fun i hi=>by rw[show k+1+i=k+(i+1) by omega];exact h (i+1) (by omega)];omega
theorem qi {f:Nat->aj}{p:Nat}(h:(f p).kind=3->(∀ j,j<(f p).linksN->(aY f p j).over=D/\(aY f p j).name=((f p).links j).name/\(aY f p j).ask=((f p).links j).ask)/\(aY f p (f p).linksN).over=QC/\(aY f p (f p).linksN).code=(f p).code/\(aY f p (f p).linksN).text=(f p).text):codeF f p=0:=by
 unfold codeF;split
 ·rename_i d
  obtain⟨h1,h2,g,k⟩:=h d;have l:aN f p=(f p).linksN:=by
   unfold aN
   rw[qg _ _ fun i hi=>by
    obtain⟨a,b,c⟩:=h1 i hi;rw[C9]
    simp[eV,a,b,c]]
   omega
  unfold rm;rw[l,a8 (by omega),a8 (by rw[h2];simp),eT ⟨g,by rw[k]⟩]
 ·rfl
theorem qj {S:Spc}(L:SpcOk S){nm:ByteArray}(O:au nm=QC){M:List Ent}{e:Ent}(h:aL S 60 [] [] nm=.inl (M,e)):aX (dF (bk S M)) M.length=QC/\∀ p,p<M.length->Borne S (dF (bk S M)) p:=by
 obtain⟨h1,-,-,-,hM,hR⟩:=sQ L O h;have hH:=yI S 60 [] [] nm M e (fun x n=>absurd n nj) h;have QP:aX (dF (bk S M)) M.length=QC:=by unfold aX;rw[h1];rfl
 refine⟨QP,fun p P=>?_⟩;have n:M[p]?=Q M[p]:=gq P;generalize M[p]=x at n;have o:=D0 n;have QO:=hM.ents x o;have m:dF (bk S M) p=bi S M x:=fi n;have hlk:∀ j l,x.looks[j]?=Q l->(bi S M x).links j=lkD M l:=fun j l H=>jT H;refine⟨?_,?_,qi fun C=>?_⟩
 ·rw[m]
  unfold iU;rcases QO.kind with ⟨k,-,-,i,hi,r⟩ | ⟨k,-,-,-,h2,t⟩ | ⟨k,-,t⟩
  ·rw[eT (show(bi S M x).kind=1 from k)]
   obtain⟨A,B⟩:=aT hi;have:lN S.n0 S.f0 (bi S M x).name (bi S M x).text=QC:=cO A (by show((nm0 S.f0 i).toList == x.name.toList && (S.f0 i).text.toList == x.text.toList)=QC;rw[B,r];simp);rw[this];rfl
  ·have QQ:(bi S M x).kind=2:=k
   rw[a8 (by omega),a8 (by omega)];show(aF (nm0 S.f0) S.n0 x.name || aF (nm1 S.f1) S.n1 x.name)=D;rw[sU h2,sU t];rfl
  ·have QQ:(bi S M x).kind=3:=k
   rw[a8 (by omega),eT QQ];obtain⟨A,B⟩:=aT t;have u:(bi S M x).actN=(S.f1 x.tg).actN:=by show bW S x=_;unfold bW;rw[eT k]
   have:ki S.n1 S.f1 (bi S M x).name (bi S M x).actN (bi S M x).act=QC:=cO A (by
    show((nm1 S.f1 x.tg).toList == x.name.toList && cL (S.f1 x.tg).act (bi S M x).act (S.f1 x.tg).actN (bi S M x).actN)=QC;rw[B,u];simp only[cL,decide_true,I9,beq_self_eq_true]
    exact kN fun _ _=>rfl)
   rw[this];rfl
 ·rw[m]
  refine ml fun j f=>?_;have s:j<x.looks.length:=f;have b:x.looks[j]?=Q x.looks[j]:=gq s;have d:=gz s;simp only[hlk j _ b];generalize x.looks[j]=l at d;unfold fY lkD;cases g:l.ask with
  | true=>rfl
  | false =>have:=hH x o l d g;show(!D && !(l.has == fh S l.name))=D;rw[this];simp
 ·rw[m] at C
  have k:x.kind=3:=C;have u:(bi S M x).actN=(S.f1 x.tg).actN:=by show bW S x=_;unfold bW;rw[eT k]
  have q:∀ j,j<x.looks.length->yOf (dF (bk S M)) p j=yL (x.looks.map (cj M)) j:=fun j f=>by
   have b:x.looks[j]?=Q x.looks[j]:=gq f;have d:=gz f;have QM:yL (x.looks.map (cj M)) j=cj M x.looks[j]:=by simp[yL,f]
   unfold yOf;rw[m,hlk j _ b,QM];generalize x.looks[j]=l at d;by_cases g:l.ask=QC
   ·obtain⟨y,q,hny,hlt⟩:=hM.asked n d g
    have G:(lkD M l).at_.toNat=gI M l.name:=by unfold lkD;simp[g]
    rw[mc QP (show(lkD M l).ask=QC from g) (by rw[G];omega),G,fi q];have K:aK M l.name=Q y:=by obtain⟨z,hz⟩:=(hR x o).ahd l d g;obtain⟨z1,z2⟩:=fB hz;obtain⟨i,hi⟩:=I7 z1;have:=hM.idx hi;rw[z2] at this;rw[this,hi] at q;rw[hz];exact q
    unfold cj;rw[eT g,K];rfl
   ·unfold cj eG
    rw[a8 g,a8 (show ¬ (lkD M l).ask=QC from g)];rfl
  have r:∀ j,j<=x.looks.length->aY (dF (bk S M)) p j=bF S x.tg ((x.looks.take j).map (cj M)):=fun j f=>by unfold aY bF;rw[m,u,IZ,IT,LG f];refine jI _ _ _ _ _ _ _ _ _ _ fun i _ hi=>?_;rw[q i (by omega)];simp[yL,hi,show i<x.looks.length by omega]
  have QN:(dF (bk S M) p).linksN=x.looks.length:=by rw[m];rfl
  rw[QN];refine⟨fun j f=>?_,?_⟩
  ·have b:x.looks[j]?=Q x.looks[j]:=gq f
   rw[r j (by omega),m,hlk j _ b];exact(hR x o).go k j _ b
  ·rw[r _ lr,List.take_length,m]
   exact(hR x o).fin k
section
variable {f g:Nat->aj}{n:Nat}
theorem DeedEq.symm {x y:aj}(h:DeedEq x y):DeedEq y x:=⟨h.name.symm,h.kind.symm,h.code.symm,h.text.symm,h.actN.symm,fun i hi=>(h.act i (by rw[h.actN];exact hi)).symm,h.linksN.symm,fun i hi=>(h.links i (by rw[h.linksN];exact hi)).symm⟩
theorem EV {a b:Nat->Ins}{m:Nat}(h:∀ i,i<m->a i=b i):valid a m=valid b m:=by
 have:∀ k,k<=m->cQ a k=cQ b k:=by
  intro k;induction k with
  | zero=>intro _;rfl
  | succ k d=>intro hk;rw[cQ,cQ,d (by omega),h k (by omega)]
 unfold valid;rw[this m lr ]
theorem oK (l:aX f n=QC)(h:∀ i,i<n->DeedEq (f i) (g i)){p:Nat}(d:p<n){j:Nat}(hj:j<=(f p).linksN):aY g p j=aY f p j:=by
 have e:=h p d;unfold aY;rw[<-e.actN,<-qa e.act];refine jI _ _ _ _ _ _ _ _ _ _ fun i _ hi=>?_;unfold yOf eG;rw[e.links i (by omega)];split
 ·rename_i k
  have:=gX l p d i (by omega) (by rw[e.links i (by omega)];exact k);rw[e.links i (by omega)] at this;have b:=h ((g p).links i).at_.toNat (by omega);rw[b.kind,b.code,b.text]
 ·rfl
theorem xj {a b c:Nat->Ins}{m k:Nat}(h:∀ i,i<k->b i=c i):cL a b m k=cL a c m k:=by
 unfold cL;by_cases e:m=k
 ·subst e
  have:∀ j,j<=m->cU a b j=cU a c j:=by
   intro j;induction j with
   | zero=>intro _;rfl
   | succ j d=>intro hj;rw[cU,cU,d (by omega),h j (by omega)]
  rw[this m lr ]
 ·simp[e]
theorem xk {S:Spc}(l:aX f n=QC)(h:∀ i,i<n->DeedEq (f i) (g i)){p:Nat}(d:p<n)(k:Borne S f p):Borne S g p:=by
 have e:=h p d;refine⟨?_,?_,qi fun m=>?_⟩
 ·have:=k.lie
  unfold iU ki at this ⊢;rw[<-e.kind,<-e.name,<-e.text,<-e.actN];simp only[<-xj e.act];exact this
 ·refine ml fun j b=>?_
  rw[<-e.linksN] at b;have:=gG k.has b;rw[e.links j b] at this;exact this
 ·obtain⟨h1,h2⟩:=sT k.run (by rw[e.kind];exact m)
  rw[<-e.linksN];refine⟨fun j b=>?_,?_⟩
  ·rw[oK l h d (by omega),<-e.links j b]
   exact h1 j b
  ·rw[oK l h d lr,<-e.code,<-e.text]
   exact h2
end
theorem uk (S:Spc)(nm:ByteArray):aL S 60 [] [] nm=d9 S (me S 60 [] [] nm) [] nm:=by rw[jc];rfl
theorem sV {S:Spc}{nm:ByteArray}{i:Nat}(d:aU S.n0 S.f0 S.n1 S.f1=0)(b:au nm=QC)(hi:atI (nm0 S.f0) S.n0 nm=Q i):(bj S nm).2=⟨0,(S.f0 i).text,[]⟩:=by unfold bj;rw[eT ⟨d,b⟩,uk,d9,hi];rfl
theorem xm {g:Nat->ByteArray}{n i:Nat}{t:ByteArray}(hi:i<n)(b:(g i).toList=t.toList)(f:∀ j,j<i->(g j).toList≠t.toList):atI g n t=Q i:=by unfold atI;rw[List.find?_range_eq_some];refine⟨by simp[b],by simpa using hi,fun j d=>?_⟩;simpa using f j d
end Go.Proofs.YtkdimgejdocbbaaGreatDoor.Vp
