import Derived.Test.YtamacmnikdejeaaGreatDoorRQ
import Derived.Test.YtamacmnikdejeaaGreatDoorSP
set_option linter.unusedSimpArgs false
open Option renaming none->Z,some->T
open Bool renaming false->QB,true->QD
namespace Go.Proofs.YtamacmnikdejeaaGreatDoor.Vp
open RowKit
structure Spc where
 n0:Nat
 f0:Nat->Source
 n1:Nat
 f1:Nat->Target
structure Lk where
 name:ByteArray
 ask:Bool
 has:Bool
structure Ent where
 name:ByteArray
 kind:Int
 code:Int
 text:ByteArray
 tg:Nat
 looks:List Lk
abbrev Out (b:Type):=(List Ent × b) ⊕ List ByteArray ⊕ ByteArray
def oq:aC:=⟨QB,0,⟨#[]⟩⟩
def yL (b:List aC):Nat->aC:=fun k=>b.getD k oq
def iy (e:Ent):aC:=⟨decide (¬ e.kind=2),e.code,e.text⟩
def gv (S:Spc)(t:ByteArray):Bool:=aG (nm0 S.f0) S.n0 t || aG (nm1 S.f1) S.n1 t
def atI (g:Nat->ByteArray)(n:Nat)(t:ByteArray):Option Nat:=(List.range n).find? fun i=>(g i).toList == t.toList
def atL (L:List ByteArray)(t:ByteArray):Option Nat:=L.findIdx? fun x=>x.toList == t.toList
def bj (b:List Ent)(t:ByteArray):Option Ent:=b.find? fun e=>e.name.toList == t.toList
def bH (S:Spc)(t:Nat)(b:List aC):Turn:=bT (S.f1 t).act (S.f1 t).actN (yL b) b.length 2001 0 0 0 []
def bW (S:Spc)(lies:List Ent->ByteArray->Out Ent)(t:Nat):Nat->List Ent->List aC->List Lk->Out (Turn × List Lk)
 | 0,_,_,_=>.inr (.inr ⟨#[]⟩)
 | k+1,made,ys,ls =>
  if (bH S t ys).over=QD then .inl (made,(bH S t ys,ls))
  else if (bH S t ys).ask=QB then bW S lies t k made (ys++[⟨gv S (bH S t ys).name,0,⟨#[]⟩⟩]) (ls++[⟨(bH S t ys).name,QB,gv S (bH S t ys).name⟩])
  else match lies made (bH S t ys).name with
   | .inl (made',e)=>bW S lies t k made' (ys++[iy e]) (ls++[⟨(bH S t ys).name,QD,QB⟩])
   | .inr (.inl c)=>.inr (.inl c)
   | .inr (.inr d)=>.inr (.inr d)
def er (b:List Ent)(e:Ent):Out Ent:=.inl ((b++[e]),e)
def iz (nm:ByteArray)(t:Nat):Out (Turn × List Lk)->Out Ent
 | .inl (made,x)=>er made ⟨nm,3,x.1.code,x.1.text,t,x.2⟩
 | .inr (.inl c)=>.inr (.inl c)
 | .inr (.inr d)=>.inr (.inr d)
def eJ (S:Spc)(tgt:Nat->Out Ent)(b:List Ent)(nm:ByteArray):Out Ent :=
 match atI (nm0 S.f0) S.n0 nm with
 | some i=>er b ⟨nm,1,0,(S.f0 i).text,0,[]⟩
 | none=>match atI (nm1 S.f1) S.n1 nm with
  | some t=>tgt t
  | none=>er b ⟨nm,2,0,⟨#[]⟩,0,[]⟩
def dx (S:Spc)(tgt:Nat->Out Ent)(b:List ByteArray)(f:List Ent)(nm:ByteArray):Out Ent :=
 match bj f nm with
 | some e=>.inl (f,e)
 | none=>match atL b nm with
  | some i=>.inr (.inl (b.drop i))
  | none=>eJ S tgt f nm
def aZ (S:Spc):Nat->List ByteArray->List Ent->ByteArray->Out Ent
 | 0,making,made,nm=>dx S (fun _=>.inr (.inr nm)) making made nm
 | n+1,making,made,nm=>dx S (fun t=>iz nm t (bW S (aZ S n (making++[nm])) t 201 made [] [])) making made nm
def AA (S:Spc)(n:Nat)(b:List ByteArray)(f:List Ent)(nm:ByteArray)(t:Nat):Out Ent :=
 match n with
 | 0=>.inr (.inr nm)
 | n+1=>iz nm t (bW S (aZ S n (b++[nm])) t 201 f [] [])
theorem kV (S:Spc)(n:Nat)(b:List ByteArray)(f:List Ent)(nm:ByteArray):aZ S n b f nm=dx S (AA S n b f nm) b f nm:=by
 cases n with
 | zero=>rw[aZ];rfl
 | succ n=>rw[aZ];rfl
structure ji where
 code:Int
 text:ByteArray
 chain:List ByteArray
def du (e:Ent):ji:=if e.kind=2 then ⟨4,e.name,[]⟩ else ⟨e.code,e.text,[]⟩
def aX (S:Spc)(nm:ByteArray):List Ent × ji :=
 if bh S.n0 S.f0 S.n1 S.f1=0/\au nm=QD then
  (match aZ S 60 [] [] nm with
   | .inl (made,e)=>(made,du e)
   | .inr (.inl c)=>([],⟨6,⟨#[]⟩,c⟩)
   | .inr (.inr d)=>([],⟨7,d,[]⟩))
 else ([],⟨9,⟨#[]⟩,[]⟩)
theorem EN (b:List aC)(r:aC):yL (b++[r]) b.length=r:=by simp[yL]
theorem Ei (b:List aC)(r:aC){k:Nat}(h:k<b.length):yL (b++[r]) k=yL b k:=by simp[yL,IG h]
theorem gP (f:Nat->Ins)(cnt:Nat)(y z:Nat->aC)(n:Nat)(k:Nat):∀ place steps looks b,(∀ i,looks<=i->i<n->y i=z i)->bT f cnt y n k place steps looks b=bT f cnt z n k place steps looks b:=by
 induction k with
 | zero=>intro _ _ _ _ _;rfl
 | succ k g =>
  intro place steps looks b h;rw[bT,bT];rcases bG f cnt place steps looks b with ⟨s,p⟩ | ⟨c,x⟩ | ⟨a,nm,s⟩
  ·exact g _ _ _ _ h
  ·rfl
  ·simp only
   by_cases hn:n<=looks
   ·rw[gM hn,gM hn]
   ·rw[cM hn,cM hn,h looks ly (by omega),g _ _ _ _ fun i hi=>h i (by omega),g _ _ _ _ fun i hi=>h i (by omega)]
theorem pj (u:Nat):(Lib.decDigits u).length<=u+1:=by
 induction u using Nat.strongRecOn with
 | ind u b =>
  rw[Lib.decDigits];split
  ·simp
  ·have:=b (u / 10) (by omega)
   simp only[eI,nD,GD];omega
theorem jD {p:Nat}(h:p<=2000):(dK p).size<=2000:=by
 show(Lib.decDigits p).length<=2000;rw[Lib.decDigits];split
 ·simp
 ·have:=pj (p / 10)
  simp only[eI,nD,GD];omega
def mO (c:Int)(x:ByteArray):Prop:=0<=c/\c<=5/\x.size<=2000
theorem xh {ask:Bool}{a:ByteArray}{r:List ByteArray}{b looks:Nat}{c:Int}{x:ByteArray}(h:gL ask a r b looks=.inr (.inl (c,x)))(f:b<=2000):mO c x:=by
 unfold gL at h;split at h
 ·cases h;exact⟨by omega,by omega,jD f⟩
 ·split at h
  ·cases h;exact⟨by omega,by omega,by decide⟩
  ·cases h
theorem rO {op n:Nat}{t:ByteArray}{b looks:Nat}{f:List ByteArray}{c:Int}{x:ByteArray}(h:cu op n t b looks f=.inr (.inl (c,x)))(i:∀ z∈f,z.size<=2000)(g:b<=2000):mO c x:=by
  unfold cu at h;split at h;all_goals first
    | (cases h;done)
    | exact xh h g
    | (split at h
       · cases h
       · cases h;exact⟨by omega,by omega,jD g⟩)
    | (cases h;exact⟨by omega,by omega,i _ (by simp)⟩)
    | (cases h;exact⟨by omega,by omega,by decide⟩)
theorem xj {f:Nat->Ins}{cnt place steps looks:Nat}{b:List ByteArray}{c:Int}{x:ByteArray}(h:bG f cnt place steps looks b=.inr (.inl (c,x)))(i:∀ z∈b,z.size<=2000)(g:place<=2000):mO c x:=by
 unfold bG at h;split at h
 ·cases h;exact⟨by omega,by omega,jD g⟩
 ·split at h
  ·cases h;exact⟨by omega,by omega,by decide⟩
  ·split at h
   ·cases h;exact⟨by omega,by omega,jD g⟩
   ·exact rO h i g
theorem uH {f:Nat->Ins}{cnt place steps looks:Nat}{b:List ByteArray}(h1:b.length<=50)(h2:∀ z∈b,z.size<=2000)(h:looks<=200)(g:cQ f cnt=QD)(hc:cnt<=200):pS (bG f cnt place steps looks b) looks:=by
 unfold bG;split
 ·trivial
 ·rename_i h1
  split
  ·trivial
  ·split
   ·trivial
   ·rename_i h
    have hi:=js g (show place<cnt by omega);simp only[cy,j5] at hi;obtain⟨i1,i2,i3,i4,i5⟩:=hi;have hmt:dM (f place).op<=2000:=by unfold dM;split<;>(try split)<;>omega
    have hmt2:bP (f place).op<=2000:=by unfold bP;split<;>omega
    exact ix _ _ _ _ _ _ (by assumption) h2 (by omega) (by omega) (by omega) (by assumption) (by omega) (by omega) (by simpa using h)
def yz (n:Nat)(QL:Turn):Prop:=(QL.over=QD/\mO QL.code QL.text)∨(QL.over=QB/\n<200/\au QL.name=QD)
theorem tr {f:Nat->Ins}{cnt place steps looks:Nat}{b s:List ByteArray}{a:Bool}{nm:ByteArray}(h:bG f cnt place steps looks b=.inr (.inr (a,nm,s))):place<cnt:=by
 unfold bG at h;split at h
 ·cases h
 ·omega
theorem yA {nm:ByteArray}(h:au nm=QD):nm.size<=60:=by simp only[au,j4,j5] at h;omega
theorem AE (f:Nat->Ins)(cnt:Nat)(y:Nat->aC)(n:Nat)(r:cQ f cnt=QD)(u:cnt<=200)(C:∀ i,i<n->(y i).text.size<=2000)(k:Nat):∀ place steps looks b,b.length<=50->(∀ z∈b,z.size<=2000)->place<=2000->steps<=2000->looks<=200->looks<=n->k+steps=2001->yz n (bT f cnt y n k place steps looks b):=by
 induction k with
 | zero=>intro _ _ _ _ _ _ _ _ _ _ h;omega
 | succ k m =>
  intro place steps looks b h1 h2 B h4 t D h7;have j:=uH (f:=f) (cnt:=cnt) (place:=place) (steps:=steps) h1 h2 t r u;rw[bT];rcases hs:bG f cnt place steps looks b with ⟨s,p⟩ | ⟨c,x⟩ | ⟨a,nm,s⟩
  ·rw[hs] at j
   obtain⟨q,g,l⟩:=j;obtain⟨o,A⟩:=jd hs;simp only;rw[o];exact m _ _ _ _ q g l (by omega) t D (by omega)
  ·exact .inl ⟨rfl,xj hs h2 B⟩
  ·rw[hs] at j
   obtain⟨q,g,l,g4⟩:=j;obtain⟨o,A⟩:=kM hs;have hp:=tr hs;have hz:=yA l;simp only;rw[o];split
   ·exact .inr ⟨rfl,by omega,l⟩
   ·split
    ·refine m _ _ _ _ (by simp;omega) (fun z hz=>?_) (by omega) (by omega) (by omega) (by omega) (by omega)
     rcases p6.1 hz with rfl | hz
     ·exact iG _
     ·exact g z hz
    ·split
     ·exact .inl ⟨rfl,by simp[fE],by simp[fE],by simp only[fE];omega⟩
     ·split
      ·refine m _ _ _ _ (by simp;omega) (fun z hz=>?_) (by omega) (by omega) (by omega) (by omega) (by omega)
       rcases p6.1 hz with rfl | hz
       ·exact C _ (by omega)
       ·exact g z hz
      ·exact .inl ⟨rfl,by simp[fE],by simp[fE],by simp only[fE];omega⟩
def iJ (S:Spc)(b:List ByteArray)(f:List Ent):Nat->Bool:=fun t=>(bj f (S.f1 t).name).isNone && (atL b (S.f1 t).name).isNone
def dQ (S:Spc)(b:List ByteArray)(f:List Ent):Nat:=(List.range S.n1).countP (iJ S b f)
theorem hZ (b:List Ent)(e:Ent)(t:ByteArray):bj (b++[e]) t=(bj b t).or (if (e.name.toList == t.toList)=QD then T e else Z):=by unfold bj;rw[List.find?_append];cases h:(e.name.toList == t.toList)<;>simp[h]
theorem pW (L:List ByteArray)(x t:ByteArray):(atL (L++[x]) t).isNone=((atL L t).isNone && !(x.toList == t.toList)):=by unfold atL;rw[List.findIdx?_append];cases h:(x.toList == t.toList)<;>cases h2:List.findIdx? (fun x=>x.toList == t.toList) L<;>simp[h,List.findIdx?_cons]
theorem jE (S:Spc)(b:List ByteArray)(f:List Ent)(e:Ent):dQ S b (f++[e])<=dQ S b f:=by
 refine LC fun t _ h=>?_;simp only[iJ,j4,hZ] at h ⊢;refine⟨?_,h.2⟩;cases h2:bj f (S.f1 t).name with
 | none=>rfl
 | some x=>rw[h2] at h;simp at h
theorem qL (S:Spc)(b:List ByteArray)(f:List Ent)(e:Ent):dQ S b (f++[e])<=dQ S (b++[e.name]) f:=by
 refine LC fun t _ h=>?_;simp only[iJ,j4,hZ,pW] at h ⊢;cases h2:bj f (S.f1 t).name with
 | some x=>rw[h2] at h;simp at h
 | none =>
  rw[h2] at h;refine⟨rfl,h.2,?_⟩;cases h3:(e.name.toList == (S.f1 t).name.toList) with
  | false=>rfl
  | true=>rw[h3] at h;simp at h
theorem qM {p q:Nat->Bool}{l:List Nat}(h:∀ x∈l,p x=QD->q x=QD){a:Nat}(b:a∈l)(h1:p a=QB)(h2:q a=QD):l.countP p+1<=l.countP q:=by
 induction l with
 | nil=>cases b
 | cons x l f =>
  have hm:l.countP p<=l.countP q:=LC fun z hz=>h z (mq _ hz);rw[List.countP_cons,List.countP_cons];rcases p6.1 b with rfl | b
  ·rw[h1,h2];simp;omega
  ·have:=f (fun z hz=>h z (mq _ hz)) b
   cases hp:p x with
   | false=>simp;split<;>omega
   | true=>rw[h x J8 hp];simp;omega
theorem gQ {S:Spc}{making:List ByteArray}{made:List Ent}{nm:ByteArray}{t:Nat}(b:t<S.n1)(hn:(S.f1 t).name=nm)(h1:bj made nm=Z)(h2:atL making nm=Z):dQ S (making++[nm]) made+1<=dQ S making made:=by
 refine qM (fun x _ h=>?_) (HU.2 b) ?_ ?_
 ·simp only[iJ,j4,pW] at h ⊢
  exact⟨h.1,h.2.1⟩
 ·simp[iJ,pW,hn]
 ·simp[iJ,hn,h1,h2]
theorem bJ {g:Nat->ByteArray}{n:Nat}{t:ByteArray}{i:Nat}(h:atI g n t=T i):i<n/\g i=t:=by unfold atI at h;have h1:=List.find?_some h;have h2:=List.mem_of_find?_eq_some h;exact⟨HU.1 h2,bytes_beq h1⟩
def fM (S:Spc)(b:List ByteArray)(g f:List Ent)(k:Nat):Prop:=f.length+201*dQ S b f<=g.length+201*dQ S b g+k
theorem qO {S:Spc}{lies:List Ent->ByteArray->Out Ent}{making:List ByteArray}{t:Nat}(l:∀ f nm b e,lies f nm=.inl (b,e)->fM S making f b 1):∀ k f g i b x,bW S lies t k f g i=.inl (b,x)->fM S making f b (k - 1):=by
 intro k;induction k with
 | zero=>intro f g i b x h;cases h
 | succ k j =>
  intro f g i b x h;rw[bW] at h;split at h
  ·cases h;unfold fM;omega
  ·cases k with
   | zero =>
    split at h
    ·cases h
    ·split at h<;>cases h
   | succ k =>
    split at h
    ·have:=j _ _ _ _ _ h
     unfold fM at this ⊢;omega
    ·split at h
     ·rename_i made1 e m
      have h1:=l _ _ _ _ m;have h2:=j _ _ _ _ _ h;unfold fM at h1 h2 ⊢;omega
     ·cases h
     ·cases h
theorem kW (S:Spc):∀ n b g nm f e,aZ S n b g nm=.inl (f,e)->fM S b g f 1:=by
 intro n;have m:∀ b g nm f e (tgt:Nat->Out Ent),(∀ t f e,atI (nm1 S.f1) S.n1 nm=T t->bj g nm=Z->atL b nm=Z->tgt t=.inl (f,e)->fM S b g f 1)->dx S tgt b g nm=.inl (f,e)->fM S b g f 1:=by
  intro b g nm f e tgt r h;unfold dx at h;split at h
  ·cases h;unfold fM;omega
  ·rename_i o
   split at h
   ·cases h
   ·rename_i h1
    unfold eJ er at h;split at h
    ·rename_i i hi
     cases h
     have:=jE S b g ⟨nm,1,0,(S.f0 i).text,0,[]⟩;unfold fM;rw[eI,AS];omega
    ·split at h
     ·rename_i t l
      exact r _ _ _ l o h1 h
     ·cases h
      have:=jE S b g ⟨nm,2,0,⟨#[]⟩,0,[]⟩;unfold fM;rw[eI,AS];omega
 induction n with
 | zero =>intro b g nm f e h;rw[aZ] at h;exact m _ _ _ _ _ _ (fun t _ _ _ _ _ h=>by cases h) h
 | succ n p =>
  intro b g nm f e h;rw[aZ] at h;refine m _ _ _ _ _ _ (fun t f e l o h1 h=>?_) h;rcases hr:bW S (aZ S n (b++[nm])) t 201 g [] [] with ⟨j,x⟩ | c | c
  ·rw[hr] at h
   simp only[iz,er,LA,IA] at h;obtain⟨rfl,rfl⟩:=h;have q:=qO (making:=b++[nm]) (fun g nm2 f e s=>p _ _ _ _ _ s) _ _ _ _ _ _ hr;have g2:=gQ (making:=b) (made:=g) (bJ l).1 (bJ l).2 o h1;have g3:dQ S b (j++[⟨nm,3,x.1.code,x.1.text,t,x.2⟩])<=dQ S (b++[nm]) j:=qL S b j ⟨nm,3,x.1.code,x.1.text,t,x.2⟩;unfold fM at q ⊢;rw[eI,AS];omega
  ·rw[hr] at h;cases h
  ·rw[hr] at h;cases h
structure SpcOk (S:Spc):Prop where
 chk:bh S.n0 S.f0 S.n1 S.f1=0
 asc0:aI (nm0 S.f0) S.n0=QD
 asc1:aI (nm1 S.f1) S.n1=QD
 small:S.n0+S.n1<=200
 text:∀ i,i<S.n0->(S.f0 i).text.size<=2000
 act:∀ t,t<S.n1->valid (S.f1 t).act (S.f1 t).actN=QD
theorem jj {p:Nat->Bool}{n i:Nat}(h:aJ p n=QB)(hi:i<n):p i=QB:=by
 induction n with
 | zero=>omega
 | succ n b =>
  rw[aJ,MX] at h;by_cases e:i=n
  ·subst e;exact h.2
  ·exact b h.1 (by omega)
theorem SpcOk.of {S:Spc}(h:bh S.n0 S.f0 S.n1 S.f1=0):SpcOk S:=by
 obtain⟨h1,h2,f⟩:=qC h;have b:=h;unfold bh at h;split at h;· omega
 split at h;· omega
 split at h;· omega
 split at h;· omega
 split at h;· omega
 split at h;· omega
 split at h;· omega
 split at h;· omega
 rename_i l g;refine⟨b,h1,h2,f,fun i hi=>?_,fun t j=>?_⟩
 ·have:=jj (Bool.eq_false_iff.2 l) hi
  simp only[ey,IT] at this;omega
 ·have:=jj (Bool.eq_false_iff.2 g) j
  simpa[b9] using this
structure EG (S:Spc)(x:Ent):Prop where
 nm:au x.name=QD
 tx:x.text.size<=2000
 code:0<=x.code/\x.code<=5
 kind:(x.kind=1/\x.code=0/\x.looks=[]/\∃ i,atI (nm0 S.f0) S.n0 x.name=T i/\x.text=(S.f0 i).text)∨(x.kind=2/\x.code=0/\x.text=⟨#[]⟩/\x.looks=[]/\atI (nm0 S.f0) S.n0 x.name=Z/\atI (nm1 S.f1) S.n1 x.name=Z)∨(x.kind=3/\atI (nm0 S.f0) S.n0 x.name=Z/\atI (nm1 S.f1) S.n1 x.name=T x.tg)
 looks:x.looks.length<=200
 lname:∀ l∈x.looks,au l.name=QD
structure PG (S:Spc)(making:List ByteArray)(made:List Ent):Prop where
 ents:∀ x∈made,EG S x
 nod:made.Pairwise fun x y=>x.name≠y.name
 off:∀ x∈made,atL making x.name=Z
 ord:∀ (i:Nat) (x:Ent),made[i]?=T x->∀ l∈x.looks,l.ask=QD->∃ (j:Nat) (y:Ent),j<i/\made[j]?=T y/\y.name=l.name
theorem ie (S:Spc)(b:List ByteArray):PG S b []:=⟨fun x h=>absurd h nj,List.Pairwise.nil,fun x h=>absurd h nj,fun i x h=>by simp at h⟩
theorem fD {b:List Ent}{nm:ByteArray}(h:bj b nm=Z):∀ x∈b,x.name≠nm:=by intro x f e;have:=KV.1 h x f;rw[e] at this;simp at this
theorem gw {b:List Ent}{nm:ByteArray}{e:Ent}(h:bj b nm=T e):e∈b/\e.name=nm:=⟨List.mem_of_find?_eq_some h,bytes_beq (List.find?_some (p:=fun e:Ent=>e.name.toList == nm.toList) h)⟩
theorem jk {L:List ByteArray}{nm:ByteArray}(h:atL L nm=Z):∀ x∈L,x≠nm:=by intro x b e;have:=JU.1 h x b;rw[e] at this;simp at this
theorem jS {L:List ByteArray}{nm:ByteArray}(h:∀ x∈L,x≠nm):atL L nm=Z :=
 JU.2 fun x b=>by
  cases e:(x.toList == nm.toList) with
  | false=>rfl
  | true=>exact absurd (bytes_beq e) (h x b)
theorem PG.add {S:Spc}{m:List ByteArray}{f:List Ent}{e:Ent}(h:PG S m f)(A:EG S e)(z:∀ x∈f,x.name≠e.name)(h1:atL m e.name=Z)(t:∀ l∈e.looks,l.ask=QD->∃ x∈f,x.name=l.name):PG S m (f++[e]):=by
 refine⟨fun x g=>?_,?_,fun x g=>?_,fun i x hi l q p=>?_⟩
 ·rcases nL.1 g with g | g
  ·exact h.ents x g
  ·rw[hU.1 g];exact A
 ·rw[JG]
  exact⟨h.nod,List.pairwise_singleton _ _,fun a p b hb=>by rw[hU.1 hb];exact z a p⟩
 ·rcases nL.1 g with g | g
  ·exact h.off x g
  ·rw[hU.1 g];exact h1
 ·rcases JK i f.length with s | r
  ·rw[IG s] at hi
   obtain⟨j,y,o,n,hn⟩:=h.ord i x hi l q p;exact⟨j,y,o,by rw[IG (by omega)];exact n,hn⟩
  ·rw[BS r] at hi
   have u:x=e:=by
    cases hk:i - f.length with
    | zero=>rw[hk] at hi;simpa using hi.symm
    | succ k=>rw[hk] at hi;simp at hi
   subst u;obtain⟨y,n,hn⟩:=t l q p;obtain⟨j,o,n⟩:=KP n;exact⟨j,y,by omega,by rw[IG o,gq o,n],hn⟩
structure RG (S:Spc)(made:List Ent)(ys:List aC)(ls:List Lk):Prop where
 good:∀ y∈ys,ce y=QD
 len:ls.length=ys.length
 names:∀ l∈ls,au l.name=QD
 asked:∀ l∈ls,l.ask=QD->∃ x∈made,x.name=l.name
theorem jl (S:Spc)(b:List Ent):RG S b [] []:=⟨fun _ h=>absurd h nj,rfl,fun _ h=>absurd h nj,fun _ h=>absurd h nj⟩
theorem RG.mono {S:Spc}{f b:List Ent}{i:List aC}{g:List Lk}(h:RG S f i g)(j:∀ x∈f,x∈b):RG S b i g:=⟨h.good,h.len,h.names,fun l m n=>let ⟨x,hx,e⟩:=h.asked l m n;⟨x,j x hx,e⟩⟩
theorem RG.add {S:Spc}{b:List Ent}{g:List aC}{f:List Lk}{y:aC}{l:Lk}(h:RG S b g f)(j:ce y=QD)(hn:au l.name=QD)(i:l.ask=QD->∃ x∈b,x.name=l.name):RG S b (g++[y]) (f++[l]):=by
 refine⟨fun z hz=>?_,by simp[h.len],fun z hz=>?_,fun z hz=>?_⟩
 ·rcases nL.1 hz with hz | hz
  ·exact h.good z hz
  ·rw[hU.1 hz];exact j
 ·rcases nL.1 hz with hz | hz
  ·exact h.names z hz
  ·rw[hU.1 hz];exact hn
 ·rcases nL.1 hz with hz | hz
  ·exact h.asked z hz
  ·rw[hU.1 hz];exact i
theorem Cd {f:List aC}(h:∀ y∈f,ce y=QD)(k:Nat):ce (yL f k)=QD:=by
 unfold yL;rcases JK k f.length with b | b
 ·rw[CL,gq b]
  exact h _ (gj b)
 ·rw[CL,I6 b]
  rfl
theorem kY {S:Spc}(g:SpcOk S){t:Nat}(f:t<S.n1){b:List aC}(h:∀ y∈b,ce y=QD):yz b.length (bH S t b):=by obtain⟨h1,h2,h3⟩:=bN (g.act t f);refine AE _ _ _ _ h1 (by omega) (fun i _=>?_) 2001 0 0 0 [] (by simp) (by simp) (by omega) (by omega) (by omega) (by omega) (by omega);have:=Cd h i;simp only[ce,j5] at this;exact this.1
theorem mP (S:Spc)(t:ByteArray):ce ⟨gv S t,0,⟨#[]⟩⟩=QD:=by simp only[ce,j5];exact⟨by decide,by decide,by decide⟩
theorem mQ {S:Spc}{x:Ent}(h:EG S x):ce (iy x)=QD:=by have h1:=h.tx;have h2:=h.code;exact JF ⟨h1,h2.1,Int.le_trans h2.2 (by decide)⟩
def kZ (S:Spc)(f:List ByteArray)(lies:List Ent->ByteArray->Out Ent):Prop:=∀ g nm b e,PG S f g->au nm=QD->lies g nm=.inl (b,e)->PG S f b/\(∃ more,b=g++more)/\e∈b/\e.name=nm
theorem ig {S:Spc}(H:SpcOk S){lies:List Ent->ByteArray->Out Ent}{g:List ByteArray}{t:Nat}(B:t<S.n1)(QP:kZ S g lies):∀ k f i m b x,PG S g f->RG S f i m->i.length+k=201->bW S lies t k f i m=.inl (b,x)->PG S g b/\(∃ more,b=f++more)/\mO x.1.code x.1.text/\x.2.length<=200/\(∀ l∈x.2,au l.name=QD)/\∀ l∈x.2,l.ask=QD->∃ y∈b,y.name=l.name:=by
 intro k;induction k with
 | zero=>intro f i m b x _ _ _ h;cases h
 | succ k A =>
  intro f i m b x p j hk h;have K:=kY H B j.good;rw[bW] at h;rcases K with ⟨q,o⟩ | ⟨q,hlt,hn⟩
  ·rw[gM q] at h
   cases h
   exact⟨p,⟨[],by simp⟩,o,by rw[j.len];omega,j.names,j.asked⟩
  ·rw[cM (by rw[q];simp)] at h
   split at h
   ·exact A _ _ _ _ _ p (j.add (mP _ _) hn (fun h=>by cases h)) (by simp;omega) h
   ·split at h
    ·rename_i n e o
     obtain⟨z,⟨more,u⟩,s,D⟩:=QP _ _ _ _ p hn o;have r:RG S n i m:=j.mono fun x E=>by rw[u];exact IS _ E
     obtain⟨QR,⟨more2,C⟩,QO⟩:=A _ _ _ _ _ z (r.add (l:=⟨(bH S t i).name,QD,QB⟩) (mQ (z.ents e s)) hn (fun _=>⟨e,s,D⟩)) (by simp;omega) h;exact⟨QR,⟨more++more2,by rw[C,u,II]⟩,QO⟩
    ·cases h
    ·cases h
theorem ke {S:Spc}{b:List ByteArray}{f:List Ent}{nm:ByteArray}(h:PG S b f)(i:bj f nm=Z):PG S (b++[nm]) f :=
 ⟨h.ents,h.nod,fun x g=>jS fun z hz=>by
  rcases nL.1 hz with hz | hz
  ·exact jk (h.off x g) z hz
  ·rw[hU.1 hz];exact fun e=>fD i x g e.symm,h.ord⟩
theorem mR {S:Spc}{b:List ByteArray}{f:List Ent}{nm:ByteArray}(h:PG S (b++[nm]) f):PG S b f/\∀ x∈f,x.name≠nm :=
 ⟨⟨h.ents,h.nod,fun x g=>jS fun z hz=>jk (h.off x g) z (IS _ hz),h.ord⟩,fun x g e=>jk (h.off x g) nm (JD _ (hU.2 rfl)) e.symm⟩
theorem AF {S:Spc}{b:List ByteArray}{f:List Ent}{nm:ByteArray}{t:Nat}{x:Turn × List Lk}(h:PG S (b++[nm]) f)(hn:au nm=QD)(h1:atL b nm=Z)(h2:atI (nm0 S.f0) S.n0 nm=Z)(j:atI (nm1 S.f1) S.n1 nm=T t)(g:mO x.1.code x.1.text)(m:x.2.length<=200)(i:∀ l∈x.2,au l.name=QD)(n:∀ l∈x.2,l.ask=QD->∃ y∈f,y.name=l.name):PG S b (f++[⟨nm,3,x.1.code,x.1.text,t,x.2⟩]) :=
 (mR h).1.add ⟨hn,g.2.2,⟨g.1,g.2.1⟩,.inr (.inr ⟨rfl,h2,j⟩),m,i⟩ (mR h).2 h1 n
theorem AG {S:Spc}(m:SpcOk S){b:List ByteArray}{f:List Ent}{nm:ByteArray}{i:Nat}(h:PG S b f)(hn:au nm=QD)(j:bj f nm=Z)(h1:atL b nm=Z)(h2:atI (nm0 S.f0) S.n0 nm=T i):PG S b (f++[⟨nm,1,0,(S.f0 i).text,0,[]⟩]) :=
 h.add ⟨hn,m.text i (bJ h2).1,⟨NP _,by show(0:Int)<=5;decide⟩,.inl ⟨rfl,rfl,rfl,i,h2,rfl⟩,DN _,fun l g=>absurd g nj⟩ (fD j) h1 fun l g=>absurd g nj
theorem yB {S:Spc}{b:List ByteArray}{f:List Ent}{nm:ByteArray}(h:PG S b f)(hn:au nm=QD)(i:bj f nm=Z)(h1:atL b nm=Z)(h2:atI (nm0 S.f0) S.n0 nm=Z)(j:atI (nm1 S.f1) S.n1 nm=Z):PG S b (f++[⟨nm,2,0,⟨#[]⟩,0,[]⟩]) :=
 h.add ⟨hn,DN _,⟨NP _,by show(0:Int)<=5;decide⟩,.inr (.inl ⟨rfl,rfl,rfl,rfl,h2,j⟩),DN _,fun l g=>absurd g nj⟩ (fD i) h1 fun l g=>absurd g nj
theorem ej {S:Spc}(p:SpcOk S):∀ n b,kZ S b (aZ S n b):=by
 intro n;have o:∀ b g nm f e (tgt:Nat->Out Ent),PG S b g->au nm=QD->(∀ t f e,atI (nm0 S.f0) S.n0 nm=Z->atI (nm1 S.f1) S.n1 nm=T t->bj g nm=Z->atL b nm=Z->tgt t=.inl (f,e)->PG S b f/\(∃ more,f=g++more)/\e∈f/\e.name=nm)->dx S tgt b g nm=.inl (f,e)->PG S b f/\(∃ more,f=g++more)/\e∈f/\e.name=nm:=by
  intro b g nm f e tgt j hn r h;unfold dx at h;split at h
  ·rename_i e1 C
   cases h
   exact⟨j,⟨[],by simp⟩,gw C⟩
  ·rename_i m
   split at h
   ·cases h
   ·rename_i h1
    unfold eJ er at h;split at h
    ·rename_i i hi
     cases h
     exact⟨AG p j hn m h1 hi,⟨_,rfl⟩,by simp,rfl⟩
    ·rename_i h2
     split at h
     ·rename_i t l
      exact r _ _ _ h2 l m h1 h
     ·rename_i l
      cases h
      exact⟨yB j hn m h1 h2 l,⟨_,rfl⟩,by simp,rfl⟩
 induction n with
 | zero =>intro b g nm f e j hn h;rw[aZ] at h;exact o _ _ _ _ _ _ j hn (fun t _ _ _ _ _ _ h=>by cases h) h
 | succ n y =>
  intro b g nm f e j hn h;rw[aZ] at h;refine o _ _ _ _ _ _ j hn (fun t f e h2 l m h1 h=>?_) h;rcases hr:bW S (aZ S n (b++[nm])) t 201 g [] [] with ⟨made1,x⟩ | c | c
  ·rw[hr] at h
   simp only[iz,er,LA,IA] at h;obtain⟨rfl,rfl⟩:=h;obtain⟨u,⟨more,s⟩,A,z,q,B⟩:=ig p (bJ l).1 (y (b++[nm])) _ _ _ _ _ _ (ke j m) (jl S g) rfl hr;exact⟨AF u hn h1 h2 l A z q B,⟨more++[_],by rw[s,II]⟩,by simp,rfl⟩
  ·rw[hr] at h;cases h
  ·rw[hr] at h;cases h
def jm (b:List Ent)(nm:ByteArray):Nat:=b.findIdx fun e=>e.name.toList == nm.toList
def lkD (b:List Ent)(l:Lk):Link:=⟨l.name,l.ask,l.has,if l.ask=QD then ((jm b l.name:Nat):Int) else 0⟩
def lkF (b:List Ent)(f:List Lk):Nat->Link:=fun i=>lkD b (f.getD i ⟨⟨#[]⟩,QB,QB⟩)
def cI (S:Spc)(e:Ent):Nat:=if e.kind=3 then (S.f1 e.tg).actN else 0
def bm (S:Spc)(b:List Ent)(e:Ent):ah:=⟨e.name,e.kind,e.code,e.text,cI S e,(S.f1 e.tg).act,e.looks.length,lkF b e.looks⟩
def aO (S:Spc)(b:List Ent):List ah:=b.map (bm S b)
theorem kf {b:List Ent}{f:List Lk}{i:Nat}{l:Lk}(h:f[i]?=T l):lkF b f i=lkD b l:=by unfold lkF;rw[CL,h];rfl
theorem pk (S:Spc)(nm:ByteArray):PG S [] (aX S nm).1/\(aX S nm).1.length<=40201/\((aX S nm).1≠[]->SpcOk S):=by
 unfold aX;split
 ·rename_i h
  have f:=SpcOk.of h.1;split
  ·rename_i b e i
   have g:=kW S 60 [] [] nm b e i;unfold fM at g;have hl:dQ S [] []<=S.n1:=by unfold dQ;have:=LD (p:=iJ S [] []) (l:=List.range S.n1);simpa using this
   have hs:=f.small;refine⟨(ej f 60 [] [] nm b e (ie S []) h.2 i).1,?_,fun _=>f⟩;simp only[GD] at g;show b.length<=40201;omega
  ·exact⟨ie S [],DN _,fun h=>absurd rfl h⟩
  ·exact⟨ie S [],DN _,fun h=>absurd rfl h⟩
 ·exact⟨ie S [],DN _,fun h=>absurd rfl h⟩
theorem PG.idx {S:Spc}{f:List ByteArray}{b:List Ent}(h:PG S f b){i:Nat}{x:Ent}(l:b[i]?=T x):jm b x.name=i:=by
 obtain⟨hi,e⟩:=j2.1 l;unfold jm;rw[List.findIdx_eq hi];refine⟨by simp[e],fun j m=>?_⟩;have g:=ID.1 h.nod j i (by omega) hi m;rw[e] at g;cases hb:(b[j].name.toList == x.name.toList) with
 | false=>rfl
 | true=>exact absurd (bytes_beq hb) g
theorem PG.asked {S:Spc}{f:List ByteArray}{b:List Ent}(h:PG S f b){i:Nat}{x:Ent}(o:b[i]?=T x){l:Lk}(m:l∈x.looks)(n:l.ask=QD):∃ y,b[jm b l.name]?=T y/\y.name=l.name/\jm b l.name<i:=by obtain⟨j,y,hj,g,e⟩:=h.ord i x o l m n;have:=h.idx g;rw[e] at this;exact⟨y,by rw[this];exact g,e,by omega⟩
def cY (b:List Ent)(l:Lk):aC:=if l.ask=QD then ((bj b l.name).elim oq iy) else ⟨l.has,0,⟨#[]⟩⟩
structure Rn (S:Spc)(made:List Ent)(x:Ent):Prop where
 has:∀ l∈x.looks,l.ask=QD->l.has=QB
 ahd:∀ l∈x.looks,l.ask=QD->∃ y,bj made l.name=T y
 go:x.kind=3->∀ k l,x.looks[k]?=T l->(bH S x.tg ((x.looks.take k).map (cY made))).over=QB/\(bH S x.tg ((x.looks.take k).map (cY made))).name=l.name/\(bH S x.tg ((x.looks.take k).map (cY made))).ask=l.ask
 fin:x.kind=3->(bH S x.tg (x.looks.map (cY made))).over=QD/\(bH S x.tg (x.looks.map (cY made))).code=x.code/\(bH S x.tg (x.looks.map (cY made))).text=x.text
theorem lc {b more:List Ent}{t:ByteArray}{y:Ent}(h:bj b t=T y):bj (b++more) t=T y:=by unfold bj at h ⊢;rw[List.find?_append,h];rfl
theorem yD {b more:List Ent}{l:Lk}(h:l.ask=QD->∃ y,bj b l.name=T y):cY (b++more) l=cY b l:=by
 unfold cY;split
 ·rename_i g
  obtain⟨y,f⟩:=h g;rw[f,lc f]
 ·rfl
theorem li {made more:List Ent}{b:List Lk}(h:∀ l∈b,l.ask=QD->∃ y,bj made l.name=T y):b.map (cY (made++more))=b.map (cY made) :=
 List.map_congr_left fun l f=>yD (h l f)
theorem Rn.more {S:Spc}{b more:List Ent}{x:Ent}(h:Rn S b x):Rn S (b++more) x:=by
 refine⟨h.has,fun l f i=>?_,fun g k l f=>?_,fun g=>?_⟩
 ·obtain⟨y,j⟩:=h.ahd l f i
  exact⟨y,lc j⟩
 ·rw[li (made:=b) (more:=more) fun l f=>h.ahd l (JX f)]
  exact h.go g k l f
 ·rw[li h.ahd]
  exact h.fin g
theorem vu {S:Spc}{b:List Ent}{x:Ent}(f:x.kind≠3)(g:x.looks=[]):Rn S b x :=
 ⟨(fun l h=>by rw[g] at h;cases h),(fun l h=>by rw[g] at h;cases h),fun h=>absurd h f,fun h=>absurd h f⟩
structure Rl (S:Spc)(t:Nat)(made:List Ent)(ys:List aC)(ls:List Lk):Prop where
 rep:ys=ls.map (cY made)
 has:∀ l∈ls,l.ask=QD->l.has=QB
 ahd:∀ l∈ls,l.ask=QD->∃ y,bj made l.name=T y
 go:∀ k l,ls[k]?=T l->(bH S t ((ls.take k).map (cY made))).over=QB/\(bH S t ((ls.take k).map (cY made))).name=l.name/\(bH S t ((ls.take k).map (cY made))).ask=l.ask
theorem Rl.more {S:Spc}{t:Nat}{b more:List Ent}{i:List aC}{g:List Lk}(h:Rl S t b i g):Rl S t (b++more) i g:=by
 refine⟨by rw[li h.ahd];exact h.rep,h.has,fun l f j=>?_,fun k l f=>?_⟩
 ·obtain⟨y,m⟩:=h.ahd l f j
  exact⟨y,lc m⟩
 ·rw[li (made:=b) (more:=more) fun l f=>h.ahd l (JX f)]
  exact h.go k l f
theorem Rl.add {S:Spc}{t:Nat}{b:List Ent}{f:List aC}{g:List Lk}{r:aC}{l:Lk}(h:Rl S t b f g)(j:r=cY b l)(h1:l.ask=QD->l.has=QB)(h2:l.ask=QD->∃ y,bj b l.name=T y)(m:(bH S t f).over=QB)(hn:(bH S t f).name=l.name)(o:(bH S t f).ask=l.ask):Rl S t b (f++[r]) (g++[l]):=by
 refine⟨by rw[HJ,<-h.rep,j];rfl,fun z hz=>?_,fun z hz=>?_,fun k z hz=>?_⟩
 ·rcases nL.1 hz with hz | hz
  ·exact h.has z hz
  ·rw[hU.1 hz];exact h1
 ·rcases nL.1 hz with hz | hz
  ·exact h.ahd z hz
  ·rw[hU.1 hz];exact h2
 ·rcases JK k g.length with i | hge
  ·rw[IG i] at hz
   rw[List.take_append_of_le_length (by omega)];exact h.go k z hz
  ·have n:k=g.length:=by
    have:=(j2.1 hz).1;simp at this;omega
   subst n;rw[BS ly,J2] at hz;obtain rfl:l=z:=by simpa using hz
   rw[List.take_left,<-h.rep];exact⟨m,hn,o⟩
def vv (S:Spc)(g:List ByteArray)(lies:List Ent->ByteArray->Out Ent):Prop:=∀ f nm b e,PG S g f->au nm=QD->(∀ x∈f,Rn S f x)->lies f nm=.inl (b,e)->(∀ x∈b,Rn S b x)/\bj b nm=T e
theorem AH {S:Spc}(O:SpcOk S){lies:List Ent->ByteArray->Out Ent}{g:List ByteArray}{t:Nat}(K:t<S.n1)(QO:kZ S g lies)(hn:vv S g lies):∀ k f i n b x,PG S g f->RG S f i n->(∀ x∈f,Rn S f x)->Rl S t f i n->i.length+k=201->bW S lies t k f i n=.inl (b,x) ->
  (∀ z∈b,Rn S b z)/\(∀ l∈x.2,l.ask=QD->l.has=QB)/\(∀ l∈x.2,l.ask=QD->∃ y,bj b l.name=T y)/\(∀ k l,x.2[k]?=T l->(bH S t ((x.2.take k).map (cY b))).over=QB/\(bH S t ((x.2.take k).map (cY b))).name=l.name/\(bH S t ((x.2.take k).map (cY b))).ask=l.ask)/\(bH S t (x.2.map (cY b))).over=QD/\bH S t (x.2.map (cY b))=x.1:=by
 intro k;induction k with
 | zero=>intro f i n b x _ _ _ _ _ h;cases h
 | succ k QP =>
  intro f i n b x q r s j hk h;have QN:=kY O K r.good;rw[bW] at h;rcases QN with ⟨p,A⟩ | ⟨p,hlt,o⟩
  ·rw[gM p] at h
   cases h
   exact⟨s,j.has,j.ahd,j.go,by rw[<-j.rep];exact p,by rw[<-j.rep]⟩
  ·rw[cM (by rw[p];simp)] at h
   split at h
   ·rename_i u
    exact QP _ _ _ _ _ q (r.add (mP _ _) o (fun h=>by cases h)) s (j.add (by unfold cY;rw[cM (by simp)]) (fun h=>by cases h) (fun h=>by cases h) p rfl u) (by simp;omega) h
   ·rename_i u
    split at h
    ·rename_i m e A
     obtain⟨D,⟨more,C⟩,H,L⟩:=QO _ _ _ _ q o A;obtain⟨M,B⟩:=hn _ _ _ _ q o s A;have E:RG S m i n:=r.mono fun x j=>by rw[C];exact IS _ j
     have QR:Rl S t m i n:=by rw[C];exact j.more
     exact QP _ _ _ _ _ D (E.add (l:=⟨(bH S t i).name,QD,QB⟩) (mQ (D.ents e H)) o (fun _=>⟨e,H,L⟩)) M (QR.add (by unfold cY;rw[gM rfl];show iy e=(bj m (bH S t i).name).elim oq iy;rw[B];rfl) (fun _=>rfl) (fun _=>⟨e,B⟩) p rfl (by simpa using u)) (by simp;omega) h
    ·cases h
    ·cases h
theorem iK {b:List Ent}{e:Ent}(h:bj b e.name=Z):bj (b++[e]) e.name=T e:=by rw[hZ,h];simp
theorem ts {b:List Ent}{nm:ByteArray}(h:∀ x∈b,x.name≠nm):bj b nm=Z :=
 KV.2 fun x f e=>h x f (bytes_beq e)
theorem pX {S:Spc}{b:List Ent}{e:Ent}(h:∀ x∈b,Rn S b x)(g:Rn S b e):∀ x∈b++[e],Rn S (b++[e]) x:=fun x f=>by
 rcases nL.1 f with f | f
 ·exact(h x f).more
 ·rw[hU.1 f];exact g.more
theorem Ej (S:Spc)(t:Nat)(b:List Ent):Rl S t b [] []:=⟨rfl,fun _ h=>absurd h nj,fun _ h=>absurd h nj,fun k l h=>by simp at h⟩
theorem yE {S:Spc}(o:SpcOk S):∀ n b,vv S b (aZ S n b):=by
 intro n;have q:∀ b g nm f e (tgt:Nat->Out Ent),PG S b g->au nm=QD->(∀ x∈g,Rn S g x)->(∀ t f e,atI (nm1 S.f1) S.n1 nm=T t->bj g nm=Z->tgt t=.inl (f,e)->(∀ x∈f,Rn S f x)/\bj f nm=T e)->dx S tgt b g nm=.inl (f,e)->(∀ x∈f,Rn S f x)/\bj f nm=T e:=by
  intro b g nm f e tgt j hn i A h;unfold dx at h;split at h
  ·rename_i e1 D
   cases h
   exact⟨i,D⟩
  ·rename_i l
   split at h
   ·cases h
   ·unfold eJ er at h
    split at h
    ·cases h
     exact⟨pX i (vu (by show(1:Int)≠3;decide) rfl),iK l⟩
    ·split at h
     ·rename_i t m
      exact A _ _ _ m l h
     ·cases h
      exact⟨pX i (vu (by show(2:Int)≠3;decide) rfl),iK l⟩
 induction n with
 | zero =>intro b g nm f e j hn i h;rw[aZ] at h;exact q _ _ _ _ _ _ j hn i (fun t _ _ _ _ h=>by cases h) h
 | succ n s =>
  intro b g nm f e j hn i h;rw[aZ] at h;refine q _ _ _ _ _ _ j hn i (fun t f e m l h=>?_) h;rcases hr:bW S (aZ S n (b++[nm])) t 201 g [] [] with ⟨made1,x⟩ | c | c
  ·rw[hr] at h
   simp only[iz,er,LA,IA] at h;obtain⟨rfl,rfl⟩:=h;have p:=ke j l;obtain⟨y,_⟩:=ig o (bJ m).1 (ej o n (b++[nm])) _ _ _ _ _ _ p (jl S g) rfl hr;obtain⟨z,B,C,E,u,r⟩:=AH o (bJ m).1 (ej o n (b++[nm])) (s (b++[nm])) _ _ _ _ _ _ p (jl S g) i (Ej S t g) rfl hr;exact⟨pX z ⟨B,C,fun _=>E,fun _=>⟨u,by rw[r],by rw[r]⟩⟩,iK (e:=⟨nm,3,x.1.code,x.1.text,t,x.2⟩) (ts (mR y).2)⟩
  ·rw[hr] at h;cases h
  ·rw[hr] at h;cases h
theorem yF (f:Nat->Ins)(cnt:Nat)(i:List aC)(r:aC)(o:r.has=QB)(k:Nat):∀ place steps looks j,looks<=i.length->(bT f cnt (yL i) i.length k place steps looks j).over=QB->(bT f cnt (yL i) i.length k place steps looks j).ask=QD->(bT f cnt (yL (i++[r])) (i.length+1) k place steps looks j).over=QD:=by
 induction k with
 | zero=>intro _ _ _ _ _ _ h;cases h
 | succ k l =>
  intro place steps looks j q g b;rw[bT] at g b ⊢;rcases hs:bG f cnt place steps looks j with ⟨s,p⟩ | ⟨c,x⟩ | ⟨a,nm,s⟩
  ·rw[hs] at g b
   exact l _ _ _ _ q g b
  ·rfl
  ·rw[hs] at g b
   simp only at g b ⊢;rw[cM (show ¬ i.length+1<=looks by omega)];by_cases hn:i.length<=looks
   ·obtain rfl:looks=i.length:=by omega
    rw[gM hn] at g b;have m:a=QD:=b;subst m;rw[cM (by simp),EN,gM o];rfl
   ·rw[cM hn] at g b
    rw[Ei _ _ (by omega)];split
    ·rename_i h1
     rw[gM h1] at g b;exact l _ _ _ _ (by omega) g b
    ·rename_i h1
     rw[cM h1] at g b;split
     ·rfl
     ·rename_i h2
      rw[cM h2] at g b;split
      ·rename_i n
       rw[gM n] at g b;exact l _ _ _ _ (by omega) g b
      ·rfl
def lm (S:Spc)(b:List Ent):Nat:=(List.range S.n0).countP fun i=>(bj b (S.f0 i).name).isNone
def Mu (S:Spc)(f:List ByteArray)(b:List Ent):Nat:=b.length+2*dQ S f b+lm S b
theorem qP (S:Spc)(b:List Ent)(e:Ent):lm S (b++[e])<=lm S b:=by
 refine LC fun t _ h=>?_;rw[hZ] at h;cases h2:bj b (S.f0 t).name with
 | none=>rfl
 | some x=>rw[h2] at h;simp at h
theorem yG {S:Spc}{b:List Ent}{e:Ent}{i:Nat}(hi:i<S.n0)(hn:(S.f0 i).name=e.name)(h:bj b e.name=Z):lm S (b++[e])+1<=lm S b:=by
 refine qM (fun x _ h=>?_) (HU.2 hi) ?_ ?_
 ·rw[hZ] at h
  cases h2:bj b (S.f0 x).name with
  | none=>rfl
  | some y=>rw[h2] at h;simp at h
 ·rw[hn,iK h]
  rfl
 ·rw[hn,h]
  rfl
def yH (S:Spc)(b:List ByteArray)(lies:List Ent->ByteArray->Out Ent):Prop:=∀ g nm f e,lies g nm=.inl (f,e)->Mu S b f<=Mu S b g+if e.kind=2 then 1 else 0
theorem Dl {S:Spc}{lies:List Ent->ByteArray->Out Ent}{f:List ByteArray}{t:Nat}(o:yH S f lies):∀ k g i l b x,bW S lies t k g i l=.inl (b,x)->Mu S f b<=Mu S f g+1:=by
 intro k;induction k with
 | zero=>intro g i l b x h;cases h
 | succ k n =>
  intro g i l b x h;rw[bW] at h;split at h
  ·cases h;omega
  ·rename_i p
   split at h
   ·exact n _ _ _ _ _ h
   ·rename_i q
    split at h
    ·rename_i made1 e r
     have h1:=o _ _ _ _ r;by_cases j:e.kind=2
     ·have m:(bH S t (i++[iy e])).over=QD:=by
       have:=yF (S.f1 t).act (S.f1 t).actN i (iy e) (by simp[iy,j]) 2001 0 0 0 [] (DN _) (by simpa[bH] using p) (by simpa[bH] using q);unfold bH;rw[eI];exact this
      cases k with
      | zero=>cases h
      | succ k =>
       rw[bW,gM m] at h;cases h
       rw[gM j] at h1;exact h1
     ·rw[cM j] at h1
      have:=n _ _ _ _ _ h;omega
    ·cases h
    ·cases h
theorem AJ (S:Spc):∀ n b,yH S b (aZ S n b):=by
 intro n;have o:∀ b f nm g e (tgt:Nat->Out Ent),(∀ t g e,atI (nm1 S.f1) S.n1 nm=T t->bj f nm=Z->atL b nm=Z->tgt t=.inl (g,e)->Mu S b g<=Mu S b f)->dx S tgt b f nm=.inl (g,e)->Mu S b g<=Mu S b f+if e.kind=2 then 1 else 0:=by
  intro b f nm g e tgt r h;unfold dx at h;split at h
  ·cases h;omega
  ·rename_i m
   split at h
   ·cases h
   ·rename_i h1
    unfold eJ er at h;split at h
    ·rename_i i hi
     cases h
     have:=jE S b f ⟨nm,1,0,(S.f0 i).text,0,[]⟩;have:=yG (S:=S) (e:=⟨nm,1,0,(S.f0 i).text,0,[]⟩) (bJ hi).1 (bJ hi).2 m;unfold Mu;rw[eI,AS];omega
    ·split at h
     ·rename_i t l
      have:=r _ _ _ l m h1 h;omega
     ·cases h
      have:=jE S b f ⟨nm,2,0,⟨#[]⟩,0,[]⟩;have:=qP S f ⟨nm,2,0,⟨#[]⟩,0,[]⟩;rw[gM rfl];unfold Mu;rw[eI,AS];omega
 induction n with
 | zero =>intro b f nm g e h;rw[aZ] at h;exact o _ _ _ _ _ _ (fun t _ _ _ _ _ h=>by cases h) h
 | succ n p =>
  intro b f nm g e h;rw[aZ] at h;refine o _ _ _ _ _ _ (fun t g e l m h1 h=>?_) h;rcases hr:bW S (aZ S n (b++[nm])) t 201 f [] [] with ⟨j,x⟩ | c | c
  ·rw[hr] at h
   simp only[iz,er,LA,IA] at h;obtain⟨rfl,rfl⟩:=h;have q:=Dl (p (b++[nm])) _ _ _ _ _ _ hr;have g2:=gQ (making:=b) (made:=f) (bJ l).1 (bJ l).2 m h1;have g3:dQ S b (j++[⟨nm,3,x.1.code,x.1.text,t,x.2⟩])<=dQ S (b++[nm]) j:=qL S b j ⟨nm,3,x.1.code,x.1.text,t,x.2⟩;have g4:=qP S j ⟨nm,3,x.1.code,x.1.text,t,x.2⟩;unfold Mu at q ⊢;rw[eI,AS];omega
  ·rw[hr] at h;cases h
  ·rw[hr] at h;cases h
theorem pn {S:Spc}(g:SpcOk S){nm:ByteArray}{b:List Ent}{e:Ent}(h:aZ S 60 [] [] nm=.inl (b,e)):b.length<=400:=by
 have h1:=AJ S 60 [] [] nm b e h;have hl:dQ S [] []<=S.n1:=by have:=LD (p:=iJ S [] []) (l:=List.range S.n1);simpa[dQ] using this
 have hs:lm S []<=S.n0:=by have:=LD (p:=fun i=>(bj [] (S.f0 i).name).isNone) (l:=List.range S.n0);simpa[lm] using this
 have h2:=g.small;by_cases f:e.kind=2
 ·rw[aZ] at h
  unfold dx at h;simp only[bj,List.find?_nil,atL,List.findIdx?_nil] at h;unfold eJ er at h;split at h
  ·cases h;cases f
  ·split at h
   ·rename_i t h3
    simp only at h;rcases hr:bW S (aZ S 59 ([]++[nm])) t 201 [] [] [] with ⟨made1,x⟩ | c | c
    ·rw[hr] at h
     simp only[iz,er,LA,IA] at h;obtain⟨rfl,rfl⟩:=h;cases f
    ·rw[hr] at h;cases h
    ·rw[hr] at h;cases h
   ·cases h
    show 1<=400;omega
 ·rw[cM f] at h1
  unfold Mu at h1;rw[GD] at h1;omega
def sLt (m:Nat):Nat->Bool:=fun q=>decide (q<m)
theorem mr (m:Nat):put (sLt m) m=sLt (m+1):=by funext q;rw[JL];simp only[put,sLt,Bool.or_eq_true,LU,j5];omega
theorem gy {S:Spc}{M:List Ent}{i:Nat}{x:Ent}(h:M[i]?=T x):dF (aO S M) i=bm S M x:=by unfold dF aO;rw[CL,IH,h];rfl
theorem tu {M b rest:List Ent}{i:Nat}{x:Ent}(hM:M=b++rest)(h:b[i]?=T x):M[i]?=T x:=by rw[hM,IG (j2.1 h).1];exact h
theorem tv {S:Spc}{lies:List Ent->ByteArray->Out Ent}{t:Nat}:∀ k f i g b x,bW S lies t k f i g=.inl (b,x)->∃ more,x.2=g++more:=by
 intro k;induction k with
 | zero=>intro f i g b x h;cases h
 | succ k j =>
  intro f i g b x h;rw[bW] at h;split at h
  ·cases h
   exact⟨[],by simp⟩
  ·split at h
   ·obtain⟨m,e⟩:=j _ _ _ _ _ h
    exact⟨[_]++m,by rw[e,II]⟩
   ·split at h
    ·obtain⟨m,e⟩:=j _ _ _ _ _ h
     exact⟨[_]++m,by rw[e,II]⟩
    ·cases h
    ·cases h
section
variable {S:Spc}{M:List Ent}
def tw (S:Spc)(M:List Ent)(g:List ByteArray)(m:Nat)(lies:List Ent->ByteArray->Out Ent):Prop:=∀ f nm b e,PG S g f->au nm=QD->lies f nm=.inl (b,e)->(∃ rest,M=b++rest) ->
 (b=f/\∃ i,i<f.length/\M[i]?=T e/\e.name=nm)∨(f.length<b.length/\M[b.length - 1]?=T e/\e.name=nm/\∀ k d,b.length<=k->∃ L,lst (dF (aO S M)) k (b.length - 1) d (sLt f.length)=(sLt b.length,L)/\L.map (·.1)=List.range' f.length (b.length - f.length)/\∀ x∈L,(dF (aO S M) x.1).kind=3->x.2<d+m)
theorem tA {go:Nat->Nat->(Nat->Bool)->(Nat->Bool) × List (Nat × Nat)}{x:ah}{d:Nat}{s:Nat->Bool}{j:Nat}(h:¬ ((x.links j).ask=QD/\(lks go x d s j).1 (x.links j).at_.toNat=QB)):lks go x d s (j+1)=lks go x d s j:=by rw[lks,cM h]
theorem yI (hS:SpcOk S)(hM:PG S [] M){lies:List Ent->ByteArray->Out Ent}{q:List ByteArray}{t m:Nat}(ht:t<S.n1)(hl:kZ S q lies)(hh:tw S M q m lies):∀ k b A r f x,PG S q b->RG S b A r->A.length+k=201->bW S lies t k b A r=.inl (f,x)->(∃ rest,M=f++rest)->∀ (p j d:Nat) (s0:Nat->Bool) (C:List (Nat × Nat)) (y:Ent),M[p]?=T y->y.looks=x.2->f.length<=p->p<=j->lks (lst (dF (aO S M)) j) (dF (aO S M) p) d s0 r.length=(sLt b.length,C) ->
  ∃ L,lks (lst (dF (aO S M)) j) (dF (aO S M) p) d s0 x.2.length=(sLt f.length,C++L)/\L.map (·.1)=List.range' b.length (f.length - b.length)/\∀ z∈L,(dF (aO S M) z.1).kind=3->z.2<d+1+m:=by
 intro k;induction k with
 | zero=>intro b A r f x _ _ _ h;cases h
 | succ k W =>
  intro b A r f x X R hk h E p j d s0 C y O D B QP hlk;have hT:=kY hS ht R.good;have h0:=h;rw[bW] at h;rcases hT with ⟨QH,QK⟩ | ⟨QH,hlt,QR⟩
  ·rw[gM QH] at h
   cases h
   exact⟨[],by rw[hlk,ND],by simp,fun z hz=>absurd hz nj⟩
  ·rw[cM (by rw[QH];simp)] at h
   have lk:∀ l more,x.2=(r++[l])++more->(dF (aO S M) p).links r.length=lkD M l:=fun l more e=>by rw[gy O];refine kf ?_;rw[D,e,II,BS ly,J2];rfl
   split at h
   ·rename_i ha
    obtain⟨more,e⟩:=tv _ _ _ _ _ _ h;have o:=lk _ _ e;refine W _ _ _ _ _ X (R.add (mP _ _) QR (fun h=>by cases h)) (by simp;omega) h E p j d s0 C y O D B QP ?_;rw[eI,AS,tA (by rw[o];exact fun h=>by cases h.1)];exact hlk
   ·rename_i ha
    split at h
    ·rename_i g QL QK
     obtain⟨QN,⟨more1,g2⟩,g3,g4⟩:=hl _ _ _ _ X QR QK;have QJ:RG S g A r:=R.mono fun x hx=>by rw[g2];exact IS _ hx
     have K:=QJ.add (l:=⟨(bH S t A).name,QD,QB⟩) (mQ (QN.ents QL g3)) QR (fun _=>⟨QL,g3,g4⟩);obtain⟨-,⟨more2,q2⟩,-⟩:=ig hS ht hl _ _ _ _ _ _ QN K (by simp;omega) h;obtain⟨rest,u⟩:=E;have bt:∃ rest,M=g++rest:=⟨more2++rest,by rw[u,q2,II]⟩
     have hle:g.length<=f.length:=by rw[q2,eI];omega
     obtain⟨more,e⟩:=tv _ _ _ _ _ _ h;have o:=lk _ _ e;have QO:∀ i:Nat,M[i]?=T QL->((dF (aO S M) p).links r.length).at_.toNat=i:=fun i hi=>by rw[o];have:=hM.idx hi;rw[g4] at this;simp[lkD,this]
     have QM:((dF (aO S M) p).links r.length).ask=QD:=by rw[o];rfl
     rcases hh _ _ _ _ X QR QK bt with ⟨rfl,i,hi,H,-⟩ | ⟨hlt1,H,-,ex⟩
     ·refine W _ _ _ _ _ QN K (by simp;omega) h ⟨rest,u⟩ p j d s0 C y O D B QP ?_
      rw[eI,AS,tA (by rw[hlk,QO i H];simp[sLt,hi])];exact hlk
     ·obtain⟨V,aq,e2,e3⟩:=ex j (d+1) (by omega)
      have P:lks (lst (dF (aO S M)) j) (dF (aO S M) p) d s0 (r++[(⟨(bH S t A).name,QD,QB⟩:Lk)]).length=(sLt g.length,C++V):=by rw[eI,AS,lks,gM ⟨QM,by rw[hlk,QO _ H];simp[sLt];omega⟩,QO _ H,hlk,aq]
      obtain⟨L2,f1,f2,f3⟩:=W _ _ _ _ _ QN K (by simp;omega) h ⟨rest,u⟩ p j d s0 (C++V) y O D B QP P;refine⟨V++L2,by rw[f1,II],?_,fun z hz=>?_⟩
      ·rw[HJ,e2,f2]
       have:=List.range'_append_1 (s:=b.length) (m:=g.length - b.length) (n:=f.length - g.length);rw[show b.length+(g.length - b.length)=g.length by omega,show g.length - b.length+(f.length - g.length)=f.length - b.length by omega] at this;exact this
      ·rcases nL.1 hz with hz | hz
       ·exact e3 z hz
       ·exact f3 z hz
    ·cases h
    ·cases h
theorem yJ {b:List Ent}{e:Ent}(g:e.kind≠3)(h:e.looks=[])(hM:M[b.length]?=T e):∀ k d,b.length+1<=k->∃ L,lst (dF (aO S M)) k b.length d (sLt b.length)=(sLt (b.length+1),L)/\L.map (·.1)=List.range' b.length 1/\∀ x∈L,(dF (aO S M) x.1).kind=3->x.2<d+0:=by
 intro k d hk1;cases k with
 | zero=>omega
 | succ k =>
  refine⟨[(b.length,d)],?_,rfl,fun x j f=>?_⟩
  ·have i:(dF (aO S M) b.length).linksN=0:=by
    rw[gy hM];show e.looks.length=0;rw[h];rfl
   rw[lst,i];show(put (sLt b.length) b.length,_)=_;rw[mr];rfl
  ·rw[hU.1 j,gy hM] at f
   exact absurd f g
theorem xk (u:SpcOk S)(hM:PG S [] M):∀ n g,tw S M g n (aZ S n g):=by
 intro n
 have A:∀ g b nm f e (tgt:Nat->Out Ent) (m:Nat),PG S g b->au nm=QD->(∃ rest,M=f++rest)->(∀ t f e,atI (nm0 S.f0) S.n0 nm=Z->atI (nm1 S.f1) S.n1 nm=T t->bj b nm=Z->atL g nm=Z->tgt t=.inl (f,e)->(∃ rest,M=f++rest)->(b.length<f.length/\M[f.length - 1]?=T e/\e.name=nm/\∀ k d,f.length<=k->∃ L,lst (dF (aO S M)) k (f.length - 1) d (sLt b.length)=(sLt f.length,L)/\L.map (·.1)=List.range' b.length (f.length - b.length)/\∀ x∈L,(dF (aO S M) x.1).kind=3->x.2<d+m))->dx S tgt g b nm=.inl (f,e) ->
   (f=b/\∃ i,i<b.length/\M[i]?=T e/\e.name=nm)∨(b.length<f.length/\M[f.length - 1]?=T e/\e.name=nm/\∀ k d,f.length<=k->∃ L,lst (dF (aO S M)) k (f.length - 1) d (sLt b.length)=(sLt f.length,L)/\L.map (·.1)=List.range' b.length (f.length - b.length)/\∀ x∈L,(dF (aO S M) x.1).kind=3->x.2<d+m):=by
  intro g b nm f e tgt m s hn l QO h;have r:∀ o:Ent,o.kind≠3->o.looks=[]->o.name=nm->(∃ rest,M=(b++[o])++rest)->(b.length<(b++[o]).length/\M[(b++[o]).length - 1]?=T o/\o.name=nm/\∀ k d,(b++[o]).length<=k->∃ L,lst (dF (aO S M)) k ((b++[o]).length - 1) d (sLt b.length)=(sLt (b++[o]).length,L)/\L.map (·.1)=List.range' b.length ((b++[o]).length - b.length)/\∀ x∈L,(dF (aO S M) x.1).kind=3->x.2<d+m):=by
   intro o E QP hn0 ⟨rest,D⟩;have p:M[b.length]?=T o:=tu D (by simp);have hz:(b++[o]).length=b.length+1:=by simp
   rw[hz,JW,Nat.add_sub_cancel_left];refine⟨by omega,p,hn0,fun k d C=>?_⟩;obtain⟨L,h1,h2,q⟩:=yJ (S:=S) E QP p k d C;exact⟨L,h1,h2,fun x QM H=>by have:=q x QM H;omega⟩
  unfold dx at h;split at h
  ·rename_i QR R
   cases h
   obtain⟨h1,h2⟩:=gw R;obtain⟨i,hi⟩:=JH h1;obtain⟨rest,l⟩:=l;exact .inl ⟨rfl,i,(j2.1 hi).1,tu l hi,h2⟩
  ·rename_i B
   split at h
   ·cases h
   ·rename_i h1
    unfold eJ er at h;split at h
    ·cases h
     exact .inr (r _ (by show(1:Int)≠3;decide) rfl rfl l)
    ·rename_i h2
     split at h
     ·rename_i t q
      exact .inr (QO _ _ _ h2 q B h1 h l)
     ·cases h
      exact .inr (r _ (by show(2:Int)≠3;decide) rfl rfl l)
 induction n with
 | zero =>intro g b nm f e s hn h l;rw[aZ] at h;exact A _ _ _ _ _ _ _ s hn l (fun t _ _ _ _ _ _ h=>by cases h) h
 | succ n O =>
  intro g b nm f e s hn h l;rw[aZ] at h;refine A _ _ _ _ _ _ _ s hn l (fun t f e h2 q B h1 h l=>?_) h;rcases hq:bW S (aZ S n (g++[nm])) t 201 b [] [] with ⟨j,x⟩ | c | c
  ·rw[hq] at h
   simp only[iz,er,LA,IA] at h;obtain⟨rfl,rfl⟩:=h;have y:=ke s B;obtain⟨-,⟨more,K⟩,-⟩:=ig u (bJ q).1 (ej u n (g++[nm])) _ _ _ _ _ _ y (jl S b) rfl hq;obtain⟨rest,l⟩:=l;have hz:(j++[(⟨nm,3,x.1.code,x.1.text,t,x.2⟩:Ent)]).length=j.length+1:=by simp
   have hle:b.length<=j.length:=by rw[K,eI];omega
   have p:M[j.length]?=T ⟨nm,3,x.1.code,x.1.text,t,x.2⟩:=tu l (by simp);rw[hz,JW];refine⟨by omega,p,rfl,fun k d E=>?_⟩;cases k with
   | zero=>omega
   | succ k =>
    obtain⟨L,QR,QL,QN⟩:=yI u hM (bJ q).1 (ej u n (g++[nm])) (O (g++[nm])) _ _ _ _ _ _ y (jl S b) rfl hq ⟨[_]++rest,by rw[l,II]⟩ j.length k d (sLt b.length) [] _ p rfl ly (by omega) rfl;have P:(dF (aO S M) j.length).linksN=x.2.length:=by rw[gy p];rfl
    refine⟨L++[(j.length,d)],?_,?_,fun z hz=>?_⟩
    ·rw[lst,P,QR,mr,IN]
    ·rw[HJ,QL,show j.length+1 - b.length=j.length - b.length+1 by omega,List.range'_1_concat,show b.length+(j.length - b.length)=j.length by omega]
     rfl
    ·rcases nL.1 hz with hz | hz
     ·intro q
      have:=QN z hz q;omega
     ·rw[hU.1 hz]
      intro _;show d<d+(n+1)
      omega
  ·rw[hq] at h;cases h
  ·rw[hq] at h;cases h
end
theorem nr:∀ (L:List (Nat × Nat)) (i:Nat),L.map (·.1)=List.range' i L.length->bw i L=-1
 | [],_,_=>rfl
 | x :: L,i,h=>by rw[LQ,nD,List.range'_succ] at h;obtain⟨h1,h2⟩:=List.cons.inj h;rw[bw,gM h1];exact nr L (i+1) h2
theorem nu {f:Nat->ah}:∀ (L:List (Nat × Nat)),(∀ x∈L,(f x.1).kind=3->x.2<60)->aQ f L=-1
 | [],_=>rfl
 | x :: L,h=>by rw[aQ,cM fun h1=>absurd (h x J8 h1.1) (by omega)];exact nu L fun y b=>h y (mq _ b)
theorem xl {f:Nat->ah}{p:Nat}{x:ah}{n:Nat}(h:∀ i,i<n->dm f p (x.links i)=QD):bq f p x n=QD:=by
 induction n with
 | zero=>rfl
 | succ k b=>rw[bq,b fun i hi=>h i (by omega),h k (by omega)];rfl
theorem Dm {S:Spc}(A:SpcOk S){M:List Ent}(hM:PG S [] M)(hR:∀ x∈M,Rn S M x){i:Nat}(hi:i<M.length):aW (dF (aO S M)) i=QD:=by
 obtain⟨x,o⟩:∃ x,M[i]?=T x:=⟨M[i],gq hi⟩
 have q:=IE o;have h:=hM.ents x q;have e:dF (aO S M) i=bm S M x:=gy o;unfold aW;rw[e,j4,j4];refine⟨⟨h.nm,JF h.tx⟩,?_⟩;have H:=h.code;rcases h.kind with ⟨h1,h2,m,-⟩ | ⟨h1,h2,m,s,-⟩ | ⟨h1,-,m⟩
 ·have b:(bm S M x).kind=1:=h1
  unfold kindOk;rw[gM b];simp[aS,bm,cI,h1,h2,m]
 ·have b:(bm S M x).kind=2:=h1
  unfold kindOk;rw[cM (by rw[b];decide),gM b];simp[aS,bm,cI,h1,h2,m,s];rfl
 ·have b:(bm S M x).kind=3:=h1
  have C:(bm S M x).actN=(S.f1 x.tg).actN:=by show cI S x=_;unfold cI;rw[gM h1]
  unfold kindOk;rw[cM (by rw[b];decide),cM (by rw[b];decide),gM b];unfold bQ;rw[C];have D:valid (bm S M x).act (S.f1 x.tg).actN=QD:=A.act _ (bJ m).1;have B:(bm S M x).linksN<=200:=h.looks;have hlk:bq (dF (aO S M)) i (bm S M x) (bm S M x).linksN=QD:=xl fun j QR=>by
   have n:j<x.looks.length:=QR;have r:x.looks[j]?=T x.looks[j]:=gq n;have f:=gj n;have u:(bm S M x).links j=lkD M x.looks[j]:=kf r;rw[u];generalize x.looks[j]=l at f;unfold dm;rw[j4];refine⟨h.lname l f,?_⟩;by_cases g:l.ask=QD
   ·obtain⟨y,QO,hn,hlt⟩:=hM.asked o f g
    have z:=(hR x q).has l f g;have p:(lkD M l).ask=QD:=g;have hH:(lkD M l).has=QB:=z;have K:(lkD M l).at_=((jm M l.name:Nat):Int):=by unfold lkD;simp[g]
    have t:(lkD M l).name=l.name:=rfl;rw[gM p,hH,K,t,Int.toNat_natCast,gy QO];have E:((bm S M y).name.toList == l.name.toList)=QD:=by show(y.name.toList == l.name.toList)=QD;rw[hn];simp
    rw[E];simp only[Bool.not_false,JJ,KM,j4,j5];omega
   ·have p:¬ (lkD M l).ask=QD:=g
    rw[cM p];unfold lkD;simp[g]
  rw[D,hlk];have QP:(bm S M x).code=x.code:=rfl;rw[QP];simp only[KM,j4,j5];exact⟨H,B⟩
theorem xm {f:Nat->ah}{p:Nat}{k:Nat}(h:∀ j,j<k->(f j).name≠(f p).name):aH f p k=QD:=by
 induction k with
 | zero=>rfl
 | succ k b =>
  rw[aH,b fun j hj=>h j (by omega),JJ];cases hb:((f k).name.toList == (f p).name.toList) with
  | false=>rfl
  | true=>exact absurd (bytes_beq hb) (h k (by omega))
theorem AK {S:Spc}(b:SpcOk S){nm:ByteArray}(hn:au nm=QD){M:List Ent}{e:Ent}(h:aZ S 60 [] [] nm=.inl (M,e)):cH (dF (aO S M)) M.length=(0,0)/\0<M.length/\M[M.length - 1]?=T e/\e.name=nm/\PG S [] M/\∀ x∈M,Rn S M x:=by
 have hM:=(ej b 60 [] [] nm M e (ie S []) hn h).1;have hR:=(yE b 60 [] [] nm M e (ie S []) hn (fun x g=>absurd g nj) h).1;have hs:=pn b h;rcases xk b hM 60 [] [] nm M e (ie S []) hn h ⟨[],by simp⟩ with ⟨-,i,hi,-⟩ | ⟨h1,h2,r,o⟩
 ·cases hi
 ·refine⟨?_,h1,h2,r,hM,hR⟩
  obtain⟨L,s,n,z⟩:=o M.length 0 ly;have l:sLt ([]:List Ent).length=fun _=>QB:=by funext q;simp[sLt]
  have f:aB (dF (aO S M)) M.length=L:=by unfold aB;rw[<-l,s]
  have m:L.length=M.length:=by have:=BC List.length n;simpa using this
  have f1:aF (aW (dF (aO S M))) M.length=-1:=dS fun i hi=>Dm b hM hR hi;have B:aF (fun p=>aH (dF (aO S M)) p p) M.length=-1:=dS fun i hi=>xm fun j t=>by rw[gy (gq hi),gy (gq (show j<M.length by omega))];exact ID.1 hM.nod j i (by omega) hi t
  have A:bw 0 L=-1:=nr L 0 (by rw[m];exact n);have u:aQ (dF (aO S M)) L=-1:=nu L fun x g y=>by have:=z x g y;omega
  have h1':0<M.length:=h1;unfold cH;rw[cM (by omega),f1,cM (by simp),B,cM (by simp),f,A,cM (by simp),u,cM (by simp)]
structure Borne (S:Spc)(f:Nat->ah)(p:Nat):Prop where
 lie:jM S.n0 S.f0 S.n1 S.f1 (f p)=QB
 has:hasB S.n0 S.f0 S.n1 S.f1 (f p)=QB
 run:codeF f p=0
def tgD (S:Spc)(d:ah):Nat:=if d.kind=3 then (atI (nm1 S.f1) S.n1 d.name).getD 0 else 0
def lkE (l:Link):Lk:=⟨l.name,l.ask,l.has⟩
def fo (d:ah)(k:Nat):List Lk:=(List.range k).map fun j=>lkE (d.links j)
def cZ (S:Spc)(f:Nat->ah)(p:Nat):Ent:=⟨(f p).name,(f p).kind,(f p).code,(f p).text,tgD S (f p),fo (f p) (f p).linksN⟩
def cj (S:Spc)(f:Nat->ah)(k:Nat):List Ent:=(List.range k).map (cZ S f)
def ysD (f:Nat->ah)(p j:Nat):List aC:=(List.range j).map (yOf f p)
theorem vw {g:Nat->ByteArray}{n i:Nat}{t:ByteArray}(b:aI g n=QD)(hi:i<n)(h:((g i).toList == t.toList)=QD):atI g n t=T i:=by
 cases e:atI g n t with
 | none=>exact absurd h (KV.1 e i (HU.2 hi))
 | some j =>obtain⟨h1,h2⟩:=bJ e;rw[asc_one b h1 hi (by rw[h2];simp) h]
theorem pY {g:Nat->ByteArray}{n:Nat}{t:ByteArray}(h:aG g n t=QB):atI g n t=Z :=
 KV.2 fun x b e=>by rw[fO (HU.1 b) e] at h;cases h
theorem SpcOk.apart {S:Spc}(i:SpcOk S){t:Nat}(b:t<S.n1):aG (nm0 S.f0) S.n0 (S.f1 t).name=QB:=by
 have h:=i.chk;unfold bh at h;split at h;· omega
 split at h;· omega
 split at h;· omega
 split at h;· omega
 split at h;· omega
 split at h;· omega
 rename_i f;cases e:aG (nm0 S.f0) S.n0 (S.f1 t).name with
 | false=>rfl
 | true =>obtain⟨k,g,hb⟩:=sj e;exact absurd (cW g (fO b (by rw[bytes_beq hb];simp))) f
theorem qQ {f g:Nat->Ins}{cnt:Nat}(h:∀ i,i<cnt->f i=g i)(y:Nat->aC)(n k:Nat):∀ place steps looks b,bT f cnt y n k place steps looks b=bT g cnt y n k place steps looks b:=by
 induction k with
 | zero=>intro _ _ _ _;rfl
 | succ k l =>
  intro place steps looks b;have e:bG f cnt place steps looks b=bG g cnt place steps looks b:=by
   unfold bG;by_cases j:cnt<=place
   ·rw[gM j,gM j]
   ·rw[h place (by omega)]
  rw[bT,bT,e];rcases bG g cnt place steps looks b with ⟨s,p⟩ | ⟨c,x⟩ | ⟨a,nm,s⟩
  ·exact l _ _ _ _
  ·rfl
  ·simp only[l]
theorem Dn {x y:Ins}(h:lQ x y=QD):x=y:=by obtain⟨a,b,c⟩:=x;obtain⟨a',b',c'⟩:=y;simp only[lQ,j4,LU] at h;obtain⟨⟨rfl,hb⟩,rfl⟩:=h;rw[fK hb]
theorem AM {f g:Nat->Ins}{n:Nat}(h:dv f g n=QD)(i:Nat)(hi:i<n):f i=g i:=by have:=oG (show i+1<=n by omega) h;simp only[dv,j4] at this;exact Dn this.2
theorem fU {f:Nat->ah}{n:Nat}(h:aK f n=QD){p:Nat}(i:p<n):au (f p).name=QD/\((f p).kind≠3->(f p).code=0/\(f p).actN=0/\(f p).linksN=0)/\((f p).kind=2->(f p).text=⟨#[]⟩)/\∀ j,j<(f p).linksN->dm f p ((f p).links j)=QD:=by
 have h1:=dZ (eB h).2.2 p i;simp only[aW,j4,kindOk,j5] at h1;obtain⟨⟨g,_⟩,h2⟩:=h1;refine⟨g,?_⟩;split at h2
 ·rename_i b
  simp only[aS,j4,j5] at h2;exact⟨fun _=>⟨h2.1.1,h2.1.2,h2.2⟩,fun e=>by omega,fun j l=>by omega⟩
 ·split at h2
  ·rename_i b
   simp only[aS,j4,j5] at h2;exact⟨fun _=>⟨h2.1.1.1,h2.1.1.2,h2.1.2⟩,fun _=>NQ (KQ h2.2),fun j l=>by omega⟩
  ·split at h2
   ·rename_i b
    simp only[bQ,j4] at h2;exact⟨fun e=>absurd b e,fun e=>by omega,kl h2.2⟩
   ·cases h2
theorem tB:∀ (L:List (Nat × Nat)) (i:Nat),bw i L=-1->L.map (·.1)=List.range' i L.length
 | [],_,_=>rfl
 | x :: L,i,h=>by
  rw[bw] at h;split at h
  ·rename_i e
   rw[LQ,nD,List.range'_succ,tB L (i+1) h,e]
  ·omega
theorem qR {f:Nat->ah}:∀ (L:List (Nat × Nat)),aQ f L=-1->∀ x∈L,(f x.1).kind=3->x.2<60
 | [],_,x,b,_=>absurd b nj
 | y :: L,h,x,b,hk=>by
  rw[aQ] at h;split at h
  ·omega
  ·rename_i hn
   rcases p6.1 b with rfl | b
   ·exact Nat.lt_of_not_le fun g=>hn ⟨hk,g⟩
   ·exact qR L h x b hk
theorem uI {f:Nat->ah}{n:Nat}(h:aK f n=QD):bw 0 (aB f n)=-1/\aQ f (aB f n)=-1:=by
 have h1:(cH f n).1=0:=JE h;unfold cH at h1;split at h1
 ·simp at h1
 ·split at h1
  ·simp at h1
  ·split at h1
   ·simp at h1
   ·split at h1
    ·simp at h1
    ·rename_i g
     split at h1
     ·simp at h1
     ·rename_i i
      exact⟨KH fun b=>g b,KH fun b=>i b⟩
theorem seg {A B:List (Nat × Nat)}{lo:Nat}(h:(A++B).map (·.1)=List.range' lo (A++B).length):A.map (·.1)=List.range' lo A.length/\B.map (·.1)=List.range' (lo+A.length) B.length:=by rw[HJ,eI,<-List.range'_append_1] at h;exact List.append_inj h (by simp)
theorem vA (go:Nat->Nat->(Nat->Bool)->(Nat->Bool) × List (Nat × Nat))(x:ah)(d:Nat)(s:Nat->Bool)(j:Nat):∀ QO,j<=QO->∃ more,(lks go x d s QO).2=(lks go x d s j).2++more
 | 0,h=>⟨[],by
  obtain rfl:j=0:=by omega
  simp⟩
 | QO+1,h=>by
  by_cases e:j=QO+1
  ·exact⟨[],by rw[e];simp⟩
  ·obtain⟨m,b⟩:=vA go x d s j QO (by omega)
   rw[lks];split
   ·exact⟨m++(go (x.links QO).at_.toNat (d+1) (lks go x d s QO).1).2,by rw[b,II]⟩
   ·exact⟨m,b⟩
theorem qS {f:Nat->ah}{p:Nat}:∀ QO k,k+QO<=dG f p QO k->∀ i,i<QO->bY f p (k+i)=QB
 | 0,_,_,i,hi=>absurd hi (E4 i)
 | QO+1,k,h,i,hi=>by
  rw[dG] at h;split at h
  ·omega
  ·rename_i b
   cases i with
   | zero=>simpa using b
   | succ i =>have:=qS (f:=f) (p:=p) QO (k+1) (by omega) i (by omega);rwa[show k+(i+1)=k+1+i by omega]
theorem mu {f:Nat->ah}{p:Nat}(h:codeF f p=0)(i:(f p).kind=3):(∀ j,j<(f p).linksN->(aU f p j).over=QB/\(aU f p j).name=((f p).links j).name/\(aU f p j).ask=((f p).links j).ask)/\(aU f p (f p).linksN).over=QD/\(aU f p (f p).linksN).code=(f p).code/\(aU f p (f p).linksN).text=(f p).text:=by
 rw[codeF,gM i,fC] at h;have hle:=kO f p (f p).linksN 0;split at h
 ·omega
 ·rename_i h1
  have b:aN f p=(f p).linksN:=by unfold aN at h1 ⊢;omega
  rw[b] at h;split at h
  ·omega
  ·rename_i h2
   split at h
   ·rename_i g
    refine⟨fun j l=>?_,by simpa using h2,g.1,fK g.2⟩;have:=qS (f:=f) (p:=p) (f p).linksN 0 (by unfold aN at b;omega) j l;rw[D0] at this;simp only[bY,MX,LY,LU] at this;exact⟨this.1.1,fK this.1.2,this.2⟩
   ·omega
theorem Borne.lies {S:Spc}{f:Nat->ah}{n p:Nat}(q:aK f n=QD)(o:p<n)(l:SpcOk S)(h:Borne S f p):((f p).kind=1/\∃ i,atI (nm0 S.f0) S.n0 (f p).name=T i/\(S.f0 i).text=(f p).text)∨((f p).kind=2/\atI (nm0 S.f0) S.n0 (f p).name=Z/\atI (nm1 S.f1) S.n1 (f p).name=Z)∨((f p).kind=3/\atI (nm0 S.f0) S.n0 (f p).name=Z/\∃ t,atI (nm1 S.f1) S.n1 (f p).name=T t/\(S.f1 t).actN=(f p).actN/\∀ i,i<(f p).actN->(S.f1 t).act i=(f p).act i):=by
 have b:=h.lie;unfold jM at b;rcases(cF q p o).2 with ⟨g,-⟩ | ⟨g,-⟩ | ⟨g,-⟩
 ·rw[gM g,LY] at b
  obtain⟨i,hi,hb⟩:=gU b;rw[j4] at hb;exact .inl ⟨g,i,vw l.asc0 hi hb.1,bytes_beq hb.2⟩
 ·rw[cM (by omega),cM (by omega)] at b
  unfold nM at b;rw[MX] at b;exact .inr (.inl ⟨g,pY b.1,pY b.2⟩)
 ·rw[cM (by omega),gM g,LY] at b
  obtain⟨t,m,hb⟩:=gU b;rw[j4] at hb;have j:=hb.2;simp only[fg,j4,j5] at j;have hn:(S.f1 t).name=(f p).name:=bytes_beq hb.1;refine .inr (.inr ⟨g,pY (by rw[<-hn];exact l.apart m),t,vw l.asc1 m hb.1,j.1,fun i hi=>AM j.2 i (by omega)⟩)
section
variable {S:Spc}{f:Nat->ah}{n:Nat}
theorem lp (k:Nat):cj S f (k+1)=cj S f k++[cZ S f k]:=by unfold cj;rw[JA,HJ];rfl
theorem xn (h:aK f n=QD){k p:Nat}(hk:k<=p)(g:p<n):bj (cj S f k) (f p).name=Z :=
 ts fun x b e=>by obtain⟨i,hi,rfl⟩:=IW.1 b;have h1:=HU.1 hi;have:=jt h i p (by omega) g (BC ByteArray.toList e);omega
theorem xo (b:aK f n=QD){k q:Nat}(g:q<k)(hk:k<=n):bj (cj S f k) (f q).name=T (cZ S f q):=by
 cases h:bj (cj S f k) (f q).name with
 | none=>exact absurd rfl (fD h (cZ S f q) (IW.2 ⟨q,HU.2 g,rfl⟩))
 | some y =>obtain⟨h1,h2⟩:=gw h;obtain⟨i,hi,rfl⟩:=IW.1 h1;have:=HU.1 hi;rw[jt b i q (by omega) (by omega) (BC ByteArray.toList h2)]
theorem qT {p t j:Nat}(h1:(S.f1 t).actN=(f p).actN)(h2:∀ i,i<(f p).actN->(S.f1 t).act i=(f p).act i):bH S t (ysD f p j)=aU f p j:=by
 have e:(ysD f p j).length=j:=by simp[ysD]
 unfold bH aU;rw[e,h1,qQ h2];exact gP _ _ _ _ _ _ _ _ _ _ fun i _ hi=>by simp[yL,ysD,hi]
def Ek (S:Spc)(f:Nat->ah)(n k:Nat):Prop:=∀ p d lo m b,p<k->p<n->lo<=p->(lst f k p d (sLt lo)).2.map (·.1)=List.range' lo (lst f k p d (sLt lo)).2.length->(∀ x∈(lst f k p d (sLt lo)).2,(f x.1).kind=3->x.2<d+m)->(∀ z∈b,∀ q,q<=p->z≠(f q).name) ->
 (lst f k p d (sLt lo)).1=sLt (p+1)/\p+1=lo+(lst f k p d (sLt lo)).2.length/\aZ S m b (cj S f lo) (f p).name=.inl (cj S f (p+1),cZ S f p)
theorem AN (y:aK f n=QD)(QN:∀ p,p<n->Borne S f p){k p d lo m t:Nat}{making:List ByteArray}(ih:Ek S f n k)(hk:p<k+1)(u:p<n)(K:lo<=p)(h3:(f p).kind=3)(L:(S.f1 t).actN=(f p).actN)(QO:∀ i,i<(f p).actN->(S.f1 t).act i=(f p).act i)
  (P:(lks (lst f k) (f p) d (sLt lo) (f p).linksN).2.map (·.1)=List.range' lo (lks (lst f k) (f p) d (sLt lo) (f p).linksN).2.length) (H:∀ x∈(lks (lst f k) (f p) d (sLt lo) (f p).linksN).2,(f x.1).kind=3->x.2<d+1+m) (QK:∀ z∈making,∀ q,q<p->z≠(f q).name) :
  ∀ j,j<=(f p).linksN->(lks (lst f k) (f p) d (sLt lo) j).1=sLt (lo+(lks (lst f k) (f p) d (sLt lo) j).2.length)/\lo+(lks (lst f k) (f p) d (sLt lo) j).2.length<=p /\
   bW S (aZ S m making) t 201 (cj S f lo) [] []=bW S (aZ S m making) t (201 - j) (cj S f (lo+(lks (lst f k) (f p) d (sLt lo) j).2.length)) (ysD f p j) (fo (f p) j):=by
 have hN:(f p).linksN<=200:=mX y p u;obtain⟨QL,-⟩:=mu (QN p u).run h3;intro j;induction j with
 | zero=>intro _;exact⟨rfl,K,rfl⟩
 | succ j jh =>
  intro QH;obtain⟨g,M,g3⟩:=jh (by omega);obtain⟨V,t2,QJ⟩:=QL j (by omega);have hlk:=(fU y u).2.2.2 j (by omega);have B:ysD f p (j+1)=ysD f p j++[yOf f p j]:=by unfold ysD;rw[JA,HJ];rfl
  have C:fo (f p) (j+1)=fo (f p) j++[lkE ((f p).links j)]:=by unfold fo;rw[JA,HJ];rfl
  rw[g3,show 201 - j=201 - (j+1)+1 by omega,bW,qT L QO,V,t2,QJ,cM (by simp)];by_cases b:((f p).links j).ask=QD
  ·obtain⟨a1,a2,a3⟩:=ec y p u j (by omega) b
   have QR:((f p).links j).has=QB:=by simp only[dm,b,if_true,j4,Bool.not_eq_true'] at hlk;exact hlk.2.1.1.1
   have o:∀ q,q=((f p).links j).at_.toNat->iy (cZ S f q)=yOf f p j:=fun q e=>by subst e;unfold yOf;rw[mf y b (by omega)];rfl
   have E:lkE ((f p).links j)=⟨((f p).links j).name,QD,QB⟩:=by unfold lkE;rw[b,QR]
   have A:((f p).links j).name=(f ((f p).links j).at_.toNat).name:=fK a3.symm;rw[cM (by rw[b];simp),B,C,E];generalize s:((f p).links j).at_.toNat=q at a2 A;have o:=o q s.symm;rw[lks];by_cases D:q<lo+(lks (lst f k) (f p) d (sLt lo) j).2.length
   ·rw[cM (by rw[g,s];simp[sLt,D])]
    refine⟨g,M,?_⟩;rw[kV];unfold dx;rw[A,xo y D (by omega)];simp only[o]
   ·rw[gM ⟨b,by rw[g,s];simp[sLt];omega⟩,s,g]
    obtain⟨more,l⟩:=vA (lst f k) (f p) d (sLt lo) (j+1) (f p).linksN QH;rw[lks,gM ⟨b,by rw[g,s];simp[sLt];omega⟩,s,g] at l;simp only at l;rw[l] at P H;have s1:=(seg P).1;have W:=(seg s1).2;obtain⟨X,QP,b3⟩:=ih q (d+1) (lo+(lks (lst f k) (f p) d (sLt lo) j).2.length) m making (by omega) (by omega) (by omega) W (fun x hx R=>H x (IS _ (JD _ hx)) R) (fun z hz r hr'=>QK z hz r (by omega));rw[A,b3];simp only[o,eI];refine⟨by rw[X,QP,MR],by omega,by rw[<-MR,<-QP]⟩
  ·have hn:((f p).links j).ask=QB:=by simpa using b
   have O:=jj (QN p u).has (show j<(f p).linksN by omega);simp only[gC,hn,Bool.not_false,JJ,LY,LU] at O;have QM:gv S ((f p).links j).name=((f p).links j).has:=O.symm;rw[gM hn,QM,tA (fun h=>b h.1),B,C];have o:yOf f p j=⟨((f p).links j).has,0,⟨#[]⟩⟩:=by unfold yOf dk;rw[cM b]
   have E:lkE ((f p).links j)=⟨((f p).links j).name,QB,((f p).links j).has⟩:=by unfold lkE;rw[hn]
   rw[o,E];exact⟨g,M,rfl⟩
theorem AO (o:aK f n=QD)(QK:SpcOk S)(C:∀ p,p<n->Borne S f p):∀ k,Ek S f n k:=by
 intro k;induction k with
 | zero=>intro p d lo m b L;omega
 | succ k R =>
  intro p d lo m b L j A E s QP;rw[lst] at E s ⊢;simp only at E s ⊢;obtain⟨s1,O⟩:=seg E;have l:p=lo+(lks (lst f k) (f p) d (sLt lo) (f p).linksN).2.length:=by simpa using O
  have hz:p+1=lo+((lks (lst f k) (f p) d (sLt lo) (f p).linksN).2++[(p,d)]).length:=by rw[eI,AS];omega
  have P:=xn (S:=S) o A j;have h1:atL b (f p).name=Z:=jS fun x QR=>QP x QR p ly;have r:=fU o j;rw[kV];unfold dx;rw[P,h1];simp only[eJ];rcases(C p j).lies o j QK with ⟨g,i,hi,K⟩ | ⟨g,hi,u⟩ | ⟨g,hi,t,u,B,y⟩
  ·obtain⟨c1,c2,c3⟩:=r.2.1 (by omega)
   have H:lks (lst f k) (f p) d (sLt lo) (f p).linksN=(sLt lo,[]):=by rw[c3];rfl
   rw[H] at l hz ⊢;obtain rfl:p=lo:=by simpa using l
   refine⟨mr p,hz,?_⟩;rw[hi];simp only[er,lp];have e:cZ S f p=⟨(f p).name,1,0,(S.f0 i).text,0,[]⟩:=by unfold cZ tgD fo;rw[c3,c1,g,K];rfl
   rw[e]
  ·obtain⟨c1,c2,c3⟩:=r.2.1 (by omega)
   have H:lks (lst f k) (f p) d (sLt lo) (f p).linksN=(sLt lo,[]):=by rw[c3];rfl
   rw[H] at l hz ⊢;obtain rfl:p=lo:=by simpa using l
   refine⟨mr p,hz,?_⟩;rw[hi,u];simp only[er,lp];have e:cZ S f p=⟨(f p).name,2,0,⟨#[]⟩,0,[]⟩:=by unfold cZ tgD fo;rw[c3,c1,g,r.2.2.1 g];rfl
   rw[e]
  ·have QO:=s (p,d) (JD _ (hU.2 rfl)) g
   obtain⟨D,rfl⟩:∃ D,m=D+1:=⟨m - 1,by simp only at QO;omega⟩
   have hN:(f p).linksN<=200:=mX o p j;obtain⟨-,r1,QM,QL⟩:=mu (C p j).run g
   obtain⟨M,-,QN⟩:=AN o C (m:=D) (making:=b++[(f p).name]) R L j A g B y s1 (fun x QR h=>by have:=s x (IS _ QR) h;omega) (fun z hz q hq=>by
    rcases nL.1 hz with hz | hz
    ·exact QP z hz q (by omega)
    ·rw[hU.1 hz]
     exact fun e=>by have:=jt o p q j (by omega) (BC ByteArray.toList e);omega) (f p).linksN ly
   rw[<-l] at M QN;refine⟨by rw[M];exact mr p,hz,?_⟩;rw[hi,u];simp only[AA];rw[QN,show 201 - (f p).linksN=200 - (f p).linksN+1 by omega,bW,qT B y,gM r1];simp only[iz,er,lp];have e:cZ S f p=⟨(f p).name,3,(aU f p (f p).linksN).code,(aU f p (f p).linksN).text,t,fo (f p) (f p).linksN⟩:=by unfold cZ tgD;rw[g,u,QM,QL];rfl
   rw[e]
theorem xp (b:aK f n=QD)(m:SpcOk S)(l:∀ p,p<n->Borne S f p):aZ S 60 [] [] (f (n - 1)).name=.inl (cj S f n,cZ S f (n - 1)):=by
 have hn:=eB b;obtain⟨h1,h2⟩:=uI b;have g:sLt 0=fun _=>QB:=by funext q;simp[sLt]
 unfold aB at h1 h2;rw[<-g] at h1 h2;obtain⟨-,-,h⟩:=AO b m l n (n - 1) 0 0 60 [] (by omega) (by omega) (DN _) (tB _ _ h1) (fun x j i=>by have:=qR _ h2 x j i;omega) (fun z hz=>absurd hz nj);rw[show n - 1+1=n by omega] at h;exact h
structure DeedEq (x y:ah):Prop where
 name:x.name=y.name
 kind:x.kind=y.kind
 code:x.code=y.code
 text:x.text=y.text
 actN:x.actN=y.actN
 act:∀ i,i<x.actN->x.act i=y.act i
 linksN:x.linksN=y.linksN
 links:∀ i,i<x.linksN->x.links i=y.links i
theorem AP {i k:Nat}(h:i<k):(cj S f k)[i]?=T (cZ S f i):=by unfold cj;simp[h]
theorem El (g:aK f n=QD){q:Nat}(b:q<n):jm (cj S f n) (f q).name=q:=by
 have hi:q<(cj S f n).length:=by simp[cj,b]
 unfold jm;rw[List.findIdx_eq hi];refine⟨by simp[cj,cZ],fun j hj=>?_⟩;cases hb:((cj S f n)[j].name.toList == (f q).name.toList) with
 | false=>rfl
 | true =>
  have e:(cj S f n)[j].name=(f j).name:=by simp[cj,cZ]
  rw[e] at hb;have:=jt g j q (by omega) b (by simpa using hb);omega
theorem xq (l:aK f n=QD)(A:SpcOk S)(z:∀ p,p<n->Borne S f p){i:Nat}(hi:i<n):DeedEq (dF (aO S (cj S f n)) i) (f i):=by
 rw[gy (AP hi)];have g:(bm S (cj S f n) (cZ S f i)).linksN=(f i).linksN:=by show(fo (f i) (f i).linksN).length=_;simp[fo]
 have b:∀ j,j<(bm S (cj S f n) (cZ S f i)).linksN->(bm S (cj S f n) (cZ S f i)).links j=(f i).links j:=fun j h=>by
  rw[g] at h;have hlk:=(fU l hi).2.2.2 j h;have e:(bm S (cj S f n) (cZ S f i)).links j=lkD (cj S f n) (lkE ((f i).links j)):=kf (by simp[cZ,fo,h]);rw[e];unfold lkD lkE;by_cases m:((f i).links j).ask=QD
  ·obtain⟨a1,a2,q⟩:=ec l i hi j h m
   simp only[m,if_true];rw[<-fK q,El l (by omega),Int.toNat_of_nonneg a1,fK q,<-m]
  ·have y:((f i).links j).at_=0:=by
    simp only[dm,cM m,j4,j5] at hlk;exact hlk.2
   simp only[cM m];rw[<-y]
 rcases(z i hi).lies l hi A with ⟨o,-⟩ | ⟨o,-⟩ | ⟨o,-,t,x,u,s⟩
 ·obtain⟨c1,c2,c3⟩:=(fU l hi).2.1 (by omega)
  have e:(bm S (cj S f n) (cZ S f i)).actN=0:=by show cI S (cZ S f i)=0;unfold cI;rw[cM (by show ¬ (f i).kind=3;omega)]
  exact⟨rfl,rfl,rfl,rfl,by rw[e,c2],fun j h=>by omega,g,b⟩
 ·obtain⟨c1,c2,c3⟩:=(fU l hi).2.1 (by omega)
  have e:(bm S (cj S f n) (cZ S f i)).actN=0:=by show cI S (cZ S f i)=0;unfold cI;rw[cM (by show ¬ (f i).kind=3;omega)]
  exact⟨rfl,rfl,rfl,rfl,by rw[e,c2],fun j h=>by omega,g,b⟩
 ·have r:(cZ S f i).tg=t:=by show tgD S (f i)=t;unfold tgD;rw[gM o,x];rfl
  have e:(bm S (cj S f n) (cZ S f i)).actN=(f i).actN:=by show cI S (cZ S f i)=_;unfold cI;rw[gM (by exact o),r,u]
  refine⟨rfl,rfl,rfl,rfl,e,fun j h=>?_,g,b⟩;show(S.f1 (cZ S f i).tg).act j=_;rw[r];exact s j (by omega)
end
def LkHas (S:Spc)(b:List Lk):Prop:=∀ l∈b,l.ask=QB->l.has=gv S l.name
def Hs (S:Spc)(b:List Ent):Prop:=∀ x∈b,LkHas S x.looks
theorem Hs.add {S:Spc}{f:List Ent}{e:Ent}(h:Hs S f)(g:LkHas S e.looks):Hs S (f++[e]):=fun x b=>by
 rcases nL.1 b with b | b
 ·exact h x b
 ·rw[hU.1 b];exact g
theorem mw (S:Spc):LkHas S []:=fun _ h=>absurd h nj
theorem LkHas.add {S:Spc}{f:List Lk}{l:Lk}(h:LkHas S f)(g:l.ask=QB->l.has=gv S l.name):LkHas S (f++[l]):=fun x b=>by
 rcases nL.1 b with b | b
 ·exact h x b
 ·rw[hU.1 b];exact g
theorem AQ {S:Spc}{lies:List Ent->ByteArray->Out Ent}{t:Nat}(n:∀ f nm b e,Hs S f->lies f nm=.inl (b,e)->Hs S b):∀ k f l g b x,Hs S f->LkHas S g->bW S lies t k f l g=.inl (b,x)->Hs S b/\LkHas S x.2:=by
 intro k;induction k with
 | zero=>intro f l g b x _ _ h;cases h
 | succ k m =>
  intro f l g b x i j h;rw[bW] at h;split at h
  ·cases h
   exact⟨i,j⟩
  ·split at h
   ·exact m _ _ _ _ _ i (j.add fun _=>rfl) h
   ·split at h
    ·rename_i made1 e o
     exact m _ _ _ _ _ (n _ _ _ _ i o) (j.add fun h=>by cases h) h
    ·cases h
    ·cases h
theorem yK (S:Spc):∀ n g f nm b e,Hs S f->aZ S n g f nm=.inl (b,e)->Hs S b:=by
 intro n;have j:∀ g f nm b e (tgt:Nat->Out Ent),Hs S f->(∀ t b e,tgt t=.inl (b,e)->Hs S b)->dx S tgt g f nm=.inl (b,e)->Hs S b:=by
  intro g f nm b e tgt i m h;unfold dx at h;split at h
  ·cases h;exact i
  ·split at h
   ·cases h
   ·unfold eJ er at h
    split at h
    ·cases h;exact i.add (mw S)
    ·split at h
     ·exact m _ _ _ h
     ·cases h;exact i.add (mw S)
 induction n with
 | zero =>intro g f nm b e i h;rw[aZ] at h;exact j _ _ _ _ _ _ i (fun t _ _ h=>by cases h) h
 | succ n l =>
  intro g f nm b e i h;rw[aZ] at h;refine j _ _ _ _ _ _ i (fun t b e h=>?_) h;rcases hr:bW S (aZ S n (g++[nm])) t 201 f [] [] with ⟨made1,x⟩ | c | c
  ·rw[hr] at h
   simp only[iz,er,LA,IA] at h;obtain⟨rfl,rfl⟩:=h;obtain⟨h1,h2⟩:=AQ (fun f nm b e=>l _ f nm b e) _ _ _ _ _ _ i (mw S) hr;exact h1.add h2
  ·rw[hr] at h;cases h
  ·rw[hr] at h;cases h
theorem tC {g:Nat->ByteArray}{n:Nat}{t:ByteArray}(h:atI g n t=Z):aG g n t=QB:=by
 cases e:aG g n t with
 | false=>rfl
 | true =>obtain⟨k,b,hb⟩:=sj e;exact absurd hb (KV.1 h k (HU.2 b))
theorem qU {p:Nat->Bool}{n:Nat}(h:∀ i,i<n->p i=QB):aJ p n=QB:=by
 cases e:aJ p n with
 | false=>rfl
 | true =>obtain⟨k,b,hb⟩:=gU e;rw[h k b] at hb;cases hb
theorem pq {f g:Nat->Ins}:∀ {n:Nat},(∀ i,i<n->f i=g i)->dv f g n=QD
 | 0,_=>rfl
 | n+1,h=>by rw[dv,pq fun i hi=>h i (by omega),h n (by omega)];simp[lQ]
theorem mx {f:Nat->ah}{p:Nat}:∀ QO k,(∀ i,i<QO->bY f p (k+i)=QB)->dG f p QO k=k+QO
 | 0,_,_=>rfl
 | QO+1,k,h=>by rw[dG,cM (by have:=h 0 (by omega);rw[I9] at this;rw[this];simp),mx QO (k+1) fun i hi=>by rw[show k+1+i=k+(i+1) by omega];exact h (i+1) (by omega)];omega
theorem my {f:Nat->ah}{p:Nat}(h:(f p).kind=3->(∀ j,j<(f p).linksN->(aU f p j).over=QB/\(aU f p j).name=((f p).links j).name/\(aU f p j).ask=((f p).links j).ask)/\(aU f p (f p).linksN).over=QD/\(aU f p (f p).linksN).code=(f p).code/\(aU f p (f p).linksN).text=(f p).text):codeF f p=0:=by
 unfold codeF;split
 ·rename_i l
  obtain⟨h1,h2,m,g⟩:=h l;have n:aN f p=(f p).linksN:=by
   unfold aN
   rw[mx _ _ fun i hi=>by
    obtain⟨a,b,c⟩:=h1 i hi;rw[D0]
    simp[bY,a,b,c]]
   omega
  unfold fC;rw[n,cM (by omega),cM (by rw[h2];simp),gM ⟨m,by rw[g]⟩]
 ·rfl
theorem yM {S:Spc}(P:SpcOk S){nm:ByteArray}(hn:au nm=QD){M:List Ent}{e:Ent}(h:aZ S 60 [] [] nm=.inl (M,e)):aK (dF (aO S M)) M.length=QD/\∀ p,p<M.length->Borne S (dF (aO S M)) p:=by
 obtain⟨h1,-,-,-,hM,hR⟩:=AK P hn h;have hH:=yK S 60 [] [] nm M e (fun x o=>absurd o nj) h;have E:aK (dF (aO S M)) M.length=QD:=by unfold aK;rw[h1];rfl
 refine⟨E,fun p QO=>?_⟩;have o:M[p]?=T M[p]:=gq QO;generalize M[p]=x at o;have q:=IE o;have QN:=hM.ents x q;have n:dF (aO S M) p=bm S M x:=gy o;have hlk:∀ j l,x.looks[j]?=T l->(bm S M x).links j=lkD M l:=fun j l QP=>kf QP;refine⟨?_,?_,my fun D=>?_⟩
 ·rw[n]
  unfold jM;rcases QN.kind with ⟨k,-,-,i,hi,s⟩ | ⟨k,-,-,-,h2,B⟩ | ⟨k,-,B⟩
  ·rw[gM (show(bm S M x).kind=1 from k)]
   obtain⟨C,A⟩:=bJ hi;have:pL S.n0 S.f0 (bm S M x).name (bm S M x).text=QD:=cW C (by show((nm0 S.f0 i).toList == x.name.toList && (S.f0 i).text.toList == x.text.toList)=QD;rw[A,s];simp);rw[this];rfl
  ·have QR:(bm S M x).kind=2:=k
   rw[cM (by omega),cM (by omega)];show(aG (nm0 S.f0) S.n0 x.name || aG (nm1 S.f1) S.n1 x.name)=QB;rw[tC h2,tC B];rfl
  ·have QR:(bm S M x).kind=3:=k
   rw[cM (by omega),gM QR];obtain⟨C,A⟩:=bJ B;have u:(bm S M x).actN=(S.f1 x.tg).actN:=by show cI S x=_;unfold cI;rw[gM k]
   have:nN S.n1 S.f1 (bm S M x).name (bm S M x).actN (bm S M x).act=QD:=cW C (by
    show((nm1 S.f1 x.tg).toList == x.name.toList && fg (S.f1 x.tg).act (bm S M x).act (S.f1 x.tg).actN (bm S M x).actN)=QD;rw[A,u];simp only[fg,decide_true,JJ,beq_self_eq_true]
    exact pq fun _ _=>rfl)
   rw[this];rfl
 ·rw[n]
  refine qU fun j g=>?_;have t:j<x.looks.length:=g;have b:x.looks[j]?=T x.looks[j]:=gq t;have f:=gj t;simp only[hlk j _ b];generalize x.looks[j]=l at f;unfold gC lkD;cases m:l.ask with
  | true=>rfl
  | false =>have:=hH x q l f m;show(!QB && !(l.has == gv S l.name))=QB;rw[this];simp
 ·rw[n] at D
  have k:x.kind=3:=D;have u:(bm S M x).actN=(S.f1 x.tg).actN:=by show cI S x=_;unfold cI;rw[gM k]
  have r:∀ j,j<x.looks.length->yOf (dF (aO S M)) p j=yL (x.looks.map (cY M)) j:=fun j g=>by
   have b:x.looks[j]?=T x.looks[j]:=gq g;have f:=gj g;have L:yL (x.looks.map (cY M)) j=cY M x.looks[j]:=by simp[yL,g]
   unfold yOf;rw[n,hlk j _ b,L];generalize x.looks[j]=l at f;by_cases m:l.ask=QD
   ·obtain⟨y,r,hny,hlt⟩:=hM.asked o f m
    have H:(lkD M l).at_.toNat=jm M l.name:=by unfold lkD;simp[m]
    rw[mf E (show(lkD M l).ask=QD from m) (by rw[H];omega),H,gy r];have O:bj M l.name=T y:=by obtain⟨z,hz⟩:=(hR x q).ahd l f m;obtain⟨z1,z2⟩:=gw hz;obtain⟨i,hi⟩:=JH z1;have:=hM.idx hi;rw[z2] at this;rw[this,hi] at r;rw[hz];exact r
    unfold cY;rw[gM m,O];rfl
   ·unfold cY dk
    rw[cM m,cM (show ¬ (lkD M l).ask=QD from m)];rfl
  have s:∀ j,j<=x.looks.length->aU (dF (aO S M)) p j=bH S x.tg ((x.looks.take j).map (cY M)):=fun j g=>by unfold aU bH;rw[n,u,JN,IU,JT g];refine gP _ _ _ _ _ _ _ _ _ _ fun i _ hi=>?_;rw[r i (by omega)];simp[yL,hi,show i<x.looks.length by omega]
  have K:(dF (aO S M) p).linksN=x.looks.length:=by rw[n];rfl
  rw[K];refine⟨fun j g=>?_,?_⟩
  ·have b:x.looks[j]?=T x.looks[j]:=gq g
   rw[s j (by omega),n,hlk j _ b];exact(hR x q).go k j _ b
  ·rw[s _ ly,List.take_length,n]
   exact(hR x q).fin k
section
variable {f g:Nat->ah}{n:Nat}
theorem DeedEq.symm {x y:ah}(h:DeedEq x y):DeedEq y x:=⟨h.name.symm,h.kind.symm,h.code.symm,h.text.symm,h.actN.symm,fun i hi=>(h.act i (by rw[h.actN];exact hi)).symm,h.linksN.symm,fun i hi=>(h.links i (by rw[h.linksN];exact hi)).symm⟩
theorem xr {a b:Nat->Ins}{m:Nat}(h:∀ i,i<m->a i=b i):valid a m=valid b m:=by
 have:∀ k,k<=m->cQ a k=cQ b k:=by
  intro k;induction k with
  | zero=>intro _;rfl
  | succ k f=>intro hk;rw[cQ,cQ,f (by omega),h k (by omega)]
 unfold valid;rw[this m ly ]
theorem mz {p:Nat}{x y:ah}(j:p<n)(h:∀ i,i<n->DeedEq (f i) (g i)):∀ k,(∀ i,i<k->x.links i=y.links i)->bq f p x k=bq g p y k
 | 0,_=>rfl
 | k+1,hl=>by
  rw[bq,bq,mz j h k fun i hi=>hl i (by omega),hl k (by omega)];congr 1;unfold dm;by_cases b:(0<=(y.links k).at_/\(y.links k).at_<(p:Int))
  ·rw[(h (y.links k).at_.toNat (by omega)).name]
  ·have:(decide (0<=(y.links k).at_) && decide ((y.links k).at_<(p:Int)))=QB:=by
    rw[Bool.and_eq_false_iff];rcases Decidable.not_and_iff_or_not.1 b with b | b
    ·exact .inl (JS b)
    ·exact .inr (JS b)
   cases (y.links k).has<;>cases h1:decide (0<=(y.links k).at_)<;>cases h2:decide ((y.links k).at_<(p:Int))<;>simp_all
theorem uJ (h:∀ i,i<n->DeedEq (f i) (g i)){p:Nat}(b:p<n):aW f p=aW g p:=by have e:=h p b;unfold aW kindOk aS bQ;rw[mz b h (f p).linksN e.links,xr e.act,e.name,e.kind,e.code,e.text,e.actN,e.linksN]
theorem mB (h:∀ i,i<n->DeedEq (f i) (g i)){p:Nat}(b:p<n):∀ k,k<=n->aH f p k=aH g p k
 | 0,_=>rfl
 | k+1,hk=>by rw[aH,aH,mB h b k (by omega),(h p b).name,(h k (by omega)).name]
theorem fq {a b:Nat->Bool}:∀ {m:Nat},(∀ i,i<m->a i=b i)->aF a m=aF b m
 | 0,_=>rfl
 | m+1,h=>by rw[aF,aF,fq fun i hi=>h i (by omega),h m (by omega)]
theorem tD (l:fy f n)(h:∀ i,i<n->DeedEq (f i) (g i)):∀ k p d s,p<n->lst f k p d s=lst g k p d s
 | 0,_,_,_,_=>rfl
 | k+1,p,d,s,hp=>by
  have e:=h p hp;have b:∀ j,j<=(f p).linksN->lks (lst f k) (f p) d s j=lks (lst g k) (g p) d s j:=by
   intro j;induction j with
   | zero=>intro _;rfl
   | succ j m =>
    intro hj;rw[lks,lks,m (by omega),e.links j (by omega)];split
    ·rename_i o
     have q:=(l p hp j (by omega) (by rw[e.links j (by omega)];exact o.1)).1;rw[e.links j (by omega)] at q;rw[tD l h k _ _ _ (by omega)]
    ·rfl
  rw[lst,lst,b _ ly,e.linksN]
theorem nw (h:∀ i,i<n->DeedEq (f i) (g i)):∀ (L:List (Nat × Nat)),(∀ x∈L,x.1<n)->aQ f L=aQ g L
 | [],_=>rfl
 | x :: L,hl=>by rw[aQ,aQ,(h x.1 (hl x J8)).kind,nw h L fun y b=>hl y (mq _ b)]
theorem xt (h:∀ i,i<n->DeedEq (f i) (g i))(l:aK f n=QD):aK g n=QD:=by
 obtain⟨h1,h2,q⟩:=eB l;have m:=gB q;have o:=tD m h n (n - 1) 0 (fun _=>QB) (by omega);have j:=(pH m n (n - 1) 0 (fun _=>QB) (by omega) (by omega) rfl).le;have e:cH f n=cH g n:=by unfold cH aB;rw[o] at j;rw[fq fun i hi=>uJ h hi,fq (a:=fun p=>aH f p p) (b:=fun p=>aH g p p) fun i hi=>mB h hi i (by omega),o,nw h _ fun x r=>by have:=j x r;omega]
 unfold aK at l ⊢;rw[<-e];exact l
theorem pr (o:aK f n=QD)(h:∀ i,i<n->DeedEq (f i) (g i)){p:Nat}(l:p<n){j:Nat}(hj:j<=(f p).linksN):aU g p j=aU f p j:=by
 have e:=h p l;unfold aU;rw[<-e.actN,<-qQ e.act];refine gP _ _ _ _ _ _ _ _ _ _ fun i _ hi=>?_;unfold yOf dk;rw[e.links i (by omega)];split
 ·rename_i m
  have:=ec o p l i (by omega) (by rw[e.links i (by omega)];exact m);rw[e.links i (by omega)] at this;have b:=h ((g p).links i).at_.toNat (by omega);rw[b.kind,b.code,b.text]
 ·rfl
theorem xu {a b c:Nat->Ins}{m k:Nat}(h:∀ i,i<k->b i=c i):fg a b m k=fg a c m k:=by
 unfold fg;by_cases e:m=k
 ·subst e
  have:∀ j,j<=m->dv a b j=dv a c j:=by
   intro j;induction j with
   | zero=>intro _;rfl
   | succ j f=>intro hj;rw[dv,dv,f (by omega),h j (by omega)]
  rw[this m ly ]
 ·simp[e]
theorem pt {S:Spc}(o:aK f n=QD)(h:∀ i,i<n->DeedEq (f i) (g i)){p:Nat}(l:p<n)(m:Borne S f p):Borne S g p:=by
 have e:=h p l;refine⟨?_,?_,my fun q=>?_⟩
 ·have:=m.lie
  unfold jM nN at this ⊢;rw[<-e.kind,<-e.name,<-e.text,<-e.actN];simp only[<-xu e.act];exact this
 ·refine qU fun j b=>?_
  rw[<-e.linksN] at b;have:=jj m.has b;rw[e.links j b] at this;exact this
 ·obtain⟨h1,h2⟩:=mu m.run (by rw[e.kind];exact q)
  rw[<-e.linksN];refine⟨fun j b=>?_,?_⟩
  ·rw[pr o h l (by omega),<-e.links j b]
   exact h1 j b
  ·rw[pr o h l ly,<-e.code,<-e.text]
   exact h2
end
def eo (n0:Nat)(f0:Nat->Source)(n1:Nat)(f1:Nat->Target)(f:Nat->ah)(p:Nat):Int:=if jM n0 f0 n1 f1 (f p)=QD then 2 else if hasB n0 f0 n1 f1 (f p)=QD then 3 else codeF f p
def fs (c:Nat->Int):Nat->Int × Int
 | 0=>(0,0)
 | k+1=>if (fs c k).1=0 then (if c k=0 then (0,0) else (c k,(k:Int))) else fs c k
def ft (n0:Nat)(f0:Nat->Source)(n1:Nat)(f1:Nat->Target)(f:Nat->ah)(n:Nat):Int × Int:=if aK f n=QD then (if bh n0 f0 n1 f1=0 then fs (eo n0 f0 n1 f1 f) n else (1,0)) else (1,0)
theorem iL {c:Nat->Int}{n k:Nat}(hk:k<n)(f:∀ i,i<k->c i=0)(h:c k≠0):fs c n=(c k,(k:Int)):=by
 have hz:∀ m,m<=k->fs c m=(0,0):=by
  intro m hm;induction m with
  | zero=>rfl
  | succ m b=>rw[fs,b (by omega),gM rfl,gM (f m (by omega))]
 induction n with
 | zero=>omega
 | succ n b =>
  rw[fs];by_cases e:k=n
  ·subst e
   rw[hz k ly,gM rfl,cM h]
  ·rw[b (by omega),cM h]
theorem qV {c:Nat->Int}{n:Nat}(b:∀ i,i<n->c i=0):fs c n=(0,0):=by
 induction n with
 | zero=>rfl
 | succ m f=>rw[fs,f fun i hi=>b i (by omega),gM rfl,gM (b m (by omega))]
theorem uK (S:Spc)(nm:ByteArray):aZ S 60 [] [] nm=eJ S (AA S 60 [] [] nm) [] nm:=by rw[kV];rfl
theorem tE {S:Spc}{nm:ByteArray}{i:Nat}(b:bh S.n0 S.f0 S.n1 S.f1=0)(hn:au nm=QD)(hi:atI (nm0 S.f0) S.n0 nm=T i):(aX S nm).2=⟨0,(S.f0 i).text,[]⟩:=by unfold aX;rw[gM ⟨b,hn⟩,uK,eJ,hi];rfl
theorem xv {g:Nat->ByteArray}{n i:Nat}{t:ByteArray}(hi:i<n)(f:(g i).toList=t.toList)(h:∀ j,j<i->(g j).toList≠t.toList):atI g n t=T i:=by unfold atI;rw[List.find?_range_eq_some];refine⟨by simp[f],by simpa using hi,fun j b=>?_⟩;simpa using h j b
theorem AR (n0:Nat)(f0:Nat->Source)(n1:Nat)(f1:Nat->Target)(f:Nat->ah)(p:Nat):eo n0 f0 n1 f1 f p=if jM n0 f0 n1 f1 (f p)=QD then 2 else if hasB n0 f0 n1 f1 (f p)=QD then 3 else if fm f p=QD then 4 else if jg f p=QD then 5 else 0:=by unfold eo;rw[vq]
end Go.Proofs.YtamacmnikdejeaaGreatDoor.Vp
