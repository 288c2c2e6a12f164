import Derived.Test.YtkophfgkcijjkaaGreatDoorYO
import Derived.Test.YtkophfgkcijjkaaGreatDoorZP
namespace Go.Proofs.YtkophfgkcijjkaaGreatDoor.Vp
open RowKit
structure Spc where
 n0:Nat
 f0:Nat->Source
 n1:Nat
 f1:Nat->Target
structure Lk where
 name:ByteArray
 ask:Bool
 has:Bool
structure Ent where
 name:ByteArray
 kind:Int
 code:Int
 text:ByteArray
 tg:Nat
 looks:List Lk
abbrev Out (b:Type):=(List Ent × b) ⊕ List ByteArray ⊕ ByteArray
def pI:aC:=⟨false,0,⟨#[]⟩⟩
def yL (b:List aC):Nat->aC:=fun k=>b.getD k pI
def iG (e:Ent):aC:=⟨decide (¬ e.kind=2),e.code,e.text⟩
def iH (S:Spc)(t:ByteArray):Bool:=bS (nm0 S.f0) S.n0 t || bS (nm1 S.f1) S.n1 t
def atI (g:Nat->ByteArray)(n:Nat)(t:ByteArray):Option Nat:=(List.range n).find? fun i=>(g i).toList == t.toList
def atL (L:List ByteArray)(t:ByteArray):Option Nat:=L.findIdx? fun x=>x.toList == t.toList
def bs (b:List Ent)(t:ByteArray):Option Ent:=b.find? fun e=>e.name.toList == t.toList
def ci (S:Spc)(t:Nat)(b:List aC):Turn:=dx (S.f1 t).act (S.f1 t).actN (yL b) b.length 2001 0 0 0 []
def dw (S:Spc)(b:List Ent->ByteArray->Out Ent)(t:Nat):Nat->List Ent->List aC->List Lk->Out (Turn × List Lk)
 | 0,_,_,_=>.inr (.inr ⟨#[]⟩)
 | k+1,made,ys,ls =>
  if (ci S t ys).over=true then .inl (made,(ci S t ys,ls))
  else if (ci S t ys).ask=false then dw S b t k made (ys++[⟨iH S (ci S t ys).name,0,⟨#[]⟩⟩]) (ls++[⟨(ci S t ys).name,false,iH S (ci S t ys).name⟩])
  else match b made (ci S t ys).name with
   | .inl (made',e)=>dw S b t k made' (ys++[iG e]) (ls++[⟨(ci S t ys).name,true,false⟩])
   | .inr (.inl c)=>.inr (.inl c)
   | .inr (.inr d)=>.inr (.inr d)
def gv (b:List Ent)(e:Ent):Out Ent:=.inl ((b++[e]),e)
def jY (nm:ByteArray)(t:Nat):Out (Turn × List Lk)->Out Ent
 | .inl (made,x)=>gv made ⟨nm,3,x.1.code,x.1.text,t,x.2⟩
 | .inr (.inl c)=>.inr (.inl c)
 | .inr (.inr d)=>.inr (.inr d)
def fD (S:Spc)(tgt:Nat->Out Ent)(b:List Ent)(nm:ByteArray):Out Ent :=
 match atI (nm0 S.f0) S.n0 nm with
 | some i=>gv b ⟨nm,1,0,(S.f0 i).text,0,[]⟩
 | none=>match atI (nm1 S.f1) S.n1 nm with
  | some t=>tgt t
  | none=>gv b ⟨nm,2,0,⟨#[]⟩,0,[]⟩
def eN (S:Spc)(tgt:Nat->Out Ent)(b:List ByteArray)(c:List Ent)(nm:ByteArray):Out Ent :=
 match bs c nm with
 | some e=>.inl (c,e)
 | none=>match atL b nm with
  | some i=>.inr (.inl (b.drop i))
  | none=>fD S tgt c nm
def bv (S:Spc):Nat->List ByteArray->List Ent->ByteArray->Out Ent
 | 0,making,made,nm=>eN S (fun _=>.inr (.inr nm)) making made nm
 | n+1,making,made,nm=>eN S (fun t=>jY nm t (dw S (bv S n (making++[nm])) t 201 made [] [])) making made nm
def yP (S:Spc)(n:Nat)(b:List ByteArray)(c:List Ent)(nm:ByteArray)(t:Nat):Out Ent :=
 match n with
 | 0=>.inr (.inr nm)
 | n+1=>jY nm t (dw S (bv S n (b++[nm])) t 201 c [] [])
theorem pJ (S:Spc)(n:Nat)(b:List ByteArray)(c:List Ent)(nm:ByteArray):bv S n b c nm=eN S (yP S n b c nm) b c nm:=by
 cases n with
 | zero=>rw[bv];rfl
 | succ n=>rw[bv];rfl
structure iI where
 code:Int
 text:ByteArray
 chain:List ByteArray
def cY (e:Ent):iI:=if e.kind=2 then ⟨4,e.name,[]⟩ else ⟨e.code,e.text,[]⟩
def bN (S:Spc)(nm:ByteArray):List Ent × iI :=
 if bi S.n0 S.f0 S.n1 S.f1=0/\aw nm=true then
  (match bv S 60 [] [] nm with
   | .inl (made,e)=>(made,cY e)
   | .inr (.inl c)=>([],⟨6,⟨#[]⟩,c⟩)
   | .inr (.inr d)=>([],⟨7,d,[]⟩))
 else ([],⟨9,⟨#[]⟩,[]⟩)
theorem xz (b:List aC)(r:aC):yL (b++[r]) b.length=r:=by simp[yL]
theorem uz (b:List aC)(r:aC){k:Nat}(h:k<b.length):yL (b++[r]) k=yL b k:=by simp[yL,List.getElem?_append_left h]
theorem mh (u:Nat):(Lib.decDigits u).length<=u+1:=by
 induction u using Nat.strongRecOn with
 | ind u b =>
  rw[Lib.decDigits];split
  ·simp
  ·have:=b (u / 10) (by omega)
   simp only[List.length_append,List.length_cons,List.length_nil];omega
theorem iv {p:Nat}(h:p<=2000):(dY p).size<=2000:=by
 show(Lib.decDigits p).length<=2000;rw[Lib.decDigits];split
 ·simp
 ·have:=mh (p / 10)
  simp only[List.length_append,List.length_cons,List.length_nil];omega
def ko (c:Int)(x:ByteArray):Prop:=0<=c/\c<=5/\x.size<=2000
theorem tv {ask:Bool}{a:ByteArray}{r:List ByteArray}{here looks:Nat}{c:Int}{x:ByteArray}(h:iq ask a r here looks=.inr (.inl (c,x)))(b:here<=2000):ko c x:=by
 unfold iq at h;split at h
 ·cases h;exact⟨by omega,by omega,iv b⟩
 ·split at h
  ·cases h;exact⟨by omega,by omega,by decide⟩
  ·cases h
theorem oD {op n:Nat}{t:ByteArray}{here looks:Nat}{b:List ByteArray}{c:Int}{x:ByteArray}(h:dq op n t here looks b=.inr (.inl (c,x)))(d:∀ z∈b,z.size<=2000)(f:here<=2000):ko c x:=by
  unfold dq at h;split at h;all_goals first
    | (cases h;done)
    | exact tv h f
    | (split at h
       · cases h
       · cases h;exact⟨by omega,by omega,iv f⟩)
    | (cases h;exact⟨by omega,by omega,d _ (by simp)⟩)
    | (cases h;exact⟨by omega,by omega,by decide⟩)
theorem tw {f:Nat->Ins}{cnt place steps looks:Nat}{b:List ByteArray}{c:Int}{x:ByteArray}(h:de f cnt place steps looks b=.inr (.inl (c,x)))(g:∀ z∈b,z.size<=2000)(d:place<=2000):ko c x:=by
 unfold de at h;split at h
 ·cases h;exact⟨by omega,by omega,iv d⟩
 ·split at h
  ·cases h;exact⟨by omega,by omega,by decide⟩
  ·split at h
   ·cases h;exact⟨by omega,by omega,iv d⟩
   ·exact oD h g d
theorem qZ {f:Nat->Ins}{cnt place steps looks:Nat}{b:List ByteArray}(g:b.length<=50)(h:∀ z∈b,z.size<=2000)(c:looks<=200)(d:dK f cnt=true)(hc:cnt<=200):pz (de f cnt place steps looks b) looks:=by
 unfold de;split
 ·trivial
 ·rename_i g
  split
  ·trivial
  ·split
   ·trivial
   ·rename_i c
    have hi:=j8 d (show place<cnt by omega);simp only[cC,decide_eq_true_eq] at hi;obtain⟨i1,i2,i3,i4,i5⟩:=hi;have hmt:ec (f place).op<=2000:=by unfold ec;split<;>(try split)<;>omega
    have hmt2:bF (f place).op<=2000:=by unfold bF;split<;>omega
    exact jG _ _ _ _ _ _ (by assumption) h (by omega) (by omega) (by omega) (by assumption) (by omega) (by omega) (by simpa using c)
def uA (n:Nat)(T:Turn):Prop:=(T.over=true/\ko T.code T.text)∨(T.over=false/\n<200/\aw T.name=true)
theorem pK {f:Nat->Ins}{cnt place steps looks:Nat}{b s:List ByteArray}{a:Bool}{nm:ByteArray}(h:de f cnt place steps looks b=.inr (.inr (a,nm,s))):place<cnt:=by
 unfold de at h;split at h
 ·cases h
 ·omega
theorem uB {nm:ByteArray}(h:aw nm=true):nm.size<=60:=by simp only[aw,Bool.and_eq_true,decide_eq_true_eq] at h;omega
theorem wL (f:Nat->Ins)(cnt:Nat)(y:Nat->aC)(n:Nat)(t:dK f cnt=true)(C:cnt<=200)(D:∀ i,i<n->(y i).text.size<=2000)(k:Nat):∀ place steps looks b,b.length<=50->(∀ z∈b,z.size<=2000)->place<=2000->steps<=2000->looks<=200->looks<=n->k+steps=2001->uA n (dx f cnt y n k place steps looks b):=by
 induction k with
 | zero=>intro _ _ _ _ _ _ _ _ _ _ h;omega
 | succ k l =>
  intro place steps looks b B r u h4 q E h7;have j:=qZ (f:=f) (cnt:=cnt) (place:=place) (steps:=steps) B r q t C;rw[dx];rcases hs:de f cnt place steps looks b with ⟨s,p⟩ | ⟨c,x⟩ | ⟨a,nm,s⟩
  ·rw[hs] at j
   obtain⟨o,d,g⟩:=j;obtain⟨m,A⟩:=pA hs;simp only;rw[m];exact l _ _ _ _ o d g (by omega) q E (by omega)
  ·exact .inl ⟨rfl,tw hs r u⟩
  ·rw[hs] at j
   obtain⟨o,d,g,g4⟩:=j;obtain⟨m,A⟩:=ma hs;have hp:=pK hs;have hz:=uB g;simp only;rw[m];split
   ·exact .inr ⟨rfl,by omega,g⟩
   ·split
    ·refine l _ _ _ _ (by simp;omega) (fun z hz=>?_) (by omega) (by omega) (by omega) (by omega) (by omega)
     rcases List.mem_cons.1 hz with rfl | hz
     ·exact ji _
     ·exact d z hz
    ·split
     ·exact .inl ⟨rfl,by simp[eV],by simp[eV],by simp only[eV];omega⟩
     ·split
      ·refine l _ _ _ _ (by simp;omega) (fun z hz=>?_) (by omega) (by omega) (by omega) (by omega) (by omega)
       rcases List.mem_cons.1 hz with rfl | hz
       ·exact D _ (by omega)
       ·exact d z hz
      ·exact .inl ⟨rfl,by simp[eV],by simp[eV],by simp only[eV];omega⟩
def gE (S:Spc)(b:List ByteArray)(c:List Ent):Nat->Bool:=fun t=>(bs c (S.f1 t).name).isNone && (atL b (S.f1 t).name).isNone
def dC (S:Spc)(b:List ByteArray)(c:List Ent):Nat:=(List.range S.n1).countP (gE S b c)
theorem fZ (b:List Ent)(e:Ent)(t:ByteArray):bs (b++[e]) t=(bs b t).or (if (e.name.toList == t.toList)=true then some e else none):=by unfold bs;rw[List.find?_append];cases h:(e.name.toList == t.toList)<;>simp[h]
theorem mQ (L:List ByteArray)(x t:ByteArray):(atL (L++[x]) t).isNone=((atL L t).isNone && !(x.toList == t.toList)):=by unfold atL;rw[List.findIdx?_append];cases h:(x.toList == t.toList)<;>cases h2:List.findIdx? (fun x=>x.toList == t.toList) L<;>simp[h,List.findIdx?_cons]
theorem iw (S:Spc)(b:List ByteArray)(c:List Ent)(e:Ent):dC S b (c++[e])<=dC S b c:=by
 refine List.countP_mono_left fun t _ h=>?_;simp only[gE,Bool.and_eq_true,fZ] at h ⊢;refine⟨?_,h.2⟩;cases h2:bs c (S.f1 t).name with
 | none=>rfl
 | some x=>rw[h2] at h;simp at h
theorem nQ (S:Spc)(b:List ByteArray)(c:List Ent)(e:Ent):dC S b (c++[e])<=dC S (b++[e.name]) c:=by
 refine List.countP_mono_left fun t _ h=>?_;simp only[gE,Bool.and_eq_true,fZ,mQ] at h ⊢;cases h2:bs c (S.f1 t).name with
 | some x=>rw[h2] at h;simp at h
 | none =>
  rw[h2] at h;refine⟨rfl,h.2,?_⟩;cases h3:(e.name.toList == (S.f1 t).name.toList) with
  | false=>rfl
  | true=>rw[h3] at h;simp at h
theorem nR {p q:Nat->Bool}{l:List Nat}(h:∀ x∈l,p x=true->q x=true){a:Nat}(b:a∈l)(d:p a=false)(f:q a=true):l.countP p+1<=l.countP q:=by
 induction l with
 | nil=>cases b
 | cons x l c =>
  have hm:l.countP p<=l.countP q:=List.countP_mono_left fun z hz=>h z (mq _ hz);rw[List.countP_cons,List.countP_cons];rcases List.mem_cons.1 b with rfl | b
  ·rw[d,f];simp;omega
  ·have:=c (fun z hz=>h z (mq _ hz)) b
   cases hp:p x with
   | false=>simp;split<;>omega
   | true=>rw[h x List.mem_cons_self hp];simp;omega
theorem fU {S:Spc}{making:List ByteArray}{made:List Ent}{nm:ByteArray}{t:Nat}(d:t<S.n1)(hn:(S.f1 t).name=nm)(c:bs made nm=none)(b:atL making nm=none):dC S (making++[nm]) made+1<=dC S making made:=by
 refine nR (fun x _ h=>?_) (List.mem_range.2 d) ?_ ?_
 ·simp only[gE,Bool.and_eq_true,mQ] at h ⊢
  exact⟨h.1,h.2.1⟩
 ·simp[gE,mQ,hn]
 ·simp[gE,hn,c,b]
theorem b9 {g:Nat->ByteArray}{n:Nat}{t:ByteArray}{i:Nat}(h:atI g n t=some i):i<n/\g i=t:=by unfold atI at h;have b:=List.find?_some h;have c:=List.mem_of_find?_eq_some h;exact⟨List.mem_range.1 c,bytes_beq b⟩
def fk (S:Spc)(b:List ByteArray)(d c:List Ent)(k:Nat):Prop:=c.length+201*dC S b c<=d.length+201*dC S b d+k
theorem nS {S:Spc}{d:List Ent->ByteArray->Out Ent}{making:List ByteArray}{t:Nat}(n:∀ c nm b e,d c nm=.inl (b,e)->fk S making c b 1):∀ k c g f b x,dw S d t k c g f=.inl (b,x)->fk S making c b (k - 1):=by
 intro k;induction k with
 | zero=>intro c g f b x h;cases h
 | succ k i =>
  intro c g f b x h;rw[dw] at h;split at h
  ·cases h;unfold fk;omega
  ·cases k with
   | zero =>
    split at h
    ·cases h
    ·split at h<;>cases h
   | succ k =>
    split at h
    ·have:=i _ _ _ _ _ h
     unfold fk at this ⊢;omega
    ·split at h
     ·rename_i made1 e j
      have m:=n _ _ _ _ j;have l:=i _ _ _ _ _ h;unfold fk at m l ⊢;omega
     ·cases h
     ·cases h
theorem jl (S:Spc):∀ n b f nm d e,bv S n b f nm=.inl (d,e)->fk S b f d 1:=by
 intro n;have k:∀ b f nm d e (tgt:Nat->Out Ent),(∀ t d e,atI (nm1 S.f1) S.n1 nm=some t->bs f nm=none->atL b nm=none->tgt t=.inl (d,e)->fk S b f d 1)->eN S tgt b f nm=.inl (d,e)->fk S b f d 1:=by
  intro b f nm d e tgt p h;unfold eN at h;split at h
  ·cases h;unfold fk;omega
  ·rename_i l
   split at h
   ·cases h
   ·rename_i m
    unfold fD gv at h;split at h
    ·rename_i i hi
     cases h
     have:=iw S b f ⟨nm,1,0,(S.f0 i).text,0,[]⟩;unfold fk;rw[List.length_append,List.length_singleton];omega
    ·split at h
     ·rename_i t j
      exact p _ _ _ j l m h
     ·cases h
      have:=iw S b f ⟨nm,2,0,⟨#[]⟩,0,[]⟩;unfold fk;rw[List.length_append,List.length_singleton];omega
 induction n with
 | zero =>intro b f nm d e h;rw[bv] at h;exact k _ _ _ _ _ _ (fun t _ _ _ _ _ h=>by cases h) h
 | succ n q =>
  intro b f nm d e h;rw[bv] at h;refine k _ _ _ _ _ _ (fun t d e j l m h=>?_) h;rcases hr:dw S (bv S n (b++[nm])) t 201 f [] [] with ⟨g,x⟩ | c | c
  ·rw[hr] at h
   simp only[jY,gv,Sum.inl.injEq,Prod.mk.injEq] at h;obtain⟨rfl,rfl⟩:=h;have r:=nS (making:=b++[nm]) (fun f nm2 d e o=>q _ _ _ _ _ o) _ _ _ _ _ _ hr;have g2:=fU (making:=b) (made:=f) (b9 j).1 (b9 j).2 l m;have g3:dC S b (g++[⟨nm,3,x.1.code,x.1.text,t,x.2⟩])<=dC S (b++[nm]) g:=nQ S b g ⟨nm,3,x.1.code,x.1.text,t,x.2⟩;unfold fk at r ⊢;rw[List.length_append,List.length_singleton];omega
  ·rw[hr] at h;cases h
  ·rw[hr] at h;cases h
structure SpcOk (S:Spc):Prop where
 chk:bi S.n0 S.f0 S.n1 S.f1=0
 asc0:bP (nm0 S.f0) S.n0=true
 asc1:bP (nm1 S.f1) S.n1=true
 small:S.n0+S.n1<=200
 text:∀ i,i<S.n0->(S.f0 i).text.size<=2000
 act:∀ t,t<S.n1->valid (S.f1 t).act (S.f1 t).actN=true
theorem lA {p:Nat->Bool}{n i:Nat}(h:cD p n=false)(hi:i<n):p i=false:=by
 induction n with
 | zero=>omega
 | succ n b =>
  rw[cD,Bool.or_eq_false_iff] at h;by_cases e:i=n
  ·subst e;exact h.2
  ·exact b h.1 (by omega)
theorem SpcOk.of {S:Spc}(h:bi S.n0 S.f0 S.n1 S.f1=0):SpcOk S:=by
 obtain⟨j,d,c⟩:=tZ h;have g:=h;unfold bi at h;split at h;· omega
 split at h;· omega
 split at h;· omega
 split at h;· omega
 split at h;· omega
 split at h;· omega
 split at h;· omega
 split at h;· omega
 rename_i f b;refine⟨g,j,d,c,fun i hi=>?_,fun t k=>?_⟩
 ·have:=lA (Bool.eq_false_iff.2 f) hi
  simp only[ii,decide_eq_false_iff_not] at this;omega
 ·have:=lA (Bool.eq_false_iff.2 b) k
  simpa[dk] using this
structure EG (S:Spc)(x:Ent):Prop where
 nm:aw x.name=true
 tx:x.text.size<=2000
 code:0<=x.code/\x.code<=5
 kind:(x.kind=1/\x.code=0/\x.looks=[]/\∃ i,atI (nm0 S.f0) S.n0 x.name=some i/\x.text=(S.f0 i).text)∨(x.kind=2/\x.code=0/\x.text=⟨#[]⟩/\x.looks=[]/\atI (nm0 S.f0) S.n0 x.name=none/\atI (nm1 S.f1) S.n1 x.name=none)∨(x.kind=3/\atI (nm0 S.f0) S.n0 x.name=none/\atI (nm1 S.f1) S.n1 x.name=some x.tg)
 looks:x.looks.length<=200
 lname:∀ l∈x.looks,aw l.name=true
structure PG (S:Spc)(making:List ByteArray)(made:List Ent):Prop where
 ents:∀ x∈made,EG S x
 nod:made.Pairwise fun x y=>x.name≠y.name
 off:∀ x∈made,atL making x.name=none
 ord:∀ (i:Nat) (x:Ent),made[i]?=some x->∀ l∈x.looks,l.ask=true->∃ (j:Nat) (y:Ent),j<i/\made[j]?=some y/\y.name=l.name
theorem jZ (S:Spc)(b:List ByteArray):PG S b []:=⟨fun x h=>absurd h nj,List.Pairwise.nil,fun x h=>absurd h nj,fun i x h=>by simp at h⟩
theorem fE {b:List Ent}{nm:ByteArray}(h:bs b nm=none):∀ x∈b,x.name≠nm:=by intro x c e;have:=List.find?_eq_none.1 h x c;rw[e] at this;simp at this
theorem mi {b:List Ent}{nm:ByteArray}{e:Ent}(h:bs b nm=some e):e∈b/\e.name=nm:=⟨List.mem_of_find?_eq_some h,bytes_beq (List.find?_some (p:=fun e:Ent=>e.name.toList == nm.toList) h)⟩
theorem gV {L:List ByteArray}{nm:ByteArray}(h:atL L nm=none):∀ x∈L,x≠nm:=by intro x b e;have:=List.findIdx?_eq_none_iff.1 h x b;rw[e] at this;simp at this
theorem kJ {L:List ByteArray}{nm:ByteArray}(h:∀ x∈L,x≠nm):atL L nm=none :=
 List.findIdx?_eq_none_iff.2 fun x b=>by
  cases e:(x.toList == nm.toList) with
  | false=>rfl
  | true=>exact absurd (bytes_beq e) (h x b)
theorem PG.add {S:Spc}{f:List ByteArray}{c:List Ent}{e:Ent}(h:PG S f c)(s:EG S e)(t:∀ x∈c,x.name≠e.name)(u:atL f e.name=none)(z:∀ l∈e.looks,l.ask=true->∃ x∈c,x.name=l.name):PG S f (c++[e]):=by
 refine⟨fun x d=>?_,?_,fun x d=>?_,fun i x hi l q m=>?_⟩
 ·rcases List.mem_append.1 d with d | d
  ·exact h.ents x d
  ·rw[List.mem_singleton.1 d];exact s
 ·rw[List.pairwise_append]
  exact⟨h.nod,List.pairwise_singleton _ _,fun a m b hb=>by rw[List.mem_singleton.1 hb];exact t a m⟩
 ·rcases List.mem_append.1 d with d | d
  ·exact h.off x d
  ·rw[List.mem_singleton.1 d];exact u
 ·rcases Nat.lt_or_ge i c.length with o | p
  ·rw[List.getElem?_append_left o] at hi
   obtain⟨j,y,n,g,hn⟩:=h.ord i x hi l q m;exact⟨j,y,n,by rw[List.getElem?_append_left (by omega)];exact g,hn⟩
  ·rw[List.getElem?_append_right p] at hi
   have r:x=e:=by
    cases hk:i - c.length with
    | zero=>rw[hk] at hi;simpa using hi.symm
    | succ k=>rw[hk] at hi;simp at hi
   subst r;obtain⟨y,g,hn⟩:=z l q m;obtain⟨j,n,g⟩:=List.getElem_of_mem g;exact⟨j,y,by omega,by rw[List.getElem?_append_left n,gq n,g],hn⟩
structure RG (S:Spc)(made:List Ent)(ys:List aC)(ls:List Lk):Prop where
 good:∀ y∈ys,cP y=true
 len:ls.length=ys.length
 names:∀ l∈ls,aw l.name=true
 asked:∀ l∈ls,l.ask=true->∃ x∈made,x.name=l.name
theorem pL (S:Spc)(b:List Ent):RG S b [] []:=⟨fun _ h=>absurd h nj,rfl,fun _ h=>absurd h nj,fun _ h=>absurd h nj⟩
theorem RG.mono {S:Spc}{c b:List Ent}{f:List aC}{d:List Lk}(h:RG S c f d)(j:∀ x∈c,x∈b):RG S b f d:=⟨h.good,h.len,h.names,fun l i g=>let ⟨x,hx,e⟩:=h.asked l i g;⟨x,j x hx,e⟩⟩
theorem RG.add {S:Spc}{b:List Ent}{d:List aC}{c:List Lk}{y:aC}{l:Lk}(h:RG S b d c)(f:cP y=true)(hn:aw l.name=true)(g:l.ask=true->∃ x∈b,x.name=l.name):RG S b (d++[y]) (c++[l]):=by
 refine⟨fun z hz=>?_,by simp[h.len],fun z hz=>?_,fun z hz=>?_⟩
 ·rcases List.mem_append.1 hz with hz | hz
  ·exact h.good z hz
  ·rw[List.mem_singleton.1 hz];exact f
 ·rcases List.mem_append.1 hz with hz | hz
  ·exact h.names z hz
  ·rw[List.mem_singleton.1 hz];exact hn
 ·rcases List.mem_append.1 hz with hz | hz
  ·exact h.asked z hz
  ·rw[List.mem_singleton.1 hz];exact g
theorem xA {c:List aC}(h:∀ y∈c,cP y=true)(k:Nat):cP (yL c k)=true:=by
 unfold yL;rcases Nat.lt_or_ge k c.length with b | b
 ·rw[List.getD_eq_getElem?_getD,gq b]
  exact h _ (gz b)
 ·rw[List.getD_eq_getElem?_getD,List.getElem?_eq_none b]
  rfl
theorem pM {S:Spc}(d:SpcOk S){t:Nat}(g:t<S.n1){b:List aC}(c:∀ y∈b,cP y=true):uA b.length (ci S t b):=by obtain⟨f,h2,h3⟩:=cH (d.act t g);refine wL _ _ _ _ f (by omega) (fun i _=>?_) 2001 0 0 0 [] (by simp) (by simp) (by omega) (by omega) (by omega) (by omega) (by omega);have:=xA c i;simp only[cP,decide_eq_true_eq] at this;exact this.1
theorem rU (S:Spc)(t:ByteArray):cP ⟨iH S t,0,⟨#[]⟩⟩=true:=by simp only[cP,decide_eq_true_eq];exact⟨by decide,by decide,by decide⟩
theorem rV {S:Spc}{x:Ent}(h:EG S x):cP (iG x)=true:=by have c:=h.tx;have b:=h.code;exact decide_eq_true ⟨c,b.1,Int.le_trans b.2 (by decide)⟩
def pN (S:Spc)(c:List ByteArray)(f:List Ent->ByteArray->Out Ent):Prop:=∀ d nm b e,PG S c d->aw nm=true->f d nm=.inl (b,e)->PG S c b/\(∃ more,b=d++more)/\e∈b/\e.name=nm
theorem nT {S:Spc}(B:SpcOk S){j:List Ent->ByteArray->Out Ent}{d:List ByteArray}{t:Nat}(I:t<S.n1)(J:pN S d j):∀ k c f i b x,PG S d c->RG S c f i->f.length+k=201->dw S j t k c f i=.inl (b,x)->PG S d b/\(∃ more,b=c++more)/\ko x.1.code x.1.text/\x.2.length<=200/\(∀ l∈x.2,aw l.name=true)/\∀ l∈x.2,l.ask=true->∃ y∈b,y.name=l.name:=by
 intro k;induction k with
 | zero=>intro c f i b x _ _ _ h;cases h
 | succ k s =>
  intro c f i b x n g hk h;have E:=pM B I g.good;rw[dw] at h;rcases E with ⟨o,p⟩ | ⟨o,hlt,hn⟩
  ·rw[if_pos o] at h
   cases h
   exact⟨n,⟨[],by simp⟩,p,by rw[g.len];omega,g.names,g.asked⟩
  ·rw[if_neg (by rw[o];simp)] at h
   split at h
   ·exact s _ _ _ _ _ n (g.add (rU _ _) hn (fun h=>by cases h)) (by simp;omega) h
   ·split at h
    ·rename_i m e p
     obtain⟨u,⟨more,q⟩,z,H⟩:=J _ _ _ _ n hn p;have r:RG S m f i:=g.mono fun x D=>by rw[q];exact List.mem_append_left _ D
     obtain⟨A,⟨more2,G⟩,C⟩:=s _ _ _ _ _ u (r.add (l:=⟨(ci S t f).name,true,false⟩) (rV (u.ents e z)) hn (fun _=>⟨e,z,H⟩)) (by simp;omega) h;exact⟨A,⟨more++more2,by rw[G,q,List.append_assoc]⟩,C⟩
    ·cases h
    ·cases h
theorem mR {S:Spc}{b:List ByteArray}{c:List Ent}{nm:ByteArray}(h:PG S b c)(f:bs c nm=none):PG S (b++[nm]) c :=
 ⟨h.ents,h.nod,fun x d=>kJ fun z hz=>by
  rcases List.mem_append.1 hz with hz | hz
  ·exact gV (h.off x d) z hz
  ·rw[List.mem_singleton.1 hz];exact fun e=>fE f x d e.symm,h.ord⟩
theorem mS {S:Spc}{b:List ByteArray}{c:List Ent}{nm:ByteArray}(h:PG S (b++[nm]) c):PG S b c/\∀ x∈c,x.name≠nm :=
 ⟨⟨h.ents,h.nod,fun x d=>kJ fun z hz=>gV (h.off x d) z (List.mem_append_left _ hz),h.ord⟩,fun x d e=>gV (h.off x d) nm (List.mem_append_right _ (List.mem_singleton.2 rfl)) e.symm⟩
theorem wM {S:Spc}{b:List ByteArray}{c:List Ent}{nm:ByteArray}{t:Nat}{x:Turn × List Lk}(h:PG S (b++[nm]) c)(hn:aw nm=true)(k:atL b nm=none)(i:atI (nm0 S.f0) S.n0 nm=none)(g:atI (nm1 S.f1) S.n1 nm=some t)(d:ko x.1.code x.1.text)(m:x.2.length<=200)(f:∀ l∈x.2,aw l.name=true)(j:∀ l∈x.2,l.ask=true->∃ y∈c,y.name=l.name):PG S b (c++[⟨nm,3,x.1.code,x.1.text,t,x.2⟩]) :=
 (mS h).1.add ⟨hn,d.2.2,⟨d.1,d.2.1⟩,.inr (.inr ⟨rfl,i,g⟩),m,f⟩ (mS h).2 k j
theorem wN {S:Spc}(g:SpcOk S){b:List ByteArray}{c:List Ent}{nm:ByteArray}{i:Nat}(h:PG S b c)(hn:aw nm=true)(j:bs c nm=none)(k:atL b nm=none)(f:atI (nm0 S.f0) S.n0 nm=some i):PG S b (c++[⟨nm,1,0,(S.f0 i).text,0,[]⟩]) :=
 h.add ⟨hn,g.text i (b9 f).1,⟨Int.le_refl _,by show(0:Int)<=5;decide⟩,.inl ⟨rfl,rfl,rfl,i,f,rfl⟩,Nat.zero_le _,fun l d=>absurd d nj⟩ (fE j) k fun l d=>absurd d nj
theorem uC {S:Spc}{b:List ByteArray}{c:List Ent}{nm:ByteArray}(h:PG S b c)(hn:aw nm=true)(i:bs c nm=none)(j:atL b nm=none)(g:atI (nm0 S.f0) S.n0 nm=none)(f:atI (nm1 S.f1) S.n1 nm=none):PG S b (c++[⟨nm,2,0,⟨#[]⟩,0,[]⟩]) :=
 h.add ⟨hn,Nat.zero_le _,⟨Int.le_refl _,by show(0:Int)<=5;decide⟩,.inr (.inl ⟨rfl,rfl,rfl,rfl,g,f⟩),Nat.zero_le _,fun l d=>absurd d nj⟩ (fE i) j fun l d=>absurd d nj
theorem jm {S:Spc}(p:SpcOk S):∀ n b,pN S b (bv S n b):=by
 intro n;have o:∀ b f nm d e (tgt:Nat->Out Ent),PG S b f->aw nm=true->(∀ t d e,atI (nm0 S.f0) S.n0 nm=none->atI (nm1 S.f1) S.n1 nm=some t->bs f nm=none->atL b nm=none->tgt t=.inl (d,e)->PG S b d/\(∃ more,d=f++more)/\e∈d/\e.name=nm)->eN S tgt b f nm=.inl (d,e)->PG S b d/\(∃ more,d=f++more)/\e∈d/\e.name=nm:=by
  intro b f nm d e tgt g hn A h;unfold eN at h;split at h
  ·rename_i e1 q
   cases h
   exact⟨g,⟨[],by simp⟩,mi q⟩
  ·rename_i k
   split at h
   ·cases h
   ·rename_i l
    unfold fD gv at h;split at h
    ·rename_i i hi
     cases h
     exact⟨wN p g hn k l hi,⟨_,rfl⟩,by simp,rfl⟩
    ·rename_i m
     split at h
     ·rename_i t j
      exact A _ _ _ m j k l h
     ·rename_i j
      cases h
      exact⟨uC g hn k l m j,⟨_,rfl⟩,by simp,rfl⟩
 induction n with
 | zero =>intro b f nm d e g hn h;rw[bv] at h;exact o _ _ _ _ _ _ g hn (fun t _ _ _ _ _ _ h=>by cases h) h
 | succ n s =>
  intro b f nm d e g hn h;rw[bv] at h;refine o _ _ _ _ _ _ g hn (fun t d e m j k l h=>?_) h;rcases hr:dw S (bv S n (b++[nm])) t 201 f [] [] with ⟨made1,x⟩ | c | c
  ·rw[hr] at h
   simp only[jY,gv,Sum.inl.injEq,Prod.mk.injEq] at h;obtain⟨rfl,rfl⟩:=h;obtain⟨u,⟨more,r⟩,z,y,B,C⟩:=nT p (b9 j).1 (s (b++[nm])) _ _ _ _ _ _ (mR g k) (pL S f) rfl hr;exact⟨wM u hn l m j z y B C,⟨more++[_],by rw[r,List.append_assoc]⟩,by simp,rfl⟩
  ·rw[hr] at h;cases h
  ·rw[hr] at h;cases h
def iJ (b:List Ent)(nm:ByteArray):Nat:=b.findIdx fun e=>e.name.toList == nm.toList
def lkD (b:List Ent)(l:Lk):Link:=⟨l.name,l.ask,l.has,if l.ask=true then ((iJ b l.name:Nat):Int) else 0⟩
def lkF (b:List Ent)(c:List Lk):Nat->Link:=fun i=>lkD b (c.getD i ⟨⟨#[]⟩,false,false⟩)
def cO (S:Spc)(e:Ent):Nat:=if e.kind=3 then (S.f1 e.tg).actN else 0
def dR (S:Spc)(b:List Ent)(e:Ent):ar:=⟨e.name,e.kind,e.code,e.text,cO S e,(S.f1 e.tg).act,e.looks.length,lkF b e.looks⟩
def fg (S:Spc)(b:List Ent):List ar:=b.map (dR S b)
theorem uD {b:List Ent}{c:List Lk}{i:Nat}{l:Lk}(h:c[i]?=some l):lkF b c i=lkD b l:=by unfold lkF;rw[List.getD_eq_getElem?_getD,h];rfl
theorem mj (S:Spc)(nm:ByteArray):PG S [] (bN S nm).1/\(bN S nm).1.length<=40201/\((bN S nm).1≠[]->SpcOk S):=by
 unfold bN;split
 ·rename_i h
  have c:=SpcOk.of h.1;split
  ·rename_i b e d
   have f:=jl S 60 [] [] nm b e d;unfold fk at f;have hl:dC S [] []<=S.n1:=by unfold dC;have:=List.countP_le_length (p:=gE S [] []) (l:=List.range S.n1);simpa using this
   have hs:=c.small;refine⟨(jm c 60 [] [] nm b e (jZ S []) h.2 d).1,?_,fun _=>c⟩;simp only[List.length_nil] at f;show b.length<=40201;omega
  ·exact⟨jZ S [],Nat.zero_le _,fun h=>absurd rfl h⟩
  ·exact⟨jZ S [],Nat.zero_le _,fun h=>absurd rfl h⟩
 ·exact⟨jZ S [],Nat.zero_le _,fun h=>absurd rfl h⟩
theorem PG.idx {S:Spc}{c:List ByteArray}{b:List Ent}(h:PG S c b){i:Nat}{x:Ent}(f:b[i]?=some x):iJ b x.name=i:=by
 obtain⟨hi,e⟩:=List.getElem?_eq_some_iff.1 f;unfold iJ;rw[List.findIdx_eq hi];refine⟨by simp[e],fun j g=>?_⟩;have d:=List.pairwise_iff_getElem.1 h.nod j i (by omega) hi g;rw[e] at d;cases hb:(b[j].name.toList == x.name.toList) with
 | false=>rfl
 | true=>exact absurd (bytes_beq hb) d
theorem PG.asked {S:Spc}{c:List ByteArray}{b:List Ent}(h:PG S c b){i:Nat}{x:Ent}(f:b[i]?=some x){l:Lk}(k:l∈x.looks)(g:l.ask=true):∃ y,b[iJ b l.name]?=some y/\y.name=l.name/\iJ b l.name<i:=by obtain⟨j,y,hj,d,e⟩:=h.ord i x f l k g;have:=h.idx d;rw[e] at this;exact⟨y,by rw[this];exact d,e,by omega⟩
theorem uE {S:Spc}{b:List Ent}(h:PG S [] b)(f:∀ i,i<S.n1->bD (S.f1 i)):∀ x∈fg S b,cK x:=by
 intro x d;obtain⟨e,g,rfl⟩:=List.mem_map.1 d;have c:=h.ents e g;refine⟨?_,?_⟩
 ·show cO S e<=1048576
  unfold cO;split
  ·rename_i hk
   rcases c.kind with ⟨k,_⟩ | ⟨k,_⟩ | ⟨_,_,k⟩
   ·omega
   ·omega
   ·exact f e.tg (b9 k).1
  ·omega
 ·have:=c.looks
  show e.looks.length<=1048576;omega
def eW (b:List Ent)(l:Lk):aC:=if l.ask=true then ((bs b l.name).elim pI iG) else ⟨l.has,0,⟨#[]⟩⟩
structure Rn (S:Spc)(made:List Ent)(x:Ent):Prop where
 has:∀ l∈x.looks,l.ask=true->l.has=false
 ahd:∀ l∈x.looks,l.ask=true->∃ y,bs made l.name=some y
 go:x.kind=3->∀ k l,x.looks[k]?=some l->(ci S x.tg ((x.looks.take k).map (eW made))).over=false/\(ci S x.tg ((x.looks.take k).map (eW made))).name=l.name/\(ci S x.tg ((x.looks.take k).map (eW made))).ask=l.ask
 fin:x.kind=3->(ci S x.tg (x.looks.map (eW made))).over=true/\(ci S x.tg (x.looks.map (eW made))).code=x.code/\(ci S x.tg (x.looks.map (eW made))).text=x.text
theorem jn {b more:List Ent}{t:ByteArray}{y:Ent}(h:bs b t=some y):bs (b++more) t=some y:=by unfold bs at h ⊢;rw[List.find?_append,h];rfl
theorem uF {b more:List Ent}{l:Lk}(h:l.ask=true->∃ y,bs b l.name=some y):eW (b++more) l=eW b l:=by
 unfold eW;split
 ·rename_i d
  obtain⟨y,c⟩:=h d;rw[c,jn c]
 ·rfl
theorem jo {made more:List Ent}{b:List Lk}(h:∀ l∈b,l.ask=true->∃ y,bs made l.name=some y):b.map (eW (made++more))=b.map (eW made) :=
 List.map_congr_left fun l c=>uF (h l c)
theorem Rn.more {S:Spc}{b more:List Ent}{x:Ent}(h:Rn S b x):Rn S (b++more) x:=by
 refine⟨h.has,fun l c g=>?_,fun d k l c=>?_,fun d=>?_⟩
 ·obtain⟨y,f⟩:=h.ahd l c g
  exact⟨y,jn f⟩
 ·rw[jo (made:=b) (more:=more) fun l c=>h.ahd l (List.mem_of_mem_take c)]
  exact h.go d k l c
 ·rw[jo h.ahd]
  exact h.fin d
structure Rl (S:Spc)(t:Nat)(made:List Ent)(ys:List aC)(ls:List Lk):Prop where
 rep:ys=ls.map (eW made)
 has:∀ l∈ls,l.ask=true->l.has=false
 ahd:∀ l∈ls,l.ask=true->∃ y,bs made l.name=some y
 go:∀ k l,ls[k]?=some l->(ci S t ((ls.take k).map (eW made))).over=false/\(ci S t ((ls.take k).map (eW made))).name=l.name/\(ci S t ((ls.take k).map (eW made))).ask=l.ask
theorem Rl.more {S:Spc}{t:Nat}{b more:List Ent}{f:List aC}{d:List Lk}(h:Rl S t b f d):Rl S t (b++more) f d:=by
 refine⟨by rw[jo h.ahd];exact h.rep,h.has,fun l c i=>?_,fun k l c=>?_⟩
 ·obtain⟨y,g⟩:=h.ahd l c i
  exact⟨y,jn g⟩
 ·rw[jo (made:=b) (more:=more) fun l c=>h.ahd l (List.mem_of_mem_take c)]
  exact h.go k l c
theorem Rl.add {S:Spc}{t:Nat}{b:List Ent}{c:List aC}{d:List Lk}{r:aC}{l:Lk}(h:Rl S t b c d)(j:r=eW b l)(o:l.ask=true->l.has=false)(m:l.ask=true->∃ y,bs b l.name=some y)(i:(ci S t c).over=false)(hn:(ci S t c).name=l.name)(g:(ci S t c).ask=l.ask):Rl S t b (c++[r]) (d++[l]):=by
 refine⟨by rw[List.map_append,<-h.rep,j];rfl,fun z hz=>?_,fun z hz=>?_,fun k z hz=>?_⟩
 ·rcases List.mem_append.1 hz with hz | hz
  ·exact h.has z hz
  ·rw[List.mem_singleton.1 hz];exact o
 ·rcases List.mem_append.1 hz with hz | hz
  ·exact h.ahd z hz
  ·rw[List.mem_singleton.1 hz];exact m
 ·rcases Nat.lt_or_ge k d.length with f | hge
  ·rw[List.getElem?_append_left f] at hz
   rw[List.take_append_of_le_length (by omega)];exact h.go k z hz
  ·have n:k=d.length:=by
    have:=(List.getElem?_eq_some_iff.1 hz).1;simp at this;omega
   subst n;rw[List.getElem?_append_right ly,Nat.sub_self] at hz;obtain rfl:l=z:=by simpa using hz
   rw[List.take_left,<-h.rep];exact⟨i,hn,g⟩
theorem tz {b:List Ent}{e:Ent}(h:bs b e.name=none):bs (b++[e]) e.name=some e:=by rw[fZ,h];simp
theorem uG (f:Nat->Ins)(cnt:Nat)(g:List aC)(r:aC)(n:r.has=false)(k:Nat):∀ place steps looks i,looks<=g.length->(dx f cnt (yL g) g.length k place steps looks i).over=false->(dx f cnt (yL g) g.length k place steps looks i).ask=true->(dx f cnt (yL (g++[r])) (g.length+1) k place steps looks i).over=true:=by
 induction k with
 | zero=>intro _ _ _ _ _ _ h;cases h
 | succ k j =>
  intro place steps looks i t d b;rw[dx] at d b ⊢;rcases hs:de f cnt place steps looks i with ⟨s,p⟩ | ⟨c,x⟩ | ⟨a,nm,s⟩
  ·rw[hs] at d b
   exact j _ _ _ _ t d b
  ·rfl
  ·rw[hs] at d b
   simp only at d b ⊢;rw[if_neg (show ¬ g.length+1<=looks by omega)];by_cases hn:g.length<=looks
   ·obtain rfl:looks=g.length:=by omega
    rw[if_pos hn] at d b;have m:a=true:=b;subst m;rw[if_neg (by simp),xz,if_pos n];rfl
   ·rw[if_neg hn] at d b
    rw[uz _ _ (by omega)];split
    ·rename_i l
     rw[if_pos l] at d b;exact j _ _ _ _ (by omega) d b
    ·rename_i l
     rw[if_neg l] at d b;split
     ·rfl
     ·rename_i o
      rw[if_neg o] at d b;split
      ·rename_i q
       rw[if_pos q] at d b;exact j _ _ _ _ (by omega) d b
      ·rfl
def jp (S:Spc)(b:List Ent):Nat:=(List.range S.n0).countP fun i=>(bs b (S.f0 i).name).isNone
def Mu (S:Spc)(c:List ByteArray)(b:List Ent):Nat:=b.length+2*dC S c b+jp S b
theorem nU (S:Spc)(b:List Ent)(e:Ent):jp S (b++[e])<=jp S b:=by
 refine List.countP_mono_left fun t _ h=>?_;rw[fZ] at h;cases h2:bs b (S.f0 t).name with
 | none=>rfl
 | some x=>rw[h2] at h;simp at h
theorem uH {S:Spc}{b:List Ent}{e:Ent}{i:Nat}(hi:i<S.n0)(hn:(S.f0 i).name=e.name)(h:bs b e.name=none):jp S (b++[e])+1<=jp S b:=by
 refine nR (fun x _ h=>?_) (List.mem_range.2 hi) ?_ ?_
 ·rw[fZ] at h
  cases h2:bs b (S.f0 x).name with
  | none=>rfl
  | some y=>rw[h2] at h;simp at h
 ·rw[hn,tz h]
  rfl
 ·rw[hn,h]
  rfl
def uI (S:Spc)(b:List ByteArray)(f:List Ent->ByteArray->Out Ent):Prop:=∀ d nm c e,f d nm=.inl (c,e)->Mu S b c<=Mu S b d+if e.kind=2 then 1 else 0
theorem yg {S:Spc}{f:List Ent->ByteArray->Out Ent}{c:List ByteArray}{t:Nat}(r:uI S c f):∀ k d g j b x,dw S f t k d g j=.inl (b,x)->Mu S c b<=Mu S c d+1:=by
 intro k;induction k with
 | zero=>intro d g j b x h;cases h
 | succ k m =>
  intro d g j b x h;rw[dw] at h;split at h
  ·cases h;omega
  ·rename_i p
   split at h
   ·exact m _ _ _ _ _ h
   ·rename_i o
    split at h
    ·rename_i made1 e q
     have i:=r _ _ _ _ q;by_cases l:e.kind=2
     ·have n:(ci S t (g++[iG e])).over=true:=by
       have:=uG (S.f1 t).act (S.f1 t).actN g (iG e) (by simp[iG,l]) 2001 0 0 0 [] (Nat.zero_le _) (by simpa[ci] using p) (by simpa[ci] using o);unfold ci;rw[List.length_append];exact this
      cases k with
      | zero=>cases h
      | succ k =>
       rw[dw,if_pos n] at h;cases h
       rw[if_pos l] at i;exact i
     ·rw[if_neg l] at i
      have:=m _ _ _ _ _ h;omega
    ·cases h
    ·cases h
theorem wO (S:Spc):∀ n b,uI S b (bv S n b):=by
 intro n;have l:∀ b d nm f e (tgt:Nat->Out Ent),(∀ t f e,atI (nm1 S.f1) S.n1 nm=some t->bs d nm=none->atL b nm=none->tgt t=.inl (f,e)->Mu S b f<=Mu S b d)->eN S tgt b d nm=.inl (f,e)->Mu S b f<=Mu S b d+if e.kind=2 then 1 else 0:=by
  intro b d nm f e tgt o h;unfold eN at h;split at h
  ·cases h;omega
  ·rename_i k
   split at h
   ·cases h
   ·rename_i m
    unfold fD gv at h;split at h
    ·rename_i i hi
     cases h
     have:=iw S b d ⟨nm,1,0,(S.f0 i).text,0,[]⟩;have:=uH (S:=S) (e:=⟨nm,1,0,(S.f0 i).text,0,[]⟩) (b9 hi).1 (b9 hi).2 k;unfold Mu;rw[List.length_append,List.length_singleton];omega
    ·split at h
     ·rename_i t j
      have:=o _ _ _ j k m h;omega
     ·cases h
      have:=iw S b d ⟨nm,2,0,⟨#[]⟩,0,[]⟩;have:=nU S d ⟨nm,2,0,⟨#[]⟩,0,[]⟩;rw[if_pos rfl];unfold Mu;rw[List.length_append,List.length_singleton];omega
 induction n with
 | zero =>intro b d nm f e h;rw[bv] at h;exact l _ _ _ _ _ _ (fun t _ _ _ _ _ h=>by cases h) h
 | succ n p =>
  intro b d nm f e h;rw[bv] at h;refine l _ _ _ _ _ _ (fun t f e j k m h=>?_) h;rcases hr:dw S (bv S n (b++[nm])) t 201 d [] [] with ⟨g,x⟩ | c | c
  ·rw[hr] at h
   simp only[jY,gv,Sum.inl.injEq,Prod.mk.injEq] at h;obtain⟨rfl,rfl⟩:=h;have q:=yg (p (b++[nm])) _ _ _ _ _ _ hr;have g2:=fU (making:=b) (made:=d) (b9 j).1 (b9 j).2 k m;have g3:dC S b (g++[⟨nm,3,x.1.code,x.1.text,t,x.2⟩])<=dC S (b++[nm]) g:=nQ S b g ⟨nm,3,x.1.code,x.1.text,t,x.2⟩;have g4:=nU S g ⟨nm,3,x.1.code,x.1.text,t,x.2⟩;unfold Mu at q ⊢;rw[List.length_append,List.length_singleton];omega
  ·rw[hr] at h;cases h
  ·rw[hr] at h;cases h
theorem tA {S:Spc}(g:SpcOk S){nm:ByteArray}{b:List Ent}{e:Ent}(h:bv S 60 [] [] nm=.inl (b,e)):b.length<=400:=by
 have f:=wO S 60 [] [] nm b e h;have hl:dC S [] []<=S.n1:=by have:=List.countP_le_length (p:=gE S [] []) (l:=List.range S.n1);simpa[dC] using this
 have hs:jp S []<=S.n0:=by have:=List.countP_le_length (p:=fun i=>(bs [] (S.f0 i).name).isNone) (l:=List.range S.n0);simpa[jp] using this
 have h2:=g.small;by_cases d:e.kind=2
 ·rw[bv] at h
  unfold eN at h;simp only[bs,List.find?_nil,atL,List.findIdx?_nil] at h;unfold fD gv at h;split at h
  ·cases h;cases d
  ·split at h
   ·rename_i t h3
    simp only at h;rcases hr:dw S (bv S 59 ([]++[nm])) t 201 [] [] [] with ⟨made1,x⟩ | c | c
    ·rw[hr] at h
     simp only[jY,gv,Sum.inl.injEq,Prod.mk.injEq] at h;obtain⟨rfl,rfl⟩:=h;cases d
    ·rw[hr] at h;cases h
    ·rw[hr] at h;cases h
   ·cases h
    show 1<=400;omega
 ·rw[if_neg d] at f
  unfold Mu at f;rw[List.length_nil] at f;omega
section
variable {S:Spc}{M:List Ent}
end
theorem re (S:Spc)(nm:ByteArray):bv S 60 [] [] nm=fD S (yP S 60 [] [] nm) [] nm:=by rw[pJ];rfl
theorem pO {S:Spc}{nm:ByteArray}{i:Nat}(b:bi S.n0 S.f0 S.n1 S.f1=0)(hn:aw nm=true)(hi:atI (nm0 S.f0) S.n0 nm=some i):(bN S nm).2=⟨0,(S.f0 i).text,[]⟩:=by unfold bN;rw[if_pos ⟨b,hn⟩,re,fD,hi];rfl
theorem tB {g:Nat->ByteArray}{n i:Nat}{t:ByteArray}(hi:i<n)(b:(g i).toList=t.toList)(d:∀ j,j<i->(g j).toList≠t.toList):atI g n t=some i:=by unfold atI;rw[List.find?_range_eq_some];refine⟨by simp[b],by simpa using hi,fun j c=>?_⟩;simpa using d j c
end Go.Proofs.YtkophfgkcijjkaaGreatDoor.Vp
