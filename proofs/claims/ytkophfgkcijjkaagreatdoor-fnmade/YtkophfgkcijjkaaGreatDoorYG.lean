import Derived.Test.YtkophfgkcijjkaaGreatDoorYE
import Derived.Test.YtkophfgkcijjkaaGreatDoorZM
namespace Go.Proofs.YtkophfgkcijjkaaGreatDoor.Vp
open RowKit
structure Spc where
 n0:Nat
 f0:Nat→Source
 n1:Nat
 f1:Nat→Target
structure Lk where
 name:ByteArray
 ask:Bool
 has:Bool
structure Ent where
 name:ByteArray
 kind:Int
 code:Int
 text:ByteArray
 tg:Nat
 looks:List Lk
abbrev Out (α:Type):=(List Ent × α) ⊕ List ByteArray ⊕ ByteArray
def fl:aw:=⟨false,0,⟨#[]⟩⟩
def yL (ys:List aw):Nat→aw:=fun k=>ys.getD k fl
def dU (e:Ent):aw:=⟨decide (¬ e.kind=2),e.code,e.text⟩
def eY (S:Spc)(t:ByteArray):Bool:=aO (nm0 S.f0) S.n0 t || aO (nm1 S.f1) S.n1 t
def atI (g:Nat→ByteArray)(n:Nat)(t:ByteArray):Option Nat:=(List.range n).find? fun i=>(g i).toList == t.toList
def atL (L:List ByteArray)(t:ByteArray):Option Nat:=L.findIdx? fun x=>x.toList == t.toList
def aA (made:List Ent)(t:ByteArray):Option Ent:=made.find? fun e=>e.name.toList == t.toList
def bk (S:Spc)(t:Nat)(ys:List aw):Turn:=b9 (S.f1 t).act (S.f1 t).actN (yL ys) ys.length 2001 0 0 0 []
def bD (S:Spc)(lies:List Ent→ByteArray→Out Ent)(t:Nat):Nat→List Ent→List aw→List Lk→Out (Turn × List Lk)
 | 0,_,_,_=>.inr (.inr ⟨#[]⟩)
 | k+1,made,ys,ls =>
  if (bk S t ys).over=true then .inl (made,(bk S t ys,ls))
  else if (bk S t ys).ask=false then bD S lies t k made (ys++[⟨eY S (bk S t ys).name,0,⟨#[]⟩⟩]) (ls++[⟨(bk S t ys).name,false,eY S (bk S t ys).name⟩])
  else match lies made (bk S t ys).name with
   | .inl (made',e)=>bD S lies t k made' (ys++[dU e]) (ls++[⟨(bk S t ys).name,true,false⟩])
   | .inr (.inl c)=>.inr (.inl c)
   | .inr (.inr d)=>.inr (.inr d)
def dL (made:List Ent)(e:Ent):Out Ent:=.inl ((made++[e]),e)
def ga (nm:ByteArray)(t:Nat):Out (Turn × List Lk)→Out Ent
 | .inl (made,x)=>dL made ⟨nm,3,x.1.code,x.1.text,t,x.2⟩
 | .inr (.inl c)=>.inr (.inl c)
 | .inr (.inr d)=>.inr (.inr d)
def eA (S:Spc)(tgt:Nat→Out Ent)(made:List Ent)(nm:ByteArray):Out Ent :=
 match atI (nm0 S.f0) S.n0 nm with
 | some i=>dL made ⟨nm,1,0,(S.f0 i).text,0,[]⟩
 | none=>match atI (nm1 S.f1) S.n1 nm with
  | some t=>tgt t
  | none=>dL made ⟨nm,2,0,⟨#[]⟩,0,[]⟩
def de (S:Spc)(tgt:Nat→Out Ent)(making:List ByteArray)(made:List Ent)(nm:ByteArray):Out Ent :=
 match aA made nm with
 | some e=>.inl (made,e)
 | none=>match atL making nm with
  | some i=>.inr (.inl (making.drop i))
  | none=>eA S tgt made nm
def aG (S:Spc):Nat→List ByteArray→List Ent→ByteArray→Out Ent
 | 0,making,made,nm=>de S (fun _=>.inr (.inr nm)) making made nm
 | n+1,making,made,nm=>de S (fun t=>ga nm t (bD S (aG S n (making++[nm])) t 201 made [] [])) making made nm
def lj (S:Spc)(n:Nat)(making:List ByteArray)(made:List Ent)(nm:ByteArray)(t:Nat):Out Ent :=
 match n with
 | 0=>.inr (.inr nm)
 | n+1=>ga nm t (bD S (aG S n (making++[nm])) t 201 made [] [])
theorem nV (S:Spc)(n:Nat)(making:List ByteArray)(made:List Ent)(nm:ByteArray):aG S n making made nm=de S (lj S n making made nm) making made nm:=by
 cases n with
 | zero=>rw [aG];rfl
 | succ n=>rw [aG];rfl
structure ResL where
 code:Int
 text:ByteArray
 chain:List ByteArray
def bV (e:Ent):ResL:=if e.kind=2 then ⟨4,e.name,[]⟩ else ⟨e.code,e.text,[]⟩
def bp (S:Spc)(nm:ByteArray):List Ent × ResL :=
 if bX S.n0 S.f0 S.n1 S.f1=0∧au nm=true then
  (match aG S 60 [] [] nm with
   | .inl (made,e)=>(made,bV e)
   | .inr (.inl c)=>([],⟨6,⟨#[]⟩,c⟩)
   | .inr (.inr d)=>([],⟨7,d,[]⟩))
 else ([],⟨9,⟨#[]⟩,[]⟩)
theorem vm (ys:List aw)(r:aw):yL (ys++[r]) ys.length=r:=by simp [yL]
theorem sM (ys:List aw)(r:aw){k:Nat}(h:k<ys.length):yL (ys++[r]) k=yL ys k:=by simp [yL,List.getElem?_append_left h]
theorem kD (u:Nat):(Lib.decDigits u).length≤u+1:=by
 induction u using Nat.strongRecOn with
 | ind u ih =>
  rw [Lib.decDigits]
  split
  ·simp
  ·have:=ih (u / 10) (by omega)
   simp only [List.length_append,List.length_cons,List.length_nil]
   omega
theorem gv {p:Nat}(h:p≤2000):(cH p).size≤2000:=by
 show (Lib.decDigits p).length≤2000
 rw [Lib.decDigits]
 split
 ·simp
 ·have:=kD (p / 10)
  simp only [List.length_append,List.length_cons,List.length_nil]
  omega
def jl (c:Int)(x:ByteArray):Prop:=0≤c∧c≤5∧x.size≤2000
theorem rn {ask:Bool}{a:ByteArray}{r:List ByteArray}{here looks:Nat}{c:Int}{x:ByteArray}(h:dV ask a r here looks=.inr (.inl (c,x)))(hh:here≤2000):jl c x:=by
 unfold dV at h
 split at h
 ·cases h;exact ⟨by omega,by omega,gv hh⟩
 ·split at h
  ·cases h;exact ⟨by omega,by omega,by decide⟩
  ·cases h
theorem mH {op n:Nat}{t:ByteArray}{here looks:Nat}{stk:List ByteArray}{c:Int}{x:ByteArray}(h:bY op n t here looks stk=.inr (.inl (c,x)))(hle:∀ z∈stk,z.size≤2000)(hh:here≤2000):jl c x:=by
  unfold bY at h
  split at h
  all_goals first
    | (cases h;done)
    | exact rn h hh
    | (split at h
       · cases h
       · cases h;exact ⟨by omega,by omega,gv hh⟩)
    | (cases h;exact ⟨by omega,by omega,hle _ (by simp)⟩)
    | (cases h;exact ⟨by omega,by omega,by decide⟩)
theorem rp {f:Nat→Ins}{cnt place steps looks:Nat}{stk:List ByteArray}{c:Int}{x:ByteArray}(h:bq f cnt place steps looks stk=.inr (.inl (c,x)))(hle:∀ z∈stk,z.size≤2000)(hh:place≤2000):jl c x:=by
 unfold bq at h
 split at h
 ·cases h;exact ⟨by omega,by omega,gv hh⟩
 ·split at h
  ·cases h;exact ⟨by omega,by omega,by decide⟩
  ·split at h
   ·cases h;exact ⟨by omega,by omega,gv hh⟩
   ·exact mH h hle hh
theorem o5 {f:Nat→Ins}{cnt place steps looks:Nat}{stk:List ByteArray}(h1:stk.length≤50)(h2:∀ z∈stk,z.size≤2000)(h3:looks≤200)(hok:cG f cnt=true)(hc:cnt≤200):lf (bq f cnt place steps looks stk) looks:=by
 unfold bq
 split
 ·trivial
 ·rename_i h1
  split
  ·trivial
  ·split
   ·trivial
   ·rename_i h3
    have hi:=jd hok (show place<cnt by omega)
    simp only [bT,decide_eq_true_eq] at hi
    obtain ⟨i1,i2,i3,i4,i5⟩:=hi
    have hmt:cX (f place).op≤2000:=by unfold cX;split<;>(try split)<;>omega
    have hmt2:bI (f place).op≤2000:=by unfold bI;split<;>omega
    exact fH _ _ _ _ _ _ (by assumption) h2 (by omega) (by omega) (by omega) (by assumption) (by omega) (by omega) (by simpa using h3)
def sN (n:Nat)(T:Turn):Prop:=(T.over=true∧jl T.code T.text)∨(T.over=false∧n<200∧au T.name=true)
theorem nW {f:Nat→Ins}{cnt place steps looks:Nat}{stk s:List ByteArray}{a:Bool}{nm:ByteArray}(h:bq f cnt place steps looks stk=.inr (.inr (a,nm,s))):place<cnt:=by
 unfold bq at h
 split at h
 ·cases h
 ·omega
theorem iY {nm:ByteArray}(h:au nm=true):nm.size≤60:=by
 simp only [au,Bool.and_eq_true,decide_eq_true_eq] at h
 omega
theorem uu (f:Nat→Ins)(cnt:Nat)(y:Nat→aw)(n:Nat)(hok:cG f cnt=true)(hc:cnt≤200)(hy:∀ i,i<n→(y i).text.size≤2000)(k:Nat):∀ place steps looks stk,stk.length≤50→(∀ z∈stk,z.size≤2000)→place≤2000→steps≤2000→looks≤200→looks≤n→k+steps=2001→sN n (b9 f cnt y n k place steps looks stk):=by
 induction k with
 | zero=>intro _ _ _ _ _ _ _ _ _ _ h;omega
 | succ k ih =>
  intro place steps looks stk h1 h2 h3 h4 h5 h6 h7
  have hf:=o5 (f:=f) (cnt:=cnt) (place:=place) (steps:=steps) h1 h2 h5 hok hc
  rw [b9]
  rcases hs:bq f cnt place steps looks stk with ⟨s,p⟩ | ⟨c,x⟩ | ⟨a,nm,s⟩
  ·rw [hs] at hf
   obtain ⟨g1,g2,g3⟩:=hf
   obtain ⟨e1,e2⟩:=fY hs
   simp only
   rw [e1]
   exact ih _ _ _ _ g1 g2 g3 (by omega) h5 h6 (by omega)
  ·exact .inl ⟨rfl,rp hs h2 h3⟩
  ·rw [hs] at hf
   obtain ⟨g1,g2,g3,g4⟩:=hf
   obtain ⟨e1,e2⟩:=gY hs
   have hp:=nW hs
   have hz:=iY g3
   simp only
   rw [e1]
   split
   ·exact .inr ⟨rfl,by omega,g3⟩
   ·split
    ·refine ih _ _ _ _ (by simp;omega) (fun z hz=>?_) (by omega) (by omega) (by omega) (by omega) (by omega)
     rcases List.mem_cons.1 hz with rfl | hz
     ·exact eX _
     ·exact g2 z hz
    ·split
     ·exact .inl ⟨rfl,by simp [dx],by simp [dx],by simp only [dx];omega⟩
     ·split
      ·refine ih _ _ _ _ (by simp;omega) (fun z hz=>?_) (by omega) (by omega) (by omega) (by omega) (by omega)
       rcases List.mem_cons.1 hz with rfl | hz
       ·exact hy _ (by omega)
       ·exact g2 z hz
      ·exact .inl ⟨rfl,by simp [dx],by simp [dx],by simp only [dx];omega⟩
def fO (S:Spc)(making:List ByteArray)(made:List Ent):Nat→Bool:=fun t=>(aA made (S.f1 t).name).isNone && (atL making (S.f1 t).name).isNone
def cW (S:Spc)(making:List ByteArray)(made:List Ent):Nat:=(List.range S.n1).countP (fO S making made)
theorem fC (made:List Ent)(e:Ent)(t:ByteArray):aA (made++[e]) t=(aA made t).or (if (e.name.toList == t.toList)=true then some e else none):=by
 unfold aA
 rw [List.find?_append]
 cases h:(e.name.toList == t.toList)<;>simp [h]
theorem lm (L:List ByteArray)(x t:ByteArray):(atL (L++[x]) t).isNone=((atL L t).isNone && !(x.toList == t.toList)):=by
 unfold atL
 rw [List.findIdx?_append]
 cases h:(x.toList == t.toList)<;>cases h2:List.findIdx? (fun x=>x.toList == t.toList) L<;>simp [h,List.findIdx?_cons]
theorem gw (S:Spc)(making:List ByteArray)(made:List Ent)(e:Ent):cW S making (made++[e])≤cW S making made:=by
 refine List.countP_mono_left fun t _ h=>?_
 simp only [fO,Bool.and_eq_true,fC] at h ⊢
 refine ⟨?_,h.2⟩
 cases h2:aA made (S.f1 t).name with
 | none=>rfl
 | some x=>rw [h2] at h;simp at h
theorem lP (S:Spc)(making:List ByteArray)(made:List Ent)(e:Ent):cW S making (made++[e])≤cW S (making++[e.name]) made:=by
 refine List.countP_mono_left fun t _ h=>?_
 simp only [fO,Bool.and_eq_true,fC,lm] at h ⊢
 cases h2:aA made (S.f1 t).name with
 | some x=>rw [h2] at h;simp at h
 | none =>
  rw [h2] at h
  refine ⟨rfl,h.2,?_⟩
  cases h3:(e.name.toList == (S.f1 t).name.toList) with
  | false=>rfl
  | true=>rw [h3] at h;simp at h
theorem lQ {p q:Nat→Bool}{l:List Nat}(h:∀ x∈l,p x=true→q x=true){a:Nat}(ha:a∈l)(h1:p a=false)(h2:q a=true):l.countP p+1≤l.countP q:=by
 induction l with
 | nil=>cases ha
 | cons x l ih =>
  have hm:l.countP p≤l.countP q:=List.countP_mono_left fun z hz=>h z (List.mem_cons_of_mem _ hz)
  rw [List.countP_cons,List.countP_cons]
  rcases List.mem_cons.1 ha with rfl | ha
  ·rw [h1,h2];simp;omega
  ·have:=ih (fun z hz=>h z (List.mem_cons_of_mem _ hz)) ha
   cases hp:p x with
   | false=>simp;split<;>omega
   | true=>rw [h x List.mem_cons_self hp];simp;omega
theorem eB {S:Spc}{making:List ByteArray}{made:List Ent}{nm:ByteArray}{t:Nat}(ht:t<S.n1)(hn:(S.f1 t).name=nm)(h1:aA made nm=none)(h2:atL making nm=none):cW S (making++[nm]) made+1≤cW S making made:=by
 refine lQ (fun x _ h=>?_) (List.mem_range.2 ht) ?_ ?_
 ·simp only [fO,Bool.and_eq_true,lm] at h ⊢
  exact ⟨h.1,h.2.1⟩
 ·simp [fO,lm,hn]
 ·simp [fO,hn,h1,h2]
theorem aR {g:Nat→ByteArray}{n:Nat}{t:ByteArray}{i:Nat}(h:atI g n t=some i):i<n∧g i=t:=by
 unfold atI at h
 have h1:=List.find?_some h
 have h2:=List.mem_of_find?_eq_some h
 exact ⟨List.mem_range.1 h2,bytes_beq h1⟩
def dZ (S:Spc)(making:List ByteArray)(made made':List Ent)(k:Nat):Prop:=made'.length+201*cW S making made'≤made.length+201*cW S making made+k
theorem lR {S:Spc}{lies:List Ent→ByteArray→Out Ent}{making:List ByteArray}{t:Nat}(hl:∀ made nm made' e,lies made nm=.inl (made',e)→dZ S making made made' 1):∀ k made ys ls made' x,bD S lies t k made ys ls=.inl (made',x)→dZ S making made made' (k - 1):=by
 intro k
 induction k with
 | zero=>intro made ys ls made' x h;cases h
 | succ k ih =>
  intro made ys ls made' x h
  rw [bD] at h
  split at h
  ·cases h;unfold dZ;omega
  ·cases k with
   | zero =>
    split at h
    ·cases h
    ·split at h<;>cases h
   | succ k =>
    split at h
    ·have:=ih _ _ _ _ _ h
     unfold dZ at this ⊢
     omega
    ·split at h
     ·rename_i made1 e he
      have h1:=hl _ _ _ _ he
      have h2:=ih _ _ _ _ _ h
      unfold dZ at h1 h2 ⊢
      omega
     ·cases h
     ·cases h
theorem eZ (S:Spc):∀ n making made nm made' e,aG S n making made nm=.inl (made',e)→dZ S making made made' 1:=by
 intro n
 have key:∀ making made nm made' e (tgt:Nat→Out Ent),(∀ t made' e,atI (nm1 S.f1) S.n1 nm=some t→aA made nm=none→atL making nm=none→tgt t=.inl (made',e)→dZ S making made made' 1)→de S tgt making made nm=.inl (made',e)→dZ S making made made' 1:=by
  intro making made nm made' e tgt ht h
  unfold de at h
  split at h
  ·cases h;unfold dZ;omega
  ·rename_i h0
   split at h
   ·cases h
   ·rename_i h1
    unfold eA dL at h
    split at h
    ·rename_i i hi
     cases h
     have:=gw S making made ⟨nm,1,0,(S.f0 i).text,0,[]⟩
     unfold dZ
     rw [List.length_append,List.length_singleton]
     omega
    ·split at h
     ·rename_i t h3
      exact ht _ _ _ h3 h0 h1 h
     ·cases h
      have:=gw S making made ⟨nm,2,0,⟨#[]⟩,0,[]⟩
      unfold dZ
      rw [List.length_append,List.length_singleton]
      omega
 induction n with
 | zero =>
  intro making made nm made' e h
  rw [aG] at h
  exact key _ _ _ _ _ _ (fun t _ _ _ _ _ h=>by cases h) h
 | succ n ih =>
  intro making made nm made' e h
  rw [aG] at h
  refine key _ _ _ _ _ _ (fun t made' e h3 h0 h1 h=>?_) h
  rcases hr:bD S (aG S n (making++[nm])) t 201 made [] [] with ⟨made1,x⟩ | c | c
  ·rw [hr] at h
   simp only [ga,dL,Sum.inl.injEq,Prod.mk.injEq] at h
   obtain ⟨rfl,rfl⟩:=h
   have g1:=lR (making:=making++[nm]) (fun made nm2 made' e he=>ih _ _ _ _ _ he) _ _ _ _ _ _ hr
   have g2:=eB (making:=making) (made:=made) (aR h3).1 (aR h3).2 h0 h1
   have g3:cW S making (made1++[⟨nm,3,x.1.code,x.1.text,t,x.2⟩])≤cW S (making++[nm]) made1:=lP S making made1 ⟨nm,3,x.1.code,x.1.text,t,x.2⟩
   unfold dZ at g1 ⊢
   rw [List.length_append,List.length_singleton]
   omega
  ·rw [hr] at h;cases h
  ·rw [hr] at h;cases h
structure SpcOk (S:Spc):Prop where
 chk:bX S.n0 S.f0 S.n1 S.f1=0
 asc0:aY (nm0 S.f0) S.n0=true
 asc1:aY (nm1 S.f1) S.n1=true
 small:S.n0+S.n1≤200
 text:∀ i,i<S.n0→(S.f0 i).text.size≤2000
 act:∀ t,t<S.n1→valid (S.f1 t).act (S.f1 t).actN=true
theorem jJ {p:Nat→Bool}{n i:Nat}(h:aW p n=false)(hi:i<n):p i=false:=by
 induction n with
 | zero=>omega
 | succ n ih =>
  rw [aW,Bool.or_eq_false_iff] at h
  by_cases e:i=n
  ·subst e;exact h.2
  ·exact ih h.1 (by omega)
theorem SpcOk.of {S:Spc}(h:bX S.n0 S.f0 S.n1 S.f1=0):SpcOk S:=by
 obtain ⟨h1,h2,h3⟩:=r8 h
 have h0:=h
 unfold bX at h
 split at h;· omega
 split at h;· omega
 split at h;· omega
 split at h;· omega
 split at h;· omega
 split at h;· omega
 split at h;· omega
 split at h;· omega
 rename_i h6 h7
 refine ⟨h0,h1,h2,h3,fun i hi=>?_,fun t ht=>?_⟩
 ·have:=jJ (Bool.eq_false_iff.2 h6) hi
  simp only [ed,decide_eq_false_iff_not] at this
  omega
 ·have:=jJ (Bool.eq_false_iff.2 h7) ht
  simpa [cq] using this
structure EG (S:Spc)(x:Ent):Prop where
 nm:au x.name=true
 tx:x.text.size≤2000
 code:0≤x.code∧x.code≤5
 kind:(x.kind=1∧x.code=0∧x.looks=[]∧∃ i,atI (nm0 S.f0) S.n0 x.name=some i∧x.text=(S.f0 i).text)∨(x.kind=2∧x.code=0∧x.text=⟨#[]⟩∧x.looks=[]∧atI (nm0 S.f0) S.n0 x.name=none∧atI (nm1 S.f1) S.n1 x.name=none)∨(x.kind=3∧atI (nm0 S.f0) S.n0 x.name=none∧atI (nm1 S.f1) S.n1 x.name=some x.tg)
 looks:x.looks.length≤200
 lname:∀ l∈x.looks,au l.name=true
structure PG (S:Spc)(making:List ByteArray)(made:List Ent):Prop where
 ents:∀ x∈made,EG S x
 nod:made.Pairwise fun x y=>x.name≠y.name
 off:∀ x∈made,atL making x.name=none
 ord:∀ (i:Nat) (x:Ent),made[i]?=some x→∀ l∈x.looks,l.ask=true→∃ (j:Nat) (y:Ent),j<i∧made[j]?=some y∧y.name=l.name
theorem eC (S:Spc)(making:List ByteArray):PG S making []:=⟨fun x h=>absurd h List.not_mem_nil,List.Pairwise.nil,fun x h=>absurd h List.not_mem_nil,fun i x h=>by simp at h⟩
theorem cK {made:List Ent}{nm:ByteArray}(h:aA made nm=none):∀ x∈made,x.name≠nm:=by
 intro x hx e
 have:=List.find?_eq_none.1 h x hx
 rw [e] at this
 simp at this
theorem fP {made:List Ent}{nm:ByteArray}{e:Ent}(h:aA made nm=some e):e∈made∧e.name=nm:=⟨List.mem_of_find?_eq_some h,bytes_beq (List.find?_some (p:=fun e:Ent=>e.name.toList == nm.toList) h)⟩
theorem gb {L:List ByteArray}{nm:ByteArray}(h:atL L nm=none):∀ x∈L,x≠nm:=by
 intro x hx e
 have:=List.findIdx?_eq_none_iff.1 h x hx
 rw [e] at this
 simp at this
theorem jt {L:List ByteArray}{nm:ByteArray}(h:∀ x∈L,x≠nm):atL L nm=none :=
 List.findIdx?_eq_none_iff.2 fun x hx=>by
  cases e:(x.toList == nm.toList) with
  | false=>rfl
  | true=>exact absurd (bytes_beq e) (h x hx)
theorem PG.add {S:Spc}{making:List ByteArray}{made:List Ent}{e:Ent}(h:PG S making made)(he:EG S e)(h0:∀ x∈made,x.name≠e.name)(h1:atL making e.name=none)(hl:∀ l∈e.looks,l.ask=true→∃ x∈made,x.name=l.name):PG S making (made++[e]):=by
 refine ⟨fun x hx=>?_,?_,fun x hx=>?_,fun i x hi l hm ha=>?_⟩
 ·rcases List.mem_append.1 hx with hx | hx
  ·exact h.ents x hx
  ·rw [List.mem_singleton.1 hx];exact he
 ·rw [List.pairwise_append]
  exact ⟨h.nod,List.pairwise_singleton _ _,fun a ha b hb=>by rw [List.mem_singleton.1 hb];exact h0 a ha⟩
 ·rcases List.mem_append.1 hx with hx | hx
  ·exact h.off x hx
  ·rw [List.mem_singleton.1 hx];exact h1
 ·rcases Nat.lt_or_ge i made.length with hlt | hge
  ·rw [List.getElem?_append_left hlt] at hi
   obtain ⟨j,y,hj,hy,hn⟩:=h.ord i x hi l hm ha
   exact ⟨j,y,hj,by rw [List.getElem?_append_left (by omega)];exact hy,hn⟩
  ·rw [List.getElem?_append_right hge] at hi
   have e1:x=e:=by
    cases hk:i - made.length with
    | zero=>rw [hk] at hi;simpa using hi.symm
    | succ k=>rw [hk] at hi;simp at hi
   subst e1
   obtain ⟨y,hy,hn⟩:=hl l hm ha
   obtain ⟨j,hj,hy⟩:=List.getElem_of_mem hy
   exact ⟨j,y,by omega,by rw [List.getElem?_append_left hj,List.getElem?_eq_getElem hj,hy],hn⟩
structure RG (S:Spc)(made:List Ent)(ys:List aw)(ls:List Lk):Prop where
 good:∀ y∈ys,bv y=true
 len:ls.length=ys.length
 names:∀ l∈ls,au l.name=true
 asked:∀ l∈ls,l.ask=true→∃ x∈made,x.name=l.name
theorem fa (S:Spc)(made:List Ent):RG S made [] []:=⟨fun _ h=>absurd h List.not_mem_nil,rfl,fun _ h=>absurd h List.not_mem_nil,fun _ h=>absurd h List.not_mem_nil⟩
theorem RG.mono {S:Spc}{made made':List Ent}{ys:List aw}{ls:List Lk}(h:RG S made ys ls)(hm:∀ x∈made,x∈made'):RG S made' ys ls:=⟨h.good,h.len,h.names,fun l hl ha=>let ⟨x,hx,e⟩:=h.asked l hl ha;⟨x,hm x hx,e⟩⟩
theorem RG.add {S:Spc}{made:List Ent}{ys:List aw}{ls:List Lk}{y:aw}{l:Lk}(h:RG S made ys ls)(hy:bv y=true)(hn:au l.name=true)(ha:l.ask=true→∃ x∈made,x.name=l.name):RG S made (ys++[y]) (ls++[l]):=by
 refine ⟨fun z hz=>?_,by simp [h.len],fun z hz=>?_,fun z hz=>?_⟩
 ·rcases List.mem_append.1 hz with hz | hz
  ·exact h.good z hz
  ·rw [List.mem_singleton.1 hz];exact hy
 ·rcases List.mem_append.1 hz with hz | hz
  ·exact h.names z hz
  ·rw [List.mem_singleton.1 hz];exact hn
 ·rcases List.mem_append.1 hz with hz | hz
  ·exact h.asked z hz
  ·rw [List.mem_singleton.1 hz];exact ha
theorem rq {ys:List aw}(h:∀ y∈ys,bv y=true)(k:Nat):bv (yL ys k)=true:=by
 unfold yL
 rcases Nat.lt_or_ge k ys.length with hk | hk
 ·rw [List.getD_eq_getElem?_getD,List.getElem?_eq_getElem hk]
  exact h _ (List.getElem_mem hk)
 ·rw [List.getD_eq_getElem?_getD,List.getElem?_eq_none hk]
  rfl
theorem ib {S:Spc}(hS:SpcOk S){t:Nat}(ht:t<S.n1){ys:List aw}(hy:∀ y∈ys,bv y=true):sN ys.length (bk S t ys):=by
 obtain ⟨h1,h2,h3⟩:=bR (hS.act t ht)
 refine uu _ _ _ _ h1 (by omega) (fun i _=>?_) 2001 0 0 0 [] (by simp) (by simp) (by omega) (by omega) (by omega) (by omega) (by omega)
 have:=rq hy i
 simp only [bv,decide_eq_true_eq] at this
 exact this.1
theorem gI (S:Spc)(t:ByteArray):bv ⟨eY S t,0,⟨#[]⟩⟩=true:=by simp only [bv,decide_eq_true_eq];exact ⟨by decide,by decide,by decide⟩
theorem fT {S:Spc}{x:Ent}(h:EG S x):bv (dU x)=true:=by
 have h1:=h.tx
 have h2:=h.code
 exact decide_eq_true ⟨h1,h2.1,Int.le_trans h2.2 (by decide)⟩
def ic (S:Spc)(making:List ByteArray)(lies:List Ent→ByteArray→Out Ent):Prop:=∀ made nm made' e,PG S making made→au nm=true→lies made nm=.inl (made',e)→PG S making made'∧(∃ more,made'=made++more)∧e∈made'∧e.name=nm
theorem eN {S:Spc}(hS:SpcOk S){lies:List Ent→ByteArray→Out Ent}{making:List ByteArray}{t:Nat}(ht:t<S.n1)(hl:ic S making lies):∀ k made ys ls made' x,PG S making made→RG S made ys ls→ys.length+k=201→bD S lies t k made ys ls=.inl (made',x)→PG S making made'∧(∃ more,made'=made++more)∧jl x.1.code x.1.text∧x.2.length≤200∧(∀ l∈x.2,au l.name=true)∧∀ l∈x.2,l.ask=true→∃ y∈made',y.name=l.name:=by
 intro k
 induction k with
 | zero=>intro made ys ls made' x _ _ _ h;cases h
 | succ k ih =>
  intro made ys ls made' x hp hr hk h
  have hT:=ib hS ht hr.good
  rw [bD] at h
  rcases hT with ⟨ho,he⟩ | ⟨ho,hlt,hn⟩
  ·rw [if_pos ho] at h
   cases h
   exact ⟨hp,⟨[],by simp⟩,he,by rw [hr.len];omega,hr.names,hr.asked⟩
  ·rw [if_neg (by rw [ho];simp)] at h
   split at h
   ·exact ih _ _ _ _ _ hp (hr.add (gI _ _) hn (fun h=>by cases h)) (by simp;omega) h
   ·split at h
    ·rename_i made1 e he
     obtain ⟨g1,⟨more,g2⟩,g3,g4⟩:=hl _ _ _ _ hp hn he
     have hr1:RG S made1 ys ls:=hr.mono fun x hx=>by rw [g2];exact List.mem_append_left _ hx
     obtain ⟨q1,⟨more2,q2⟩,q3⟩:=ih _ _ _ _ _ g1 (hr1.add (l:=⟨(bk S t ys).name,true,false⟩) (fT (g1.ents e g3)) hn (fun _=>⟨e,g3,g4⟩)) (by simp;omega) h
     exact ⟨q1,⟨more++more2,by rw [q2,g2,List.append_assoc]⟩,q3⟩
    ·cases h
    ·cases h
theorem fm {S:Spc}{making:List ByteArray}{made:List Ent}{nm:ByteArray}(h:PG S making made)(h0:aA made nm=none):PG S (making++[nm]) made :=
 ⟨h.ents,h.nod,fun x hx=>jt fun z hz=>by
  rcases List.mem_append.1 hz with hz | hz
  ·exact gb (h.off x hx) z hz
  ·rw [List.mem_singleton.1 hz];exact fun e=>cK h0 x hx e.symm,h.ord⟩
theorem fU {S:Spc}{making:List ByteArray}{made:List Ent}{nm:ByteArray}(h:PG S (making++[nm]) made):PG S making made∧∀ x∈made,x.name≠nm :=
 ⟨⟨h.ents,h.nod,fun x hx=>jt fun z hz=>gb (h.off x hx) z (List.mem_append_left _ hz),h.ord⟩,fun x hx e=>gb (h.off x hx) nm (List.mem_append_right _ (List.mem_singleton.2 rfl)) e.symm⟩
theorem uv {S:Spc}{making:List ByteArray}{made1:List Ent}{nm:ByteArray}{t:Nat}{x:Turn × List Lk}(h:PG S (making++[nm]) made1)(hn:au nm=true)(h1:atL making nm=none)(h2:atI (nm0 S.f0) S.n0 nm=none)(h3:atI (nm1 S.f1) S.n1 nm=some t)(he:jl x.1.code x.1.text)(hl:x.2.length≤200)(hln:∀ l∈x.2,au l.name=true)(ha:∀ l∈x.2,l.ask=true→∃ y∈made1,y.name=l.name) :
  PG S making (made1++[⟨nm,3,x.1.code,x.1.text,t,x.2⟩]) :=
 (fU h).1.add ⟨hn,he.2.2,⟨he.1,he.2.1⟩,.inr (.inr ⟨rfl,h2,h3⟩),hl,hln⟩ (fU h).2 h1 ha
theorem uw {S:Spc}(hS:SpcOk S){making:List ByteArray}{made:List Ent}{nm:ByteArray}{i:Nat}(h:PG S making made)(hn:au nm=true)(h0:aA made nm=none)(h1:atL making nm=none)(h2:atI (nm0 S.f0) S.n0 nm=some i):PG S making (made++[⟨nm,1,0,(S.f0 i).text,0,[]⟩]) :=
 h.add ⟨hn,hS.text i (aR h2).1,⟨Int.le_refl _,by show (0:Int)≤5;decide⟩,.inl ⟨rfl,rfl,rfl,i,h2,rfl⟩,Nat.zero_le _,fun l hl=>absurd hl List.not_mem_nil⟩ (cK h0) h1 fun l hl=>absurd hl List.not_mem_nil
theorem sO {S:Spc}{making:List ByteArray}{made:List Ent}{nm:ByteArray}(h:PG S making made)(hn:au nm=true)(h0:aA made nm=none)(h1:atL making nm=none)(h2:atI (nm0 S.f0) S.n0 nm=none)(h3:atI (nm1 S.f1) S.n1 nm=none):PG S making (made++[⟨nm,2,0,⟨#[]⟩,0,[]⟩]) :=
 h.add ⟨hn,Nat.zero_le _,⟨Int.le_refl _,by show (0:Int)≤5;decide⟩,.inr (.inl ⟨rfl,rfl,rfl,rfl,h2,h3⟩),Nat.zero_le _,fun l hl=>absurd hl List.not_mem_nil⟩ (cK h0) h1 fun l hl=>absurd hl List.not_mem_nil
theorem ci {S:Spc}(hS:SpcOk S):∀ n making,ic S making (aG S n making):=by
 intro n
 have key:∀ making made nm made' e (tgt:Nat→Out Ent),PG S making made→au nm=true→(∀ t made' e,atI (nm0 S.f0) S.n0 nm=none→atI (nm1 S.f1) S.n1 nm=some t→aA made nm=none→atL making nm=none→tgt t=.inl (made',e)→PG S making made'∧(∃ more,made'=made++more)∧e∈made'∧e.name=nm)→de S tgt making made nm=.inl (made',e)→PG S making made'∧(∃ more,made'=made++more)∧e∈made'∧e.name=nm:=by
  intro making made nm made' e tgt hp hn ht h
  unfold de at h
  split at h
  ·rename_i e1 he
   cases h
   exact ⟨hp,⟨[],by simp⟩,fP he⟩
  ·rename_i h0
   split at h
   ·cases h
   ·rename_i h1
    unfold eA dL at h
    split at h
    ·rename_i i hi
     cases h
     exact ⟨uw hS hp hn h0 h1 hi,⟨_,rfl⟩,by simp,rfl⟩
    ·rename_i h2
     split at h
     ·rename_i t h3
      exact ht _ _ _ h2 h3 h0 h1 h
     ·rename_i h3
      cases h
      exact ⟨sO hp hn h0 h1 h2 h3,⟨_,rfl⟩,by simp,rfl⟩
 induction n with
 | zero =>
  intro making made nm made' e hp hn h
  rw [aG] at h
  exact key _ _ _ _ _ _ hp hn (fun t _ _ _ _ _ _ h=>by cases h) h
 | succ n ih =>
  intro making made nm made' e hp hn h
  rw [aG] at h
  refine key _ _ _ _ _ _ hp hn (fun t made' e h2 h3 h0 h1 h=>?_) h
  rcases hr:bD S (aG S n (making++[nm])) t 201 made [] [] with ⟨made1,x⟩ | c | c
  ·rw [hr] at h
   simp only [ga,dL,Sum.inl.injEq,Prod.mk.injEq] at h
   obtain ⟨rfl,rfl⟩:=h
   obtain ⟨g1,⟨more,g2⟩,g3,g4,g5,g6⟩:=eN hS (aR h3).1 (ih (making++[nm])) _ _ _ _ _ _ (fm hp h0) (fa S made) rfl hr
   exact ⟨uv g1 hn h1 h2 h3 g3 g4 g5 g6,⟨more++[_],by rw [g2,List.append_assoc]⟩,by simp,rfl⟩
  ·rw [hr] at h;cases h
  ·rw [hr] at h;cases h
def gC (made:List Ent)(nm:ByteArray):Nat:=made.findIdx fun e=>e.name.toList == nm.toList
def lkD (made:List Ent)(l:Lk):Link:=⟨l.name,l.ask,l.has,if l.ask=true then ((gC made l.name:Nat):Int) else 0⟩
def lkF (made:List Ent)(ls:List Lk):Nat→Link:=fun i=>lkD made (ls.getD i ⟨⟨#[]⟩,false,false⟩)
def cD (S:Spc)(e:Ent):Nat:=if e.kind=3 then (S.f1 e.tg).actN else 0
def aH (S:Spc)(made:List Ent)(e:Ent):aD:=⟨e.name,e.kind,e.code,e.text,cD S e,(S.f1 e.tg).act,e.looks.length,lkF made e.looks⟩
def a8 (S:Spc)(made:List Ent):List aD:=made.map (aH S made)
theorem kE {made:List Ent}{ls:List Lk}{i:Nat}{l:Lk}(h:ls[i]?=some l):lkF made ls i=lkD made l:=by
 unfold lkF
 rw [List.getD_eq_getElem?_getD,h]
 rfl
theorem rs (S:Spc)(nm:ByteArray):PG S [] (bp S nm).1∧(bp S nm).1.length≤40201∧((bp S nm).1≠[]→SpcOk S):=by
 unfold bp
 split
 ·rename_i h
  have hS:=SpcOk.of h.1
  split
  ·rename_i made e he
   have hg:=eZ S 60 [] [] nm made e he
   unfold dZ at hg
   have hl:cW S [] []≤S.n1:=by
    unfold cW
    have:=List.countP_le_length (p:=fO S [] []) (l:=List.range S.n1)
    simpa using this
   have hs:=hS.small
   refine ⟨(ci hS 60 [] [] nm made e (eC S []) h.2 he).1,?_,fun _=>hS⟩
   simp only [List.length_nil] at hg
   show made.length≤40201
   omega
  ·exact ⟨eC S [],Nat.zero_le _,fun h=>absurd rfl h⟩
  ·exact ⟨eC S [],Nat.zero_le _,fun h=>absurd rfl h⟩
 ·exact ⟨eC S [],Nat.zero_le _,fun h=>absurd rfl h⟩
theorem PG.idx {S:Spc}{making:List ByteArray}{made:List Ent}(h:PG S making made){i:Nat}{x:Ent}(hx:made[i]?=some x):gC made x.name=i:=by
 obtain ⟨hi,e⟩:=List.getElem?_eq_some_iff.1 hx
 unfold gC
 rw [List.findIdx_eq hi]
 refine ⟨by simp [e],fun j hj=>?_⟩
 have hp:=List.pairwise_iff_getElem.1 h.nod j i (by omega) hi hj
 rw [e] at hp
 cases hb:(made[j].name.toList == x.name.toList) with
 | false=>rfl
 | true=>exact absurd (bytes_beq hb) hp
theorem PG.asked {S:Spc}{making:List ByteArray}{made:List Ent}(h:PG S making made){i:Nat}{x:Ent}(hx:made[i]?=some x){l:Lk}(hl:l∈x.looks)(ha:l.ask=true):∃ y,made[gC made l.name]?=some y∧y.name=l.name∧gC made l.name<i:=by
 obtain ⟨j,y,hj,hy,e⟩:=h.ord i x hx l hl ha
 have:=h.idx hy
 rw [e] at this
 exact ⟨y,by rw [this];exact hy,e,by omega⟩
theorem lS {S:Spc}{made:List Ent}(h:PG S [] made)(hf:∀ i,i<S.n1→bh (S.f1 i)):∀ x∈a8 S made,gP x:=by
 intro x hx
 obtain ⟨e,he,rfl⟩:=List.mem_map.1 hx
 have hg:=h.ents e he
 refine ⟨?_,?_⟩
 ·show cD S e≤1048576
  unfold cD
  split
  ·rename_i hk
   rcases hg.kind with ⟨k,_⟩ | ⟨k,_⟩ | ⟨_,_,k⟩
   ·omega
   ·omega
   ·exact hf e.tg (aR k).1
  ·omega
 ·have:=hg.looks
  show e.looks.length≤1048576
  omega
def bn (made:List Ent)(l:Lk):aw:=if l.ask=true then ((aA made l.name).elim fl dU) else ⟨l.has,0,⟨#[]⟩⟩
structure Rn (S:Spc)(made:List Ent)(x:Ent):Prop where
 has:∀ l∈x.looks,l.ask=true→l.has=false
 ahd:∀ l∈x.looks,l.ask=true→∃ y,aA made l.name=some y
 go:x.kind=3→∀ k l,x.looks[k]?=some l→(bk S x.tg ((x.looks.take k).map (bn made))).over=false∧(bk S x.tg ((x.looks.take k).map (bn made))).name=l.name∧(bk S x.tg ((x.looks.take k).map (bn made))).ask=l.ask
 fin:x.kind=3→(bk S x.tg (x.looks.map (bn made))).over=true∧(bk S x.tg (x.looks.map (bn made))).code=x.code∧(bk S x.tg (x.looks.map (bn made))).text=x.text
theorem ie {made more:List Ent}{t:ByteArray}{y:Ent}(h:aA made t=some y):aA (made++more) t=some y:=by
 unfold aA at h ⊢
 rw [List.find?_append,h]
 rfl
theorem sP {made more:List Ent}{l:Lk}(h:l.ask=true→∃ y,aA made l.name=some y):bn (made++more) l=bn made l:=by
 unfold bn
 split
 ·rename_i ha
  obtain ⟨y,hy⟩:=h ha
  rw [hy,ie hy]
 ·rfl
theorem ig {made more:List Ent}{ls:List Lk}(h:∀ l∈ls,l.ask=true→∃ y,aA made l.name=some y):ls.map (bn (made++more))=ls.map (bn made) :=
 List.map_congr_left fun l hl=>sP (h l hl)
theorem Rn.more {S:Spc}{made more:List Ent}{x:Ent}(h:Rn S made x):Rn S (made++more) x:=by
 refine ⟨h.has,fun l hl ha=>?_,fun hk k l hl=>?_,fun hk=>?_⟩
 ·obtain ⟨y,hy⟩:=h.ahd l hl ha
  exact ⟨y,ie hy⟩
 ·rw [ig (made:=made) (more:=more) fun l hl=>h.ahd l (List.mem_of_mem_take hl)]
  exact h.go hk k l hl
 ·rw [ig h.ahd]
  exact h.fin hk
theorem pG {S:Spc}{made:List Ent}{x:Ent}(hk:x.kind≠3)(hl:x.looks=[]):Rn S made x :=
 ⟨(fun l h=>by rw [hl] at h;cases h),(fun l h=>by rw [hl] at h;cases h),fun h=>absurd h hk,fun h=>absurd h hk⟩
structure Rl (S:Spc)(t:Nat)(made:List Ent)(ys:List aw)(ls:List Lk):Prop where
 rep:ys=ls.map (bn made)
 has:∀ l∈ls,l.ask=true→l.has=false
 ahd:∀ l∈ls,l.ask=true→∃ y,aA made l.name=some y
 go:∀ k l,ls[k]?=some l→(bk S t ((ls.take k).map (bn made))).over=false∧(bk S t ((ls.take k).map (bn made))).name=l.name∧(bk S t ((ls.take k).map (bn made))).ask=l.ask
theorem Rl.more {S:Spc}{t:Nat}{made more:List Ent}{ys:List aw}{ls:List Lk}(h:Rl S t made ys ls):Rl S t (made++more) ys ls:=by
 refine ⟨by rw [ig h.ahd];exact h.rep,h.has,fun l hl ha=>?_,fun k l hl=>?_⟩
 ·obtain ⟨y,hy⟩:=h.ahd l hl ha
  exact ⟨y,ie hy⟩
 ·rw [ig (made:=made) (more:=more) fun l hl=>h.ahd l (List.mem_of_mem_take hl)]
  exact h.go k l hl
theorem Rl.add {S:Spc}{t:Nat}{made:List Ent}{ys:List aw}{ls:List Lk}{r:aw}{l:Lk}(h:Rl S t made ys ls)(hr:r=bn made l)(h1:l.ask=true→l.has=false)(h2:l.ask=true→∃ y,aA made l.name=some y)(ho:(bk S t ys).over=false)(hn:(bk S t ys).name=l.name)(ha:(bk S t ys).ask=l.ask):Rl S t made (ys++[r]) (ls++[l]):=by
 refine ⟨by rw [List.map_append,← h.rep,hr];rfl,fun z hz=>?_,fun z hz=>?_,fun k z hz=>?_⟩
 ·rcases List.mem_append.1 hz with hz | hz
  ·exact h.has z hz
  ·rw [List.mem_singleton.1 hz];exact h1
 ·rcases List.mem_append.1 hz with hz | hz
  ·exact h.ahd z hz
  ·rw [List.mem_singleton.1 hz];exact h2
 ·rcases Nat.lt_or_ge k ls.length with hlt | hge
  ·rw [List.getElem?_append_left hlt] at hz
   rw [List.take_append_of_le_length (by omega)]
   exact h.go k z hz
  ·have hk:k=ls.length:=by
    have:=(List.getElem?_eq_some_iff.1 hz).1
    simp at this
    omega
   subst hk
   rw [List.getElem?_append_right lr,Nat.sub_self] at hz
   obtain rfl:l=z:=by simpa using hz
   rw [List.take_left,← h.rep]
   exact ⟨ho,hn,ha⟩
def pH (S:Spc)(making:List ByteArray)(lies:List Ent→ByteArray→Out Ent):Prop:=∀ made nm made' e,PG S making made→au nm=true→(∀ x∈made,Rn S made x)→lies made nm=.inl (made',e)→(∀ x∈made',Rn S made' x)∧aA made' nm=some e
theorem ux {S:Spc}(hS:SpcOk S){lies:List Ent→ByteArray→Out Ent}{making:List ByteArray}{t:Nat}(ht:t<S.n1)(hl:ic S making lies)(hn:pH S making lies):∀ k made ys ls made' x,PG S making made→RG S made ys ls→(∀ x∈made,Rn S made x)→Rl S t made ys ls→ys.length+k=201→bD S lies t k made ys ls=.inl (made',x) →
  (∀ z∈made',Rn S made' z)∧(∀ l∈x.2,l.ask=true→l.has=false)∧(∀ l∈x.2,l.ask=true→∃ y,aA made' l.name=some y)∧(∀ k l,x.2[k]?=some l→(bk S t ((x.2.take k).map (bn made'))).over=false∧(bk S t ((x.2.take k).map (bn made'))).name=l.name∧(bk S t ((x.2.take k).map (bn made'))).ask=l.ask)∧(bk S t (x.2.map (bn made'))).over=true∧bk S t (x.2.map (bn made'))=x.1:=by
 intro k
 induction k with
 | zero=>intro made ys ls made' x _ _ _ _ _ h;cases h
 | succ k ih =>
  intro made ys ls made' x hp hr hq hx hk h
  have hT:=ib hS ht hr.good
  rw [bD] at h
  rcases hT with ⟨ho,he⟩ | ⟨ho,hlt,hnm⟩
  ·rw [if_pos ho] at h
   cases h
   exact ⟨hq,hx.has,hx.ahd,hx.go,by rw [← hx.rep];exact ho,by rw [← hx.rep]⟩
  ·rw [if_neg (by rw [ho];simp)] at h
   split at h
   ·rename_i ha
    exact ih _ _ _ _ _ hp (hr.add (gI _ _) hnm (fun h=>by cases h)) hq (hx.add (by unfold bn;rw [if_neg (by simp)]) (fun h=>by cases h) (fun h=>by cases h) ho rfl ha) (by simp;omega) h
   ·rename_i ha
    split at h
    ·rename_i made1 e he
     obtain ⟨g1,⟨more,g2⟩,g3,g4⟩:=hl _ _ _ _ hp hnm he
     obtain ⟨j1,j2⟩:=hn _ _ _ _ hp hnm hq he
     have hr1:RG S made1 ys ls:=hr.mono fun x hx=>by rw [g2];exact List.mem_append_left _ hx
     have hx1:Rl S t made1 ys ls:=by rw [g2];exact hx.more
     exact ih _ _ _ _ _ g1 (hr1.add (l:=⟨(bk S t ys).name,true,false⟩) (fT (g1.ents e g3)) hnm (fun _=>⟨e,g3,g4⟩)) j1 (hx1.add (by unfold bn;rw [if_pos rfl];show dU e=(aA made1 (bk S t ys).name).elim fl dU;rw [j2];rfl) (fun _=>rfl) (fun _=>⟨e,j2⟩) ho rfl (by simpa using ha)) (by simp;omega) h
    ·cases h
    ·cases h
theorem fQ {made:List Ent}{e:Ent}(h:aA made e.name=none):aA (made++[e]) e.name=some e:=by
 rw [fC,h]
 simp
theorem uy {made:List Ent}{nm:ByteArray}(h:∀ x∈made,x.name≠nm):aA made nm=none :=
 List.find?_eq_none.2 fun x hx e=>h x hx (bytes_beq e)
theorem lp {S:Spc}{made:List Ent}{e:Ent}(h:∀ x∈made,Rn S made x)(he:Rn S made e):∀ x∈made++[e],Rn S (made++[e]) x:=fun x hx=>by
 rcases List.mem_append.1 hx with hx | hx
 ·exact (h x hx).more
 ·rw [List.mem_singleton.1 hx];exact he.more
theorem wM (S:Spc)(t:Nat)(made:List Ent):Rl S t made [] []:=⟨rfl,fun _ h=>absurd h List.not_mem_nil,fun _ h=>absurd h List.not_mem_nil,fun k l h=>by simp at h⟩
theorem sQ {S:Spc}(hS:SpcOk S):∀ n making,pH S making (aG S n making):=by
 intro n
 have key:∀ making made nm made' e (tgt:Nat→Out Ent),PG S making made→au nm=true→(∀ x∈made,Rn S made x)→(∀ t made' e,atI (nm1 S.f1) S.n1 nm=some t→aA made nm=none→tgt t=.inl (made',e)→(∀ x∈made',Rn S made' x)∧aA made' nm=some e)→de S tgt making made nm=.inl (made',e)→(∀ x∈made',Rn S made' x)∧aA made' nm=some e:=by
  intro making made nm made' e tgt hp hn hq ht h
  unfold de at h
  split at h
  ·rename_i e1 he
   cases h
   exact ⟨hq,he⟩
  ·rename_i h0
   split at h
   ·cases h
   ·unfold eA dL at h
    split at h
    ·cases h
     exact ⟨lp hq (pG (by show (1:Int)≠3;decide) rfl),fQ h0⟩
    ·split at h
     ·rename_i t h3
      exact ht _ _ _ h3 h0 h
     ·cases h
      exact ⟨lp hq (pG (by show (2:Int)≠3;decide) rfl),fQ h0⟩
 induction n with
 | zero =>
  intro making made nm made' e hp hn hq h
  rw [aG] at h
  exact key _ _ _ _ _ _ hp hn hq (fun t _ _ _ _ h=>by cases h) h
 | succ n ih =>
  intro making made nm made' e hp hn hq h
  rw [aG] at h
  refine key _ _ _ _ _ _ hp hn hq (fun t made' e h3 h0 h=>?_) h
  rcases hr:bD S (aG S n (making++[nm])) t 201 made [] [] with ⟨made1,x⟩ | c | c
  ·rw [hr] at h
   simp only [ga,dL,Sum.inl.injEq,Prod.mk.injEq] at h
   obtain ⟨rfl,rfl⟩:=h
   have hp1:=fm hp h0
   obtain ⟨g1,_⟩:=eN hS (aR h3).1 (ci hS n (making++[nm])) _ _ _ _ _ _ hp1 (fa S made) rfl hr
   obtain ⟨j1,j2,j3,j4,j5,j6⟩:=ux hS (aR h3).1 (ci hS n (making++[nm])) (ih (making++[nm])) _ _ _ _ _ _ hp1 (fa S made) hq (wM S t made) rfl hr
   exact ⟨lp j1 ⟨j2,j3,fun _=>j4,fun _=>⟨j5,by rw [j6],by rw [j6]⟩⟩,fQ (e:=⟨nm,3,x.1.code,x.1.text,t,x.2⟩) (uy (fU g1).2)⟩
  ·rw [hr] at h;cases h
  ·rw [hr] at h;cases h
theorem sR (f:Nat→Ins)(cnt:Nat)(ys:List aw)(r:aw)(hr:r.has=false)(k:Nat):∀ place steps looks stk,looks≤ys.length→(b9 f cnt (yL ys) ys.length k place steps looks stk).over=false→(b9 f cnt (yL ys) ys.length k place steps looks stk).ask=true→(b9 f cnt (yL (ys++[r])) (ys.length+1) k place steps looks stk).over=true:=by
 induction k with
 | zero=>intro _ _ _ _ _ _ h;cases h
 | succ k ih =>
  intro place steps looks stk hl ho ha
  rw [b9] at ho ha ⊢
  rcases hs:bq f cnt place steps looks stk with ⟨s,p⟩ | ⟨c,x⟩ | ⟨a,nm,s⟩
  ·rw [hs] at ho ha
   exact ih _ _ _ _ hl ho ha
  ·rfl
  ·rw [hs] at ho ha
   simp only at ho ha ⊢
   rw [if_neg (show ¬ ys.length+1≤looks by omega)]
   by_cases hn:ys.length≤looks
   ·obtain rfl:looks=ys.length:=by omega
    rw [if_pos hn] at ho ha
    have ha':a=true:=ha
    subst ha'
    rw [if_neg (by simp),vm,if_pos hr]
    rfl
   ·rw [if_neg hn] at ho ha
    rw [sM _ _ (by omega)]
    split
    ·rename_i h1
     rw [if_pos h1] at ho ha
     exact ih _ _ _ _ (by omega) ho ha
    ·rename_i h1
     rw [if_neg h1] at ho ha
     split
     ·rfl
     ·rename_i h2
      rw [if_neg h2] at ho ha
      split
      ·rename_i h4
       rw [if_pos h4] at ho ha
       exact ih _ _ _ _ (by omega) ho ha
      ·rfl
def ii (S:Spc)(made:List Ent):Nat:=(List.range S.n0).countP fun i=>(aA made (S.f0 i).name).isNone
def Mu (S:Spc)(making:List ByteArray)(made:List Ent):Nat:=made.length+2*cW S making made+ii S made
theorem lT (S:Spc)(made:List Ent)(e:Ent):ii S (made++[e])≤ii S made:=by
 refine List.countP_mono_left fun t _ h=>?_
 rw [fC] at h
 cases h2:aA made (S.f0 t).name with
 | none=>rfl
 | some x=>rw [h2] at h;simp at h
theorem sS {S:Spc}{made:List Ent}{e:Ent}{i:Nat}(hi:i<S.n0)(hn:(S.f0 i).name=e.name)(h:aA made e.name=none):ii S (made++[e])+1≤ii S made:=by
 refine lQ (fun x _ h=>?_) (List.mem_range.2 hi) ?_ ?_
 ·rw [fC] at h
  cases h2:aA made (S.f0 x).name with
  | none=>rfl
  | some y=>rw [h2] at h;simp at h
 ·rw [hn,fQ h]
  rfl
 ·rw [hn,h]
  rfl
def sT (S:Spc)(making:List ByteArray)(lies:List Ent→ByteArray→Out Ent):Prop:=∀ made nm made' e,lies made nm=.inl (made',e)→Mu S making made'≤Mu S making made+if e.kind=2 then 1 else 0
theorem vK {S:Spc}{lies:List Ent→ByteArray→Out Ent}{making:List ByteArray}{t:Nat}(hl:sT S making lies):∀ k made ys ls made' x,bD S lies t k made ys ls=.inl (made',x)→Mu S making made'≤Mu S making made+1:=by
 intro k
 induction k with
 | zero=>intro made ys ls made' x h;cases h
 | succ k ih =>
  intro made ys ls made' x h
  rw [bD] at h
  split at h
  ·cases h;omega
  ·rename_i ho
   split at h
   ·exact ih _ _ _ _ _ h
   ·rename_i ha
    split at h
    ·rename_i made1 e he
     have h1:=hl _ _ _ _ he
     by_cases hk:e.kind=2
     ·have hov:(bk S t (ys++[dU e])).over=true:=by
       have:=sR (S.f1 t).act (S.f1 t).actN ys (dU e) (by simp [dU,hk]) 2001 0 0 0 [] (Nat.zero_le _) (by simpa [bk] using ho) (by simpa [bk] using ha)
       unfold bk
       rw [List.length_append]
       exact this
      cases k with
      | zero=>cases h
      | succ k =>
       rw [bD,if_pos hov] at h
       cases h
       rw [if_pos hk] at h1
       exact h1
     ·rw [if_neg hk] at h1
      have:=ih _ _ _ _ _ h
      omega
    ·cases h
    ·cases h
theorem uz (S:Spc):∀ n making,sT S making (aG S n making):=by
 intro n
 have key:∀ making made nm made' e (tgt:Nat→Out Ent),(∀ t made' e,atI (nm1 S.f1) S.n1 nm=some t→aA made nm=none→atL making nm=none→tgt t=.inl (made',e)→Mu S making made'≤Mu S making made)→de S tgt making made nm=.inl (made',e)→Mu S making made'≤Mu S making made+if e.kind=2 then 1 else 0:=by
  intro making made nm made' e tgt ht h
  unfold de at h
  split at h
  ·cases h;omega
  ·rename_i h0
   split at h
   ·cases h
   ·rename_i h1
    unfold eA dL at h
    split at h
    ·rename_i i hi
     cases h
     have:=gw S making made ⟨nm,1,0,(S.f0 i).text,0,[]⟩
     have:=sS (S:=S) (e:=⟨nm,1,0,(S.f0 i).text,0,[]⟩) (aR hi).1 (aR hi).2 h0
     unfold Mu
     rw [List.length_append,List.length_singleton]
     omega
    ·split at h
     ·rename_i t h3
      have:=ht _ _ _ h3 h0 h1 h
      omega
     ·cases h
      have:=gw S making made ⟨nm,2,0,⟨#[]⟩,0,[]⟩
      have:=lT S made ⟨nm,2,0,⟨#[]⟩,0,[]⟩
      rw [if_pos rfl]
      unfold Mu
      rw [List.length_append,List.length_singleton]
      omega
 induction n with
 | zero =>
  intro making made nm made' e h
  rw [aG] at h
  exact key _ _ _ _ _ _ (fun t _ _ _ _ _ h=>by cases h) h
 | succ n ih =>
  intro making made nm made' e h
  rw [aG] at h
  refine key _ _ _ _ _ _ (fun t made' e h3 h0 h1 h=>?_) h
  rcases hr:bD S (aG S n (making++[nm])) t 201 made [] [] with ⟨made1,x⟩ | c | c
  ·rw [hr] at h
   simp only [ga,dL,Sum.inl.injEq,Prod.mk.injEq] at h
   obtain ⟨rfl,rfl⟩:=h
   have g1:=vK (ih (making++[nm])) _ _ _ _ _ _ hr
   have g2:=eB (making:=making) (made:=made) (aR h3).1 (aR h3).2 h0 h1
   have g3:cW S making (made1++[⟨nm,3,x.1.code,x.1.text,t,x.2⟩])≤cW S (making++[nm]) made1:=lP S making made1 ⟨nm,3,x.1.code,x.1.text,t,x.2⟩
   have g4:=lT S made1 ⟨nm,3,x.1.code,x.1.text,t,x.2⟩
   unfold Mu at g1 ⊢
   rw [List.length_append,List.length_singleton]
   omega
  ·rw [hr] at h;cases h
  ·rw [hr] at h;cases h
theorem kF {S:Spc}(hS:SpcOk S){nm:ByteArray}{made:List Ent}{e:Ent}(h:aG S 60 [] [] nm=.inl (made,e)):made.length≤400:=by
 have h1:=uz S 60 [] [] nm made e h
 have hl:cW S [] []≤S.n1:=by
  have:=List.countP_le_length (p:=fO S [] []) (l:=List.range S.n1)
  simpa [cW] using this
 have hs:ii S []≤S.n0:=by
  have:=List.countP_le_length (p:=fun i=>(aA [] (S.f0 i).name).isNone) (l:=List.range S.n0)
  simpa [ii] using this
 have h2:=hS.small
 by_cases hk:e.kind=2
 ·rw [aG] at h
  unfold de at h
  simp only [aA,List.find?_nil,atL,List.findIdx?_nil] at h
  unfold eA dL at h
  split at h
  ·cases h;cases hk
  ·split at h
   ·rename_i t h3
    simp only at h
    rcases hr:bD S (aG S 59 ([]++[nm])) t 201 [] [] [] with ⟨made1,x⟩ | c | c
    ·rw [hr] at h
     simp only [ga,dL,Sum.inl.injEq,Prod.mk.injEq] at h
     obtain ⟨rfl,rfl⟩:=h
     cases hk
    ·rw [hr] at h;cases h
    ·rw [hr] at h;cases h
   ·cases h
    show 1≤400
    omega
 ·rw [if_neg hk] at h1
  unfold Mu at h1
  rw [List.length_nil] at h1
  omega
def sLt (m:Nat):Nat→Bool:=fun q=>decide (q<m)
theorem sU (m:Nat):put (sLt m) m=sLt (m+1):=by
 funext q
 rw [Bool.eq_iff_iff]
 simp only [put,sLt,Bool.or_eq_true,beq_iff_eq,decide_eq_true_eq]
 omega
theorem dW {S:Spc}{M:List Ent}{i:Nat}{x:Ent}(h:M[i]?=some x):dF (a8 S M) i=aH S M x:=by
 unfold dF a8
 rw [List.getD_eq_getElem?_getD,List.getElem?_map,h]
 rfl
theorem nX {M made rest:List Ent}{i:Nat}{x:Ent}(hM:M=made++rest)(h:made[i]?=some x):M[i]?=some x:=by
 rw [hM,List.getElem?_append_left (List.getElem?_eq_some_iff.1 h).1]
 exact h
theorem nY {S:Spc}{lies:List Ent→ByteArray→Out Ent}{t:Nat}:∀ k made ys ls made' x,bD S lies t k made ys ls=.inl (made',x)→∃ more,x.2=ls++more:=by
 intro k
 induction k with
 | zero=>intro made ys ls made' x h;cases h
 | succ k ih =>
  intro made ys ls made' x h
  rw [bD] at h
  split at h
  ·cases h
   exact ⟨[],by simp⟩
  ·split at h
   ·obtain ⟨m,e⟩:=ih _ _ _ _ _ h
    exact ⟨[_]++m,by rw [e,List.append_assoc]⟩
   ·split at h
    ·obtain ⟨m,e⟩:=ih _ _ _ _ _ h
     exact ⟨[_]++m,by rw [e,List.append_assoc]⟩
    ·cases h
    ·cases h
section
variable {S:Spc}{M:List Ent}
def nZ (S:Spc)(M:List Ent)(making:List ByteArray)(m:Nat)(lies:List Ent→ByteArray→Out Ent):Prop:=∀ made nm made' e,PG S making made→au nm=true→lies made nm=.inl (made',e)→(∃ rest,M=made'++rest) →
 (made'=made∧∃ i,i<made.length∧M[i]?=some e∧e.name=nm)∨(made.length<made'.length∧M[made'.length - 1]?=some e∧e.name=nm∧∀ k d,made'.length≤k→∃ L,lst (dF (a8 S M)) k (made'.length - 1) d (sLt made.length)=(sLt made'.length,L)∧L.map (·.1)=List.range' made.length (made'.length - made.length)∧∀ x∈L,(dF (a8 S M) x.1).kind=3→x.2<d+m)
theorem sV {go:Nat→Nat→(Nat→Bool)→(Nat→Bool) × List (Nat × Nat)}{x:aD}{d:Nat}{s:Nat→Bool}{j:Nat}(h:¬ ((x.links j).ask=true∧(lks go x d s j).1 (x.links j).at_.toNat=false)):lks go x d s (j+1)=lks go x d s j:=by
 rw [lks,if_neg h]
theorem sW (hS:SpcOk S)(hM:PG S [] M){lies:List Ent→ByteArray→Out Ent}{making:List ByteArray}{t m:Nat}(ht:t<S.n1)(hl:ic S making lies)(hh:nZ S M making m lies):∀ k made ys ls made' x,PG S making made→RG S made ys ls→ys.length+k=201→bD S lies t k made ys ls=.inl (made',x)→(∃ rest,M=made'++rest)→∀ (p fuel d:Nat) (s0:Nat→Bool) (L0:List (Nat × Nat)) (y:Ent),M[p]?=some y→y.looks=x.2→made'.length≤p→p≤fuel→lks (lst (dF (a8 S M)) fuel) (dF (a8 S M) p) d s0 ls.length=(sLt made.length,L0) →
  ∃ L,lks (lst (dF (a8 S M)) fuel) (dF (a8 S M) p) d s0 x.2.length=(sLt made'.length,L0++L)∧L.map (·.1)=List.range' made.length (made'.length - made.length)∧∀ z∈L,(dF (a8 S M) z.1).kind=3→z.2<d+1+m:=by
 intro k
 induction k with
 | zero=>intro made ys ls made' x _ _ _ h;cases h
 | succ k ih =>
  intro made ys ls made' x hp hr hk h hrest p fuel d s0 L0 y hy hyl hlen hfu hlk
  have hT:=ib hS ht hr.good
  have h0:=h
  rw [bD] at h
  rcases hT with ⟨ho,he⟩ | ⟨ho,hlt,hnm⟩
  ·rw [if_pos ho] at h
   cases h
   exact ⟨[],by rw [hlk,List.append_nil],by simp,fun z hz=>absurd hz List.not_mem_nil⟩
  ·rw [if_neg (by rw [ho];simp)] at h
   have lk:∀ l more,x.2=(ls++[l])++more→(dF (a8 S M) p).links ls.length=lkD M l:=fun l more e=>by
    rw [dW hy]
    refine kE ?_
    rw [hyl,e,List.append_assoc,List.getElem?_append_right lr,Nat.sub_self]
    rfl
   split at h
   ·rename_i ha
    obtain ⟨more,e⟩:=nY _ _ _ _ _ _ h
    have hlink:=lk _ _ e
    refine ih _ _ _ _ _ hp (hr.add (gI _ _) hnm (fun h=>by cases h)) (by simp;omega) h hrest p fuel d s0 L0 y hy hyl hlen hfu ?_
    rw [List.length_append,List.length_singleton,sV (by rw [hlink];exact fun h=>by cases h.1)]
    exact hlk
   ·rename_i ha
    split at h
    ·rename_i made1 e1 he
     obtain ⟨g1,⟨more1,g2⟩,g3,g4⟩:=hl _ _ _ _ hp hnm he
     have hr1:RG S made1 ys ls:=hr.mono fun x hx=>by rw [g2];exact List.mem_append_left _ hx
     have hr2:=hr1.add (l:=⟨(bk S t ys).name,true,false⟩) (fT (g1.ents e1 g3)) hnm (fun _=>⟨e1,g3,g4⟩)
     obtain ⟨-,⟨more2,q2⟩,-⟩:=eN hS ht hl _ _ _ _ _ _ g1 hr2 (by simp;omega) h
     obtain ⟨rest,hrest'⟩:=hrest
     have hM1:∃ rest,M=made1++rest:=⟨more2++rest,by rw [hrest',q2,List.append_assoc]⟩
     have hle:made1.length≤made'.length:=by rw [q2,List.length_append];omega
     obtain ⟨more,e⟩:=nY _ _ _ _ _ _ h
     have hlink:=lk _ _ e
     have hat:∀ i:Nat,M[i]?=some e1→((dF (a8 S M) p).links ls.length).at_.toNat=i:=fun i hi=>by
      rw [hlink]
      have:=hM.idx hi
      rw [g4] at this
      simp [lkD,this]
     have hask:((dF (a8 S M) p).links ls.length).ask=true:=by rw [hlink];rfl
     rcases hh _ _ _ _ hp hnm he hM1 with ⟨rfl,i,hi,hiM,-⟩ | ⟨hlt1,hiM,-,hgo⟩
     ·refine ih _ _ _ _ _ g1 hr2 (by simp;omega) h ⟨rest,hrest'⟩ p fuel d s0 L0 y hy hyl hlen hfu ?_
      rw [List.length_append,List.length_singleton,sV (by rw [hlk,hat i hiM];simp [sLt,hi])]
      exact hlk
     ·obtain ⟨L1,e1',e2,e3⟩:=hgo fuel (d+1) (by omega)
      have hstep:lks (lst (dF (a8 S M)) fuel) (dF (a8 S M) p) d s0 (ls++[(⟨(bk S t ys).name,true,false⟩:Lk)]).length=(sLt made1.length,L0++L1):=by
       rw [List.length_append,List.length_singleton,lks,if_pos ⟨hask,by rw [hlk,hat _ hiM];simp [sLt];omega⟩,hat _ hiM,hlk,e1']
      obtain ⟨L2,f1,f2,f3⟩:=ih _ _ _ _ _ g1 hr2 (by simp;omega) h ⟨rest,hrest'⟩ p fuel d s0 (L0++L1) y hy hyl hlen hfu hstep
      refine ⟨L1++L2,by rw [f1,List.append_assoc],?_,fun z hz=>?_⟩
      ·rw [List.map_append,e2,f2]
       have:=List.range'_append_1 (s:=made.length) (m:=made1.length - made.length) (n:=made'.length - made1.length)
       rw [show made.length+(made1.length - made.length)=made1.length by omega,show made1.length - made.length+(made'.length - made1.length)=made'.length - made.length by omega] at this
       exact this
      ·rcases List.mem_append.1 hz with hz | hz
       ·exact e3 z hz
       ·exact f3 z hz
    ·cases h
    ·cases h
theorem sX {made:List Ent}{e:Ent}(hk:e.kind≠3)(hl:e.looks=[])(hM:M[made.length]?=some e):∀ k d,made.length+1≤k→∃ L,lst (dF (a8 S M)) k made.length d (sLt made.length)=(sLt (made.length+1),L)∧L.map (·.1)=List.range' made.length 1∧∀ x∈L,(dF (a8 S M) x.1).kind=3→x.2<d+0:=by
 intro k d hk1
 cases k with
 | zero=>omega
 | succ k =>
  refine ⟨[(made.length,d)],?_,rfl,fun x hx h3=>?_⟩
  ·have e0:(dF (a8 S M) made.length).linksN=0:=by
    rw [dW hM]
    show e.looks.length=0
    rw [hl]
    rfl
   rw [lst,e0]
   show (put (sLt made.length) made.length,_)=_
   rw [sU]
   rfl
  ·rw [List.mem_singleton.1 hx,dW hM] at h3
   exact absurd h3 hk
theorem ru (hS:SpcOk S)(hM:PG S [] M):∀ n making,nZ S M making n (aG S n making):=by
 intro n
 have key:∀ making made nm made' e (tgt:Nat→Out Ent) (m:Nat),PG S making made→au nm=true→(∃ rest,M=made'++rest)→(∀ t made' e,atI (nm0 S.f0) S.n0 nm=none→atI (nm1 S.f1) S.n1 nm=some t→aA made nm=none→atL making nm=none→tgt t=.inl (made',e)→(∃ rest,M=made'++rest)→(made.length<made'.length∧M[made'.length - 1]?=some e∧e.name=nm∧∀ k d,made'.length≤k→∃ L,lst (dF (a8 S M)) k (made'.length - 1) d (sLt made.length)=(sLt made'.length,L)∧L.map (·.1)=List.range' made.length (made'.length - made.length)∧∀ x∈L,(dF (a8 S M) x.1).kind=3→x.2<d+m))→de S tgt making made nm=.inl (made',e) →
   (made'=made∧∃ i,i<made.length∧M[i]?=some e∧e.name=nm)∨(made.length<made'.length∧M[made'.length - 1]?=some e∧e.name=nm∧∀ k d,made'.length≤k→∃ L,lst (dF (a8 S M)) k (made'.length - 1) d (sLt made.length)=(sLt made'.length,L)∧L.map (·.1)=List.range' made.length (made'.length - made.length)∧∀ x∈L,(dF (a8 S M) x.1).kind=3→x.2<d+m):=by
  intro making made nm made' e tgt m hp hn hr ht h
  have bare:∀ e0:Ent,e0.kind≠3→e0.looks=[]→e0.name=nm→(∃ rest,M=(made++[e0])++rest)→(made.length<(made++[e0]).length∧M[(made++[e0]).length - 1]?=some e0∧e0.name=nm∧∀ k d,(made++[e0]).length≤k→∃ L,lst (dF (a8 S M)) k ((made++[e0]).length - 1) d (sLt made.length)=(sLt (made++[e0]).length,L)∧L.map (·.1)=List.range' made.length ((made++[e0]).length - made.length)∧∀ x∈L,(dF (a8 S M) x.1).kind=3→x.2<d+m):=by
   intro e0 hk hl hn0 ⟨rest,hr0⟩
   have hM0:M[made.length]?=some e0:=nX hr0 (by simp)
   have hz:(made++[e0]).length=made.length+1:=by simp
   rw [hz,Nat.add_sub_cancel,Nat.add_sub_cancel_left]
   refine ⟨by omega,hM0,hn0,fun k d hk1=>?_⟩
   obtain ⟨L,h1,h2,h3⟩:=sX (S:=S) hk hl hM0 k d hk1
   exact ⟨L,h1,h2,fun x hx h4=>by have:=h3 x hx h4;omega⟩
  unfold de at h
  split at h
  ·rename_i e1 he
   cases h
   obtain ⟨h1,h2⟩:=fP he
   obtain ⟨i,hi⟩:=List.getElem?_of_mem h1
   obtain ⟨rest,hr⟩:=hr
   exact .inl ⟨rfl,i,(List.getElem?_eq_some_iff.1 hi).1,nX hr hi,h2⟩
  ·rename_i h0
   split at h
   ·cases h
   ·rename_i h1
    unfold eA dL at h
    split at h
    ·cases h
     exact .inr (bare _ (by show (1:Int)≠3;decide) rfl rfl hr)
    ·rename_i h2
     split at h
     ·rename_i t h3
      exact .inr (ht _ _ _ h2 h3 h0 h1 h hr)
     ·cases h
      exact .inr (bare _ (by show (2:Int)≠3;decide) rfl rfl hr)
 induction n with
 | zero =>
  intro making made nm made' e hp hn h hr
  rw [aG] at h
  exact key _ _ _ _ _ _ _ hp hn hr (fun t _ _ _ _ _ _ h=>by cases h) h
 | succ n ih =>
  intro making made nm made' e hp hn h hr
  rw [aG] at h
  refine key _ _ _ _ _ _ _ hp hn hr (fun t made' e h2 h3 h0 h1 h hr=>?_) h
  rcases hq:bD S (aG S n (making++[nm])) t 201 made [] [] with ⟨made1,x⟩ | c | c
  ·rw [hq] at h
   simp only [ga,dL,Sum.inl.injEq,Prod.mk.injEq] at h
   obtain ⟨rfl,rfl⟩:=h
   have hp1:=fm hp h0
   obtain ⟨-,⟨more,g2⟩,-⟩:=eN hS (aR h3).1 (ci hS n (making++[nm])) _ _ _ _ _ _ hp1 (fa S made) rfl hq
   obtain ⟨rest,hr⟩:=hr
   have hz:(made1++[(⟨nm,3,x.1.code,x.1.text,t,x.2⟩:Ent)]).length=made1.length+1:=by simp
   have hle:made.length≤made1.length:=by rw [g2,List.length_append];omega
   have hM0:M[made1.length]?=some ⟨nm,3,x.1.code,x.1.text,t,x.2⟩:=nX hr (by simp)
   rw [hz,Nat.add_sub_cancel]
   refine ⟨by omega,hM0,rfl,fun k d hk=>?_⟩
   cases k with
   | zero=>omega
   | succ k =>
    obtain ⟨L,e1,e2,e3⟩:=sW hS hM (aR h3).1 (ci hS n (making++[nm])) (ih (making++[nm])) _ _ _ _ _ _ hp1 (fa S made) rfl hq ⟨[_]++rest,by rw [hr,List.append_assoc]⟩ made1.length k d (sLt made.length) [] _ hM0 rfl lr (by omega) rfl
    have el:(dF (a8 S M) made1.length).linksN=x.2.length:=by rw [dW hM0];rfl
    refine ⟨L++[(made1.length,d)],?_,?_,fun z hz=>?_⟩
    ·rw [lst,el,e1,sU,List.nil_append]
    ·rw [List.map_append,e2,show made1.length+1 - made.length=made1.length - made.length+1 by omega,List.range'_1_concat,show made.length+(made1.length - made.length)=made1.length by omega]
     rfl
    ·rcases List.mem_append.1 hz with hz | hz
     ·intro h3
      have:=e3 z hz h3
      omega
     ·rw [List.mem_singleton.1 hz]
      intro _
      show d<d+(n+1)
      omega
  ·rw [hq] at h;cases h
  ·rw [hq] at h;cases h
end
theorem ju:∀ (L:List (Nat × Nat)) (i:Nat),L.map (·.1)=List.range' i L.length→bJ i L=-1
 | [],_,_=>rfl
 | x :: L,i,h=>by
  rw [List.map_cons,List.length_cons,List.range'_succ] at h
  obtain ⟨h1,h2⟩:=List.cons.inj h
  rw [bJ,if_pos h1]
  exact ju L (i+1) h2
theorem jv {f:Nat→aD}:∀ (L:List (Nat × Nat)),(∀ x∈L,(f x.1).kind=3→x.2<60)→bo f L=-1
 | [],_=>rfl
 | x :: L,h=>by
  rw [bo,if_neg fun h1=>absurd (h x List.mem_cons_self h1.1) (by omega)]
  exact jv L fun y hy=>h y (List.mem_cons_of_mem _ hy)
theorem rx {f:Nat→aD}{p:Nat}{x:aD}{n:Nat}(h:∀ i,i<n→eP f p (x.links i)=true):cb f p x n=true:=by
 induction n with
 | zero=>rfl
 | succ k ih=>rw [cb,ih fun i hi=>h i (by omega),h k (by omega)];rfl
theorem vL {S:Spc}(hS:SpcOk S){M:List Ent}(hM:PG S [] M)(hR:∀ x∈M,Rn S M x){i:Nat}(hi:i<M.length):bE (dF (a8 S M)) i=true:=by
 obtain ⟨x,hx⟩:∃ x,M[i]?=some x:=⟨M[i],List.getElem?_eq_getElem hi⟩
 have hm:=List.mem_of_getElem? hx
 have hg:=hM.ents x hm
 have e:dF (a8 S M) i=aH S M x:=dW hx
 unfold bE
 rw [e,Bool.and_eq_true,Bool.and_eq_true]
 refine ⟨⟨hg.nm,decide_eq_true hg.tx⟩,?_⟩
 have hc:=hg.code
 rcases hg.kind with ⟨h1,h2,h3,-⟩ | ⟨h1,h2,h3,h4,-⟩ | ⟨h1,-,h3⟩
 ·have ek:(aH S M x).kind=1:=h1
  unfold kindOk
  rw [if_pos ek]
  simp [bO,aH,cD,h1,h2,h3]
 ·have ek:(aH S M x).kind=2:=h1
  unfold kindOk
  rw [if_neg (by rw [ek];decide),if_pos ek]
  simp [bO,aH,cD,h1,h2,h3,h4]
  rfl
 ·have ek:(aH S M x).kind=3:=h1
  have ea:(aH S M x).actN=(S.f1 x.tg).actN:=by show cD S x=_;unfold cD;rw [if_pos h1]
  unfold kindOk
  rw [if_neg (by rw [ek];decide),if_neg (by rw [ek];decide),if_pos ek]
  unfold dE
  rw [ea]
  have hv:valid (aH S M x).act (S.f1 x.tg).actN=true:=hS.act _ (aR h3).1
  have hl:(aH S M x).linksN≤200:=hg.looks
  have hlk:cb (dF (a8 S M)) i (aH S M x) (aH S M x).linksN=true:=rx fun j hj=>by
   have hj':j<x.looks.length:=hj
   have hjl:x.looks[j]?=some x.looks[j]:=List.getElem?_eq_getElem hj'
   have hlm:=List.getElem_mem hj'
   have el:(aH S M x).links j=lkD M x.looks[j]:=kE hjl
   rw [el]
   generalize x.looks[j]=l at hlm
   unfold eP
   rw [Bool.and_eq_true]
   refine ⟨hg.lname l hlm,?_⟩
   by_cases ha:l.ask=true
   ·obtain ⟨y,hy,hn,hlt⟩:=hM.asked hx hlm ha
    have h5:=(hR x hm).has l hlm ha
    have hA:(lkD M l).ask=true:=ha
    have hH:(lkD M l).has=false:=h5
    have hT:(lkD M l).at_=((gC M l.name:Nat):Int):=by unfold lkD;simp [ha]
    have hN:(lkD M l).name=l.name:=rfl
    rw [if_pos hA,hH,hT,hN,Int.toNat_natCast,dW hy]
    have e6:((aH S M y).name.toList == l.name.toList)=true:=by show (y.name.toList == l.name.toList)=true;rw [hn];simp
    rw [e6]
    simp only [Bool.not_false,Bool.true_and,Bool.and_true,Bool.and_eq_true,decide_eq_true_eq]
    omega
   ·have hA:¬ (lkD M l).ask=true:=ha
    rw [if_neg hA]
    unfold lkD
    simp [ha]
  rw [hv,hlk]
  have h7:(aH S M x).code=x.code:=rfl
  rw [h7]
  simp only [Bool.and_true,Bool.and_eq_true,decide_eq_true_eq]
  exact ⟨hc,hl⟩
theorem ry {f:Nat→aD}{p:Nat}{k:Nat}(h:∀ j,j<k→(f j).name≠(f p).name):bK f p k=true:=by
 induction k with
 | zero=>rfl
 | succ k ih =>
  rw [bK,ih fun j hj=>h j (by omega),Bool.true_and]
  cases hb:((f k).name.toList == (f p).name.toList) with
  | false=>rfl
  | true=>exact absurd (bytes_beq hb) (h k (by omega))
theorem uA {S:Spc}(hS:SpcOk S){nm:ByteArray}(hn:au nm=true){M:List Ent}{e:Ent}(h:aG S 60 [] [] nm=.inl (M,e)):gR (dF (a8 S M)) M.length=(0,0)∧0<M.length∧M[M.length - 1]?=some e∧e.name=nm∧PG S [] M∧∀ x∈M,Rn S M x:=by
 have hM:=(ci hS 60 [] [] nm M e (eC S []) hn h).1
 have hR:=(sQ hS 60 [] [] nm M e (eC S []) hn (fun x hx=>absurd hx List.not_mem_nil) h).1
 have hs:=kF hS h
 rcases ru hS hM 60 [] [] nm M e (eC S []) hn h ⟨[],by simp⟩ with ⟨-,i,hi,-⟩ | ⟨h1,h2,h3,h4⟩
 ·cases hi
 ·refine ⟨?_,h1,h2,h3,hM,hR⟩
  obtain ⟨L,e1,e2,e3⟩:=h4 M.length 0 lr 
  have hs0:sLt ([]:List Ent).length=fun _=>false:=by funext q;simp [sLt]
  have hlist:aJ (dF (a8 S M)) M.length=L:=by
   unfold aJ
   rw [← hs0,e1]
  have hll:L.length=M.length:=by
   have:=congrArg List.length e2
   simpa using this
  have f1:aI (bE (dF (a8 S M))) M.length=-1:=ew fun i hi=>vL hS hM hR hi
  have f2:aI (fun p=>bK (dF (a8 S M)) p p) M.length=-1:=ew fun i hi=>ry fun j hj=>by
   rw [dW (List.getElem?_eq_getElem hi),dW (List.getElem?_eq_getElem (show j<M.length by omega))]
   exact List.pairwise_iff_getElem.1 hM.nod j i (by omega) hi hj
  have f3:bJ 0 L=-1:=ju L 0 (by rw [hll];exact e2)
  have f4:bo (dF (a8 S M)) L=-1:=jv L fun x hx hk=>by have:=e3 x hx hk;omega
  have h1':0<M.length:=h1
  unfold gR
  rw [if_neg (by omega),f1,if_neg (by simp),f2,if_neg (by simp),hlist,f3,if_neg (by simp),f4,if_neg (by simp)]
end Go.Proofs.YtkophfgkcijjkaaGreatDoor.Vp
