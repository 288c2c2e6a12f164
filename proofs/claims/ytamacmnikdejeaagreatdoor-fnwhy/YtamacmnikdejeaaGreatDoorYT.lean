import Derived.Test.YtamacmnikdejeaaGreatDoorYP
open Go renaming World->H
open Bool renaming false->QQ,true->QR
namespace Go.Proofs.YtamacmnikdejeaaGreatDoor.Vp
open RowKit
abbrev Res:=(List ByteArray × Nat) ⊕ (Int × ByteArray) ⊕ (Bool × ByteArray × List ByteArray)
def jZ (ask:Bool)(a:ByteArray)(r:List ByteArray)(here looks:Nat):Res :=
 if av a=QQ then .inr (.inl (2,(eX here))) else if looks=200 then .inr (.inl (3,⟨#[]⟩)) else .inr (.inr (ask,a,r))
def dJ (op n:Nat)(t:ByteArray)(here looks:Nat)(c:List ByteArray):Res :=
 match op,c with
 | 1,c=>.inl ((t :: c),(here+1))
 | 2,b :: a :: r=>if a.size+b.size<=2000 then .inl (((a++b) :: r),(here+1)) else .inr (.inl (2,(eX here)))
 | 3,a :: r=>.inl (((if n<a.size then a.extract 0 n else a) :: r),(here+1))
 | 4,a :: r=>.inl (((if n<a.size then a.extract n a.size else ⟨#[]⟩) :: r),(here+1))
 | 5,a :: r=>.inl ((jY a n :: r),(here+1))
 | 6,b :: a :: r=>.inl ((iH (b.toList == a.toList) :: r),(here+1))
 | 7,a :: r=>.inl ((a :: a :: r),(here+1))
 | 8,b :: a :: r=>.inl ((a :: b :: r),(here+1))
 | 9,_ :: r=>.inl (r,(here+1))
 | 10,c=>.inl (c,n)
 | 11,a :: r=>.inl (r,(if a.toList=[]∨(a.toList == [48])=QR then n else here+1))
 | 12,a :: r=>jZ QR a r here looks
 | 13,a :: r=>jZ QQ a r here looks
 | 14,a :: _=>.inr (.inl (1,a))
 | 15,a :: _=>.inr (.inl (0,a))
 | _,_=>.inr (.inl (0,⟨#[]⟩))
theorem Only.bel {b:Nat}{u w c:H}(h:Only b u w)(f:Below w.heap.size w c):Only b u c:=h.trans (Only.of_below f)
theorem Only.frozen {b:Nat}{w c:H}(h:Only b w c)(k o:Nat)(f:k<w.heap.size)(hb:k≠b):c.frozen? ⟨k,o,none⟩=w.frozen? ⟨k,o,none⟩:=JW (w:=w) (a:=⟨k,o,none⟩) (h.block k f hb)
section
variable {b n:Nat}{cv:Value}{m u:Mst}{w V:H}{s:List ByteArray}{x:ByteArray}
end
def jF (op:Nat)(b:List ByteArray):Bool:=decide (bC op<=b.length/\b.length - bC op+cC op<=50)
def cP (f:Nat->Ins)(cnt place steps looks:Nat)(b:List ByteArray):Res :=
 if cnt<=place then .inr (.inl (2,(eX place))) else if steps=2000 then .inr (.inl (3,⟨#[]⟩)) else
  if jF (f place).op.toNat b=QQ then .inr (.inl (2,(eX place))) else dJ (f place).op.toNat (f place).n.toNat (f place).s place looks b
def fm (cnt place steps:Nat):Nat:=if cnt<=place then steps else if steps=2000 then steps else steps+1
theorem tM (l:List UInt8)(n:Nat):(dk l n).length<=l.length:=by
 induction n generalizing l with
 | zero =>rw[dk];have h1:=gy l bR;have h2:((l.dropWhile bR).takeWhile (fun c=>!bR c)).length<=(l.dropWhile bR).length:=(List.takeWhile_sublist _).length_le;omega
 | succ n b =>
  rw[dk];split
  ·simp
  ·have h1:=gy l bR
   have h2:=gy (l.dropWhile bR) (fun c=>!bR c);have h3:=b ((l.dropWhile bR).dropWhile (fun c=>!bR c));omega
theorem pG (s:ByteArray)(n:Nat):(jY s n).size<=s.size:=tM s.data.toList n
def tN (res:Res)(looks:Nat):Prop:=match res with
 | .inl (stk,p)=>stk.length<=50/\(∀ x∈stk,x.size<=2000)/\p<=2000
 | .inr (.inl (_,_))=>True
 | .inr (.inr (_,name,stk))=>stk.length<50/\(∀ x∈stk,x.size<=2000)/\av name=QR/\looks<200
theorem mE (op n here looks:Nat)(t:ByteArray)(b:List ByteArray)(i:b.length<=50)(c:∀ x∈b,x.size<=2000)(m:t.size<=2000)(hn:n<=2000)(hh:here<2000)(hlk:looks<=200)(h1:1<=op)(h15:op<=15)(hb:jF op b=QR):tN (dJ op n t here looks b) looks:=by
 have g:∀ ask a r,b=a :: r->tN (jZ ask a r here looks) looks:=by
  intro ask a r e;subst e;simp only[z8] at i;unfold jZ;split
  ·trivial
  ·rename_i h1
   split
   ·trivial
   ·rename_i h2
    exact⟨by omega,fun x j=>c x (by simp[j]),by simpa using h1,by omega⟩
 simp only[jF,kP] at hb;obtain⟨f,l⟩:=hb;rcases(show op=1∨op=2∨op=3∨op=4∨op=5∨op=6∨op=7∨op=8∨op=9∨op=10∨op=11∨op=12∨op=13∨op=14∨op=15 by omega) with rfl | rfl | rfl | rfl | rfl | rfl | rfl | rfl | rfl | rfl | rfl | rfl | rfl | rfl | rfl;all_goals simp only[bC,cC] at f l
 ·refine⟨by simp at l ⊢;omega,fun x j=>?_,by omega⟩
  rcases nD.1 j with rfl | j
  ·exact m
  ·exact c x j
 ·match b,f with
  | x :: y :: r,_ =>
   show tN (if y.size+x.size<=2000 then _ else _) _;split
   ·refine⟨by simp at i ⊢;omega,fun z hz=>?_,by omega⟩
    rcases nD.1 hz with rfl | hz
    ·simp;omega
    ·exact c z (by simp[hz])
   ·trivial
 ·match b,f with
  | x :: r,_ =>
   refine⟨i,fun z hz=>?_,by omega⟩;have j:=c x (by simp);rcases nD.1 hz with rfl | hz
   ·split
    ·simp;omega
    ·exact j
   ·exact c z (by simp[hz])
 ·match b,f with
  | x :: r,_ =>
   refine⟨i,fun z hz=>?_,by omega⟩;have j:=c x (by simp);rcases nD.1 hz with rfl | hz
   ·split
    ·simp;omega
    ·decide
   ·exact c z (by simp[hz])
 ·match b,f with
  | x :: r,_ =>
   refine⟨i,fun z hz=>?_,by omega⟩;rcases nD.1 hz with rfl | hz
   ·exact j4 (pG _ _) (c x (by simp))
   ·exact c z (by simp[hz])
 ·match b,f with
  | x :: y :: r,_ =>
   refine⟨by simp at i ⊢;omega,fun z hz=>?_,by omega⟩;rcases nD.1 hz with rfl | hz
   ·unfold iH
    split<;>decide
   ·exact c z (by simp[hz])
 ·match b,f with
  | x :: r,_ =>
   refine⟨by simp at l ⊢;omega,fun z hz=>?_,by omega⟩;rcases nD.1 hz with rfl | hz
   ·exact c _ (by simp)
   ·exact c z hz
 ·match b,f with
  | x :: y :: r,_ =>refine⟨i,fun z hz=>?_,by omega⟩;simp only[nD] at hz;exact c z (by simp only[nD];rcases hz with h | h | h<;>simp[h])
 ·match b,f with
  | x :: r,_=>exact⟨by simp at i;omega,fun z hz=>c z (by simp[hz]),by omega⟩
 ·exact⟨i,c,hn⟩
 ·match b,f with
  | x :: r,_ =>refine⟨by simp at i;omega,fun z hz=>c z (by simp[hz]),?_⟩;split<;>omega
 ·match b,f with
  | x :: r,_=>exact g QR x r rfl
 ·match b,f with
  | x :: r,_=>exact g QQ x r rfl
 ·match b,f with
  | x :: r,_=>trivial
 ·match b,f with
  | x :: r,_=>trivial
theorem tO {f:Nat->Ins}{cnt place steps looks:Nat}{b s:List ByteArray}{p:Nat}(h:cP f cnt place steps looks b=.inl (s,p)):fm cnt place steps=steps+1/\steps≠2000:=by
 unfold cP at h;unfold fm;split at h
 ·cases h
 ·split at h
  ·cases h
  ·rename_i h1 h2
   rw[eI h1,eI h2];exact⟨rfl,h2⟩
def iv (c:Int)(x:ByteArray)(k:Nat):Turn:=⟨QR,c,x,QQ,⟨#[]⟩,k⟩
def pH (a:Bool)(nm:ByteArray)(k:Nat):Turn:=⟨QQ,0,⟨#[]⟩,a,nm,k⟩
def cV (f:Nat->Ins)(cnt:Nat)(y:Nat->aI)(n:Nat):Nat->Nat->Nat->Nat->List ByteArray->Turn
 | 0,_,_,_,_=>yV
 | k+1,place,steps,looks,stk=>match cP f cnt place steps looks stk with
  | .inr (.inl (c,x))=>iv c x (fm cnt place steps)
  | .inl (s,p)=>cV f cnt y n k p (fm cnt place steps) looks s
  | .inr (.inr (a,nm,s))=>if n<=looks then pH a nm (fm cnt place steps)
    else if a=QQ then cV f cnt y n k (place+1) (fm cnt place steps) (looks+1) (iH (y looks).has :: s)
    else if (y looks).has=QQ then iv 4 nm (fm cnt place steps)
    else if (y looks).code=0 then cV f cnt y n k (place+1) (fm cnt place steps) (looks+1) ((y looks).text :: s)
    else iv 5 nm (fm cnt place steps)
theorem pI {f:Nat->Ins}{cnt place steps looks:Nat}{b s:List ByteArray}{a:Bool}{nm:ByteArray}(h:cP f cnt place steps looks b=.inr (.inr (a,nm,s))):fm cnt place steps=steps+1/\steps≠2000:=by
 unfold cP at h;unfold fm;split at h
 ·cases h
 ·split at h
  ·cases h
  ·rename_i h1 h2
   rw[eI h1,eI h2];exact⟨rfl,h2⟩
def dh (r:aI):Bool:=decide (r.text.size<=2000/\0<=r.code/\r.code<=7)
def ce (y:Nat->aI):Nat->Bool
 | 0=>QR
 | k+1=>ce y k && dh (y k)
theorem kQ {y:Nat->aI}{k n:Nat}(h:k<=n)(hn:ce y n=QR):ce y k=QR:=by
 induction n with
 | zero =>
  obtain rfl:k=0:=by omega
  exact hn
 | succ m b =>
  by_cases e:k=m+1
  ·subst e;exact hn
  ·simp only[ce,gB] at hn
   exact b (by omega) hn.1
theorem gU {y:Nat->aI}{k n:Nat}(h:k<n)(b:dh (y k)=QQ):ce y n=QQ:=by
 cases e:ce y n with
 | false=>rfl
 | true =>have h2:=kQ (show k+1<=n by omega) e;simp[ce,b] at h2
theorem Co {y:Nat->aI}{k n:Nat}(h:ce y n=QR)(hk:k<n):(y k).text.size<=2000/\0<=(y k).code/\(y k).code<=7:=by have:=kQ (show k+1<=n by omega) h;simp only[ce,gB,dh,kP] at this;exact this.2
end Go.Proofs.YtamacmnikdejeaaGreatDoor.Vp
