import Derived.Test.YtoddkejemcbkmaaGreatDoorSM
import Derived.Lib.IndexMore
import Derived.Lib.AtoiAll
open Option renaming none->Y,some->T
open Bool renaming false->ZA,true->ZG
namespace Go.Proofs.YtoddkejemcbkmaaGreatDoor.Vp
open RowKit
variable {s b:List UInt8}{c:UInt8}{n op:Int}
def af (c:UInt8):List UInt8->List UInt8 × List UInt8 × Bool
 |[]=>([],[],ZA)
 |b::l=>if b=c then ([],l,ZG) else (b::(af c l).1,(af c l).2)
theorem index_one (c:UInt8):∀s:List UInt8,-1<=Lib.index s [c]/\Lib.cut s [c]=af c s
 |[]=>by simp[Lib.index,Lib.cut,af]
 |b::l=>by
  obtain⟨h1,h2⟩:=index_one c l;by_cases e:b=c
  ·subst e
   simp[Lib.index,Lib.cut,af]
  ·have g:List.isPrefixOf [c] (b::l)=ZA:=by
    simp[List.isPrefixOf];exact λh=>e h.symm
   have hi:Lib.index (b::l) [c]=if Lib.index l [c] == -1 then -1 else Lib.index l [c]+1:=by simp[Lib.index,g]
   have i:af c (b::l)=(b::(af c l).1,(af c l).2):=by simp[af,e]
   rw[i,<-h2];unfold Lib.cut;rw[hi];by_cases f:Lib.index l [c]=-1
   ·rw[f]
    simp
   ·have h3:0<=Lib.index l [c]:=by omega
    have h4:(Lib.index l [c] == -1)=ZA:=by simpa using f
    rw[h4];simp only[TB,VJ];rw[p7 h3,p7 (by omega)];refine⟨by omega,?_⟩;rw[show(Lib.index l [c]+1).toNat=(Lib.index l [c]).toNat+1 by omega];simp
theorem kV {c:UInt8}:∀{x:List UInt8} (y:List UInt8),c ∉ x->af c (x++c::y)=(x,y,ZG)
 |[],y,_=>by simp[af]
 |b::x,y,h=>by have h1:b≠c:=λe=>h (by simp[e]);have h2:c ∉ x:=λe=>h (by simp[e]);rw[IS,af,nD h1,kV y h2]
theorem gB {c:UInt8}:∀{x:List UInt8},c ∉ x->af c x=(x,[],ZA)
 |[],_=>rfl
 |b::x,h=>by have h1:b≠c:=λe=>h (by simp[e]);have h2:c ∉ x:=λe=>h (by simp[e]);rw[af,nD h1,gB h2]
theorem fg (c:UInt8):∀s:List UInt8,c ∉ (af c s).1/\s=if (af c s).2.2=ZG then (af c s).1++c::(af c s).2.1 else (af c s).1
 |[]=>by simp[af]
 |b::l=>by
  obtain⟨h1,h2⟩:=fg c l;by_cases e:b=c
  ·subst e
   simp[af]
  ·rw[af,nD e]
   refine⟨λh=>?_,?_⟩
   ·rcases A9.1 h with h|h
    ·exact e h.symm
    ·exact h1 h
   ·simp only
    split
    ·rename_i hb
     rw[p7 hb] at h2;rw[IS,<-h2]
    ·rename_i hb
     rw[nD hb] at h2;rw[<-h2]
theorem aS (c:UInt8)(s:List UInt8):(af c s).1.length<=s.length/\(af c s).2.1.length<=s.length:=by
 induction s with
 |nil=>simp[af]
 |cons b l ih =>
  rw[af];split;{simp};{simp;omega}
theorem rp (h:(af c s).2.2=ZG):(af c s).2.1.length<s.length:=by have:=(fg c s).2;rw[p7 h] at this;have h2:=AP List.length this;simp at h2;omega
def aT (c:UInt8):Int:=if 48<=c.toNat/\c.toNat<=57 then (c.toNat:Int) - 48 else if 97<=c.toNat/\c.toNat<=102 then (c.toNat:Int) - 87 else -1
def byteOf (a b:UInt8):UInt8:=UInt8.ofNat (16*(aT a).toNat+(aT b).toNat)
theorem tA{p:UInt8->Prop}(h:∀n:Fin 256,p (UInt8.ofNat n))(c:UInt8):p c:=by have h1:c.toNat<256:=c.toNat_lt;have h2:=h ⟨c.toNat,h1⟩;simpa using h2
theorem gC (c:UInt8):-1<=aT c/\aT c<16:=by
 unfold aT;split;{omega};{split;{omega};{omega}}
theorem gD:∀k:Nat,k<16->aT (eO k)=k:=by decide
theorem rq (c:UInt8):0<=aT c->eO (aT c).toNat=c:=by refine tA (p:=λc=>0<=aT c->eO (aT c).toNat=c) ?_ c;decide +kernel
theorem lG (c:UInt8):byteOf (eO (c.toNat / 16)) (eO (c.toNat % 16))=c:=by have h1:c.toNat<256:=c.toNat_lt;unfold byteOf;rw[gD _ (by omega),gD _ (by omega)];simp only[Int.toNat_natCast];rw[show 16*(c.toNat / 16)+c.toNat % 16=c.toNat by omega];simp
theorem pp{a b:UInt8}(c:0<=aT a)(hb:0<=aT b)(f:b9 (byteOf a b)=ZA):enc (byteOf a b)=[92,a,b]:=by
 have h1:=gC a;have h2:=gC b;have e:(byteOf a b).toNat=16*(aT a).toNat+(aT b).toNat:=by unfold byteOf;rw[MJ];omega
 unfold enc dT;rw[nD (by rw[f];simp),e];rw[show(16*(aT a).toNat+(aT b).toNat) / 16=(aT a).toNat by omega,show(16*(aT a).toNat+(aT b).toNat) % 16=(aT b).toNat by omega,rq a c,rq b hb]
def Cx:List UInt8->Option (UInt8 × List UInt8)
 |a::b::r=>if 0<=aT a/\0<=aT b/\b9 (byteOf a b)=ZA then T (byteOf a b,r) else Y
 |_=>Y
def dC:List UInt8->Option (UInt8 × List UInt8)
 |[]=>Y
 |c::r=>if b9 c=ZG then T (c,r) else if c=92 then Cx r else Y
theorem zP{x:List UInt8}{r:List UInt8}(h:dC x=T (c,r)):x=enc c++r:=by
 cases x with
 |nil=>simp[dC] at h
 |cons b l =>
  rw[dC] at h;split at h;{rename_i i;simp at h;obtain⟨rfl,rfl⟩:=h;simp[enc,i]}
  ·split at h
   ·rename_i g;subst g;match l,h with
    |p::q::r',h =>
     rw[Cx] at h;split at h;{rename_i f;simp at h;obtain⟨rfl,rfl⟩:=h;rw[pp f.1 f.2.1 f.2.2];rfl};{cases h}
    |[p],h=>cases h
    |[],h=>cases h
   {cases h}
theorem vD (h:b9 c=ZG):c≠92:=by intro e;subst e;revert h;decide
theorem jE (c:UInt8)(r:List UInt8):dC (enc c++r)=T (c,r):=by
 by_cases f:b9 c=ZG;{simp[enc,f,dC]}
 ·have b:b9 c=ZA:=by simpa using f
  have h1:c.toNat<256:=c.toNat_lt;have e:enc c=[92,eO (c.toNat / 16),eO (c.toNat % 16)]:=by simp[enc,b,dT]
  have g:b9 92=ZA:=by decide
  rw[e];show dC (92::eO (c.toNat / 16)::eO (c.toNat % 16)::r)=_;rw[dC,nD (by rw[g];simp),p7 rfl,Cx,p7,lG];refine⟨?_,?_,?_⟩;{rw[gD _ (by omega)];omega};{rw[gD _ (by omega)];omega};{rw[lG];exact b}
theorem jv (c:UInt8):1<=(enc c).length:=by
 unfold enc;split;{simp};{simp}
theorem gP:∀{t u:List UInt8},t.flatMap enc=u.flatMap enc->t=u
 |[],[],_=>rfl
 |[],c::u,h=>by have h1:0=(enc c++u.flatMap enc).length:=AP List.length h;have h2:=jv c;rw[cM] at h1;omega
 |c::t,[],h=>by have h1:(enc c++t.flatMap enc).length=0:=AP List.length h;have h2:=jv c;rw[cM] at h1;omega
 |c::t,d::u,h=>by rw[J2,J2] at h;have h1:=jE c (t.flatMap enc);rw[h,jE] at h1;simp at h1;rw[h1.1,gP h1.2.symm]
theorem dw (l:List UInt8):aJ l=34::l.flatMap enc++[34]:=by simp[aJ,qTo]
def opF (w:List UInt8):Int :=
 if w=word 1 then 1 else if w=word 2 then 2 else if w=word 3 then 3 else if w=word 4 then 4 else if w=word 5 then 5 else if w=word 6 then 6 else if w=word 7 then 7 else if w=word 8 then 8 else if w=word 9 then 9 else if w=word 10 then 10 else if w=word 11 then 11 else if w=word 12 then 12 else if w=word 13 then 13 else if w=word 14 then 14 else if w=word 15 then 15 else 0
theorem iq{k:Int}(h:1<=k/\k<=15):k=1∨k=2∨k=3∨k=4∨k=5∨k=6∨k=7∨k=8∨k=9∨k=10∨k=11∨k=12∨k=13∨k=14∨k=15:=by omega
theorem jF{k:Int}(h:1<=k/\k<=15):opF (word k)=k:=by rcases iq h with rfl|rfl|rfl|rfl|rfl|rfl|rfl|rfl|rfl|rfl|rfl|rfl|rfl|rfl|rfl<;>decide
theorem qv (w:List UInt8):opF w=0/\(∀k,1<=k->k<=15->w≠word k)∨(1<=opF w/\opF w<=15/\w=word (opF w)):=by
 by_cases h:∃k,1<=k/\k<=15/\w=word k;{obtain⟨k,h1,h2,rfl⟩:=h;rw[jF ⟨h1,h2⟩];exact .inr ⟨h1,h2,rfl⟩};{have b:∀k,1<=k->k<=15->w≠word k:=λk h1 h2 e=>h ⟨k,h1,h2,e⟩;refine .inl ⟨?_,b⟩;unfold opF;rw[nD (b 1 (by omega) (by omega)),nD (b 2 (by omega) (by omega)),nD (b 3 (by omega) (by omega)),nD (b 4 (by omega) (by omega)),nD (b 5 (by omega) (by omega)),nD (b 6 (by omega) (by omega)),nD (b 7 (by omega) (by omega)),nD (b 8 (by omega) (by omega)),nD (b 9 (by omega) (by omega)),nD (b 10 (by omega) (by omega)),nD (b 11 (by omega) (by omega)),nD (b 12 (by omega) (by omega)),nD (b 13 (by omega) (by omega)),nD (b 14 (by omega) (by omega)),nD (b 15 (by omega) (by omega))]}
theorem yd{k:Int}(h:1<=k/\k<=15):(32:UInt8) ∉ word k:=by rcases iq h with rfl|rfl|rfl|rfl|rfl|rfl|rfl|rfl|rfl|rfl|rfl|rfl|rfl|rfl|rfl<;>decide
theorem eG{k:Int}(h:1<=k/\k<=15):(kind k=1 ↔ 0<aF k)/\(kind k=0 ↔ ¬ 0<aF k/\¬ 0<bN k):=by rcases iq h with rfl|rfl|rfl|rfl|rfl|rfl|rfl|rfl|rfl|rfl|rfl|rfl|rfl|rfl|rfl<;>decide
def ey (b:List UInt8)(op:Int)(s:List UInt8)(n:Int):Prop:=aG op s.length n=ZG/\b=aR op s n
theorem ed{sz:Nat}(h:aG op sz n=ZG):(1<=op/\op<=15)/\(sz:Int)<=aF op/\0<=n/\n<=bN op:=by have:=OH h;exact⟨⟨this.1,this.2.1⟩,this.2.2.1,this.2.2.2⟩
theorem FP (op:Int):0<=aF op/\0<=bN op:=by
 unfold aF bN;constructor;{split<;>omega};{split;{omega};{split<;>omega}}
theorem FQ (n:Int):Lib.itoa n≠[]:=by
 unfold Lib.itoa;split;{simp};{rw[Lib.decDigits];split<;>simp}
theorem jn:ey b op s n ↔
  opF (af 32 b).1=op/\aG op s.length n=ZG/\(if kind op=1 then (af 32 b).2.1=aJ s else if kind op=0 then (af 32 b).2.2=ZA else (af 32 b).2.1=Lib.itoa n):=by
 constructor;{rintro⟨h,rfl⟩;obtain⟨h1,h2,h3,h4⟩:=ed h;have g:=yd h1;by_cases c:kind op=1;{have e:af 32 (aR op s n)=(word op,aJ s,ZG):=(by unfold aR;rw[p7 c,kV _ g]);rw[e,p7 c];exact⟨jF h1,h,rfl⟩};{by_cases i:kind op=0;{have e:af 32 (aR op s n)=(word op,[],ZA):=(by unfold aR;rw[nD c,p7 i,gB g]);rw[e,nD c,p7 i];exact⟨jF h1,h,rfl⟩};{have e:af 32 (aR op s n)=(word op,Lib.decDigits n.toNat,ZG):=(by unfold aR;rw[nD c,nD i,kV _ g]);rw[e,nD c,nD i];refine⟨jF h1,h,?_⟩;unfold Lib.itoa;rw[nD (by omega)]}}}
 ·rintro⟨p,h,f⟩;obtain⟨h1,h2,h3,h4⟩:=ed h;refine⟨h,?_⟩;have hi:=(fg 32 b).2;have g:(af 32 b).1=word op:=by
   rcases qv (af 32 b).1 with ⟨m,_⟩|⟨_,_,m⟩
   {omega};{rw[p] at m;exact m}
  have j:(af 32 b).2.1≠[]->(af 32 b).2.2=ZG:=λl=>by
   cases e:(af 32 b).2.2 with
   |true=>rfl
   |false =>rw[e] at hi;simp only[TB,VJ] at hi;have o:=(fg 32 b).1;rw[<-hi] at o;rw[gB o] at l;exact absurd rfl l
  unfold aR;by_cases c:kind op=1;{rw[p7 c] at f ⊢;rw[j (by rw[f,dw];simp),p7 rfl,g,f] at hi;exact hi};{rw[nD c] at f ⊢;by_cases i:kind op=0;{rw[p7 i] at f ⊢;rw[f] at hi;simp only[TB,VJ] at hi;rw[hi];exact g};{rw[nD i] at f ⊢;rw[j (by rw[f];exact FQ n),p7 rfl,g,f] at hi;rw[hi];unfold Lib.itoa;rw[nD (by omega)]}}
theorem jc (n:Nat):Lib.decDigits n≠[]:=by rw[Lib.decDigits];split<;>simp
theorem sI:∀(n m:Nat),Lib.decDigits n=Lib.decDigits m->n=m:=by
 intro n;induction n using Nat.strongRecOn with
 |ind n b =>
  intro m h;by_cases h1:n<10;{by_cases h2:m<10;{rw[Lib.decDigits,T9 h1,Lib.decDigits,T9 h2] at h;have:=AP (λl=>(l.headD 0).toNat) h;simp at this;omega};{rw[Lib.decDigits,T9 h1,bU h2] at h;have h3:=AP List.length h;have h4:=IB.2 (jc (m / 10));simp only[cM,eT,nX] at h3;omega}};{by_cases h2:m<10;{rw[bU h1] at h;rw[Lib.decDigits.eq_1 m,T9 h2] at h;have h3:=AP List.length h;have h4:=IB.2 (jc (n / 10));simp only[cM,eT,nX] at h3;omega};{rw[bU h1,bU h2] at h;obtain⟨h3,h4⟩:=PQ h rfl;have h5:=b (n / 10) (by omega) _ h3;have c:=AP (λl=>(l.headD 0).toNat) h4;simp[dig] at c;omega}}
theorem ye{f:List UInt8}{g:Int}{j:List UInt8}{o:Int}(h:ey f op s n)(q:ey f g j o):op=g/\s=j/\n=o:=by
 obtain⟨a1,r,c⟩:=jn.1 h;obtain⟨u,p,b⟩:=jn.1 q;have e:op=g:=a1.symm.trans u;subst e;obtain⟨c1,c2,c3,c4⟩:=ed r;obtain⟨d1,d2,d3,d4⟩:=ed p;refine⟨rfl,?_⟩;have l:kind op≠1->s=[]/\j=[]:=λl=>by
  have h0:aF op=0:=by
   have:=(FP op).1;have h1:=(eG c1).1;rcases Int.lt_or_le 0 (aF op) with h2|h2;{exact absurd (h1.2 h2) l};{omega}
  exact⟨NL.1 (by omega),NL.1 (by omega)⟩
 by_cases i:kind op=1
 ·rw[p7 i] at c b;have hn:bN op=0:=by unfold kind at i;split at i<;>first|omega|rfl
  rw[c,dw,dw] at b;have t:=List.append_inj_left' (List.cons.inj b).2 rfl;exact⟨gP t,by omega⟩
 {obtain⟨rfl,rfl⟩:=l i;refine⟨rfl,?_⟩;rw[nD i] at c b;by_cases m:kind op=0;{have:=((eG c1).2.1 m).2;omega};{rw[nD m] at c b;rw[c] at b;unfold Lib.itoa at b;rw[nD (by omega),nD (by omega)] at b;have:=sI _ _ b;omega}}
theorem ru:∀(l:List UInt8) (acc:Nat) (r:List UInt8),Lib.parseUint10 acc (l++r)=match Lib.parseUint10 acc l with | .ok u=>Lib.parseUint10 u r | .syntax=>.syntax | .range=>.range
 |[],acc,r=>by simp[Lib.parseUint10]
 |c::l,acc,r=>by
  rw[IS,Lib.parseUint10,Lib.parseUint10];split
  ·split
   ·rfl
   ·split
    ·rfl
    ·exact ru l _ r
  ·rfl
theorem ry:∀n:Nat,n<18446744073709551616->Lib.parseUint10 0 (Lib.decDigits n)=.ok n:=by
 intro n;induction n using Nat.strongRecOn with
 |ind n b =>
  intro hn;by_cases h1:n<10
  ·rw[Lib.decDigits,T9 h1,Lib.parseUint10];have e:(UInt8.ofNat (48+n)).toNat=48+n:=by rw[MJ];omega
   rw[e,p7 (by omega),nD (by omega),nD (by omega),Lib.parseUint10];congr 1;omega
  ·have e:(dig (n % 10)).toNat=48+n % 10:=by unfold dig;rw[MJ];omega
   rw[bU h1,ru,b (n / 10) (by omega) (by omega)];simp only;rw[Lib.parseUint10,e,p7 (by omega),nD (by omega),nD (by omega),Lib.parseUint10];congr 1;omega
theorem Cy (n:Nat):∃c r,Lib.decDigits n=c::r/\48<=c.toNat/\c.toNat<=57:=by
 induction n using Nat.strongRecOn with
 |ind n b =>
  by_cases h1:n<10;{refine⟨UInt8.ofNat (48+n),[],?_,?_⟩;{rw[Lib.decDigits,T9 h1]};{rw[MJ];omega}};{obtain⟨c,r,h2,h3⟩:=b (n / 10) (by omega);exact⟨c,r++[dig (n % 10)],by rw[bU h1,h2];rfl,h3⟩}
theorem zQ (n:Int)(h1:-9223372036854775808<=n)(h2:n<=9223372036854775807):Lib.atoiAll (Lib.itoa n)=.ok n:=by
 unfold Lib.itoa;by_cases h:n<0
 ·rw[p7 h];have e:Lib.atoiAll (45::Lib.decDigits n.natAbs)=.ok (-(n.natAbs:Int)):=by unfold Lib.atoiAll;simp only;rw[p7 (by decide),Lib.parseMag,nD (jc _),ry _ (by omega)];simp only;rw[nD (by rintro⟨h3,-⟩;exact h3 (by decide)),nD (by rintro⟨-,h3⟩;omega),p7 (by decide)]
  rw[e];congr 1;omega
 {rw[nD h];obtain⟨c,r,e,h3,h4⟩:=Cy n.toNat;have b:=ry n.toNat (by omega);rw[e] at b ⊢;unfold Lib.atoiAll;simp only;rw[nD (by omega),Lib.parseMag,nD (by simp),b];simp only;rw[nD (by rintro⟨-,f⟩;omega),nD (by rintro⟨f,-⟩;omega),nD (by omega)];congr 1;omega}
def dW (s:List UInt8)(n:Int):Prop:=s=Lib.itoa n/\-9223372036854775808<=n/\n<=9223372036854775807
theorem iu (h:dW s n):Lib.atoiAll s=.ok n:=by rw[h.1];exact zQ n h.2.1 h.2.2
def bP (acc:Int):List UInt8->Int
 |[]=>acc
 |c::r=>bP (acc*10+(c.toNat:Int) - 48) r
theorem oC:∀(l:List UInt8) (acc:Int) (r:List UInt8),bP acc (l++r)=bP (bP acc l) r
 |[],acc,r=>rfl
 |c::l,acc,r=>by rw[IS,bP,bP,oC l]
theorem Cz (n:Nat):bP 0 (Lib.decDigits n)=n:=by
 induction n using Nat.strongRecOn with
 |ind n b =>
  by_cases h1:n<10;{rw[Lib.decDigits,T9 h1,bP,bP,MJ];omega}
  ·have e:(dig (n % 10)).toNat=48+n % 10:=by unfold dig;rw[MJ];omega
   rw[bU h1,oC,b (n / 10) (by omega),bP,bP,e];omega
theorem CB (n:Nat)(h:n<=2000):(Lib.decDigits n).length<=6:=by
 by_cases h1:n<10;{rw[Lib.decDigits,T9 h1];simp};{rw[bU h1];by_cases h2:n / 10<10;{rw[Lib.decDigits,T9 h2];simp};{rw[bU h2];by_cases h3:n / 10 / 10<10;{rw[Lib.decDigits,T9 h3];simp};{rw[bU h3];rw[Lib.decDigits,T9 (by omega)];simp}}}
theorem FC (n:Nat)(h:n<=2000):bP 0 ((Lib.decDigits n).take 6)=n:=by rw[KK (CB n h),Cz]
def bc:List UInt8->List UInt8
 |[]=>[]
 |[c]=>[c]
 |[c,d]=>[c,d]
 |c::a::b::r=>if c=92/\0<=aT a/\0<=aT b then byteOf a b::bc r else c::bc (a::b::r)
theorem vE (h:c≠92):∀r:List UInt8,bc (c::r)=c::bc r
 |[]=>by simp[bc]
 |[a]=>by simp[bc]
 |a::b::r=>by rw[bc,nD (λf=>h f.1)]
theorem jY:∀t:List UInt8,bc (t.flatMap enc)=t
 |[]=>by simp[bc]
 |c::t=>by
  rw[J2];by_cases b:b9 c=ZG
  ·have e:enc c=[c]:=by simp[enc,b]
   rw[e,List.singleton_append,vE (vD b),jY t]
  ·have f:b9 c=ZA:=by simpa using b
   have h1:c.toNat<256:=c.toNat_lt;have e:enc c=[92,eO (c.toNat / 16),eO (c.toNat % 16)]:=by simp[enc,f,dT]
   rw[e];show bc (92::eO (c.toNat / 16)::eO (c.toNat % 16)::t.flatMap enc)=_;rw[bc,p7,lG,jY t];refine⟨rfl,?_,?_⟩
   ·rw[gD _ (by omega)];omega
   ·rw[gD _ (by omega)];omega
def bR (s:List UInt8):List UInt8:=(s.drop 1).take (s.length - 2)
theorem mH (t:List UInt8):bR (aJ t)=t.flatMap enc:=by rw[dw];unfold bR;simp
def aL:List UInt8->List (List UInt8)
 |[]=>[[]]
 |c::r=>if c=10 then []::aL r else match aL r with|l::ls=>(c::l)::ls | []=>[[c]]
theorem zR (s:List UInt8):aL s≠[]:=by
 cases s with
 |nil=>simp[aL]
 |cons c r =>
  rw[aL];split;{simp};{split<;>simp}
theorem mI:∀{x:List UInt8},(10:UInt8) ∉ x->aL x=[x]
 |[],_=>rfl
 |c::x,h=>by have h1:c≠10:=λe=>h (by simp[e]);have h2:(10:UInt8) ∉ x:=λe=>h (by simp[e]);rw[aL,nD h1,mI h2]
theorem jZ:∀{x:List UInt8} (y:List UInt8),(10:UInt8) ∉ x->aL (x++10::y)=x::aL y
 |[],y,_=>by simp[aL]
 |c::x,y,h=>by have h1:c≠10:=λe=>h (by simp[e]);have h2:(10:UInt8) ∉ x:=λe=>h (by simp[e]);rw[IS,aL,nD h1,jZ y h2]
theorem lH (s:List UInt8):aL s=if (af 10 s).2.2=ZG then (af 10 s).1::aL (af 10 s).2.1 else [s]:=by
 obtain⟨h1,h2⟩:=fg 10 s;cases e:(af 10 s).2.2 with
 |true =>rw[e,p7 rfl] at h2;rw[p7 rfl];exact(AP aL h2).trans (jZ _ h1)
 |false =>rw[e] at h2;simp only[TB,VJ] at h2 ⊢;rw[<-h2] at h1;exact mI h1
abbrev I3:=Int × List UInt8 × Int
def eA (k:Int)(s:List UInt8):List UInt8:=if kind k=1/\(word k).length<s.length then bc (bR (s.drop ((word k).length+1))) else []
def eQ (k:Int)(s:List UInt8):Int:=if ¬ kind k=1/\0<kind k/\(word k).length<s.length then bP 0 ((s.drop ((word k).length+1)).take 6) else 0
theorem wW (k:Int):0<=kind k:=by unfold kind;split<;>omega
theorem gE{k:Int}(h:1<=k/\k<=15):(¬ kind k=1->aF k=0)/\(kind k=1∨kind k=0->bN k=0)/\bN k<=2000:=by rcases iq h with rfl|rfl|rfl|rfl|rfl|rfl|rfl|rfl|rfl|rfl|rfl|rfl|rfl|rfl|rfl<;>decide
theorem rz (x:List UInt8)(y:List UInt8):(x++(32::y)).drop (x.length+1)=y:=by rw[List.drop_append];simp
theorem wX{k:Int}{t:List UInt8}{m:Int}(h:ey s k t m):eA k s=t/\eQ k s=m:=by
 obtain⟨hi,rfl⟩:=h;obtain⟨h1,h2,h3,h4⟩:=ed hi;obtain⟨i,f,m3⟩:=gE h1;by_cases b:kind k=1
 ·have e:aR k t m=word k++(32::aJ t):=by unfold aR;rw[p7 b]
  have c:(word k).length<(aR k t m).length:=by rw[e];simp
  have:=f (.inl b);unfold eA eQ;rw[p7 ⟨b,c⟩,nD (λx=>x.1 b),e,rz,mH,jY];exact⟨rfl,by omega⟩
 ·have j:t=[]:=by
   have:=i b;rw[<-NL];omega
  unfold eA eQ;rw[nD (λx=>b x.1)];refine⟨j.symm,?_⟩;by_cases g:kind k=0;{have:=f (.inr g);rw[nD (λx=>by omega)];omega}
  ·have hp:=wW k;have e:aR k t m=word k++(32::Lib.decDigits m.toNat):=by unfold aR;rw[nD b,nD g]
   have c:(word k).length<(aR k t m).length:=by rw[e];simp
   rw[p7 ⟨b,by omega,c⟩,e,rz,FC m.toNat (by omega)];omega
def nA (k:Int)(s:List UInt8):Bool:=aG k (eA k s).length (eQ k s) && decide (aR k (eA k s) (eQ k s)=s)
def iS (s:List UInt8):Nat->Option I3
 |0=>Y
 |k+1=>if nA ((k+1:Nat):Int) s=ZG then T (((k+1:Nat):Int),eA ((k+1:Nat):Int) s,eQ ((k+1:Nat):Int) s) else iS s k
def bA (b:List UInt8):Option I3:=iS b 15
theorem CF{k:Int}(h:nA k s=ZG):ey s k (eA k s) (eQ k s):=by unfold nA at h;rw[zA,z8] at h;exact⟨h.1,h.2.symm⟩
theorem mJ {s:List UInt8}{i:I3}:∀{n:Nat},iS s n=T i->ey s i.1 i.2.1 i.2.2
 |0,h=>by simp[iS] at h
 |n+1,h=>by
  rw[iS] at h;split at h
  ·rename_i b
   obtain rfl:=BO h;exact CF b
  ·exact mJ h
theorem pq {s:List UInt8}{k:Nat}(c:0<k)(b:nA (k:Int) s=ZG):∀{n:Nat},k<=n->∃i,iS s n=T i
 |0,hn=>by omega
 |n+1,hn=>by
  rw[iS];split
  ·exact⟨_,rfl⟩
  ·rename_i f
   by_cases e:k=n+1
   ·subst e
    exact absurd b f
   ·exact pq c b (by omega)
theorem oD{i:I3}(h:bA b=T i):ey b i.1 i.2.1 i.2.2:=mJ h
theorem lI{i:I3}(h:ey b i.1 i.2.1 i.2.2):bA b=T i:=by
 obtain⟨h1,h2⟩:=ed h.1;obtain⟨k,f⟩:=BC (show 0<=i.1 by omega);obtain⟨g,l⟩:=wX h;have p:nA (k:Int) b=ZG:=by rw[<-f];unfold nA;rw[g,l,zA,z8];exact⟨h.1,h.2.symm⟩
 obtain⟨j,c⟩:=pq (n:=15) (by omega) p (by omega);obtain⟨m,q,o⟩:=ye (mJ c) h;show iS b 15=T i;rw[c];exact AP T (Prod.ext m (Prod.ext q o))
theorem pr (h:∀i:I3,¬ ey b i.1 i.2.1 i.2.2):bA b=Y:=by
 cases hr:bA b with
 |none=>rfl
 |some i=>exact absurd (oD hr) (h i)
theorem CG{k:Int}(h1:aG k (eA k s).length (eQ k s)=ZG)(h2:aR k (eA k s) (eQ k s)=s):bA s=T (k,eA k s,eQ k s):=lI (i:=(k,eA k s,eQ k s)) ⟨h1,h2.symm⟩
theorem FU{k:Int}(h:¬ (aG k (eA k s).length (eQ k s)=ZG/\aR k (eA k s) (eQ k s)=s))(t:List UInt8)(m:Int):¬ ey s k t m:=by intro b;obtain⟨c,f⟩:=wX b;rw[c,f] at h;exact h ⟨b.1,b.2.symm⟩
theorem CH (h:∀k:Int,1<=k->k<16->∀t m,¬ ey s k t m):bA s=Y:=pr λi hi=>by obtain⟨h1,-⟩:=ed hi.1;exact h i.1 h1.1 (by omega) _ _ hi
theorem j4:∀l:List UInt8,(bc l).length<=l.length
 |[]=>by simp[bc]
 |[c]=>by simp[bc]
 |[c,d]=>by simp[bc]
 |c::a::b::r=>by
  rw[bc];split
  ·have:=j4 r
   simp only[eT];omega
  ·have:=j4 (a::b::r)
   simp only[eT] at this ⊢;omega
theorem zS (k:Int)(s:List UInt8):(eA k s).length<=s.length:=by
 unfold eA;split
 ·have h1:=j4 (bR (s.drop ((word k).length+1)));have h2:(bR (s.drop ((word k).length+1))).length<=s.length:=by unfold bR;rw[MO,MI,MI];omega
  omega
 {simp}
