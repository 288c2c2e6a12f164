import Derived.Test.YtpmnbjkjpnclaaaGreatDoorSR
import Derived.Lib.IndexMore
import Derived.Lib.AtoiAll
open Option renaming none->U,some->T
open Bool renaming false->ZA,true->ZG
namespace Go.Proofs.YtpmnbjkjpnclaaaGreatDoor.Vp
open RowKit
variable {s b:List UInt8}{c:UInt8}{n op:Int}
def af (c:UInt8):List UInt8->List UInt8 × List UInt8 × Bool
 |[]=>([],[],ZA)
 |b::l=>if b=c then ([],l,ZG) else (b::(af c l).1,(af c l).2)
theorem index_one (c:UInt8):∀s:List UInt8,-1<=Lib.index s [c]/\Lib.cut s [c]=af c s
 |[]=>by simp[Lib.index,Lib.cut,af]
 |b::l=>by
  obtain⟨h1,h2⟩:=index_one c l;by_cases e:b=c
  ·subst e
   simp[Lib.index,Lib.cut,af]
  ·have i:List.isPrefixOf [c] (b::l)=ZA:=by
    simp[List.isPrefixOf];exact λh=>e h.symm
   have hi:Lib.index (b::l) [c]=if Lib.index l [c] == -1 then -1 else Lib.index l [c]+1:=by simp[Lib.index,i]
   have g:af c (b::l)=(b::(af c l).1,(af c l).2):=by simp[af,e]
   rw[g,<-h2];unfold Lib.cut;rw[hi];by_cases f:Lib.index l [c]=-1
   ·rw[f]
    simp
   ·have h3:0<=Lib.index l [c]:=by omega
    have h4:(Lib.index l [c] == -1)=ZA:=by simpa using f
    rw[h4];simp only[TA,WO];rw[p6 h3,p6 (by omega)];refine⟨by omega,?_⟩;rw[show(Lib.index l [c]+1).toNat=(Lib.index l [c]).toNat+1 by omega];simp
theorem lp {c:UInt8}:∀{x:List UInt8} (y:List UInt8),c ∉ x->af c (x++c::y)=(x,y,ZG)
 |[],y,_=>by simp[af]
 |b::x,y,h=>by have h1:b≠c:=λe=>h (by simp[e]);have h2:c ∉ x:=λe=>h (by simp[e]);rw[IN,af,gM h1,lp y h2]
theorem gE {c:UInt8}:∀{x:List UInt8},c ∉ x->af c x=(x,[],ZA)
 |[],_=>rfl
 |b::x,h=>by have h1:b≠c:=λe=>h (by simp[e]);have h2:c ∉ x:=λe=>h (by simp[e]);rw[af,gM h1,gE h2]
theorem fo (c:UInt8):∀s:List UInt8,c ∉ (af c s).1/\s=if (af c s).2.2=ZG then (af c s).1++c::(af c s).2.1 else (af c s).1
 |[]=>by simp[af]
 |b::l=>by
  obtain⟨h1,h2⟩:=fo c l;by_cases e:b=c
  ·subst e
   simp[af]
  ·rw[af,gM e]
   refine⟨λh=>?_,?_⟩
   ·rcases AT.1 h with h|h
    ·exact e h.symm
    ·exact h1 h
   ·simp only
    split
    ·rename_i hb
     rw[p6 hb] at h2;rw[IN,<-h2]
    ·rename_i hb
     rw[gM hb] at h2;rw[<-h2]
theorem cy (c:UInt8)(s:List UInt8):(af c s).1.length<=s.length/\(af c s).2.1.length<=s.length:=by
 induction s with
 |nil=>simp[af]
 |cons b l ih =>
  rw[af];split;{simp};{simp;omega}
theorem rW (h:(af c s).2.2=ZG):(af c s).2.1.length<s.length:=by have:=(fo c s).2;rw[p6 h] at this;have h2:=wA List.length this;simp at h2;omega
def aT (c:UInt8):Int:=if 48<=c.toNat/\c.toNat<=57 then (c.toNat:Int) - 48 else if 97<=c.toNat/\c.toNat<=102 then (c.toNat:Int) - 87 else -1
def byteOf (a b:UInt8):UInt8:=UInt8.ofNat (16*(aT a).toNat+(aT b).toNat)
theorem un{p:UInt8->Prop}(h:∀n:Fin 256,p (UInt8.ofNat n))(c:UInt8):p c:=by have h1:c.toNat<256:=c.toNat_lt;have h2:=h ⟨c.toNat,h1⟩;simpa using h2
theorem gF (c:UInt8):-1<=aT c/\aT c<16:=by
 unfold aT;split;{omega};{split;{omega};{omega}}
theorem gG:∀k:Nat,k<16->aT (cO k)=k:=by decide
theorem rX (c:UInt8):0<=aT c->cO (aT c).toNat=c:=by refine un (p:=λc=>0<=aT c->cO (aT c).toNat=c) ?_ c;decide +kernel
theorem lQ (c:UInt8):byteOf (cO (c.toNat / 16)) (cO (c.toNat % 16))=c:=by have h1:c.toNat<256:=c.toNat_lt;unfold byteOf;rw[gG _ (by omega),gG _ (by omega)];simp only[Int.toNat_natCast];rw[show 16*(c.toNat / 16)+c.toNat % 16=c.toNat by omega];simp
theorem pO{a b:UInt8}(c:0<=aT a)(hb:0<=aT b)(f:cf (byteOf a b)=ZA):enc (byteOf a b)=[92,a,b]:=by
 have h1:=gF a;have h2:=gF b;have e:(byteOf a b).toNat=16*(aT a).toNat+(aT b).toNat:=by unfold byteOf;rw[NY];omega
 unfold enc dU;rw[gM (by rw[f];simp),e];rw[show(16*(aT a).toNat+(aT b).toNat) / 16=(aT a).toNat by omega,show(16*(aT a).toNat+(aT b).toNat) % 16=(aT b).toNat by omega,rX a c,rX b hb]
def DV:List UInt8->Option (UInt8 × List UInt8)
 |a::b::r=>if 0<=aT a/\0<=aT b/\cf (byteOf a b)=ZA then T (byteOf a b,r) else U
 |_=>U
def dD:List UInt8->Option (UInt8 × List UInt8)
 |[]=>U
 |c::r=>if cf c=ZG then T (c,r) else if c=92 then DV r else U
theorem AM{x:List UInt8}{r:List UInt8}(h:dD x=T (c,r)):x=enc c++r:=by
 cases x with
 |nil=>simp[dD] at h
 |cons b l =>
  rw[dD] at h;split at h;{rename_i i;simp at h;obtain⟨rfl,rfl⟩:=h;simp[enc,i]}
  ·split at h
   ·rename_i g;subst g;match l,h with
    |p::q::r',h =>
     rw[DV] at h;split at h;{rename_i f;simp at h;obtain⟨rfl,rfl⟩:=h;rw[pO f.1 f.2.1 f.2.2];rfl};{cases h}
    |[p],h=>cases h
    |[],h=>cases h
   {cases h}
theorem wM (h:cf c=ZG):c≠92:=by intro e;subst e;revert h;decide
theorem jP (c:UInt8)(r:List UInt8):dD (enc c++r)=T (c,r):=by
 by_cases g:cf c=ZG;{simp[enc,g,dD]}
 ·have b:cf c=ZA:=by simpa using g
  have h1:c.toNat<256:=c.toNat_lt;have e:enc c=[92,cO (c.toNat / 16),cO (c.toNat % 16)]:=by simp[enc,b,dU]
  have f:cf 92=ZA:=by decide
  rw[e];show dD (92::cO (c.toNat / 16)::cO (c.toNat % 16)::r)=_;rw[dD,gM (by rw[f];simp),p6 rfl,DV,p6,lQ];refine⟨?_,?_,?_⟩;{rw[gG _ (by omega)];omega};{rw[gG _ (by omega)];omega};{rw[lQ];exact b}
theorem jF (c:UInt8):1<=(enc c).length:=by
 unfold enc;split;{simp};{simp}
theorem gS:∀{t u:List UInt8},t.flatMap enc=u.flatMap enc->t=u
 |[],[],_=>rfl
 |[],c::u,h=>by have h1:0=(enc c++u.flatMap enc).length:=wA List.length h;have h2:=jF c;rw[cM] at h1;omega
 |c::t,[],h=>by have h1:(enc c++t.flatMap enc).length=0:=wA List.length h;have h2:=jF c;rw[cM] at h1;omega
 |c::t,d::u,h=>by rw[J2,J2] at h;have h1:=jP c (t.flatMap enc);rw[h,jP] at h1;simp at h1;rw[h1.1,gS h1.2.symm]
theorem dx (l:List UInt8):aF l=34::l.flatMap enc++[34]:=by simp[aF,qTo]
def opF (w:List UInt8):Int :=
 if w=word 1 then 1 else if w=word 2 then 2 else if w=word 3 then 3 else if w=word 4 then 4 else if w=word 5 then 5 else if w=word 6 then 6 else if w=word 7 then 7 else if w=word 8 then 8 else if w=word 9 then 9 else if w=word 10 then 10 else if w=word 11 then 11 else if w=word 12 then 12 else if w=word 13 then 13 else if w=word 14 then 14 else if w=word 15 then 15 else 0
theorem iz{k:Int}(h:1<=k/\k<=15):k=1∨k=2∨k=3∨k=4∨k=5∨k=6∨k=7∨k=8∨k=9∨k=10∨k=11∨k=12∨k=13∨k=14∨k=15:=by omega
theorem jQ{k:Int}(h:1<=k/\k<=15):opF (word k)=k:=by rcases iz h with rfl|rfl|rfl|rfl|rfl|rfl|rfl|rfl|rfl|rfl|rfl|rfl|rfl|rfl|rfl<;>decide
theorem qU (w:List UInt8):opF w=0/\(∀k,1<=k->k<=15->w≠word k)∨(1<=opF w/\opF w<=15/\w=word (opF w)):=by
 by_cases h:∃k,1<=k/\k<=15/\w=word k;{obtain⟨k,h1,h2,rfl⟩:=h;rw[jQ ⟨h1,h2⟩];exact .inr ⟨h1,h2,rfl⟩};{have b:∀k,1<=k->k<=15->w≠word k:=λk h1 h2 e=>h ⟨k,h1,h2,e⟩;refine .inl ⟨?_,b⟩;unfold opF;rw[gM (b 1 (by omega) (by omega)),gM (b 2 (by omega) (by omega)),gM (b 3 (by omega) (by omega)),gM (b 4 (by omega) (by omega)),gM (b 5 (by omega) (by omega)),gM (b 6 (by omega) (by omega)),gM (b 7 (by omega) (by omega)),gM (b 8 (by omega) (by omega)),gM (b 9 (by omega) (by omega)),gM (b 10 (by omega) (by omega)),gM (b 11 (by omega) (by omega)),gM (b 12 (by omega) (by omega)),gM (b 13 (by omega) (by omega)),gM (b 14 (by omega) (by omega)),gM (b 15 (by omega) (by omega))]}
theorem yW{k:Int}(h:1<=k/\k<=15):(32:UInt8) ∉ word k:=by rcases iz h with rfl|rfl|rfl|rfl|rfl|rfl|rfl|rfl|rfl|rfl|rfl|rfl|rfl|rfl|rfl<;>decide
theorem eN{k:Int}(h:1<=k/\k<=15):(kind k=1 ↔ 0<aE k)/\(kind k=0 ↔ ¬ 0<aE k/\¬ 0<bO k):=by rcases iz h with rfl|rfl|rfl|rfl|rfl|rfl|rfl|rfl|rfl|rfl|rfl|rfl|rfl|rfl|rfl<;>decide
def ew (b:List UInt8)(op:Int)(s:List UInt8)(n:Int):Prop:=aH op s.length n=ZG/\b=aR op s n
theorem ed{sz:Nat}(h:aH op sz n=ZG):(1<=op/\op<=15)/\(sz:Int)<=aE op/\0<=n/\n<=bO op:=by have:=QG h;exact⟨⟨this.1,this.2.1⟩,this.2.2.1,this.2.2.2⟩
theorem GL (op:Int):0<=aE op/\0<=bO op:=by
 unfold aE bO;constructor;{split<;>omega};{split;{omega};{split<;>omega}}
theorem GM (n:Int):Lib.itoa n≠[]:=by
 unfold Lib.itoa;split;{simp};{rw[Lib.decDigits];split<;>simp}
theorem jw:ew b op s n ↔
  opF (af 32 b).1=op/\aH op s.length n=ZG/\(if kind op=1 then (af 32 b).2.1=aF s else if kind op=0 then (af 32 b).2.2=ZA else (af 32 b).2.1=Lib.itoa n):=by
 constructor;{rintro⟨h,rfl⟩;obtain⟨h1,h2,h3,h4⟩:=ed h;have g:=yW h1;by_cases c:kind op=1;{have e:af 32 (aR op s n)=(word op,aF s,ZG):=(by unfold aR;rw[p6 c,lp _ g]);rw[e,p6 c];exact⟨jQ h1,h,rfl⟩};{by_cases i:kind op=0;{have e:af 32 (aR op s n)=(word op,[],ZA):=(by unfold aR;rw[gM c,p6 i,gE g]);rw[e,gM c,p6 i];exact⟨jQ h1,h,rfl⟩};{have e:af 32 (aR op s n)=(word op,Lib.decDigits n.toNat,ZG):=(by unfold aR;rw[gM c,gM i,lp _ g]);rw[e,gM c,gM i];refine⟨jQ h1,h,?_⟩;unfold Lib.itoa;rw[gM (by omega)]}}}
 ·rintro⟨p,h,f⟩;obtain⟨h1,h2,h3,h4⟩:=ed h;refine⟨h,?_⟩;have hi:=(fo 32 b).2;have g:(af 32 b).1=word op:=by
   rcases qU (af 32 b).1 with ⟨m,_⟩|⟨_,_,m⟩
   {omega};{rw[p] at m;exact m}
  have j:(af 32 b).2.1≠[]->(af 32 b).2.2=ZG:=λl=>by
   cases e:(af 32 b).2.2 with
   |true=>rfl
   |false =>rw[e] at hi;simp only[TA,WO] at hi;have o:=(fo 32 b).1;rw[<-hi] at o;rw[gE o] at l;exact absurd rfl l
  unfold aR;by_cases c:kind op=1;{rw[p6 c] at f ⊢;rw[j (by rw[f,dx];simp),p6 rfl,g,f] at hi;exact hi};{rw[gM c] at f ⊢;by_cases i:kind op=0;{rw[p6 i] at f ⊢;rw[f] at hi;simp only[TA,WO] at hi;rw[hi];exact g};{rw[gM i] at f ⊢;rw[j (by rw[f];exact GM n),p6 rfl,g,f] at hi;rw[hi];unfold Lib.itoa;rw[gM (by omega)]}}
theorem jk (n:Nat):Lib.decDigits n≠[]:=by rw[Lib.decDigits];split<;>simp
theorem tB:∀(n m:Nat),Lib.decDigits n=Lib.decDigits m->n=m:=by
 intro n;induction n using Nat.strongRecOn with
 |ind n b =>
  intro m h;by_cases h1:n<10;{by_cases h2:m<10;{rw[Lib.decDigits,VR h1,Lib.decDigits,VR h2] at h;have:=wA (λl=>(l.headD 0).toNat) h;simp at this;omega};{rw[Lib.decDigits,VR h1,bV h2] at h;have h3:=wA List.length h;have h4:=GC.2 (jk (m / 10));simp only[cM,eL,nX] at h3;omega}};{by_cases h2:m<10;{rw[bV h1] at h;rw[Lib.decDigits.eq_1 m,VR h2] at h;have h3:=wA List.length h;have h4:=GC.2 (jk (n / 10));simp only[cM,eL,nX] at h3;omega};{rw[bV h1,bV h2] at h;obtain⟨h3,h4⟩:=SY h rfl;have h5:=b (n / 10) (by omega) _ h3;have c:=wA (λl=>(l.headD 0).toNat) h4;simp[dig] at c;omega}}
theorem yX{c:List UInt8}{g:Int}{j:List UInt8}{o:Int}(h:ew c op s n)(p:ew c g j o):op=g/\s=j/\n=o:=by
 obtain⟨a1,u,i⟩:=jw.1 h;obtain⟨t,r,b⟩:=jw.1 p;have e:op=g:=a1.symm.trans t;subst e;obtain⟨c1,c2,c3,c4⟩:=ed u;obtain⟨d1,d2,d3,d4⟩:=ed r;refine⟨rfl,?_⟩;have l:kind op≠1->s=[]/\j=[]:=λl=>by
  have h0:aE op=0:=by
   have:=(GL op).1;have h1:=(eN c1).1;rcases Int.lt_or_le 0 (aE op) with h2|h2;{exact absurd (h1.2 h2) l};{omega}
  exact⟨PL.1 (by omega),PL.1 (by omega)⟩
 by_cases f:kind op=1
 ·rw[p6 f] at i b;have hn:bO op=0:=by unfold kind at f;split at f<;>first|omega|rfl
  rw[i,dx,dx] at b;have q:=List.append_inj_left' (List.cons.inj b).2 rfl;exact⟨gS q,by omega⟩
 {obtain⟨rfl,rfl⟩:=l f;refine⟨rfl,?_⟩;rw[gM f] at i b;by_cases m:kind op=0;{have:=((eN c1).2.1 m).2;omega};{rw[gM m] at i b;rw[i] at b;unfold Lib.itoa at b;rw[gM (by omega),gM (by omega)] at b;have:=tB _ _ b;omega}}
theorem rY:∀(l:List UInt8) (acc:Nat) (r:List UInt8),Lib.parseUint10 acc (l++r)=match Lib.parseUint10 acc l with | .ok u=>Lib.parseUint10 u r | .syntax=>.syntax | .range=>.range
 |[],acc,r=>by simp[Lib.parseUint10]
 |c::l,acc,r=>by
  rw[IN,Lib.parseUint10,Lib.parseUint10];split
  ·split
   ·rfl
   ·split
    ·rfl
    ·exact rY l _ r
  ·rfl
theorem rZ:∀n:Nat,n<18446744073709551616->Lib.parseUint10 0 (Lib.decDigits n)=.ok n:=by
 intro n;induction n using Nat.strongRecOn with
 |ind n b =>
  intro hn;by_cases h1:n<10
  ·rw[Lib.decDigits,VR h1,Lib.parseUint10];have e:(UInt8.ofNat (48+n)).toNat=48+n:=by rw[NY];omega
   rw[e,p6 (by omega),gM (by omega),gM (by omega),Lib.parseUint10];congr 1;omega
  ·have e:(dig (n % 10)).toNat=48+n % 10:=by unfold dig;rw[NY];omega
   rw[bV h1,rY,b (n / 10) (by omega) (by omega)];simp only;rw[Lib.parseUint10,e,p6 (by omega),gM (by omega),gM (by omega),Lib.parseUint10];congr 1;omega
theorem DX (n:Nat):∃c r,Lib.decDigits n=c::r/\48<=c.toNat/\c.toNat<=57:=by
 induction n using Nat.strongRecOn with
 |ind n b =>
  by_cases h1:n<10;{refine⟨UInt8.ofNat (48+n),[],?_,?_⟩;{rw[Lib.decDigits,VR h1]};{rw[NY];omega}};{obtain⟨c,r,h2,h3⟩:=b (n / 10) (by omega);exact⟨c,r++[dig (n % 10)],by rw[bV h1,h2];rfl,h3⟩}
theorem AN (n:Int)(h1:-9223372036854775808<=n)(h2:n<=9223372036854775807):Lib.atoiAll (Lib.itoa n)=.ok n:=by
 unfold Lib.itoa;by_cases h:n<0
 ·rw[p6 h];have e:Lib.atoiAll (45::Lib.decDigits n.natAbs)=.ok (-(n.natAbs:Int)):=by unfold Lib.atoiAll;simp only;rw[p6 (by decide),Lib.parseMag,gM (jk _),rZ _ (by omega)];simp only;rw[gM (by rintro⟨h3,-⟩;exact h3 (by decide)),gM (by rintro⟨-,h3⟩;omega),p6 (by decide)]
  rw[e];congr 1;omega
 {rw[gM h];obtain⟨c,r,e,h3,h4⟩:=DX n.toNat;have b:=rZ n.toNat (by omega);rw[e] at b ⊢;unfold Lib.atoiAll;simp only;rw[gM (by omega),Lib.parseMag,gM (by simp),b];simp only;rw[gM (by rintro⟨-,f⟩;omega),gM (by rintro⟨f,-⟩;omega),gM (by omega)];congr 1;omega}
def eO (s:List UInt8)(n:Int):Prop:=s=Lib.itoa n/\-9223372036854775808<=n/\n<=9223372036854775807
theorem iA (h:eO s n):Lib.atoiAll s=.ok n:=by rw[h.1];exact AN n h.2.1 h.2.2
def bQ (acc:Int):List UInt8->Int
 |[]=>acc
 |c::r=>bQ (acc*10+(c.toNat:Int) - 48) r
theorem oQ:∀(l:List UInt8) (acc:Int) (r:List UInt8),bQ acc (l++r)=bQ (bQ acc l) r
 |[],acc,r=>rfl
 |c::l,acc,r=>by rw[IN,bQ,bQ,oQ l]
theorem DY (n:Nat):bQ 0 (Lib.decDigits n)=n:=by
 induction n using Nat.strongRecOn with
 |ind n b =>
  by_cases h1:n<10;{rw[Lib.decDigits,VR h1,bQ,bQ,NY];omega}
  ·have e:(dig (n % 10)).toNat=48+n % 10:=by unfold dig;rw[NY];omega
   rw[bV h1,oQ,b (n / 10) (by omega),bQ,bQ,e];omega
theorem DZ (n:Nat)(h:n<=2000):(Lib.decDigits n).length<=6:=by
 by_cases h1:n<10;{rw[Lib.decDigits,VR h1];simp};{rw[bV h1];by_cases h2:n / 10<10;{rw[Lib.decDigits,VR h2];simp};{rw[bV h2];by_cases h3:n / 10 / 10<10;{rw[Lib.decDigits,VR h3];simp};{rw[bV h3];rw[Lib.decDigits,VR (by omega)];simp}}}
theorem Gu (n:Nat)(h:n<=2000):bQ 0 ((Lib.decDigits n).take 6)=n:=by rw[IU (DZ n h),DY]
def be:List UInt8->List UInt8
 |[]=>[]
 |[c]=>[c]
 |[c,d]=>[c,d]
 |c::a::b::r=>if c=92/\0<=aT a/\0<=aT b then byteOf a b::be r else c::be (a::b::r)
theorem wO (h:c≠92):∀r:List UInt8,be (c::r)=c::be r
 |[]=>by simp[be]
 |[a]=>by simp[be]
 |a::b::r=>by rw[be,gM (λf=>h f.1)]
theorem kf:∀t:List UInt8,be (t.flatMap enc)=t
 |[]=>by simp[be]
 |c::t=>by
  rw[J2];by_cases b:cf c=ZG
  ·have e:enc c=[c]:=by simp[enc,b]
   rw[e,List.singleton_append,wO (wM b),kf t]
  ·have f:cf c=ZA:=by simpa using b
   have h1:c.toNat<256:=c.toNat_lt;have e:enc c=[92,cO (c.toNat / 16),cO (c.toNat % 16)]:=by simp[enc,f,dU]
   rw[e];show be (92::cO (c.toNat / 16)::cO (c.toNat % 16)::t.flatMap enc)=_;rw[be,p6,lQ,kf t];refine⟨rfl,?_,?_⟩
   ·rw[gG _ (by omega)];omega
   ·rw[gG _ (by omega)];omega
def bS (s:List UInt8):List UInt8:=(s.drop 1).take (s.length - 2)
theorem mS (t:List UInt8):bS (aF t)=t.flatMap enc:=by rw[dx];unfold bS;simp
def aL:List UInt8->List (List UInt8)
 |[]=>[[]]
 |c::r=>if c=10 then []::aL r else match aL r with|l::ls=>(c::l)::ls | []=>[[c]]
theorem AO (s:List UInt8):aL s≠[]:=by
 cases s with
 |nil=>simp[aL]
 |cons c r =>
  rw[aL];split;{simp};{split<;>simp}
theorem mT:∀{x:List UInt8},(10:UInt8) ∉ x->aL x=[x]
 |[],_=>rfl
 |c::x,h=>by have h1:c≠10:=λe=>h (by simp[e]);have h2:(10:UInt8) ∉ x:=λe=>h (by simp[e]);rw[aL,gM h1,mT h2]
theorem ki:∀{x:List UInt8} (y:List UInt8),(10:UInt8) ∉ x->aL (x++10::y)=x::aL y
 |[],y,_=>by simp[aL]
 |c::x,y,h=>by have h1:c≠10:=λe=>h (by simp[e]);have h2:(10:UInt8) ∉ x:=λe=>h (by simp[e]);rw[IN,aL,gM h1,ki y h2]
theorem lR (s:List UInt8):aL s=if (af 10 s).2.2=ZG then (af 10 s).1::aL (af 10 s).2.1 else [s]:=by
 obtain⟨h1,h2⟩:=fo 10 s;cases e:(af 10 s).2.2 with
 |true =>rw[e,p6 rfl] at h2;rw[p6 rfl];exact(wA aL h2).trans (ki _ h1)
 |false =>rw[e] at h2;simp only[TA,WO] at h2 ⊢;rw[<-h2] at h1;exact mT h1
abbrev I3:=Int × List UInt8 × Int
def eC (k:Int)(s:List UInt8):List UInt8:=if kind k=1/\(word k).length<s.length then be (bS (s.drop ((word k).length+1))) else []
def eX (k:Int)(s:List UInt8):Int:=if ¬ kind k=1/\0<kind k/\(word k).length<s.length then bQ 0 ((s.drop ((word k).length+1)).take 6) else 0
theorem xO (k:Int):0<=kind k:=by unfold kind;split<;>omega
theorem gH{k:Int}(h:1<=k/\k<=15):(¬ kind k=1->aE k=0)/\(kind k=1∨kind k=0->bO k=0)/\bO k<=2000:=by rcases iz h with rfl|rfl|rfl|rfl|rfl|rfl|rfl|rfl|rfl|rfl|rfl|rfl|rfl|rfl|rfl<;>decide
theorem r9 (x:List UInt8)(y:List UInt8):(x++(32::y)).drop (x.length+1)=y:=by rw[List.drop_append];simp
theorem xP{k:Int}{t:List UInt8}{m:Int}(h:ew s k t m):eC k s=t/\eX k s=m:=by
 obtain⟨hi,rfl⟩:=h;obtain⟨h1,h2,h3,h4⟩:=ed hi;obtain⟨i,g,m3⟩:=gH h1;by_cases b:kind k=1
 ·have e:aR k t m=word k++(32::aF t):=by unfold aR;rw[p6 b]
  have c:(word k).length<(aR k t m).length:=by rw[e];simp
  have:=g (.inl b);unfold eC eX;rw[p6 ⟨b,c⟩,gM (λx=>x.1 b),e,r9,mS,kf];exact⟨rfl,by omega⟩
 ·have j:t=[]:=by
   have:=i b;rw[<-PL];omega
  unfold eC eX;rw[gM (λx=>b x.1)];refine⟨j.symm,?_⟩;by_cases f:kind k=0;{have:=g (.inr f);rw[gM (λx=>by omega)];omega}
  ·have hp:=xO k;have e:aR k t m=word k++(32::Lib.decDigits m.toNat):=by unfold aR;rw[gM b,gM f]
   have c:(word k).length<(aR k t m).length:=by rw[e];simp
   rw[p6 ⟨b,by omega,c⟩,e,r9,Gu m.toNat (by omega)];omega
def nO (k:Int)(s:List UInt8):Bool:=aH k (eC k s).length (eX k s) && decide (aR k (eC k s) (eX k s)=s)
def ja (s:List UInt8):Nat->Option I3
 |0=>U
 |k+1=>if nO ((k+1:Nat):Int) s=ZG then T (((k+1:Nat):Int),eC ((k+1:Nat):Int) s,eX ((k+1:Nat):Int) s) else ja s k
def bE (b:List UInt8):Option I3:=ja b 15
theorem Ea{k:Int}(h:nO k s=ZG):ew s k (eC k s) (eX k s):=by unfold nO at h;rw[z8,AI] at h;exact⟨h.1,h.2.symm⟩
theorem mU {s:List UInt8}{i:I3}:∀{n:Nat},ja s n=T i->ew s i.1 i.2.1 i.2.2
 |0,h=>by simp[ja] at h
 |n+1,h=>by
  rw[ja] at h;split at h
  ·rename_i b
   obtain rfl:=BC h;exact Ea b
  ·exact mU h
theorem pQ {s:List UInt8}{k:Nat}(c:0<k)(b:nO (k:Int) s=ZG):∀{n:Nat},k<=n->∃i,ja s n=T i
 |0,hn=>by omega
 |n+1,hn=>by
  rw[ja];split
  ·exact⟨_,rfl⟩
  ·rename_i f
   by_cases e:k=n+1
   ·subst e
    exact absurd b f
   ·exact pQ c b (by omega)
theorem oR{i:I3}(h:bE b=T i):ew b i.1 i.2.1 i.2.2:=mU h
theorem lS{i:I3}(h:ew b i.1 i.2.1 i.2.2):bE b=T i:=by
 obtain⟨h1,h2⟩:=ed h.1;obtain⟨k,l⟩:=AS (show 0<=i.1 by omega);obtain⟨o,q⟩:=xP h;have m:nO (k:Int) b=ZG:=by rw[<-l];unfold nO;rw[o,q,z8,AI];exact⟨h.1,h.2.symm⟩
 obtain⟨j,c⟩:=pQ (n:=15) (by omega) m (by omega);obtain⟨p,g,f⟩:=yX (mU c) h;show ja b 15=T i;rw[c];exact wA T (Prod.ext p (Prod.ext g f))
theorem pR (h:∀i:I3,¬ ew b i.1 i.2.1 i.2.2):bE b=U:=by
 cases hr:bE b with
 |none=>rfl
 |some i=>exact absurd (oR hr) (h i)
theorem Eb{k:Int}(h1:aH k (eC k s).length (eX k s)=ZG)(h2:aR k (eC k s) (eX k s)=s):bE s=T (k,eC k s,eX k s):=lS (i:=(k,eC k s,eX k s)) ⟨h1,h2.symm⟩
theorem GP{k:Int}(h:¬ (aH k (eC k s).length (eX k s)=ZG/\aR k (eC k s) (eX k s)=s))(t:List UInt8)(m:Int):¬ ew s k t m:=by intro b;obtain⟨c,f⟩:=xP b;rw[c,f] at h;exact h ⟨b.1,b.2.symm⟩
theorem Ec (h:∀k:Int,1<=k->k<16->∀t m,¬ ew s k t m):bE s=U:=pR λi hi=>by obtain⟨h1,-⟩:=ed hi.1;exact h i.1 h1.1 (by omega) _ _ hi
theorem kj:∀l:List UInt8,(be l).length<=l.length
 |[]=>by simp[be]
 |[c]=>by simp[be]
 |[c,d]=>by simp[be]
 |c::a::b::r=>by
  rw[be];split
  ·have:=kj r
   simp only[eL];omega
  ·have:=kj (a::b::r)
   simp only[eL] at this ⊢;omega
theorem AR (k:Int)(s:List UInt8):(eC k s).length<=s.length:=by
 unfold eC;split
 ·have h1:=kj (bS (s.drop ((word k).length+1)));have h2:(bS (s.drop ((word k).length+1))).length<=s.length:=by unfold bS;rw[OD,LD,LD];omega
  omega
 {simp}
