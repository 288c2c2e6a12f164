import Derived.Deep.WholeRow
import Derived.Test.YtoddkejemcbkmaaGreatDoorSL
import Derived.Deep.DeepCutAuto
import Derived.Test.YtoddkejemcbkmaaGreatDoorRV
import Derived.Deep.LoopGhost
import Derived.Shelf.Strings.SlTrimAscii
import Derived.Lib.OthersKept
import Derived.Lib.TrimU
import Derived.Laws.Runes
import Derived.WalkMore
set_option maxRecDepth 1000000
set_option maxHeartbeats 8000000
set_option linter.unusedSimpArgs false
open Go renaming Addr.mk->Q,Value.slice->Z,Value.string->U,Value.int->J,Value.bool->ZD,Obj.cells->N,IntKind.i64->I,World->M,Value->ZC,TypeId->ZH,Ending.returned->ZF,World.cell?->A,Proofs.Tryz.prog->Pg
open Option renaming none->Y,some->T
open Bool renaming false->ZA,true->ZG
namespace Go.Proofs.YtoddkejemcbkmaaGreatDoor.Vp
open Tryz RowKit
variable {n g B base place cap j steps looks p:Nat}{e:ZH}{w w':M}{b s:List ByteArray}{y:Nat->aK}{u r:List UInt8}{x nm:ByteArray}{f:Nat->Ins}
def bF (c:UInt8):Bool:=([32,10]:List UInt8).contains c
def df:List UInt8->Nat->List UInt8
 |l,0=>(l.dropWhile bF).takeWhile (λc=>!bF c)
 |l,n+1=>if (l.dropWhile bF).takeWhile (λc=>!bF c)=[] then [] else df ((l.dropWhile bF).dropWhile (λc=>!bF c)) n
def kj (s:ByteArray)(n:Nat):ByteArray:=⟨(df s.data.toList n).toArray⟩
theorem mR (l:List UInt8)(n:Nat):df l n=match n with
 |0=>(l.dropWhile bF).takeWhile (λc=>!bF c)
 |n+1=>if (l.dropWhile bF).takeWhile (λc=>!bF c)=[] then [] else df ((l.dropWhile bF).dropWhile (λc=>!bF c)) n:=by
 cases n<;>simp[df]
theorem gn (l:List UInt8)(p:UInt8->Bool):(l.dropWhile p).length<=l.length:=by
 induction l with
 |nil=>simp
 |cons b l ih =>
  rw[UN];split;{simp;omega};{simp}
theorem mS (m:Nat):df [] m=[]:=by cases m<;>simp[df]
theorem rO{c:UInt8}{l:List UInt8}(h:bF c=ZG)(m:Nat):df (c::l) m=df l m:=by rw[mR,mR l];simp only[UN,h,if_true]
theorem pO (i:u≠[])(h:∀c∈u,bF c=ZA)(g:r=[]∨∃c l,r=c::l/\bF c=ZG):(u++r).dropWhile bF=u++r/\(u++r).takeWhile (λc=>!bF c)=u/\(u++r).dropWhile (λc=>!bF c)=r:=by
 obtain⟨c,u',rfl⟩:=RP i;refine⟨?_,?_,?_⟩;{rw[IS,UN,nD (by simp[h c (by simp)])]}
 ·rw[List.takeWhile_append_of_pos (λa b=>by simp[h a b])];rcases g with rfl|⟨d,l,rfl,f⟩
  {simp};{simp[f]}
 ·rw[List.dropWhile_append_of_pos (λa b=>by simp[h a b])];rcases g with rfl|⟨d,l,rfl,f⟩
  {simp};{simp[f]}
theorem yR (b:u≠[])(h:∀c∈u,bF c=ZA)(f:r=[]∨∃c l,r=c::l/\bF c=ZG):df (u++r) 0=u:=by obtain⟨h1,h2,h3⟩:=pO b h f;rw[df,h1,h2]
theorem yS (b:u≠[])(h:∀c∈u,bF c=ZA)(f:r=[]∨∃c l,r=c::l/\bF c=ZG)(m:Nat):df (u++r) (m+1)=df r m:=by obtain⟨h1,h2,h3⟩:=pO b h f;rw[df,h1,h2,h3,nD b]
theorem xy (s:ByteArray)(f i:Nat)(hf:f<i)(hi:i<=s.size)(o:∀j,(h:j<s.size)->f<=j->j<i->bF s[j]=ZA)(g:s.data.toList.drop i=[]∨∃c l,s.data.toList.drop i=c::l/\bF c=ZG):df (s.data.toList.drop f) 0=(s.extract f i).data.toList/\∀m,df (s.data.toList.drop f) (m+1)=df (s.data.toList.drop i) m:=by
 have hL:s.data.toList.length=s.size:=rfl;have e:s.data.toList.drop f=(s.data.toList.drop f).take (i - f)++s.data.toList.drop i:=by
  conv=>lhs;rw[<-NZ (i - f) (s.data.toList.drop f)]
  rw[List.drop_drop];congr 2;omega
 have q:(s.extract f i).data.toList=(s.data.toList.drop f).take (i - f):=by simp only[NR,OQ,NN]
 have n:(s.data.toList.drop f).take (i - f)≠[]:=by
  intro e;have p:((s.data.toList.drop f).take (i - f)).length=0:=by rw[e];rfl
  rw[MO,MI] at p;omega
 have b:∀c∈(s.data.toList.drop f).take (i - f),bF c=ZA:=by intro c b;obtain⟨j,r,rfl⟩:=List.mem_iff_getElem.1 b;rw[MO,MI] at r;have:=o (f+j) (by omega) (by omega) (by omega);simp only[List.getElem_take,List.getElem_drop,Array.getElem_toList];exact this
 refine⟨?_,λm=>?_⟩
 ·rw[q];conv=>lhs;rw[e]
  exact yR n b g
 ·conv=>lhs;rw[e]
  exact yS n b g m
theorem vY (s:ByteArray)(n:Nat)(w:M)(hs:s.size<=2000)(hn:n<=2000):Calls Pg 188 #[U s,J I n] w λe w'=>e=ZF (U (kj s n))/\Below w.heap.size w w':=by
  have hL:s.data.toList.length=s.size:=rfl;have o:∀i:Nat,(h:i<s.size)->s.data.toList.drop i=s[i]::s.data.toList.drop (i+1):=λi h=>PL (by rw[hL];exact h);have E:=ae o;have l:∀i:Nat,s.size<=i->s.data.toList.drop i=[]:=λi h=>List.drop_eq_nil_of_le (by rw[hL];exact h);have r:=ae l;clear o l;go_enter func188,ntmps188;go_wp2
  go_loopw [1,5,6] (λR ZQ G wr=>∃(i m:Nat),i<=s.size+1/\m<=2000/\G=J I i/\R=J I m/\Below w.heap.size w wr /\
      ((ZQ=J I (-1)/\df (s.data.toList.drop i) m=df s.data.toList n) ∨
       ∃f:Nat,ZQ=J I f/\f<i/\i<=s.size/\(∀j,(h:j<s.size)->f<=j->j<i->bF s[j]=ZA)/\df (s.data.toList.drop f) m=df s.data.toList n)) (λ_ _ G _=>s.size+1 - (intOf G).toNat)
  case atStart=>exact⟨0,n,by omega,hn,rfl,rfl,eL _ _,.inl ⟨rfl,rfl⟩⟩
  case round =>
    obtain⟨i,m,hi,B,rfl,rfl,L,C⟩:=hrel;have q:=ae L;clear L;by_cases hle:i<=s.size
    · by_cases P:i=s.size
      · subst P;have g:=r.out s.size ly;have D:=r.out (s.size+1) (by omega);rcases C with ⟨rfl,b⟩|⟨f,rfl,ZR,_,p,b⟩
        {have c:=ae b;rw[g,mS] at c;clear b g;go_wp2;exact⟨⟨s.size+1,m,by omega,B,by go_num,rfl,q,.inl ⟨rfl,by rw[D,mS];exact c⟩⟩,by first|(simp[intOf];done)|(simp[intOf];omega)⟩}
        · obtain⟨z,y⟩:=xy s f s.size ZR ly p (.inl g);have H:=ae z;have x:=ae y;have c:=ae b;clear p b z y;rw[g] at x;clear g;by_cases t:m=0;{subst t;rw[H.out] at c;go_wp2;go_ret;refine⟨gw ?_,q⟩;unfold kj;rw[<-c.out]}
          · have K:((m:Int) == 0)=ZA:=by simp[t]
            obtain⟨m,rfl⟩:∃F,m=F+1:=⟨m - 1,by omega⟩
            go_wp2;exact⟨⟨s.size+1,m,by omega,by omega,by go_num,by go_num,q,.inl ⟨rfl,by rw[D,<-x.out];exact c⟩⟩,by first|(simp[intOf];done)|(simp[intOf];omega)⟩
      · have ZP:i<s.size:=by omega
        have heb:((i:Int) == (s.size:Int))=ZA:=by simp;omega
        have g:=E.out i ZP;cases hgp:bF s[i] with
        |false =>
          have ZN:((s[i].toNat:Int) == 32)=ZA:=by
            have:¬ s[i]=32:=λe=>by rw[e] at hgp;exact absurd hgp (by decide)
            have h2:¬ s[i].toNat=32:=λe=>this (QG.1 e);simp;omega
          have ZM:((s[i].toNat:Int) == 10)=ZA:=by
            have:¬ s[i]=10:=λe=>by rw[e] at hgp;exact absurd hgp (by decide)
            have h2:¬ s[i].toNat=10:=λe=>this (QG.1 e);simp;omega
          have u:=ae hgp;clear hgp;rcases C with ⟨rfl,b⟩|⟨f,rfl,ZR,_,p,b⟩
          · have c:=ae b;clear b g;go_wp2
            exact⟨⟨i+1,m,by omega,B,by go_num,rfl,q,.inr ⟨i,rfl,by omega,by omega,λj h h1 h2=>by
              obtain rfl:j=i:=by omega
              exact u,c⟩⟩,by first|(simp[intOf];done)|(simp[intOf];omega)⟩
          · have c:=ae b;have ZO:=ae p;clear b g p;go_wp2
            exact⟨⟨i+1,m,by omega,B,by go_num,rfl,q,.inr ⟨f,rfl,by omega,by omega,λj h h1 h2=>by
              by_cases e:j=i;{subst e;exact u}
              · exact ZO j h h1 (by omega),c⟩⟩,by first|(simp[intOf];done)|(simp[intOf];omega)⟩
        |true =>
          have O:((s[i].toNat:Int) == 32)=ZG∨(((s[i].toNat:Int) == 32)=ZA/\((s[i].toNat:Int) == 10)=ZG):=by
            have:s[i]=32∨s[i]=10:=by simpa[bF] using hgp
            rcases this with e|e;{left;rw[e];rfl};{right;rw[e];exact⟨rfl,rfl⟩}
          have u:=ae hgp;clear hgp;rcases O with ZN|⟨ZN,ZM⟩
          all_goals
            rcases C with ⟨rfl,b⟩|⟨f,rfl,ZR,_,p,b⟩
            · have c:=ae b
              rw[g,rO u.out] at c;clear b g;go_wp2;exact⟨⟨i+1,m,by omega,B,by go_num,rfl,q,.inl ⟨rfl,c⟩⟩,by first|(simp[intOf];done)|(simp[intOf];omega)⟩
            · obtain⟨z,y⟩:=xy s f i ZR (by omega) p (.inr ⟨_,_,g,u⟩)
              have H:=ae z;have x:=ae y;have c:=ae b;rw[g] at x;clear p b z y g;by_cases t:m=0
              · subst t
                rw[H.out] at c;go_wp2;go_ret;refine⟨gw ?_,q⟩;unfold kj;rw[<-c.out]
              · have K:((m:Int) == 0)=ZA:=by simp[t]
                obtain⟨m,rfl⟩:∃F,m=F+1:=⟨m - 1,by omega⟩
                rw[x.out,rO u.out] at c;go_wp2;exact⟨⟨i+1,m,by omega,by omega,by go_num,by go_num,q,.inl ⟨rfl,c⟩⟩,by first|(simp[intOf];done)|(simp[intOf];omega)⟩
    · obtain rfl:i=s.size+1:=by omega
      rcases C with ⟨rfl,b⟩|⟨f,rfl,ZR,hz,p,b⟩
      {have c:=ae b;rw[r.out _ (by omega),mS] at c;clear b;go_wp2;go_ret;refine⟨gw ?_,q⟩;unfold kj;rw[<-c.out]};{omega}
abbrev Res:=(List ByteArray × Nat) ⊕ (Int × ByteArray) ⊕ (Bool × ByteArray × List ByteArray)
def kl (ask:Bool)(a:ByteArray)(r:List ByteArray)(here looks:Nat):Res :=
 if aw a=ZA then .inr (.inl (2,(eW here))) else if looks=200 then .inr (.inl (3,⟨#[]⟩)) else .inr (.inr (ask,a,r))
def dO (op n:Nat)(t:ByteArray)(here looks:Nat)(c:List ByteArray):Res :=
 match op,c with
 |1,c=>.inl ((t::c),(here+1))
 |2,b::a::r=>if a.size+b.size<=2000 then .inl (((a++b)::r),(here+1)) else .inr (.inl (2,(eW here)))
 |3,a::r=>.inl (((if n<a.size then a.extract 0 n else a)::r),(here+1))
 |4,a::r=>.inl (((if n<a.size then a.extract n a.size else ⟨#[]⟩)::r),(here+1))
 |5,a::r=>.inl ((kj a n::r),(here+1))
 |6,b::a::r=>.inl ((iM (b.toList == a.toList)::r),(here+1))
 |7,a::r=>.inl ((a::a::r),(here+1))
 |8,b::a::r=>.inl ((a::b::r),(here+1))
 |9,_::r=>.inl (r,(here+1))
 |10,c=>.inl (c,n)
 |11,a::r=>.inl (r,(if a.toList=[]∨(a.toList == [48])=ZG then n else here+1))
 |12,a::r=>kl ZG a r here looks
 |13,a::r=>kl ZA a r here looks
 |14,a::_=>.inr (.inl (1,a))
 |15,a::_=>.inr (.inl (0,a))
 |_,_=>.inr (.inl (0,⟨#[]⟩))
theorem Only.ao{b:Nat}{u:M}(h:Only b u w)(c:Below w.heap.size w w'):Only b u w':=h.trans (Only.u c)
theorem Only.frozen{b:Nat}(h:Only b w w')(k o:Nat)(c:k<w.heap.size)(hb:k≠b):w'.frozen? (Q k o Y)=w.frozen? (Q k o Y):=JN (w:=w) (a:=(Q k o Y)) (h.block k c hb)
def jM (op:Nat)(b:List ByteArray):Bool:=decide (aZ op<=b.length/\b.length - aZ op+cu op<=50)
def dm (f:Nat->Ins)(cnt place steps looks:Nat)(b:List ByteArray):Res :=
 if cnt<=place then .inr (.inl (2,(eW place))) else if steps=2000 then .inr (.inl (3,⟨#[]⟩)) else
  if jM (f place).op.toNat b=ZA then .inr (.inl (2,(eW place))) else dO (f place).op.toNat (f place).n.toNat (f place).s place looks b
def fm (cnt place steps:Nat):Nat:=if cnt<=place then steps else if steps=2000 then steps else steps+1
theorem ut (l:List UInt8)(n:Nat):(df l n).length<=l.length:=by
 induction n generalizing l with
 |zero =>rw[df];have h1:=gn l bF;have h2:((l.dropWhile bF).takeWhile (λc=>!bF c)).length<=(l.dropWhile bF).length:=(List.takeWhile_sublist _).length_le;omega
 |succ n b =>
  rw[df];split;{simp};{have h1:=gn l bF;have h2:=gn (l.dropWhile bF) (λc=>!bF c);have h3:=b ((l.dropWhile bF).dropWhile (λc=>!bF c));omega}
theorem pQ (s:ByteArray)(n:Nat):(kj s n).size<=s.size:=ut s.data.toList n
def kK (res:Res)(looks:Nat):Prop:=match res with
 |.inl (stk,p)=>stk.length<=50/\(∀x∈stk,x.size<=2000)/\p<=2000
 |.inr (.inl (_,_))=>True
 |.inr (.inr (_,name,stk))=>stk.length<50/\(∀x∈stk,x.size<=2000)/\aw name=ZG/\looks<200
theorem my (op n here looks:Nat)(t:ByteArray)(b:List ByteArray)(i:b.length<=50)(c:∀x∈b,x.size<=2000)(m:t.size<=2000)(hn:n<=2000)(hh:here<2000)(hlk:looks<=200)(h1:1<=op)(h15:op<=15)(hb:jM op b=ZG):kK (dO op n t here looks b) looks:=by
 have g:∀ask a r,b=a::r->kK (kl ask a r here looks) looks:=by
  intro ask a r e;subst e;simp only[eT] at i;unfold kl;split;{trivial};{rename_i h1;split;{trivial};{rename_i h2;exact⟨by omega,λx j=>c x (by simp[j]),by simpa using h1,by omega⟩}}
 simp only[jM,z8] at hb;obtain⟨f,l⟩:=hb;rcases(show op=1∨op=2∨op=3∨op=4∨op=5∨op=6∨op=7∨op=8∨op=9∨op=10∨op=11∨op=12∨op=13∨op=14∨op=15 by omega) with rfl|rfl|rfl|rfl|rfl|rfl|rfl|rfl|rfl|rfl|rfl|rfl|rfl|rfl|rfl;all_goals simp only[aZ,cu] at f l
 {refine⟨by simp at l ⊢;omega,λx j=>?_,by omega⟩;rcases A9.1 j with rfl|j;{exact m};{exact c x j}}
 ·match b,f with
  |x::y::r,_ =>
   show kK (if y.size+x.size<=2000 then _ else _) _;split;{refine⟨by simp at i ⊢;omega,λz hz=>?_,by omega⟩;rcases A9.1 hz with rfl|hz;{simp;omega};{exact c z (by simp[hz])}};{trivial}
 ·match b,f with
  |x::r,_ =>
   refine⟨i,λz hz=>?_,by omega⟩;have j:=c x (by simp);rcases A9.1 hz with rfl|hz;{split;{simp;omega};{exact j}};{exact c z (by simp[hz])}
 ·match b,f with
  |x::r,_ =>
   refine⟨i,λz hz=>?_,by omega⟩;have j:=c x (by simp);rcases A9.1 hz with rfl|hz;{split;{simp;omega};{decide}};{exact c z (by simp[hz])}
 ·match b,f with
  |x::r,_ =>
   refine⟨i,λz hz=>?_,by omega⟩;rcases A9.1 hz with rfl|hz;{exact p9 (pQ _ _) (c x (by simp))};{exact c z (by simp[hz])}
 ·match b,f with
  |x::y::r,_ =>
   refine⟨by simp at i ⊢;omega,λz hz=>?_,by omega⟩;rcases A9.1 hz with rfl|hz;{unfold iM;split<;>decide};{exact c z (by simp[hz])}
 ·match b,f with
  |x::r,_ =>
   refine⟨by simp at l ⊢;omega,λz hz=>?_,by omega⟩;rcases A9.1 hz with rfl|hz;{exact c _ (by simp)};{exact c z hz}
 ·match b,f with
  |x::y::r,_ =>refine⟨i,λz hz=>?_,by omega⟩;simp only[A9] at hz;exact c z (by simp only[A9];rcases hz with h|h|h<;>simp[h])
 ·match b,f with
  |x::r,_=>exact⟨by simp at i;omega,λz hz=>c z (by simp[hz]),by omega⟩
 {exact⟨i,c,hn⟩}
 ·match b,f with
  |x::r,_ =>refine⟨by simp at i;omega,λz hz=>c z (by simp[hz]),?_⟩;split<;>omega
 ·match b,f with
  |x::r,_=>exact g ZG x r rfl
 ·match b,f with
  |x::r,_=>exact g ZA x r rfl
 ·match b,f with
  |x::r,_=>trivial
 ·match b,f with
  |x::r,_=>trivial
theorem uu{cnt:Nat}(h:dm f cnt place steps looks b=.inl (s,p)):fm cnt place steps=steps+1/\steps≠2000:=by
 unfold dm at h;unfold fm;split at h;{cases h};{split at h;{cases h};{rename_i h1 h2;rw[nD h1,nD h2];exact⟨rfl,h2⟩}}
def iC (c:Int)(x:ByteArray)(k:Nat):Turn:=⟨ZG,c,x,ZA,⟨#[]⟩,k⟩
def pR (a:Bool)(nm:ByteArray)(k:Nat):Turn:=⟨ZA,0,⟨#[]⟩,a,nm,k⟩
def dR (f:Nat->Ins)(cnt:Nat)(y:Nat->aK)(n:Nat):Nat->Nat->Nat->Nat->List ByteArray->Turn
 |0,_,_,_,_=>zK
 |k+1,place,steps,looks,stk=>match dm f cnt place steps looks stk with
  |.inr (.inl (c,x))=>iC c x (fm cnt place steps)
  |.inl (s,p)=>dR f cnt y n k p (fm cnt place steps) looks s
  |.inr (.inr (a,nm,s))=>if n<=looks then pR a nm (fm cnt place steps)
    else if a=ZA then dR f cnt y n k (place+1) (fm cnt place steps) (looks+1) (iM (y looks).has::s)
    else if (y looks).has=ZA then iC 4 nm (fm cnt place steps)
    else if (y looks).B=0 then dR f cnt y n k (place+1) (fm cnt place steps) (looks+1) ((y looks).h::s)
    else iC 5 nm (fm cnt place steps)
theorem pS{cnt:Nat}{a:Bool}(h:dm f cnt place steps looks b=.inr (.inr (a,nm,s))):fm cnt place steps=steps+1/\steps≠2000:=by
 unfold dm at h;unfold fm;split at h;{cases h};{split at h;{cases h};{rename_i h1 h2;rw[nD h1,nD h2];exact⟨rfl,h2⟩}}
def de (r:aK):Bool:=decide (r.h.size<=2000/\0<=r.B/\r.B<=7)
def bT (y:Nat->aK):Nat->Bool
 |0=>ZG
 |k+1=>bT y k && de (y k)
theorem lc{k:Nat}(h:k<=n)(hn:bT y n=ZG):bT y k=ZG:=by
 induction n with
 |zero =>
  obtain rfl:k=0:=by omega
  exact hn
 |succ m b =>
  by_cases e:k=m+1;{subst e;exact hn};{simp only[bT,zA] at hn;exact b (by omega) hn.1}
theorem gY{k:Nat}(h:k<n)(b:de (y k)=ZA):bT y n=ZA:=by
 cases e:bT y n with
 |false=>rfl
 |true =>have h2:=lc (show k+1<=n by omega) e;simp[bT,b] at h2
theorem Ec{k:Nat}(h:bT y n=ZG)(hk:k<n):(y k).h.size<=2000/\0<=(y k).B/\(y k).B<=7:=by have:=lc (show k+1<=n by omega) h;simp only[bT,zA,de,z8] at this;exact this.2
def m0:Mst:={ S:=λ_=>⟨#[]⟩,size:=0,place:=0,steps:=0,looks:=0,t:=zK }
theorem lX (b:Bool):(iM b).size<=2000:=by cases b<;>decide
def Six (w:M)(g:Nat):Prop:=g<w.heap.size/\∀j,j<6->∃v,A w (Q g j Y)=T v/\w.frozen? (Q g j Y)=ZA
theorem Six.aa{c:M}(h:Six w g)(b:Below B w c)(f:g<B):Six c g:=⟨lj h.1 b.size,λj i=>by
 obtain⟨v,h1,h2⟩:=h.2 j i
 exact⟨v,(b.cell (p:=(Q g j Y)) f).trans h1,(b.frozen (p:=(Q g j Y)) f).trans h2⟩⟩
theorem Six.F{f:M}{b:Nat}(h:Six w g)(c:Only b w f)(i:g≠b):Six f g:=⟨lj h.1 c.size,λj l=>by
 obtain⟨v,h1,h2⟩:=h.2 j l
 exact⟨v,(c.cell g j h.1 i).trans h1,(c.frozen g j h.1 i).trans h2⟩⟩
theorem xz (w:M)(v0 v1 v2 v3 v4 v5:ZC)(t:ZH):Six (w.alloc (N #[v0,v1,v2,v3,v4,v5] t)) w.heap.size:=⟨by simp,λj hj=>by
 rcases(show j=0∨j=1∨j=2∨j=3∨j=4∨j=5 by omega) with rfl|rfl|rfl|rfl|rfl|rfl
 all_goals exact⟨_,by simp;rfl,by simp⟩⟩
theorem jy{u:M}(h:Below B u w)(b:B<=g)(v0 v1 v2 v3 v4 v5:ZC):Below B u ((((((w.setCell (Q g 0 Y) v0).setCell (Q g 1 Y) v1).setCell (Q g 2 Y) v2).setCell (Q g 3 Y) v3).setCell (Q g 4 Y) v4).setCell (Q g 5 Y) v5) :=
 (((((h.setCell b v0).setCell b v1).setCell b v2).setCell b v3).setCell b v4).setCell b v5
def badT:Turn:=⟨ZA,9,⟨#[]⟩,ZA,⟨#[]⟩,0⟩
def sW (f:Nat->Ins)(cnt:Nat)(y:Nat->aK)(n:Nat):Turn:=if valid f cnt=ZA then badT else if 200<n then badT else if bT y n=ZA then badT else dR f cnt y n 2001 0 0 0 []
abbrev eh (at_:Int)(sv:ZC)(st lk:Int)(b:Bool)(c:Int)(x:ByteArray)(ask:Bool)(nm:ByteArray)(f:Bool):ZC :=
 .agg #[J I at_,sv,J I st,J I lk,ZD b,J I c,U x,ZD ask,U nm,ZD f]
theorem dY{u:M}(h:Below B u w)(b:B<=g)(v0 v1 v2 v3 v4 v5 v6 v7 v8 v9:ZC):Below B u ((((((((((w.setCell (Q g 0 Y) v0).setCell (Q g 1 Y) v1).setCell (Q g 2 Y) v2).setCell (Q g 3 Y) v3).setCell (Q g 4 Y) v4).setCell (Q g 5 Y) v5).setCell (Q g 6 Y) v6).setCell (Q g 7 Y) v7).setCell (Q g 8 Y) v8).setCell (Q g 9 Y) v9) :=
 (((((((((h.setCell b v0).setCell b v1).setCell b v2).setCell b v3).setCell b v4).setCell b v5).setCell b v6).setCell b v7).setCell b v8).setCell b v9
theorem fG (at_:Int)(a:Option Addr)(n cap:Nat)(st lk:Int)(f:Bool)(c0:Int)(g:ByteArray)(ask:Bool)(nm:ByteArray)(b:Bool)(c:Int)(x:ByteArray)(w:M):Calls Pg 181 #[eh at_ (Z a n cap) st lk f c0 g ask nm b,J I c,U x] w λe w'=>e=ZF (eh at_ (Z a n cap) st lk ZG c x ask nm b)/\Below w.heap.size w w':=by go_enter func181,ntmps181;go_wp2;refine bp (v:=eh at_ (Z a n cap) st lk ZG c x ask nm b) (by simp[results,results181,go_sem]) rfl ⟨rfl,(br.alloc ly _).alloc (by simp) _⟩
theorem vZ (op:Nat)(w:M)(h1:1<=op)(h15:op<=15):Calls Pg 182 #[J I op] w λe w'=>e=ZF (.tuple #[J I (aZ op),J I (cu op)])/\w'=w:=by
 rcases(show op=1∨op=2∨op=3∨op=4∨op=5∨op=6∨op=7∨op=8∨op=9∨op=10∨op=11∨op=12∨op=13∨op=14∨op=15 by omega) with rfl|rfl|rfl|rfl|rfl|rfl|rfl|rfl|rfl|rfl|rfl|rfl|rfl|rfl|rfl;all_goals
  go_enter func182,ntmps182;go_wp2;refine bp (v:=.tuple #[J I (aZ _),J I (cu _)]) (by simp[results,results182,go_sem,aZ,cu]) rfl ⟨rfl,rfl⟩
def bS (op n:Nat)(t a b:ByteArray):List ByteArray :=
 match op with
 |1=>[t]
 |2=>[b++a]
 |3=>[if n<a.size then a.extract 0 n else a]
 |4=>[if n<a.size then a.extract n a.size else ⟨#[]⟩]
 |5=>[kj a n]
 |6=>[iM (a.toList == b.toList)]
 |7=>[a,a]
 |8=>[a,b]
 |_=>[]
theorem mT (w:M)(x:ByteArray)(g:Nat)(b:g=w.heap.size):ti (w.alloc (N #[U x] 9)) g 0 1 (λi=>[x].getD i ⟨#[]⟩):=by
 subst b
 exact⟨by simp,λi hi=>by
  obtain rfl:i=0:=by omega
  simp⟩
theorem Ig (w:M)(x y:ByteArray)(g:Nat)(b:g=w.heap.size):ti (w.alloc (N #[U x,U y] 9)) g 0 2 (λi=>[x,y].getD i ⟨#[]⟩):=by subst b;exact⟨by simp,λi hi=>by rcases(show i=0∨i=1 by omega) with rfl|rfl<;>simp⟩
theorem wj (op n:Nat)(t a b:ByteArray)(w:M)(h1:1<=op)(h8:op<=8)(l:a.size<=2000)(hb:b.size<=2000)(hn:n<=2000):Calls Pg 184 #[.agg #[J I op,U t,J I n],U a,U b] w λe w'=>∃g,e=ZF (Z (T (Q g 0 Y)) (bS op n t a b).length (bS op n t a b).length)/\ti w' g 0 (bS op n t a b).length (λi=>(bS op n t a b).getD i ⟨#[]⟩)/\w.heap.size<=g/\Below w.heap.size w w':=by
 have c:=ae ((q9 w).alloc ly (N #[J I op,U t,J I n] 90));rcases(show op=1∨op=2∨op=3∨op=4∨op=5∨op=6∨op=7∨op=8 by omega) with rfl|rfl|rfl|rfl|rfl|rfl|rfl|rfl;{go_enter P3,PR;go_wp2;go_ret;exact⟨_,rfl,mT _ t _ (by simp),by simp,c.alloc (by simp) _⟩};{go_enter P3,PR;go_wp2;go_ret;exact⟨_,rfl,mT _ (b++a) _ (by simp),by simp,c.alloc (by simp) _⟩}
 ·by_cases h:(n:Int)<a.size
  ·have e:bS 3 n t a b=[a.extract 0 n]:=by simp[bS];omega
   rw[e];clear e;go_enter P3,PR;go_wp2;go_ret;exact⟨_,rfl,mT _ _ _ (by simp),by simp,c.alloc (by simp) _⟩
  ·have e:bS 3 n t a b=[a]:=by simp[bS];omega
   rw[e];clear e;go_enter P3,PR;go_wp2;go_ret;exact⟨_,rfl,mT _ _ _ (by simp),by simp,c.alloc (by simp) _⟩
 ·by_cases h:(n:Int)<a.size
  ·have e:bS 4 n t a b=[a.extract n a.size]:=by simp[bS];omega
   rw[e];clear e;go_enter P3,PR;go_wp2;go_ret;exact⟨_,rfl,mT _ _ _ (by simp),by simp,c.alloc (by simp) _⟩
  ·have e:bS 4 n t a b=[⟨#[]⟩]:=by simp[bS];omega
   rw[e];clear e;go_enter P3,PR;go_wp2;go_ret;exact⟨_,rfl,mT _ _ _ (by simp),by simp,c.alloc (by simp) _⟩
 {go_enter P3,PR;go_wp2_with fail;refine(vY a n _ l hn).mono ?_;rintro e m ⟨rfl,f⟩;have j:=ae (c.trans (f.mono (by simp)));clear f;go_wp2;go_ret;exact⟨_,rfl,mT _ (kj a n) _ rfl,j.size,j.alloc j.size _⟩};{go_enter P3,PR;go_wp2_with fail;refine(pH _ _).mono ?_;rintro e m ⟨rfl,rfl⟩;go_wp2;go_ret;exact⟨_,rfl,mT _ (iM (a.toList == b.toList)) _ (by simp),by simp,c.alloc (by simp) _⟩};{go_enter P3,PR;go_wp2;go_ret;exact⟨_,rfl,Ig _ a a _ (by simp),by simp,c.alloc (by simp) _⟩};{go_enter P3,PR;go_wp2;go_ret;exact⟨_,rfl,Ig _ a b _ (by simp),by simp,c.alloc (by simp) _⟩}
def Ten (w:M)(g:Nat)(v0 v1 v2 v3 v4 v5 v6 v7 v8 v9:ZC):Prop:=g<w.heap.size/\(A w (Q g 0 Y)=T v0/\w.frozen? (Q g 0 Y)=ZA)/\(A w (Q g 1 Y)=T v1/\w.frozen? (Q g 1 Y)=ZA)/\(A w (Q g 2 Y)=T v2/\w.frozen? (Q g 2 Y)=ZA)/\(A w (Q g 3 Y)=T v3/\w.frozen? (Q g 3 Y)=ZA)/\(A w (Q g 4 Y)=T v4/\w.frozen? (Q g 4 Y)=ZA)/\(A w (Q g 5 Y)=T v5/\w.frozen? (Q g 5 Y)=ZA)/\(A w (Q g 6 Y)=T v6/\w.frozen? (Q g 6 Y)=ZA)/\(A w (Q g 7 Y)=T v7/\w.frozen? (Q g 7 Y)=ZA)/\(A w (Q g 8 Y)=T v8/\w.frozen? (Q g 8 Y)=ZA)/\(A w (Q g 9 Y)=T v9/\w.frozen? (Q g 9 Y)=ZA)
section
variable {w w':M}{g:Nat}{v0 v1 v2 v3 v4 v5 v6 v7 v8 v9:ZC}
theorem Ten.of_block (h:Ten w g v0 v1 v2 v3 v4 v5 v6 v7 v8 v9)(hz:w.heap.size<=w'.heap.size)(hb:w'.heap[g]?=w.heap[g]?):Ten w' g v0 v1 v2 v3 v4 v5 v6 v7 v8 v9:=by have c:∀o,A w' (Q g o Y)=A w (Q g o Y):=λo=>cq (a:=(Q g o Y)) hb;have b:∀o,w'.frozen? (Q g o Y)=w.frozen? (Q g o Y):=λo=>JN (a:=(Q g o Y)) hb;unfold Ten at h ⊢;simp only[c,b];exact⟨lj h.1 hz,h.2⟩
theorem Ten.aa (h:Ten w g v0 v1 v2 v3 v4 v5 v6 v7 v8 v9)(hb:Below B w w')(b:g<B):Ten w' g v0 v1 v2 v3 v4 v5 v6 v7 v8 v9:=h.of_block hb.size (hb.block g b)
theorem Ten.grown{row:Option Nat}(h:Ten w g v0 v1 v2 v3 v4 v5 v6 v7 v8 v9)(hb:w.grownBy w' row)(b:T g≠row):Ten w' g v0 v1 v2 v3 v4 v5 v6 v7 v8 v9:=h.of_block hb.size (hb.block g h.1 b)
theorem Ten.al (h:Ten w g v0 v1 v2 v3 v4 v5 v6 v7 v8 v9)(o:Obj):Ten (w.alloc o) g v0 v1 v2 v3 v4 v5 v6 v7 v8 v9:=h.aa ((q9 w).alloc ly o) h.1
theorem Ten.other (h:Ten w g v0 v1 v2 v3 v4 v5 v6 v7 v8 v9)(p:Addr)(u:ZC)(b:p.block≠g):Ten (w.setCell p u) g v0 v1 v2 v3 v4 v5 v6 v7 v8 v9:=h.of_block (by simp) (qh w p u g (λe=>b e.symm))
end
theorem li (w:M)(v0 v1 v2 v3 v4 v5 v6 v7 v8 v9:ZC)(t:ZH)(g:Nat)(b:g=w.heap.size):Ten (w.alloc (N #[v0,v1,v2,v3,v4,v5,v6,v7,v8,v9] t)) g v0 v1 v2 v3 v4 v5 v6 v7 v8 v9:=by subst b;simp[Ten]
section
variable {w:M}{g:Nat}{v0 v1 v2 v3 v4 v5 v6 v7 v8 v9:ZC}
theorem Ten.sets (h:Ten w g v0 v1 v2 v3 v4 v5 v6 v7 v8 v9)(u:ZC):Ten (w.setCell (Q g 0 Y) u) g u v1 v2 v3 v4 v5 v6 v7 v8 v9/\Ten (w.setCell (Q g 1 Y) u) g v0 u v2 v3 v4 v5 v6 v7 v8 v9/\Ten (w.setCell (Q g 2 Y) u) g v0 v1 u v3 v4 v5 v6 v7 v8 v9/\Ten (w.setCell (Q g 3 Y) u) g v0 v1 v2 u v4 v5 v6 v7 v8 v9/\Ten (w.setCell (Q g 4 Y) u) g v0 v1 v2 v3 u v5 v6 v7 v8 v9/\Ten (w.setCell (Q g 5 Y) u) g v0 v1 v2 v3 v4 u v6 v7 v8 v9/\Ten (w.setCell (Q g 6 Y) u) g v0 v1 v2 v3 v4 v5 u v7 v8 v9/\Ten (w.setCell (Q g 7 Y) u) g v0 v1 v2 v3 v4 v5 v6 u v8 v9/\Ten (w.setCell (Q g 8 Y) u) g v0 v1 v2 v3 v4 v5 v6 v7 u v9/\Ten (w.setCell (Q g 9 Y) u) g v0 v1 v2 v3 v4 v5 v6 v7 v8 u:=by have o:∀i j:Nat,i≠j->(w.setCell (Q g i Y) u).cell? (Q g j Y)=A w (Q g j Y):=λi j hij=>sq _ _ _ _ (by simp);have s:∀i v,A w (Q g i Y)=T v->(w.setCell (Q g i Y) u).cell? (Q g i Y)=T u:=λi v e=>DN _ _ _ (by rw[e];rfl);obtain⟨z,⟨m,E⟩,⟨b,C⟩,⟨t,B⟩,⟨c,ZR⟩,⟨q,x⟩,⟨n,G⟩,⟨l,y⟩,⟨r,D⟩,⟨f,F⟩,p,H⟩:=h;simp[Ten,o,z,s _ _ m,s _ _ b,s _ _ t,s _ _ c,s _ _ q,s _ _ n,s _ _ l,s _ _ r,s _ _ f,s _ _ p,m,b,t,c,q,n,l,r,f,p,E,C,B,ZR,x,G,y,D,F,H]
theorem Ten.set0 (h:Ten w g v0 v1 v2 v3 v4 v5 v6 v7 v8 v9)(u:ZC):Ten (w.setCell (Q g 0 Y) u) g u v1 v2 v3 v4 v5 v6 v7 v8 v9:=(h.sets u).1
theorem Ten.set1 (h:Ten w g v0 v1 v2 v3 v4 v5 v6 v7 v8 v9)(u:ZC):Ten (w.setCell (Q g 1 Y) u) g v0 u v2 v3 v4 v5 v6 v7 v8 v9:=(h.sets u).2.1
theorem Ten.set2 (h:Ten w g v0 v1 v2 v3 v4 v5 v6 v7 v8 v9)(u:ZC):Ten (w.setCell (Q g 2 Y) u) g v0 v1 u v3 v4 v5 v6 v7 v8 v9:=(h.sets u).2.2.1
theorem Ten.set3 (h:Ten w g v0 v1 v2 v3 v4 v5 v6 v7 v8 v9)(u:ZC):Ten (w.setCell (Q g 3 Y) u) g v0 v1 v2 u v4 v5 v6 v7 v8 v9:=(h.sets u).2.2.2.1
theorem Ten.set4 (h:Ten w g v0 v1 v2 v3 v4 v5 v6 v7 v8 v9)(u:ZC):Ten (w.setCell (Q g 4 Y) u) g v0 v1 v2 v3 u v5 v6 v7 v8 v9:=(h.sets u).2.2.2.2.1
theorem Ten.set5 (h:Ten w g v0 v1 v2 v3 v4 v5 v6 v7 v8 v9)(u:ZC):Ten (w.setCell (Q g 5 Y) u) g v0 v1 v2 v3 v4 u v6 v7 v8 v9:=(h.sets u).2.2.2.2.2.1
theorem Ten.set6 (h:Ten w g v0 v1 v2 v3 v4 v5 v6 v7 v8 v9)(u:ZC):Ten (w.setCell (Q g 6 Y) u) g v0 v1 v2 v3 v4 v5 u v7 v8 v9:=(h.sets u).2.2.2.2.2.2.1
theorem Ten.set7 (h:Ten w g v0 v1 v2 v3 v4 v5 v6 v7 v8 v9)(u:ZC):Ten (w.setCell (Q g 7 Y) u) g v0 v1 v2 v3 v4 v5 v6 u v8 v9:=(h.sets u).2.2.2.2.2.2.2.1
theorem Ten.set8 (h:Ten w g v0 v1 v2 v3 v4 v5 v6 v7 v8 v9)(u:ZC):Ten (w.setCell (Q g 8 Y) u) g v0 v1 v2 v3 v4 v5 v6 v7 u v9:=(h.sets u).2.2.2.2.2.2.2.2.1
theorem Ten.set9 (h:Ten w g v0 v1 v2 v3 v4 v5 v6 v7 v8 v9)(u:ZC):Ten (w.setCell (Q g 9 Y) u) g v0 v1 v2 v3 v4 v5 v6 v7 v8 u:=(h.sets u).2.2.2.2.2.2.2.2.2
end
theorem Ih (w:M)(b:Array ZC)(ty:ZH)(R ZI:Obj)(j:Nat)(v:ZC)(c:b[j]?=T v):(((w.alloc (N b ty)).alloc R).alloc ZI).cell? (Q w.heap.size j Y)=T v:=by rw[(((eL (w.alloc (N b ty)).heap.size _).alloc ly R).alloc (by simp) ZI).cell (p:=(Q w.heap.size j Y)) (by simp)];simp[c]
abbrev SO:=(Nat × Nat × Nat × List ByteArray) ⊕ (Int × ByteArray × Nat) ⊕ (Bool × ByteArray × Nat)
abbrev strs (s:List ByteArray):List ZC:=s.reverse.map Value.string
def SoIs (w:M)(base:Nat)(v:ZC):SO->Prop
 |.inl (p,st,l,s)=>∃a cap,v=eh p (Z a s.length cap) st l ZA 0 ⟨#[]⟩ ZA ⟨#[]⟩ ZA/\w.ownsRow base 9 1 (Z a s.length cap) s.length (strs s)
 |.inr (.inl (c,x,st))=>∃(at_:Int) (a:Option Addr) (n cap:Nat) (lk:Int),v=eh at_ (Z a n cap) st lk ZG c x ZA ⟨#[]⟩ ZA
 |.inr (.inr (ask,nm,st))=>∃(at_:Int) (a:Option Addr) (n cap:Nat) (lk:Int),v=eh at_ (Z a n cap) st lk ZA 0 ⟨#[]⟩ ask nm ZG
theorem SoIs.kept{b:Nat}{v:ZC}{r:SO}(h:SoIs w base v r)(hb:Below w.heap.size w w')(f:b<=base):SoIs w' b v r:=by
 rcases r with ⟨p,st,l,s⟩|⟨c,x,st⟩|⟨ask,nm,st⟩
 {obtain⟨a,cap,e,g⟩:=h;exact⟨a,cap,e,aC (own_below g hb ly) f⟩};{exact h};{exact h}
theorem AM{k:Nat}{c:ByteArray}{i:Int}{b:List ZC}(h:w.ownsRow base e 1 (Z (T (Q g 0 Y)) n cap) n b)(j:b[0]?=T (U c))(f:A w (Q k 0 Y)=T (J I i)):k≠g:=by rintro rfl;have:=h.cells (g:=k) rfl 0 _ j;simp[Addr.add] at this;rw[f] at this;simp at this
theorem gH (x:ByteArray)(s:List ByteArray):strs (x::s)=strs s++[U x]:=by simp[strs]
theorem xA:∃b,(strs s++[Value.string x])[0]?=T (U b):=by
 rw[<-gH];simp only[strs,MK,MN];have h:0<(x::s).reverse.length:=by simp
 exact⟨_,_,gq h,rfl⟩
theorem dZ{b:List ZC}(h:w.ownsRow base e 1 (Z (T (Q g 0 Y)) n cap) n b){k:Nat}(c:k≠g)(u:ZC)(j:Nat):(w.setCell (Q k j Y) u).ownsRow base e 1 (Z (T (Q g 0 Y)) n cap) n b :=
 TX h (by simp[Value.ownBlock];exact λe=>c e.symm) u
theorem Ed{c:List ZC}(h:w.ownsRow base e 1 (Z (T (Q g 0 Y)) n cap) n c){k:Nat}(b:k≠g)(v0 v1 v2 v3 v4 v5 v6 v7 v8 v9:ZC):World.ownsRow ((((((((((w.setCell (Q k 0 Y) v0).setCell (Q k 1 Y) v1).setCell (Q k 2 Y) v2).setCell (Q k 3 Y) v3).setCell (Q k 4 Y) v4).setCell (Q k 5 Y) v5).setCell (Q k 6 Y) v6).setCell (Q k 7 Y) v7).setCell (Q k 8 Y) v8).setCell (Q k 9 Y) v9) base e 1 (Z (T (Q g 0 Y)) n cap) n c :=
 dZ (dZ (dZ (dZ (dZ (dZ (dZ (dZ (dZ (dZ h b v0 0) b v1 1) b v2 2) b v3 3) b v4 4) b v5 5) b v6 6) b v7 7) b v8 8) b v9 9
def km (y:Nat->aK)(n:Nat)(a:Bool)(nm:ByteArray)(s:List ByteArray)(p st l:Nat):SO :=
 if n<=l then .inr (.inr (a,nm,st)) else if a=ZA then .inl (p,st,(l+1),(iM (y l).has::s)) else if (y l).has=ZA then .inr (.inl (4,nm,st))
 else if (y l).B=0 then .inl (p,st,(l+1),((y l).h::s)) else .inr (.inl (5,nm,st))
def jN (y:Nat->aK)(n op:Nat)(pl nm:ByteArray)(s:List ByteArray)(p st l:Nat):SO :=
 if aw nm=ZA then .inr (.inl (2,pl,st)) else if l=200 then .inr (.inl (3,⟨#[]⟩,st)) else km y n ((op:Int) == 12) nm s p st l
theorem AN{op:Nat}{pl:ByteArray}{st l:Nat}{b:SO}(h:b=jN y n op pl nm s p st l)(f:op=12∨op=13):(aw nm=ZA/\b=.inr (.inl (2,pl,st)))∨(aw nm=ZG/\((l:Int) == 200)=ZG/\b=.inr (.inl (3,⟨#[]⟩,st))) ∨
  (aw nm=ZG/\((l:Int) == 200)=ZA/\((n<=l/\b=.inr (.inr (((op:Int) == 12),nm,st)))∨(l<n/\((op=13/\b=.inl (p,st,(l+1),(iM (y l).has::s)))∨(op=12/\(((y l).has=ZA/\b=.inr (.inl (4,nm,st)))∨((y l).has=ZG/\(((y l).B=0/\b=.inl (p,st,(l+1),((y l).h::s)))∨(((y l).B == 0)=ZA/\b=.inr (.inl (5,nm,st))))))))))):=by
 unfold jN km at h;by_cases h1:aw nm=ZA;{rw[p7 h1] at h;exact .inl ⟨h1,h⟩};rw[nD h1] at h;have h1:aw nm=ZG:=by simpa using h1
 by_cases h2:l=200;{rw[p7 h2] at h;exact .inr (.inl ⟨h1,by simp;omega,h⟩)};rw[nD h2] at h;refine .inr (.inr ⟨h1,by simp;omega,?_⟩);by_cases h3:n<=l;{rw[p7 h3] at h;exact .inl ⟨h3,h⟩};rw[nD h3] at h;refine .inr ⟨by omega,?_⟩;rcases f with rfl|rfl;{rw[nD (by simp)] at h;by_cases h4:(y l).has=ZA;{rw[p7 h4] at h;exact .inr ⟨rfl,.inl ⟨h4,h⟩⟩};rw[nD h4] at h;by_cases c:(y l).B=0;{rw[p7 c] at h;exact .inr ⟨rfl,.inr ⟨by simpa using h4,.inl ⟨c,h⟩⟩⟩};rw[nD c] at h;exact .inr ⟨rfl,.inr ⟨by simpa using h4,.inr ⟨by simpa using c,h⟩⟩⟩};{rw[p7 (by simp)] at h;exact .inl ⟨rfl,h⟩}
structure LkS (w:M)(op:Int)(base:Nat)(a:Option Addr)(cap:Nat)(s:List ByteArray)(p st lk:Int)(V:M):Prop where
 run:Ten V (w.heap.size+1) (J I p) (Z a s.length cap) (J I st) (J I lk) (ZD ZA) (J I 0) (U ⟨#[]⟩) (ZD ZA) (U ⟨#[]⟩) (ZD ZA)
 zer:Ten V (w.heap.size+1+1) (J I 0) (Z Y 0 0) (J I 0) (J I 0) (ZD ZA) (J I 0) (U ⟨#[]⟩) (ZD ZA) (U ⟨#[]⟩) (ZD ZA)
 bl:Below w.heap.size w V
 i:V.ownsRow base 9 1 (Z a s.length cap) s.length (strs s)
 ne:∀k,w.heap.size<=k->Value.ownBlock (Z a s.length cap)≠T k
 arg:A V (Q w.heap.size 0 Y)=T (J I op)
section
variable {w V ZK:M}{base cap:Nat}{a:Option Addr}{s:List ByteArray}{op p st lk:Int}
theorem LkS.aa (h:LkS w op base a cap s p st lk V)(b:Below V.heap.size V ZK):LkS w op base a cap s p st lk ZK :=
 ⟨h.run.aa b h.run.1,h.zer.aa b h.zer.1,h.bl.trans (b.mono h.bl.size),own_below h.i b ly,h.ne,(b.cell (p:=(Q w.heap.size 0 Y)) (by have:=h.run.1;show w.heap.size<_;omega)).trans h.arg⟩
theorem LkS.next (h:LkS w op base a cap s p st lk V)(q:Int):LkS w op base a cap s p st q (V.setCell (Q (w.heap.size+1) 3 Y) (J I q)) :=
 ⟨h.run.set3 _,h.zer.other _ _ (by simp),h.bl.setCell (p:=(Q (w.heap.size+1) 3 Y)) (by simp) _,TX h.i (a:=(Q (w.heap.size+1) 3 Y)) (h.ne _ (by simp)) _,h.ne,(sq _ _ _ _ (by simp)).trans h.arg⟩
theorem LkS.al (h:LkS w op base a cap s p st lk V)(o:Obj):LkS w op base a cap s p st lk (V.alloc o):=h.aa (br.alloc ly o)
theorem LkS.drew (h:LkS w op base a cap s p st lk V):LkS w op base a cap s p st lk V.drew:=h.aa br.drew
theorem LkS.grown (h:LkS w op base a cap s p st lk V)(b:V.grownBy ZK (Value.slice a s.length cap).ownBlock)(hb:base<=w.heap.size):Ten ZK (w.heap.size+1) (J I p) (Z a s.length cap) (J I st) (J I lk) (ZD ZA) (J I 0) (U ⟨#[]⟩) (ZD ZA) (U ⟨#[]⟩) (ZD ZA)/\Ten ZK (w.heap.size+1+1) (J I 0) (Z Y 0 0) (J I 0) (J I 0) (ZD ZA) (J I 0) (U ⟨#[]⟩) (ZD ZA) (U ⟨#[]⟩) (ZD ZA)/\Below base w ZK :=
 ⟨h.run.grown b λe=>h.ne _ (by omega) e.symm,h.zer.grown b λe=>h.ne _ (by omega) e.symm,bg (h.bl.mono hb) b (p9 hb h.bl.size) λk e=>(h.i.lt k e).1⟩
end
theorem yT (op:Nat)(t:ByteArray)(k:Int)(p st l:Nat)(a:Option Addr)(cap:Nat)(s:List ByteArray)(nm pl:ByteArray)(b2 o2 n S base:Nat)(y:Nat->aK)(w:M)
  (hY:RowReply w b2 o2 n y) (R:w.ownsRow base 9 1 (Z a s.length cap) s.length (strs s)) (hb:base<=w.heap.size) (la:op=12∨op=13) (hl:l<=200) (hs:s.length<=50) :
  Calls Pg 183 #[.agg #[J I op,U t,J I k],eh p (Z a s.length cap) st l ZA 0 ⟨#[]⟩ ZA ⟨#[]⟩ ZA,U nm,U pl,Z (T (Q b2 o2 Y)) n S] w λe w'=>∃v,e=ZF v/\SoIs w' base v (jN y n op pl nm s p st l)/\Below base w w':=by
 obtain⟨so,ZR⟩:∃so,so=jN y n op pl nm s p st l:=⟨_,rfl⟩
 rw[<-ZR];have HQ:=ae (AN ZR la);have HY:=ae hY;have A0:=ae ((((q9 w).alloc ly (N #[J I op,U t,J I k] 90)).alloc (by simp) (N #[J I p,Z a s.length cap,J I st,J I l,ZD ZA,J I 0,U ⟨#[]⟩,ZD ZA,U ⟨#[]⟩,ZD ZA] 238)).alloc (by simp<;>omega) (N #[J I 0,Z Y 0 0,J I 0,J I 0,ZD ZA,J I 0,U ⟨#[]⟩,ZD ZA,U ⟨#[]⟩,ZD ZA] 238));have C:=ae (LkS.mk (p:=p) (st:=st) (lk:=l) ((li (w.alloc (N #[J I op,U t,J I k] 90)) _ _ _ _ _ _ _ _ _ _ 238 (w.heap.size+1) (by simp)).al _) (li _ _ _ _ _ _ _ _ _ _ _ 238 (w.heap.size+1+1) (by simp)) A0.out (own_below R A0 ly) (λk hk e=>by have:=(R.lt k e).2;omega) (Ih w #[J I op,U t,J I k] 90 (N #[J I p,Z a s.length cap,J I st,J I l,ZD ZA,J I 0,U ⟨#[]⟩,ZD ZA,U ⟨#[]⟩,ZD ZA] 238) (N #[J I 0,Z Y 0 0,J I 0,J I 0,ZD ZA,J I 0,U ⟨#[]⟩,ZD ZA,U ⟨#[]⟩,ZD ZA] 238) 0 (J I op) rfl));clear ZR hY R A0;go_enter func183,ntmps183;go_wp2_with fail;generalize World.alloc (World.alloc (World.alloc w _) _) _=W0 at C ⊢;refine(cZ nm _).mono ?_;rintro e f ⟨rfl,B⟩;replace C:=ae (C.aa B);have hz1:=C.zer.1;have i0:=C.arg;clear B;have R1:=ae C.run;obtain⟨x,⟨c0,f0⟩,⟨c1,f1⟩,⟨c2,ZQ⟩,⟨c3,K⟩,⟨c4,O⟩,⟨c5,ZJ⟩,⟨c6,f6⟩,⟨L,f7⟩,⟨ZL,ZK⟩,c9,f9⟩:=R1.out;rcases HQ.out with ⟨h1,rfl⟩|⟨h1,h2,rfl⟩|⟨h1,h2,⟨h3,rfl⟩|⟨h3,h⟩⟩
 all_goals
  rw[h1];clear HQ
 case' inr.inr.inl =>
  have ZE:=ae (((C.zer.other (Q (w.heap.size+1) 9 Y) (ZD ZG) (by simp)).other (Q (w.heap.size+1) 7 Y) (ZD ((op:Int) == 12)) (by simp)).other (Q (w.heap.size+1) 8 Y) (U nm) (by simp));have B2:=ae (((C.bl.setCell (p:=(Q (w.heap.size+1) 9 Y)) (by simp) (ZD ZG)).setCell (p:=(Q (w.heap.size+1) 7 Y)) (by simp) (ZD ((op:Int) == 12))).setCell (p:=(Q (w.heap.size+1) 8 Y)) (by simp) (U nm));obtain⟨r,⟨z0,y0⟩,⟨z1,y1⟩,⟨z2,y2⟩,⟨z3,X⟩,⟨i,y4⟩,⟨o,ZI⟩,⟨q,P⟩,⟨g,y7⟩,⟨m,V⟩,j,ZN⟩:=ZE.out;have hw:(n:Int)<=l:=by omega
  go_wp2;exact bp (v:=eh p (Z a s.length cap) st l ZA 0 ⟨#[]⟩ ((op:Int) == 12) nm ZG) (by simp[results,QX,go_sem,z0,z1,z2,z3,i,o,q,g,m,j]) rfl ⟨_,rfl,⟨_,_,_,_,_,rfl⟩,dY (B2.mono hb) (by omega) _ _ _ _ _ _ _ _ _ _⟩
 case' inr.inr.inr =>
  obtain⟨d0,d1,d2⟩:=(HY.aa C.bl ly).2 l h3;have hln:(l:Int)<n:=by omega
  have hz0:w.heap.size<f.heap.size:=by omega
  have hz01:w.heap.size+1<f.heap.size:=by omega
  replace C:=ae ((C.next ((l:Int)+1)).al (N #[ZD (y l).has,J I (y l).B,U (y l).h] 232));have ZM:=jb (f.setCell (Q (w.heap.size+1) 3 Y) (J I ((l:Int)+1))) #[ZD (y l).has,J I (y l).B,U (y l).h] 232 f.heap.size 0 (ZD (y l).has) (by simp) rfl;have g1:=jb (f.setCell (Q (w.heap.size+1) 3 Y) (J I ((l:Int)+1))) #[ZD (y l).has,J I (y l).B,U (y l).h] 232 f.heap.size 1 (J I (y l).B) (by simp) rfl;have g2:=jb (f.setCell (Q (w.heap.size+1) 3 Y) (J I ((l:Int)+1))) #[ZD (y l).has,J I (y l).B,U (y l).h] 232 f.heap.size 2 (U (y l).h) (by simp) rfl;have dg:f.heap.size<((f.setCell (Q (w.heap.size+1) 3 Y) (J I ((l:Int)+1))).alloc (N #[ZD (y l).has,J I (y l).B,U (y l).h] 232)).heap.size:=by simp
  go_upto_region 12 with fail;clear x c0 f0 c1 f1 c2 ZQ c3 K c4 O c5 ZJ c6 f6 L f7 ZL ZK c9 f9 R1 d0 d1 d2 i0;generalize World.alloc (World.setCell f _ _) _=W at C ZM g1 g2 dg ⊢;have i0:=C.arg;have hbW:base<=W.heap.size:=p9 hb C.bl.size;obtain⟨ZO,hi,ZP,E,F⟩:=LY lw;obtain⟨x,⟨c0,f0⟩,⟨c1,f1⟩,⟨c2,ZQ⟩,⟨c3,K⟩,⟨c4,O⟩,⟨c5,ZJ⟩,⟨c6,f6⟩,⟨L,f7⟩,⟨ZL,ZK⟩,c9,f9⟩:=C.run;rcases h with ⟨rfl,rfl⟩|⟨rfl,⟨h4,rfl⟩|⟨h4,⟨h5,rfl⟩|⟨h5,rfl⟩⟩⟩
  case' inr.inl|inr.inr.inr=>rw[h4] at ZM
  case' inr.inr.inl =>rw[h4] at ZM;rw[h5] at g1;go_wp2_with (at_builtin;refine BS _ rfl (.tmp 70) (.tmp 73) 66 rfl base 9 ZO (U ⟨#[]⟩) 1 16 IH hi ZP E F rfl (by decide) (Z a s.length cap) s.length (strs s) (by simp[Act.eval]) (by first|exact C.i.alloc _|exact C.i.drew.alloc _|exact C.i.drew.drew.alloc _) (Q W.heap.size 0 Y) 1 1 [U (y l).h] (by simp[Act.eval]) rfl (by first|exact ci W _ _|exact ci W.drew _ _|exact ci W.drew.drew _ _) (by simp[Value.oneCell']) (by unfold maxLen;omega) (by omega) (by simp<;>omega) ?_;intro v' w2 b c z;obtain⟨gg,u,rfl⟩:=dl b (by omega);have G:=ae (LkS.grown (by first|exact C.al _|exact C.drew.al _|exact C.drew.drew.al _) c hb);obtain⟨bt,⟨k0,m0⟩,⟨k1,m1⟩,⟨k2,m2⟩,⟨k3,m3⟩,⟨k4,m4⟩,⟨k5,m5⟩,⟨k6,m6⟩,⟨k7,m7⟩,⟨k8,m8⟩,k9,m9⟩:=G.1;obtain⟨r,⟨z0,y0⟩,⟨z1,y1⟩,⟨z2,y2⟩,⟨z3,X⟩,⟨i,y4⟩,⟨o,ZI⟩,⟨q,P⟩,⟨g,y7⟩,⟨m,V⟩,j,ZN⟩:=G.2.1)
  case' inl =>go_wp2_with fail;go_region_law (first|(refine eF rfl (.tmp 49) (.tmp 53) 66 rfl base 9 ZO (U ⟨#[]⟩) 1 16 IH hi ZP E F rfl (by decide) (Z a s.length cap) s.length (strs s) (by simp[Act.eval]) (by first|exact C.i.alloc _|exact C.i.drew.alloc _|exact C.i.drew.drew.alloc _) (Q W.heap.size 0 Y) 1 1 [U (iM (y l).has)] (by simp[Act.eval]) rfl (by first|exact ci W _ _|exact ci W.drew _ _|exact ci W.drew.drew _ _) (by simp[Value.oneCell']) (by unfold maxLen;omega) (by omega) (by simp<;>omega) ?_;intro v' w2 b c z;obtain⟨gg,u,rfl⟩:=dl b (by omega);have G:=ae (LkS.grown (by first|exact C.al _|exact C.drew.al _|exact C.drew.drew.al _) c hb);obtain⟨bt,⟨k0,m0⟩,⟨k1,m1⟩,⟨k2,m2⟩,⟨k3,m3⟩,⟨k4,m4⟩,⟨k5,m5⟩,⟨k6,m6⟩,⟨k7,m7⟩,⟨k8,m8⟩,k9,m9⟩:=G.1;obtain⟨r,⟨z0,y0⟩,⟨z1,y1⟩,⟨z2,y2⟩,⟨z3,X⟩,⟨i,y4⟩,⟨o,ZI⟩,⟨q,P⟩,⟨g,y7⟩,⟨m,V⟩,j,ZN⟩:=G.2.1)|(go_simp;go_at_call 54;refine(pH _ _).mono ?_;rintro e w9 ⟨rfl,aq⟩;subst aq))
  all_goals (try (have H:=AM b (xA (s:=s)).choose_spec G.1.2.1.1;have fd:=AM b (xA (s:=s)).choose_spec G.2.1.2.1.1;have ld:=ae (dZ b H (Z (T (Q gg 0 Y)) (s.length+1) u) 1);have B4:=ae (G.2.2.setCell (p:=(Q (w.heap.size+1) 1 Y)) (by simp;omega) (Z (T (Q gg 0 Y)) (s.length+1) u));clear b c z H;(try go_wp2);refine bp (v:=eh p (Z (T (Q gg 0 Y)) (s.length+1) u) st ((l:Int)+1) ZA 0 ⟨#[]⟩ ZA ⟨#[]⟩ ZA) (by simp[results,QX,go_sem,z0,z1,z2,z3,i,o,q,g,m,j]) rfl ⟨_,rfl,⟨T (Q gg 0 Y),u,by simp,?_⟩,dY B4.out (by omega) _ _ _ _ _ _ _ _ _ _⟩;rw[gH];exact Ed ld fd _ _ _ _ _ _ _ _ _ _))
 all_goals
  go_wp2_with fail;refine(fG _ _ _ _ _ _ _ _ _ _ _ _ _ _ _).mono ?_;rintro e w2 ⟨rfl,D⟩;replace C:=ae (C.aa D);clear D x c0 f0 c1 f1 c2 ZQ c3 K c4 O c5 ZJ c6 f6 L f7 ZL ZK c9 f9;obtain⟨r,⟨z0,y0⟩,⟨z1,y1⟩,⟨z2,y2⟩,⟨z3,X⟩,⟨i,y4⟩,⟨o,ZI⟩,⟨q,P⟩,⟨g,y7⟩,⟨m,V⟩,j,ZN⟩:=C.zer;go_wp2;first
   |exact bp (v:=eh p (Z a s.length cap) st l ZG 3 ⟨#[]⟩ ZA ⟨#[]⟩ ZA) (by simp[results,QX,go_sem,z0,z1,z2,z3,i,o,q,g,m,j]) rfl ⟨_,rfl,⟨_,_,_,_,_,rfl⟩,dY (C.bl.mono hb) (by omega) _ _ _ _ _ _ _ _ _ _⟩
   |exact bp (v:=eh p (Z a s.length cap) st l ZG 2 pl ZA ⟨#[]⟩ ZA) (by simp[results,QX,go_sem,z0,z1,z2,z3,i,o,q,g,m,j]) rfl ⟨_,rfl,⟨_,_,_,_,_,rfl⟩,dY (C.bl.mono hb) (by omega) _ _ _ _ _ _ _ _ _ _⟩
   |exact bp (v:=eh p (Z a s.length cap) st ((l:Int)+1) ZG 4 nm ZA ⟨#[]⟩ ZA) (by simp[results,QX,go_sem,z0,z1,z2,z3,i,o,q,g,m,j]) rfl ⟨_,rfl,⟨_,_,_,_,_,rfl⟩,dY (C.bl.mono hb) (by omega) _ _ _ _ _ _ _ _ _ _⟩
   |exact bp (v:=eh p (Z a s.length cap) st ((l:Int)+1) ZG 5 nm ZA ⟨#[]⟩ ZA) (by simp[results,QX,go_sem,z0,z1,z2,z3,i,o,q,g,m,j]) rfl ⟨_,rfl,⟨_,_,_,_,_,rfl⟩,dY (C.bl.mono hb) (by omega) _ _ _ _ _ _ _ _ _ _⟩
theorem add0 (g j:Nat):((Q g 0 Y):Addr).add j=(Q g j Y):=by unfold Addr.add;split<;>simp_all
theorem Gr{r:List ByteArray}(h:w.ownsRow base e 1 (Z (T (Q g 0 Y)) (r.length+1) cap) (r.length+1) (strs (x::r))):A w (Q g r.length Y)=T (U x):=by have:=h.cells (g:=g) rfl r.length (U x) (by rw[gH,I5 (by simp)];simp);rwa[add0] at this
theorem Gs{z:ByteArray}{r:List ByteArray}(h:w.ownsRow base e 1 (Z (T (Q g 0 Y)) (r.length+2) cap) (r.length+2) (strs (x::z::r))):A w (Q g (r.length+1) Y)=T (U x)/\A w (Q g r.length Y)=T (U z):=by have h1:=h.cells (g:=g) rfl (r.length+1) (U x) (by rw[gH,I5 (by simp)];simp);have h2:=h.cells (g:=g) rfl r.length (U z) (by rw[gH,MM (by simp),gH,I5 (by simp)];simp);rw[add0] at h1 h2;exact⟨h1,h2⟩
theorem Gt{b:List ZC}(h:w.ownsRow base e 1 (Z (T (Q g 0 Y)) n cap) n b):n<=cap:=by
 rcases h.2 with ⟨f,_⟩|⟨g,c,cur,i,_,_,hn,_⟩
 {simp at f};{simp at i;omega}
theorem Gu{r:List ByteArray}{xs:List ZC}(h:w.ownsRow base e 1 (Z (T (Q g 0 Y)) n cap) n (strs r++xs)):∀j u,(strs r)[j]?=T u->w.cell? (((Q g 0 Y):Addr).add j)=T u:=λj u b =>h.cells (g:=g) rfl j u (by rw[MM (by obtain⟨c,_⟩:=p6.1 b;exact c)];exact b)
theorem rP{v:ZC}{f:List ZC}(h:w.ownsRow base e 1 v n f)(b:v≠.slice Y 0 0):∃g cap,v=Z (T (Q g 0 Y)) n cap/\base<=g:=by
 rcases h.2 with ⟨i,_⟩|⟨g,cap,cur,b,c,_⟩
 {exact absurd i b};{exact⟨g,cap,b,c⟩}
theorem Ee (r:List ByteArray):∀u∈strs r,u.oneCell'=ZG:=by intro u b;obtain⟨x,_,rfl⟩:=PC.1 b;rfl
theorem SoIs.aq{v:ZC}{r:SO}(h:SoIs w base v r):∃(at_:Int) (a:Option Addr) (n cap:Nat) (st lk:Int) (b:Bool) (c:Int) (x:ByteArray) (ask:Bool) (nm:ByteArray) (f:Bool),v=eh at_ (Z a n cap) st lk b c x ask nm f:=by
 rcases r with ⟨p,st,l,s⟩|⟨c,x,st⟩|⟨ask,nm,st⟩
 {obtain⟨a,cap,e,_⟩:=h;exact⟨_,_,_,_,_,_,_,_,_,_,_,_,e⟩};{obtain⟨at_,a,n,cap,lk,e⟩:=h;exact⟨_,_,_,_,_,_,_,_,_,_,_,_,e⟩};{obtain⟨at_,a,n,cap,lk,e⟩:=h;exact⟨_,_,_,_,_,_,_,_,_,_,_,_,e⟩}
theorem SoIs.set{v:ZC}{r:SO}(h:SoIs w base v r){k:Nat}(b:k<base)(j:Nat)(u:ZC):SoIs (w.setCell (Q k j Y) u) base v r:=by
 rcases r with ⟨p,st,l,s⟩|⟨c,x,st⟩|⟨ask,nm,st⟩
 {obtain⟨a,cap,e,f⟩:=h;exact⟨a,cap,e,TY f (a:=(Q k j Y)) b u⟩};{exact h};{exact h}
theorem SoIs.mono{base':Nat}{v:ZC}{r:SO}(h:SoIs w base v r)(hb:base'<=base):SoIs w base' v r:=h.kept br hb
theorem AO{v:ZC}{r:SO}(h:SoIs w base v r){k:Nat}(b:k<base)(v0 v1 v2 v3 v4 v5 v6 v7 v8 v9:ZC):SoIs ((((((((((w.setCell (Q k 0 Y) v0).setCell (Q k 1 Y) v1).setCell (Q k 2 Y) v2).setCell (Q k 3 Y) v3).setCell (Q k 4 Y) v4).setCell (Q k 5 Y) v5).setCell (Q k 6 Y) v6).setCell (Q k 7 Y) v7).setCell (Q k 8 Y) v8).setCell (Q k 9 Y) v9) base v r :=
 (((((((((h.set b 0 v0).set b 1 v1).set b 2 v2).set b 3 v3).set b 4 v4).set b 5 v5).set b 6 v6).set b 7 v7).set b 8 v8).set b 9 v9
theorem yU (op n:Nat)(t a b:ByteArray)(h1:1<=op)(h11:op<=11):(bS op n t a b).length=cu op:=by rcases(show op=1∨op=2∨op=3∨op=4∨op=5∨op=6∨op=7∨op=8∨op=9∨op=10∨op=11 by omega) with rfl|rfl|rfl|rfl|rfl|rfl|rfl|rfl|rfl|rfl|rfl;all_goals rfl
theorem Gv{op:Nat}(h1:1<=op)(h11:op<=11)(h:j<cu op):op<=8:=by rcases(show op=1∨op=2∨op=3∨op=4∨op=5∨op=6∨op=7∨op=8∨op=9∨op=10∨op=11 by omega) with rfl|rfl|rfl|rfl|rfl|rfl|rfl|rfl|rfl|rfl|rfl;all_goals simp[cu] at h ⊢
theorem Ef (op:Nat):cu op<=2:=by
 unfold cu;split;{omega};{split<;>omega}
def gI (b:List ByteArray)(pl:ByteArray)(r:List ByteArray)(p st l:Nat):SO:=if b.all (λx=>decide (x.size<=2000)) then .inl (p,st,l,(b.reverse++r)) else .inr (.inl (2,pl,st))
theorem AR (h:j<b.length):(b.take (j+1)).map Value.string=(b.take j).map Value.string++[U (b.getD j ⟨#[]⟩)]:=by rw[RC,BG,gq h];simp[h]
theorem Eg (b r:List ByteArray):strs (b.reverse++r)=strs r++b.map Value.string:=by simp[strs]
theorem Gw (h:j<b.length)(c:¬ ((b.getD j ⟨#[]⟩).size:Int)<=2000):b.all (λx=>decide (x.size<=2000))=ZA:=by simp only[List.all_eq_false];exact⟨b[j],gz h,by simp[h] at c ⊢;omega⟩
theorem Eh (h:∀i,i<b.length->(b.getD i ⟨#[]⟩).size<=2000):b.all (λx=>decide (x.size<=2000))=ZG:=by simp only[List.all_eq_true,z8];intro x c;obtain⟨i,hi,rfl⟩:=List.mem_iff_getElem.1 c;have:=h i hi;simpa[hi] using this
def iD (y:Nat->aK)(n place st looks:Nat):Res->SO
 |.inr (.inl (c,x))=>.inr (.inl (c,x,st))
 |.inl (s',p)=>.inl (p,st,looks,s')
 |.inr (.inr (a,nm,s'))=>km y n a nm s' (place+1) st looks
def fU (f:Nat->Ins)(cnt:Nat)(y:Nat->aK)(n place steps looks:Nat)(s:List ByteArray):SO:=iD y n place (fm cnt place steps) looks (dm f cnt place steps looks s)
theorem AU{a:Option Addr}{i:List ZC}(h:w.ownsRow base e 1 (Z a n cap) n i):(a=Y/\n=0/\cap=0)∨∃g,a=T (Q g 0 Y):=by
 rcases h.2 with ⟨b,_⟩|⟨g,c,cur,f,_⟩
 {simp only[ML] at b;exact .inl b};{simp only[ML] at f;exact .inr ⟨g,f.1⟩}
theorem yV (op k:Nat)(t a b:ByteArray)(h1:1<=op)(h11:op<=11)(h2:op≠2)(f:t.size<=2000)(c:a.size<=2000)(hb:b.size<=2000):(bS op k t a b).all (λx=>decide (x.size<=2000))=ZG:=by
 rcases(show op=1∨op=3∨op=4∨op=5∨op=6∨op=7∨op=8∨op=9∨op=10∨op=11 by omega) with rfl|rfl|rfl|rfl|rfl|rfl|rfl|rfl|rfl|rfl;{simp[bS,f]};{simp only[bS,UD,UW,SN,z8];split;{simp;omega};{exact c}};{simp only[bS,UD,UW,SN,z8];split;{simp;omega};{decide}};{simp only[bS,UD,UW,SN,z8];exact p9 (pQ _ _) c};{simp only[bS,UD,UW,SN,z8];exact lX _};{simp[bS,c]};{simp[bS,c,hb]};{rfl};{rfl};{rfl}
theorem yW (op k:Nat)(t a b pl:ByteArray)(r:List ByteArray)(p st l:Nat)(h1:1<=op)(c:op<=11)(h2:op≠2)(f:t.size<=2000)(g:a.size<=2000)(hb:b.size<=2000):gI (bS op k t a b) pl r p st l=.inl (p,st,l,((bS op k t a b).reverse++r)):=by unfold gI;rw[yV op k t a b h1 c h2 f g hb];rfl
theorem Ii (k:Nat)(t x z:ByteArray)(r:List ByteArray)(y:Nat->aK)(n place st looks:Nat):iD y n place st looks (dO 2 k t place looks (x::z::r))=gI (bS 2 k t x z) (eW place) r (place+1) st looks:=by
 unfold gI;simp only[dO,bS,UD,UW,SN,MQ];by_cases h:z.size+x.size<=2000;{rw[p7 h,p7 (by simpa using h)];rfl};{rw[nD h,nD (by simpa using h)];rfl}
theorem xB (op:Nat)(y:Nat->aK)(n place st looks:Nat)(x:ByteArray)(r:List ByteArray)(b:Bool)(hb:((op:Int) == 12)=b):iD y n place st looks (kl b x r place looks)=jN y n op (eW place) x r (place+1) st looks:=by
 unfold kl jN;rw[hb];by_cases h1:aw x=ZA;{rw[p7 h1,p7 h1];rfl};{rw[nD h1,nD h1];by_cases h2:looks=200;{rw[p7 h2,p7 h2];rfl};{rw[nD h2,nD h2];rfl}}
theorem Ei (l r:List ByteArray):strs (l++r)=strs r++strs l:=by simp[strs]
def lY (op:Nat)(s:List ByteArray):ByteArray:=if 0<aZ op then s.getD 0 ⟨#[]⟩ else ⟨#[]⟩
def qH (op:Nat)(s:List ByteArray):ByteArray:=if 1<aZ op then s.getD 1 ⟨#[]⟩ else ⟨#[]⟩
def mU (op k:Nat)(a:ByteArray)(place:Nat):Nat:=if op=10 then k else if op=11/\(a.toList=[]∨(a.toList == [48])=ZG) then k else place+1
theorem Jj{op k:Nat}{ZR:ByteArray}(h:op=10∨op=11/\ZR.toList.isEmpty=ZG∨op=11/\(ZR.toList == [48])=ZG):mU op k ZR place=k:=by
 unfold mU;rcases h with rfl|⟨rfl,h⟩|⟨rfl,h⟩
 {rfl};{rw[nD (by omega),p7 ⟨rfl,.inl (List.isEmpty_iff.1 h)⟩]};{rw[nD (by omega),p7 ⟨rfl,.inr h⟩]}
theorem Gx (op:Nat)(ZR:ByteArray)(h:op<=15):op=15∨op=14∨op=12∨op=13∨op=10∨(op=11/\ZR.toList.isEmpty=ZG)∨(op=11/\ZR.toList.isEmpty=ZA/\(ZR.toList == [48])=ZG)∨(op=11/\ZR.toList.isEmpty=ZA/\(ZR.toList == [48])=ZA)∨op<=9:=by
 by_cases e:op=11;{subst e;cases ZR.toList.isEmpty<;>cases (ZR.toList == [48])<;>simp};{omega}
theorem uv (h:∀x∈s,x.size<=2000)(op:Nat):(lY op s).size<=2000/\(qH op s).size<=2000:=by
 have g:∀j,(s.getD j ⟨#[]⟩).size<=2000:=λj=>by
  rw[IX];rcases hj:s[j]? with _|x;{exact E4 _};{exact h x (L8 hj)}
 refine⟨?_,?_⟩;{unfold lY;split;{exact g 0};{exact E4 _}};{unfold qH;split;{exact g 1};{exact E4 _}}
theorem Ej (op k:Nat)(t:ByteArray)(s:List ByteArray)(y:Nat->aK)(n place st looks:Nat)(h1:1<=op)(c:op<=11)(hb:aZ op<=s.length)(g:t.size<=2000)(b:∀x∈s,x.size<=2000):iD y n place st looks (dO op k t place looks s)=gI (bS op k t (lY op s) (qH op s)) (eW place) (s.drop (aZ op)) (mU op k (lY op s) place) st looks:=by
 have f:=(uv b op).1;have h:=(uv b op).2;by_cases h2:op=2
 ·subst h2;match s,hb with
  |x::z::r,_=>exact Ii k t x z r y n place st looks
 ·rw[yW op k t _ _ _ _ _ _ _ h1 c h2 g f h];rcases(show op=1∨op=3∨op=4∨op=5∨op=6∨op=7∨op=8∨op=9∨op=10∨op=11 by omega) with rfl|rfl|rfl|rfl|rfl|rfl|rfl|rfl|rfl|rfl;{rfl};iterate 3
   ·match s,hb with
    |x::r,_=>rfl
  ·match s,hb with
   |x::z::r,_=>rfl
  ·match s,hb with
   |x::r,_=>rfl
  ·match s,hb with
   |x::z::r,_=>rfl
  ·match s,hb with
   |x::r,_=>rfl
  {rfl}
  ·match s,hb with
   |x::r,_ =>show iD y n place st looks (dO 11 k t place looks (x::r))=.inl (mU 11 k x place,st,looks,r);simp only[dO,iD,mU,show((11:Nat)=10)=False by simp,VJ,QR]
theorem Gy (op k:Nat)(t:ByteArray)(s:List ByteArray)(y:Nat->aK)(n place st looks:Nat)(h:op=12∨op=13)(hb:aZ op<=s.length):iD y n place st looks (dO op k t place looks s)=jN y n op (eW place) (lY op s) (s.drop (aZ op)) (place+1) st looks:=by
 rcases h with rfl|rfl
 ·match s,hb with
  |x::r,_=>exact xB 12 y n place st looks x r ZG rfl
 ·match s,hb with
  |x::r,_=>exact xB 13 y n place st looks x r ZA rfl
theorem xC (op k:Nat)(t:ByteArray)(s:List ByteArray)(y:Nat->aK)(n place st looks:Nat)(h:op=14∨op=15)(hb:aZ op<=s.length):iD y n place st looks (dO op k t place looks s)=.inr (.inl (15 - (op:Int),lY op s,st)):=by
 rcases h with rfl|rfl
 ·match s,hb with
  |x::r,_=>rfl
 ·match s,hb with
  |x::r,_=>rfl
