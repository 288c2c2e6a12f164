import Derived.Deep.WholeRow
import Derived.Test.YtpmnbjkjpnclaaaGreatDoorQG
import Derived.Deep.LoopGhost
import Derived.Shelf.Strings.SlTrimAscii
import Derived.Lib.TrimU
import Derived.Laws.Runes
import Derived.WalkMore
set_option maxRecDepth 1000000
set_option maxHeartbeats 8000000
set_option linter.unusedSimpArgs false
open Go renaming Addr.mk->Q,Value.slice->Z,Value.string->Y,Value.int->J,Value.bool->ZD,Obj.cells->N,IntKind.i64->I,World->M,Value->ZC,TypeId->ZH,Ending.returned->ZF,World.cell?->A,Proofs.Tryz.prog->Pg
open Option renaming none->U,some->T
open Bool renaming false->ZA,true->ZG
namespace Go.Proofs.YtpmnbjkjpnclaaaGreatDoor.Vp
open Tryz RowKit
variable {w w':M}{base n g cap B place op j steps looks p:Nat}{e:ZH}{b s:List ByteArray}{y:Nat->aK}{u r:List UInt8}{x nm:ByteArray}{i:List ZC}{f:Nat->Ins}
def bG (c:UInt8):Bool:=([32,10]:List UInt8).contains c
def dm:List UInt8->Nat->List UInt8
 |l,0=>(l.dropWhile bG).takeWhile (λc=>!bG c)
 |l,n+1=>if (l.dropWhile bG).takeWhile (λc=>!bG c)=[] then [] else dm ((l.dropWhile bG).dropWhile (λc=>!bG c)) n
def kF (s:ByteArray)(n:Nat):ByteArray:=⟨(dm s.data.toList n).toArray⟩
theorem nh (l:List UInt8)(n:Nat):dm l n=match n with
 |0=>(l.dropWhile bG).takeWhile (λc=>!bG c)
 |n+1=>if (l.dropWhile bG).takeWhile (λc=>!bG c)=[] then [] else dm ((l.dropWhile bG).dropWhile (λc=>!bG c)) n:=by
 cases n<;>simp[dm]
theorem gy (l:List UInt8)(p:UInt8->Bool):(l.dropWhile p).length<=l.length:=by
 induction l with
 |nil=>simp
 |cons b l ih =>
  rw[WE];split;{simp;omega};{simp}
theorem ni (m:Nat):dm [] m=[]:=by cases m<;>simp[dm]
theorem sH{c:UInt8}{l:List UInt8}(h:bG c=ZG)(m:Nat):dm (c::l) m=dm l m:=by rw[nh,nh l];simp only[WE,h,if_true]
theorem qt (i:u≠[])(h:∀c∈u,bG c=ZA)(g:r=[]∨∃c l,r=c::l/\bG c=ZG):(u++r).dropWhile bG=u++r/\(u++r).takeWhile (λc=>!bG c)=u/\(u++r).dropWhile (λc=>!bG c)=r:=by
 obtain⟨c,u',rfl⟩:=TZ i;refine⟨?_,?_,?_⟩;{rw[IN,WE,gM (by simp[h c (by simp)])]}
 ·rw[List.takeWhile_append_of_pos (λa b=>by simp[h a b])];rcases g with rfl|⟨d,l,rfl,f⟩
  {simp};{simp[f]}
 ·rw[List.dropWhile_append_of_pos (λa b=>by simp[h a b])];rcases g with rfl|⟨d,l,rfl,f⟩
  {simp};{simp[f]}
theorem zQ (f:u≠[])(h:∀c∈u,bG c=ZA)(b:r=[]∨∃c l,r=c::l/\bG c=ZG):dm (u++r) 0=u:=by obtain⟨h1,h2,h3⟩:=qt f h b;rw[dm,h1,h2]
theorem zR (b:u≠[])(h:∀c∈u,bG c=ZA)(f:r=[]∨∃c l,r=c::l/\bG c=ZG)(m:Nat):dm (u++r) (m+1)=dm r m:=by obtain⟨h1,h2,h3⟩:=qt b h f;rw[dm,h1,h2,h3,gM b]
theorem yn (s:ByteArray)(f i:Nat)(hf:f<i)(hi:i<=s.size)(q:∀j,(h:j<s.size)->f<=j->j<i->bG s[j]=ZA)(g:s.data.toList.drop i=[]∨∃c l,s.data.toList.drop i=c::l/\bG c=ZG):dm (s.data.toList.drop f) 0=(s.extract f i).data.toList/\∀m,dm (s.data.toList.drop f) (m+1)=dm (s.data.toList.drop i) m:=by
 have hL:s.data.toList.length=s.size:=rfl;have e:s.data.toList.drop f=(s.data.toList.drop f).take (i - f)++s.data.toList.drop i:=by
  conv=>lhs;rw[<-PI (i - f) (s.data.toList.drop f)]
  rw[List.drop_drop];congr 2;omega
 have o:(s.extract f i).data.toList=(s.data.toList.drop f).take (i - f):=by simp only[PH,P6,PC]
 have n:(s.data.toList.drop f).take (i - f)≠[]:=by
  intro e;have r:((s.data.toList.drop f).take (i - f)).length=0:=by rw[e];rfl
  rw[OD,LD] at r;omega
 have b:∀c∈(s.data.toList.drop f).take (i - f),bG c=ZA:=by intro c b;obtain⟨j,p,rfl⟩:=List.mem_iff_getElem.1 b;rw[OD,LD] at p;have:=q (f+j) (by omega) (by omega) (by omega);simp only[List.getElem_take,List.getElem_drop,Array.getElem_toList];exact this
 refine⟨?_,λm=>?_⟩
 ·rw[o];conv=>lhs;rw[e]
  exact zQ n b g
 ·conv=>lhs;rw[e]
  exact zR n b g m
theorem xm (s:ByteArray)(n:Nat)(w:M)(hs:s.size<=2000)(hn:n<=2000):Calls Pg 264 #[Y s,J I n] w λe w'=>e=ZF (Y (kF s n))/\Below w.heap.size w w':=by
  have hL:s.data.toList.length=s.size:=rfl;have o:∀i:Nat,(h:i<s.size)->s.data.toList.drop i=s[i]::s.data.toList.drop (i+1):=λi h=>QY (by rw[hL];exact h);have H:=ae o;have l:∀i:Nat,s.size<=i->s.data.toList.drop i=[]:=λi h=>VF (by rw[hL];exact h);have r:=ae l;clear o l;go_enter func264,ntmps264;go_wp2
  go_loopw [1,5,6] (λR ZN E wr=>∃(i m:Nat),i<=s.size+1/\m<=2000/\E=J I i/\R=J I m/\Below w.heap.size w wr /\
      ((ZN=J I (-1)/\dm (s.data.toList.drop i) m=dm s.data.toList n) ∨
       ∃f:Nat,ZN=J I f/\f<i/\i<=s.size/\(∀j,(h:j<s.size)->f<=j->j<i->bG s[j]=ZA)/\dm (s.data.toList.drop f) m=dm s.data.toList n)) (λ_ _ E _=>s.size+1 - (intOf E).toNat)
  case atStart=>exact⟨0,n,by omega,hn,rfl,rfl,dB _ _,.inl ⟨rfl,rfl⟩⟩
  case round =>
    obtain⟨i,m,hi,C,rfl,rfl,ZO,B⟩:=hrel;have q:=ae ZO;clear ZO;by_cases hle:i<=s.size
    · by_cases O:i=s.size
      · subst O;have g:=r.out s.size ly;have D:=r.out (s.size+1) (by omega);rcases B with ⟨rfl,b⟩|⟨f,rfl,x,_,p,b⟩
        {have c:=ae b;rw[g,ni] at c;clear b g;go_wp2;exact⟨⟨s.size+1,m,by omega,C,by go_num,rfl,q,.inl ⟨rfl,by rw[D,ni];exact c⟩⟩,by first|(simp[intOf];done)|(simp[intOf];omega)⟩}
        · obtain⟨y,ZR⟩:=yn s f s.size x ly p (.inl g);have G:=ae y;have z:=ae ZR;have c:=ae b;clear p b y ZR;rw[g] at z;clear g;by_cases t:m=0;{subst t;rw[G.out] at c;go_wp2;go_ret;refine⟨fO ?_,q⟩;unfold kF;rw[<-c.out]}
          · have ZQ:((m:Int) == 0)=ZA:=by simp[t]
            obtain⟨m,rfl⟩:∃F,m=F+1:=⟨m - 1,by omega⟩
            go_wp2;exact⟨⟨s.size+1,m,by omega,by omega,by go_num,by go_num,q,.inl ⟨rfl,by rw[D,<-z.out];exact c⟩⟩,by first|(simp[intOf];done)|(simp[intOf];omega)⟩
      · have K:i<s.size:=by omega
        have heb:((i:Int) == (s.size:Int))=ZA:=by simp;omega
        have g:=H.out i K;cases hgp:bG s[i] with
        |false =>
          have ZP:((s[i].toNat:Int) == 32)=ZA:=by
            have:¬ s[i]=32:=λe=>by rw[e] at hgp;exact absurd hgp (by decide)
            have h2:¬ s[i].toNat=32:=λe=>this (SN.1 e);simp;omega
          have ZM:((s[i].toNat:Int) == 10)=ZA:=by
            have:¬ s[i]=10:=λe=>by rw[e] at hgp;exact absurd hgp (by decide)
            have h2:¬ s[i].toNat=10:=λe=>this (SN.1 e);simp;omega
          have u:=ae hgp;clear hgp;rcases B with ⟨rfl,b⟩|⟨f,rfl,x,_,p,b⟩
          · have c:=ae b;clear b g;go_wp2
            exact⟨⟨i+1,m,by omega,C,by go_num,rfl,q,.inr ⟨i,rfl,by omega,by omega,λj h h1 h2=>by
              obtain rfl:j=i:=by omega
              exact u,c⟩⟩,by first|(simp[intOf];done)|(simp[intOf];omega)⟩
          · have c:=ae b;have L:=ae p;clear b g p;go_wp2
            exact⟨⟨i+1,m,by omega,C,by go_num,rfl,q,.inr ⟨f,rfl,by omega,by omega,λj h h1 h2=>by
              by_cases e:j=i;{subst e;exact u}
              · exact L j h h1 (by omega),c⟩⟩,by first|(simp[intOf];done)|(simp[intOf];omega)⟩
        |true =>
          have P:((s[i].toNat:Int) == 32)=ZG∨(((s[i].toNat:Int) == 32)=ZA/\((s[i].toNat:Int) == 10)=ZG):=by
            have:s[i]=32∨s[i]=10:=by simpa[bG] using hgp
            rcases this with e|e;{left;rw[e];rfl};{right;rw[e];exact⟨rfl,rfl⟩}
          have u:=ae hgp;clear hgp;rcases P with ZP|⟨ZP,ZM⟩
          all_goals
            rcases B with ⟨rfl,b⟩|⟨f,rfl,x,_,p,b⟩
            · have c:=ae b
              rw[g,sH u.out] at c;clear b g;go_wp2;exact⟨⟨i+1,m,by omega,C,by go_num,rfl,q,.inl ⟨rfl,c⟩⟩,by first|(simp[intOf];done)|(simp[intOf];omega)⟩
            · obtain⟨y,ZR⟩:=yn s f i x (by omega) p (.inr ⟨_,_,g,u⟩)
              have G:=ae y;have z:=ae ZR;have c:=ae b;rw[g] at z;clear p b y ZR g;by_cases t:m=0
              · subst t
                rw[G.out] at c;go_wp2;go_ret;refine⟨fO ?_,q⟩;unfold kF;rw[<-c.out]
              · have ZQ:((m:Int) == 0)=ZA:=by simp[t]
                obtain⟨m,rfl⟩:∃F,m=F+1:=⟨m - 1,by omega⟩
                rw[z.out,sH u.out] at c;go_wp2;exact⟨⟨i+1,m,by omega,by omega,by go_num,by go_num,q,.inl ⟨rfl,c⟩⟩,by first|(simp[intOf];done)|(simp[intOf];omega)⟩
    · obtain rfl:i=s.size+1:=by omega
      rcases B with ⟨rfl,b⟩|⟨f,rfl,x,hz,p,b⟩
      {have c:=ae b;rw[r.out _ (by omega),ni] at c;clear b;go_wp2;go_ret;refine⟨fO ?_,q⟩;unfold kF;rw[<-c.out]};{omega}
abbrev Res:=(List ByteArray × Nat) ⊕ (Int × ByteArray) ⊕ (Bool × ByteArray × List ByteArray)
def kG (ask:Bool)(a:ByteArray)(r:List ByteArray)(here looks:Nat):Res :=
 if aw a=ZA then .inr (.inl (2,(fg here))) else if looks=200 then .inr (.inl (3,⟨#[]⟩)) else .inr (.inr (ask,a,r))
def dP (op n:Nat)(t:ByteArray)(here looks:Nat)(c:List ByteArray):Res :=
 match op,c with
 |1,c=>.inl ((t::c),(here+1))
 |2,b::a::r=>if a.size+b.size<=2000 then .inl (((a++b)::r),(here+1)) else .inr (.inl (2,(fg here)))
 |3,a::r=>.inl (((if n<a.size then a.extract 0 n else a)::r),(here+1))
 |4,a::r=>.inl (((if n<a.size then a.extract n a.size else ⟨#[]⟩)::r),(here+1))
 |5,a::r=>.inl ((kF a n::r),(here+1))
 |6,b::a::r=>.inl ((iU (b.toList == a.toList)::r),(here+1))
 |7,a::r=>.inl ((a::a::r),(here+1))
 |8,b::a::r=>.inl ((a::b::r),(here+1))
 |9,_::r=>.inl (r,(here+1))
 |10,c=>.inl (c,n)
 |11,a::r=>.inl (r,(if a.toList=[]∨(a.toList == [48])=ZG then n else here+1))
 |12,a::r=>kG ZG a r here looks
 |13,a::r=>kG ZA a r here looks
 |14,a::_=>.inr (.inl (1,a))
 |15,a::_=>.inr (.inl (0,a))
 |_,_=>.inr (.inl (0,⟨#[]⟩))
theorem Only.ao{b:Nat}{u:M}(h:Only b u w)(c:Below w.heap.size w w'):Only b u w':=h.trans (Only.u c)
theorem Only.frozen{b:Nat}(h:Only b w w')(k o:Nat)(c:k<w.heap.size)(hb:k≠b):w'.frozen? (Q k o U)=w.frozen? (Q k o U):=JN (w:=w) (a:=(Q k o U)) (h.block k c hb)
def jW (op:Nat)(b:List ByteArray):Bool:=decide (ba op<=b.length/\b.length - ba op+cB op<=50)
def dr (f:Nat->Ins)(cnt place steps looks:Nat)(b:List ByteArray):Res :=
 if cnt<=place then .inr (.inl (2,(fg place))) else if steps=2000 then .inr (.inl (3,⟨#[]⟩)) else
  if jW (f place).op.toNat b=ZA then .inr (.inl (2,(fg place))) else dP (f place).op.toNat (f place).n.toNat (f place).s place looks b
def fw (cnt place steps:Nat):Nat:=if cnt<=place then steps else if steps=2000 then steps else steps+1
theorem vg (l:List UInt8)(n:Nat):(dm l n).length<=l.length:=by
 induction n generalizing l with
 |zero =>rw[dm];have h1:=gy l bG;have h2:((l.dropWhile bG).takeWhile (λc=>!bG c)).length<=(l.dropWhile bG).length:=(List.takeWhile_sublist _).length_le;omega
 |succ n b =>
  rw[dm];split;{simp};{have h1:=gy l bG;have h2:=gy (l.dropWhile bG) (λc=>!bG c);have h3:=b ((l.dropWhile bG).dropWhile (λc=>!bG c));omega}
theorem qu (s:ByteArray)(n:Nat):(kF s n).size<=s.size:=vg s.data.toList n
def kV (res:Res)(looks:Nat):Prop:=match res with
 |.inl (stk,p)=>stk.length<=50/\(∀x∈stk,x.size<=2000)/\p<=2000
 |.inr (.inl (_,_))=>True
 |.inr (.inr (_,name,stk))=>stk.length<50/\(∀x∈stk,x.size<=2000)/\aw name=ZG/\looks<200
theorem mL (op n here looks:Nat)(t:ByteArray)(b:List ByteArray)(i:b.length<=50)(c:∀x∈b,x.size<=2000)(m:t.size<=2000)(hn:n<=2000)(hh:here<2000)(hlk:looks<=200)(h1:1<=op)(h15:op<=15)(hb:jW op b=ZG):kV (dP op n t here looks b) looks:=by
 have g:∀ask a r,b=a::r->kV (kG ask a r here looks) looks:=by
  intro ask a r e;subst e;simp only[eL] at i;unfold kG;split;{trivial};{rename_i h1;split;{trivial};{rename_i h2;exact⟨by omega,λx j=>c x (by simp[j]),by simpa using h1,by omega⟩}}
 simp only[jW,AI] at hb;obtain⟨f,l⟩:=hb;rcases(show op=1∨op=2∨op=3∨op=4∨op=5∨op=6∨op=7∨op=8∨op=9∨op=10∨op=11∨op=12∨op=13∨op=14∨op=15 by omega) with rfl|rfl|rfl|rfl|rfl|rfl|rfl|rfl|rfl|rfl|rfl|rfl|rfl|rfl|rfl;all_goals simp only[ba,cB] at f l
 {refine⟨by simp at l ⊢;omega,λx j=>?_,by omega⟩;rcases AT.1 j with rfl|j;{exact m};{exact c x j}}
 ·match b,f with
  |x::y::r,_ =>
   show kV (if y.size+x.size<=2000 then _ else _) _;split;{refine⟨by simp at i ⊢;omega,λz hz=>?_,by omega⟩;rcases AT.1 hz with rfl|hz;{simp;omega};{exact c z (by simp[hz])}};{trivial}
 ·match b,f with
  |x::r,_ =>
   refine⟨i,λz hz=>?_,by omega⟩;have j:=c x (by simp);rcases AT.1 hz with rfl|hz;{split;{simp;omega};{exact j}};{exact c z (by simp[hz])}
 ·match b,f with
  |x::r,_ =>
   refine⟨i,λz hz=>?_,by omega⟩;have j:=c x (by simp);rcases AT.1 hz with rfl|hz;{split;{simp;omega};{decide}};{exact c z (by simp[hz])}
 ·match b,f with
  |x::r,_ =>
   refine⟨i,λz hz=>?_,by omega⟩;rcases AT.1 hz with rfl|hz;{exact p7 (qu _ _) (c x (by simp))};{exact c z (by simp[hz])}
 ·match b,f with
  |x::y::r,_ =>
   refine⟨by simp at i ⊢;omega,λz hz=>?_,by omega⟩;rcases AT.1 hz with rfl|hz;{unfold iU;split<;>decide};{exact c z (by simp[hz])}
 ·match b,f with
  |x::r,_ =>
   refine⟨by simp at l ⊢;omega,λz hz=>?_,by omega⟩;rcases AT.1 hz with rfl|hz;{exact c _ (by simp)};{exact c z hz}
 ·match b,f with
  |x::y::r,_ =>refine⟨i,λz hz=>?_,by omega⟩;simp only[AT] at hz;exact c z (by simp only[AT];rcases hz with h|h|h<;>simp[h])
 ·match b,f with
  |x::r,_=>exact⟨by simp at i;omega,λz hz=>c z (by simp[hz]),by omega⟩
 {exact⟨i,c,hn⟩}
 ·match b,f with
  |x::r,_ =>refine⟨by simp at i;omega,λz hz=>c z (by simp[hz]),?_⟩;split<;>omega
 ·match b,f with
  |x::r,_=>exact g ZG x r rfl
 ·match b,f with
  |x::r,_=>exact g ZA x r rfl
 ·match b,f with
  |x::r,_=>trivial
 ·match b,f with
  |x::r,_=>trivial
theorem vh{cnt:Nat}(h:dr f cnt place steps looks b=.inl (s,p)):fw cnt place steps=steps+1/\steps≠2000:=by
 unfold dr at h;unfold fw;split at h;{cases h};{split at h;{cases h};{rename_i h1 h2;rw[gM h1,gM h2];exact⟨rfl,h2⟩}}
def iH (c:Int)(x:ByteArray)(k:Nat):Turn:=⟨ZG,c,x,ZA,⟨#[]⟩,k⟩
def qv (a:Bool)(nm:ByteArray)(k:Nat):Turn:=⟨ZA,0,⟨#[]⟩,a,nm,k⟩
def dS (f:Nat->Ins)(cnt:Nat)(y:Nat->aK)(n:Nat):Nat->Nat->Nat->Nat->List ByteArray->Turn
 |0,_,_,_,_=>AE
 |k+1,place,steps,looks,stk=>match dr f cnt place steps looks stk with
  |.inr (.inl (c,x))=>iH c x (fw cnt place steps)
  |.inl (s,p)=>dS f cnt y n k p (fw cnt place steps) looks s
  |.inr (.inr (a,nm,s))=>if n<=looks then qv a nm (fw cnt place steps)
    else if a=ZA then dS f cnt y n k (place+1) (fw cnt place steps) (looks+1) (iU (y looks).has::s)
    else if (y looks).has=ZA then iH 4 nm (fw cnt place steps)
    else if (y looks).E=0 then dS f cnt y n k (place+1) (fw cnt place steps) (looks+1) ((y looks).B::s)
    else iH 5 nm (fw cnt place steps)
theorem qw{cnt:Nat}{a:Bool}(h:dr f cnt place steps looks b=.inr (.inr (a,nm,s))):fw cnt place steps=steps+1/\steps≠2000:=by
 unfold dr at h;unfold fw;split at h;{cases h};{split at h;{cases h};{rename_i h1 h2;rw[gM h1,gM h2];exact⟨rfl,h2⟩}}
def dk (r:aK):Bool:=decide (r.B.size<=2000/\0<=r.E/\r.E<=7)
def bU (y:Nat->aK):Nat->Bool
 |0=>ZG
 |k+1=>bU y k && dk (y k)
theorem lC{k:Nat}(h:k<=n)(hn:bU y n=ZG):bU y k=ZG:=by
 induction n with
 |zero =>
  obtain rfl:k=0:=by omega
  exact hn
 |succ m b =>
  by_cases e:k=m+1;{subst e;exact hn};{simp only[bU,z8] at hn;exact b (by omega) hn.1}
theorem ii{k:Nat}(h:k<n)(b:dk (y k)=ZA):bU y n=ZA:=by
 cases e:bU y n with
 |false=>rfl
 |true =>have h2:=lC (show k+1<=n by omega) e;simp[bU,b] at h2
theorem E9{k:Nat}(h:bU y n=ZG)(hk:k<n):(y k).B.size<=2000/\0<=(y k).E/\(y k).E<=7:=by have:=lC (show k+1<=n by omega) h;simp only[bU,z8,dk,AI] at this;exact this.2
def m0:Mst:={ S:=λ_=>⟨#[]⟩,size:=0,place:=0,steps:=0,looks:=0,t:=AE }
theorem mu (b:Bool):(iU b).size<=2000:=by cases b<;>decide
def Six (w:M)(g:Nat):Prop:=g<w.heap.size/\∀j,j<6->∃v,A w (Q g j U)=T v/\w.frozen? (Q g j U)=ZA
theorem Six.aa{f:M}(h:Six w g)(b:Below B w f)(c:g<B):Six f g:=⟨lj h.1 b.size,λj i=>by
 obtain⟨v,h1,h2⟩:=h.2 j i
 exact⟨v,(b.cell (p:=(Q g j U)) c).trans h1,(b.frozen (p:=(Q g j U)) c).trans h2⟩⟩
theorem Six.F{i:M}{b:Nat}(h:Six w g)(c:Only b w i)(f:g≠b):Six i g:=⟨lj h.1 c.size,λj l=>by
 obtain⟨v,h1,h2⟩:=h.2 j l
 exact⟨v,(c.cell g j h.1 f).trans h1,(c.frozen g j h.1 f).trans h2⟩⟩
theorem yo (w:M)(v0 v1 v2 v3 v4 v5:ZC)(t:ZH):Six (w.alloc (N #[v0,v1,v2,v3,v4,v5] t)) w.heap.size:=⟨by simp,λj hj=>by
 rcases(show j=0∨j=1∨j=2∨j=3∨j=4∨j=5 by omega) with rfl|rfl|rfl|rfl|rfl|rfl
 all_goals exact⟨_,by simp;rfl,by simp⟩⟩
theorem jI{u:M}(h:Below B u w)(b:B<=g)(v0 v1 v2 v3 v4 v5:ZC):Below B u ((((((w.setCell (Q g 0 U) v0).setCell (Q g 1 U) v1).setCell (Q g 2 U) v2).setCell (Q g 3 U) v3).setCell (Q g 4 U) v4).setCell (Q g 5 U) v5) :=
 (((((h.setCell b v0).setCell b v1).setCell b v2).setCell b v3).setCell b v4).setCell b v5
def badT:Turn:=⟨ZA,9,⟨#[]⟩,ZA,⟨#[]⟩,0⟩
def tZ (f:Nat->Ins)(cnt:Nat)(y:Nat->aK)(n:Nat):Turn:=if valid f cnt=ZA then badT else if 200<n then badT else if bU y n=ZA then badT else dS f cnt y n 2001 0 0 0 []
abbrev eh (at_:Int)(sv:ZC)(st lk:Int)(f:Bool)(c:Int)(x:ByteArray)(ask:Bool)(nm:ByteArray)(b:Bool):ZC :=
 .agg #[J I at_,sv,J I st,J I lk,ZD f,J I c,Y x,ZD ask,Y nm,ZD b]
theorem dY{u:M}(h:Below B u w)(b:B<=g)(v0 v1 v2 v3 v4 v5 v6 v7 v8 v9:ZC):Below B u ((((((((((w.setCell (Q g 0 U) v0).setCell (Q g 1 U) v1).setCell (Q g 2 U) v2).setCell (Q g 3 U) v3).setCell (Q g 4 U) v4).setCell (Q g 5 U) v5).setCell (Q g 6 U) v6).setCell (Q g 7 U) v7).setCell (Q g 8 U) v8).setCell (Q g 9 U) v9) :=
 (((((((((h.setCell b v0).setCell b v1).setCell b v2).setCell b v3).setCell b v4).setCell b v5).setCell b v6).setCell b v7).setCell b v8).setCell b v9
theorem fL (at_:Int)(a:Option Addr)(n cap:Nat)(st lk:Int)(g:Bool)(c0:Int)(f:ByteArray)(ask:Bool)(nm:ByteArray)(b:Bool)(c:Int)(x:ByteArray)(w:M):Calls Pg 211 #[eh at_ (Z a n cap) st lk g c0 f ask nm b,J I c,Y x] w λe w'=>e=ZF (eh at_ (Z a n cap) st lk ZG c x ask nm b)/\Below w.heap.size w w':=by go_enter func211,ntmps211;go_wp2;refine bp (v:=eh at_ (Z a n cap) st lk ZG c x ask nm b) (by simp[results,results211,go_sem]) rfl ⟨rfl,(br.alloc ly _).alloc (by simp) _⟩
theorem xn (op:Nat)(w:M)(h1:1<=op)(h15:op<=15):Calls Pg 212 #[J I op] w λe w'=>e=ZF (.tuple #[J I (ba op),J I (cB op)])/\w'=w:=by
 rcases(show op=1∨op=2∨op=3∨op=4∨op=5∨op=6∨op=7∨op=8∨op=9∨op=10∨op=11∨op=12∨op=13∨op=14∨op=15 by omega) with rfl|rfl|rfl|rfl|rfl|rfl|rfl|rfl|rfl|rfl|rfl|rfl|rfl|rfl|rfl;all_goals
  go_enter func212,ntmps212;go_wp2;refine bp (v:=.tuple #[J I (ba _),J I (cB _)]) (by simp[results,results212,go_sem,ba,cB]) rfl ⟨rfl,rfl⟩
def bT (op n:Nat)(t a b:ByteArray):List ByteArray :=
 match op with
 |1=>[t]
 |2=>[b++a]
 |3=>[if n<a.size then a.extract 0 n else a]
 |4=>[if n<a.size then a.extract n a.size else ⟨#[]⟩]
 |5=>[kF a n]
 |6=>[iU (a.toList == b.toList)]
 |7=>[a,a]
 |8=>[a,b]
 |_=>[]
theorem nr (w:M)(x:ByteArray)(g:Nat)(b:g=w.heap.size):ua (w.alloc (N #[Y x] 9)) g 0 1 (λi=>[x].getD i ⟨#[]⟩):=by
 subst b
 exact⟨by simp,λi hi=>by
  obtain rfl:i=0:=by omega
  simp⟩
theorem Jl (w:M)(x y:ByteArray)(g:Nat)(b:g=w.heap.size):ua (w.alloc (N #[Y x,Y y] 9)) g 0 2 (λi=>[x,y].getD i ⟨#[]⟩):=by subst b;exact⟨by simp,λi hi=>by rcases(show i=0∨i=1 by omega) with rfl|rfl<;>simp⟩
theorem xo (op n:Nat)(t a b:ByteArray)(w:M)(h1:1<=op)(h8:op<=8)(l:a.size<=2000)(hb:b.size<=2000)(hn:n<=2000):Calls Pg 214 #[.agg #[J I op,Y t,J I n],Y a,Y b] w λe w'=>∃g,e=ZF (Z (T (Q g 0 U)) (bT op n t a b).length (bT op n t a b).length)/\ua w' g 0 (bT op n t a b).length (λi=>(bT op n t a b).getD i ⟨#[]⟩)/\w.heap.size<=g/\Below w.heap.size w w':=by
 have c:=ae ((q9 w).alloc ly (N #[J I op,Y t,J I n] 151));rcases(show op=1∨op=2∨op=3∨op=4∨op=5∨op=6∨op=7∨op=8 by omega) with rfl|rfl|rfl|rfl|rfl|rfl|rfl|rfl;{go_enter RU,Q3;go_wp2;go_ret;exact⟨_,rfl,nr _ t _ (by simp),by simp,c.alloc (by simp) _⟩};{go_enter RU,Q3;go_wp2;go_ret;exact⟨_,rfl,nr _ (b++a) _ (by simp),by simp,c.alloc (by simp) _⟩}
 ·by_cases h:(n:Int)<a.size
  ·have e:bT 3 n t a b=[a.extract 0 n]:=by simp[bT];omega
   rw[e];clear e;go_enter RU,Q3;go_wp2;go_ret;exact⟨_,rfl,nr _ _ _ (by simp),by simp,c.alloc (by simp) _⟩
  ·have e:bT 3 n t a b=[a]:=by simp[bT];omega
   rw[e];clear e;go_enter RU,Q3;go_wp2;go_ret;exact⟨_,rfl,nr _ _ _ (by simp),by simp,c.alloc (by simp) _⟩
 ·by_cases h:(n:Int)<a.size
  ·have e:bT 4 n t a b=[a.extract n a.size]:=by simp[bT];omega
   rw[e];clear e;go_enter RU,Q3;go_wp2;go_ret;exact⟨_,rfl,nr _ _ _ (by simp),by simp,c.alloc (by simp) _⟩
  ·have e:bT 4 n t a b=[⟨#[]⟩]:=by simp[bT];omega
   rw[e];clear e;go_enter RU,Q3;go_wp2;go_ret;exact⟨_,rfl,nr _ _ _ (by simp),by simp,c.alloc (by simp) _⟩
 {go_enter RU,Q3;go_wp2_with fail;refine(xm a n _ l hn).mono ?_;rintro e m ⟨rfl,f⟩;have j:=ae (c.trans (f.mono (by simp)));clear f;go_wp2;go_ret;exact⟨_,rfl,nr _ (kF a n) _ rfl,j.size,j.alloc j.size _⟩};{go_enter RU,Q3;go_wp2_with fail;refine(qg _ _).mono ?_;rintro e m ⟨rfl,rfl⟩;go_wp2;go_ret;exact⟨_,rfl,nr _ (iU (a.toList == b.toList)) _ (by simp),by simp,c.alloc (by simp) _⟩};{go_enter RU,Q3;go_wp2;go_ret;exact⟨_,rfl,Jl _ a a _ (by simp),by simp,c.alloc (by simp) _⟩};{go_enter RU,Q3;go_wp2;go_ret;exact⟨_,rfl,Jl _ a b _ (by simp),by simp,c.alloc (by simp) _⟩}
def Ten (w:M)(g:Nat)(v0 v1 v2 v3 v4 v5 v6 v7 v8 v9:ZC):Prop:=g<w.heap.size/\(A w (Q g 0 U)=T v0/\w.frozen? (Q g 0 U)=ZA)/\(A w (Q g 1 U)=T v1/\w.frozen? (Q g 1 U)=ZA)/\(A w (Q g 2 U)=T v2/\w.frozen? (Q g 2 U)=ZA)/\(A w (Q g 3 U)=T v3/\w.frozen? (Q g 3 U)=ZA)/\(A w (Q g 4 U)=T v4/\w.frozen? (Q g 4 U)=ZA)/\(A w (Q g 5 U)=T v5/\w.frozen? (Q g 5 U)=ZA)/\(A w (Q g 6 U)=T v6/\w.frozen? (Q g 6 U)=ZA)/\(A w (Q g 7 U)=T v7/\w.frozen? (Q g 7 U)=ZA)/\(A w (Q g 8 U)=T v8/\w.frozen? (Q g 8 U)=ZA)/\(A w (Q g 9 U)=T v9/\w.frozen? (Q g 9 U)=ZA)
section
variable {w w':M}{g:Nat}{v0 v1 v2 v3 v4 v5 v6 v7 v8 v9:ZC}
theorem Ten.of_block (h:Ten w g v0 v1 v2 v3 v4 v5 v6 v7 v8 v9)(hz:w.heap.size<=w'.heap.size)(hb:w'.heap[g]?=w.heap[g]?):Ten w' g v0 v1 v2 v3 v4 v5 v6 v7 v8 v9:=by have c:∀o,A w' (Q g o U)=A w (Q g o U):=λo=>cq (a:=(Q g o U)) hb;have b:∀o,w'.frozen? (Q g o U)=w.frozen? (Q g o U):=λo=>JN (a:=(Q g o U)) hb;unfold Ten at h ⊢;simp only[c,b];exact⟨lj h.1 hz,h.2⟩
theorem Ten.aa (h:Ten w g v0 v1 v2 v3 v4 v5 v6 v7 v8 v9)(hb:Below B w w')(b:g<B):Ten w' g v0 v1 v2 v3 v4 v5 v6 v7 v8 v9:=h.of_block hb.size (hb.block g b)
theorem Ten.grown{row:Option Nat}(h:Ten w g v0 v1 v2 v3 v4 v5 v6 v7 v8 v9)(hb:w.grownBy w' row)(b:T g≠row):Ten w' g v0 v1 v2 v3 v4 v5 v6 v7 v8 v9:=h.of_block hb.size (hb.block g h.1 b)
theorem Ten.al (h:Ten w g v0 v1 v2 v3 v4 v5 v6 v7 v8 v9)(o:Obj):Ten (w.alloc o) g v0 v1 v2 v3 v4 v5 v6 v7 v8 v9:=h.aa ((q9 w).alloc ly o) h.1
theorem Ten.other (h:Ten w g v0 v1 v2 v3 v4 v5 v6 v7 v8 v9)(p:Addr)(u:ZC)(b:p.block≠g):Ten (w.setCell p u) g v0 v1 v2 v3 v4 v5 v6 v7 v8 v9:=h.of_block (by simp) (qh w p u g (λe=>b e.symm))
end
theorem lD (w:M)(v0 v1 v2 v3 v4 v5 v6 v7 v8 v9:ZC)(t:ZH)(g:Nat)(b:g=w.heap.size):Ten (w.alloc (N #[v0,v1,v2,v3,v4,v5,v6,v7,v8,v9] t)) g v0 v1 v2 v3 v4 v5 v6 v7 v8 v9:=by subst b;simp[Ten]
section
variable {w:M}{g:Nat}{v0 v1 v2 v3 v4 v5 v6 v7 v8 v9:ZC}
theorem Ten.sets (h:Ten w g v0 v1 v2 v3 v4 v5 v6 v7 v8 v9)(u:ZC):Ten (w.setCell (Q g 0 U) u) g u v1 v2 v3 v4 v5 v6 v7 v8 v9/\Ten (w.setCell (Q g 1 U) u) g v0 u v2 v3 v4 v5 v6 v7 v8 v9/\Ten (w.setCell (Q g 2 U) u) g v0 v1 u v3 v4 v5 v6 v7 v8 v9/\Ten (w.setCell (Q g 3 U) u) g v0 v1 v2 u v4 v5 v6 v7 v8 v9/\Ten (w.setCell (Q g 4 U) u) g v0 v1 v2 v3 u v5 v6 v7 v8 v9/\Ten (w.setCell (Q g 5 U) u) g v0 v1 v2 v3 v4 u v6 v7 v8 v9/\Ten (w.setCell (Q g 6 U) u) g v0 v1 v2 v3 v4 v5 u v7 v8 v9/\Ten (w.setCell (Q g 7 U) u) g v0 v1 v2 v3 v4 v5 v6 u v8 v9/\Ten (w.setCell (Q g 8 U) u) g v0 v1 v2 v3 v4 v5 v6 v7 u v9/\Ten (w.setCell (Q g 9 U) u) g v0 v1 v2 v3 v4 v5 v6 v7 v8 u:=by have o:∀i j:Nat,i≠j->(w.setCell (Q g i U) u).cell? (Q g j U)=A w (Q g j U):=λi j hij=>sq _ _ _ _ (by simp);have s:∀i v,A w (Q g i U)=T v->(w.setCell (Q g i U) u).cell? (Q g i U)=T u:=λi v e=>CX _ _ _ (by rw[e];rfl);obtain⟨G,⟨c,y⟩,⟨f,D⟩,⟨b,H⟩,⟨t,z⟩,⟨n,ZR⟩,⟨m,F⟩,⟨r,x⟩,⟨q,E⟩,⟨l,C⟩,p,B⟩:=h;simp[Ten,o,G,s _ _ c,s _ _ f,s _ _ b,s _ _ t,s _ _ n,s _ _ m,s _ _ r,s _ _ q,s _ _ l,s _ _ p,c,f,b,t,n,m,r,q,l,p,y,D,H,z,ZR,F,x,E,C,B]
theorem Ten.set0 (h:Ten w g v0 v1 v2 v3 v4 v5 v6 v7 v8 v9)(u:ZC):Ten (w.setCell (Q g 0 U) u) g u v1 v2 v3 v4 v5 v6 v7 v8 v9:=(h.sets u).1
theorem Ten.set1 (h:Ten w g v0 v1 v2 v3 v4 v5 v6 v7 v8 v9)(u:ZC):Ten (w.setCell (Q g 1 U) u) g v0 u v2 v3 v4 v5 v6 v7 v8 v9:=(h.sets u).2.1
theorem Ten.set2 (h:Ten w g v0 v1 v2 v3 v4 v5 v6 v7 v8 v9)(u:ZC):Ten (w.setCell (Q g 2 U) u) g v0 v1 u v3 v4 v5 v6 v7 v8 v9:=(h.sets u).2.2.1
theorem Ten.set3 (h:Ten w g v0 v1 v2 v3 v4 v5 v6 v7 v8 v9)(u:ZC):Ten (w.setCell (Q g 3 U) u) g v0 v1 v2 u v4 v5 v6 v7 v8 v9:=(h.sets u).2.2.2.1
theorem Ten.set4 (h:Ten w g v0 v1 v2 v3 v4 v5 v6 v7 v8 v9)(u:ZC):Ten (w.setCell (Q g 4 U) u) g v0 v1 v2 v3 u v5 v6 v7 v8 v9:=(h.sets u).2.2.2.2.1
theorem Ten.set5 (h:Ten w g v0 v1 v2 v3 v4 v5 v6 v7 v8 v9)(u:ZC):Ten (w.setCell (Q g 5 U) u) g v0 v1 v2 v3 v4 u v6 v7 v8 v9:=(h.sets u).2.2.2.2.2.1
theorem Ten.set6 (h:Ten w g v0 v1 v2 v3 v4 v5 v6 v7 v8 v9)(u:ZC):Ten (w.setCell (Q g 6 U) u) g v0 v1 v2 v3 v4 v5 u v7 v8 v9:=(h.sets u).2.2.2.2.2.2.1
theorem Ten.set7 (h:Ten w g v0 v1 v2 v3 v4 v5 v6 v7 v8 v9)(u:ZC):Ten (w.setCell (Q g 7 U) u) g v0 v1 v2 v3 v4 v5 v6 u v8 v9:=(h.sets u).2.2.2.2.2.2.2.1
theorem Ten.set8 (h:Ten w g v0 v1 v2 v3 v4 v5 v6 v7 v8 v9)(u:ZC):Ten (w.setCell (Q g 8 U) u) g v0 v1 v2 v3 v4 v5 v6 v7 u v9:=(h.sets u).2.2.2.2.2.2.2.2.1
theorem Ten.set9 (h:Ten w g v0 v1 v2 v3 v4 v5 v6 v7 v8 v9)(u:ZC):Ten (w.setCell (Q g 9 U) u) g v0 v1 v2 v3 v4 v5 v6 v7 v8 u:=(h.sets u).2.2.2.2.2.2.2.2.2
end
theorem Jm (w:M)(b:Array ZC)(ty:ZH)(R ZI:Obj)(j:Nat)(v:ZC)(c:b[j]?=T v):(((w.alloc (N b ty)).alloc R).alloc ZI).cell? (Q w.heap.size j U)=T v:=by rw[(((dB (w.alloc (N b ty)).heap.size _).alloc ly R).alloc (by simp) ZI).cell (p:=(Q w.heap.size j U)) (by simp)];simp[c]
abbrev SO:=(Nat × Nat × Nat × List ByteArray) ⊕ (Int × ByteArray × Nat) ⊕ (Bool × ByteArray × Nat)
abbrev strs (s:List ByteArray):List ZC:=s.reverse.map Value.string
def SoIs (w:M)(base:Nat)(v:ZC):SO->Prop
 |.inl (p,st,l,s)=>∃a cap,v=eh p (Z a s.length cap) st l ZA 0 ⟨#[]⟩ ZA ⟨#[]⟩ ZA/\w.ownsRow base 9 1 (Z a s.length cap) s.length (strs s)
 |.inr (.inl (c,x,st))=>∃(at_:Int) (a:Option Addr) (n cap:Nat) (lk:Int),v=eh at_ (Z a n cap) st lk ZG c x ZA ⟨#[]⟩ ZA
 |.inr (.inr (ask,nm,st))=>∃(at_:Int) (a:Option Addr) (n cap:Nat) (lk:Int),v=eh at_ (Z a n cap) st lk ZA 0 ⟨#[]⟩ ask nm ZG
theorem SoIs.kept{b:Nat}{v:ZC}{r:SO}(h:SoIs w base v r)(hb:Below w.heap.size w w')(g:b<=base):SoIs w' b v r:=by
 rcases r with ⟨p,st,l,s⟩|⟨c,x,st⟩|⟨ask,nm,st⟩
 {obtain⟨a,cap,e,f⟩:=h;exact⟨a,cap,e,aB (own_below f hb ly) g⟩};{exact h};{exact h}
theorem Ce{k:Nat}{c:ByteArray}{i:Int}{b:List ZC}(h:w.ownsRow base e 1 (Z (T (Q g 0 U)) n cap) n b)(f:b[0]?=T (Y c))(j:A w (Q k 0 U)=T (J I i)):k≠g:=by rintro rfl;have:=h.cells (g:=k) rfl 0 _ f;simp[Addr.add] at this;rw[j] at this;simp at this
theorem gL (x:ByteArray)(s:List ByteArray):strs (x::s)=strs s++[Y x]:=by simp[strs]
theorem yp:∃b,(strs s++[Value.string x])[0]?=T (Y b):=by
 rw[<-gL];simp only[strs,NZ,OB];have h:0<(x::s).reverse.length:=by simp
 exact⟨_,_,gq h,rfl⟩
theorem dZ{b:List ZC}(h:w.ownsRow base e 1 (Z (T (Q g 0 U)) n cap) n b){k:Nat}(c:k≠g)(u:ZC)(j:Nat):(w.setCell (Q k j U) u).ownsRow base e 1 (Z (T (Q g 0 U)) n cap) n b :=
 VJ h (by simp[Value.ownBlock];exact λe=>c e.symm) u
theorem Fa{c:List ZC}(h:w.ownsRow base e 1 (Z (T (Q g 0 U)) n cap) n c){k:Nat}(b:k≠g)(v0 v1 v2 v3 v4 v5 v6 v7 v8 v9:ZC):World.ownsRow ((((((((((w.setCell (Q k 0 U) v0).setCell (Q k 1 U) v1).setCell (Q k 2 U) v2).setCell (Q k 3 U) v3).setCell (Q k 4 U) v4).setCell (Q k 5 U) v5).setCell (Q k 6 U) v6).setCell (Q k 7 U) v7).setCell (Q k 8 U) v8).setCell (Q k 9 U) v9) base e 1 (Z (T (Q g 0 U)) n cap) n c :=
 dZ (dZ (dZ (dZ (dZ (dZ (dZ (dZ (dZ (dZ h b v0 0) b v1 1) b v2 2) b v3 3) b v4 4) b v5 5) b v6 6) b v7 7) b v8 8) b v9 9
def kH (y:Nat->aK)(n:Nat)(a:Bool)(nm:ByteArray)(s:List ByteArray)(p st l:Nat):SO :=
 if n<=l then .inr (.inr (a,nm,st)) else if a=ZA then .inl (p,st,(l+1),(iU (y l).has::s)) else if (y l).has=ZA then .inr (.inl (4,nm,st))
 else if (y l).E=0 then .inl (p,st,(l+1),((y l).B::s)) else .inr (.inl (5,nm,st))
def jX (y:Nat->aK)(n op:Nat)(pl nm:ByteArray)(s:List ByteArray)(p st l:Nat):SO :=
 if aw nm=ZA then .inr (.inl (2,pl,st)) else if l=200 then .inr (.inl (3,⟨#[]⟩,st)) else kH y n ((op:Int) == 12) nm s p st l
theorem Cf{pl:ByteArray}{st l:Nat}{b:SO}(h:b=jX y n op pl nm s p st l)(f:op=12∨op=13):(aw nm=ZA/\b=.inr (.inl (2,pl,st)))∨(aw nm=ZG/\((l:Int) == 200)=ZG/\b=.inr (.inl (3,⟨#[]⟩,st))) ∨
  (aw nm=ZG/\((l:Int) == 200)=ZA/\((n<=l/\b=.inr (.inr (((op:Int) == 12),nm,st)))∨(l<n/\((op=13/\b=.inl (p,st,(l+1),(iU (y l).has::s)))∨(op=12/\(((y l).has=ZA/\b=.inr (.inl (4,nm,st)))∨((y l).has=ZG/\(((y l).E=0/\b=.inl (p,st,(l+1),((y l).B::s)))∨(((y l).E == 0)=ZA/\b=.inr (.inl (5,nm,st))))))))))):=by
 unfold jX kH at h;by_cases h1:aw nm=ZA;{rw[p6 h1] at h;exact .inl ⟨h1,h⟩};rw[gM h1] at h;have h1:aw nm=ZG:=by simpa using h1
 by_cases h2:l=200;{rw[p6 h2] at h;exact .inr (.inl ⟨h1,by simp;omega,h⟩)};rw[gM h2] at h;refine .inr (.inr ⟨h1,by simp;omega,?_⟩);by_cases h3:n<=l;{rw[p6 h3] at h;exact .inl ⟨h3,h⟩};rw[gM h3] at h;refine .inr ⟨by omega,?_⟩;rcases f with rfl|rfl;{rw[gM (by simp)] at h;by_cases h4:(y l).has=ZA;{rw[p6 h4] at h;exact .inr ⟨rfl,.inl ⟨h4,h⟩⟩};rw[gM h4] at h;by_cases c:(y l).E=0;{rw[p6 c] at h;exact .inr ⟨rfl,.inr ⟨by simpa using h4,.inl ⟨c,h⟩⟩⟩};rw[gM c] at h;exact .inr ⟨rfl,.inr ⟨by simpa using h4,.inr ⟨by simpa using c,h⟩⟩⟩};{rw[p6 (by simp)] at h;exact .inl ⟨rfl,h⟩}
structure LkS (w:M)(op:Int)(base:Nat)(a:Option Addr)(cap:Nat)(s:List ByteArray)(p st lk:Int)(V:M):Prop where
 run:Ten V (w.heap.size+1) (J I p) (Z a s.length cap) (J I st) (J I lk) (ZD ZA) (J I 0) (Y ⟨#[]⟩) (ZD ZA) (Y ⟨#[]⟩) (ZD ZA)
 zer:Ten V (w.heap.size+1+1) (J I 0) (Z U 0 0) (J I 0) (J I 0) (ZD ZA) (J I 0) (Y ⟨#[]⟩) (ZD ZA) (Y ⟨#[]⟩) (ZD ZA)
 bl:Below w.heap.size w V
 i:V.ownsRow base 9 1 (Z a s.length cap) s.length (strs s)
 ne:∀k,w.heap.size<=k->Value.ownBlock (Z a s.length cap)≠T k
 arg:A V (Q w.heap.size 0 U)=T (J I op)
section
variable {w V ZJ:M}{base cap:Nat}{a:Option Addr}{s:List ByteArray}{op p st lk:Int}
theorem LkS.aa (h:LkS w op base a cap s p st lk V)(b:Below V.heap.size V ZJ):LkS w op base a cap s p st lk ZJ :=
 ⟨h.run.aa b h.run.1,h.zer.aa b h.zer.1,h.bl.trans (b.mono h.bl.size),own_below h.i b ly,h.ne,(b.cell (p:=(Q w.heap.size 0 U)) (by have:=h.run.1;show w.heap.size<_;omega)).trans h.arg⟩
theorem LkS.next (h:LkS w op base a cap s p st lk V)(q:Int):LkS w op base a cap s p st q (V.setCell (Q (w.heap.size+1) 3 U) (J I q)) :=
 ⟨h.run.set3 _,h.zer.other _ _ (by simp),h.bl.setCell (p:=(Q (w.heap.size+1) 3 U)) (by simp) _,VJ h.i (a:=(Q (w.heap.size+1) 3 U)) (h.ne _ (by simp)) _,h.ne,(sq _ _ _ _ (by simp)).trans h.arg⟩
theorem LkS.al (h:LkS w op base a cap s p st lk V)(o:Obj):LkS w op base a cap s p st lk (V.alloc o):=h.aa (br.alloc ly o)
theorem LkS.drew (h:LkS w op base a cap s p st lk V):LkS w op base a cap s p st lk V.drew:=h.aa br.drew
theorem LkS.grown (h:LkS w op base a cap s p st lk V)(b:V.grownBy ZJ (Value.slice a s.length cap).ownBlock)(hb:base<=w.heap.size):Ten ZJ (w.heap.size+1) (J I p) (Z a s.length cap) (J I st) (J I lk) (ZD ZA) (J I 0) (Y ⟨#[]⟩) (ZD ZA) (Y ⟨#[]⟩) (ZD ZA)/\Ten ZJ (w.heap.size+1+1) (J I 0) (Z U 0 0) (J I 0) (J I 0) (ZD ZA) (J I 0) (Y ⟨#[]⟩) (ZD ZA) (Y ⟨#[]⟩) (ZD ZA)/\Below base w ZJ :=
 ⟨h.run.grown b λe=>h.ne _ (by omega) e.symm,h.zer.grown b λe=>h.ne _ (by omega) e.symm,bg (h.bl.mono hb) b (p7 hb h.bl.size) λk e=>(h.i.lt k e).1⟩
end
theorem zS (op:Nat)(t:ByteArray)(k:Int)(p st l:Nat)(a:Option Addr)(cap:Nat)(s:List ByteArray)(nm pl:ByteArray)(b2 o2 n aq base:Nat)(y:Nat->aK)(w:M)
  (hY:RowReply w b2 o2 n y) (K:w.ownsRow base 9 1 (Z a s.length cap) s.length (strs s)) (hb:base<=w.heap.size) (fd:op=12∨op=13) (hl:l<=200) (hs:s.length<=50) :
  Calls Pg 213 #[.agg #[J I op,Y t,J I k],eh p (Z a s.length cap) st l ZA 0 ⟨#[]⟩ ZA ⟨#[]⟩ ZA,Y nm,Y pl,Z (T (Q b2 o2 U)) n aq] w λe w'=>∃v,e=ZF v/\SoIs w' base v (jX y n op pl nm s p st l)/\Below base w w':=by
 obtain⟨so,u⟩:∃so,so=jX y n op pl nm s p st l:=⟨_,rfl⟩
 rw[<-u];have HQ:=ae (Cf u fd);have HY:=ae hY;have A0:=ae ((((q9 w).alloc ly (N #[J I op,Y t,J I k] 151)).alloc (by simp) (N #[J I p,Z a s.length cap,J I st,J I l,ZD ZA,J I 0,Y ⟨#[]⟩,ZD ZA,Y ⟨#[]⟩,ZD ZA] 226)).alloc (by simp<;>omega) (N #[J I 0,Z U 0 0,J I 0,J I 0,ZD ZA,J I 0,Y ⟨#[]⟩,ZD ZA,Y ⟨#[]⟩,ZD ZA] 226));have C:=ae (LkS.mk (p:=p) (st:=st) (lk:=l) ((lD (w.alloc (N #[J I op,Y t,J I k] 151)) _ _ _ _ _ _ _ _ _ _ 226 (w.heap.size+1) (by simp)).al _) (lD _ _ _ _ _ _ _ _ _ _ _ 226 (w.heap.size+1+1) (by simp)) A0.out (own_below K A0 ly) (λk hk e=>by have:=(K.lt k e).2;omega) (Jm w #[J I op,Y t,J I k] 151 (N #[J I p,Z a s.length cap,J I st,J I l,ZD ZA,J I 0,Y ⟨#[]⟩,ZD ZA,Y ⟨#[]⟩,ZD ZA] 226) (N #[J I 0,Z U 0 0,J I 0,J I 0,ZD ZA,J I 0,Y ⟨#[]⟩,ZD ZA,Y ⟨#[]⟩,ZD ZA] 226) 0 (J I op) rfl));clear u hY K A0;go_enter func213,ntmps213;go_wp2_with fail;generalize World.alloc (World.alloc (World.alloc w _) _) _=W0 at C ⊢;refine(dc nm _).mono ?_;rintro e f ⟨rfl,ZN⟩;replace C:=ae (C.aa ZN);have hz1:=C.zer.1;have i0:=C.arg;clear ZN;have R1:=ae C.run;obtain⟨z,⟨c0,f0⟩,⟨c1,f1⟩,⟨c2,S⟩,⟨c3,ZL⟩,⟨c4,L⟩,⟨c5,V⟩,⟨ZJ,P⟩,⟨ZI,ZM⟩,⟨c8,f8⟩,c9,ZK⟩:=R1.out;rcases HQ.out with ⟨h1,rfl⟩|⟨h1,h2,rfl⟩|⟨h1,h2,⟨h3,rfl⟩|⟨h3,h⟩⟩
 all_goals
  rw[h1];clear HQ
 case' inr.inr.inl =>
  have ZE:=ae (((C.zer.other (Q (w.heap.size+1) 9 U) (ZD ZG) (by simp)).other (Q (w.heap.size+1) 7 U) (ZD ((op:Int) == 12)) (by simp)).other (Q (w.heap.size+1) 8 U) (Y nm) (by simp));have B2:=ae (((C.bl.setCell (p:=(Q (w.heap.size+1) 9 U)) (by simp) (ZD ZG)).setCell (p:=(Q (w.heap.size+1) 7 U)) (by simp) (ZD ((op:Int) == 12))).setCell (p:=(Q (w.heap.size+1) 8 U)) (by simp) (Y nm));obtain⟨x,⟨z0,O⟩,⟨z1,X⟩,⟨z2,ZO⟩,⟨z3,y3⟩,⟨o,y4⟩,⟨m,y5⟩,⟨i,R⟩,⟨j,y7⟩,⟨q,y8⟩,g,y9⟩:=ZE.out;have hw:(n:Int)<=l:=by omega
  go_wp2;exact bp (v:=eh p (Z a s.length cap) st l ZA 0 ⟨#[]⟩ ((op:Int) == 12) nm ZG) (by simp[results,TK,go_sem,z0,z1,z2,z3,o,m,i,j,q,g]) rfl ⟨_,rfl,⟨_,_,_,_,_,rfl⟩,dY (B2.mono hb) (by omega) _ _ _ _ _ _ _ _ _ _⟩
 case' inr.inr.inr =>
  obtain⟨d0,d1,d2⟩:=(HY.aa C.bl ly).2 l h3;have hln:(l:Int)<n:=by omega
  have hz0:w.heap.size<f.heap.size:=by omega
  have hz01:w.heap.size+1<f.heap.size:=by omega
  replace C:=ae ((C.next ((l:Int)+1)).al (N #[ZD (y l).has,J I (y l).E,Y (y l).B] 166));have ZQ:=jj (f.setCell (Q (w.heap.size+1) 3 U) (J I ((l:Int)+1))) #[ZD (y l).has,J I (y l).E,Y (y l).B] 166 f.heap.size 0 (ZD (y l).has) (by simp) rfl;have g1:=jj (f.setCell (Q (w.heap.size+1) 3 U) (J I ((l:Int)+1))) #[ZD (y l).has,J I (y l).E,Y (y l).B] 166 f.heap.size 1 (J I (y l).E) (by simp) rfl;have g2:=jj (f.setCell (Q (w.heap.size+1) 3 U) (J I ((l:Int)+1))) #[ZD (y l).has,J I (y l).E,Y (y l).B] 166 f.heap.size 2 (Y (y l).B) (by simp) rfl;have la:f.heap.size<((f.setCell (Q (w.heap.size+1) 3 U) (J I ((l:Int)+1))).alloc (N #[ZD (y l).has,J I (y l).E,Y (y l).B] 166)).heap.size:=by simp
  go_upto_region 12 with fail;clear z c0 f0 c1 f1 c2 S c3 ZL c4 L c5 V ZJ P ZI ZM c8 f8 c9 ZK R1 d0 d1 d2 i0;generalize World.alloc (World.setCell f _ _) _=W at C ZQ g1 g2 la ⊢;have i0:=C.arg;have hbW:base<=W.heap.size:=p7 hb C.bl.size;obtain⟨E,hi,D,ZP,B⟩:=L8 lJ;obtain⟨z,⟨c0,f0⟩,⟨c1,f1⟩,⟨c2,S⟩,⟨c3,ZL⟩,⟨c4,L⟩,⟨c5,V⟩,⟨ZJ,P⟩,⟨ZI,ZM⟩,⟨c8,f8⟩,c9,ZK⟩:=C.run;rcases h with ⟨rfl,rfl⟩|⟨rfl,⟨h4,rfl⟩|⟨h4,⟨h5,rfl⟩|⟨h5,rfl⟩⟩⟩
  case' inr.inl|inr.inr.inr=>rw[h4] at ZQ
  case' inr.inr.inl =>rw[h4] at ZQ;rw[h5] at g1;go_wp2_with (at_builtin;refine BS _ rfl (.tmp 70) (.tmp 73) 30 rfl base 9 E (Y ⟨#[]⟩) 1 16 IB hi D ZP B rfl (by decide) (Z a s.length cap) s.length (strs s) (by simp[Act.eval]) (by first|exact C.i.alloc _|exact C.i.drew.alloc _|exact C.i.drew.drew.alloc _) (Q W.heap.size 0 U) 1 1 [Y (y l).B] (by simp[Act.eval]) rfl (by first|exact cu W _ _|exact cu W.drew _ _|exact cu W.drew.drew _ _) (by simp[Value.oneCell']) (by unfold maxLen;omega) (by omega) (by simp<;>omega) ?_;intro v' w2 b c r;obtain⟨gg,ZR,rfl⟩:=dq b (by omega);have G:=ae (LkS.grown (by first|exact C.al _|exact C.drew.al _|exact C.drew.drew.al _) c hb);obtain⟨ld,⟨k0,m0⟩,⟨k1,m1⟩,⟨k2,m2⟩,⟨k3,m3⟩,⟨k4,m4⟩,⟨k5,m5⟩,⟨k6,m6⟩,⟨k7,m7⟩,⟨k8,m8⟩,k9,m9⟩:=G.1;obtain⟨x,⟨z0,O⟩,⟨z1,X⟩,⟨z2,ZO⟩,⟨z3,y3⟩,⟨o,y4⟩,⟨m,y5⟩,⟨i,R⟩,⟨j,y7⟩,⟨q,y8⟩,g,y9⟩:=G.2.1)
  case' inl =>go_wp2_with fail;go_region_law (first|(refine eK rfl (.tmp 49) (.tmp 53) 30 rfl base 9 E (Y ⟨#[]⟩) 1 16 IB hi D ZP B rfl (by decide) (Z a s.length cap) s.length (strs s) (by simp[Act.eval]) (by first|exact C.i.alloc _|exact C.i.drew.alloc _|exact C.i.drew.drew.alloc _) (Q W.heap.size 0 U) 1 1 [Y (iU (y l).has)] (by simp[Act.eval]) rfl (by first|exact cu W _ _|exact cu W.drew _ _|exact cu W.drew.drew _ _) (by simp[Value.oneCell']) (by unfold maxLen;omega) (by omega) (by simp<;>omega) ?_;intro v' w2 b c r;obtain⟨gg,ZR,rfl⟩:=dq b (by omega);have G:=ae (LkS.grown (by first|exact C.al _|exact C.drew.al _|exact C.drew.drew.al _) c hb);obtain⟨ld,⟨k0,m0⟩,⟨k1,m1⟩,⟨k2,m2⟩,⟨k3,m3⟩,⟨k4,m4⟩,⟨k5,m5⟩,⟨k6,m6⟩,⟨k7,m7⟩,⟨k8,m8⟩,k9,m9⟩:=G.1;obtain⟨x,⟨z0,O⟩,⟨z1,X⟩,⟨z2,ZO⟩,⟨z3,y3⟩,⟨o,y4⟩,⟨m,y5⟩,⟨i,R⟩,⟨j,y7⟩,⟨q,y8⟩,g,y9⟩:=G.2.1)|(go_simp;go_at_call 191;refine(qg _ _).mono ?_;rintro e w9 ⟨rfl,dg⟩;subst dg))
  all_goals (try (have F:=Ce b (yp (s:=s)).choose_spec G.1.2.1.1;have mv:=Ce b (yp (s:=s)).choose_spec G.2.1.2.1.1;have bt:=ae (dZ b F (Z (T (Q gg 0 U)) (s.length+1) ZR) 1);have B4:=ae (G.2.2.setCell (p:=(Q (w.heap.size+1) 1 U)) (by simp;omega) (Z (T (Q gg 0 U)) (s.length+1) ZR));clear b c r F;(try go_wp2);refine bp (v:=eh p (Z (T (Q gg 0 U)) (s.length+1) ZR) st ((l:Int)+1) ZA 0 ⟨#[]⟩ ZA ⟨#[]⟩ ZA) (by simp[results,TK,go_sem,z0,z1,z2,z3,o,m,i,j,q,g]) rfl ⟨_,rfl,⟨T (Q gg 0 U),ZR,by simp,?_⟩,dY B4.out (by omega) _ _ _ _ _ _ _ _ _ _⟩;rw[gL];exact Fa bt mv _ _ _ _ _ _ _ _ _ _))
 all_goals
  go_wp2_with fail;refine(fL _ _ _ _ _ _ _ _ _ _ _ _ _ _ _).mono ?_;rintro e w2 ⟨rfl,H⟩;replace C:=ae (C.aa H);clear H z c0 f0 c1 f1 c2 S c3 ZL c4 L c5 V ZJ P ZI ZM c8 f8 c9 ZK;obtain⟨x,⟨z0,O⟩,⟨z1,X⟩,⟨z2,ZO⟩,⟨z3,y3⟩,⟨o,y4⟩,⟨m,y5⟩,⟨i,R⟩,⟨j,y7⟩,⟨q,y8⟩,g,y9⟩:=C.zer;go_wp2;first
   |exact bp (v:=eh p (Z a s.length cap) st l ZG 3 ⟨#[]⟩ ZA ⟨#[]⟩ ZA) (by simp[results,TK,go_sem,z0,z1,z2,z3,o,m,i,j,q,g]) rfl ⟨_,rfl,⟨_,_,_,_,_,rfl⟩,dY (C.bl.mono hb) (by omega) _ _ _ _ _ _ _ _ _ _⟩
   |exact bp (v:=eh p (Z a s.length cap) st l ZG 2 pl ZA ⟨#[]⟩ ZA) (by simp[results,TK,go_sem,z0,z1,z2,z3,o,m,i,j,q,g]) rfl ⟨_,rfl,⟨_,_,_,_,_,rfl⟩,dY (C.bl.mono hb) (by omega) _ _ _ _ _ _ _ _ _ _⟩
   |exact bp (v:=eh p (Z a s.length cap) st ((l:Int)+1) ZG 4 nm ZA ⟨#[]⟩ ZA) (by simp[results,TK,go_sem,z0,z1,z2,z3,o,m,i,j,q,g]) rfl ⟨_,rfl,⟨_,_,_,_,_,rfl⟩,dY (C.bl.mono hb) (by omega) _ _ _ _ _ _ _ _ _ _⟩
   |exact bp (v:=eh p (Z a s.length cap) st ((l:Int)+1) ZG 5 nm ZA ⟨#[]⟩ ZA) (by simp[results,TK,go_sem,z0,z1,z2,z3,o,m,i,j,q,g]) rfl ⟨_,rfl,⟨_,_,_,_,_,rfl⟩,dY (C.bl.mono hb) (by omega) _ _ _ _ _ _ _ _ _ _⟩
theorem add0 (g j:Nat):((Q g 0 U):Addr).add j=(Q g j U):=by unfold Addr.add;split<;>simp_all
theorem Ht{r:List ByteArray}(h:w.ownsRow base e 1 (Z (T (Q g 0 U)) (r.length+1) cap) (r.length+1) (strs (x::r))):A w (Q g r.length U)=T (Y x):=by have:=h.cells (g:=g) rfl r.length (Y x) (by rw[gL,IX (by simp)];simp);rwa[add0] at this
theorem Hu{z:ByteArray}{r:List ByteArray}(h:w.ownsRow base e 1 (Z (T (Q g 0 U)) (r.length+2) cap) (r.length+2) (strs (x::z::r))):A w (Q g (r.length+1) U)=T (Y x)/\A w (Q g r.length U)=T (Y z):=by have h1:=h.cells (g:=g) rfl (r.length+1) (Y x) (by rw[gL,IX (by simp)];simp);have h2:=h.cells (g:=g) rfl r.length (Y z) (by rw[gL,N9 (by simp),gL,IX (by simp)];simp);rw[add0] at h1 h2;exact⟨h1,h2⟩
theorem Hv (h:w.ownsRow base e 1 (Z (T (Q g 0 U)) n cap) n i):n<=cap:=by
 rcases h.2 with ⟨f,_⟩|⟨g,c,cur,b,_,_,hn,_⟩
 {simp at f};{simp at b;omega}
theorem Hw{r:List ByteArray}{xs:List ZC}(h:w.ownsRow base e 1 (Z (T (Q g 0 U)) n cap) n (strs r++xs)):∀j u,(strs r)[j]?=T u->w.cell? (((Q g 0 U):Addr).add j)=T u:=λj u b =>h.cells (g:=g) rfl j u (by rw[N9 (by obtain⟨c,_⟩:=n8.1 b;exact c)];exact b)
theorem sI{v:ZC}(h:w.ownsRow base e 1 v n i)(b:v≠.slice U 0 0):∃g cap,v=Z (T (Q g 0 U)) n cap/\base<=g:=by
 rcases h.2 with ⟨f,_⟩|⟨g,cap,cur,b,c,_⟩
 {exact absurd f b};{exact⟨g,cap,b,c⟩}
theorem Fb (r:List ByteArray):∀u∈strs r,u.oneCell'=ZG:=by intro u b;obtain⟨x,_,rfl⟩:=QP.1 b;rfl
theorem SoIs.aq{v:ZC}{r:SO}(h:SoIs w base v r):∃(at_:Int) (a:Option Addr) (n cap:Nat) (st lk:Int) (f:Bool) (c:Int) (x:ByteArray) (ask:Bool) (nm:ByteArray) (b:Bool),v=eh at_ (Z a n cap) st lk f c x ask nm b:=by
 rcases r with ⟨p,st,l,s⟩|⟨c,x,st⟩|⟨ask,nm,st⟩
 {obtain⟨a,cap,e,_⟩:=h;exact⟨_,_,_,_,_,_,_,_,_,_,_,_,e⟩};{obtain⟨at_,a,n,cap,lk,e⟩:=h;exact⟨_,_,_,_,_,_,_,_,_,_,_,_,e⟩};{obtain⟨at_,a,n,cap,lk,e⟩:=h;exact⟨_,_,_,_,_,_,_,_,_,_,_,_,e⟩}
theorem SoIs.set{v:ZC}{r:SO}(h:SoIs w base v r){k:Nat}(f:k<base)(j:Nat)(u:ZC):SoIs (w.setCell (Q k j U) u) base v r:=by
 rcases r with ⟨p,st,l,s⟩|⟨c,x,st⟩|⟨ask,nm,st⟩
 {obtain⟨a,cap,e,b⟩:=h;exact⟨a,cap,e,VK b (a:=(Q k j U)) f u⟩};{exact h};{exact h}
theorem SoIs.mono{base':Nat}{v:ZC}{r:SO}(h:SoIs w base v r)(hb:base'<=base):SoIs w base' v r:=h.kept br hb
theorem Cg{v:ZC}{r:SO}(h:SoIs w base v r){k:Nat}(b:k<base)(v0 v1 v2 v3 v4 v5 v6 v7 v8 v9:ZC):SoIs ((((((((((w.setCell (Q k 0 U) v0).setCell (Q k 1 U) v1).setCell (Q k 2 U) v2).setCell (Q k 3 U) v3).setCell (Q k 4 U) v4).setCell (Q k 5 U) v5).setCell (Q k 6 U) v6).setCell (Q k 7 U) v7).setCell (Q k 8 U) v8).setCell (Q k 9 U) v9) base v r :=
 (((((((((h.set b 0 v0).set b 1 v1).set b 2 v2).set b 3 v3).set b 4 v4).set b 5 v5).set b 6 v6).set b 7 v7).set b 8 v8).set b 9 v9
theorem zT (op n:Nat)(t a b:ByteArray)(h1:1<=op)(h11:op<=11):(bT op n t a b).length=cB op:=by rcases(show op=1∨op=2∨op=3∨op=4∨op=5∨op=6∨op=7∨op=8∨op=9∨op=10∨op=11 by omega) with rfl|rfl|rfl|rfl|rfl|rfl|rfl|rfl|rfl|rfl|rfl;all_goals rfl
theorem Hy (h1:1<=op)(h11:op<=11)(h:j<cB op):op<=8:=by rcases(show op=1∨op=2∨op=3∨op=4∨op=5∨op=6∨op=7∨op=8∨op=9∨op=10∨op=11 by omega) with rfl|rfl|rfl|rfl|rfl|rfl|rfl|rfl|rfl|rfl|rfl;all_goals simp[cB] at h ⊢
theorem Fc (op:Nat):cB op<=2:=by
 unfold cB;split;{omega};{split<;>omega}
def gN (b:List ByteArray)(pl:ByteArray)(r:List ByteArray)(p st l:Nat):SO:=if b.all (λx=>decide (x.size<=2000)) then .inl (p,st,l,(b.reverse++r)) else .inr (.inl (2,pl,st))
theorem Ci (h:j<b.length):(b.take (j+1)).map Value.string=(b.take j).map Value.string++[Y (b.getD j ⟨#[]⟩)]:=by rw[TV,DN,gq h];simp[h]
theorem Fe (b r:List ByteArray):strs (b.reverse++r)=strs r++b.map Value.string:=by simp[strs]
theorem Hz (h:j<b.length)(c:¬ ((b.getD j ⟨#[]⟩).size:Int)<=2000):b.all (λx=>decide (x.size<=2000))=ZA:=by simp only[List.all_eq_false];exact⟨b[j],gz h,by simp[h] at c ⊢;omega⟩
theorem Ff (h:∀i,i<b.length->(b.getD i ⟨#[]⟩).size<=2000):b.all (λx=>decide (x.size<=2000))=ZG:=by simp only[List.all_eq_true,AI];intro x c;obtain⟨i,hi,rfl⟩:=List.mem_iff_getElem.1 c;have:=h i hi;simpa[hi] using this
def iI (y:Nat->aK)(n place st looks:Nat):Res->SO
 |.inr (.inl (c,x))=>.inr (.inl (c,x,st))
 |.inl (s',p)=>.inl (p,st,looks,s')
 |.inr (.inr (a,nm,s'))=>kH y n a nm s' (place+1) st looks
def fY (f:Nat->Ins)(cnt:Nat)(y:Nat->aK)(n place steps looks:Nat)(s:List ByteArray):SO:=iI y n place (fw cnt place steps) looks (dr f cnt place steps looks s)
theorem Cj{a:Option Addr}(h:w.ownsRow base e 1 (Z a n cap) n i):(a=U/\n=0/\cap=0)∨∃g,a=T (Q g 0 U):=by
 rcases h.2 with ⟨f,_⟩|⟨g,c,cur,b,_⟩
 {simp only[N1] at f;exact .inl f};{simp only[N1] at b;exact .inr ⟨g,b.1⟩}
theorem zU (op k:Nat)(t a b:ByteArray)(h1:1<=op)(h11:op<=11)(h2:op≠2)(f:t.size<=2000)(c:a.size<=2000)(hb:b.size<=2000):(bT op k t a b).all (λx=>decide (x.size<=2000))=ZG:=by
 rcases(show op=1∨op=3∨op=4∨op=5∨op=6∨op=7∨op=8∨op=9∨op=10∨op=11 by omega) with rfl|rfl|rfl|rfl|rfl|rfl|rfl|rfl|rfl|rfl;{simp[bT,f]};{simp only[bT,VW,WN,UM,AI];split;{simp;omega};{exact c}};{simp only[bT,VW,WN,UM,AI];split;{simp;omega};{decide}};{simp only[bT,VW,WN,UM,AI];exact p7 (qu _ _) c};{simp only[bT,VW,WN,UM,AI];exact mu _};{simp[bT,c]};{simp[bT,c,hb]};{rfl};{rfl};{rfl}
theorem zY (op k:Nat)(t a b pl:ByteArray)(r:List ByteArray)(p st l:Nat)(h1:1<=op)(c:op<=11)(h2:op≠2)(f:t.size<=2000)(g:a.size<=2000)(hb:b.size<=2000):gN (bT op k t a b) pl r p st l=.inl (p,st,l,((bT op k t a b).reverse++r)):=by unfold gN;rw[zU op k t a b h1 c h2 f g hb];rfl
theorem Jn (k:Nat)(t x z:ByteArray)(r:List ByteArray)(y:Nat->aK)(n place st looks:Nat):iI y n place st looks (dP 2 k t place looks (x::z::r))=gN (bT 2 k t x z) (fg place) r (place+1) st looks:=by
 unfold gN;simp only[dP,bT,VW,WN,UM,IH];by_cases h:z.size+x.size<=2000;{rw[p6 h,p6 (by simpa using h)];rfl};{rw[gM h,gM (by simpa using h)];rfl}
theorem yq (op:Nat)(y:Nat->aK)(n place st looks:Nat)(x:ByteArray)(r:List ByteArray)(b:Bool)(hb:((op:Int) == 12)=b):iI y n place st looks (kG b x r place looks)=jX y n op (fg place) x r (place+1) st looks:=by
 unfold kG jX;rw[hb];by_cases h1:aw x=ZA;{rw[p6 h1,p6 h1];rfl};{rw[gM h1,gM h1];by_cases h2:looks=200;{rw[p6 h2,p6 h2];rfl};{rw[gM h2,gM h2];rfl}}
theorem Fg (l r:List ByteArray):strs (l++r)=strs r++strs l:=by simp[strs]
def mw (op:Nat)(s:List ByteArray):ByteArray:=if 0<ba op then s.getD 0 ⟨#[]⟩ else ⟨#[]⟩
def rp (op:Nat)(s:List ByteArray):ByteArray:=if 1<ba op then s.getD 1 ⟨#[]⟩ else ⟨#[]⟩
def nu (op k:Nat)(a:ByteArray)(place:Nat):Nat:=if op=10 then k else if op=11/\(a.toList=[]∨(a.toList == [48])=ZG) then k else place+1
theorem Km{k:Nat}{ZR:ByteArray}(h:op=10∨op=11/\ZR.toList.isEmpty=ZG∨op=11/\(ZR.toList == [48])=ZG):nu op k ZR place=k:=by
 unfold nu;rcases h with rfl|⟨rfl,h⟩|⟨rfl,h⟩
 {rfl};{rw[gM (by omega),p6 ⟨rfl,.inl (List.isEmpty_iff.1 h)⟩]};{rw[gM (by omega),p6 ⟨rfl,.inr h⟩]}
theorem H6 (op:Nat)(ZR:ByteArray)(h:op<=15):op=15∨op=14∨op=12∨op=13∨op=10∨(op=11/\ZR.toList.isEmpty=ZG)∨(op=11/\ZR.toList.isEmpty=ZA/\(ZR.toList == [48])=ZG)∨(op=11/\ZR.toList.isEmpty=ZA/\(ZR.toList == [48])=ZA)∨op<=9:=by
 by_cases e:op=11;{subst e;cases ZR.toList.isEmpty<;>cases (ZR.toList == [48])<;>simp};{omega}
theorem vi (h:∀x∈s,x.size<=2000)(op:Nat):(mw op s).size<=2000/\(rp op s).size<=2000:=by
 have g:∀j,(s.getD j ⟨#[]⟩).size<=2000:=λj=>by
  rw[IA];rcases hj:s[j]? with _|x;{exact E4 _};{exact h x (LB hj)}
 refine⟨?_,?_⟩;{unfold mw;split;{exact g 0};{exact E4 _}};{unfold rp;split;{exact g 1};{exact E4 _}}
theorem Fh (op k:Nat)(t:ByteArray)(s:List ByteArray)(y:Nat->aK)(n place st looks:Nat)(h1:1<=op)(c:op<=11)(hb:ba op<=s.length)(g:t.size<=2000)(b:∀x∈s,x.size<=2000):iI y n place st looks (dP op k t place looks s)=gN (bT op k t (mw op s) (rp op s)) (fg place) (s.drop (ba op)) (nu op k (mw op s) place) st looks:=by
 have f:=(vi b op).1;have h:=(vi b op).2;by_cases h2:op=2
 ·subst h2;match s,hb with
  |x::z::r,_=>exact Jn k t x z r y n place st looks
 ·rw[zY op k t _ _ _ _ _ _ _ h1 c h2 g f h];rcases(show op=1∨op=3∨op=4∨op=5∨op=6∨op=7∨op=8∨op=9∨op=10∨op=11 by omega) with rfl|rfl|rfl|rfl|rfl|rfl|rfl|rfl|rfl|rfl;{rfl};iterate 3
   ·match s,hb with
    |x::r,_=>rfl
  ·match s,hb with
   |x::z::r,_=>rfl
  ·match s,hb with
   |x::r,_=>rfl
  ·match s,hb with
   |x::z::r,_=>rfl
  ·match s,hb with
   |x::r,_=>rfl
  {rfl}
  ·match s,hb with
   |x::r,_ =>show iI y n place st looks (dP 11 k t place looks (x::r))=.inl (nu 11 k x place,st,looks,r);simp only[dP,iI,nu,show((11:Nat)=10)=False by simp,WO,TF]
theorem H7 (op k:Nat)(t:ByteArray)(s:List ByteArray)(y:Nat->aK)(n place st looks:Nat)(h:op=12∨op=13)(hb:ba op<=s.length):iI y n place st looks (dP op k t place looks s)=jX y n op (fg place) (mw op s) (s.drop (ba op)) (place+1) st looks:=by
 rcases h with rfl|rfl
 ·match s,hb with
  |x::r,_=>exact yq 12 y n place st looks x r ZG rfl
 ·match s,hb with
  |x::r,_=>exact yq 13 y n place st looks x r ZA rfl
theorem yr (op k:Nat)(t:ByteArray)(s:List ByteArray)(y:Nat->aK)(n place st looks:Nat)(h:op=14∨op=15)(hb:ba op<=s.length):iI y n place st looks (dP op k t place looks s)=.inr (.inl (15 - (op:Int),mw op s,st)):=by
 rcases h with rfl|rfl
 ·match s,hb with
  |x::r,_=>rfl
 ·match s,hb with
  |x::r,_=>rfl
