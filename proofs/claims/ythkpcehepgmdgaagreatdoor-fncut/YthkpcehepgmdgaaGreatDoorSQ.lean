import Derived.Test.YthkpcehepgmdgaaGreatDoorSL
import Derived.Test.YthkpcehepgmdgaaGreatDoorTW
set_option maxRecDepth 1000000
set_option maxHeartbeats 4000000
open Go renaming Addr.mk->Q,Value.slice->Z,Value.string->U,Value.int->J,Value.bool->ZC,Obj.cells->N,IntKind.i64->I,World->G,Value->ZD,Ending.returned->ZG,World.setCell->ZT,Proofs.Tryz.prog->Pg
open Option renaming none->Y,some->T
open Bool renaming false->ZB,true->ZF
open List renaming length->A
namespace Go.Proofs.YthkpcehepgmdgaaGreatDoor.Vp
open Tryz RowKit
variable {w W u ZL:G}{b p looks B steps n pb g:Nat}{m:Mst}{cv:ZD}{f:Nat->Ins}{r s:List ByteArray}{y:Nat->ay}{S:Nat->ByteArray}
def Pow (w:G):Prop:=Lib.TabIs Pg w "internal/strconv.uint64pow10" .u64 Lib.pow10Tab
theorem gPow:Pg.globalNamed "internal/strconv.uint64pow10"=T 2:=by kernel_rfl
theorem Pow.aa{b:G}(h:Pow w)(hb:Below B w b)(f:w.heap.size<=B):Pow b:=Joins.tab_stays gPow h hb f
theorem Pow.low{b:G}(h:Pow w)(hb:Below B w b)(f:2<B):Pow b:=var?_below hb gPow f h
theorem sB{b:G}{os:Array Obj}(h:b.heap=W.heap++os)(h1:b.os=W.os)(h2:b.tape=W.tape)(f:b.output=W.output)(hB:B<=W.heap.size):Below B W b :=
 ⟨h1,h2,f,by rw[h,Array.size_append];omega,λi hi=>by rw[h,Array.getElem?_append_left (by omega)]⟩
theorem Bv (m:Nat)(w:G)(hm:(m:Int)<=9223372036854775807)(f:Pow w):Calls Pg 161 #[J I m] w λe b=>e=ZG (U ⟨(Lib.decDigits m).toArray⟩)/\Below w.heap.size w b:=by refine(Tryz.strconv_Itoa (m:Int) (by omega) (by omega) _ f).mono ?_;rintro e b ⟨rfl,j,os,g⟩;rw[Lib.itoa_nonneg];refine⟨rfl,?_⟩;rw[g];exact sB (os:=os) rfl rfl rfl rfl (by simp)
def dU (n:Nat):ByteArray:=⟨(Lib.decDigits n).toArray⟩
def eJ (b:Bool):ByteArray:=if b then ⟨#[49]⟩ else ⟨#[48]⟩
theorem my (x:Bool)(w:G):Calls Pg 155 #[ZC x] w λe b=>e=ZG (U (eJ x))/\b=w:=by
 cases x
 all_goals
  go_enter func155,ntmps155;go_wp2;go_ret;exact⟨rfl,rfl⟩
theorem pz (x:Bool)(w:G):Calls Pg 141 #[ZC x] w λe b=>e=ZG (U (eJ x))/\b=w:=by
 cases x
 all_goals
  go_enter func141,ntmps141;go_wp2;go_ret;exact⟨rfl,rfl⟩
theorem jH (b:Nat)(cv:ZD)(m:Mst)(p:Nat)(w:G)(hM:MAt w b cv m)(hp:p<=2000)(n:Pow w):Calls Pg 158 #[.pointer (T (Q b 0 Y)),J I p] w λe o=>e=ZG (.tuple #[])/\MAt o b cv { m with t:=⟨ZF,2,dU p,ZB,⟨#[]⟩,m.j⟩ }/\Only b w o:=by have s:=ae hM;have u:=ae n;have r:=hM.lt;clear hM n;go_enter func158,ntmps158;go_wp2_with fail;refine(Bv _ _ (by omega) u).mono ?_;rintro e w1 ⟨rfl,h⟩;have q:=ae h;have j:=ae (s.aa h r);clear h;go_wp2_with fail;refine(ke b cv m _ _ _ j).mono ?_;rintro e w2 ⟨rfl,g,f⟩;have i:=ae g;have l:=ae f;clear g f;go_wp2;refine mc rfl rfl ?_;exact⟨rfl,i,(Only.q q).trans l⟩
def pA (p:Nat)(steps:Int):Turn:=⟨ZF,2,dU p,ZB,⟨#[]⟩,steps⟩
theorem Bw (b:Nat)(cv:ZD)(m:Mst)(k p:Nat)(w:G)(hM:MAt w b cv m)(B:m.size=k+2)(hs:k+2<=50)(ZS:p<=2000)(x:Pow w)(ZU:2<b)(ha:(m.S k).size<=2000)(hb:(m.S (k+1)).size<=2000):Calls Pg 162 #[.pointer (T (Q b 0 Y)),J I p] w λe y=>e=ZG (.tuple #[]) /\
   MAt y b cv (if (m.S k).size+(m.S (k+1)).size<=2000 then { m with S:=upd m.S k (m.S k++m.S (k+1)),size:=k+1 } else { m with size:=k,t:=pA p m.j })/\Only b w y:=by
 have E:=ae hM;have H:=ae x;have D:=hM.lt;clear hM x;obtain⟨X,hX⟩:∃X,X=(if (m.S k).size+(m.S (k+1)).size<=2000 then { m with S:=upd m.S k (m.S k++m.S (k+1)),size:=k+1 } else { m with size:=k,t:=pA p m.j }):=⟨_,rfl⟩
 rw[<-hX];have l:=ae hX;clear hX;go_enter func162,ntmps162;go_wp2_with fail;refine(kI b cv m (k+1) _ E B (by omega)).mono ?_;rintro e w1 ⟨rfl,q,n⟩;have z:=ae q;have u:=ae n;clear q n;go_wp2_with fail;refine(kI b cv _ k _ z rfl (by omega)).mono ?_;rintro e w2 ⟨rfl,s,o⟩;have r:=ae s;have i:=ae (u.trans o);clear s o;by_cases hlen:((m.S k).size:Int)+((m.S (k+1)).size:Int)<=2000;{rw[hU (by omega)] at l;go_wp2_with fail;refine(pV b cv _ _ _ r (by simp;omega)).mono ?_;rintro e C ⟨rfl,f,g⟩;have h:=ae f;have j:=ae (i.trans g);clear f g;go_wp2;refine mc rfl rfl ?_;exact⟨rfl,by rw[l.out];exact h,j⟩};{rw[eT (by omega)] at l;go_wp2_with fail;refine(jH b cv _ p _ r ZS (H.low (i.aa ly (PD D)) ZU)).mono ?_;rintro e C ⟨rfl,f,g⟩;have h:=ae f;have j:=ae (i.trans g);clear f g;go_wp2;refine pU rfl rfl ?_;exact⟨rfl,by rw[l.out];exact h,j⟩}
theorem Bz (b:Nat)(cv:ZD)(m:Mst)(ask:Bool)(k p:Nat)(w:G)(hM:MAt w b cv m)(C:m.size=k+1)(hs:k+1<=50)(E:p<=2000)(hlk:0<=m.D)(hlk2:m.D<=200)(ZU:Pow w)(z:2<b):Calls Pg 165 #[.pointer (T (Q b 0 Y)),ZC ask,J I p] w λe B=>e=ZG (.tuple #[]) /\
   MAt B b cv (if av (m.S k)=ZB then { m with size:=k,t:=pA p m.j } else if m.D=200 then { m with size:=k,t:=⟨ZF,3,⟨#[]⟩,ZB,⟨#[]⟩,m.j⟩ } else { m with size:=k,D:=m.D+1,t:=⟨ZB,0,⟨#[]⟩,ask,m.S k,m.j⟩ })/\Only b w B:=by
 have H:=ae hM;have ZQ:=ae ZU;have ZS:=hM.lt;clear hM ZU;obtain⟨X,hX⟩:∃X,X=(if av (m.S k)=ZB then { m with size:=k,t:=pA p m.j } else if m.D=200 then { m with size:=k,t:=⟨ZF,3,⟨#[]⟩,ZB,⟨#[]⟩,m.j⟩ } else { m with size:=k,D:=m.D+1,t:=⟨ZB,0,⟨#[]⟩,ask,m.S k,m.j⟩ }):=⟨_,rfl⟩
 rw[<-hX];have j:=ae hX;clear hX;go_enter func165,ntmps165;go_wp2_with fail;refine(kI b cv m k _ H C (by omega)).mono ?_;rintro e w1 ⟨rfl,s,r⟩;have u:=ae s;have x:=ae r;clear s r;go_wp2_with fail;refine(fF _ _).mono ?_;rintro e w2 ⟨rfl,o⟩;have f:=ae (u.aa o u.lt);have l:=ae (x.trans (Only.q o));clear o;cases hn:av (m.S k) with
 |false =>rw[hU hn] at j;go_wp2_with fail;refine(jH b cv _ p _ f E (ZQ.low (l.aa ly (PD ZS)) z)).mono ?_;rintro e D ⟨rfl,i,h⟩;have n:=ae i;have q:=ae (l.trans h);clear i h;go_wp2;refine pU rfl rfl ?_;exact⟨rfl,by rw[j.out];exact n,q⟩
 |true =>
  rw[eT (by simp[hn])] at j;obtain⟨c4,z4⟩:=f.ad 54 (J I m.D) (by omega) (by simp[Mst.F]);by_cases g:m.D=200
  ·rw[hU g] at j;have y:(m.D == 200)=ZF:=by simp[g]
   go_wp2_with fail;refine(ke b cv _ _ _ _ f).mono ?_;rintro e D ⟨rfl,i,h⟩;have n:=ae i;have q:=ae (l.trans h);clear i h;go_wp2;refine pU rfl rfl ?_;exact⟨rfl,by rw[j.out];exact n,q⟩
  ·rw[eT g] at j;have y:(m.D == 200)=ZB:=by simp[g]
   obtain⟨c3,z3⟩:=f.ad 53 (J I m.j) (by omega) (by simp[Mst.F]);obtain⟨⟨c5,z5⟩,⟨c6,z6⟩,⟨c7,z7⟩,⟨c8,z8⟩,⟨c9,z9⟩,c10,z10⟩:=f.turn;go_wp2;refine mc rfl rfl ?_;exact⟨rfl,by rw[j.out];exact(f.setLooks _).setTurn ⟨ZB,0,⟨#[]⟩,ask,m.S k,m.j⟩,Ef (cj l _ _) ⟨ZB,0,⟨#[]⟩,ask,m.S k,m.j⟩⟩
def Rep (S:Nat->ByteArray):List ByteArray->Prop
 |[]=>True
 |x::r=>S (A r)=x/\Rep S r
theorem Rep.upd{k:Nat}(x:ByteArray)(h:Rep S r)(b:A r<=k):Rep (upd S k x) r:=by
 induction r with
 |nil=>trivial
 |cons y r f =>simp only[p6] at b;refine⟨?_,f h.2 (by omega)⟩;unfold Vp.upd;rw[eT (by omega)];exact h.1
theorem Rep.push (x:ByteArray)(h:Rep S r):Rep (Vp.upd S (A r) x) (x::r) :=
 ⟨by simp[Vp.upd],h.upd x ly⟩
abbrev Res:=(List ByteArray × Nat) ⊕ (Int × ByteArray) ⊕ (Bool × ByteArray × List ByteArray)
def ij (ask:Bool)(a:ByteArray)(r:List ByteArray)(here looks:Nat):Res :=
 if av a=ZB then .inr (.inl (2,(dU here))) else if looks=200 then .inr (.inl (3,⟨#[]⟩)) else .inr (.inr (ask,a,r))
def cE (op n:Nat)(t:ByteArray)(here looks:Nat)(f:List ByteArray):Res :=
 match op,f with
 |1,f=>.inl ((t::f),(here+1))
 |2,b::a::r=>if a.size+b.size<=2000 then .inl (((a++b)::r),(here+1)) else .inr (.inl (2,(dU here)))
 |3,a::r=>.inl (((if n<a.size then a.extract 0 n else a)::r),(here+1))
 |4,a::r=>.inl (((if n<a.size then a.extract n a.size else ⟨#[]⟩)::r),(here+1))
 |5,a::r=>.inl ((fH a n::r),(here+1))
 |6,b::a::r=>.inl ((eJ (b.toList == a.toList)::r),(here+1))
 |7,a::r=>.inl ((a::a::r),(here+1))
 |8,b::a::r=>.inl ((a::b::r),(here+1))
 |9,_::r=>.inl (r,(here+1))
 |10,f=>.inl (f,n)
 |11,a::r=>.inl (r,(if a.toList=[]∨(a.toList == [48])=ZF then n else here+1))
 |12,a::r=>ij ZF a r here looks
 |13,a::r=>ij ZB a r here looks
 |14,a::_=>.inr (.inl (1,a))
 |15,a::_=>.inr (.inl (0,a))
 |_,_=>.inr (.inl (0,⟨#[]⟩))
def After (m b:Mst)(res:Res):Prop:=b.j=m.j/\match res with
 |.inl (stk,p)=>Rep b.S stk/\b.size=A stk/\b.W=p/\b.D=m.D/\b.t=m.t
 |.inr (.inl (c,x))=>b.t=⟨ZF,c,x,ZB,⟨#[]⟩,m.j⟩
 |.inr (.inr (ask,name,stk))=>Rep b.S stk/\b.size=A stk/\b.W=m.W/\b.D=m.D+1/\b.t=⟨ZB,0,⟨#[]⟩,ask,name,m.j⟩
theorem MAt.az{f:G}(h:MAt w b cv m)(g:Below w.heap.size w f):MAt f b cv m:=h.aa g h.lt
theorem Only.az{f:G}(h:Only b u w)(g:Below w.heap.size w f):Only b u f:=h.trans (Only.q g)
theorem Only.frozen{f:G}(h:Only b w f)(k o:Nat)(g:k<w.heap.size)(hb:k≠b):f.frozen? (Q k o Y)=w.frozen? (Q k o Y):=LF (w:=w) (a:=(Q k o Y)) (h.block k g hb)
theorem Only.X (h:Only b w W)(k o:Nat)(v:ZD)(hk:w.heap.size<=k):Only b w (ZT W (Q k o Y) v) :=
 ⟨h.os,h.tape,h.output,by simpa[World.setCell] using h.size,λi hi g=>(qh _ _ _ _ (by simp;omega)).trans (h.block i hi g),λj t fz hb=>by
  obtain⟨f,h1⟩:=h.ty j t fz hb;have hbl:=ag hb
  exact⟨f,(qh _ _ _ _ (by simp;omega)).trans h1⟩⟩
theorem MAt.other (h:MAt w b cv m)(k o:Nat)(v:ZD)(g:k≠b):MAt (ZT w (Q k o Y) v) b cv m :=
 ⟨by simpa using h.1,λj f=>⟨(cell_far w (Q k o Y) (Q b j Y) v g).trans (h.2 j f).1,by have:=(h.2 j f).2;simpa using this⟩⟩
theorem EC (b:Nat)(cv:ZD)(m:Mst)(k:Nat)(v:ByteArray)(w:G)(hM:MAt w b cv m)(g:m.size=k+1)(i:k<50)(h:m.S k=v):Calls Pg 163 #[.pointer (T (Q b 0 Y))] w λe f=>e=ZG (U v)/\MAt f b cv { m with size:=k }/\Only b w f:=by rw[<-h];exact kI b cv m k w hM g i
theorem MAt.drew (h:MAt w b cv m):MAt w.drew b cv m:=h.aa br.drew (gM _)
theorem MAt.al (h:MAt w b cv m)(o:Obj):MAt (w.alloc o) b cv m:=h.aa ((cM w.heap.size _).alloc ly _) h.lt
structure Pf (b:Nat)(cv:ZD)(m:Mst)(w:G)(n:Nat)(s:List ByteArray)(V:G)(u:Mst):Prop where
 mt:MAt V b cv u
 rep:Rep u.S s
 size:u.size=A s
 on:Only b w V
 arg:V.cell? (Q w.heap.size 2 Y)=T (J I n)
 far:w.heap.size≠b/\w.heap.size<V.heap.size
 rest:u.W=m.W/\u.D=m.D/\u.j=m.j/\u.t=m.t
section
variable {b n:Nat}{cv:ZD}{m u:Mst}{w V:G}{s:List ByteArray}{x:ByteArray}
theorem Pf.go{v:Mst}(h:Pf b cv m w n s V u)(g:Only b V ZL)(hM:MAt ZL b cv v)(i:Rep v.S r)(hz:v.size=A r)(f:v.W=u.W/\v.D=u.D/\v.j=u.j/\v.t=u.t):Pf b cv m w n r ZL v :=
 ⟨hM,i,hz,h.on.trans g,(g.cell _ 2 h.far.2 h.far.1).trans h.arg,⟨h.far.1,lj h.far.2 g.size⟩,f.1.trans h.rest.1,f.2.1.trans h.rest.2.1,f.2.2.1.trans h.rest.2.2.1,f.2.2.2.trans h.rest.2.2.2⟩
theorem Pf.drew (h:Pf b cv m w n s V u):Pf b cv m w n s V.drew u:=h.go (Only.refl _ _).drew h.mt.drew h.rep h.size ⟨rfl,rfl,rfl,rfl⟩
theorem Pf.aa (h:Pf b cv m w n s V u)(f:Below V.heap.size V ZL):Pf b cv m w n s ZL u:=h.go (Only.q f) (h.mt.az f) h.rep h.size ⟨rfl,rfl,rfl,rfl⟩
theorem Pf.fin (h:Pf b cv m w n s V u)(g:m.W=p):(∃f,MAt V b cv f/\After m f (.inl (s,p)))/\Only b w V:=⟨⟨u,h.mt,h.rest.2.2.1,h.rep,h.size,h.rest.1.trans g,h.rest.2.1,h.rest.2.2.2⟩,h.on⟩
theorem Pf.jump (h:Pf b cv m w n s V u):(∃f,MAt (ZT V (Q b 52 Y) (J I n)) b cv f/\After m f (.inl (s,n)))/\Only b w (ZT V (Q b 52 Y) (J I n)):=⟨⟨_,h.mt.setPlace _,h.rest.2.2.1,h.rep,h.size,rfl,h.rest.2.1,h.rest.2.2.2⟩,cj h.on _ _⟩
theorem ED{o:Obj}(h:MAt w b cv m/\Rep m.S s/\m.size=A s):(∃f,MAt ((ZT w (Q b 52 Y) (J I n)).alloc o) b cv f/\After m f (.inl (s,n)))/\Only b w ((ZT w (Q b 52 Y) (J I n)).alloc o):=⟨⟨_,(h.1.setPlace _).al _,rfl,h.2.1,h.2.2,rfl,rfl,rfl⟩,(cj (Only.refl _ _) _ _).al _⟩
theorem wF (h:Pf b cv m w n (x::s) V u)(g:(x::s).length<=50):Calls Pg 163 #[.pointer (T (Q b 0 Y))] V λe ZL=>e=ZG (U x)/\∃v,Pf b cv m w n s ZL v:=by simp only[p6] at g;refine(EC b cv u (A s) x V h.mt (by rw[h.size];rfl) (by omega) h.rep.1).mono ?_;rintro e ZL ⟨rfl,hM,f⟩;exact⟨rfl,_,h.go f hM h.rep.2 rfl ⟨rfl,rfl,rfl,rfl⟩⟩
theorem zK (y:ByteArray)(h:Pf b cv m w n s V u)(g:A s<50):Calls Pg 154 #[.pointer (T (Q b 0 Y)),U y] V λe ZL=>e=ZG (.tuple #[])/\∃v,Pf b cv m w n (y::s) ZL v:=by refine(pV b cv u y V h.mt (by rw[h.size];exact g)).mono ?_;rintro e ZL ⟨rfl,hM,f⟩;exact⟨rfl,_,h.go f hM (by rw[h.size];exact h.rep.push y) (by simp[h.size]) ⟨rfl,rfl,rfl,rfl⟩⟩
theorem FZ (c:Int)(y:ByteArray)(h:Pf b cv m w n s V u):Calls Pg 156 #[.pointer (T (Q b 0 Y)),J I c,U y] V λe ZL=>e=ZG (.tuple #[])/\(∃f,MAt ZL b cv f/\After m f (.inr (.inl (c,y))))/\Only b w ZL:=by refine(ke b cv u c y V h.mt).mono ?_;rintro e ZL ⟨rfl,hM,g⟩;exact⟨rfl,⟨_,hM,h.rest.2.2.1,by rw[<-h.rest.2.2.1]⟩,h.on.trans g⟩
theorem EE{y:ByteArray}(h:Pf b cv m w n (x::y::s) V u)(o:(x::y::s).length<=50)(z:p<=2000)(t:Pow V)(i:2<b)(r:x.size<=2000)(q:y.size<=2000)(hpl:m.W=p+1):Calls Pg 162 #[.pointer (T (Q b 0 Y)),J I p] V λe ZL=>e=ZG (.tuple #[])/\(∃f,MAt ZL b cv f/\After m f (cE 2 n ⟨#[]⟩ p 0 (x::y::s)))/\Only b w ZL:=by
 have g:u.S (A s+1)=x:=h.rep.1;have j:u.S (A s)=y:=h.rep.2.1;simp only[p6] at o;refine(Bw b cv u (A s) p V h.mt (by rw[h.size];rfl) (by omega) z t i (by rw[j];exact q) (by rw[g];exact r)).mono ?_;rw[g,j];rintro e ZL ⟨rfl,hM,l⟩;refine⟨rfl,⟨_,hM,?_⟩,h.on.trans l⟩;show After m _ (if y.size+x.size<=2000 then _ else _);split;{exact⟨h.rest.2.2.1,h.rep.2.2.push _,by simp,h.rest.1.trans hpl,h.rest.2.1,h.rest.2.2.2⟩};{exact⟨h.rest.2.2.1,by rw[<-h.rest.2.2.1];rfl⟩}
theorem EF{ask:Bool}(h:Pf b cv m w n (x::s) V u)(o:(x::s).length<=50)(r:p<=2000)(q:Pow V)(i:2<b)(hlk:m.D=looks)(h2:looks<=200):Calls Pg 165 #[.pointer (T (Q b 0 Y)),ZC ask,J I p] V λe ZL=>e=ZG (.tuple #[])/\(∃g,MAt ZL b cv g/\After m g (ij ask x s p looks))/\Only b w ZL:=by
 have l:u.S (A s)=x:=h.rep.1;have t:u.D=looks:=h.rest.2.1.trans hlk;simp only[p6] at o;refine(Bz b cv u ask (A s) p V h.mt (by rw[h.size];rfl) (by omega) r (by omega) (by omega) q i).mono ?_;rw[l];rintro e ZL ⟨rfl,hM,j⟩;refine⟨rfl,⟨_,hM,?_⟩,h.on.trans j⟩;unfold ij;split;{exact⟨h.rest.2.2.1,by rw[<-h.rest.2.2.1];rfl⟩};{rw[t];by_cases f:looks=200;{rw[hU (by omega),hU f];exact⟨h.rest.2.2.1,by rw[<-h.rest.2.2.1]⟩};{rw[eT (by omega),eT f];exact⟨h.rest.2.2.1,h.rep.2,rfl,h.rest.1,by simp[hlk],by rw[<-h.rest.2.2.1]⟩}}
theorem pB (h:1<=A s):∃x r,s=x::r:=by
 cases s with
 |nil=>simp at h
 |cons x r=>exact⟨x,r,rfl⟩
theorem F0 (h:2<=A s):∃x y r,s=x::y::r:=by obtain⟨x,r,rfl⟩:=pB (show 1<=A s by omega);obtain⟨y,t,rfl⟩:=pB (s:=r) (by simp at h;omega);exact⟨x,y,t,rfl⟩
theorem F3 (a:ByteArray)(n:Nat):a.extract 0 (min (n:Int) (a.size:Int)).toNat=if n<a.size then a.extract 0 n else a:=by
 split;{rw[show(min (n:Int) (a.size:Int)).toNat=n by omega]};{rw[show(min (n:Int) (a.size:Int)).toNat=a.size by omega];simp}
theorem F9 (a:ByteArray)(n:Nat):a.extract (min (n:Int) (a.size:Int)).toNat a.size=if n<a.size then a.extract n a.size else ⟨#[]⟩:=by
 split;{rw[show(min (n:Int) (a.size:Int)).toNat=n by omega]};{rw[show(min (n:Int) (a.size:Int)).toNat=a.size by omega];exact lU (by simp)}
end
def eU (op:Nat)(b:List ByteArray):Bool:=decide (aO op<=A b/\(A b) - aO op+bF op<=50)
theorem vv (b:Nat)(cv:ZD)(m:Mst)(op n here looks:Nat)(t:ByteArray)(f:List ByteArray)(w:G)(hM:MAt w b cv m)(hR:Rep m.S f)(hz:m.size=A f)(O:A f<=50)(ZS:m.W=here+1)
 (s:∀x∈f,x.size<=2000) (hn:n<=2000) (ZP:here<=2000) (K:Pow w) (B:2<b) (hlk:m.D=looks) (E:looks<=200) (h1:1<=op) (h15:op<=15) (hb:eU op f=ZF) :
 Calls Pg 160 #[.pointer (T (Q b 0 Y)),.agg #[J I op,U t,J I n],J I here] w λe M=>e=ZG (.tuple #[])/\(∃ZQ,MAt M b cv ZQ/\After m ZQ (cE op n t here looks f))/\Only b w M:=by
 simp only[eU,nX] at hb;obtain⟨g,ZU⟩:=hb;have hlt:=hM.lt;have H:Hid (Pf b cv m w n f (w.alloc (N #[J I op,U t,J I n] 90)) m):=⟨hM.al _,hR,hz,(Only.refl b w).al _,by simp,⟨by omega,by simp⟩,rfl,rfl,rfl,rfl⟩
 have L:Hid (Pow (w.alloc (N #[J I op,U t,J I n] 90))):=K.low ((q9 w).alloc ly _) (by omega);have ZO:=ae (And.intro hM (And.intro hR hz));obtain⟨c3,z3⟩:=hM.ad 52 (J I m.W) (by omega) (by simp[Mst.F]);obtain⟨res,i⟩:∃res,res=cE op n t here looks f:=⟨_,rfl⟩
 rw[<-i];have z:=ae i;clear hM hR K hz i;rcases(show op=1∨op=2∨op=3∨op=4∨op=5∨op=6∨op=7∨op=8∨op=9∨op=10∨op=11∨op=12∨op=13∨op=14∨op=15 by omega) with rfl|rfl|rfl|rfl|rfl|rfl|rfl|rfl|rfl|rfl|rfl|rfl|rfl|rfl|rfl;rotate_left 10;obtain⟨x,r,rfl⟩:=pB (show 1<=A f from g);have q:res=.inl (r,if x.toList=[]∨(x.toList == [48])=ZF then n else here+1):=z.out;clear z;by_cases C:x.toList=[]
 case' neg =>
  have heb:x.toList.isEmpty=ZB:=by simp[C]
  cases h48:(x.toList == [48])
 case' neg.false =>rw[eT (by simp[C,h48])] at q;have h49:¬ x.toList=[48]:=by simpa using h48
 case' neg.true=>rw[hU (.inr h48)] at q
 case' pos=>rw[hU (.inl C)] at q
 case' neg.false|neg.true|pos=>(have z:=ae q;clear q)
 all_goals
  simp only[aO,bF] at g ZU
  (try obtain⟨x,y,r,rfl⟩:=F0 g)
  (try obtain⟨x,r,rfl⟩:=pB g)
  clear g
  (try have D:=s x (by simp))
  (try have P:=s y (by simp))
  clear s
  (try simp only[p6] at O)
  (try simp at ZU)
  go_enter func160,ntmps160;have j:=H.arg
  go_wp2_with (first
   |(go_at_call 163;refine(wF (by first|exact H|exact H.drew|exact H.drew.drew|exact H.drew.drew.drew) (by(try simp only[p6]);omega)).mono ?_;rintro e V ⟨rfl,u,h⟩;replace H:=ae h;clear h;have j:=H.arg;obtain⟨c2,z2⟩:=H.mt.ad 52 (J I m.W) (by omega) (by simp[Mst.F,H.rest.1]);have o:=H.mt.lt)
   |(go_at_call 154;refine(zK _ (by first|exact H|exact H.drew|exact H.drew.drew|exact H.drew.drew.drew) (by(try simp only[p6]);omega)).mono ?_;rintro e V ⟨rfl,u,h⟩;replace H:=ae h;clear h;have j:=H.arg;obtain⟨c2,z2⟩:=H.mt.ad 52 (J I m.W) (by omega) (by simp[Mst.F,H.rest.1]);have o:=H.mt.lt)
   |(go_at_call 155;refine(my _ _).mono ?_;rintro e ZL ⟨rfl,p⟩;rw[p];clear p)
   |(go_at_call 164;refine(px x n _ D hn).mono ?_;rintro e ZL ⟨rfl,l⟩;replace H:=ae (Pf.aa (by first|exact H|exact H.drew|exact H.drew.drew|exact H.drew.drew.drew) l);clear l;have j:=H.arg)
   |(go_at_call 162;refine(EE H (by(try simp only[p6]);omega) ZP L B D P ZS).mono ?_;rintro e ZL ⟨rfl,hF⟩;have F:=ae hF;clear hF)
   |(go_at_call 165;refine(EF H (by(try simp only[p6]);omega) ZP L B hlk E).mono ?_;rintro e ZL ⟨rfl,hF⟩;have F:=ae hF;clear hF)
   |(go_at_call 156;refine(FZ _ _ H).mono ?_;rintro e ZL ⟨rfl,hF⟩;have F:=ae hF;clear hF))
  (try go_region_with (first
   |(go_at_call 163;refine(wF (by first|exact H|exact H.drew|exact H.drew.drew|exact H.drew.drew.drew) (by(try simp only[p6]);omega)).mono ?_;rintro e V ⟨rfl,u,h⟩;replace H:=ae h;clear h;have j:=H.arg;obtain⟨c2,z2⟩:=H.mt.ad 52 (J I m.W) (by omega) (by simp[Mst.F,H.rest.1]);have o:=H.mt.lt)
   |(go_at_call 154;refine(zK _ (by first|exact H|exact H.drew|exact H.drew.drew|exact H.drew.drew.drew) (by(try simp only[p6]);omega)).mono ?_;rintro e V ⟨rfl,u,h⟩;replace H:=ae h;clear h;have j:=H.arg;obtain⟨c2,z2⟩:=H.mt.ad 52 (J I m.W) (by omega) (by simp[Mst.F,H.rest.1]);have o:=H.mt.lt)
   |(go_at_call 155;refine(my _ _).mono ?_;rintro e ZL ⟨rfl,p⟩;rw[p];clear p)
   |(go_at_call 164;refine(px x n _ D hn).mono ?_;rintro e ZL ⟨rfl,l⟩;replace H:=ae (Pf.aa (by first|exact H|exact H.drew|exact H.drew.drew|exact H.drew.drew.drew) l);clear l;have j:=H.arg)))
  all_goals
   (try rw[F3] at H)
   (try rw[F9] at H)
   (try go_wp2)
   (try refine mc rfl rfl ?_)
   (try rw[z.out])
   first
    |exact⟨rfl,F⟩
    |exact⟨rfl,H.fin ZS⟩
    |exact⟨rfl,H.jump⟩
    |exact⟨rfl,ED ZO⟩
def bG (f:Nat->Ins)(cnt place steps looks:Nat)(b:List ByteArray):Res :=
 if cnt<=place then .inr (.inl (2,(dU place))) else if steps=2000 then .inr (.inl (3,⟨#[]⟩)) else
  if eU (f place).op.toNat b=ZB then .inr (.inl (2,(dU place))) else cE (f place).op.toNat (f place).n.toNat (f place).s place looks b
def cO (cnt place steps:Nat):Nat:=if cnt<=place then steps else if steps=2000 then steps else steps+1
theorem MAt.qN (h:MAt w b cv m)(n:Nat):MAt (w.drewN n) b cv m:=h.az (BG br n)
theorem Only.qN (h:Only b u w)(n:Nat):Only b u (w.drewN n):=h.az (BG br n)
theorem BD (b:Nat)(cv:ZD)(m:Mst)(op:Nat)(f:List ByteArray)(w:G)(hM:MAt w b cv m)(h:Tab2 w)(h1:1<=op)(h2:op<=15)(hz:m.size=A f)(hl:A f<=50):Calls Pg 159 #[.pointer (T (Q b 0 Y)),J I op] w λe g=>e=ZG (ZC (eU op f))/\Below w.heap.size w g:=by have:=bears_any b cv m op w hM h (by omega) (by omega) (by omega);rw[hz] at this;exact this
structure Env (w:G)(b pb po cnt:Nat)(f:Nat->Ins):Prop where
 row:RowIns w pb po cnt f
 tab:Tab2 w
 pow:Pow w
 pbb:pb<b
 tbb:0<b
 pwb:2<b
theorem Env.aa{j:G}{cnt:Nat}(h:Env w b pb g cnt f)(hb:Below b w j):Env j b pb g cnt f :=
 ⟨⟨lj h.row.1 hb.size,λi hi=>(h.row.2 i hi).aa hb h.pbb⟩,h.tab.aa hb h.tbb,h.pow.low hb h.pwb,h.pbb,h.tbb,h.pwb⟩
theorem Env.ac{i:G}{cnt:Nat}(h:Env w b pb g cnt f)(j:b<w.heap.size)(hb:Only b w i):Env i b pb g cnt f:=h.aa (hb.aa ly (PD j))
structure Sim (m:Mst)(place steps looks:Nat)(stk:List ByteArray):Prop where
 rep:Rep m.S stk
 size:m.size=A stk
 len:A stk<=50
 hpl:m.W=place
 hst:m.j=steps
 hlk:m.D=looks
 le:∀x∈stk,x.size<=2000
 pl:place<=2000
 st:steps<=2000
 lk:looks<=200
theorem BH (b pb p cnt cap place steps looks:Nat)(f:Nat->Ins)(m:Mst)(i:List ByteArray)(w:G)(hM:MAt w b (Z (T (Q pb p Y)) cnt cap) m)(ZQ:Sim m place steps looks i)(hE:Env w b pb p cnt f)(aq:da f cnt=ZF):Calls Pg 157 #[.pointer (T (Q b 0 Y))] w λe w'=>e=ZG (.tuple #[]) /\
   (∃ZN,MAt w' b (Z (T (Q pb p Y)) cnt cap) ZN/\After { m with j:=cO cnt place steps,W:=place+1 } ZN (bG f cnt place steps looks i))/\Only b w w':=by
 have ZK:=ae hM;have H:=ae hE;have j:=ae ZQ;have x:=hM.lt;have hpl:=ZQ.pl;have hst:=ZQ.st;obtain⟨c1,z1⟩:=hM.ad 51 (Z (T (Q pb p Y)) cnt cap) (by omega) (by simp[Mst.F]);obtain⟨c2,z2⟩:=hM.ad 52 (J I place) (by omega) (by simp[Mst.F,ZQ.hpl]);obtain⟨c3,z3⟩:=hM.ad 53 (J I steps) (by omega) (by simp[Mst.F,ZQ.hst]);clear hM hE ZQ;by_cases h1:cnt<=place
 ·have u:bG f cnt place steps looks i=.inr (.inl (2,(dU place))):=by simp[bG,h1]
  have r:cO cnt place steps=steps:=by simp[cO,h1]
  rw[u,r];clear u r;go_enter func157,ntmps157;go_wp2_with fail;go_quiet (fail);have g:=ae (ZK.qN nq);have q:=ae (H.ac x ((Only.refl b w).qN nq));have o:=ae ((Only.refl b w).qN nq);clear c1 z1 c2 z2 c3 z3;generalize w.drewN nq=W at g q o ⊢;obtain⟨c2,z2⟩:=g.ad 52 (J I place) (by omega) (by simp[Mst.F,j.hpl]);obtain⟨c3,z3⟩:=g.ad 53 (J I steps) (by omega) (by simp[Mst.F,j.hst]);go_wp2_with fail;refine(jH b _ m place _ g hpl q.pow).mono ?_;rintro e P ⟨rfl,z,l⟩;have h:=ae z;have ZP:=ae (o.trans l);clear z l;go_wp2;refine pU rfl rfl ?_;exact⟨rfl,⟨_,h,j.hst,by rw[j.hst]⟩,ZP.out⟩
 ·have h1':(place:Int)<cnt:=by omega
  by_cases h2:steps=2000
  ·have u:bG f cnt place steps looks i=.inr (.inl (3,⟨#[]⟩)):=by simp[bG,h1,h2]
   have r:cO cnt place steps=steps:=by simp[cO,h1,h2]
   rw[u,r];clear u r;have bt:((steps:Int) == 2000)=ZF:=by simp;omega
   go_enter func157,ntmps157;go_wp2_with fail;go_quiet (fail);have g:=ae (ZK.qN nq);have q:=ae (H.ac x ((Only.refl b w).qN nq));have o:=ae ((Only.refl b w).qN nq);clear c1 z1 c2 z2 c3 z3;generalize w.drewN nq=W at g q o ⊢;obtain⟨c2,z2⟩:=g.ad 52 (J I place) (by omega) (by simp[Mst.F,j.hpl]);obtain⟨c3,z3⟩:=g.ad 53 (J I steps) (by omega) (by simp[Mst.F,j.hst]);go_wp2_with fail;refine(ke b _ m _ _ _ g).mono ?_;rintro e P ⟨rfl,z,l⟩;have h:=ae z;have ZP:=ae (o.trans l);clear z l;go_wp2;refine pU rfl rfl ?_;exact⟨rfl,⟨_,h,j.hst,by rw[j.hst]⟩,ZP.out⟩
  ·have bt:((steps:Int) == 2000)=ZB:=by simp;omega
   have r:cO cnt place steps=steps+1:=by simp[cO,h1,h2]
   have hi:=jC aq (show place<cnt by omega);simp only[cF,nX] at hi;obtain⟨i1,i2,i3,i4,i5⟩:=hi;obtain⟨op,ZO⟩:=p9 (show 0<=(f place).op by omega);obtain⟨n,hn⟩:=p9 i4;have u:bG f cnt place steps looks i=if eU op i=ZB then .inr (.inl (2,(dU place))) else cE op n (f place).s place looks i:=by simp only[bG,h1,h2,QE,ZO,hn,MV]
   rw[u,r];obtain⟨R,hR⟩:∃R:Res,R=(if eU op i=ZB then .inr (.inl (2,(dU place))) else cE op n (f place).s place looks i):=⟨_,rfl⟩
   rw[<-hR];have S:=ae hR;clear hR;have ex:dW (f place).op<=2000:=by unfold dW;split<;>(try split)<;>omega
   have ZJ:n<=2000:=by omega
   have X:1<=op:=by omega
   have ZL:op<=15:=by omega
   have HA:Hid (AtIns w pb p place (f place)):=H.row.2 place (by omega);clear u r ex i1 i2 i3 i4 i5;go_enter func157,ntmps157;go_wp2_with fail;go_quiet (fail);have g:=ae (ZK.qN nq);have q:=ae (H.ac x ((Only.refl b w).qN nq));have o:=ae ((Only.refl b w).qN nq);clear c1 z1 c2 z2 c3 z3;generalize w.drewN nq=W at g q o ⊢;obtain⟨c2,z2⟩:=g.ad 52 (J I place) (by omega) (by simp[Mst.F,j.hpl]);obtain⟨c3,z3⟩:=g.ad 53 (J I steps) (by omega) (by simp[Mst.F,j.hst]);obtain⟨c1,z1⟩:=g.ad 51 (Z (T (Q pb p Y)) cnt cap) (by omega) (by simp[Mst.F]);go_wp2_with fail;have h:=ae ((g.setSteps ((steps:Int)+1)).setPlace ((place:Int)+1));have E:=ae (cj (cj o 53 (J I ((steps:Int)+1))) 52 (J I ((place:Int)+1)));clear c1 z1 c2 z2 c3 z3 g o q;generalize World.setCell (World.setCell W _ _) _ _=V at h E ⊢;have L:=ae (H.ac x E);obtain⟨c1,z1⟩:=h.ad 51 (Z (T (Q pb p Y)) cnt cap) (by omega) (by simp[Mst.F]);obtain⟨a0,a1,a2⟩:=L.row.2 place (by omega);rw[ZO] at a0;rw[hn] at a2;obtain⟨B,C⟩:∃B:Mst,B={ m with j:=(steps:Int)+1,W:=(place:Int)+1 }:=⟨_,rfl⟩
   rw[<-C] at h;have k1:B.size=A i:=by rw[C];exact j.size
   have t:=ae C;have ZM:=j.len;clear C;go_region_with (go_at_call 159;refine(BD b (Z (T (Q pb p Y)) cnt cap) B op i _ ?_ ?_ X ZL k1 ZM).mono ?_;(first|exact h|exact h.drew|exact h.drew.drew);(first|exact L.tab|exact(L.aa br.drew).tab);rintro e P ⟨rfl,l⟩;have D:Hid (MAt P b (Z (T (Q pb p Y)) cnt cap) B):=MAt.az (by first|exact h|exact h.drew|exact h.drew.drew) l;have O:Hid (Only b w P):=Only.az (by repeat (first|exact E|apply Only.drew)) l;clear l);all_goals
    have ZS:=ae (H.ac x O);obtain⟨g1,y1⟩:=D.ad 51 (Z (T (Q pb p Y)) cnt cap) (by omega) (by simp[Mst.F]);obtain⟨b0,b1,b2⟩:=ZS.row.2 place (by omega);rw[ZO] at b0;rw[hn] at b2;clear c1 z1 a0 a1 a2 h E;have hlt1:=D.lt;cases hbr:eU op i with
    |false =>rw[hU hbr] at S;go_wp2_with fail;refine(jH b _ B place _ D hpl ZS.pow).mono ?_;rintro e w2 ⟨rfl,y,ZU⟩;have M:=ae y;have K:=ae (O.trans ZU);clear y ZU;go_wp2;refine pU rfl rfl ?_;refine⟨rfl,⟨_,M,?_⟩,K⟩;rw[t.out,S.out];exact⟨by simp,by simp⟩
    |true =>
     rw[eT (by simp[hbr])] at S;go_wp2_with fail;refine(vv b (Z (T (Q pb p Y)) cnt cap) B op n place looks (f place).s i _ ?_ ?_ k1 ZM ?_ ?_ ZJ hpl ?_ ?_ ?_ ?_ X ZL hbr).mono ?_
     ·exact D
     ·rw[t.out];exact j.rep
     ·rw[t.out]
     ·exact j.le
     ·exact ZS.pow
     ·exact ZS.pwb
     ·rw[t.out];exact j.hlk
     ·exact j.lk
     rintro e w2 ⟨rfl,y,ZU⟩;have M:=ae y;have K:=ae (O.trans ZU);clear y ZU;go_wp2;refine mc rfl rfl ?_;obtain⟨ZN,h1,h2⟩:=M.out;refine⟨rfl,⟨ZN,h1,?_⟩,K⟩;rw[S.out];rw[t.out] at h2;exact h2
theorem tS (l:List UInt8)(n:Nat):(b9 l n).length<=A l:=by
 induction n generalizing l with
 |zero =>rw[b9];have h1:=fg l bB;have h2:((l.dropWhile bB).takeWhile (λc=>!bB c)).length<=(l.dropWhile bB).length:=(List.takeWhile_sublist _).length_le;omega
 |succ n b =>
  rw[b9];split;{simp};{have h1:=fg l bB;have h2:=fg (l.dropWhile bB) (λc=>!bB c);have h3:=b ((l.dropWhile bB).dropWhile (λc=>!bB c));omega}
theorem pC (s:ByteArray)(n:Nat):(fH s n).size<=s.size:=tS s.data.toList n
def qt (res:Res)(looks:Nat):Prop:=match res with
 |.inl (stk,p)=>A stk<=50/\(∀x∈stk,x.size<=2000)/\p<=2000
 |.inr (.inl (_,_))=>True
 |.inr (.inr (_,name,stk))=>A stk<50/\(∀x∈stk,x.size<=2000)/\av name=ZF/\looks<200
theorem iO (op n here looks:Nat)(t:ByteArray)(b:List ByteArray)(j:A b<=50)(f:∀x∈b,x.size<=2000)(o:t.size<=2000)(hn:n<=2000)(hh:here<2000)(hlk:looks<=200)(h1:1<=op)(h15:op<=15)(hb:eU op b=ZF):qt (cE op n t here looks b) looks:=by
 have i:∀ask a r,b=a::r->qt (ij ask a r here looks) looks:=by
  intro ask a r e;subst e;simp only[p6] at j;unfold ij;split;{trivial};{rename_i h1;split;{trivial};{rename_i h2;exact⟨by omega,λx l=>f x (by simp[l]),by simpa using h1,by omega⟩}}
 simp only[eU,nX] at hb;obtain⟨g,m⟩:=hb;rcases(show op=1∨op=2∨op=3∨op=4∨op=5∨op=6∨op=7∨op=8∨op=9∨op=10∨op=11∨op=12∨op=13∨op=14∨op=15 by omega) with rfl|rfl|rfl|rfl|rfl|rfl|rfl|rfl|rfl|rfl|rfl|rfl|rfl|rfl|rfl;all_goals simp only[aO,bF] at g m
 {refine⟨by simp at m ⊢;omega,λx l=>?_,by omega⟩;rcases BS.1 l with rfl|l;{exact o};{exact f x l}}
 ·match b,g with
  |x::y::r,_ =>
   show qt (if y.size+x.size<=2000 then _ else _) _;split;{refine⟨by simp at j ⊢;omega,λz hz=>?_,by omega⟩;rcases BS.1 hz with rfl|hz;{simp;omega};{exact f z (by simp[hz])}};{trivial}
 ·match b,g with
  |x::r,_ =>
   refine⟨j,λz hz=>?_,by omega⟩;have l:=f x (by simp);rcases BS.1 hz with rfl|hz;{split;{simp;omega};{exact l}};{exact f z (by simp[hz])}
 ·match b,g with
  |x::r,_ =>
   refine⟨j,λz hz=>?_,by omega⟩;have l:=f x (by simp);rcases BS.1 hz with rfl|hz;{split;{simp;omega};{decide}};{exact f z (by simp[hz])}
 ·match b,g with
  |x::r,_ =>
   refine⟨j,λz hz=>?_,by omega⟩;rcases BS.1 hz with rfl|hz;{exact AD (pC _ _) (f x (by simp))};{exact f z (by simp[hz])}
 ·match b,g with
  |x::y::r,_ =>
   refine⟨by simp at j ⊢;omega,λz hz=>?_,by omega⟩;rcases BS.1 hz with rfl|hz;{unfold eJ;split<;>decide};{exact f z (by simp[hz])}
 ·match b,g with
  |x::r,_ =>
   refine⟨by simp at m ⊢;omega,λz hz=>?_,by omega⟩;rcases BS.1 hz with rfl|hz;{exact f _ (by simp)};{exact f z hz}
 ·match b,g with
  |x::y::r,_ =>refine⟨j,λz hz=>?_,by omega⟩;simp only[BS] at hz;exact f z (by simp only[BS];rcases hz with h|h|h<;>simp[h])
 ·match b,g with
  |x::r,_=>exact⟨by simp at j;omega,λz hz=>f z (by simp[hz]),by omega⟩
 {exact⟨j,f,hn⟩}
 ·match b,g with
  |x::r,_ =>refine⟨by simp at j;omega,λz hz=>f z (by simp[hz]),?_⟩;split<;>omega
 ·match b,g with
  |x::r,_=>exact i ZF x r rfl
 ·match b,g with
  |x::r,_=>exact i ZB x r rfl
 ·match b,g with
  |x::r,_=>trivial
 ·match b,g with
  |x::r,_=>trivial
theorem xW{cnt place:Nat}{b:List ByteArray}(g:Sim m place steps looks b)(h:da f cnt=ZF)(hc:cnt<=200):qt (bG f cnt place steps looks b) looks:=by
 unfold bG;split;{trivial}
 ·rename_i h1;split;{trivial}
  ·split;{trivial}
   ·rename_i i;have hi:=jC h (show place<cnt by omega);simp only[cF,nX] at hi;obtain⟨i1,i2,i3,i4,i5⟩:=hi;have hmt:dW (f place).op<=2000:=by unfold dW;split<;>(try split)<;>omega
    have hmt2:bR (f place).op<=2000:=by unfold bR;split<;>omega
    exact iO _ _ _ _ _ _ g.len g.le (by omega) (by omega) (by omega) g.lk (by omega) (by omega) (by simpa using i)
abbrev Halt:=(Int × ByteArray × Nat) ⊕ (Bool × ByteArray × List ByteArray × Nat × Nat × Nat)
def lA (f:Nat->Ins)(cnt:Nat):Nat->Nat->Nat->Nat->List ByteArray->Option Halt
 |0,_,_,_,_=>Y
 |k+1,place,steps,looks,stk=>match bG f cnt place steps looks stk with
  |.inr (.inl (c,x))=>T (.inl (c,x,(cO cnt place steps)))
  |.inr (.inr (a,nm,s))=>T (.inr (a,nm,s,(place+1),(cO cnt place steps),(looks+1)))
  |.inl (s,p)=>lA f cnt k p (cO cnt place steps) looks s
theorem jq{cnt place:Nat}{b:List ByteArray}(h:bG f cnt place steps looks b=.inl (s,p)):cO cnt place steps=steps+1/\steps≠2000:=by
 unfold bG at h;unfold cO;split at h;{cases h};{split at h;{cases h};{rename_i h1 h2;rw[eT h1,eT h2];exact⟨rfl,h2⟩}}
theorem zL (f:Nat->Ins)(cnt:Nat)(k:Nat):∀place steps looks b,steps<=2000->2001<=k+steps->∃h,lA f cnt k place steps looks b=T h:=by
 induction k with
 |zero=>intro _ _ _ _ h1 h2;omega
 |succ k i =>
  intro place steps looks b h1 h2;rw[lA];rcases hr:bG f cnt place steps looks b with ⟨s,p⟩|⟨c,x⟩|⟨a,nm,s⟩
  {obtain⟨g,e2⟩:=jq hr;simp only[g];exact i _ _ _ _ (by omega) (by omega)};{exact⟨_,rfl⟩};{exact⟨_,rfl⟩}
def fC (m:Mst):Halt->Prop
 |.inl (c,x,k)=>m.t=⟨ZF,c,x,ZB,⟨#[]⟩,k⟩
 |.inr (a,nm,s,p,k,l)=>m.t=⟨ZB,0,⟨#[]⟩,a,nm,k⟩/\Sim m p k l s/\av nm=ZF/\(A s)<50
theorem wG (b pb z cnt cap:Nat)(f:Nat->Ins)(m:Mst)(H:Halt)(w:G)(hM:MAt w b (Z (T (Q pb z Y)) cnt cap) m)(hE:Env w b pb z cnt f)(hc:cnt<=200)(L:da f cnt=ZF)
  (hH:(m.t=cW/\∃p k l s,Sim m p k l s/\lA f cnt (2001 - k) p k l s=T H)∨fC m H) :
  Calls Pg 149 #[.pointer (T (Q b 0 Y))] w λe w'=>∃i,e=ZG i.t.v/\MAt w' b (Z (T (Q pb z Y)) cnt cap) i/\fC i H/\Only b w w':=by
 have HM:=ae hM;have HE:=ae hE;have HH:=ae hH;have aq:=hM.lt;clear hM hE hH;have ZP:=ae (HM.al (N #[ZC ZB,J I 0,U ⟨#[]⟩,ZC ZB,U ⟨#[]⟩,J I 0] 122));have E:w.heap.size<(w.alloc (N #[ZC ZB,J I 0,U ⟨#[]⟩,ZC ZB,U ⟨#[]⟩,J I 0] 122)).heap.size:=by simp
 have B:=ae ((Only.refl b w).al (N #[ZC ZB,J I 0,U ⟨#[]⟩,ZC ZB,U ⟨#[]⟩,J I 0] 122));have ZQ:∀j,j<6->∃v,(w.alloc (N #[ZC ZB,J I 0,U ⟨#[]⟩,ZC ZB,U ⟨#[]⟩,J I 0] 122)).cell? (Q w.heap.size j Y)=T v/\(w.alloc (N #[ZC ZB,J I 0,U ⟨#[]⟩,ZC ZB,U ⟨#[]⟩,J I 0] 122)).frozen? (Q w.heap.size j Y)=ZB:=by intro j hj;rcases(show j=0∨j=1∨j=2∨j=3∨j=4∨j=5 by omega) with rfl|rfl|rfl|rfl|rfl|rfl;all_goals exact⟨_,by simp;rfl,by simp⟩
 have ZO:=ae ZQ;clear ZQ;go_enter func149,ntmps149;go_wp2;generalize World.alloc w _=w0 at ZP E B ZO ⊢;go_loopg [] 2002 (λg wr=>∃i,MAt wr b (Z (T (Q pb z Y)) cnt cap) i/\Only b w0 wr/\((i.t=cW/\∃p k l s,Sim i p k l s/\lA f cnt (2001 - k) p k l s=T H/\2002 - k<=g)∨fC i H));case atStart =>
  refine⟨m,ZP,Only.refl _ _,?_⟩;rcases HH.out with ⟨h1,p,k,l,s,h2,h3⟩|h;{exact .inl ⟨h1,p,k,l,s,h2,h3,by omega⟩};{exact .inr h}
 case round =>
  obtain⟨i,hM,hO,bt⟩:=hrel;have M:=ae hM;have q:=ae hO;obtain⟨⟨c5,z5⟩,⟨C,z6⟩,⟨ZU,z7⟩,⟨ZS,z8⟩,⟨y,z9⟩,u,fd⟩:=hM.turn;clear hM hO;rcases bt with ⟨r,p,k,l,s,D,hr,hg⟩|hst
  ·have o:=ae D;have n7:=ae hr;have hk:=D.st;rw[r] at c5 C ZU ZS y u;simp only[cW] at c5 C ZU ZS y u;have ex:=ae r;clear D hr r;go_wp2_with fail;refine(BH b pb z cnt cap p k l f i s _ M o (HE.ac aq (B.trans q)) L).mono ?_;rintro e w1 ⟨rfl,⟨m2,O,n⟩,K⟩;have ZJ:=ae O;have HA:=ae n;have ld:=ae (q.trans K);clear O n K c5 C ZU ZS y u z5 z6 z7 z8 z9 fd;obtain⟨g,rfl⟩:∃g,gk=g+1:=⟨gk - 1,by omega⟩
   go_wp2;go_roundg g;case measure=>omega
   case rel =>
    refine⟨m2,ZJ,ld,?_⟩;have hR:=n7.out;have hF:=xW o.out L hc;obtain⟨j,hj⟩:∃j,2001 - k=j+1:=⟨2000 - k,by omega⟩
    rw[hj,lA] at hR;have n:=HA.out;rcases hst:bG f cnt p k l s with ⟨W,X⟩|⟨c,x⟩|⟨a,nm,W⟩
    {rw[hst] at hR n hF;obtain⟨e1,e2⟩:=jq hst;obtain⟨a1,R,V,ZM,P,S⟩:=n;obtain⟨f1,ZL,ZN⟩:=hF;simp only[e1] at hR a1;refine .inl ⟨by rw[S];exact ex,X,k+1,l,W,⟨R,V,f1,ZM,a1,by rw[P];exact o.hlk,ZL,ZN,by omega,o.lk⟩,?_,by omega⟩;rw[show 2001 - (k+1)=j by omega];exact hR};{rw[hst] at hR n hF;simp only[KN] at hR;subst hR;exact .inr n.2};{rw[hst] at hR n hF;simp only[KN] at hR;subst hR;obtain⟨a1,R,V,ZM,P,S⟩:=n;obtain⟨f1,ZL,ZN,f4⟩:=hF;have hN:cO cnt p k<=2000/\p+1<=2000:=(by unfold bG at hst;unfold cO;split at hst;{cases hst};{split at hst;{cases hst};{rename_i h1 h2;rw[eT h1,eT h2];omega}});exact .inr ⟨S,⟨R,V,by omega,by rw[ZM];simp,a1,by rw[P];show i.D+1=_;rw[o.hlk];simp,ZL,hN.2,hN.1,by omega⟩,ZN,f1⟩}
  ·have la:=ae hst;rcases H with ⟨c,x,k⟩|⟨a,nm,W,X,k2,l2⟩
   focus
    have r:i.t=⟨ZF,c,x,ZB,⟨#[]⟩,k⟩:=hst;rw[r] at c5 C ZU ZS y u
   rotate_left;focus
    obtain⟨r,D,hn,hl⟩:=hst;rw[r] at c5 C ZU ZS y u;have hne:nm.toList.isEmpty=ZB:=by
     have h0:¬ nm.size=0:=by simp only[av,j5,nX] at hn;omega
     have:=lY h0;cases h:nm.toList with
     |nil=>exact absurd h this
     |cons _ _=>rfl
    clear D hn hl
   rotate_left;all_goals
    obtain⟨⟨v0,q0,y0⟩,⟨v1,q1,y1⟩,⟨v2,q2,y2⟩,⟨v3,q3,y3⟩,⟨v4,q4,y4⟩,⟨v5,ZK,y5⟩⟩:=bl6 ZO.out;rw[<-q.cell w.heap.size _ E (by omega)] at q0 q1 q2 q3 q4 ZK;rw[<-q.frozen w.heap.size _ E (by omega)] at y0 y1 y2 y3 y4 y5;go_wp2;refine bp (v:=i.t.v) (by rw[r];simp[results,results149,go_sem,Turn.v,q0,q1,q2,q3,q4,ZK]) rfl ?_;refine⟨i,rfl,?_,la,?_⟩
    ·exact(((((M.other _ _ _ (by omega)).other _ _ _ (by omega)).other _ _ _ (by omega)).other _ _ _ (by omega)).other _ _ _ (by omega)).other _ _ _ (by omega)
    ·exact((((((B.trans q).X _ _ _ ly).X _ _ _ ly).X _ _ _ ly).X _ _ _ ly).X _ _ _ ly).X _ _ _ ly
def fL (c:Int)(x:ByteArray)(k:Nat):Turn:=⟨ZF,c,x,ZB,⟨#[]⟩,k⟩
def nh (a:Bool)(nm:ByteArray)(k:Nat):Turn:=⟨ZB,0,⟨#[]⟩,a,nm,k⟩
def bW (f:Nat->Ins)(cnt:Nat)(y:Nat->ay)(n:Nat):Nat->Nat->Nat->Nat->List ByteArray->Turn
 |0,_,_,_,_=>cW
 |k+1,place,steps,looks,stk=>match bG f cnt place steps looks stk with
  |.inr (.inl (c,x))=>fL c x (cO cnt place steps)
  |.inl (s,p)=>bW f cnt y n k p (cO cnt place steps) looks s
  |.inr (.inr (a,nm,s))=>if n<=looks then nh a nm (cO cnt place steps)
    else if a=ZB then bW f cnt y n k (place+1) (cO cnt place steps) (looks+1) (eJ (y looks).has::s)
    else if (y looks).has=ZB then fL 4 nm (cO cnt place steps)
    else if (y looks).E=0 then bW f cnt y n k (place+1) (cO cnt place steps) (looks+1) ((y looks).B::s)
    else fL 5 nm (cO cnt place steps)
def fh (f:Nat->Ins)(cnt:Nat)(y:Nat->ay)(n:Nat):Halt->Turn
 |.inl (c,x,k)=>fL c x k
 |.inr (a,nm,s,p,k,l)=>if n<=l - 1 then nh a nm k
   else if a=ZB then bW f cnt y n (2001 - k) p k l (eJ (y (l - 1)).has::s)
   else if (y (l - 1)).has=ZB then fL 4 nm k
   else if (y (l - 1)).E=0 then bW f cnt y n (2001 - k) p k l ((y (l - 1)).B::s)
   else fL 5 nm k
def jd (looks:Nat):Halt->Prop
 |.inl (_,_,_)=>True
 |.inr (_,_,_,_,_,l)=>l=looks+1
theorem lB{cnt place:Nat}{b:List ByteArray}{a:Bool}{nm:ByteArray}(h:bG f cnt place steps looks b=.inr (.inr (a,nm,s))):cO cnt place steps=steps+1/\steps≠2000:=by
 unfold bG at h;unfold cO;split at h;{cases h};{split at h;{cases h};{rename_i h1 h2;rw[eT h1,eT h2];exact⟨rfl,h2⟩}}
theorem tT (f:Nat->Ins)(cnt:Nat)(y:Nat->ay)(n:Nat)(k:Nat):∀place steps looks g H,steps<=2000->2001 - steps=k->lA f cnt k place steps looks g=T H ->
  bW f cnt y n k place steps looks g=fh f cnt y n H/\jd looks H:=by
 induction k with
 |zero=>intro _ _ _ _ _ h1 h2;omega
 |succ k i =>
  intro place steps looks g H h1 h2 b;rw[lA] at b;rw[bW];rcases hs:bG f cnt place steps looks g with ⟨s,p⟩|⟨c,x⟩|⟨a,nm,s⟩
  {obtain⟨h,j⟩:=jq hs;rw[hs] at b;simp only[h] at b ⊢;exact i _ _ _ _ _ (by omega) (by omega) b};{rw[hs] at b;simp only[KN] at b;subst b;exact⟨rfl,trivial⟩};{obtain⟨h,j⟩:=lB hs;rw[hs] at b;simp only[KN] at b;subst b;simp only[fh,h,NR,show 2001 - (steps+1)=k by omega];exact⟨trivial,rfl⟩}
def cy (r:ay):Bool:=decide (r.B.size<=2000/\0<=r.E/\r.E<=7)
def bP (y:Nat->ay):Nat->Bool
 |0=>ZF
 |k+1=>bP y k && cy (y k)
theorem kq{k:Nat}(h:k<=n)(hn:bP y n=ZF):bP y k=ZF:=by
 induction n with
 |zero =>
  obtain rfl:k=0:=by omega
  exact hn
 |succ m b =>
  by_cases e:k=m+1;{subst e;exact hn};{simp only[bP,j5] at hn;exact b (by omega) hn.1}
theorem gO{k:Nat}(h:k<n)(b:cy (y k)=ZB):bP y n=ZB:=by
 cases e:bP y n with
 |false=>rfl
 |true =>have h2:=kq (show k+1<=n by omega) e;simp[bP,b] at h2
theorem BJ{k:Nat}(h:bP y n=ZF)(hk:k<n):(y k).B.size<=2000/\0<=(y k).E/\(y k).E<=7:=by have:=kq (show k+1<=n by omega) h;simp only[bP,j5,cy,nX] at this;exact this.2
