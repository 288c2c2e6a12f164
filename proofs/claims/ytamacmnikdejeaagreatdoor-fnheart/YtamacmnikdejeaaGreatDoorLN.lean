import Derived.Test.YtamacmnikdejeaaGreatDoorLK
import Derived.Test.YtamacmnikdejeaaGreatDoorMV
set_option maxRecDepth 1000000
set_option maxHeartbeats 4000000
open Go renaming Addr.mk->Q,Value.slice->Y,Value.string->U,Value.int->J,Value.bool->ZC,Obj.cells->N,IntKind.i64->I,World->E,Value->ZB,Ending.returned->ZF,Proofs.Tryz.prog->Pg
open Option renaming none->Z,some->T
open Bool renaming false->ZA,true->ZD
namespace Go.Proofs.YtamacmnikdejeaaGreatDoor.Vp
open Tryz RowKit
variable {w W ZK:E}{b p looks place steps g:Nat}{f:Nat->Ins}{cv:ZB}{m:Mst}{r:List ByteArray}{y:Nat->aC}{S:Nat->ByteArray}
def Pow (w:E):Prop:=Lib.TabIs Pg w "internal/strconv.uint64pow10" .u64 Lib.pow10Tab
theorem gPow:Pg.globalNamed "internal/strconv.uint64pow10"=T 2:=by kernel_rfl
theorem Pow.aa{b:E}{B:Nat}(h:Pow w)(hb:Below B w b)(f:w.heap.size<=B):Pow b:=Joins.tab_stays gPow h hb f
theorem Pow.low{b:E}{B:Nat}(h:Pow w)(hb:Below B w b)(f:2<B):Pow b:=var?_below hb gPow f h
theorem sM{b:E}{os:Array Obj}{B:Nat}(h:b.heap=W.heap++os)(h1:b.os=W.os)(h2:b.tape=W.tape)(f:b.output=W.output)(hB:B<=W.heap.size):Below B W b :=
 ⟨h1,h2,f,by rw[h,Array.size_append];omega,λi hi=>by rw[h,Array.getElem?_append_left (by omega)]⟩
theorem BU (m:Nat)(w:E)(hm:(m:Int)<=9223372036854775807)(f:Pow w):Calls Pg 219 #[J I m] w λe b=>e=ZF (U ⟨(Lib.decDigits m).toArray⟩)/\Below w.heap.size w b:=by refine(Tryz.strconv_Itoa (m:Int) (by omega) (by omega) _ f).mono ?_;rintro e b ⟨rfl,j,os,g⟩;rw[Lib.itoa_nonneg];refine⟨rfl,?_⟩;rw[g];exact sM (os:=os) rfl rfl rfl rfl (by simp)
def dO (n:Nat):ByteArray:=⟨(Lib.decDigits n).toArray⟩
def ez (b:Bool):ByteArray:=if b then ⟨#[49]⟩ else ⟨#[48]⟩
theorem mz (x:Bool)(w:E):Calls Pg 191 #[ZC x] w λe b=>e=ZF (U (ez x))/\b=w:=by
 cases x
 all_goals
  go_enter func191,ntmps191;go_wp2;go_ret;exact⟨rfl,rfl⟩
theorem pH (x:Bool)(w:E):Calls Pg 194 #[ZC x] w λe b=>e=ZF (U (ez x))/\b=w:=by
 cases x
 all_goals
  go_enter func194,ntmps194;go_wp2;go_ret;exact⟨rfl,rfl⟩
theorem jB (b:Nat)(cv:ZB)(m:Mst)(p:Nat)(w:E)(hM:MAt w b cv m)(hp:p<=2000)(n:Pow w):Calls Pg 210 #[.pointer (T (Q b 0 Z)),J I p] w λe o=>e=ZF (.tuple #[])/\MAt o b cv { m with t:=⟨ZD,2,dO p,ZA,⟨#[]⟩,m.j⟩ }/\Only b w o:=by have r:=ae hM;have q:=ae n;have s:=hM.lt;clear hM n;go_enter func210,ntmps210;go_wp2_with fail;refine(BU _ _ (by omega) q).mono ?_;rintro e w1 ⟨rfl,h⟩;have u:=ae h;have i:=ae (r.aa h s);clear h;go_wp2_with fail;refine(jY b cv m _ _ _ i).mono ?_;rintro e w2 ⟨rfl,g,f⟩;have j:=ae g;have l:=ae f;clear g f;go_wp2;refine mc rfl rfl ?_;exact⟨rfl,j,(Only.q u).trans l⟩
def pI (p:Nat)(steps:Int):Turn:=⟨ZD,2,dO p,ZA,⟨#[]⟩,steps⟩
theorem BV (b:Nat)(cv:ZB)(m:Mst)(k p:Nat)(w:E)(hM:MAt w b cv m)(G:m.size=k+2)(hs:k+2<=50)(B:p<=2000)(y:Pow w)(x:2<b)(ha:(m.S k).size<=2000)(hb:(m.S (k+1)).size<=2000):Calls Pg 220 #[.pointer (T (Q b 0 Z)),J I p] w λe A=>e=ZF (.tuple #[]) /\
   MAt A b cv (if (m.S k).size+(m.S (k+1)).size<=2000 then { m with S:=upd m.S k (m.S k++m.S (k+1)),size:=k+1 } else { m with size:=k,t:=pI p m.j })/\Only b w A:=by
 have C:=ae hM;have H:=ae y;have ZQ:=hM.lt;clear hM y;obtain⟨X,hX⟩:∃X,X=(if (m.S k).size+(m.S (k+1)).size<=2000 then { m with S:=upd m.S k (m.S k++m.S (k+1)),size:=k+1 } else { m with size:=k,t:=pI p m.j }):=⟨_,rfl⟩
 rw[<-hX];have l:=ae hX;clear hX;go_enter func220,ntmps220;go_wp2_with fail;refine(kE b cv m (k+1) _ C G (by omega)).mono ?_;rintro e w1 ⟨rfl,s,r⟩;have u:=ae s;have z:=ae r;clear s r;go_wp2_with fail;refine(kE b cv _ k _ u rfl (by omega)).mono ?_;rintro e w2 ⟨rfl,q,o⟩;have n:=ae q;have i:=ae (z.trans o);clear q o;by_cases hlen:((m.S k).size:Int)+((m.S (k+1)).size:Int)<=2000;{rw[j6 (by omega)] at l;go_wp2_with fail;refine(qi b cv _ _ _ n (by simp;omega)).mono ?_;rintro e D ⟨rfl,f,g⟩;have j:=ae f;have h:=ae (i.trans g);clear f g;go_wp2;refine mc rfl rfl ?_;exact⟨rfl,by rw[l.out];exact j,h⟩};{rw[eT (by omega)] at l;go_wp2_with fail;refine(jB b cv _ p _ n B (H.low (i.aa ly (QM ZQ)) x)).mono ?_;rintro e D ⟨rfl,f,g⟩;have j:=ae f;have h:=ae (i.trans g);clear f g;go_wp2;refine qg rfl rfl ?_;exact⟨rfl,by rw[l.out];exact j,h⟩}
theorem Cb (b:Nat)(cv:ZB)(m:Mst)(ask:Bool)(k p:Nat)(w:E)(hM:MAt w b cv m)(C:m.size=k+1)(hs:k+1<=50)(ZQ:p<=2000)(hlk:0<=m.looks)(hlk2:m.looks<=200)(y:Pow w)(x:2<b):Calls Pg 223 #[.pointer (T (Q b 0 Z)),ZC ask,J I p] w λe B=>e=ZF (.tuple #[]) /\
   MAt B b cv (if aB (m.S k)=ZA then { m with size:=k,t:=pI p m.j } else if m.looks=200 then { m with size:=k,t:=⟨ZD,3,⟨#[]⟩,ZA,⟨#[]⟩,m.j⟩ } else { m with size:=k,looks:=m.looks+1,t:=⟨ZA,0,⟨#[]⟩,ask,m.S k,m.j⟩ })/\Only b w B:=by
 have G:=ae hM;have D:=ae y;have ZP:=hM.lt;clear hM y;obtain⟨X,hX⟩:∃X,X=(if aB (m.S k)=ZA then { m with size:=k,t:=pI p m.j } else if m.looks=200 then { m with size:=k,t:=⟨ZD,3,⟨#[]⟩,ZA,⟨#[]⟩,m.j⟩ } else { m with size:=k,looks:=m.looks+1,t:=⟨ZA,0,⟨#[]⟩,ask,m.S k,m.j⟩ }):=⟨_,rfl⟩
 rw[<-hX];have j:=ae hX;clear hX;go_enter func223,ntmps223;go_wp2_with fail;refine(kE b cv m k _ G C (by omega)).mono ?_;rintro e w1 ⟨rfl,u,s⟩;have r:=ae u;have A:=ae s;clear u s;go_wp2_with fail;refine(eV _ _).mono ?_;rintro e w2 ⟨rfl,n⟩;have f:=ae (r.aa n r.lt);have l:=ae (A.trans (Only.q n));clear n;cases hn:aB (m.S k) with
 |false =>rw[j6 hn] at j;go_wp2_with fail;refine(jB b cv _ p _ f ZQ (D.low (l.aa ly (QM ZP)) x)).mono ?_;rintro e H ⟨rfl,i,h⟩;have o:=ae i;have q:=ae (l.trans h);clear i h;go_wp2;refine qg rfl rfl ?_;exact⟨rfl,by rw[j.out];exact o,q⟩
 |true =>
  rw[eT (by simp[hn])] at j;obtain⟨c4,z4⟩:=f.am 54 (J I m.looks) (by omega) (by simp[Mst.F]);by_cases g:m.looks=200
  ·rw[j6 g] at j;have z:(m.looks == 200)=ZD:=by simp[g]
   go_wp2_with fail;refine(jY b cv _ _ _ _ f).mono ?_;rintro e H ⟨rfl,i,h⟩;have o:=ae i;have q:=ae (l.trans h);clear i h;go_wp2;refine qg rfl rfl ?_;exact⟨rfl,by rw[j.out];exact o,q⟩
  ·rw[eT g] at j;have z:(m.looks == 200)=ZA:=by simp[g]
   obtain⟨c3,z3⟩:=f.am 53 (J I m.j) (by omega) (by simp[Mst.F]);obtain⟨⟨c5,z5⟩,⟨c6,z6⟩,⟨c7,z7⟩,⟨c8,z8⟩,⟨c9,z9⟩,c10,z10⟩:=f.turn;go_wp2;refine mc rfl rfl ?_;exact⟨rfl,by rw[j.out];exact(f.setLooks _).setTurn ⟨ZA,0,⟨#[]⟩,ask,m.S k,m.j⟩,Ep (ce l _ _) ⟨ZA,0,⟨#[]⟩,ask,m.S k,m.j⟩⟩
def Rep (S:Nat->ByteArray):List ByteArray->Prop
 |[]=>True
 |x::r=>S r.length=x/\Rep S r
theorem Rep.upd{k:Nat}(x:ByteArray)(h:Rep S r)(b:r.length<=k):Rep (upd S k x) r:=by
 induction r with
 |nil=>trivial
 |cons y r f =>simp only[xT] at b;refine⟨?_,f h.2 (by omega)⟩;unfold Vp.upd;rw[eT (by omega)];exact h.1
theorem Rep.push (x:ByteArray)(h:Rep S r):Rep (Vp.upd S r.length x) (x::r) :=
 ⟨by simp[Vp.upd],h.upd x ly⟩
abbrev Res:=(List ByteArray × Nat) ⊕ (Int × ByteArray) ⊕ (Bool × ByteArray × List ByteArray)
def gV (ask:Bool)(a:ByteArray)(r:List ByteArray)(b looks:Nat):Res :=
 if aB a=ZA then .inr (.inl (2,(dO b))) else if looks=200 then .inr (.inl (3,⟨#[]⟩)) else .inr (.inr (ask,a,r))
def cF (op n:Nat)(t:ByteArray)(f looks:Nat)(g:List ByteArray):Res :=
 match op,g with
 |1,g=>.inl ((t::g),(f+1))
 |2,b::a::r=>if a.size+b.size<=2000 then .inl (((a++b)::r),(f+1)) else .inr (.inl (2,(dO f)))
 |3,a::r=>.inl (((if n<a.size then a.extract 0 n else a)::r),(f+1))
 |4,a::r=>.inl (((if n<a.size then a.extract n a.size else ⟨#[]⟩)::r),(f+1))
 |5,a::r=>.inl ((fF a n::r),(f+1))
 |6,b::a::r=>.inl ((ez (b.toList == a.toList)::r),(f+1))
 |7,a::r=>.inl ((a::a::r),(f+1))
 |8,b::a::r=>.inl ((a::b::r),(f+1))
 |9,_::r=>.inl (r,(f+1))
 |10,g=>.inl (g,n)
 |11,a::r=>.inl (r,(if a.toList=[]∨(a.toList == [48])=ZD then n else f+1))
 |12,a::r=>gV ZD a r f looks
 |13,a::r=>gV ZA a r f looks
 |14,a::_=>.inr (.inl (1,a))
 |15,a::_=>.inr (.inl (0,a))
 |_,_=>.inr (.inl (0,⟨#[]⟩))
def After (m b:Mst)(res:Res):Prop:=b.j=m.j/\match res with
 |.inl (stk,p)=>Rep b.S stk/\b.size=stk.length/\b.ao=p/\b.looks=m.looks/\b.t=m.t
 |.inr (.inl (c,x))=>b.t=⟨ZD,c,x,ZA,⟨#[]⟩,m.j⟩
 |.inr (.inr (ask,name,stk))=>Rep b.S stk/\b.size=stk.length/\b.ao=m.ao/\b.looks=m.looks+1/\b.t=⟨ZA,0,⟨#[]⟩,ask,name,m.j⟩
theorem MAt.ak{f:E}(h:MAt w b cv m)(g:Below w.heap.size w f):MAt f b cv m:=h.aa g h.lt
theorem Only.ak{u f:E}(h:Only b u w)(g:Below w.heap.size w f):Only b u f:=h.trans (Only.q g)
theorem Only.frozen{f:E}(h:Only b w f)(k o:Nat)(g:k<w.heap.size)(hb:k≠b):f.frozen? (Q k o Z)=w.frozen? (Q k o Z):=KM (w:=w) (a:=(Q k o Z)) (h.block k g hb)
theorem Only.X (h:Only b w W)(k o:Nat)(v:ZB)(hk:w.heap.size<=k):Only b w (W.setCell (Q k o Z) v) :=
 ⟨h.os,h.tape,h.output,by simpa[World.setCell] using h.size,λi hi j=>(qh _ _ _ _ (by simp;omega)).trans (h.block i hi j),λg t fz hb=>by
  obtain⟨f,h1⟩:=h.ty g t fz hb;have hbl:=ar hb
  exact⟨f,(qh _ _ _ _ (by simp;omega)).trans h1⟩⟩
theorem MAt.other (h:MAt w b cv m)(k o:Nat)(v:ZB)(g:k≠b):MAt (w.setCell (Q k o Z) v) b cv m :=
 ⟨by simpa using h.1,λj f=>⟨(cell_far w (Q k o Z) (Q b j Z) v g).trans (h.2 j f).1,by have:=(h.2 j f).2;simpa using this⟩⟩
theorem EW (b:Nat)(cv:ZB)(m:Mst)(k:Nat)(v:ByteArray)(w:E)(hM:MAt w b cv m)(g:m.size=k+1)(i:k<50)(h:m.S k=v):Calls Pg 221 #[.pointer (T (Q b 0 Z))] w λe f=>e=ZF (U v)/\MAt f b cv { m with size:=k }/\Only b w f:=by rw[<-h];exact kE b cv m k w hM g i
theorem MAt.drew (h:MAt w b cv m):MAt w.drew b cv m:=h.aa br.drew (j4 _)
theorem MAt.al (h:MAt w b cv m)(o:Obj):MAt (w.alloc o) b cv m:=h.aa ((cM w.heap.size _).alloc ly _) h.lt
structure Pf (b:Nat)(cv:ZB)(m:Mst)(w:E)(n:Nat)(s:List ByteArray)(V:E)(u:Mst):Prop where
 mt:MAt V b cv u
 rep:Rep u.S s
 size:u.size=s.length
 on:Only b w V
 arg:V.cell? (Q w.heap.size 2 Z)=T (J I n)
 far:w.heap.size≠b/\w.heap.size<V.heap.size
 rest:u.ao=m.ao/\u.looks=m.looks/\u.j=m.j/\u.t=m.t
section
variable {b n:Nat}{cv:ZB}{m u:Mst}{w V:E}{s:List ByteArray}{x:ByteArray}
theorem Pf.go{v:Mst}(h:Pf b cv m w n s V u)(g:Only b V ZK)(hM:MAt ZK b cv v)(i:Rep v.S r)(hz:v.size=r.length)(f:v.ao=u.ao/\v.looks=u.looks/\v.j=u.j/\v.t=u.t):Pf b cv m w n r ZK v :=
 ⟨hM,i,hz,h.on.trans g,(g.cell _ 2 h.far.2 h.far.1).trans h.arg,⟨h.far.1,lj h.far.2 g.size⟩,f.1.trans h.rest.1,f.2.1.trans h.rest.2.1,f.2.2.1.trans h.rest.2.2.1,f.2.2.2.trans h.rest.2.2.2⟩
theorem Pf.drew (h:Pf b cv m w n s V u):Pf b cv m w n s V.drew u:=h.go (Only.refl _ _).drew h.mt.drew h.rep h.size ⟨rfl,rfl,rfl,rfl⟩
theorem Pf.aa (h:Pf b cv m w n s V u)(f:Below V.heap.size V ZK):Pf b cv m w n s ZK u:=h.go (Only.q f) (h.mt.ak f) h.rep h.size ⟨rfl,rfl,rfl,rfl⟩
theorem Pf.fin (h:Pf b cv m w n s V u)(g:m.ao=p):(∃f,MAt V b cv f/\After m f (.inl (s,p)))/\Only b w V:=⟨⟨u,h.mt,h.rest.2.2.1,h.rep,h.size,h.rest.1.trans g,h.rest.2.1,h.rest.2.2.2⟩,h.on⟩
theorem Pf.jump (h:Pf b cv m w n s V u):(∃f,MAt (V.setCell (Q b 52 Z) (J I n)) b cv f/\After m f (.inl (s,n)))/\Only b w (V.setCell (Q b 52 Z) (J I n)):=⟨⟨_,h.mt.setPlace _,h.rest.2.2.1,h.rep,h.size,rfl,h.rest.2.1,h.rest.2.2.2⟩,ce h.on _ _⟩
theorem EY{o:Obj}(h:MAt w b cv m/\Rep m.S s/\m.size=s.length):(∃f,MAt ((w.setCell (Q b 52 Z) (J I n)).alloc o) b cv f/\After m f (.inl (s,n)))/\Only b w ((w.setCell (Q b 52 Z) (J I n)).alloc o):=⟨⟨_,(h.1.setPlace _).al _,rfl,h.2.1,h.2.2,rfl,rfl,rfl⟩,(ce (Only.refl _ _) _ _).al _⟩
theorem wG (h:Pf b cv m w n (x::s) V u)(g:(x::s).length<=50):Calls Pg 221 #[.pointer (T (Q b 0 Z))] V λe ZK=>e=ZF (U x)/\∃v,Pf b cv m w n s ZK v:=by simp only[xT] at g;refine(EW b cv u s.length x V h.mt (by rw[h.size];rfl) (by omega) h.rep.1).mono ?_;rintro e ZK ⟨rfl,hM,f⟩;exact⟨rfl,_,h.go f hM h.rep.2 rfl ⟨rfl,rfl,rfl,rfl⟩⟩
theorem zJ (y:ByteArray)(h:Pf b cv m w n s V u)(g:s.length<50):Calls Pg 190 #[.pointer (T (Q b 0 Z)),U y] V λe ZK=>e=ZF (.tuple #[])/\∃v,Pf b cv m w n (y::s) ZK v:=by refine(qi b cv u y V h.mt (by rw[h.size];exact g)).mono ?_;rintro e ZK ⟨rfl,hM,f⟩;exact⟨rfl,_,h.go f hM (by rw[h.size];exact h.rep.push y) (by simp[h.size]) ⟨rfl,rfl,rfl,rfl⟩⟩
theorem Gc (c:Int)(y:ByteArray)(h:Pf b cv m w n s V u):Calls Pg 192 #[.pointer (T (Q b 0 Z)),J I c,U y] V λe ZK=>e=ZF (.tuple #[])/\(∃f,MAt ZK b cv f/\After m f (.inr (.inl (c,y))))/\Only b w ZK:=by refine(jY b cv u c y V h.mt).mono ?_;rintro e ZK ⟨rfl,hM,g⟩;exact⟨rfl,⟨_,hM,h.rest.2.2.1,by rw[<-h.rest.2.2.1]⟩,h.on.trans g⟩
theorem EZ{y:ByteArray}(h:Pf b cv m w n (x::y::s) V u)(t:(x::y::s).length<=50)(l:p<=2000)(q:Pow V)(j:2<b)(o:x.size<=2000)(z:y.size<=2000)(hpl:m.ao=p+1):Calls Pg 220 #[.pointer (T (Q b 0 Z)),J I p] V λe ZK=>e=ZF (.tuple #[])/\(∃f,MAt ZK b cv f/\After m f (cF 2 n ⟨#[]⟩ p 0 (x::y::s)))/\Only b w ZK:=by
 have i:u.S (s.length+1)=x:=h.rep.1;have g:u.S s.length=y:=h.rep.2.1;simp only[xT] at t;refine(BV b cv u s.length p V h.mt (by rw[h.size];rfl) (by omega) l q j (by rw[g];exact z) (by rw[i];exact o)).mono ?_;rw[i,g];rintro e ZK ⟨rfl,hM,r⟩;refine⟨rfl,⟨_,hM,?_⟩,h.on.trans r⟩;show After m _ (if y.size+x.size<=2000 then _ else _);split;{exact⟨h.rest.2.2.1,h.rep.2.2.push _,by simp,h.rest.1.trans hpl,h.rest.2.1,h.rest.2.2.2⟩};{exact⟨h.rest.2.2.1,by rw[<-h.rest.2.2.1];rfl⟩}
theorem E7{ask:Bool}(h:Pf b cv m w n (x::s) V u)(t:(x::s).length<=50)(l:p<=2000)(q:Pow V)(i:2<b)(hlk:m.looks=looks)(h2:looks<=200):Calls Pg 223 #[.pointer (T (Q b 0 Z)),ZC ask,J I p] V λe ZK=>e=ZF (.tuple #[])/\(∃g,MAt ZK b cv g/\After m g (gV ask x s p looks))/\Only b w ZK:=by
 have o:u.S s.length=x:=h.rep.1;have j:u.looks=looks:=h.rest.2.1.trans hlk;simp only[xT] at t;refine(Cb b cv u ask s.length p V h.mt (by rw[h.size];rfl) (by omega) l (by omega) (by omega) q i).mono ?_;rw[o];rintro e ZK ⟨rfl,hM,r⟩;refine⟨rfl,⟨_,hM,?_⟩,h.on.trans r⟩;unfold gV;split;{exact⟨h.rest.2.2.1,by rw[<-h.rest.2.2.1];rfl⟩};{rw[j];by_cases f:looks=200;{rw[j6 (by omega),j6 f];exact⟨h.rest.2.2.1,by rw[<-h.rest.2.2.1]⟩};{rw[eT (by omega),eT f];exact⟨h.rest.2.2.1,h.rep.2,rfl,h.rest.1,by simp[hlk],by rw[<-h.rest.2.2.1]⟩}}
theorem pJ (h:1<=s.length):∃x r,s=x::r:=by
 cases s with
 |nil=>simp at h
 |cons x r=>exact⟨x,r,rfl⟩
theorem Ge (h:2<=s.length):∃x y r,s=x::y::r:=by obtain⟨x,r,rfl⟩:=pJ (show 1<=s.length by omega);obtain⟨y,t,rfl⟩:=pJ (s:=r) (by simp at h;omega);exact⟨x,y,t,rfl⟩
theorem Gf (a:ByteArray)(n:Nat):a.extract 0 (min (n:Int) (a.size:Int)).toNat=if n<a.size then a.extract 0 n else a:=by
 split;{rw[show(min (n:Int) (a.size:Int)).toNat=n by omega]};{rw[show(min (n:Int) (a.size:Int)).toNat=a.size by omega];simp}
theorem Gg (a:ByteArray)(n:Nat):a.extract (min (n:Int) (a.size:Int)).toNat a.size=if n<a.size then a.extract n a.size else ⟨#[]⟩:=by
 split;{rw[show(min (n:Int) (a.size:Int)).toNat=n by omega]};{rw[show(min (n:Int) (a.size:Int)).toNat=a.size by omega];exact lT (by simp)}
end
def eJ (op:Nat)(b:List ByteArray):Bool:=decide (aS op<=b.length/\b.length - aS op+bJ op<=50)
theorem vF (b:Nat)(cv:ZB)(m:Mst)(op n g looks:Nat)(t:ByteArray)(f:List ByteArray)(w:E)(hM:MAt w b cv m)(hR:Rep m.S f)(hz:m.size=f.length)(P:f.length<=50)(ZP:m.ao=g+1)
 (p:∀x∈f,x.size<=2000) (hn:n<=2000) (ZO:g<=2000) (L:Pow w) (B:2<b) (hlk:m.looks=looks) (M:looks<=200) (h1:1<=op) (h15:op<=15) (hb:eJ op f=ZD) :
 Calls Pg 212 #[.pointer (T (Q b 0 Z)),.agg #[J I op,U t,J I n],J I g] w λe ZN=>e=ZF (.tuple #[])/\(∃K,MAt ZN b cv K/\After m K (cF op n t g looks f))/\Only b w ZN:=by
 simp only[eJ,p6] at hb;obtain⟨i,C⟩:=hb;have hlt:=hM.lt;have H:Hid (Pf b cv m w n f (w.alloc (N #[J I op,U t,J I n] 146)) m):=⟨hM.al _,hR,hz,(Only.refl b w).al _,by simp,⟨by omega,by simp⟩,rfl,rfl,rfl,rfl⟩
 have G:Hid (Pow (w.alloc (N #[J I op,U t,J I n] 146))):=L.low ((BS w).alloc ly _) (by omega);have O:=ae (And.intro hM (And.intro hR hz));obtain⟨c3,z3⟩:=hM.am 52 (J I m.ao) (by omega) (by simp[Mst.F]);obtain⟨res,j⟩:∃res,res=cF op n t g looks f:=⟨_,rfl⟩
 rw[<-j];have A:=ae j;clear hM hR L hz j;rcases(show op=1∨op=2∨op=3∨op=4∨op=5∨op=6∨op=7∨op=8∨op=9∨op=10∨op=11∨op=12∨op=13∨op=14∨op=15 by omega) with rfl|rfl|rfl|rfl|rfl|rfl|rfl|rfl|rfl|rfl|rfl|rfl|rfl|rfl|rfl;rotate_left 10;obtain⟨x,r,rfl⟩:=pJ (show 1<=f.length from i);have z:res=.inl (r,if x.toList=[]∨(x.toList == [48])=ZD then n else g+1):=A.out;clear A;by_cases ZQ:x.toList=[]
 case' neg =>
  have heb:x.toList.isEmpty=ZA:=by simp[ZQ]
  cases h48:(x.toList == [48])
 case' neg.false =>rw[eT (by simp[ZQ,h48])] at z;have h49:¬ x.toList=[48]:=by simpa using h48
 case' neg.true=>rw[j6 (.inr h48)] at z
 case' pos=>rw[j6 (.inl ZQ)] at z
 case' neg.false|neg.true|pos=>(have A:=ae z;clear z)
 all_goals
  simp only[aS,bJ] at i C
  (try obtain⟨x,y,r,rfl⟩:=Ge i)
  (try obtain⟨x,r,rfl⟩:=pJ i)
  clear i
  (try have D:=p x (by simp))
  (try have ZM:=p y (by simp))
  clear p
  (try simp only[xT] at P)
  (try simp at C)
  go_enter func212,ntmps212;have l:=H.arg
  go_wp2_with (first
   |(go_at_call 221;refine(wG (by first|exact H|exact H.drew|exact H.drew.drew|exact H.drew.drew.drew) (by(try simp only[xT]);omega)).mono ?_;rintro e V ⟨rfl,u,h⟩;replace H:=ae h;clear h;have l:=H.arg;obtain⟨c2,z2⟩:=H.mt.am 52 (J I m.ao) (by omega) (by simp[Mst.F,H.rest.1]);have s:=H.mt.lt)
   |(go_at_call 190;refine(zJ _ (by first|exact H|exact H.drew|exact H.drew.drew|exact H.drew.drew.drew) (by(try simp only[xT]);omega)).mono ?_;rintro e V ⟨rfl,u,h⟩;replace H:=ae h;clear h;have l:=H.arg;obtain⟨c2,z2⟩:=H.mt.am 52 (J I m.ao) (by omega) (by simp[Mst.F,H.rest.1]);have s:=H.mt.lt)
   |(go_at_call 191;refine(mz _ _).mono ?_;rintro e ZK ⟨rfl,o⟩;rw[o];clear o)
   |(go_at_call 222;refine(pF x n _ D hn).mono ?_;rintro e ZK ⟨rfl,q⟩;replace H:=ae (Pf.aa (by first|exact H|exact H.drew|exact H.drew.drew|exact H.drew.drew.drew) q);clear q;have l:=H.arg)
   |(go_at_call 220;refine(EZ H (by(try simp only[xT]);omega) ZO G B D ZM ZP).mono ?_;rintro e ZK ⟨rfl,hF⟩;have F:=ae hF;clear hF)
   |(go_at_call 223;refine(E7 H (by(try simp only[xT]);omega) ZO G B hlk M).mono ?_;rintro e ZK ⟨rfl,hF⟩;have F:=ae hF;clear hF)
   |(go_at_call 192;refine(Gc _ _ H).mono ?_;rintro e ZK ⟨rfl,hF⟩;have F:=ae hF;clear hF))
  (try go_region_with (first
   |(go_at_call 221;refine(wG (by first|exact H|exact H.drew|exact H.drew.drew|exact H.drew.drew.drew) (by(try simp only[xT]);omega)).mono ?_;rintro e V ⟨rfl,u,h⟩;replace H:=ae h;clear h;have l:=H.arg;obtain⟨c2,z2⟩:=H.mt.am 52 (J I m.ao) (by omega) (by simp[Mst.F,H.rest.1]);have s:=H.mt.lt)
   |(go_at_call 190;refine(zJ _ (by first|exact H|exact H.drew|exact H.drew.drew|exact H.drew.drew.drew) (by(try simp only[xT]);omega)).mono ?_;rintro e V ⟨rfl,u,h⟩;replace H:=ae h;clear h;have l:=H.arg;obtain⟨c2,z2⟩:=H.mt.am 52 (J I m.ao) (by omega) (by simp[Mst.F,H.rest.1]);have s:=H.mt.lt)
   |(go_at_call 191;refine(mz _ _).mono ?_;rintro e ZK ⟨rfl,o⟩;rw[o];clear o)
   |(go_at_call 222;refine(pF x n _ D hn).mono ?_;rintro e ZK ⟨rfl,q⟩;replace H:=ae (Pf.aa (by first|exact H|exact H.drew|exact H.drew.drew|exact H.drew.drew.drew) q);clear q;have l:=H.arg)))
  all_goals
   (try rw[Gf] at H)
   (try rw[Gg] at H)
   (try go_wp2)
   (try refine mc rfl rfl ?_)
   (try rw[A.out])
   first
    |exact⟨rfl,F⟩
    |exact⟨rfl,H.fin ZP⟩
    |exact⟨rfl,H.jump⟩
    |exact⟨rfl,EY O⟩
def bN (f:Nat->Ins)(cnt place steps looks:Nat)(b:List ByteArray):Res :=
 if cnt<=place then .inr (.inl (2,(dO place))) else if steps=2000 then .inr (.inl (3,⟨#[]⟩)) else
  if eJ (f place).op.toNat b=ZA then .inr (.inl (2,(dO place))) else cF (f place).op.toNat (f place).n.toNat (f place).s place looks b
def cL (cnt place steps:Nat):Nat:=if cnt<=place then steps else if steps=2000 then steps else steps+1
theorem MAt.qN (h:MAt w b cv m)(n:Nat):MAt (w.drewN n) b cv m:=h.ak (AI br n)
theorem Only.qN{u:E}(h:Only b u w)(n:Nat):Only b u (w.drewN n):=h.ak (AI br n)
theorem Cc (b:Nat)(cv:ZB)(m:Mst)(op:Nat)(f:List ByteArray)(w:E)(hM:MAt w b cv m)(g:Tab2 w)(h1:1<=op)(h2:op<=15)(hz:m.size=f.length)(hl:f.length<=50):Calls Pg 211 #[.pointer (T (Q b 0 Z)),J I op] w λe h=>e=ZF (ZC (eJ op f))/\Below w.heap.size w h:=by have:=bears_any b cv m op w hM g (by omega) (by omega) (by omega);rw[hz] at this;exact this
structure Env (w:E)(b pb po cnt:Nat)(f:Nat->Ins):Prop where
 row:RowIns w pb po cnt f
 tab:Tab2 w
 pow:Pow w
 pbb:pb<b
 tbb:0<b
 pwb:2<b
theorem Env.aa{j:E}{l cnt:Nat}(h:Env w b g l cnt f)(hb:Below b w j):Env j b g l cnt f :=
 ⟨⟨lj h.row.1 hb.size,λi hi=>(h.row.2 i hi).aa hb h.pbb⟩,h.tab.aa hb h.tbb,h.pow.low hb h.pwb,h.pbb,h.tbb,h.pwb⟩
theorem Env.ac{i:E}{j cnt:Nat}(h:Env w b g j cnt f)(l:b<w.heap.size)(hb:Only b w i):Env i b g j cnt f:=h.aa (hb.aa ly (QM l))
structure Sim (m:Mst)(place steps looks:Nat)(stk:List ByteArray):Prop where
 rep:Rep m.S stk
 size:m.size=stk.length
 len:stk.length<=50
 hpl:m.ao=place
 hst:m.j=steps
 hlk:m.looks=looks
 le:∀x∈stk,x.size<=2000
 pl:place<=2000
 st:steps<=2000
 lk:looks<=200
theorem Cd (b p r cnt cap place steps looks:Nat)(f:Nat->Ins)(m:Mst)(i:List ByteArray)(w:E)(hM:MAt w b (Y (T (Q p r Z)) cnt cap) m)(ZO:Sim m place steps looks i)(hE:Env w b p r cnt f)(bt:cY f cnt=ZD):Calls Pg 193 #[.pointer (T (Q b 0 Z))] w λe w'=>e=ZF (.tuple #[]) /\
   (∃ZL,MAt w' b (Y (T (Q p r Z)) cnt cap) ZL/\After { m with j:=cL cnt place steps,ao:=place+1 } ZL (bN f cnt place steps looks i))/\Only b w w':=by
 have ZJ:=ae hM;have ZP:=ae hE;have j:=ae ZO;have B:=hM.lt;have hpl:=ZO.pl;have hst:=ZO.st;obtain⟨c1,z1⟩:=hM.am 51 (Y (T (Q p r Z)) cnt cap) (by omega) (by simp[Mst.F]);obtain⟨c2,z2⟩:=hM.am 52 (J I place) (by omega) (by simp[Mst.F,ZO.hpl]);obtain⟨c3,z3⟩:=hM.am 53 (J I steps) (by omega) (by simp[Mst.F,ZO.hst]);clear hM hE ZO;by_cases h1:cnt<=place
 ·have u:bN f cnt place steps looks i=.inr (.inl (2,(dO place))):=by simp[bN,h1]
  have t:cL cnt place steps=steps:=by simp[cL,h1]
  rw[u,t];clear u t;go_enter func193,ntmps193;go_wp2_with fail;go_quiet (fail);have g:=ae (ZJ.qN nq);have q:=ae (ZP.ac B ((Only.refl b w).qN nq));have l:=ae ((Only.refl b w).qN nq);clear c1 z1 c2 z2 c3 z3;generalize w.drewN nq=W at g q l ⊢;obtain⟨c2,z2⟩:=g.am 52 (J I place) (by omega) (by simp[Mst.F,j.hpl]);obtain⟨c3,z3⟩:=g.am 53 (J I steps) (by omega) (by simp[Mst.F,j.hst]);go_wp2_with fail;refine(jB b _ m place _ g hpl q.pow).mono ?_;rintro e S ⟨rfl,A,o⟩;have h:=ae A;have O:=ae (l.trans o);clear A o;go_wp2;refine qg rfl rfl ?_;exact⟨rfl,⟨_,h,j.hst,by rw[j.hst]⟩,O.out⟩
 ·have h1':(place:Int)<cnt:=by omega
  by_cases h2:steps=2000
  ·have u:bN f cnt place steps looks i=.inr (.inl (3,⟨#[]⟩)):=by simp[bN,h1,h2]
   have t:cL cnt place steps=steps:=by simp[cL,h1,h2]
   rw[u,t];clear u t;have ex:((steps:Int) == 2000)=ZD:=by simp;omega
   go_enter func193,ntmps193;go_wp2_with fail;go_quiet (fail);have g:=ae (ZJ.qN nq);have q:=ae (ZP.ac B ((Only.refl b w).qN nq));have l:=ae ((Only.refl b w).qN nq);clear c1 z1 c2 z2 c3 z3;generalize w.drewN nq=W at g q l ⊢;obtain⟨c2,z2⟩:=g.am 52 (J I place) (by omega) (by simp[Mst.F,j.hpl]);obtain⟨c3,z3⟩:=g.am 53 (J I steps) (by omega) (by simp[Mst.F,j.hst]);go_wp2_with fail;refine(jY b _ m _ _ _ g).mono ?_;rintro e S ⟨rfl,A,o⟩;have h:=ae A;have O:=ae (l.trans o);clear A o;go_wp2;refine qg rfl rfl ?_;exact⟨rfl,⟨_,h,j.hst,by rw[j.hst]⟩,O.out⟩
  ·have ex:((steps:Int) == 2000)=ZA:=by simp;omega
   have t:cL cnt place steps=steps+1:=by simp[cL,h1,h2]
   have hi:=jv bt (show place<cnt by omega);simp only[cG,p6] at hi;obtain⟨i1,i2,i3,i4,i5⟩:=hi;obtain⟨op,K⟩:=AD (show 0<=(f place).op by omega);obtain⟨n,hn⟩:=AD i4;have u:bN f cnt place steps looks i=if eJ op i=ZA then .inr (.inl (2,(dO place))) else cF op n (f place).s place looks i:=by simp only[bN,h1,h2,RV,K,hn,Int.toNat_natCast]
   rw[u,t];obtain⟨R,hR⟩:∃R:Res,R=(if eJ op i=ZA then .inr (.inl (2,(dO place))) else cF op n (f place).s place looks i):=⟨_,rfl⟩
   rw[<-hR];have ZM:=ae hR;clear hR;have fd:dQ (f place).op<=2000:=by unfold dQ;split<;>(try split)<;>omega
   have aq:n<=2000:=by omega
   have ZI:1<=op:=by omega
   have ZK:op<=15:=by omega
   have HA:Hid (AtIns w p r place (f place)):=ZP.row.2 place (by omega);clear u t fd i1 i2 i3 i4 i5;go_enter func193,ntmps193;go_wp2_with fail;go_quiet (fail);have g:=ae (ZJ.qN nq);have q:=ae (ZP.ac B ((Only.refl b w).qN nq));have l:=ae ((Only.refl b w).qN nq);clear c1 z1 c2 z2 c3 z3;generalize w.drewN nq=W at g q l ⊢;obtain⟨c2,z2⟩:=g.am 52 (J I place) (by omega) (by simp[Mst.F,j.hpl]);obtain⟨c3,z3⟩:=g.am 53 (J I steps) (by omega) (by simp[Mst.F,j.hst]);obtain⟨c1,z1⟩:=g.am 51 (Y (T (Q p r Z)) cnt cap) (by omega) (by simp[Mst.F]);go_wp2_with fail;have h:=ae ((g.setSteps ((steps:Int)+1)).setPlace ((place:Int)+1));have ZQ:=ae (ce (ce l 53 (J I ((steps:Int)+1))) 52 (J I ((place:Int)+1)));clear c1 z1 c2 z2 c3 z3 g l q;generalize World.setCell (World.setCell W _ _) _ _=V at h ZQ ⊢;have L:=ae (ZP.ac B ZQ);obtain⟨c1,z1⟩:=h.am 51 (Y (T (Q p r Z)) cnt cap) (by omega) (by simp[Mst.F]);obtain⟨a0,a1,a2⟩:=L.row.2 place (by omega);rw[K] at a0;rw[hn] at a2;obtain⟨C,H⟩:∃C:Mst,C={ m with j:=(steps:Int)+1,ao:=(place:Int)+1 }:=⟨_,rfl⟩
   rw[<-H] at h;have k1:C.size=i.length:=by rw[H];exact j.size
   have z:=ae H;have X:=j.len;clear H;go_region_with (go_at_call 211;refine(Cc b (Y (T (Q p r Z)) cnt cap) C op i _ ?_ ?_ ZI ZK k1 X).mono ?_;(first|exact h|exact h.drew|exact h.drew.drew);(first|exact L.tab|exact(L.aa br.drew).tab);rintro e S ⟨rfl,o⟩;have G:Hid (MAt S b (Y (T (Q p r Z)) cnt cap) C):=MAt.ak (by first|exact h|exact h.drew|exact h.drew.drew) o;have P:Hid (Only b w S):=Only.ak (by repeat (first|exact ZQ|apply Only.drew)) o;clear o);all_goals
    have D:=ae (ZP.ac B P);obtain⟨g1,y1⟩:=G.am 51 (Y (T (Q p r Z)) cnt cap) (by omega) (by simp[Mst.F]);obtain⟨b0,b1,b2⟩:=D.row.2 place (by omega);rw[K] at b0;rw[hn] at b2;clear c1 z1 a0 a1 a2 h ZQ;have hlt1:=G.lt;cases hbr:eJ op i with
    |false =>rw[j6 hbr] at ZM;go_wp2_with fail;refine(jB b _ C place _ G hpl D.pow).mono ?_;rintro e w2 ⟨rfl,x,y⟩;have ZN:=ae x;have M:=ae (P.trans y);clear x y;go_wp2;refine qg rfl rfl ?_;refine⟨rfl,⟨_,ZN,?_⟩,M⟩;rw[z.out,ZM.out];exact⟨by simp,by simp⟩
    |true =>
     rw[eT (by simp[hbr])] at ZM;go_wp2_with fail;refine(vF b (Y (T (Q p r Z)) cnt cap) C op n place looks (f place).s i _ ?_ ?_ k1 X ?_ ?_ aq hpl ?_ ?_ ?_ ?_ ZI ZK hbr).mono ?_
     ·exact G
     ·rw[z.out];exact j.rep
     ·rw[z.out]
     ·exact j.le
     ·exact D.pow
     ·exact D.pwb
     ·rw[z.out];exact j.hlk
     ·exact j.lk
     rintro e w2 ⟨rfl,x,y⟩;have ZN:=ae x;have M:=ae (P.trans y);clear x y;go_wp2;refine mc rfl rfl ?_;obtain⟨ZL,h1,h2⟩:=ZN.out;refine⟨rfl,⟨ZL,h1,?_⟩,M⟩;rw[ZM.out];rw[z.out] at h2;exact h2
theorem t6 (l:List UInt8)(n:Nat):(cj l n).length<=l.length:=by
 induction n generalizing l with
 |zero =>rw[cj];have h1:=eZ l bE;have h2:((l.dropWhile bE).takeWhile (λc=>!bE c)).length<=(l.dropWhile bE).length:=(List.takeWhile_sublist _).length_le;omega
 |succ n b =>
  rw[cj];split;{simp};{have h1:=eZ l bE;have h2:=eZ (l.dropWhile bE) (λc=>!bE c);have h3:=b ((l.dropWhile bE).dropWhile (λc=>!bE c));omega}
theorem pK (s:ByteArray)(n:Nat):(fF s n).size<=s.size:=t6 s.data.toList n
def qE (res:Res)(looks:Nat):Prop:=match res with
 |.inl (stk,p)=>stk.length<=50/\(∀x∈stk,x.size<=2000)/\p<=2000
 |.inr (.inl (_,_))=>True
 |.inr (.inr (_,name,stk))=>stk.length<50/\(∀x∈stk,x.size<=2000)/\aB name=ZD/\looks<200
theorem iB (op n m looks:Nat)(t:ByteArray)(b:List ByteArray)(j:b.length<=50)(f:∀x∈b,x.size<=2000)(p:t.size<=2000)(hn:n<=2000)(hh:m<2000)(hlk:looks<=200)(h1:1<=op)(h15:op<=15)(hb:eJ op b=ZD):qE (cF op n t m looks b) looks:=by
 have i:∀ask a r,b=a::r->qE (gV ask a r m looks) looks:=by
  intro ask a r e;subst e;simp only[xT] at j;unfold gV;split;{trivial};{rename_i h1;split;{trivial};{rename_i h2;exact⟨by omega,λx l=>f x (by simp[l]),by simpa using h1,by omega⟩}}
 simp only[eJ,p6] at hb;obtain⟨g,o⟩:=hb;rcases(show op=1∨op=2∨op=3∨op=4∨op=5∨op=6∨op=7∨op=8∨op=9∨op=10∨op=11∨op=12∨op=13∨op=14∨op=15 by omega) with rfl|rfl|rfl|rfl|rfl|rfl|rfl|rfl|rfl|rfl|rfl|rfl|rfl|rfl|rfl;all_goals simp only[aS,bJ] at g o
 {refine⟨by simp at o ⊢;omega,λx l=>?_,by omega⟩;rcases A9.1 l with rfl|l;{exact p};{exact f x l}}
 ·match b,g with
  |x::y::r,_ =>
   show qE (if y.size+x.size<=2000 then _ else _) _;split;{refine⟨by simp at j ⊢;omega,λz hz=>?_,by omega⟩;rcases A9.1 hz with rfl|hz;{simp;omega};{exact f z (by simp[hz])}};{trivial}
 ·match b,g with
  |x::r,_ =>
   refine⟨j,λz hz=>?_,by omega⟩;have l:=f x (by simp);rcases A9.1 hz with rfl|hz;{split;{simp;omega};{exact l}};{exact f z (by simp[hz])}
 ·match b,g with
  |x::r,_ =>
   refine⟨j,λz hz=>?_,by omega⟩;have l:=f x (by simp);rcases A9.1 hz with rfl|hz;{split;{simp;omega};{decide}};{exact f z (by simp[hz])}
 ·match b,g with
  |x::r,_ =>
   refine⟨j,λz hz=>?_,by omega⟩;rcases A9.1 hz with rfl|hz;{exact nL (pK _ _) (f x (by simp))};{exact f z (by simp[hz])}
 ·match b,g with
  |x::y::r,_ =>
   refine⟨by simp at j ⊢;omega,λz hz=>?_,by omega⟩;rcases A9.1 hz with rfl|hz;{unfold ez;split<;>decide};{exact f z (by simp[hz])}
 ·match b,g with
  |x::r,_ =>
   refine⟨by simp at o ⊢;omega,λz hz=>?_,by omega⟩;rcases A9.1 hz with rfl|hz;{exact f _ (by simp)};{exact f z hz}
 ·match b,g with
  |x::y::r,_ =>refine⟨j,λz hz=>?_,by omega⟩;simp only[A9] at hz;exact f z (by simp only[A9];rcases hz with h|h|h<;>simp[h])
 ·match b,g with
  |x::r,_=>exact⟨by simp at j;omega,λz hz=>f z (by simp[hz]),by omega⟩
 {exact⟨j,f,hn⟩}
 ·match b,g with
  |x::r,_ =>refine⟨by simp at j;omega,λz hz=>f z (by simp[hz]),?_⟩;split<;>omega
 ·match b,g with
  |x::r,_=>exact i ZD x r rfl
 ·match b,g with
  |x::r,_=>exact i ZA x r rfl
 ·match b,g with
  |x::r,_=>trivial
 ·match b,g with
  |x::r,_=>trivial
theorem x7{cnt:Nat}{b:List ByteArray}(g:Sim m place steps looks b)(h:cY f cnt=ZD)(hc:cnt<=200):qE (bN f cnt place steps looks b) looks:=by
 unfold bN;split;{trivial}
 ·rename_i h1;split;{trivial}
  ·split;{trivial}
   ·rename_i i;have hi:=jv h (show place<cnt by omega);simp only[cG,p6] at hi;obtain⟨i1,i2,i3,i4,i5⟩:=hi;have hmt:dQ (f place).op<=2000:=by unfold dQ;split<;>(try split)<;>omega
    have hmt2:bT (f place).op<=2000:=by unfold bT;split<;>omega
    exact iB _ _ _ _ _ _ g.len g.le (by omega) (by omega) (by omega) g.lk (by omega) (by omega) (by simpa using i)
abbrev Halt:=(Int × ByteArray × Nat) ⊕ (Bool × ByteArray × List ByteArray × Nat × Nat × Nat)
def li (f:Nat->Ins)(cnt:Nat):Nat->Nat->Nat->Nat->List ByteArray->Option Halt
 |0,_,_,_,_=>Z
 |k+1,place,steps,looks,stk=>match bN f cnt place steps looks stk with
  |.inr (.inl (c,x))=>T (.inl (c,x,(cL cnt place steps)))
  |.inr (.inr (a,nm,s))=>T (.inr (a,nm,s,(place+1),(cL cnt place steps),(looks+1)))
  |.inl (s,p)=>li f cnt k p (cL cnt place steps) looks s
theorem jj{cnt:Nat}{b s:List ByteArray}(h:bN f cnt place steps looks b=.inl (s,p)):cL cnt place steps=steps+1/\steps≠2000:=by
 unfold bN at h;unfold cL;split at h;{cases h};{split at h;{cases h};{rename_i h1 h2;rw[eT h1,eT h2];exact⟨rfl,h2⟩}}
theorem rD (f:Nat->Ins)(cnt:Nat)(k:Nat):∀place steps looks b,steps<=2000->2001<=k+steps->∃h,li f cnt k place steps looks b=T h:=by
 induction k with
 |zero=>intro _ _ _ _ h1 h2;omega
 |succ k i =>
  intro place steps looks b h1 h2;rw[li];rcases hr:bN f cnt place steps looks b with ⟨s,p⟩|⟨c,x⟩|⟨a,nm,s⟩
  {obtain⟨g,e2⟩:=jj hr;simp only[g];exact i _ _ _ _ (by omega) (by omega)};{exact⟨_,rfl⟩};{exact⟨_,rfl⟩}
def eK (m:Mst):Halt->Prop
 |.inl (c,x,k)=>m.t=⟨ZD,c,x,ZA,⟨#[]⟩,k⟩
 |.inr (a,nm,s,p,k,l)=>m.t=⟨ZA,0,⟨#[]⟩,a,nm,k⟩/\Sim m p k l s/\aB nm=ZD/\s.length<50
theorem wH (b ZQ D cnt cap:Nat)(f:Nat->Ins)(m:Mst)(H:Halt)(w:E)(hM:MAt w b (Y (T (Q ZQ D Z)) cnt cap) m)(hE:Env w b ZQ D cnt f)(hc:cnt<=200)(R:cY f cnt=ZD)
  (hH:(m.t=cU/\∃p k l s,Sim m p k l s/\li f cnt (2001 - k) p k l s=T H)∨eK m H) :
  Calls Pg 168 #[.pointer (T (Q b 0 Z))] w λe w'=>∃i,e=ZF i.t.v/\MAt w' b (Y (T (Q ZQ D Z)) cnt cap) i/\eK i H/\Only b w w':=by
 have HM:=ae hM;have HE:=ae hE;have HH:=ae hH;have ld:=hM.lt;clear hM hE hH;have W:=ae (HM.al (N #[ZC ZA,J I 0,U ⟨#[]⟩,ZC ZA,U ⟨#[]⟩,J I 0] 150));have r:w.heap.size<(w.alloc (N #[ZC ZA,J I 0,U ⟨#[]⟩,ZC ZA,U ⟨#[]⟩,J I 0] 150)).heap.size:=by simp
 have z:=ae ((Only.refl b w).al (N #[ZC ZA,J I 0,U ⟨#[]⟩,ZC ZA,U ⟨#[]⟩,J I 0] 150));have ZL:∀j,j<6->∃v,(w.alloc (N #[ZC ZA,J I 0,U ⟨#[]⟩,ZC ZA,U ⟨#[]⟩,J I 0] 150)).cell? (Q w.heap.size j Z)=T v/\(w.alloc (N #[ZC ZA,J I 0,U ⟨#[]⟩,ZC ZA,U ⟨#[]⟩,J I 0] 150)).frozen? (Q w.heap.size j Z)=ZA:=by intro j hj;rcases(show j=0∨j=1∨j=2∨j=3∨j=4∨j=5 by omega) with rfl|rfl|rfl|rfl|rfl|rfl;all_goals exact⟨_,by simp;rfl,by simp⟩
 have ZO:=ae ZL;clear ZL;go_enter func168,ntmps168;go_wp2;generalize World.alloc w _=w0 at W r z ZO ⊢;go_loopg [] 2002 (λg wr=>∃i,MAt wr b (Y (T (Q ZQ D Z)) cnt cap) i/\Only b w0 wr/\((i.t=cU/\∃p k l s,Sim i p k l s/\li f cnt (2001 - k) p k l s=T H/\2002 - k<=g)∨eK i H));case atStart =>
  refine⟨m,W,Only.refl _ _,?_⟩;rcases HH.out with ⟨h1,p,k,l,s,h2,h3⟩|h;{exact .inl ⟨h1,p,k,l,s,h2,h3,by omega⟩};{exact .inr h}
 case round =>
  obtain⟨i,hM,hO,ex⟩:=hrel;have B:=ae hM;have n:=ae hO;obtain⟨⟨c5,z5⟩,⟨ZN,z6⟩,⟨P,z7⟩,⟨O,z8⟩,⟨K,z9⟩,u,la⟩:=hM.turn;clear hM hO;rcases ex with ⟨o,p,k,l,s,ZM,hr,hg⟩|hst
  ·have y:=ae ZM;have fd:=ae hr;have hk:=ZM.st;rw[o] at c5 ZN P O K u;simp only[cU] at c5 ZN P O K u;have aq:=ae o;clear ZM hr o;go_wp2_with fail;refine(Cd b ZQ D cnt cap p k l f i s _ B y (HE.ac ld (z.trans n)) R).mono ?_;rintro e w1 ⟨rfl,⟨m2,ZK,q⟩,S⟩;have bt:=ae ZK;have HA:=ae q;have mv:=ae (n.trans S);clear ZK q S c5 ZN P O K u z5 z6 z7 z8 z9 la;obtain⟨g,rfl⟩:∃g,gk=g+1:=⟨gk - 1,by omega⟩
   go_wp2;go_roundg g;case measure=>omega
   case rel =>
    refine⟨m2,bt,mv,?_⟩;have hR:=fd.out;have hF:=x7 y.out R hc;obtain⟨j,hj⟩:∃j,2001 - k=j+1:=⟨2000 - k,by omega⟩
    rw[hj,li] at hR;have q:=HA.out;rcases hst:bN f cnt p k l s with ⟨s2,p2⟩|⟨c,x⟩|⟨a,nm,s2⟩
    {rw[hst] at hR q hF;obtain⟨e1,e2⟩:=jj hst;obtain⟨a1,a2,a3,ZI,a5,X⟩:=q;obtain⟨f1,f2,f3⟩:=hF;simp only[e1] at hR a1;refine .inl ⟨by rw[X];exact aq,p2,k+1,l,s2,⟨a2,a3,f1,ZI,a1,by rw[a5];exact y.hlk,f2,f3,by omega,y.lk⟩,?_,by omega⟩;rw[show 2001 - (k+1)=j by omega];exact hR};{rw[hst] at hR q hF;simp only[KJ] at hR;subst hR;exact .inr q.2};{rw[hst] at hR q hF;simp only[KJ] at hR;subst hR;obtain⟨a1,a2,a3,ZI,a5,X⟩:=q;obtain⟨f1,f2,f3,f4⟩:=hF;have hN:cL cnt p k<=2000/\p+1<=2000:=(by unfold bN at hst;unfold cL;split at hst;{cases hst};{split at hst;{cases hst};{rename_i h1 h2;rw[eT h1,eT h2];omega}});exact .inr ⟨X,⟨a2,a3,by omega,by rw[ZI];simp,a1,by rw[a5];show i.looks+1=_;rw[y.hlk];simp,f2,hN.2,hN.1,by omega⟩,f3,f1⟩}
  ·have V:=ae hst;rcases H with ⟨c,x,k⟩|⟨a,nm,s2,p2,k2,l2⟩
   {have o:i.t=⟨ZD,c,x,ZA,⟨#[]⟩,k⟩:=hst;rw[o] at c5 ZN P O K u;obtain⟨⟨v0,L,y0⟩,⟨v1,ZP,y1⟩,⟨v2,G,y2⟩,⟨v3,M,y3⟩,⟨v4,C,ZJ⟩,⟨v5,A,y5⟩⟩:=bl6 ZO.out;rw[<-n.cell w.heap.size _ r (by omega)] at L ZP G M C A;rw[<-n.frozen w.heap.size _ r (by omega)] at y0 y1 y2 y3 ZJ y5;go_wp2;refine bp (v:=i.t.v) (by rw[o];simp[results,results168,go_sem,Turn.v,L,ZP,G,M,C,A]) rfl ?_;refine⟨i,rfl,?_,V,?_⟩;{exact(((((B.other _ _ _ (by omega)).other _ _ _ (by omega)).other _ _ _ (by omega)).other _ _ _ (by omega)).other _ _ _ (by omega)).other _ _ _ (by omega)};{exact((((((z.trans n).X _ _ _ ly).X _ _ _ ly).X _ _ _ ly).X _ _ _ ly).X _ _ _ ly).X _ _ _ ly}}
   ·obtain⟨o,ZM,hn,hl⟩:=hst;rw[o] at c5 ZN P O K u;have hne:nm.toList.isEmpty=ZA:=by
     have h0:¬ nm.size=0:=by simp only[aB,nD,p6] at hn;omega
     have:=lY h0;cases h:nm.toList with
     |nil=>exact absurd h this
     |cons _ _=>rfl
    clear ZM hn hl;obtain⟨⟨v0,L,y0⟩,⟨v1,ZP,y1⟩,⟨v2,G,y2⟩,⟨v3,M,y3⟩,⟨v4,C,ZJ⟩,⟨v5,A,y5⟩⟩:=bl6 ZO.out;rw[<-n.cell w.heap.size _ r (by omega)] at L ZP G M C A;rw[<-n.frozen w.heap.size _ r (by omega)] at y0 y1 y2 y3 ZJ y5;go_wp2;refine bp (v:=i.t.v) (by rw[o];simp[results,results168,go_sem,Turn.v,L,ZP,G,M,C,A]) rfl ?_;refine⟨i,rfl,?_,V,?_⟩;{exact(((((B.other _ _ _ (by omega)).other _ _ _ (by omega)).other _ _ _ (by omega)).other _ _ _ (by omega)).other _ _ _ (by omega)).other _ _ _ (by omega)};{exact((((((z.trans n).X _ _ _ ly).X _ _ _ ly).X _ _ _ ly).X _ _ _ ly).X _ _ _ ly).X _ _ _ ly}
def fH (c:Int)(x:ByteArray)(k:Nat):Turn:=⟨ZD,c,x,ZA,⟨#[]⟩,k⟩
def nr (a:Bool)(nm:ByteArray)(k:Nat):Turn:=⟨ZA,0,⟨#[]⟩,a,nm,k⟩
def bZ (f:Nat->Ins)(cnt:Nat)(y:Nat->aC)(n:Nat):Nat->Nat->Nat->Nat->List ByteArray->Turn
 |0,_,_,_,_=>cU
 |k+1,place,steps,looks,stk=>match bN f cnt place steps looks stk with
  |.inr (.inl (c,x))=>fH c x (cL cnt place steps)
  |.inl (s,p)=>bZ f cnt y n k p (cL cnt place steps) looks s
  |.inr (.inr (a,nm,s))=>if n<=looks then nr a nm (cL cnt place steps)
    else if a=ZA then bZ f cnt y n k (place+1) (cL cnt place steps) (looks+1) (ez (y looks).has::s)
    else if (y looks).has=ZA then fH 4 nm (cL cnt place steps)
    else if (y looks).M=0 then bZ f cnt y n k (place+1) (cL cnt place steps) (looks+1) ((y looks).H::s)
    else fH 5 nm (cL cnt place steps)
def ed (f:Nat->Ins)(cnt:Nat)(y:Nat->aC)(n:Nat):Halt->Turn
 |.inl (c,x,k)=>fH c x k
 |.inr (a,nm,s,p,k,l)=>if n<=l - 1 then nr a nm k
   else if a=ZA then bZ f cnt y n (2001 - k) p k l (ez (y (l - 1)).has::s)
   else if (y (l - 1)).has=ZA then fH 4 nm k
   else if (y (l - 1)).M=0 then bZ f cnt y n (2001 - k) p k l ((y (l - 1)).H::s)
   else fH 5 nm k
def gi (looks:Nat):Halt->Prop
 |.inl (_,_,_)=>True
 |.inr (_,_,_,_,_,l)=>l=looks+1
theorem lm{cnt:Nat}{b s:List ByteArray}{a:Bool}{nm:ByteArray}(h:bN f cnt place steps looks b=.inr (.inr (a,nm,s))):cL cnt place steps=steps+1/\steps≠2000:=by
 unfold bN at h;unfold cL;split at h;{cases h};{split at h;{cases h};{rename_i h1 h2;rw[eT h1,eT h2];exact⟨rfl,h2⟩}}
theorem oG (f:Nat->Ins)(cnt:Nat)(y:Nat->aC)(n:Nat)(k:Nat):∀place steps looks g H,steps<=2000->2001 - steps=k->li f cnt k place steps looks g=T H ->
  bZ f cnt y n k place steps looks g=ed f cnt y n H/\gi looks H:=by
 induction k with
 |zero=>intro _ _ _ _ _ h1 h2;omega
 |succ k j =>
  intro place steps looks g H h1 h2 b;rw[li] at b;rw[bZ];rcases hs:bN f cnt place steps looks g with ⟨s,p⟩|⟨c,x⟩|⟨a,nm,s⟩
  {obtain⟨h,i⟩:=jj hs;rw[hs] at b;simp only[h] at b ⊢;exact j _ _ _ _ _ (by omega) (by omega) b};{rw[hs] at b;simp only[KJ] at b;subst b;exact⟨rfl,trivial⟩};{obtain⟨h,i⟩:=lm hs;rw[hs] at b;simp only[KJ] at b;subst b;simp only[ed,h,NG,show 2001 - (steps+1)=k by omega];exact⟨trivial,rfl⟩}
def cD (r:aC):Bool:=decide (r.H.size<=2000/\0<=r.M/\r.M<=7)
def bS (y:Nat->aC):Nat->Bool
 |0=>ZD
 |k+1=>bS y k && cD (y k)
theorem j9{k n:Nat}(h:k<=n)(hn:bS y n=ZD):bS y k=ZD:=by
 induction n with
 |zero =>
  obtain rfl:k=0:=by omega
  exact hn
 |succ m b =>
  by_cases e:k=m+1;{subst e;exact hn};{simp only[bS,nD] at hn;exact b (by omega) hn.1}
theorem gI{k n:Nat}(h:k<n)(b:cD (y k)=ZA):bS y n=ZA:=by
 cases e:bS y n with
 |false=>rfl
 |true =>have h2:=j9 (show k+1<=n by omega) e;simp[bS,b] at h2
theorem Ce{k n:Nat}(h:bS y n=ZD)(hk:k<n):(y k).H.size<=2000/\0<=(y k).M/\(y k).M<=7:=by have:=j9 (show k+1<=n by omega) h;simp only[bS,nD,cD,p6] at this;exact this.2
