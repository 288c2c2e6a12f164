import Derived.Test.YthkgkfehliinfaaGreatDoorFN
import Derived.Test.YthkgkfehliinfaaGreatDoorGW
set_option linter.all false
set_option maxRecDepth 1000000
set_option maxHeartbeats 4000000
open Go renaming Addr.mk->Q,Value.slice->Y,Value.string->U,Value.int->J,Value.bool->ZF,Obj.cells->N,IntKind.i64->I,World->E,Value->ZB,Ending.returned->ZI,World.setCell->ZU,Proofs.Tryz.prog->Pg
open Option renaming none->Z,some->T
open Bool renaming false->ZA,true->ZH
open List renaming length->A
namespace Go.Proofs.YthkgkfehliinfaaGreatDoor.Vp
open Tryz RowKit
variable {w W u ZN:E}{b p v_ z_ k_ n g:Nat}{m:Mst}{cv:ZB}{f:Nat->Ins}{r s:List F_}{y:Nat->aD}{S:B_}
def Pow (w:E):Prop:=Lib.TabIs Pg w "internal/strconv.uint64pow10" .u64 Lib.pow10Tab
def gPow:Pg.globalNamed "internal/strconv.uint64pow10"=T 2:=by kernel_rfl
def Pow.aa{b:E}{B:Nat}(h:Pow w)(hb:Below B w b)(f:w.heap.size<=B):Pow b:=Joins.tab_stays gPow h hb f
def Pow.low{b:E}{B:Nat}(h:Pow w)(hb:Below B w b)(f:2<B):Pow b:=var?_below hb gPow f h
def tS{b:E}{os:Array Obj}{B:Nat}(h:b.heap=W.heap++os)(h1:b.os=W.os)(h2:b.tape=W.tape)(f:b.output=W.output)(hB:B<=W.heap.size):Below B W b:=
 ⟨h1,h2,f,by rw[h,Array.size_append];omega,λi hi=>by rw[h,Array.getElem?_append_left (by omega)]⟩
def Et (m:Nat)(w:E)(hm:(m:Int)<=9223372036854775807)(g:Pow w):Calls Pg 211 #[J I m] w λe b=>e=ZI (U ⟨(Lib.decDigits m).toArray⟩)/\Below w.heap.size w b:=by refine(Tryz.strconv_Itoa (m:Int) (by omega) (by omega) _ g).P ?_;rintro e b⟨rfl,j,os,f⟩;rw[Lib.itoa_nonneg];refine⟨rfl,?_⟩;rw[f];exact tS (os:=os) rfl rfl rfl rfl (by simp)
def dV (n:Nat):F_:=⟨(Lib.decDigits n).toArray⟩
def eU (b:Bool):F_:=if b then ⟨#[49]⟩ else ⟨#[48]⟩
def nC (x:Bool)(w:E):Calls Pg 196 #[ZF x] w λe b=>e=ZI (U (eU x))/\b=w:=by
 cases x
 all_goals
  go_enter func196,ntmps196;go_wp2;go_ret;exact⟨rfl,rfl⟩
def qw (x:Bool)(w:E):Calls Pg 178 #[ZF x] w λe b=>e=ZI (U (eU x))/\b=w:=by
 cases x
 all_goals
  go_enter func178,ntmps178;go_wp2;go_ret;exact⟨rfl,rfl⟩
def ki (b:Nat)(cv:ZB)(m:Mst)(p:Nat)(w:E)(hM:MAt w b cv m)(hp:p<=2000)(i:Pow w):Calls Pg 206 #[.pointer (T (Q b 0 Z)),J I p] w λe j=>e=ZI (.tuple #[])/\MAt j b cv { m with t:=⟨ZH,2,dV p,ZA,⟨#[]⟩,m.j⟩ }/\zd b w j:=by have s:=ae hM;have q:=ae i;have r:=hM.lt;clear hM i;go_enter func206,ntmps206;go_wp2_with fail;refine(Et _ _ (by omega) q).P ?_;rintro e w1⟨rfl,h⟩;have u:=ae h;have l:=ae (s.aa h r);clear h;go_wp2_with fail;refine(kQ b cv m _ _ _ l).P ?_;rintro e w2⟨rfl,f,g⟩;have o:=ae f;have n:=ae g;clear f g;go_wp2;refine nd rfl rfl ?_;exact⟨rfl,o,(zd.q u).k n⟩
def qx (p:Nat)(k_:Int):Turn:=⟨ZH,2,dV p,ZA,⟨#[]⟩,k_⟩
def Eu (b:Nat)(cv:ZB)(m:Mst)(k p:Nat)(w:E)(hM:MAt w b cv m)(H:m.size=k+2)(hs:k+2<=50)(D:p<=2000)(y:Pow w)(z:2<b)(ha:(m.S k).size<=2000)(hb:(m.S (k+1)).size<=2000):Calls Pg 212 #[.pointer (T (Q b 0 Z)),J I p] w λe ZV=>e=ZI (.tuple #[]) /\
   MAt ZV b cv (if (m.S k).size+(m.S (k+1)).size<=2000 then { m with S:=upd m.S k (m.S k++m.S (k+1)),size:=k+1 } else { m with size:=k,t:=qx p m.j })/\zd b w ZV:=by
 have C:=ae hM;have B:=ae y;have G:=hM.lt;clear hM y;obtain⟨X,hX⟩:∃X,X=(if (m.S k).size+(m.S (k+1)).size<=2000 then { m with S:=upd m.S k (m.S k++m.S (k+1)),size:=k+1 } else { m with size:=k,t:=qx p m.j }):=⟨_,rfl⟩
 rw[<-hX];have l:=ae hX;clear hX;go_enter func212,ntmps212;go_wp2_with fail;refine(lG b cv m (k+1) _ C H (by omega)).P ?_;rintro e w1⟨rfl,r,o⟩;have x:=ae r;have u:=ae o;clear r o;go_wp2_with fail;refine(lG b cv _ k _ x rfl (by omega)).P ?_;rintro e w2⟨rfl,n,q⟩;have s:=ae n;have i:=ae (u.k q);clear n q;by_cases hlen:((m.S k).size:Int)+((m.S (k+1)).size:Int)<=2000;{rw[eT (by omega)] at l;go_wp2_with fail;refine(rh b cv _ _ _ s (by simp;omega)).P ?_;rintro e ZT⟨rfl,f,g⟩;have h:=ae f;have j:=ae (i.k g);clear f g;go_wp2;refine nd rfl rfl ?_;exact⟨rfl,by rw[l.i];exact h,j⟩};{rw[eI (by omega)] at l;go_wp2_with fail;refine(ki b cv _ p _ s D (B.low (i.aa ly (TQ G)) z)).P ?_;rintro e ZT⟨rfl,f,g⟩;have h:=ae f;have j:=ae (i.k g);clear f g;go_wp2;refine re rfl rfl ?_;exact⟨rfl,by rw[l.i];exact h,j⟩}
def Ev (b:Nat)(cv:ZB)(m:Mst)(ask:Bool)(k p:Nat)(w:E)(hM:MAt w b cv m)(ZS:m.size=k+1)(hs:k+1<=50)(C:p<=2000)(hlk:0<=m.D)(hlk2:m.D<=200)(y:Pow w)(ZV:2<b):Calls Pg 215 #[.pointer (T (Q b 0 Z)),ZF ask,J I p] w λe B=>e=ZI (.tuple #[]) /\
   MAt B b cv (if aA (m.S k)=ZA then { m with size:=k,t:=qx p m.j } else if m.D=200 then { m with size:=k,t:=⟨ZH,3,⟨#[]⟩,ZA,⟨#[]⟩,m.j⟩ } else { m with size:=k,D:=m.D+1,t:=⟨ZA,0,⟨#[]⟩,ask,m.S k,m.j⟩ })/\zd b w B:=by
 have H:=ae hM;have ZT:=ae y;have G:=hM.lt;clear hM y;obtain⟨X,hX⟩:∃X,X=(if aA (m.S k)=ZA then { m with size:=k,t:=qx p m.j } else if m.D=200 then { m with size:=k,t:=⟨ZH,3,⟨#[]⟩,ZA,⟨#[]⟩,m.j⟩ } else { m with size:=k,D:=m.D+1,t:=⟨ZA,0,⟨#[]⟩,ask,m.S k,m.j⟩ }):=⟨_,rfl⟩
 rw[<-hX];have j:=ae hX;clear hX;go_enter func215,ntmps215;go_wp2_with fail;refine(lG b cv m k _ H ZS (by omega)).P ?_;rintro e w1⟨rfl,u,s⟩;have r:=ae u;have x:=ae s;clear u s;go_wp2_with fail;refine(fu _ _).P ?_;rintro e w2⟨rfl,q⟩;have f:=ae (r.aa q r.lt);have l:=ae (x.k (zd.q q));clear q;cases hn:aA (m.S k) with
 |false =>rw[eT hn] at j;go_wp2_with fail;refine(ki b cv _ p _ f C (ZT.low (l.aa ly (TQ G)) ZV)).P ?_;rintro e D⟨rfl,h,i⟩;have n:=ae h;have o:=ae (l.k i);clear h i;go_wp2;refine re rfl rfl ?_;exact⟨rfl,by rw[j.i];exact n,o⟩
 |true =>
  rw[eI (by simp[hn])] at j;obtain⟨c4,z4⟩:=f.ao 54 (J I m.D) (by omega) (by simp[Mst.F]);by_cases g:m.D=200
  ·rw[eT g] at j;have z:(m.D == 200)=ZH:=by simp[g]
   go_wp2_with fail;refine(kQ b cv _ _ _ _ f).P ?_;rintro e D⟨rfl,h,i⟩;have n:=ae h;have o:=ae (l.k i);clear h i;go_wp2;refine re rfl rfl ?_;exact⟨rfl,by rw[j.i];exact n,o⟩
  ·rw[eI g] at j;have z:(m.D == 200)=ZA:=by simp[g]
   obtain⟨c3,z3⟩:=f.ao 53 (J I m.j) (by omega) (by simp[Mst.F]);obtain⟨⟨c5,z5⟩,⟨c6,z6⟩,⟨c7,z7⟩,⟨c8,z8⟩,⟨c9,z9⟩,c10,z10⟩:=f.turn;go_wp2;refine nd rfl rfl ?_;exact⟨rfl,by rw[j.i];exact(f.setLooks _).setTurn ⟨ZA,0,⟨#[]⟩,ask,m.S k,m.j⟩,GC (ce l _ _) ⟨ZA,0,⟨#[]⟩,ask,m.S k,m.j⟩⟩
def Rep (S:B_):List F_->Prop
 |[]=>True
 |x::r=>S (A r)=x/\Rep S r
def Rep.upd{k:Nat}(x:F_)(h:Rep S r)(f:A r<=k):Rep (upd S k x) r:=by
 induction r with
 |nil=>trivial
 |cons y r b =>simp only[vF] at f;refine⟨?_,b h.2 (by omega)⟩;unfold Vp.upd;rw[eI (by omega)];exact h.1
def Rep.push (x:F_)(h:Rep S r):Rep (Vp.upd S (A r) x) (x::r):=
 ⟨by simp[Vp.upd],h.upd x ly⟩
abbrev Res:=(List F_ × Nat) ⊕ (Int × F_) ⊕ (Bool × F_ × List F_)
def iN (ask:Bool)(a:F_)(r:List F_)(b v_:Nat):Res:=
 if aA a=ZA then .inr (.inl (2,(dV b))) else if v_=200 then .inr (.inl (3,⟨#[]⟩)) else .inr (.inr (ask,a,r))
def cK (op n:Nat)(t:F_)(f v_:Nat)(g:List F_):Res:=
 match op,g with
 |1,g=>.inl ((t::g),(f+1))
 |2,b::a::r=>if a.size+b.size<=2000 then .inl (((a++b)::r),(f+1)) else .inr (.inl (2,(dV f)))
 |3,a::r=>.inl (((if n<a.size then a.extract 0 n else a)::r),(f+1))
 |4,a::r=>.inl (((if n<a.size then a.extract n a.size else ⟨#[]⟩)::r),(f+1))
 |5,a::r=>.inl ((fV a n::r),(f+1))
 |6,b::a::r=>.inl ((eU (b.toList == a.toList)::r),(f+1))
 |7,a::r=>.inl ((a::a::r),(f+1))
 |8,b::a::r=>.inl ((a::b::r),(f+1))
 |9,_::r=>.inl (r,(f+1))
 |10,g=>.inl (g,n)
 |11,a::r=>.inl (r,(if a.toList=[]\/(a.toList == [48])=ZH then n else f+1))
 |12,a::r=>iN ZH a r f v_
 |13,a::r=>iN ZA a r f v_
 |14,a::_=>.inr (.inl (1,a))
 |15,a::_=>.inr (.inl (0,a))
 |_,_=>.inr (.inl (0,⟨#[]⟩))
def After (m b:Mst)(res:Res):Prop:=b.j=m.j/\match res with
 |.inl (stk,p)=>Rep b.S stk/\b.size=A stk/\b.av=p/\b.D=m.D/\b.t=m.t
 |.inr (.inl (c,x))=>b.t=⟨ZH,c,x,ZA,⟨#[]⟩,m.j⟩
 |.inr (.inr (ask,name,stk))=>Rep b.S stk/\b.size=A stk/\b.av=m.av/\b.D=m.D+1/\b.t=⟨ZA,0,⟨#[]⟩,ask,name,m.j⟩
def MAt.ak{f:E}(h:MAt w b cv m)(g:Below w.heap.size w f):MAt f b cv m:=h.aa g h.lt
def zd.ak{f:E}(h:zd b u w)(g:Below w.heap.size w f):zd b u f:=h.k (zd.q g)
def zd.frozen{f:E}(h:zd b w f)(k o:Nat)(g:k<w.heap.size)(hb:k≠b):f.frozen? (Q k o Z)=w.frozen? (Q k o Z):=NG (w:=w) (a:=(Q k o Z)) (h.p k g hb)
def zd.am (h:zd b w W)(k o:Nat)(v:ZB)(hk:w.heap.size<=k):zd b w (ZU W (Q k o Z) v):=
 ⟨h.os,h.tape,h.output,by simpa[World.setCell] using h.size,λi hi j=>(qh _ _ _ _ (by simp;omega)).k (h.p i hi j),λg t fz hb=>by
  obtain⟨f,h1⟩:=h.ty g t fz hb;have hbl:=aj hb
  exact⟨f,(qh _ _ _ _ (by simp;omega)).k h1⟩⟩
def MAt.other (h:MAt w b cv m)(k o:Nat)(v:ZB)(g:k≠b):MAt (ZU w (Q k o Z) v) b cv m:=
 ⟨by simpa using h.1,λj f=>⟨(K_ w (Q k o Z) (Q b j Z) v g).k (h.2 j f).1,by have:=(h.2 j f).2;simpa using this⟩⟩
def Hc (b:Nat)(cv:ZB)(m:Mst)(k:Nat)(v:F_)(w:E)(hM:MAt w b cv m)(g:m.size=k+1)(h:k<50)(i:m.S k=v):Calls Pg 213 #[.pointer (T (Q b 0 Z))] w λe f=>e=ZI (U v)/\MAt f b cv { m with size:=k }/\zd b w f:=by rw[<-i];exact lG b cv m k w hM g h
def MAt.drew (h:MAt w b cv m):MAt w.drew b cv m:=h.aa br.drew (eL _)
def MAt.al (h:MAt w b cv m)(o:Obj):MAt (w.alloc o) b cv m:=h.aa ((a8 w.heap.size _).alloc ly _) h.lt
structure Pf (b:Nat)(cv:ZB)(m:Mst)(w:E)(n:Nat)(s:List F_)(V:E)(u:Mst):Prop where
 mt:MAt V b cv u
 rep:Rep u.S s
 size:u.size=A s
 on:zd b w V
 arg:V.cell? (Q w.heap.size 2 Z)=T (J I n)
 far:w.heap.size≠b/\w.heap.size<V.heap.size
 rest:u.av=m.av/\u.D=m.D/\u.j=m.j/\u.t=m.t
section
variable {b n:Nat}{cv:ZB}{m u:Mst}{w V:E}{s:List F_}{x:F_}
def Pf.go{v:Mst}(h:Pf b cv m w n s V u)(g:zd b V ZN)(hM:MAt ZN b cv v)(i:Rep v.S r)(hz:v.size=A r)(f:v.av=u.av/\v.D=u.D/\v.j=u.j/\v.t=u.t):Pf b cv m w n r ZN v:=
 ⟨hM,i,hz,h.on.k g,(g.O _ 2 h.far.2 h.far.1).k h.arg,⟨h.far.1,lj h.far.2 g.size⟩,f.1.k h.rest.1,f.2.1.k h.rest.2.1,f.2.2.1.k h.rest.2.2.1,f.2.2.2.k h.rest.2.2.2⟩
def Pf.drew (h:Pf b cv m w n s V u):Pf b cv m w n s V.drew u:=h.go (zd.refl _ _).drew h.mt.drew h.rep h.size ⟨rfl,rfl,rfl,rfl⟩
def Pf.aa (h:Pf b cv m w n s V u)(f:Below V.heap.size V ZN):Pf b cv m w n s ZN u:=h.go (zd.q f) (h.mt.ak f) h.rep h.size ⟨rfl,rfl,rfl,rfl⟩
def Pf.fin (h:Pf b cv m w n s V u)(g:m.av=p):(∃f,MAt V b cv f/\After m f (.inl (s,p)))/\zd b w V:=⟨⟨u,h.mt,h.rest.2.2.1,h.rep,h.size,h.rest.1.k g,h.rest.2.1,h.rest.2.2.2⟩,h.on⟩
def Pf.jump (h:Pf b cv m w n s V u):(∃f,MAt (ZU V (Q b 52 Z) (J I n)) b cv f/\After m f (.inl (s,n)))/\zd b w (ZU V (Q b 52 Z) (J I n)):=⟨⟨_,h.mt.setPlace _,h.rest.2.2.1,h.rep,h.size,rfl,h.rest.2.1,h.rest.2.2.2⟩,ce h.on _ _⟩
def Hd{o:Obj}(h:MAt w b cv m/\Rep m.S s/\m.size=A s):(∃f,MAt ((ZU w (Q b 52 Z) (J I n)).alloc o) b cv f/\After m f (.inl (s,n)))/\zd b w ((ZU w (Q b 52 Z) (J I n)).alloc o):=⟨⟨_,(h.1.setPlace _).al _,rfl,h.2.1,h.2.2,rfl,rfl,rfl⟩,(ce (zd.refl _ _) _ _).al _⟩
def xX (h:Pf b cv m w n (x::s) V u)(g:(x::s).length<=50):Calls Pg 213 #[.pointer (T (Q b 0 Z))] V λe ZN=>e=ZI (U x)/\∃v,Pf b cv m w n s ZN v:=by simp only[vF] at g;refine(Hc b cv u (A s) x V h.mt (by rw[h.size];rfl) (by omega) h.rep.1).P ?_;rintro e ZN⟨rfl,hM,f⟩;exact⟨rfl,_,h.go f hM h.rep.2 rfl ⟨rfl,rfl,rfl,rfl⟩⟩
def Bj (y:F_)(h:Pf b cv m w n s V u)(g:A s<50):Calls Pg 195 #[.pointer (T (Q b 0 Z)),U y] V λe ZN=>e=ZI (.tuple #[])/\∃v,Pf b cv m w n (y::s) ZN v:=by refine(rh b cv u y V h.mt (by rw[h.size];exact g)).P ?_;rintro e ZN⟨rfl,hM,f⟩;exact⟨rfl,_,h.go f hM (by rw[h.size];exact h.rep.push y) (by simp[h.size]) ⟨rfl,rfl,rfl,rfl⟩⟩
def IK (c:Int)(y:F_)(h:Pf b cv m w n s V u):Calls Pg 197 #[.pointer (T (Q b 0 Z)),J I c,U y] V λe ZN=>e=ZI (.tuple #[])/\(∃f,MAt ZN b cv f/\After m f (.inr (.inl (c,y))))/\zd b w ZN:=by refine(kQ b cv u c y V h.mt).P ?_;rintro e ZN⟨rfl,hM,g⟩;exact⟨rfl,⟨_,hM,h.rest.2.2.1,by rw[<-h.rest.2.2.1]⟩,h.on.k g⟩
def He{y:F_}(h:Pf b cv m w n (x::y::s) V u)(o:(x::y::s).length<=50)(q:p<=2000)(z:Pow V)(j:2<b)(t:x.size<=2000)(l:y.size<=2000)(hpl:m.av=p+1):Calls Pg 212 #[.pointer (T (Q b 0 Z)),J I p] V λe ZN=>e=ZI (.tuple #[])/\(∃f,MAt ZN b cv f/\After m f (cK 2 n ⟨#[]⟩ p 0 (x::y::s)))/\zd b w ZN:=by
 have i:u.S (A s+1)=x:=h.rep.1;have g:u.S (A s)=y:=h.rep.2.1;simp only[vF] at o;refine(Eu b cv u (A s) p V h.mt (by rw[h.size];rfl) (by omega) q z j (by rw[g];exact l) (by rw[i];exact t)).P ?_;rw[i,g];rintro e ZN⟨rfl,hM,r⟩;refine⟨rfl,⟨_,hM,?_⟩,h.on.k r⟩;show After m _ (if y.size+x.size<=2000 then _ else _);split;{exact⟨h.rest.2.2.1,h.rep.2.2.push _,by simp,h.rest.1.k hpl,h.rest.2.1,h.rest.2.2.2⟩};{exact⟨h.rest.2.2.1,by rw[<-h.rest.2.2.1];rfl⟩}
def Hf{ask:Bool}(h:Pf b cv m w n (x::s) V u)(l:(x::s).length<=50)(o:p<=2000)(t:Pow V)(i:2<b)(hlk:m.D=v_)(h2:v_<=200):Calls Pg 215 #[.pointer (T (Q b 0 Z)),ZF ask,J I p] V λe ZN=>e=ZI (.tuple #[])/\(∃g,MAt ZN b cv g/\After m g (iN ask x s p v_))/\zd b w ZN:=by
 have r:u.S (A s)=x:=h.rep.1;have j:u.D=v_:=h.rest.2.1.k hlk;simp only[vF] at l;refine(Ev b cv u ask (A s) p V h.mt (by rw[h.size];rfl) (by omega) o (by omega) (by omega) t i).P ?_;rw[r];rintro e ZN⟨rfl,hM,q⟩;refine⟨rfl,⟨_,hM,?_⟩,h.on.k q⟩;unfold iN;split;{exact⟨h.rest.2.2.1,by rw[<-h.rest.2.2.1];rfl⟩};{rw[j];by_cases f:v_=200;{rw[eT (by omega),eT f];exact⟨h.rest.2.2.1,by rw[<-h.rest.2.2.1]⟩};{rw[eI (by omega),eI f];exact⟨h.rest.2.2.1,h.rep.2,rfl,h.rest.1,by simp[hlk],by rw[<-h.rest.2.2.1]⟩}}
def qy (h:1<=A s):∃x r,s=x::r:=by
 cases s with
 |nil=>simp at h
 |cons x r=>exact⟨x,r,rfl⟩
def IL (h:2<=A s):∃x y r,s=x::y::r:=by obtain⟨x,r,rfl⟩:=qy (show 1<=A s by omega);obtain⟨y,t,rfl⟩:=qy (s:=r) (by simp at h;omega);exact⟨x,y,t,rfl⟩
def IM (a:F_)(n:Nat):a.extract 0 (min (n:Int) (a.size:Int)).toNat=if n<a.size then a.extract 0 n else a:=by
 split;{rw[show(min (n:Int) (a.size:Int)).toNat=n by omega]};{rw[show(min (n:Int) (a.size:Int)).toNat=a.size by omega];simp}
def IP (a:F_)(n:Nat):a.extract (min (n:Int) (a.size:Int)).toNat a.size=if n<a.size then a.extract n a.size else ⟨#[]⟩:=by
 split;{rw[show(min (n:Int) (a.size:Int)).toNat=n by omega]};{rw[show(min (n:Int) (a.size:Int)).toNat=a.size by omega];exact mR (by simp)}
end
def fg (op:Nat)(b:List F_):Bool:=decide (aX op<=A b/\(A b) - aX op+bN op<=50)
def xj (b:Nat)(cv:ZB)(m:Mst)(op n g v_:Nat)(t:F_)(f:List F_)(w:E)(hM:MAt w b cv m)(hR:Rep m.S f)(hz:m.size=A f)(ZP:A f<=50)(G:m.av=g+1)
 (z:∀x∈f,x.size<=2000) (hn:n<=2000) (ZQ:g<=2000) (ZR:Pow w) (C:2<b) (hlk:m.D=v_) (M:v_<=200) (h1:1<=op) (h15:op<=15) (hb:fg op f=ZH) :
 Calls Pg 208 #[.pointer (T (Q b 0 Z)),.agg #[J I op,U t,J I n],J I g] w λe K=>e=ZI (.tuple #[])/\(∃ZS,MAt K b cv ZS/\After m ZS (cK op n t g v_ f))/\zd b w K:=by
 simp only[fg,nD] at hb;obtain⟨i,B⟩:=hb;have hlt:=hM.lt;have H:Hid (Pf b cv m w n f (w.alloc (N #[J I op,U t,J I n] 124)) m):=⟨hM.al _,hR,hz,(zd.refl b w).al _,by simp,⟨by omega,by simp⟩,rfl,rfl,rfl,rfl⟩
 have L:Hid (Pow (w.alloc (N #[J I op,U t,J I n] 124))):=ZR.low ((BS w).alloc ly _) (by omega);have P:=ae (And.intro hM (And.intro hR hz));obtain⟨c3,z3⟩:=hM.ao 52 (J I m.av) (by omega) (by simp[Mst.F]);obtain⟨res,j⟩:∃res,res=cK op n t g v_ f:=⟨_,rfl⟩
 rw[<-j];have ZV:=ae j;clear hM hR ZR hz j;rcases(show op=1\/op=2\/op=3\/op=4\/op=5\/op=6\/op=7\/op=8\/op=9\/op=10\/op=11\/op=12\/op=13\/op=14\/op=15 by omega) with rfl|rfl|rfl|rfl|rfl|rfl|rfl|rfl|rfl|rfl|rfl|rfl|rfl|rfl|rfl;rotate_left 10;obtain⟨x,r,rfl⟩:=qy (show 1<=A f from i);have q:res=.inl (r,if x.toList=[]\/(x.toList == [48])=ZH then n else g+1):=ZV.i;clear ZV;by_cases D:x.toList=[]
 case' neg =>
  have heb:x.toList.isEmpty=ZA:=by simp[D]
  cases h48:(x.toList == [48])
 case' neg.false =>rw[eI (by simp[D,h48])] at q;have h49:¬ x.toList=[48]:=by simpa using h48
 case' neg.true=>rw[eT (.inr h48)] at q
 case' pos=>rw[eT (.inl D)] at q
 case' neg.false|neg.true|pos=>(have ZV:=ae q;clear q)
 all_goals
  simp only[aX,bN] at i B
  (try obtain⟨x,y,r,rfl⟩:=IL i)
  (try obtain⟨x,r,rfl⟩:=qy i)
  clear i
  (try have ZT:=z x (by simp))
  (try have O:=z y (by simp))
  clear z
  (try simp only[vF] at ZP)
  (try simp at B)
  go_enter func208,ntmps208;have l:=H.arg
  go_wp2_with (first
   |(go_at_call 213;refine(xX (by first|exact H|exact H.drew|exact H.drew.drew|exact H.drew.drew.drew) (by(try simp only[vF]);omega)).P ?_;rintro e V⟨rfl,u,h⟩;replace H:=ae h;clear h;have l:=H.arg;obtain⟨c2,z2⟩:=H.mt.ao 52 (J I m.av) (by omega) (by simp[Mst.F,H.rest.1]);have s:=H.mt.lt)
   |(go_at_call 195;refine(Bj _ (by first|exact H|exact H.drew|exact H.drew.drew|exact H.drew.drew.drew) (by(try simp only[vF]);omega)).P ?_;rintro e V⟨rfl,u,h⟩;replace H:=ae h;clear h;have l:=H.arg;obtain⟨c2,z2⟩:=H.mt.ao 52 (J I m.av) (by omega) (by simp[Mst.F,H.rest.1]);have s:=H.mt.lt)
   |(go_at_call 196;refine(nC _ _).P ?_;rintro e ZN⟨rfl,o⟩;rw[o];clear o)
   |(go_at_call 214;refine(qt x n _ ZT hn).P ?_;rintro e ZN⟨rfl,p⟩;replace H:=ae (Pf.aa (by first|exact H|exact H.drew|exact H.drew.drew|exact H.drew.drew.drew) p);clear p;have l:=H.arg)
   |(go_at_call 212;refine(He H (by(try simp only[vF]);omega) ZQ L C ZT O G).P ?_;rintro e ZN⟨rfl,hF⟩;have F:=ae hF;clear hF)
   |(go_at_call 215;refine(Hf H (by(try simp only[vF]);omega) ZQ L C hlk M).P ?_;rintro e ZN⟨rfl,hF⟩;have F:=ae hF;clear hF)
   |(go_at_call 197;refine(IK _ _ H).P ?_;rintro e ZN⟨rfl,hF⟩;have F:=ae hF;clear hF))
  (try go_region_with (first
   |(go_at_call 213;refine(xX (by first|exact H|exact H.drew|exact H.drew.drew|exact H.drew.drew.drew) (by(try simp only[vF]);omega)).P ?_;rintro e V⟨rfl,u,h⟩;replace H:=ae h;clear h;have l:=H.arg;obtain⟨c2,z2⟩:=H.mt.ao 52 (J I m.av) (by omega) (by simp[Mst.F,H.rest.1]);have s:=H.mt.lt)
   |(go_at_call 195;refine(Bj _ (by first|exact H|exact H.drew|exact H.drew.drew|exact H.drew.drew.drew) (by(try simp only[vF]);omega)).P ?_;rintro e V⟨rfl,u,h⟩;replace H:=ae h;clear h;have l:=H.arg;obtain⟨c2,z2⟩:=H.mt.ao 52 (J I m.av) (by omega) (by simp[Mst.F,H.rest.1]);have s:=H.mt.lt)
   |(go_at_call 196;refine(nC _ _).P ?_;rintro e ZN⟨rfl,o⟩;rw[o];clear o)
   |(go_at_call 214;refine(qt x n _ ZT hn).P ?_;rintro e ZN⟨rfl,p⟩;replace H:=ae (Pf.aa (by first|exact H|exact H.drew|exact H.drew.drew|exact H.drew.drew.drew) p);clear p;have l:=H.arg)))
  all_goals
   (try rw[IM] at H)
   (try rw[IP] at H)
   (try go_wp2)
   (try refine nd rfl rfl ?_)
   (try rw[ZV.i])
   first
    |exact⟨rfl,F⟩
    |exact⟨rfl,H.fin G⟩
    |exact⟨rfl,H.jump⟩
    |exact⟨rfl,Hd P⟩
def bQ (f:Nat->Ins)(y_ z_ k_ v_:Nat)(b:List F_):Res:=
 if y_<=z_ then .inr (.inl (2,(dV z_))) else if k_=2000 then .inr (.inl (3,⟨#[]⟩)) else
  if fg (f z_).op.toNat b=ZA then .inr (.inl (2,(dV z_))) else cK (f z_).op.toNat (f z_).n.toNat (f z_).s z_ v_ b
def cU (y_ z_ k_:Nat):Nat:=if y_<=z_ then k_ else if k_=2000 then k_ else k_+1
def MAt.qN (h:MAt w b cv m)(n:Nat):MAt (w.drewN n) b cv m:=h.ak (AD br n)
def zd.qN (h:zd b u w)(n:Nat):zd b u (w.drewN n):=h.ak (AD br n)
def Ew (b:Nat)(cv:ZB)(m:Mst)(op:Nat)(f:List F_)(w:E)(hM:MAt w b cv m)(g:Tab2 w)(h1:1<=op)(h2:op<=15)(hz:m.size=A f)(hl:A f<=50):Calls Pg 207 #[.pointer (T (Q b 0 Z)),J I op] w λe h=>e=ZI (ZF (fg op f))/\Below w.heap.size w h:=by have:=bears_any b cv m op w hM g (by omega) (by omega) (by omega);rw[hz] at this;exact this
structure Env (w:E)(b pb po y_:Nat)(f:Nat->Ins):Prop where
 row:Q_ w pb po y_ f
 tab:Tab2 w
 pow:Pow w
 pbb:pb<b
 tbb:0<b
 pwb:2<b
def Env.aa{l:E}{j y_:Nat}(h:Env w b j g y_ f)(hb:Below b w l):Env l b j g y_ f:=
 ⟨⟨lj h.row.1 hb.size,λi hi=>(h.row.2 i hi).aa hb h.pbb⟩,h.tab.aa hb h.tbb,h.pow.low hb h.pwb,h.pbb,h.tbb,h.pwb⟩
def Env.ac{j:E}{i y_:Nat}(h:Env w b i g y_ f)(l:b<w.heap.size)(hb:zd b w j):Env j b i g y_ f:=h.aa (hb.aa ly (TQ l))
structure Sim (m:Mst)(z_ k_ v_:Nat)(stk:List F_):Prop where
 rep:Rep m.S stk
 size:m.size=A stk
 len:A stk<=50
 hpl:m.av=z_
 hst:m.j=k_
 hlk:m.D=v_
 le:∀x∈stk,x.size<=2000
 pl:z_<=2000
 st:k_<=2000
 lk:v_<=200
def Ex (b p r y_ j_ z_ k_ v_:Nat)(f:Nat->Ins)(m:Mst)(i:List F_)(w:E)(hM:MAt w b (Y (T (Q p r Z)) y_ j_) m)(ZS:Sim m z_ k_ v_ i)(hE:Env w b p r y_ f)(aq:dn f y_=ZH):Calls Pg 198 #[.pointer (T (Q b 0 Z))] w λe w'=>e=ZI (.tuple #[]) /\
   (∃ZP,MAt w' b (Y (T (Q p r Z)) y_ j_) ZP/\After { m with j:=cU y_ z_ k_,av:=z_+1 } ZP (bQ f y_ z_ k_ v_ i))/\zd b w w':=by
 have ZM:=ae hM;have ZR:=ae hE;have j:=ae ZS;have t:=hM.lt;have hpl:=ZS.pl;have hst:=ZS.st;obtain⟨c1,z1⟩:=hM.ao 51 (Y (T (Q p r Z)) y_ j_) (by omega) (by simp[Mst.F]);obtain⟨c2,z2⟩:=hM.ao 52 (J I z_) (by omega) (by simp[Mst.F,ZS.hpl]);obtain⟨c3,z3⟩:=hM.ao 53 (J I k_) (by omega) (by simp[Mst.F,ZS.hst]);clear hM hE ZS;by_cases h1:y_<=z_
 ·have ZV:bQ f y_ z_ k_ v_ i=.inr (.inl (2,(dV z_))):=by simp[bQ,h1]
  have z:cU y_ z_ k_=k_:=by simp[cU,h1]
  rw[ZV,z];clear ZV z;go_enter func198,ntmps198;go_wp2_with fail;go_quiet (fail);have g:=ae (ZM.qN nq);have q:=ae (ZR.ac t ((zd.refl b w).qN nq));have l:=ae ((zd.refl b w).qN nq);clear c1 z1 c2 z2 c3 z3;generalize w.drewN nq=W at g q l ⊢;obtain⟨c2,z2⟩:=g.ao 52 (J I z_) (by omega) (by simp[Mst.F,j.hpl]);obtain⟨c3,z3⟩:=g.ao 53 (J I k_) (by omega) (by simp[Mst.F,j.hst]);go_wp2_with fail;refine(ki b _ m z_ _ g hpl q.pow).P ?_;rintro e ZO⟨rfl,B,o⟩;have h:=ae B;have O:=ae (l.k o);clear B o;go_wp2;refine re rfl rfl ?_;exact⟨rfl,⟨_,h,j.hst,by rw[j.hst]⟩,O.i⟩
 ·have h1':(z_:Int)<y_:=by omega
  by_cases h2:k_=2000
  ·have ZV:bQ f y_ z_ k_ v_ i=.inr (.inl (3,⟨#[]⟩)):=by simp[bQ,h1,h2]
   have z:cU y_ z_ k_=k_:=by simp[cU,h1,h2]
   rw[ZV,z];clear ZV z;have fd:((k_:Int) == 2000)=ZH:=by simp;omega
   go_enter func198,ntmps198;go_wp2_with fail;go_quiet (fail);have g:=ae (ZM.qN nq);have q:=ae (ZR.ac t ((zd.refl b w).qN nq));have l:=ae ((zd.refl b w).qN nq);clear c1 z1 c2 z2 c3 z3;generalize w.drewN nq=W at g q l ⊢;obtain⟨c2,z2⟩:=g.ao 52 (J I z_) (by omega) (by simp[Mst.F,j.hpl]);obtain⟨c3,z3⟩:=g.ao 53 (J I k_) (by omega) (by simp[Mst.F,j.hst]);go_wp2_with fail;refine(kQ b _ m _ _ _ g).P ?_;rintro e ZO⟨rfl,B,o⟩;have h:=ae B;have O:=ae (l.k o);clear B o;go_wp2;refine re rfl rfl ?_;exact⟨rfl,⟨_,h,j.hst,by rw[j.hst]⟩,O.i⟩
  ·have fd:((k_:Int) == 2000)=ZA:=by simp;omega
   have z:cU y_ z_ k_=k_+1:=by simp[cU,h1,h2]
   have hi:=j7 aq (show z_<y_ by omega);simp only[cL,nD] at hi;obtain⟨i1,i2,i3,i4,i5⟩:=hi;obtain⟨op,K⟩:=p9 (show 0<=(f z_).op by omega);obtain⟨n,hn⟩:=p9 i4;have ZV:bQ f y_ z_ k_ v_ i=if fg op i=ZA then .inr (.inl (2,(dV z_))) else cK op n (f z_).s z_ v_ i:=by simp only[bQ,h1,h2,UI,K,hn,Int.toNat_natCast]
   rw[ZV,z];obtain⟨R,hR⟩:∃R:Res,R=(if fg op i=ZA then .inr (.inl (2,(dV z_))) else cK op n (f z_).s z_ v_ i):=⟨_,rfl⟩
   rw[<-hR];have S:=ae hR;clear hR;have bt:dX (f z_).op<=2000:=by unfold dX;split<;>(try split)<;>omega
   have ex:n<=2000:=by omega
   have ZL:1<=op:=by omega
   have X:op<=15:=by omega
   have HA:Hid (AtIns w p r z_ (f z_)):=ZR.row.2 z_ (by omega);clear ZV z bt i1 i2 i3 i4 i5;go_enter func198,ntmps198;go_wp2_with fail;go_quiet (fail);have g:=ae (ZM.qN nq);have q:=ae (ZR.ac t ((zd.refl b w).qN nq));have l:=ae ((zd.refl b w).qN nq);clear c1 z1 c2 z2 c3 z3;generalize w.drewN nq=W at g q l ⊢;obtain⟨c2,z2⟩:=g.ao 52 (J I z_) (by omega) (by simp[Mst.F,j.hpl]);obtain⟨c3,z3⟩:=g.ao 53 (J I k_) (by omega) (by simp[Mst.F,j.hst]);obtain⟨c1,z1⟩:=g.ao 51 (Y (T (Q p r Z)) y_ j_) (by omega) (by simp[Mst.F]);go_wp2_with fail;have h:=ae ((g.setSteps ((k_:Int)+1)).setPlace ((z_:Int)+1));have G:=ae (ce (ce l 53 (J I ((k_:Int)+1))) 52 (J I ((z_:Int)+1)));clear c1 z1 c2 z2 c3 z3 g l q;generalize World.setCell (World.setCell W _ _) _ _=V at h G ⊢;have M:=ae (ZR.ac t G);obtain⟨c1,z1⟩:=h.ao 51 (Y (T (Q p r Z)) y_ j_) (by omega) (by simp[Mst.F]);obtain⟨a0,a1,a2⟩:=M.row.2 z_ (by omega);rw[K] at a0;rw[hn] at a2;obtain⟨C,D⟩:∃C:Mst,C={ m with j:=(k_:Int)+1,av:=(z_:Int)+1 }:=⟨_,rfl⟩
   rw[<-D] at h;have k1:C.size=A i:=by rw[D];exact j.size
   have u:=ae D;have ZN:=j.len;clear D;go_region_with (go_at_call 207;refine(Ew b (Y (T (Q p r Z)) y_ j_) C op i _ ?_ ?_ ZL X k1 ZN).P ?_;(first|exact h|exact h.drew|exact h.drew.drew);(first|exact M.tab|exact(M.aa br.drew).tab);rintro e ZO⟨rfl,o⟩;have ZT:Hid (MAt ZO b (Y (T (Q p r Z)) y_ j_) C):=MAt.ak (by first|exact h|exact h.drew|exact h.drew.drew) o;have ZQ:Hid (zd b w ZO):=zd.ak (by repeat (first|exact G|apply zd.drew)) o;clear o);all_goals
    have H:=ae (ZR.ac t ZQ);obtain⟨g1,y1⟩:=ZT.ao 51 (Y (T (Q p r Z)) y_ j_) (by omega) (by simp[Mst.F]);obtain⟨b0,b1,b2⟩:=H.row.2 z_ (by omega);rw[K] at b0;rw[hn] at b2;clear c1 z1 a0 a1 a2 h G;have hlt1:=ZT.lt;cases hbr:fg op i with
    |false =>rw[eT hbr] at S;go_wp2_with fail;refine(ki b _ C z_ _ ZT hpl H.pow).P ?_;rintro e w2⟨rfl,y,x⟩;have L:=ae y;have P:=ae (ZQ.k x);clear y x;go_wp2;refine re rfl rfl ?_;refine⟨rfl,⟨_,L,?_⟩,P⟩;rw[u.i,S.i];exact⟨by simp,by simp⟩
    |true =>
     rw[eI (by simp[hbr])] at S;go_wp2_with fail;refine(xj b (Y (T (Q p r Z)) y_ j_) C op n z_ v_ (f z_).s i _ ?_ ?_ k1 ZN ?_ ?_ ex hpl ?_ ?_ ?_ ?_ ZL X hbr).P ?_
     ·exact ZT
     ·rw[u.i];exact j.rep
     ·rw[u.i]
     ·exact j.le
     ·exact H.pow
     ·exact H.pwb
     ·rw[u.i];exact j.hlk
     ·exact j.lk
     rintro e w2⟨rfl,y,x⟩;have L:=ae y;have P:=ae (ZQ.k x);clear y x;go_wp2;refine nd rfl rfl ?_;obtain⟨ZP,h1,h2⟩:=L.i;refine⟨rfl,⟨ZP,h1,?_⟩,P⟩;rw[S.i];rw[u.i] at h2;exact h2
def uR (l:List UInt8)(n:Nat):(cE l n).length<=A l:=by
 induction n generalizing l with
 |zero =>rw[cE];have h1:=fB l bI;have h2:((l.dropWhile bI).takeWhile (λc=>!bI c)).length<=(l.dropWhile bI).length:=(List.takeWhile_sublist _).length_le;omega
 |succ n b =>
  rw[cE];split;{simp};{have h1:=fB l bI;have h2:=fB (l.dropWhile bI) (λc=>!bI c);have h3:=b ((l.dropWhile bI).dropWhile (λc=>!bI c));omega}
def qA (s:F_)(n:Nat):(fV s n).size<=s.size:=uR s.data.toList n
def rF (res:Res)(v_:Nat):Prop:=match res with
 |.inl (stk,p)=>A stk<=50/\(∀x∈stk,x.size<=2000)/\p<=2000
 |.inr (.inl (_,_))=>True
 |.inr (.inr (_,name,stk))=>A stk<50/\(∀x∈stk,x.size<=2000)/\aA name=ZH/\v_<200
def ji (op n m v_:Nat)(t:F_)(b:List F_)(j:A b<=50)(f:∀x∈b,x.size<=2000)(p:t.size<=2000)(hn:n<=2000)(hh:m<2000)(hlk:v_<=200)(h1:1<=op)(h15:op<=15)(hb:fg op b=ZH):rF (cK op n t m v_ b) v_:=by
 have i:∀ask a r,b=a::r->rF (iN ask a r m v_) v_:=by
  intro ask a r e;subst e;simp only[vF] at j;unfold iN;split;{trivial};{rename_i h1;split;{trivial};{rename_i h2;exact⟨by omega,λx l=>f x (by simp[l]),by simpa using h1,by omega⟩}}
 simp only[fg,nD] at hb;obtain⟨g,o⟩:=hb;rcases(show op=1\/op=2\/op=3\/op=4\/op=5\/op=6\/op=7\/op=8\/op=9\/op=10\/op=11\/op=12\/op=13\/op=14\/op=15 by omega) with rfl|rfl|rfl|rfl|rfl|rfl|rfl|rfl|rfl|rfl|rfl|rfl|rfl|rfl|rfl;all_goals simp only[aX,bN] at g o
 {refine⟨by simp at o ⊢;omega,λx l=>?_,by omega⟩;rcases vG.1 l with rfl|l;{exact p};{exact f x l}}
 ·match b,g with
  |x::y::r,_ =>
   show rF (if y.size+x.size<=2000 then _ else _) _;split;{refine⟨by simp at j ⊢;omega,λz hz=>?_,by omega⟩;rcases vG.1 hz with rfl|hz;{simp;omega};{exact f z (by simp[hz])}};{trivial}
 ·match b,g with
  |x::r,_ =>
   refine⟨j,λz hz=>?_,by omega⟩;have l:=f x (by simp);rcases vG.1 hz with rfl|hz;{split;{simp;omega};{exact l}};{exact f z (by simp[hz])}
 ·match b,g with
  |x::r,_ =>
   refine⟨j,λz hz=>?_,by omega⟩;have l:=f x (by simp);rcases vG.1 hz with rfl|hz;{split;{simp;omega};{decide}};{exact f z (by simp[hz])}
 ·match b,g with
  |x::r,_ =>
   refine⟨j,λz hz=>?_,by omega⟩;rcases vG.1 hz with rfl|hz;{exact nX (qA _ _) (f x (by simp))};{exact f z (by simp[hz])}
 ·match b,g with
  |x::y::r,_ =>
   refine⟨by simp at j ⊢;omega,λz hz=>?_,by omega⟩;rcases vG.1 hz with rfl|hz;{unfold eU;split<;>decide};{exact f z (by simp[hz])}
 ·match b,g with
  |x::r,_ =>
   refine⟨by simp at o ⊢;omega,λz hz=>?_,by omega⟩;rcases vG.1 hz with rfl|hz;{exact f _ (by simp)};{exact f z hz}
 ·match b,g with
  |x::y::r,_ =>refine⟨j,λz hz=>?_,by omega⟩;simp only[vG] at hz;exact f z (by simp only[vG];rcases hz with h|h|h<;>simp[h])
 ·match b,g with
  |x::r,_=>exact⟨by simp at j;omega,λz hz=>f z (by simp[hz]),by omega⟩
 {exact⟨j,f,hn⟩}
 ·match b,g with
  |x::r,_ =>refine⟨by simp at j;omega,λz hz=>f z (by simp[hz]),?_⟩;split<;>omega
 ·match b,g with
  |x::r,_=>exact i ZH x r rfl
 ·match b,g with
  |x::r,_=>exact i ZA x r rfl
 ·match b,g with
  |x::r,_=>trivial
 ·match b,g with
  |x::r,_=>trivial
def zy{y_:Nat}{b:List F_}(g:Sim m z_ k_ v_ b)(h:dn f y_=ZH)(hc:y_<=200):rF (bQ f y_ z_ k_ v_ b) v_:=by
 unfold bQ;split;{trivial}
 ·rename_i h1;split;{trivial}
  ·split;{trivial}
   ·rename_i i;have hi:=j7 h (show z_<y_ by omega);simp only[cL,nD] at hi;obtain⟨i1,i2,i3,i4,i5⟩:=hi;have hmt:dX (f z_).op<=2000:=by unfold dX;split<;>(try split)<;>omega
    have hmt2:bW (f z_).op<=2000:=by unfold bW;split<;>omega
    exact ji _ _ _ _ _ _ g.len g.le (by omega) (by omega) (by omega) g.lk (by omega) (by omega) (by simpa using i)
abbrev Halt:=(Int × F_ × Nat) ⊕ (Bool × F_ × List F_ × Nat × Nat × Nat)
def lV (f:Nat->Ins)(y_:Nat):Nat->Nat->Nat->Nat->List F_->Option Halt
 |0,_,_,_,_=>Z
 |k+1,z_,k_,v_,stk=>match bQ f y_ z_ k_ v_ stk with
  |.inr (.inl (c,x))=>T (.inl (c,x,(cU y_ z_ k_)))
  |.inr (.inr (a,nm,s))=>T (.inr (a,nm,s,(z_+1),(cU y_ z_ k_),(v_+1)))
  |.inl (s,p)=>lV f y_ k p (cU y_ z_ k_) v_ s
def jO{y_:Nat}{b:List F_}(h:bQ f y_ z_ k_ v_ b=.inl (s,p)):cU y_ z_ k_=k_+1/\k_≠2000:=by
 unfold bQ at h;unfold cU;split at h;{cases h};{split at h;{cases h};{rename_i h1 h2;rw[eI h1,eI h2];exact⟨rfl,h2⟩}}
def sG (f:Nat->Ins)(y_:Nat)(k:Nat):∀z_ k_ v_ b,k_<=2000->2001<=k+k_->∃h,lV f y_ k z_ k_ v_ b=T h:=by
 induction k with
 |zero=>intro _ _ _ _ h1 h2;omega
 |succ k i =>
  intro z_ k_ v_ b h1 h2;rw[lV];rcases hr:bQ f y_ z_ k_ v_ b with⟨s,p⟩|⟨c,x⟩|⟨a,nm,s⟩
  {obtain⟨g,e2⟩:=jO hr;simp only[g];exact i _ _ _ _ (by omega) (by omega)};{exact⟨_,rfl⟩};{exact⟨_,rfl⟩}
def fh (m:Mst):Halt->Prop
 |.inl (c,x,k)=>m.t=⟨ZH,c,x,ZA,⟨#[]⟩,k⟩
 |.inr (a,nm,s,p,k,l)=>m.t=⟨ZA,0,⟨#[]⟩,a,nm,k⟩/\Sim m p k l s/\aA nm=ZH/\(A s)<50
def xY (b ZV D y_ j_:Nat)(f:Nat->Ins)(m:Mst)(H:Halt)(w:E)(hM:MAt w b (Y (T (Q ZV D Z)) y_ j_) m)(hE:Env w b ZV D y_ f)(hc:y_<=200)(K:dn f y_=ZH)
  (hH:(m.t=dk/\∃p k l s,Sim m p k l s/\lV f y_ (2001 - k) p k l s=T H)\/fh m H) :
  Calls Pg 176 #[.pointer (T (Q b 0 Z))] w λe w'=>∃i,e=ZI i.t.v/\MAt w' b (Y (T (Q ZV D Z)) y_ j_) i/\fh i H/\zd b w w':=by
 have HM:=ae hM;have HE:=ae hE;have HH:=ae hH;have aq:=hM.lt;clear hM hE hH;have O:=ae (HM.al (N #[ZF ZA,J I 0,U ⟨#[]⟩,ZF ZA,U ⟨#[]⟩,J I 0] 138));have G:w.heap.size<(w.alloc (N #[ZF ZA,J I 0,U ⟨#[]⟩,ZF ZA,U ⟨#[]⟩,J I 0] 138)).heap.size:=by simp
 have ZT:=ae ((zd.refl b w).al (N #[ZF ZA,J I 0,U ⟨#[]⟩,ZF ZA,U ⟨#[]⟩,J I 0] 138));have P:∀j,j<6->∃v,(w.alloc (N #[ZF ZA,J I 0,U ⟨#[]⟩,ZF ZA,U ⟨#[]⟩,J I 0] 138)).cell? (Q w.heap.size j Z)=T v/\(w.alloc (N #[ZF ZA,J I 0,U ⟨#[]⟩,ZF ZA,U ⟨#[]⟩,J I 0] 138)).frozen? (Q w.heap.size j Z)=ZA:=by intro j hj;rcases(show j=0\/j=1\/j=2\/j=3\/j=4\/j=5 by omega) with rfl|rfl|rfl|rfl|rfl|rfl;all_goals exact⟨_,by simp;rfl,by simp⟩
 have L:=ae P;clear P;go_enter func176,ntmps176;go_wp2;generalize World.alloc w _=w0 at O G ZT L ⊢;go_loopg [] 2002 (λg wr=>∃i,MAt wr b (Y (T (Q ZV D Z)) y_ j_) i/\zd b w0 wr/\((i.t=dk/\∃p k l s,Sim i p k l s/\lV f y_ (2001 - k) p k l s=T H/\2002 - k<=g)\/fh i H));case atStart =>
  refine⟨m,O,zd.refl _ _,?_⟩;rcases HH.i with⟨h1,p,k,l,s,h2,h3⟩|h;{exact .inl ⟨h1,p,k,l,s,h2,h3,by omega⟩};{exact .inr h}
 case round =>
  obtain⟨i,hM,hO,ex⟩:=hrel;have M:=ae hM;have u:=ae hO;obtain⟨⟨c5,z5⟩,⟨y,z6⟩,⟨B,z7⟩,⟨ZS,z8⟩,⟨C,z9⟩,r,n8⟩:=hM.turn;clear hM hO;rcases ex with⟨q,p,k,l,s,z,hr,hg⟩|hst
  ·have o:=ae z;have la:=ae hr;have hk:=z.st;rw[q] at c5 y B ZS C r;simp only[dk] at c5 y B ZS C r;have fd:=ae q;clear z hr q;go_wp2_with fail;refine(Ex b ZV D y_ j_ p k l f i s _ M o (HE.ac aq (ZT.k u)) K).P ?_;rintro e w1⟨rfl,⟨m2,ZR,n⟩,ZQ⟩;have mv:=ae ZR;have HA:=ae n;have ld:=ae (u.k ZQ);clear ZR n ZQ c5 y B ZS C r z5 z6 z7 z8 z9 n8;obtain⟨g,rfl⟩:∃g,gk=g+1:=⟨gk - 1,by omega⟩
   go_wp2;go_roundg g;case measure=>omega
   case rel =>
    refine⟨m2,mv,ld,?_⟩;have hR:=la.i;have hF:=zy o.i K hc;obtain⟨j,hj⟩:∃j,2001 - k=j+1:=⟨2000 - k,by omega⟩
    rw[hj,lV] at hR;have n:=HA.i;rcases hst:bQ f y_ p k l s with⟨W,p2⟩|⟨c,x⟩|⟨a,nm,W⟩
    {rw[hst] at hR n hF;obtain⟨e1,e2⟩:=jO hst;obtain⟨a1,V,ZO,ZP,ZN,R⟩:=n;obtain⟨f1,S,X⟩:=hF;simp only[e1] at hR a1;refine .inl ⟨by rw[R];exact fd,p2,k+1,l,W,⟨V,ZO,f1,ZP,a1,by rw[ZN];exact o.hlk,S,X,by omega,o.lk⟩,?_,by omega⟩;rw[show 2001 - (k+1)=j by omega];exact hR};{rw[hst] at hR n hF;simp only[ND] at hR;subst hR;exact .inr n.2};{rw[hst] at hR n hF;simp only[ND] at hR;subst hR;obtain⟨a1,V,ZO,ZP,ZN,R⟩:=n;obtain⟨f1,S,X,f4⟩:=hF;have hN:cU y_ p k<=2000/\p+1<=2000:=(by unfold bQ at hst;unfold cU;split at hst;{cases hst};{split at hst;{cases hst};{rename_i h1 h2;rw[eI h1,eI h2];omega}});exact .inr ⟨R,⟨V,ZO,by omega,by rw[ZP];simp,a1,by rw[ZN];show i.D+1=_;rw[o.hlk];simp,S,hN.2,hN.1,by omega⟩,X,f1⟩}
  ·have bt:=ae hst;rcases H with⟨c,x,k⟩|⟨a,nm,W,p2,k2,l2⟩
   focus
    have q:i.t=⟨ZH,c,x,ZA,⟨#[]⟩,k⟩:=hst;rw[q] at c5 y B ZS C r
   rotate_left;focus
    obtain⟨q,z,hn,hl⟩:=hst;rw[q] at c5 y B ZS C r;have hne:nm.toList.isEmpty=ZA:=by
     have h0:¬ nm.size=0:=by simp only[aA,j6,nD] at hn;omega
     have:=mX h0;cases h:nm.toList with
     |nil=>exact absurd h this
     |cons _ _=>rfl
    clear z hn hl
   rotate_left;all_goals
    obtain⟨⟨v0,q0,y0⟩,⟨v1,q1,y1⟩,⟨v2,ZL,y2⟩,⟨v3,q3,y3⟩,⟨v4,ZM,y4⟩,⟨v5,q5,y5⟩⟩:=bl6 L.i;rw[<-u.O w.heap.size _ G (by omega)] at q0 q1 ZL q3 ZM q5;rw[<-u.frozen w.heap.size _ G (by omega)] at y0 y1 y2 y3 y4 y5;go_wp2;refine bp (v:=i.t.v) (by rw[q];simp[results,results176,go_sem,Turn.v,q0,q1,ZL,q3,ZM,q5]) rfl ?_;refine⟨i,rfl,?_,bt,?_⟩
    ·exact(((((M.other _ _ _ (by omega)).other _ _ _ (by omega)).other _ _ _ (by omega)).other _ _ _ (by omega)).other _ _ _ (by omega)).other _ _ _ (by omega)
    ·exact((((((ZT.k u).am _ _ _ ly).am _ _ _ ly).am _ _ _ ly).am _ _ _ ly).am _ _ _ ly).am _ _ _ ly
def gi (c:Int)(x:F_)(k:Nat):Turn:=⟨ZH,c,x,ZA,⟨#[]⟩,k⟩
def oA (a:Bool)(nm:F_)(k:Nat):Turn:=⟨ZA,0,⟨#[]⟩,a,nm,k⟩
def cA (f:Nat->Ins)(y_:Nat)(y:Nat->aD)(n:Nat):Nat->Nat->Nat->Nat->List F_->Turn
 |0,_,_,_,_=>dk
 |k+1,z_,k_,v_,stk=>match bQ f y_ z_ k_ v_ stk with
  |.inr (.inl (c,x))=>gi c x (cU y_ z_ k_)
  |.inl (s,p)=>cA f y_ y n k p (cU y_ z_ k_) v_ s
  |.inr (.inr (a,nm,s))=>if n<=v_ then oA a nm (cU y_ z_ k_)
    else if a=ZA then cA f y_ y n k (z_+1) (cU y_ z_ k_) (v_+1) (eU (y v_).has::s)
    else if (y v_).has=ZA then gi 4 nm (cU y_ z_ k_)
    else if (y v_).M=0 then cA f y_ y n k (z_+1) (cU y_ z_ k_) (v_+1) ((y v_).H::s)
    else gi 5 nm (cU y_ z_ k_)
def eC (f:Nat->Ins)(y_:Nat)(y:Nat->aD)(n:Nat):Halt->Turn
 |.inl (c,x,k)=>gi c x k
 |.inr (a,nm,s,p,k,l)=>if n<=l - 1 then oA a nm k
   else if a=ZA then cA f y_ y n (2001 - k) p k l (eU (y (l - 1)).has::s)
   else if (y (l - 1)).has=ZA then gi 4 nm k
   else if (y (l - 1)).M=0 then cA f y_ y n (2001 - k) p k l ((y (l - 1)).H::s)
   else gi 5 nm k
def gP (v_:Nat):Halt->Prop
 |.inl (_,_,_)=>True
 |.inr (_,_,_,_,_,l)=>l=v_+1
def lW{y_:Nat}{b:List F_}{a:Bool}{nm:F_}(h:bQ f y_ z_ k_ v_ b=.inr (.inr (a,nm,s))):cU y_ z_ k_=k_+1/\k_≠2000:=by
 unfold bQ at h;unfold cU;split at h;{cases h};{split at h;{cases h};{rename_i h1 h2;rw[eI h1,eI h2];exact⟨rfl,h2⟩}}
def pq (f:Nat->Ins)(y_:Nat)(y:Nat->aD)(n:Nat)(k:Nat):∀z_ k_ v_ g H,k_<=2000->2001 - k_=k->lV f y_ k z_ k_ v_ g=T H ->
  cA f y_ y n k z_ k_ v_ g=eC f y_ y n H/\gP v_ H:=by
 induction k with
 |zero=>intro _ _ _ _ _ h1 h2;omega
 |succ k j =>
  intro z_ k_ v_ g H h1 h2 b;rw[lV] at b;rw[cA];rcases hs:bQ f y_ z_ k_ v_ g with⟨s,p⟩|⟨c,x⟩|⟨a,nm,s⟩
  {obtain⟨h,i⟩:=jO hs;rw[hs] at b;simp only[h] at b ⊢;exact j _ _ _ _ _ (by omega) (by omega) b};{rw[hs] at b;simp only[ND] at b;subst b;exact⟨rfl,trivial⟩};{obtain⟨h,i⟩:=lW hs;rw[hs] at b;simp only[ND] at b;subst b;simp only[eC,h,QS,show 2001 - (k_+1)=k by omega];exact⟨trivial,rfl⟩}
def cI (r:aD):Bool:=decide (r.H.size<=2000/\0<=r.M/\r.M<=7)
def bU (y:Nat->aD):Nat->Bool
 |0=>ZH
 |k+1=>bU y k && cI (y k)
def lc{k:Nat}(h:k<=n)(hn:bU y n=ZH):bU y k=ZH:=by
 induction n with
 |zero =>
  obtain rfl:k=0:=by omega
  exact hn
 |succ m b =>
  by_cases e:k=m+1;{subst e;exact hn};{simp only[bU,j6] at hn;exact b (by omega) hn.1}
def ij{k:Nat}(h:k<n)(b:cI (y k)=ZA):bU y n=ZA:=by
 cases e:bU y n with
 |false=>rfl
 |true =>have h2:=lc (show k+1<=n by omega) e;simp[bU,b] at h2
def Ey{k:Nat}(h:bU y n=ZH)(hk:k<n):(y k).H.size<=2000/\0<=(y k).M/\(y k).M<=7:=by have:=lc (show k+1<=n by omega) h;simp only[bU,j6,cI,nD] at this;exact this.2
