import Derived.Test.YtcnilonhfpimnaaGreatDoorFN
import Derived.Test.YtcnilonhfpimnaaGreatDoorGW
set_option linter.all false
set_option maxRecDepth 1000000
set_option maxHeartbeats 4000000
open Go renaming Addr.mk->T,Value.slice->Y,Value.string->U,Value.int->J,Value.bool->ZF,Obj.cells->N,IntKind.i64->I,World->E,Value->ZB,Ending.returned->ZI,World.setCell->ZU,Proofs.Tryz.prog->Pg,Calls->Qw
open Option renaming none->Z,some->Q
open Bool renaming false->ZA,true->ZH
open List renaming length->A
namespace Go.Proofs.YtcnilonhfpimnaaGreatDoor.Vp
open Tryz RowKit
variable {w W u ZN:E}{b p x_ zd v_ n g:Nat}{m:Mst}{cv:ZB}{f:Nat->Ins}{r s:List F_}{y:Nat->aD}{S:B_}
def Pow (w:E):Prop:=Lib.TabIs Pg w "internal/strconv.uint64pow10" .u64 Lib.pow10Tab
def gPow:Pg.globalNamed "internal/strconv.uint64pow10"=Q 2:=by kernel_rfl
def Pow.aa{b:E}{B:Nat}(h:Pow w)(hb:Below B w b)(f:w.heap.size<=B):Pow b:=Joins.tab_stays gPow h hb f
def Pow.low{b:E}{B:Nat}(h:Pow w)(hb:Below B w b)(f:2<B):Pow b:=var?_below hb gPow f h
def tT{b:E}{os:Array Obj}{B:Nat}(h:b.heap=W.heap++os)(h1:b.os=W.os)(h2:b.tape=W.tape)(f:b.output=W.output)(hB:B<=W.heap.size):Below B W b:=
 ⟨h1,h2,f,by rw[h,Array.size_append];omega,λi hi=>by rw[h,Array.getElem?_append_left (by omega)]⟩
def Ez (m:Nat)(w:E)(hm:(m:Int)<=9223372036854775807)(g:Pow w):Qw Pg 198 #[J I m] w λe b=>e=ZI (U ⟨(Lib.decDigits m).toArray⟩)/\Below w.heap.size w b:=by refine(Tryz.strconv_Itoa (m:Int) (by omega) (by omega) _ g).P ?_;rintro e b⟨rfl,j,os,f⟩;rw[Lib.itoa_nonneg];refine⟨rfl,?_⟩;rw[f];exact tT (os:=os) rfl rfl rfl rfl (by simp)
def dV (n:Nat):F_:=⟨(Lib.decDigits n).toArray⟩
def eU (b:Bool):F_:=if b then ⟨#[49]⟩ else ⟨#[48]⟩
def nC (x:Bool)(w:E):Qw Pg 183 #[ZF x] w λe b=>e=ZI (U (eU x))/\b=w:=by
 cases x
 all_goals
  go_enter func183,ntmps183;go_wp2;go_ret;exact⟨rfl,rfl⟩
def qx (x:Bool)(w:E):Qw Pg 162 #[ZF x] w λe b=>e=ZI (U (eU x))/\b=w:=by
 cases x
 all_goals
  go_enter func162,ntmps162;go_wp2;go_ret;exact⟨rfl,rfl⟩
def ki (b:Nat)(cv:ZB)(m:Mst)(p:Nat)(w:E)(hM:MAt w b cv m)(hp:p<=2000)(j:Pow w):Qw Pg 193 #[.pointer (Q (T b 0 Z)),J I p] w λe l=>e=ZI (.tuple #[])/\MAt l b cv { m with t:=⟨ZH,2,dV p,ZA,⟨#[]⟩,m.j⟩ }/\zt b w l:=by have u:=ae hM;have s:=ae j;have q:=hM.lt;clear hM j;go_enter func193,ntmps193;go_wp2_with fail;refine(Ez _ _ (by omega) s).P ?_;rintro e w1⟨rfl,h⟩;have r:=ae h;have o:=ae (u.aa h q);clear h;go_wp2_with fail;refine(kQ b cv m _ _ _ o).P ?_;rintro e w2⟨rfl,g,f⟩;have n:=ae g;have i:=ae f;clear g f;go_wp2;refine nd rfl rfl ?_;exact⟨rfl,n,(zt.l r).k i⟩
def qy (p:Nat)(v_:Int):Turn:=⟨ZH,2,dV p,ZA,⟨#[]⟩,v_⟩
def EC (b:Nat)(cv:ZB)(m:Mst)(k p:Nat)(w:E)(hM:MAt w b cv m)(C:m.size=k+2)(hs:k+2<=50)(G:p<=2000)(x:Pow w)(z:2<b)(ha:(m.S k).size<=2000)(hb:(m.S (k+1)).size<=2000):Qw Pg 199 #[.pointer (Q (T b 0 Z)),J I p] w λe y=>e=ZI (.tuple #[]) /\
   MAt y b cv (if (m.S k).size+(m.S (k+1)).size<=2000 then { m with S:=upd m.S k (m.S k++m.S (k+1)),size:=k+1 } else { m with size:=k,t:=qy p m.j })/\zt b w y:=by
 have ZT:=ae hM;have D:=ae x;have B:=hM.lt;clear hM x;obtain⟨X,hX⟩:∃X,X=(if (m.S k).size+(m.S (k+1)).size<=2000 then { m with S:=upd m.S k (m.S k++m.S (k+1)),size:=k+1 } else { m with size:=k,t:=qy p m.j }):=⟨_,rfl⟩
 rw[<-hX];have l:=ae hX;clear hX;go_enter func199,ntmps199;go_wp2_with fail;refine(lG b cv m (k+1) _ ZT C (by omega)).P ?_;rintro e w1⟨rfl,s,o⟩;have ZV:=ae s;have u:=ae o;clear s o;go_wp2_with fail;refine(lG b cv _ k _ ZV rfl (by omega)).P ?_;rintro e w2⟨rfl,r,n⟩;have q:=ae r;have i:=ae (u.k n);clear r n;by_cases hlen:((m.S k).size:Int)+((m.S (k+1)).size:Int)<=2000;{rw[eT (by omega)] at l;go_wp2_with fail;refine(rh b cv _ _ _ q (by simp;omega)).P ?_;rintro e H⟨rfl,g,f⟩;have j:=ae g;have h:=ae (i.k f);clear g f;go_wp2;refine nd rfl rfl ?_;exact⟨rfl,by rw[l.i];exact j,h⟩};{rw[eI (by omega)] at l;go_wp2_with fail;refine(ki b cv _ p _ q G (D.low (i.aa ly (TQ B)) z)).P ?_;rintro e H⟨rfl,g,f⟩;have j:=ae g;have h:=ae (i.k f);clear g f;go_wp2;refine re rfl rfl ?_;exact⟨rfl,by rw[l.i];exact j,h⟩}
def ED (b:Nat)(cv:ZB)(m:Mst)(ask:Bool)(k p:Nat)(w:E)(hM:MAt w b cv m)(D:m.size=k+1)(hs:k+1<=50)(H:p<=2000)(hlk:0<=m.D)(hlk2:m.D<=200)(ZV:Pow w)(x:2<b):Qw Pg 202 #[.pointer (Q (T b 0 Z)),ZF ask,J I p] w λe B=>e=ZI (.tuple #[]) /\
   MAt B b cv (if aA (m.S k)=ZA then { m with size:=k,t:=qy p m.j } else if m.D=200 then { m with size:=k,t:=⟨ZH,3,⟨#[]⟩,ZA,⟨#[]⟩,m.j⟩ } else { m with size:=k,D:=m.D+1,t:=⟨ZA,0,⟨#[]⟩,ask,m.S k,m.j⟩ })/\zt b w B:=by
 have G:=ae hM;have ZT:=ae ZV;have C:=hM.lt;clear hM ZV;obtain⟨X,hX⟩:∃X,X=(if aA (m.S k)=ZA then { m with size:=k,t:=qy p m.j } else if m.D=200 then { m with size:=k,t:=⟨ZH,3,⟨#[]⟩,ZA,⟨#[]⟩,m.j⟩ } else { m with size:=k,D:=m.D+1,t:=⟨ZA,0,⟨#[]⟩,ask,m.S k,m.j⟩ }):=⟨_,rfl⟩
 rw[<-hX];have j:=ae hX;clear hX;go_enter func202,ntmps202;go_wp2_with fail;refine(lG b cv m k _ G D (by omega)).P ?_;rintro e w1⟨rfl,s,r⟩;have u:=ae s;have z:=ae r;clear s r;go_wp2_with fail;refine(fu _ _).P ?_;rintro e w2⟨rfl,n⟩;have f:=ae (u.aa n u.lt);have l:=ae (z.k (zt.l n));clear n;cases hn:aA (m.S k) with
 |false =>rw[eT hn] at j;go_wp2_with fail;refine(ki b cv _ p _ f H (ZT.low (l.aa ly (TQ C)) x)).P ?_;rintro e ZS⟨rfl,i,h⟩;have q:=ae i;have o:=ae (l.k h);clear i h;go_wp2;refine re rfl rfl ?_;exact⟨rfl,by rw[j.i];exact q,o⟩
 |true =>
  rw[eI (by simp[hn])] at j;obtain⟨c4,z4⟩:=f.ao 54 (J I m.D) (by omega) (by simp[Mst.F]);by_cases g:m.D=200
  ·rw[eT g] at j;have y:(m.D == 200)=ZH:=by simp[g]
   go_wp2_with fail;refine(kQ b cv _ _ _ _ f).P ?_;rintro e ZS⟨rfl,i,h⟩;have q:=ae i;have o:=ae (l.k h);clear i h;go_wp2;refine re rfl rfl ?_;exact⟨rfl,by rw[j.i];exact q,o⟩
  ·rw[eI g] at j;have y:(m.D == 200)=ZA:=by simp[g]
   obtain⟨c3,z3⟩:=f.ao 53 (J I m.j) (by omega) (by simp[Mst.F]);obtain⟨⟨c5,z5⟩,⟨c6,z6⟩,⟨c7,z7⟩,⟨c8,z8⟩,⟨c9,z9⟩,c10,z10⟩:=f.turn;go_wp2;refine nd rfl rfl ?_;exact⟨rfl,by rw[j.i];exact(f.setLooks _).setTurn ⟨ZA,0,⟨#[]⟩,ask,m.S k,m.j⟩,GC (ce l _ _) ⟨ZA,0,⟨#[]⟩,ask,m.S k,m.j⟩⟩
def Rep (S:B_):List F_->Prop
 |[]=>True
 |x::r=>S (A r)=x/\Rep S r
def Rep.upd{k:Nat}(x:F_)(h:Rep S r)(f:A r<=k):Rep (upd S k x) r:=by
 induction r with
 |nil=>trivial
 |cons y r b =>simp only[vF] at f;refine⟨?_,b h.2 (by omega)⟩;unfold Vp.upd;rw[eI (by omega)];exact h.1
def Rep.push (x:F_)(h:Rep S r):Rep (Vp.upd S (A r) x) (x::r):=
 ⟨by simp[Vp.upd],h.upd x ly⟩
abbrev Res:=(List F_ × Nat) ⊕ (Int × F_) ⊕ (Bool × F_ × List F_)
def iN (ask:Bool)(a:F_)(r:List F_)(b x_:Nat):Res:=
 if aA a=ZA then .inr (.inl (2,(dV b))) else if x_=200 then .inr (.inl (3,⟨#[]⟩)) else .inr (.inr (ask,a,r))
def cK (op n:Nat)(t:F_)(f x_:Nat)(g:List F_):Res:=
 match op,g with
 |1,g=>.inl ((t::g),(f+1))
 |2,b::a::r=>if a.size+b.size<=2000 then .inl (((a++b)::r),(f+1)) else .inr (.inl (2,(dV f)))
 |3,a::r=>.inl (((if n<a.size then a.extract 0 n else a)::r),(f+1))
 |4,a::r=>.inl (((if n<a.size then a.extract n a.size else ⟨#[]⟩)::r),(f+1))
 |5,a::r=>.inl ((fV a n::r),(f+1))
 |6,b::a::r=>.inl ((eU (b.toList == a.toList)::r),(f+1))
 |7,a::r=>.inl ((a::a::r),(f+1))
 |8,b::a::r=>.inl ((a::b::r),(f+1))
 |9,_::r=>.inl (r,(f+1))
 |10,g=>.inl (g,n)
 |11,a::r=>.inl (r,(if a.toList=[]\/(a.toList == [48])=ZH then n else f+1))
 |12,a::r=>iN ZH a r f x_
 |13,a::r=>iN ZA a r f x_
 |14,a::_=>.inr (.inl (1,a))
 |15,a::_=>.inr (.inl (0,a))
 |_,_=>.inr (.inl (0,⟨#[]⟩))
def After (m b:Mst)(res:Res):Prop:=b.j=m.j/\match res with
 |.inl (stk,p)=>Rep b.S stk/\b.size=A stk/\b.av=p/\b.D=m.D/\b.t=m.t
 |.inr (.inl (c,x))=>b.t=⟨ZH,c,x,ZA,⟨#[]⟩,m.j⟩
 |.inr (.inr (ask,name,stk))=>Rep b.S stk/\b.size=A stk/\b.av=m.av/\b.D=m.D+1/\b.t=⟨ZA,0,⟨#[]⟩,ask,name,m.j⟩
def MAt.ak{f:E}(h:MAt w b cv m)(g:Below w.heap.size w f):MAt f b cv m:=h.aa g h.lt
def zt.ak{f:E}(h:zt b u w)(g:Below w.heap.size w f):zt b u f:=h.k (zt.l g)
def zt.frozen{f:E}(h:zt b w f)(k o:Nat)(g:k<w.heap.size)(hb:k≠b):f.frozen? (T k o Z)=w.frozen? (T k o Z):=NF (w:=w) (a:=(T k o Z)) (h.p k g hb)
def zt.am (h:zt b w W)(k o:Nat)(v:ZB)(hk:w.heap.size<=k):zt b w (ZU W (T k o Z) v):=
 ⟨h.os,h.tape,h.output,by simpa[World.setCell] using h.size,λi hi j=>(qh _ _ _ _ (by simp;omega)).k (h.p i hi j),λg t fz hb=>by
  obtain⟨f,h1⟩:=h.ty g t fz hb;have hbl:=aj hb
  exact⟨f,(qh _ _ _ _ (by simp;omega)).k h1⟩⟩
def MAt.other (h:MAt w b cv m)(k o:Nat)(v:ZB)(g:k≠b):MAt (ZU w (T k o Z) v) b cv m:=
 ⟨by simpa using h.1,λj f=>⟨(K_ w (T k o Z) (T b j Z) v g).k (h.2 j f).1,by have:=(h.2 j f).2;simpa using this⟩⟩
def He (b:Nat)(cv:ZB)(m:Mst)(k:Nat)(v:F_)(w:E)(hM:MAt w b cv m)(i:m.size=k+1)(h:k<50)(g:m.S k=v):Qw Pg 200 #[.pointer (Q (T b 0 Z))] w λe f=>e=ZI (U v)/\MAt f b cv { m with size:=k }/\zt b w f:=by rw[<-g];exact lG b cv m k w hM i h
def MAt.drew (h:MAt w b cv m):MAt w.drew b cv m:=h.aa br.drew (eL _)
def MAt.al (h:MAt w b cv m)(o:Obj):MAt (w.alloc o) b cv m:=h.aa ((a8 w.heap.size _).alloc ly _) h.lt
structure Pf (b:Nat)(cv:ZB)(m:Mst)(w:E)(n:Nat)(s:List F_)(V:E)(u:Mst):Prop where
 mt:MAt V b cv u
 rep:Rep u.S s
 size:u.size=A s
 on:zt b w V
 arg:V.cell? (T w.heap.size 2 Z)=Q (J I n)
 far:w.heap.size≠b/\w.heap.size<V.heap.size
 rest:u.av=m.av/\u.D=m.D/\u.j=m.j/\u.t=m.t
section
variable {b n:Nat}{cv:ZB}{m u:Mst}{w V:E}{s:List F_}{x:F_}
def Pf.go{v:Mst}(h:Pf b cv m w n s V u)(g:zt b V ZN)(hM:MAt ZN b cv v)(i:Rep v.S r)(hz:v.size=A r)(f:v.av=u.av/\v.D=u.D/\v.j=u.j/\v.t=u.t):Pf b cv m w n r ZN v:=
 ⟨hM,i,hz,h.on.k g,(g.O _ 2 h.far.2 h.far.1).k h.arg,⟨h.far.1,lj h.far.2 g.size⟩,f.1.k h.rest.1,f.2.1.k h.rest.2.1,f.2.2.1.k h.rest.2.2.1,f.2.2.2.k h.rest.2.2.2⟩
def Pf.drew (h:Pf b cv m w n s V u):Pf b cv m w n s V.drew u:=h.go (zt.refl _ _).drew h.mt.drew h.rep h.size ⟨rfl,rfl,rfl,rfl⟩
def Pf.aa (h:Pf b cv m w n s V u)(f:Below V.heap.size V ZN):Pf b cv m w n s ZN u:=h.go (zt.l f) (h.mt.ak f) h.rep h.size ⟨rfl,rfl,rfl,rfl⟩
def Pf.fin (h:Pf b cv m w n s V u)(g:m.av=p):(∃f,MAt V b cv f/\After m f (.inl (s,p)))/\zt b w V:=⟨⟨u,h.mt,h.rest.2.2.1,h.rep,h.size,h.rest.1.k g,h.rest.2.1,h.rest.2.2.2⟩,h.on⟩
def Pf.jump (h:Pf b cv m w n s V u):(∃f,MAt (ZU V (T b 52 Z) (J I n)) b cv f/\After m f (.inl (s,n)))/\zt b w (ZU V (T b 52 Z) (J I n)):=⟨⟨_,h.mt.setPlace _,h.rest.2.2.1,h.rep,h.size,rfl,h.rest.2.1,h.rest.2.2.2⟩,ce h.on _ _⟩
def Hf{o:Obj}(h:MAt w b cv m/\Rep m.S s/\m.size=A s):(∃f,MAt ((ZU w (T b 52 Z) (J I n)).alloc o) b cv f/\After m f (.inl (s,n)))/\zt b w ((ZU w (T b 52 Z) (J I n)).alloc o):=⟨⟨_,(h.1.setPlace _).al _,rfl,h.2.1,h.2.2,rfl,rfl,rfl⟩,(ce (zt.refl _ _) _ _).al _⟩
def x8 (h:Pf b cv m w n (x::s) V u)(f:(x::s).length<=50):Qw Pg 200 #[.pointer (Q (T b 0 Z))] V λe ZN=>e=ZI (U x)/\∃v,Pf b cv m w n s ZN v:=by simp only[vF] at f;refine(He b cv u (A s) x V h.mt (by rw[h.size];rfl) (by omega) h.rep.1).P ?_;rintro e ZN⟨rfl,hM,g⟩;exact⟨rfl,_,h.go g hM h.rep.2 rfl ⟨rfl,rfl,rfl,rfl⟩⟩
def Bp (y:F_)(h:Pf b cv m w n s V u)(f:A s<50):Qw Pg 182 #[.pointer (Q (T b 0 Z)),U y] V λe ZN=>e=ZI (.tuple #[])/\∃v,Pf b cv m w n (y::s) ZN v:=by refine(rh b cv u y V h.mt (by rw[h.size];exact f)).P ?_;rintro e ZN⟨rfl,hM,g⟩;exact⟨rfl,_,h.go g hM (by rw[h.size];exact h.rep.push y) (by simp[h.size]) ⟨rfl,rfl,rfl,rfl⟩⟩
def IL (c:Int)(y:F_)(h:Pf b cv m w n s V u):Qw Pg 184 #[.pointer (Q (T b 0 Z)),J I c,U y] V λe ZN=>e=ZI (.tuple #[])/\(∃f,MAt ZN b cv f/\After m f (.inr (.inl (c,y))))/\zt b w ZN:=by refine(kQ b cv u c y V h.mt).P ?_;rintro e ZN⟨rfl,hM,g⟩;exact⟨rfl,⟨_,hM,h.rest.2.2.1,by rw[<-h.rest.2.2.1]⟩,h.on.k g⟩
def Hg{y:F_}(h:Pf b cv m w n (x::y::s) V u)(l:(x::y::s).length<=50)(z:p<=2000)(o:Pow V)(f:2<b)(q:x.size<=2000)(r:y.size<=2000)(hpl:m.av=p+1):Qw Pg 199 #[.pointer (Q (T b 0 Z)),J I p] V λe ZN=>e=ZI (.tuple #[])/\(∃i,MAt ZN b cv i/\After m i (cK 2 n ⟨#[]⟩ p 0 (x::y::s)))/\zt b w ZN:=by
 have g:u.S (A s+1)=x:=h.rep.1;have j:u.S (A s)=y:=h.rep.2.1;simp only[vF] at l;refine(EC b cv u (A s) p V h.mt (by rw[h.size];rfl) (by omega) z o f (by rw[j];exact r) (by rw[g];exact q)).P ?_;rw[g,j];rintro e ZN⟨rfl,hM,t⟩;refine⟨rfl,⟨_,hM,?_⟩,h.on.k t⟩;show After m _ (if y.size+x.size<=2000 then _ else _);split;{exact⟨h.rest.2.2.1,h.rep.2.2.push _,by simp,h.rest.1.k hpl,h.rest.2.1,h.rest.2.2.2⟩};{exact⟨h.rest.2.2.1,by rw[<-h.rest.2.2.1];rfl⟩}
def Hh{ask:Bool}(h:Pf b cv m w n (x::s) V u)(l:(x::s).length<=50)(t:p<=2000)(o:Pow V)(g:2<b)(hlk:m.D=x_)(h2:x_<=200):Qw Pg 202 #[.pointer (Q (T b 0 Z)),ZF ask,J I p] V λe ZN=>e=ZI (.tuple #[])/\(∃i,MAt ZN b cv i/\After m i (iN ask x s p x_))/\zt b w ZN:=by
 have j:u.S (A s)=x:=h.rep.1;have q:u.D=x_:=h.rest.2.1.k hlk;simp only[vF] at l;refine(ED b cv u ask (A s) p V h.mt (by rw[h.size];rfl) (by omega) t (by omega) (by omega) o g).P ?_;rw[j];rintro e ZN⟨rfl,hM,r⟩;refine⟨rfl,⟨_,hM,?_⟩,h.on.k r⟩;unfold iN;split;{exact⟨h.rest.2.2.1,by rw[<-h.rest.2.2.1];rfl⟩};{rw[q];by_cases f:x_=200;{rw[eT (by omega),eT f];exact⟨h.rest.2.2.1,by rw[<-h.rest.2.2.1]⟩};{rw[eI (by omega),eI f];exact⟨h.rest.2.2.1,h.rep.2,rfl,h.rest.1,by simp[hlk],by rw[<-h.rest.2.2.1]⟩}}
def qA (h:1<=A s):∃x r,s=x::r:=by
 cases s with
 |nil=>simp at h
 |cons x r=>exact⟨x,r,rfl⟩
def IM (h:2<=A s):∃x y r,s=x::y::r:=by obtain⟨x,r,rfl⟩:=qA (show 1<=A s by omega);obtain⟨y,t,rfl⟩:=qA (s:=r) (by simp at h;omega);exact⟨x,y,t,rfl⟩
def IP (a:F_)(n:Nat):a.extract 0 (min (n:Int) (a.size:Int)).toNat=if n<a.size then a.extract 0 n else a:=by
 split;{rw[show(min (n:Int) (a.size:Int)).toNat=n by omega]};{rw[show(min (n:Int) (a.size:Int)).toNat=a.size by omega];simp}
def IQ (a:F_)(n:Nat):a.extract (min (n:Int) (a.size:Int)).toNat a.size=if n<a.size then a.extract n a.size else ⟨#[]⟩:=by
 split;{rw[show(min (n:Int) (a.size:Int)).toNat=n by omega]};{rw[show(min (n:Int) (a.size:Int)).toNat=a.size by omega];exact mR (by simp)}
end
def fg (op:Nat)(b:List F_):Bool:=decide (aX op<=A b/\(A b) - aX op+bN op<=50)
def xk (b:Nat)(cv:ZB)(m:Mst)(op n g x_:Nat)(t:F_)(f:List F_)(w:E)(hM:MAt w b cv m)(hR:Rep m.S f)(hz:m.size=A f)(O:A f<=50)(ZQ:m.av=g+1)
 (s:∀x∈f,x.size<=2000) (hn:n<=2000) (ZS:g<=2000) (L:Pow w) (B:2<b) (hlk:m.D=x_) (K:x_<=200) (h1:1<=op) (h15:op<=15) (hb:fg op f=ZH) :
 Qw Pg 195 #[.pointer (Q (T b 0 Z)),.agg #[J I op,U t,J I n],J I g] w λe M=>e=ZI (.tuple #[])/\(∃G,MAt M b cv G/\After m G (cK op n t g x_ f))/\zt b w M:=by
 simp only[fg,nD] at hb;obtain⟨i,C⟩:=hb;have hlt:=hM.lt;have H:Hid (Pf b cv m w n f (w.alloc (N #[J I op,U t,J I n] 102)) m):=⟨hM.al _,hR,hz,(zt.refl b w).al _,by simp,⟨by omega,by simp⟩,rfl,rfl,rfl,rfl⟩
 have ZR:Hid (Pow (w.alloc (N #[J I op,U t,J I n] 102))):=L.low ((BS w).alloc ly _) (by omega);have P:=ae (And.intro hM (And.intro hR hz));obtain⟨c3,z3⟩:=hM.ao 52 (J I m.av) (by omega) (by simp[Mst.F]);obtain⟨res,j⟩:∃res,res=cK op n t g x_ f:=⟨_,rfl⟩
 rw[<-j];have ZV:=ae j;clear hM hR L hz j;rcases(show op=1\/op=2\/op=3\/op=4\/op=5\/op=6\/op=7\/op=8\/op=9\/op=10\/op=11\/op=12\/op=13\/op=14\/op=15 by omega) with rfl|rfl|rfl|rfl|rfl|rfl|rfl|rfl|rfl|rfl|rfl|rfl|rfl|rfl|rfl;rotate_left 10;obtain⟨x,r,rfl⟩:=qA (show 1<=A f from i);have o:res=.inl (r,if x.toList=[]\/(x.toList == [48])=ZH then n else g+1):=ZV.i;clear ZV;by_cases D:x.toList=[]
 case' neg =>
  have heb:x.toList.isEmpty=ZA:=by simp[D]
  cases h48:(x.toList == [48])
 case' neg.false =>rw[eI (by simp[D,h48])] at o;have h49:¬ x.toList=[48]:=by simpa using h48
 case' neg.true=>rw[eT (.inr h48)] at o
 case' pos=>rw[eT (.inl D)] at o
 case' neg.false|neg.true|pos=>(have ZV:=ae o;clear o)
 all_goals
  simp only[aX,bN] at i C
  (try obtain⟨x,y,r,rfl⟩:=IM i)
  (try obtain⟨x,r,rfl⟩:=qA i)
  clear i
  (try have ZT:=s x (by simp))
  (try have ZO:=s y (by simp))
  clear s
  (try simp only[vF] at O)
  (try simp at C)
  go_enter func195,ntmps195;have l:=H.arg
  go_wp2_with (first
   |(go_at_call 200;refine(x8 (by first|exact H|exact H.drew|exact H.drew.drew|exact H.drew.drew.drew) (by(try simp only[vF]);omega)).P ?_;rintro e V⟨rfl,u,h⟩;replace H:=ae h;clear h;have l:=H.arg;obtain⟨c2,z2⟩:=H.mt.ao 52 (J I m.av) (by omega) (by simp[Mst.F,H.rest.1]);have q:=H.mt.lt)
   |(go_at_call 182;refine(Bp _ (by first|exact H|exact H.drew|exact H.drew.drew|exact H.drew.drew.drew) (by(try simp only[vF]);omega)).P ?_;rintro e V⟨rfl,u,h⟩;replace H:=ae h;clear h;have l:=H.arg;obtain⟨c2,z2⟩:=H.mt.ao 52 (J I m.av) (by omega) (by simp[Mst.F,H.rest.1]);have q:=H.mt.lt)
   |(go_at_call 183;refine(nC _ _).P ?_;rintro e ZN⟨rfl,p⟩;rw[p];clear p)
   |(go_at_call 201;refine(qt x n _ ZT hn).P ?_;rintro e ZN⟨rfl,z⟩;replace H:=ae (Pf.aa (by first|exact H|exact H.drew|exact H.drew.drew|exact H.drew.drew.drew) z);clear z;have l:=H.arg)
   |(go_at_call 199;refine(Hg H (by(try simp only[vF]);omega) ZS ZR B ZT ZO ZQ).P ?_;rintro e ZN⟨rfl,hF⟩;have F:=ae hF;clear hF)
   |(go_at_call 202;refine(Hh H (by(try simp only[vF]);omega) ZS ZR B hlk K).P ?_;rintro e ZN⟨rfl,hF⟩;have F:=ae hF;clear hF)
   |(go_at_call 184;refine(IL _ _ H).P ?_;rintro e ZN⟨rfl,hF⟩;have F:=ae hF;clear hF))
  (try go_region_with (first
   |(go_at_call 200;refine(x8 (by first|exact H|exact H.drew|exact H.drew.drew|exact H.drew.drew.drew) (by(try simp only[vF]);omega)).P ?_;rintro e V⟨rfl,u,h⟩;replace H:=ae h;clear h;have l:=H.arg;obtain⟨c2,z2⟩:=H.mt.ao 52 (J I m.av) (by omega) (by simp[Mst.F,H.rest.1]);have q:=H.mt.lt)
   |(go_at_call 182;refine(Bp _ (by first|exact H|exact H.drew|exact H.drew.drew|exact H.drew.drew.drew) (by(try simp only[vF]);omega)).P ?_;rintro e V⟨rfl,u,h⟩;replace H:=ae h;clear h;have l:=H.arg;obtain⟨c2,z2⟩:=H.mt.ao 52 (J I m.av) (by omega) (by simp[Mst.F,H.rest.1]);have q:=H.mt.lt)
   |(go_at_call 183;refine(nC _ _).P ?_;rintro e ZN⟨rfl,p⟩;rw[p];clear p)
   |(go_at_call 201;refine(qt x n _ ZT hn).P ?_;rintro e ZN⟨rfl,z⟩;replace H:=ae (Pf.aa (by first|exact H|exact H.drew|exact H.drew.drew|exact H.drew.drew.drew) z);clear z;have l:=H.arg)))
  all_goals
   (try rw[IP] at H)
   (try rw[IQ] at H)
   (try go_wp2)
   (try refine nd rfl rfl ?_)
   (try rw[ZV.i])
   first
    |exact⟨rfl,F⟩
    |exact⟨rfl,H.fin ZQ⟩
    |exact⟨rfl,H.jump⟩
    |exact⟨rfl,Hf P⟩
def bQ (f:Nat->Ins)(yh zd v_ x_:Nat)(b:List F_):Res:=
 if yh<=zd then .inr (.inl (2,(dV zd))) else if v_=2000 then .inr (.inl (3,⟨#[]⟩)) else
  if fg (f zd).op.toNat b=ZA then .inr (.inl (2,(dV zd))) else cK (f zd).op.toNat (f zd).n.toNat (f zd).s zd x_ b
def cU (yh zd v_:Nat):Nat:=if yh<=zd then v_ else if v_=2000 then v_ else v_+1
def MAt.qN (h:MAt w b cv m)(n:Nat):MAt (w.drewN n) b cv m:=h.ak (AD br n)
def zt.qN (h:zt b u w)(n:Nat):zt b u (w.drewN n):=h.ak (AD br n)
def EE (b:Nat)(cv:ZB)(m:Mst)(op:Nat)(f:List F_)(w:E)(hM:MAt w b cv m)(g:Tab2 w)(h1:1<=op)(h2:op<=15)(hz:m.size=A f)(hl:A f<=50):Qw Pg 194 #[.pointer (Q (T b 0 Z)),J I op] w λe h=>e=ZI (ZF (fg op f))/\Below w.heap.size w h:=by have:=bears_any b cv m op w hM g (by omega) (by omega) (by omega);rw[hz] at this;exact this
structure Env (w:E)(b pb po yh:Nat)(f:Nat->Ins):Prop where
 row:Q_ w pb po yh f
 tab:Tab2 w
 pow:Pow w
 pbb:pb<b
 tbb:0<b
 pwb:2<b
def Env.aa{l:E}{j yh:Nat}(h:Env w b g j yh f)(hb:Below b w l):Env l b g j yh f:=
 ⟨⟨lj h.row.1 hb.size,λi hi=>(h.row.2 i hi).aa hb h.pbb⟩,h.tab.aa hb h.tbb,h.pow.low hb h.pwb,h.pbb,h.tbb,h.pwb⟩
def Env.ac{j:E}{i yh:Nat}(h:Env w b g i yh f)(l:b<w.heap.size)(hb:zt b w j):Env j b g i yh f:=h.aa (hb.aa ly (TQ l))
structure Sim (m:Mst)(zd v_ x_:Nat)(stk:List F_):Prop where
 rep:Rep m.S stk
 size:m.size=A stk
 len:A stk<=50
 hpl:m.av=zd
 hst:m.j=v_
 hlk:m.D=x_
 le:∀x∈stk,x.size<=2000
 pl:zd<=2000
 st:v_<=2000
 lk:x_<=200
def EF (b q r yh j_ zd v_ x_:Nat)(f:Nat->Ins)(m:Mst)(i:List F_)(w:E)(hM:MAt w b (Y (Q (T q r Z)) yh j_) m)(ZS:Sim m zd v_ x_ i)(hE:Env w b q r yh f)(ex:dn f yh=ZH):Qw Pg 185 #[.pointer (Q (T b 0 Z))] w λe w'=>e=ZI (.tuple #[]) /\
   (∃ZP,MAt w' b (Y (Q (T q r Z)) yh j_) ZP/\After { m with j:=cU yh zd v_,av:=zd+1 } ZP (bQ f yh zd v_ x_ i))/\zt b w w':=by
 have ZM:=ae hM;have ZR:=ae hE;have j:=ae ZS;have t:=hM.lt;have hpl:=ZS.pl;have hst:=ZS.st;obtain⟨c1,z1⟩:=hM.ao 51 (Y (Q (T q r Z)) yh j_) (by omega) (by simp[Mst.F]);obtain⟨c2,z2⟩:=hM.ao 52 (J I zd) (by omega) (by simp[Mst.F,ZS.hpl]);obtain⟨c3,z3⟩:=hM.ao 53 (J I v_) (by omega) (by simp[Mst.F,ZS.hst]);clear hM hE ZS;by_cases h1:yh<=zd
 ·have z:bQ f yh zd v_ x_ i=.inr (.inl (2,(dV zd))):=by simp[bQ,h1]
  have B:cU yh zd v_=v_:=by simp[cU,h1]
  rw[z,B];clear z B;go_enter func185,ntmps185;go_wp2_with fail;go_quiet (fail);have g:=ae (ZM.qN nq);have p:=ae (ZR.ac t ((zt.refl b w).qN nq));have l:=ae ((zt.refl b w).qN nq);clear c1 z1 c2 z2 c3 z3;generalize w.drewN nq=W at g p l ⊢;obtain⟨c2,z2⟩:=g.ao 52 (J I zd) (by omega) (by simp[Mst.F,j.hpl]);obtain⟨c3,z3⟩:=g.ao 53 (J I v_) (by omega) (by simp[Mst.F,j.hst]);go_wp2_with fail;refine(ki b _ m zd _ g hpl p.pow).P ?_;rintro e S⟨rfl,ZV,o⟩;have h:=ae ZV;have ZQ:=ae (l.k o);clear ZV o;go_wp2;refine re rfl rfl ?_;exact⟨rfl,⟨_,h,j.hst,by rw[j.hst]⟩,ZQ.i⟩
 ·have h1':(zd:Int)<yh:=by omega
  by_cases h2:v_=2000
  ·have z:bQ f yh zd v_ x_ i=.inr (.inl (3,⟨#[]⟩)):=by simp[bQ,h1,h2]
   have B:cU yh zd v_=v_:=by simp[cU,h1,h2]
   rw[z,B];clear z B;have bt:((v_:Int) == 2000)=ZH:=by simp;omega
   go_enter func185,ntmps185;go_wp2_with fail;go_quiet (fail);have g:=ae (ZM.qN nq);have p:=ae (ZR.ac t ((zt.refl b w).qN nq));have l:=ae ((zt.refl b w).qN nq);clear c1 z1 c2 z2 c3 z3;generalize w.drewN nq=W at g p l ⊢;obtain⟨c2,z2⟩:=g.ao 52 (J I zd) (by omega) (by simp[Mst.F,j.hpl]);obtain⟨c3,z3⟩:=g.ao 53 (J I v_) (by omega) (by simp[Mst.F,j.hst]);go_wp2_with fail;refine(kQ b _ m _ _ _ g).P ?_;rintro e S⟨rfl,ZV,o⟩;have h:=ae ZV;have ZQ:=ae (l.k o);clear ZV o;go_wp2;refine re rfl rfl ?_;exact⟨rfl,⟨_,h,j.hst,by rw[j.hst]⟩,ZQ.i⟩
  ·have bt:((v_:Int) == 2000)=ZA:=by simp;omega
   have B:cU yh zd v_=v_+1:=by simp[cU,h1,h2]
   have hi:=j7 ex (show zd<yh by omega);simp only[cL,nD] at hi;obtain⟨i1,i2,i3,i4,i5⟩:=hi;obtain⟨op,L⟩:=p9 (show 0<=(f zd).op by omega);obtain⟨n,hn⟩:=p9 i4;have z:bQ f yh zd v_ x_ i=if fg op i=ZA then .inr (.inl (2,(dV zd))) else cK op n (f zd).s zd x_ i:=by simp only[bQ,h1,h2,UI,L,hn,Int.toNat_natCast]
   rw[z,B];obtain⟨R,hR⟩:∃R:Res,R=(if fg op i=ZA then .inr (.inl (2,(dV zd))) else cK op n (f zd).s zd x_ i):=⟨_,rfl⟩
   rw[<-hR];have ZO:=ae hR;clear hR;have aq:dX (f zd).op<=2000:=by unfold dX;split<;>(try split)<;>omega
   have fd:n<=2000:=by omega
   have X:1<=op:=by omega
   have ZN:op<=15:=by omega
   have HA:Hid (AtIns w q r zd (f zd)):=ZR.row.2 zd (by omega);clear z B aq i1 i2 i3 i4 i5;go_enter func185,ntmps185;go_wp2_with fail;go_quiet (fail);have g:=ae (ZM.qN nq);have p:=ae (ZR.ac t ((zt.refl b w).qN nq));have l:=ae ((zt.refl b w).qN nq);clear c1 z1 c2 z2 c3 z3;generalize w.drewN nq=W at g p l ⊢;obtain⟨c2,z2⟩:=g.ao 52 (J I zd) (by omega) (by simp[Mst.F,j.hpl]);obtain⟨c3,z3⟩:=g.ao 53 (J I v_) (by omega) (by simp[Mst.F,j.hst]);obtain⟨c1,z1⟩:=g.ao 51 (Y (Q (T q r Z)) yh j_) (by omega) (by simp[Mst.F]);go_wp2_with fail;have h:=ae ((g.setSteps ((v_:Int)+1)).setPlace ((zd:Int)+1));have H:=ae (ce (ce l 53 (J I ((v_:Int)+1))) 52 (J I ((zd:Int)+1)));clear c1 z1 c2 z2 c3 z3 g l p;generalize World.setCell (World.setCell W _ _) _ _=V at h H ⊢;have K:=ae (ZR.ac t H);obtain⟨c1,z1⟩:=h.ao 51 (Y (Q (T q r Z)) yh j_) (by omega) (by simp[Mst.F]);obtain⟨a0,a1,a2⟩:=K.row.2 zd (by omega);rw[L] at a0;rw[hn] at a2;obtain⟨C,D⟩:∃C:Mst,C={ m with j:=(v_:Int)+1,av:=(zd:Int)+1 }:=⟨_,rfl⟩
   rw[<-D] at h;have k1:C.size=A i:=by rw[D];exact j.size
   have y:=ae D;have ZL:=j.len;clear D;go_region_with (go_at_call 194;refine(EE b (Y (Q (T q r Z)) yh j_) C op i _ ?_ ?_ X ZN k1 ZL).P ?_;(first|exact h|exact h.drew|exact h.drew.drew);(first|exact K.tab|exact(K.aa br.drew).tab);rintro e S⟨rfl,o⟩;have G:Hid (MAt S b (Y (Q (T q r Z)) yh j_) C):=MAt.ak (by first|exact h|exact h.drew|exact h.drew.drew) o;have P:Hid (zt b w S):=zt.ak (by repeat (first|exact H|apply zt.drew)) o;clear o);all_goals
    have ZT:=ae (ZR.ac t P);obtain⟨g1,y1⟩:=G.ao 51 (Y (Q (T q r Z)) yh j_) (by omega) (by simp[Mst.F]);obtain⟨b0,b1,b2⟩:=ZT.row.2 zd (by omega);rw[L] at b0;rw[hn] at b2;clear c1 z1 a0 a1 a2 h H;have hlt1:=G.lt;cases hbr:fg op i with
    |false =>rw[eT hbr] at ZO;go_wp2_with fail;refine(ki b _ C zd _ G hpl ZT.pow).P ?_;rintro e w2⟨rfl,x,u⟩;have M:=ae x;have O:=ae (P.k u);clear x u;go_wp2;refine re rfl rfl ?_;refine⟨rfl,⟨_,M,?_⟩,O⟩;rw[y.i,ZO.i];exact⟨by simp,by simp⟩
    |true =>
     rw[eI (by simp[hbr])] at ZO;go_wp2_with fail;refine(xk b (Y (Q (T q r Z)) yh j_) C op n zd x_ (f zd).s i _ ?_ ?_ k1 ZL ?_ ?_ fd hpl ?_ ?_ ?_ ?_ X ZN hbr).P ?_
     ·exact G
     ·rw[y.i];exact j.rep
     ·rw[y.i]
     ·exact j.le
     ·exact ZT.pow
     ·exact ZT.pwb
     ·rw[y.i];exact j.hlk
     ·exact j.lk
     rintro e w2⟨rfl,x,u⟩;have M:=ae x;have O:=ae (P.k u);clear x u;go_wp2;refine nd rfl rfl ?_;obtain⟨ZP,h1,h2⟩:=M.i;refine⟨rfl,⟨ZP,h1,?_⟩,O⟩;rw[ZO.i];rw[y.i] at h2;exact h2
def uV (l:List UInt8)(n:Nat):(cE l n).length<=A l:=by
 induction n generalizing l with
 |zero =>rw[cE];have h1:=fB l bI;have h2:((l.dropWhile bI).takeWhile (λc=>!bI c)).length<=(l.dropWhile bI).length:=(List.takeWhile_sublist _).length_le;omega
 |succ n b =>
  rw[cE];split;{simp};{have h1:=fB l bI;have h2:=fB (l.dropWhile bI) (λc=>!bI c);have h3:=b ((l.dropWhile bI).dropWhile (λc=>!bI c));omega}
def qB (s:F_)(n:Nat):(fV s n).size<=s.size:=uV s.data.toList n
def rG (res:Res)(x_:Nat):Prop:=match res with
 |.inl (stk,p)=>A stk<=50/\(∀x∈stk,x.size<=2000)/\p<=2000
 |.inr (.inl (_,_))=>True
 |.inr (.inr (_,name,stk))=>A stk<50/\(∀x∈stk,x.size<=2000)/\aA name=ZH/\x_<200
def ji (op n m x_:Nat)(t:F_)(b:List F_)(j:A b<=50)(f:∀x∈b,x.size<=2000)(p:t.size<=2000)(hn:n<=2000)(hh:m<2000)(hlk:x_<=200)(h1:1<=op)(h15:op<=15)(hb:fg op b=ZH):rG (cK op n t m x_ b) x_:=by
 have i:∀ask a r,b=a::r->rG (iN ask a r m x_) x_:=by
  intro ask a r e;subst e;simp only[vF] at j;unfold iN;split;{trivial};{rename_i h1;split;{trivial};{rename_i h2;exact⟨by omega,λx l=>f x (by simp[l]),by simpa using h1,by omega⟩}}
 simp only[fg,nD] at hb;obtain⟨g,o⟩:=hb;rcases(show op=1\/op=2\/op=3\/op=4\/op=5\/op=6\/op=7\/op=8\/op=9\/op=10\/op=11\/op=12\/op=13\/op=14\/op=15 by omega) with rfl|rfl|rfl|rfl|rfl|rfl|rfl|rfl|rfl|rfl|rfl|rfl|rfl|rfl|rfl;all_goals simp only[aX,bN] at g o
 {refine⟨by simp at o ⊢;omega,λx l=>?_,by omega⟩;rcases vG.1 l with rfl|l;{exact p};{exact f x l}}
 ·match b,g with
  |x::y::r,_ =>
   show rG (if y.size+x.size<=2000 then _ else _) _;split;{refine⟨by simp at j ⊢;omega,λz hz=>?_,by omega⟩;rcases vG.1 hz with rfl|hz;{simp;omega};{exact f z (by simp[hz])}};{trivial}
 ·match b,g with
  |x::r,_ =>
   refine⟨j,λz hz=>?_,by omega⟩;have l:=f x (by simp);rcases vG.1 hz with rfl|hz;{split;{simp;omega};{exact l}};{exact f z (by simp[hz])}
 ·match b,g with
  |x::r,_ =>
   refine⟨j,λz hz=>?_,by omega⟩;have l:=f x (by simp);rcases vG.1 hz with rfl|hz;{split;{simp;omega};{decide}};{exact f z (by simp[hz])}
 ·match b,g with
  |x::r,_ =>
   refine⟨j,λz hz=>?_,by omega⟩;rcases vG.1 hz with rfl|hz;{exact nX (qB _ _) (f x (by simp))};{exact f z (by simp[hz])}
 ·match b,g with
  |x::y::r,_ =>
   refine⟨by simp at j ⊢;omega,λz hz=>?_,by omega⟩;rcases vG.1 hz with rfl|hz;{unfold eU;split<;>decide};{exact f z (by simp[hz])}
 ·match b,g with
  |x::r,_ =>
   refine⟨by simp at o ⊢;omega,λz hz=>?_,by omega⟩;rcases vG.1 hz with rfl|hz;{exact f _ (by simp)};{exact f z hz}
 ·match b,g with
  |x::y::r,_ =>refine⟨j,λz hz=>?_,by omega⟩;simp only[vG] at hz;exact f z (by simp only[vG];rcases hz with h|h|h<;>simp[h])
 ·match b,g with
  |x::r,_=>exact⟨by simp at j;omega,λz hz=>f z (by simp[hz]),by omega⟩
 {exact⟨j,f,hn⟩}
 ·match b,g with
  |x::r,_ =>refine⟨by simp at j;omega,λz hz=>f z (by simp[hz]),?_⟩;split<;>omega
 ·match b,g with
  |x::r,_=>exact i ZH x r rfl
 ·match b,g with
  |x::r,_=>exact i ZA x r rfl
 ·match b,g with
  |x::r,_=>trivial
 ·match b,g with
  |x::r,_=>trivial
def zB{yh:Nat}{b:List F_}(g:Sim m zd v_ x_ b)(h:dn f yh=ZH)(hc:yh<=200):rG (bQ f yh zd v_ x_ b) x_:=by
 unfold bQ;split;{trivial}
 ·rename_i h1;split;{trivial}
  ·split;{trivial}
   ·rename_i i;have hi:=j7 h (show zd<yh by omega);simp only[cL,nD] at hi;obtain⟨i1,i2,i3,i4,i5⟩:=hi;have hmt:dX (f zd).op<=2000:=by unfold dX;split<;>(try split)<;>omega
    have hmt2:bW (f zd).op<=2000:=by unfold bW;split<;>omega
    exact ji _ _ _ _ _ _ g.len g.le (by omega) (by omega) (by omega) g.lk (by omega) (by omega) (by simpa using i)
abbrev Halt:=(Int × F_ × Nat) ⊕ (Bool × F_ × List F_ × Nat × Nat × Nat)
def lW (f:Nat->Ins)(yh:Nat):Nat->Nat->Nat->Nat->List F_->Option Halt
 |0,_,_,_,_=>Z
 |k+1,zd,v_,x_,stk=>match bQ f yh zd v_ x_ stk with
  |.inr (.inl (c,x))=>Q (.inl (c,x,(cU yh zd v_)))
  |.inr (.inr (a,nm,s))=>Q (.inr (a,nm,s,(zd+1),(cU yh zd v_),(x_+1)))
  |.inl (s,p)=>lW f yh k p (cU yh zd v_) x_ s
def jP{yh:Nat}{b:List F_}(h:bQ f yh zd v_ x_ b=.inl (s,p)):cU yh zd v_=v_+1/\v_≠2000:=by
 unfold bQ at h;unfold cU;split at h;{cases h};{split at h;{cases h};{rename_i h1 h2;rw[eI h1,eI h2];exact⟨rfl,h2⟩}}
def sJ (f:Nat->Ins)(yh:Nat)(k:Nat):∀zd v_ x_ b,v_<=2000->2001<=k+v_->∃h,lW f yh k zd v_ x_ b=Q h:=by
 induction k with
 |zero=>intro _ _ _ _ h1 h2;omega
 |succ k i =>
  intro zd v_ x_ b h1 h2;rw[lW];rcases hr:bQ f yh zd v_ x_ b with⟨s,p⟩|⟨c,x⟩|⟨a,nm,s⟩
  {obtain⟨g,e2⟩:=jP hr;simp only[g];exact i _ _ _ _ (by omega) (by omega)};{exact⟨_,rfl⟩};{exact⟨_,rfl⟩}
def fh (m:Mst):Halt->Prop
 |.inl (c,x,k)=>m.t=⟨ZH,c,x,ZA,⟨#[]⟩,k⟩
 |.inr (a,nm,s,p,k,l)=>m.t=⟨ZA,0,⟨#[]⟩,a,nm,k⟩/\Sim m p k l s/\aA nm=ZH/\(A s)<50
def x9 (b B y yh j_:Nat)(f:Nat->Ins)(m:Mst)(H:Halt)(w:E)(hM:MAt w b (Y (Q (T B y Z)) yh j_) m)(hE:Env w b B y yh f)(hc:yh<=200)(ZR:dn f yh=ZH)
  (hH:(m.t=dk/\∃p k l s,Sim m p k l s/\lW f yh (2001 - k) p k l s=Q H)\/fh m H) :
  Qw Pg 160 #[.pointer (Q (T b 0 Z))] w λe w'=>∃i,e=ZI i.t.v/\MAt w' b (Y (Q (T B y Z)) yh j_) i/\fh i H/\zt b w w':=by
 have HM:=ae hM;have HE:=ae hE;have HH:=ae hH;have bt:=hM.lt;clear hM hE hH;have O:=ae (HM.al (N #[ZF ZA,J I 0,U ⟨#[]⟩,ZF ZA,U ⟨#[]⟩,J I 0] 116));have ZT:w.heap.size<(w.alloc (N #[ZF ZA,J I 0,U ⟨#[]⟩,ZF ZA,U ⟨#[]⟩,J I 0] 116)).heap.size:=by simp
 have C:=ae ((zt.refl b w).al (N #[ZF ZA,J I 0,U ⟨#[]⟩,ZF ZA,U ⟨#[]⟩,J I 0] 116));have L:∀j,j<6->∃v,(w.alloc (N #[ZF ZA,J I 0,U ⟨#[]⟩,ZF ZA,U ⟨#[]⟩,J I 0] 116)).cell? (T w.heap.size j Z)=Q v/\(w.alloc (N #[ZF ZA,J I 0,U ⟨#[]⟩,ZF ZA,U ⟨#[]⟩,J I 0] 116)).frozen? (T w.heap.size j Z)=ZA:=by intro j hj;rcases(show j=0\/j=1\/j=2\/j=3\/j=4\/j=5 by omega) with rfl|rfl|rfl|rfl|rfl|rfl;all_goals exact⟨_,by simp;rfl,by simp⟩
 have K:=ae L;clear L;go_enter func160,ntmps160;go_wp2;generalize World.alloc w _=w0 at O ZT C K ⊢;go_loopg [] 2002 (λg wr=>∃i,MAt wr b (Y (Q (T B y Z)) yh j_) i/\zt b w0 wr/\((i.t=dk/\∃p k l s,Sim i p k l s/\lW f yh (2001 - k) p k l s=Q H/\2002 - k<=g)\/fh i H));case atStart =>
  refine⟨m,O,zt.refl _ _,?_⟩;rcases HH.i with⟨h1,p,k,l,s,h2,h3⟩|h;{exact .inl ⟨h1,p,k,l,s,h2,h3,by omega⟩};{exact .inr h}
 case round =>
  obtain⟨i,hM,hO,ex⟩:=hrel;have P:=ae hM;have u:=ae hO;obtain⟨⟨c5,z5⟩,⟨ZV,z6⟩,⟨ZS,z7⟩,⟨D,z8⟩,⟨z,z9⟩,r,n8⟩:=hM.turn;clear hM hO;rcases ex with⟨o,p,k,l,s,G,hr,hg⟩|hst
  ·have q:=ae G;have aq:=ae hr;have hk:=G.st;rw[o] at c5 ZV ZS D z r;simp only[dk] at c5 ZV ZS D z r;have la:=ae o;clear G hr o;go_wp2_with fail;refine(EF b B y yh j_ p k l f i s _ P q (HE.ac bt (C.k u)) ZR).P ?_;rintro e w1⟨rfl,⟨m2,ZQ,n⟩,M⟩;have fd:=ae ZQ;have HA:=ae n;have ld:=ae (u.k M);clear ZQ n M c5 ZV ZS D z r z5 z6 z7 z8 z9 n8;obtain⟨g,rfl⟩:∃g,gk=g+1:=⟨gk - 1,by omega⟩
   go_wp2;go_roundg g;case measure=>omega
   case rel =>
    refine⟨m2,fd,ld,?_⟩;have hR:=aq.i;have hF:=zB q.i ZR hc;obtain⟨j,hj⟩:∃j,2001 - k=j+1:=⟨2000 - k,by omega⟩
    rw[hj,lW] at hR;have n:=HA.i;rcases hst:bQ f yh p k l s with⟨X,p2⟩|⟨c,x⟩|⟨a,nm,X⟩
    {rw[hst] at hR n hF;obtain⟨e1,e2⟩:=jP hst;obtain⟨a1,ZN,R,V,W,S⟩:=n;obtain⟨f1,ZO,ZP⟩:=hF;simp only[e1] at hR a1;refine .inl ⟨by rw[S];exact la,p2,k+1,l,X,⟨ZN,R,f1,V,a1,by rw[W];exact q.hlk,ZO,ZP,by omega,q.lk⟩,?_,by omega⟩;rw[show 2001 - (k+1)=j by omega];exact hR};{rw[hst] at hR n hF;simp only[L8] at hR;subst hR;exact .inr n.2};{rw[hst] at hR n hF;simp only[L8] at hR;subst hR;obtain⟨a1,ZN,R,V,W,S⟩:=n;obtain⟨f1,ZO,ZP,f4⟩:=hF;have hN:cU yh p k<=2000/\p+1<=2000:=(by unfold bQ at hst;unfold cU;split at hst;{cases hst};{split at hst;{cases hst};{rename_i h1 h2;rw[eI h1,eI h2];omega}});exact .inr ⟨S,⟨ZN,R,by omega,by rw[V];simp,a1,by rw[W];show i.D+1=_;rw[q.hlk];simp,ZO,hN.2,hN.1,by omega⟩,ZP,f1⟩}
  ·have mv:=ae hst;rcases H with⟨c,x,k⟩|⟨a,nm,X,p2,k2,l2⟩
   focus
    have o:i.t=⟨ZH,c,x,ZA,⟨#[]⟩,k⟩:=hst;rw[o] at c5 ZV ZS D z r
   rotate_left;focus
    obtain⟨o,G,hn,hl⟩:=hst;rw[o] at c5 ZV ZS D z r;have hne:nm.toList.isEmpty=ZA:=by
     have h0:¬ nm.size=0:=by simp only[aA,j6,nD] at hn;omega
     have:=mX h0;cases h:nm.toList with
     |nil=>exact absurd h this
     |cons _ _=>rfl
    clear G hn hl
   rotate_left;all_goals
    obtain⟨⟨v0,q0,y0⟩,⟨v1,q1,y1⟩,⟨v2,q2,y2⟩,⟨v3,ZL,y3⟩,⟨v4,q4,y4⟩,⟨v5,ZM,y5⟩⟩:=bl6 K.i;rw[<-u.O w.heap.size _ ZT (by omega)] at q0 q1 q2 ZL q4 ZM;rw[<-u.frozen w.heap.size _ ZT (by omega)] at y0 y1 y2 y3 y4 y5;go_wp2;refine bp (v:=i.t.v) (by rw[o];simp[results,results160,go_sem,Turn.v,q0,q1,q2,ZL,q4,ZM]) rfl ?_;refine⟨i,rfl,?_,mv,?_⟩
    ·exact(((((P.other _ _ _ (by omega)).other _ _ _ (by omega)).other _ _ _ (by omega)).other _ _ _ (by omega)).other _ _ _ (by omega)).other _ _ _ (by omega)
    ·exact((((((C.k u).am _ _ _ ly).am _ _ _ ly).am _ _ _ ly).am _ _ _ ly).am _ _ _ ly).am _ _ _ ly
def gi (c:Int)(x:F_)(k:Nat):Turn:=⟨ZH,c,x,ZA,⟨#[]⟩,k⟩
def oA (a:Bool)(nm:F_)(k:Nat):Turn:=⟨ZA,0,⟨#[]⟩,a,nm,k⟩
def cA (f:Nat->Ins)(yh:Nat)(y:Nat->aD)(n:Nat):Nat->Nat->Nat->Nat->List F_->Turn
 |0,_,_,_,_=>dk
 |k+1,zd,v_,x_,stk=>match bQ f yh zd v_ x_ stk with
  |.inr (.inl (c,x))=>gi c x (cU yh zd v_)
  |.inl (s,p)=>cA f yh y n k p (cU yh zd v_) x_ s
  |.inr (.inr (a,nm,s))=>if n<=x_ then oA a nm (cU yh zd v_)
    else if a=ZA then cA f yh y n k (zd+1) (cU yh zd v_) (x_+1) (eU (y x_).has::s)
    else if (y x_).has=ZA then gi 4 nm (cU yh zd v_)
    else if (y x_).M=0 then cA f yh y n k (zd+1) (cU yh zd v_) (x_+1) ((y x_).H::s)
    else gi 5 nm (cU yh zd v_)
def eC (f:Nat->Ins)(yh:Nat)(y:Nat->aD)(n:Nat):Halt->Turn
 |.inl (c,x,k)=>gi c x k
 |.inr (a,nm,s,p,k,l)=>if n<=l - 1 then oA a nm k
   else if a=ZA then cA f yh y n (2001 - k) p k l (eU (y (l - 1)).has::s)
   else if (y (l - 1)).has=ZA then gi 4 nm k
   else if (y (l - 1)).M=0 then cA f yh y n (2001 - k) p k l ((y (l - 1)).H::s)
   else gi 5 nm k
def gP (x_:Nat):Halt->Prop
 |.inl (_,_,_)=>True
 |.inr (_,_,_,_,_,l)=>l=x_+1
def lX{yh:Nat}{b:List F_}{a:Bool}{nm:F_}(h:bQ f yh zd v_ x_ b=.inr (.inr (a,nm,s))):cU yh zd v_=v_+1/\v_≠2000:=by
 unfold bQ at h;unfold cU;split at h;{cases h};{split at h;{cases h};{rename_i h1 h2;rw[eI h1,eI h2];exact⟨rfl,h2⟩}}
def pr (f:Nat->Ins)(yh:Nat)(y:Nat->aD)(n:Nat)(k:Nat):∀zd v_ x_ g H,v_<=2000->2001 - v_=k->lW f yh k zd v_ x_ g=Q H ->
  cA f yh y n k zd v_ x_ g=eC f yh y n H/\gP x_ H:=by
 induction k with
 |zero=>intro _ _ _ _ _ h1 h2;omega
 |succ k i =>
  intro zd v_ x_ g H h1 h2 b;rw[lW] at b;rw[cA];rcases hs:bQ f yh zd v_ x_ g with⟨s,p⟩|⟨c,x⟩|⟨a,nm,s⟩
  {obtain⟨h,j⟩:=jP hs;rw[hs] at b;simp only[h] at b ⊢;exact i _ _ _ _ _ (by omega) (by omega) b};{rw[hs] at b;simp only[L8] at b;subst b;exact⟨rfl,trivial⟩};{obtain⟨h,j⟩:=lX hs;rw[hs] at b;simp only[L8] at b;subst b;simp only[eC,h,QR,show 2001 - (v_+1)=k by omega];exact⟨trivial,rfl⟩}
def cI (r:aD):Bool:=decide (r.H.size<=2000/\0<=r.M/\r.M<=7)
def bU (y:Nat->aD):Nat->Bool
 |0=>ZH
 |k+1=>bU y k && cI (y k)
def lc{k:Nat}(h:k<=n)(hn:bU y n=ZH):bU y k=ZH:=by
 induction n with
 |zero =>
  obtain rfl:k=0:=by omega
  exact hn
 |succ m b =>
  by_cases e:k=m+1;{subst e;exact hn};{simp only[bU,j6] at hn;exact b (by omega) hn.1}
def ip{k:Nat}(h:k<n)(b:cI (y k)=ZA):bU y n=ZA:=by
 cases e:bU y n with
 |false=>rfl
 |true =>have h2:=lc (show k+1<=n by omega) e;simp[bU,b] at h2
def EI{k:Nat}(h:bU y n=ZH)(hk:k<n):(y k).H.size<=2000/\0<=(y k).M/\(y k).M<=7:=by have:=lc (show k+1<=n by omega) h;simp only[bU,j6,cI,nD] at this;exact this.2
