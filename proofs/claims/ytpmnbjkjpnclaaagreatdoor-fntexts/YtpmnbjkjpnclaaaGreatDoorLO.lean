import Derived.Test.YtpmnbjkjpnclaaaGreatDoorLK
import Derived.Test.YtpmnbjkjpnclaaaGreatDoorLM
set_option maxRecDepth 1000000
set_option maxHeartbeats 4000000
open Go renaming Addr.mk->N,Value.slice->Y,Value.string->U,Value.int->Q,Value.bool->ZC,Obj.cells->J,IntKind.i64->I,World->M,Value->ZB,Ending.returned->ZD,Proofs.Tryz.prog->Pg
open Option renaming none->Z,some->T
open Bool renaming false->ZA,true->ZF
namespace Go.Proofs.YtpmnbjkjpnclaaaGreatDoor.Vp
open Tryz RowKit
variable {w u ZK:M}{b p looks place steps n g:Nat}{m:Mst}{cv:ZB}{f:Nat->Ins}{r s:List ByteArray}{y:Nat->aB}{S:Nat->ByteArray}
def Rep (S:Nat->ByteArray):List ByteArray->Prop
 |[]=>True
 |x::r=>S r.length=x/\Rep S r
theorem Rep.upd{k:Nat}(x:ByteArray)(h:Rep S r)(b:r.length<=k):Rep (upd S k x) r:=by
 induction r with
 |nil=>trivial
 |cons y r f =>simp only[BG] at b;refine⟨?_,f h.2 (by omega)⟩;unfold Vp.upd;rw[eT (by omega)];exact h.1
theorem Rep.push (x:ByteArray)(h:Rep S r):Rep (Vp.upd S r.length x) (x::r) :=
 ⟨by simp[Vp.upd],h.upd x ly⟩
abbrev Res:=(List ByteArray × Nat) ⊕ (Int × ByteArray) ⊕ (Bool × ByteArray × List ByteArray)
def gC (ask:Bool)(a:ByteArray)(r:List ByteArray)(b looks:Nat):Res :=
 if aA a=ZA then .inr (.inl (2,(dw b))) else if looks=200 then .inr (.inl (3,⟨#[]⟩)) else .inr (.inr (ask,a,r))
def bZ (op n:Nat)(t:ByteArray)(f looks:Nat)(g:List ByteArray):Res :=
 match op,g with
 |1,g=>.inl ((t::g),(f+1))
 |2,b::a::r=>if a.size+b.size<=2000 then .inl (((a++b)::r),(f+1)) else .inr (.inl (2,(dw f)))
 |3,a::r=>.inl (((if n<a.size then a.extract 0 n else a)::r),(f+1))
 |4,a::r=>.inl (((if n<a.size then a.extract n a.size else ⟨#[]⟩)::r),(f+1))
 |5,a::r=>.inl ((eY a n::r),(f+1))
 |6,b::a::r=>.inl ((dN (b.toList == a.toList)::r),(f+1))
 |7,a::r=>.inl ((a::a::r),(f+1))
 |8,b::a::r=>.inl ((a::b::r),(f+1))
 |9,_::r=>.inl (r,(f+1))
 |10,g=>.inl (g,n)
 |11,a::r=>.inl (r,(if a.toList=[]∨(a.toList == [48])=ZF then n else f+1))
 |12,a::r=>gC ZF a r f looks
 |13,a::r=>gC ZA a r f looks
 |14,a::_=>.inr (.inl (1,a))
 |15,a::_=>.inr (.inl (0,a))
 |_,_=>.inr (.inl (0,⟨#[]⟩))
def After (m b:Mst)(res:Res):Prop:=b.g=m.g/\match res with
 |.inl (stk,p)=>Rep b.S stk/\b.size=stk.length/\b.aq=p/\b.looks=m.looks/\b.t=m.t
 |.inr (.inl (c,x))=>b.t=⟨ZF,c,x,ZA,⟨#[]⟩,m.g⟩
 |.inr (.inr (ask,name,stk))=>Rep b.S stk/\b.size=stk.length/\b.aq=m.aq/\b.looks=m.looks+1/\b.t=⟨ZA,0,⟨#[]⟩,ask,name,m.g⟩
theorem MAt.X{f:M}(h:MAt w b cv m)(g:Below w.heap.size w f):MAt f b cv m:=h.aa g h.lt
theorem Only.X{f:M}(h:Only b u w)(g:Below w.heap.size w f):Only b u f:=h.trans (Only.q g)
theorem Only.frozen{f:M}(h:Only b w f)(k o:Nat)(g:k<w.heap.size)(hb:k≠b):f.frozen? (N k o Z)=w.frozen? (N k o Z):=JK (w:=w) (a:=(N k o Z)) (h.block k g hb)
theorem Only.L{W:M}(h:Only b w W)(k o:Nat)(v:ZB)(hk:w.heap.size<=k):Only b w (W.setCell (N k o Z) v) :=
 ⟨h.os,h.tape,h.output,by simpa[World.setCell] using h.size,λi hi g=>(qh _ _ _ _ (by simp;omega)).trans (h.block i hi g),λj t fz hb=>by
  obtain⟨f,h1⟩:=h.ty j t fz hb;have hbl:=ar hb
  exact⟨f,(qh _ _ _ _ (by simp;omega)).trans h1⟩⟩
theorem MAt.other (h:MAt w b cv m)(k o:Nat)(v:ZB)(g:k≠b):MAt (w.setCell (N k o Z) v) b cv m :=
 ⟨by simpa using h.1,λj f=>⟨(cell_far w (N k o Z) (N b j Z) v g).trans (h.2 j f).1,by have:=(h.2 j f).2;simpa using this⟩⟩
theorem CZ (b:Nat)(cv:ZB)(m:Mst)(k:Nat)(v:ByteArray)(w:M)(hM:MAt w b cv m)(g:m.size=k+1)(h:k<50)(i:m.S k=v):Calls Pg 313 #[.pointer (T (N b 0 Z))] w λe f=>e=ZD (U v)/\MAt f b cv { m with size:=k }/\Only b w f:=by rw[<-i];exact jH b cv m k w hM g h
theorem MAt.drew (h:MAt w b cv m):MAt w.drew b cv m:=h.aa br.drew (AD _)
theorem MAt.al (h:MAt w b cv m)(o:Obj):MAt (w.alloc o) b cv m:=h.aa ((cM w.heap.size _).alloc ly _) h.lt
structure Pf (b:Nat)(cv:ZB)(m:Mst)(w:M)(n:Nat)(s:List ByteArray)(V:M)(u:Mst):Prop where
 mt:MAt V b cv u
 rep:Rep u.S s
 size:u.size=s.length
 on:Only b w V
 arg:V.cell? (N w.heap.size 2 Z)=T (Q I n)
 far:w.heap.size≠b/\w.heap.size<V.heap.size
 rest:u.aq=m.aq/\u.looks=m.looks/\u.g=m.g/\u.t=m.t
section
variable {b n:Nat}{cv:ZB}{m u:Mst}{w V:M}{s:List ByteArray}{x:ByteArray}
theorem Pf.go{v:Mst}(h:Pf b cv m w n s V u)(g:Only b V ZK)(hM:MAt ZK b cv v)(i:Rep v.S r)(hz:v.size=r.length)(f:v.aq=u.aq/\v.looks=u.looks/\v.g=u.g/\v.t=u.t):Pf b cv m w n r ZK v :=
 ⟨hM,i,hz,h.on.trans g,(g.cell _ 2 h.far.2 h.far.1).trans h.arg,⟨h.far.1,lj h.far.2 g.size⟩,f.1.trans h.rest.1,f.2.1.trans h.rest.2.1,f.2.2.1.trans h.rest.2.2.1,f.2.2.2.trans h.rest.2.2.2⟩
theorem Pf.drew (h:Pf b cv m w n s V u):Pf b cv m w n s V.drew u:=h.go (Only.refl _ _).drew h.mt.drew h.rep h.size ⟨rfl,rfl,rfl,rfl⟩
theorem Pf.aa (h:Pf b cv m w n s V u)(f:Below V.heap.size V ZK):Pf b cv m w n s ZK u:=h.go (Only.q f) (h.mt.X f) h.rep h.size ⟨rfl,rfl,rfl,rfl⟩
theorem Pf.fin (h:Pf b cv m w n s V u)(g:m.aq=p):(∃f,MAt V b cv f/\After m f (.inl (s,p)))/\Only b w V:=⟨⟨u,h.mt,h.rest.2.2.1,h.rep,h.size,h.rest.1.trans g,h.rest.2.1,h.rest.2.2.2⟩,h.on⟩
theorem Pf.jump (h:Pf b cv m w n s V u):(∃f,MAt (V.setCell (N b 52 Z) (Q I n)) b cv f/\After m f (.inl (s,n)))/\Only b w (V.setCell (N b 52 Z) (Q I n)):=⟨⟨_,h.mt.setPlace _,h.rest.2.2.1,h.rep,h.size,rfl,h.rest.2.1,h.rest.2.2.2⟩,bO h.on _ _⟩
theorem Dc{o:Obj}(h:MAt w b cv m/\Rep m.S s/\m.size=s.length):(∃f,MAt ((w.setCell (N b 52 Z) (Q I n)).alloc o) b cv f/\After m f (.inl (s,n)))/\Only b w ((w.setCell (N b 52 Z) (Q I n)).alloc o):=⟨⟨_,(h.1.setPlace _).al _,rfl,h.2.1,h.2.2,rfl,rfl,rfl⟩,(bO (Only.refl _ _) _ _).al _⟩
theorem uW (h:Pf b cv m w n (x::s) V u)(g:(x::s).length<=50):Calls Pg 313 #[.pointer (T (N b 0 Z))] V λe ZK=>e=ZD (U x)/\∃v,Pf b cv m w n s ZK v:=by simp only[BG] at g;refine(CZ b cv u s.length x V h.mt (by rw[h.size];rfl) (by omega) h.rep.1).mono ?_;rintro e ZK ⟨rfl,hM,f⟩;exact⟨rfl,_,h.go f hM h.rep.2 rfl ⟨rfl,rfl,rfl,rfl⟩⟩
theorem ye (y:ByteArray)(h:Pf b cv m w n s V u)(g:s.length<50):Calls Pg 295 #[.pointer (T (N b 0 Z)),U y] V λe ZK=>e=ZD (.tuple #[])/\∃v,Pf b cv m w n (y::s) ZK v:=by refine(oS b cv u y V h.mt (by rw[h.size];exact g)).mono ?_;rintro e ZK ⟨rfl,hM,f⟩;exact⟨rfl,_,h.go f hM (by rw[h.size];exact h.rep.push y) (by simp[h.size]) ⟨rfl,rfl,rfl,rfl⟩⟩
theorem Ez (c:Int)(y:ByteArray)(h:Pf b cv m w n s V u):Calls Pg 296 #[.pointer (T (N b 0 Z)),Q I c,U y] V λe ZK=>e=ZD (.tuple #[])/\(∃f,MAt ZK b cv f/\After m f (.inr (.inl (c,y))))/\Only b w ZK:=by refine(jv b cv u c y V h.mt).mono ?_;rintro e ZK ⟨rfl,hM,g⟩;exact⟨rfl,⟨_,hM,h.rest.2.2.1,by rw[<-h.rest.2.2.1]⟩,h.on.trans g⟩
theorem Dj{y:ByteArray}(h:Pf b cv m w n (x::y::s) V u)(t:(x::y::s).length<=50)(q:p<=2000)(r:Pow V)(g:2<b)(z:x.size<=2000)(o:y.size<=2000)(hpl:m.aq=p+1):Calls Pg 312 #[.pointer (T (N b 0 Z)),Q I p] V λe ZK=>e=ZD (.tuple #[])/\(∃i,MAt ZK b cv i/\After m i (bZ 2 n ⟨#[]⟩ p 0 (x::y::s)))/\Only b w ZK:=by
 have f:u.S (s.length+1)=x:=h.rep.1;have j:u.S s.length=y:=h.rep.2.1;simp only[BG] at t;refine(zY b cv u s.length p V h.mt (by rw[h.size];rfl) (by omega) q r g (by rw[j];exact o) (by rw[f];exact z)).mono ?_;rw[f,j];rintro e ZK ⟨rfl,hM,l⟩;refine⟨rfl,⟨_,hM,?_⟩,h.on.trans l⟩;show After m _ (if y.size+x.size<=2000 then _ else _);split;{exact⟨h.rest.2.2.1,h.rep.2.2.push _,by simp,h.rest.1.trans hpl,h.rest.2.1,h.rest.2.2.2⟩};{exact⟨h.rest.2.2.1,by rw[<-h.rest.2.2.1];rfl⟩}
theorem Dk{ask:Bool}(h:Pf b cv m w n (x::s) V u)(t:(x::s).length<=50)(q:p<=2000)(r:Pow V)(g:2<b)(hlk:m.looks=looks)(h2:looks<=200):Calls Pg 315 #[.pointer (T (N b 0 Z)),ZC ask,Q I p] V λe ZK=>e=ZD (.tuple #[])/\(∃i,MAt ZK b cv i/\After m i (gC ask x s p looks))/\Only b w ZK:=by
 have o:u.S s.length=x:=h.rep.1;have l:u.looks=looks:=h.rest.2.1.trans hlk;simp only[BG] at t;refine(zZ b cv u ask s.length p V h.mt (by rw[h.size];rfl) (by omega) q (by omega) (by omega) r g).mono ?_;rw[o];rintro e ZK ⟨rfl,hM,j⟩;refine⟨rfl,⟨_,hM,?_⟩,h.on.trans j⟩;unfold gC;split;{exact⟨h.rest.2.2.1,by rw[<-h.rest.2.2.1];rfl⟩};{rw[l];by_cases f:looks=200;{rw[nL (by omega),nL f];exact⟨h.rest.2.2.1,by rw[<-h.rest.2.2.1]⟩};{rw[eT (by omega),eT f];exact⟨h.rest.2.2.1,h.rep.2,rfl,h.rest.1,by simp[hlk],by rw[<-h.rest.2.2.1]⟩}}
theorem oA (h:1<=s.length):∃x r,s=x::r:=by
 cases s with
 |nil=>simp at h
 |cons x r=>exact⟨x,r,rfl⟩
theorem EC (h:2<=s.length):∃x y r,s=x::y::r:=by obtain⟨x,r,rfl⟩:=oA (show 1<=s.length by omega);obtain⟨y,t,rfl⟩:=oA (s:=r) (by simp at h;omega);exact⟨x,y,t,rfl⟩
theorem ED (a:ByteArray)(n:Nat):a.extract 0 (min (n:Int) (a.size:Int)).toNat=if n<a.size then a.extract 0 n else a:=by
 split;{rw[show(min (n:Int) (a.size:Int)).toNat=n by omega]};{rw[show(min (n:Int) (a.size:Int)).toNat=a.size by omega];simp}
theorem EE (a:ByteArray)(n:Nat):a.extract (min (n:Int) (a.size:Int)).toNat a.size=if n<a.size then a.extract n a.size else ⟨#[]⟩:=by
 split;{rw[show(min (n:Int) (a.size:Int)).toNat=n by omega]};{rw[show(min (n:Int) (a.size:Int)).toNat=a.size by omega];exact kE (by simp)}
end
def dZ (op:Nat)(b:List ByteArray):Bool:=decide (aJ op<=b.length/\b.length - aJ op+bu op<=50)
theorem ug (b:Nat)(cv:ZB)(m:Mst)(op n g looks:Nat)(t:ByteArray)(f:List ByteArray)(w:M)(hM:MAt w b cv m)(hR:Rep m.S f)(hz:m.size=f.length)(ZN:f.length<=50)(ZO:m.aq=g+1)
 (p:∀x∈f,x.size<=2000) (hn:n<=2000) (G:g<=2000) (L:Pow w) (C:2<b) (hlk:m.looks=looks) (K:looks<=200) (h1:1<=op) (h15:op<=15) (hb:dZ op f=ZF) :
 Calls Pg 306 #[.pointer (T (N b 0 Z)),.agg #[Q I op,U t,Q I n],Q I g] w λe ZM=>e=ZD (.tuple #[])/\(∃ZQ,MAt ZM b cv ZQ/\After m ZQ (bZ op n t g looks f))/\Only b w ZM:=by
 simp only[dZ,xT] at hb;obtain⟨i,B⟩:=hb;have hlt:=hM.lt;have H:Hid (Pf b cv m w n f (w.alloc (J #[Q I op,U t,Q I n] 151)) m):=⟨hM.al _,hR,hz,(Only.refl b w).al _,by simp,⟨by omega,by simp⟩,rfl,rfl,rfl,rfl⟩
 have ZP:Hid (Pow (w.alloc (J #[Q I op,U t,Q I n] 151))):=L.low ((BS w).alloc ly _) (by omega);have O:=ae (And.intro hM (And.intro hR hz));obtain⟨c3,z3⟩:=hM.am 52 (Q I m.aq) (by omega) (by simp[Mst.F]);obtain⟨res,j⟩:∃res,res=bZ op n t g looks f:=⟨_,rfl⟩
 rw[<-j];have A:=ae j;clear hM hR L hz j;rcases(show op=1∨op=2∨op=3∨op=4∨op=5∨op=6∨op=7∨op=8∨op=9∨op=10∨op=11∨op=12∨op=13∨op=14∨op=15 by omega) with rfl|rfl|rfl|rfl|rfl|rfl|rfl|rfl|rfl|rfl|rfl|rfl|rfl|rfl|rfl;rotate_left 10;obtain⟨x,r,rfl⟩:=oA (show 1<=f.length from i);have q:res=.inl (r,if x.toList=[]∨(x.toList == [48])=ZF then n else g+1):=A.out;clear A;by_cases D:x.toList=[]
 case' neg =>
  have heb:x.toList.isEmpty=ZA:=by simp[D]
  cases h48:(x.toList == [48])
 case' neg.false =>rw[eT (by simp[D,h48])] at q;have h49:¬ x.toList=[48]:=by simpa using h48
 case' neg.true=>rw[nL (.inr h48)] at q
 case' pos=>rw[nL (.inl D)] at q
 case' neg.false|neg.true|pos=>(have A:=ae q;clear q)
 all_goals
  simp only[aJ,bu] at i B
  (try obtain⟨x,y,r,rfl⟩:=EC i)
  (try obtain⟨x,r,rfl⟩:=oA i)
  clear i
  (try have E:=p x (by simp))
  (try have P:=p y (by simp))
  clear p
  (try simp only[BG] at ZN)
  (try simp at B)
  go_enter func306,ntmps306;have l:=H.arg
  go_wp2_with (first
   |(go_at_call 313;refine(uW (by first|exact H|exact H.drew|exact H.drew.drew|exact H.drew.drew.drew) (by(try simp only[BG]);omega)).mono ?_;rintro e V ⟨rfl,u,h⟩;replace H:=ae h;clear h;have l:=H.arg;obtain⟨c2,z2⟩:=H.mt.am 52 (Q I m.aq) (by omega) (by simp[Mst.F,H.rest.1]);have s:=H.mt.lt)
   |(go_at_call 295;refine(ye _ (by first|exact H|exact H.drew|exact H.drew.drew|exact H.drew.drew.drew) (by(try simp only[BG]);omega)).mono ?_;rintro e V ⟨rfl,u,h⟩;replace H:=ae h;clear h;have l:=H.arg;obtain⟨c2,z2⟩:=H.mt.am 52 (Q I m.aq) (by omega) (by simp[Mst.F,H.rest.1]);have s:=H.mt.lt)
   |(go_at_call 249;refine(kY _ _).mono ?_;rintro e ZK ⟨rfl,o⟩;rw[o];clear o)
   |(go_at_call 314;refine(oy x n _ E hn).mono ?_;rintro e ZK ⟨rfl,z⟩;replace H:=ae (Pf.aa (by first|exact H|exact H.drew|exact H.drew.drew|exact H.drew.drew.drew) z);clear z;have l:=H.arg)
   |(go_at_call 312;refine(Dj H (by(try simp only[BG]);omega) G ZP C E P ZO).mono ?_;rintro e ZK ⟨rfl,hF⟩;have F:=ae hF;clear hF)
   |(go_at_call 315;refine(Dk H (by(try simp only[BG]);omega) G ZP C hlk K).mono ?_;rintro e ZK ⟨rfl,hF⟩;have F:=ae hF;clear hF)
   |(go_at_call 296;refine(Ez _ _ H).mono ?_;rintro e ZK ⟨rfl,hF⟩;have F:=ae hF;clear hF))
  (try go_region_with (first
   |(go_at_call 313;refine(uW (by first|exact H|exact H.drew|exact H.drew.drew|exact H.drew.drew.drew) (by(try simp only[BG]);omega)).mono ?_;rintro e V ⟨rfl,u,h⟩;replace H:=ae h;clear h;have l:=H.arg;obtain⟨c2,z2⟩:=H.mt.am 52 (Q I m.aq) (by omega) (by simp[Mst.F,H.rest.1]);have s:=H.mt.lt)
   |(go_at_call 295;refine(ye _ (by first|exact H|exact H.drew|exact H.drew.drew|exact H.drew.drew.drew) (by(try simp only[BG]);omega)).mono ?_;rintro e V ⟨rfl,u,h⟩;replace H:=ae h;clear h;have l:=H.arg;obtain⟨c2,z2⟩:=H.mt.am 52 (Q I m.aq) (by omega) (by simp[Mst.F,H.rest.1]);have s:=H.mt.lt)
   |(go_at_call 249;refine(kY _ _).mono ?_;rintro e ZK ⟨rfl,o⟩;rw[o];clear o)
   |(go_at_call 314;refine(oy x n _ E hn).mono ?_;rintro e ZK ⟨rfl,z⟩;replace H:=ae (Pf.aa (by first|exact H|exact H.drew|exact H.drew.drew|exact H.drew.drew.drew) z);clear z;have l:=H.arg)))
  all_goals
   (try rw[ED] at H)
   (try rw[EE] at H)
   (try go_wp2)
   (try refine kK rfl rfl ?_)
   (try rw[A.out])
   first
    |exact⟨rfl,F⟩
    |exact⟨rfl,H.fin ZO⟩
    |exact⟨rfl,H.jump⟩
    |exact⟨rfl,Dc O⟩
def bv (f:Nat->Ins)(cnt place steps looks:Nat)(b:List ByteArray):Res :=
 if cnt<=place then .inr (.inl (2,(dw place))) else if steps=2000 then .inr (.inl (3,⟨#[]⟩)) else
  if dZ (f place).op.toNat b=ZA then .inr (.inl (2,(dw place))) else bZ (f place).op.toNat (f place).n.toNat (f place).s place looks b
def cj (cnt place steps:Nat):Nat:=if cnt<=place then steps else if steps=2000 then steps else steps+1
theorem MAt.qN (h:MAt w b cv m)(n:Nat):MAt (w.drewN n) b cv m:=h.X (E9 br n)
theorem Only.qN (h:Only b u w)(n:Nat):Only b u (w.drewN n):=h.X (E9 br n)
theorem Ad (b:Nat)(cv:ZB)(m:Mst)(op:Nat)(f:List ByteArray)(w:M)(hM:MAt w b cv m)(g:Tab2 w)(h1:1<=op)(h2:op<=15)(hz:m.size=f.length)(hl:f.length<=50):Calls Pg 305 #[.pointer (T (N b 0 Z)),Q I op] w λe h=>e=ZD (ZC (dZ op f))/\Below w.heap.size w h:=by have:=bears_any b cv m op w hM g (by omega) (by omega) (by omega);rw[hz] at this;exact this
structure Env (w:M)(b pb po cnt:Nat)(f:Nat->Ins):Prop where
 row:RowIns w pb po cnt f
 tab:Tab2 w
 pow:Pow w
 pbb:pb<b
 tbb:1<b
 pwb:2<b
theorem Env.aa{l:M}{j cnt:Nat}(h:Env w b g j cnt f)(hb:Below b w l):Env l b g j cnt f :=
 ⟨⟨lj h.row.1 hb.size,λi hi=>(h.row.2 i hi).aa hb h.pbb⟩,h.tab.aa hb h.tbb,h.pow.low hb h.pwb,h.pbb,h.tbb,h.pwb⟩
theorem Env.ac{j:M}{i cnt:Nat}(h:Env w b g i cnt f)(l:b<w.heap.size)(hb:Only b w j):Env j b g i cnt f:=h.aa (hb.aa ly (NH l))
structure Sim (m:Mst)(place steps looks:Nat)(stk:List ByteArray):Prop where
 rep:Rep m.S stk
 size:m.size=stk.length
 len:stk.length<=50
 hpl:m.aq=place
 hst:m.g=steps
 hlk:m.looks=looks
 le:∀x∈stk,x.size<=2000
 pl:place<=2000
 st:steps<=2000
 lk:looks<=200
theorem Ae (b q r cnt cap place steps looks:Nat)(f:Nat->Ins)(m:Mst)(i:List ByteArray)(w:M)(hM:MAt w b (Y (T (N q r Z)) cnt cap) m)(ZP:Sim m place steps looks i)(hE:Env w b q r cnt f)(fd:cX f cnt=ZF):Calls Pg 297 #[.pointer (T (N b 0 Z))] w λe w'=>e=ZD (.tuple #[]) /\
   (∃S,MAt w' b (Y (T (N q r Z)) cnt cap) S/\After { m with g:=cj cnt place steps,aq:=place+1 } S (bv f cnt place steps looks i))/\Only b w w':=by
 have ZJ:=ae hM;have ZO:=ae hE;have j:=ae ZP;have y:=hM.lt;have hpl:=ZP.pl;have hst:=ZP.st;obtain⟨c1,z1⟩:=hM.am 51 (Y (T (N q r Z)) cnt cap) (by omega) (by simp[Mst.F]);obtain⟨c2,z2⟩:=hM.am 52 (Q I place) (by omega) (by simp[Mst.F,ZP.hpl]);obtain⟨c3,z3⟩:=hM.am 53 (Q I steps) (by omega) (by simp[Mst.F,ZP.hst]);clear hM hE ZP;by_cases h1:cnt<=place
 ·have t:bv f cnt place steps looks i=.inr (.inl (2,(dw place))):=by simp[bv,h1]
  have B:cj cnt place steps=steps:=by simp[cj,h1]
  rw[t,B];clear t B;go_enter func297,ntmps297;go_wp2_with fail;go_quiet (fail);have g:=ae (ZJ.qN nq);have p:=ae (ZO.ac y ((Only.refl b w).qN nq));have o:=ae ((Only.refl b w).qN nq);clear c1 z1 c2 z2 c3 z3;generalize w.drewN nq=W at g p o ⊢;obtain⟨c2,z2⟩:=g.am 52 (Q I place) (by omega) (by simp[Mst.F,j.hpl]);obtain⟨c3,z3⟩:=g.am 53 (Q I steps) (by omega) (by simp[Mst.F,j.hst]);go_wp2_with fail;refine(iY b _ m place _ g hpl p.pow).mono ?_;rintro e ZN ⟨rfl,A,l⟩;have h:=ae A;have O:=ae (o.trans l);clear A l;go_wp2;refine oR rfl rfl ?_;exact⟨rfl,⟨_,h,j.hst,by rw[j.hst]⟩,O.out⟩
 ·have h1':(place:Int)<cnt:=by omega
  by_cases h2:steps=2000
  ·have t:bv f cnt place steps looks i=.inr (.inl (3,⟨#[]⟩)):=by simp[bv,h1,h2]
   have B:cj cnt place steps=steps:=by simp[cj,h1,h2]
   rw[t,B];clear t B;have bt:((steps:Int) == 2000)=ZF:=by simp;omega
   go_enter func297,ntmps297;go_wp2_with fail;go_quiet (fail);have g:=ae (ZJ.qN nq);have p:=ae (ZO.ac y ((Only.refl b w).qN nq));have o:=ae ((Only.refl b w).qN nq);clear c1 z1 c2 z2 c3 z3;generalize w.drewN nq=W at g p o ⊢;obtain⟨c2,z2⟩:=g.am 52 (Q I place) (by omega) (by simp[Mst.F,j.hpl]);obtain⟨c3,z3⟩:=g.am 53 (Q I steps) (by omega) (by simp[Mst.F,j.hst]);go_wp2_with fail;refine(jv b _ m _ _ _ g).mono ?_;rintro e ZN ⟨rfl,A,l⟩;have h:=ae A;have O:=ae (o.trans l);clear A l;go_wp2;refine oR rfl rfl ?_;exact⟨rfl,⟨_,h,j.hst,by rw[j.hst]⟩,O.out⟩
  ·have bt:((steps:Int) == 2000)=ZA:=by simp;omega
   have B:cj cnt place steps=steps+1:=by simp[cj,h1,h2]
   have hi:=iU fd (show place<cnt by omega);simp only[b9,xT] at hi;obtain⟨i1,i2,i3,i4,i5⟩:=hi;obtain⟨op,K⟩:=AT (show 0<=(f place).op by omega);obtain⟨n,hn⟩:=AT i4;have t:bv f cnt place steps looks i=if dZ op i=ZA then .inr (.inl (2,(dw place))) else bZ op n (f place).s place looks i:=by simp only[bv,h1,h2,P2,K,hn,Int.toNat_natCast]
   rw[t,B];obtain⟨R,hR⟩:∃R:Res,R=(if dZ op i=ZA then .inr (.inl (2,(dw place))) else bZ op n (f place).s place looks i):=⟨_,rfl⟩
   rw[<-hR];have ZL:=ae hR;clear hR;have ex:dx (f place).op<=2000:=by unfold dx;split<;>(try split)<;>omega
   have aq:n<=2000:=by omega
   have ZI:1<=op:=by omega
   have ZK:op<=15:=by omega
   have HA:Hid (AtIns w q r place (f place)):=ZO.row.2 place (by omega);clear t B ex i1 i2 i3 i4 i5;go_enter func297,ntmps297;go_wp2_with fail;go_quiet (fail);have g:=ae (ZJ.qN nq);have p:=ae (ZO.ac y ((Only.refl b w).qN nq));have o:=ae ((Only.refl b w).qN nq);clear c1 z1 c2 z2 c3 z3;generalize w.drewN nq=W at g p o ⊢;obtain⟨c2,z2⟩:=g.am 52 (Q I place) (by omega) (by simp[Mst.F,j.hpl]);obtain⟨c3,z3⟩:=g.am 53 (Q I steps) (by omega) (by simp[Mst.F,j.hst]);obtain⟨c1,z1⟩:=g.am 51 (Y (T (N q r Z)) cnt cap) (by omega) (by simp[Mst.F]);go_wp2_with fail;have h:=ae ((g.setSteps ((steps:Int)+1)).setPlace ((place:Int)+1));have E:=ae (bO (bO o 53 (Q I ((steps:Int)+1))) 52 (Q I ((place:Int)+1)));clear c1 z1 c2 z2 c3 z3 g o p;generalize World.setCell (World.setCell W _ _) _ _=V at h E ⊢;have P:=ae (ZO.ac y E);obtain⟨c1,z1⟩:=h.am 51 (Y (T (N q r Z)) cnt cap) (by omega) (by simp[Mst.F]);obtain⟨a0,a1,a2⟩:=P.row.2 place (by omega);rw[K] at a0;rw[hn] at a2;obtain⟨C,H⟩:∃C:Mst,C={ m with g:=(steps:Int)+1,aq:=(place:Int)+1 }:=⟨_,rfl⟩
   rw[<-H] at h;have k1:C.size=i.length:=by rw[H];exact j.size
   have u:=ae H;have X:=j.len;clear H;go_region_with (go_at_call 305;refine(Ad b (Y (T (N q r Z)) cnt cap) C op i _ ?_ ?_ ZI ZK k1 X).mono ?_;(first|exact h|exact h.drew|exact h.drew.drew);(first|exact P.tab|exact(P.aa br.drew).tab);rintro e ZN ⟨rfl,l⟩;have G:Hid (MAt ZN b (Y (T (N q r Z)) cnt cap) C):=MAt.X (by first|exact h|exact h.drew|exact h.drew.drew) l;have ZQ:Hid (Only b w ZN):=Only.X (by repeat (first|exact E|apply Only.drew)) l;clear l);all_goals
    have D:=ae (ZO.ac y ZQ);obtain⟨g1,y1⟩:=G.am 51 (Y (T (N q r Z)) cnt cap) (by omega) (by simp[Mst.F]);obtain⟨b0,b1,b2⟩:=D.row.2 place (by omega);rw[K] at b0;rw[hn] at b2;clear c1 z1 a0 a1 a2 h E;have hlt1:=G.lt;cases hbr:dZ op i with
    |false =>rw[nL hbr] at ZL;go_wp2_with fail;refine(iY b _ C place _ G hpl D.pow).mono ?_;rintro e w2 ⟨rfl,z,x⟩;have ZM:=ae z;have L:=ae (ZQ.trans x);clear z x;go_wp2;refine oR rfl rfl ?_;refine⟨rfl,⟨_,ZM,?_⟩,L⟩;rw[u.out,ZL.out];exact⟨by simp,by simp⟩
    |true =>
     rw[eT (by simp[hbr])] at ZL;go_wp2_with fail;refine(ug b (Y (T (N q r Z)) cnt cap) C op n place looks (f place).s i _ ?_ ?_ k1 X ?_ ?_ aq hpl ?_ ?_ ?_ ?_ ZI ZK hbr).mono ?_
     ·exact G
     ·rw[u.out];exact j.rep
     ·rw[u.out]
     ·exact j.le
     ·exact D.pow
     ·exact D.pwb
     ·rw[u.out];exact j.hlk
     ·exact j.lk
     rintro e w2 ⟨rfl,z,x⟩;have ZM:=ae z;have L:=ae (ZQ.trans x);clear z x;go_wp2;refine kK rfl rfl ?_;obtain⟨S,h1,h2⟩:=ZM.out;refine⟨rfl,⟨S,h1,?_⟩,L⟩;rw[ZL.out];rw[u.out] at h2;exact h2
theorem sB (l:List UInt8)(n:Nat):(bR l n).length<=l.length:=by
 induction n generalizing l with
 |zero =>rw[bR];have h1:=er l bm;have h2:((l.dropWhile bm).takeWhile (λc=>!bm c)).length<=(l.dropWhile bm).length:=(List.takeWhile_sublist _).length_le;omega
 |succ n b =>
  rw[bR];split;{simp};{have h1:=er l bm;have h2:=er (l.dropWhile bm) (λc=>!bm c);have h3:=b ((l.dropWhile bm).dropWhile (λc=>!bm c));omega}
theorem oB (s:ByteArray)(n:Nat):(eY s n).size<=s.size:=sB s.data.toList n
def pi (res:Res)(looks:Nat):Prop:=match res with
 |.inl (stk,p)=>stk.length<=50/\(∀x∈stk,x.size<=2000)/\p<=2000
 |.inr (.inl (_,_))=>True
 |.inr (.inr (_,name,stk))=>stk.length<50/\(∀x∈stk,x.size<=2000)/\aA name=ZF/\looks<200
theorem gY (op n m looks:Nat)(t:ByteArray)(b:List ByteArray)(j:b.length<=50)(f:∀x∈b,x.size<=2000)(p:t.size<=2000)(hn:n<=2000)(hh:m<2000)(hlk:looks<=200)(h1:1<=op)(h15:op<=15)(hb:dZ op b=ZF):pi (bZ op n t m looks b) looks:=by
 have i:∀ask a r,b=a::r->pi (gC ask a r m looks) looks:=by
  intro ask a r e;subst e;simp only[BG] at j;unfold gC;split;{trivial};{rename_i h1;split;{trivial};{rename_i h2;exact⟨by omega,λx l=>f x (by simp[l]),by simpa using h1,by omega⟩}}
 simp only[dZ,xT] at hb;obtain⟨g,o⟩:=hb;rcases(show op=1∨op=2∨op=3∨op=4∨op=5∨op=6∨op=7∨op=8∨op=9∨op=10∨op=11∨op=12∨op=13∨op=14∨op=15 by omega) with rfl|rfl|rfl|rfl|rfl|rfl|rfl|rfl|rfl|rfl|rfl|rfl|rfl|rfl|rfl;all_goals simp only[aJ,bu] at g o
 {refine⟨by simp at o ⊢;omega,λx l=>?_,by omega⟩;rcases BO.1 l with rfl|l;{exact p};{exact f x l}}
 ·match b,g with
  |x::y::r,_ =>
   show pi (if y.size+x.size<=2000 then _ else _) _;split;{refine⟨by simp at j ⊢;omega,λz hz=>?_,by omega⟩;rcases BO.1 hz with rfl|hz;{simp;omega};{exact f z (by simp[hz])}};{trivial}
 ·match b,g with
  |x::r,_ =>
   refine⟨j,λz hz=>?_,by omega⟩;have l:=f x (by simp);rcases BO.1 hz with rfl|hz;{split;{simp;omega};{exact l}};{exact f z (by simp[hz])}
 ·match b,g with
  |x::r,_ =>
   refine⟨j,λz hz=>?_,by omega⟩;have l:=f x (by simp);rcases BO.1 hz with rfl|hz;{split;{simp;omega};{decide}};{exact f z (by simp[hz])}
 ·match b,g with
  |x::r,_ =>
   refine⟨j,λz hz=>?_,by omega⟩;rcases BO.1 hz with rfl|hz;{exact nD (oB _ _) (f x (by simp))};{exact f z (by simp[hz])}
 ·match b,g with
  |x::y::r,_ =>
   refine⟨by simp at j ⊢;omega,λz hz=>?_,by omega⟩;rcases BO.1 hz with rfl|hz;{unfold dN;split<;>decide};{exact f z (by simp[hz])}
 ·match b,g with
  |x::r,_ =>
   refine⟨by simp at o ⊢;omega,λz hz=>?_,by omega⟩;rcases BO.1 hz with rfl|hz;{exact f _ (by simp)};{exact f z hz}
 ·match b,g with
  |x::y::r,_ =>refine⟨j,λz hz=>?_,by omega⟩;simp only[BO] at hz;exact f z (by simp only[BO];rcases hz with h|h|h<;>simp[h])
 ·match b,g with
  |x::r,_=>exact⟨by simp at j;omega,λz hz=>f z (by simp[hz]),by omega⟩
 {exact⟨j,f,hn⟩}
 ·match b,g with
  |x::r,_ =>refine⟨by simp at j;omega,λz hz=>f z (by simp[hz]),?_⟩;split<;>omega
 ·match b,g with
  |x::r,_=>exact i ZF x r rfl
 ·match b,g with
  |x::r,_=>exact i ZA x r rfl
 ·match b,g with
  |x::r,_=>trivial
 ·match b,g with
  |x::r,_=>trivial
theorem wJ{cnt:Nat}{b:List ByteArray}(g:Sim m place steps looks b)(h:cX f cnt=ZF)(hc:cnt<=200):pi (bv f cnt place steps looks b) looks:=by
 unfold bv;split;{trivial}
 ·rename_i h1;split;{trivial}
  ·split;{trivial}
   ·rename_i i;have hi:=iU h (show place<cnt by omega);simp only[b9,xT] at hi;obtain⟨i1,i2,i3,i4,i5⟩:=hi;have hmt:dx (f place).op<=2000:=by unfold dx;split<;>(try split)<;>omega
    have hmt2:bF (f place).op<=2000:=by unfold bF;split<;>omega
    exact gY _ _ _ _ _ _ g.len g.le (by omega) (by omega) (by omega) g.lk (by omega) (by omega) (by simpa using i)
abbrev Halt:=(Int × ByteArray × Nat) ⊕ (Bool × ByteArray × List ByteArray × Nat × Nat × Nat)
def jX (f:Nat->Ins)(cnt:Nat):Nat->Nat->Nat->Nat->List ByteArray->Option Halt
 |0,_,_,_,_=>Z
 |k+1,place,steps,looks,stk=>match bv f cnt place steps looks stk with
  |.inr (.inl (c,x))=>T (.inl (c,x,(cj cnt place steps)))
  |.inr (.inr (a,nm,s))=>T (.inr (a,nm,s,(place+1),(cj cnt place steps),(looks+1)))
  |.inl (s,p)=>jX f cnt k p (cj cnt place steps) looks s
theorem iM{cnt:Nat}{b:List ByteArray}(h:bv f cnt place steps looks b=.inl (s,p)):cj cnt place steps=steps+1/\steps≠2000:=by
 unfold bv at h;unfold cj;split at h;{cases h};{split at h;{cases h};{rename_i h1 h2;rw[eT h1,eT h2];exact⟨rfl,h2⟩}}
theorem qa (f:Nat->Ins)(cnt:Nat)(k:Nat):∀place steps looks b,steps<=2000->2001<=k+steps->∃h,jX f cnt k place steps looks b=T h:=by
 induction k with
 |zero=>intro _ _ _ _ h1 h2;omega
 |succ k i =>
  intro place steps looks b h1 h2;rw[jX];rcases hr:bv f cnt place steps looks b with ⟨s,p⟩|⟨c,x⟩|⟨a,nm,s⟩
  {obtain⟨g,e2⟩:=iM hr;simp only[g];exact i _ _ _ _ (by omega) (by omega)};{exact⟨_,rfl⟩};{exact⟨_,rfl⟩}
def eB (m:Mst):Halt->Prop
 |.inl (c,x,k)=>m.t=⟨ZF,c,x,ZA,⟨#[]⟩,k⟩
 |.inr (a,nm,s,p,k,l)=>m.t=⟨ZA,0,⟨#[]⟩,a,nm,k⟩/\Sim m p k l s/\aA nm=ZF/\s.length<50
theorem uX (b O ZN cnt cap:Nat)(f:Nat->Ins)(m:Mst)(H:Halt)(w:M)(hM:MAt w b (Y (T (N O ZN Z)) cnt cap) m)(hE:Env w b O ZN cnt f)(hc:cnt<=200)(W:cX f cnt=ZF)
  (hH:(m.t=cG/\∃p k l s,Sim m p k l s/\jX f cnt (2001 - k) p k l s=T H)∨eB m H) :
  Calls Pg 275 #[.pointer (T (N b 0 Z))] w λe w'=>∃i,e=ZD i.t.v/\MAt w' b (Y (T (N O ZN Z)) cnt cap) i/\eB i H/\Only b w w':=by
 have HM:=ae hM;have HE:=ae hE;have HH:=ae hH;have ex:=hM.lt;clear hM hE hH;have ZL:=ae (HM.al (J #[ZC ZA,Q I 0,U ⟨#[]⟩,ZC ZA,U ⟨#[]⟩,Q I 0] 163));have y:w.heap.size<(w.alloc (J #[ZC ZA,Q I 0,U ⟨#[]⟩,ZC ZA,U ⟨#[]⟩,Q I 0] 163)).heap.size:=by simp
 have z:=ae ((Only.refl b w).al (J #[ZC ZA,Q I 0,U ⟨#[]⟩,ZC ZA,U ⟨#[]⟩,Q I 0] 163));have V:∀j,j<6->∃v,(w.alloc (J #[ZC ZA,Q I 0,U ⟨#[]⟩,ZC ZA,U ⟨#[]⟩,Q I 0] 163)).cell? (N w.heap.size j Z)=T v/\(w.alloc (J #[ZC ZA,Q I 0,U ⟨#[]⟩,ZC ZA,U ⟨#[]⟩,Q I 0] 163)).frozen? (N w.heap.size j Z)=ZA:=by intro j hj;rcases(show j=0∨j=1∨j=2∨j=3∨j=4∨j=5 by omega) with rfl|rfl|rfl|rfl|rfl|rfl;all_goals exact⟨_,by simp;rfl,by simp⟩
 have C:=ae V;clear V;go_enter func275,ntmps275;go_wp2;generalize World.alloc w _=w0 at ZL y z C ⊢;go_loopg [] 2002 (λg wr=>∃i,MAt wr b (Y (T (N O ZN Z)) cnt cap) i/\Only b w0 wr/\((i.t=cG/\∃p k l s,Sim i p k l s/\jX f cnt (2001 - k) p k l s=T H/\2002 - k<=g)∨eB i H));case atStart =>
  refine⟨m,ZL,Only.refl _ _,?_⟩;rcases HH.out with ⟨h1,p,k,l,s,h2,h3⟩|h;{exact .inl ⟨h1,p,k,l,s,h2,h3,by omega⟩};{exact .inr h}
 case round =>
  obtain⟨i,hM,hO,ld⟩:=hrel;have A:=ae hM;have n:=ae hO;obtain⟨⟨c5,z5⟩,⟨ZQ,z6⟩,⟨B,z7⟩,⟨ZP,z8⟩,⟨ZO,z9⟩,u,aq⟩:=hM.turn;clear hM hO;rcases ld with ⟨o,p,k,l,s,G,hr,hg⟩|hst
  ·have r:=ae G;have mv:=ae hr;have hk:=G.st;rw[o] at c5 ZQ B ZP ZO u;simp only[cG] at c5 ZQ B ZP ZO u;have n8:=ae o;clear G hr o;go_wp2_with fail;refine(Ae b O ZN cnt cap p k l f i s _ A r (HE.ac ex (z.trans n)) W).mono ?_;rintro e w1 ⟨rfl,⟨m2,ZK,q⟩,R⟩;have bt:=ae ZK;have HA:=ae q;have fd:=ae (n.trans R);clear ZK q R c5 ZQ B ZP ZO u z5 z6 z7 z8 z9 aq;obtain⟨g,rfl⟩:∃g,gk=g+1:=⟨gk - 1,by omega⟩
   go_wp2;go_roundg g;case measure=>omega
   case rel =>
    refine⟨m2,bt,fd,?_⟩;have hR:=mv.out;have hF:=wJ r.out W hc;obtain⟨j,hj⟩:∃j,2001 - k=j+1:=⟨2000 - k,by omega⟩
    rw[hj,jX] at hR;have q:=HA.out;rcases hst:bv f cnt p k l s with ⟨s2,p2⟩|⟨c,x⟩|⟨a,nm,s2⟩
    {rw[hst] at hR q hF;obtain⟨e1,e2⟩:=iM hst;obtain⟨a1,a2,a3,a4,a5,X⟩:=q;obtain⟨f1,ZI,ZJ⟩:=hF;simp only[e1] at hR a1;refine .inl ⟨by rw[X];exact n8,p2,k+1,l,s2,⟨a2,a3,f1,a4,a1,by rw[a5];exact r.hlk,ZI,ZJ,by omega,r.lk⟩,?_,by omega⟩;rw[show 2001 - (k+1)=j by omega];exact hR};{rw[hst] at hR q hF;simp only[JE] at hR;subst hR;exact .inr q.2};{rw[hst] at hR q hF;simp only[JE] at hR;subst hR;obtain⟨a1,a2,a3,a4,a5,X⟩:=q;obtain⟨f1,ZI,ZJ,f4⟩:=hF;have hN:cj cnt p k<=2000/\p+1<=2000:=(by unfold bv at hst;unfold cj;split at hst;{cases hst};{split at hst;{cases hst};{rename_i h1 h2;rw[eT h1,eT h2];omega}});exact .inr ⟨X,⟨a2,a3,by omega,by rw[a4];simp,a1,by rw[a5];show i.looks+1=_;rw[r.hlk];simp,ZI,hN.2,hN.1,by omega⟩,ZJ,f1⟩}
  ·have S:=ae hst;rcases H with ⟨c,x,k⟩|⟨a,nm,s2,p2,k2,l2⟩
   {have o:i.t=⟨ZF,c,x,ZA,⟨#[]⟩,k⟩:=hst;rw[o] at c5 ZQ B ZP ZO u;obtain⟨⟨v0,L,y0⟩,⟨v1,K,y1⟩,⟨v2,ZM,y2⟩,⟨v3,D,y3⟩,⟨v4,E,y4⟩,⟨v5,P,y5⟩⟩:=bl6 C.out;rw[<-n.cell w.heap.size _ y (by omega)] at L K ZM D E P;rw[<-n.frozen w.heap.size _ y (by omega)] at y0 y1 y2 y3 y4 y5;go_wp2;refine bp (v:=i.t.v) (by rw[o];simp[results,results275,go_sem,Turn.v,L,K,ZM,D,E,P]) rfl ?_;refine⟨i,rfl,?_,S,?_⟩;{exact(((((A.other _ _ _ (by omega)).other _ _ _ (by omega)).other _ _ _ (by omega)).other _ _ _ (by omega)).other _ _ _ (by omega)).other _ _ _ (by omega)};{exact((((((z.trans n).L _ _ _ ly).L _ _ _ ly).L _ _ _ ly).L _ _ _ ly).L _ _ _ ly).L _ _ _ ly}}
   ·obtain⟨o,G,hn,hl⟩:=hst;rw[o] at c5 ZQ B ZP ZO u;have hne:nm.toList.isEmpty=ZA:=by
     have h0:¬ nm.size=0:=by simp only[aA,p6,xT] at hn;omega
     have:=kI h0;cases h:nm.toList with
     |nil=>exact absurd h this
     |cons _ _=>rfl
    clear G hn hl;obtain⟨⟨v0,L,y0⟩,⟨v1,K,y1⟩,⟨v2,ZM,y2⟩,⟨v3,D,y3⟩,⟨v4,E,y4⟩,⟨v5,P,y5⟩⟩:=bl6 C.out;rw[<-n.cell w.heap.size _ y (by omega)] at L K ZM D E P;rw[<-n.frozen w.heap.size _ y (by omega)] at y0 y1 y2 y3 y4 y5;go_wp2;refine bp (v:=i.t.v) (by rw[o];simp[results,results275,go_sem,Turn.v,L,K,ZM,D,E,P]) rfl ?_;refine⟨i,rfl,?_,S,?_⟩;{exact(((((A.other _ _ _ (by omega)).other _ _ _ (by omega)).other _ _ _ (by omega)).other _ _ _ (by omega)).other _ _ _ (by omega)).other _ _ _ (by omega)};{exact((((((z.trans n).L _ _ _ ly).L _ _ _ ly).L _ _ _ ly).L _ _ _ ly).L _ _ _ ly).L _ _ _ ly}
def fe (c:Int)(x:ByteArray)(k:Nat):Turn:=⟨ZF,c,x,ZA,⟨#[]⟩,k⟩
def lV (a:Bool)(nm:ByteArray)(k:Nat):Turn:=⟨ZA,0,⟨#[]⟩,a,nm,k⟩
def bT (f:Nat->Ins)(cnt:Nat)(y:Nat->aB)(n:Nat):Nat->Nat->Nat->Nat->List ByteArray->Turn
 |0,_,_,_,_=>cG
 |k+1,place,steps,looks,stk=>match bv f cnt place steps looks stk with
  |.inr (.inl (c,x))=>fe c x (cj cnt place steps)
  |.inl (s,p)=>bT f cnt y n k p (cj cnt place steps) looks s
  |.inr (.inr (a,nm,s))=>if n<=looks then lV a nm (cj cnt place steps)
    else if a=ZA then bT f cnt y n k (place+1) (cj cnt place steps) (looks+1) (dN (y looks).has::s)
    else if (y looks).has=ZA then fe 4 nm (cj cnt place steps)
    else if (y looks).E=0 then bT f cnt y n k (place+1) (cj cnt place steps) (looks+1) ((y looks).y::s)
    else fe 5 nm (cj cnt place steps)
def dS (f:Nat->Ins)(cnt:Nat)(y:Nat->aB)(n:Nat):Halt->Turn
 |.inl (c,x,k)=>fe c x k
 |.inr (a,nm,s,p,k,l)=>if n<=l - 1 then lV a nm k
   else if a=ZA then bT f cnt y n (2001 - k) p k l (dN (y (l - 1)).has::s)
   else if (y (l - 1)).has=ZA then fe 4 nm k
   else if (y (l - 1)).E=0 then bT f cnt y n (2001 - k) p k l ((y (l - 1)).y::s)
   else fe 5 nm k
def gn (looks:Nat):Halt->Prop
 |.inl (_,_,_)=>True
 |.inr (_,_,_,_,_,l)=>l=looks+1
theorem jY{cnt:Nat}{b:List ByteArray}{a:Bool}{nm:ByteArray}(h:bv f cnt place steps looks b=.inr (.inr (a,nm,s))):cj cnt place steps=steps+1/\steps≠2000:=by
 unfold bv at h;unfold cj;split at h;{cases h};{split at h;{cases h};{rename_i h1 h2;rw[eT h1,eT h2];exact⟨rfl,h2⟩}}
theorem nd (f:Nat->Ins)(cnt:Nat)(y:Nat->aB)(n:Nat)(k:Nat):∀place steps looks g H,steps<=2000->2001 - steps=k->jX f cnt k place steps looks g=T H ->
  bT f cnt y n k place steps looks g=dS f cnt y n H/\gn looks H:=by
 induction k with
 |zero=>intro _ _ _ _ _ h1 h2;omega
 |succ k j =>
  intro place steps looks g H h1 h2 b;rw[jX] at b;rw[bT];rcases hs:bv f cnt place steps looks g with ⟨s,p⟩|⟨c,x⟩|⟨a,nm,s⟩
  {obtain⟨h,i⟩:=iM hs;rw[hs] at b;simp only[h] at b ⊢;exact j _ _ _ _ _ (by omega) (by omega) b};{rw[hs] at b;simp only[JE] at b;subst b;exact⟨rfl,trivial⟩};{obtain⟨h,i⟩:=jY hs;rw[hs] at b;simp only[JE] at b;subst b;simp only[dS,h,TM,show 2001 - (steps+1)=k by omega];exact⟨trivial,rfl⟩}
def ci (r:aB):Bool:=decide (r.y.size<=2000/\0<=r.E/\r.E<=7)
def bE (y:Nat->aB):Nat->Bool
 |0=>ZF
 |k+1=>bE y k && ci (y k)
theorem jz{k:Nat}(h:k<=n)(hn:bE y n=ZF):bE y k=ZF:=by
 induction n with
 |zero =>
  obtain rfl:k=0:=by omega
  exact hn
 |succ m b =>
  by_cases e:k=m+1;{subst e;exact hn};{simp only[bE,p6] at hn;exact b (by omega) hn.1}
theorem fQ{k:Nat}(h:k<n)(b:ci (y k)=ZA):bE y n=ZA:=by
 cases e:bE y n with
 |false=>rfl
 |true =>have h2:=jz (show k+1<=n by omega) e;simp[bE,b] at h2
theorem Af{k:Nat}(h:bE y n=ZF)(hk:k<n):(y k).y.size<=2000/\0<=(y k).E/\(y k).E<=7:=by have:=jz (show k+1<=n by omega) h;simp only[bE,p6,ci,xT] at this;exact this.2
