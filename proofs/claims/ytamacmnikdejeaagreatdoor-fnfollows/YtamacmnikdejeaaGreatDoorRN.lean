import Derived.Test.YtamacmnikdejeaaGreatDoorRG
import Derived.Test.YtamacmnikdejeaaGreatDoorRI
set_option maxRecDepth 1000000
set_option maxHeartbeats 4000000
open Go.Addr renaming mk->N
open Go.Value renaming slice->Y,string->U,int->J,bool->QC
open Option renaming none->Z,some->T
open Go.Obj renaming cells->Q
open Go.IntKind renaming i64->I
open Go renaming World->G,Value->QE
open Bool renaming false->QB,true->QD
open Go.Ending renaming returned->QF
namespace Go.Proofs.YtamacmnikdejeaaGreatDoor.Vp
open RowKit
def Rep (S:Nat->ByteArray):List ByteArray->Prop
 | []=>True
 | x :: r=>S r.length=x/\Rep S r
theorem Rep.upd {S:Nat->ByteArray}{r:List ByteArray}{k:Nat}(x:ByteArray)(h:Rep S r)(f:r.length<=k):Rep (upd S k x) r:=by
 induction r with
 | nil=>trivial
 | cons y r b =>simp only[nD] at f;refine⟨?_,b h.2 (by omega)⟩;unfold Vp.upd;rw[cM (by omega)];exact h.1
theorem Rep.push {S:Nat->ByteArray}{r:List ByteArray}(x:ByteArray)(h:Rep S r):Rep (Vp.upd S r.length x) (x :: r) :=
 ⟨by simp[Vp.upd],h.upd x ly⟩
abbrev Res:=(List ByteArray × Nat) ⊕ (Int × ByteArray) ⊕ (Bool × ByteArray × List ByteArray)
def gL (ask:Bool)(a:ByteArray)(r:List ByteArray)(b looks:Nat):Res :=
 if au a=QB then .inr (.inl (2,(dK b))) else if looks=200 then .inr (.inl (3,⟨#[]⟩)) else .inr (.inr (ask,a,r))
def cu (op n:Nat)(t:ByteArray)(f looks:Nat)(g:List ByteArray):Res :=
 match op,g with
 | 1,g=>.inl ((t :: g),(f+1))
 | 2,b :: a :: r=>if a.size+b.size<=2000 then .inl (((a++b) :: r),(f+1)) else .inr (.inl (2,(dK f)))
 | 3,a :: r=>.inl (((if n<a.size then a.extract 0 n else a) :: r),(f+1))
 | 4,a :: r=>.inl (((if n<a.size then a.extract n a.size else ⟨#[]⟩) :: r),(f+1))
 | 5,a :: r=>.inl ((fB a n :: r),(f+1))
 | 6,b :: a :: r=>.inl ((eh (b.toList == a.toList) :: r),(f+1))
 | 7,a :: r=>.inl ((a :: a :: r),(f+1))
 | 8,b :: a :: r=>.inl ((a :: b :: r),(f+1))
 | 9,_ :: r=>.inl (r,(f+1))
 | 10,g=>.inl (g,n)
 | 11,a :: r=>.inl (r,(if a.toList=[]∨(a.toList == [48])=QD then n else f+1))
 | 12,a :: r=>gL QD a r f looks
 | 13,a :: r=>gL QB a r f looks
 | 14,a :: _=>.inr (.inl (1,a))
 | 15,a :: _=>.inr (.inl (0,a))
 | _,_=>.inr (.inl (0,⟨#[]⟩))
def After (m b:Mst)(res:Res):Prop:=b.steps=m.steps/\match res with
 | .inl (stk,p)=>Rep b.S stk/\b.size=stk.length/\b.place=p/\b.looks=m.looks/\b.t=m.t
 | .inr (.inl (c,x))=>b.t=⟨QD,c,x,QB,⟨#[]⟩,m.steps⟩
 | .inr (.inr (ask,name,stk))=>Rep b.S stk/\b.size=stk.length/\b.place=m.place/\b.looks=m.looks+1/\b.t=⟨QB,0,⟨#[]⟩,ask,name,m.steps⟩
theorem MAt.bel {w f:G}{b:Nat}{cv:QE}{m:Mst}(h:MAt w b cv m)(g:Below w.heap.size w f):MAt f b cv m:=h.below g h.lt
theorem Only.bel {b:Nat}{u w f:G}(h:Only b u w)(g:Below w.heap.size w f):Only b u f:=h.trans (Only.of_below g)
theorem Only.frozen {b:Nat}{w f:G}(h:Only b w f)(k o:Nat)(g:k<w.heap.size)(hb:k≠b):f.frozen? (N k o Z)=w.frozen? (N k o Z):=IQ (w:=w) (a:=(N k o Z)) (h.block k g hb)
theorem Only.setNew {b:Nat}{w W:G}(h:Only b w W)(k o:Nat)(v:QE)(hk:w.heap.size<=k):Only b w (W.setCell (N k o Z) v) :=
 ⟨h.os,h.tape,h.output,by simpa[World.setCell] using h.size,fun i hi j=>(qh _ _ _ _ (by simp;omega)).trans (h.block i hi j),fun g t fz hb=>by
  obtain⟨f,h1⟩:=h.ty g t fz hb;have hbl:=ai hb
  exact⟨f,(qh _ _ _ _ (by simp;omega)).trans h1⟩⟩
theorem MAt.other {w:G}{b:Nat}{cv:QE}{m:Mst}(h:MAt w b cv m)(k o:Nat)(v:QE)(g:k≠b):MAt (w.setCell (N k o Z) v) b cv m :=
 ⟨by simpa using h.1,fun j f=>⟨(cell_far w (N k o Z) (N b j Z) v g).trans (h.2 j f).1,by have:=(h.2 j f).2;simpa using this⟩⟩
theorem Cy (b:Nat)(cv:QE)(m:Mst)(k:Nat)(v:ByteArray)(w:G)(hM:MAt w b cv m)(g:m.size=k+1)(h:k<50)(i:m.S k=v):Calls Tryz.prog 221 #[.pointer (T (N b 0 Z))] w fun e f=>e=QF (U v)/\MAt f b cv { m with size:=k }/\Only b w f:=by rw[<-i];exact kj b cv m k w hM g h
theorem MAt.drew {w:G}{b:Nat}{cv:QE}{m:Mst}(h:MAt w b cv m):MAt w.drew b cv m:=h.below br.drew (eL _)
theorem MAt.al {w:G}{b:Nat}{cv:QE}{m:Mst}(h:MAt w b cv m)(o:Obj):MAt (w.alloc o) b cv m:=h.below ((a8 w.heap.size _).alloc ly _) h.lt
structure Pf (b:Nat)(cv:QE)(m:Mst)(w:G)(n:Nat)(s:List ByteArray)(V:G)(u:Mst):Prop where
 mt:MAt V b cv u
 rep:Rep u.S s
 size:u.size=s.length
 on:Only b w V
 arg:V.cell? (N w.heap.size 2 Z)=T (J I n)
 far:w.heap.size≠b/\w.heap.size<V.heap.size
 rest:u.place=m.place/\u.looks=m.looks/\u.steps=m.steps/\u.t=m.t
section
variable {b n:Nat}{cv:QE}{m u:Mst}{w V:G}{s:List ByteArray}{x:ByteArray}
theorem Pf.go {QK:G}{v:Mst}{r:List ByteArray}(h:Pf b cv m w n s V u)(g:Only b V QK)(hM:MAt QK b cv v)(i:Rep v.S r)(hz:v.size=r.length)(f:v.place=u.place/\v.looks=u.looks/\v.steps=u.steps/\v.t=u.t):Pf b cv m w n r QK v :=
 ⟨hM,i,hz,h.on.trans g,(g.cell _ 2 h.far.2 h.far.1).trans h.arg,⟨h.far.1,lj h.far.2 g.size⟩,f.1.trans h.rest.1,f.2.1.trans h.rest.2.1,f.2.2.1.trans h.rest.2.2.1,f.2.2.2.trans h.rest.2.2.2⟩
theorem Pf.drew (h:Pf b cv m w n s V u):Pf b cv m w n s V.drew u:=h.go (Only.refl _ _).drew h.mt.drew h.rep h.size ⟨rfl,rfl,rfl,rfl⟩
theorem Pf.below {QK:G}(h:Pf b cv m w n s V u)(f:Below V.heap.size V QK):Pf b cv m w n s QK u:=h.go (Only.of_below f) (h.mt.bel f) h.rep h.size ⟨rfl,rfl,rfl,rfl⟩
theorem Pf.fin {p:Nat}(h:Pf b cv m w n s V u)(g:m.place=p):(∃ f,MAt V b cv f/\After m f (.inl (s,p)))/\Only b w V:=⟨⟨u,h.mt,h.rest.2.2.1,h.rep,h.size,h.rest.1.trans g,h.rest.2.1,h.rest.2.2.2⟩,h.on⟩
theorem Pf.jump (h:Pf b cv m w n s V u):(∃ f,MAt (V.setCell (N b 52 Z) (J I n)) b cv f/\After m f (.inl (s,n)))/\Only b w (V.setCell (N b 52 Z) (J I n)):=⟨⟨_,h.mt.setPlace _,h.rest.2.2.1,h.rep,h.size,rfl,h.rest.2.1,h.rest.2.2.2⟩,ci h.on _ _⟩
theorem Cz {o:Obj}(h:MAt w b cv m/\Rep m.S s/\m.size=s.length):(∃ f,MAt ((w.setCell (N b 52 Z) (J I n)).alloc o) b cv f/\After m f (.inl (s,n)))/\Only b w ((w.setCell (N b 52 Z) (J I n)).alloc o):=⟨⟨_,(h.1.setPlace _).al _,rfl,h.2.1,h.2.2,rfl,rfl,rfl⟩,(ci (Only.refl _ _) _ _).al _⟩
theorem vf (h:Pf b cv m w n (x :: s) V u)(f:(x :: s).length<=50):Calls Tryz.prog 221 #[.pointer (T (N b 0 Z))] V fun e QK=>e=QF (U x)/\∃ v,Pf b cv m w n s QK v:=by simp only[nD] at f;refine(Cy b cv u s.length x V h.mt (by rw[h.size];rfl) (by omega) h.rep.1).mono ?_;rintro e QK ⟨rfl,hM,g⟩;exact⟨rfl,_,h.go g hM h.rep.2 rfl ⟨rfl,rfl,rfl,rfl⟩⟩
theorem yk (y:ByteArray)(h:Pf b cv m w n s V u)(f:s.length<50):Calls Tryz.prog 190 #[.pointer (T (N b 0 Z)),U y] V fun e QK=>e=QF (.tuple #[])/\∃ v,Pf b cv m w n (y :: s) QK v:=by refine(pG b cv u y V h.mt (by rw[h.size];exact f)).mono ?_;rintro e QK ⟨rfl,hM,g⟩;exact⟨rfl,_,h.go g hM (by rw[h.size];exact h.rep.push y) (by simp[h.size]) ⟨rfl,rfl,rfl,rfl⟩⟩
theorem DZ (c:Int)(y:ByteArray)(h:Pf b cv m w n s V u):Calls Tryz.prog 192 #[.pointer (T (N b 0 Z)),J I c,U y] V fun e QK=>e=QF (.tuple #[])/\(∃ f,MAt QK b cv f/\After m f (.inr (.inl (c,y))))/\Only b w QK:=by refine(jV b cv u c y V h.mt).mono ?_;rintro e QK ⟨rfl,hM,g⟩;exact⟨rfl,⟨_,hM,h.rest.2.2.1,by rw[<-h.rest.2.2.1]⟩,h.on.trans g⟩
theorem CB {y:ByteArray}{p:Nat}(h:Pf b cv m w n (x :: y :: s) V u)(l:(x :: y :: s).length<=50)(q:p<=2000)(r:Pow V)(g:2<b)(o:x.size<=2000)(t:y.size<=2000)(hpl:m.place=p+1):Calls Tryz.prog 220 #[.pointer (T (N b 0 Z)),J I p] V fun e QK=>e=QF (.tuple #[])/\(∃ i,MAt QK b cv i/\After m i (cu 2 n ⟨#[]⟩ p 0 (x :: y :: s)))/\Only b w QK:=by
 have f:u.S (s.length+1)=x:=h.rep.1;have j:u.S s.length=y:=h.rep.2.1;simp only[nD] at l;refine(zS b cv u s.length p V h.mt (by rw[h.size];rfl) (by omega) q r g (by rw[j];exact t) (by rw[f];exact o)).mono ?_;rw[f,j];rintro e QK ⟨rfl,hM,z⟩;refine⟨rfl,⟨_,hM,?_⟩,h.on.trans z⟩;show After m _ (if y.size+x.size<=2000 then _ else _);split
 ·exact⟨h.rest.2.2.1,h.rep.2.2.push _,by simp,h.rest.1.trans hpl,h.rest.2.1,h.rest.2.2.2⟩
 ·exact⟨h.rest.2.2.1,by rw[<-h.rest.2.2.1];rfl⟩
theorem CH {p looks:Nat}{ask:Bool}(h:Pf b cv m w n (x :: s) V u)(j:(x :: s).length<=50)(o:p<=2000)(q:Pow V)(g:2<b)(hlk:m.looks=looks)(h2:looks<=200):Calls Tryz.prog 223 #[.pointer (T (N b 0 Z)),QC ask,J I p] V fun e QK=>e=QF (.tuple #[])/\(∃ i,MAt QK b cv i/\After m i (gL ask x s p looks))/\Only b w QK:=by
 have l:u.S s.length=x:=h.rep.1;have t:u.looks=looks:=h.rest.2.1.trans hlk;simp only[nD] at j;refine(zT b cv u ask s.length p V h.mt (by rw[h.size];rfl) (by omega) o (by omega) (by omega) q g).mono ?_;rw[l];rintro e QK ⟨rfl,hM,r⟩;refine⟨rfl,⟨_,hM,?_⟩,h.on.trans r⟩;unfold gL;split
 ·exact⟨h.rest.2.2.1,by rw[<-h.rest.2.2.1];rfl⟩
 ·rw[t]
  by_cases f:looks=200
  ·rw[gM (by omega),gM f]
   exact⟨h.rest.2.2.1,by rw[<-h.rest.2.2.1]⟩
  ·rw[cM (by omega),cM f]
   exact⟨h.rest.2.2.1,h.rep.2,rfl,h.rest.1,by simp[hlk],by rw[<-h.rest.2.2.1]⟩
theorem o7 (h:1<=s.length):∃ x r,s=x :: r:=by
 cases s with
 | nil=>simp at h
 | cons x r=>exact⟨x,r,rfl⟩
theorem Ea (h:2<=s.length):∃ x y r,s=x :: y :: r:=by obtain⟨x,r,rfl⟩:=o7 (show 1<=s.length by omega);obtain⟨y,t,rfl⟩:=o7 (s:=r) (by simp at h;omega);exact⟨x,y,t,rfl⟩
theorem Eb (a:ByteArray)(n:Nat):a.extract 0 (min (n:Int) (a.size:Int)).toNat=if n<a.size then a.extract 0 n else a:=by
 split
 ·rw[show(min (n:Int) (a.size:Int)).toNat=n by omega]
 ·rw[show(min (n:Int) (a.size:Int)).toNat=a.size by omega];simp
theorem Ec (a:ByteArray)(n:Nat):a.extract (min (n:Int) (a.size:Int)).toNat a.size=if n<a.size then a.extract n a.size else ⟨#[]⟩:=by
 split
 ·rw[show(min (n:Int) (a.size:Int)).toNat=n by omega]
 ·rw[show(min (n:Int) (a.size:Int)).toNat=a.size by omega];exact lI (by simp)
end
def eF (op:Nat)(b:List ByteArray):Bool:=decide (aT op<=b.length/\b.length - aT op+bF op<=50)
theorem uv (b:Nat)(cv:QE)(m:Mst)(op n g looks:Nat)(t:ByteArray)(f:List ByteArray)(w:G)(hM:MAt w b cv m)(hR:Rep m.S f)(hz:m.size=f.length)(O:f.length<=50)(QR:m.place=g+1)
 (q:∀ x∈f,x.size<=2000) (hn:n<=2000) (M:g<=2000) (QP:Pow w) (B:2<b) (hlk:m.looks=looks) (QO:looks<=200) (h1:1<=op) (h15:op<=15) (hb:eF op f=QD) :
 Calls Tryz.prog 212 #[.pointer (T (N b 0 Z)),.agg #[J I op,U t,J I n],J I g] w fun e QN=>e=QF (.tuple #[])/\(∃ K,MAt QN b cv K/\After m K (cu op n t g looks f))/\Only b w QN:=by
 simp only[eF,j5] at hb;obtain⟨i,C⟩:=hb;have hlt:=hM.lt;have H:Hid (Pf b cv m w n f (w.alloc (Q #[J I op,U t,J I n] 146)) m):=⟨hM.al _,hR,hz,(Only.refl b w).al _,by simp,⟨by omega,by simp⟩,rfl,rfl,rfl,rfl⟩
 have L:Hid (Pow (w.alloc (Q #[J I op,U t,J I n] 146))):=QP.low ((q9 w).alloc ly _) (by omega);have P:=ae (And.intro hM (And.intro hR hz));obtain⟨c3,z3⟩:=hM.fld 52 (J I m.place) (by omega) (by simp[Mst.F]);obtain⟨res,j⟩:∃ res,res=cu op n t g looks f:=⟨_,rfl⟩
 rw[<-j];have A:=ae j;clear hM hR QP hz j;rcases(show op=1∨op=2∨op=3∨op=4∨op=5∨op=6∨op=7∨op=8∨op=9∨op=10∨op=11∨op=12∨op=13∨op=14∨op=15 by omega) with rfl | rfl | rfl | rfl | rfl | rfl | rfl | rfl | rfl | rfl | rfl | rfl | rfl | rfl | rfl;rotate_left 10;obtain⟨x,r,rfl⟩:=o7 (show 1<=f.length from i);have s:res=.inl (r,if x.toList=[]∨(x.toList == [48])=QD then n else g+1):=A.out;clear A;by_cases E:x.toList=[]
 case' neg =>
  have heb:x.toList.isEmpty=QB:=by simp[E]
  cases h48:(x.toList == [48])
 case' neg.false =>rw[cM (by simp[E,h48])] at s;have h49:¬ x.toList=[48]:=by simpa using h48
 case' neg.true=>rw[gM (.inr h48)] at s
 case' pos=>rw[gM (.inl E)] at s
 case' neg.false | neg.true | pos=>(have A:=ae s;clear s)
 all_goals
  simp only[aT,bF] at i C
  (try obtain⟨x,y,r,rfl⟩:=Ea i)
  (try obtain⟨x,r,rfl⟩:=o7 i)
  clear i
  (try have D:=q x (by simp))
  (try have QM:=q y (by simp))
  clear q
  (try simp only[nD] at O)
  (try simp at C)
  go_enter Tryz.func212,Tryz.ntmps212;have l:=H.arg
  go_wp2_with (first
   | (go_at_call 221;refine(vf (by first | exact H | exact H.drew | exact H.drew.drew | exact H.drew.drew.drew) (by(try simp only[nD]);omega)).mono ?_;rintro e V ⟨rfl,u,h⟩;replace H:=ae h;clear h;have l:=H.arg;obtain⟨c2,z2⟩:=H.mt.fld 52 (J I m.place) (by omega) (by simp[Mst.F,H.rest.1]);have o:=H.mt.lt)
   | (go_at_call 190;refine(yk _ (by first | exact H | exact H.drew | exact H.drew.drew | exact H.drew.drew.drew) (by(try simp only[nD]);omega)).mono ?_;rintro e V ⟨rfl,u,h⟩;replace H:=ae h;clear h;have l:=H.arg;obtain⟨c2,z2⟩:=H.mt.fld 52 (J I m.place) (by omega) (by simp[Mst.F,H.rest.1]);have o:=H.mt.lt)
   | (go_at_call 191;refine(lU _ _).mono ?_;rintro e QK ⟨rfl,z⟩;rw[z];clear z)
   | (go_at_call 222;refine(oY x n _ D hn).mono ?_;rintro e QK ⟨rfl,p⟩;replace H:=ae (Pf.below (by first | exact H | exact H.drew | exact H.drew.drew | exact H.drew.drew.drew) p);clear p;have l:=H.arg)
   | (go_at_call 220;refine(CB H (by(try simp only[nD]);omega) M L B D QM QR).mono ?_;rintro e QK ⟨rfl,hF⟩;have F:=ae hF;clear hF)
   | (go_at_call 223;refine(CH H (by(try simp only[nD]);omega) M L B hlk QO).mono ?_;rintro e QK ⟨rfl,hF⟩;have F:=ae hF;clear hF)
   | (go_at_call 192;refine(DZ _ _ H).mono ?_;rintro e QK ⟨rfl,hF⟩;have F:=ae hF;clear hF))
  (try go_region_with (first
   | (go_at_call 221;refine(vf (by first | exact H | exact H.drew | exact H.drew.drew | exact H.drew.drew.drew) (by(try simp only[nD]);omega)).mono ?_;rintro e V ⟨rfl,u,h⟩;replace H:=ae h;clear h;have l:=H.arg;obtain⟨c2,z2⟩:=H.mt.fld 52 (J I m.place) (by omega) (by simp[Mst.F,H.rest.1]);have o:=H.mt.lt)
   | (go_at_call 190;refine(yk _ (by first | exact H | exact H.drew | exact H.drew.drew | exact H.drew.drew.drew) (by(try simp only[nD]);omega)).mono ?_;rintro e V ⟨rfl,u,h⟩;replace H:=ae h;clear h;have l:=H.arg;obtain⟨c2,z2⟩:=H.mt.fld 52 (J I m.place) (by omega) (by simp[Mst.F,H.rest.1]);have o:=H.mt.lt)
   | (go_at_call 191;refine(lU _ _).mono ?_;rintro e QK ⟨rfl,z⟩;rw[z];clear z)
   | (go_at_call 222;refine(oY x n _ D hn).mono ?_;rintro e QK ⟨rfl,p⟩;replace H:=ae (Pf.below (by first | exact H | exact H.drew | exact H.drew.drew | exact H.drew.drew.drew) p);clear p;have l:=H.arg)))
  all_goals
   (try rw[Eb] at H)
   (try rw[Ec] at H)
   (try go_wp2)
   (try refine lO rfl rfl ?_)
   (try rw[A.out])
   first
    | exact⟨rfl,F⟩
    | exact⟨rfl,H.fin QR⟩
    | exact⟨rfl,H.jump⟩
    | exact⟨rfl,Cz P⟩
def bG (f:Nat->Ins)(cnt place steps looks:Nat)(b:List ByteArray):Res :=
 if cnt<=place then .inr (.inl (2,(dK place))) else if steps=2000 then .inr (.inl (3,⟨#[]⟩)) else
  if eF (f place).op.toNat b=QB then .inr (.inl (2,(dK place))) else cu (f place).op.toNat (f place).n.toNat (f place).s place looks b
def cE (cnt place steps:Nat):Nat:=if cnt<=place then steps else if steps=2000 then steps else steps+1
theorem MAt.qN {w:G}{b:Nat}{cv:QE}{m:Mst}(h:MAt w b cv m)(n:Nat):MAt (w.drewN n) b cv m:=h.bel (AT br n)
theorem Only.qN {b:Nat}{u w:G}(h:Only b u w)(n:Nat):Only b u (w.drewN n):=h.bel (AT br n)
theorem Ac (b:Nat)(cv:QE)(m:Mst)(op:Nat)(f:List ByteArray)(w:G)(hM:MAt w b cv m)(g:Tab2 w)(h1:1<=op)(h2:op<=15)(hz:m.size=f.length)(hl:f.length<=50):Calls Tryz.prog 211 #[.pointer (T (N b 0 Z)),J I op] w fun e h=>e=QF (QC (eF op f))/\Below w.heap.size w h:=by have:=bears_any b cv m op w hM g (by omega) (by omega) (by omega);rw[hz] at this;exact this
structure Env (w:G)(b pb po cnt:Nat)(f:Nat->Ins):Prop where
 row:RowIns w pb po cnt f
 tab:Tab2 w
 pow:Pow w
 pbb:pb<b
 tbb:0<b
 pwb:2<b
theorem Env.below {w l:G}{b j g cnt:Nat}{f:Nat->Ins}(h:Env w b j g cnt f)(hb:Below b w l):Env l b j g cnt f :=
 ⟨⟨lj h.row.1 hb.size,fun i hi=>(h.row.2 i hi).below hb h.pbb⟩,h.tab.below hb h.tbb,h.pow.low hb h.pwb,h.pbb,h.tbb,h.pwb⟩
theorem Env.only {w j:G}{b i g cnt:Nat}{f:Nat->Ins}(h:Env w b i g cnt f)(l:b<w.heap.size)(hb:Only b w j):Env j b i g cnt f:=h.below (hb.below ly (LJ l))
structure Sim (m:Mst)(place steps looks:Nat)(stk:List ByteArray):Prop where
 rep:Rep m.S stk
 size:m.size=stk.length
 len:stk.length<=50
 hpl:m.place=place
 hst:m.steps=steps
 hlk:m.looks=looks
 le:∀ x∈stk,x.size<=2000
 pl:place<=2000
 st:steps<=2000
 lk:looks<=200
theorem Ad (b r q cnt cap place steps looks:Nat)(f:Nat->Ins)(m:Mst)(i:List ByteArray)(w:G)(hM:MAt w b (Y (T (N r q Z)) cnt cap) m)(QP:Sim m place steps looks i)(hE:Env w b r q cnt f)(ex:cQ f cnt=QD):Calls Tryz.prog 193 #[.pointer (T (N b 0 Z))] w fun e w'=>e=QF (.tuple #[]) /\
   (∃ S,MAt w' b (Y (T (N r q Z)) cnt cap) S/\After { m with steps:=cE cnt place steps,place:=place+1 } S (bG f cnt place steps looks i))/\Only b w w':=by
 have QJ:=ae hM;have QO:=ae hE;have j:=ae QP;have t:=hM.lt;have hpl:=QP.pl;have hst:=QP.st;obtain⟨c1,z1⟩:=hM.fld 51 (Y (T (N r q Z)) cnt cap) (by omega) (by simp[Mst.F]);obtain⟨c2,z2⟩:=hM.fld 52 (J I place) (by omega) (by simp[Mst.F,QP.hpl]);obtain⟨c3,z3⟩:=hM.fld 53 (J I steps) (by omega) (by simp[Mst.F,QP.hst]);clear hM hE QP;by_cases h1:cnt<=place
 ·have u:bG f cnt place steps looks i=.inr (.inl (2,(dK place))):=by simp[bG,h1]
  have B:cE cnt place steps=steps:=by simp[cE,h1]
  rw[u,B];clear u B;go_enter Tryz.func193,Tryz.ntmps193;go_wp2_with fail;go_quiet (fail);have g:=ae (QJ.qN nq);have p:=ae (QO.only t ((Only.refl b w).qN nq));have o:=ae ((Only.refl b w).qN nq);clear c1 z1 c2 z2 c3 z3;generalize w.drewN nq=W at g p o ⊢;obtain⟨c2,z2⟩:=g.fld 52 (J I place) (by omega) (by simp[Mst.F,j.hpl]);obtain⟨c3,z3⟩:=g.fld 53 (J I steps) (by omega) (by simp[Mst.F,j.hst]);go_wp2_with fail;refine(jx b _ m place _ g hpl p.pow).mono ?_;rintro e QL ⟨rfl,A,l⟩;have h:=ae A;have P:=ae (o.trans l);clear A l;go_wp2;refine pF rfl rfl ?_;exact⟨rfl,⟨_,h,j.hst,by rw[j.hst]⟩,P.out⟩
 ·have h1':(place:Int)<cnt:=by omega
  by_cases h2:steps=2000
  ·have u:bG f cnt place steps looks i=.inr (.inl (3,⟨#[]⟩)):=by simp[bG,h1,h2]
   have B:cE cnt place steps=steps:=by simp[cE,h1,h2]
   rw[u,B];clear u B;have aq:((steps:Int) == 2000)=QD:=by simp;omega
   go_enter Tryz.func193,Tryz.ntmps193;go_wp2_with fail;go_quiet (fail);have g:=ae (QJ.qN nq);have p:=ae (QO.only t ((Only.refl b w).qN nq));have o:=ae ((Only.refl b w).qN nq);clear c1 z1 c2 z2 c3 z3;generalize w.drewN nq=W at g p o ⊢;obtain⟨c2,z2⟩:=g.fld 52 (J I place) (by omega) (by simp[Mst.F,j.hpl]);obtain⟨c3,z3⟩:=g.fld 53 (J I steps) (by omega) (by simp[Mst.F,j.hst]);go_wp2_with fail;refine(jV b _ m _ _ _ g).mono ?_;rintro e QL ⟨rfl,A,l⟩;have h:=ae A;have P:=ae (o.trans l);clear A l;go_wp2;refine pF rfl rfl ?_;exact⟨rfl,⟨_,h,j.hst,by rw[j.hst]⟩,P.out⟩
  ·have aq:((steps:Int) == 2000)=QB:=by simp;omega
   have B:cE cnt place steps=steps+1:=by simp[cE,h1,h2]
   have hi:=js ex (show place<cnt by omega);simp only[cy,j5] at hi;obtain⟨i1,i2,i3,i4,i5⟩:=hi;obtain⟨op,M⟩:=nX (show 0<=(f place).op by omega);obtain⟨n,hn⟩:=nX i4;have u:bG f cnt place steps looks i=if eF op i=QB then .inr (.inl (2,(dK place))) else cu op n (f place).s place looks i:=by simp only[bG,h1,h2,L9,M,hn,Int.toNat_natCast]
   rw[u,B];obtain⟨R,hR⟩:∃ R:Res,R=(if eF op i=QB then .inr (.inl (2,(dK place))) else cu op n (f place).s place looks i):=⟨_,rfl⟩
   rw[<-hR];have QM:=ae hR;clear hR;have fd:dM (f place).op<=2000:=by unfold dM;split<;>(try split)<;>omega
   have bt:n<=2000:=by omega
   have QK:1<=op:=by omega
   have QH:op<=15:=by omega
   have HA:Hid (AtIns w r q place (f place)):=QO.row.2 place (by omega);clear u B fd i1 i2 i3 i4 i5;go_enter Tryz.func193,Tryz.ntmps193;go_wp2_with fail;go_quiet (fail);have g:=ae (QJ.qN nq);have p:=ae (QO.only t ((Only.refl b w).qN nq));have o:=ae ((Only.refl b w).qN nq);clear c1 z1 c2 z2 c3 z3;generalize w.drewN nq=W at g p o ⊢;obtain⟨c2,z2⟩:=g.fld 52 (J I place) (by omega) (by simp[Mst.F,j.hpl]);obtain⟨c3,z3⟩:=g.fld 53 (J I steps) (by omega) (by simp[Mst.F,j.hst]);obtain⟨c1,z1⟩:=g.fld 51 (Y (T (N r q Z)) cnt cap) (by omega) (by simp[Mst.F]);go_wp2_with fail;have h:=ae ((g.setSteps ((steps:Int)+1)).setPlace ((place:Int)+1));have H:=ae (ci (ci o 53 (J I ((steps:Int)+1))) 52 (J I ((place:Int)+1)));clear c1 z1 c2 z2 c3 z3 g o p;generalize (W.setCell (N b 53 Z) (J I ((steps:Int)+1))).setCell (N b 52 Z) (J I ((place:Int)+1))=V at h H ⊢;have L:=ae (QO.only t H);obtain⟨c1,z1⟩:=h.fld 51 (Y (T (N r q Z)) cnt cap) (by omega) (by simp[Mst.F]);obtain⟨a0,a1,a2⟩:=L.row.2 place (by omega);rw[M] at a0;rw[hn] at a2;obtain⟨C,E⟩:∃ C:Mst,C={ m with steps:=(steps:Int)+1,place:=(place:Int)+1 }:=⟨_,rfl⟩
   rw[<-E] at h;have k1:C.size=i.length:=by rw[E];exact j.size
   have y:=ae E;have X:=j.len;clear E;go_region_with (go_at_call 211;refine(Ac b (Y (T (N r q Z)) cnt cap) C op i _ ?_ ?_ QK QH k1 X).mono ?_;(first | exact h | exact h.drew | exact h.drew.drew);(first | exact L.tab | exact(L.below br.drew).tab);rintro e QL ⟨rfl,l⟩;have QR:Hid (MAt QL b (Y (T (N r q Z)) cnt cap) C):=MAt.bel (by first | exact h | exact h.drew | exact h.drew.drew) l;have K:Hid (Only b w QL):=Only.bel (by repeat (first | exact H | apply Only.drew)) l;clear l);all_goals
    have D:=ae (QO.only t K);obtain⟨g1,y1⟩:=QR.fld 51 (Y (T (N r q Z)) cnt cap) (by omega) (by simp[Mst.F]);obtain⟨b0,b1,b2⟩:=D.row.2 place (by omega);rw[M] at b0;rw[hn] at b2;clear c1 z1 a0 a1 a2 h H;have hlt1:=QR.lt;cases hbr:eF op i with
    | false =>rw[gM hbr] at QM;go_wp2_with fail;refine(jx b _ C place _ QR hpl D.pow).mono ?_;rintro e w2 ⟨rfl,x,z⟩;have O:=ae x;have QN:=ae (K.trans z);clear x z;go_wp2;refine pF rfl rfl ?_;refine⟨rfl,⟨_,O,?_⟩,QN⟩;rw[y.out,QM.out];exact⟨by simp,by simp⟩
    | true =>
     rw[cM (by simp[hbr])] at QM;go_wp2_with fail;refine(uv b (Y (T (N r q Z)) cnt cap) C op n place looks (f place).s i _ ?_ ?_ k1 X ?_ ?_ bt hpl ?_ ?_ ?_ ?_ QK QH hbr).mono ?_
     ·exact QR
     ·rw[y.out];exact j.rep
     ·rw[y.out]
     ·exact j.le
     ·exact D.pow
     ·exact D.pwb
     ·rw[y.out];exact j.hlk
     ·exact j.lk
     rintro e w2 ⟨rfl,x,z⟩;have O:=ae x;have QN:=ae (K.trans z);clear x z;go_wp2;refine lO rfl rfl ?_;obtain⟨S,h1,h2⟩:=O.out;refine⟨rfl,⟨S,h1,?_⟩,QN⟩;rw[QM.out];rw[y.out] at h2;exact h2
theorem sW (l:List UInt8)(n:Nat):(bX l n).length<=l.length:=by
 induction n generalizing l with
 | zero =>rw[bX];have h1:=eQ l bE;have h2:((l.dropWhile bE).takeWhile (fun c=>!bE c)).length<=(l.dropWhile bE).length:=(List.takeWhile_sublist _).length_le;omega
 | succ n b =>
  rw[bX];split
  ·simp
  ·have h1:=eQ l bE
   have h2:=eQ (l.dropWhile bE) (fun c=>!bE c);have h3:=b ((l.dropWhile bE).dropWhile (fun c=>!bE c));omega
theorem o8 (s:ByteArray)(n:Nat):(fB s n).size<=s.size:=sW s.data.toList n
def pS (res:Res)(looks:Nat):Prop:=match res with
 | .inl (stk,p)=>stk.length<=50/\(∀ x∈stk,x.size<=2000)/\p<=2000
 | .inr (.inl (_,_))=>True
 | .inr (.inr (_,name,stk))=>stk.length<50/\(∀ x∈stk,x.size<=2000)/\au name=QD/\looks<200
theorem ix (op n m looks:Nat)(t:ByteArray)(b:List ByteArray)(j:b.length<=50)(f:∀ x∈b,x.size<=2000)(p:t.size<=2000)(hn:n<=2000)(hh:m<2000)(hlk:looks<=200)(h1:1<=op)(h15:op<=15)(hb:eF op b=QD):pS (cu op n t m looks b) looks:=by
 have i:∀ ask a r,b=a :: r->pS (gL ask a r m looks) looks:=by
  intro ask a r e;subst e;simp only[nD] at j;unfold gL;split
  ·trivial
  ·rename_i h1
   split
   ·trivial
   ·rename_i h2
    exact⟨by omega,fun x l=>f x (by simp[l]),by simpa using h1,by omega⟩
 simp only[eF,j5] at hb;obtain⟨g,o⟩:=hb;rcases(show op=1∨op=2∨op=3∨op=4∨op=5∨op=6∨op=7∨op=8∨op=9∨op=10∨op=11∨op=12∨op=13∨op=14∨op=15 by omega) with rfl | rfl | rfl | rfl | rfl | rfl | rfl | rfl | rfl | rfl | rfl | rfl | rfl | rfl | rfl;all_goals simp only[aT,bF] at g o
 ·refine⟨by simp at o ⊢;omega,fun x l=>?_,by omega⟩
  rcases p6.1 l with rfl | l
  ·exact p
  ·exact f x l
 ·match b,g with
  | x :: y :: r,_ =>
   show pS (if y.size+x.size<=2000 then _ else _) _;split
   ·refine⟨by simp at j ⊢;omega,fun z hz=>?_,by omega⟩
    rcases p6.1 hz with rfl | hz
    ·simp;omega
    ·exact f z (by simp[hz])
   ·trivial
 ·match b,g with
  | x :: r,_ =>
   refine⟨j,fun z hz=>?_,by omega⟩;have l:=f x (by simp);rcases p6.1 hz with rfl | hz
   ·split
    ·simp;omega
    ·exact l
   ·exact f z (by simp[hz])
 ·match b,g with
  | x :: r,_ =>
   refine⟨j,fun z hz=>?_,by omega⟩;have l:=f x (by simp);rcases p6.1 hz with rfl | hz
   ·split
    ·simp;omega
    ·decide
   ·exact f z (by simp[hz])
 ·match b,g with
  | x :: r,_ =>
   refine⟨j,fun z hz=>?_,by omega⟩;rcases p6.1 hz with rfl | hz
   ·exact p9 (o8 _ _) (f x (by simp))
   ·exact f z (by simp[hz])
 ·match b,g with
  | x :: y :: r,_ =>
   refine⟨by simp at j ⊢;omega,fun z hz=>?_,by omega⟩;rcases p6.1 hz with rfl | hz
   ·unfold eh
    split<;>decide
   ·exact f z (by simp[hz])
 ·match b,g with
  | x :: r,_ =>
   refine⟨by simp at o ⊢;omega,fun z hz=>?_,by omega⟩;rcases p6.1 hz with rfl | hz
   ·exact f _ (by simp)
   ·exact f z hz
 ·match b,g with
  | x :: y :: r,_ =>refine⟨j,fun z hz=>?_,by omega⟩;simp only[p6] at hz;exact f z (by simp only[p6];rcases hz with h | h | h<;>simp[h])
 ·match b,g with
  | x :: r,_=>exact⟨by simp at j;omega,fun z hz=>f z (by simp[hz]),by omega⟩
 ·exact⟨j,f,hn⟩
 ·match b,g with
  | x :: r,_ =>refine⟨by simp at j;omega,fun z hz=>f z (by simp[hz]),?_⟩;split<;>omega
 ·match b,g with
  | x :: r,_=>exact i QD x r rfl
 ·match b,g with
  | x :: r,_=>exact i QB x r rfl
 ·match b,g with
  | x :: r,_=>trivial
 ·match b,g with
  | x :: r,_=>trivial
theorem wR {f:Nat->Ins}{cnt place steps looks:Nat}{b:List ByteArray}{m:Mst}(g:Sim m place steps looks b)(h:cQ f cnt=QD)(hc:cnt<=200):pS (bG f cnt place steps looks b) looks:=by
 unfold bG;split
 ·trivial
 ·rename_i h1
  split
  ·trivial
  ·split
   ·trivial
   ·rename_i i
    have hi:=js h (show place<cnt by omega);simp only[cy,j5] at hi;obtain⟨i1,i2,i3,i4,i5⟩:=hi;have hmt:dM (f place).op<=2000:=by unfold dM;split<;>(try split)<;>omega
    have hmt2:bP (f place).op<=2000:=by unfold bP;split<;>omega
    exact ix _ _ _ _ _ _ g.len g.le (by omega) (by omega) (by omega) g.lk (by omega) (by omega) (by simpa using i)
abbrev Halt:=(Int × ByteArray × Nat) ⊕ (Bool × ByteArray × List ByteArray × Nat × Nat × Nat)
def kL (f:Nat->Ins)(cnt:Nat):Nat->Nat->Nat->Nat->List ByteArray->Option Halt
 | 0,_,_,_,_=>Z
 | k+1,place,steps,looks,stk=>match bG f cnt place steps looks stk with
  | .inr (.inl (c,x))=>T (.inl (c,x,(cE cnt place steps)))
  | .inr (.inr (a,nm,s))=>T (.inr (a,nm,s,(place+1),(cE cnt place steps),(looks+1)))
  | .inl (s,p)=>kL f cnt k p (cE cnt place steps) looks s
theorem jd {f:Nat->Ins}{cnt place steps looks:Nat}{b s:List ByteArray}{p:Nat}(h:bG f cnt place steps looks b=.inl (s,p)):cE cnt place steps=steps+1/\steps≠2000:=by
 unfold bG at h;unfold cE;split at h
 ·cases h
 ·split at h
  ·cases h
  ·rename_i h1 h2
   rw[cM h1,cM h2];exact⟨rfl,h2⟩
theorem ym (f:Nat->Ins)(cnt:Nat)(k:Nat):∀ place steps looks b,steps<=2000->2001<=k+steps->∃ h,kL f cnt k place steps looks b=T h:=by
 induction k with
 | zero=>intro _ _ _ _ h1 h2;omega
 | succ k i =>
  intro place steps looks b h1 h2;rw[kL];rcases hr:bG f cnt place steps looks b with ⟨s,p⟩ | ⟨c,x⟩ | ⟨a,nm,s⟩
  ·obtain⟨g,e2⟩:=jd hr
   simp only[g];exact i _ _ _ _ (by omega) (by omega)
  ·exact⟨_,rfl⟩
  ·exact⟨_,rfl⟩
def fj (m:Mst):Halt->Prop
 | .inl (c,x,k)=>m.t=⟨QD,c,x,QB,⟨#[]⟩,k⟩
 | .inr (a,nm,s,p,k,l)=>m.t=⟨QB,0,⟨#[]⟩,a,nm,k⟩/\Sim m p k l s/\au nm=QD/\s.length<50
theorem vg (b O QN cnt cap:Nat)(f:Nat->Ins)(m:Mst)(H:Halt)(w:G)(hM:MAt w b (Y (T (N O QN Z)) cnt cap) m)(hE:Env w b O QN cnt f)(hc:cnt<=200)(V:cQ f cnt=QD)
  (hH:(m.t=cO/\∃ p k l s,Sim m p k l s/\kL f cnt (2001 - k) p k l s=T H)∨fj m H) :
  Calls Tryz.prog 168 #[.pointer (T (N b 0 Z))] w fun e w'=>∃ n,e=QF n.t.v/\MAt w' b (Y (T (N O QN Z)) cnt cap) n/\fj n H/\Only b w w':=by
 have HM:=ae hM;have HE:=ae hE;have HH:=ae hH;have fd:=hM.lt;clear hM hE hH;have S:=ae (HM.al (Q #[QC QB,J I 0,U ⟨#[]⟩,QC QB,U ⟨#[]⟩,J I 0] 150));have u:w.heap.size<(w.alloc (Q #[QC QB,J I 0,U ⟨#[]⟩,QC QB,U ⟨#[]⟩,J I 0] 150)).heap.size:=by simp
 have A:=ae ((Only.refl b w).al (Q #[QC QB,J I 0,U ⟨#[]⟩,QC QB,U ⟨#[]⟩,J I 0] 150));have QL:∀ j,j<6->∃ v,(w.alloc (Q #[QC QB,J I 0,U ⟨#[]⟩,QC QB,U ⟨#[]⟩,J I 0] 150)).cell? (N w.heap.size j Z)=T v/\(w.alloc (Q #[QC QB,J I 0,U ⟨#[]⟩,QC QB,U ⟨#[]⟩,J I 0] 150)).frozen? (N w.heap.size j Z)=QB:=by intro j hj;rcases(show j=0∨j=1∨j=2∨j=3∨j=4∨j=5 by omega) with rfl | rfl | rfl | rfl | rfl | rfl;all_goals exact⟨_,by simp;rfl,by simp⟩
 have i:=ae QL;clear QL;go_enter Tryz.func168,Tryz.ntmps168;go_wp2;generalize w.alloc (Q #[QC QB,J I 0,U ⟨#[]⟩,QC QB,U ⟨#[]⟩,J I 0] 150)=w0 at S u A i ⊢;go_loopg [] 2002 (fun g wr=>∃ n,MAt wr b (Y (T (N O QN Z)) cnt cap) n/\Only b w0 wr/\((n.t=cO/\∃ p k l s,Sim n p k l s/\kL f cnt (2001 - k) p k l s=T H/\2002 - k<=g)∨fj n H));case atStart =>
  refine⟨m,S,Only.refl _ _,?_⟩;rcases HH.out with ⟨h1,p,k,l,s,h2,h3⟩ | h
  ·exact .inl ⟨h1,p,k,l,s,h2,h3,by omega⟩
  ·exact .inr h
 case round =>
  obtain⟨n,hM,hO,mv⟩:=hrel;have QM:=ae hM;have o:=ae hO;obtain⟨⟨c5,z5⟩,⟨QR,z6⟩,⟨M,z7⟩,⟨K,z8⟩,⟨P,z9⟩,y,aq⟩:=hM.turn;clear hM hO;rcases mv with ⟨q,p,k,l,s,QP,hr,hg⟩ | hst
  ·have z:=ae QP
   have la:=ae hr;have hk:=QP.st;rw[q] at c5 QR M K P y;simp only[cO] at c5 QR M K P y;have ex:=ae q;clear QP hr q;go_wp2_with fail;refine(Ad b O QN cnt cap p k l f n s _ QM z (HE.only fd (A.trans o)) V).mono ?_;rintro e w1 ⟨rfl,⟨m2,QK,r⟩,W⟩;have ld:=ae QK;have HA:=ae r;have bt:=ae (o.trans W);clear QK r W c5 QR M K P y z5 z6 z7 z8 z9 aq;obtain⟨g,rfl⟩:∃ g,gk=g+1:=⟨gk - 1,by omega⟩
   go_wp2;go_roundg g;case measure=>omega
   case rel =>
    refine⟨m2,ld,bt,?_⟩;have hR:=la.out;have hF:=wR z.out V hc;obtain⟨j,hj⟩:∃ j,2001 - k=j+1:=⟨2000 - k,by omega⟩
    rw[hj,kL] at hR;have r:=HA.out;rcases hst:bG f cnt p k l s with ⟨s2,p2⟩ | ⟨c,x⟩ | ⟨a,nm,s2⟩
    ·rw[hst] at hR r hF
     obtain⟨e1,e2⟩:=jd hst;obtain⟨a1,a2,a3,X,a5,QJ⟩:=r;obtain⟨f1,f2,QH⟩:=hF;simp only[e1] at hR a1;refine .inl ⟨by rw[QJ];exact ex,p2,k+1,l,s2,⟨a2,a3,f1,X,a1,by rw[a5];exact z.hlk,f2,QH,by omega,z.lk⟩,?_,by omega⟩;rw[show 2001 - (k+1)=j by omega];exact hR
    ·rw[hst] at hR r hF
     simp only[IF] at hR;subst hR;exact .inr r.2
    ·rw[hst] at hR r hF
     simp only[IF] at hR;subst hR;obtain⟨a1,a2,a3,X,a5,QJ⟩:=r;obtain⟨f1,f2,QH,f4⟩:=hF;have hN:cE cnt p k<=2000/\p+1<=2000:=by
      unfold bG at hst;unfold cE;split at hst
      ·cases hst
      ·split at hst
       ·cases hst
       ·rename_i h1 h2
        rw[cM h1,cM h2];omega
     exact .inr ⟨QJ,⟨a2,a3,by omega,by rw[X];simp,a1,by rw[a5];show n.looks+1=_;rw[z.hlk];simp,f2,hN.2,hN.1,by omega⟩,QH,f1⟩
  ·have R:=ae hst
   rcases H with ⟨c,x,k⟩ | ⟨a,nm,s2,p2,k2,l2⟩
   ·have q:n.t=⟨QD,c,x,QB,⟨#[]⟩,k⟩:=hst
    rw[q] at c5 QR M K P y;obtain⟨v0,C,y0⟩:=i.out 0 (by omega);obtain⟨v1,E,y1⟩:=i.out 1 (by omega);obtain⟨v2,D,y2⟩:=i.out 2 (by omega);obtain⟨v3,QO,y3⟩:=i.out 3 (by omega);obtain⟨v4,B,y4⟩:=i.out 4 (by omega);obtain⟨v5,L,y5⟩:=i.out 5 (by omega);rw[<-o.cell w.heap.size _ u (by omega)] at C E D QO B L;rw[<-o.frozen w.heap.size _ u (by omega)] at y0 y1 y2 y3 y4 y5;go_wp2;refine bp (v:=n.t.v) (by rw[q];simp[results,Tryz.results168,go_sem,Turn.v,C,E,D,QO,B,L]) rfl ?_;refine⟨n,rfl,?_,R,?_⟩
    ·exact(((((QM.other _ _ _ (by omega)).other _ _ _ (by omega)).other _ _ _ (by omega)).other _ _ _ (by omega)).other _ _ _ (by omega)).other _ _ _ (by omega)
    ·exact((((((A.trans o).setNew _ _ _ ly).setNew _ _ _ ly).setNew _ _ _ ly).setNew _ _ _ ly).setNew _ _ _ ly).setNew _ _ _ ly
   ·obtain⟨q,QP,hn,hl⟩:=hst
    rw[q] at c5 QR M K P y;have hne:nm.toList.isEmpty=QB:=by
     have h0:¬ nm.size=0:=by simp only[au,j4,j5] at hn;omega
     have:=lM h0;cases h:nm.toList with
     | nil=>exact absurd h this
     | cons _ _=>rfl
    clear QP hn hl;obtain⟨v0,C,y0⟩:=i.out 0 (by omega);obtain⟨v1,E,y1⟩:=i.out 1 (by omega);obtain⟨v2,D,y2⟩:=i.out 2 (by omega);obtain⟨v3,QO,y3⟩:=i.out 3 (by omega);obtain⟨v4,B,y4⟩:=i.out 4 (by omega);obtain⟨v5,L,y5⟩:=i.out 5 (by omega);rw[<-o.cell w.heap.size _ u (by omega)] at C E D QO B L;rw[<-o.frozen w.heap.size _ u (by omega)] at y0 y1 y2 y3 y4 y5;go_wp2;refine bp (v:=n.t.v) (by rw[q];simp[results,Tryz.results168,go_sem,Turn.v,C,E,D,QO,B,L]) rfl ?_;refine⟨n,rfl,?_,R,?_⟩
    ·exact(((((QM.other _ _ _ (by omega)).other _ _ _ (by omega)).other _ _ _ (by omega)).other _ _ _ (by omega)).other _ _ _ (by omega)).other _ _ _ (by omega)
    ·exact((((((A.trans o).setNew _ _ _ ly).setNew _ _ _ ly).setNew _ _ _ ly).setNew _ _ _ ly).setNew _ _ _ ly).setNew _ _ _ ly
def fE (c:Int)(x:ByteArray)(k:Nat):Turn:=⟨QD,c,x,QB,⟨#[]⟩,k⟩
def mM (a:Bool)(nm:ByteArray)(k:Nat):Turn:=⟨QB,0,⟨#[]⟩,a,nm,k⟩
def bT (f:Nat->Ins)(cnt:Nat)(y:Nat->aC)(n:Nat):Nat->Nat->Nat->Nat->List ByteArray->Turn
 | 0,_,_,_,_=>cO
 | k+1,place,steps,looks,stk=>match bG f cnt place steps looks stk with
  | .inr (.inl (c,x))=>fE c x (cE cnt place steps)
  | .inl (s,p)=>bT f cnt y n k p (cE cnt place steps) looks s
  | .inr (.inr (a,nm,s))=>if n<=looks then mM a nm (cE cnt place steps)
    else if a=QB then bT f cnt y n k (place+1) (cE cnt place steps) (looks+1) (eh (y looks).has :: s)
    else if (y looks).has=QB then fE 4 nm (cE cnt place steps)
    else if (y looks).code=0 then bT f cnt y n k (place+1) (cE cnt place steps) (looks+1) ((y looks).text :: s)
    else fE 5 nm (cE cnt place steps)
def ez (f:Nat->Ins)(cnt:Nat)(y:Nat->aC)(n:Nat):Halt->Turn
 | .inl (c,x,k)=>fE c x k
 | .inr (a,nm,s,p,k,l)=>if n<=l - 1 then mM a nm k
   else if a=QB then bT f cnt y n (2001 - k) p k l (eh (y (l - 1)).has :: s)
   else if (y (l - 1)).has=QB then fE 4 nm k
   else if (y (l - 1)).code=0 then bT f cnt y n (2001 - k) p k l ((y (l - 1)).text :: s)
   else fE 5 nm k
def iR (looks:Nat):Halt->Prop
 | .inl (_,_,_)=>True
 | .inr (_,_,_,_,_,l)=>l=looks+1
theorem kM {f:Nat->Ins}{cnt place steps looks:Nat}{b s:List ByteArray}{a:Bool}{nm:ByteArray}(h:bG f cnt place steps looks b=.inr (.inr (a,nm,s))):cE cnt place steps=steps+1/\steps≠2000:=by
 unfold bG at h;unfold cE;split at h
 ·cases h
 ·split at h
  ·cases h
  ·rename_i h1 h2
   rw[cM h1,cM h2];exact⟨rfl,h2⟩
theorem sX (f:Nat->Ins)(cnt:Nat)(y:Nat->aC)(n:Nat)(k:Nat):∀ place steps looks g H,steps<=2000->2001 - steps=k->kL f cnt k place steps looks g=T H ->
  bT f cnt y n k place steps looks g=ez f cnt y n H/\iR looks H:=by
 induction k with
 | zero=>intro _ _ _ _ _ h1 h2;omega
 | succ k j =>
  intro place steps looks g H h1 h2 b;rw[kL] at b;rw[bT];rcases hs:bG f cnt place steps looks g with ⟨s,p⟩ | ⟨c,x⟩ | ⟨a,nm,s⟩
  ·obtain⟨h,i⟩:=jd hs
   rw[hs] at b;simp only[h] at b ⊢;exact j _ _ _ _ _ (by omega) (by omega) b
  ·rw[hs] at b
   simp only[IF] at b;subst b;exact⟨rfl,trivial⟩
  ·obtain⟨h,i⟩:=kM hs
   rw[hs] at b;simp only[IF] at b;subst b;simp only[ez,h,JW,show 2001 - (steps+1)=k by omega];exact⟨trivial,rfl⟩
def ce (r:aC):Bool:=decide (r.text.size<=2000/\0<=r.code/\r.code<=7)
def bO (y:Nat->aC):Nat->Bool
 | 0=>QD
 | k+1=>bO y k && ce (y k)
theorem j7 {y:Nat->aC}{k n:Nat}(h:k<=n)(hn:bO y n=QD):bO y k=QD:=by
 induction n with
 | zero =>
  obtain rfl:k=0:=by omega
  exact hn
 | succ m b =>
  by_cases e:k=m+1
  ·subst e;exact hn
  ·simp only[bO,j4] at hn
   exact b (by omega) hn.1
theorem gi {y:Nat->aC}{k n:Nat}(h:k<n)(b:ce (y k)=QB):bO y n=QB:=by
 cases e:bO y n with
 | false=>rfl
 | true =>have h2:=j7 (show k+1<=n by omega) e;simp[bO,b] at h2
theorem Ae {y:Nat->aC}{k n:Nat}(h:bO y n=QD)(hk:k<n):(y k).text.size<=2000/\0<=(y k).code/\(y k).code<=7:=by have:=j7 (show k+1<=n by omega) h;simp only[bO,j4,ce,j5] at this;exact this.2
end Go.Proofs.YtamacmnikdejeaaGreatDoor.Vp
