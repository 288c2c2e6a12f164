import Derived.Test.YtkdimgejdocbbaaGreatDoorYF
import Derived.Test.YtkdimgejdocbbaaGreatDoorYH
set_option maxRecDepth 1000000
set_option maxHeartbeats 4000000
open Go.Addr renaming mk->J
open Go.Value renaming slice->Y,string->U,int->N,bool->QA
open Option renaming none->Z,some->Q
open Go.Obj renaming cells->T
open Go.IntKind renaming i64->I
open Go renaming World->E,Value->QB
open Bool renaming false->D,true->QC
open Go.Ending renaming returned->QD
namespace Go.Proofs.YtkdimgejdocbbaaGreatDoor.Vp
open RowKit
def Rep (S:Nat->ByteArray):List ByteArray->Prop
 | []=>True
 | x :: r=>S r.length=x/\Rep S r
theorem Rep.upd {S:Nat->ByteArray}{r:List ByteArray}{k:Nat}(x:ByteArray)(h:Rep S r)(b:r.length<=k):Rep (upd S k x) r:=by
 induction r with
 | nil=>trivial
 | cons y r d =>simp only[o3] at b;refine⟨?_,d h.2 (by omega)⟩;unfold Vp.upd;rw[a8 (by omega)];exact h.1
theorem Rep.push {S:Nat->ByteArray}{r:List ByteArray}(x:ByteArray)(h:Rep S r):Rep (Vp.upd S r.length x) (x :: r) :=
 ⟨by simp[Vp.upd],h.upd x lr⟩
abbrev Res:=(List ByteArray × Nat) ⊕ (Int × ByteArray) ⊕ (Bool × ByteArray × List ByteArray)
def gR (ask:Bool)(a:ByteArray)(r:List ByteArray)(b looks:Nat):Res :=
 if au a=D then .inr (.inl (2,(dI b))) else if looks=200 then .inr (.inl (3,⟨#[]⟩)) else .inr (.inr (ask,a,r))
def cC (op n:Nat)(t:ByteArray)(d looks:Nat)(f:List ByteArray):Res :=
 match op,f with
 | 1,f=>.inl ((t :: f),(d+1))
 | 2,b :: a :: r=>if a.size+b.size<=2000 then .inl (((a++b) :: r),(d+1)) else .inr (.inl (2,(dI d)))
 | 3,a :: r=>.inl (((if n<a.size then a.extract 0 n else a) :: r),(d+1))
 | 4,a :: r=>.inl (((if n<a.size then a.extract n a.size else ⟨#[]⟩) :: r),(d+1))
 | 5,a :: r=>.inl ((fA a n :: r),(d+1))
 | 6,b :: a :: r=>.inl ((dX (b.toList == a.toList) :: r),(d+1))
 | 7,a :: r=>.inl ((a :: a :: r),(d+1))
 | 8,b :: a :: r=>.inl ((a :: b :: r),(d+1))
 | 9,_ :: r=>.inl (r,(d+1))
 | 10,f=>.inl (f,n)
 | 11,a :: r=>.inl (r,(if a.toList=[]∨(a.toList == [48])=QC then n else d+1))
 | 12,a :: r=>gR QC a r d looks
 | 13,a :: r=>gR D a r d looks
 | 14,a :: _=>.inr (.inl (1,a))
 | 15,a :: _=>.inr (.inl (0,a))
 | _,_=>.inr (.inl (0,⟨#[]⟩))
def After (m b:Mst)(res:Res):Prop:=b.steps=m.steps/\match res with
 | .inl (stk,p)=>Rep b.S stk/\b.size=stk.length/\b.place=p/\b.looks=m.looks/\b.t=m.t
 | .inr (.inl (c,x))=>b.t=⟨QC,c,x,D,⟨#[]⟩,m.steps⟩
 | .inr (.inr (ask,name,stk))=>Rep b.S stk/\b.size=stk.length/\b.place=m.place/\b.looks=m.looks+1/\b.t=⟨D,0,⟨#[]⟩,ask,name,m.steps⟩
theorem MAt.bel {w d:E}{b:Nat}{cv:QB}{m:Mst}(h:MAt w b cv m)(f:Below w.heap.size w d):MAt d b cv m:=h.below f h.lt
theorem Only.bel {b:Nat}{u w d:E}(h:Only b u w)(f:Below w.heap.size w d):Only b u d:=h.trans (Only.of_below f)
theorem Only.frozen {b:Nat}{w d:E}(h:Only b w d)(k o:Nat)(f:k<w.heap.size)(hb:k≠b):d.frozen? (J k o Z)=w.frozen? (J k o Z):=DC (w:=w) (a:=(J k o Z)) (h.block k f hb)
theorem Only.setNew {b:Nat}{w W:E}(h:Only b w W)(k o:Nat)(v:QB)(hk:w.heap.size<=k):Only b w (W.setCell (J k o Z) v) :=
 ⟨h.os,h.tape,h.output,by simpa[World.setCell] using h.size,fun i hi g=>(qh _ _ _ _ (by simp;omega)).trans (h.block i hi g),fun f t fz hb=>by
  obtain⟨d,h1⟩:=h.ty f t fz hb;have hbl:=aC hb
  exact⟨d,(qh _ _ _ _ (by simp;omega)).trans h1⟩⟩
theorem MAt.other {w:E}{b:Nat}{cv:QB}{m:Mst}(h:MAt w b cv m)(k o:Nat)(v:QB)(f:k≠b):MAt (w.setCell (J k o Z) v) b cv m :=
 ⟨by simpa using h.1,fun j d=>⟨(cell_far w (J k o Z) (J b j Z) v f).trans (h.2 j d).1,by have:=(h.2 j d).2;simpa using this⟩⟩
theorem CH (b:Nat)(cv:QB)(m:Mst)(k:Nat)(v:ByteArray)(w:E)(hM:MAt w b cv m)(f:m.size=k+1)(h:k<50)(g:m.S k=v):Calls Tryz.prog 247 #[.pointer (Q (J b 0 Z))] w fun e d=>e=QD (U v)/\MAt d b cv { m with size:=k }/\Only b w d:=by rw[<-g];exact jY b cv m k w hM f h
theorem MAt.drew {w:E}{b:Nat}{cv:QB}{m:Mst}(h:MAt w b cv m):MAt w.drew b cv m:=h.below br.drew (lj _)
theorem MAt.al {w:E}{b:Nat}{cv:QB}{m:Mst}(h:MAt w b cv m)(o:Obj):MAt (w.alloc o) b cv m:=h.below ((eI w.heap.size _).alloc lr _) h.lt
structure Pf (b:Nat)(cv:QB)(m:Mst)(w:E)(n:Nat)(s:List ByteArray)(V:E)(u:Mst):Prop where
 mt:MAt V b cv u
 rep:Rep u.S s
 size:u.size=s.length
 on:Only b w V
 arg:V.cell? (J w.heap.size 2 Z)=Q (N I n)
 far:w.heap.size≠b/\w.heap.size<V.heap.size
 rest:u.place=m.place/\u.looks=m.looks/\u.steps=m.steps/\u.t=m.t
section
variable {b n:Nat}{cv:QB}{m u:Mst}{w V:E}{s:List ByteArray}{x:ByteArray}
theorem Pf.go {QJ:E}{v:Mst}{r:List ByteArray}(h:Pf b cv m w n s V u)(f:Only b V QJ)(hM:MAt QJ b cv v)(g:Rep v.S r)(hz:v.size=r.length)(d:v.place=u.place/\v.looks=u.looks/\v.steps=u.steps/\v.t=u.t):Pf b cv m w n r QJ v :=
 ⟨hM,g,hz,h.on.trans f,(f.cell _ 2 h.far.2 h.far.1).trans h.arg,⟨h.far.1,ll h.far.2 f.size⟩,d.1.trans h.rest.1,d.2.1.trans h.rest.2.1,d.2.2.1.trans h.rest.2.2.1,d.2.2.2.trans h.rest.2.2.2⟩
theorem Pf.drew (h:Pf b cv m w n s V u):Pf b cv m w n s V.drew u:=h.go (Only.refl _ _).drew h.mt.drew h.rep h.size ⟨rfl,rfl,rfl,rfl⟩
theorem Pf.below {QJ:E}(h:Pf b cv m w n s V u)(d:Below V.heap.size V QJ):Pf b cv m w n s QJ u:=h.go (Only.of_below d) (h.mt.bel d) h.rep h.size ⟨rfl,rfl,rfl,rfl⟩
theorem Pf.fin {p:Nat}(h:Pf b cv m w n s V u)(f:m.place=p):(∃ d,MAt V b cv d/\After m d (.inl (s,p)))/\Only b w V:=⟨⟨u,h.mt,h.rest.2.2.1,h.rep,h.size,h.rest.1.trans f,h.rest.2.1,h.rest.2.2.2⟩,h.on⟩
theorem Pf.jump (h:Pf b cv m w n s V u):(∃ d,MAt (V.setCell (J b 52 Z) (N I n)) b cv d/\After m d (.inl (s,n)))/\Only b w (V.setCell (J b 52 Z) (N I n)):=⟨⟨_,h.mt.setPlace _,h.rest.2.2.1,h.rep,h.size,rfl,h.rest.2.1,h.rest.2.2.2⟩,bZ h.on _ _⟩
theorem CJ {o:Obj}(h:MAt w b cv m/\Rep m.S s/\m.size=s.length):(∃ d,MAt ((w.setCell (J b 52 Z) (N I n)).alloc o) b cv d/\After m d (.inl (s,n)))/\Only b w ((w.setCell (J b 52 Z) (N I n)).alloc o):=⟨⟨_,(h.1.setPlace _).al _,rfl,h.2.1,h.2.2,rfl,rfl,rfl⟩,(bZ (Only.refl _ _) _ _).al _⟩
theorem uN (h:Pf b cv m w n (x :: s) V u)(d:(x :: s).length<=50):Calls Tryz.prog 247 #[.pointer (Q (J b 0 Z))] V fun e QJ=>e=QD (U x)/\∃ v,Pf b cv m w n s QJ v:=by simp only[o3] at d;refine(CH b cv u s.length x V h.mt (by rw[h.size];rfl) (by omega) h.rep.1).mono ?_;rintro e QJ ⟨rfl,hM,f⟩;exact⟨rfl,_,h.go f hM h.rep.2 rfl ⟨rfl,rfl,rfl,rfl⟩⟩
theorem yj (y:ByteArray)(h:Pf b cv m w n s V u)(d:s.length<50):Calls Tryz.prog 171 #[.pointer (Q (J b 0 Z)),U y] V fun e QJ=>e=QD (.tuple #[])/\∃ v,Pf b cv m w n (y :: s) QJ v:=by refine(oX b cv u y V h.mt (by rw[h.size];exact d)).mono ?_;rintro e QJ ⟨rfl,hM,f⟩;exact⟨rfl,_,h.go f hM (by rw[h.size];exact h.rep.push y) (by simp[h.size]) ⟨rfl,rfl,rfl,rfl⟩⟩
theorem Eh (c:Int)(y:ByteArray)(h:Pf b cv m w n s V u):Calls Tryz.prog 173 #[.pointer (Q (J b 0 Z)),N I c,U y] V fun e QJ=>e=QD (.tuple #[])/\(∃ d,MAt QJ b cv d/\After m d (.inr (.inl (c,y))))/\Only b w QJ:=by refine(jL b cv u c y V h.mt).mono ?_;rintro e QJ ⟨rfl,hM,f⟩;exact⟨rfl,⟨_,hM,h.rest.2.2.1,by rw[<-h.rest.2.2.1]⟩,h.on.trans f⟩
theorem CK {y:ByteArray}{p:Nat}(h:Pf b cv m w n (x :: y :: s) V u)(j:(x :: y :: s).length<=50)(o:p<=2000)(r:Pow V)(d:2<b)(l:x.size<=2000)(q:y.size<=2000)(hpl:m.place=p+1):Calls Tryz.prog 246 #[.pointer (Q (J b 0 Z)),N I p] V fun e QJ=>e=QD (.tuple #[])/\(∃ f,MAt QJ b cv f/\After m f (cC 2 n ⟨#[]⟩ p 0 (x :: y :: s)))/\Only b w QJ:=by
 have i:u.S (s.length+1)=x:=h.rep.1;have g:u.S s.length=y:=h.rep.2.1;simp only[o3] at j;refine(zZ b cv u s.length p V h.mt (by rw[h.size];rfl) (by omega) o r d (by rw[g];exact q) (by rw[i];exact l)).mono ?_;rw[i,g];rintro e QJ ⟨rfl,hM,k⟩;refine⟨rfl,⟨_,hM,?_⟩,h.on.trans k⟩;show After m _ (if y.size+x.size<=2000 then _ else _);split
 ·exact⟨h.rest.2.2.1,h.rep.2.2.push _,by simp,h.rest.1.trans hpl,h.rest.2.1,h.rest.2.2.2⟩
 ·exact⟨h.rest.2.2.1,by rw[<-h.rest.2.2.1];rfl⟩
theorem CO {p looks:Nat}{ask:Bool}(h:Pf b cv m w n (x :: s) V u)(i:(x :: s).length<=50)(l:p<=2000)(q:Pow V)(f:2<b)(hlk:m.looks=looks)(h2:looks<=200):Calls Tryz.prog 249 #[.pointer (Q (J b 0 Z)),QA ask,N I p] V fun e QJ=>e=QD (.tuple #[])/\(∃ g,MAt QJ b cv g/\After m g (gR ask x s p looks))/\Only b w QJ:=by
 have o:u.S s.length=x:=h.rep.1;have k:u.looks=looks:=h.rest.2.1.trans hlk;simp only[o3] at i;refine(Aa b cv u ask s.length p V h.mt (by rw[h.size];rfl) (by omega) l (by omega) (by omega) q f).mono ?_;rw[o];rintro e QJ ⟨rfl,hM,j⟩;refine⟨rfl,⟨_,hM,?_⟩,h.on.trans j⟩;unfold gR;split
 ·exact⟨h.rest.2.2.1,by rw[<-h.rest.2.2.1];rfl⟩
 ·rw[k]
  by_cases d:looks=200
  ·rw[eT (by omega),eT d]
   exact⟨h.rest.2.2.1,by rw[<-h.rest.2.2.1]⟩
  ·rw[a8 (by omega),a8 d]
   exact⟨h.rest.2.2.1,h.rep.2,rfl,h.rest.1,by simp[hlk],by rw[<-h.rest.2.2.1]⟩
theorem oC (h:1<=s.length):∃ x r,s=x :: r:=by
 cases s with
 | nil=>simp at h
 | cons x r=>exact⟨x,r,rfl⟩
theorem Ei (h:2<=s.length):∃ x y r,s=x :: y :: r:=by obtain⟨x,r,rfl⟩:=oC (show 1<=s.length by omega);obtain⟨y,t,rfl⟩:=oC (s:=r) (by simp at h;omega);exact⟨x,y,t,rfl⟩
theorem Ej (a:ByteArray)(n:Nat):a.extract 0 (min (n:Int) (a.size:Int)).toNat=if n<a.size then a.extract 0 n else a:=by
 split
 ·rw[show(min (n:Int) (a.size:Int)).toNat=n by omega]
 ·rw[show(min (n:Int) (a.size:Int)).toNat=a.size by omega];simp
theorem Ek (a:ByteArray)(n:Nat):a.extract (min (n:Int) (a.size:Int)).toNat a.size=if n<a.size then a.extract n a.size else ⟨#[]⟩:=by
 split
 ·rw[show(min (n:Int) (a.size:Int)).toNat=n by omega]
 ·rw[show(min (n:Int) (a.size:Int)).toNat=a.size by omega];exact lw (by simp)
end
def eC (op:Nat)(b:List ByteArray):Bool:=decide (aM op<=b.length/\b.length - aM op+bG op<=50)
theorem t6 (b:Nat)(cv:QB)(m:Mst)(op n f looks:Nat)(t:ByteArray)(d:List ByteArray)(w:E)(hM:MAt w b cv m)(hR:Rep m.S d)(hz:m.size=d.length)(QM:d.length<=50)(M:m.place=f+1)
 (p:∀ x∈d,x.size<=2000) (QN:n<=2000) (QO:f<=2000) (QP:Pow w) (A:2<b) (hlk:m.looks=looks) (G:looks<=200) (h1:1<=op) (h15:op<=15) (hb:eC op d=QC) :
 Calls Tryz.prog 224 #[.pointer (Q (J b 0 Z)),.agg #[N I op,U t,N I n],N I f] w fun e K=>e=QD (.tuple #[])/\(∃ L,MAt K b cv L/\After m L (cC op n t f looks d))/\Only b w K:=by
 simp only[eC,j4] at hb;obtain⟨g,z⟩:=hb;have hlt:=hM.lt;have H:Hid (Pf b cv m w n d (w.alloc (T #[N I op,U t,N I n] 188)) m):=⟨hM.al _,hR,hz,(Only.refl b w).al _,by simp,⟨by omega,by simp⟩,rfl,rfl,rfl,rfl⟩
 have QQ:Hid (Pow (w.alloc (T #[N I op,U t,N I n] 188))):=QP.low ((Qs w).alloc lr _) (by omega);have O:=ae (And.intro hM (And.intro hR hz));obtain⟨c3,z3⟩:=hM.fld 52 (N I m.place) (by omega) (by simp[Mst.F]);obtain⟨res,i⟩:∃ res,res=cC op n t f looks d:=⟨_,rfl⟩
 rw[<-i];have s:=ae i;clear hM hR QP hz i;rcases(show op=1∨op=2∨op=3∨op=4∨op=5∨op=6∨op=7∨op=8∨op=9∨op=10∨op=11∨op=12∨op=13∨op=14∨op=15 by omega) with rfl | rfl | rfl | rfl | rfl | rfl | rfl | rfl | rfl | rfl | rfl | rfl | rfl | rfl | rfl;rotate_left 10;obtain⟨x,r,rfl⟩:=oC (show 1<=d.length from g);have l:res=.inl (r,if x.toList=[]∨(x.toList == [48])=QC then n else f+1):=s.out;clear s;by_cases B:x.toList=[]
 case' neg =>
  have heb:x.toList.isEmpty=D:=by simp[B]
  cases h48:(x.toList == [48])
 case' neg.false =>rw[a8 (by simp[B,h48])] at l;have h49:¬ x.toList=[48]:=by simpa using h48
 case' neg.true=>rw[eT (.inr h48)] at l
 case' pos=>rw[eT (.inl B)] at l
 case' neg.false | neg.true | pos=>(have s:=ae l;clear l)
 all_goals
  simp only[aM,bG] at g z
  (try obtain⟨x,y,r,rfl⟩:=Ei g)
  (try obtain⟨x,r,rfl⟩:=oC g)
  clear g
  (try have C:=p x (by simp))
  (try have P:=p y (by simp))
  clear p
  (try simp only[o3] at QM)
  (try simp at z)
  go_enter Tryz.func224,Tryz.ntmps224;have j:=H.arg
  go_wp2_with (first
   | (go_at_call 247;refine(uN (by first | exact H | exact H.drew | exact H.drew.drew | exact H.drew.drew.drew) (by(try simp only[o3]);omega)).mono ?_;rintro e V ⟨rfl,u,h⟩;replace H:=ae h;clear h;have j:=H.arg;obtain⟨c2,z2⟩:=H.mt.fld 52 (N I m.place) (by omega) (by simp[Mst.F,H.rest.1]);have o:=H.mt.lt)
   | (go_at_call 171;refine(yj _ (by first | exact H | exact H.drew | exact H.drew.drew | exact H.drew.drew.drew) (by(try simp only[o3]);omega)).mono ?_;rintro e V ⟨rfl,u,h⟩;replace H:=ae h;clear h;have j:=H.arg;obtain⟨c2,z2⟩:=H.mt.fld 52 (N I m.place) (by omega) (by simp[Mst.F,H.rest.1]);have o:=H.mt.lt)
   | (go_at_call 172;refine(lP _ _).mono ?_;rintro e QJ ⟨rfl,q⟩;rw[q];clear q)
   | (go_at_call 248;refine(oy x n _ C QN).mono ?_;rintro e QJ ⟨rfl,k⟩;replace H:=ae (Pf.below (by first | exact H | exact H.drew | exact H.drew.drew | exact H.drew.drew.drew) k);clear k;have j:=H.arg)
   | (go_at_call 246;refine(CK H (by(try simp only[o3]);omega) QO QQ A C P M).mono ?_;rintro e QJ ⟨rfl,hF⟩;have F:=ae hF;clear hF)
   | (go_at_call 249;refine(CO H (by(try simp only[o3]);omega) QO QQ A hlk G).mono ?_;rintro e QJ ⟨rfl,hF⟩;have F:=ae hF;clear hF)
   | (go_at_call 173;refine(Eh _ _ H).mono ?_;rintro e QJ ⟨rfl,hF⟩;have F:=ae hF;clear hF))
  (try go_region_with (first
   | (go_at_call 247;refine(uN (by first | exact H | exact H.drew | exact H.drew.drew | exact H.drew.drew.drew) (by(try simp only[o3]);omega)).mono ?_;rintro e V ⟨rfl,u,h⟩;replace H:=ae h;clear h;have j:=H.arg;obtain⟨c2,z2⟩:=H.mt.fld 52 (N I m.place) (by omega) (by simp[Mst.F,H.rest.1]);have o:=H.mt.lt)
   | (go_at_call 171;refine(yj _ (by first | exact H | exact H.drew | exact H.drew.drew | exact H.drew.drew.drew) (by(try simp only[o3]);omega)).mono ?_;rintro e V ⟨rfl,u,h⟩;replace H:=ae h;clear h;have j:=H.arg;obtain⟨c2,z2⟩:=H.mt.fld 52 (N I m.place) (by omega) (by simp[Mst.F,H.rest.1]);have o:=H.mt.lt)
   | (go_at_call 172;refine(lP _ _).mono ?_;rintro e QJ ⟨rfl,q⟩;rw[q];clear q)
   | (go_at_call 248;refine(oy x n _ C QN).mono ?_;rintro e QJ ⟨rfl,k⟩;replace H:=ae (Pf.below (by first | exact H | exact H.drew | exact H.drew.drew | exact H.drew.drew.drew) k);clear k;have j:=H.arg)))
  all_goals
   (try rw[Ej] at H)
   (try rw[Ek] at H)
   (try go_wp2)
   (try refine lI rfl rfl ?_)
   (try rw[s.out])
   first
    | exact⟨rfl,F⟩
    | exact⟨rfl,H.fin M⟩
    | exact⟨rfl,H.jump⟩
    | exact⟨rfl,CJ O⟩
def bH (f:Nat->Ins)(cnt place steps looks:Nat)(b:List ByteArray):Res :=
 if cnt<=place then .inr (.inl (2,(dI place))) else if steps=2000 then .inr (.inl (3,⟨#[]⟩)) else
  if eC (f place).op.toNat b=D then .inr (.inl (2,(dI place))) else cC (f place).op.toNat (f place).n.toNat (f place).s place looks b
def cF (cnt place steps:Nat):Nat:=if cnt<=place then steps else if steps=2000 then steps else steps+1
theorem MAt.qN {w:E}{b:Nat}{cv:QB}{m:Mst}(h:MAt w b cv m)(n:Nat):MAt (w.drewN n) b cv m:=h.bel (wC br n)
theorem Only.qN {b:Nat}{u w:E}(h:Only b u w)(n:Nat):Only b u (w.drewN n):=h.bel (wC br n)
theorem Aj (b:Nat)(cv:QB)(m:Mst)(op:Nat)(d:List ByteArray)(w:E)(hM:MAt w b cv m)(f:Tab2 w)(h1:1<=op)(h2:op<=15)(hz:m.size=d.length)(hl:d.length<=50):Calls Tryz.prog 223 #[.pointer (Q (J b 0 Z)),N I op] w fun e g=>e=QD (QA (eC op d))/\Below w.heap.size w g:=by have:=bears_any b cv m op w hM f (by omega) (by omega) (by omega);rw[hz] at this;exact this
structure Env (w:E)(b pb po cnt:Nat)(f:Nat->Ins):Prop where
 row:RowIns w pb po cnt f
 tab:Tab2 w
 pow:Pow w
 pbb:pb<b
 tbb:0<b
 pwb:2<b
theorem Env.below {w g:E}{b d j cnt:Nat}{f:Nat->Ins}(h:Env w b d j cnt f)(hb:Below b w g):Env g b d j cnt f :=
 ⟨⟨ll h.row.1 hb.size,fun i hi=>(h.row.2 i hi).below hb h.pbb⟩,h.tab.below hb h.tbb,h.pow.low hb h.pwb,h.pbb,h.tbb,h.pwb⟩
theorem Env.only {w g:E}{b d i cnt:Nat}{f:Nat->Ins}(h:Env w b d i cnt f)(j:b<w.heap.size)(hb:Only b w g):Env g b d i cnt f:=h.below (hb.below lr (J9 j))
structure Sim (m:Mst)(place steps looks:Nat)(stk:List ByteArray):Prop where
 rep:Rep m.S stk
 size:m.size=stk.length
 len:stk.length<=50
 hpl:m.place=place
 hst:m.steps=steps
 hlk:m.looks=looks
 le:∀ x∈stk,x.size<=2000
 pl:place<=2000
 st:steps<=2000
 lk:looks<=200
theorem Ak (b p o cnt j place steps looks:Nat)(f:Nat->Ins)(m:Mst)(h:List ByteArray)(w:E)(hM:MAt w b (Y (Q (J p o Z)) cnt j) m)(H:Sim m place steps looks h)(hE:Env w b p o cnt f)(aq:cQ f cnt=QC):Calls Tryz.prog 170 #[.pointer (Q (J b 0 Z))] w fun e w'=>e=QD (.tuple #[]) /\
   (∃ S,MAt w' b (Y (Q (J p o Z)) cnt j) S/\After { m with steps:=cF cnt place steps,place:=place+1 } S (bH f cnt place steps looks h))/\Only b w w':=by
 have QG:=ae hM;have QO:=ae hE;have i:=ae H;have y:=hM.lt;have hpl:=H.pl;have hst:=H.st;obtain⟨c1,z1⟩:=hM.fld 51 (Y (Q (J p o Z)) cnt j) (by omega) (by simp[Mst.F]);obtain⟨c2,z2⟩:=hM.fld 52 (N I place) (by omega) (by simp[Mst.F,H.hpl]);obtain⟨c3,z3⟩:=hM.fld 53 (N I steps) (by omega) (by simp[Mst.F,H.hst]);clear hM hE H;by_cases h1:cnt<=place
 ·have z:bH f cnt place steps looks h=.inr (.inl (2,(dI place))):=by simp[bH,h1]
  have A:cF cnt place steps=steps:=by simp[cF,h1]
  rw[z,A];clear z A;go_enter Tryz.func170,Tryz.ntmps170;go_wp2_with fail;go_quiet (fail);have d:=ae (QG.qN nq);have q:=ae (QO.only y ((Only.refl b w).qN nq));have l:=ae ((Only.refl b w).qN nq);clear c1 z1 c2 z2 c3 z3;generalize w.drewN nq=W at d q l ⊢;obtain⟨c2,z2⟩:=d.fld 52 (N I place) (by omega) (by simp[Mst.F,i.hpl]);obtain⟨c3,z3⟩:=d.fld 53 (N I steps) (by omega) (by simp[Mst.F,i.hst]);go_wp2_with fail;refine(jl b _ m place _ d hpl q.pow).mono ?_;rintro e QL ⟨rfl,u,k⟩;have g:=ae u;have O:=ae (l.trans k);clear u k;go_wp2;refine oW rfl rfl ?_;exact⟨rfl,⟨_,g,i.hst,by rw[i.hst]⟩,O.out⟩
 ·have h1':(place:Int)<cnt:=by omega
  by_cases h2:steps=2000
  ·have z:bH f cnt place steps looks h=.inr (.inl (3,⟨#[]⟩)):=by simp[bH,h1,h2]
   have A:cF cnt place steps=steps:=by simp[cF,h1,h2]
   rw[z,A];clear z A;have fd:((steps:Int) == 2000)=QC:=by simp;omega
   go_enter Tryz.func170,Tryz.ntmps170;go_wp2_with fail;go_quiet (fail);have d:=ae (QG.qN nq);have q:=ae (QO.only y ((Only.refl b w).qN nq));have l:=ae ((Only.refl b w).qN nq);clear c1 z1 c2 z2 c3 z3;generalize w.drewN nq=W at d q l ⊢;obtain⟨c2,z2⟩:=d.fld 52 (N I place) (by omega) (by simp[Mst.F,i.hpl]);obtain⟨c3,z3⟩:=d.fld 53 (N I steps) (by omega) (by simp[Mst.F,i.hst]);go_wp2_with fail;refine(jL b _ m _ _ _ d).mono ?_;rintro e QL ⟨rfl,u,k⟩;have g:=ae u;have O:=ae (l.trans k);clear u k;go_wp2;refine oW rfl rfl ?_;exact⟨rfl,⟨_,g,i.hst,by rw[i.hst]⟩,O.out⟩
  ·have fd:((steps:Int) == 2000)=D:=by simp;omega
   have A:cF cnt place steps=steps+1:=by simp[cF,h1,h2]
   have hi:=jj aq (show place<cnt by omega);simp only[cD,j4] at hi;obtain⟨i1,i2,i3,i4,i5⟩:=hi;obtain⟨op,M⟩:=xT (show 0<=(f place).op by omega);obtain⟨n,QH⟩:=xT i4;have z:bH f cnt place steps looks h=if eC op h=D then .inr (.inl (2,(dI place))) else cC op n (f place).s place looks h:=by simp only[bH,h1,h2,LM,M,QH,KQ]
   rw[z,A];obtain⟨R,hR⟩:∃ R:Res,R=(if eC op h=D then .inr (.inl (2,(dI place))) else cC op n (f place).s place looks h):=⟨_,rfl⟩
   rw[<-hR];have P:=ae hR;clear hR;have bt:dK (f place).op<=2000:=by unfold dK;split<;>(try split)<;>omega
   have ex:n<=2000:=by omega
   have X:1<=op:=by omega
   have QK:op<=15:=by omega
   have HA:Hid (AtIns w p o place (f place)):=QO.row.2 place (by omega);clear z A bt i1 i2 i3 i4 i5;go_enter Tryz.func170,Tryz.ntmps170;go_wp2_with fail;go_quiet (fail);have d:=ae (QG.qN nq);have q:=ae (QO.only y ((Only.refl b w).qN nq));have l:=ae ((Only.refl b w).qN nq);clear c1 z1 c2 z2 c3 z3;generalize w.drewN nq=W at d q l ⊢;obtain⟨c2,z2⟩:=d.fld 52 (N I place) (by omega) (by simp[Mst.F,i.hpl]);obtain⟨c3,z3⟩:=d.fld 53 (N I steps) (by omega) (by simp[Mst.F,i.hst]);obtain⟨c1,z1⟩:=d.fld 51 (Y (Q (J p o Z)) cnt j) (by omega) (by simp[Mst.F]);go_wp2_with fail;have g:=ae ((d.setSteps ((steps:Int)+1)).setPlace ((place:Int)+1));have QP:=ae (bZ (bZ l 53 (N I ((steps:Int)+1))) 52 (N I ((place:Int)+1)));clear c1 z1 c2 z2 c3 z3 d l q;generalize (W.setCell (J b 53 Z) (N I ((steps:Int)+1))).setCell (J b 52 Z) (N I ((place:Int)+1))=V at g QP ⊢;have L:=ae (QO.only y QP);obtain⟨c1,z1⟩:=g.fld 51 (Y (Q (J p o Z)) cnt j) (by omega) (by simp[Mst.F]);obtain⟨a0,a1,a2⟩:=L.row.2 place (by omega);rw[M] at a0;rw[QH] at a2;obtain⟨B,G⟩:∃ B:Mst,B={ m with steps:=(steps:Int)+1,place:=(place:Int)+1 }:=⟨_,rfl⟩
   rw[<-G] at g;have k1:B.size=h.length:=by rw[G];exact i.size
   have r:=ae G;have QJ:=i.len;clear G;go_region_with (go_at_call 223;refine(Aj b (Y (Q (J p o Z)) cnt j) B op h _ ?_ ?_ X QK k1 QJ).mono ?_;(first | exact g | exact g.drew | exact g.drew.drew);(first | exact L.tab | exact(L.below br.drew).tab);rintro e QL ⟨rfl,k⟩;have QQ:Hid (MAt QL b (Y (Q (J p o Z)) cnt j) B):=MAt.bel (by first | exact g | exact g.drew | exact g.drew.drew) k;have QM:Hid (Only b w QL):=Only.bel (by repeat (first | exact QP | apply Only.drew)) k;clear k);all_goals
    have C:=ae (QO.only y QM);obtain⟨g1,y1⟩:=QQ.fld 51 (Y (Q (J p o Z)) cnt j) (by omega) (by simp[Mst.F]);obtain⟨b0,b1,b2⟩:=C.row.2 place (by omega);rw[M] at b0;rw[QH] at b2;clear c1 z1 a0 a1 a2 g QP;have hlt1:=QQ.lt;cases hbr:eC op h with
    | false =>rw[eT hbr] at P;go_wp2_with fail;refine(jl b _ B place _ QQ hpl C.pow).mono ?_;rintro e w2 ⟨rfl,x,t⟩;have K:=ae x;have QN:=ae (QM.trans t);clear x t;go_wp2;refine oW rfl rfl ?_;refine⟨rfl,⟨_,K,?_⟩,QN⟩;rw[r.out,P.out];exact⟨by simp,by simp⟩
    | true =>
     rw[a8 (by simp[hbr])] at P;go_wp2_with fail;refine(t6 b (Y (Q (J p o Z)) cnt j) B op n place looks (f place).s h _ ?_ ?_ k1 QJ ?_ ?_ ex hpl ?_ ?_ ?_ ?_ X QK hbr).mono ?_
     ·exact QQ
     ·rw[r.out];exact i.rep
     ·rw[r.out]
     ·exact i.le
     ·exact C.pow
     ·exact C.pwb
     ·rw[r.out];exact i.hlk
     ·exact i.lk
     rintro e w2 ⟨rfl,x,t⟩;have K:=ae x;have QN:=ae (QM.trans t);clear x t;go_wp2;refine lI rfl rfl ?_;obtain⟨S,h1,h2⟩:=K.out;refine⟨rfl,⟨S,h1,?_⟩,QN⟩;rw[P.out];rw[r.out] at h2;exact h2
theorem su (l:List UInt8)(n:Nat):(ci l n).length<=l.length:=by
 induction n generalizing l with
 | zero =>rw[ci];have h1:=eS l bE;have h2:((l.dropWhile bE).takeWhile (fun c=>!bE c)).length<=(l.dropWhile bE).length:=(List.takeWhile_sublist _).length_le;omega
 | succ n b =>
  rw[ci];split
  ·simp
  ·have h1:=eS l bE
   have h2:=eS (l.dropWhile bE) (fun c=>!bE c);have h3:=b ((l.dropWhile bE).dropWhile (fun c=>!bE c));omega
theorem oD (s:ByteArray)(n:Nat):(fA s n).size<=s.size:=su s.data.toList n
def pd (res:Res)(looks:Nat):Prop:=match res with
 | .inl (stk,p)=>stk.length<=50/\(∀ x∈stk,x.size<=2000)/\p<=2000
 | .inr (.inl (_,_))=>True
 | .inr (.inr (_,name,stk))=>stk.length<50/\(∀ x∈stk,x.size<=2000)/\au name=QC/\looks<200
theorem iu (op n k looks:Nat)(t:ByteArray)(b:List ByteArray)(i:b.length<=50)(d:∀ x∈b,x.size<=2000)(m:t.size<=2000)(o:n<=2000)(hh:k<2000)(hlk:looks<=200)(h1:1<=op)(h15:op<=15)(hb:eC op b=QC):pd (cC op n t k looks b) looks:=by
 have g:∀ ask a r,b=a :: r->pd (gR ask a r k looks) looks:=by
  intro ask a r e;subst e;simp only[o3] at i;unfold gR;split
  ·trivial
  ·rename_i h1
   split
   ·trivial
   ·rename_i h2
    exact⟨by omega,fun x j=>d x (by simp[j]),by simpa using h1,by omega⟩
 simp only[eC,j4] at hb;obtain⟨f,l⟩:=hb;rcases(show op=1∨op=2∨op=3∨op=4∨op=5∨op=6∨op=7∨op=8∨op=9∨op=10∨op=11∨op=12∨op=13∨op=14∨op=15 by omega) with rfl | rfl | rfl | rfl | rfl | rfl | rfl | rfl | rfl | rfl | rfl | rfl | rfl | rfl | rfl;all_goals simp only[aM,bG] at f l
 ·refine⟨by simp at l ⊢;omega,fun x j=>?_,by omega⟩
  rcases BC.1 j with rfl | j
  ·exact m
  ·exact d x j
 ·match b,f with
  | x :: y :: r,_ =>
   show pd (if y.size+x.size<=2000 then _ else _) _;split
   ·refine⟨by simp at i ⊢;omega,fun z hz=>?_,by omega⟩
    rcases BC.1 hz with rfl | hz
    ·simp;omega
    ·exact d z (by simp[hz])
   ·trivial
 ·match b,f with
  | x :: r,_ =>
   refine⟨i,fun z hz=>?_,by omega⟩;have j:=d x (by simp);rcases BC.1 hz with rfl | hz
   ·split
    ·simp;omega
    ·exact j
   ·exact d z (by simp[hz])
 ·match b,f with
  | x :: r,_ =>
   refine⟨i,fun z hz=>?_,by omega⟩;have j:=d x (by simp);rcases BC.1 hz with rfl | hz
   ·split
    ·simp;omega
    ·decide
   ·exact d z (by simp[hz])
 ·match b,f with
  | x :: r,_ =>
   refine⟨i,fun z hz=>?_,by omega⟩;rcases BC.1 hz with rfl | hz
   ·exact j5 (oD _ _) (d x (by simp))
   ·exact d z (by simp[hz])
 ·match b,f with
  | x :: y :: r,_ =>
   refine⟨by simp at i ⊢;omega,fun z hz=>?_,by omega⟩;rcases BC.1 hz with rfl | hz
   ·unfold dX
    split<;>decide
   ·exact d z (by simp[hz])
 ·match b,f with
  | x :: r,_ =>
   refine⟨by simp at l ⊢;omega,fun z hz=>?_,by omega⟩;rcases BC.1 hz with rfl | hz
   ·exact d _ (by simp)
   ·exact d z hz
 ·match b,f with
  | x :: y :: r,_ =>refine⟨i,fun z hz=>?_,by omega⟩;simp only[BC] at hz;exact d z (by simp only[BC];rcases hz with h | h | h<;>simp[h])
 ·match b,f with
  | x :: r,_=>exact⟨by simp at i;omega,fun z hz=>d z (by simp[hz]),by omega⟩
 ·exact⟨i,d,o⟩
 ·match b,f with
  | x :: r,_ =>refine⟨by simp at i;omega,fun z hz=>d z (by simp[hz]),?_⟩;split<;>omega
 ·match b,f with
  | x :: r,_=>exact g QC x r rfl
 ·match b,f with
  | x :: r,_=>exact g D x r rfl
 ·match b,f with
  | x :: r,_=>trivial
 ·match b,f with
  | x :: r,_=>trivial
theorem wK {f:Nat->Ins}{cnt place steps looks:Nat}{b:List ByteArray}{m:Mst}(d:Sim m place steps looks b)(g:cQ f cnt=QC)(hc:cnt<=200):pd (bH f cnt place steps looks b) looks:=by
 unfold bH;split
 ·trivial
 ·rename_i h1
  split
  ·trivial
  ·split
   ·trivial
   ·rename_i h
    have hi:=jj g (show place<cnt by omega);simp only[cD,j4] at hi;obtain⟨i1,i2,i3,i4,i5⟩:=hi;have hmt:dK (f place).op<=2000:=by unfold dK;split<;>(try split)<;>omega
    have hmt2:bP (f place).op<=2000:=by unfold bP;split<;>omega
    exact iu _ _ _ _ _ _ d.len d.le (by omega) (by omega) (by omega) d.lk (by omega) (by omega) (by simpa using h)
abbrev Halt:=(Int × ByteArray × Nat) ⊕ (Bool × ByteArray × List ByteArray × Nat × Nat × Nat)
def kq (f:Nat->Ins)(cnt:Nat):Nat->Nat->Nat->Nat->List ByteArray->Option Halt
 | 0,_,_,_,_=>Z
 | k+1,place,steps,looks,stk=>match bH f cnt place steps looks stk with
  | .inr (.inl (c,x))=>Q (.inl (c,x,(cF cnt place steps)))
  | .inr (.inr (a,nm,s))=>Q (.inr (a,nm,s,(place+1),(cF cnt place steps),(looks+1)))
  | .inl (s,p)=>kq f cnt k p (cF cnt place steps) looks s
theorem i8 {f:Nat->Ins}{cnt place steps looks:Nat}{b s:List ByteArray}{p:Nat}(h:bH f cnt place steps looks b=.inl (s,p)):cF cnt place steps=steps+1/\steps≠2000:=by
 unfold bH at h;unfold cF;split at h
 ·cases h
 ·split at h
  ·cases h
  ·rename_i h1 h2
   rw[a8 h1,a8 h2];exact⟨rfl,h2⟩
theorem pS (f:Nat->Ins)(cnt:Nat)(k:Nat):∀ place steps looks b,steps<=2000->2001<=k+steps->∃ h,kq f cnt k place steps looks b=Q h:=by
 induction k with
 | zero=>intro _ _ _ _ h1 h2;omega
 | succ k d =>
  intro place steps looks b h1 h2;rw[kq];rcases hr:bH f cnt place steps looks b with ⟨s,p⟩ | ⟨c,x⟩ | ⟨a,nm,s⟩
  ·obtain⟨g,e2⟩:=i8 hr
   simp only[g];exact d _ _ _ _ (by omega) (by omega)
  ·exact⟨_,rfl⟩
  ·exact⟨_,rfl⟩
def eE (m:Mst):Halt->Prop
 | .inl (c,x,k)=>m.t=⟨QC,c,x,D,⟨#[]⟩,k⟩
 | .inr (a,nm,s,p,k,l)=>m.t=⟨D,0,⟨#[]⟩,a,nm,k⟩/\Sim m p k l s/\au nm=QC/\s.length<50
theorem uO (b C QQ cnt z:Nat)(f:Nat->Ins)(m:Mst)(H:Halt)(w:E)(hM:MAt w b (Y (Q (J C QQ Z)) cnt z) m)(hE:Env w b C QQ cnt f)(hc:cnt<=200)(QK:cQ f cnt=QC)
  (hH:(m.t=cK/\∃ p k l s,Sim m p k l s/\kq f cnt (2001 - k) p k l s=Q H)∨eE m H) :
  Calls Tryz.prog 101 #[.pointer (Q (J b 0 Z))] w fun e w'=>∃ i,e=QD i.t.v/\MAt w' b (Y (Q (J C QQ Z)) cnt z) i/\eE i H/\Only b w w':=by
 have HM:=ae hM;have HE:=ae hE;have HH:=ae hH;have bt:=hM.lt;clear hM hE hH;have S:=ae (HM.al (T #[QA D,N I 0,U ⟨#[]⟩,QA D,U ⟨#[]⟩,N I 0] 61));have u:w.heap.size<(w.alloc (T #[QA D,N I 0,U ⟨#[]⟩,QA D,U ⟨#[]⟩,N I 0] 61)).heap.size:=by simp
 have A:=ae ((Only.refl b w).al (T #[QA D,N I 0,U ⟨#[]⟩,QA D,U ⟨#[]⟩,N I 0] 61));have R:∀ j,j<6->∃ v,(w.alloc (T #[QA D,N I 0,U ⟨#[]⟩,QA D,U ⟨#[]⟩,N I 0] 61)).cell? (J w.heap.size j Z)=Q v/\(w.alloc (T #[QA D,N I 0,U ⟨#[]⟩,QA D,U ⟨#[]⟩,N I 0] 61)).frozen? (J w.heap.size j Z)=D:=by intro j hj;rcases(show j=0∨j=1∨j=2∨j=3∨j=4∨j=5 by omega) with rfl | rfl | rfl | rfl | rfl | rfl;all_goals exact⟨_,by simp;rfl,by simp⟩
 have d:=ae R;clear R;go_enter Tryz.func101,Tryz.ntmps101;go_wp2;generalize w.alloc (T #[QA D,N I 0,U ⟨#[]⟩,QA D,U ⟨#[]⟩,N I 0] 61)=w0 at S u A d ⊢;go_loopg [] 2002 (fun g wr=>∃ i,MAt wr b (Y (Q (J C QQ Z)) cnt z) i/\Only b w0 wr/\((i.t=cK/\∃ p k l s,Sim i p k l s/\kq f cnt (2001 - k) p k l s=Q H/\2002 - k<=g)∨eE i H));case atStart =>
  refine⟨m,S,Only.refl _ _,?_⟩;rcases HH.out with ⟨h1,p,k,l,s,h2,h3⟩ | h
  ·exact .inl ⟨h1,p,k,l,s,h2,h3,by omega⟩
  ·exact .inr h
 case round =>
  obtain⟨i,hM,hO,la⟩:=hrel;have K:=ae hM;have n:=ae hO;obtain⟨⟨c5,z5⟩,⟨L,z6⟩,⟨QN,z7⟩,⟨QO,z8⟩,⟨O,z9⟩,r,aq⟩:=hM.turn;clear hM hO;rcases la with ⟨q,p,k,l,s,G,hr,hg⟩ | hst
  ·have y:=ae G
   have ld:=ae hr;have hk:=G.st;rw[q] at c5 L QN QO O r;simp only[cK] at c5 L QN QO O r;have ex:=ae q;clear G hr q;go_wp2_with fail;refine(Ak b C QQ cnt z p k l f i s _ K y (HE.only bt (A.trans n)) QK).mono ?_;rintro e w1 ⟨rfl,⟨m2,V,o⟩,QJ⟩;have mv:=ae V;have HA:=ae o;have fd:=ae (n.trans QJ);clear V o QJ c5 L QN QO O r z5 z6 z7 z8 z9 aq;obtain⟨g,rfl⟩:∃ g,gk=g+1:=⟨gk - 1,by omega⟩
   go_wp2;go_roundg g;case measure=>omega
   case rel =>
    refine⟨m2,mv,fd,?_⟩;have hR:=ld.out;have hF:=wK y.out QK hc;obtain⟨j,hj⟩:∃ j,2001 - k=j+1:=⟨2000 - k,by omega⟩
    rw[hj,kq] at hR;have o:=HA.out;rcases hst:bH f cnt p k l s with ⟨s2,p2⟩ | ⟨c,x⟩ | ⟨a,nm,s2⟩
    ·rw[hst] at hR o hF
     obtain⟨e1,e2⟩:=i8 hst;obtain⟨a1,a2,X,a4,a5,a6⟩:=o;obtain⟨f1,QG,f3⟩:=hF;simp only[e1] at hR a1;refine .inl ⟨by rw[a6];exact ex,p2,k+1,l,s2,⟨a2,X,f1,a4,a1,by rw[a5];exact y.hlk,QG,f3,by omega,y.lk⟩,?_,by omega⟩;rw[show 2001 - (k+1)=j by omega];exact hR
    ·rw[hst] at hR o hF
     simp only[EQ] at hR;subst hR;exact .inr o.2
    ·rw[hst] at hR o hF
     simp only[EQ] at hR;subst hR;obtain⟨a1,a2,X,a4,a5,a6⟩:=o;obtain⟨f1,QG,f3,f4⟩:=hF;have hN:cF cnt p k<=2000/\p+1<=2000:=by
      unfold bH at hst;unfold cF;split at hst
      ·cases hst
      ·split at hst
       ·cases hst
       ·rename_i h1 h2
        rw[a8 h1,a8 h2];omega
     exact .inr ⟨a6,⟨a2,X,by omega,by rw[a4];simp,a1,by rw[a5];show i.looks+1=_;rw[y.hlk];simp,QG,hN.2,hN.1,by omega⟩,f3,f1⟩
  ·have W:=ae hst
   rcases H with ⟨c,x,k⟩ | ⟨a,nm,s2,p2,k2,l2⟩
   ·have q:i.t=⟨QC,c,x,D,⟨#[]⟩,k⟩:=hst
    rw[q] at c5 L QN QO O r;obtain⟨v0,QP,y0⟩:=d.out 0 (by omega);obtain⟨v1,M,QH⟩:=d.out 1 (by omega);obtain⟨v2,P,y2⟩:=d.out 2 (by omega);obtain⟨v3,QL,y3⟩:=d.out 3 (by omega);obtain⟨v4,B,y4⟩:=d.out 4 (by omega);obtain⟨v5,QM,y5⟩:=d.out 5 (by omega);rw[<-n.cell w.heap.size _ u (by omega)] at QP M P QL B QM;rw[<-n.frozen w.heap.size _ u (by omega)] at y0 QH y2 y3 y4 y5;go_wp2;refine bp (v:=i.t.v) (by rw[q];simp[results,Tryz.results101,go_sem,Turn.v,QP,M,P,QL,B,QM]) rfl ?_;refine⟨i,rfl,?_,W,?_⟩
    ·exact(((((K.other _ _ _ (by omega)).other _ _ _ (by omega)).other _ _ _ (by omega)).other _ _ _ (by omega)).other _ _ _ (by omega)).other _ _ _ (by omega)
    ·exact((((((A.trans n).setNew _ _ _ lr).setNew _ _ _ lr).setNew _ _ _ lr).setNew _ _ _ lr).setNew _ _ _ lr).setNew _ _ _ lr
   ·obtain⟨q,G,hn,hl⟩:=hst
    rw[q] at c5 L QN QO O r;have hne:nm.toList.isEmpty=D:=by
     have h0:¬ nm.size=0:=by simp only[au,gM,j4] at hn;omega
     have:=lG h0;cases h:nm.toList with
     | nil=>exact absurd h this
     | cons _ _=>rfl
    clear G hn hl;obtain⟨v0,QP,y0⟩:=d.out 0 (by omega);obtain⟨v1,M,QH⟩:=d.out 1 (by omega);obtain⟨v2,P,y2⟩:=d.out 2 (by omega);obtain⟨v3,QL,y3⟩:=d.out 3 (by omega);obtain⟨v4,B,y4⟩:=d.out 4 (by omega);obtain⟨v5,QM,y5⟩:=d.out 5 (by omega);rw[<-n.cell w.heap.size _ u (by omega)] at QP M P QL B QM;rw[<-n.frozen w.heap.size _ u (by omega)] at y0 QH y2 y3 y4 y5;go_wp2;refine bp (v:=i.t.v) (by rw[q];simp[results,Tryz.results101,go_sem,Turn.v,QP,M,P,QL,B,QM]) rfl ?_;refine⟨i,rfl,?_,W,?_⟩
    ·exact(((((K.other _ _ _ (by omega)).other _ _ _ (by omega)).other _ _ _ (by omega)).other _ _ _ (by omega)).other _ _ _ (by omega)).other _ _ _ (by omega)
    ·exact((((((A.trans n).setNew _ _ _ lr).setNew _ _ _ lr).setNew _ _ _ lr).setNew _ _ _ lr).setNew _ _ _ lr).setNew _ _ _ lr
def fC (c:Int)(x:ByteArray)(k:Nat):Turn:=⟨QC,c,x,D,⟨#[]⟩,k⟩
def mB (a:Bool)(nm:ByteArray)(k:Nat):Turn:=⟨D,0,⟨#[]⟩,a,nm,k⟩
def bV (f:Nat->Ins)(cnt:Nat)(y:Nat->aA)(n:Nat):Nat->Nat->Nat->Nat->List ByteArray->Turn
 | 0,_,_,_,_=>cK
 | k+1,place,steps,looks,stk=>match bH f cnt place steps looks stk with
  | .inr (.inl (c,x))=>fC c x (cF cnt place steps)
  | .inl (s,p)=>bV f cnt y n k p (cF cnt place steps) looks s
  | .inr (.inr (a,nm,s))=>if n<=looks then mB a nm (cF cnt place steps)
    else if a=D then bV f cnt y n k (place+1) (cF cnt place steps) (looks+1) (dX (y looks).has :: s)
    else if (y looks).has=D then fC 4 nm (cF cnt place steps)
    else if (y looks).code=0 then bV f cnt y n k (place+1) (cF cnt place steps) (looks+1) ((y looks).text :: s)
    else fC 5 nm (cF cnt place steps)
def dM (f:Nat->Ins)(cnt:Nat)(y:Nat->aA)(n:Nat):Halt->Turn
 | .inl (c,x,k)=>fC c x k
 | .inr (a,nm,s,p,k,l)=>if n<=l - 1 then mB a nm k
   else if a=D then bV f cnt y n (2001 - k) p k l (dX (y (l - 1)).has :: s)
   else if (y (l - 1)).has=D then fC 4 nm k
   else if (y (l - 1)).code=0 then bV f cnt y n (2001 - k) p k l ((y (l - 1)).text :: s)
   else fC 5 nm k
def fR (looks:Nat):Halt->Prop
 | .inl (_,_,_)=>True
 | .inr (_,_,_,_,_,l)=>l=looks+1
theorem ku {f:Nat->Ins}{cnt place steps looks:Nat}{b s:List ByteArray}{a:Bool}{nm:ByteArray}(h:bH f cnt place steps looks b=.inr (.inr (a,nm,s))):cF cnt place steps=steps+1/\steps≠2000:=by
 unfold bH at h;unfold cF;split at h
 ·cases h
 ·split at h
  ·cases h
  ·rename_i h1 h2
   rw[a8 h1,a8 h2];exact⟨rfl,h2⟩
theorem nC (f:Nat->Ins)(cnt:Nat)(y:Nat->aA)(n:Nat)(k:Nat):∀ place steps looks d H,steps<=2000->2001 - steps=k->kq f cnt k place steps looks d=Q H ->
  bV f cnt y n k place steps looks d=dM f cnt y n H/\fR looks H:=by
 induction k with
 | zero=>intro _ _ _ _ _ h1 h2;omega
 | succ k i =>
  intro place steps looks d H h1 h2 b;rw[kq] at b;rw[bV];rcases hs:bH f cnt place steps looks d with ⟨s,p⟩ | ⟨c,x⟩ | ⟨a,nm,s⟩
  ·obtain⟨g,h⟩:=i8 hs
   rw[hs] at b;simp only[g] at b ⊢;exact i _ _ _ _ _ (by omega) (by omega) b
  ·rw[hs] at b
   simp only[EQ] at b;subst b;exact⟨rfl,trivial⟩
  ·obtain⟨g,h⟩:=ku hs
   rw[hs] at b;simp only[EQ] at b;subst b;simp only[dM,g,JD,show 2001 - (steps+1)=k by omega];exact⟨trivial,rfl⟩
def bT (r:aA):Bool:=decide (r.text.size<=2000/\0<=r.code/\r.code<=7)
def bR (y:Nat->aA):Nat->Bool
 | 0=>QC
 | k+1=>bR y k && bT (y k)
theorem jP {y:Nat->aA}{k n:Nat}(h:k<=n)(b:bR y n=QC):bR y k=QC:=by
 induction n with
 | zero =>
  obtain rfl:k=0:=by omega
  exact b
 | succ m d =>
  by_cases e:k=m+1
  ·subst e;exact b
  ·simp only[bR,gM] at b
   exact d (by omega) b.1
theorem gh {y:Nat->aA}{k n:Nat}(h:k<n)(b:bT (y k)=D):bR y n=D:=by
 cases e:bR y n with
 | false=>rfl
 | true =>have h2:=jP (show k+1<=n by omega) e;simp[bR,b] at h2
theorem Al {y:Nat->aA}{k n:Nat}(h:bR y n=QC)(hk:k<n):(y k).text.size<=2000/\0<=(y k).code/\(y k).code<=7:=by have:=jP (show k+1<=n by omega) h;simp only[bR,gM,bT,j4] at this;exact this.2
end Go.Proofs.YtkdimgejdocbbaaGreatDoor.Vp
