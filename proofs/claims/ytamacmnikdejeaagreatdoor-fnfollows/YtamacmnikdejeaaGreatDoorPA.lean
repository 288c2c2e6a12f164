import Derived.Test.YtamacmnikdejeaaGreatDoorQS
import Derived.Test.YtamacmnikdejeaaGreatDoorQV
set_option maxRecDepth 100000
set_option maxHeartbeats 8000000
set_option linter.unusedSimpArgs false
open Go.Addr renaming mk->N
open Go.Value renaming slice->Y,string->U,int->J,agg->QG
open Option renaming none->Z,some->T
open Go.Obj renaming cells->Q
open Go.IntKind renaming i64->I
open Go renaming World->G,Value->QE
open Bool renaming false->QB
open Go.Ending renaming returned->QF
namespace Go.Proofs.YtamacmnikdejeaaGreatDoor.Vp
open RowKit Ca
def MkA (w:G)(e:Ending)(b:G):Prop:=∃ (a:Option Addr) (n c:Nat) (f:Nat->ah) (k:Int) (t:ByteArray) (ra:Option Addr) (h g:Nat),e=QF (.tuple #[QG #[Y a n c],QG #[J I k,U t,Y ra h g]])/\HAc w.heap.size b a n c f/\n<=400/\(∀ i,i<n->FitI (f i))/\Below w.heap.size w b
theorem qv (b n0 c0 n1 c1:Nat)(a0:Option Addr)(f0:Nat->Source)(a1:Option Addr)(f1:Nat->Target)(w:G)(nm:ByteArray)(hH:HSp b w a0 n0 f0 a1 n1 f1):Calls Tryz.prog 11 #[QG #[Y a0 n0 c0,Y a1 n1 c1],U nm] w fun e f=>MkA w e f:=by have h0:=hH.hn0;have h1:=hH.hn1;refine(mG (S:=⟨n0,f0,n1,f1⟩) (a0:=a0) (a1:=a1) (c0:=c0) (c1:=c1) w nm (hH.sl w (Agr.refl _ _)).1 (hH.sl w (Agr.refl _ _)).2 (by show n0<=_;omega) (by show n1<=_;omega) (fun i hi=>by have:=(hH.fit i hi).1;unfold bk;show(f1 i).actN<=_;omega) (fun i hi j m=>by have:=(hH.fit i hi).2 j m;unfold maxLen;show((f1 i).act j).s.size<=_;omega)).mono ?_;rintro e f ⟨a,c,R,rv,rfl,n,g,⟨ra,o,rfl,-⟩,p⟩;obtain⟨h2,l,h⟩:=Bt n g;exact⟨a,R.length,c,_,_,_,ra,_,o,rfl,h2,l,h,p⟩
structure Dr1 (xs:List Nat)(w:G)(R rs ra sb:Nat)(W:G)(q n0 c0 n1 c1:Nat)(a0:Option Addr)(f0:Nat->Source)(a1:Option Addr)(f1:Nat->Target):Prop where
 rd:Rd W R q
 o:Only R w W
 zs:W.heap[rs]?=T (Q #[Y Z 0 0,Y Z 0 0] 29 (0,0))
 za:W.heap[ra]?=T (Q #[Y Z 0 0] 25 (0,0))
 sx:W.heap[sb]?=T (Q #[Y a0 n0 c0,Y a1 n1 c1] 29 (0,0))
 qs:QSp w.heap.size xs W a0 n0 f0 a1 n1 f1
 lo:R<w.heap.size
 hb:w.heap.size<=rs/\w.heap.size<=ra/\w.heap.size<=sb
structure Dr2 (xs:List Nat)(w:G)(R rs ra sb ab:Nat)(W:G)(q n0 c0 n1 c1:Nat)(a0:Option Addr)(f0:Nat->Source)(a1:Option Addr)(f1:Nat->Target)(n c:Nat)(a:Option Addr)(f:Nat->ah):Prop where
 d:Dr1 xs w R rs ra sb W q n0 c0 n1 c1 a0 f0 a1 f1
 ax:W.heap[ab]?=T (Q #[Y a n c] 25 (0,0))
 qa:QAc w.heap.size xs W a n c f
 hb:w.heap.size<=ab
section
variable {xs:List Nat}{w W W':G}{R rs ra sb ab q q' n0 c0 n1 c1 n c:Nat}{a0 a1 a:Option Addr}{f0:Nat->Source}{f1:Nat->Target}{f:Nat->ah}
theorem Dr1.only (h:Dr1 xs w R rs ra sb W q n0 c0 n1 c1 a0 f0 a1 f1)(b:Only R W W')(hR:Rd W' R q')(f:R∈xs):Dr1 xs w R rs ra sb W' q' n0 c0 n1 c1 a0 f0 a1 f1:=by have hl:=h.lo;obtain⟨h1,h2,h3⟩:=h.hb;exact⟨hR,h.o.trans b,(b.block _ (ai h.zs) (by omega)).trans h.zs,(b.block _ (ai h.za) (by omega)).trans h.za,(b.block _ (ai h.sx) (by omega)).trans h.sx,h.qs.fr (Fr.only b f),h.lo,h.hb⟩
theorem Dr1.below (h:Dr1 xs w R rs ra sb W q n0 c0 n1 c1 a0 f0 a1 f1)(b:Below W.heap.size W W')(f:R∈xs):Dr1 xs w R rs ra sb W' q n0 c0 n1 c1 a0 f0 a1 f1:=h.only (Only.of_below b) (h.rd.below b ly) f
theorem Dr1.cells (h:Dr1 xs w R rs ra sb W q n0 c0 n1 c1 a0 f0 a1 f1):W.cell? (N sb 0 Z)=T (Y a0 n0 c0)/\W.cell? (N sb 1 Z)=T (Y a1 n1 c1)/\W.frozen? (N sb 0 Z)=QB/\W.frozen? (N sb 1 Z)=QB/\sb<W.heap.size:=by have hb:=h.sx;refine⟨?_,?_,?_,?_,ai hb⟩<;>simp[World.cell?,World.frozen?,hb]
theorem Dr1.more (h:Dr1 xs w R rs ra sb W q n0 c0 n1 c1 a0 f0 a1 f1){x:Nat}(j:W.heap.size<=x):Dr1 (x :: xs) w R rs ra sb W q n0 c0 n1 c1 a0 f0 a1 f1:=by
 obtain⟨b,l,g,h1,h2,i⟩:=h.qs;refine⟨h.rd,h.o,h.zs,h.za,h.sx,⟨b,l,g,h1,h2,fun y f=>?_⟩,h.lo,h.hb⟩;rcases p6.1 f with rfl | f
 ·exact .inr (p9 h2.1 j)
 ·exact i y f
theorem Dr2.only (h:Dr2 xs w R rs ra sb ab W q n0 c0 n1 c1 a0 f0 a1 f1 n c a f)(b:Only R W W')(hR:Rd W' R q')(g:R∈xs):Dr2 xs w R rs ra sb ab W' q' n0 c0 n1 c1 a0 f0 a1 f1 n c a f:=by have hl:=h.d.lo;have h1:=h.hb;exact⟨h.d.only b hR g,(b.block _ (ai h.ax) (by omega)).trans h.ax,h.qa.fr (Fr.only b g),h.hb⟩
theorem Dr2.below (h:Dr2 xs w R rs ra sb ab W q n0 c0 n1 c1 a0 f0 a1 f1 n c a f)(b:Below W.heap.size W W')(g:R∈xs):Dr2 xs w R rs ra sb ab W' q n0 c0 n1 c1 a0 f0 a1 f1 n c a f:=h.only (Only.of_below b) (h.d.rd.below b ly) g
theorem Dr2.acc (h:Dr2 xs w R rs ra sb ab W q n0 c0 n1 c1 a0 f0 a1 f1 n c a f):W.cell? (N ab 0 Z)=T (Y a n c)/\W.frozen? (N ab 0 Z)=QB/\ab<W.heap.size:=by have hb:=h.ax;refine⟨?_,?_,ai hb⟩<;>simp[World.cell?,World.frozen?,hb]
theorem jr {W:G}{i j:Nat}{c m:Array QE}{t b:TypeId}{z f:Nat × Nat}(h:W.heap[i]?=T (Q c t z))(g:W.heap[j]?=T (Q m b f))(l:t≠b):i≠j:=fun e=>by rw[e,g] at h;simp at h;exact l h.2.1.symm
theorem Dr1.put {m0 k0 f k1:Nat}{b0 b:Option Addr}{g:Nat->Source}{l:Nat->Target}(h:Dr1 xs w R rs ra sb W q n0 c0 n1 c1 a0 f0 a1 f1)(i:sb∈xs)(n:rs≠sb)(s:QSp w.heap.size xs W b0 m0 g b f l):Dr1 xs w R rs ra sb ((W.setCell (N sb 0 Z) (Y b0 m0 k0)).setCell (N sb 1 Z) (Y b f k1)) q m0 k0 f k1 b0 g b l:=by obtain⟨h1,h2,m⟩:=h.hb;have B:=((a8 w.heap.size W).setCell (p:=(N sb 0 Z)) m (Y b0 m0 k0)).setCell (p:=(N sb 1 Z)) m (Y b f k1);have far:∀ k,k≠sb->((W.setCell (N sb 0 Z) (Y b0 m0 k0)).setCell (N sb 1 Z) (Y b f k1)).heap[k]?=W.heap[k]?:=fun k j=>(qh _ _ _ _ j).trans (qh _ _ _ _ j);have r:=h.sx;exact⟨h.rd.low B h.lo,h.o.then B,(far _ n).trans h.zs,(far _ (jr h.za h.sx (by decide))).trans h.za,by simp[World.setCell,IK,r],s.fr ((Fr.set i _).trans (Fr.set i _)),h.lo,h.hb⟩
theorem Dr1.aset (h:Dr1 xs w R rs ra sb W q n0 c0 n1 c1 a0 f0 a1 f1){x j:Nat}(i:x∈xs)(h1:x≠sb)(h2:x≠ra)(f:x≠rs)(g:w.heap.size<=x)(u:QE):Dr1 xs w R rs ra sb (W.setCell (N x j Z) u) q n0 c0 n1 c1 a0 f0 a1 f1:=by have B:=(a8 w.heap.size W).setCell (p:=(N x j Z)) g u;have far:∀ k,k≠x->(W.setCell (N x j Z) u).heap[k]?=W.heap[k]?:=fun k b=>qh _ _ _ _ b;exact⟨h.rd.low B h.lo,h.o.then B,(far _ (fun e=>f e.symm)).trans h.zs,(far _ (fun e=>h2 e.symm)).trans h.za,(far _ (fun e=>h1 e.symm)).trans h.sx,h.qs.fr (Fr.set i u),h.lo,h.hb⟩
theorem Dr2.put {m k:Nat}{b:Option Addr}{g:Nat->ah}(h:Dr2 xs w R rs ra sb ab W q n0 c0 n1 c1 a0 f0 a1 f1 n c a f)(i:ab∈xs)(l:ab≠ra)(j:QAc w.heap.size xs W b m k g):Dr2 xs w R rs ra sb ab (W.setCell (N ab 0 Z) (Y b m k)) q n0 c0 n1 c1 a0 f0 a1 f1 m k b g :=
 ⟨h.d.aset i (jr h.ax h.d.sx (by decide)) l (jr h.ax h.d.zs (by decide)) h.hb _,bI h.ax _,j.fr (Fr.set i _),h.hb⟩
theorem Dr2.sput {m0 k0 g k1:Nat}{b0 j:Option Addr}{l:Nat->Source}{m:Nat->Target}(h:Dr2 xs w R rs ra sb ab W q n0 c0 n1 c1 a0 f0 a1 f1 n c a f)(i:sb∈xs)(o:rs≠sb)(p:QSp w.heap.size xs W b0 m0 l j g m):Dr2 xs w R rs ra sb ab ((W.setCell (N sb 0 Z) (Y b0 m0 k0)).setCell (N sb 1 Z) (Y j g k1)) q m0 k0 g k1 b0 l j m n c a f :=
 have b:ab≠sb:=jr h.ax h.d.sx (by decide)
 ⟨h.d.put i o p,((qh _ _ _ _ b).trans (qh _ _ _ _ b)).trans h.ax,h.qa.fr ((Fr.set i _).trans (Fr.set i _)),h.hb⟩
end
structure RgM (W v:G)(z7 z8:Option (Nat × Array QE)):Prop where
 b:Below W.heap.size W v
 a:∀ p cs,z7=T (p,cs)->W.heap.size<=p/\v.heap[p]?=T (Q cs 25 (0,0))
 r:∀ p cs,z8=T (p,cs)->W.heap.size<=p/\v.heap[p]?=T (Q cs 37 (0,0))
section
variable {W v v':G}{z7 z8:Option (Nat × Array QE)}{p:Nat}{cs:Array QE}
theorem RgM.below (h:RgM W v z7 z8)(f:Below v.heap.size v v'):RgM W v' z7 z8 :=
 ⟨h.b.trans (f.mono h.b.size),fun p cs e=>⟨(h.a p cs e).1,(f.block p (ai (h.a p cs e).2)).trans (h.a p cs e).2⟩,fun p cs e=>⟨(h.r p cs e).1,(f.block p (ai (h.r p cs e).2)).trans (h.r p cs e).2⟩⟩
theorem RgM.newA (h:RgM W v z7 z8)(cs:Array QE):RgM W (v.alloc (Q cs 25)) (T (v.heap.size,cs)) z8:=by
 have f:=h.below ((q9 v).alloc ly (Q cs 25));refine⟨f.b,fun p c e=>?_,f.r⟩;cases e
 exact⟨h.b.size,eT v _⟩
theorem RgM.newR (h:RgM W v z7 z8)(cs:Array QE):RgM W (v.alloc (Q cs 37)) z7 (T (v.heap.size,cs)):=by
 have f:=h.below ((q9 v).alloc ly (Q cs 37));refine⟨f.b,f.a,fun p c e=>?_⟩;cases e
 exact⟨h.b.size,eT v _⟩
theorem RgM.setA {u0:QE}(h:RgM W v (T (p,#[u0])) z8)(u:QE):RgM W (v.setCell (N p 0 Z) u) (T (p,#[u])) z8:=by
 obtain⟨h1,h2⟩:=h.a p _ rfl;refine⟨h.b.setCell (p:=(N p 0 Z)) h1 u,fun q c e=>?_,fun q c e=>?_⟩
 ·cases e
  exact⟨h1,bI h2 _⟩
 ·obtain⟨g,f⟩:=h.r q c e
  exact⟨g,(qh v (N p 0 Z) u q (jr f h2 (by decide))).trans f⟩
theorem RgM.endR (h:RgM W v z7 (T (p,cs)))(u0 u1 u2:QE):RgM W (((v.setCell (N p 0 Z) u0).setCell (N p 1 Z) u1).setCell (N p 2 Z) u2) z7 Z:=by obtain⟨h1,h2⟩:=h.r p _ rfl;refine⟨((h.b.setCell (p:=(N p 0 Z)) h1 u0).setCell (p:=(N p 1 Z)) h1 u1).setCell (p:=(N p 2 Z)) h1 u2,fun q c e=>?_,fun q c e=>by cases e⟩;obtain⟨g,f⟩:=h.a q c e;have ne:=jr f h2 (by decide);exact⟨g,(((qh _ (N p 2 Z) u2 q ne).trans (qh _ (N p 1 Z) u1 q ne)).trans (qh v (N p 0 Z) u0 q ne)).trans f⟩
theorem RgM.cA {u0:QE}(h:RgM W v (T (p,#[u0])) z8):v.cell? (N p 0 Z)=T u0/\v.frozen? (N p 0 Z)=QB/\p<v.heap.size:=by have k:=(h.a p _ rfl).2;refine⟨?_,?_,ai k⟩<;>simp[World.cell?,World.frozen?,k]
theorem RgM.cR {u0 u1 u2:QE}(h:RgM W v z7 (T (p,#[u0,u1,u2]))):v.cell? (N p 0 Z)=T u0/\v.cell? (N p 1 Z)=T u1/\v.cell? (N p 2 Z)=T u2/\v.frozen? (N p 0 Z)=QB/\v.frozen? (N p 1 Z)=QB/\v.frozen? (N p 2 Z)=QB/\p<v.heap.size:=by have k:=(h.r p _ rfl).2;refine⟨?_,?_,?_,?_,?_,?_,ai k⟩<;>simp[World.cell?,World.frozen?,k]
theorem DRow.kd {b:Nat}{u:QE}{R:List DR}(h:DRow v b u R)(g:∀ m e,OfTy v m e->e=46∨e=146∨e=129->v'.heap[m]?=v.heap[m]?):DRow v' b u R :=
 ⟨dL h.own fun m _ f=>g m _ f (.inl rfl),fun r i=>(h.sub r i).far (fun m _ f=>g m _ f (.inr (.inl rfl))) (fun m _ f=>g m _ f (.inr (.inr rfl))),h.up⟩
theorem vN {m:Nat}{e t:TypeId}{z:Nat × Nat}(g:OfTy v m e)(b:v.heap[p]?=T (Q cs t z))(f:e≠t):m≠p:=fun i=>by obtain⟨c,z',h⟩:=g;rw[i,b] at h;simp at h;exact f h.2.1.symm
theorem RgM.dA {u0 u1:QE}{b:Nat}{R:List DR}(h:RgM W v (T (p,#[u0])) z8)(f:DRow v b u1 R)(u:QE):DRow (v.setCell (N p 0 Z) u) b u1 R :=
 f.kd fun m e i g=>qh v (N p 0 Z) u m (vN i (h.a p _ rfl).2 (by rcases g with rfl | rfl | rfl<;>decide))
theorem RgM.dR {u u0 u1 u2:QE}{b:Nat}{R:List DR}(h:RgM W v z7 (T (p,cs)))(f:DRow v b u R):DRow (((v.setCell (N p 0 Z) u0).setCell (N p 1 Z) u1).setCell (N p 2 Z) u2) b u R :=
 f.kd fun m e i g=>by have ne:=vN i (h.r p _ rfl).2 (by rcases g with rfl | rfl | rfl<;>decide);exact((qh _ (N p 2 Z) u2 m ne).trans (qh _ (N p 1 Z) u1 m ne)).trans (qh v (N p 0 Z) u0 m ne)
theorem DRow.low {b f:Nat}{u:QE}{R:List DR}(h:DRow v b u R)(hb:f<=b):DRow v f u R:=⟨aE h.own hb,fun r g=>(h.sub r g).mono hb,h.up⟩
end
def MkD (W:G)(S:Spc)(t:ByteArray)(b:Nat)(d:Option Addr)(QN dc:Nat)(v:G):Prop:=∃ R:List DR,R.length=QN/\R.map (·.1)=aO S (aX S t).1/\DRow v W.heap.size (Y d QN dc) R/\Below W.heap.size W v/\W.heap.size<=b/\AB v b (Y d QN dc)
structure Lw (w:G)(ab sb:Nat)(d:Option Addr)(QN dc:Nat)(f:Nat->ah)(a0:Option Addr)(n0 c0:Nat)(f0:Nat->Source)(a1:Option Addr)(n1 c1:Nat)(f1:Nat->Target)(V:G):Prop where
 b:Below w.heap.size w V
 s0:SlSource V a0 n0 f0
 s1:SlTarget V a1 n1 f1
 dd:SlDeed V d QN f
 ax:AB V ab (Y d QN dc)
 sx:SBx V sb (Y a0 n0 c0) (Y a1 n1 c1)
section
variable {w V QK:G}{ab sb:Nat}{d:Option Addr}{QN dc:Nat}{f:Nat->ah}{a0:Option Addr}{n0 c0:Nat}{f0:Nat->Source}{a1:Option Addr}{n1 c1:Nat}{f1:Nat->Target}
theorem Lw.below (h:Lw w ab sb d QN dc f a0 n0 c0 f0 a1 n1 c1 f1 V)(g:Below V.heap.size V QK):Lw w ab sb d QN dc f a0 n0 c0 f0 a1 n1 c1 f1 QK :=
 ⟨h.b.trans (g.mono h.b.size),h.s0.below g ly,h.s1.below g ly,h.dd.below g ly,h.ax.below g ly,h.sx.below g ly⟩
theorem Lw.c (h:Lw w ab sb d QN dc f a0 n0 c0 f0 a1 n1 c1 f1 V):V.cell? (N sb 0 Z)=T (Y a0 n0 c0)/\V.cell? (N sb 1 Z)=T (Y a1 n1 c1)/\V.cell? (N ab 0 Z)=T (Y d QN dc):=⟨h.sx.c0,h.sx.c1,h.ax.c0⟩
theorem Eu (hH:HSp w.heap.size V a0 n0 f0 a1 n1 f1)(h:HAc w.heap.size V d QN dc f)(g:Below w.heap.size w V):Lw w V.heap.size (V.heap.size+1) d QN dc f a0 n0 c0 f0 a1 n1 c1 f1 ((V.alloc (Q #[Y d QN dc] 25)).alloc (Q #[Y a0 n0 c0,Y a1 n1 c1] 29)):=by have A:=((q9 V).alloc ly (Q #[Y d QN dc] 25)).alloc (by simp) (Q #[Y a0 n0 c0,Y a1 n1 c1] 29);have b:=hH.sl _ (dh A ly);exact⟨g.trans (A.mono g.size),b.1,b.2,h.sl _ (dh A ly),(((a8 (V.heap.size+1) (V.alloc (Q #[Y d QN dc] 25))).alloc (by simp) _).block V.heap.size (eL _)).trans (eT V _),JZ V _ _⟩
end
def DSA (w:G)(R q:Nat)(e:Ending)(b:G):Prop:=∃ (a0:Option Addr) (n0 c0:Nat) (f0:Nat->Source) (a1:Option Addr) (n1 c1:Nat) (f1:Nat->Target) (a:Option Addr) (n c:Nat) (f:Nat->ah),e=QF (.tuple #[QG #[Y a0 n0 c0,Y a1 n1 c1],QG #[Y a n c]])/\HSg w.heap.size b a0 n0 f0 a1 n1 f1/\HAc w.heap.size b a n c f/\n<=400/\(∀ i,i<n->FitI (f i))/\∃ q':Nat,q'<=q/\Rd b R q'/\Only R w b
theorem xM (R p:Nat)(w:G)(hR:Rd w R p)(hp:p<=9000):Calls Tryz.prog 48 #[.pointer (T (N R 0 Z))] w fun e w'=>DSA w R (p+5300) e w':=by
 have HR:=ae hR;have L:=hR.lt;have Fa:((w.alloc (Q #[Y Z 0 0,Y Z 0 0] 29)).alloc (Q #[Y Z 0 0] 25)).heap.size=w.heap.size+2:=by simp
 have A0:=ae (((q9 w).alloc ly (Q #[Y Z 0 0,Y Z 0 0] 29)).alloc (by simp) (Q #[Y Z 0 0] 25));have KS:Hid (((w.alloc (Q #[Y Z 0 0,Y Z 0 0] 29)).alloc (Q #[Y Z 0 0] 25)).heap[w.heap.size]?=T (Q #[Y Z 0 0,Y Z 0 0] 29 (0,0))):=(((a8 (w.heap.size+1) (w.alloc (Q #[Y Z 0 0,Y Z 0 0] 29))).alloc (by simp) _).block w.heap.size (eL _)).trans (eT w _);have KA:Hid (((w.alloc (Q #[Y Z 0 0,Y Z 0 0] 29)).alloc (Q #[Y Z 0 0] 25)).heap[w.heap.size+1]?=T (Q #[Y Z 0 0] 25 (0,0))):=JZ w _ _;clear hR;go_enter Tryz.func48,Tryz.ntmps48;go_wp2_with fail;generalize (w.alloc (Q #[Y Z 0 0,Y Z 0 0] 29)).alloc (Q #[Y Z 0 0] 25)=W0 at A0 KS KA Fa ⊢;refine(av R p 40 _ (HR.below A0 ly) (by omega) (by omega) (by omega)).mono ?_;rintro e w1 ⟨z,rfl,hz0,hz1,fd,P⟩;have R1:=ae fd;have O1:=ae ((Only.of_below A0).trans P);have la:=ae ((P.block w.heap.size (by omega) (by omega)).trans KS);have n6:=ae ((P.block (w.heap.size+1) (by omega) (by omega)).trans KA);have hs1:=P.size;clear fd P KS KA A0 HR;go_wp2_with fail;refine(xz R _ _ R1 (by omega)).mono ?_;rintro e H ⟨W,QH,v0,v1,rfl,ho,ht,hG,E9,Fe,q2,hq2,ld,O⟩;obtain⟨a0,c0,rfl⟩:=aP ho;obtain⟨a1,c1,rfl⟩:=aP ht.own;have hD:=Dq ho ht hG (by omega) (by omega);have hH:HSg _ _ _ _ _ _ _ _:=⟨hD.1,by omega,by omega,hD.2⟩
 clear hD;have hs2:=O.size;have X:=(q9 H).alloc ly (Q #[Y a0 W.length c0,Y a1 QH.length c1] 29);have E:Hid (Dr1 [R,w.heap.size,w.heap.size+1,H.heap.size] w R w.heap.size (w.heap.size+1) H.heap.size (H.alloc (Q #[Y a0 W.length c0,Y a1 QH.length c1] 29)) q2 W.length c0 QH.length c1 a0 (ba W) a1 (be (QH.map (·.1)))):=by refine⟨ld.below X ly,(O1.trans O).trans (Only.of_below X),(X.block _ (by omega)).trans ((O.block _ (by omega) (by omega)).trans la),(X.block _ (by omega)).trans ((O.block _ (by omega) (by omega)).trans n6),eT H _,⟨w1.heap.size+2,H,by omega,hH,dh X ly,fun x QL=>?_⟩,L,by omega,by omega,by omega⟩;simp only[p6,nj,JQ] at QL;omega
 clear X ho ht hG hH ld O O1 la n6 R1;generalize W.length=n0 at E E9 ⊢;generalize QH.length=n1 at E Fe ⊢;generalize ba W=f0 at E;generalize be (QH.map (·.1))=f1 at E;go_upto_region 3 with fail;have Bk:w.heap.size+2<=H.heap.size:=by omega
 generalize H.alloc (Q #[Y a0 n0 c0,Y a1 n1 c1] 29)=W2 at E ⊢;generalize H.heap.size=sb at E Bk ⊢;obtain⟨x0,x1,-⟩:=E.cells;go_wp2_with fail;refine(jG R _ w.heap.size n0 c0 n1 c1 a0 f0 a1 f1 _ E.rd (by omega) L E.qs.at.1).mono ?_;rintro e w3 ⟨t,rfl,q3,hq3,n8,qr⟩;have D2:=ae (E.only qr n8 (by simp));clear n8 qr E x0 x1;go_upto_if 18 with fail;go_cut [6] (fun s6 wx=>∃ (t:ByteArray) (q m0 g r j:Nat) (b0:Option Addr) (QP:Nat->Source) (b:Option Addr) (QN:Nat->Target),s6=U t/\q<=p+5200/\Hid (Dr1 [R,w.heap.size,w.heap.size+1,sb] w R w.heap.size (w.heap.size+1) sb wx q m0 g r j b0 QP b QN));case first =>
  by_cases hz:z=0
  ·subst hz
   go_wp2_with fail;refine(av R _ 2 _ D2.rd (by omega) (by omega) (by omega)).mono ?_;rintro e w4 ⟨y,rfl,y0,y1,hR,hO⟩;have QR:=ae (D2.only hO hR (by simp));clear hR hO D2;obtain⟨m,hm⟩:∃ m:Nat,60 - y=(m:Int):=⟨(60 - y).toNat,by omega⟩
   have hw:IntKind.i64.wrap (60 - y)=60 - y:=by rw[kP];omega
   go_wp2_with fail;have hs4:=ai QR.sx;refine(nA m (by omega) ⟨#[97]⟩ (by decide) _).mono ?_;rintro e w5 ⟨b0,m0,g,QP,b,j,mv,rfl,Fc,QK,ph,-,-,n7,QM⟩
   have hH:HSg _ _ _ _ _ _ _ _:=⟨ph,QK,by omega,fun i hi=>by
    have e:be (mv.map (·.1)) i=mv[i].1:=by simp[be,hi]
    rw[e,(n7 _ (gj hi)).2]
    omega⟩
   clear ph n7 Fc QK;have hz5:=QM.size;have D4:=ae (QR.below QM (by simp))
   have D5:=ae (D4.put (k0:=g) (k1:=j) (by simp) (by omega) (QSp.new hH (by omega) (fun x QL=>by
    simp only[p6,nj,JQ] at QL
    omega)))
   obtain⟨x0,x1,x2,x3,x4⟩:=D4.cells;clear hH QM QR D4 hm hw;go_wp2;go_meet;exact⟨_,_,_,_,_,_,_,_,_,_,rfl,by omega,D5⟩
  ·have hzb:(z == 0)=QB:=by simpa using hz
   go_wp2;go_meet;exact⟨t,q3,_,_,_,_,_,_,_,_,rfl,by omega,D2⟩
 case rest =>
 clear D2;obtain⟨t,q4,m0,g,r,j,b0,QP,b,QN,rfl,hq4,QR⟩:=hcut;generalize wc=W3 at QR ⊢;obtain⟨x0,x1,x2,x3,x4⟩:=QR.cells;go_wp2_with fail;refine(qv w.heap.size m0 g r j b0 QP b QN _ t QR.qs.at.1).mono ?_;rintro e A ⟨a,n,c,f,kk,tt,ra,rn,rc,rfl,hA,hn,hf,QM⟩;have A6:=((q9 A).alloc ly (Q #[Y a n c] 25)).alloc (by simp) (Q #[J I kk,U tt,Y ra rn rc] 37);have sm:((A.alloc (Q #[Y a n c] 25)).alloc (Q #[J I kk,U tt,Y ra rn rc] 37)).heap[A.heap.size]?=T (Q #[Y a n c] 25 (0,0)):=(((a8 (A.heap.size+1) (A.alloc (Q #[Y a n c] 25))).alloc (by simp) _).block A.heap.size (eL _)).trans (eT A _);have Fd:=QM.size;have hws:=QR.o.size;have E1:Hid (Dr2 [A.heap.size,R,w.heap.size,w.heap.size+1,sb] w R w.heap.size (w.heap.size+1) sb A.heap.size ((A.alloc (Q #[Y a n c] 25)).alloc (Q #[J I kk,U tt,Y ra rn rc] 37)) q4 m0 g r j b0 QP b QN n c a f):=by refine⟨((QR.below QM (by simp)).more ly).below A6 (by simp),sm,⟨W3.heap.size,A,by omega,hA,dh A6 ly,fun x QL=>?_⟩,by omega⟩;simp only[p6,nj,JQ] at QL;omega
 have HF:=ae hf;have DQ:sb<A.heap.size:=by omega
 have hw2:w.heap.size+2<=W3.heap.size:=by omega
 clear A6 sm hA QM hf QR x0 x1 x2 x3 x4;go_wp2_with fail;generalize (A.alloc (Q #[Y a n c] 25)).alloc (Q #[J I kk,U tt,Y ra rn rc] 37)=W6 at E1 ⊢;generalize A.heap.size=ab at E1 DQ Fd ⊢;go_loopw [9] (fun i wr=>∃ (k q n c:Nat) (a:Option Addr) (f:Nat->ah),i=J I k/\k<=3/\q<=q4+3*k/\n<=400/\Hid (∀ i,i<n->FitI (f i))/\Hid (Dr2 [ab,R,w.heap.size,w.heap.size+1,sb] w R w.heap.size (w.heap.size+1) sb ab wr q m0 g r j b0 QP b QN n c a f)) (fun i _=>3 - (intOf i).toNat);case atStart=>exact⟨0,q4,n,c,a,f,rfl,by omega,by omega,hn,HF,E1⟩
 case round =>
  clear E1 HF hn;obtain⟨k,q5,n,c,a,f,rfl,hk,hq5,hn,HF,E2⟩:=hrel;obtain⟨v0,v1,v2⟩:=E2.acc;go_upto_region 9 with fail;go_cut [36] (fun s wx=>∃ b:Bool,s=.bool b/\(b=true->k<3)/\wr=wx);case first =>
   by_cases ro:k<3
   ·have DS:(k:Int)<3:=by omega
    go_wp2;go_meet;exact⟨_,rfl,fun _=>ro,rfl⟩
   ·have DS:¬ (k:Int)<3:=by omega
    go_wp2;go_meet;exact⟨QB,rfl,(fun h=>by cases h),rfl⟩
  case rest =>
  obtain⟨Ff,rfl,bt,rfl⟩:=hcut;cases Ff with
  | true =>
   have ro:=bt rfl;obtain⟨x0,x1,x2,x3,x4⟩:=E2.d.cells;clear bt v0 v1 v2;go_wp2_with fail;have u:=ae (E2.below br.drew (by simp));refine wp_region_held_drew (S:=fun V=>V.cell? (N sb 0 Z)=T (Y b0 m0 g)/\V.cell? (N sb 1 Z)=T (Y b r j)) (by as_aux_lemma=>kernel_rfl) ⟨u.d.cells.1,u.d.cells.2.1⟩ (fun hS=>?_);have l:=ae hS;clear hS E2 x0 x1 x2 x3 x4;generalize wr.drew=C at u l ⊢
   iterate 3
    refine bB 0 (v:=?_) rfl rfl (by as_aux_lemma=>kernel_rfl) (fun _ _ _ h=>h) rfl ?_ l ?_;rotate_left
    ·(intro wz M;obtain⟨s0,s1⟩:=M;go_simp)
     (try with_reducible rfl)
    (try simp only[Act.put,nzL])
   refine aR (i:=3) rfl (by as_aux_lemma=>kernel_rfl) (fun K B=>?_);go_simp;go_at_call 61;refine(jG R _ w.heap.size m0 g r j b0 QP b QN _ u.d.rd (by omega) L u.d.qs.at.1).mono ?_;rintro e v4 ⟨t4,rfl,q6,hq6,hR,hO⟩;have QO:=ae (u.only hO hR (by simp));clear hR hO u l;have l:=ae (show v4.cell? (N sb 0 Z)=T (Y b0 m0 g)/\v4.cell? (N sb 1 Z)=T (Y b r j) from⟨QO.d.cells.1,QO.d.cells.2.1⟩);refine B _ _ l ?_;clear B K
   (try simp only[Act.put,nzL])
   refine aR (i:=4) rfl (by as_aux_lemma=>kernel_rfl) (fun K B=>?_);go_simp;go_at_call 11;refine(qv w.heap.size m0 g r j b0 QP b QN _ t4 QO.d.qs.at.1).mono ?_;rintro e v5 ⟨a5,n5,c5,f5,kk5,tt5,ra5,rn5,rc5,rfl,n9,QK,th,ex⟩;have hz4:=ex.size;have hab4:=ai QO.ax;have hsb4:=ai QO.d.sx;have hws4:=QO.d.o.size;have hra4:=ai QO.d.za;have E5:=ae (QO.below ex (by simp))
   have QA:Hid (QAc w.heap.size [ab,R,w.heap.size,w.heap.size+1,sb] v5 a5 n5 c5 f5):=QAc.new n9 (by omega) (fun x QL=>by
    simp only[p6,nj,JQ] at QL
    omega)
   have DE:=ae th;clear n9 ex th QO l;have l:=ae (show v5.cell? (N sb 0 Z)=T (Y b0 m0 g)/\v5.cell? (N sb 1 Z)=T (Y b r j) from⟨E5.d.cells.1,E5.d.cells.2.1⟩);refine B _ _ l ?_;clear B K
   (try simp only[Act.put,nzL])
   iterate 3
    refine bB 5 (v:=?_) rfl rfl (by as_aux_lemma=>kernel_rfl) (fun _ _ _ h=>h) rfl ?_ l ?_;rotate_left
    ·(intro wz M;obtain⟨s0,s1⟩:=M;go_simp)
     (try with_reducible rfl)
    (try simp only[Act.put,nzL])
   obtain⟨z0,z1,z2⟩:=E5.acc;have E6:=ae (E5.put (by simp) (by omega) QA);refine aR (i:=8) rfl (by as_aux_lemma=>kernel_rfl) (fun K B=>?_);go_simp;have D:ab≠sb:=by omega
   refine B _ _ ⟨(cell_far _ _ _ _ D).trans l.1,(cell_far _ _ _ _ D).trans l.2⟩ ?_;clear B K l E5 QA z0 z1 z2
   (try simp only[Act.put,nzL])
   refine wpAnyH_done (by as_aux_lemma=>kernel_rfl) ?_ _;generalize v5.setCell (N ab 0 Z) (Y a5 n5 c5)=W7 at E6 ⊢;go_wp2;exact⟨⟨k+1,q6,n5,c5,a5,f5,by go_num,by omega,by omega,QK,DE,E6⟩,by simp[intOf];omega⟩
  | false =>
   clear bt v0 v1 v2;go_wp2_with fail;have SQ:Hid (∀ V,Dr2 [ab,R,w.heap.size,w.heap.size+1,sb] w R w.heap.size (w.heap.size+1) sb ab V q5 m0 g r j b0 QP b QN n c a f->V.cell? (N sb 0 Z)=T (Y b0 m0 g)/\V.cell? (N sb 1 Z)=T (Y b r j)/\V.cell? (N ab 0 Z)=T (Y a n c)):=fun V h=>⟨h.d.cells.1,h.d.cells.2.1,h.acc.1⟩
   have u:=ae (E2.below br.drew (by simp));refine wp_region_held_drew (S:=fun V=>V.cell? (N sb 0 Z)=T (Y b0 m0 g)/\V.cell? (N sb 1 Z)=T (Y b r j)/\V.cell? (N ab 0 Z)=T (Y a n c)) (by as_aux_lemma=>kernel_rfl) (SQ _ u) (fun hS=>?_);have l:=ae hS;clear hS E2;generalize wr.drew=C at u l ⊢
   iterate 2
    refine bB 0 (v:=?_) rfl rfl (by as_aux_lemma=>kernel_rfl) (fun _ _ _ h=>h) rfl ?_ l ?_;rotate_left
    ·(intro wz M;obtain⟨s0,s1,s2⟩:=M;go_simp)
     (try with_reducible rfl)
    (try simp only[Act.put,nzL])
   have QJ:=u.d.zs;have ka:=u.d.za;have r0:C.cell? (N w.heap.size 0 Z)=T (Y Z 0 0):=by simp[World.cell?,QJ]
   have r1:C.cell? (N w.heap.size 1 Z)=T (Y Z 0 0):=by simp[World.cell?,QJ]
   have r2:C.cell? (N (w.heap.size+1) 0 Z)=T (Y Z 0 0):=by simp[World.cell?,ka]
   have y0:C.frozen? (N w.heap.size 0 Z)=QB:=by simp[World.frozen?,QJ]
   have y1:C.frozen? (N w.heap.size 1 Z)=QB:=by simp[World.frozen?,QJ]
   have y2:C.frozen? (N (w.heap.size+1) 0 Z)=QB:=by simp[World.frozen?,ka]
   have l0:=ai QJ;have l1:=ai ka;have B3:=ae ((((a8 w.heap.size C).setCell (p:=(N w.heap.size 0 Z)) ly (Y b0 m0 g)).setCell (p:=(N w.heap.size 1 Z)) ly (Y b r j)).setCell (p:=(N (w.heap.size+1) 0 Z)) (CV _) (Y a n c));have FR:Hid (Fr [ab,R,w.heap.size,w.heap.size+1,sb] C (((C.setCell (N w.heap.size 0 Z) (Y b0 m0 g)).setCell (N w.heap.size 1 Z) (Y b r j)).setCell (N (w.heap.size+1) 0 Z) (Y a n c))):=((Fr.set (by simp) _).trans (Fr.set (by simp) _)).trans (Fr.set (by simp) _);have CD:=ae (u.d.qs.fr FR).at;have Fb:=ae (u.qa.fr FR).at;have R9:=ae (u.d.rd.low B3 L);have O9:=ae (u.d.o.then B3);clear QJ ka B3 FR;refine aR (i:=2) rfl (by as_aux_lemma=>kernel_rfl) (fun K B=>?_);go_simp;clear l;have D:sb≠w.heap.size:=by omega
   have ur:ab≠w.heap.size:=by omega
   have l:=ae (show((C.setCell (N w.heap.size 0 Z) (Y b0 m0 g)).setCell (N w.heap.size 1 Z) (Y b r j)).cell? (N sb 0 Z)=T (Y b0 m0 g)/\((C.setCell (N w.heap.size 0 Z) (Y b0 m0 g)).setCell (N w.heap.size 1 Z) (Y b r j)).cell? (N sb 1 Z)=T (Y b r j)/\((C.setCell (N w.heap.size 0 Z) (Y b0 m0 g)).setCell (N w.heap.size 1 Z) (Y b r j)).cell? (N ab 0 Z)=T (Y a n c) from by
    obtain⟨h1,h2,h3⟩:=SQ.out _ u
    exact⟨(cell_far _ _ _ _ D.symm).trans ((cell_far _ _ _ _ D.symm).trans h1),(cell_far _ _ _ _ D.symm).trans ((cell_far _ _ _ _ D.symm).trans h2),(cell_far _ _ _ _ ur.symm).trans ((cell_far _ _ _ _ ur.symm).trans h3)⟩)
   refine B _ _ l ?_;clear B K
   (try simp only[Act.put,nzL])
   refine aR (i:=3) rfl (by as_aux_lemma=>kernel_rfl) (fun K B=>?_);go_simp;have At:ab≠w.heap.size+1:=by omega
   have aq:sb≠w.heap.size+1:=by omega
   refine B _ _ ⟨(cell_far _ _ _ _ aq.symm).trans l.1,(cell_far _ _ _ _ aq.symm).trans l.2.1,(cell_far _ _ _ _ At.symm).trans l.2.2⟩ ?_;clear B K
   (try simp only[Act.put,nzL])
   refine wpAnyH_done (by as_aux_lemma=>kernel_rfl) ?_ _;go_wp2;exact bp (v:=.tuple #[QG #[Y b0 m0 g,Y b r j],QG #[Y a n c]]) (by simp[results,Tryz.results48,go_sem,r0,r1,r2]) rfl ⟨_,_,_,_,_,_,_,_,_,_,_,_,rfl,CD,Fb,hn,HF,q5,by omega,R9,O9⟩
end Go.Proofs.YtamacmnikdejeaaGreatDoor.Vp
