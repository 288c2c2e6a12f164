import Derived.Test.YtamacmnikdejeaaGreatDoorKT
import Derived.Test.YtamacmnikdejeaaGreatDoorKV
set_option maxRecDepth 100000
set_option maxHeartbeats 8000000
set_option linter.unusedSimpArgs false
open Go renaming Addr.mk->Q,Value.slice->Y,Value.string->U,Value.int->J,Value.agg->ZG,Obj.cells->N,IntKind.i64->I,World->E,Value->ZB,Ending.returned->ZF,World.heap->A,World.cell?->B
open Option renaming none->Z,some->T
open Bool renaming false->ZA
open Array renaming size->z
namespace Go.Proofs.YtamacmnikdejeaaGreatDoor.Vp
open Tryz RowKit Ca
variable {b j x k0 k1 m:Nat}{u0 u1 u u2:ZB}{t:TypeId}{ZR:Nat × Nat}{b0:Option Addr}
def MkA (w:E)(e:Ending)(b:E):Prop:=∃(a:Option Addr) (n c:Nat) (f:Nat->au) (k:Int) (t:ByteArray) (ra:Option Addr) (h g:Nat),e=ZF (.tuple #[ZG #[Y a n c],ZG #[J I k,U t,Y ra h g]])/\HAc (z (A w)) b a n c f/\n<=400/\(∀i,i<n->FitI (f i))/\Below (z (A w)) w b
theorem rh (b n0 c0 n1 c1:Nat)(a0:Option Addr)(f0:Nat->Source)(a1:Option Addr)(f1:Nat->Target)(w:E)(nm:ByteArray)(hH:HSp b w a0 n0 f0 a1 n1 f1):Calls Tryz.prog 11 #[ZG #[Y a0 n0 c0,Y a1 n1 c1],U nm] w λe f=>MkA w e f:=by have h0:=hH.hn0;have h1:=hH.hn1;refine(mV (S:=⟨n0,f0,n1,f1⟩) (a0:=a0) (a1:=a1) (c0:=c0) (c1:=c1) w nm (hH.sl w (Agr.refl _ _)).1 (hH.sl w (Agr.refl _ _)).2 (by show n0<=_;omega) (by show n1<=_;omega) (λi hi=>by have:=(hH.az i hi).1;unfold aX;show(f1 i).h<=_;omega) (λi hi j p=>by have:=(hH.az i hi).2 j p;unfold maxLen;show((f1 i).u j).s.size<=_;omega)).mono ?_;rintro e f ⟨a,c,R,rv,rfl,n,h,⟨ra,m,rfl,-⟩,g⟩;obtain⟨h2,o,l⟩:=Eh n h;exact⟨a,R.length,c,_,_,_,ra,_,m,rfl,h2,o,l,g⟩
structure Dr1 (xs:List Nat)(w:E)(R rs ra sb:Nat)(W:E)(q n0 c0 n1 c1:Nat)(a0:Option Addr)(f0:Nat->Source)(a1:Option Addr)(f1:Nat->Target):Prop where
 rd:Rd W R q
 o:Only R w W
 zs:W.heap[rs]?=T (N #[Y Z 0 0,Y Z 0 0] 29 (0,0))
 za:W.heap[ra]?=T (N #[Y Z 0 0] 25 (0,0))
 sx:W.heap[sb]?=T (N #[Y a0 n0 c0,Y a1 n1 c1] 29 (0,0))
 qs:QSp (z (A w)) xs W a0 n0 f0 a1 n1 f1
 lo:R<z (A w)
 hb:z (A w)<=rs/\(z (A w))<=ra/\(z (A w))<=sb
structure Dr2 (xs:List Nat)(w:E)(R rs ra sb ab:Nat)(W:E)(q n0 c0 n1 c1:Nat)(a0:Option Addr)(f0:Nat->Source)(a1:Option Addr)(f1:Nat->Target)(n c:Nat)(a:Option Addr)(f:Nat->au):Prop where
 d:Dr1 xs w R rs ra sb W q n0 c0 n1 c1 a0 f0 a1 f1
 ax:W.heap[ab]?=T (N #[Y a n c] 25 (0,0))
 qa:QAc (z (A w)) xs W a n c f
 hb:z (A w)<=ab
section
variable {xs:List Nat}{w W W':E}{R rs ra sb ab q q' n0 c0 n1 c1 n c:Nat}{a0 a1 a:Option Addr}{f0:Nat->Source}{f1:Nat->Target}{f:Nat->au}
theorem Dr1.ac (h:Dr1 xs w R rs ra sb W q n0 c0 n1 c1 a0 f0 a1 f1)(b:Only R W W')(hR:Rd W' R q')(f:R∈xs):Dr1 xs w R rs ra sb W' q' n0 c0 n1 c1 a0 f0 a1 f1:=by have hl:=h.lo;obtain⟨h1,h2,h3⟩:=h.hb;exact⟨hR,h.o.trans b,(b.block _ (ar h.zs) (by omega)).trans h.zs,(b.block _ (ar h.za) (by omega)).trans h.za,(b.block _ (ar h.sx) (by omega)).trans h.sx,h.qs.fr (Fr.ac b f),h.lo,h.hb⟩
theorem Dr1.aa (h:Dr1 xs w R rs ra sb W q n0 c0 n1 c1 a0 f0 a1 f1)(b:Below (z (A W)) W W')(f:R∈xs):Dr1 xs w R rs ra sb W' q n0 c0 n1 c1 a0 f0 a1 f1:=h.ac (Only.q b) (h.rd.aa b ly) f
theorem Dr1.cells (h:Dr1 xs w R rs ra sb W q n0 c0 n1 c1 a0 f0 a1 f1):B W (Q sb 0 Z)=T (Y a0 n0 c0)/\B W (Q sb 1 Z)=T (Y a1 n1 c1)/\W.frozen? (Q sb 0 Z)=ZA/\W.frozen? (Q sb 1 Z)=ZA/\sb<z (A W):=by have hb:=h.sx;refine⟨?_,?_,?_,?_,ar hb⟩<;>simp[World.cell?,World.frozen?,hb]
theorem Dr1.more (h:Dr1 xs w R rs ra sb W q n0 c0 n1 c1 a0 f0 a1 f1)(g:z (A W)<=x):Dr1 (x::xs) w R rs ra sb W q n0 c0 n1 c1 a0 f0 a1 f1:=by
 obtain⟨b,j,l,h1,h2,i⟩:=h.qs;refine⟨h.rd,h.o,h.zs,h.za,h.sx,⟨b,j,l,h1,h2,λy f=>?_⟩,h.lo,h.hb⟩;rcases A9.1 f with rfl|f;{exact .inr (nL h2.1 g)};{exact i y f}
theorem Dr2.ac (h:Dr2 xs w R rs ra sb ab W q n0 c0 n1 c1 a0 f0 a1 f1 n c a f)(b:Only R W W')(hR:Rd W' R q')(g:R∈xs):Dr2 xs w R rs ra sb ab W' q' n0 c0 n1 c1 a0 f0 a1 f1 n c a f:=by have hl:=h.d.lo;have h1:=h.hb;exact⟨h.d.ac b hR g,(b.block _ (ar h.ax) (by omega)).trans h.ax,h.qa.fr (Fr.ac b g),h.hb⟩
theorem Dr2.aa (h:Dr2 xs w R rs ra sb ab W q n0 c0 n1 c1 a0 f0 a1 f1 n c a f)(b:Below (z (A W)) W W')(g:R∈xs):Dr2 xs w R rs ra sb ab W' q n0 c0 n1 c1 a0 f0 a1 f1 n c a f:=h.ac (Only.q b) (h.d.rd.aa b ly) g
theorem Dr2.acc (h:Dr2 xs w R rs ra sb ab W q n0 c0 n1 c1 a0 f0 a1 f1 n c a f):B W (Q ab 0 Z)=T (Y a n c)/\W.frozen? (Q ab 0 Z)=ZA/\ab<z (A W):=by have hb:=h.ax;refine⟨?_,?_,ar hb⟩<;>simp[World.cell?,World.frozen?,hb]
theorem kw{W:E}{i:Nat}{c m:Array ZB}{b:TypeId}{l:Nat × Nat}(h:W.heap[i]?=T (N c t ZR))(g:W.heap[j]?=T (N m b l))(f:t≠b):i≠j:=λe=>by rw[e,g] at h;simp at h;exact f h.2.1.symm
theorem Dr1.put{m0:Nat}{f:Option Addr}{i:Nat->Source}{l:Nat->Target}(h:Dr1 xs w R rs ra sb W q n0 c0 n1 c1 a0 f0 a1 f1)(j:sb∈xs)(n:rs≠sb)(s:QSp (z (A w)) xs W b0 m0 i f b l):Dr1 xs w R rs ra sb ((W.setCell (Q sb 0 Z) (Y b0 m0 k0)).setCell (Q sb 1 Z) (Y f b k1)) q m0 k0 b k1 b0 i f l:=by obtain⟨h1,h2,m⟩:=h.hb;have ZT:=((cM (z (A w)) W).setCell (p:=(Q sb 0 Z)) m (Y b0 m0 k0)).setCell (p:=(Q sb 1 Z)) m (Y f b k1);have far:∀k,k≠sb->((W.setCell (Q sb 0 Z) (Y b0 m0 k0)).setCell (Q sb 1 Z) (Y f b k1)).heap[k]?=W.heap[k]?:=λk g=>(qh _ _ _ _ g).trans (qh _ _ _ _ g);have r:=h.sx;exact⟨h.rd.low ZT h.lo,h.o.then ZT,(far _ n).trans h.zs,(far _ (kw h.za h.sx (by decide))).trans h.za,by simp[World.setCell,LE,r],s.fr ((Fr.set j _).trans (Fr.set j _)),h.lo,h.hb⟩
theorem Dr1.aset (h:Dr1 xs w R rs ra sb W q n0 c0 n1 c1 a0 f0 a1 f1)(b:x∈xs)(h1:x≠sb)(h2:x≠ra)(i:x≠rs)(g:z (A w)<=x)(u:ZB):Dr1 xs w R rs ra sb (W.setCell (Q x j Z) u) q n0 c0 n1 c1 a0 f0 a1 f1:=by have ZT:=(cM (z (A w)) W).setCell (p:=(Q x j Z)) g u;have far:∀k,k≠x->(W.setCell (Q x j Z) u).heap[k]?=W.heap[k]?:=λk f=>qh _ _ _ _ f;exact⟨h.rd.low ZT h.lo,h.o.then ZT,(far _ (λe=>i e.symm)).trans h.zs,(far _ (λe=>h2 e.symm)).trans h.za,(far _ (λe=>h1 e.symm)).trans h.sx,h.qs.fr (Fr.set b u),h.lo,h.hb⟩
theorem Dr2.put{k:Nat}{b:Option Addr}{g:Nat->au}(h:Dr2 xs w R rs ra sb ab W q n0 c0 n1 c1 a0 f0 a1 f1 n c a f)(i:ab∈xs)(j:ab≠ra)(l:QAc (z (A w)) xs W b m k g):Dr2 xs w R rs ra sb ab (W.setCell (Q ab 0 Z) (Y b m k)) q n0 c0 n1 c1 a0 f0 a1 f1 m k b g :=
 ⟨h.d.aset i (kw h.ax h.d.sx (by decide)) j (kw h.ax h.d.zs (by decide)) h.hb _,ci h.ax _,l.fr (Fr.set i _),h.hb⟩
theorem Dr2.sput{m0:Nat}{g:Option Addr}{l:Nat->Source}{m:Nat->Target}(h:Dr2 xs w R rs ra sb ab W q n0 c0 n1 c1 a0 f0 a1 f1 n c a f)(i:sb∈xs)(o:rs≠sb)(p:QSp (z (A w)) xs W b0 m0 l g j m):Dr2 xs w R rs ra sb ab ((W.setCell (Q sb 0 Z) (Y b0 m0 k0)).setCell (Q sb 1 Z) (Y g j k1)) q m0 k0 j k1 b0 l g m n c a f :=
 have b:ab≠sb:=kw h.ax h.d.sx (by decide)
 ⟨h.d.put i o p,((qh _ _ _ _ b).trans (qh _ _ _ _ b)).trans h.ax,h.qa.fr ((Fr.set i _).trans (Fr.set i _)),h.hb⟩
end
structure RgM (W v:E)(z7 z8:Option (Nat × Array ZB)):Prop where
 b:Below (z (A W)) W v
 a:∀p cs,z7=T (p,cs)->z (A W)<=p/\v.heap[p]?=T (N cs 25 (0,0))
 r:∀p cs,z8=T (p,cs)->z (A W)<=p/\v.heap[p]?=T (N cs 37 (0,0))
section
variable {W v v':E}{z7 z8:Option (Nat × Array ZB)}{p:Nat}{cs:Array ZB}
theorem RgM.aa (h:RgM W v z7 z8)(f:Below (z (A v)) v v'):RgM W v' z7 z8 :=
 ⟨h.b.trans (f.mono h.b.size),λp cs e=>⟨(h.a p cs e).1,(f.block p (ar (h.a p cs e).2)).trans (h.a p cs e).2⟩,λp cs e=>⟨(h.r p cs e).1,(f.block p (ar (h.r p cs e).2)).trans (h.r p cs e).2⟩⟩
theorem RgM.newA (h:RgM W v z7 z8)(cs:Array ZB):RgM W (v.alloc (N cs 25)) (T (z (A v),cs)) z8:=by
 have f:=h.aa ((BS v).alloc ly (N cs 25));refine⟨f.b,λp c e=>?_,f.r⟩;cases e
 exact⟨h.b.size,gM v _⟩
theorem RgM.newR (h:RgM W v z7 z8)(cs:Array ZB):RgM W (v.alloc (N cs 37)) z7 (T (z (A v),cs)):=by
 have f:=h.aa ((BS v).alloc ly (N cs 37));refine⟨f.b,f.a,λp c e=>?_⟩;cases e
 exact⟨h.b.size,gM v _⟩
theorem RgM.setA (h:RgM W v (T (p,#[u0])) z8)(u:ZB):RgM W (v.setCell (Q p 0 Z) u) (T (p,#[u])) z8:=by
 obtain⟨h1,h2⟩:=h.a p _ rfl;refine⟨h.b.setCell (p:=(Q p 0 Z)) h1 u,λq c e=>?_,λq c e=>?_⟩
 ·cases e
  exact⟨h1,ci h2 _⟩
 {obtain⟨g,f⟩:=h.r q c e;exact⟨g,(qh v (Q p 0 Z) u q (kw f h2 (by decide))).trans f⟩}
theorem RgM.endR (h:RgM W v z7 (T (p,cs)))(u0 u1 u2:ZB):RgM W (((v.setCell (Q p 0 Z) u0).setCell (Q p 1 Z) u1).setCell (Q p 2 Z) u2) z7 Z:=by obtain⟨h1,h2⟩:=h.r p _ rfl;refine⟨((h.b.setCell (p:=(Q p 0 Z)) h1 u0).setCell (p:=(Q p 1 Z)) h1 u1).setCell (p:=(Q p 2 Z)) h1 u2,λq c e=>?_,λq c e=>by cases e⟩;obtain⟨g,f⟩:=h.a q c e;have ne:=kw f h2 (by decide);exact⟨g,(((qh _ (Q p 2 Z) u2 q ne).trans (qh _ (Q p 1 Z) u1 q ne)).trans (qh v (Q p 0 Z) u0 q ne)).trans f⟩
theorem RgM.cA (h:RgM W v (T (p,#[u0])) z8):B v (Q p 0 Z)=T u0/\v.frozen? (Q p 0 Z)=ZA/\p<z (A v):=by have k:=(h.a p _ rfl).2;refine⟨?_,?_,ar k⟩<;>simp[World.cell?,World.frozen?,k]
theorem RgM.cR (h:RgM W v z7 (T (p,#[u0,u1,u2]))):B v (Q p 0 Z)=T u0/\B v (Q p 1 Z)=T u1/\B v (Q p 2 Z)=T u2/\v.frozen? (Q p 0 Z)=ZA/\v.frozen? (Q p 1 Z)=ZA/\v.frozen? (Q p 2 Z)=ZA/\p<z (A v):=by have k:=(h.r p _ rfl).2;refine⟨?_,?_,?_,?_,?_,?_,ar k⟩<;>simp[World.cell?,World.frozen?,k]
theorem DRow.kd{R:List DR}(h:DRow v b u R)(g:∀m e,OfTy v m e->e=46∨e=146∨e=129->v'.heap[m]?=v.heap[m]?):DRow v' b u R :=
 ⟨dP h.y λm _ f=>g m _ f (.inl rfl),λr i=>(h.sub r i).far (λm _ f=>g m _ f (.inr (.inl rfl))) (λm _ f=>g m _ f (.inr (.inr rfl))),h.up⟩
theorem xj{e:TypeId}(g:OfTy v m e)(b:v.heap[p]?=T (N cs t ZR))(f:e≠t):m≠p:=λi=>by obtain⟨c,z',h⟩:=g;rw[i,b] at h;simp at h;exact f h.2.1.symm
theorem RgM.dA{R:List DR}(h:RgM W v (T (p,#[u0])) z8)(i:DRow v b u1 R)(u:ZB):DRow (v.setCell (Q p 0 Z) u) b u1 R :=
 i.kd λm e g f=>qh v (Q p 0 Z) u m (xj g (h.a p _ rfl).2 (by rcases f with rfl|rfl|rfl<;>decide))
theorem RgM.dR{R:List DR}(h:RgM W v z7 (T (p,cs)))(i:DRow v b u R):DRow (((v.setCell (Q p 0 Z) u0).setCell (Q p 1 Z) u1).setCell (Q p 2 Z) u2) b u R :=
 i.kd λm e g f=>by have ne:=xj g (h.r p _ rfl).2 (by rcases f with rfl|rfl|rfl<;>decide);exact((qh _ (Q p 2 Z) u2 m ne).trans (qh _ (Q p 1 Z) u1 m ne)).trans (qh v (Q p 0 Z) u0 m ne)
theorem DRow.low{f:Nat}{R:List DR}(h:DRow v b u R)(hb:f<=b):DRow v f u R:=⟨aF h.y hb,λr g=>(h.sub r g).mono hb,h.up⟩
end
def MkD (W:E)(S:Spc)(t:ByteArray)(b:Nat)(d:Option Addr)(ZN dc:Nat)(v:E):Prop:=∃R:List DR,R.length=ZN/\R.map (·.1)=aT S (aV S t).1/\DRow v (z (A W)) (Y d ZN dc) R/\Below (z (A W)) W v/\(z (A W))<=b/\AB v b (Y d ZN dc)
structure Lw (w:E)(ab sb:Nat)(d:Option Addr)(ZN dc:Nat)(f:Nat->au)(a0:Option Addr)(n0 c0:Nat)(f0:Nat->Source)(a1:Option Addr)(n1 c1:Nat)(f1:Nat->Target)(V:E):Prop where
 b:Below (z (A w)) w V
 s0:SlSource V a0 n0 f0
 s1:SlTarget V a1 n1 f1
 dd:SlDeed V d ZN f
 ax:AB V ab (Y d ZN dc)
 sx:SBx V sb (Y a0 n0 c0) (Y a1 n1 c1)
section
variable {w V ZK:E}{ab sb:Nat}{d:Option Addr}{ZN dc:Nat}{f:Nat->au}{a0:Option Addr}{n0 c0:Nat}{f0:Nat->Source}{a1:Option Addr}{n1 c1:Nat}{f1:Nat->Target}
theorem Lw.aa (h:Lw w ab sb d ZN dc f a0 n0 c0 f0 a1 n1 c1 f1 V)(g:Below (z (A V)) V ZK):Lw w ab sb d ZN dc f a0 n0 c0 f0 a1 n1 c1 f1 ZK :=
 ⟨h.b.trans (g.mono h.b.size),h.s0.aa g ly,h.s1.aa g ly,h.dd.aa g ly,h.ax.aa g ly,h.sx.aa g ly⟩
theorem Lw.c (h:Lw w ab sb d ZN dc f a0 n0 c0 f0 a1 n1 c1 f1 V):B V (Q sb 0 Z)=T (Y a0 n0 c0)/\B V (Q sb 1 Z)=T (Y a1 n1 c1)/\B V (Q ab 0 Z)=T (Y d ZN dc):=⟨h.sx.c0,h.sx.c1,h.ax.c0⟩
theorem Gx (hH:HSp (z (A w)) V a0 n0 f0 a1 n1 f1)(h:HAc (z (A w)) V d ZN dc f)(b:Below (z (A w)) w V):Lw w (z (A V)) (z (A V)+1) d ZN dc f a0 n0 c0 f0 a1 n1 c1 f1 ((V.alloc (N #[Y d ZN dc] 25)).alloc (N #[Y a0 n0 c0,Y a1 n1 c1] 29)):=by have ZS:=((BS V).alloc ly (N #[Y d ZN dc] 25)).alloc (by simp) (N #[Y a0 n0 c0,Y a1 n1 c1] 29);have g:=hH.sl _ (dJ ZS ly);exact⟨b.trans (ZS.mono b.size),g.1,g.2,h.sl _ (dJ ZS ly),(((cM (z (A V)+1) (V.alloc (N #[Y d ZN dc] 25))).alloc (by simp) _).block (z (A V)) (j4 _)).trans (gM V _),PK V _ _⟩
end
def DSA (w:E)(R q:Nat)(e:Ending)(b:E):Prop:=∃(a0:Option Addr) (n0 c0:Nat) (f0:Nat->Source) (a1:Option Addr) (n1 c1:Nat) (f1:Nat->Target) (a:Option Addr) (n c:Nat) (f:Nat->au),e=ZF (.tuple #[ZG #[Y a0 n0 c0,Y a1 n1 c1],ZG #[Y a n c]])/\HSg (z (A w)) b a0 n0 f0 a1 n1 f1/\HAc (z (A w)) b a n c f/\n<=400/\(∀i,i<n->FitI (f i))/\∃q':Nat,q'<=q/\Rd b R q'/\Only R w b
theorem yX (R p:Nat)(w:E)(hR:Rd w R p)(hp:p<=9000):Calls Tryz.prog 48 #[.pointer (T (Q R 0 Z))] w λe w'=>DSA w R (p+5300) e w':=by
 have HR:=ae hR;have H:=hR.lt;obtain⟨W0,ZL⟩:∃W:E,(w.alloc (N #[Y Z 0 0,Y Z 0 0] 29)).alloc (N #[Y Z 0 0] 25)=W:=⟨_,rfl⟩
 obtain⟨A0,KS,KA,hzA⟩:=nb2 ZL;have aq:=ae ZL;clear ZL;clear hR;go_enter func48,ntmps48;go_wp2_with fail;rw[aq.out];clear aq;refine(ay R p 40 _ (HR.aa A0 ly) (by omega) (by omega) (by omega)).mono ?_;rintro e w1 ⟨ZR,rfl,hz0,hz1,ur,M⟩;have R1:=ae ur;have O1:=ae ((Only.q A0).trans M);have sm:=ae ((M.block (z (A w)) (by omega) (by omega)).trans KS);have mv:=ae ((M.block (z (A w)+1) (by omega) (by omega)).trans KA);have hs1:=M.size;clear ur M KS KA A0 HR;go_wp2_with fail;refine(yF R _ _ R1 (by omega)).mono ?_;rintro e G ⟨LS,RT,v0,v1,rfl,ho,ht,hG,DE,Ha,q2,hq2,qr,L⟩;obtain⟨a0,c0,rfl⟩:=aQ ho;obtain⟨a1,c1,rfl⟩:=aQ ht.y;have hD:=Fz ho ht hG (by omega) (by omega);have hH:HSg _ _ _ _ _ _ _ _:=⟨hD.1,by omega,by omega,hD.2⟩
 clear hD;have hs2:=L.size;have AS:=(BS G).alloc ly (N #[Y a0 LS.length c0,Y a1 RT.length c1] 29);have D:Hid (Dr1 [R,z (A w),z (A w)+1,z (A G)] w R (z (A w)) (z (A w)+1) (z (A G)) (G.alloc (N #[Y a0 LS.length c0,Y a1 RT.length c1] 29)) q2 LS.length c0 RT.length c1 a0 (cI LS) a1 (bK (RT.map (·.1)))):=by refine⟨qr.aa AS ly,(O1.trans L).trans (Only.q AS),(AS.block _ (by omega)).trans ((L.block _ (by omega) (by omega)).trans sm),(AS.block _ (by omega)).trans ((L.block _ (by omega) (by omega)).trans mv),gM G _,⟨z (A w1)+2,G,by omega,hH,dJ AS ly,λx ZM=>?_⟩,H,by omega,by omega,by omega⟩;simp only[A9,nj,NJ] at ZM;omega
 clear AS ho ht hG hH qr L O1 sm mv R1;generalize LS.length=n0 at D DE ⊢;generalize RT.length=n1 at D Ha ⊢;generalize cI LS=f0 at D;generalize bK (RT.map (·.1))=f1 at D;go_upto_region 3 with fail;have Bk:z (A w)+2<=z (A G):=by omega
 generalize World.alloc G _=W2 at D ⊢;generalize (z (A G))=sb at D Bk ⊢;obtain⟨x0,x1,-⟩:=D.cells;go_wp2_with fail;refine(jG R _ (z (A w)) n0 c0 n1 c1 a0 f0 a1 f1 _ D.rd (by omega) H D.qs.at.1).mono ?_;rintro e w3 ⟨t,rfl,q3,hq3,ph,ro⟩;have D2:=ae (D.ac ro ph (by simp));clear ph ro D x0 x1;go_upto_if 18 with fail;go_cut [6] (λs6 wx=>∃(t:ByteArray) (q m0 g r j:Nat) (b0:Option Addr) (ZP:Nat->Source) (b:Option Addr) (O:Nat->Target),s6=U t/\q<=p+5200/\Hid (Dr1 [R,z (A w),z (A w)+1,sb] w R (z (A w)) (z (A w)+1) sb wx q m0 g r j b0 ZP b O));case first =>
  by_cases hz:ZR=0
  ·subst hz;go_wp2_with fail;refine(ay R _ 2 _ D2.rd (by omega) (by omega) (by omega)).mono ?_;rintro e w4 ⟨y,rfl,y0,y1,hR,hO⟩;have ZQ:=ae (D2.ac hO hR (by simp));clear hR hO D2;obtain⟨m,hm⟩:∃m:Nat,60 - y=(m:Int):=⟨(60 - y).toNat,by omega⟩
   have hw:IntKind.i64.wrap (60 - y)=60 - y:=by rw[p9];omega
   go_wp2_with fail;have hs4:=ar ZQ.sx;refine(nT m (by omega) ⟨#[97]⟩ (by decide) _).mono ?_;rintro e w5 ⟨b0,m0,g,ZP,b,j,n9,rfl,DS,ZJ,la,-,-,th,X⟩
   have hH:HSg _ _ _ _ _ _ _ _:=⟨la,ZJ,by omega,λi hi=>by
    have e:bK (n9.map (·.1)) i=n9[i].1:=by simp[bK,hi]
    rw[e,(th _ (gz hi)).2]
    omega⟩
   clear la th DS ZJ;have hz5:=X.size;have D4:=ae (ZQ.aa X (by simp))
   have D5:=ae (D4.put (k0:=g) (k1:=j) (by simp) (by omega) (QSp.new hH (by omega) (λx ZM=>by
    simp only[A9,nj,NJ] at ZM
    omega)))
   obtain⟨x0,x1,x2,x3,x4⟩:=D4.cells;clear hH X ZQ D4 hm hw;go_wp2;go_meet;exact⟨_,_,_,_,_,_,_,_,_,_,rfl,by omega,D5⟩
  ·have hzb:(ZR == 0)=ZA:=by simpa using hz
   go_wp2;go_meet;exact⟨t,q3,_,_,_,_,_,_,_,_,rfl,by omega,D2⟩
 case rest =>
 clear D2;obtain⟨t,q4,m0,g,r,j,b0,ZP,b,O,rfl,hq4,ZQ⟩:=hcut;generalize wc=W3 at ZQ ⊢;obtain⟨x0,x1,x2,x3,x4⟩:=ZQ.cells;go_wp2_with fail;refine(rh (z (A w)) m0 g r j b0 ZP b O _ t ZQ.qs.at.1).mono ?_;rintro e w6 ⟨a,n,c,f,kk,tt,ra,rn,rc,rfl,hA,hn,hf,X⟩;obtain⟨W6,ZK⟩:∃W:E,(w6.alloc (N #[Y a n c] 25)).alloc (N #[J I kk,U tt,Y ra rn rc] 37)=W:=⟨_,rfl⟩
 obtain⟨A6,ZI,-,-⟩:=nb2 ZK;replace ZI:=ZI.out;replace A6:=A6.out;have P:=ae ZK;clear ZK;have G8:=X.size;have hws:=ZQ.o.size;have E1:Hid (Dr2 [z (A w6),R,z (A w),z (A w)+1,sb] w R (z (A w)) (z (A w)+1) sb (z (A w6)) W6 q4 m0 g r j b0 ZP b O n c a f):=by
  cases P.out
  refine⟨((ZQ.aa X (by simp)).more ly).aa A6 (by simp),ZI,⟨z (A W3),w6,by omega,hA,dJ A6 ly,λx ZM=>?_⟩,by omega⟩;simp only[A9,nj,NJ] at ZM;omega
 have HF:=ae hf;have Fm:sb<z (A w6):=by omega
 have hw2:z (A w)+2<=z (A W3):=by omega
 clear A6 ZI hA X hf ZQ x0 x1 x2 x3 x4;go_wp2_with fail;rw[P.out];clear P;generalize (z (A w6))=ab at E1 Fm G8 ⊢;go_loopw [9] (λi wr=>∃(k q n c:Nat) (a:Option Addr) (f:Nat->au),i=J I k/\k<=3/\q<=q4+3*k/\n<=400/\Hid (∀i,i<n->FitI (f i))/\Hid (Dr2 [ab,R,z (A w),z (A w)+1,sb] w R (z (A w)) (z (A w)+1) sb ab wr q m0 g r j b0 ZP b O n c a f)) (λi _=>3 - (intOf i).toNat);case atStart=>exact⟨0,q4,n,c,a,f,rfl,by omega,by omega,hn,HF,E1⟩
 case round =>
  clear E1 HF hn;obtain⟨k,q5,n,c,a,f,rfl,hk,hq5,hn,HF,E2⟩:=hrel;obtain⟨v0,v1,v2⟩:=E2.acc;go_upto_region 9 with fail;go_cut [36] (λs wx=>∃b:Bool,s=.bool b/\(b=true->k<3)/\wr=wx);case first =>
   by_cases n8:k<3
   ·have Hb:(k:Int)<3:=by omega
    go_wp2;go_meet;exact⟨_,rfl,λ_=>n8,rfl⟩
   ·have Hb:¬ (k:Int)<3:=by omega
    go_wp2;go_meet;exact⟨ZA,rfl,(λh=>by cases h),rfl⟩
  case rest =>
  obtain⟨Fd,rfl,fd,rfl⟩:=hcut;cases Fd with
  |true =>
   have n8:=fd rfl;obtain⟨x0,x1,x2,x3,x4⟩:=E2.d.cells;clear fd v0 v1 v2;go_wp2_with fail;have u:=ae (E2.aa br.drew (by simp));refine wp_region_held_drew (S:=λV=>B V (Q sb 0 Z)=T (Y b0 m0 g)/\B V (Q sb 1 Z)=T (Y b r j)) (by kernel_rfl) ⟨u.d.cells.1,u.d.cells.2.1⟩ λhS=>?_;have l:=ae hS;clear hS E2 x0 x1 x2 x3 x4;generalize wr.drew=ZT at u l ⊢;iterate 3
    refine ba 0 (v:=?_) rfl rfl (by kernel_rfl) (λ_ _ _ h=>h) rfl ?_ l ?_;rotate_left
    ·(rintro wz ⟨s0,s1⟩;go_simp)
     (try with_reducible rfl)
    (try simp only[Act.put,nzL])
   refine aN (i:=3) rfl (by kernel_rfl) λK ZS=>?_;go_simp;go_at_call 61;refine(jG R _ (z (A w)) m0 g r j b0 ZP b O _ u.d.rd (by omega) H u.d.qs.at.1).mono ?_;rintro e v4 ⟨t4,rfl,q6,hq6,hR,hO⟩;have ZO:=ae (u.ac hO hR (by simp));clear hR hO u l;have l:=ae (show B v4 (Q sb 0 Z)=T (Y b0 m0 g)/\B v4 (Q sb 1 Z)=T (Y b r j) from⟨ZO.d.cells.1,ZO.d.cells.2.1⟩);refine ZS _ _ l ?_;clear ZS K
   (try simp only[Act.put,nzL])
   refine aN (i:=4) rfl (by kernel_rfl) λK ZS=>?_;go_simp;go_at_call 11;refine(rh (z (A w)) m0 g r j b0 ZP b O _ t4 ZO.d.qs.at.1).mono ?_;rintro e v5 ⟨a5,n5,c5,f5,kk5,tt5,ra5,rn5,rc5,rfl,n6,ZJ,n7,ex⟩;have hz4:=ex.size;have hab4:=ar ZO.ax;have hsb4:=ar ZO.d.sx;have hws4:=ZO.d.o.size;have hra4:=ar ZO.d.za;have E5:=ae (ZO.aa ex (by simp))
   have QA:Hid (QAc (z (A w)) [ab,R,z (A w),z (A w)+1,sb] v5 a5 n5 c5 f5):=QAc.new n6 (by omega) (λx ZM=>by
    simp only[A9,nj,NJ] at ZM
    omega)
   have DQ:=ae n7;clear n6 ex n7 ZO l;have l:=ae (show B v5 (Q sb 0 Z)=T (Y b0 m0 g)/\B v5 (Q sb 1 Z)=T (Y b r j) from⟨E5.d.cells.1,E5.d.cells.2.1⟩);refine ZS _ _ l ?_;clear ZS K
   (try simp only[Act.put,nzL])
   iterate 3
    refine ba 5 (v:=?_) rfl rfl (by kernel_rfl) (λ_ _ _ h=>h) rfl ?_ l ?_;rotate_left
    ·(rintro wz ⟨s0,s1⟩;go_simp)
     (try with_reducible rfl)
    (try simp only[Act.put,nzL])
   obtain⟨z0,z1,z2⟩:=E5.acc;have E6:=ae (E5.put (by simp) (by omega) QA);refine aN (i:=8) rfl (by kernel_rfl) λK ZS=>?_;go_simp;have C:ab≠sb:=by omega
   refine ZS _ _ ⟨(cell_far _ _ _ _ C).trans l.1,(cell_far _ _ _ _ C).trans l.2⟩ ?_;clear ZS K l E5 QA z0 z1 z2
   (try simp only[Act.put,nzL])
   refine wpAnyH_done (by kernel_rfl) ?_ _;generalize World.setCell v5 _ _=W7 at E6 ⊢;go_wp2;exact⟨⟨k+1,q6,n5,c5,a5,f5,by go_num,by omega,by omega,ZJ,DQ,E6⟩,by simp[intOf];omega⟩
  |false =>
   clear fd v0 v1 v2;go_wp2_with fail;have SQ:Hid (∀V,Dr2 [ab,R,z (A w),z (A w)+1,sb] w R (z (A w)) (z (A w)+1) sb ab V q5 m0 g r j b0 ZP b O n c a f->B V (Q sb 0 Z)=T (Y b0 m0 g)/\B V (Q sb 1 Z)=T (Y b r j)/\B V (Q ab 0 Z)=T (Y a n c)):=λV h=>⟨h.d.cells.1,h.d.cells.2.1,h.acc.1⟩
   have u:=ae (E2.aa br.drew (by simp));refine wp_region_held_drew (S:=λV=>B V (Q sb 0 Z)=T (Y b0 m0 g)/\B V (Q sb 1 Z)=T (Y b r j)/\B V (Q ab 0 Z)=T (Y a n c)) (by kernel_rfl) (SQ _ u) λhS=>?_;have l:=ae hS;clear hS E2;generalize wr.drew=ZT at u l ⊢;iterate 2
    refine ba 0 (v:=?_) rfl rfl (by kernel_rfl) (λ_ _ _ h=>h) rfl ?_ l ?_;rotate_left
    ·(rintro wz ⟨s0,s1,s2⟩;go_simp)
     (try with_reducible rfl)
    (try simp only[Act.put,nzL])
   have ks:=u.d.zs;have ka:=u.d.za;have r0:B ZT (Q (z (A w)) 0 Z)=T (Y Z 0 0):=by simp[World.cell?,ks]
   have r1:B ZT (Q (z (A w)) 1 Z)=T (Y Z 0 0):=by simp[World.cell?,ks]
   have r2:B ZT (Q (z (A w)+1) 0 Z)=T (Y Z 0 0):=by simp[World.cell?,ka]
   have y0:ZT.frozen? (Q (z (A w)) 0 Z)=ZA:=by simp[World.frozen?,ks]
   have y1:ZT.frozen? (Q (z (A w)) 1 Z)=ZA:=by simp[World.frozen?,ks]
   have y2:ZT.frozen? (Q (z (A w)+1) 0 Z)=ZA:=by simp[World.frozen?,ka]
   have l0:=ar ks;have l1:=ar ka;have B3:=ae ((((cM (z (A w)) ZT).setCell (p:=(Q (z (A w)) 0 Z)) ly (Y b0 m0 g)).setCell (p:=(Q (z (A w)) 1 Z)) ly (Y b r j)).setCell (p:=(Q (z (A w)+1) 0 Z)) (D0 _) (Y a n c));have FR:Hid (Fr [ab,R,z (A w),z (A w)+1,sb] ZT (((ZT.setCell (Q (z (A w)) 0 Z) (Y b0 m0 g)).setCell (Q (z (A w)) 1 Z) (Y b r j)).setCell (Q (z (A w)+1) 0 Z) (Y a n c))):=((Fr.set (by simp) _).trans (Fr.set (by simp) _)).trans (Fr.set (by simp) _);have GS:=ae (u.d.qs.fr FR).at;have Fk:=ae (u.qa.fr FR).at;have R9:=ae (u.d.rd.low B3 H);have O9:=ae (u.d.o.then B3);clear ks ka B3 FR;refine aN (i:=2) rfl (by kernel_rfl) λK ZS=>?_;go_simp;clear l;have C:sb≠z (A w):=by omega
   have ld:ab≠z (A w):=by omega
   have l:=ae (show((ZT.setCell (Q (z (A w)) 0 Z) (Y b0 m0 g)).setCell (Q (z (A w)) 1 Z) (Y b r j)).cell? (Q sb 0 Z)=T (Y b0 m0 g)/\((ZT.setCell (Q (z (A w)) 0 Z) (Y b0 m0 g)).setCell (Q (z (A w)) 1 Z) (Y b r j)).cell? (Q sb 1 Z)=T (Y b r j)/\((ZT.setCell (Q (z (A w)) 0 Z) (Y b0 m0 g)).setCell (Q (z (A w)) 1 Z) (Y b r j)).cell? (Q ab 0 Z)=T (Y a n c) from by
    obtain⟨h1,h2,h3⟩:=SQ.out _ u
    exact⟨(cell_far _ _ _ _ C.symm).trans ((cell_far _ _ _ _ C.symm).trans h1),(cell_far _ _ _ _ C.symm).trans ((cell_far _ _ _ _ C.symm).trans h2),(cell_far _ _ _ _ ld.symm).trans ((cell_far _ _ _ _ ld.symm).trans h3)⟩)
   refine ZS _ _ l ?_;clear ZS K
   (try simp only[Act.put,nzL])
   refine aN (i:=3) rfl (by kernel_rfl) λK ZS=>?_;go_simp;have At:ab≠z (A w)+1:=by omega
   have bt:sb≠z (A w)+1:=by omega
   refine ZS _ _ ⟨(cell_far _ _ _ _ bt.symm).trans l.1,(cell_far _ _ _ _ bt.symm).trans l.2.1,(cell_far _ _ _ _ At.symm).trans l.2.2⟩ ?_;clear ZS K
   (try simp only[Act.put,nzL])
   refine wpAnyH_done (by kernel_rfl) ?_ _;go_wp2;exact bp (v:=.tuple #[ZG #[Y b0 m0 g,Y b r j],ZG #[Y a n c]]) (by simp[results,results48,go_sem,r0,r1,r2]) rfl ⟨_,_,_,_,_,_,_,_,_,_,_,_,rfl,GS,Fk,hn,HF,q5,by omega,R9,O9⟩
