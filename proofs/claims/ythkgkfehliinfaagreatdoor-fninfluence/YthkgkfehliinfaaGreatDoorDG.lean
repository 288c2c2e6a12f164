import Derived.Test.YthkgkfehliinfaaGreatDoorEZ
import Derived.Test.YthkgkfehliinfaaGreatDoorDC
set_option linter.all false
set_option maxRecDepth 100000
set_option maxHeartbeats 8000000
open Go renaming Addr.mk->Q,Value.slice->Y,Value.string->U,Value.int->J,Value.agg->ZJ,Obj.cells->N,IntKind.i64->I,World->E,Value->ZB,Ending.returned->ZI,World.heap->A,World.cell?->ZW,World.frozen?->ZX,World.setCell->ZU
open Option renaming none->Z,some->T
open Bool renaming false->ZA
open Array renaming size->z
open List renaming length->ZV
namespace Go.Proofs.YthkgkfehliinfaaGreatDoor.Vp
open Tryz RowKit Ca
variable {x i j k0 k1:Nat}{b0:O_}
def MkA (w:E)(e:Ending)(b:E):Prop:=∃(a:O_) (n c:Nat) (f:Nat->au) (k:Int) (t:F_) (ra:O_) (g h:Nat),e=ZI (.tuple #[ZJ #[Y a n c],ZJ #[J I k,U t,Y ra g h]])/\HAc (z (A w)) b a n c f/\n<=400/\(∀i,i<n->FitI (f i))/\Below (z (A w)) w b
def se (b n0 c0 n1 c1:Nat)(a0:O_)(f0:Nat->Source)(a1:O_)(f1:Nat->Target)(w:E)(nm:F_)(hH:HSp b w a0 n0 f0 a1 n1 f1):Calls Tryz.prog 22 #[ZJ #[Y a0 n0 c0,Y a1 n1 c1],U nm] w λe f=>MkA w e f:=by have h0:=hH.hn0;have h1:=hH.hn1;refine(wF (S:=⟨n0,f0,n1,f1⟩) (a0:=a0) (a1:=a1) (c0:=c0) (c1:=c1) w nm (hH.sl w (Agr.refl _ _)).1 (hH.sl w (Agr.refl _ _)).2 (by show n0<=_;omega) (by show n1<=_;omega) (λi hi=>by have:=(hH.aq i hi).1;unfold aP;show(f1 i).h<=_;omega) (λi hi j m=>by have:=(hH.aq i hi).2 j m;unfold maxLen;show((f1 i).u j).s.size<=_;omega)).P ?_;rintro e f⟨a,c,R,rv,rfl,p,o,⟨ra,l,rfl,-⟩,n⟩;obtain⟨h2,g,h⟩:=Gt p o;exact⟨a,ZV R,c,_,_,_,ra,_,l,rfl,h2,g,h,n⟩
structure Dr1 (xs:List Nat)(w:E)(R rs ra sb:Nat)(W:E)(q n0 c0 n1 c1:Nat)(a0:O_)(f0:Nat->Source)(a1:O_)(f1:Nat->Target):Prop where
 rd:Rd W R q
 o:zd R w W
 zs:W.heap[rs]?=T (N #[Y Z 0 0,Y Z 0 0] 29 (0,0))
 za:W.heap[ra]?=T (N #[Y Z 0 0] 25 (0,0))
 sx:W.heap[sb]?=T (N #[Y a0 n0 c0,Y a1 n1 c1] 29 (0,0))
 qs:QSp (z (A w)) xs W a0 n0 f0 a1 n1 f1
 lo:R<z (A w)
 hb:z (A w)<=rs/\(z (A w))<=ra/\(z (A w))<=sb
structure Dr2 (xs:List Nat)(w:E)(R rs ra sb ab:Nat)(W:E)(q n0 c0 n1 c1:Nat)(a0:O_)(f0:Nat->Source)(a1:O_)(f1:Nat->Target)(n c:Nat)(a:O_)(f:Nat->au):Prop where
 d:Dr1 xs w R rs ra sb W q n0 c0 n1 c1 a0 f0 a1 f1
 ax:W.heap[ab]?=T (N #[Y a n c] 25 (0,0))
 qa:QAc (z (A w)) xs W a n c f
 hb:z (A w)<=ab
section
variable {xs:List Nat}{w W W':E}{R rs ra sb ab q q' n0 c0 n1 c1 n c:Nat}{a0 a1 a:O_}{f0:Nat->Source}{f1:Nat->Target}{f:Nat->au}
def Dr1.ac (h:Dr1 xs w R rs ra sb W q n0 c0 n1 c1 a0 f0 a1 f1)(b:zd R W W')(hR:Rd W' R q')(f:R∈xs):Dr1 xs w R rs ra sb W' q' n0 c0 n1 c1 a0 f0 a1 f1:=by have hl:=h.lo;obtain⟨h1,h2,h3⟩:=h.hb;exact⟨hR,h.o.k b,(b.p _ (aj h.zs) (by omega)).k h.zs,(b.p _ (aj h.za) (by omega)).k h.za,(b.p _ (aj h.sx) (by omega)).k h.sx,h.qs.fr (Fr.ac b f),h.lo,h.hb⟩
def Dr1.aa (h:Dr1 xs w R rs ra sb W q n0 c0 n1 c1 a0 f0 a1 f1)(b:Below (z (A W)) W W')(f:R∈xs):Dr1 xs w R rs ra sb W' q n0 c0 n1 c1 a0 f0 a1 f1:=h.ac (zd.q b) (h.rd.aa b ly) f
def Dr1.cells (h:Dr1 xs w R rs ra sb W q n0 c0 n1 c1 a0 f0 a1 f1):ZW W (Q sb 0 Z)=T (Y a0 n0 c0)/\ZW W (Q sb 1 Z)=T (Y a1 n1 c1)/\ZX W (Q sb 0 Z)=ZA/\ZX W (Q sb 1 Z)=ZA/\sb<z (A W):=by have hb:=h.sx;refine⟨?_,?_,?_,?_,aj hb⟩<;>simp[World.cell?,World.frozen?,hb]
def Dr1.more (h:Dr1 xs w R rs ra sb W q n0 c0 n1 c1 a0 f0 a1 f1)(i:z (A W)<=x):Dr1 (x::xs) w R rs ra sb W q n0 c0 n1 c1 a0 f0 a1 f1:=by
 obtain⟨b,j,l,h1,h2,g⟩:=h.qs;refine⟨h.rd,h.o,h.zs,h.za,h.sx,⟨b,j,l,h1,h2,λy f=>?_⟩,h.lo,h.hb⟩;rcases vG.1 f with rfl|f;{exact .inr (nX h2.1 i)};{exact g y f}
def Dr2.ac (h:Dr2 xs w R rs ra sb ab W q n0 c0 n1 c1 a0 f0 a1 f1 n c a f)(b:zd R W W')(hR:Rd W' R q')(g:R∈xs):Dr2 xs w R rs ra sb ab W' q' n0 c0 n1 c1 a0 f0 a1 f1 n c a f:=by have hl:=h.d.lo;have h1:=h.hb;exact⟨h.d.ac b hR g,(b.p _ (aj h.ax) (by omega)).k h.ax,h.qa.fr (Fr.ac b g),h.hb⟩
def Dr2.aa (h:Dr2 xs w R rs ra sb ab W q n0 c0 n1 c1 a0 f0 a1 f1 n c a f)(b:Below (z (A W)) W W')(g:R∈xs):Dr2 xs w R rs ra sb ab W' q n0 c0 n1 c1 a0 f0 a1 f1 n c a f:=h.ac (zd.q b) (h.d.rd.aa b ly) g
def Dr2.acc (h:Dr2 xs w R rs ra sb ab W q n0 c0 n1 c1 a0 f0 a1 f1 n c a f):ZW W (Q ab 0 Z)=T (Y a n c)/\ZX W (Q ab 0 Z)=ZA/\ab<z (A W):=by have hb:=h.ax;refine⟨?_,?_,aj hb⟩<;>simp[World.cell?,World.frozen?,hb]
def qX{W:E}{c l:Array ZB}{t b:TypeId}{ZY m:Nat × Nat}(h:W.heap[i]?=T (N c t ZY))(g:W.heap[j]?=T (N l b m))(f:t≠b):i≠j:=λe=>by rw[e,g] at h;simp at h;exact f h.2.1.c
def Dr1.put{m0 b:Nat}{f:O_}{i:Nat->Source}{l:Nat->Target}(h:Dr1 xs w R rs ra sb W q n0 c0 n1 c1 a0 f0 a1 f1)(j:sb∈xs)(r:rs≠sb)(n:QSp (z (A w)) xs W b0 m0 i f b l):Dr1 xs w R rs ra sb (ZU (ZU W (Q sb 0 Z) (Y b0 m0 k0)) (Q sb 1 Z) (Y f b k1)) q m0 k0 b k1 b0 i f l:=by obtain⟨h1,h2,g⟩:=h.hb;have B:=((a8 (z (A w)) W).setCell (p:=(Q sb 0 Z)) g (Y b0 m0 k0)).setCell (p:=(Q sb 1 Z)) g (Y f b k1);have far:∀k,k≠sb->(ZU (ZU W (Q sb 0 Z) (Y b0 m0 k0)) (Q sb 1 Z) (Y f b k1)).heap[k]?=W.heap[k]?:=λk m=>(qh _ _ _ _ m).k (qh _ _ _ _ m);have s:=h.sx;exact⟨h.rd.low B h.lo,h.o.then B,(far _ r).k h.zs,(far _ (qX h.za h.sx (by decide))).k h.za,by simp[World.setCell,NR,s],n.fr ((Fr.set j _).k (Fr.set j _)),h.lo,h.hb⟩
def Dr1.aset (h:Dr1 xs w R rs ra sb W q n0 c0 n1 c1 a0 f0 a1 f1)(g:x∈xs)(h1:x≠sb)(h2:x≠ra)(b:x≠rs)(f:z (A w)<=x)(u:ZB):Dr1 xs w R rs ra sb (ZU W (Q x j Z) u) q n0 c0 n1 c1 a0 f0 a1 f1:=by have B:=(a8 (z (A w)) W).setCell (p:=(Q x j Z)) f u;have far:∀k,k≠x->(ZU W (Q x j Z) u).heap[k]?=W.heap[k]?:=λk i=>qh _ _ _ _ i;exact⟨h.rd.low B h.lo,h.o.then B,(far _ (λe=>b e.c)).k h.zs,(far _ (λe=>h2 e.c)).k h.za,(far _ (λe=>h1 e.c)).k h.sx,h.qs.fr (Fr.set g u),h.lo,h.hb⟩
def Dr2.put{m k:Nat}{b:O_}{g:Nat->au}(h:Dr2 xs w R rs ra sb ab W q n0 c0 n1 c1 a0 f0 a1 f1 n c a f)(i:ab∈xs)(j:ab≠ra)(l:QAc (z (A w)) xs W b m k g):Dr2 xs w R rs ra sb ab (ZU W (Q ab 0 Z) (Y b m k)) q n0 c0 n1 c1 a0 f0 a1 f1 m k b g:=
 ⟨h.d.aset i (qX h.ax h.d.sx (by decide)) j (qX h.ax h.d.zs (by decide)) h.hb _,cH h.ax _,l.fr (Fr.set i _),h.hb⟩
def Dr2.sput{m0:Nat}{g:O_}{l:Nat->Source}{m:Nat->Target}(h:Dr2 xs w R rs ra sb ab W q n0 c0 n1 c1 a0 f0 a1 f1 n c a f)(j:sb∈xs)(p:rs≠sb)(o:QSp (z (A w)) xs W b0 m0 l g i m):Dr2 xs w R rs ra sb ab (ZU (ZU W (Q sb 0 Z) (Y b0 m0 k0)) (Q sb 1 Z) (Y g i k1)) q m0 k0 i k1 b0 l g m n c a f:=
 have b:ab≠sb:=qX h.ax h.d.sx (by decide)
 ⟨h.d.put j p o,((qh _ _ _ _ b).k (qh _ _ _ _ b)).k h.ax,h.qa.fr ((Fr.set j _).k (Fr.set j _)),h.hb⟩
end
structure Lw (w:E)(ab sb:Nat)(d:O_)(ZQ dc:Nat)(f:Nat->au)(a0:O_)(n0 c0:Nat)(f0:Nat->Source)(a1:O_)(n1 c1:Nat)(f1:Nat->Target)(V:E):Prop where
 b:Below (z (A w)) w V
 s0:Qx V a0 n0 f0
 s1:Qq V a1 n1 f1
 dd:SlDeed V d ZQ f
 ax:AB V ab (Y d ZQ dc)
 sx:SBx V sb (Y a0 n0 c0) (Y a1 n1 c1)
section
variable {w V ZN:E}{ab sb:Nat}{d:O_}{ZQ dc:Nat}{f:Nat->au}{a0:O_}{n0 c0:Nat}{f0:Nat->Source}{a1:O_}{n1 c1:Nat}{f1:Nat->Target}
def Lw.aa (h:Lw w ab sb d ZQ dc f a0 n0 c0 f0 a1 n1 c1 f1 V)(g:Below (z (A V)) V ZN):Lw w ab sb d ZQ dc f a0 n0 c0 f0 a1 n1 c1 f1 ZN:=
 ⟨h.b.k (g.P h.b.size),h.s0.aa g ly,h.s1.aa g ly,h.dd.aa g ly,h.ax.aa g ly,h.sx.aa g ly⟩
def Lw.c (h:Lw w ab sb d ZQ dc f a0 n0 c0 f0 a1 n1 c1 f1 V):ZW V (Q sb 0 Z)=T (Y a0 n0 c0)/\ZW V (Q sb 1 Z)=T (Y a1 n1 c1)/\ZW V (Q ab 0 Z)=T (Y d ZQ dc):=⟨h.sx.c0,h.sx.c1,h.ax.c0⟩
def Jh (hH:HSp (z (A w)) V a0 n0 f0 a1 n1 f1)(h:HAc (z (A w)) V d ZQ dc f)(g:Below (z (A w)) w V):Lw w (z (A V)) (z (A V)+1) d ZQ dc f a0 n0 c0 f0 a1 n1 c1 f1 ((V.alloc (N #[Y d ZQ dc] 25)).alloc (N #[Y a0 n0 c0,Y a1 n1 c1] 29)):=by have ZZ:=((BS V).alloc ly (N #[Y d ZQ dc] 25)).alloc (by simp) (N #[Y a0 n0 c0,Y a1 n1 c1] 29);have b:=hH.sl _ (de ZZ ly);exact⟨g.k (ZZ.P g.size),b.1,b.2,h.sl _ (de ZZ ly),(((a8 (z (A V)+1) (V.alloc (N #[Y d ZQ dc] 25))).alloc (by simp) _).p (z (A V)) (eL _)).k (gM V _),SL V _ _⟩
end
def DSA (w:E)(R q:Nat)(e:Ending)(b:E):Prop:=∃(a0:O_) (n0 c0:Nat) (f0:Nat->Source) (a1:O_) (n1 c1:Nat) (f1:Nat->Target) (a:O_) (n c:Nat) (f:Nat->au),e=ZI (.tuple #[ZJ #[Y a0 n0 c0,Y a1 n1 c1],ZJ #[Y a n c]])/\HSg (z (A w)) b a0 n0 f0 a1 n1 f1/\HAc (z (A w)) b a n c f/\n<=400/\(∀i,i<n->FitI (f i))/\∃q':Nat,q'<=q/\Rd b R q'/\zd R w b
def AF (R p:Nat)(w:E)(hR:Rd w R p)(hp:p<=9000):Calls Tryz.prog 64 #[.pointer (T (Q R 0 Z))] w λe w'=>DSA w R (p+5300) e w':=by
 have HR:=ae hR;have ZS:=hR.lt;obtain⟨W0,ZN⟩:∃W:E,(w.alloc (N #[Y Z 0 0,Y Z 0 0] 29)).alloc (N #[Y Z 0 0] 25)=W:=⟨_,rfl⟩
 obtain⟨A0,KS,KA,hzA⟩:=nb2 ZN;have aq:=ae ZN;clear ZN;clear hR;go_enter func64,ntmps64;go_wp2_with fail;rw[aq.i];clear aq;refine(ay R p 40 _ (HR.aa A0 ly) (by omega) (by omega) (by omega)).P ?_;rintro e w1⟨ZY,rfl,hz0,hz1,At,L⟩;have R1:=ae At;have O1:=ae ((zd.q A0).k L);have sm:=ae ((L.p (z (A w)) (by omega) (by omega)).k KS);have Bk:=ae ((L.p (z (A w)+1) (by omega) (by omega)).k KA);have hs1:=L.size;clear At L KS KA A0 HR;go_wp2_with fail;refine(qO R _ _ R1 (by omega)).P ?_;rintro e G⟨LS,RT,v0,v1,rfl,ho,ht,hG,Id,JG,q2,hq2,qr,O⟩;obtain⟨a0,c0,rfl⟩:=aJ ho;obtain⟨a1,c1,rfl⟩:=aJ ht.y;have hD:=yv ho ht hG (by omega) (by omega);have hH:HSg _ _ _ _ _ _ _ _:=⟨hD.1,by omega,by omega,hD.2⟩
 clear hD;have hs2:=O.size;have AS:=(BS G).alloc ly (N #[Y a0 (ZV LS) c0,Y a1 (ZV RT) c1] 29);have C:Hid (Dr1 [R,z (A w),z (A w)+1,z (A G)] w R (z (A w)) (z (A w)+1) (z (A G)) (G.alloc (N #[Y a0 (ZV LS) c0,Y a1 (ZV RT) c1] 29)) q2 (ZV LS) c0 (ZV RT) c1 a0 (aV LS) a1 (aW (RT.map (·.1)))):=by refine⟨qr.aa AS ly,(O1.k O).k (zd.q AS),(AS.p _ (by omega)).k ((O.p _ (by omega) (by omega)).k sm),(AS.p _ (by omega)).k ((O.p _ (by omega) (by omega)).k Bk),gM G _,⟨z (A w1)+2,G,by omega,hH,de AS ly,λx P=>?_⟩,ZS,by omega,by omega,by omega⟩;simp only[vG,nj,QW] at P;omega
 clear AS ho ht hG hH qr O O1 sm Bk R1;generalize (ZV LS)=n0 at C Id ⊢;generalize (ZV RT)=n1 at C JG ⊢;generalize aV LS=f0 at C;generalize aW (RT.map (·.1))=f1 at C;go_upto_region 3 with fail;have Hx:z (A w)+2<=z (A G):=by omega
 generalize World.alloc G _=W2 at C ⊢;generalize (z (A G))=sb at C Hx ⊢;obtain⟨x0,x1,-⟩:=C.cells;go_wp2_with fail;refine(iz R _ (z (A w)) n0 c0 n1 c1 a0 f0 a1 f1 _ C.rd (by omega) ZS C.qs.at.1).P ?_;rintro e w3⟨t,rfl,q3,hq3,ro,la⟩;have D2:=ae (C.ac la ro (by simp));clear ro la C x0 x1;go_upto_if 18 with fail;go_cut [6] (λs6 wx=>∃(t:F_) (q m0 j r g:Nat) (b0:O_) (ZR:Nat->Source) (b:O_) (M:Nat->Target),s6=U t/\q<=p+5200/\Hid (Dr1 [R,z (A w),z (A w)+1,sb] w R (z (A w)) (z (A w)+1) sb wx q m0 j r g b0 ZR b M));case first =>
  by_cases hz:ZY=0
  ·subst hz;go_wp2_with fail;refine(ay R _ 2 _ D2.rd (by omega) (by omega) (by omega)).P ?_;rintro e w4⟨y,rfl,y0,y1,hR,hO⟩;have ZT:=ae (D2.ac hO hR (by simp));clear hR hO D2;obtain⟨m,hm⟩:∃m:Nat,60 - y=(m:Int):=⟨(60 - y).toNat,by omega⟩
   have hw:IntKind.i64.wrap (60 - y)=60 - y:=by rw[nL];omega
   go_wp2_with fail;have hs4:=aj ZT.sx;refine(kO m (by omega) ⟨#[97]⟩ (by decide) _).P ?_;rintro e w5⟨b0,m0,j,ZR,b,g,n9,rfl,Fk,ZL,ph,-,-,n8,ZO⟩
   have hH:HSg _ _ _ _ _ _ _ _:=⟨ph,ZL,by omega,λi hi=>by
    have e:aW (n9.map (·.1)) i=n9[i].1:=by simp[aW,hi]
    rw[e,(n8 _ (gz hi)).2]
    omega⟩
   clear ph n8 Fk ZL;have hz5:=ZO.size;have D4:=ae (ZT.aa ZO (by simp))
   have D5:=ae (D4.put (k0:=j) (k1:=g) (by simp) (by omega) (QSp.new hH (by omega) (λx P=>by
    simp only[vG,nj,QW] at P
    omega)))
   obtain⟨x0,x1,x2,x3,x4⟩:=D4.cells;clear hH ZO ZT D4 hm hw;go_wp2;go_meet;exact⟨_,_,_,_,_,_,_,_,_,_,rfl,by omega,D5⟩
  ·have hzb:(ZY == 0)=ZA:=by simpa using hz
   go_wp2;go_meet;exact⟨t,q3,_,_,_,_,_,_,_,_,rfl,by omega,D2⟩
 case rest =>
 clear D2;obtain⟨t,q4,m0,j,r,g,b0,ZR,b,M,rfl,hq4,ZT⟩:=hcut;generalize wc=W3 at ZT ⊢;obtain⟨x0,x1,x2,x3,x4⟩:=ZT.cells;go_wp2_with fail;refine(se (z (A w)) m0 j r g b0 ZR b M _ t ZT.qs.at.1).P ?_;rintro e w6⟨a,n,c,f,kk,tt,ra,rn,rc,rfl,hA,hn,hf,ZO⟩;obtain⟨W6,X⟩:∃W:E,(w6.alloc (N #[Y a n c] 25)).alloc (N #[J I kk,U tt,Y ra rn rc] 60)=W:=⟨_,rfl⟩
 obtain⟨A6,ZM,-,-⟩:=nb2 X;replace ZM:=ZM.i;replace A6:=A6.i;have ZP:=ae X;clear X;have Fd:=ZO.size;have hws:=ZT.o.size;have E1:Hid (Dr2 [z (A w6),R,z (A w),z (A w)+1,sb] w R (z (A w)) (z (A w)+1) sb (z (A w6)) W6 q4 m0 j r g b0 ZR b M n c a f):=by
  cases ZP.i
  refine⟨((ZT.aa ZO (by simp)).more ly).aa A6 (by simp),ZM,⟨z (A W3),w6,by omega,hA,de A6 ly,λx P=>?_⟩,by omega⟩;simp only[vG,nj,QW] at P;omega
 have HF:=ae hf;have Fm:sb<z (A w6):=by omega
 have hw2:z (A w)+2<=z (A W3):=by omega
 clear A6 ZM hA ZO hf ZT x0 x1 x2 x3 x4;go_wp2_with fail;rw[ZP.i];clear ZP;generalize (z (A w6))=ab at E1 Fm Fd ⊢;go_loopw [9] (λi wr=>∃(k q n c:Nat) (a:O_) (f:Nat->au),i=J I k/\k<=3/\q<=q4+3*k/\n<=400/\Hid (∀i,i<n->FitI (f i))/\Hid (Dr2 [ab,R,z (A w),z (A w)+1,sb] w R (z (A w)) (z (A w)+1) sb ab wr q m0 j r g b0 ZR b M n c a f)) (λi _=>3 - (intOf i).toNat);case atStart=>exact⟨0,q4,n,c,a,f,rfl,by omega,by omega,hn,HF,E1⟩
 case round =>
  clear E1 HF hn;obtain⟨k,q5,n,c,a,f,rfl,hk,hq5,hn,HF,E2⟩:=hrel;obtain⟨v0,v1,v2⟩:=E2.acc;go_upto_region 9 with fail;go_cut [36] (λs wx=>∃b:Bool,s=.bool b/\(b=true->k<3)/\wr=wx);case first =>
   by_cases ur:k<3
   ·have DQ:(k:Int)<3:=by omega
    go_wp2;go_meet;exact⟨_,rfl,λ_=>ur,rfl⟩
   ·have DQ:¬ (k:Int)<3:=by omega
    go_wp2;go_meet;exact⟨ZA,rfl,(λh=>by cases h),rfl⟩
  case rest =>
  obtain⟨JJ,rfl,fd,rfl⟩:=hcut;cases JJ with
  |true =>
   have ur:=fd rfl;obtain⟨x0,x1,x2,x3,x4⟩:=E2.d.cells;clear fd v0 v1 v2;go_wp2_with fail;have u:=ae (E2.aa br.drew (by simp));refine wp_region_held_drew (S:=λV=>ZW V (Q sb 0 Z)=T (Y b0 m0 j)/\ZW V (Q sb 1 Z)=T (Y b r g)) (by kernel_rfl) ⟨u.d.cells.1,u.d.cells.2.1⟩ λhS=>?_;have l:=ae hS;clear hS E2 x0 x1 x2 x3 x4;generalize wr.drew=B at u l ⊢;iterate 3
    refine aN 0 (v:=?_) rfl rfl (by kernel_rfl) (λ_ _ _ h=>h) rfl ?_ l ?_;rotate_left
    ·(rintro wz⟨s0,s1⟩;go_simp)
     (try with_reducible rfl)
    (try simp only[Act.put,yh])
   refine aL (i:=3) rfl (by kernel_rfl) λK ZZ=>?_;go_simp;go_at_call 39;refine(iz R _ (z (A w)) m0 j r g b0 ZR b M _ u.d.rd (by omega) ZS u.d.qs.at.1).P ?_;rintro e v4⟨t4,rfl,q6,hq6,hR,hO⟩;have H:=ae (u.ac hO hR (by simp));clear hR hO u l;have l:=ae (show ZW v4 (Q sb 0 Z)=T (Y b0 m0 j)/\ZW v4 (Q sb 1 Z)=T (Y b r g) from⟨H.d.cells.1,H.d.cells.2.1⟩);refine ZZ _ _ l ?_;clear ZZ K
   (try simp only[Act.put,yh])
   refine aL (i:=4) rfl (by kernel_rfl) λK ZZ=>?_;go_simp;go_at_call 22;refine(se (z (A w)) m0 j r g b0 ZR b M _ t4 H.d.qs.at.1).P ?_;rintro e v5⟨a5,n5,c5,f5,kk5,tt5,ra5,rn5,rc5,rfl,ld,ZL,th,bt⟩;have hz4:=bt.size;have hab4:=aj H.ax;have hsb4:=aj H.d.sx;have hws4:=H.d.o.size;have hra4:=aj H.d.za;have E5:=ae (H.aa bt (by simp))
   have QA:Hid (QAc (z (A w)) [ab,R,z (A w),z (A w)+1,sb] v5 a5 n5 c5 f5):=QAc.new ld (by omega) (λx P=>by
    simp only[vG,nj,QW] at P
    omega)
   have JI:=ae th;clear ld bt th H l;have l:=ae (show ZW v5 (Q sb 0 Z)=T (Y b0 m0 j)/\ZW v5 (Q sb 1 Z)=T (Y b r g) from⟨E5.d.cells.1,E5.d.cells.2.1⟩);refine ZZ _ _ l ?_;clear ZZ K
   (try simp only[Act.put,yh])
   iterate 3
    refine aN 5 (v:=?_) rfl rfl (by kernel_rfl) (λ_ _ _ h=>h) rfl ?_ l ?_;rotate_left
    ·(rintro wz⟨s0,s1⟩;go_simp)
     (try with_reducible rfl)
    (try simp only[Act.put,yh])
   obtain⟨z0,z1,z2⟩:=E5.acc;have E6:=ae (E5.put (by simp) (by omega) QA);refine aL (i:=8) rfl (by kernel_rfl) λK ZZ=>?_;go_simp;have D:ab≠sb:=by omega
   refine ZZ _ _ ⟨(K_ _ _ _ _ D).k l.1,(K_ _ _ _ _ D).k l.2⟩ ?_;clear ZZ K l E5 QA z0 z1 z2
   (try simp only[Act.put,yh])
   refine wpAnyH_done (by kernel_rfl) ?_ _;generalize World.setCell v5 _ _=W7 at E6 ⊢;go_wp2;exact⟨⟨k+1,q6,n5,c5,a5,f5,by go_num,by omega,by omega,ZL,JI,E6⟩,by simp[intOf];omega⟩
  |false =>
   clear fd v0 v1 v2;go_wp2_with fail;have SQ:Hid (∀V,Dr2 [ab,R,z (A w),z (A w)+1,sb] w R (z (A w)) (z (A w)+1) sb ab V q5 m0 j r g b0 ZR b M n c a f->ZW V (Q sb 0 Z)=T (Y b0 m0 j)/\ZW V (Q sb 1 Z)=T (Y b r g)/\ZW V (Q ab 0 Z)=T (Y a n c)):=λV h=>⟨h.d.cells.1,h.d.cells.2.1,h.acc.1⟩
   have u:=ae (E2.aa br.drew (by simp));refine wp_region_held_drew (S:=λV=>ZW V (Q sb 0 Z)=T (Y b0 m0 j)/\ZW V (Q sb 1 Z)=T (Y b r g)/\ZW V (Q ab 0 Z)=T (Y a n c)) (by kernel_rfl) (SQ _ u) λhS=>?_;have l:=ae hS;clear hS E2;generalize wr.drew=B at u l ⊢;iterate 2
    refine aN 0 (v:=?_) rfl rfl (by kernel_rfl) (λ_ _ _ h=>h) rfl ?_ l ?_;rotate_left
    ·(rintro wz⟨s0,s1,s2⟩;go_simp)
     (try with_reducible rfl)
    (try simp only[Act.put,yh])
   have ks:=u.d.zs;have ka:=u.d.za;have r0:ZW B (Q (z (A w)) 0 Z)=T (Y Z 0 0):=by simp[World.cell?,ks]
   have r1:ZW B (Q (z (A w)) 1 Z)=T (Y Z 0 0):=by simp[World.cell?,ks]
   have r2:ZW B (Q (z (A w)+1) 0 Z)=T (Y Z 0 0):=by simp[World.cell?,ka]
   have y0:ZX B (Q (z (A w)) 0 Z)=ZA:=by simp[World.frozen?,ks]
   have y1:ZX B (Q (z (A w)) 1 Z)=ZA:=by simp[World.frozen?,ks]
   have y2:ZX B (Q (z (A w)+1) 0 Z)=ZA:=by simp[World.frozen?,ka]
   have l0:=aj ks;have l1:=aj ka;have B3:=ae ((((a8 (z (A w)) B).setCell (p:=(Q (z (A w)) 0 Z)) ly (Y b0 m0 j)).setCell (p:=(Q (z (A w)) 1 Z)) ly (Y b r g)).setCell (p:=(Q (z (A w)+1) 0 Z)) (BV _) (Y a n c));have FR:Hid (Fr [ab,R,z (A w),z (A w)+1,sb] B (ZU (ZU (ZU B (Q (z (A w)) 0 Z) (Y b0 m0 j)) (Q (z (A w)) 1 Z) (Y b r g)) (Q (z (A w)+1) 0 Z) (Y a n c))):=((Fr.set (by simp) _).k (Fr.set (by simp) _)).k (Fr.set (by simp) _);have JH:=ae (u.d.qs.fr FR).at;have GS:=ae (u.qa.fr FR).at;have R9:=ae (u.d.rd.low B3 ZS);have O9:=ae (u.d.o.then B3);clear ks ka B3 FR;refine aL (i:=2) rfl (by kernel_rfl) λK ZZ=>?_;go_simp;clear l;have D:sb≠z (A w):=by omega
   have mv:ab≠z (A w):=by omega
   have l:=ae (showZW (ZU (ZU B (Q (z (A w)) 0 Z) (Y b0 m0 j)) (Q (z (A w)) 1 Z) (Y b r g)) (Q sb 0 Z)=T (Y b0 m0 j)/\ZW (ZU (ZU B (Q (z (A w)) 0 Z) (Y b0 m0 j)) (Q (z (A w)) 1 Z) (Y b r g)) (Q sb 1 Z)=T (Y b r g)/\ZW (ZU (ZU B (Q (z (A w)) 0 Z) (Y b0 m0 j)) (Q (z (A w)) 1 Z) (Y b r g)) (Q ab 0 Z)=T (Y a n c) from by
    obtain⟨h1,h2,h3⟩:=SQ.i _ u
    exact⟨(K_ _ _ _ _ D.c).k ((K_ _ _ _ _ D.c).k h1),(K_ _ _ _ _ D.c).k ((K_ _ _ _ _ D.c).k h2),(K_ _ _ _ _ mv.c).k ((K_ _ _ _ _ mv.c).k h3)⟩)
   refine ZZ _ _ l ?_;clear ZZ K
   (try simp only[Act.put,yh])
   refine aL (i:=3) rfl (by kernel_rfl) λK ZZ=>?_;go_simp;have DE:ab≠z (A w)+1:=by omega
   have ex:sb≠z (A w)+1:=by omega
   refine ZZ _ _ ⟨(K_ _ _ _ _ ex.c).k l.1,(K_ _ _ _ _ ex.c).k l.2.1,(K_ _ _ _ _ DE.c).k l.2.2⟩ ?_;clear ZZ K
   (try simp only[Act.put,yh])
   refine wpAnyH_done (by kernel_rfl) ?_ _;go_wp2;exact bp (v:=.tuple #[ZJ #[Y b0 m0 j,Y b r g],ZJ #[Y a n c]]) (by simp[results,results64,go_sem,r0,r1,r2]) rfl ⟨_,_,_,_,_,_,_,_,_,_,_,_,rfl,JH,GS,hn,HF,q5,by omega,R9,O9⟩
