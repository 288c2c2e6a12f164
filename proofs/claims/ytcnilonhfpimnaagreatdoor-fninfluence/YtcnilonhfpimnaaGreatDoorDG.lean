import Derived.Test.YtcnilonhfpimnaaGreatDoorEZ
import Derived.Test.YtcnilonhfpimnaaGreatDoorDC
set_option linter.all false
set_option maxRecDepth 100000
set_option maxHeartbeats 8000000
open Go renaming Addr.mk->T,Value.slice->Y,Value.string->U,Value.int->J,Value.agg->ZJ,Obj.cells->N,IntKind.i64->I,World->E,Value->ZB,Ending.returned->ZI,World.heap->A,World.cell?->ZW,World.frozen?->ZX,World.setCell->ZU,Act.put->p_
open Option renaming none->Z,some->Q
open Bool renaming false->ZA
open Array renaming size->z
open List renaming length->ZV
namespace Go.Proofs.YtcnilonhfpimnaaGreatDoor.Vp
open Tryz RowKit Ca
def MkA (w:E)(e:Ending)(b:E):Prop:=∃(a:O_) (n c:Nat) (f:Nat->au) (k:Int) (t:F_) (ra:O_) (h g:Nat),e=ZI (.tuple #[ZJ #[Y a n c],ZJ #[J I k,U t,Y ra h g]])/\HAc (z (A w)) b a n c f/\n<=400/\(∀i,i<n->FitI (f i))/\Below (z (A w)) w b
def se (b n0 c0 n1 c1:Nat)(a0:O_)(f0:Nat->Source)(a1:O_)(f1:Nat->Target)(w:E)(nm:F_)(hH:HSp b w a0 n0 f0 a1 n1 f1):Calls Tryz.prog 49 #[ZJ #[Y a0 n0 c0,Y a1 n1 c1],U nm] w λe f=>MkA w e f:=by have h0:=hH.hn0;have h1:=hH.hn1;refine(wF (S:=⟨n0,f0,n1,f1⟩) (a0:=a0) (a1:=a1) (c0:=c0) (c1:=c1) w nm (hH.sl w (Agr.refl _ _)).1 (hH.sl w (Agr.refl _ _)).2 (by show n0<=_;omega) (by show n1<=_;omega) (λi hi=>by have:=(hH.aq i hi).1;unfold aP;show(f1 i).h<=_;omega) (λi hi j g=>by have:=(hH.aq i hi).2 j g;unfold maxLen;show((f1 i).q j).s.size<=_;omega)).P ?_;rintro e f⟨a,c,R,rv,rfl,p,n,⟨ra,o,rfl,-⟩,h⟩;obtain⟨h2,l,m⟩:=Gt p n;exact⟨a,ZV R,c,_,_,_,ra,_,o,rfl,h2,l,m,h⟩
structure Dr1 (xs:List Nat)(w:E)(R rs ra sb:Nat)(W:E)(q n0 c0 n1 c1:Nat)(a0:O_)(f0:Nat->Source)(a1:O_)(f1:Nat->Target):Prop where
 rd:Rd W R q
 o:zt R w W
 zs:W.heap[rs]?=Q (N #[Y Z 0 0,Y Z 0 0] 29 (0,0))
 za:W.heap[ra]?=Q (N #[Y Z 0 0] 25 (0,0))
 sx:W.heap[sb]?=Q (N #[Y a0 n0 c0,Y a1 n1 c1] 29 (0,0))
 qs:QSp (z (A w)) xs W a0 n0 f0 a1 n1 f1
 lo:R<z (A w)
 hb:z (A w)<=rs/\(z (A w))<=ra/\(z (A w))<=sb
structure Dr2 (xs:List Nat)(w:E)(R rs ra sb ab:Nat)(W:E)(q n0 c0 n1 c1:Nat)(a0:O_)(f0:Nat->Source)(a1:O_)(f1:Nat->Target)(n c:Nat)(a:O_)(f:Nat->au):Prop where
 d:Dr1 xs w R rs ra sb W q n0 c0 n1 c1 a0 f0 a1 f1
 ax:W.heap[ab]?=Q (N #[Y a n c] 25 (0,0))
 qa:QAc (z (A w)) xs W a n c f
 hb:z (A w)<=ab
section
variable {xs:List Nat}{w W W':E}{R rs ra sb ab q q' n0 c0 n1 c1 n c:Nat}{a0 a1 a:O_}{f0:Nat->Source}{f1:Nat->Target}{f:Nat->au}
def Dr1.ac (h:Dr1 xs w R rs ra sb W q n0 c0 n1 c1 a0 f0 a1 f1)(b:zt R W W')(hR:Rd W' R q')(f:R∈xs):Dr1 xs w R rs ra sb W' q' n0 c0 n1 c1 a0 f0 a1 f1:=by have hl:=h.lo;obtain⟨h1,h2,h3⟩:=h.hb;exact⟨hR,h.o.k b,(b.p _ (aj h.zs) (by omega)).k h.zs,(b.p _ (aj h.za) (by omega)).k h.za,(b.p _ (aj h.sx) (by omega)).k h.sx,h.qs.fr (Fr.ac b f),h.lo,h.hb⟩
def Dr1.aa (h:Dr1 xs w R rs ra sb W q n0 c0 n1 c1 a0 f0 a1 f1)(b:Below (z (A W)) W W')(f:R∈xs):Dr1 xs w R rs ra sb W' q n0 c0 n1 c1 a0 f0 a1 f1:=h.ac (zt.l b) (h.rd.aa b ly) f
def Dr1.cells (h:Dr1 xs w R rs ra sb W q n0 c0 n1 c1 a0 f0 a1 f1):ZW W (T sb 0 Z)=Q (Y a0 n0 c0)/\ZW W (T sb 1 Z)=Q (Y a1 n1 c1)/\ZX W (T sb 0 Z)=ZA/\ZX W (T sb 1 Z)=ZA/\sb<z (A W):=by have hb:=h.sx;refine⟨?_,?_,?_,?_,aj hb⟩<;>simp[World.cell?,World.frozen?,hb]
def Dr1.more (h:Dr1 xs w R rs ra sb W q n0 c0 n1 c1 a0 f0 a1 f1){x:Nat}(j:z (A W)<=x):Dr1 (x::xs) w R rs ra sb W q n0 c0 n1 c1 a0 f0 a1 f1:=by
 obtain⟨b,i,l,h1,h2,g⟩:=h.qs;refine⟨h.rd,h.o,h.zs,h.za,h.sx,⟨b,i,l,h1,h2,λy f=>?_⟩,h.lo,h.hb⟩;rcases vG.1 f with rfl|f;{exact .inr (nX h2.1 j)};{exact g y f}
def Dr2.ac (h:Dr2 xs w R rs ra sb ab W q n0 c0 n1 c1 a0 f0 a1 f1 n c a f)(b:zt R W W')(hR:Rd W' R q')(g:R∈xs):Dr2 xs w R rs ra sb ab W' q' n0 c0 n1 c1 a0 f0 a1 f1 n c a f:=by have hl:=h.d.lo;have h1:=h.hb;exact⟨h.d.ac b hR g,(b.p _ (aj h.ax) (by omega)).k h.ax,h.qa.fr (Fr.ac b g),h.hb⟩
def Dr2.aa (h:Dr2 xs w R rs ra sb ab W q n0 c0 n1 c1 a0 f0 a1 f1 n c a f)(b:Below (z (A W)) W W')(g:R∈xs):Dr2 xs w R rs ra sb ab W' q n0 c0 n1 c1 a0 f0 a1 f1 n c a f:=h.ac (zt.l b) (h.d.rd.aa b ly) g
def Dr2.acc (h:Dr2 xs w R rs ra sb ab W q n0 c0 n1 c1 a0 f0 a1 f1 n c a f):ZW W (T ab 0 Z)=Q (Y a n c)/\ZX W (T ab 0 Z)=ZA/\ab<z (A W):=by have hb:=h.ax;refine⟨?_,?_,aj hb⟩<;>simp[World.cell?,World.frozen?,hb]
def qX {W:E}{i j:Nat}{c m:Array ZB}{t b:TypeId}{ZY f:Nat × Nat}(h:W.heap[i]?=Q (N c t ZY))(g:W.heap[j]?=Q (N m b f))(l:t≠b):i≠j:=λe=>by rw[e,g] at h;simp at h;exact l h.2.1.c
def Dr1.put {m0 k0 b k1:Nat}{b0 f:O_}{l:Nat->Source}{j:Nat->Target}(h:Dr1 xs w R rs ra sb W q n0 c0 n1 c1 a0 f0 a1 f1)(m:sb∈xs)(s:rs≠sb)(n:QSp (z (A w)) xs W b0 m0 l f b j):Dr1 xs w R rs ra sb (ZU (ZU W (T sb 0 Z) (Y b0 m0 k0)) (T sb 1 Z) (Y f b k1)) q m0 k0 b k1 b0 l f j:=by obtain⟨h1,h2,i⟩:=h.hb;have B:=((a8 (z (A w)) W).setCell (p:=(T sb 0 Z)) i (Y b0 m0 k0)).setCell (p:=(T sb 1 Z)) i (Y f b k1);have far:∀k,k≠sb->(ZU (ZU W (T sb 0 Z) (Y b0 m0 k0)) (T sb 1 Z) (Y f b k1)).heap[k]?=W.heap[k]?:=λk g=>(qh _ _ _ _ g).k (qh _ _ _ _ g);have r:=h.sx;exact⟨h.rd.low B h.lo,h.o.then B,(far _ s).k h.zs,(far _ (qX h.za h.sx (by decide))).k h.za,by simp[World.setCell,NQ,r],n.fr ((Fr.set m _).k (Fr.set m _)),h.lo,h.hb⟩
def Dr1.aset (h:Dr1 xs w R rs ra sb W q n0 c0 n1 c1 a0 f0 a1 f1){x j:Nat}(g:x∈xs)(h1:x≠sb)(h2:x≠ra)(f:x≠rs)(b:z (A w)<=x)(u:ZB):Dr1 xs w R rs ra sb (ZU W (T x j Z) u) q n0 c0 n1 c1 a0 f0 a1 f1:=by have B:=(a8 (z (A w)) W).setCell (p:=(T x j Z)) b u;have far:∀k,k≠x->(ZU W (T x j Z) u).heap[k]?=W.heap[k]?:=λk i=>qh _ _ _ _ i;exact⟨h.rd.low B h.lo,h.o.then B,(far _ (λe=>f e.c)).k h.zs,(far _ (λe=>h2 e.c)).k h.za,(far _ (λe=>h1 e.c)).k h.sx,h.qs.fr (Fr.set g u),h.lo,h.hb⟩
def Dr2.put {m k:Nat}{b:O_}{g:Nat->au}(h:Dr2 xs w R rs ra sb ab W q n0 c0 n1 c1 a0 f0 a1 f1 n c a f)(i:ab∈xs)(l:ab≠ra)(j:QAc (z (A w)) xs W b m k g):Dr2 xs w R rs ra sb ab (ZU W (T ab 0 Z) (Y b m k)) q n0 c0 n1 c1 a0 f0 a1 f1 m k b g:=
 ⟨h.d.aset i (qX h.ax h.d.sx (by decide)) l (qX h.ax h.d.zs (by decide)) h.hb _,cH h.ax _,j.fr (Fr.set i _),h.hb⟩
def Dr2.sput {m0 k0 g k1:Nat}{b0 i:O_}{m:Nat->Source}{l:Nat->Target}(h:Dr2 xs w R rs ra sb ab W q n0 c0 n1 c1 a0 f0 a1 f1 n c a f)(j:sb∈xs)(p:rs≠sb)(o:QSp (z (A w)) xs W b0 m0 m i g l):Dr2 xs w R rs ra sb ab (ZU (ZU W (T sb 0 Z) (Y b0 m0 k0)) (T sb 1 Z) (Y i g k1)) q m0 k0 g k1 b0 m i l n c a f:=
 have b:ab≠sb:=qX h.ax h.d.sx (by decide)
 ⟨h.d.put j p o,((qh _ _ _ _ b).k (qh _ _ _ _ b)).k h.ax,h.qa.fr ((Fr.set j _).k (Fr.set j _)),h.hb⟩
end
structure Lw (w:E)(ab sb:Nat)(d:O_)(ZQ dc:Nat)(f:Nat->au)(a0:O_)(n0 c0:Nat)(f0:Nat->Source)(a1:O_)(n1 c1:Nat)(f1:Nat->Target)(V:E):Prop where
 b:Below (z (A w)) w V
 s0:Qx V a0 n0 f0
 s1:Qq V a1 n1 f1
 dd:SlDeed V d ZQ f
 ax:AB V ab (Y d ZQ dc)
 sx:SBx V sb (Y a0 n0 c0) (Y a1 n1 c1)
section
variable {w V ZN:E}{ab sb:Nat}{d:O_}{ZQ dc:Nat}{f:Nat->au}{a0:O_}{n0 c0:Nat}{f0:Nat->Source}{a1:O_}{n1 c1:Nat}{f1:Nat->Target}
def Lw.aa (h:Lw w ab sb d ZQ dc f a0 n0 c0 f0 a1 n1 c1 f1 V)(g:Below (z (A V)) V ZN):Lw w ab sb d ZQ dc f a0 n0 c0 f0 a1 n1 c1 f1 ZN:=
 ⟨h.b.k (g.P h.b.size),h.s0.aa g ly,h.s1.aa g ly,h.dd.aa g ly,h.ax.aa g ly,h.sx.aa g ly⟩
def Lw.c (h:Lw w ab sb d ZQ dc f a0 n0 c0 f0 a1 n1 c1 f1 V):ZW V (T sb 0 Z)=Q (Y a0 n0 c0)/\ZW V (T sb 1 Z)=Q (Y a1 n1 c1)/\ZW V (T ab 0 Z)=Q (Y d ZQ dc):=⟨h.sx.c0,h.sx.c1,h.ax.c0⟩
def Jh (hH:HSp (z (A w)) V a0 n0 f0 a1 n1 f1)(h:HAc (z (A w)) V d ZQ dc f)(b:Below (z (A w)) w V):Lw w (z (A V)) (z (A V)+1) d ZQ dc f a0 n0 c0 f0 a1 n1 c1 f1 ((V.alloc (N #[Y d ZQ dc] 25)).alloc (N #[Y a0 n0 c0,Y a1 n1 c1] 29)):=by have ZZ:=((BS V).alloc ly (N #[Y d ZQ dc] 25)).alloc (by simp) (N #[Y a0 n0 c0,Y a1 n1 c1] 29);have g:=hH.sl _ (de ZZ ly);exact⟨b.k (ZZ.P b.size),g.1,g.2,h.sl _ (de ZZ ly),(((a8 (z (A V)+1) (V.alloc (N #[Y d ZQ dc] 25))).alloc (by simp) _).p (z (A V)) (eL _)).k (gM V _),SL V _ _⟩
end
def DSA (w:E)(R q:Nat)(e:Ending)(b:E):Prop:=∃(a0:O_) (n0 c0:Nat) (f0:Nat->Source) (a1:O_) (n1 c1:Nat) (f1:Nat->Target) (a:O_) (n c:Nat) (f:Nat->au),e=ZI (.tuple #[ZJ #[Y a0 n0 c0,Y a1 n1 c1],ZJ #[Y a n c]])/\HSg (z (A w)) b a0 n0 f0 a1 n1 f1/\HAc (z (A w)) b a n c f/\n<=400/\(∀i,i<n->FitI (f i))/\∃q':Nat,q'<=q/\Rd b R q'/\zt R w b
def AF (R p:Nat)(w:E)(hR:Rd w R p)(hp:p<=9000):Calls Tryz.prog 47 #[.pointer (Q (T R 0 Z))] w λe w'=>DSA w R (p+5300) e w':=by
 have HR:=ae hR;have ZS:=hR.lt;obtain⟨W0,X⟩:∃W:E,(w.alloc (N #[Y Z 0 0,Y Z 0 0] 29)).alloc (N #[Y Z 0 0] 25)=W:=⟨_,rfl⟩
 obtain⟨A0,KS,KA,hzA⟩:=nb2 X;have aq:=ae X;clear X;clear hR;go_enter func47,ntmps47;go_wp2_with fail;rw[aq.i];clear aq;refine(ay R p 40 _ (HR.aa A0 ly) (by omega) (by omega) (by omega)).P ?_;rintro e w1⟨ZY,rfl,hz0,hz1,sm,M⟩;have R1:=ae sm;have O1:=ae ((zt.l A0).k M);have n9:=ae ((M.p (z (A w)) (by omega) (by omega)).k KS);have la:=ae ((M.p (z (A w)+1) (by omega) (by omega)).k KA);have hs1:=M.size;clear sm M KS KA A0 HR;go_wp2_with fail;refine(qO R _ _ R1 (by omega)).P ?_;rintro e G⟨LS,RT,v0,v1,rfl,ho,ht,hG,JH,JJ,q2,hq2,qr,L⟩;obtain⟨a0,c0,rfl⟩:=aJ ho;obtain⟨a1,c1,rfl⟩:=aJ ht.u;have hD:=yv ho ht hG (by omega) (by omega);have hH:HSg _ _ _ _ _ _ _ _:=⟨hD.1,by omega,by omega,hD.2⟩
 clear hD;have hs2:=L.size;have AS:=(BS G).alloc ly (N #[Y a0 (ZV LS) c0,Y a1 (ZV RT) c1] 29);have D:Hid (Dr1 [R,z (A w),z (A w)+1,z (A G)] w R (z (A w)) (z (A w)+1) (z (A G)) (G.alloc (N #[Y a0 (ZV LS) c0,Y a1 (ZV RT) c1] 29)) q2 (ZV LS) c0 (ZV RT) c1 a0 (aV LS) a1 (aW (RT.map (·.1)))):=by refine⟨qr.aa AS ly,(O1.k L).k (zt.l AS),(AS.p _ (by omega)).k ((L.p _ (by omega) (by omega)).k n9),(AS.p _ (by omega)).k ((L.p _ (by omega) (by omega)).k la),gM G _,⟨z (A w1)+2,G,by omega,hH,de AS ly,λx ZO=>?_⟩,ZS,by omega,by omega,by omega⟩;simp only[vG,nj,QV] at ZO;omega
 clear AS ho ht hG hH qr L O1 n9 la R1;generalize (ZV LS)=n0 at D JH ⊢;generalize (ZV RT)=n1 at D JJ ⊢;generalize aV LS=f0 at D;generalize aW (RT.map (·.1))=f1 at D;go_upto_region 3 with fail;have Id:z (A w)+2<=z (A G):=by omega
 generalize World.alloc G _=W2 at D ⊢;generalize (z (A G))=sb at D Id ⊢;obtain⟨x0,x1,-⟩:=D.cells;go_wp2_with fail;refine(iz R _ (z (A w)) n0 c0 n1 c1 a0 f0 a1 f1 _ D.rd (by omega) ZS D.qs.at.1).P ?_;rintro e w3⟨t,rfl,q3,hq3,n8,ld⟩;have D2:=ae (D.ac ld n8 (by simp));clear n8 ld D x0 x1;go_upto_if 18 with fail;go_cut [6] (λs6 wx=>∃(t:F_) (q m0 g r j:Nat) (b0:O_) (H:Nat->Source) (b:O_) (ZQ:Nat->Target),s6=U t/\q<=p+5200/\Hid (Dr1 [R,z (A w),z (A w)+1,sb] w R (z (A w)) (z (A w)+1) sb wx q m0 g r j b0 H b ZQ));case first =>
  by_cases hz:ZY=0
  ·subst hz;go_wp2_with fail;refine(ay R _ 2 _ D2.rd (by omega) (by omega) (by omega)).P ?_;rintro e w4⟨y,rfl,y0,y1,hR,hO⟩;have ZT:=ae (D2.ac hO hR (by simp));clear hR hO D2;obtain⟨m,hm⟩:∃m:Nat,60 - y=(m:Int):=⟨(60 - y).toNat,by omega⟩
   have hw:IntKind.i64.wrap (60 - y)=60 - y:=by rw[nL];omega
   go_wp2_with fail;have hs4:=aj ZT.sx;refine(kO m (by omega) ⟨#[97]⟩ (by decide) _).P ?_;rintro e w5⟨b0,m0,g,H,b,j,Bk,rfl,Fk,ZM,ph,-,-,ur,ZN⟩
   have hH:HSg _ _ _ _ _ _ _ _:=⟨ph,ZM,by omega,λi hi=>by
    have e:aW (Bk.map (·.1)) i=Bk[i].1:=by simp[aW,hi]
    rw[e,(ur _ (gz hi)).2]
    omega⟩
   clear ph ur Fk ZM;have hz5:=ZN.size;have D4:=ae (ZT.aa ZN (by simp))
   have D5:=ae (D4.put (k0:=g) (k1:=j) (by simp) (by omega) (QSp.new hH (by omega) (λx ZO=>by
    simp only[vG,nj,QV] at ZO
    omega)))
   obtain⟨x0,x1,x2,x3,x4⟩:=D4.cells;clear hH ZN ZT D4 hm hw;go_wp2;go_meet;exact⟨_,_,_,_,_,_,_,_,_,_,rfl,by omega,D5⟩
  ·have hzb:(ZY == 0)=ZA:=by simpa using hz
   go_wp2;go_meet;exact⟨t,q3,_,_,_,_,_,_,_,_,rfl,by omega,D2⟩
 case rest =>
 clear D2;obtain⟨t,q4,m0,g,r,j,b0,H,b,ZQ,rfl,hq4,ZT⟩:=hcut;generalize wc=W3 at ZT ⊢;obtain⟨x0,x1,x2,x3,x4⟩:=ZT.cells;go_wp2_with fail;refine(se (z (A w)) m0 g r j b0 H b ZQ _ t ZT.qs.at.1).P ?_;rintro e w6⟨a,n,c,f,kk,tt,ra,rn,rc,rfl,hA,hn,hf,ZN⟩;obtain⟨W6,ZP⟩:∃W:E,(w6.alloc (N #[Y a n c] 25)).alloc (N #[J I kk,U tt,Y ra rn rc] 88)=W:=⟨_,rfl⟩
 obtain⟨A6,ZL,-,-⟩:=nb2 ZP;replace ZL:=ZL.i;replace A6:=A6.i;have P:=ae ZP;clear ZP;have Hx:=ZN.size;have hws:=ZT.o.size;have E1:Hid (Dr2 [z (A w6),R,z (A w),z (A w)+1,sb] w R (z (A w)) (z (A w)+1) sb (z (A w6)) W6 q4 m0 g r j b0 H b ZQ n c a f):=by
  cases P.i
  refine⟨((ZT.aa ZN (by simp)).more ly).aa A6 (by simp),ZL,⟨z (A W3),w6,by omega,hA,de A6 ly,λx ZO=>?_⟩,by omega⟩;simp only[vG,nj,QV] at ZO;omega
 have HF:=ae hf;have DQ:sb<z (A w6):=by omega
 have hw2:z (A w)+2<=z (A W3):=by omega
 clear A6 ZL hA ZN hf ZT x0 x1 x2 x3 x4;go_wp2_with fail;rw[P.i];clear P;generalize (z (A w6))=ab at E1 DQ Hx ⊢;go_loopw [9] (λi wr=>∃(k q n c:Nat) (a:O_) (f:Nat->au),i=J I k/\k<=3/\q<=q4+3*k/\n<=400/\Hid (∀i,i<n->FitI (f i))/\Hid (Dr2 [ab,R,z (A w),z (A w)+1,sb] w R (z (A w)) (z (A w)+1) sb ab wr q m0 g r j b0 H b ZQ n c a f)) (λi _=>3 - (intOf i).toNat);case atStart=>exact⟨0,q4,n,c,a,f,rfl,by omega,by omega,hn,HF,E1⟩
 case round =>
  clear E1 HF hn;obtain⟨k,q5,n,c,a,f,rfl,hk,hq5,hn,HF,E2⟩:=hrel;obtain⟨v0,v1,v2⟩:=E2.acc;go_upto_region 9 with fail;go_cut [36] (λs wx=>∃b:Bool,s=.bool b/\(b=true->k<3)/\wr=wx);case first =>
   by_cases ro:k<3
   ·have JI:(k:Int)<3:=by omega
    go_wp2;go_meet;exact⟨_,rfl,λ_=>ro,rfl⟩
   ·have JI:¬ (k:Int)<3:=by omega
    go_wp2;go_meet;exact⟨ZA,rfl,(λh=>by cases h),rfl⟩
  case rest =>
  obtain⟨Fd,rfl,fd,rfl⟩:=hcut;cases Fd with
  |true =>
   have ro:=fd rfl;obtain⟨x0,x1,x2,x3,x4⟩:=E2.d.cells;clear fd v0 v1 v2;go_wp2_with fail;have u:=ae (E2.aa br.drew (by simp));refine wp_region_held_drew (S:=λV=>ZW V (T sb 0 Z)=Q (Y b0 m0 g)/\ZW V (T sb 1 Z)=Q (Y b r j)) (by kernel_rfl) ⟨u.d.cells.1,u.d.cells.2.1⟩ λhS=>?_;have l:=ae hS;clear hS E2 x0 x1 x2 x3 x4;generalize wr.drew=B at u l ⊢;iterate 3
    refine aN 0 (v:=?_) rfl rfl (by kernel_rfl) (λ_ _ _ h=>h) rfl ?_ l ?_;rotate_left
    ·(rintro wz⟨s0,s1⟩;go_simp)
     (try with_reducible rfl)
    (try simp only[p_,z_])
   refine aL (i:=3) rfl (by kernel_rfl) λK ZZ=>?_;go_simp;go_at_call 33;refine(iz R _ (z (A w)) m0 g r j b0 H b ZQ _ u.d.rd (by omega) ZS u.d.qs.at.1).P ?_;rintro e v4⟨t4,rfl,q6,hq6,hR,hO⟩;have ZR:=ae (u.ac hO hR (by simp));clear hR hO u l;have l:=ae (show ZW v4 (T sb 0 Z)=Q (Y b0 m0 g)/\ZW v4 (T sb 1 Z)=Q (Y b r j) from⟨ZR.d.cells.1,ZR.d.cells.2.1⟩);refine ZZ _ _ l ?_;clear ZZ K
   (try simp only[p_,z_])
   refine aL (i:=4) rfl (by kernel_rfl) λK ZZ=>?_;go_simp;go_at_call 49;refine(se (z (A w)) m0 g r j b0 H b ZQ _ t4 ZR.d.qs.at.1).P ?_;rintro e v5⟨a5,n5,c5,f5,kk5,tt5,ra5,rn5,rc5,rfl,mv,ZM,At,bt⟩;have hz4:=bt.size;have hab4:=aj ZR.ax;have hsb4:=aj ZR.d.sx;have hws4:=ZR.d.o.size;have hra4:=aj ZR.d.za;have E5:=ae (ZR.aa bt (by simp))
   have QA:Hid (QAc (z (A w)) [ab,R,z (A w),z (A w)+1,sb] v5 a5 n5 c5 f5):=QAc.new mv (by omega) (λx ZO=>by
    simp only[vG,nj,QV] at ZO
    omega)
   have GS:=ae At;clear mv bt At ZR l;have l:=ae (show ZW v5 (T sb 0 Z)=Q (Y b0 m0 g)/\ZW v5 (T sb 1 Z)=Q (Y b r j) from⟨E5.d.cells.1,E5.d.cells.2.1⟩);refine ZZ _ _ l ?_;clear ZZ K
   (try simp only[p_,z_])
   iterate 3
    refine aN 5 (v:=?_) rfl rfl (by kernel_rfl) (λ_ _ _ h=>h) rfl ?_ l ?_;rotate_left
    ·(rintro wz⟨s0,s1⟩;go_simp)
     (try with_reducible rfl)
    (try simp only[p_,z_])
   obtain⟨z0,z1,z2⟩:=E5.acc;have E6:=ae (E5.put (by simp) (by omega) QA);refine aL (i:=8) rfl (by kernel_rfl) λK ZZ=>?_;go_simp;have C:ab≠sb:=by omega
   refine ZZ _ _ ⟨(K_ _ _ _ _ C).k l.1,(K_ _ _ _ _ C).k l.2⟩ ?_;clear ZZ K l E5 QA z0 z1 z2
   (try simp only[p_,z_])
   refine wpAnyH_done (by kernel_rfl) ?_ _;generalize World.setCell v5 _ _=W7 at E6 ⊢;go_wp2;exact⟨⟨k+1,q6,n5,c5,a5,f5,by go_num,by omega,by omega,ZM,GS,E6⟩,by simp[intOf];omega⟩
  |false =>
   clear fd v0 v1 v2;go_wp2_with fail;have SQ:Hid (∀V,Dr2 [ab,R,z (A w),z (A w)+1,sb] w R (z (A w)) (z (A w)+1) sb ab V q5 m0 g r j b0 H b ZQ n c a f->ZW V (T sb 0 Z)=Q (Y b0 m0 g)/\ZW V (T sb 1 Z)=Q (Y b r j)/\ZW V (T ab 0 Z)=Q (Y a n c)):=λV h=>⟨h.d.cells.1,h.d.cells.2.1,h.acc.1⟩
   have u:=ae (E2.aa br.drew (by simp));refine wp_region_held_drew (S:=λV=>ZW V (T sb 0 Z)=Q (Y b0 m0 g)/\ZW V (T sb 1 Z)=Q (Y b r j)/\ZW V (T ab 0 Z)=Q (Y a n c)) (by kernel_rfl) (SQ _ u) λhS=>?_;have l:=ae hS;clear hS E2;generalize wr.drew=B at u l ⊢;iterate 2
    refine aN 0 (v:=?_) rfl rfl (by kernel_rfl) (λ_ _ _ h=>h) rfl ?_ l ?_;rotate_left
    ·(rintro wz⟨s0,s1,s2⟩;go_simp)
     (try with_reducible rfl)
    (try simp only[p_,z_])
   have ks:=u.d.zs;have ka:=u.d.za;have r0:ZW B (T (z (A w)) 0 Z)=Q (Y Z 0 0):=by simp[World.cell?,ks]
   have r1:ZW B (T (z (A w)) 1 Z)=Q (Y Z 0 0):=by simp[World.cell?,ks]
   have r2:ZW B (T (z (A w)+1) 0 Z)=Q (Y Z 0 0):=by simp[World.cell?,ka]
   have y0:ZX B (T (z (A w)) 0 Z)=ZA:=by simp[World.frozen?,ks]
   have y1:ZX B (T (z (A w)) 1 Z)=ZA:=by simp[World.frozen?,ks]
   have y2:ZX B (T (z (A w)+1) 0 Z)=ZA:=by simp[World.frozen?,ka]
   have l0:=aj ks;have l1:=aj ka;have B3:=ae ((((a8 (z (A w)) B).setCell (p:=(T (z (A w)) 0 Z)) ly (Y b0 m0 g)).setCell (p:=(T (z (A w)) 1 Z)) ly (Y b r j)).setCell (p:=(T (z (A w)+1) 0 Z)) (BV _) (Y a n c));have FR:Hid (Fr [ab,R,z (A w),z (A w)+1,sb] B (ZU (ZU (ZU B (T (z (A w)) 0 Z) (Y b0 m0 g)) (T (z (A w)) 1 Z) (Y b r j)) (T (z (A w)+1) 0 Z) (Y a n c))):=((Fr.set (by simp) _).k (Fr.set (by simp) _)).k (Fr.set (by simp) _);have JG:=ae (u.d.qs.fr FR).at;have Fm:=ae (u.qa.fr FR).at;have R9:=ae (u.d.rd.low B3 ZS);have O9:=ae (u.d.o.then B3);clear ks ka B3 FR;refine aL (i:=2) rfl (by kernel_rfl) λK ZZ=>?_;go_simp;clear l;have C:sb≠z (A w):=by omega
   have th:ab≠z (A w):=by omega
   have l:=ae (show ZW (ZU (ZU B (T (z (A w)) 0 Z) (Y b0 m0 g)) (T (z (A w)) 1 Z) (Y b r j)) (T sb 0 Z)=Q (Y b0 m0 g)/\ZW (ZU (ZU B (T (z (A w)) 0 Z) (Y b0 m0 g)) (T (z (A w)) 1 Z) (Y b r j)) (T sb 1 Z)=Q (Y b r j)/\ZW (ZU (ZU B (T (z (A w)) 0 Z) (Y b0 m0 g)) (T (z (A w)) 1 Z) (Y b r j)) (T ab 0 Z)=Q (Y a n c) from by
    obtain⟨h1,h2,h3⟩:=SQ.i _ u
    exact⟨(K_ _ _ _ _ C.c).k ((K_ _ _ _ _ C.c).k h1),(K_ _ _ _ _ C.c).k ((K_ _ _ _ _ C.c).k h2),(K_ _ _ _ _ th.c).k ((K_ _ _ _ _ th.c).k h3)⟩)
   refine ZZ _ _ l ?_;clear ZZ K
   (try simp only[p_,z_])
   refine aL (i:=3) rfl (by kernel_rfl) λK ZZ=>?_;go_simp;have DE:ab≠z (A w)+1:=by omega
   have ex:sb≠z (A w)+1:=by omega
   refine ZZ _ _ ⟨(K_ _ _ _ _ ex.c).k l.1,(K_ _ _ _ _ ex.c).k l.2.1,(K_ _ _ _ _ DE.c).k l.2.2⟩ ?_;clear ZZ K
   (try simp only[p_,z_])
   refine wpAnyH_done (by kernel_rfl) ?_ _;go_wp2;exact bp (v:=.tuple #[ZJ #[Y b0 m0 g,Y b r j],ZJ #[Y a n c]]) (by simp[results,results47,go_sem,r0,r1,r2]) rfl ⟨_,_,_,_,_,_,_,_,_,_,_,_,rfl,JG,Fm,hn,HF,q5,by omega,R9,O9⟩
