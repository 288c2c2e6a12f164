import Derived.Test.YtcnilonhfpimnaaGreatDoorEZ
import Derived.Test.YtcnilonhfpimnaaGreatDoorDC
set_option linter.all false
set_option maxRecDepth 100000
set_option maxHeartbeats 8000000
open Go renaming Addr.mk->T,Value.slice->Z,Value.string->U,Value.int->J,Value.agg->ZJ,Obj.cells->N,IntKind.i64->I,World->E,Value->ZB,Ending.returned->ZI,World.heap->A,World.cell?->ZV,World.frozen?->ZW
open Option renaming none->Y,some->Q
open Bool renaming false->ZA
open Array renaming size->z
open List renaming length->ZU
namespace Go.Proofs.YtcnilonhfpimnaaGreatDoor.Vp
open Tryz RowKit Ca
def MkA (w:E)(e:Ending)(b:E):Prop:=∃(a:O_) (n c:Nat) (f:Nat->au) (k:Int) (t:F_) (ra:O_) (g h:Nat),e=ZI (.tuple #[ZJ #[Z a n c],ZJ #[J I k,U t,Z ra g h]])/\HAc (z (A w)) b a n c f/\n<=400/\(∀i,i<n->FitI (f i))/\Below (z (A w)) w b
def se (b n0 c0 n1 c1:Nat)(a0:O_)(f0:Nat->Source)(a1:O_)(f1:Nat->Target)(w:E)(nm:F_)(hH:HSp b w a0 n0 f0 a1 n1 f1):Calls Tryz.prog 49 #[ZJ #[Z a0 n0 c0,Z a1 n1 c1],U nm] w λe f=>MkA w e f:=by have h0:=hH.hn0;have h1:=hH.hn1;refine(wF (S:=⟨n0,f0,n1,f1⟩) (a0:=a0) (a1:=a1) (c0:=c0) (c1:=c1) w nm (hH.sl w (Agr.refl _ _)).1 (hH.sl w (Agr.refl _ _)).2 (by show n0<=_;omega) (by show n1<=_;omega) (λi hi=>by have:=(hH.aq i hi).1;unfold aP;show(f1 i).h<=_;omega) (λi hi j p=>by have:=(hH.aq i hi).2 j p;unfold maxLen;show((f1 i).q j).s.size<=_;omega)).P ?_;rintro e f⟨a,c,R,rv,rfl,l,m,⟨ra,h,rfl,-⟩,o⟩;obtain⟨h2,g,n⟩:=Gt l m;exact⟨a,ZU R,c,_,_,_,ra,_,h,rfl,h2,g,n,o⟩
structure Dr1 (xs:List Nat)(w:E)(R rs ra sb:Nat)(W:E)(q n0 c0 n1 c1:Nat)(a0:O_)(f0:Nat->Source)(a1:O_)(f1:Nat->Target):Prop where
 rd:Rd W R q
 o:zt R w W
 zs:W.heap[rs]?=Q (N #[Z Y 0 0,Z Y 0 0] 29 (0,0))
 za:W.heap[ra]?=Q (N #[Z Y 0 0] 25 (0,0))
 sx:W.heap[sb]?=Q (N #[Z a0 n0 c0,Z a1 n1 c1] 29 (0,0))
 qs:QSp (z (A w)) xs W a0 n0 f0 a1 n1 f1
 lo:R<z (A w)
 hb:z (A w)<=rs/\(z (A w))<=ra/\(z (A w))<=sb
structure Dr2 (xs:List Nat)(w:E)(R rs ra sb ab:Nat)(W:E)(q n0 c0 n1 c1:Nat)(a0:O_)(f0:Nat->Source)(a1:O_)(f1:Nat->Target)(n c:Nat)(a:O_)(f:Nat->au):Prop where
 d:Dr1 xs w R rs ra sb W q n0 c0 n1 c1 a0 f0 a1 f1
 ax:W.heap[ab]?=Q (N #[Z a n c] 25 (0,0))
 qa:QAc (z (A w)) xs W a n c f
 hb:z (A w)<=ab
section
variable {xs:List Nat}{w W W':E}{R rs ra sb ab q q' n0 c0 n1 c1 n c:Nat}{a0 a1 a:O_}{f0:Nat->Source}{f1:Nat->Target}{f:Nat->au}
def Dr1.ac (h:Dr1 xs w R rs ra sb W q n0 c0 n1 c1 a0 f0 a1 f1)(b:zt R W W')(hR:Rd W' R q')(f:R∈xs):Dr1 xs w R rs ra sb W' q' n0 c0 n1 c1 a0 f0 a1 f1:=by have hl:=h.lo;obtain⟨h1,h2,h3⟩:=h.hb;exact⟨hR,h.o.k b,(b.p _ (aj h.zs) (by omega)).k h.zs,(b.p _ (aj h.za) (by omega)).k h.za,(b.p _ (aj h.sx) (by omega)).k h.sx,h.qs.fr (Fr.ac b f),h.lo,h.hb⟩
def Dr1.aa (h:Dr1 xs w R rs ra sb W q n0 c0 n1 c1 a0 f0 a1 f1)(b:Below (z (A W)) W W')(f:R∈xs):Dr1 xs w R rs ra sb W' q n0 c0 n1 c1 a0 f0 a1 f1:=h.ac (zt.l b) (h.rd.aa b ly) f
def Dr1.cells (h:Dr1 xs w R rs ra sb W q n0 c0 n1 c1 a0 f0 a1 f1):ZV W (T sb 0 Y)=Q (Z a0 n0 c0)/\ZV W (T sb 1 Y)=Q (Z a1 n1 c1)/\ZW W (T sb 0 Y)=ZA/\ZW W (T sb 1 Y)=ZA/\sb<z (A W):=by have hb:=h.sx;refine⟨?_,?_,?_,?_,aj hb⟩<;>simp[World.cell?,World.frozen?,hb]
def Dr1.more (h:Dr1 xs w R rs ra sb W q n0 c0 n1 c1 a0 f0 a1 f1){x:Nat}(j:z (A W)<=x):Dr1 (x::xs) w R rs ra sb W q n0 c0 n1 c1 a0 f0 a1 f1:=by
 obtain⟨b,i,g,h1,h2,l⟩:=h.qs;refine⟨h.rd,h.o,h.zs,h.za,h.sx,⟨b,i,g,h1,h2,λy f=>?_⟩,h.lo,h.hb⟩;rcases vG.1 f with rfl|f;{exact .inr (nX h2.1 j)};{exact l y f}
def Dr2.ac (h:Dr2 xs w R rs ra sb ab W q n0 c0 n1 c1 a0 f0 a1 f1 n c a f)(b:zt R W W')(hR:Rd W' R q')(g:R∈xs):Dr2 xs w R rs ra sb ab W' q' n0 c0 n1 c1 a0 f0 a1 f1 n c a f:=by have hl:=h.d.lo;have h1:=h.hb;exact⟨h.d.ac b hR g,(b.p _ (aj h.ax) (by omega)).k h.ax,h.qa.fr (Fr.ac b g),h.hb⟩
def Dr2.aa (h:Dr2 xs w R rs ra sb ab W q n0 c0 n1 c1 a0 f0 a1 f1 n c a f)(b:Below (z (A W)) W W')(g:R∈xs):Dr2 xs w R rs ra sb ab W' q n0 c0 n1 c1 a0 f0 a1 f1 n c a f:=h.ac (zt.l b) (h.d.rd.aa b ly) g
def Dr2.acc (h:Dr2 xs w R rs ra sb ab W q n0 c0 n1 c1 a0 f0 a1 f1 n c a f):ZV W (T ab 0 Y)=Q (Z a n c)/\ZW W (T ab 0 Y)=ZA/\ab<z (A W):=by have hb:=h.ax;refine⟨?_,?_,aj hb⟩<;>simp[World.cell?,World.frozen?,hb]
def qX {W:E}{i j:Nat}{c f:Array ZB}{t b:TypeId}{ZX l:Nat × Nat}(h:W.heap[i]?=Q (N c t ZX))(g:W.heap[j]?=Q (N f b l))(m:t≠b):i≠j:=λe=>by rw[e,g] at h;simp at h;exact m h.2.1.c
def Dr1.put {m0 k0 b k1:Nat}{b0 f:O_}{l:Nat->Source}{g:Nat->Target}(h:Dr1 xs w R rs ra sb W q n0 c0 n1 c1 a0 f0 a1 f1)(i:sb∈xs)(r:rs≠sb)(s:QSp (z (A w)) xs W b0 m0 l f b g):Dr1 xs w R rs ra sb ((W.setCell (T sb 0 Y) (Z b0 m0 k0)).setCell (T sb 1 Y) (Z f b k1)) q m0 k0 b k1 b0 l f g:=by obtain⟨h1,h2,m⟩:=h.hb;have B:=((a8 (z (A w)) W).setCell (p:=(T sb 0 Y)) m (Z b0 m0 k0)).setCell (p:=(T sb 1 Y)) m (Z f b k1);have far:∀k,k≠sb->((W.setCell (T sb 0 Y) (Z b0 m0 k0)).setCell (T sb 1 Y) (Z f b k1)).heap[k]?=W.heap[k]?:=λk j=>(qh _ _ _ _ j).k (qh _ _ _ _ j);have n:=h.sx;exact⟨h.rd.low B h.lo,h.o.then B,(far _ r).k h.zs,(far _ (qX h.za h.sx (by decide))).k h.za,by simp[World.setCell,NR,n],s.fr ((Fr.set i _).k (Fr.set i _)),h.lo,h.hb⟩
def Dr1.aset (h:Dr1 xs w R rs ra sb W q n0 c0 n1 c1 a0 f0 a1 f1){x j:Nat}(g:x∈xs)(h1:x≠sb)(h2:x≠ra)(i:x≠rs)(f:z (A w)<=x)(u:ZB):Dr1 xs w R rs ra sb (W.setCell (T x j Y) u) q n0 c0 n1 c1 a0 f0 a1 f1:=by have B:=(a8 (z (A w)) W).setCell (p:=(T x j Y)) f u;have far:∀k,k≠x->(W.setCell (T x j Y) u).heap[k]?=W.heap[k]?:=λk b=>qh _ _ _ _ b;exact⟨h.rd.low B h.lo,h.o.then B,(far _ (λe=>i e.c)).k h.zs,(far _ (λe=>h2 e.c)).k h.za,(far _ (λe=>h1 e.c)).k h.sx,h.qs.fr (Fr.set g u),h.lo,h.hb⟩
def Dr2.put {m k:Nat}{b:O_}{g:Nat->au}(h:Dr2 xs w R rs ra sb ab W q n0 c0 n1 c1 a0 f0 a1 f1 n c a f)(i:ab∈xs)(j:ab≠ra)(l:QAc (z (A w)) xs W b m k g):Dr2 xs w R rs ra sb ab (W.setCell (T ab 0 Y) (Z b m k)) q n0 c0 n1 c1 a0 f0 a1 f1 m k b g:=
 ⟨h.d.aset i (qX h.ax h.d.sx (by decide)) j (qX h.ax h.d.zs (by decide)) h.hb _,cH h.ax _,l.fr (Fr.set i _),h.hb⟩
def Dr2.sput {m0 k0 g k1:Nat}{b0 i:O_}{m:Nat->Source}{l:Nat->Target}(h:Dr2 xs w R rs ra sb ab W q n0 c0 n1 c1 a0 f0 a1 f1 n c a f)(j:sb∈xs)(o:rs≠sb)(p:QSp (z (A w)) xs W b0 m0 m i g l):Dr2 xs w R rs ra sb ab ((W.setCell (T sb 0 Y) (Z b0 m0 k0)).setCell (T sb 1 Y) (Z i g k1)) q m0 k0 g k1 b0 m i l n c a f:=
 have b:ab≠sb:=qX h.ax h.d.sx (by decide)
 ⟨h.d.put j o p,((qh _ _ _ _ b).k (qh _ _ _ _ b)).k h.ax,h.qa.fr ((Fr.set j _).k (Fr.set j _)),h.hb⟩
end
structure Lw (w:E)(ab sb:Nat)(d:O_)(ZQ dc:Nat)(f:Nat->au)(a0:O_)(n0 c0:Nat)(f0:Nat->Source)(a1:O_)(n1 c1:Nat)(f1:Nat->Target)(V:E):Prop where
 b:Below (z (A w)) w V
 s0:Qy V a0 n0 f0
 s1:Qx V a1 n1 f1
 dd:SlDeed V d ZQ f
 ax:AB V ab (Z d ZQ dc)
 sx:SBx V sb (Z a0 n0 c0) (Z a1 n1 c1)
section
variable {w V ZN:E}{ab sb:Nat}{d:O_}{ZQ dc:Nat}{f:Nat->au}{a0:O_}{n0 c0:Nat}{f0:Nat->Source}{a1:O_}{n1 c1:Nat}{f1:Nat->Target}
def Lw.aa (h:Lw w ab sb d ZQ dc f a0 n0 c0 f0 a1 n1 c1 f1 V)(g:Below (z (A V)) V ZN):Lw w ab sb d ZQ dc f a0 n0 c0 f0 a1 n1 c1 f1 ZN:=
 ⟨h.b.k (g.P h.b.size),h.s0.aa g ly,h.s1.aa g ly,h.dd.aa g ly,h.ax.aa g ly,h.sx.aa g ly⟩
def Lw.c (h:Lw w ab sb d ZQ dc f a0 n0 c0 f0 a1 n1 c1 f1 V):ZV V (T sb 0 Y)=Q (Z a0 n0 c0)/\ZV V (T sb 1 Y)=Q (Z a1 n1 c1)/\ZV V (T ab 0 Y)=Q (Z d ZQ dc):=⟨h.sx.c0,h.sx.c1,h.ax.c0⟩
def Jh (hH:HSp (z (A w)) V a0 n0 f0 a1 n1 f1)(h:HAc (z (A w)) V d ZQ dc f)(b:Below (z (A w)) w V):Lw w (z (A V)) (z (A V)+1) d ZQ dc f a0 n0 c0 f0 a1 n1 c1 f1 ((V.alloc (N #[Z d ZQ dc] 25)).alloc (N #[Z a0 n0 c0,Z a1 n1 c1] 29)):=by have ZY:=((BS V).alloc ly (N #[Z d ZQ dc] 25)).alloc (by simp) (N #[Z a0 n0 c0,Z a1 n1 c1] 29);have g:=hH.sl _ (de ZY ly);exact⟨b.k (ZY.P b.size),g.1,g.2,h.sl _ (de ZY ly),(((a8 (z (A V)+1) (V.alloc (N #[Z d ZQ dc] 25))).alloc (by simp) _).p (z (A V)) (eL _)).k (gM V _),SL V _ _⟩
end
def DSA (w:E)(R q:Nat)(e:Ending)(b:E):Prop:=∃(a0:O_) (n0 c0:Nat) (f0:Nat->Source) (a1:O_) (n1 c1:Nat) (f1:Nat->Target) (a:O_) (n c:Nat) (f:Nat->au),e=ZI (.tuple #[ZJ #[Z a0 n0 c0,Z a1 n1 c1],ZJ #[Z a n c]])/\HSg (z (A w)) b a0 n0 f0 a1 n1 f1/\HAc (z (A w)) b a n c f/\n<=400/\(∀i,i<n->FitI (f i))/\∃q':Nat,q'<=q/\Rd b R q'/\zt R w b
def AF (R p:Nat)(w:E)(hR:Rd w R p)(hp:p<=9000):Calls Tryz.prog 47 #[.pointer (Q (T R 0 Y))] w λe w'=>DSA w R (p+5300) e w':=by
 have HR:=ae hR;have ZR:=hR.lt;obtain⟨W0,X⟩:∃W:E,(w.alloc (N #[Z Y 0 0,Z Y 0 0] 29)).alloc (N #[Z Y 0 0] 25)=W:=⟨_,rfl⟩
 obtain⟨A0,KS,KA,hzA⟩:=nb2 X;have ex:=ae X;clear X;clear hR;go_enter func47,ntmps47;go_wp2_with fail;rw[ex.i];clear ex;refine(ay R p 40 _ (HR.aa A0 ly) (by omega) (by omega) (by omega)).P ?_;rintro e w1⟨ZX,rfl,hz0,hz1,mv,M⟩;have R1:=ae mv;have O1:=ae ((zt.l A0).k M);have Bk:=ae ((M.p (z (A w)) (by omega) (by omega)).k KS);have ro:=ae ((M.p (z (A w)+1) (by omega) (by omega)).k KA);have hs1:=M.size;clear mv M KS KA A0 HR;go_wp2_with fail;refine(qO R _ _ R1 (by omega)).P ?_;rintro e G⟨LS,RT,v0,v1,rfl,ho,ht,hG,GS,JI,q2,hq2,ur,ZQ⟩;obtain⟨a0,c0,rfl⟩:=aJ ho;obtain⟨a1,c1,rfl⟩:=aJ ht.u;have hD:=yv ho ht hG (by omega) (by omega);have hH:HSg _ _ _ _ _ _ _ _:=⟨hD.1,by omega,by omega,hD.2⟩
 clear hD;have hs2:=ZQ.size;have AS:=(BS G).alloc ly (N #[Z a0 (ZU LS) c0,Z a1 (ZU RT) c1] 29);have D:Hid (Dr1 [R,z (A w),z (A w)+1,z (A G)] w R (z (A w)) (z (A w)+1) (z (A G)) (G.alloc (N #[Z a0 (ZU LS) c0,Z a1 (ZU RT) c1] 29)) q2 (ZU LS) c0 (ZU RT) c1 a0 (aV LS) a1 (aW (RT.map (·.1)))):=by refine⟨ur.aa AS ly,(O1.k ZQ).k (zt.l AS),(AS.p _ (by omega)).k ((ZQ.p _ (by omega) (by omega)).k Bk),(AS.p _ (by omega)).k ((ZQ.p _ (by omega) (by omega)).k ro),gM G _,⟨z (A w1)+2,G,by omega,hH,de AS ly,λx ZN=>?_⟩,ZR,by omega,by omega,by omega⟩;simp only[vG,nj,QW] at ZN;omega
 clear AS ho ht hG hH ur ZQ O1 Bk ro R1;generalize (ZU LS)=n0 at D GS ⊢;generalize (ZU RT)=n1 at D JI ⊢;generalize aV LS=f0 at D;generalize aW (RT.map (·.1))=f1 at D;go_upto_region 3 with fail;have DQ:z (A w)+2<=z (A G):=by omega
 generalize World.alloc G _=W2 at D ⊢;generalize (z (A G))=sb at D DQ ⊢;obtain⟨x0,x1,-⟩:=D.cells;go_wp2_with fail;refine(iz R _ (z (A w)) n0 c0 n1 c1 a0 f0 a1 f1 _ D.rd (by omega) ZR D.qs.at.1).P ?_;rintro e w3⟨t,rfl,q3,hq3,n8,sm⟩;have D2:=ae (D.ac sm n8 (by simp));clear n8 sm D x0 x1;go_upto_if 18 with fail;go_cut [6] (λs6 wx=>∃(t:F_) (q m0 j r g:Nat) (b0:O_) (ZS:Nat->Source) (b:O_) (O:Nat->Target),s6=U t/\q<=p+5200/\Hid (Dr1 [R,z (A w),z (A w)+1,sb] w R (z (A w)) (z (A w)+1) sb wx q m0 j r g b0 ZS b O));case first =>
  by_cases hz:ZX=0
  ·subst hz;go_wp2_with fail;refine(ay R _ 2 _ D2.rd (by omega) (by omega) (by omega)).P ?_;rintro e w4⟨y,rfl,y0,y1,hR,hO⟩;have ZT:=ae (D2.ac hO hR (by simp));clear hR hO D2;obtain⟨m,hm⟩:∃m:Nat,60 - y=(m:Int):=⟨(60 - y).toNat,by omega⟩
   have hw:IntKind.i64.wrap (60 - y)=60 - y:=by rw[nL];omega
   go_wp2_with fail;have hs4:=aj ZT.sx;refine(kO m (by omega) ⟨#[97]⟩ (by decide) _).P ?_;rintro e w5⟨b0,m0,j,ZS,b,g,la,rfl,Hx,ZM,ld,-,-,n9,ZP⟩
   have hH:HSg _ _ _ _ _ _ _ _:=⟨ld,ZM,by omega,λi hi=>by
    have e:aW (la.map (·.1)) i=la[i].1:=by simp[aW,hi]
    rw[e,(n9 _ (gz hi)).2]
    omega⟩
   clear ld n9 Hx ZM;have hz5:=ZP.size;have D4:=ae (ZT.aa ZP (by simp))
   have D5:=ae (D4.put (k0:=j) (k1:=g) (by simp) (by omega) (QSp.new hH (by omega) (λx ZN=>by
    simp only[vG,nj,QW] at ZN
    omega)))
   obtain⟨x0,x1,x2,x3,x4⟩:=D4.cells;clear hH ZP ZT D4 hm hw;go_wp2;go_meet;exact⟨_,_,_,_,_,_,_,_,_,_,rfl,by omega,D5⟩
  ·have hzb:(ZX == 0)=ZA:=by simpa using hz
   go_wp2;go_meet;exact⟨t,q3,_,_,_,_,_,_,_,_,rfl,by omega,D2⟩
 case rest =>
 clear D2;obtain⟨t,q4,m0,j,r,g,b0,ZS,b,O,rfl,hq4,ZT⟩:=hcut;generalize wc=W3 at ZT ⊢;obtain⟨x0,x1,x2,x3,x4⟩:=ZT.cells;go_wp2_with fail;refine(se (z (A w)) m0 j r g b0 ZS b O _ t ZT.qs.at.1).P ?_;rintro e w6⟨a,n,c,f,kk,tt,ra,rn,rc,rfl,hA,hn,hf,ZP⟩;obtain⟨W6,ZO⟩:∃W:E,(w6.alloc (N #[Z a n c] 25)).alloc (N #[J I kk,U tt,Z ra rn rc] 88)=W:=⟨_,rfl⟩
 obtain⟨A6,ZL,-,-⟩:=nb2 ZO;replace ZL:=ZL.i;replace A6:=A6.i;have P:=ae ZO;clear ZO;have JG:=ZP.size;have hws:=ZT.o.size;have E1:Hid (Dr2 [z (A w6),R,z (A w),z (A w)+1,sb] w R (z (A w)) (z (A w)+1) sb (z (A w6)) W6 q4 m0 j r g b0 ZS b O n c a f):=by
  cases P.i
  refine⟨((ZT.aa ZP (by simp)).more ly).aa A6 (by simp),ZL,⟨z (A W3),w6,by omega,hA,de A6 ly,λx ZN=>?_⟩,by omega⟩;simp only[vG,nj,QW] at ZN;omega
 have HF:=ae hf;have Fk:sb<z (A w6):=by omega
 have hw2:z (A w)+2<=z (A W3):=by omega
 clear A6 ZL hA ZP hf ZT x0 x1 x2 x3 x4;go_wp2_with fail;rw[P.i];clear P;generalize (z (A w6))=ab at E1 Fk JG ⊢;go_loopw [9] (λi wr=>∃(k q n c:Nat) (a:O_) (f:Nat->au),i=J I k/\k<=3/\q<=q4+3*k/\n<=400/\Hid (∀i,i<n->FitI (f i))/\Hid (Dr2 [ab,R,z (A w),z (A w)+1,sb] w R (z (A w)) (z (A w)+1) sb ab wr q m0 j r g b0 ZS b O n c a f)) (λi _=>3 - (intOf i).toNat);case atStart=>exact⟨0,q4,n,c,a,f,rfl,by omega,by omega,hn,HF,E1⟩
 case round =>
  clear E1 HF hn;obtain⟨k,q5,n,c,a,f,rfl,hk,hq5,hn,HF,E2⟩:=hrel;obtain⟨v0,v1,v2⟩:=E2.acc;go_upto_region 9 with fail;go_cut [36] (λs wx=>∃b:Bool,s=.bool b/\(b=true->k<3)/\wr=wx);case first =>
   by_cases At:k<3
   ·have JJ:(k:Int)<3:=by omega
    go_wp2;go_meet;exact⟨_,rfl,λ_=>At,rfl⟩
   ·have JJ:¬ (k:Int)<3:=by omega
    go_wp2;go_meet;exact⟨ZA,rfl,(λh=>by cases h),rfl⟩
  case rest =>
  obtain⟨Fd,rfl,aq,rfl⟩:=hcut;cases Fd with
  |true =>
   have At:=aq rfl;obtain⟨x0,x1,x2,x3,x4⟩:=E2.d.cells;clear aq v0 v1 v2;go_wp2_with fail;have u:=ae (E2.aa br.drew (by simp));refine wp_region_held_drew (S:=λV=>ZV V (T sb 0 Y)=Q (Z b0 m0 j)/\ZV V (T sb 1 Y)=Q (Z b r g)) (by kernel_rfl) ⟨u.d.cells.1,u.d.cells.2.1⟩ λhS=>?_;have l:=ae hS;clear hS E2 x0 x1 x2 x3 x4;generalize wr.drew=B at u l ⊢;iterate 3
    refine aN 0 (v:=?_) rfl rfl (by kernel_rfl) (λ_ _ _ h=>h) rfl ?_ l ?_;rotate_left
    ·(rintro wz⟨s0,s1⟩;go_simp)
     (try with_reducible rfl)
    (try simp only[Act.put,z_])
   refine aL (i:=3) rfl (by kernel_rfl) λK ZY=>?_;go_simp;go_at_call 33;refine(iz R _ (z (A w)) m0 j r g b0 ZS b O _ u.d.rd (by omega) ZR u.d.qs.at.1).P ?_;rintro e v4⟨t4,rfl,q6,hq6,hR,hO⟩;have H:=ae (u.ac hO hR (by simp));clear hR hO u l;have l:=ae (show ZV v4 (T sb 0 Y)=Q (Z b0 m0 j)/\ZV v4 (T sb 1 Y)=Q (Z b r g) from⟨H.d.cells.1,H.d.cells.2.1⟩);refine ZY _ _ l ?_;clear ZY K
   (try simp only[Act.put,z_])
   refine aL (i:=4) rfl (by kernel_rfl) λK ZY=>?_;go_simp;go_at_call 49;refine(se (z (A w)) m0 j r g b0 ZS b O _ t4 H.d.qs.at.1).P ?_;rintro e v5⟨a5,n5,c5,f5,kk5,tt5,ra5,rn5,rc5,rfl,ph,ZM,th,bt⟩;have hz4:=bt.size;have hab4:=aj H.ax;have hsb4:=aj H.d.sx;have hws4:=H.d.o.size;have hra4:=aj H.d.za;have E5:=ae (H.aa bt (by simp))
   have QA:Hid (QAc (z (A w)) [ab,R,z (A w),z (A w)+1,sb] v5 a5 n5 c5 f5):=QAc.new ph (by omega) (λx ZN=>by
    simp only[vG,nj,QW] at ZN
    omega)
   have JH:=ae th;clear ph bt th H l;have l:=ae (show ZV v5 (T sb 0 Y)=Q (Z b0 m0 j)/\ZV v5 (T sb 1 Y)=Q (Z b r g) from⟨E5.d.cells.1,E5.d.cells.2.1⟩);refine ZY _ _ l ?_;clear ZY K
   (try simp only[Act.put,z_])
   iterate 3
    refine aN 5 (v:=?_) rfl rfl (by kernel_rfl) (λ_ _ _ h=>h) rfl ?_ l ?_;rotate_left
    ·(rintro wz⟨s0,s1⟩;go_simp)
     (try with_reducible rfl)
    (try simp only[Act.put,z_])
   obtain⟨z0,z1,z2⟩:=E5.acc;have E6:=ae (E5.put (by simp) (by omega) QA);refine aL (i:=8) rfl (by kernel_rfl) λK ZY=>?_;go_simp;have C:ab≠sb:=by omega
   refine ZY _ _ ⟨(Q_ _ _ _ _ C).k l.1,(Q_ _ _ _ _ C).k l.2⟩ ?_;clear ZY K l E5 QA z0 z1 z2
   (try simp only[Act.put,z_])
   refine wpAnyH_done (by kernel_rfl) ?_ _;generalize World.setCell v5 _ _=W7 at E6 ⊢;go_wp2;exact⟨⟨k+1,q6,n5,c5,a5,f5,by go_num,by omega,by omega,ZM,JH,E6⟩,by simp[intOf];omega⟩
  |false =>
   clear aq v0 v1 v2;go_wp2_with fail;have SQ:Hid (∀V,Dr2 [ab,R,z (A w),z (A w)+1,sb] w R (z (A w)) (z (A w)+1) sb ab V q5 m0 j r g b0 ZS b O n c a f->ZV V (T sb 0 Y)=Q (Z b0 m0 j)/\ZV V (T sb 1 Y)=Q (Z b r g)/\ZV V (T ab 0 Y)=Q (Z a n c)):=λV h=>⟨h.d.cells.1,h.d.cells.2.1,h.acc.1⟩
   have u:=ae (E2.aa br.drew (by simp));refine wp_region_held_drew (S:=λV=>ZV V (T sb 0 Y)=Q (Z b0 m0 j)/\ZV V (T sb 1 Y)=Q (Z b r g)/\ZV V (T ab 0 Y)=Q (Z a n c)) (by kernel_rfl) (SQ _ u) λhS=>?_;have l:=ae hS;clear hS E2;generalize wr.drew=B at u l ⊢;iterate 2
    refine aN 0 (v:=?_) rfl rfl (by kernel_rfl) (λ_ _ _ h=>h) rfl ?_ l ?_;rotate_left
    ·(rintro wz⟨s0,s1,s2⟩;go_simp)
     (try with_reducible rfl)
    (try simp only[Act.put,z_])
   have ks:=u.d.zs;have ka:=u.d.za;have r0:ZV B (T (z (A w)) 0 Y)=Q (Z Y 0 0):=by simp[World.cell?,ks]
   have r1:ZV B (T (z (A w)) 1 Y)=Q (Z Y 0 0):=by simp[World.cell?,ks]
   have r2:ZV B (T (z (A w)+1) 0 Y)=Q (Z Y 0 0):=by simp[World.cell?,ka]
   have y0:ZW B (T (z (A w)) 0 Y)=ZA:=by simp[World.frozen?,ks]
   have y1:ZW B (T (z (A w)) 1 Y)=ZA:=by simp[World.frozen?,ks]
   have y2:ZW B (T (z (A w)+1) 0 Y)=ZA:=by simp[World.frozen?,ka]
   have l0:=aj ks;have l1:=aj ka;have B3:=ae ((((a8 (z (A w)) B).setCell (p:=(T (z (A w)) 0 Y)) ly (Z b0 m0 j)).setCell (p:=(T (z (A w)) 1 Y)) ly (Z b r g)).setCell (p:=(T (z (A w)+1) 0 Y)) (BV _) (Z a n c));have FR:Hid (Fr [ab,R,z (A w),z (A w)+1,sb] B (((B.setCell (T (z (A w)) 0 Y) (Z b0 m0 j)).setCell (T (z (A w)) 1 Y) (Z b r g)).setCell (T (z (A w)+1) 0 Y) (Z a n c))):=((Fr.set (by simp) _).k (Fr.set (by simp) _)).k (Fr.set (by simp) _);have Fm:=ae (u.d.qs.fr FR).at;have Id:=ae (u.qa.fr FR).at;have R9:=ae (u.d.rd.low B3 ZR);have O9:=ae (u.d.o.then B3);clear ks ka B3 FR;refine aL (i:=2) rfl (by kernel_rfl) λK ZY=>?_;go_simp;clear l;have C:sb≠z (A w):=by omega
   have qr:ab≠z (A w):=by omega
   have l:=ae (show((B.setCell (T (z (A w)) 0 Y) (Z b0 m0 j)).setCell (T (z (A w)) 1 Y) (Z b r g)).cell? (T sb 0 Y)=Q (Z b0 m0 j)/\((B.setCell (T (z (A w)) 0 Y) (Z b0 m0 j)).setCell (T (z (A w)) 1 Y) (Z b r g)).cell? (T sb 1 Y)=Q (Z b r g)/\((B.setCell (T (z (A w)) 0 Y) (Z b0 m0 j)).setCell (T (z (A w)) 1 Y) (Z b r g)).cell? (T ab 0 Y)=Q (Z a n c) from by
    obtain⟨h1,h2,h3⟩:=SQ.i _ u
    exact⟨(Q_ _ _ _ _ C.c).k ((Q_ _ _ _ _ C.c).k h1),(Q_ _ _ _ _ C.c).k ((Q_ _ _ _ _ C.c).k h2),(Q_ _ _ _ _ qr.c).k ((Q_ _ _ _ _ qr.c).k h3)⟩)
   refine ZY _ _ l ?_;clear ZY K
   (try simp only[Act.put,z_])
   refine aL (i:=3) rfl (by kernel_rfl) λK ZY=>?_;go_simp;have DE:ab≠z (A w)+1:=by omega
   have fd:sb≠z (A w)+1:=by omega
   refine ZY _ _ ⟨(Q_ _ _ _ _ fd.c).k l.1,(Q_ _ _ _ _ fd.c).k l.2.1,(Q_ _ _ _ _ DE.c).k l.2.2⟩ ?_;clear ZY K
   (try simp only[Act.put,z_])
   refine wpAnyH_done (by kernel_rfl) ?_ _;go_wp2;exact bp (v:=.tuple #[ZJ #[Z b0 m0 j,Z b r g],ZJ #[Z a n c]]) (by simp[results,results47,go_sem,r0,r1,r2]) rfl ⟨_,_,_,_,_,_,_,_,_,_,_,_,rfl,Fm,Id,hn,HF,q5,by omega,R9,O9⟩
