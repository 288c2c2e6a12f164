import Derived.Test.YthkpcehepgmdgaaGreatDoorQA
import Derived.Test.YthkpcehepgmdgaaGreatDoorQD
set_option maxRecDepth 100000
set_option maxHeartbeats 8000000
set_option linter.unusedSimpArgs false
open Go renaming Addr.mk->Q,Value.slice->Z,Value.string->U,Value.int->J,Value.agg->ZH,Obj.cells->N,IntKind.i64->I,World->G,Value->ZD,Ending.returned->ZG,World.heap->h,World.cell?->ZV,World.frozen?->ZW,World.setCell->ZT
open Option renaming none->Y,some->T
open Bool renaming false->ZB
open Array renaming size->A
open List renaming length->ZU
namespace Go.Proofs.YthkpcehepgmdgaaGreatDoor.Vp
open Tryz RowKit Ca
variable {b x i j k0 k1 m:Nat}{u0 u1 u u2:ZD}{R:List DR}{t:TypeId}{z:Nat × Nat}{b0:Option Addr}
def MkA (w:G)(e:Ending)(b:G):Prop:=∃(a:Option Addr) (n c:Nat) (f:Nat->af) (k:Int) (t:ByteArray) (ra:Option Addr) (ZY g:Nat),e=ZG (.tuple #[ZH #[Z a n c],ZH #[J I k,U t,Z ra ZY g]])/\HAc (A (h w)) b a n c f/\n<=400/\(∀i,i<n->FitI (f i))/\Below (A (h w)) w b
theorem qO (b n0 c0 n1 c1:Nat)(a0:Option Addr)(f0:Nat->Source)(a1:Option Addr)(f1:Nat->Target)(w:G)(nm:ByteArray)(hH:HSp b w a0 n0 f0 a1 n1 f1):Calls Tryz.prog 11 #[ZH #[Z a0 n0 c0,Z a1 n1 c1],U nm] w λe f=>MkA w e f:=by have h0:=hH.hn0;have h1:=hH.hn1;refine(jB (S:=⟨n0,f0,n1,f1⟩) (a0:=a0) (a1:=a1) (c0:=c0) (c1:=c1) w nm (hH.sl w (Agr.refl _ _)).1 (hH.sl w (Agr.refl _ _)).2 (by show n0<=_;omega) (by show n1<=_;omega) (λi hi=>by have:=(hH.aq i hi).1;unfold aU;show(f1 i).l<=_;omega) (λi hi j o=>by have:=(hH.aq i hi).2 j o;unfold maxLen;show((f1 i).u j).s.size<=_;omega)).mono ?_;rintro e f ⟨a,c,R,rv,rfl,m,ZY,⟨ra,n,rfl,-⟩,g⟩;obtain⟨h2,l,p⟩:=uQ m ZY;exact⟨a,ZU R,c,_,_,_,ra,_,n,rfl,h2,l,p,g⟩
structure Dr1 (xs:List Nat)(w:G)(R rs ra sb:Nat)(W:G)(q n0 c0 n1 c1:Nat)(a0:Option Addr)(f0:Nat->Source)(a1:Option Addr)(f1:Nat->Target):Prop where
 rd:Rd W R q
 o:Only R w W
 zs:W.heap[rs]?=T (N #[Z Y 0 0,Z Y 0 0] 33 (0,0))
 za:W.heap[ra]?=T (N #[Z Y 0 0] 25 (0,0))
 sx:W.heap[sb]?=T (N #[Z a0 n0 c0,Z a1 n1 c1] 33 (0,0))
 qs:QSp (A (h w)) xs W a0 n0 f0 a1 n1 f1
 lo:R<A (h w)
 hb:A (h w)<=rs/\(A (h w))<=ra/\(A (h w))<=sb
structure Dr2 (xs:List Nat)(w:G)(R rs ra sb ab:Nat)(W:G)(q n0 c0 n1 c1:Nat)(a0:Option Addr)(f0:Nat->Source)(a1:Option Addr)(f1:Nat->Target)(n c:Nat)(a:Option Addr)(f:Nat->af):Prop where
 d:Dr1 xs w R rs ra sb W q n0 c0 n1 c1 a0 f0 a1 f1
 ax:W.heap[ab]?=T (N #[Z a n c] 25 (0,0))
 qa:QAc (A (h w)) xs W a n c f
 hb:A (h w)<=ab
section
variable {xs:List Nat}{w W W':G}{R rs ra sb ab q q' n0 c0 n1 c1 n c:Nat}{a0 a1 a:Option Addr}{f0:Nat->Source}{f1:Nat->Target}{f:Nat->af}
theorem Dr1.ac (ZY:Dr1 xs w R rs ra sb W q n0 c0 n1 c1 a0 f0 a1 f1)(b:Only R W W')(hR:Rd W' R q')(f:R∈xs):Dr1 xs w R rs ra sb W' q' n0 c0 n1 c1 a0 f0 a1 f1:=by have hl:=ZY.lo;obtain⟨h1,h2,h3⟩:=ZY.hb;exact⟨hR,ZY.o.trans b,(b.block _ (ag ZY.zs) (by omega)).trans ZY.zs,(b.block _ (ag ZY.za) (by omega)).trans ZY.za,(b.block _ (ag ZY.sx) (by omega)).trans ZY.sx,ZY.qs.fr (Fr.ac b f),ZY.lo,ZY.hb⟩
theorem Dr1.aa (ZY:Dr1 xs w R rs ra sb W q n0 c0 n1 c1 a0 f0 a1 f1)(b:Below (A (h W)) W W')(f:R∈xs):Dr1 xs w R rs ra sb W' q n0 c0 n1 c1 a0 f0 a1 f1:=ZY.ac (Only.q b) (ZY.rd.aa b ly) f
theorem Dr1.cells (ZY:Dr1 xs w R rs ra sb W q n0 c0 n1 c1 a0 f0 a1 f1):ZV W (Q sb 0 Y)=T (Z a0 n0 c0)/\ZV W (Q sb 1 Y)=T (Z a1 n1 c1)/\ZW W (Q sb 0 Y)=ZB/\ZW W (Q sb 1 Y)=ZB/\sb<A (h W):=by have hb:=ZY.sx;refine⟨?_,?_,?_,?_,ag hb⟩<;>simp[World.cell?,World.frozen?,hb]
theorem Dr1.more (ZY:Dr1 xs w R rs ra sb W q n0 c0 n1 c1 a0 f0 a1 f1)(i:A (h W)<=x):Dr1 (x::xs) w R rs ra sb W q n0 c0 n1 c1 a0 f0 a1 f1:=by
 obtain⟨b,g,l,h1,h2,j⟩:=ZY.qs;refine⟨ZY.rd,ZY.o,ZY.zs,ZY.za,ZY.sx,⟨b,g,l,h1,h2,λy f=>?_⟩,ZY.lo,ZY.hb⟩;rcases BS.1 f with rfl|f;{exact .inr (AD h2.1 i)};{exact j y f}
theorem Dr2.ac (ZY:Dr2 xs w R rs ra sb ab W q n0 c0 n1 c1 a0 f0 a1 f1 n c a f)(b:Only R W W')(hR:Rd W' R q')(g:R∈xs):Dr2 xs w R rs ra sb ab W' q' n0 c0 n1 c1 a0 f0 a1 f1 n c a f:=by have hl:=ZY.d.lo;have h1:=ZY.hb;exact⟨ZY.d.ac b hR g,(b.block _ (ag ZY.ax) (by omega)).trans ZY.ax,ZY.qa.fr (Fr.ac b g),ZY.hb⟩
theorem Dr2.aa (ZY:Dr2 xs w R rs ra sb ab W q n0 c0 n1 c1 a0 f0 a1 f1 n c a f)(b:Below (A (h W)) W W')(g:R∈xs):Dr2 xs w R rs ra sb ab W' q n0 c0 n1 c1 a0 f0 a1 f1 n c a f:=ZY.ac (Only.q b) (ZY.d.rd.aa b ly) g
theorem Dr2.acc (ZY:Dr2 xs w R rs ra sb ab W q n0 c0 n1 c1 a0 f0 a1 f1 n c a f):ZV W (Q ab 0 Y)=T (Z a n c)/\ZW W (Q ab 0 Y)=ZB/\ab<A (h W):=by have hb:=ZY.ax;refine⟨?_,?_,ag hb⟩<;>simp[World.cell?,World.frozen?,hb]
theorem kH{W:G}{c f:Array ZD}{b:TypeId}{l:Nat × Nat}(ZY:W.heap[i]?=T (N c t z))(g:W.heap[j]?=T (N f b l))(m:t≠b):i≠j:=λe=>by rw[e,g] at ZY;simp at ZY;exact m ZY.2.1.symm
theorem Dr1.put{m0:Nat}{f:Option Addr}{i:Nat->Source}{l:Nat->Target}(ZY:Dr1 xs w R rs ra sb W q n0 c0 n1 c1 a0 f0 a1 f1)(m:sb∈xs)(n:rs≠sb)(s:QSp (A (h w)) xs W b0 m0 i f b l):Dr1 xs w R rs ra sb (ZT (ZT W (Q sb 0 Y) (Z b0 m0 k0)) (Q sb 1 Y) (Z f b k1)) q m0 k0 b k1 b0 i f l:=by obtain⟨h1,h2,j⟩:=ZY.hb;have B:=((cM (A (h w)) W).setCell (p:=(Q sb 0 Y)) j (Z b0 m0 k0)).setCell (p:=(Q sb 1 Y)) j (Z f b k1);have far:∀k,k≠sb->(ZT (ZT W (Q sb 0 Y) (Z b0 m0 k0)) (Q sb 1 Y) (Z f b k1)).heap[k]?=W.heap[k]?:=λk g=>(qh _ _ _ _ g).trans (qh _ _ _ _ g);have r:=ZY.sx;exact⟨ZY.rd.low B ZY.lo,ZY.o.then B,(far _ n).trans ZY.zs,(far _ (kH ZY.za ZY.sx (by decide))).trans ZY.za,by simp[World.setCell,KZ,r],s.fr ((Fr.set m _).trans (Fr.set m _)),ZY.lo,ZY.hb⟩
theorem Dr1.aset (ZY:Dr1 xs w R rs ra sb W q n0 c0 n1 c1 a0 f0 a1 f1)(f:x∈xs)(h1:x≠sb)(h2:x≠ra)(g:x≠rs)(i:A (h w)<=x)(u:ZD):Dr1 xs w R rs ra sb (ZT W (Q x j Y) u) q n0 c0 n1 c1 a0 f0 a1 f1:=by have B:=(cM (A (h w)) W).setCell (p:=(Q x j Y)) i u;have far:∀k,k≠x->(ZT W (Q x j Y) u).heap[k]?=W.heap[k]?:=λk b=>qh _ _ _ _ b;exact⟨ZY.rd.low B ZY.lo,ZY.o.then B,(far _ (λe=>g e.symm)).trans ZY.zs,(far _ (λe=>h2 e.symm)).trans ZY.za,(far _ (λe=>h1 e.symm)).trans ZY.sx,ZY.qs.fr (Fr.set f u),ZY.lo,ZY.hb⟩
theorem Dr2.put{k:Nat}{b:Option Addr}{g:Nat->af}(ZY:Dr2 xs w R rs ra sb ab W q n0 c0 n1 c1 a0 f0 a1 f1 n c a f)(i:ab∈xs)(l:ab≠ra)(j:QAc (A (h w)) xs W b m k g):Dr2 xs w R rs ra sb ab (ZT W (Q ab 0 Y) (Z b m k)) q n0 c0 n1 c1 a0 f0 a1 f1 m k b g :=
 ⟨ZY.d.aset i (kH ZY.ax ZY.d.sx (by decide)) l (kH ZY.ax ZY.d.zs (by decide)) ZY.hb _,bD ZY.ax _,j.fr (Fr.set i _),ZY.hb⟩
theorem Dr2.sput{m0:Nat}{j:Option Addr}{l:Nat->Source}{m:Nat->Target}(ZY:Dr2 xs w R rs ra sb ab W q n0 c0 n1 c1 a0 f0 a1 f1 n c a f)(g:sb∈xs)(o:rs≠sb)(p:QSp (A (h w)) xs W b0 m0 l j i m):Dr2 xs w R rs ra sb ab (ZT (ZT W (Q sb 0 Y) (Z b0 m0 k0)) (Q sb 1 Y) (Z j i k1)) q m0 k0 i k1 b0 l j m n c a f :=
 have b:ab≠sb:=kH ZY.ax ZY.d.sx (by decide)
 ⟨ZY.d.put g o p,((qh _ _ _ _ b).trans (qh _ _ _ _ b)).trans ZY.ax,ZY.qa.fr ((Fr.set g _).trans (Fr.set g _)),ZY.hb⟩
end
def DSA (w:G)(R q:Nat)(e:Ending)(b:G):Prop:=∃(a0:Option Addr) (n0 c0:Nat) (f0:Nat->Source) (a1:Option Addr) (n1 c1:Nat) (f1:Nat->Target) (a:Option Addr) (n c:Nat) (f:Nat->af),e=ZG (.tuple #[ZH #[Z a0 n0 c0,Z a1 n1 c1],ZH #[Z a n c]])/\HSg (A (h w)) b a0 n0 f0 a1 n1 f1/\HAc (A (h w)) b a n c f/\n<=400/\(∀i,i<n->FitI (f i))/\∃q':Nat,q'<=q/\Rd b R q'/\Only R w b
theorem yW (R p:Nat)(w:G)(hR:Rd w R p)(hp:p<=9000):Calls Tryz.prog 51 #[.pointer (T (Q R 0 Y))] w λe w'=>DSA w R (p+5300) e w':=by
 have HR:=ae hR;have ZP:=hR.lt;obtain⟨W0,ZL⟩:∃W:G,(w.alloc (N #[Z Y 0 0,Z Y 0 0] 33)).alloc (N #[Z Y 0 0] 25)=W:=⟨_,rfl⟩
 obtain⟨A0,KS,KA,hzA⟩:=nb2 ZL;have aq:=ae ZL;clear ZL;clear hR;go_enter func51,ntmps51;go_wp2_with fail;rw[aq.out];clear aq;refine(ar R p 40 _ (HR.aa A0 ly) (by omega) (by omega) (by omega)).mono ?_;rintro e w1 ⟨z,rfl,hz0,hz1,la,ZO⟩;have R1:=ae la;have O1:=ae ((Only.q A0).trans ZO);have qr:=ae ((ZO.block (A (h w)) (by omega) (by omega)).trans KS);have n7:=ae ((ZO.block (A (h w)+1) (by omega) (by omega)).trans KA);have hs1:=ZO.size;clear la ZO KS KA A0 HR;go_wp2_with fail;refine(yN R _ _ R1 (by omega)).mono ?_;rintro e E ⟨LS,RT,v0,v1,rfl,ho,ht,hG,DS,DQ,q2,hq2,th,O⟩;obtain⟨a0,c0,rfl⟩:=aF ho;obtain⟨a1,c1,rfl⟩:=aF ht.y;have hD:=Fs ho ht hG (by omega) (by omega);have hH:HSg _ _ _ _ _ _ _ _:=⟨hD.1,by omega,by omega,hD.2⟩
 clear hD;have hs2:=O.size;have AS:=(q9 E).alloc ly (N #[Z a0 (ZU LS) c0,Z a1 (ZU RT) c1] 33);have C:Hid (Dr1 [R,A (h w),A (h w)+1,A (h E)] w R (A (h w)) (A (h w)+1) (A (h E)) (E.alloc (N #[Z a0 (ZU LS) c0,Z a1 (ZU RT) c1] 33)) q2 (ZU LS) c0 (ZU RT) c1 a0 (ct LS) a1 (bj (RT.map (·.1)))):=by refine⟨th.aa AS ly,(O1.trans O).trans (Only.q AS),(AS.block _ (by omega)).trans ((O.block _ (by omega) (by omega)).trans qr),(AS.block _ (by omega)).trans ((O.block _ (by omega) (by omega)).trans n7),nD E _,⟨A (h w1)+2,E,by omega,hH,cC AS ly,λx P=>?_⟩,ZP,by omega,by omega,by omega⟩;simp only[BS,nj,NE] at P;omega
 clear AS ho ht hG hH th O O1 qr n7 R1;generalize (ZU LS)=n0 at C DS ⊢;generalize (ZU RT)=n1 at C DQ ⊢;generalize ct LS=f0 at C;generalize bj (RT.map (·.1))=f1 at C;go_upto_region 3 with fail;have Hl:A (h w)+2<=A (h E):=by omega
 generalize World.alloc E _=W2 at C ⊢;generalize (A (h E))=sb at C Hl ⊢;obtain⟨x0,x1,-⟩:=C.cells;go_wp2_with fail;refine(jN R _ (A (h w)) n0 c0 n1 c1 a0 f0 a1 f1 _ C.rd (by omega) ZP C.qs.at.1).mono ?_;rintro e w3 ⟨t,rfl,q3,hq3,At,ro⟩;have D2:=ae (C.ac ro At (by simp));clear At ro C x0 x1;go_upto_if 18 with fail;go_cut [6] (λs6 wx=>∃(t:ByteArray) (q m0 j r g:Nat) (b0:Option Addr) (ZQ:Nat->Source) (b:Option Addr) (M:Nat->Target),s6=U t/\q<=p+5200/\Hid (Dr1 [R,A (h w),A (h w)+1,sb] w R (A (h w)) (A (h w)+1) sb wx q m0 j r g b0 ZQ b M));case first =>
  by_cases hz:z=0
  ·subst hz;go_wp2_with fail;refine(ar R _ 2 _ D2.rd (by omega) (by omega) (by omega)).mono ?_;rintro e w4 ⟨y,rfl,y0,y1,hR,hO⟩;have ZS:=ae (D2.ac hO hR (by simp));clear hR hO D2;obtain⟨m,hm⟩:∃m:Nat,60 - y=(m:Int):=⟨(60 - y).toNat,by omega⟩
   have hw:IntKind.i64.wrap (60 - y)=60 - y:=by rw[nL];omega
   go_wp2_with fail;have hs4:=ag ZS.sx;refine(nW m (by omega) ⟨#[97]⟩ (by decide) _).mono ?_;rintro e w5 ⟨b0,m0,j,ZQ,b,g,n8,rfl,Hk,ZJ,ph,-,-,ld,ZM⟩
   have hH:HSg _ _ _ _ _ _ _ _:=⟨ph,ZJ,by omega,λi hi=>by
    have e:bj (n8.map (·.1)) i=n8[i].1:=by simp[bj,hi]
    rw[e,(ld _ (gz hi)).2]
    omega⟩
   clear ph ld Hk ZJ;have hz5:=ZM.size;have D4:=ae (ZS.aa ZM (by simp))
   have D5:=ae (D4.put (k0:=j) (k1:=g) (by simp) (by omega) (QSp.new hH (by omega) (λx P=>by
    simp only[BS,nj,NE] at P
    omega)))
   obtain⟨x0,x1,x2,x3,x4⟩:=D4.cells;clear hH ZM ZS D4 hm hw;go_wp2;go_meet;exact⟨_,_,_,_,_,_,_,_,_,_,rfl,by omega,D5⟩
  ·have hzb:(z == 0)=ZB:=by simpa using hz
   go_wp2;go_meet;exact⟨t,q3,_,_,_,_,_,_,_,_,rfl,by omega,D2⟩
 case rest =>
 clear D2;obtain⟨t,q4,m0,j,r,g,b0,ZQ,b,M,rfl,hq4,ZS⟩:=hcut;generalize wc=W3 at ZS ⊢;obtain⟨x0,x1,x2,x3,x4⟩:=ZS.cells;go_wp2_with fail;refine(qO (A (h w)) m0 j r g b0 ZQ b M _ t ZS.qs.at.1).mono ?_;rintro e w6 ⟨a,n,c,f,kk,tt,ra,rn,rc,rfl,hA,hn,hf,ZM⟩;obtain⟨W6,X⟩:∃W:G,(w6.alloc (N #[Z a n c] 25)).alloc (N #[J I kk,U tt,Z ra rn rc] 47)=W:=⟨_,rfl⟩
 obtain⟨A6,ZK,-,-⟩:=nb2 X;replace ZK:=ZK.out;replace A6:=A6.out;have ZN:=ae X;clear X;have Fn:=ZM.size;have hws:=ZS.o.size;have E1:Hid (Dr2 [A (h w6),R,A (h w),A (h w)+1,sb] w R (A (h w)) (A (h w)+1) sb (A (h w6)) W6 q4 m0 j r g b0 ZQ b M n c a f):=by
  cases ZN.out
  refine⟨((ZS.aa ZM (by simp)).more ly).aa A6 (by simp),ZK,⟨A (h W3),w6,by omega,hA,cC A6 ly,λx P=>?_⟩,by omega⟩;simp only[BS,nj,NE] at P;omega
 have HF:=ae hf;have Hj:sb<A (h w6):=by omega
 have hw2:A (h w)+2<=A (h W3):=by omega
 clear A6 ZK hA ZM hf ZS x0 x1 x2 x3 x4;go_wp2_with fail;rw[ZN.out];clear ZN;generalize (A (h w6))=ab at E1 Hj Fn ⊢;go_loopw [9] (λi wr=>∃(k q n c:Nat) (a:Option Addr) (f:Nat->af),i=J I k/\k<=3/\q<=q4+3*k/\n<=400/\Hid (∀i,i<n->FitI (f i))/\Hid (Dr2 [ab,R,A (h w),A (h w)+1,sb] w R (A (h w)) (A (h w)+1) sb ab wr q m0 j r g b0 ZQ b M n c a f)) (λi _=>3 - (intOf i).toNat);case atStart=>exact⟨0,q4,n,c,a,f,rfl,by omega,by omega,hn,HF,E1⟩
 case round =>
  clear E1 HF hn;obtain⟨k,q5,n,c,a,f,rfl,hk,hq5,hn,HF,E2⟩:=hrel;obtain⟨v0,v1,v2⟩:=E2.acc;go_upto_region 9 with fail;go_cut [36] (λs wx=>∃b:Bool,s=.bool b/\(b=true->k<3)/\wr=wx);case first =>
   by_cases ur:k<3
   ·have GS:(k:Int)<3:=by omega
    go_wp2;go_meet;exact⟨_,rfl,λ_=>ur,rfl⟩
   ·have GS:¬ (k:Int)<3:=by omega
    go_wp2;go_meet;exact⟨ZB,rfl,(λZY=>by cases ZY),rfl⟩
  case rest =>
  obtain⟨Fk,rfl,fd,rfl⟩:=hcut;cases Fk with
  |true =>
   have ur:=fd rfl;obtain⟨x0,x1,x2,x3,x4⟩:=E2.d.cells;clear fd v0 v1 v2;go_wp2_with fail;have u:=ae (E2.aa br.drew (by simp));refine wp_region_held_drew (S:=λV=>ZV V (Q sb 0 Y)=T (Z b0 m0 j)/\ZV V (Q sb 1 Y)=T (Z b r g)) (by kernel_rfl) ⟨u.d.cells.1,u.d.cells.2.1⟩ λhS=>?_;have l:=ae hS;clear hS E2 x0 x1 x2 x3 x4;generalize wr.drew=B at u l ⊢;iterate 3
    refine aW 0 (v:=?_) rfl rfl (by kernel_rfl) (λ_ _ _ ZY=>ZY) rfl ?_ l ?_;rotate_left
    ·(rintro wz ⟨s0,s1⟩;go_simp)
     (try with_reducible rfl)
    (try simp only[Act.put,nzL])
   refine aS (i:=3) rfl (by kernel_rfl) λK ZX=>?_;go_simp;go_at_call 87;refine(jN R _ (A (h w)) m0 j r g b0 ZQ b M _ u.d.rd (by omega) ZP u.d.qs.at.1).mono ?_;rintro e v4 ⟨t4,rfl,q6,hq6,hR,hO⟩;have H:=ae (u.ac hO hR (by simp));clear hR hO u l;have l:=ae (show ZV v4 (Q sb 0 Y)=T (Z b0 m0 j)/\ZV v4 (Q sb 1 Y)=T (Z b r g) from⟨H.d.cells.1,H.d.cells.2.1⟩);refine ZX _ _ l ?_;clear ZX K
   (try simp only[Act.put,nzL])
   refine aS (i:=4) rfl (by kernel_rfl) λK ZX=>?_;go_simp;go_at_call 11;refine(qO (A (h w)) m0 j r g b0 ZQ b M _ t4 H.d.qs.at.1).mono ?_;rintro e v5 ⟨a5,n5,c5,f5,kk5,tt5,ra5,rn5,rc5,rfl,n9,ZJ,Bk,bt⟩;have hz4:=bt.size;have hab4:=ag H.ax;have hsb4:=ag H.d.sx;have hws4:=H.d.o.size;have hra4:=ag H.d.za;have E5:=ae (H.aa bt (by simp))
   have QA:Hid (QAc (A (h w)) [ab,R,A (h w),A (h w)+1,sb] v5 a5 n5 c5 f5):=QAc.new n9 (by omega) (λx P=>by
    simp only[BS,nj,NE] at P
    omega)
   have Fd:=ae Bk;clear n9 bt Bk H l;have l:=ae (show ZV v5 (Q sb 0 Y)=T (Z b0 m0 j)/\ZV v5 (Q sb 1 Y)=T (Z b r g) from⟨E5.d.cells.1,E5.d.cells.2.1⟩);refine ZX _ _ l ?_;clear ZX K
   (try simp only[Act.put,nzL])
   iterate 3
    refine aW 5 (v:=?_) rfl rfl (by kernel_rfl) (λ_ _ _ ZY=>ZY) rfl ?_ l ?_;rotate_left
    ·(rintro wz ⟨s0,s1⟩;go_simp)
     (try with_reducible rfl)
    (try simp only[Act.put,nzL])
   obtain⟨z0,z1,z2⟩:=E5.acc;have E6:=ae (E5.put (by simp) (by omega) QA);refine aS (i:=8) rfl (by kernel_rfl) λK ZX=>?_;go_simp;have D:ab≠sb:=by omega
   refine ZX _ _ ⟨(cell_far _ _ _ _ D).trans l.1,(cell_far _ _ _ _ D).trans l.2⟩ ?_;clear ZX K l E5 QA z0 z1 z2
   (try simp only[Act.put,nzL])
   refine wpAnyH_done (by kernel_rfl) ?_ _;generalize World.setCell v5 _ _=W7 at E6 ⊢;go_wp2;exact⟨⟨k+1,q6,n5,c5,a5,f5,by go_num,by omega,by omega,ZJ,Fd,E6⟩,by simp[intOf];omega⟩
  |false =>
   clear fd v0 v1 v2;go_wp2_with fail;have SQ:Hid (∀V,Dr2 [ab,R,A (h w),A (h w)+1,sb] w R (A (h w)) (A (h w)+1) sb ab V q5 m0 j r g b0 ZQ b M n c a f->ZV V (Q sb 0 Y)=T (Z b0 m0 j)/\ZV V (Q sb 1 Y)=T (Z b r g)/\ZV V (Q ab 0 Y)=T (Z a n c)):=λV ZY=>⟨ZY.d.cells.1,ZY.d.cells.2.1,ZY.acc.1⟩
   have u:=ae (E2.aa br.drew (by simp));refine wp_region_held_drew (S:=λV=>ZV V (Q sb 0 Y)=T (Z b0 m0 j)/\ZV V (Q sb 1 Y)=T (Z b r g)/\ZV V (Q ab 0 Y)=T (Z a n c)) (by kernel_rfl) (SQ _ u) λhS=>?_;have l:=ae hS;clear hS E2;generalize wr.drew=B at u l ⊢;iterate 2
    refine aW 0 (v:=?_) rfl rfl (by kernel_rfl) (λ_ _ _ ZY=>ZY) rfl ?_ l ?_;rotate_left
    ·(rintro wz ⟨s0,s1,s2⟩;go_simp)
     (try with_reducible rfl)
    (try simp only[Act.put,nzL])
   have ks:=u.d.zs;have ka:=u.d.za;have r0:ZV B (Q (A (h w)) 0 Y)=T (Z Y 0 0):=by simp[World.cell?,ks]
   have r1:ZV B (Q (A (h w)) 1 Y)=T (Z Y 0 0):=by simp[World.cell?,ks]
   have r2:ZV B (Q (A (h w)+1) 0 Y)=T (Z Y 0 0):=by simp[World.cell?,ka]
   have y0:ZW B (Q (A (h w)) 0 Y)=ZB:=by simp[World.frozen?,ks]
   have y1:ZW B (Q (A (h w)) 1 Y)=ZB:=by simp[World.frozen?,ks]
   have y2:ZW B (Q (A (h w)+1) 0 Y)=ZB:=by simp[World.frozen?,ka]
   have l0:=ag ks;have l1:=ag ka;have B3:=ae ((((cM (A (h w)) B).setCell (p:=(Q (A (h w)) 0 Y)) ly (Z b0 m0 j)).setCell (p:=(Q (A (h w)) 1 Y)) ly (Z b r g)).setCell (p:=(Q (A (h w)+1) 0 Y)) (IS _) (Z a n c));have FR:Hid (Fr [ab,R,A (h w),A (h w)+1,sb] B (ZT (ZT (ZT B (Q (A (h w)) 0 Y) (Z b0 m0 j)) (Q (A (h w)) 1 Y) (Z b r g)) (Q (A (h w)+1) 0 Y) (Z a n c))):=((Fr.set (by simp) _).trans (Fr.set (by simp) _)).trans (Fr.set (by simp) _);have Fm:=ae (u.d.qs.fr FR).at;have Hi:=ae (u.qa.fr FR).at;have R9:=ae (u.d.rd.low B3 ZP);have O9:=ae (u.d.o.then B3);clear ks ka B3 FR;refine aS (i:=2) rfl (by kernel_rfl) λK ZX=>?_;go_simp;clear l;have D:sb≠A (h w):=by omega
   have sm:ab≠A (h w):=by omega
   have l:=ae (show ZV (ZT (ZT B (Q (A (h w)) 0 Y) (Z b0 m0 j)) (Q (A (h w)) 1 Y) (Z b r g)) (Q sb 0 Y)=T (Z b0 m0 j)/\ZV (ZT (ZT B (Q (A (h w)) 0 Y) (Z b0 m0 j)) (Q (A (h w)) 1 Y) (Z b r g)) (Q sb 1 Y)=T (Z b r g)/\ZV (ZT (ZT B (Q (A (h w)) 0 Y) (Z b0 m0 j)) (Q (A (h w)) 1 Y) (Z b r g)) (Q ab 0 Y)=T (Z a n c) from by
    obtain⟨h1,h2,h3⟩:=SQ.out _ u
    exact⟨(cell_far _ _ _ _ D.symm).trans ((cell_far _ _ _ _ D.symm).trans h1),(cell_far _ _ _ _ D.symm).trans ((cell_far _ _ _ _ D.symm).trans h2),(cell_far _ _ _ _ sm.symm).trans ((cell_far _ _ _ _ sm.symm).trans h3)⟩)
   refine ZX _ _ l ?_;clear ZX K
   (try simp only[Act.put,nzL])
   refine aS (i:=3) rfl (by kernel_rfl) λK ZX=>?_;go_simp;have DE:ab≠A (h w)+1:=by omega
   have ex:sb≠A (h w)+1:=by omega
   refine ZX _ _ ⟨(cell_far _ _ _ _ ex.symm).trans l.1,(cell_far _ _ _ _ ex.symm).trans l.2.1,(cell_far _ _ _ _ DE.symm).trans l.2.2⟩ ?_;clear ZX K
   (try simp only[Act.put,nzL])
   refine wpAnyH_done (by kernel_rfl) ?_ _;go_wp2;exact bp (v:=.tuple #[ZH #[Z b0 m0 j,Z b r g],ZH #[Z a n c]]) (by simp[results,results51,go_sem,r0,r1,r2]) rfl ⟨_,_,_,_,_,_,_,_,_,_,_,_,rfl,Fm,Hi,hn,HF,q5,by omega,R9,O9⟩
structure RgM (W v:G)(z7 z8:Option (Nat × Array ZD)):Prop where
 b:Below (A (h W)) W v
 a:∀p cs,z7=T (p,cs)->A (h W)<=p/\v.heap[p]?=T (N cs 25 (0,0))
 r:∀p cs,z8=T (p,cs)->A (h W)<=p/\v.heap[p]?=T (N cs 47 (0,0))
section
variable {W v v':G}{z7 z8:Option (Nat × Array ZD)}{p:Nat}{cs:Array ZD}
theorem RgM.aa (ZY:RgM W v z7 z8)(f:Below (A (h v)) v v'):RgM W v' z7 z8 :=
 ⟨ZY.b.trans (f.mono ZY.b.size),λp cs e=>⟨(ZY.a p cs e).1,(f.block p (ag (ZY.a p cs e).2)).trans (ZY.a p cs e).2⟩,λp cs e=>⟨(ZY.r p cs e).1,(f.block p (ag (ZY.r p cs e).2)).trans (ZY.r p cs e).2⟩⟩
theorem RgM.newA (ZY:RgM W v z7 z8)(cs:Array ZD):RgM W (v.alloc (N cs 25)) (T (A (h v),cs)) z8:=by
 have f:=ZY.aa ((q9 v).alloc ly (N cs 25));refine⟨f.b,λp c e=>?_,f.r⟩;cases e
 exact⟨ZY.b.size,nD v _⟩
theorem RgM.newR (ZY:RgM W v z7 z8)(cs:Array ZD):RgM W (v.alloc (N cs 47)) z7 (T (A (h v),cs)):=by
 have f:=ZY.aa ((q9 v).alloc ly (N cs 47));refine⟨f.b,f.a,λp c e=>?_⟩;cases e
 exact⟨ZY.b.size,nD v _⟩
theorem RgM.setA (ZY:RgM W v (T (p,#[u0])) z8)(u:ZD):RgM W (ZT v (Q p 0 Y) u) (T (p,#[u])) z8:=by
 obtain⟨h1,h2⟩:=ZY.a p _ rfl;refine⟨ZY.b.setCell (p:=(Q p 0 Y)) h1 u,λq c e=>?_,λq c e=>?_⟩
 ·cases e
  exact⟨h1,bD h2 _⟩
 {obtain⟨g,f⟩:=ZY.r q c e;exact⟨g,(qh v (Q p 0 Y) u q (kH f h2 (by decide))).trans f⟩}
theorem RgM.endR (ZY:RgM W v z7 (T (p,cs)))(u0 u1 u2:ZD):RgM W (ZT (ZT (ZT v (Q p 0 Y) u0) (Q p 1 Y) u1) (Q p 2 Y) u2) z7 Y:=by obtain⟨h1,h2⟩:=ZY.r p _ rfl;refine⟨((ZY.b.setCell (p:=(Q p 0 Y)) h1 u0).setCell (p:=(Q p 1 Y)) h1 u1).setCell (p:=(Q p 2 Y)) h1 u2,λq c e=>?_,λq c e=>by cases e⟩;obtain⟨g,f⟩:=ZY.a q c e;have ne:=kH f h2 (by decide);exact⟨g,(((qh _ (Q p 2 Y) u2 q ne).trans (qh _ (Q p 1 Y) u1 q ne)).trans (qh v (Q p 0 Y) u0 q ne)).trans f⟩
theorem RgM.cA (ZY:RgM W v (T (p,#[u0])) z8):ZV v (Q p 0 Y)=T u0/\ZW v (Q p 0 Y)=ZB/\p<A (h v):=by have k:=(ZY.a p _ rfl).2;refine⟨?_,?_,ag k⟩<;>simp[World.cell?,World.frozen?,k]
theorem RgM.cR (ZY:RgM W v z7 (T (p,#[u0,u1,u2]))):ZV v (Q p 0 Y)=T u0/\ZV v (Q p 1 Y)=T u1/\ZV v (Q p 2 Y)=T u2/\ZW v (Q p 0 Y)=ZB/\ZW v (Q p 1 Y)=ZB/\ZW v (Q p 2 Y)=ZB/\p<A (h v):=by have k:=(ZY.r p _ rfl).2;refine⟨?_,?_,?_,?_,?_,?_,ag k⟩<;>simp[World.cell?,World.frozen?,k]
theorem DRow.kd (ZY:DRow v b u R)(g:∀m e,OfTy v m e->e=44∨e=90∨e=68->v'.heap[m]?=v.heap[m]?):DRow v' b u R :=
 ⟨cH ZY.y λm _ f=>g m _ f (.inl rfl),λr i=>(ZY.sub r i).far (λm _ f=>g m _ f (.inr (.inl rfl))) (λm _ f=>g m _ f (.inr (.inr rfl))),ZY.up⟩
theorem xh{e:TypeId}(g:OfTy v m e)(b:v.heap[p]?=T (N cs t z))(f:e≠t):m≠p:=λi=>by obtain⟨c,z',ZY⟩:=g;rw[i,b] at ZY;simp at ZY;exact f ZY.2.1.symm
theorem RgM.dA (ZY:RgM W v (T (p,#[u0])) z8)(i:DRow v b u1 R)(u:ZD):DRow (ZT v (Q p 0 Y) u) b u1 R :=
 i.kd λm e g f=>qh v (Q p 0 Y) u m (xh g (ZY.a p _ rfl).2 (by rcases f with rfl|rfl|rfl<;>decide))
theorem RgM.dR (ZY:RgM W v z7 (T (p,cs)))(i:DRow v b u R):DRow (ZT (ZT (ZT v (Q p 0 Y) u0) (Q p 1 Y) u1) (Q p 2 Y) u2) b u R :=
 i.kd λm e g f=>by have ne:=xh g (ZY.r p _ rfl).2 (by rcases f with rfl|rfl|rfl<;>decide);exact((qh _ (Q p 2 Y) u2 m ne).trans (qh _ (Q p 1 Y) u1 m ne)).trans (qh v (Q p 0 Y) u0 m ne)
theorem DRow.low{b':Nat}(ZY:DRow v b u R)(hb:b'<=b):DRow v b' u R:=⟨aA ZY.y hb,λr f=>(ZY.sub r f).mono hb,ZY.up⟩
end
structure Lw (w:G)(ab sb:Nat)(d:Option Addr)(ZO dc:Nat)(f:Nat->af)(a0:Option Addr)(n0 c0:Nat)(f0:Nat->Source)(a1:Option Addr)(n1 c1:Nat)(f1:Nat->Target)(V:G):Prop where
 b:Below (A (h w)) w V
 s0:SlSource V a0 n0 f0
 s1:SlTarget V a1 n1 f1
 dd:SlDeed V d ZO f
 ax:AB V ab (Z d ZO dc)
 sx:SBx V sb (Z a0 n0 c0) (Z a1 n1 c1)
section
variable {w V ZL:G}{ab sb:Nat}{d:Option Addr}{ZO dc:Nat}{f:Nat->af}{a0:Option Addr}{n0 c0:Nat}{f0:Nat->Source}{a1:Option Addr}{n1 c1:Nat}{f1:Nat->Target}
theorem Lw.aa (ZY:Lw w ab sb d ZO dc f a0 n0 c0 f0 a1 n1 c1 f1 V)(g:Below (A (h V)) V ZL):Lw w ab sb d ZO dc f a0 n0 c0 f0 a1 n1 c1 f1 ZL :=
 ⟨ZY.b.trans (g.mono ZY.b.size),ZY.s0.aa g ly,ZY.s1.aa g ly,ZY.dd.aa g ly,ZY.ax.aa g ly,ZY.sx.aa g ly⟩
theorem Lw.c (ZY:Lw w ab sb d ZO dc f a0 n0 c0 f0 a1 n1 c1 f1 V):ZV V (Q sb 0 Y)=T (Z a0 n0 c0)/\ZV V (Q sb 1 Y)=T (Z a1 n1 c1)/\ZV V (Q ab 0 Y)=T (Z d ZO dc):=⟨ZY.sx.c0,ZY.sx.c1,ZY.ax.c0⟩
theorem GA (hH:HSp (A (h w)) V a0 n0 f0 a1 n1 f1)(ZY:HAc (A (h w)) V d ZO dc f)(b:Below (A (h w)) w V):Lw w (A (h V)) (A (h V)+1) d ZO dc f a0 n0 c0 f0 a1 n1 c1 f1 ((V.alloc (N #[Z d ZO dc] 25)).alloc (N #[Z a0 n0 c0,Z a1 n1 c1] 33)):=by have ZX:=((q9 V).alloc ly (N #[Z d ZO dc] 25)).alloc (by simp) (N #[Z a0 n0 c0,Z a1 n1 c1] 33);have g:=hH.sl _ (cC ZX ly);exact⟨b.trans (ZX.mono b.size),g.1,g.2,ZY.sl _ (cC ZX ly),(((cM (A (h V)+1) (V.alloc (N #[Z d ZO dc] 25))).alloc (by simp) _).block (A (h V)) (gM _)).trans (nD V _),PQ V _ _⟩
end
