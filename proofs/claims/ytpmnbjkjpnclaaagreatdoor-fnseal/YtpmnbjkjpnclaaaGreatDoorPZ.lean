import Derived.Test.YtpmnbjkjpnclaaaGreatDoorPR
import Derived.Test.YtpmnbjkjpnclaaaGreatDoorPU
set_option maxRecDepth 100000
set_option maxHeartbeats 8000000
set_option linter.unusedSimpArgs false
open Go renaming Addr.mk->Q,Value.slice->Z,Value.string->Y,Value.int->J,Obj.cells->N,IntKind.i64->I,World->M,Ending.returned->ZF,World.cell?->A
open Option renaming none->U,some->T
open Bool renaming false->ZA
namespace Go.Proofs.YtpmnbjkjpnclaaaGreatDoor.Vp
open Tryz RowKit Ca
def MkA (w:M)(e:Ending)(b:M):Prop:=∃(a:Option Addr) (n c:Nat) (f:Nat->Deed) (k:Int) (t:ByteArray) (ra:Option Addr) (g h:Nat),e=ZF (.tuple #[.agg #[Z a n c],.agg #[J I k,Y t,Z ra g h]])/\HAc w.heap.size b a n c f/\n<=400/\(∀i,i<n->FitI (f i))/\Below w.heap.size w b
theorem rO (b n0 c0 n1 c1:Nat)(a0:Option Addr)(f0:Nat->Source)(a1:Option Addr)(f1:Nat->Target)(w:M)(nm:ByteArray)(hH:HSp b w a0 n0 f0 a1 n1 f1):Calls Tryz.prog 21 #[.agg #[Z a0 n0 c0,Z a1 n1 c1],Y nm] w λe f=>MkA w e f:=by have h0:=hH.hn0;have h1:=hH.hn1;refine(vS (S:=⟨n0,f0,n1,f1⟩) (a0:=a0) (a1:=a1) (c0:=c0) (c1:=c1) w nm (hH.sl w (Agr.refl _ _)).1 (hH.sl w (Agr.refl _ _)).2 (by show n0<=_;omega) (by show n1<=_;omega) (λi hi=>by have:=(hH.ad i hi).1;unfold cT;show(f1 i).f<=_;omega) (λi hi j g=>by have:=(hH.ad i hi).2 j g;unfold maxLen;show((f1 i).H j).s.size<=_;omega)).mono ?_;rintro e f ⟨a,c,R,rv,rfl,l,h,⟨ra,m,rfl,-⟩,n⟩;obtain⟨h2,h3,h4⟩:=F9 l h;exact⟨a,R.length,c,_,_,_,ra,_,m,rfl,h2,h3,h4,n⟩
structure Dr1 (xs:List Nat)(w:M)(R rs ra sb:Nat)(W:M)(q n0 c0 n1 c1:Nat)(a0:Option Addr)(f0:Nat->Source)(a1:Option Addr)(f1:Nat->Target):Prop where
 rd:Rd W R q
 o:Only R w W
 zs:W.heap[rs]?=T (N #[Z U 0 0,Z U 0 0] 27 (0,0))
 za:W.heap[ra]?=T (N #[Z U 0 0] 37 (0,0))
 sx:W.heap[sb]?=T (N #[Z a0 n0 c0,Z a1 n1 c1] 27 (0,0))
 qs:QSp w.heap.size xs W a0 n0 f0 a1 n1 f1
 lo:R<w.heap.size
 hb:w.heap.size<=rs/\w.heap.size<=ra/\w.heap.size<=sb
structure Dr2 (xs:List Nat)(w:M)(R rs ra sb ab:Nat)(W:M)(q n0 c0 n1 c1:Nat)(a0:Option Addr)(f0:Nat->Source)(a1:Option Addr)(f1:Nat->Target)(n c:Nat)(a:Option Addr)(f:Nat->Deed):Prop where
 d:Dr1 xs w R rs ra sb W q n0 c0 n1 c1 a0 f0 a1 f1
 ax:W.heap[ab]?=T (N #[Z a n c] 37 (0,0))
 qa:QAc w.heap.size xs W a n c f
 hb:w.heap.size<=ab
section
variable {xs:List Nat}{w W W':M}{R rs ra sb ab q q' n0 c0 n1 c1 n c:Nat}{a0 a1 a:Option Addr}{f0:Nat->Source}{f1:Nat->Target}{f:Nat->Deed}
theorem Dr1.F (h:Dr1 xs w R rs ra sb W q n0 c0 n1 c1 a0 f0 a1 f1)(b:Only R W W')(hR:Rd W' R q')(c:R∈xs):Dr1 xs w R rs ra sb W' q' n0 c0 n1 c1 a0 f0 a1 f1:=by have hl:=h.lo;obtain⟨h1,h2,h3⟩:=h.hb;exact⟨hR,h.o.trans b,(b.block _ (ag h.zs) (by omega)).trans h.zs,(b.block _ (ag h.za) (by omega)).trans h.za,(b.block _ (ag h.sx) (by omega)).trans h.sx,h.qs.fr (Fr.F b c),h.lo,h.hb⟩
theorem Dr1.aa (h:Dr1 xs w R rs ra sb W q n0 c0 n1 c1 a0 f0 a1 f1)(b:Below W.heap.size W W')(c:R∈xs):Dr1 xs w R rs ra sb W' q n0 c0 n1 c1 a0 f0 a1 f1:=h.F (Only.u b) (h.rd.aa b ly) c
theorem Dr1.cells (h:Dr1 xs w R rs ra sb W q n0 c0 n1 c1 a0 f0 a1 f1):A W (Q sb 0 U)=T (Z a0 n0 c0)/\A W (Q sb 1 U)=T (Z a1 n1 c1)/\W.frozen? (Q sb 0 U)=ZA/\W.frozen? (Q sb 1 U)=ZA/\sb<W.heap.size:=by have hb:=h.sx;refine⟨?_,?_,?_,?_,ag hb⟩<;>simp[World.cell?,World.frozen?,hb]
theorem Dr1.more (h:Dr1 xs w R rs ra sb W q n0 c0 n1 c1 a0 f0 a1 f1){x:Nat}(f:W.heap.size<=x):Dr1 (x::xs) w R rs ra sb W q n0 c0 n1 c1 a0 f0 a1 f1:=by
 obtain⟨b,i,g,h1,h2,h3⟩:=h.qs;refine⟨h.rd,h.o,h.zs,h.za,h.sx,⟨b,i,g,h1,h2,λy c=>?_⟩,h.lo,h.hb⟩;rcases AT.1 c with rfl|c;{exact .inr (p7 h2.1 f)};{exact h3 y c}
theorem Dr2.F (h:Dr2 xs w R rs ra sb ab W q n0 c0 n1 c1 a0 f0 a1 f1 n c a f)(b:Only R W W')(hR:Rd W' R q')(g:R∈xs):Dr2 xs w R rs ra sb ab W' q' n0 c0 n1 c1 a0 f0 a1 f1 n c a f:=by have hl:=h.d.lo;have h1:=h.hb;exact⟨h.d.F b hR g,(b.block _ (ag h.ax) (by omega)).trans h.ax,h.qa.fr (Fr.F b g),h.hb⟩
theorem Dr2.aa (h:Dr2 xs w R rs ra sb ab W q n0 c0 n1 c1 a0 f0 a1 f1 n c a f)(b:Below W.heap.size W W')(g:R∈xs):Dr2 xs w R rs ra sb ab W' q n0 c0 n1 c1 a0 f0 a1 f1 n c a f:=h.F (Only.u b) (h.d.rd.aa b ly) g
theorem Dr2.acc (h:Dr2 xs w R rs ra sb ab W q n0 c0 n1 c1 a0 f0 a1 f1 n c a f):A W (Q ab 0 U)=T (Z a n c)/\W.frozen? (Q ab 0 U)=ZA/\ab<W.heap.size:=by have hb:=h.ax;refine⟨?_,?_,ag hb⟩<;>simp[World.cell?,World.frozen?,hb]
theorem qH {W:M}{i j:Nat}{c f:Array Value}{t b:TypeId}{z m:Nat × Nat}(h:W.heap[i]?=T (N c t z))(g:W.heap[j]?=T (N f b m))(l:t≠b):i≠j:=λe=>by rw[e,g] at h;simp at h;exact l h.2.1.symm
theorem Dr1.put {m0 k0 b k1:Nat}{b0 c:Option Addr}{g:Nat->Source}{f:Nat->Target}(h:Dr1 xs w R rs ra sb W q n0 c0 n1 c1 a0 f0 a1 f1)(i:sb∈xs)(n:rs≠sb)(m:QSp w.heap.size xs W b0 m0 g c b f):Dr1 xs w R rs ra sb ((W.setCell (Q sb 0 U) (Z b0 m0 k0)).setCell (Q sb 1 U) (Z c b k1)) q m0 k0 b k1 b0 g c f:=by obtain⟨h1,h2,h3⟩:=h.hb;have B:=((dB w.heap.size W).setCell (p:=(Q sb 0 U)) h3 (Z b0 m0 k0)).setCell (p:=(Q sb 1 U)) h3 (Z c b k1);have far:∀k,k≠sb->((W.setCell (Q sb 0 U) (Z b0 m0 k0)).setCell (Q sb 1 U) (Z c b k1)).heap[k]?=W.heap[k]?:=λk j=>(qh _ _ _ _ j).trans (qh _ _ _ _ j);have l:=h.sx;exact⟨h.rd.low B h.lo,h.o.then B,(far _ n).trans h.zs,(far _ (qH h.za h.sx (by decide))).trans h.za,by simp[World.setCell,CP,l],m.fr ((Fr.set i _).trans (Fr.set i _)),h.lo,h.hb⟩
theorem Dr1.aset (h:Dr1 xs w R rs ra sb W q n0 c0 n1 c1 a0 f0 a1 f1){x j:Nat}(c:x∈xs)(h1:x≠sb)(h2:x≠ra)(h3:x≠rs)(b:w.heap.size<=x)(u:Value):Dr1 xs w R rs ra sb (W.setCell (Q x j U) u) q n0 c0 n1 c1 a0 f0 a1 f1:=by have B:=(dB w.heap.size W).setCell (p:=(Q x j U)) b u;have far:∀k,k≠x->(W.setCell (Q x j U) u).heap[k]?=W.heap[k]?:=λk f=>qh _ _ _ _ f;exact⟨h.rd.low B h.lo,h.o.then B,(far _ (λe=>h3 e.symm)).trans h.zs,(far _ (λe=>h2 e.symm)).trans h.za,(far _ (λe=>h1 e.symm)).trans h.sx,h.qs.fr (Fr.set c u),h.lo,h.hb⟩
theorem Dr2.put {m k:Nat}{b:Option Addr}{g:Nat->Deed}(h:Dr2 xs w R rs ra sb ab W q n0 c0 n1 c1 a0 f0 a1 f1 n c a f)(i:ab∈xs)(l:ab≠ra)(j:QAc w.heap.size xs W b m k g):Dr2 xs w R rs ra sb ab (W.setCell (Q ab 0 U) (Z b m k)) q n0 c0 n1 c1 a0 f0 a1 f1 m k b g :=
 ⟨h.d.aset i (qH h.ax h.d.sx (by decide)) l (qH h.ax h.d.zs (by decide)) h.hb _,bW h.ax _,j.fr (Fr.set i _),h.hb⟩
theorem Dr2.sput {m0 k0 g k1:Nat}{b0 j:Option Addr}{l:Nat->Source}{m:Nat->Target}(h:Dr2 xs w R rs ra sb ab W q n0 c0 n1 c1 a0 f0 a1 f1 n c a f)(i:sb∈xs)(o:rs≠sb)(p:QSp w.heap.size xs W b0 m0 l j g m):Dr2 xs w R rs ra sb ab ((W.setCell (Q sb 0 U) (Z b0 m0 k0)).setCell (Q sb 1 U) (Z j g k1)) q m0 k0 g k1 b0 l j m n c a f :=
 have b:ab≠sb:=qH h.ax h.d.sx (by decide)
 ⟨h.d.put i o p,((qh _ _ _ _ b).trans (qh _ _ _ _ b)).trans h.ax,h.qa.fr ((Fr.set i _).trans (Fr.set i _)),h.hb⟩
end
def DSA (w:M)(R q:Nat)(e:Ending)(b:M):Prop:=∃(a0:Option Addr) (n0 c0:Nat) (f0:Nat->Source) (a1:Option Addr) (n1 c1:Nat) (f1:Nat->Target) (a:Option Addr) (n c:Nat) (f:Nat->Deed),e=ZF (.tuple #[.agg #[Z a0 n0 c0,Z a1 n1 c1],.agg #[Z a n c]])/\HSg w.heap.size b a0 n0 f0 a1 n1 f1/\HAc w.heap.size b a n c f/\n<=400/\(∀i,i<n->FitI (f i))/\∃q':Nat,q'<=q/\Rd b R q'/\Only R w b
theorem Ar (R p:Nat)(w:M)(hR:Rd w R p)(hp:p<=9000):Calls Tryz.prog 120 #[.pointer (T (Q R 0 U))] w λe w'=>DSA w R (p+5300) e w':=by
 have HR:=ae hR;have ZP:=hR.lt;obtain⟨W0,ZM⟩:∃W:M,(w.alloc (N #[Z U 0 0,Z U 0 0] 27)).alloc (N #[Z U 0 0] 37)=W:=⟨_,rfl⟩
 obtain⟨A0,KS,KA,hzA⟩:=nb2 ZM;have fd:=ae ZM;clear ZM;clear hR;go_enter func120,ntmps120;go_wp2_with fail;rw[fd.out];clear fd;refine(au R p 40 _ (HR.aa A0 ly) (by omega) (by omega) (by omega)).mono ?_;rintro e w1 ⟨z,rfl,hz0,hz1,ph,L⟩;have R1:=ae ph;have O1:=ae ((Only.u A0).trans L);have n9:=ae ((L.block w.heap.size (by omega) (by omega)).trans KS);have qr:=ae ((L.block (w.heap.size+1) (by omega) (by omega)).trans KA);have hs1:=L.size;clear ph L KS KA A0 HR;go_wp2_with fail;refine(Ag R _ _ R1 (by omega)).mono ?_;rintro e F ⟨LS,RT,v0,v1,rfl,ho,ht,hG,Hx,Fn,q2,hq2,Bk,ZQ⟩;obtain⟨a0,c0,rfl⟩:=aU ho;obtain⟨a1,c1,rfl⟩:=aU ht.i;have hD:=Ih ho ht hG (by omega) (by omega);have hH:HSg _ _ _ _ _ _ _ _:=⟨hD.1,by omega,by omega,hD.2⟩
 clear hD;have hs2:=ZQ.size;have ZI:=(q9 F).alloc ly (N #[Z a0 LS.length c0,Z a1 RT.length c1] 27);have D:Hid (Dr1 [R,w.heap.size,w.heap.size+1,F.heap.size] w R w.heap.size (w.heap.size+1) F.heap.size (F.alloc (N #[Z a0 LS.length c0,Z a1 RT.length c1] 27)) q2 LS.length c0 RT.length c1 a0 (dd LS) a1 (bZ (RT.map (·.1)))):=by refine⟨Bk.aa ZI ly,(O1.trans ZQ).trans (Only.u ZI),(ZI.block _ (by omega)).trans ((ZQ.block _ (by omega) (by omega)).trans n9),(ZI.block _ (by omega)).trans ((ZQ.block _ (by omega) (by omega)).trans qr),nL F _,⟨w1.heap.size+2,F,by omega,hH,dX ZI ly,λx O=>?_⟩,ZP,by omega,by omega,by omega⟩;simp only[AT,nj,QZ] at O;omega
 clear ZI ho ht hG hH Bk ZQ O1 n9 qr R1;generalize LS.length=n0 at D Hx ⊢;generalize RT.length=n1 at D Fn ⊢;generalize dd LS=f0 at D;generalize bZ (RT.map (·.1))=f1 at D;go_upto_region 3 with fail;have Fk:w.heap.size+2<=F.heap.size:=by omega
 generalize World.alloc F _=W2 at D ⊢;generalize F.heap.size=sb at D Fk ⊢;obtain⟨x0,x1,-⟩:=D.cells;go_wp2_with fail;refine(kK R _ w.heap.size n0 c0 n1 c1 a0 f0 a1 f1 _ D.rd (by omega) ZP D.qs.at.1).mono ?_;rintro e w3 ⟨t,rfl,q3,hq3,DE,sm⟩;have D2:=ae (D.F sm DE (by simp));clear DE sm D x0 x1;go_upto_if 18 with fail;go_cut [6] (λs6 wx=>∃(t:ByteArray) (q m0 j r g:Nat) (b0:Option Addr) (G:Nat->Source) (b:Option Addr) (ZN:Nat->Target),s6=Y t/\q<=p+5200/\Hid (Dr1 [R,w.heap.size,w.heap.size+1,sb] w R w.heap.size (w.heap.size+1) sb wx q m0 j r g b0 G b ZN));case first =>
  by_cases hz:z=0
  ·subst hz;go_wp2_with fail;refine(au R _ 2 _ D2.rd (by omega) (by omega) (by omega)).mono ?_;rintro e w4 ⟨y,rfl,y0,y1,hR,hO⟩;have E:=ae (D2.F hO hR (by simp));clear hR hO D2;obtain⟨m,hm⟩:∃m:Nat,60 - y=(m:Int):=⟨(60 - y).toNat,by omega⟩
   have hw:IntKind.i64.wrap (60 - y)=60 - y:=by rw[p9];omega
   go_wp2_with fail;have hs4:=ag E.sx;refine(oF m (by omega) ⟨#[97]⟩ (by decide) _).mono ?_;rintro e w5 ⟨b0,m0,j,G,b,g,mv,rfl,Kt,ZK,At,-,-,la,P⟩
   have hH:HSg _ _ _ _ _ _ _ _:=⟨At,ZK,by omega,λi hi=>by
    have e:bZ (mv.map (·.1)) i=mv[i].1:=by simp[bZ,hi]
    rw[e,(la _ (gz hi)).2]
    omega⟩
   clear At la Kt ZK;have hz5:=P.size;have D4:=ae (E.aa P (by simp))
   have D5:=ae (D4.put (k0:=j) (k1:=g) (by simp) (by omega) (QSp.new hH (by omega) (λx O=>by
    simp only[AT,nj,QZ] at O
    omega)))
   obtain⟨x0,x1,x2,x3,x4⟩:=D4.cells;clear hH P E D4 hm hw;go_wp2;go_meet;exact⟨_,_,_,_,_,_,_,_,_,_,rfl,by omega,D5⟩
  ·have hzb:(z == 0)=ZA:=by simpa using hz
   go_wp2;go_meet;exact⟨t,q3,_,_,_,_,_,_,_,_,rfl,by omega,D2⟩
 case rest =>
 clear D2;obtain⟨t,q4,m0,j,r,g,b0,G,b,ZN,rfl,hq4,E⟩:=hcut;generalize wc=W3 at E ⊢;obtain⟨x0,x1,x2,x3,x4⟩:=E.cells;go_wp2_with fail;refine(rO w.heap.size m0 j r g b0 G b ZN _ t E.qs.at.1).mono ?_;rintro e w6 ⟨a,n,c,f,kk,tt,ra,rn,rc,rfl,hA,hn,hf,P⟩;obtain⟨W6,ZL⟩:∃W:M,(w6.alloc (N #[Z a n c] 37)).alloc (N #[J I kk,Y tt,Z ra rn rc] 39)=W:=⟨_,rfl⟩
 obtain⟨A6,X,-,-⟩:=nb2 ZL;replace X:=X.out;replace A6:=A6.out;have ZJ:=ae ZL;clear ZL;have Id:=P.size;have hws:=E.o.size;have E1:Hid (Dr2 [w6.heap.size,R,w.heap.size,w.heap.size+1,sb] w R w.heap.size (w.heap.size+1) sb w6.heap.size W6 q4 m0 j r g b0 G b ZN n c a f):=by
  cases ZJ.out
  refine⟨((E.aa P (by simp)).more ly).aa A6 (by simp),X,⟨W3.heap.size,w6,by omega,hA,dX A6 ly,λx O=>?_⟩,by omega⟩;simp only[AT,nj,QZ] at O;omega
 have HF:=ae hf;have GS:sb<w6.heap.size:=by omega
 have hw2:w.heap.size+2<=W3.heap.size:=by omega
 clear A6 X hA P hf E x0 x1 x2 x3 x4;go_wp2_with fail;rw[ZJ.out];clear ZJ;generalize w6.heap.size=ab at E1 GS Id ⊢;go_loopw [9] (λi wr=>∃(k q n c:Nat) (a:Option Addr) (f:Nat->Deed),i=J I k/\k<=3/\q<=q4+3*k/\n<=400/\Hid (∀i,i<n->FitI (f i))/\Hid (Dr2 [ab,R,w.heap.size,w.heap.size+1,sb] w R w.heap.size (w.heap.size+1) sb ab wr q m0 j r g b0 G b ZN n c a f)) (λi _=>3 - (intOf i).toNat);case atStart=>exact⟨0,q4,n,c,a,f,rfl,by omega,by omega,hn,HF,E1⟩
 case round =>
  clear E1 HF hn;obtain⟨k,q5,n,c,a,f,rfl,hk,hq5,hn,HF,E2⟩:=hrel;obtain⟨v0,v1,v2⟩:=E2.acc;go_upto_region 9 with fail;go_cut [36] (λs wx=>∃b:Bool,s=.bool b/\(b=true->k<3)/\wr=wx);case first =>
   by_cases ld:k<3
   ·have DQ:(k:Int)<3:=by omega
    go_wp2;go_meet;exact⟨_,rfl,λ_=>ld,rfl⟩
   ·have DQ:¬ (k:Int)<3:=by omega
    go_wp2;go_meet;exact⟨ZA,rfl,(λh=>by cases h),rfl⟩
  case rest =>
  obtain⟨Fd,rfl,bt,rfl⟩:=hcut;cases Fd with
  |true =>
   have ld:=bt rfl;obtain⟨x0,x1,x2,x3,x4⟩:=E2.d.cells;clear bt v0 v1 v2;go_wp2_with fail;have u:=ae (E2.aa br.drew (by simp));refine wp_region_held_drew (S:=λV=>A V (Q sb 0 U)=T (Z b0 m0 j)/\A V (Q sb 1 U)=T (Z b r g)) (by kernel_rfl) ⟨u.d.cells.1,u.d.cells.2.1⟩ λhS=>?_;have l:=ae hS;clear hS E2 x0 x1 x2 x3 x4;generalize wr.drew=B at u l ⊢;iterate 3
    refine bI 0 (v:=?_) rfl rfl (by kernel_rfl) (λ_ _ _ h=>h) rfl ?_ l ?_;rotate_left
    ·(rintro wz ⟨s0,s1⟩;go_simp)
     (try with_reducible rfl)
    (try simp only[Act.put,nzL])
   refine aS (i:=3) rfl (by kernel_rfl) λK ZR=>?_;go_simp;go_at_call 88;refine(kK R _ w.heap.size m0 j r g b0 G b ZN _ u.d.rd (by omega) ZP u.d.qs.at.1).mono ?_;rintro e v4 ⟨t4,rfl,q6,hq6,hR,hO⟩;have H:=ae (u.F hO hR (by simp));clear hR hO u l;have l:=ae (show A v4 (Q sb 0 U)=T (Z b0 m0 j)/\A v4 (Q sb 1 U)=T (Z b r g) from⟨H.d.cells.1,H.d.cells.2.1⟩);refine ZR _ _ l ?_;clear ZR K
   (try simp only[Act.put,nzL])
   refine aS (i:=4) rfl (by kernel_rfl) λK ZR=>?_;go_simp;go_at_call 21;refine(rO w.heap.size m0 j r g b0 G b ZN _ t4 H.d.qs.at.1).mono ?_;rintro e v5 ⟨a5,n5,c5,f5,kk5,tt5,ra5,rn5,rc5,rfl,ur,ZK,ro,dg⟩;have hz4:=dg.size;have hab4:=ag H.ax;have hsb4:=ag H.d.sx;have hws4:=H.d.o.size;have hra4:=ag H.d.za;have E5:=ae (H.aa dg (by simp))
   have QA:Hid (QAc w.heap.size [ab,R,w.heap.size,w.heap.size+1,sb] v5 a5 n5 c5 f5):=QAc.new ur (by omega) (λx O=>by
    simp only[AT,nj,QZ] at O
    omega)
   have DS:=ae ro;clear ur dg ro H l;have l:=ae (show A v5 (Q sb 0 U)=T (Z b0 m0 j)/\A v5 (Q sb 1 U)=T (Z b r g) from⟨E5.d.cells.1,E5.d.cells.2.1⟩);refine ZR _ _ l ?_;clear ZR K
   (try simp only[Act.put,nzL])
   iterate 3
    refine bI 5 (v:=?_) rfl rfl (by kernel_rfl) (λ_ _ _ h=>h) rfl ?_ l ?_;rotate_left
    ·(rintro wz ⟨s0,s1⟩;go_simp)
     (try with_reducible rfl)
    (try simp only[Act.put,nzL])
   obtain⟨z0,z1,z2⟩:=E5.acc;have E6:=ae (E5.put (by simp) (by omega) QA);refine aS (i:=8) rfl (by kernel_rfl) λK ZR=>?_;go_simp;have C:ab≠sb:=by omega
   refine ZR _ _ ⟨(cell_far _ _ _ _ C).trans l.1,(cell_far _ _ _ _ C).trans l.2⟩ ?_;clear ZR K l E5 QA z0 z1 z2
   (try simp only[Act.put,nzL])
   refine wpAnyH_done (by kernel_rfl) ?_ _;generalize World.setCell v5 _ _=W7 at E6 ⊢;go_wp2;exact⟨⟨k+1,q6,n5,c5,a5,f5,by go_num,by omega,by omega,ZK,DS,E6⟩,by simp[intOf];omega⟩
  |false =>
   clear bt v0 v1 v2;go_wp2_with fail;have SQ:Hid (∀V,Dr2 [ab,R,w.heap.size,w.heap.size+1,sb] w R w.heap.size (w.heap.size+1) sb ab V q5 m0 j r g b0 G b ZN n c a f->A V (Q sb 0 U)=T (Z b0 m0 j)/\A V (Q sb 1 U)=T (Z b r g)/\A V (Q ab 0 U)=T (Z a n c)):=λV h=>⟨h.d.cells.1,h.d.cells.2.1,h.acc.1⟩
   have u:=ae (E2.aa br.drew (by simp));refine wp_region_held_drew (S:=λV=>A V (Q sb 0 U)=T (Z b0 m0 j)/\A V (Q sb 1 U)=T (Z b r g)/\A V (Q ab 0 U)=T (Z a n c)) (by kernel_rfl) (SQ _ u) λhS=>?_;have l:=ae hS;clear hS E2;generalize wr.drew=B at u l ⊢;iterate 2
    refine bI 0 (v:=?_) rfl rfl (by kernel_rfl) (λ_ _ _ h=>h) rfl ?_ l ?_;rotate_left
    ·(rintro wz ⟨s0,s1,s2⟩;go_simp)
     (try with_reducible rfl)
    (try simp only[Act.put,nzL])
   have ks:=u.d.zs;have ka:=u.d.za;have r0:A B (Q w.heap.size 0 U)=T (Z U 0 0):=by simp[World.cell?,ks]
   have r1:A B (Q w.heap.size 1 U)=T (Z U 0 0):=by simp[World.cell?,ks]
   have r2:A B (Q (w.heap.size+1) 0 U)=T (Z U 0 0):=by simp[World.cell?,ka]
   have y0:B.frozen? (Q w.heap.size 0 U)=ZA:=by simp[World.frozen?,ks]
   have y1:B.frozen? (Q w.heap.size 1 U)=ZA:=by simp[World.frozen?,ks]
   have y2:B.frozen? (Q (w.heap.size+1) 0 U)=ZA:=by simp[World.frozen?,ka]
   have l0:=ag ks;have l1:=ag ka;have B3:=ae ((((dB w.heap.size B).setCell (p:=(Q w.heap.size 0 U)) ly (Z b0 m0 j)).setCell (p:=(Q w.heap.size 1 U)) ly (Z b r g)).setCell (p:=(Q (w.heap.size+1) 0 U)) (F6 _) (Z a n c));have FR:Hid (Fr [ab,R,w.heap.size,w.heap.size+1,sb] B (((B.setCell (Q w.heap.size 0 U) (Z b0 m0 j)).setCell (Q w.heap.size 1 U) (Z b r g)).setCell (Q (w.heap.size+1) 0 U) (Z a n c))):=((Fr.set (by simp) _).trans (Fr.set (by simp) _)).trans (Fr.set (by simp) _);have JT:=ae (u.d.qs.fr FR).at;have Fm:=ae (u.qa.fr FR).at;have R9:=ae (u.d.rd.low B3 ZP);have O9:=ae (u.d.o.then B3);clear ks ka B3 FR;refine aS (i:=2) rfl (by kernel_rfl) λK ZR=>?_;go_simp;clear l;have C:sb≠w.heap.size:=by omega
   have th:ab≠w.heap.size:=by omega
   have l:=ae (show((B.setCell (Q w.heap.size 0 U) (Z b0 m0 j)).setCell (Q w.heap.size 1 U) (Z b r g)).cell? (Q sb 0 U)=T (Z b0 m0 j)/\((B.setCell (Q w.heap.size 0 U) (Z b0 m0 j)).setCell (Q w.heap.size 1 U) (Z b r g)).cell? (Q sb 1 U)=T (Z b r g)/\((B.setCell (Q w.heap.size 0 U) (Z b0 m0 j)).setCell (Q w.heap.size 1 U) (Z b r g)).cell? (Q ab 0 U)=T (Z a n c) from by
    obtain⟨h1,h2,h3⟩:=SQ.out _ u
    exact⟨(cell_far _ _ _ _ C.symm).trans ((cell_far _ _ _ _ C.symm).trans h1),(cell_far _ _ _ _ C.symm).trans ((cell_far _ _ _ _ C.symm).trans h2),(cell_far _ _ _ _ th.symm).trans ((cell_far _ _ _ _ th.symm).trans h3)⟩)
   refine ZR _ _ l ?_;clear ZR K
   (try simp only[Act.put,nzL])
   refine aS (i:=3) rfl (by kernel_rfl) λK ZR=>?_;go_simp;have DH:ab≠w.heap.size+1:=by omega
   have aq:sb≠w.heap.size+1:=by omega
   refine ZR _ _ ⟨(cell_far _ _ _ _ aq.symm).trans l.1,(cell_far _ _ _ _ aq.symm).trans l.2.1,(cell_far _ _ _ _ DH.symm).trans l.2.2⟩ ?_;clear ZR K
   (try simp only[Act.put,nzL])
   refine wpAnyH_done (by kernel_rfl) ?_ _;go_wp2;exact bp (v:=.tuple #[.agg #[Z b0 m0 j,Z b r g],.agg #[Z a n c]]) (by simp[results,results120,go_sem,r0,r1,r2]) rfl ⟨_,_,_,_,_,_,_,_,_,_,_,_,rfl,JT,Fm,hn,HF,q5,by omega,R9,O9⟩
