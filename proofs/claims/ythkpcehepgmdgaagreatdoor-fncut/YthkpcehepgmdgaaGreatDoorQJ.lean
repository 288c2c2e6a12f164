import Derived.Test.YthkpcehepgmdgaaGreatDoorQH
import Derived.Test.YthkpcehepgmdgaaGreatDoorRV
import Derived.Test.YthkpcehepgmdgaaGreatDoorRT
import Derived.Test.YthkpcehepgmdgaaGreatDoorQG
set_option maxRecDepth 100000
set_option maxHeartbeats 8000000
set_option linter.unusedSimpArgs false
open Go renaming Addr.mk->Q,Value.slice->Z,Value.string->U,Value.int->J,Value.agg->ZH,Obj.cells->N,IntKind.i64->I,World->G,Ending.returned->ZG,World.heap->h,World.alloc->ZV,World.cell?->ZW,World.frozen?->ZX,World.setCell->ZT,Proofs.Tryz.prog->Pg
open Option renaming none->Y,some->T
open Bool renaming false->ZB
open Array renaming size->A
open List renaming length->ZU
namespace Go.Proofs.YthkpcehepgmdgaaGreatDoor.Vp
open Tryz RowKit Ca
variable {b lo:Nat}{t:TypeId}{w:G}
def DAS (w:G)(R q:Nat)(e:Ending)(b:G):Prop:=∃(a0:Option Addr) (n0 c0:Nat) (f0:Nat->Source) (a1:Option Addr) (n1 c1:Nat) (f1:Nat->Target) (a:Option Addr) (n c:Nat) (f:Nat->af),e=ZG (.tuple #[ZH #[Z a n c],ZH #[Z a0 n0 c0,Z a1 n1 c1]])/\HSg (A (h w)) b a0 n0 f0 a1 n1 f1/\HAc (A (h w)) b a n c f/\(n<=451/\∀i,i<n->FitK 1 (f i))/\∃q':Nat,q'<=q/\Rd b R q'/\Only R w b
theorem rO (R p:Nat)(w:G)(hR:Rd w R p)(hp:p<=3000):Calls Pg 25 #[.pointer (T (Q R 0 Y))] w λe w'=>DAS w R (p+9500) e w':=by
 have HR:=ae hR;have ZL:=hR.lt;obtain⟨W0,ZN⟩:∃W:G,ZV (ZV w (N #[Z Y 0 0] 25)) (N #[Z Y 0 0,Z Y 0 0] 33)=W:=⟨_,rfl⟩
 obtain⟨A0,KA,KS,hzA⟩:=nb2 ZN;have aq:=ae ZN;clear ZN;clear hR;go_enter func25,ntmps25;go_wp2_with fail;rw[aq.out];clear aq;refine(yW R p _ (HR.aa A0 ly) (by omega)).mono ?_;rintro e s ⟨a0,n0,c0,f0,a1,n1,c1,f1,a,n,c,f,rfl,hS,ZO,hn,hf,q1,hq1,fd,ZP⟩;have hs1:=ZP.size;obtain⟨W1,P⟩:∃W:G,ZV (ZV s (N #[Z a0 n0 c0,Z a1 n1 c1] 33)) (N #[Z a n c] 25)=W:=⟨_,rfl⟩
 obtain⟨E,ZY,-,-⟩:=nb2 P;replace ZY:=ZY.out;replace E:=E.out;have ZJ:=ae P;clear P;have D1:Hid (Dr2 [A (h s)+1,R,A (h w)+1,A (h w),A (h s)] w R (A (h w)+1) (A (h w)) (A (h s)) (A (h s)+1) W1 q1 n0 c0 n1 c1 a0 f0 a1 f1 n c a f):=by
  cases ZJ.out
  refine⟨⟨fd.aa E ly,((Only.q A0).trans ZP).trans (Only.q E),(E.block _ (by omega)).trans ((ZP.block _ (by omega) (by omega)).trans KS),(E.block _ (by omega)).trans ((ZP.block _ (by omega) (by omega)).trans KA),ZY,⟨A (h W0),s,by omega,hS,cC E ly,?_⟩,ZL,by omega,by omega,by omega⟩,PQ s _ _,⟨A (h W0),s,by omega,ZO,cC E ly,?_⟩,by omega⟩;all_goals
   intro x D;simp only[BS,nj,NE] at D;omega
 have HF:=ae hf;clear E ZY hS ZO hf fd ZP A0 KS KA HR;have DE:A (h w)+2<=A (h s):=by omega
 go_upto_region 2 with fail;rw[ZJ.out];clear ZJ;generalize Bk:A (h s)+1=ab at D1 ⊢;have hab2:A (h w)+3<=ab:=by omega
 have qr:A (h s)<ab:=by omega
 clear Bk;generalize (A (h s))=sb at D1 DE qr ⊢;go_wp2_with fail;refine(ar R _ 5 _ D1.d.rd (by omega) (by omega) (by omega)).mono ?_;rintro e w2 ⟨z,rfl,hz0,hz1,hR,r⟩;have L:=ae (D1.ac r hR (by simp));clear hR r D1;go_upto_if 14 with fail;go_cut [] (λwx=>∃(q m0 C ZK B m k:Nat) (b0:Option Addr) (ZM:Nat->Source) (X:Option Addr) (O:Nat->Target) (b:Option Addr) (g:Nat->af),q<=p+5600/\m<=400/\Hid (∀i,i<m->FitI (g i))/\Hid (Dr2 [ab,R,A (h w)+1,A (h w),sb] w R (A (h w)+1) (A (h w)) sb ab wx q m0 C ZK B b0 ZM X O m k b g));case first =>
  by_cases hz:z=0
  ·subst hz;go_wp2_with fail;refine(sE R _ _ L.d.rd (by omega)).mono ?_;rintro e w3 ⟨b0,m0,C,ZM,X,ZK,B,O,rfl,hH,q3,DS,hR,r⟩;have hz3:=r.size;have la:=ag L.ax;have ph:=ag L.d.sx;have n7:=ag L.d.zs;have ZQ:=ae (L.ac r hR (by simp))
   have j:=ae (ZQ.sput (k0:=C) (k1:=B) (by simp) (by omega) (QSp.new hH (by omega) (λx D=>by
    simp only[BS,nj,NE] at D
    omega)))
   obtain⟨x0,x1,x2,x3,x4⟩:=ZQ.d.cells;clear hH hR r L ZQ;go_upto_region 4 with fail;generalize World.setCell (World.setCell w3 _ _) _ _=W4 at j ⊢;clear x0 x1 x2 x3 x4;obtain⟨x0,x1,x2,x3,x4⟩:=j.d.cells;go_wp2_with fail;refine(qO (A (h w)) m0 C ZK B b0 ZM X O _ ⟨#[116,52]⟩ j.d.qs.at.1).mono ?_;rintro e w5 ⟨b,m,k,g,kk,tt,ra,rn,rc,rfl,ZO,hm,hg,hB⟩;have DQ:=hB.size;have hl4:=ag j.ax;have hl5:=ag j.d.zs;have ld:=j.d.o.size;have l:=ae (j.aa hB (by simp))
   have t:=ae (l.put (by simp) (by omega) (QAc.new ZO (by omega) (λx D=>by
    simp only[BS,nj,NE] at D
    omega)))
   obtain⟨y0,y1,y2⟩:=l.acc;have HG:=ae hg;clear ZO hB hg j l x0 x1 x2 x3 x4;go_wp2;go_meet;exact⟨_,_,_,_,_,m,k,_,_,_,_,b,g,by omega,hm,HG,t⟩
  ·have hzb:(z == 0)=ZB:=by simpa using hz
   go_wp2;go_meet;exact⟨_,_,_,_,_,n,c,_,_,_,_,a,f,by omega,hn,HF,L⟩
 case rest =>
 clear L HF hn;obtain⟨q3,n0,c0,n1,c1,n,c,a0,f0,a1,f1,a,f,DS,hn,HF,ZQ⟩:=hcut;generalize wc=W3 at ZQ ⊢;go_wp2_with fail;refine(ar R _ 8 _ ZQ.d.rd (by omega) (by omega) (by omega)).mono ?_;rintro e w4 ⟨y,rfl,hy0,hy1,hR,r⟩;have j:=ae (ZQ.ac r hR (by simp));clear hR r ZQ;go_upto_if 25 with fail;go_cut [] (λwx=>∃(q m k:Nat) (b:Option Addr) (g:Nat->af),q<=p+6800/\Hid (m<=451/\∀i,i<m->FitK 1 (g i))/\Hid (Dr2 [ab,R,A (h w)+1,A (h w),sb] w R (A (h w)+1) (A (h w)) sb ab wx q n0 c0 n1 c1 a0 f0 a1 f1 m k b g));case first =>
  by_cases hy:y=0
  ·subst hy;obtain⟨y0,y1,y2⟩:=j.acc;go_wp2_with fail;refine(rM pR 0 1 (by omega) (by omega) R _ a n c f _ (j.qa.at.sl _ (Agr.refl _ _)) (λi hi=>(HF i hi).k) (by omega) j.d.rd (by omega)).mono ?_;rintro e w5 ⟨b,m,k,g,rfl,ZO,⟨q5,At,hR,r⟩,ex,n9⟩;have HK:=ae (And.intro ex n9);clear ex n9;have DQ:=r.size;have la:=ag j.ax;have ph:=ag j.d.sx;have n7:=ag j.d.zs;have ld:=j.d.o.size;have l:=ae (j.ac r hR (by simp))
   have t:=ae (l.put (by simp) (by omega) (QAc.new ZO (by omega) (λx D=>by
    simp only[BS,nj,NE] at D
    omega)))
   clear y0 y1 y2;obtain⟨y0,y1,y2⟩:=l.acc;clear ZO hR r j l;go_wp2;go_meet;exact⟨_,m,k,b,g,by omega,HK,t⟩
  ·have Fd:(y == 0)=ZB:=by simpa using hy
   go_wp2;go_meet;exact⟨_,n,c,a,f,by omega,⟨by omega,λi hi=>(HF i hi).k⟩,j⟩
 case rest =>
 clear j HF hn;obtain⟨q4,n,c,a,f,hq4,HK,l⟩:=hcut;generalize wc=W5 at l ⊢;go_upto_if 30 with fail;go_cut [] (λwx=>∃(q m0 C ZK B:Nat) (b0:Option Addr) (ZM:Nat->Source) (X:Option Addr) (O:Nat->Target),q<=p+9500/\Hid (Dr2 [ab,R,A (h w)+1,A (h w),sb] w R (A (h w)+1) (A (h w)) sb ab wx q m0 C ZK B b0 ZM X O n c a f));case first =>
  by_cases hy:y=1
  ·subst hy;obtain⟨x0,x1,x2,x3,x4⟩:=l.d.cells;go_wp2_with fail;refine(mT R _ (A (h w)) n0 c0 n1 c1 a0 f0 a1 f1 _ l.d.rd (by omega) ZL l.d.qs.at).mono ?_;rintro e w6 ⟨b0,m0,C,ZM,X,ZK,B,O,rfl,hQ,q6,hq6,hR,r⟩;have hz6:=r.size;have la:=ag l.ax;have ph:=ag l.d.sx;have n7:=ag l.d.zs;have ld:=l.d.o.size;have t:=ae (l.ac r hR (by simp));have QQ:QSp (A (h w)) [ab,R,A (h w)+1,A (h w),sb] w6 b0 m0 ZM X ZK O:=by
    rcases hQ with hH|⟨rfl,rfl,rfl,rfl,rfl,rfl⟩
    ·exact QSp.new hH (by omega) (λx D=>by
      simp only[BS,nj,NE] at D
      omega)
    {exact t.d.qs}
   have D7:=ae (t.sput (k0:=C) (k1:=B) (by simp) (by omega) QQ);clear x0 x1 x2 x3 x4;obtain⟨x0,x1,x2,x3,x4⟩:=t.d.cells;clear hQ QQ hR r l t;go_wp2;go_meet;exact⟨_,_,_,_,_,_,_,_,_,by omega,D7⟩
  ·have Fd:(y == 1)=ZB:=by simpa using hy
   go_wp2;go_meet;exact⟨_,_,_,_,_,_,_,_,_,by omega,l⟩
 case rest =>
 clear l;obtain⟨q5,n0,c0,n1,c1,a0,f0,a1,f1,At,t⟩:=hcut;generalize wc=W6 at t ⊢;go_wp2_with fail;have SQ:Hid (∀V,Dr2 [ab,R,A (h w)+1,A (h w),sb] w R (A (h w)+1) (A (h w)) sb ab V q5 n0 c0 n1 c1 a0 f0 a1 f1 n c a f->ZW V (Q sb 0 Y)=T (Z a0 n0 c0)/\ZW V (Q sb 1 Y)=T (Z a1 n1 c1)/\ZW V (Q ab 0 Y)=T (Z a n c)):=λV ZZ=>⟨ZZ.d.cells.1,ZZ.d.cells.2.1,ZZ.acc.1⟩
 have M:=ae (t.aa br.drew (by simp));refine wp_region_held_drew (S:=λV=>ZW V (Q sb 0 Y)=T (Z a0 n0 c0)/\ZW V (Q sb 1 Y)=T (Z a1 n1 c1)/\ZW V (Q ab 0 Y)=T (Z a n c)) (by as_aux_lemma=>kernel_rfl) (SQ _ M) λhS=>?_;have ZS:=ae hS;clear hS t;generalize W6.drew=u at M ZS ⊢;iterate 2
  refine aW 0 (v:=?_) rfl rfl (by as_aux_lemma=>kernel_rfl) (λ_ _ _ ZZ=>ZZ) rfl ?_ ZS ?_;rotate_left
  ·(rintro wz ⟨s0,s1,s2⟩;go_simp)
   (try with_reducible rfl)
  (try simp only[Act.put,nzL])
 have ZY:=M.d.zs;have ka:=M.d.za;have r0:ZW u (Q (A (h w)+1) 0 Y)=T (Z Y 0 0):=by simp[World.cell?,ZY]
 have r1:ZW u (Q (A (h w)+1) 1 Y)=T (Z Y 0 0):=by simp[World.cell?,ZY]
 have r2:ZW u (Q (A (h w)) 0 Y)=T (Z Y 0 0):=by simp[World.cell?,ka]
 have y0:ZX u (Q (A (h w)+1) 0 Y)=ZB:=by simp[World.frozen?,ZY]
 have y1:ZX u (Q (A (h w)+1) 1 Y)=ZB:=by simp[World.frozen?,ZY]
 have y2:ZX u (Q (A (h w)) 0 Y)=ZB:=by simp[World.frozen?,ka]
 have l0:=ag ZY;have l1:=ag ka;have B3:=ae ((((cM (A (h w)) u).setCell (p:=(Q (A (h w)) 0 Y)) ly (Z a n c)).setCell (p:=(Q (A (h w)+1) 0 Y)) (IS _) (Z a0 n0 c0)).setCell (p:=(Q (A (h w)+1) 1 Y)) (IS _) (Z a1 n1 c1));have FR:Hid (Fr [ab,R,A (h w)+1,A (h w),sb] u (ZT (ZT (ZT u (Q (A (h w)) 0 Y) (Z a n c)) (Q (A (h w)+1) 0 Y) (Z a0 n0 c0)) (Q (A (h w)+1) 1 Y) (Z a1 n1 c1))):=((Fr.set (by simp) _).trans (Fr.set (by simp) _)).trans (Fr.set (by simp) _);have sm:=ae (M.d.qs.fr FR).at;have th:=ae (M.qa.fr FR).at;have R9:=ae (M.d.rd.low B3 ZL);have O9:=ae (M.d.o.then B3);clear ZY ka B3 FR;have n8:sb≠A (h w):=by omega
 have ur:ab≠A (h w):=by omega
 have bt:ab≠A (h w)+1:=by omega
 have H:sb≠A (h w)+1:=by omega
 refine aS (i:=2) rfl (by as_aux_lemma=>kernel_rfl) λK hK=>?_;go_simp;obtain⟨h1,h2,h3⟩:=ZS.out;clear ZS;have ZS:=ae (show ZW (ZT u (Q (A (h w)) 0 Y) (Z a n c)) (Q sb 0 Y)=T (Z a0 n0 c0)/\ZW (ZT u (Q (A (h w)) 0 Y) (Z a n c)) (Q sb 1 Y)=T (Z a1 n1 c1)/\ZW (ZT u (Q (A (h w)) 0 Y) (Z a n c)) (Q ab 0 Y)=T (Z a n c) from⟨(cell_far _ _ _ _ n8.symm).trans h1,(cell_far _ _ _ _ n8.symm).trans h2,(cell_far _ _ _ _ ur.symm).trans h3⟩);clear h1 h2 h3;refine hK _ _ ZS ?_;clear hK K
 (try simp only[Act.put,nzL])
 refine aS (i:=3) rfl (by as_aux_lemma=>kernel_rfl) λK hK=>?_;go_simp;refine hK _ _ ⟨(cell_far _ _ _ _ H.symm).trans ((cell_far _ _ _ _ H.symm).trans ZS.1),(cell_far _ _ _ _ H.symm).trans ((cell_far _ _ _ _ H.symm).trans ZS.2.1),(cell_far _ _ _ _ bt.symm).trans ((cell_far _ _ _ _ bt.symm).trans ZS.2.2)⟩ ?_;clear hK K
 (try simp only[Act.put,nzL])
 refine wpAnyH_done (by as_aux_lemma=>kernel_rfl) ?_ _;go_wp2;exact bp (v:=.tuple #[ZH #[Z a n c],ZH #[Z a0 n0 c0,Z a1 n1 c1]]) (by simp[results,results25,go_sem,r0,r1,r2]) rfl ⟨_,_,_,_,_,_,_,_,_,_,_,_,rfl,sm,th,HK,q5,by omega,R9,O9⟩
def DDp (w:G)(e:Ending)(b:G):Prop:=∃(a:Option Addr) (n c:Nat) (f:Nat->af) (t:ByteArray),e=ZG (.tuple #[ZH #[Z a n c],U t])/\HAc (A (h w)) b a n c f/\Below (A (h w)) w b
structure DpS (w:G)(R ab:Nat)(W:G)(q n c:Nat)(a:Option Addr)(f:Nat->af):Prop where
 rd:Rd W R q
 bl:Below (A (h w)) w W
 z:W.heap[A (h w)]?=T (N #[Z Y 0 0] 25 (0,0))
 x:W.heap[ab]?=T (N #[Z a n c] 25 (0,0))
 qa:QAc (A (h w)) [R,A (h w),ab] W a n c f
 lo:A (h w)<R/\R<ab
section
variable {w W W':G}{R ab q q' n c:Nat}{a:Option Addr}{f:Nat->af}
theorem DpS.ac (ZZ:DpS w R ab W q n c a f)(b:Only R W W')(hR:Rd W' R q'):DpS w R ab W' q' n c a f:=by have hl:=ZZ.lo;exact⟨hR,ZZ.bl.trans (b.aa (by omega) ZZ.bl.size),(b.block _ (ag ZZ.z) (by omega)).trans ZZ.z,(b.block _ (ag ZZ.x) (by omega)).trans ZZ.x,ZZ.qa.fr (Fr.ac b (by simp)),ZZ.lo⟩
theorem DpS.aa (ZZ:DpS w R ab W q n c a f)(b:Below (A (h W)) W W'):DpS w R ab W' q n c a f:=ZZ.ac (Only.q b) (ZZ.rd.aa b ly)
theorem DpS.acc (ZZ:DpS w R ab W q n c a f):ZW W (Q ab 0 Y)=T (Z a n c):=by have hb:=ZZ.x;simp[World.cell?,hb]
end
theorem vZ (ac:Option Addr)(P cap:Nat)(w:G)(hn:(P:Int)<=1048576)(hc:P<=cap)(E:ByteSl w ac P):Calls Pg 15 #[Z ac P cap] w λe w'=>DDp w e w':=by
 have S0:=ae E;clear E;go_enter func15,ntmps15;go_wp2_with fail;have W:=ae ((q9 w).alloc ly (N #[Z Y 0 0] 25));have KA:Hid ((ZV w (N #[Z Y 0 0] 25)).heap[A (h w)]?=T (N #[Z Y 0 0] 25 (0,0))):=nD w _;have fd:A (h (ZV w (N #[Z Y 0 0] 25)))=A (h w)+1:=by simp
 generalize ZV w (N #[Z Y 0 0] 25)=W0 at W KA fd ⊢;refine(kU ac P cap _ hn hc (S0.aa W ly)).mono ?_;rintro e w1 ⟨R,rfl,hRz,ZN,L⟩;have R1:=ae ZN;have B1:=ae (W.trans (L.mono (by omega)));have K1:=ae ((L.block (A (h w)) (by omega)).trans KA);have hs1:=L.size;have hRl:=ZN.lt;clear ZN L W KA S0;go_wp2_with fail;refine(rO R 0 _ R1 (by omega)).mono ?_;rintro e o ⟨a0,n0,c0,f0,a1,n1,c1,f1,a,n,c,f,rfl,-,hA,-,q2,hq2,aq,M⟩;have hs2:=M.size;have O:=((q9 o).alloc ly (N #[Z a n c] 25)).alloc (by simp) (N #[Z a0 n0 c0,Z a1 n1 c1] 33);have ZJ:(ZV (ZV o (N #[Z a n c] 25)) (N #[Z a0 n0 c0,Z a1 n1 c1] 33)).heap[A (h o)]?=T (N #[Z a n c] 25 (0,0)):=(((cM (A (h o)+1) (ZV o (N #[Z a n c] 25))).alloc (by simp) _).block (A (h o)) (gM _)).trans (nD o _);have ZS:Hid (DpS w R (A (h o)) (ZV (ZV o (N #[Z a n c] 25)) (N #[Z a0 n0 c0,Z a1 n1 c1] 33)) q2 n c a f):=by refine⟨aq.aa O ly,(B1.trans (M.aa (by omega) B1.size)).trans (O.mono (by omega)),(O.block _ (by omega)).trans ((M.block _ (by omega) (by omega)).trans K1),ZJ,⟨A (h w1),o,by omega,hA,cC O ly,λx hx=>?_⟩,by omega,by omega⟩;simp only[BS,nj,NE] at hx;omega
 have hn5:=hA.hn;clear O ZJ hA aq M B1 K1 R1;go_upto_region 3 with fail;generalize ZV (ZV o (N #[Z a n c] 25)) (N #[Z a0 n0 c0,Z a1 n1 c1] 33)=W2 at ZS ⊢;generalize (A (h o))=ab at ZS ⊢;have x0:=ZS.acc;go_cut [22] (λs wx=>∃(ZK:Bool) (q:Nat),s=.bool ZK/\(ZK=true->0<n)/\q<=9501/\Hid (DpS w R ab wx q n c a f));case first =>
  by_cases h0:0<n
  ·have h1:(0:Int)<(n:Int):=by omega
   go_wp2_with fail;refine(ar R _ 3 _ ZS.rd (by omega) (by omega) (by omega)).mono ?_;rintro e w3 ⟨z,rfl,hz0,hz1,hR,D⟩;have ZQ:=ae (ZS.ac D hR);clear hR D ZS x0;go_wp2;go_meet;exact⟨_,_,rfl,λ_=>h0,by omega,ZQ⟩
  ·have h1:¬ (0:Int)<(n:Int):=by omega
   go_wp2;go_meet;exact⟨ZB,_,rfl,(λZZ=>by cases ZZ),by omega,ZS.out⟩
 case rest =>
 clear ZS x0;obtain⟨ZK,q3,rfl,ZM,hq3,ZQ⟩:=hcut;generalize wc=W3 at ZQ ⊢;cases ZK with
 |true =>
  have h0:=ZM rfl;clear ZM;obtain⟨b,off,C,-⟩:∃b off,a=T (Q b off Y)/\RowDeed W3 b off n f:=by
   rcases ZQ.qa.at.here with ZZ|ZZ;{omega};{exact ZZ}
  subst C
  have SQ:Hid (∀(V:G) (q:Nat),DpS w R ab V q n c (T (Q b off Y)) f->ZW V (Q ab 0 Y)=T (Z (T (Q b off Y)) n c)/\b<A (h V)/\∀i,i<n->ZW V (Q b (off+i*6) Y)=T (U (f i).e)):=λV q ZZ=>⟨ZZ.acc,by
   rcases ZZ.qa.at.here with h0|⟨b',ex,e,ZL⟩
   {omega}
   ·cases e
    exact⟨ZL.1,λi hi=>(ZL.2 i hi).1⟩⟩
  go_wp2_with fail;have u:=ae (ZQ.aa br.drew);refine wp_region_held_drew (S:=λV=>ZW V (Q ab 0 Y)=T (Z (T (Q b off Y)) n c)/\b<A (h V)/\∀i,i<n->ZW V (Q b (off+i*6) Y)=T (U (f i).e)) (by as_aux_lemma=>kernel_rfl) (SQ _ _ u) λE=>?_;have g:=ae E;clear E ZQ;generalize W3.drew=v3 at u g ⊢;iterate 7
   refine aW 0 (v:=?_) rfl rfl (by as_aux_lemma=>kernel_rfl) (λ_ _ _ ZZ=>ZZ) rfl ?_ g ?_;rotate_left
   ·(rintro wz ⟨s0,s1,X⟩;go_simp)
    (try with_reducible rfl)
   (try simp only[Act.put,nzL])
  refine aS (i:=7) rfl (by as_aux_lemma=>kernel_rfl) λK l=>?_;go_simp;go_at_call 13;refine(ar R _ (n:Int) _ u.rd (by omega) (by omega) (by omega)).mono ?_;rintro e ZY ⟨y,rfl,bt,la,hR,D⟩;obtain⟨m,rfl⟩:=p9 bt;have hm:m<n:=by omega
  have r:=ae (u.ac D hR);clear hR D u g;have g:=ae (SQ _ _ r);refine l _ _ g ?_;clear l K
  (try simp only[Act.put,nzL])
  have hm2:(m:Int)<(n:Int):=by omega
  clear bt la;iterate 2
   refine aW 8 (v:=?_) rfl rfl (by as_aux_lemma=>kernel_rfl) (λ_ _ _ ZZ=>ZZ) rfl ?_ g ?_;rotate_left
   ·(rintro wz ⟨s0,s1,X⟩;go_simp)
    (try with_reducible rfl)
   (try simp only[Act.put,nzL])
  refine aW 10 (v:=?_) rfl rfl (by as_aux_lemma=>kernel_rfl) (λ_ _ _ ZZ=>ZZ) rfl ?_ g ?_;rotate_left
  ·(intro wz ZP;obtain⟨s0,s1,X⟩:=ZP;have s3:=X m hm;clear X;go_simp)
   (try with_reducible rfl)
  (try simp only[Act.put,nzL])
  have B:=r.z;have r0:ZW ZY (Q (A (h w)) 0 Y)=T (Z Y 0 0):=by simp[World.cell?,B]
  have y0:ZX ZY (Q (A (h w)) 0 Y)=ZB:=by simp[World.frozen?,B]
  have l0:=ag B;have BE:=ae (r.bl.setCell (p:=(Q (A (h w)) 0 Y)) ly (Z (T (Q b off Y)) n c));have ZO:=ae (r.qa.fr (Fr.set (x:=A (h w)) (j:=0) (by simp) (Z (T (Q b off Y)) n c))).at;have ld:=r.lo;have C:A (h w)≠ab:=by omega
  clear B;refine aS (i:=11) rfl (by as_aux_lemma=>kernel_rfl) λK l=>?_;go_simp
  have H:=ae (show ZW (ZT ZY (Q (A (h w)) 0 Y) (Z (T (Q b off Y)) n c)) (Q ab 0 Y)=T (Z (T (Q b off Y)) n c)/\b<A (h (ZT ZY (Q (A (h w)) 0 Y) (Z (T (Q b off Y)) n c)))/\∀i,i<n->ZW (ZT ZY (Q (A (h w)) 0 Y) (Z (T (Q b off Y)) n c)) (Q b (off+i*6) Y)=T (U (f i).e) from⟨(cell_far ZY (Q (A (h w)) 0 Y) (Q ab 0 Y) _ C).trans g.1,by
   rcases ZO.here with h1|⟨b',ex,e,ZL⟩
   {omega}
   ·cases e
    exact⟨ZL.1,λi hi=>(ZL.2 i hi).1⟩⟩)
  clear g;have g:=ae H.out;clear H;refine l _ _ g ?_;clear l K
  (try simp only[Act.put,nzL])
  refine aS (i:=12) rfl (by as_aux_lemma=>kernel_rfl) λK l=>?_;go_simp;refine l _ _ g ?_;clear l K
  (try simp only[Act.put,nzL])
  refine wpAnyH_done (by as_aux_lemma=>kernel_rfl) ?_ _;go_wp2;exact bp (v:=.tuple #[ZH #[Z (T (Q b off Y)) n c],U (f m).e]) (by simp[results,results15,go_sem,r0]) rfl ⟨_,_,_,_,_,rfl,ZO,BE⟩
 |false =>
  clear ZM;go_wp2_with fail;have u:=ae (ZQ.aa br.drew);refine wp_region_held_drew (S:=λV=>ZW V (Q ab 0 Y)=T (Z a n c)) (by as_aux_lemma=>kernel_rfl) u.acc λE=>?_;have g:=ae E;clear E ZQ;generalize W3.drew=v3 at u g ⊢;iterate 2
   refine aW 0 (v:=?_) rfl rfl (by as_aux_lemma=>kernel_rfl) (λ_ _ _ ZZ=>ZZ) rfl ?_ g ?_;rotate_left
   ·(intro wz s0;go_simp)
    (try with_reducible rfl)
   (try simp only[Act.put,nzL])
  refine aS (i:=2) rfl (by as_aux_lemma=>kernel_rfl) λK l=>?_;go_simp;go_at_call 43;refine(dL R _ _ u.rd (by omega)).mono ?_;rintro e ZY ⟨t,rfl,ht,hR,D⟩;have r:=ae (u.ac D hR);clear hR D u g;have g:=ae r.acc;refine l _ _ g ?_;clear l K
  (try simp only[Act.put,nzL])
  have B:=r.z;have r0:ZW ZY (Q (A (h w)) 0 Y)=T (Z Y 0 0):=by simp[World.cell?,B]
  have y0:ZX ZY (Q (A (h w)) 0 Y)=ZB:=by simp[World.frozen?,B]
  have l0:=ag B;have BE:=ae (r.bl.setCell (p:=(Q (A (h w)) 0 Y)) ly (Z a n c));have ZO:=ae (r.qa.fr (Fr.set (x:=A (h w)) (j:=0) (by simp) (Z a n c))).at;have ld:=r.lo;have C:A (h w)≠ab:=by omega
  clear B;refine aS (i:=3) rfl (by as_aux_lemma=>kernel_rfl) λK l=>?_;go_simp;have H:=ae ((cell_far ZY (Q (A (h w)) 0 Y) (Q ab 0 Y) (Z a n c) C).trans g);clear g;have g:=ae H.out;clear H;refine l _ _ g ?_;clear l K
  (try simp only[Act.put,nzL])
  refine aS (i:=4) rfl (by as_aux_lemma=>kernel_rfl) λK l=>?_;go_simp;refine l _ _ g ?_;clear l K
  (try simp only[Act.put,nzL])
  refine wpAnyH_done (by as_aux_lemma=>kernel_rfl) ?_ _;go_wp2;exact bp (v:=.tuple #[ZH #[Z a n c],U t]) (by simp[results,results15,go_sem,r0]) rfl ⟨_,_,_,_,_,rfl,ZO,BE⟩
def yX:Source:=⟨⟨#[97]⟩,⟨#[103]⟩⟩
structure DeB2 (w W:G)(a:Option Addr)(c:Nat)(L:List TO):Prop where
 res:W.heap[A (h w)]?=T (N #[Z Y 0 0] 25 (0,0))
 src:W.heap[A (h w)+1]?=T (N #[U ⟨#[97]⟩,U ⟨#[103]⟩] 87 (0,0))
 M:W.heap[A (h w)+1+1]?=T (N #[Z (T (Q (A (h w)+1) 0 Y)) 1 1,Z a (ZU L) c] 33 (0,0))
 tw:TW (A (h w)+3) W (Z a (ZU L) c) L
 bl:Below (A (h w)) w W
section
variable {w W V:G}{a a':Option Addr}{c c':Nat}{L M:List TO}
theorem DeB2.lt (ZZ:DeB2 w W a c L):A (h w)+1+1<A (h W):=ag ZZ.M
theorem DeB2.aa (ZZ:DeB2 w W a c L)(hb:Below (A (h W)) W V):DeB2 w V a c L:=by have hl:=ZZ.lt;exact⟨(hb.block _ (by omega)).trans ZZ.res,(hb.block _ (by omega)).trans ZZ.src,(hb.block _ (by omega)).trans ZZ.M,ZZ.tw.aa hb ly,ZZ.bl.trans (hb.mono ZZ.bl.size)⟩
theorem DeB2.bx (ZZ:DeB2 w W a c L):BxT (Z (T (Q (A (h w)+1) 0 Y)) 1 1) (Z a (ZU L) c) (A (h w)+1+1) W:=mO ZZ.M
theorem DeB2.grow (ZZ:DeB2 w W a c L){k:Nat}(hk:k<=A (h w)+1+1){f:Array Value}(b:W.heap[k]?=T (N f t (0,0)))(g:W.grownBy V (Value.slice a (ZU L) c).ownBlock):V.heap[k]?=T (N f t (0,0)) :=
 (g.block k (ag b) λe=>by have:=(ZZ.tw.y.lt k e.symm).1;omega).trans b
theorem DeB2.app (ZZ:DeB2 w W a c L)(hM:∀r∈M,GT W r)(f:V.ownsRow (A (h w)+3) 94 2 (Z a' (ZU L+ZU M) c') (ZU L+ZU M) (L.flatMap toV++M.flatMap toV))(b:W.grownBy V (Value.slice a (ZU L) c).ownBlock):DeB2 w (ZT V (Q (A (h w)+1+1) 1 Y) (Z a' (ZU L+ZU M) c')) a' c' (L++M):=by
 have far:∀k,k≠A (h w)+1+1->(ZT V (Q (A (h w)+1+1) 1 Y) (Z a' (ZU L+ZU M) c')).heap[k]?=V.heap[k]?:=λk n=>qh _ _ _ _ n;have t:=ZZ.tw.app hM f b;have l:(L++M).length=ZU L+ZU M:=gB;have m:Below (A (h w)) w V:=ZZ.bl.grown b ZZ.bl.size λk e=>by have:=(ZZ.tw.y.lt k e).1;omega
 rw[<-l];rw[<-l] at far t;refine⟨(far _ (by omega)).trans (ZZ.grow (by omega) ZZ.res b),(far _ (by omega)).trans (ZZ.grow (by omega) ZZ.src b),bD (ZZ.grow ly ZZ.M b) _,⟨aC (R:=A (h w)+1+1) (j:=1) t.y (by omega) _,λr o=>(t.u r o).ab (by simp) λg q hgl=>far g λe=>?_⟩,m.setCell (p:=(Q (A (h w)+1+1) 1 Y)) (by show _<=_+1+1;omega) _⟩;obtain⟨cur,i⟩:=q;rw[e,ZZ.grow ly ZZ.M b] at i;cases i
theorem DeB2.sp (ZZ:DeB2 w W a c L):SlSource W (T (Q (A (h w)+1) 0 Y)) 1 (ct [yX])/\SlTarget W a (ZU L) (bj (L.map (·.1)))/\∀i,i<ZU L->(bj (L.map (·.1)) i).l<=300/\∀j,j<(bj (L.map (·.1)) i).l->((bj (L.map (·.1)) i).u j).s.size<=5000:=by
 refine⟨ko (base:=A (h w)+1) (L:=[yX]) ⟨rfl,.inr ⟨_,1,_,rfl,j6 _,ZZ.src,j6 _,by unfold maxLen;omega,rfl,rfl⟩⟩,oO ZZ.tw.y λr b=>?_,λi hi=>?_⟩;{obtain⟨⟨g,e,h1,-⟩,-⟩:=ZZ.tw.u r b;exact .inr ⟨g,0,e,h1⟩}
 ·have e:bj (L.map (·.1)) i=L[i].1:=by simp[bj,hi]
  rw[e];exact(ZZ.tw.u _ (gz hi)).2
end
theorem DeB2.keep{W:G}{a:Option Addr}{c:Nat}{L:List TO}(ZZ:DeB2 w W a c L)(V:G)(b:∀j,j<A (h W)->T j≠(Value.slice a (ZU L) c).ownBlock->V.heap[j]?=W.heap[j]?):BxT (Z (T (Q (A (h w)+1) 0 Y)) 1 1) (Z a (ZU L) c) (A (h w)+1+1) V :=
 mO ((b _ ZZ.lt λe=>by have:=(ZZ.tw.y.lt _ e.symm).1;omega).trans ZZ.M)
def nH:List Ins:=[⟨1,⟨#[121,48,48]⟩,0⟩,⟨12,⟨#[]⟩,0⟩,⟨9,⟨#[]⟩,0⟩,⟨1,⟨#[120,48,48]⟩,0⟩,⟨12,⟨#[]⟩,0⟩,⟨15,⟨#[]⟩,0⟩]
theorem yY (w:G):Calls Pg 14 #[] w λe w'=>∃a n c f,e=ZG (ZH #[Z a n c])/\HAc (A (h w)) w' a n c f/\Below (A (h w)) w w':=by
 obtain⟨i0,gi,n7,la,ph⟩:=jp;obtain⟨i1,ti,P,ZL,ZQ⟩:=KQ ez;obtain⟨W0,ZP⟩:∃W:G,ZV (ZV (ZV w (N #[Z Y 0 0] 25)) (N #[U ⟨#[97]⟩,U ⟨#[103]⟩] 87)) (N #[Z (T (Q (A (h w)+1) 0 Y)) 1 1,Z Y 0 0] 33)=W:=⟨_,rfl⟩
 obtain⟨A0,k0,k1,k2,-⟩:=nb3 ZP;have E:Hid (DeB2 w W0 Y 0 []):=⟨k0,k1,k2,⟨CL _ _ _ _,λr hr=>absurd hr nj⟩,A0⟩
 have HW:=ae ZP;clear ZP A0 k0 k1 k2;go_enter func14,ntmps14;go_wp2_with fail;rw[HW.out];clear HW;refine(pN _ _).mono ?_;rintro e B ⟨g,rfl,hO,o⟩;replace E:=ae (E.aa o);have OA:=ae hO;clear hO o;obtain⟨V1,ZJ⟩:∃V:G,ZV B (N #[] 90)=V:=⟨_,rfl⟩
 obtain⟨m,K1,z1⟩:=nb1 ZJ;replace OA:=ae (own_below OA m ly);have q:Hid (V1.ownsRow (A (h B)) 90 3 (Z (T (Q (A (h B)) 0 Y)) 0 0) 0 []):=⟨rfl,.inr ⟨_,0,_,rfl,j6 _,K1,j6 _,by unfold maxLen;omega,rfl,rfl⟩⟩
 have z:=ae ZJ;clear ZJ K1;go_wp2_with (at_builtin;rw[z.out];clear z;refine DD _ rfl (.tmp 10) (.tmp 11) 39 rfl (A (h B)) 90 i0 (ZH #[J I 0,U ⟨#[]⟩,J I 0]) 3 32 MB gi n7 la ph rfl (by decide) (Z (T (Q (A (h B)) 0 Y)) 0 0) 0 [] (by simp[Act.eval]) q (Q g 0 Y) 2 2 (bK (lsI (sI ⟨#[121,48,48]⟩)) 2) (by simp[Act.eval]) rfl (λj u hu=>OT OA.out (g:=g) rfl j u hu) (oq _ _) (by unfold maxLen;omega) (by omega) m.size ?_;intro v' w2 l b _;simp only[E4,J2] at l;obtain⟨a2,c2,rfl⟩:=aF l;replace m:=ae (m.grown b m.size (λk e=>(q.out.lt k e).1));replace q:=ae l;clear l b OA z1);iterate 3
  first
   |refine(aT _ _).mono ?_
   |refine(bi _ _).mono ?_
  rintro e w3 ⟨rfl,o⟩;replace q:=ae (own_below q o ly);replace m:=ae (m.trans (o.mono m.size));clear o;go_wp2_with fail
 refine(aT _ _).mono ?_;rintro e w3 ⟨rfl,o⟩;replace q:=ae (own_below q o ly);replace m:=ae (m.trans (o.mono m.size));clear o;obtain⟨V4,ZM⟩:∃V:G,ZV w3 (N #[J I 9,U ⟨#[]⟩,J I 0,J I 1,U ⟨#[120,48,48]⟩,J I 0,J I 12,U ⟨#[]⟩,J I 0,J I 15,U ⟨#[]⟩,J I 0] 90)=V:=⟨_,rfl⟩
 obtain⟨B4,K4,-⟩:=nb1 ZM;replace q:=ae (own_below q B4 ly);replace m:=ae (m.trans (B4.mono m.size));have z:=ae ZM;clear ZM B4;go_upto_region 4 with (at_builtin;rw[z.out];clear z;refine DD _ rfl (.tmp 12) (.tmp 17) 39 rfl (A (h B)) 90 i0 (ZH #[J I 0,U ⟨#[]⟩,J I 0]) 3 32 MB gi n7 la ph rfl (by decide) (Z a2 2 c2) 2 (bK (lsI (sI ⟨#[121,48,48]⟩)) 2) (by simp[Act.eval]) q (Q (A (h w3)) 0 Y) 4 4 [J I 9,U ⟨#[]⟩,J I 0,J I 1,U ⟨#[120,48,48]⟩,J I 0,J I 12,U ⟨#[]⟩,J I 0,J I 15,U ⟨#[]⟩,J I 0] (by simp[Act.eval]) rfl (jz K4) (by simp[Value.oneCell']) (by unfold maxLen;omega) (by omega) m.size ?_;intro v' w5 l b _;obtain⟨a6,ZY,rfl⟩:=aF l;replace m:=ae (m.grown b m.size (λk e=>(q.out.lt k e).1));replace q:Hid (w5.ownsRow (A (h B)) 90 3 (Z a6 6 ZY) 6 (bK (lsI nH) 6)):=l;clear l b K4);generalize fd:World.alloc w5 _=W6;obtain⟨B6,K6,-⟩:=nb1 fd;replace q:=ae (own_below q B6 ly);replace E:=ae (E.aa (m.trans (B6.mono m.size)));obtain⟨D,ur⟩:=fE q.out (by omega);subst ur;have GR:Hid (GT W6 (⟨⟨#[114,111,111,116]⟩,6,lsI nH⟩,T (Q D 0 Y),ZY)):=⟨⟨D,rfl,(gV q.out).1,fU q.out⟩,by show 6<=300;omega,oL (L:=nH) (by decide)⟩
 obtain⟨V7,aq⟩:∃V:G,ZV W6 (N #[U ⟨#[114,111,111,116]⟩,Z (T (Q D 0 Y)) 6 ZY] 94)=V:=⟨_,rfl⟩
 obtain⟨B7,K7,-⟩:=nb1 aq;have xp:ZW W6 (Q (A (h w5)) 0 Y)=T (Z (T (Q D 0 Y)) 6 ZY):=by have k:=K6.out;simp[World.cell?,k]
 have x1:=E.bx.2;replace GR:=ae (GR.out.ab B7.size λg _ hg=>B7.block g hg);replace E:=ae (E.aa B7);have z:=ae aq;clear fd B6 m aq B7 q K6;go_upto_region 5 with (at_builtin;rw[z.out];clear z;refine DD _ rfl (.tmp 21) (.tmp 24) 31 rfl (A (h w)+3) 94 i1 (ZH #[U ⟨#[]⟩,Z Y 0 0]) 2 40 LC ti P ZL ZQ rfl (by decide) (Z Y 0 0) 0 [] (by simp[Act.eval]) E.tw.y (Q (A (h W6)) 0 Y) 1 1 (toV (⟨⟨#[114,111,111,116]⟩,6,lsI nH⟩,T (Q D 0 Y),ZY)) (by simp[Act.eval]) rfl (jz K7) (by simp[toV,Value.oneCell']) (by unfold maxLen;omega) (by omega) E.lt ?_;intro v' w8 l b _;obtain⟨ZS,c5,rfl⟩:=aF l;have y:=E.grow ly E.M b;have y0:ZW w8 (Q (A (h w)+1+1) 1 Y)=T (Z Y 0 0):=(by simp[World.cell?,y]);have y1:ZX w8 (Q (A (h w)+1+1) 1 Y)=ZB:=(by simp[World.frozen?,y]);have y2:=ag y;have E8:=ae (E.out.app (M:=[((⟨⟨#[114,111,111,116]⟩,6,lsI nH⟩,T (Q D 0 Y),ZY):TO)]) (λr hr=>by rw[j4.1 hr];exact GR) l b);clear l b y);clear y0 y1 y2 E GR K7 xp x1;generalize hW:World.setCell w8 _ _=W;obtain⟨L,hL,E⟩:∃L:List TO,ZU L<=200/\Hid (DeB2 w W ZS c5 L):=⟨[((⟨⟨#[114,111,111,116]⟩,6,lsI nH⟩,T (Q D 0 Y),ZY):TO)],by show 1<=200;omega,by rw[<-hW];exact E8⟩
 clear E8 hW;have CX:=ae (λV=>rI ⟨#[120]⟩ 30 ⟨#[121,48,48]⟩ (by decide) (by decide) (by decide) V);iterate 2
  have SQ:=ae E.keep;go_wp2_with fail;refine aD (BxT (Z (T (Q (A (h w)+1) 0 Y)) 1 1) (Z ZS (ZU L) c5) (A (h w)+1+1)) 5 (by kernel_rfl) ?_;have ZK:=ae (SQ W.drew (λj C _=>rfl))
  iterate 2
   refine aM 0 (v:=?_) rfl rfl (by kernel_rfl) (λ_ _ _ ZZ=>ZZ) rfl ?_ ZK ?_;rotate_left
   ·(rintro wz ⟨s0,s1⟩;go_simp)
    (try with_reducible rfl)
   (try simp only[Act.put,nzL])
  refine ah (i:=2) rfl (by kernel_rfl) λK t=>?_;go_simp;go_at_call 42;refine(CX.out _).mono ?_;rintro e V2 ⟨a9,c9,M,rfl,hT,hM,o⟩;have ZO:Hid (Below (A (h W)) W V2):=br.drew.trans o;have H:=ae (E.aa ZO);have TM:=ae hT;obtain⟨g9,sm⟩:=fE hT.y (by omega);subst sm;have hM2:ZU M<=40:=by omega
  clear ZK hM;have ZK:=ae (SQ V2 (λj C _=>ZO.block j C));refine t _ _ (λ_=>ZK) ?_;clear t K o hT
  (try simp only[Act.put,nzL])
  refine ah (i:=3) rfl (by kernel_rfl) (λK t=>?_);first
   |(guard_hyp I1;refine aQ rfl (.tmp 33) (.tmp 34) 31 rfl (A (h w)+3) 94 i1 (ZH #[U ⟨#[]⟩,Z Y 0 0]) 2 40 LC ti P ZL ZQ rfl (by decide) (Z ZS (ZU L) c5) (ZU L) (L.flatMap toV) (by simp[Act.eval]) H.tw.y (Q g9 0 Y) (ZU M) c9 (M.flatMap toV) (by simp[Act.eval]) (wW M) (OT TM.out.y (g:=g9) rfl) (wX M) (by unfold maxLen;omega) (by omega) H.lt ?_)
   |refine aQ rfl (.tmp 28) (.tmp 29) 31 rfl (A (h w)+3) 94 i1 (ZH #[U ⟨#[]⟩,Z Y 0 0]) 2 40 LC ti P ZL ZQ rfl (by decide) (Z ZS (ZU L) c5) (ZU L) (L.flatMap toV) (by simp[Act.eval]) H.tw.y (Q g9 0 Y) (ZU M) c9 (M.flatMap toV) (by simp[Act.eval]) (wW M) (OT TM.out.y (g:=g9) rfl) (wX M) (by unfold maxLen;omega) (by omega) H.lt ?_
  intro v' w7 l b _;obtain⟨a7,c7,rfl⟩:=aF l;have S7:=ae (SQ w7 (λj C th=>(b.block j (lj C ZO.size) th).trans (ZO.block j C)));have E9:=ae (H.out.app (M:=M) TM.out.u l b);clear l b ZK;refine t _ _ (λ_=>S7) ?_;clear t K
  (try simp only[Act.put,nzL])
  refine ah (i:=4) rfl (by kernel_rfl) λK t=>?_;go_simp;refine t _ _ (λ_=>S7) ?_;clear t K
  (try simp only[Act.put,nzL])
  obtain⟨s7,t7⟩:=S7.out;have f7:ZX w7 (Q (A (h w)+1+1) 1 Y)=ZB:=by simp[World.frozen?,s7]
  have l7:=ag s7;clear s7;refine ah (i:=5) rfl (by kernel_rfl) λK t=>?_;go_simp;refine t _ _ (λZZ=>absurd rfl ZZ) ?_;clear t K
  (try simp only[Act.put,nzL])
  refine bk (by kernel_rfl) ?_ _;clear t7 f7 l7 S7 SQ E H TM ZO;generalize hW:World.setCell w7 _ _=W;obtain⟨L,hL,E⟩:∃L':List TO,ZU L'<=ZU L+40/\Hid (DeB2 w W a7 c7 L'):=⟨L++M,by rw[gB];omega,by rw[<-hW];exact E9⟩
  clear E9 hW;obtain⟨ZS,rfl⟩:∃x,x=a7:=⟨_,rfl⟩
  obtain⟨c5,rfl⟩:∃x,x=c7:=⟨_,rfl⟩
  have I1:=True.intro;replace CX:=ae (λV=>rI ⟨#[121]⟩ 40 ⟨#[97]⟩ (by decide) (by decide) (by decide) V)
 obtain⟨bt,n9,O⟩:=E.sp;have ld:=ae bt;have n8:=ae n9;have ex:=ae (show ∀i,i<ZU L->aU (bj (L.map (·.1)) i) from λi hi=>by have:=(O i hi).1;unfold aU;omega);have qr:=ae (show ∀i,i<ZU L->∀j,j<(bj (L.map (·.1)) i).l->((bj (L.map (·.1)) i).u j).s.size<=maxLen from λi hi j C=>by have:=(O i hi).2 j C;unfold maxLen;omega);clear bt n9 O;obtain⟨y,x1⟩:=E.bx;have x0:ZW W (Q (A (h w)+1+1) 0 Y)=T (Z (T (Q (A (h w)+1) 0 Y)) 1 1):=by simp[World.cell?,y]
 clear y;go_wp2_with fail;refine(jB (S:=⟨1,ct [yX],ZU L,bj (L.map (·.1))⟩) (a0:=T (Q (A (h w)+1) 0 Y)) (a1:=ZS) (c0:=1) (c1:=c5) _ _ ld n8 (by show 1<=1048576;omega) (by show (ZU L)<=_;omega) ex qr).mono ?_;rintro e w9 ⟨db,y,R,rv,rfl,hD,ZN,⟨ra,rk,rfl,-⟩,o⟩;have hs:=E.lt;have HA:=ae ((uQ hD ZN).1);generalize (bQ ⟨1,ct [yX],ZU L,bj (L.map (·.1))⟩ _).2=rs;generalize dF _=ff at HA;have BX:=ae (E.bl.trans (o.mono E.bl.size));have kr:=ae ((o.block _ (by omega)).trans E.res);obtain⟨X,hX⟩:∃X:G,ZV (ZV w9 (N #[Z db (ZU R) y] 25)) (N #[J I rs.E,U rs.B,Z ra (ZU rs.chain) rk] 47)=X:=⟨_,rfl⟩
 obtain⟨B9,K9,-,-⟩:=nb2 hX;have HX:=ae hX;clear hX hD ZN ld n8 ex qr x0 x1;go_upto_region 8 with fail;rw[HX.out];have hz:=o.size;replace kr:=ae ((B9.block _ (by have:=BX.size;omega)).trans kr);have x0:ZW X (Q (A (h w9)) 0 Y)=T (Z db (ZU R) y):=by have k:=K9.out;simp[World.cell?,k]
 have r0:ZW X (Q (A (h w)) 0 Y)=T (Z Y 0 0):=by have k:=kr.out;simp[World.cell?,k]
 have r1:ZX X (Q (A (h w)) 0 Y)=ZB:=by have k:=kr.out;simp[World.frozen?,k]
 have l0:=ag kr.out;clear HX E o;go_wp2;exact bp (v:=ZH #[Z db (ZU R) y]) (by simp[results,results14,go_sem,r0]) rfl ⟨_,_,_,ff,rfl,((HA.out.agr (cC B9 ly)).agr (jf (X:=A (h w)) (j:=0) (by omega) _)).mono (by omega),(BX.trans (B9.mono BX.size)).setCell (p:=(Q (A (h w)) 0 Y)) ly _⟩
theorem FH{s0 s1 g f:ByteArray}{fz:Nat × Nat}(ZZ:w.heap[b]?=T (N #[U s0,U s1,U g,U f] t fz))(k:Nat)(hk:k<4):∃s,ZW w (Q b k Y)=T (U s):=by rcases(show k=0∨k=1∨k=2∨k=3 by omega) with rfl|rfl|rfl|rfl<;>exact⟨_,by simp[World.cell?,ZZ];rfl⟩
theorem wj (E:Option Addr)(ZY cap:Nat)(w:G)(hn:(ZY:Int)<=1048576)(M:ZY<=cap)(O:ByteSl w E ZY):Calls Pg 4 #[Z E ZY cap] w λe w'=>DDp w e w':=by
 have L:=ae O;have ZQ:=ae (λV (hV:Below (A (h w)) w V)=>vZ E ZY cap V hn M (L.aa hV ly));clear O;obtain⟨W0,C⟩:∃W:G,ZV w (N #[Z Y 0 0] 25)=W:=⟨_,rfl⟩
 obtain⟨ZP,KA,hzA⟩:=nb1 C;have HW:=ae C;clear C;go_enter func4,ntmps4;go_wp2_with fail;rw[HW.out];clear HW;refine(kU E ZY cap _ hn M (L.aa ZP ly)).mono ?_;rintro e w1 ⟨R,rfl,hRz,ZS,B⟩;have r:=ae ZS;have b:=ae (ZP.trans (B.mono (by omega)));have l:=ae ((B.block (A (h w)) (by omega)).trans KA);have hlo:A (h w)<R:=by omega
 clear ZS B ZP KA L;go_wp2_with fail;refine(ar R 0 60 _ r (by omega) (by omega) (by omega)).mono ?_;rintro e v ⟨z,rfl,H,ZO,hR,x⟩;replace l:=ae ((x.block _ (ag l) (by omega)).trans l);replace b:=ae (b.trans (x.aa (by omega) b.size));replace r:=ae hR;clear hR x;by_cases h0:z=0
 ·subst h0;go_wp2_with fail;refine wp_region_held_drew (S:=λ_=>True) (by as_aux_lemma=>kernel_rfl) trivial λ_=>?_;have o:=(q9 v).drew;replace l:=ae ((o.block _ (ag l)).trans l);replace r:=ae (r.aa o ly);replace b:=ae (b.trans (o.mono b.size));clear o ZQ;generalize v.drew=v at l r b ⊢;refine aW 2 (v:=?_) rfl rfl (by kernel_rfl) (λ_ _ _ ZZ=>ZZ) rfl ?_ trivial ?_;rotate_left
  ·(intro wz ZJ;go_simp)
   (try with_reducible rfl)
  (try simp only[Act.put,nzL])
  repeat' first
   |(refine cQ (i:=0) (j:=1) rfl rfl (by as_aux_lemma=>kernel_rfl) (λK q=>?_) (λK q=>?_))
   |(refine cQ (i:=1) (j:=3) rfl rfl (by as_aux_lemma=>kernel_rfl) (λK q=>?_) (λK q=>?_))
   |(refine cQ (i:=1) (j:=6) rfl rfl (by as_aux_lemma=>kernel_rfl) (λK q=>?_) (λK q=>?_))
   |(refine cQ (i:=5) (j:=6) rfl rfl (by as_aux_lemma=>kernel_rfl) (λK q=>?_) (λK q=>?_))
   |(refine wpAnyH_done (by as_aux_lemma=>kernel_rfl) ?_ _;have k:=l.out;have r0:ZW v (Q (A (h w)) 0 Y)=T (Z a n c):=(by simp[World.cell?,k]);clear k;go_wp2;exact bp (v:=.tuple #[ZH #[Z a n c],U sx]) (by simp[results,results4,go_sem,r0]) rfl ⟨_,_,_,f,sx,rfl,y.out.mono (by omega),b⟩)
   |(guard_hyp s;guard_hyp ZM;(fail_if_success guard_hyp ZL);refine aW 4 (v:=?_) rfl rfl (by kernel_rfl) (λ_ _ _ ZZ=>ZZ) rfl ?_ trivial ?_;rotate_left;(focus (intro wz ZJ;go_simp;(try with_reducible rfl);done));(try simp only[Act.put,nzL]);have ZL:=True.intro)
   |(refine gn 0 rfl rfl (by as_aux_lemma=>kernel_rfl) (λK q=>?_))
   |(go_simp;go_at_call 14;refine(yY _).mono ?_;rintro e v ⟨a,n,c,f,rfl,D,o⟩;have y:Hid (HAc (R+1) v a n c f):=D.mono r.lt;(try replace s:=ae ((o.block g (ag s)).trans s));replace l:=ae ((o.block _ (ag l)).trans l);replace r:=ae (r.aa o ly);replace b:=ae (b.trans (o.mono b.size));clear D o;refine q _ _ trivial ?_;clear q K;(try simp only[Act.put,nzL]))
   |(go_simp;go_at_call 13;refine(ar R _ 4 _ r (by omega) (by omega) (by omega)).mono ?_;rintro e v ⟨z,rfl,H,ZO,hR,x⟩;obtain⟨m,rfl⟩:=p9 H;replace y:=ae (y.out.agr (x.agr (gM _)));(try replace s:=ae ((x.block g (ag s) (by omega)).trans s));replace l:=ae ((x.block _ (ag l) (by omega)).trans l);replace b:=ae (b.trans (x.aa (by omega) b.size));replace r:=ae hR;clear x hR;have ZM:=True.intro;refine q _ _ trivial ?_;clear q K;(try simp only[Act.put,nzL]))
   |((fail_if_success guard_hyp s);have s:Hid ((ZV v (N #[U ⟨#[120,48,48]⟩,U ⟨#[114,111,111,116]⟩,U ⟨#[121,48,48]⟩,U ⟨#[121,51,48]⟩] 9)).heap[A (h v)]?=T (N #[U ⟨#[120,48,48]⟩,U ⟨#[114,111,111,116]⟩,U ⟨#[121,48,48]⟩,U ⟨#[121,51,48]⟩] 9 (0,0))):=nD v _;go_simp;have o:=(q9 v).alloc ly (N #[U ⟨#[120,48,48]⟩,U ⟨#[114,111,111,116]⟩,U ⟨#[121,48,48]⟩,U ⟨#[121,51,48]⟩] 9);(try have hg:=r.lt);(try replace y:=ae (y.out.agr (cC o ly)));replace l:=ae ((o.block _ (ag l)).trans l);(try replace r:=ae (r.aa o ly));replace b:=ae (b.trans (o.mono b.size));clear o;refine q _ (ZV v (N #[U ⟨#[120,48,48]⟩,U ⟨#[114,111,111,116]⟩,U ⟨#[121,48,48]⟩,U ⟨#[121,51,48]⟩] 9)) trivial ?_;clear q K;(first|generalize (A (h v))=g at s hg ⊢ | generalize (A (h v))=g at s ⊢);generalize ZV v (N #[U ⟨#[120,48,48]⟩,U ⟨#[114,111,111,116]⟩,U ⟨#[121,48,48]⟩,U ⟨#[121,51,48]⟩] 9)=v at *;(try simp only[Act.put,nzL]))
   |(guard_hyp ZL;(fail_if_success guard_hyp T5);obtain⟨sx,ZK⟩:=FH s m (by omega);go_simp;clear ZK;refine q _ _ trivial ?_;clear q K;(try simp only[Act.put,nzL]);have T5:=True.intro)
   |(guard_hyp ZM;(fail_if_success guard_hyp P);have k:=l.out;have r0:ZW v (Q (A (h w)) 0 Y)=T (Z Y 0 0):=(by simp[World.cell?,k]);have r1:ZX v (Q (A (h w)) 0 Y)=ZB:=(by simp[World.frozen?,k]);have ZN:=ag k;clear k;go_simp;clear r0 r1 ZN;refine q _ _ trivial ?_;clear q K;replace y:=ae (y.out.agr (jf (X:=A (h w)) (j:=0) (by omega) (Z a n c)));replace b:=ae (b.out.setCell (p:=(Q (A (h w)) 0 Y)) ly (Z a n c));replace l:=ae (bD l.out (j:=0) (Z a n c));clear r;(try replace s:=ae ((qh v (Q (A (h w)) 0 Y) (Z a n c) g (by show g≠A (h w);omega)).trans s));generalize ZT v (Q (A (h w)) 0 Y) (Z a n c)=v at *;(try simp only[Act.put,nzL]);have P:=True.intro)
   |(guard_hyp P;go_simp;refine q _ _ trivial ?_;clear q K;(try simp only[Act.put,nzL]))
 ·have h0':(z == 0)=ZB:=by simpa using h0
  go_wp2_with fail;refine(ZQ.out _ b).mono ?_;rintro e u ⟨a,n,c,f,t,rfl,D,o⟩;have y:=ae D;have k:=(o.block _ (ag l)).trans l;have r0:ZW u (Q (A (h w)) 0 Y)=T (Z Y 0 0):=by simp[World.cell?,k]
  have r1:ZX u (Q (A (h w)) 0 Y)=ZB:=by simp[World.frozen?,k]
  have ZN:=ag k;have hv:=ag l.out;replace b:=ae ((b.trans (o.mono b.size)).setCell (p:=(Q (A (h w)) 0 Y)) ly (Z a n c));clear k D o r ZQ;go_wp2;exact bp (v:=.tuple #[ZH #[Z a n c],U t]) (by simp[results,results4,go_sem,r0]) rfl ⟨a,n,c,f,t,rfl,(y.out.agr (jf (X:=A (h w)) (j:=0) hv _)).mono (by omega),b⟩
def DAu (w:G)(e:Ending)(b:G):Prop:=∃(a0:Option Addr) (n0 c0:Nat) (f0:Nat->Source) (a1:Option Addr) (n1 c1:Nat) (f1:Nat->Target) (a:Option Addr) (n c:Nat) (f:Nat->af),e=ZG (.tuple #[ZH #[Z a n c],ZH #[Z a0 n0 c0,Z a1 n1 c1]])/\HSp (A (h w)) b a0 n0 f0 a1 n1 f1/\HAc (A (h w)) b a n c f/\(n<=452/\∀i,i<n->FitK 2 (f i))/\Below (A (h w)) w b
def QSh (lo:Nat)(g:List Nat)(W:G)(a0:Option Addr)(n0:Nat)(f0:Nat->Source)(a1:Option Addr)(n1:Nat)(f1:Nat->Target):Prop:=∃(b:Nat) (f:G),lo<=b/\HSp b f a0 n0 f0 a1 n1 f1/\Agr b f W/\oW g b (A (h f))
structure DuS (w:G)(R ab sb:Nat)(W:G)(q n0 c0 n1 c1:Nat)(a0:Option Addr)(f0:Nat->Source)(a1:Option Addr)(f1:Nat->Target)(n c:Nat)(a:Option Addr)(f:Nat->af):Prop where
 rd:Rd W R q
 bl:Below (A (h w)) w W
 za:W.heap[A (h w)]?=T (N #[Z Y 0 0] 25 (0,0))
 zs:W.heap[A (h w)+1]?=T (N #[Z Y 0 0,Z Y 0 0] 33 (0,0))
 ax:W.heap[ab]?=T (N #[Z a n c] 25 (0,0))
 sx:W.heap[sb]?=T (N #[Z a0 n0 c0,Z a1 n1 c1] 33 (0,0))
 qs:QSh (R+1) [R,A (h w),A (h w)+1,ab,sb] W a0 n0 f0 a1 n1 f1
 qa:QAc (A (h w)) [R,A (h w),A (h w)+1,ab,sb] W a n c f
 lo:A (h w)+1<R/\R<ab/\ab<sb
section
variable {w W W':G}{R sb ab q q' n0 c0 n1 c1 n c:Nat}{a0 a1 a:Option Addr}{f0:Nat->Source}{f1:Nat->Target}{f:Nat->af}
theorem QSh.fr{f:List Nat}(ZZ:QSh lo f W a0 n0 f0 a1 n1 f1)(l:Fr f W W'):QSh lo f W' a0 n0 f0 a1 n1 f1:=by obtain⟨b,i,j,h1,h2,g⟩:=ZZ;exact⟨b,i,j,h1,h2.fr g l,g⟩
theorem QSh.at{f:List Nat}(ZZ:QSh lo f W a0 n0 f0 a1 n1 f1):HSp lo W a0 n0 f0 a1 n1 f1:=by obtain⟨b,w1,g,h1,h2,-⟩:=ZZ;exact(h1.agr h2).mono g
theorem QSh.new{xs:List Nat}(ZZ:HSp b W a0 n0 f0 a1 n1 f1)(f:lo<=b)(g:oW xs b (A (h W))):QSh lo xs W a0 n0 f0 a1 n1 f1:=⟨b,W,f,ZZ,Agr.refl _ _,g⟩
theorem DuS.ac (ZZ:DuS w R ab sb W q n0 c0 n1 c1 a0 f0 a1 f1 n c a f)(b:Only R W W')(hR:Rd W' R q'):DuS w R ab sb W' q' n0 c0 n1 c1 a0 f0 a1 f1 n c a f:=by have hl:=ZZ.lo;exact⟨hR,ZZ.bl.trans (b.aa (by omega) ZZ.bl.size),(b.block _ (ag ZZ.za) (by omega)).trans ZZ.za,(b.block _ (ag ZZ.zs) (by omega)).trans ZZ.zs,(b.block _ (ag ZZ.ax) (by omega)).trans ZZ.ax,(b.block _ (ag ZZ.sx) (by omega)).trans ZZ.sx,ZZ.qs.fr (Fr.ac b (by simp)),ZZ.qa.fr (Fr.ac b (by simp)),ZZ.lo⟩
theorem DuS.aa (ZZ:DuS w R ab sb W q n0 c0 n1 c1 a0 f0 a1 f1 n c a f)(b:Below (A (h W)) W W'):DuS w R ab sb W' q n0 c0 n1 c1 a0 f0 a1 f1 n c a f:=ZZ.ac (Only.q b) (ZZ.rd.aa b ly)
theorem DuS.cells (ZZ:DuS w R ab sb W q n0 c0 n1 c1 a0 f0 a1 f1 n c a f):ZW W (Q sb 0 Y)=T (Z a0 n0 c0)/\ZW W (Q sb 1 Y)=T (Z a1 n1 c1)/\ZX W (Q sb 0 Y)=ZB/\ZX W (Q sb 1 Y)=ZB/\sb<A (h W):=by have hb:=ZZ.sx;refine⟨?_,?_,?_,?_,ag hb⟩<;>simp[World.cell?,World.frozen?,hb]
theorem DuS.acc (ZZ:DuS w R ab sb W q n0 c0 n1 c1 a0 f0 a1 f1 n c a f):ZW W (Q ab 0 Y)=T (Z a n c)/\ZX W (Q ab 0 Y)=ZB/\ab<A (h W):=by have hb:=ZZ.ax;refine⟨?_,?_,ag hb⟩<;>simp[World.cell?,World.frozen?,hb]
theorem DuS.set (ZZ:DuS w R ab sb W q n0 c0 n1 c1 a0 f0 a1 f1 n c a f){x j:Nat}(b:x∈[R,A (h w),A (h w)+1,ab,sb])(hl:R<x)(u:Value):Rd (ZT W (Q x j Y) u) R q/\Below (A (h w)) w (ZT W (Q x j Y) u)/\Fr [R,A (h w),A (h w)+1,ab,sb] W (ZT W (Q x j Y) u):=by have hh:=ZZ.lo;exact⟨ZZ.rd.low ((cM (R+1) W).setCell (p:=(Q x j Y)) (by show R+1<=x;omega) u) (gM _),ZZ.bl.setCell (p:=(Q x j Y)) (by show (A (h w))<=x;omega) u,Fr.set b u⟩
theorem DuS.put{m k:Nat}{b:Option Addr}{g:Nat->af}(ZZ:DuS w R ab sb W q n0 c0 n1 c1 a0 f0 a1 f1 n c a f)(p:QAc (A (h w)) [R,A (h w),A (h w)+1,ab,sb] W b m k g):DuS w R ab sb (ZT W (Q ab 0 Y) (Z b m k)) q n0 c0 n1 c1 a0 f0 a1 f1 m k b g:=by have o:=ZZ.lo;obtain⟨h1,h2,l⟩:=ZZ.set (x:=ab) (j:=0) (by simp) o.2.1 (Z b m k);have far:∀i,i≠ab->(ZT W (Q ab 0 Y) (Z b m k)).heap[i]?=W.heap[i]?:=λi hi=>qh _ _ _ _ hi;exact⟨h1,h2,(far _ (by omega)).trans ZZ.za,(far _ (by omega)).trans ZZ.zs,bD ZZ.ax _,(far _ (by omega)).trans ZZ.sx,ZZ.qs.fr l,p.fr l,ZZ.lo⟩
theorem DuS.sput{m0 k0 k1:Nat}{b0 g:Option Addr}{j:Nat->Source}{l:Nat->Target}(ZZ:DuS w R ab sb W q n0 c0 n1 c1 a0 f0 a1 f1 n c a f)(r:QSh (R+1) [R,A (h w),A (h w)+1,ab,sb] W b0 m0 j g b l):DuS w R ab sb (ZT (ZT W (Q sb 0 Y) (Z b0 m0 k0)) (Q sb 1 Y) (Z g b k1)) q m0 k0 b k1 b0 j g l n c a f:=by have hl:=ZZ.lo;have B:=((cM (R+1) W).setCell (p:=(Q sb 0 Y)) (by show R+1<=sb;omega) (Z b0 m0 k0)).setCell (p:=(Q sb 1 Y)) (by show R+1<=sb;omega) (Z g b k1);have m:Fr [R,A (h w),A (h w)+1,ab,sb] W (ZT (ZT W (Q sb 0 Y) (Z b0 m0 k0)) (Q sb 1 Y) (Z g b k1)):=(Fr.set (by simp) _).trans (Fr.set (by simp) _);have far:∀i,i≠sb->(ZT (ZT W (Q sb 0 Y) (Z b0 m0 k0)) (Q sb 1 Y) (Z g b k1)).heap[i]?=W.heap[i]?:=λi hi=>(qh _ _ _ _ hi).trans (qh _ _ _ _ hi);have o:=ZZ.sx;exact⟨ZZ.rd.low B (gM _),(ZZ.bl.setCell (p:=(Q sb 0 Y)) (by show (A (h w))<=sb;omega) _).setCell (p:=(Q sb 1 Y)) (by show (A (h w))<=sb;omega) _,(far _ (by omega)).trans ZZ.za,(far _ (by omega)).trans ZZ.zs,(far _ (by omega)).trans ZZ.ax,by simp[World.setCell,KZ,o],r.fr m,ZZ.qa.fr m,ZZ.lo⟩
end
theorem sH (ac:Option Addr)(nc cap:Nat)(w:G)(hn:(nc:Int)<=1048576)(hc:nc<=cap)(ZQ:ByteSl w ac nc):Calls Pg 8 #[Z ac nc cap] w λe w'=>DAu w e w':=by
 have S0:=ae ZQ;clear ZQ;go_enter func8,ntmps8;go_wp2_with fail;obtain⟨W0,bt⟩:∃W:G,ZV (ZV w (N #[Z Y 0 0] 25)) (N #[Z Y 0 0,Z Y 0 0] 33)=W:=⟨_,rfl⟩
 obtain⟨A0,KA,KS,hzA⟩:=nb2 bt;have ld:=ae bt;clear bt;rw[ld.out];clear ld;refine(kU ac nc cap _ hn hc (S0.aa A0 ly)).mono ?_;rintro e w1 ⟨R,rfl,hRz,la,L⟩;have R1:=ae la;have B1:=ae (A0.trans (L.mono (by omega)));have K1:=ae ((L.block (A (h w)) (by omega)).trans KA);have K2:=ae ((L.block (A (h w)+1) (by omega)).trans KS);have hs1:=L.size;have hRl:=la.lt;clear la L A0 KA KS S0;go_wp2_with fail;refine(rO R 0 _ R1 (by omega)).mono ?_;rintro e u ⟨a0,n0,c0,f0,a1,n1,c1,f1,a,n,c,f,rfl,ZQ,hA,ZM,q2,hq2,qr,ZK⟩;have hs2:=ZK.size;obtain⟨W2,aq⟩:∃W:G,ZV (ZV u (N #[Z a n c] 25)) (N #[Z a0 n0 c0,Z a1 n1 c1] 33)=W:=⟨_,rfl⟩
 obtain⟨E,fd,-,-⟩:=nb2 aq;replace fd:=fd.out;replace E:=E.out;have ex:=ae aq;clear aq;have D1:Hid (DuS w R (A (h u)) (A (h u)+1) W2 q2 n0 c0 n1 c1 a0 f0 a1 f1 n c a f):=by
  cases ex.out
  refine⟨qr.aa E ly,(B1.trans (ZK.aa (by omega) B1.size)).trans (E.mono (by omega)),(E.block _ (by omega)).trans ((ZK.block _ (by omega) (by omega)).trans K1),(E.block _ (by omega)).trans ((ZK.block _ (by omega) (by omega)).trans K2),fd,PQ u _ _,⟨A (h w1),u,by omega,ZQ.1,cC E ly,λx M=>?_⟩,⟨A (h w1),u,by omega,hA,cC E ly,λx M=>?_⟩,by omega,by omega,by omega⟩;all_goals
   simp only[BS,nj,NE] at M;omega
 have ZP:=ae ZQ.2;have HF:=ae ZM;clear E fd ZQ hA ZM qr ZK B1 K1 K2 R1;have Fd:A (h w)+2<=A (h u):=by omega
 go_upto_region 3 with fail;rw[ex.out];clear ex;generalize Fk:A (h u)+1=sb at D1 ⊢;have sm:A (h u)<sb:=by omega
 clear Fk;generalize (A (h u))=ab at D1 Fd sm ⊢;go_wp2_with fail;refine(ar R _ 6 _ D1.rd (by omega) (by omega) (by omega)).mono ?_;rintro e w3 ⟨z,rfl,hz0,hz1,hR,l⟩;have t:=ae (D1.ac l hR);clear hR l D1;go_upto_if 18 with fail;go_cut [] (λwx=>∃(q m k:Nat) (b:Option Addr) (g:Nat->af),q<=11000/\Hid (m<=452/\∀i,i<m->FitK 2 (g i))/\Hid (DuS w R ab sb wx q n0 c0 n1 c1 a0 f0 a1 f1 m k b g));case first =>
  by_cases hz:z=0
  ·subst hz;obtain⟨y0,y1,y2⟩:=t.acc;go_wp2_with fail;refine(rM pR 1 2 (by omega) (by omega) R _ a n c f _ (t.qa.at.sl _ (Agr.refl _ _)) HF.2 HF.1 t.rd (by omega)).mono ?_;rintro e w5 ⟨b,m,k,g,rfl,hA,⟨q5,DS,hR,l⟩,n8,ph⟩;have HK:=ae (And.intro n8 ph);clear n8 ph;have hz5:=l.size;have O:=ag t.ax;have ZJ:=ag t.sx;have ZN:=ag t.zs;have ZO:=t.lo;have B:=ae (t.ac l hR)
   have j:=ae (B.put (QAc.new hA (by omega) (λx M=>by
    simp only[BS,nj,NE] at M
    omega)))
   clear y0 y1 y2;obtain⟨y0,y1,y2⟩:=B.acc;clear hA hR l t B O ZJ ZN ZO;go_wp2;go_meet;exact⟨_,m,k,b,g,by omega,HK,j⟩
  ·have ro:(z == 0)=ZB:=by simpa using hz
   go_wp2;go_meet;exact⟨_,n,c,a,f,by omega,⟨by have:=HF.1;omega,λi hi=>(HF.2 i hi).up (by omega)⟩,t⟩
 case rest =>
 clear t HF;obtain⟨q4,n,c,a,f,hq4,HK,o⟩:=hcut;generalize wc=W4 at o ⊢;go_upto_if 23 with fail;go_cut [] (λwx=>∃(q m0 D ZL C:Nat) (b0:Option Addr) (g0:Nat->Source) (ZY:Option Addr) (P:Nat->Target),q<=14000/\Hid (Gd m0 ZL P)/\Hid (DuS w R ab sb wx q m0 D ZL C b0 g0 ZY P n c a f));case first =>
  by_cases hz:z=1
  ·subst hz;obtain⟨x0,x1,x2,x3,x4⟩:=o.cells;go_wp2_with fail;refine(mT R _ (R+1) n0 c0 n1 c1 a0 f0 a1 f1 _ o.rd (by omega) (gM _) ⟨o.qs.at,ZP⟩).mono ?_;rintro e w6 ⟨b0,m0,D,g0,ZY,ZL,C,P,rfl,hQ,q6,th,hR,l⟩;have Bk:=l.size;have O:=ag o.ax;have ZJ:=ag o.sx;have ZN:=ag o.zs;have ZO:=o.lo;have j:=ae (o.ac l hR);have QQ:QSh (R+1) [R,A (h w),A (h w)+1,ab,sb] w6 b0 m0 g0 ZY ZL P/\Gd m0 ZL P:=by
    rcases hQ with hH|⟨rfl,rfl,rfl,rfl,rfl,rfl⟩
    ·exact⟨QSh.new hH.1 (by omega) (λx M=>by
      simp only[BS,nj,NE] at M
      omega),hH.2⟩
    {exact⟨j.qs,ZP⟩}
   have GG:=ae QQ.2;have D7:=ae (j.sput (k0:=D) (k1:=C) QQ.1);clear x0 x1 x2 x3 x4;obtain⟨x0,x1,x2,x3,x4⟩:=j.cells;clear hQ QQ hR l o j O ZJ ZN ZO;go_wp2;go_meet;exact⟨_,_,_,_,_,_,_,_,_,by omega,GG,D7⟩
  ·have ro:(z == 1)=ZB:=by simpa using hz
   go_wp2;go_meet;exact⟨_,_,_,_,_,_,_,_,_,by omega,ZP,o⟩
 case rest =>
 clear o ZP;obtain⟨q5,n0,c0,n1,c1,a0,f0,a1,f1,DS,ZP,B⟩:=hcut;generalize wc=W5 at B ⊢;go_upto_region 8 with fail;go_cut [33] (λs wx=>∃(ZY:Bool) (q:Nat),s=.bool ZY/\q<=14001/\Hid (DuS w R ab sb wx q n0 c0 n1 c1 a0 f0 a1 f1 n c a f));case first =>
  by_cases hz:z=2;{subst hz;go_wp2_with fail;refine(ar R _ 4 _ B.rd (by omega) (by omega) (by omega)).mono ?_;rintro e w6 ⟨y,rfl,hy0,hy1,hR,l⟩;have j:=ae (B.ac l hR);clear hR l B;go_wp2;go_meet;exact⟨_,_,rfl,by omega,j⟩}
  ·have ro:(z == 2)=ZB:=by simpa using hz
   go_wp2;go_meet;exact⟨ZB,_,rfl,by omega,B⟩
 case rest =>
 clear B;obtain⟨ZY,q6,rfl,th,j⟩:=hcut;generalize wc=W6 at j ⊢;go_upto_if 33 with fail;go_cut [] (λwx=>∃(q m0 D ZL C:Nat) (b0:Option Addr) (g0:Nat->Source) (ZY:Option Addr) (P:Nat->Target),Hid (DuS w R ab sb wx q m0 D ZL C b0 g0 ZY P n c a f));case first =>
  cases ZY with
  |true =>
   obtain⟨x0,x1,x2,x3,x4⟩:=j.cells;go_wp2_with fail;refine(vR R _ (R+1) n0 c0 n1 c1 a0 f0 a1 f1 _ j.rd (by omega) j.qs.at ZP.2.2 ZP.1 ZP.2.1).mono ?_;rintro e w7 ⟨b0,m0,D,g0,ZY,ZL,C,P,rfl,hH,q7,hq7,hR,l⟩;have Bk:=l.size;have O:=ag j.ax;have ZJ:=ag j.sx;have ZN:=ag j.zs;have ZO:=j.lo;have D7:=ae (j.ac l hR)
   have D8:=ae (D7.sput (k0:=D) (k1:=C) (QSh.new hH (by omega) (λx M=>by
    simp only[BS,nj,NE] at M
    omega)))
   clear x0 x1 x2 x3 x4;obtain⟨x0,x1,x2,x3,x4⟩:=D7.cells;clear hH hR l j D7 O ZJ ZN ZO;go_wp2;go_meet;exact⟨_,_,_,_,_,_,_,_,_,D8⟩
  |false =>go_wp2;go_meet;exact⟨_,_,_,_,_,_,_,_,_,j⟩
 case rest =>
 clear j ZP;obtain⟨q8,n0,c0,n1,c1,a0,f0,a1,f1,j⟩:=hcut;generalize wc=W6 at j ⊢;go_wp2_with fail;have SQ:Hid (∀V,DuS w R ab sb V q8 n0 c0 n1 c1 a0 f0 a1 f1 n c a f->ZW V (Q sb 0 Y)=T (Z a0 n0 c0)/\ZW V (Q sb 1 Y)=T (Z a1 n1 c1)/\ZW V (Q ab 0 Y)=T (Z a n c)):=λV ZZ=>⟨ZZ.cells.1,ZZ.cells.2.1,ZZ.acc.1⟩
 have X:=ae (j.aa br.drew);refine wp_region_held_drew (S:=λV=>ZW V (Q sb 0 Y)=T (Z a0 n0 c0)/\ZW V (Q sb 1 Y)=T (Z a1 n1 c1)/\ZW V (Q ab 0 Y)=T (Z a n c)) (by as_aux_lemma=>kernel_rfl) (SQ _ X) λZQ=>?_;have ZS:=ae ZQ;clear ZQ j;generalize W6.drew=r at X ZS ⊢;iterate 2
  refine aW 0 (v:=?_) rfl rfl (by as_aux_lemma=>kernel_rfl) (λ_ _ _ ZZ=>ZZ) rfl ?_ ZS ?_;rotate_left
  ·(rintro wz ⟨s0,s1,s2⟩;go_simp)
   (try with_reducible rfl)
  (try simp only[Act.put,nzL])
 have ks:=X.zs;have ka:=X.za;have r0:ZW r (Q (A (h w)+1) 0 Y)=T (Z Y 0 0):=by simp[World.cell?,ks]
 have r1:ZW r (Q (A (h w)+1) 1 Y)=T (Z Y 0 0):=by simp[World.cell?,ks]
 have r2:ZW r (Q (A (h w)) 0 Y)=T (Z Y 0 0):=by simp[World.cell?,ka]
 have y0:ZX r (Q (A (h w)+1) 0 Y)=ZB:=by simp[World.frozen?,ks]
 have y1:ZX r (Q (A (h w)+1) 1 Y)=ZB:=by simp[World.frozen?,ks]
 have y2:ZX r (Q (A (h w)) 0 Y)=ZB:=by simp[World.frozen?,ka]
 have l0:=ag ks;have l1:=ag ka;have FR:Hid (Fr [R,A (h w),A (h w)+1,ab,sb] r (ZT (ZT (ZT r (Q (A (h w)) 0 Y) (Z a n c)) (Q (A (h w)+1) 0 Y) (Z a0 n0 c0)) (Q (A (h w)+1) 1 Y) (Z a1 n1 c1))):=((Fr.set (by simp) _).trans (Fr.set (by simp) _)).trans (Fr.set (by simp) _);have At:=ae ((X.qs.fr FR).at.mono (show (A (h w))<=R+1 by have:=X.lo;omega));have DE:=ae (X.qa.fr FR).at;have B9:=ae (((X.bl.setCell (p:=(Q (A (h w)) 0 Y)) ly (Z a n c)).setCell (p:=(Q (A (h w)+1) 0 Y)) (IS _) (Z a0 n0 c0)).setCell (p:=(Q (A (h w)+1) 1 Y)) (IS _) (Z a1 n1 c1));clear ks ka FR;have n9:sb≠A (h w):=by omega
 have DQ:ab≠A (h w):=by omega
 have n7:ab≠A (h w)+1:=by omega
 have H:sb≠A (h w)+1:=by omega
 refine aS (i:=2) rfl (by as_aux_lemma=>kernel_rfl) λK ZM=>?_;go_simp;obtain⟨h1,h2,h3⟩:=ZS.out;clear ZS;have ZS:=ae (show ZW (ZT r (Q (A (h w)) 0 Y) (Z a n c)) (Q sb 0 Y)=T (Z a0 n0 c0)/\ZW (ZT r (Q (A (h w)) 0 Y) (Z a n c)) (Q sb 1 Y)=T (Z a1 n1 c1)/\ZW (ZT r (Q (A (h w)) 0 Y) (Z a n c)) (Q ab 0 Y)=T (Z a n c) from⟨(cell_far _ _ _ _ n9.symm).trans h1,(cell_far _ _ _ _ n9.symm).trans h2,(cell_far _ _ _ _ DQ.symm).trans h3⟩);clear h1 h2 h3;refine ZM _ _ ZS ?_;clear ZM K
 (try simp only[Act.put,nzL])
 refine aS (i:=3) rfl (by as_aux_lemma=>kernel_rfl) λK ZM=>?_;go_simp;refine ZM _ _ ⟨(cell_far _ _ _ _ H.symm).trans ((cell_far _ _ _ _ H.symm).trans ZS.1),(cell_far _ _ _ _ H.symm).trans ((cell_far _ _ _ _ H.symm).trans ZS.2.1),(cell_far _ _ _ _ n7.symm).trans ((cell_far _ _ _ _ n7.symm).trans ZS.2.2)⟩ ?_;clear ZM K
 (try simp only[Act.put,nzL])
 refine wpAnyH_done (by as_aux_lemma=>kernel_rfl) ?_ _;go_wp2;exact bp (v:=.tuple #[ZH #[Z a n c],ZH #[Z a0 n0 c0,Z a1 n1 c1]]) (by simp[results,results8,go_sem,r0,r1,r2]) rfl ⟨_,_,_,_,_,_,_,_,_,_,_,_,rfl,At,DE,HK,B9⟩
