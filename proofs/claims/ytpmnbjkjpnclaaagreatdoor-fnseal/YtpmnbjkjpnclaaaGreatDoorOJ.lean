import Derived.Test.YtpmnbjkjpnclaaaGreatDoorOC
import Derived.Test.YtpmnbjkjpnclaaaGreatDoorOH
import Derived.Test.YtpmnbjkjpnclaaaGreatDoorPZ
import Derived.Test.YtpmnbjkjpnclaaaGreatDoorPL
import Derived.Test.YtpmnbjkjpnclaaaGreatDoorPJ
import Derived.Test.YtpmnbjkjpnclaaaGreatDoorPY
set_option maxRecDepth 100000
set_option maxHeartbeats 8000000
open Go renaming Addr.mk->Q,Value.slice->Z,Value.string->Y,Obj.cells->N,World->M,Ending.returned->ZF,World.heap->J,World.cell?->A
open Option renaming none->U,some->T
open Bool renaming false->ZA
open Array renaming size->I
namespace Go.Proofs.YtpmnbjkjpnclaaaGreatDoor.Vp
open Tryz RowKit Ca
def DAS (w:M)(R q:Nat)(e:Ending)(b:M):Prop:=∃(a0:Option Addr) (n0 c0:Nat) (f0:Nat->Source) (a1:Option Addr) (n1 c1:Nat) (f1:Nat->Target) (a:Option Addr) (n c:Nat) (f:Nat->Deed),e=ZF (.tuple #[.agg #[Z a n c],.agg #[Z a0 n0 c0,Z a1 n1 c1]])/\HSg (I (J w)) b a0 n0 f0 a1 n1 f1/\HAc (I (J w)) b a n c f/\(n<=451/\∀i,i<n->FitK 1 (f i))/\∃q':Nat,q'<=q/\Rd b R q'/\Only R w b
theorem Dv (R p:Nat)(w:M)(hR:Rd w R p)(hp:p<=3000):Calls Tryz.prog 65 #[.pointer (T (Q R 0 U))] w λe w'=>DAS w R (p+9500) e w':=by
 have HR:=ae hR;have ZK:=hR.lt;obtain⟨W0,P⟩:∃W:M,(w.alloc (N #[Z U 0 0] 37)).alloc (N #[Z U 0 0,Z U 0 0] 27)=W:=⟨_,rfl⟩
 obtain⟨A0,KA,KS,hzA⟩:=nb2 P;have bt:=ae P;clear P;clear hR;go_enter func65,ntmps65;go_wp2_with fail;rw[bt.out];clear bt;refine(Ar R p _ (HR.aa A0 ly) (by omega)).mono ?_;rintro e t ⟨a0,n0,c0,f0,a1,n1,c1,f1,a,n,c,f,rfl,hS,ZQ,hn,hf,q1,hq1,fd,ZN⟩;have hs1:=ZN.size;obtain⟨W1,ZJ⟩:∃W:M,(t.alloc (N #[Z a0 n0 c0,Z a1 n1 c1] 27)).alloc (N #[Z a n c] 37)=W:=⟨_,rfl⟩
 obtain⟨D,ZR,-,-⟩:=nb2 ZJ;replace ZR:=ZR.out;replace D:=D.out;have ZL:=ae ZJ;clear ZJ;have D1:Hid (Dr2 [I (J t)+1,R,I (J w)+1,I (J w),I (J t)] w R (I (J w)+1) (I (J w)) (I (J t)) (I (J t)+1) W1 q1 n0 c0 n1 c1 a0 f0 a1 f1 n c a f):=by
  cases ZL.out
  refine⟨⟨fd.aa D ly,((Only.u A0).trans ZN).trans (Only.u D),(D.block _ (by omega)).trans ((ZN.block _ (by omega) (by omega)).trans KS),(D.block _ (by omega)).trans ((ZN.block _ (by omega) (by omega)).trans KA),ZR,⟨I (J W0),t,by omega,hS,dX D ly,?_⟩,ZK,by omega,by omega,by omega⟩,US t _ _,⟨I (J W0),t,by omega,ZQ,dX D ly,?_⟩,by omega⟩;all_goals
   intro x G;simp only[AT,nj,QZ] at G;omega
 have HF:=ae hf;clear D ZR hS ZQ hf fd ZN A0 KS KA HR;have At:I (J w)+2<=I (J t):=by omega
 go_upto_region 2 with fail;rw[ZL.out];clear ZL;generalize DE:I (J t)+1=ab at D1 ⊢;have hab2:I (J w)+3<=ab:=by omega
 have ro:I (J t)<ab:=by omega
 clear DE;generalize (I (J t))=sb at D1 At ro ⊢;go_wp2_with fail;refine(au R _ 5 _ D1.d.rd (by omega) (by omega) (by omega)).mono ?_;rintro e w2 ⟨z,rfl,hz0,hz1,hR,r⟩;have L:=ae (D1.F r hR (by simp));clear hR r D1;go_upto_if 14 with fail;go_cut [] (λwx=>∃(q m0 C X B m k:Nat) (b0:Option Addr) (O:Nat->Source) (ZM:Option Addr) (ZO:Nat->Target) (b:Option Addr) (g:Nat->Deed),q<=p+5600/\m<=400/\Hid (∀i,i<m->FitI (g i))/\Hid (Dr2 [ab,R,I (J w)+1,I (J w),sb] w R (I (J w)+1) (I (J w)) sb ab wx q m0 C X B b0 O ZM ZO m k b g));case first =>
  by_cases hz:z=0
  ·subst hz;go_wp2_with fail;refine(tM R _ _ L.d.rd (by omega)).mono ?_;rintro e w3 ⟨b0,m0,C,O,ZM,X,B,ZO,rfl,hH,q3,ur,hR,r⟩;have hz3:=r.size;have ld:=ag L.ax;have qr:=ag L.d.sx;have ph:=ag L.d.zs;have H:=ae (L.F r hR (by simp))
   have j:=ae (H.sput (k0:=C) (k1:=B) (by simp) (by omega) (QSp.new hH (by omega) (λx G=>by
    simp only[AT,nj,QZ] at G
    omega)))
   obtain⟨ZI,x1,x2,x3,x4⟩:=H.d.cells;clear hH hR r L H;go_upto_region 4 with fail;generalize World.setCell (World.setCell w3 _ _) _ _=W4 at j ⊢;clear ZI x1 x2 x3 x4;obtain⟨ZI,x1,x2,x3,x4⟩:=j.d.cells;go_wp2_with fail;refine(rO (I (J w)) m0 C X B b0 O ZM ZO _ ⟨#[116,52]⟩ j.d.qs.at.1).mono ?_;rintro e w5 ⟨b,m,k,g,kk,tt,ra,rn,rc,rfl,ZQ,hm,hg,hB⟩;have DS:=hB.size;have hl4:=ag j.ax;have hl5:=ag j.d.zs;have mv:=j.d.o.size;have l:=ae (j.aa hB (by simp))
   have u:=ae (l.put (by simp) (by omega) (QAc.new ZQ (by omega) (λx G=>by
    simp only[AT,nj,QZ] at G
    omega)))
   obtain⟨y0,y1,y2⟩:=l.acc;have HG:=ae hg;clear ZQ hB hg j l ZI x1 x2 x3 x4;go_wp2;go_meet;exact⟨_,_,_,_,_,m,k,_,_,_,_,b,g,by omega,hm,HG,u⟩
  ·have hzb:(z == 0)=ZA:=by simpa using hz
   go_wp2;go_meet;exact⟨_,_,_,_,_,n,c,_,_,_,_,a,f,by omega,hn,HF,L⟩
 case rest =>
 clear L HF hn;obtain⟨q3,n0,c0,n1,c1,n,c,a0,f0,a1,f1,a,f,ur,hn,HF,H⟩:=hcut;generalize wc=W3 at H ⊢;go_wp2_with fail;refine(au R _ 8 _ H.d.rd (by omega) (by omega) (by omega)).mono ?_;rintro e w4 ⟨y,rfl,hy0,hy1,hR,r⟩;have j:=ae (H.F r hR (by simp));clear hR r H;go_upto_if 25 with fail;go_cut [] (λwx=>∃(q m k:Nat) (b:Option Addr) (g:Nat->Deed),q<=p+6800/\Hid (m<=451/\∀i,i<m->FitK 1 (g i))/\Hid (Dr2 [ab,R,I (J w)+1,I (J w),sb] w R (I (J w)+1) (I (J w)) sb ab wx q n0 c0 n1 c1 a0 f0 a1 f1 m k b g));case first =>
  by_cases hy:y=0
  ·subst hy;obtain⟨y0,y1,y2⟩:=j.acc;go_wp2_with fail;refine(Dn Ao 0 1 (by omega) (by omega) R _ a n c f _ (j.qa.at.sl _ (Agr.refl _ _)) (λi hi=>(HF i hi).k) (by omega) j.d.rd (by omega)).mono ?_;rintro e w5 ⟨b,m,k,g,rfl,ZQ,⟨q5,sm,hR,r⟩,dg,n9⟩;have HK:=ae (And.intro dg n9);clear dg n9;have DS:=r.size;have ld:=ag j.ax;have qr:=ag j.d.sx;have ph:=ag j.d.zs;have mv:=j.d.o.size;have l:=ae (j.F r hR (by simp))
   have u:=ae (l.put (by simp) (by omega) (QAc.new ZQ (by omega) (λx G=>by
    simp only[AT,nj,QZ] at G
    omega)))
   clear y0 y1 y2;obtain⟨y0,y1,y2⟩:=l.acc;clear ZQ hR r j l;go_wp2;go_meet;exact⟨_,m,k,b,g,by omega,HK,u⟩
  ·have th:(y == 0)=ZA:=by simpa using hy
   go_wp2;go_meet;exact⟨_,n,c,a,f,by omega,⟨by omega,λi hi=>(HF i hi).k⟩,j⟩
 case rest =>
 clear j HF hn;obtain⟨q4,n,c,a,f,hq4,HK,l⟩:=hcut;generalize wc=W5 at l ⊢;go_upto_if 30 with fail;go_cut [] (λwx=>∃(q m0 C X B:Nat) (b0:Option Addr) (O:Nat->Source) (ZM:Option Addr) (ZO:Nat->Target),q<=p+9500/\Hid (Dr2 [ab,R,I (J w)+1,I (J w),sb] w R (I (J w)+1) (I (J w)) sb ab wx q m0 C X B b0 O ZM ZO n c a f));case first =>
  by_cases hy:y=1
  ·subst hy;obtain⟨ZI,x1,x2,x3,x4⟩:=l.d.cells;go_wp2_with fail;refine(vW R _ (I (J w)) n0 c0 n1 c1 a0 f0 a1 f1 _ l.d.rd (by omega) ZK l.d.qs.at).mono ?_;rintro e w6 ⟨b0,m0,C,O,ZM,X,B,ZO,rfl,hQ,q6,hq6,hR,r⟩;have hz6:=r.size;have ld:=ag l.ax;have qr:=ag l.d.sx;have ph:=ag l.d.zs;have mv:=l.d.o.size;have u:=ae (l.F r hR (by simp));have QQ:QSp (I (J w)) [ab,R,I (J w)+1,I (J w),sb] w6 b0 m0 O ZM X ZO:=by
    rcases hQ with hH|⟨rfl,rfl,rfl,rfl,rfl,rfl⟩
    ·exact QSp.new hH (by omega) (λx G=>by
      simp only[AT,nj,QZ] at G
      omega)
    {exact u.d.qs}
   have D7:=ae (u.sput (k0:=C) (k1:=B) (by simp) (by omega) QQ);clear ZI x1 x2 x3 x4;obtain⟨ZI,x1,x2,x3,x4⟩:=u.d.cells;clear hQ QQ hR r l u;go_wp2;go_meet;exact⟨_,_,_,_,_,_,_,_,_,by omega,D7⟩
  ·have th:(y == 1)=ZA:=by simpa using hy
   go_wp2;go_meet;exact⟨_,_,_,_,_,_,_,_,_,by omega,l⟩
 case rest =>
 clear l;obtain⟨q5,n0,c0,n1,c1,a0,f0,a1,f1,sm,u⟩:=hcut;generalize wc=W6 at u ⊢;go_wp2_with fail;have SQ:Hid (∀V,Dr2 [ab,R,I (J w)+1,I (J w),sb] w R (I (J w)+1) (I (J w)) sb ab V q5 n0 c0 n1 c1 a0 f0 a1 f1 n c a f->A V (Q sb 0 U)=T (Z a0 n0 c0)/\A V (Q sb 1 U)=T (Z a1 n1 c1)/\A V (Q ab 0 U)=T (Z a n c)):=λV h=>⟨h.d.cells.1,h.d.cells.2.1,h.acc.1⟩
 have ZP:=ae (u.aa br.drew (by simp));refine wp_region_held_drew (S:=λV=>A V (Q sb 0 U)=T (Z a0 n0 c0)/\A V (Q sb 1 U)=T (Z a1 n1 c1)/\A V (Q ab 0 U)=T (Z a n c)) (by as_aux_lemma=>kernel_rfl) (SQ _ ZP) λhS=>?_;have E:=ae hS;clear hS u;generalize W6.drew=s at ZP E ⊢;iterate 2
  refine bI 0 (v:=?_) rfl rfl (by as_aux_lemma=>kernel_rfl) (λ_ _ _ h=>h) rfl ?_ E ?_;rotate_left
  ·(rintro wz ⟨s0,s1,s2⟩;go_simp)
   (try with_reducible rfl)
  (try simp only[Act.put,nzL])
 have ZR:=ZP.d.zs;have ka:=ZP.d.za;have r0:A s (Q (I (J w)+1) 0 U)=T (Z U 0 0):=by simp[World.cell?,ZR]
 have r1:A s (Q (I (J w)+1) 1 U)=T (Z U 0 0):=by simp[World.cell?,ZR]
 have r2:A s (Q (I (J w)) 0 U)=T (Z U 0 0):=by simp[World.cell?,ka]
 have y0:s.frozen? (Q (I (J w)+1) 0 U)=ZA:=by simp[World.frozen?,ZR]
 have y1:s.frozen? (Q (I (J w)+1) 1 U)=ZA:=by simp[World.frozen?,ZR]
 have y2:s.frozen? (Q (I (J w)) 0 U)=ZA:=by simp[World.frozen?,ka]
 have l0:=ag ZR;have l1:=ag ka;have B3:=ae ((((dB (I (J w)) s).setCell (p:=(Q (I (J w)) 0 U)) ly (Z a n c)).setCell (p:=(Q (I (J w)+1) 0 U)) (F6 _) (Z a0 n0 c0)).setCell (p:=(Q (I (J w)+1) 1 U)) (F6 _) (Z a1 n1 c1));have FR:Hid (Fr [ab,R,I (J w)+1,I (J w),sb] s (((s.setCell (Q (I (J w)) 0 U) (Z a n c)).setCell (Q (I (J w)+1) 0 U) (Z a0 n0 c0)).setCell (Q (I (J w)+1) 1 U) (Z a1 n1 c1))):=((Fr.set (by simp) _).trans (Fr.set (by simp) _)).trans (Fr.set (by simp) _);have Fd:=ae (ZP.d.qs.fr FR).at;have Bk:=ae (ZP.qa.fr FR).at;have R9:=ae (ZP.d.rd.low B3 ZK);have O9:=ae (ZP.d.o.then B3);clear ZR ka B3 FR;have la:sb≠I (J w):=by omega
 have DH:ab≠I (J w):=by omega
 have aq:ab≠I (J w)+1:=by omega
 have F:sb≠I (J w)+1:=by omega
 refine aS (i:=2) rfl (by as_aux_lemma=>kernel_rfl) λK hK=>?_;go_simp;obtain⟨h1,h2,h3⟩:=E.out;clear E;have E:=ae (show(s.setCell (Q (I (J w)) 0 U) (Z a n c)).cell? (Q sb 0 U)=T (Z a0 n0 c0)/\(s.setCell (Q (I (J w)) 0 U) (Z a n c)).cell? (Q sb 1 U)=T (Z a1 n1 c1)/\(s.setCell (Q (I (J w)) 0 U) (Z a n c)).cell? (Q ab 0 U)=T (Z a n c) from⟨(cell_far _ _ _ _ la.symm).trans h1,(cell_far _ _ _ _ la.symm).trans h2,(cell_far _ _ _ _ DH.symm).trans h3⟩);clear h1 h2 h3;refine hK _ _ E ?_;clear hK K
 (try simp only[Act.put,nzL])
 refine aS (i:=3) rfl (by as_aux_lemma=>kernel_rfl) λK hK=>?_;go_simp;refine hK _ _ ⟨(cell_far _ _ _ _ F.symm).trans ((cell_far _ _ _ _ F.symm).trans E.1),(cell_far _ _ _ _ F.symm).trans ((cell_far _ _ _ _ F.symm).trans E.2.1),(cell_far _ _ _ _ aq.symm).trans ((cell_far _ _ _ _ aq.symm).trans E.2.2)⟩ ?_;clear hK K
 (try simp only[Act.put,nzL])
 refine wpAnyH_done (by as_aux_lemma=>kernel_rfl) ?_ _;go_wp2;exact bp (v:=.tuple #[.agg #[Z a n c],.agg #[Z a0 n0 c0,Z a1 n1 c1]]) (by simp[results,results65,go_sem,r0,r1,r2]) rfl ⟨_,_,_,_,_,_,_,_,_,_,_,_,rfl,Fd,Bk,HK,q5,by omega,R9,O9⟩
structure DpS (w:M)(R ab:Nat)(W:M)(q n c:Nat)(a:Option Addr)(f:Nat->Deed):Prop where
 rd:Rd W R q
 bl:Below (I (J w)) w W
 z:W.heap[I (J w)]?=T (N #[Z U 0 0] 37 (0,0))
 x:W.heap[ab]?=T (N #[Z a n c] 37 (0,0))
 qa:QAc (I (J w)) [R,I (J w),ab] W a n c f
 lo:I (J w)<R/\R<ab
section
variable {w W W':M}{R ab q q' n c:Nat}{a:Option Addr}{f:Nat->Deed}
theorem DpS.F (h:DpS w R ab W q n c a f)(b:Only R W W')(hR:Rd W' R q'):DpS w R ab W' q' n c a f:=by have hl:=h.lo;exact⟨hR,h.bl.trans (b.aa (by omega) h.bl.size),(b.block _ (ag h.z) (by omega)).trans h.z,(b.block _ (ag h.x) (by omega)).trans h.x,h.qa.fr (Fr.F b (by simp)),h.lo⟩
theorem DpS.aa (h:DpS w R ab W q n c a f)(b:Below (I (J W)) W W'):DpS w R ab W' q n c a f:=h.F (Only.u b) (h.rd.aa b ly)
theorem DpS.acc (h:DpS w R ab W q n c a f):A W (Q ab 0 U)=T (Z a n c):=by have hb:=h.x;simp[World.cell?,hb]
end
theorem wD (ac:Option Addr)(t cap:Nat)(w:M)(hn:(t:Int)<=1048576)(hc:t<=cap)(ZJ:ByteSl w ac t):Calls Tryz.prog 73 #[Z ac t cap] w λe w'=>DFa w e w':=by
 have V:=ae ZJ;clear ZJ;obtain⟨W0,o⟩:∃W:M,w.alloc (N #[Z U 0 0] 37)=W:=⟨_,rfl⟩
 obtain⟨ZQ,ZO,hzA⟩:=nb1 o;have D:=ae o;clear o;go_enter func73,ntmps73;go_wp2_with fail;rw[D.out];clear D;refine(lV ac t cap W0 hn hc (V.aa ZQ ly)).mono ?_;rintro e w1 ⟨R,rfl,hRz,s,i⟩;have P:=ae s;have ZN:=ae (ZQ.trans (i.mono (by omega)));have X:=ae ((i.block (I (J w)) (by omega)).trans ZO);have hs1:=i.size;have hRl:=s.lt;clear s i ZQ ZO V;go_wp2_with fail;refine(Dv R 0 _ P (by omega)).mono ?_;rintro e C ⟨a0,n0,c0,f0,a1,n1,c1,f1,a,n,c,f,rfl,-,ZL,-,ZK,hq2,G,h⟩;have hs2:=h.size;obtain⟨W2,ZR⟩:∃W:M,(C.alloc (N #[Z a n c] 37)).alloc (N #[Z a0 n0 c0,Z a1 n1 c1] 27)=W:=⟨_,rfl⟩
 obtain⟨m,H,-,-⟩:=nb2 ZR;have F:=ae ZR;clear ZR;have B:Hid (DpS w R (I (J C)) W2 ZK n c a f):=by refine⟨G.aa m ly,(ZN.trans (h.aa (by omega) ZN.size)).trans (m.out.mono (by omega)),(m.out.block _ (by omega)).trans ((h.block _ (by omega) (by omega)).trans X),H,⟨I (J w1),C,by omega,ZL,dX m ly,λx ZI=>?_⟩,by omega,by omega⟩;simp only[AT,nj,QZ] at ZI;omega
 clear m H ZL G h ZN X P;go_upto_region 3 with fail;rw[F.out];clear F;generalize (I (J C))=ab at B ⊢;go_wp2_with fail;refine(au R _ 40 _ B.rd (by omega) (by omega) (by omega)).mono ?_;rintro e O ⟨z,rfl,hz0,hz1,hR,u⟩;have b:=ae (B.F u hR);clear hR u B;by_cases hz:z=0
 ·subst hz;go_wp2_with fail;refine(au R _ 3 _ b.rd (by omega) (by omega) (by omega)).mono ?_;rintro e w4 ⟨y,rfl,hy0,hy1,hR,u⟩;have r:=ae (b.F u hR);clear hR u b;have hw:IntKind.i64.wrap (y - 1)=y - 1:=by rw[p9];omega
  go_wp2_with fail;refine(Aw (y - 1) (by omega) (by omega) _).mono ?_;rintro e ZM ⟨ZP,K,c5,f5,rfl,E,q⟩;have g:=(q.block _ (ag r.z)).trans r.z;have l:=ag r.z;have r0:A ZM (Q (I (J w)) 0 U)=T (Z U 0 0):=by simp[World.cell?,g]
  have y0:ZM.frozen? (Q (I (J w)) 0 U)=ZA:=by simp[World.frozen?,g]
  have l0:=ag g;have HE:=ae ((E.agr (rB (j:=0) l (Z ZP K c5))).mono (P0 l));have L:=ae ((r.bl.trans (q.mono (P0 l))).setCell (p:=(Q (I (J w)) 0 U)) ly (Z ZP K c5));clear g E q r;go_wp2;exact bp (v:=.agg #[Z ZP K c5]) (by simp[results,results73,go_sem,r0]) rfl ⟨_,_,_,_,rfl,HE,L⟩
 ·have hzb:(z == 0)=ZA:=by simpa using hz
  have g:=b.z;have x0:=b.acc;have r0:A O (Q (I (J w)) 0 U)=T (Z U 0 0):=by simp[World.cell?,g]
  have y0:O.frozen? (Q (I (J w)) 0 U)=ZA:=by simp[World.frozen?,g]
  have l0:=ag g;have l1:=ag b.x;have L:=ae (b.bl.setCell (p:=(Q (I (J w)) 0 U)) ly (Z a n c));have S:=ae (b.qa.fr (Fr.set (x:=I (J w)) (j:=0) (by simp) (Z a n c))).at;clear g b;go_wp2;exact bp (v:=.agg #[Z a n c]) (by simp[results,results73,go_sem,r0]) rfl ⟨_,_,_,_,rfl,S,L⟩
def DSl (w:M)(e:Ending)(b:M):Prop:=∃(a:Option Addr) (n c:Nat) (f:Nat->Deed) (k:ByteArray),e=ZF (.tuple #[.agg #[Z a n c],Y k])/\HAc (I (J w)) b a n c f/\k.size<=5000/\Below (I (J w)) w b
def SbS (ab:Nat)(a:Option Addr)(n c:Nat)(V:M):Prop:=A V (Q ab 0 U)=T (Z a n c)/\ab<I (J V)
theorem DpS.sb {w W:M}{R ab q n c:Nat}{a:Option Addr}{f:Nat->Deed}(h:DpS w R ab W q n c a f):SbS ab a n c W:=⟨h.acc,ag h.x⟩
theorem nH (ac:Option Addr)(O cap:Nat)(w:M)(hn:(O:Int)<=1048576)(hc:O<=cap)(hS:ByteSl w ac O):Calls Tryz.prog 22 #[Z ac O cap] w λe w'=>DSl w e w':=by
 have S0:=ae hS;clear hS;obtain⟨W0,ZL⟩:∃W:M,w.alloc (N #[Z U 0 0] 37)=W:=⟨_,rfl⟩
 obtain⟨A0,KA,hzA⟩:=nb1 ZL;have fd:=ae ZL;clear ZL;go_enter func22,ntmps22;go_wp2_with fail;rw[fd.out];clear fd;refine(lV ac O cap W0 hn hc (S0.aa A0 ly)).mono ?_;rintro e w1 ⟨R,rfl,hRz,X,ZN⟩;have S1:=ae ((S0.aa A0 ly).aa ZN ly);have R1:=ae X;have B1:=ae (A0.trans (ZN.mono (by omega)));have K1:=ae ((ZN.block (I (J w)) (by omega)).trans KA);have hs1:=ZN.size;have hRl:=X.lt;clear X ZN A0 KA S0;go_wp2_with fail;refine(wD ac O cap w1 hn hc S1).mono ?_;rintro e w2 ⟨a,n,c,f,rfl,hA,F⟩;have hs2:=F.size;obtain⟨W2,bt⟩:∃W:M,w2.alloc (N #[Z a n c] 37)=W:=⟨_,rfl⟩
 obtain⟨ZM,ph,-⟩:=nb1 bt;have n9:=ae bt;clear bt;have D1:Hid (DpS w R (I (J w2)) W2 0 n c a f):=by refine⟨(R1.aa F ly).aa ZM ly,(B1.trans (F.mono (by omega))).trans (ZM.out.mono (by omega)),(ZM.out.block _ (by omega)).trans ((F.block _ (by omega)).trans K1),ph,⟨I (J w1),w2,by omega,hA,dX ZM ly,λx hx=>?_⟩,by omega,by omega⟩;simp only[AT,nj,QZ] at hx;omega
 clear ZM ph hA F B1 K1 R1 S1;go_upto_region 3 with fail;rw[n9.out];clear n9;generalize (I (J w2))=ab at D1 ⊢;go_wp2_with fail;have ZI:=ae (D1.aa br.drew);refine wp_region_held_drew (S:=SbS ab a n c) (by kernel_rfl) ZI.sb λhS=>?_;have g:=ae hS;clear hS D1;generalize W2.drew=v3 at ZI g ⊢;iterate 2
  refine bI 0 (v:=?_) rfl rfl (by kernel_rfl) (λ_ _ _ h=>h) rfl ?_ g ?_;rotate_left
  ·(rintro wz ⟨s0,s1⟩;go_simp)
   (try with_reducible rfl)
  (try simp only[Act.put,nzL])
 refine bI 6 (v:=?_) rfl rfl (by kernel_rfl) (λ_ _ _ h=>h) rfl ?_ g ?_;rotate_left
 ·(rintro wz ⟨s0,s1⟩;go_simp)
  (try with_reducible rfl)
 (try simp only[Act.put,nzL])
 refine aS (i:=2) rfl (by kernel_rfl) λK b=>?_;go_simp;go_at_call 40;refine(au R _ 2 _ ZI.rd (by omega) (by omega) (by omega)).mono ?_;rintro e v4 ⟨y,rfl,hy0,hy1,hR,hO⟩;have ZP:=ae (ZI.F hO hR);clear hR hO ZI g;have g:=ae ZP.sb;refine b _ _ g ?_;clear b K
 (try simp only[Act.put,nzL])
 obtain⟨m0,sm⟩:∃m0:Nat,60+y=(m0:Int):=⟨(60+y).toNat,by omega⟩
 have th:IntKind.i64.wrap (m0:Int)=(m0:Int):=by rw[p9];omega
 refine aS (i:=3) rfl (by kernel_rfl) λK b=>?_;go_simp;refine b _ _ g ?_;clear b K
 (try simp only[Act.put,nzL])
 refine aS (i:=4) rfl (by kernel_rfl) λK b=>?_;go_simp;go_at_call 74;refine(eP ⟨#[107]⟩ m0 _ (by show 1*m0<=4000;omega) (by omega)).mono ?_;rintro e v6 ⟨t,rfl,ht,hw⟩;rw[hw];have ld:t.size<=5000:=p7 ht (by show 1*m0<=5000;omega);clear ht hw th sm;refine b _ _ g ?_;clear b K
 (try simp only[Act.put,nzL])
 have hlo:=ZP.lo;have hl4:=ag ZP.x;refine pc (i:=5) (j:=7) rfl rfl (by kernel_rfl) (λK b=>?_) λK b=>?_;focus
  go_simp;obtain⟨u,ZJ⟩:∃W:M,v4.alloc (N #[Y ⟨#[107]⟩,Y ⟨#[]⟩,Y ⟨#[107,101,121]⟩,Y t] 9)=W:=⟨_,rfl⟩
  obtain⟨A5,HL,-⟩:=nb1 ZJ;rw[ZJ];clear ZJ;have l:=ae (ZP.aa A5);have ZO:I (J v4)≠R/\(I (J w))<I (J v4):=by omega
  clear A5 g ZP;generalize (I (J v4))=s at HL ZO ⊢;have g:=ae l.sb;refine b _ _ g ?_;clear b K
  (try simp only[Act.put,nzL])
  refine aS (i:=7) rfl (by kernel_rfl) λK b=>?_;go_simp;go_at_call 40;refine(au R _ 4 _ l.rd (by omega) (by omega) (by omega)).mono ?_;rintro e ZR ⟨z4,rfl,ZQ,qr,D,C⟩;obtain⟨m,rfl⟩:=AS ZQ;have hm:m<4:=by omega
  have L:=ae (l.F C D);have o:=ae ((C.block s (ag HL.out) ZO.1).trans HL);clear C D l g HL;have g:=ae L.sb;refine b _ _ g ?_;clear b K
  (try simp only[Act.put,nzL])
 rotate_left;focus
  go_simp;go_at_call 40;refine(au R _ 4 _ ZP.rd (by omega) (by omega) (by omega)).mono ?_;rintro e u ⟨z4,rfl,ZQ,qr,D,C⟩;obtain⟨m,rfl⟩:=AS ZQ;have hm:m<4:=by omega
  have l:=ae (ZP.F C D);clear C D ZP g;have g:=ae l.sb;refine b _ _ g ?_;clear b K
  (try simp only[Act.put,nzL])
  refine pc (i:=5) (j:=10) rfl rfl (by kernel_rfl) (λK b=>?_) λK b=>?_;rotate_left
  ·have B:=l.z
   have r0:A u (Q (I (J w)) 0 U)=T (Z U 0 0):=by simp[World.cell?,B]
   have y0:u.frozen? (Q (I (J w)) 0 U)=ZA:=by simp[World.frozen?,B]
   have l0:=ag B;have kz:=ae (bW (j:=0) B (Z a n c));have P:=ae (l.bl.setCell (p:=(Q (I (J w)) 0 U)) ly (Z a n c));have H:=ae (l.qa.fr (Fr.set (x:=I (J w)) (j:=0) (by simp) (Z a n c))).at;have dg:ab≠I (J w):=by omega
   have kx:=ae ((qh u (Q (I (J w)) 0 U) (Z a n c) ab dg).trans l.x);have q:Hid (SbS ab a n c (u.setCell (Q (I (J w)) 0 U) (Z a n c))):=⟨by simp[World.cell?,kx.out],ag kx.out⟩
   go_simp;clear B g l;generalize World.setCell u _ _=u1 at kz P H kx q ⊢;refine b _ _ q ?_;clear b K q
   (try simp only[Act.put,nzL])
   refine aS (i:=5) rfl (by kernel_rfl) λK b=>?_;go_simp;obtain⟨ZR,r⟩:∃W:M,u1.alloc (N #[Y ⟨#[107]⟩,Y ⟨#[]⟩,Y ⟨#[107,101,121]⟩,Y t] 9)=W:=⟨_,rfl⟩
   obtain⟨G,o,-⟩:=nb1 r;rw[r];clear r;have V:=(G.out.block _ (ag kz.out)).trans kz;have ZK:=(G.out.block _ (ag kx.out)).trans kx;have ro:=ae (H.agr (dX G ly));have At:=ae (P.trans (G.out.mono P.size));have mv:Hid (SbS ab a n c ZR):=⟨by simp[World.cell?,ZK],ag ZK⟩
   have rz:A ZR (Q (I (J w)) 0 U)=T (Z a n c):=by simp[World.cell?,V]
   have lz:=ag V;clear G H P kz kx V ZK;generalize (I (J u1))=s at o ⊢;refine b _ _ mv ?_;clear b K
   (try simp only[Act.put,nzL])
   obtain⟨zz,aq,la⟩:=pB o (by decide) (by decide) (by decide) ld m hm;have ll:=ag o.out;have ur:(m:Int)<4:=by omega
   iterate 3
    refine rh 8 rfl rfl (by kernel_rfl) λK b=>?_;go_simp;refine b _ _ mv ?_;clear b K
    (try simp only[Act.put,nzL])
   refine wpAnyH_done (by kernel_rfl) ?_ _;go_wp2;exact bp (v:=.tuple #[.agg #[Z a n c],Y zz]) (by simp[results,results22,go_sem,rz]) rfl ⟨_,_,_,_,_,rfl,ro,aq,At⟩
  go_simp;obtain⟨ZR,r⟩:∃W:M,u.alloc (N #[Y ⟨#[107]⟩,Y ⟨#[]⟩,Y ⟨#[107,101,121]⟩,Y t] 9)=W:=⟨_,rfl⟩
  obtain⟨G,o,-⟩:=nb1 r;rw[r];clear r;have L:=ae (l.aa G);have ZO:I (J u)≠R/\(I (J w))<I (J u):=by have:=l.rd.lt;omega
  clear G g l;generalize (I (J u))=s at o ZO ⊢;have g:=ae L.sb;refine b _ _ g ?_;clear b K
  (try simp only[Act.put,nzL])
 all_goals
  obtain⟨zz,aq,la⟩:=pB o (by decide) (by decide) (by decide) ld m hm;have ur:(m:Int)<4:=by omega
  refine bI 8 (v:=?_) rfl rfl (by kernel_rfl) (λ_ _ _ h=>h) rfl ?_ g ?_;rotate_left
  ·(rintro wz ⟨s0,s1⟩;go_simp)
   (try with_reducible rfl)
  (try simp only[Act.put,nzL])
  have B:=L.z;have r0:A ZR (Q (I (J w)) 0 U)=T (Z U 0 0):=by simp[World.cell?,B]
  have y0:ZR.frozen? (Q (I (J w)) 0 U)=ZA:=by simp[World.frozen?,B]
  have l0:=ag B;have P:=ae (L.bl.setCell (p:=(Q (I (J w)) 0 U)) ly (Z a n c));have H:=ae (L.qa.fr (Fr.set (x:=I (J w)) (j:=0) (by simp) (Z a n c))).at;have dg:ab≠I (J w):=by omega
  have q:Hid (SbS ab a n c (ZR.setCell (Q (I (J w)) 0 U) (Z a n c))):=⟨(cq (a:=(Q ab 0 U)) (qh ZR (Q (I (J w)) 0 U) _ ab dg)).trans g.1,by have:=g.2;simpa using this⟩
  have hz2:(ZR.setCell (Q (I (J w)) 0 U) (Z a n c)).cell? (Q s m U)=T (Y zz):=(cq (a:=(Q s m U)) (qh ZR (Q (I (J w)) 0 U) _ s (by show s≠I (J w);omega))).trans la;have ll:=ag o.out;clear B L;refine pc (i:=9) (j:=10) rfl rfl (by kernel_rfl) (λK b=>?_) λK b=>?_
  focus
   go_simp;refine b _ _ g ?_;clear b K
   (try simp only[Act.put,nzL])
   refine aS (i:=10) rfl (by kernel_rfl) λK b=>?_;go_simp;refine b _ _ q ?_;clear b K
   (try simp only[Act.put,nzL])
  rotate_left
  focus
   go_simp;refine b _ _ q ?_;clear b K
   (try simp only[Act.put,nzL])
   refine aS (i:=9) rfl (by kernel_rfl) λK b=>?_;go_simp;refine b _ _ q ?_;clear b K
   (try simp only[Act.put,nzL])
  all_goals
   refine aS (i:=11) rfl (by kernel_rfl) λK b=>?_;go_simp;refine b _ _ q ?_;clear b K
   (try simp only[Act.put,nzL])
   refine wpAnyH_done (by kernel_rfl) ?_ _;go_wp2;exact bp (v:=.tuple #[.agg #[Z a n c],Y zz]) (by simp[results,results22,go_sem,r0]) rfl ⟨_,_,_,_,_,rfl,H,aq,P⟩
def DUn (w:M)(e:Ending)(b:M):Prop:=∃(t k:ByteArray),e=ZF (.tuple #[Y t,Y k])/\(t.size:Int)<=700000/\(k.size:Int)<=6000/\Below (I (J w)) w b
theorem qM (f:Nat->Deed)(n:Nat)(k:ByteArray):((df ⟨(bF f n).toArray⟩ k).size:Int)<=300017:=by
 have h:=tk f n;unfold df;split;{show(0:Int)<=_;omega};{split;{show(0:Int)<=_;omega};{rw[IH,jE];omega}}
theorem rT (ac:Option Addr)(g cap:Nat)(w:M)(hn:(g:Int)<=1048576)(ZO:g<=cap)(ZN:ByteSl w ac g):Calls Tryz.prog 27 #[Z ac g cap] w λe ZM=>DUn w e ZM:=by
 have H:=ae ZN;clear ZN;go_enter func27,ntmps27;go_wp2_with fail;refine(lV ac g cap w hn ZO H).mono ?_;rintro e X ⟨R,rfl,x,B,o⟩;have ZQ:=ae (H.aa o ly);have ZP:=ae B;have p:=ae o;clear B o H;go_wp2_with fail;refine(nH ac g cap X hn ZO ZQ).mono ?_;rintro e P ⟨a,n,c,f,k,rfl,h,hk,b⟩;have hn2:=h.hn;obtain⟨C,m⟩:∃W:M,P.alloc (N #[Z a n c] 37)=W:=⟨_,rfl⟩
 obtain⟨r,F,-⟩:=nb1 m;have y:=ae m;have G:=ae (j8 a n c f k C (by omega) (by omega) (h.sl C (dX r ly)) (λi hi=>(h.ad i hi).fits) (λi hi=>(h.ad i hi).sized));have O:=qM f n k;generalize df ⟨(bF f n).toArray⟩ k=s at G O;have K:=ae ((ZP.aa b ly).aa r ly);have E:=ae ((p.trans (b.mono p.size)).trans (r.out.mono (p.trans (b.mono p.size)).size));clear h b ZP p ZQ m r;go_upto_region 3 with fail;rw[y.out];clear y;have V:A C (Q (I (J P)) 0 U)=T (Z a n c):=by simp[World.cell?,F.out]
 have S:=ag F.out;go_wp2_with fail;refine G.out.mono ?_;rintro e w3 ⟨rfl,l⟩;have L:=ae (K.aa l ly);have D:=ae (E.trans (l.mono E.size));clear l K E G V S F;go_wp2_with fail;refine(au R _ 6 _ L (by omega) (by omega) (by omega)).mono ?_;rintro e w4 ⟨z,rfl,hz0,hz1,hR,j⟩;have ZJ:=ae hR;have u:=ae (D.trans (j.aa x D.size));clear hR j L D;by_cases hz:z<2;{go_wp2_with fail;refine(zj R _ s _ ZJ (by omega) (by omega)).mono ?_;rintro e w5 ⟨t,rfl,ht,q,hq,hR,j⟩;have ZL:=ae (u.trans (j.aa x u.size));clear hR j;go_wp2;exact bp (v:=.tuple #[Y t,Y k]) (by simp[results,results27,go_sem]) rfl ⟨t,k,rfl,by omega,by omega,ZL⟩}
 ·by_cases ZR:z=2
  ·subst ZR;have hcc:¬ 9223372036854775807<k.size+1:=by omega
   go_wp2;exact bp (v:=.tuple #[Y s,Y (k++⟨#[122]⟩)]) (by simp[results,results27,go_sem]) rfl ⟨s,_,rfl,by omega,by rw[IH];show((k.size+1:Nat):Int)<=6000;omega,u⟩
  ·have hzb:(z == 2)=ZA:=by simpa using ZR
   go_wp2;exact bp (v:=.tuple #[Y s,Y k]) (by simp[results,results27,go_sem]) rfl ⟨s,k,rfl,by omega,by omega,u⟩
