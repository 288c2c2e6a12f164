import Derived.Test.YtpmnbjkjpnclaaaGreatDoorOC
import Derived.Test.YtpmnbjkjpnclaaaGreatDoorOH
import Derived.Test.YtpmnbjkjpnclaaaGreatDoorPZ
import Derived.Test.YtpmnbjkjpnclaaaGreatDoorPL
import Derived.Test.YtpmnbjkjpnclaaaGreatDoorPJ
import Derived.Test.YtpmnbjkjpnclaaaGreatDoorPY
set_option maxRecDepth 100000
set_option maxHeartbeats 8000000
open Go renaming Addr.mk->Q,Value.slice->Z,Value.string->U,Value.agg->ZH,Obj.cells->J,World->M,Ending.returned->ZF,World.heap->N,World.cell?->A
open Option renaming none->Y,some->T
open Bool renaming false->ZA
open Array renaming size->I
namespace Go.Proofs.YtpmnbjkjpnclaaaGreatDoor.Vp
open Tryz RowKit Ca
def DAS (w:M)(R q:Nat)(e:Ending)(b:M):Prop:=∃(a0:Option Addr) (n0 c0:Nat) (f0:Nat->Source) (a1:Option Addr) (n1 c1:Nat) (f1:Nat->Target) (a:Option Addr) (n c:Nat) (f:Nat->Deed),e=ZF (.tuple #[ZH #[Z a n c],ZH #[Z a0 n0 c0,Z a1 n1 c1]])/\HSg (I (N w)) b a0 n0 f0 a1 n1 f1/\HAc (I (N w)) b a n c f/\(n<=451/\∀i,i<n->FitK 1 (f i))/\∃q':Nat,q'<=q/\Rd b R q'/\Only R w b
theorem DJ (R p:Nat)(w:M)(hR:Rd w R p)(hp:p<=3000):Calls Tryz.prog 65 #[.pointer (T (Q R 0 Y))] w λe w'=>DAS w R (p+9500) e w':=by
 have HR:=ae hR;have ZM:=hR.lt;obtain⟨W0,P⟩:∃W:M,(w.alloc (J #[Z Y 0 0] 37)).alloc (J #[Z Y 0 0,Z Y 0 0] 27)=W:=⟨_,rfl⟩
 obtain⟨A0,KA,KS,hzA⟩:=nb2 P;have aq:=ae P;clear P;clear hR;go_enter func65,ntmps65;go_wp2_with fail;rw[aq.out];clear aq;refine(Aw R p _ (HR.aa A0 ly) (by omega)).mono ?_;rintro e s ⟨a0,n0,c0,f0,a1,n1,c1,f1,a,n,c,f,rfl,hS,H,hn,hf,q1,hq1,fd,ZQ⟩;have hs1:=ZQ.size;obtain⟨W1,ZL⟩:∃W:M,(s.alloc (J #[Z a0 n0 c0,Z a1 n1 c1] 27)).alloc (J #[Z a n c] 37)=W:=⟨_,rfl⟩
 obtain⟨F,ZS,-,-⟩:=nb2 ZL;replace ZS:=ZS.out;replace F:=F.out;have X:=ae ZL;clear ZL;have D1:Hid (Dr2 [I (N s)+1,R,I (N w)+1,I (N w),I (N s)] w R (I (N w)+1) (I (N w)) (I (N s)) (I (N s)+1) W1 q1 n0 c0 n1 c1 a0 f0 a1 f1 n c a f):=by
  cases X.out
  refine⟨⟨fd.aa F ly,((Only.u A0).trans ZQ).trans (Only.u F),(F.block _ (by omega)).trans ((ZQ.block _ (by omega) (by omega)).trans KS),(F.block _ (by omega)).trans ((ZQ.block _ (by omega) (by omega)).trans KA),ZS,⟨I (N W0),s,by omega,hS,dX F ly,?_⟩,ZM,by omega,by omega,by omega⟩,UY s _ _,⟨I (N W0),s,by omega,H,dX F ly,?_⟩,by omega⟩;all_goals
   intro x E;simp only[AT,nj,RC] at E;omega
 have HF:=ae hf;clear F ZS hS H hf fd ZQ A0 KS KA HR;have DE:I (N w)+2<=I (N s):=by omega
 go_upto_region 2 with fail;rw[X.out];clear X;generalize ur:I (N s)+1=ab at D1 ⊢;have hab2:I (N w)+3<=ab:=by omega
 have ro:I (N s)<ab:=by omega
 clear ur;generalize (I (N s))=sb at D1 DE ro ⊢;go_wp2_with fail;refine(au R _ 5 _ D1.d.rd (by omega) (by omega) (by omega)).mono ?_;rintro e w2 ⟨z,rfl,hz0,hz1,hR,r⟩;have ZR:=ae (D1.G r hR (by simp));clear hR r D1;go_upto_if 14 with fail;go_cut [] (λwx=>∃(q m0 C ZN B m k:Nat) (b0:Option Addr) (ZK:Nat->Source) (ZO:Option Addr) (O:Nat->Target) (b:Option Addr) (g:Nat->Deed),q<=p+5600/\m<=400/\Hid (∀i,i<m->FitI (g i))/\Hid (Dr2 [ab,R,I (N w)+1,I (N w),sb] w R (I (N w)+1) (I (N w)) sb ab wx q m0 C ZN B b0 ZK ZO O m k b g));case first =>
  by_cases hz:z=0
  ·subst hz;go_wp2_with fail;refine(tP R _ _ ZR.d.rd (by omega)).mono ?_;rintro e w3 ⟨b0,m0,C,ZK,ZO,ZN,B,O,rfl,hH,q3,Bk,hR,r⟩;have hz3:=r.size;have ph:=ag ZR.ax;have dg:=ag ZR.d.sx;have qr:=ag ZR.d.zs;have ZP:=ae (ZR.G r hR (by simp))
   have j:=ae (ZP.sput (k0:=C) (k1:=B) (by simp) (by omega) (QSp.new hH (by omega) (λx E=>by
    simp only[AT,nj,RC] at E
    omega)))
   obtain⟨x0,x1,ZJ,x3,x4⟩:=ZP.d.cells;clear hH hR r ZR ZP;go_upto_region 4 with fail;generalize World.setCell (World.setCell w3 _ _) _ _=W4 at j ⊢;clear x0 x1 ZJ x3 x4;obtain⟨x0,x1,ZJ,x3,x4⟩:=j.d.cells;go_wp2_with fail;refine(rR (I (N w)) m0 C ZN B b0 ZK ZO O _ ⟨#[116,52]⟩ j.d.qs.at.1).mono ?_;rintro e w5 ⟨b,m,k,g,kk,tt,ra,rn,rc,rfl,H,hm,hg,hB⟩;have DS:=hB.size;have hl4:=ag j.ax;have hl5:=ag j.d.zs;have ld:=j.d.o.size;have l:=ae (j.aa hB (by simp))
   have t:=ae (l.put (by simp) (by omega) (QAc.new H (by omega) (λx E=>by
    simp only[AT,nj,RC] at E
    omega)))
   obtain⟨y0,y1,y2⟩:=l.acc;have HG:=ae hg;clear H hB hg j l x0 x1 ZJ x3 x4;go_wp2;go_meet;exact⟨_,_,_,_,_,m,k,_,_,_,_,b,g,by omega,hm,HG,t⟩
  ·have hzb:(z == 0)=ZA:=by simpa using hz
   go_wp2;go_meet;exact⟨_,_,_,_,_,n,c,_,_,_,_,a,f,by omega,hn,HF,ZR⟩
 case rest =>
 clear ZR HF hn;obtain⟨q3,n0,c0,n1,c1,n,c,a0,f0,a1,f1,a,f,Bk,hn,HF,ZP⟩:=hcut;generalize wc=W3 at ZP ⊢;go_wp2_with fail;refine(au R _ 8 _ ZP.d.rd (by omega) (by omega) (by omega)).mono ?_;rintro e w4 ⟨y,rfl,hy0,hy1,hR,r⟩;have j:=ae (ZP.G r hR (by simp));clear hR r ZP;go_upto_if 25 with fail;go_cut [] (λwx=>∃(q m k:Nat) (b:Option Addr) (g:Nat->Deed),q<=p+6800/\Hid (m<=451/\∀i,i<m->FitK 1 (g i))/\Hid (Dr2 [ab,R,I (N w)+1,I (N w),sb] w R (I (N w)+1) (I (N w)) sb ab wx q n0 c0 n1 c1 a0 f0 a1 f1 m k b g));case first =>
  by_cases hy:y=0
  ·subst hy;obtain⟨y0,y1,y2⟩:=j.acc;go_wp2_with fail;refine(Dt As 0 1 (by omega) (by omega) R _ a n c f _ (j.qa.at.sl _ (Agr.refl _ _)) (λi hi=>(HF i hi).k) (by omega) j.d.rd (by omega)).mono ?_;rintro e w5 ⟨b,m,k,g,rfl,H,⟨q5,DQ,hR,r⟩,n9,la⟩;have HK:=ae (And.intro n9 la);clear n9 la;have DS:=r.size;have ph:=ag j.ax;have dg:=ag j.d.sx;have qr:=ag j.d.zs;have ld:=j.d.o.size;have l:=ae (j.G r hR (by simp))
   have t:=ae (l.put (by simp) (by omega) (QAc.new H (by omega) (λx E=>by
    simp only[AT,nj,RC] at E
    omega)))
   clear y0 y1 y2;obtain⟨y0,y1,y2⟩:=l.acc;clear H hR r j l;go_wp2;go_meet;exact⟨_,m,k,b,g,by omega,HK,t⟩
  ·have DH:(y == 0)=ZA:=by simpa using hy
   go_wp2;go_meet;exact⟨_,n,c,a,f,by omega,⟨by omega,λi hi=>(HF i hi).k⟩,j⟩
 case rest =>
 clear j HF hn;obtain⟨q4,n,c,a,f,hq4,HK,l⟩:=hcut;generalize wc=W5 at l ⊢;go_upto_if 30 with fail;go_cut [] (λwx=>∃(q m0 C ZN B:Nat) (b0:Option Addr) (ZK:Nat->Source) (ZO:Option Addr) (O:Nat->Target),q<=p+9500/\Hid (Dr2 [ab,R,I (N w)+1,I (N w),sb] w R (I (N w)+1) (I (N w)) sb ab wx q m0 C ZN B b0 ZK ZO O n c a f));case first =>
  by_cases hy:y=1
  ·subst hy;obtain⟨x0,x1,ZJ,x3,x4⟩:=l.d.cells;go_wp2_with fail;refine(vZ R _ (I (N w)) n0 c0 n1 c1 a0 f0 a1 f1 _ l.d.rd (by omega) ZM l.d.qs.at).mono ?_;rintro e w6 ⟨b0,m0,C,ZK,ZO,ZN,B,O,rfl,hQ,q6,hq6,hR,r⟩;have hz6:=r.size;have ph:=ag l.ax;have dg:=ag l.d.sx;have qr:=ag l.d.zs;have ld:=l.d.o.size;have t:=ae (l.G r hR (by simp));have QQ:QSp (I (N w)) [ab,R,I (N w)+1,I (N w),sb] w6 b0 m0 ZK ZO ZN O:=by
    rcases hQ with hH|⟨rfl,rfl,rfl,rfl,rfl,rfl⟩
    ·exact QSp.new hH (by omega) (λx E=>by
      simp only[AT,nj,RC] at E
      omega)
    {exact t.d.qs}
   have D7:=ae (t.sput (k0:=C) (k1:=B) (by simp) (by omega) QQ);clear x0 x1 ZJ x3 x4;obtain⟨x0,x1,ZJ,x3,x4⟩:=t.d.cells;clear hQ QQ hR r l t;go_wp2;go_meet;exact⟨_,_,_,_,_,_,_,_,_,by omega,D7⟩
  ·have DH:(y == 1)=ZA:=by simpa using hy
   go_wp2;go_meet;exact⟨_,_,_,_,_,_,_,_,_,by omega,l⟩
 case rest =>
 clear l;obtain⟨q5,n0,c0,n1,c1,a0,f0,a1,f1,DQ,t⟩:=hcut;generalize wc=W6 at t ⊢;go_wp2_with fail;have SQ:Hid (∀V,Dr2 [ab,R,I (N w)+1,I (N w),sb] w R (I (N w)+1) (I (N w)) sb ab V q5 n0 c0 n1 c1 a0 f0 a1 f1 n c a f->A V (Q sb 0 Y)=T (Z a0 n0 c0)/\A V (Q sb 1 Y)=T (Z a1 n1 c1)/\A V (Q ab 0 Y)=T (Z a n c)):=λV h=>⟨h.d.cells.1,h.d.cells.2.1,h.acc.1⟩
 have L:=ae (t.aa br.drew (by simp));refine wp_region_held_drew (S:=λV=>A V (Q sb 0 Y)=T (Z a0 n0 c0)/\A V (Q sb 1 Y)=T (Z a1 n1 c1)/\A V (Q ab 0 Y)=T (Z a n c)) (by as_aux_lemma=>kernel_rfl) (SQ _ L) λhS=>?_;have G:=ae hS;clear hS t;generalize W6.drew=u at L G ⊢;iterate 2
  refine bI 0 (v:=?_) rfl rfl (by as_aux_lemma=>kernel_rfl) (λ_ _ _ h=>h) rfl ?_ G ?_;rotate_left
  ·(rintro wz ⟨s0,s1,s2⟩;go_simp)
   (try with_reducible rfl)
  (try simp only[Act.put,nzL])
 have ZS:=L.d.zs;have ka:=L.d.za;have r0:A u (Q (I (N w)+1) 0 Y)=T (Z Y 0 0):=by simp[World.cell?,ZS]
 have r1:A u (Q (I (N w)+1) 1 Y)=T (Z Y 0 0):=by simp[World.cell?,ZS]
 have r2:A u (Q (I (N w)) 0 Y)=T (Z Y 0 0):=by simp[World.cell?,ka]
 have y0:u.frozen? (Q (I (N w)+1) 0 Y)=ZA:=by simp[World.frozen?,ZS]
 have y1:u.frozen? (Q (I (N w)+1) 1 Y)=ZA:=by simp[World.frozen?,ZS]
 have y2:u.frozen? (Q (I (N w)) 0 Y)=ZA:=by simp[World.frozen?,ka]
 have l0:=ag ZS;have l1:=ag ka;have B3:=ae ((((dB (I (N w)) u).setCell (p:=(Q (I (N w)) 0 Y)) ly (Z a n c)).setCell (p:=(Q (I (N w)+1) 0 Y)) (F6 _) (Z a0 n0 c0)).setCell (p:=(Q (I (N w)+1) 1 Y)) (F6 _) (Z a1 n1 c1));have FR:Hid (Fr [ab,R,I (N w)+1,I (N w),sb] u (((u.setCell (Q (I (N w)) 0 Y) (Z a n c)).setCell (Q (I (N w)+1) 0 Y) (Z a0 n0 c0)).setCell (Q (I (N w)+1) 1 Y) (Z a1 n1 c1))):=((Fr.set (by simp) _).trans (Fr.set (by simp) _)).trans (Fr.set (by simp) _);have At:=ae (L.d.qs.fr FR).at;have th:=ae (L.qa.fr FR).at;have R9:=ae (L.d.rd.low B3 ZM);have O9:=ae (L.d.o.then B3);clear ZS ka B3 FR;have mv:sb≠I (N w):=by omega
 have sm:ab≠I (N w):=by omega
 have bt:ab≠I (N w)+1:=by omega
 have D:sb≠I (N w)+1:=by omega
 refine aS (i:=2) rfl (by as_aux_lemma=>kernel_rfl) λK hK=>?_;go_simp;obtain⟨h1,h2,h3⟩:=G.out;clear G;have G:=ae (show(u.setCell (Q (I (N w)) 0 Y) (Z a n c)).cell? (Q sb 0 Y)=T (Z a0 n0 c0)/\(u.setCell (Q (I (N w)) 0 Y) (Z a n c)).cell? (Q sb 1 Y)=T (Z a1 n1 c1)/\(u.setCell (Q (I (N w)) 0 Y) (Z a n c)).cell? (Q ab 0 Y)=T (Z a n c) from⟨(cell_far _ _ _ _ mv.symm).trans h1,(cell_far _ _ _ _ mv.symm).trans h2,(cell_far _ _ _ _ sm.symm).trans h3⟩);clear h1 h2 h3;refine hK _ _ G ?_;clear hK K
 (try simp only[Act.put,nzL])
 refine aS (i:=3) rfl (by as_aux_lemma=>kernel_rfl) λK hK=>?_;go_simp;refine hK _ _ ⟨(cell_far _ _ _ _ D.symm).trans ((cell_far _ _ _ _ D.symm).trans G.1),(cell_far _ _ _ _ D.symm).trans ((cell_far _ _ _ _ D.symm).trans G.2.1),(cell_far _ _ _ _ bt.symm).trans ((cell_far _ _ _ _ bt.symm).trans G.2.2)⟩ ?_;clear hK K
 (try simp only[Act.put,nzL])
 refine wpAnyH_done (by as_aux_lemma=>kernel_rfl) ?_ _;go_wp2;exact bp (v:=.tuple #[ZH #[Z a n c],ZH #[Z a0 n0 c0,Z a1 n1 c1]]) (by simp[results,results65,go_sem,r0,r1,r2]) rfl ⟨_,_,_,_,_,_,_,_,_,_,_,_,rfl,At,th,HK,q5,by omega,R9,O9⟩
structure DpS (w:M)(R ab:Nat)(W:M)(q n c:Nat)(a:Option Addr)(f:Nat->Deed):Prop where
 rd:Rd W R q
 bl:Below (I (N w)) w W
 z:W.heap[I (N w)]?=T (J #[Z Y 0 0] 37 (0,0))
 x:W.heap[ab]?=T (J #[Z a n c] 37 (0,0))
 qa:QAc (I (N w)) [R,I (N w),ab] W a n c f
 lo:I (N w)<R/\R<ab
section
variable {w W W':M}{R ab q q' n c:Nat}{a:Option Addr}{f:Nat->Deed}
theorem DpS.G (h:DpS w R ab W q n c a f)(b:Only R W W')(hR:Rd W' R q'):DpS w R ab W' q' n c a f:=by have hl:=h.lo;exact⟨hR,h.bl.trans (b.aa (by omega) h.bl.size),(b.block _ (ag h.z) (by omega)).trans h.z,(b.block _ (ag h.x) (by omega)).trans h.x,h.qa.fr (Fr.G b (by simp)),h.lo⟩
theorem DpS.aa (h:DpS w R ab W q n c a f)(b:Below (I (N W)) W W'):DpS w R ab W' q n c a f:=h.G (Only.u b) (h.rd.aa b ly)
theorem DpS.acc (h:DpS w R ab W q n c a f):A W (Q ab 0 Y)=T (Z a n c):=by have hb:=h.x;simp[World.cell?,hb]
end
theorem wG (ac:Option Addr)(q cap:Nat)(w:M)(hn:(q:Int)<=1048576)(hc:q<=cap)(V:ByteSl w ac q):Calls Tryz.prog 73 #[Z ac q cap] w λe w'=>DFa w e w':=by
 have X:=ae V;clear V;obtain⟨W0,s⟩:∃W:M,w.alloc (J #[Z Y 0 0] 37)=W:=⟨_,rfl⟩
 obtain⟨ZQ,S,hzA⟩:=nb1 s;have E:=ae s;clear s;go_enter func73,ntmps73;go_wp2_with fail;rw[E.out];clear E;refine(lW ac q cap W0 hn hc (X.aa ZQ ly)).mono ?_;rintro e ZK ⟨R,rfl,hRz,o,i⟩;have ZL:=ae o;have K:=ae (ZQ.trans (i.mono (by omega)));have ZM:=ae ((i.block (I (N w)) (by omega)).trans S);have hs1:=i.size;have hRl:=o.lt;clear o i ZQ S X;go_wp2_with fail;refine(DJ R 0 _ ZL (by omega)).mono ?_;rintro e B ⟨a0,n0,c0,f0,a1,n1,c1,f1,a,n,c,f,rfl,-,P,-,q2,hq2,F,h⟩;have hs2:=h.size;obtain⟨W2,r⟩:∃W:M,(B.alloc (J #[Z a n c] 37)).alloc (J #[Z a0 n0 c0,Z a1 n1 c1] 27)=W:=⟨_,rfl⟩
 obtain⟨m,H,-,-⟩:=nb2 r;have G:=ae r;clear r;have C:Hid (DpS w R (I (N B)) W2 q2 n c a f):=by refine⟨F.aa m ly,(K.trans (h.aa (by omega) K.size)).trans (m.out.mono (by omega)),(m.out.block _ (by omega)).trans ((h.block _ (by omega) (by omega)).trans ZM),H,⟨I (N ZK),B,by omega,P,dX m ly,λx ZJ=>?_⟩,by omega,by omega⟩;simp only[AT,nj,RC] at ZJ;omega
 clear m H P F h K ZM ZL;go_upto_region 3 with fail;rw[G.out];clear G;generalize (I (N B))=ab at C ⊢;go_wp2_with fail;refine(au R _ 40 _ C.rd (by omega) (by omega) (by omega)).mono ?_;rintro e O ⟨z,rfl,hz0,hz1,hR,u⟩;have g:=ae (C.G u hR);clear hR u C;by_cases hz:z=0
 ·subst hz;go_wp2_with fail;refine(au R _ 3 _ g.rd (by omega) (by omega) (by omega)).mono ?_;rintro e w4 ⟨y,rfl,hy0,hy1,hR,u⟩;have l:=ae (g.G u hR);clear hR u g;have hw:IntKind.i64.wrap (y - 1)=y - 1:=by rw[p9];omega
  go_wp2_with fail;refine(AA (y - 1) (by omega) (by omega) _).mono ?_;rintro e ZO ⟨ZP,ZR,c5,f5,rfl,D,t⟩;have b:=(t.block _ (ag l.z)).trans l.z;have ZS:=ag l.z;have r0:A ZO (Q (I (N w)) 0 Y)=T (Z Y 0 0):=by simp[World.cell?,b]
  have y0:ZO.frozen? (Q (I (N w)) 0 Y)=ZA:=by simp[World.frozen?,b]
  have l0:=ag b;have HE:=ae ((D.agr (rE (j:=0) ZS (Z ZP ZR c5))).mono (QC ZS));have L:=ae ((l.bl.trans (t.mono (QC ZS))).setCell (p:=(Q (I (N w)) 0 Y)) ly (Z ZP ZR c5));clear b D t l;go_wp2;exact bp (v:=ZH #[Z ZP ZR c5]) (by simp[results,results73,go_sem,r0]) rfl ⟨_,_,_,_,rfl,HE,L⟩
 ·have hzb:(z == 0)=ZA:=by simpa using hz
  have b:=g.z;have x0:=g.acc;have r0:A O (Q (I (N w)) 0 Y)=T (Z Y 0 0):=by simp[World.cell?,b]
  have y0:O.frozen? (Q (I (N w)) 0 Y)=ZA:=by simp[World.frozen?,b]
  have l0:=ag b;have l1:=ag g.x;have L:=ae (g.bl.setCell (p:=(Q (I (N w)) 0 Y)) ly (Z a n c));have ZN:=ae (g.qa.fr (Fr.set (x:=I (N w)) (j:=0) (by simp) (Z a n c))).at;clear b g;go_wp2;exact bp (v:=ZH #[Z a n c]) (by simp[results,results73,go_sem,r0]) rfl ⟨_,_,_,_,rfl,ZN,L⟩
def DSl (w:M)(e:Ending)(b:M):Prop:=∃(a:Option Addr) (n c:Nat) (f:Nat->Deed) (k:ByteArray),e=ZF (.tuple #[ZH #[Z a n c],U k])/\HAc (I (N w)) b a n c f/\k.size<=5000/\Below (I (N w)) w b
def SbS (ab:Nat)(a:Option Addr)(n c:Nat)(V:M):Prop:=A V (Q ab 0 Y)=T (Z a n c)/\ab<I (N V)
theorem DpS.sb {w W:M}{R ab q n c:Nat}{a:Option Addr}{f:Nat->Deed}(h:DpS w R ab W q n c a f):SbS ab a n c W:=⟨h.acc,ag h.x⟩
theorem nK (ac:Option Addr)(O cap:Nat)(w:M)(hn:(O:Int)<=1048576)(hc:O<=cap)(hS:ByteSl w ac O):Calls Tryz.prog 22 #[Z ac O cap] w λe w'=>DSl w e w':=by
 have S0:=ae hS;clear hS;obtain⟨W0,ZJ⟩:∃W:M,w.alloc (J #[Z Y 0 0] 37)=W:=⟨_,rfl⟩
 obtain⟨A0,KA,hzA⟩:=nb1 ZJ;have la:=ae ZJ;clear ZJ;go_enter func22,ntmps22;go_wp2_with fail;rw[la.out];clear la;refine(lW ac O cap W0 hn hc (S0.aa A0 ly)).mono ?_;rintro e w1 ⟨R,rfl,hRz,X,F⟩;have S1:=ae ((S0.aa A0 ly).aa F ly);have R1:=ae X;have B1:=ae (A0.trans (F.mono (by omega)));have K1:=ae ((F.block (I (N w)) (by omega)).trans KA);have hs1:=F.size;have hRl:=X.lt;clear X F A0 KA S0;go_wp2_with fail;refine(wG ac O cap w1 hn hc S1).mono ?_;rintro e w2 ⟨a,n,c,f,rfl,hA,E⟩;have hs2:=E.size;obtain⟨W2,ZK⟩:∃W:M,w2.alloc (J #[Z a n c] 37)=W:=⟨_,rfl⟩
 obtain⟨V,ph,-⟩:=nb1 ZK;have n9:=ae ZK;clear ZK;have D1:Hid (DpS w R (I (N w2)) W2 0 n c a f):=by refine⟨(R1.aa E ly).aa V ly,(B1.trans (E.mono (by omega))).trans (V.out.mono (by omega)),(V.out.block _ (by omega)).trans ((E.block _ (by omega)).trans K1),ph,⟨I (N w1),w2,by omega,hA,dX V ly,λx hx=>?_⟩,by omega,by omega⟩;simp only[AT,nj,RC] at hx;omega
 clear V ph hA E B1 K1 R1 S1;go_upto_region 3 with fail;rw[n9.out];clear n9;generalize (I (N w2))=ab at D1 ⊢;go_wp2_with fail;have ZL:=ae (D1.aa br.drew);refine wp_region_held_drew (S:=SbS ab a n c) (by kernel_rfl) ZL.sb λhS=>?_;have g:=ae hS;clear hS D1;generalize W2.drew=v3 at ZL g ⊢;iterate 2
  refine bI 0 (v:=?_) rfl rfl (by kernel_rfl) (λ_ _ _ h=>h) rfl ?_ g ?_;rotate_left
  ·(rintro wz ⟨s0,s1⟩;go_simp)
   (try with_reducible rfl)
  (try simp only[Act.put,nzL])
 refine bI 6 (v:=?_) rfl rfl (by kernel_rfl) (λ_ _ _ h=>h) rfl ?_ g ?_;rotate_left
 ·(rintro wz ⟨s0,s1⟩;go_simp)
  (try with_reducible rfl)
 (try simp only[Act.put,nzL])
 refine aS (i:=2) rfl (by kernel_rfl) λK b=>?_;go_simp;go_at_call 40;refine(au R _ 2 _ ZL.rd (by omega) (by omega) (by omega)).mono ?_;rintro e v4 ⟨y,rfl,hy0,hy1,hR,hO⟩;have G:=ae (ZL.G hO hR);clear hR hO ZL g;have g:=ae G.sb;refine b _ _ g ?_;clear b K
 (try simp only[Act.put,nzL])
 obtain⟨m0,ur⟩:∃m0:Nat,60+y=(m0:Int):=⟨(60+y).toNat,by omega⟩
 have At:IntKind.i64.wrap (m0:Int)=(m0:Int):=by rw[p9];omega
 refine aS (i:=3) rfl (by kernel_rfl) λK b=>?_;go_simp;refine b _ _ g ?_;clear b K
 (try simp only[Act.put,nzL])
 refine aS (i:=4) rfl (by kernel_rfl) λK b=>?_;go_simp;go_at_call 74;refine(eQ ⟨#[107]⟩ m0 _ (by show 1*m0<=4000;omega) (by omega)).mono ?_;rintro e v6 ⟨t,rfl,ht,hw⟩;rw[hw];have ld:t.size<=5000:=p7 ht (by show 1*m0<=5000;omega);clear ht hw At ur;refine b _ _ g ?_;clear b K
 (try simp only[Act.put,nzL])
 have hlo:=G.lo;have hl4:=ag G.x;refine pm (i:=5) (j:=7) rfl rfl (by kernel_rfl) (λK b=>?_) λK b=>?_;focus
  go_simp;obtain⟨B,dg⟩:∃W:M,v4.alloc (J #[U ⟨#[107]⟩,U ⟨#[]⟩,U ⟨#[107,101,121]⟩,U t] 9)=W:=⟨_,rfl⟩
  obtain⟨A5,HL,-⟩:=nb1 dg;rw[dg];clear dg;have l:=ae (G.aa A5);have ZO:I (N v4)≠R/\(I (N w))<I (N v4):=by omega
  clear A5 g G;generalize (I (N v4))=s at HL ZO ⊢;have g:=ae l.sb;refine b _ _ g ?_;clear b K
  (try simp only[Act.put,nzL])
  refine aS (i:=7) rfl (by kernel_rfl) λK b=>?_;go_simp;go_at_call 40;refine(au R _ 4 _ l.rd (by omega) (by omega) (by omega)).mono ?_;rintro e u ⟨z4,rfl,ZR,qr,H,C⟩;obtain⟨m,rfl⟩:=AP ZR;have hm:m<4:=by omega
  have L:=ae (l.G C H);have o:=ae ((C.block s (ag HL.out) ZO.1).trans HL);clear C H l g HL;have g:=ae L.sb;refine b _ _ g ?_;clear b K
  (try simp only[Act.put,nzL])
 rotate_left;focus
  go_simp;go_at_call 40;refine(au R _ 4 _ G.rd (by omega) (by omega) (by omega)).mono ?_;rintro e B ⟨z4,rfl,ZR,qr,H,C⟩;obtain⟨m,rfl⟩:=AP ZR;have hm:m<4:=by omega
  have l:=ae (G.G C H);clear C H G g;have g:=ae l.sb;refine b _ _ g ?_;clear b K
  (try simp only[Act.put,nzL])
  refine pm (i:=5) (j:=10) rfl rfl (by kernel_rfl) (λK b=>?_) λK b=>?_;rotate_left
  ·have ZS:=l.z
   have r0:A B (Q (I (N w)) 0 Y)=T (Z Y 0 0):=by simp[World.cell?,ZS]
   have y0:B.frozen? (Q (I (N w)) 0 Y)=ZA:=by simp[World.frozen?,ZS]
   have l0:=ag ZS;have kz:=ae (bX (j:=0) ZS (Z a n c));have P:=ae (l.bl.setCell (p:=(Q (I (N w)) 0 Y)) ly (Z a n c));have D:=ae (l.qa.fr (Fr.set (x:=I (N w)) (j:=0) (by simp) (Z a n c))).at;have aq:ab≠I (N w):=by omega
   have kx:=ae ((qh B (Q (I (N w)) 0 Y) (Z a n c) ab aq).trans l.x);have q:Hid (SbS ab a n c (B.setCell (Q (I (N w)) 0 Y) (Z a n c))):=⟨by simp[World.cell?,kx.out],ag kx.out⟩
   go_simp;clear ZS g l;generalize World.setCell B _ _=u1 at kz P D kx q ⊢;refine b _ _ q ?_;clear b K q
   (try simp only[Act.put,nzL])
   refine aS (i:=5) rfl (by kernel_rfl) λK b=>?_;go_simp;obtain⟨u,r⟩:∃W:M,u1.alloc (J #[U ⟨#[107]⟩,U ⟨#[]⟩,U ⟨#[107,101,121]⟩,U t] 9)=W:=⟨_,rfl⟩
   obtain⟨ZP,o,-⟩:=nb1 r;rw[r];clear r;have ZM:=(ZP.out.block _ (ag kz.out)).trans kz;have ZN:=(ZP.out.block _ (ag kx.out)).trans kx;have ro:=ae (D.agr (dX ZP ly));have th:=ae (P.trans (ZP.out.mono P.size));have mv:Hid (SbS ab a n c u):=⟨by simp[World.cell?,ZN],ag ZN⟩
   have rz:A u (Q (I (N w)) 0 Y)=T (Z a n c):=by simp[World.cell?,ZM]
   have lz:=ag ZM;clear ZP D P kz kx ZM ZN;generalize (I (N u1))=s at o ⊢;refine b _ _ mv ?_;clear b K
   (try simp only[Act.put,nzL])
   obtain⟨zz,bt,fd⟩:=pF o (by decide) (by decide) (by decide) ld m hm;have ll:=ag o.out;have sm:(m:Int)<4:=by omega
   iterate 3
    refine rp 8 rfl rfl (by kernel_rfl) λK b=>?_;go_simp;refine b _ _ mv ?_;clear b K
    (try simp only[Act.put,nzL])
   refine wpAnyH_done (by kernel_rfl) ?_ _;go_wp2;exact bp (v:=.tuple #[ZH #[Z a n c],U zz]) (by simp[results,results22,go_sem,rz]) rfl ⟨_,_,_,_,_,rfl,ro,bt,th⟩
  go_simp;obtain⟨u,r⟩:∃W:M,B.alloc (J #[U ⟨#[107]⟩,U ⟨#[]⟩,U ⟨#[107,101,121]⟩,U t] 9)=W:=⟨_,rfl⟩
  obtain⟨ZP,o,-⟩:=nb1 r;rw[r];clear r;have L:=ae (l.aa ZP);have ZO:I (N B)≠R/\(I (N w))<I (N B):=by have:=l.rd.lt;omega
  clear ZP g l;generalize (I (N B))=s at o ZO ⊢;have g:=ae L.sb;refine b _ _ g ?_;clear b K
  (try simp only[Act.put,nzL])
 all_goals
  obtain⟨zz,bt,fd⟩:=pF o (by decide) (by decide) (by decide) ld m hm;have sm:(m:Int)<4:=by omega
  refine bI 8 (v:=?_) rfl rfl (by kernel_rfl) (λ_ _ _ h=>h) rfl ?_ g ?_;rotate_left
  ·(rintro wz ⟨s0,s1⟩;go_simp)
   (try with_reducible rfl)
  (try simp only[Act.put,nzL])
  have ZS:=L.z;have r0:A u (Q (I (N w)) 0 Y)=T (Z Y 0 0):=by simp[World.cell?,ZS]
  have y0:u.frozen? (Q (I (N w)) 0 Y)=ZA:=by simp[World.frozen?,ZS]
  have l0:=ag ZS;have P:=ae (L.bl.setCell (p:=(Q (I (N w)) 0 Y)) ly (Z a n c));have D:=ae (L.qa.fr (Fr.set (x:=I (N w)) (j:=0) (by simp) (Z a n c))).at;have aq:ab≠I (N w):=by omega
  have q:Hid (SbS ab a n c (u.setCell (Q (I (N w)) 0 Y) (Z a n c))):=⟨(cq (a:=(Q ab 0 Y)) (qh u (Q (I (N w)) 0 Y) _ ab aq)).trans g.1,by have:=g.2;simpa using this⟩
  have hz2:(u.setCell (Q (I (N w)) 0 Y) (Z a n c)).cell? (Q s m Y)=T (U zz):=(cq (a:=(Q s m Y)) (qh u (Q (I (N w)) 0 Y) _ s (by show s≠I (N w);omega))).trans fd;have ll:=ag o.out;clear ZS L;refine pm (i:=9) (j:=10) rfl rfl (by kernel_rfl) (λK b=>?_) λK b=>?_
  focus
   go_simp;refine b _ _ g ?_;clear b K
   (try simp only[Act.put,nzL])
   refine aS (i:=10) rfl (by kernel_rfl) λK b=>?_;go_simp;refine b _ _ q ?_;clear b K
   (try simp only[Act.put,nzL])
  rotate_left
  focus
   go_simp;refine b _ _ q ?_;clear b K
   (try simp only[Act.put,nzL])
   refine aS (i:=9) rfl (by kernel_rfl) λK b=>?_;go_simp;refine b _ _ q ?_;clear b K
   (try simp only[Act.put,nzL])
  all_goals
   refine aS (i:=11) rfl (by kernel_rfl) λK b=>?_;go_simp;refine b _ _ q ?_;clear b K
   (try simp only[Act.put,nzL])
   refine wpAnyH_done (by kernel_rfl) ?_ _;go_wp2;exact bp (v:=.tuple #[ZH #[Z a n c],U zz]) (by simp[results,results22,go_sem,r0]) rfl ⟨_,_,_,_,_,rfl,D,bt,P⟩
def DUn (w:M)(e:Ending)(b:M):Prop:=∃(t k:ByteArray),e=ZF (.tuple #[U t,U k])/\(t.size:Int)<=700000/\(k.size:Int)<=6000/\Below (I (N w)) w b
theorem qP (f:Nat->Deed)(n:Nat)(k:ByteArray):((df ⟨(bG f n).toArray⟩ k).size:Int)<=300017:=by
 have h:=tq f n;unfold df;split;{show(0:Int)<=_;omega};{split;{show(0:Int)<=_;omega};{rw[IH,jF];omega}}
theorem rW (ac:Option Addr)(g cap:Nat)(w:M)(hn:(g:Int)<=1048576)(K:g<=cap)(L:ByteSl w ac g):Calls Tryz.prog 27 #[Z ac g cap] w λe ZL=>DUn w e ZL:=by
 have G:=ae L;clear L;go_enter func27,ntmps27;go_wp2_with fail;refine(lW ac g cap w hn K G).mono ?_;rintro e V ⟨R,rfl,B,x,p⟩;have ZP:=ae (G.aa p ly);have ZQ:=ae x;have h:=ae p;clear x p G;go_wp2_with fail;refine(nK ac g cap V hn K ZP).mono ?_;rintro e ZO ⟨a,n,c,f,k,rfl,j,hk,b⟩;have hn2:=j.hn;obtain⟨E,o⟩:∃W:M,ZO.alloc (J #[Z a n c] 37)=W:=⟨_,rfl⟩
 obtain⟨r,H,-⟩:=nb1 o;have y:=ae o;have F:=ae (j9 a n c f k E (by omega) (by omega) (j.sl E (dX r ly)) (λi hi=>(j.ak i hi).fits) (λi hi=>(j.ak i hi).sized));have P:=qP f n k;generalize df ⟨(bG f n).toArray⟩ k=s at F P;have ZR:=ae ((ZQ.aa b ly).aa r ly);have C:=ae ((h.trans (b.mono h.size)).trans (r.out.mono (h.trans (b.mono h.size)).size));clear j b ZQ h ZP o r;go_upto_region 3 with fail;rw[y.out];clear y;have S:A E (Q (I (N ZO)) 0 Y)=T (Z a n c):=by simp[World.cell?,H.out]
 have X:=ag H.out;go_wp2_with fail;refine F.out.mono ?_;rintro e w3 ⟨rfl,l⟩;have O:=ae (ZR.aa l ly);have D:=ae (C.trans (l.mono C.size));clear l ZR C F S X H;go_wp2_with fail;refine(au R _ 6 _ O (by omega) (by omega) (by omega)).mono ?_;rintro e w4 ⟨z,rfl,hz0,hz1,hR,m⟩;have ZN:=ae hR;have u:=ae (D.trans (m.aa B D.size));clear hR m O D;by_cases hz:z<2;{go_wp2_with fail;refine(zo R _ s _ ZN (by omega) (by omega)).mono ?_;rintro e w5 ⟨t,rfl,ht,q,hq,hR,m⟩;have ZM:=ae (u.trans (m.aa B u.size));clear hR m;go_wp2;exact bp (v:=.tuple #[U t,U k]) (by simp[results,results27,go_sem]) rfl ⟨t,k,rfl,by omega,by omega,ZM⟩}
 ·by_cases ZS:z=2
  ·subst ZS;have hcc:¬ 9223372036854775807<k.size+1:=by omega
   go_wp2;exact bp (v:=.tuple #[U s,U (k++⟨#[122]⟩)]) (by simp[results,results27,go_sem]) rfl ⟨s,_,rfl,by omega,by rw[IH];show((k.size+1:Nat):Int)<=6000;omega,u⟩
  ·have hzb:(z == 2)=ZA:=by simpa using ZS
   go_wp2;exact bp (v:=.tuple #[U s,U k]) (by simp[results,results27,go_sem]) rfl ⟨s,k,rfl,by omega,by omega,u⟩
