import Derived.Test.YtcnilonhfpimnaaGreatDoorDG
import Derived.Test.YtcnilonhfpimnaaGreatDoorEU
import Derived.Test.YtcnilonhfpimnaaGreatDoorDF
set_option linter.all false
set_option maxRecDepth 100000
set_option maxHeartbeats 8000000
open Go renaming Addr.mk->T,Value.slice->Y,Value.agg->ZJ,Obj.cells->N,World->E,Ending.returned->ZI,World.heap->J,World.cell?->z,World.frozen?->ZU,World.setCell->U,Act.put->p_
open Option renaming none->Z,some->Q
open Bool renaming false->ZA
open Array renaming size->I
namespace Go.Proofs.YtcnilonhfpimnaaGreatDoor.Vp
open Tryz RowKit Ca
variable {lo b:Nat}
def DAS (w:E)(R q:Nat)(e:Ending)(b:E):Prop:=∃(a0:O_) (n0 c0:Nat) (f0:Nat->Source) (a1:O_) (n1 c1:Nat) (f1:Nat->Target) (a:O_) (n c:Nat) (f:Nat->au),e=ZI (.tuple #[ZJ #[Y a n c],ZJ #[Y a0 n0 c0,Y a1 n1 c1]])/\HSg (I (J w)) b a0 n0 f0 a1 n1 f1/\HAc (I (J w)) b a n c f/\(n<=451/\∀i,i<n->FitK 1 (f i))/\∃q':Nat,q'<=q/\Rd b R q'/\zt R w b
def DG (R p:Nat)(w:E)(hR:Rd w R p)(hp:p<=3000):Calls Tryz.prog 18 #[.pointer (Q (T R 0 Z))] w λe w'=>DAS w R (p+9500) e w':=by
 have HR:=ae hR;have ZO:=hR.lt;obtain⟨W0,ZL⟩:∃W:E,(w.alloc (N #[Y Z 0 0] 25)).alloc (N #[Y Z 0 0,Y Z 0 0] 29)=W:=⟨_,rfl⟩
 obtain⟨A0,KA,KS,hzA⟩:=nb2 ZL;have aq:=ae ZL;clear ZL;clear hR;go_enter func18,ntmps18;go_wp2_with fail;rw[aq.i];clear aq;refine(AF R p _ (HR.aa A0 ly) (by omega)).P ?_;rintro e t⟨a0,n0,c0,f0,a1,n1,c1,f1,a,n,c,f,rfl,hS,M,hn,hf,q1,hq1,mv,ZS⟩;have hs1:=ZS.size;obtain⟨W1,ZM⟩:∃W:E,(t.alloc (N #[Y a0 n0 c0,Y a1 n1 c1] 29)).alloc (N #[Y a n c] 25)=W:=⟨_,rfl⟩
 obtain⟨D,A,-,-⟩:=nb2 ZM;replace A:=A.i;replace D:=D.i;have ZN:=ae ZM;clear ZM;have D1:Hid (Dr2 [I (J t)+1,R,I (J w)+1,I (J w),I (J t)] w R (I (J w)+1) (I (J w)) (I (J t)) (I (J t)+1) W1 q1 n0 c0 n1 c1 a0 f0 a1 f1 n c a f):=by
  cases ZN.i
  refine⟨⟨mv.aa D ly,((zt.l A0).k ZS).k (zt.l D),(D.p _ (by omega)).k ((ZS.p _ (by omega) (by omega)).k KS),(D.p _ (by omega)).k ((ZS.p _ (by omega) (by omega)).k KA),A,⟨I (J W0),t,by omega,hS,de D ly,?_⟩,ZO,by omega,by omega,by omega⟩,SL t _ _,⟨I (J W0),t,by omega,M,de D ly,?_⟩,by omega⟩;all_goals
   intro x ZT;simp only[vG,nj,QV] at ZT;omega
 have HF:=ae hf;clear D A hS M hf mv ZS A0 KS KA HR;have ur:I (J w)+2<=I (J t):=by omega
 go_upto_region 2 with fail;rw[ZN.i];clear ZN;generalize ro:I (J t)+1=ab at D1 ⊢;have hab2:I (J w)+3<=ab:=by omega
 have qr:I (J t)<ab:=by omega
 clear ro;generalize (I (J t))=sb at D1 ur qr ⊢;go_wp2_with fail;refine(ay R _ 5 _ D1.d.rd (by omega) (by omega) (by omega)).P ?_;rintro e w2⟨ZV,rfl,hz0,hz1,hR,r⟩;have ZQ:=ae (D1.ac r hR (by simp));clear hR r D1;go_upto_if 14 with fail;go_cut [] (λwx=>∃(q m0 B ZP C m k:Nat) (b0:O_) (P:Nat->Source) (X:O_) (O:Nat->Target) (b:O_) (g:Nat->au),q<=p+5600/\m<=400/\Hid (∀i,i<m->FitI (g i))/\Hid (Dr2 [ab,R,I (J w)+1,I (J w),sb] w R (I (J w)+1) (I (J w)) sb ab wx q m0 B ZP C b0 P X O m k b g));case first =>
  by_cases hz:ZV=0
  ·subst hz;go_wp2_with fail;refine(tZ R _ _ ZQ.d.rd (by omega)).P ?_;rintro e w3⟨b0,m0,B,P,X,ZP,C,O,rfl,hH,q3,Fk,hR,r⟩;have hz3:=r.size;have n8:=aj ZQ.ax;have ph:=aj ZQ.d.sx;have n9:=aj ZQ.d.zs;have L:=ae (ZQ.ac r hR (by simp))
   have l:=ae (L.sput (k0:=B) (k1:=C) (by simp) (by omega) (QSp.new hH (by omega) (λx ZT=>by
    simp only[vG,nj,QV] at ZT
    omega)))
   obtain⟨x0,x1,x2,x3,x4⟩:=L.d.cells;clear hH hR r ZQ L;go_upto_region 4 with fail;generalize World.setCell (World.setCell w3 _ _) _ _=W4 at l ⊢;clear x0 x1 x2 x3 x4;obtain⟨x0,x1,x2,x3,x4⟩:=l.d.cells;go_wp2_with fail;refine(se (I (J w)) m0 B ZP C b0 P X O _ ⟨#[116,52]⟩ l.d.qs.at.1).P ?_;rintro e w5⟨b,m,k,g,kk,tt,ra,rn,rc,rfl,M,hm,hg,hB⟩;have At:=hB.size;have hl4:=aj l.ax;have hl5:=aj l.d.zs;have ex:=l.d.o.size;have j:=ae (l.aa hB (by simp))
   have s:=ae (j.put (by simp) (by omega) (QAc.new M (by omega) (λx ZT=>by
    simp only[vG,nj,QV] at ZT
    omega)))
   obtain⟨y0,y1,y2⟩:=j.acc;have HG:=ae hg;clear M hB hg l j x0 x1 x2 x3 x4;go_wp2;go_meet;exact⟨_,_,_,_,_,m,k,_,_,_,_,b,g,by omega,hm,HG,s⟩
  ·have hzb:(ZV == 0)=ZA:=by simpa using hz
   go_wp2;go_meet;exact⟨_,_,_,_,_,n,c,_,_,_,_,a,f,by omega,hn,HF,ZQ⟩
 case rest =>
 clear ZQ HF hn;obtain⟨q3,n0,c0,n1,c1,n,c,a0,f0,a1,f1,a,f,Fk,hn,HF,L⟩:=hcut;generalize wc=W3 at L ⊢;go_wp2_with fail;refine(ay R _ 8 _ L.d.rd (by omega) (by omega) (by omega)).P ?_;rintro e w4⟨y,rfl,hy0,hy1,hR,r⟩;have l:=ae (L.ac r hR (by simp));clear hR r L;go_upto_if 25 with fail;go_cut [] (λwx=>∃(q m k:Nat) (b:O_) (g:Nat->au),q<=p+6800/\Hid (m<=451/\∀i,i<m->FitK 1 (g i))/\Hid (Dr2 [ab,R,I (J w)+1,I (J w),sb] w R (I (J w)+1) (I (J w)) sb ab wx q n0 c0 n1 c1 a0 f0 a1 f1 m k b g));case first =>
  by_cases hy:y=0
  ·subst hy;obtain⟨y0,y1,y2⟩:=l.acc;go_wp2_with fail;refine(ts qT 0 1 (by omega) (by omega) R _ a n c f _ (l.qa.at.sl _ (Agr.refl _ _)) (λi hi=>(HF i hi).k) (by omega) l.d.rd (by omega)).P ?_;rintro e w5⟨b,m,k,g,rfl,M,⟨q5,Fd,hR,r⟩,ld,fd⟩;have HK:=ae (And.intro ld fd);clear ld fd;have At:=r.size;have n8:=aj l.ax;have ph:=aj l.d.sx;have n9:=aj l.d.zs;have ex:=l.d.o.size;have j:=ae (l.ac r hR (by simp))
   have s:=ae (j.put (by simp) (by omega) (QAc.new M (by omega) (λx ZT=>by
    simp only[vG,nj,QV] at ZT
    omega)))
   clear y0 y1 y2;obtain⟨y0,y1,y2⟩:=j.acc;clear M hR r l j;go_wp2;go_meet;exact⟨_,m,k,b,g,by omega,HK,s⟩
  ·have sm:(y == 0)=ZA:=by simpa using hy
   go_wp2;go_meet;exact⟨_,n,c,a,f,by omega,⟨by omega,λi hi=>(HF i hi).k⟩,l⟩
 case rest =>
 clear l HF hn;obtain⟨q4,n,c,a,f,hq4,HK,j⟩:=hcut;generalize wc=W5 at j ⊢;go_upto_if 30 with fail;go_cut [] (λwx=>∃(q m0 B ZP C:Nat) (b0:O_) (P:Nat->Source) (X:O_) (O:Nat->Target),q<=p+9500/\Hid (Dr2 [ab,R,I (J w)+1,I (J w),sb] w R (I (J w)+1) (I (J w)) sb ab wx q m0 B ZP C b0 P X O n c a f));case first =>
  by_cases hy:y=1
  ·subst hy;obtain⟨x0,x1,x2,x3,x4⟩:=j.d.cells;go_wp2_with fail;refine(ol R _ (I (J w)) n0 c0 n1 c1 a0 f0 a1 f1 _ j.d.rd (by omega) ZO j.d.qs.at).P ?_;rintro e w6⟨b0,m0,B,P,X,ZP,C,O,rfl,hQ,q6,hq6,hR,r⟩;have hz6:=r.size;have n8:=aj j.ax;have ph:=aj j.d.sx;have n9:=aj j.d.zs;have ex:=j.d.o.size;have s:=ae (j.ac r hR (by simp));have QQ:QSp (I (J w)) [ab,R,I (J w)+1,I (J w),sb] w6 b0 m0 P X ZP O:=by
    rcases hQ with hH|⟨rfl,rfl,rfl,rfl,rfl,rfl⟩
    ·exact QSp.new hH (by omega) (λx ZT=>by
      simp only[vG,nj,QV] at ZT
      omega)
    {exact s.d.qs}
   have D7:=ae (s.sput (k0:=B) (k1:=C) (by simp) (by omega) QQ);clear x0 x1 x2 x3 x4;obtain⟨x0,x1,x2,x3,x4⟩:=s.d.cells;clear hQ QQ hR r j s;go_wp2;go_meet;exact⟨_,_,_,_,_,_,_,_,_,by omega,D7⟩
  ·have sm:(y == 1)=ZA:=by simpa using hy
   go_wp2;go_meet;exact⟨_,_,_,_,_,_,_,_,_,by omega,j⟩
 case rest =>
 clear j;obtain⟨q5,n0,c0,n1,c1,a0,f0,a1,f1,Fd,s⟩:=hcut;generalize wc=W6 at s ⊢;go_wp2_with fail;have SQ:Hid (∀V,Dr2 [ab,R,I (J w)+1,I (J w),sb] w R (I (J w)+1) (I (J w)) sb ab V q5 n0 c0 n1 c1 a0 f0 a1 f1 n c a f->z V (T sb 0 Z)=Q (Y a0 n0 c0)/\z V (T sb 1 Z)=Q (Y a1 n1 c1)/\z V (T ab 0 Z)=Q (Y a n c)):=λV h=>⟨h.d.cells.1,h.d.cells.2.1,h.acc.1⟩
 have ZR:=ae (s.aa br.drew (by simp));refine wp_region_held_drew (S:=λV=>z V (T sb 0 Z)=Q (Y a0 n0 c0)/\z V (T sb 1 Z)=Q (Y a1 n1 c1)/\z V (T ab 0 Z)=Q (Y a n c)) (by as_aux_lemma=>kernel_rfl) (SQ _ ZR) λhS=>?_;have H:=ae hS;clear hS s;generalize W6.drew=u at ZR H ⊢;iterate 2
  refine aN 0 (v:=?_) rfl rfl (by as_aux_lemma=>kernel_rfl) (λ_ _ _ h=>h) rfl ?_ H ?_;rotate_left
  ·(rintro wz⟨s0,s1,s2⟩;go_simp)
   (try with_reducible rfl)
  (try simp only[p_,z_])
 have A:=ZR.d.zs;have ka:=ZR.d.za;have r0:z u (T (I (J w)+1) 0 Z)=Q (Y Z 0 0):=by simp[World.cell?,A]
 have r1:z u (T (I (J w)+1) 1 Z)=Q (Y Z 0 0):=by simp[World.cell?,A]
 have r2:z u (T (I (J w)) 0 Z)=Q (Y Z 0 0):=by simp[World.cell?,ka]
 have y0:ZU u (T (I (J w)+1) 0 Z)=ZA:=by simp[World.frozen?,A]
 have y1:ZU u (T (I (J w)+1) 1 Z)=ZA:=by simp[World.frozen?,A]
 have y2:ZU u (T (I (J w)) 0 Z)=ZA:=by simp[World.frozen?,ka]
 have l0:=aj A;have l1:=aj ka;have B3:=ae ((((a8 (I (J w)) u).setCell (p:=(T (I (J w)) 0 Z)) ly (Y a n c)).setCell (p:=(T (I (J w)+1) 0 Z)) (BV _) (Y a0 n0 c0)).setCell (p:=(T (I (J w)+1) 1 Z)) (BV _) (Y a1 n1 c1));have FR:Hid (Fr [ab,R,I (J w)+1,I (J w),sb] u (U (U (U u (T (I (J w)) 0 Z) (Y a n c)) (T (I (J w)+1) 0 Z) (Y a0 n0 c0)) (T (I (J w)+1) 1 Z) (Y a1 n1 c1))):=((Fr.set (by simp) _).k (Fr.set (by simp) _)).k (Fr.set (by simp) _);have Bk:=ae (ZR.d.qs.fr FR).at;have th:=ae (ZR.qa.fr FR).at;have R9:=ae (ZR.d.rd.low B3 ZO);have O9:=ae (ZR.d.o.then B3);clear A ka B3 FR;have la:sb≠I (J w):=by omega
 have DQ:ab≠I (J w):=by omega
 have bt:ab≠I (J w)+1:=by omega
 have G:sb≠I (J w)+1:=by omega
 refine aL (i:=2) rfl (by as_aux_lemma=>kernel_rfl) λK hK=>?_;go_simp;obtain⟨h1,h2,h3⟩:=H.i;clear H;have H:=ae (show z (U u (T (I (J w)) 0 Z) (Y a n c)) (T sb 0 Z)=Q (Y a0 n0 c0)/\z (U u (T (I (J w)) 0 Z) (Y a n c)) (T sb 1 Z)=Q (Y a1 n1 c1)/\z (U u (T (I (J w)) 0 Z) (Y a n c)) (T ab 0 Z)=Q (Y a n c) from⟨(K_ _ _ _ _ la.c).k h1,(K_ _ _ _ _ la.c).k h2,(K_ _ _ _ _ DQ.c).k h3⟩);clear h1 h2 h3;refine hK _ _ H ?_;clear hK K
 (try simp only[p_,z_])
 refine aL (i:=3) rfl (by as_aux_lemma=>kernel_rfl) λK hK=>?_;go_simp;refine hK _ _ ⟨(K_ _ _ _ _ G.c).k ((K_ _ _ _ _ G.c).k H.1),(K_ _ _ _ _ G.c).k ((K_ _ _ _ _ G.c).k H.2.1),(K_ _ _ _ _ bt.c).k ((K_ _ _ _ _ bt.c).k H.2.2)⟩ ?_;clear hK K
 (try simp only[p_,z_])
 refine wpAnyH_done (by as_aux_lemma=>kernel_rfl) ?_ _;go_wp2;exact bp (v:=.tuple #[ZJ #[Y a n c],ZJ #[Y a0 n0 c0,Y a1 n1 c1]]) (by simp[results,results18,go_sem,r0,r1,r2]) rfl ⟨_,_,_,_,_,_,_,_,_,_,_,_,rfl,Bk,th,HK,q5,by omega,R9,O9⟩
def DAu (w:E)(e:Ending)(b:E):Prop:=∃(a0:O_) (n0 c0:Nat) (f0:Nat->Source) (a1:O_) (n1 c1:Nat) (f1:Nat->Target) (a:O_) (n c:Nat) (f:Nat->au),e=ZI (.tuple #[ZJ #[Y a n c],ZJ #[Y a0 n0 c0,Y a1 n1 c1]])/\HSp (I (J w)) b a0 n0 f0 a1 n1 f1/\HAc (I (J w)) b a n c f/\(n<=452/\∀i,i<n->FitK 2 (f i))/\Below (I (J w)) w b
def QSh (lo:Nat)(g:List Nat)(W:E)(a0:O_)(n0:Nat)(f0:Nat->Source)(a1:O_)(n1:Nat)(f1:Nat->Target):Prop:=∃(b:Nat) (f:E),lo<=b/\HSp b f a0 n0 f0 a1 n1 f1/\Agr b f W/\pR g b (I (J f))
structure DuS (w:E)(R ab sb:Nat)(W:E)(q n0 c0 n1 c1:Nat)(a0:O_)(f0:Nat->Source)(a1:O_)(f1:Nat->Target)(n c:Nat)(a:O_)(f:Nat->au):Prop where
 rd:Rd W R q
 bl:Below (I (J w)) w W
 za:W.heap[I (J w)]?=Q (N #[Y Z 0 0] 25 (0,0))
 zs:W.heap[I (J w)+1]?=Q (N #[Y Z 0 0,Y Z 0 0] 29 (0,0))
 ax:W.heap[ab]?=Q (N #[Y a n c] 25 (0,0))
 sx:W.heap[sb]?=Q (N #[Y a0 n0 c0,Y a1 n1 c1] 29 (0,0))
 qs:QSh (R+1) [R,I (J w),I (J w)+1,ab,sb] W a0 n0 f0 a1 n1 f1
 qa:QAc (I (J w)) [R,I (J w),I (J w)+1,ab,sb] W a n c f
 lo:I (J w)+1<R/\R<ab/\ab<sb
section
variable {w W W':E}{R sb ab q q' n0 c0 n1 c1 n c:Nat}{a0 a1 a:O_}{f0:Nat->Source}{f1:Nat->Target}{f:Nat->au}
def QSh.fr{f:List Nat}(h:QSh lo f W a0 n0 f0 a1 n1 f1)(i:Fr f W W'):QSh lo f W' a0 n0 f0 a1 n1 f1:=by obtain⟨b,j,l,h1,h2,g⟩:=h;exact⟨b,j,l,h1,h2.fr g i,g⟩
def QSh.at{f:List Nat}(h:QSh lo f W a0 n0 f0 a1 n1 f1):HSp lo W a0 n0 f0 a1 n1 f1:=by obtain⟨b,w1,g,h1,h2,-⟩:=h;exact(h1.agr h2).P g
def QSh.new{xs:List Nat}(h:HSp b W a0 n0 f0 a1 n1 f1)(f:lo<=b)(g:pR xs b (I (J W))):QSh lo xs W a0 n0 f0 a1 n1 f1:=⟨b,W,f,h,Agr.refl _ _,g⟩
def DuS.ac (h:DuS w R ab sb W q n0 c0 n1 c1 a0 f0 a1 f1 n c a f)(b:zt R W W')(hR:Rd W' R q'):DuS w R ab sb W' q' n0 c0 n1 c1 a0 f0 a1 f1 n c a f:=by have hl:=h.lo;exact⟨hR,h.bl.k (b.aa (by omega) h.bl.size),(b.p _ (aj h.za) (by omega)).k h.za,(b.p _ (aj h.zs) (by omega)).k h.zs,(b.p _ (aj h.ax) (by omega)).k h.ax,(b.p _ (aj h.sx) (by omega)).k h.sx,h.qs.fr (Fr.ac b (by simp)),h.qa.fr (Fr.ac b (by simp)),h.lo⟩
def DuS.aa (h:DuS w R ab sb W q n0 c0 n1 c1 a0 f0 a1 f1 n c a f)(b:Below (I (J W)) W W'):DuS w R ab sb W' q n0 c0 n1 c1 a0 f0 a1 f1 n c a f:=h.ac (zt.l b) (h.rd.aa b ly)
def DuS.cells (h:DuS w R ab sb W q n0 c0 n1 c1 a0 f0 a1 f1 n c a f):z W (T sb 0 Z)=Q (Y a0 n0 c0)/\z W (T sb 1 Z)=Q (Y a1 n1 c1)/\ZU W (T sb 0 Z)=ZA/\ZU W (T sb 1 Z)=ZA/\sb<I (J W):=by have hb:=h.sx;refine⟨?_,?_,?_,?_,aj hb⟩<;>simp[World.cell?,World.frozen?,hb]
def DuS.acc (h:DuS w R ab sb W q n0 c0 n1 c1 a0 f0 a1 f1 n c a f):z W (T ab 0 Z)=Q (Y a n c)/\ZU W (T ab 0 Z)=ZA/\ab<I (J W):=by have hb:=h.ax;refine⟨?_,?_,aj hb⟩<;>simp[World.cell?,World.frozen?,hb]
def DuS.set (h:DuS w R ab sb W q n0 c0 n1 c1 a0 f0 a1 f1 n c a f){x j:Nat}(b:x∈[R,I (J w),I (J w)+1,ab,sb])(hl:R<x)(u:Value):Rd (U W (T x j Z) u) R q/\Below (I (J w)) w (U W (T x j Z) u)/\Fr [R,I (J w),I (J w)+1,ab,sb] W (U W (T x j Z) u):=by have hh:=h.lo;exact⟨h.rd.low ((a8 (R+1) W).setCell (p:=(T x j Z)) (by show R+1<=x;omega) u) (eL _),h.bl.setCell (p:=(T x j Z)) (by show (I (J w))<=x;omega) u,Fr.set b u⟩
def DuS.put{m k:Nat}{b:O_}{g:Nat->au}(h:DuS w R ab sb W q n0 c0 n1 c1 a0 f0 a1 f1 n c a f)(o:QAc (I (J w)) [R,I (J w),I (J w)+1,ab,sb] W b m k g):DuS w R ab sb (U W (T ab 0 Z) (Y b m k)) q n0 c0 n1 c1 a0 f0 a1 f1 m k b g:=by have p:=h.lo;obtain⟨h1,h2,l⟩:=h.set (x:=ab) (j:=0) (by simp) p.2.1 (Y b m k);have far:∀i,i≠ab->(U W (T ab 0 Z) (Y b m k)).heap[i]?=W.heap[i]?:=λi hi=>qh _ _ _ _ hi;exact⟨h1,h2,(far _ (by omega)).k h.za,(far _ (by omega)).k h.zs,cH h.ax _,(far _ (by omega)).k h.sx,h.qs.fr l,o.fr l,h.lo⟩
def DuS.sput{m0 k0 k1:Nat}{b0 g:O_}{m:Nat->Source}{j:Nat->Target}(h:DuS w R ab sb W q n0 c0 n1 c1 a0 f0 a1 f1 n c a f)(o:QSh (R+1) [R,I (J w),I (J w)+1,ab,sb] W b0 m0 m g b j):DuS w R ab sb (U (U W (T sb 0 Z) (Y b0 m0 k0)) (T sb 1 Z) (Y g b k1)) q m0 k0 b k1 b0 m g j n c a f:=by have hl:=h.lo;have B:=((a8 (R+1) W).setCell (p:=(T sb 0 Z)) (by show R+1<=sb;omega) (Y b0 m0 k0)).setCell (p:=(T sb 1 Z)) (by show R+1<=sb;omega) (Y g b k1);have l:Fr [R,I (J w),I (J w)+1,ab,sb] W (U (U W (T sb 0 Z) (Y b0 m0 k0)) (T sb 1 Z) (Y g b k1)):=(Fr.set (by simp) _).k (Fr.set (by simp) _);have far:∀i,i≠sb->(U (U W (T sb 0 Z) (Y b0 m0 k0)) (T sb 1 Z) (Y g b k1)).heap[i]?=W.heap[i]?:=λi hi=>(qh _ _ _ _ hi).k (qh _ _ _ _ hi);have r:=h.sx;exact⟨h.rd.low B (eL _),(h.bl.setCell (p:=(T sb 0 Z)) (by show (I (J w))<=sb;omega) _).setCell (p:=(T sb 1 Z)) (by show (I (J w))<=sb;omega) _,(far _ (by omega)).k h.za,(far _ (by omega)).k h.zs,(far _ (by omega)).k h.ax,by simp[World.setCell,NQ,r],o.fr l,h.qa.fr l,h.lo⟩
end
def ua (ac:O_)(nc j_:Nat)(w:E)(hn:(nc:Int)<=1048576)(hc:nc<=j_)(ZT:ByteSl w ac nc):Calls Tryz.prog 4 #[Y ac nc j_] w λe w'=>DAu w e w':=by
 have S0:=ae ZT;clear ZT;go_enter func4,ntmps4;go_wp2_with fail;obtain⟨W0,ex⟩:∃W:E,(w.alloc (N #[Y Z 0 0] 25)).alloc (N #[Y Z 0 0,Y Z 0 0] 29)=W:=⟨_,rfl⟩
 obtain⟨A0,KA,KS,hzA⟩:=nb2 ex;have la:=ae ex;clear ex;rw[la.i];clear la;refine(lR ac nc j_ _ hn hc (S0.aa A0 ly)).P ?_;rintro e w1⟨R,rfl,hRz,mv,ZQ⟩;have R1:=ae mv;have B1:=ae (A0.k (ZQ.P (by omega)));have K1:=ae ((ZQ.p (I (J w)) (by omega)).k KA);have K2:=ae ((ZQ.p (I (J w)+1) (by omega)).k KS);have hs1:=ZQ.size;have hRl:=mv.lt;clear mv ZQ A0 KA KS S0;go_wp2_with fail;refine(DG R 0 _ R1 (by omega)).P ?_;rintro e A⟨a0,n0,c0,f0,a1,n1,c1,f1,a,n,c,f,rfl,ZT,hA,P,q2,hq2,ph,L⟩;have hs2:=L.size;obtain⟨W2,bt⟩:∃W:E,(A.alloc (N #[Y a n c] 25)).alloc (N #[Y a0 n0 c0,Y a1 n1 c1] 29)=W:=⟨_,rfl⟩
 obtain⟨G,fd,-,-⟩:=nb2 bt;replace fd:=fd.i;replace G:=G.i;have aq:=ae bt;clear bt;have D1:Hid (DuS w R (I (J A)) (I (J A)+1) W2 q2 n0 c0 n1 c1 a0 f0 a1 f1 n c a f):=by
  cases aq.i
  refine⟨ph.aa G ly,(B1.k (L.aa (by omega) B1.size)).k (G.P (by omega)),(G.p _ (by omega)).k ((L.p _ (by omega) (by omega)).k K1),(G.p _ (by omega)).k ((L.p _ (by omega) (by omega)).k K2),fd,SL A _ _,⟨I (J w1),A,by omega,ZT.1,de G ly,λx ZP=>?_⟩,⟨I (J w1),A,by omega,hA,de G ly,λx ZP=>?_⟩,by omega,by omega,by omega⟩;all_goals
   simp only[vG,nj,QV] at ZP;omega
 have C:=ae ZT.2;have HF:=ae P;clear G fd ZT hA P ph L B1 K1 K2 R1;have th:I (J w)+2<=I (J A):=by omega
 go_upto_region 3 with fail;rw[aq.i];clear aq;generalize DE:I (J A)+1=sb at D1 ⊢;have sm:I (J A)<sb:=by omega
 clear DE;generalize (I (J A))=ab at D1 th sm ⊢;go_wp2_with fail;refine(ay R _ 6 _ D1.rd (by omega) (by omega) (by omega)).P ?_;rintro e w3⟨ZV,rfl,hz0,hz1,hR,l⟩;have t:=ae (D1.ac l hR);clear hR l D1;go_upto_if 18 with fail;go_cut [] (λwx=>∃(q m k:Nat) (b:O_) (g:Nat->au),q<=11000/\Hid (m<=452/\∀i,i<m->FitK 2 (g i))/\Hid (DuS w R ab sb wx q n0 c0 n1 c1 a0 f0 a1 f1 m k b g));case first =>
  by_cases hz:ZV=0
  ·subst hz;obtain⟨y0,y1,y2⟩:=t.acc;go_wp2_with fail;refine(ts qT 1 2 (by omega) (by omega) R _ a n c f _ (t.qa.at.sl _ (Agr.refl _ _)) HF.2 HF.1 t.rd (by omega)).P ?_;rintro e w5⟨b,m,k,g,rfl,hA,⟨q5,Fm,hR,l⟩,qr,n8⟩;have HK:=ae (And.intro qr n8);clear qr n8;have hz5:=l.size;have ZN:=aj t.ax;have ZM:=aj t.sx;have X:=aj t.zs;have ZL:=t.lo;have u:=ae (t.ac l hR)
   have j:=ae (u.put (QAc.new hA (by omega) (λx ZP=>by
    simp only[vG,nj,QV] at ZP
    omega)))
   clear y0 y1 y2;obtain⟨y0,y1,y2⟩:=u.acc;clear hA hR l t u ZN ZM X ZL;go_wp2;go_meet;exact⟨_,m,k,b,g,by omega,HK,j⟩
  ·have ro:(ZV == 0)=ZA:=by simpa using hz
   go_wp2;go_meet;exact⟨_,n,c,a,f,by omega,⟨by have:=HF.1;omega,λi hi=>(HF.2 i hi).up (by omega)⟩,t⟩
 case rest =>
 clear t HF;obtain⟨q4,n,c,a,f,hq4,HK,o⟩:=hcut;generalize wc=W4 at o ⊢;go_upto_if 23 with fail;go_cut [] (λwx=>∃(q m0 D ZO H:Nat) (b0:O_) (g0:Nat->Source) (B:O_) (M:Nat->Target),q<=14000/\Hid (Gd m0 ZO M)/\Hid (DuS w R ab sb wx q m0 D ZO H b0 g0 B M n c a f));case first =>
  by_cases hz:ZV=1
  ·subst hz;obtain⟨x0,x1,x2,x3,x4⟩:=o.cells;go_wp2_with fail;refine(ol R _ (R+1) n0 c0 n1 c1 a0 f0 a1 f1 _ o.rd (by omega) (eL _) ⟨o.qs.at,C⟩).P ?_;rintro e w6⟨b0,m0,D,g0,B,ZO,H,M,rfl,hQ,q6,At,hR,l⟩;have Bk:=l.size;have ZN:=aj o.ax;have ZM:=aj o.sx;have X:=aj o.zs;have ZL:=o.lo;have j:=ae (o.ac l hR);have QQ:QSh (R+1) [R,I (J w),I (J w)+1,ab,sb] w6 b0 m0 g0 B ZO M/\Gd m0 ZO M:=by
    rcases hQ with hH|⟨rfl,rfl,rfl,rfl,rfl,rfl⟩
    ·exact⟨QSh.new hH.1 (by omega) (λx ZP=>by
      simp only[vG,nj,QV] at ZP
      omega),hH.2⟩
    {exact⟨j.qs,C⟩}
   have GG:=ae QQ.2;have D7:=ae (j.sput (k0:=D) (k1:=H) QQ.1);clear x0 x1 x2 x3 x4;obtain⟨x0,x1,x2,x3,x4⟩:=j.cells;clear hQ QQ hR l o j ZN ZM X ZL;go_wp2;go_meet;exact⟨_,_,_,_,_,_,_,_,_,by omega,GG,D7⟩
  ·have ro:(ZV == 1)=ZA:=by simpa using hz
   go_wp2;go_meet;exact⟨_,_,_,_,_,_,_,_,_,by omega,C,o⟩
 case rest =>
 clear o C;obtain⟨q5,n0,c0,n1,c1,a0,f0,a1,f1,Fm,C,u⟩:=hcut;generalize wc=W5 at u ⊢;go_upto_region 8 with fail;go_cut [33] (λs wx=>∃(B:Bool) (q:Nat),s=.bool B/\q<=14001/\Hid (DuS w R ab sb wx q n0 c0 n1 c1 a0 f0 a1 f1 n c a f));case first =>
  by_cases hz:ZV=2;{subst hz;go_wp2_with fail;refine(ay R _ 4 _ u.rd (by omega) (by omega) (by omega)).P ?_;rintro e w6⟨y,rfl,hy0,hy1,hR,l⟩;have j:=ae (u.ac l hR);clear hR l u;go_wp2;go_meet;exact⟨_,_,rfl,by omega,j⟩}
  ·have ro:(ZV == 2)=ZA:=by simpa using hz
   go_wp2;go_meet;exact⟨ZA,_,rfl,by omega,u⟩
 case rest =>
 clear u;obtain⟨B,q6,rfl,At,j⟩:=hcut;generalize wc=W6 at j ⊢;go_upto_if 33 with fail;go_cut [] (λwx=>∃(q m0 D ZO H:Nat) (b0:O_) (g0:Nat->Source) (B:O_) (M:Nat->Target),Hid (DuS w R ab sb wx q m0 D ZO H b0 g0 B M n c a f));case first =>
  cases B with
  |true =>
   obtain⟨x0,x1,x2,x3,x4⟩:=j.cells;go_wp2_with fail;refine(oW R _ (R+1) n0 c0 n1 c1 a0 f0 a1 f1 _ j.rd (by omega) j.qs.at C.2.2 C.1 C.2.1).P ?_;rintro e w7⟨b0,m0,D,g0,B,ZO,H,M,rfl,hH,q7,hq7,hR,l⟩;have Bk:=l.size;have ZN:=aj j.ax;have ZM:=aj j.sx;have X:=aj j.zs;have ZL:=j.lo;have D7:=ae (j.ac l hR)
   have D8:=ae (D7.sput (k0:=D) (k1:=H) (QSh.new hH (by omega) (λx ZP=>by
    simp only[vG,nj,QV] at ZP
    omega)))
   clear x0 x1 x2 x3 x4;obtain⟨x0,x1,x2,x3,x4⟩:=D7.cells;clear hH hR l j D7 ZN ZM X ZL;go_wp2;go_meet;exact⟨_,_,_,_,_,_,_,_,_,D8⟩
  |false =>go_wp2;go_meet;exact⟨_,_,_,_,_,_,_,_,_,j⟩
 case rest =>
 clear j C;obtain⟨q8,n0,c0,n1,c1,a0,f0,a1,f1,j⟩:=hcut;generalize wc=W6 at j ⊢;go_wp2_with fail;have SQ:Hid (∀V,DuS w R ab sb V q8 n0 c0 n1 c1 a0 f0 a1 f1 n c a f->z V (T sb 0 Z)=Q (Y a0 n0 c0)/\z V (T sb 1 Z)=Q (Y a1 n1 c1)/\z V (T ab 0 Z)=Q (Y a n c)):=λV h=>⟨h.cells.1,h.cells.2.1,h.acc.1⟩
 have O:=ae (j.aa br.drew);refine wp_region_held_drew (S:=λV=>z V (T sb 0 Z)=Q (Y a0 n0 c0)/\z V (T sb 1 Z)=Q (Y a1 n1 c1)/\z V (T ab 0 Z)=Q (Y a n c)) (by as_aux_lemma=>kernel_rfl) (SQ _ O) λZT=>?_;have ZR:=ae ZT;clear ZT j;generalize W6.drew=r at O ZR ⊢;iterate 2
  refine aN 0 (v:=?_) rfl rfl (by as_aux_lemma=>kernel_rfl) (λ_ _ _ h=>h) rfl ?_ ZR ?_;rotate_left
  ·(rintro wz⟨s0,s1,s2⟩;go_simp)
   (try with_reducible rfl)
  (try simp only[p_,z_])
 have ks:=O.zs;have ka:=O.za;have r0:z r (T (I (J w)+1) 0 Z)=Q (Y Z 0 0):=by simp[World.cell?,ks]
 have r1:z r (T (I (J w)+1) 1 Z)=Q (Y Z 0 0):=by simp[World.cell?,ks]
 have r2:z r (T (I (J w)) 0 Z)=Q (Y Z 0 0):=by simp[World.cell?,ka]
 have y0:ZU r (T (I (J w)+1) 0 Z)=ZA:=by simp[World.frozen?,ks]
 have y1:ZU r (T (I (J w)+1) 1 Z)=ZA:=by simp[World.frozen?,ks]
 have y2:ZU r (T (I (J w)) 0 Z)=ZA:=by simp[World.frozen?,ka]
 have l0:=aj ks;have l1:=aj ka;have FR:Hid (Fr [R,I (J w),I (J w)+1,ab,sb] r (U (U (U r (T (I (J w)) 0 Z) (Y a n c)) (T (I (J w)+1) 0 Z) (Y a0 n0 c0)) (T (I (J w)+1) 1 Z) (Y a1 n1 c1))):=((Fr.set (by simp) _).k (Fr.set (by simp) _)).k (Fr.set (by simp) _);have DQ:=ae ((O.qs.fr FR).at.P (show (I (J w))<=R+1 by have:=O.lo;omega));have ur:=ae (O.qa.fr FR).at;have B9:=ae (((O.bl.setCell (p:=(T (I (J w)) 0 Z)) ly (Y a n c)).setCell (p:=(T (I (J w)+1) 0 Z)) (BV _) (Y a0 n0 c0)).setCell (p:=(T (I (J w)+1) 1 Z)) (BV _) (Y a1 n1 c1));clear ks ka FR;have n9:sb≠I (J w):=by omega
 have Fk:ab≠I (J w):=by omega
 have ld:ab≠I (J w)+1:=by omega
 have ZS:sb≠I (J w)+1:=by omega
 refine aL (i:=2) rfl (by as_aux_lemma=>kernel_rfl) λK P=>?_;go_simp;obtain⟨h1,h2,h3⟩:=ZR.i;clear ZR;have ZR:=ae (show z (U r (T (I (J w)) 0 Z) (Y a n c)) (T sb 0 Z)=Q (Y a0 n0 c0)/\z (U r (T (I (J w)) 0 Z) (Y a n c)) (T sb 1 Z)=Q (Y a1 n1 c1)/\z (U r (T (I (J w)) 0 Z) (Y a n c)) (T ab 0 Z)=Q (Y a n c) from⟨(K_ _ _ _ _ n9.c).k h1,(K_ _ _ _ _ n9.c).k h2,(K_ _ _ _ _ Fk.c).k h3⟩);clear h1 h2 h3;refine P _ _ ZR ?_;clear P K
 (try simp only[p_,z_])
 refine aL (i:=3) rfl (by as_aux_lemma=>kernel_rfl) λK P=>?_;go_simp;refine P _ _ ⟨(K_ _ _ _ _ ZS.c).k ((K_ _ _ _ _ ZS.c).k ZR.1),(K_ _ _ _ _ ZS.c).k ((K_ _ _ _ _ ZS.c).k ZR.2.1),(K_ _ _ _ _ ld.c).k ((K_ _ _ _ _ ld.c).k ZR.2.2)⟩ ?_;clear P K
 (try simp only[p_,z_])
 refine wpAnyH_done (by as_aux_lemma=>kernel_rfl) ?_ _;go_wp2;exact bp (v:=.tuple #[ZJ #[Y a n c],ZJ #[Y a0 n0 c0,Y a1 n1 c1]]) (by simp[results,results4,go_sem,r0,r1,r2]) rfl ⟨_,_,_,_,_,_,_,_,_,_,_,_,rfl,DQ,ur,HK,B9⟩
