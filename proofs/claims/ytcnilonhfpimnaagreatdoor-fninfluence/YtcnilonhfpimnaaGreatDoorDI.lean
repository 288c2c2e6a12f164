import Derived.Test.YtcnilonhfpimnaaGreatDoorDG
import Derived.Test.YtcnilonhfpimnaaGreatDoorEU
import Derived.Test.YtcnilonhfpimnaaGreatDoorDF
set_option linter.all false
set_option maxRecDepth 100000
set_option maxHeartbeats 8000000
open Go renaming Addr.mk->T,Value.slice->Z,Value.agg->ZJ,Obj.cells->N,World->E,Ending.returned->ZI,World.heap->J,World.cell?->U,World.frozen?->ZU
open Option renaming none->Y,some->Q
open Bool renaming false->ZA
open Array renaming size->I
namespace Go.Proofs.YtcnilonhfpimnaaGreatDoor.Vp
open Tryz RowKit Ca
variable {lo b:Nat}
def DAS (w:E)(R q:Nat)(e:Ending)(b:E):Prop:=∃(a0:O_) (n0 c0:Nat) (f0:Nat->Source) (a1:O_) (n1 c1:Nat) (f1:Nat->Target) (a:O_) (n c:Nat) (f:Nat->au),e=ZI (.tuple #[ZJ #[Z a n c],ZJ #[Z a0 n0 c0,Z a1 n1 c1]])/\HSg (I (J w)) b a0 n0 f0 a1 n1 f1/\HAc (I (J w)) b a n c f/\(n<=451/\∀i,i<n->FitK 1 (f i))/\∃q':Nat,q'<=q/\Rd b R q'/\zt R w b
def DG (R p:Nat)(w:E)(hR:Rd w R p)(hp:p<=3000):Calls Tryz.prog 18 #[.pointer (Q (T R 0 Y))] w λe w'=>DAS w R (p+9500) e w':=by
 have HR:=ae hR;have ZM:=hR.lt;obtain⟨W0,X⟩:∃W:E,(w.alloc (N #[Z Y 0 0] 25)).alloc (N #[Z Y 0 0,Z Y 0 0] 29)=W:=⟨_,rfl⟩
 obtain⟨A0,KA,KS,hzA⟩:=nb2 X;have bt:=ae X;clear X;clear hR;go_enter func18,ntmps18;go_wp2_with fail;rw[bt.i];clear bt;refine(AF R p _ (HR.aa A0 ly) (by omega)).P ?_;rintro e s⟨a0,n0,c0,f0,a1,n1,c1,f1,a,n,c,f,rfl,hS,ZS,hn,hf,q1,hq1,ld,M⟩;have hs1:=M.size;obtain⟨W1,O⟩:∃W:E,(s.alloc (N #[Z a0 n0 c0,Z a1 n1 c1] 29)).alloc (N #[Z a n c] 25)=W:=⟨_,rfl⟩
 obtain⟨G,A,-,-⟩:=nb2 O;replace A:=A.i;replace G:=G.i;have ZL:=ae O;clear O;have D1:Hid (Dr2 [I (J s)+1,R,I (J w)+1,I (J w),I (J s)] w R (I (J w)+1) (I (J w)) (I (J s)) (I (J s)+1) W1 q1 n0 c0 n1 c1 a0 f0 a1 f1 n c a f):=by
  cases ZL.i
  refine⟨⟨ld.aa G ly,((zt.l A0).k M).k (zt.l G),(G.p _ (by omega)).k ((M.p _ (by omega) (by omega)).k KS),(G.p _ (by omega)).k ((M.p _ (by omega) (by omega)).k KA),A,⟨I (J W0),s,by omega,hS,de G ly,?_⟩,ZM,by omega,by omega,by omega⟩,SL s _ _,⟨I (J W0),s,by omega,ZS,de G ly,?_⟩,by omega⟩;all_goals
   intro x ZT;simp only[vG,nj,QW] at ZT;omega
 have HF:=ae hf;clear G A hS ZS hf ld M A0 KS KA HR;have sm:I (J w)+2<=I (J s):=by omega
 go_upto_region 2 with fail;rw[ZL.i];clear ZL;generalize th:I (J s)+1=ab at D1 ⊢;have hab2:I (J w)+3<=ab:=by omega
 have qr:I (J s)<ab:=by omega
 clear th;generalize (I (J s))=sb at D1 sm qr ⊢;go_wp2_with fail;refine(ay R _ 5 _ D1.d.rd (by omega) (by omega) (by omega)).P ?_;rintro e w2⟨z,rfl,hz0,hz1,hR,r⟩;have L:=ae (D1.ac r hR (by simp));clear hR r D1;go_upto_if 14 with fail;go_cut [] (λwx=>∃(q m0 C ZO B m k:Nat) (b0:O_) (P:Nat->Source) (ZP:O_) (ZN:Nat->Target) (b:O_) (g:Nat->au),q<=p+5600/\m<=400/\Hid (∀i,i<m->FitI (g i))/\Hid (Dr2 [ab,R,I (J w)+1,I (J w),sb] w R (I (J w)+1) (I (J w)) sb ab wx q m0 C ZO B b0 P ZP ZN m k b g));case first =>
  by_cases hz:z=0
  ·subst hz;go_wp2_with fail;refine(tZ R _ _ L.d.rd (by omega)).P ?_;rintro e w3⟨b0,m0,C,P,ZP,ZO,B,ZN,rfl,hH,q3,DQ,hR,r⟩;have hz3:=r.size;have ph:=aj L.ax;have mv:=aj L.d.sx;have la:=aj L.d.zs;have ZR:=ae (L.ac r hR (by simp))
   have l:=ae (ZR.sput (k0:=C) (k1:=B) (by simp) (by omega) (QSp.new hH (by omega) (λx ZT=>by
    simp only[vG,nj,QW] at ZT
    omega)))
   obtain⟨x0,x1,x2,x3,x4⟩:=ZR.d.cells;clear hH hR r L ZR;go_upto_region 4 with fail;generalize World.setCell (World.setCell w3 _ _) _ _=W4 at l ⊢;clear x0 x1 x2 x3 x4;obtain⟨x0,x1,x2,x3,x4⟩:=l.d.cells;go_wp2_with fail;refine(se (I (J w)) m0 C ZO B b0 P ZP ZN _ ⟨#[116,52]⟩ l.d.qs.at.1).P ?_;rintro e w5⟨b,m,k,g,kk,tt,ra,rn,rc,rfl,ZS,hm,hg,hB⟩;have ur:=hB.size;have hl4:=aj l.ax;have hl5:=aj l.d.zs;have n9:=l.d.o.size;have j:=ae (l.aa hB (by simp))
   have t:=ae (j.put (by simp) (by omega) (QAc.new ZS (by omega) (λx ZT=>by
    simp only[vG,nj,QW] at ZT
    omega)))
   obtain⟨y0,y1,y2⟩:=j.acc;have HG:=ae hg;clear ZS hB hg l j x0 x1 x2 x3 x4;go_wp2;go_meet;exact⟨_,_,_,_,_,m,k,_,_,_,_,b,g,by omega,hm,HG,t⟩
  ·have hzb:(z == 0)=ZA:=by simpa using hz
   go_wp2;go_meet;exact⟨_,_,_,_,_,n,c,_,_,_,_,a,f,by omega,hn,HF,L⟩
 case rest =>
 clear L HF hn;obtain⟨q3,n0,c0,n1,c1,n,c,a0,f0,a1,f1,a,f,DQ,hn,HF,ZR⟩:=hcut;generalize wc=W3 at ZR ⊢;go_wp2_with fail;refine(ay R _ 8 _ ZR.d.rd (by omega) (by omega) (by omega)).P ?_;rintro e w4⟨y,rfl,hy0,hy1,hR,r⟩;have l:=ae (ZR.ac r hR (by simp));clear hR r ZR;go_upto_if 25 with fail;go_cut [] (λwx=>∃(q m k:Nat) (b:O_) (g:Nat->au),q<=p+6800/\Hid (m<=451/\∀i,i<m->FitK 1 (g i))/\Hid (Dr2 [ab,R,I (J w)+1,I (J w),sb] w R (I (J w)+1) (I (J w)) sb ab wx q n0 c0 n1 c1 a0 f0 a1 f1 m k b g));case first =>
  by_cases hy:y=0
  ·subst hy;obtain⟨y0,y1,y2⟩:=l.acc;go_wp2_with fail;refine(ts qT 0 1 (by omega) (by omega) R _ a n c f _ (l.qa.at.sl _ (Agr.refl _ _)) (λi hi=>(HF i hi).k) (by omega) l.d.rd (by omega)).P ?_;rintro e w5⟨b,m,k,g,rfl,ZS,⟨q5,DE,hR,r⟩,fd,n8⟩;have HK:=ae (And.intro fd n8);clear fd n8;have ur:=r.size;have ph:=aj l.ax;have mv:=aj l.d.sx;have la:=aj l.d.zs;have n9:=l.d.o.size;have j:=ae (l.ac r hR (by simp))
   have t:=ae (j.put (by simp) (by omega) (QAc.new ZS (by omega) (λx ZT=>by
    simp only[vG,nj,QW] at ZT
    omega)))
   clear y0 y1 y2;obtain⟨y0,y1,y2⟩:=j.acc;clear ZS hR r l j;go_wp2;go_meet;exact⟨_,m,k,b,g,by omega,HK,t⟩
  ·have At:(y == 0)=ZA:=by simpa using hy
   go_wp2;go_meet;exact⟨_,n,c,a,f,by omega,⟨by omega,λi hi=>(HF i hi).k⟩,l⟩
 case rest =>
 clear l HF hn;obtain⟨q4,n,c,a,f,hq4,HK,j⟩:=hcut;generalize wc=W5 at j ⊢;go_upto_if 30 with fail;go_cut [] (λwx=>∃(q m0 C ZO B:Nat) (b0:O_) (P:Nat->Source) (ZP:O_) (ZN:Nat->Target),q<=p+9500/\Hid (Dr2 [ab,R,I (J w)+1,I (J w),sb] w R (I (J w)+1) (I (J w)) sb ab wx q m0 C ZO B b0 P ZP ZN n c a f));case first =>
  by_cases hy:y=1
  ·subst hy;obtain⟨x0,x1,x2,x3,x4⟩:=j.d.cells;go_wp2_with fail;refine(ol R _ (I (J w)) n0 c0 n1 c1 a0 f0 a1 f1 _ j.d.rd (by omega) ZM j.d.qs.at).P ?_;rintro e w6⟨b0,m0,C,P,ZP,ZO,B,ZN,rfl,hQ,q6,hq6,hR,r⟩;have hz6:=r.size;have ph:=aj j.ax;have mv:=aj j.d.sx;have la:=aj j.d.zs;have n9:=j.d.o.size;have t:=ae (j.ac r hR (by simp));have QQ:QSp (I (J w)) [ab,R,I (J w)+1,I (J w),sb] w6 b0 m0 P ZP ZO ZN:=by
    rcases hQ with hH|⟨rfl,rfl,rfl,rfl,rfl,rfl⟩
    ·exact QSp.new hH (by omega) (λx ZT=>by
      simp only[vG,nj,QW] at ZT
      omega)
    {exact t.d.qs}
   have D7:=ae (t.sput (k0:=C) (k1:=B) (by simp) (by omega) QQ);clear x0 x1 x2 x3 x4;obtain⟨x0,x1,x2,x3,x4⟩:=t.d.cells;clear hQ QQ hR r j t;go_wp2;go_meet;exact⟨_,_,_,_,_,_,_,_,_,by omega,D7⟩
  ·have At:(y == 1)=ZA:=by simpa using hy
   go_wp2;go_meet;exact⟨_,_,_,_,_,_,_,_,_,by omega,j⟩
 case rest =>
 clear j;obtain⟨q5,n0,c0,n1,c1,a0,f0,a1,f1,DE,t⟩:=hcut;generalize wc=W6 at t ⊢;go_wp2_with fail;have SQ:Hid (∀V,Dr2 [ab,R,I (J w)+1,I (J w),sb] w R (I (J w)+1) (I (J w)) sb ab V q5 n0 c0 n1 c1 a0 f0 a1 f1 n c a f->U V (T sb 0 Y)=Q (Z a0 n0 c0)/\U V (T sb 1 Y)=Q (Z a1 n1 c1)/\U V (T ab 0 Y)=Q (Z a n c)):=λV h=>⟨h.d.cells.1,h.d.cells.2.1,h.acc.1⟩
 have ZQ:=ae (t.aa br.drew (by simp));refine wp_region_held_drew (S:=λV=>U V (T sb 0 Y)=Q (Z a0 n0 c0)/\U V (T sb 1 Y)=Q (Z a1 n1 c1)/\U V (T ab 0 Y)=Q (Z a n c)) (by as_aux_lemma=>kernel_rfl) (SQ _ ZQ) λhS=>?_;have D:=ae hS;clear hS t;generalize W6.drew=u at ZQ D ⊢;iterate 2
  refine aN 0 (v:=?_) rfl rfl (by as_aux_lemma=>kernel_rfl) (λ_ _ _ h=>h) rfl ?_ D ?_;rotate_left
  ·(rintro wz⟨s0,s1,s2⟩;go_simp)
   (try with_reducible rfl)
  (try simp only[Act.put,z_])
 have A:=ZQ.d.zs;have ka:=ZQ.d.za;have r0:U u (T (I (J w)+1) 0 Y)=Q (Z Y 0 0):=by simp[World.cell?,A]
 have r1:U u (T (I (J w)+1) 1 Y)=Q (Z Y 0 0):=by simp[World.cell?,A]
 have r2:U u (T (I (J w)) 0 Y)=Q (Z Y 0 0):=by simp[World.cell?,ka]
 have y0:ZU u (T (I (J w)+1) 0 Y)=ZA:=by simp[World.frozen?,A]
 have y1:ZU u (T (I (J w)+1) 1 Y)=ZA:=by simp[World.frozen?,A]
 have y2:ZU u (T (I (J w)) 0 Y)=ZA:=by simp[World.frozen?,ka]
 have l0:=aj A;have l1:=aj ka;have B3:=ae ((((a8 (I (J w)) u).setCell (p:=(T (I (J w)) 0 Y)) ly (Z a n c)).setCell (p:=(T (I (J w)+1) 0 Y)) (BV _) (Z a0 n0 c0)).setCell (p:=(T (I (J w)+1) 1 Y)) (BV _) (Z a1 n1 c1));have FR:Hid (Fr [ab,R,I (J w)+1,I (J w),sb] u (((u.setCell (T (I (J w)) 0 Y) (Z a n c)).setCell (T (I (J w)+1) 0 Y) (Z a0 n0 c0)).setCell (T (I (J w)+1) 1 Y) (Z a1 n1 c1))):=((Fr.set (by simp) _).k (Fr.set (by simp) _)).k (Fr.set (by simp) _);have Bk:=ae (ZQ.d.qs.fr FR).at;have Fd:=ae (ZQ.qa.fr FR).at;have R9:=ae (ZQ.d.rd.low B3 ZM);have O9:=ae (ZQ.d.o.then B3);clear A ka B3 FR;have ex:sb≠I (J w):=by omega
 have Fk:ab≠I (J w):=by omega
 have aq:ab≠I (J w)+1:=by omega
 have H:sb≠I (J w)+1:=by omega
 refine aL (i:=2) rfl (by as_aux_lemma=>kernel_rfl) λK hK=>?_;go_simp;obtain⟨h1,h2,h3⟩:=D.i;clear D;have D:=ae (show(u.setCell (T (I (J w)) 0 Y) (Z a n c)).cell? (T sb 0 Y)=Q (Z a0 n0 c0)/\(u.setCell (T (I (J w)) 0 Y) (Z a n c)).cell? (T sb 1 Y)=Q (Z a1 n1 c1)/\(u.setCell (T (I (J w)) 0 Y) (Z a n c)).cell? (T ab 0 Y)=Q (Z a n c) from⟨(Q_ _ _ _ _ ex.c).k h1,(Q_ _ _ _ _ ex.c).k h2,(Q_ _ _ _ _ Fk.c).k h3⟩);clear h1 h2 h3;refine hK _ _ D ?_;clear hK K
 (try simp only[Act.put,z_])
 refine aL (i:=3) rfl (by as_aux_lemma=>kernel_rfl) λK hK=>?_;go_simp;refine hK _ _ ⟨(Q_ _ _ _ _ H.c).k ((Q_ _ _ _ _ H.c).k D.1),(Q_ _ _ _ _ H.c).k ((Q_ _ _ _ _ H.c).k D.2.1),(Q_ _ _ _ _ aq.c).k ((Q_ _ _ _ _ aq.c).k D.2.2)⟩ ?_;clear hK K
 (try simp only[Act.put,z_])
 refine wpAnyH_done (by as_aux_lemma=>kernel_rfl) ?_ _;go_wp2;exact bp (v:=.tuple #[ZJ #[Z a n c],ZJ #[Z a0 n0 c0,Z a1 n1 c1]]) (by simp[results,results18,go_sem,r0,r1,r2]) rfl ⟨_,_,_,_,_,_,_,_,_,_,_,_,rfl,Bk,Fd,HK,q5,by omega,R9,O9⟩
def DAu (w:E)(e:Ending)(b:E):Prop:=∃(a0:O_) (n0 c0:Nat) (f0:Nat->Source) (a1:O_) (n1 c1:Nat) (f1:Nat->Target) (a:O_) (n c:Nat) (f:Nat->au),e=ZI (.tuple #[ZJ #[Z a n c],ZJ #[Z a0 n0 c0,Z a1 n1 c1]])/\HSp (I (J w)) b a0 n0 f0 a1 n1 f1/\HAc (I (J w)) b a n c f/\(n<=452/\∀i,i<n->FitK 2 (f i))/\Below (I (J w)) w b
def QSh (lo:Nat)(g:List Nat)(W:E)(a0:O_)(n0:Nat)(f0:Nat->Source)(a1:O_)(n1:Nat)(f1:Nat->Target):Prop:=∃(b:Nat) (f:E),lo<=b/\HSp b f a0 n0 f0 a1 n1 f1/\Agr b f W/\pR g b (I (J f))
structure DuS (w:E)(R ab sb:Nat)(W:E)(q n0 c0 n1 c1:Nat)(a0:O_)(f0:Nat->Source)(a1:O_)(f1:Nat->Target)(n c:Nat)(a:O_)(f:Nat->au):Prop where
 rd:Rd W R q
 bl:Below (I (J w)) w W
 za:W.heap[I (J w)]?=Q (N #[Z Y 0 0] 25 (0,0))
 zs:W.heap[I (J w)+1]?=Q (N #[Z Y 0 0,Z Y 0 0] 29 (0,0))
 ax:W.heap[ab]?=Q (N #[Z a n c] 25 (0,0))
 sx:W.heap[sb]?=Q (N #[Z a0 n0 c0,Z a1 n1 c1] 29 (0,0))
 qs:QSh (R+1) [R,I (J w),I (J w)+1,ab,sb] W a0 n0 f0 a1 n1 f1
 qa:QAc (I (J w)) [R,I (J w),I (J w)+1,ab,sb] W a n c f
 lo:I (J w)+1<R/\R<ab/\ab<sb
section
variable {w W W':E}{R sb ab q q' n0 c0 n1 c1 n c:Nat}{a0 a1 a:O_}{f0:Nat->Source}{f1:Nat->Target}{f:Nat->au}
def QSh.fr{f:List Nat}(h:QSh lo f W a0 n0 f0 a1 n1 f1)(i:Fr f W W'):QSh lo f W' a0 n0 f0 a1 n1 f1:=by obtain⟨b,l,j,h1,h2,g⟩:=h;exact⟨b,l,j,h1,h2.fr g i,g⟩
def QSh.at{f:List Nat}(h:QSh lo f W a0 n0 f0 a1 n1 f1):HSp lo W a0 n0 f0 a1 n1 f1:=by obtain⟨b,w1,g,h1,h2,-⟩:=h;exact(h1.agr h2).P g
def QSh.new{xs:List Nat}(h:HSp b W a0 n0 f0 a1 n1 f1)(f:lo<=b)(g:pR xs b (I (J W))):QSh lo xs W a0 n0 f0 a1 n1 f1:=⟨b,W,f,h,Agr.refl _ _,g⟩
def DuS.ac (h:DuS w R ab sb W q n0 c0 n1 c1 a0 f0 a1 f1 n c a f)(b:zt R W W')(hR:Rd W' R q'):DuS w R ab sb W' q' n0 c0 n1 c1 a0 f0 a1 f1 n c a f:=by have hl:=h.lo;exact⟨hR,h.bl.k (b.aa (by omega) h.bl.size),(b.p _ (aj h.za) (by omega)).k h.za,(b.p _ (aj h.zs) (by omega)).k h.zs,(b.p _ (aj h.ax) (by omega)).k h.ax,(b.p _ (aj h.sx) (by omega)).k h.sx,h.qs.fr (Fr.ac b (by simp)),h.qa.fr (Fr.ac b (by simp)),h.lo⟩
def DuS.aa (h:DuS w R ab sb W q n0 c0 n1 c1 a0 f0 a1 f1 n c a f)(b:Below (I (J W)) W W'):DuS w R ab sb W' q n0 c0 n1 c1 a0 f0 a1 f1 n c a f:=h.ac (zt.l b) (h.rd.aa b ly)
def DuS.cells (h:DuS w R ab sb W q n0 c0 n1 c1 a0 f0 a1 f1 n c a f):U W (T sb 0 Y)=Q (Z a0 n0 c0)/\U W (T sb 1 Y)=Q (Z a1 n1 c1)/\ZU W (T sb 0 Y)=ZA/\ZU W (T sb 1 Y)=ZA/\sb<I (J W):=by have hb:=h.sx;refine⟨?_,?_,?_,?_,aj hb⟩<;>simp[World.cell?,World.frozen?,hb]
def DuS.acc (h:DuS w R ab sb W q n0 c0 n1 c1 a0 f0 a1 f1 n c a f):U W (T ab 0 Y)=Q (Z a n c)/\ZU W (T ab 0 Y)=ZA/\ab<I (J W):=by have hb:=h.ax;refine⟨?_,?_,aj hb⟩<;>simp[World.cell?,World.frozen?,hb]
def DuS.set (h:DuS w R ab sb W q n0 c0 n1 c1 a0 f0 a1 f1 n c a f){x j:Nat}(b:x∈[R,I (J w),I (J w)+1,ab,sb])(hl:R<x)(u:Value):Rd (W.setCell (T x j Y) u) R q/\Below (I (J w)) w (W.setCell (T x j Y) u)/\Fr [R,I (J w),I (J w)+1,ab,sb] W (W.setCell (T x j Y) u):=by have hh:=h.lo;exact⟨h.rd.low ((a8 (R+1) W).setCell (p:=(T x j Y)) (by show R+1<=x;omega) u) (eL _),h.bl.setCell (p:=(T x j Y)) (by show (I (J w))<=x;omega) u,Fr.set b u⟩
def DuS.put{m k:Nat}{b:O_}{g:Nat->au}(h:DuS w R ab sb W q n0 c0 n1 c1 a0 f0 a1 f1 n c a f)(p:QAc (I (J w)) [R,I (J w),I (J w)+1,ab,sb] W b m k g):DuS w R ab sb (W.setCell (T ab 0 Y) (Z b m k)) q n0 c0 n1 c1 a0 f0 a1 f1 m k b g:=by have o:=h.lo;obtain⟨h1,h2,l⟩:=h.set (x:=ab) (j:=0) (by simp) o.2.1 (Z b m k);have far:∀i,i≠ab->(W.setCell (T ab 0 Y) (Z b m k)).heap[i]?=W.heap[i]?:=λi hi=>qh _ _ _ _ hi;exact⟨h1,h2,(far _ (by omega)).k h.za,(far _ (by omega)).k h.zs,cH h.ax _,(far _ (by omega)).k h.sx,h.qs.fr l,p.fr l,h.lo⟩
def DuS.sput{m0 k0 k1:Nat}{b0 g:O_}{l:Nat->Source}{j:Nat->Target}(h:DuS w R ab sb W q n0 c0 n1 c1 a0 f0 a1 f1 n c a f)(o:QSh (R+1) [R,I (J w),I (J w)+1,ab,sb] W b0 m0 l g b j):DuS w R ab sb ((W.setCell (T sb 0 Y) (Z b0 m0 k0)).setCell (T sb 1 Y) (Z g b k1)) q m0 k0 b k1 b0 l g j n c a f:=by have hl:=h.lo;have B:=((a8 (R+1) W).setCell (p:=(T sb 0 Y)) (by show R+1<=sb;omega) (Z b0 m0 k0)).setCell (p:=(T sb 1 Y)) (by show R+1<=sb;omega) (Z g b k1);have m:Fr [R,I (J w),I (J w)+1,ab,sb] W ((W.setCell (T sb 0 Y) (Z b0 m0 k0)).setCell (T sb 1 Y) (Z g b k1)):=(Fr.set (by simp) _).k (Fr.set (by simp) _);have far:∀i,i≠sb->((W.setCell (T sb 0 Y) (Z b0 m0 k0)).setCell (T sb 1 Y) (Z g b k1)).heap[i]?=W.heap[i]?:=λi hi=>(qh _ _ _ _ hi).k (qh _ _ _ _ hi);have r:=h.sx;exact⟨h.rd.low B (eL _),(h.bl.setCell (p:=(T sb 0 Y)) (by show (I (J w))<=sb;omega) _).setCell (p:=(T sb 1 Y)) (by show (I (J w))<=sb;omega) _,(far _ (by omega)).k h.za,(far _ (by omega)).k h.zs,(far _ (by omega)).k h.ax,by simp[World.setCell,NR,r],o.fr m,h.qa.fr m,h.lo⟩
end
def ua (ac:O_)(nc j_:Nat)(w:E)(hn:(nc:Int)<=1048576)(hc:nc<=j_)(H:ByteSl w ac nc):Calls Tryz.prog 4 #[Z ac nc j_] w λe w'=>DAu w e w':=by
 have S0:=ae H;clear H;go_enter func4,ntmps4;go_wp2_with fail;obtain⟨W0,ex⟩:∃W:E,(w.alloc (N #[Z Y 0 0] 25)).alloc (N #[Z Y 0 0,Z Y 0 0] 29)=W:=⟨_,rfl⟩
 obtain⟨A0,KA,KS,hzA⟩:=nb2 ex;have mv:=ae ex;clear ex;rw[mv.i];clear mv;refine(lR ac nc j_ _ hn hc (S0.aa A0 ly)).P ?_;rintro e w1⟨R,rfl,hRz,ld,L⟩;have R1:=ae ld;have B1:=ae (A0.k (L.P (by omega)));have K1:=ae ((L.p (I (J w)) (by omega)).k KA);have K2:=ae ((L.p (I (J w)+1) (by omega)).k KS);have hs1:=L.size;have hRl:=ld.lt;clear ld L A0 KA KS S0;go_wp2_with fail;refine(DG R 0 _ R1 (by omega)).P ?_;rintro e A⟨a0,n0,c0,f0,a1,n1,c1,f1,a,n,c,f,rfl,H,hA,M,q2,hq2,ro,X⟩;have hs2:=X.size;obtain⟨W2,bt⟩:∃W:E,(A.alloc (N #[Z a n c] 25)).alloc (N #[Z a0 n0 c0,Z a1 n1 c1] 29)=W:=⟨_,rfl⟩
 obtain⟨ZS,fd,-,-⟩:=nb2 bt;replace fd:=fd.i;replace ZS:=ZS.i;have aq:=ae bt;clear bt;have D1:Hid (DuS w R (I (J A)) (I (J A)+1) W2 q2 n0 c0 n1 c1 a0 f0 a1 f1 n c a f):=by
  cases aq.i
  refine⟨ro.aa ZS ly,(B1.k (X.aa (by omega) B1.size)).k (ZS.P (by omega)),(ZS.p _ (by omega)).k ((X.p _ (by omega) (by omega)).k K1),(ZS.p _ (by omega)).k ((X.p _ (by omega) (by omega)).k K2),fd,SL A _ _,⟨I (J w1),A,by omega,H.1,de ZS ly,λx ZQ=>?_⟩,⟨I (J w1),A,by omega,hA,de ZS ly,λx ZQ=>?_⟩,by omega,by omega,by omega⟩;all_goals
   simp only[vG,nj,QW] at ZQ;omega
 have C:=ae H.2;have HF:=ae M;clear ZS fd H hA M ro X B1 K1 K2 R1;have At:I (J w)+2<=I (J A):=by omega
 go_upto_region 3 with fail;rw[aq.i];clear aq;generalize ur:I (J A)+1=sb at D1 ⊢;have sm:I (J A)<sb:=by omega
 clear ur;generalize (I (J A))=ab at D1 At sm ⊢;go_wp2_with fail;refine(ay R _ 6 _ D1.rd (by omega) (by omega) (by omega)).P ?_;rintro e w3⟨z,rfl,hz0,hz1,hR,l⟩;have r:=ae (D1.ac l hR);clear hR l D1;go_upto_if 18 with fail;go_cut [] (λwx=>∃(q m k:Nat) (b:O_) (g:Nat->au),q<=11000/\Hid (m<=452/\∀i,i<m->FitK 2 (g i))/\Hid (DuS w R ab sb wx q n0 c0 n1 c1 a0 f0 a1 f1 m k b g));case first =>
  by_cases hz:z=0
  ·subst hz;obtain⟨y0,y1,y2⟩:=r.acc;go_wp2_with fail;refine(ts qT 1 2 (by omega) (by omega) R _ a n c f _ (r.qa.at.sl _ (Agr.refl _ _)) HF.2 HF.1 r.rd (by omega)).P ?_;rintro e w5⟨b,m,k,g,rfl,hA,⟨q5,DQ,hR,l⟩,n9,ph⟩;have HK:=ae (And.intro n9 ph);clear n9 ph;have hz5:=l.size;have ZL:=aj r.ax;have ZO:=aj r.sx;have P:=aj r.zs;have ZN:=r.lo;have u:=ae (r.ac l hR)
   have j:=ae (u.put (QAc.new hA (by omega) (λx ZQ=>by
    simp only[vG,nj,QW] at ZQ
    omega)))
   clear y0 y1 y2;obtain⟨y0,y1,y2⟩:=u.acc;clear hA hR l r u ZL ZO P ZN;go_wp2;go_meet;exact⟨_,m,k,b,g,by omega,HK,j⟩
  ·have qr:(z == 0)=ZA:=by simpa using hz
   go_wp2;go_meet;exact⟨_,n,c,a,f,by omega,⟨by have:=HF.1;omega,λi hi=>(HF.2 i hi).up (by omega)⟩,r⟩
 case rest =>
 clear r HF;obtain⟨q4,n,c,a,f,hq4,HK,o⟩:=hcut;generalize wc=W4 at o ⊢;go_upto_if 23 with fail;go_cut [] (λwx=>∃(q m0 ZT ZP D:Nat) (b0:O_) (g0:Nat->Source) (B:O_) (ZM:Nat->Target),q<=14000/\Hid (Gd m0 ZP ZM)/\Hid (DuS w R ab sb wx q m0 ZT ZP D b0 g0 B ZM n c a f));case first =>
  by_cases hz:z=1
  ·subst hz;obtain⟨x0,x1,x2,x3,x4⟩:=o.cells;go_wp2_with fail;refine(ol R _ (R+1) n0 c0 n1 c1 a0 f0 a1 f1 _ o.rd (by omega) (eL _) ⟨o.qs.at,C⟩).P ?_;rintro e w6⟨b0,m0,ZT,g0,B,ZP,D,ZM,rfl,hQ,q6,DE,hR,l⟩;have Fk:=l.size;have ZL:=aj o.ax;have ZO:=aj o.sx;have P:=aj o.zs;have ZN:=o.lo;have j:=ae (o.ac l hR);have QQ:QSh (R+1) [R,I (J w),I (J w)+1,ab,sb] w6 b0 m0 g0 B ZP ZM/\Gd m0 ZP ZM:=by
    rcases hQ with hH|⟨rfl,rfl,rfl,rfl,rfl,rfl⟩
    ·exact⟨QSh.new hH.1 (by omega) (λx ZQ=>by
      simp only[vG,nj,QW] at ZQ
      omega),hH.2⟩
    {exact⟨j.qs,C⟩}
   have GG:=ae QQ.2;have D7:=ae (j.sput (k0:=ZT) (k1:=D) QQ.1);clear x0 x1 x2 x3 x4;obtain⟨x0,x1,x2,x3,x4⟩:=j.cells;clear hQ QQ hR l o j ZL ZO P ZN;go_wp2;go_meet;exact⟨_,_,_,_,_,_,_,_,_,by omega,GG,D7⟩
  ·have qr:(z == 1)=ZA:=by simpa using hz
   go_wp2;go_meet;exact⟨_,_,_,_,_,_,_,_,_,by omega,C,o⟩
 case rest =>
 clear o C;obtain⟨q5,n0,c0,n1,c1,a0,f0,a1,f1,DQ,C,u⟩:=hcut;generalize wc=W5 at u ⊢;go_upto_region 8 with fail;go_cut [33] (λs wx=>∃(B:Bool) (q:Nat),s=.bool B/\q<=14001/\Hid (DuS w R ab sb wx q n0 c0 n1 c1 a0 f0 a1 f1 n c a f));case first =>
  by_cases hz:z=2;{subst hz;go_wp2_with fail;refine(ay R _ 4 _ u.rd (by omega) (by omega) (by omega)).P ?_;rintro e w6⟨y,rfl,hy0,hy1,hR,l⟩;have j:=ae (u.ac l hR);clear hR l u;go_wp2;go_meet;exact⟨_,_,rfl,by omega,j⟩}
  ·have qr:(z == 2)=ZA:=by simpa using hz
   go_wp2;go_meet;exact⟨ZA,_,rfl,by omega,u⟩
 case rest =>
 clear u;obtain⟨B,q6,rfl,DE,j⟩:=hcut;generalize wc=W6 at j ⊢;go_upto_if 33 with fail;go_cut [] (λwx=>∃(q m0 ZT ZP D:Nat) (b0:O_) (g0:Nat->Source) (B:O_) (ZM:Nat->Target),Hid (DuS w R ab sb wx q m0 ZT ZP D b0 g0 B ZM n c a f));case first =>
  cases B with
  |true =>
   obtain⟨x0,x1,x2,x3,x4⟩:=j.cells;go_wp2_with fail;refine(oW R _ (R+1) n0 c0 n1 c1 a0 f0 a1 f1 _ j.rd (by omega) j.qs.at C.2.2 C.1 C.2.1).P ?_;rintro e w7⟨b0,m0,ZT,g0,B,ZP,D,ZM,rfl,hH,q7,hq7,hR,l⟩;have Fk:=l.size;have ZL:=aj j.ax;have ZO:=aj j.sx;have P:=aj j.zs;have ZN:=j.lo;have D7:=ae (j.ac l hR)
   have D8:=ae (D7.sput (k0:=ZT) (k1:=D) (QSh.new hH (by omega) (λx ZQ=>by
    simp only[vG,nj,QW] at ZQ
    omega)))
   clear x0 x1 x2 x3 x4;obtain⟨x0,x1,x2,x3,x4⟩:=D7.cells;clear hH hR l j D7 ZL ZO P ZN;go_wp2;go_meet;exact⟨_,_,_,_,_,_,_,_,_,D8⟩
  |false =>go_wp2;go_meet;exact⟨_,_,_,_,_,_,_,_,_,j⟩
 case rest =>
 clear j C;obtain⟨q8,n0,c0,n1,c1,a0,f0,a1,f1,j⟩:=hcut;generalize wc=W6 at j ⊢;go_wp2_with fail;have SQ:Hid (∀V,DuS w R ab sb V q8 n0 c0 n1 c1 a0 f0 a1 f1 n c a f->U V (T sb 0 Y)=Q (Z a0 n0 c0)/\U V (T sb 1 Y)=Q (Z a1 n1 c1)/\U V (T ab 0 Y)=Q (Z a n c)):=λV h=>⟨h.cells.1,h.cells.2.1,h.acc.1⟩
 have O:=ae (j.aa br.drew);refine wp_region_held_drew (S:=λV=>U V (T sb 0 Y)=Q (Z a0 n0 c0)/\U V (T sb 1 Y)=Q (Z a1 n1 c1)/\U V (T ab 0 Y)=Q (Z a n c)) (by as_aux_lemma=>kernel_rfl) (SQ _ O) λH=>?_;have G:=ae H;clear H j;generalize W6.drew=t at O G ⊢;iterate 2
  refine aN 0 (v:=?_) rfl rfl (by as_aux_lemma=>kernel_rfl) (λ_ _ _ h=>h) rfl ?_ G ?_;rotate_left
  ·(rintro wz⟨s0,s1,s2⟩;go_simp)
   (try with_reducible rfl)
  (try simp only[Act.put,z_])
 have ks:=O.zs;have ka:=O.za;have r0:U t (T (I (J w)+1) 0 Y)=Q (Z Y 0 0):=by simp[World.cell?,ks]
 have r1:U t (T (I (J w)+1) 1 Y)=Q (Z Y 0 0):=by simp[World.cell?,ks]
 have r2:U t (T (I (J w)) 0 Y)=Q (Z Y 0 0):=by simp[World.cell?,ka]
 have y0:ZU t (T (I (J w)+1) 0 Y)=ZA:=by simp[World.frozen?,ks]
 have y1:ZU t (T (I (J w)+1) 1 Y)=ZA:=by simp[World.frozen?,ks]
 have y2:ZU t (T (I (J w)) 0 Y)=ZA:=by simp[World.frozen?,ka]
 have l0:=aj ks;have l1:=aj ka;have FR:Hid (Fr [R,I (J w),I (J w)+1,ab,sb] t (((t.setCell (T (I (J w)) 0 Y) (Z a n c)).setCell (T (I (J w)+1) 0 Y) (Z a0 n0 c0)).setCell (T (I (J w)+1) 1 Y) (Z a1 n1 c1))):=((Fr.set (by simp) _).k (Fr.set (by simp) _)).k (Fr.set (by simp) _);have Bk:=ae ((O.qs.fr FR).at.P (show (I (J w))<=R+1 by have:=O.lo;omega));have Fd:=ae (O.qa.fr FR).at;have B9:=ae (((O.bl.setCell (p:=(T (I (J w)) 0 Y)) ly (Z a n c)).setCell (p:=(T (I (J w)+1) 0 Y)) (BV _) (Z a0 n0 c0)).setCell (p:=(T (I (J w)+1) 1 Y)) (BV _) (Z a1 n1 c1));clear ks ka FR;have n8:sb≠I (J w):=by omega
 have Fm:ab≠I (J w):=by omega
 have la:ab≠I (J w)+1:=by omega
 have ZR:sb≠I (J w)+1:=by omega
 refine aL (i:=2) rfl (by as_aux_lemma=>kernel_rfl) λK M=>?_;go_simp;obtain⟨h1,h2,h3⟩:=G.i;clear G;have G:=ae (show(t.setCell (T (I (J w)) 0 Y) (Z a n c)).cell? (T sb 0 Y)=Q (Z a0 n0 c0)/\(t.setCell (T (I (J w)) 0 Y) (Z a n c)).cell? (T sb 1 Y)=Q (Z a1 n1 c1)/\(t.setCell (T (I (J w)) 0 Y) (Z a n c)).cell? (T ab 0 Y)=Q (Z a n c) from⟨(Q_ _ _ _ _ n8.c).k h1,(Q_ _ _ _ _ n8.c).k h2,(Q_ _ _ _ _ Fm.c).k h3⟩);clear h1 h2 h3;refine M _ _ G ?_;clear M K
 (try simp only[Act.put,z_])
 refine aL (i:=3) rfl (by as_aux_lemma=>kernel_rfl) λK M=>?_;go_simp;refine M _ _ ⟨(Q_ _ _ _ _ ZR.c).k ((Q_ _ _ _ _ ZR.c).k G.1),(Q_ _ _ _ _ ZR.c).k ((Q_ _ _ _ _ ZR.c).k G.2.1),(Q_ _ _ _ _ la.c).k ((Q_ _ _ _ _ la.c).k G.2.2)⟩ ?_;clear M K
 (try simp only[Act.put,z_])
 refine wpAnyH_done (by as_aux_lemma=>kernel_rfl) ?_ _;go_wp2;exact bp (v:=.tuple #[ZJ #[Z a n c],ZJ #[Z a0 n0 c0,Z a1 n1 c1]]) (by simp[results,results4,go_sem,r0,r1,r2]) rfl ⟨_,_,_,_,_,_,_,_,_,_,_,_,rfl,Bk,Fd,HK,B9⟩
