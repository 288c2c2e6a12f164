import Derived.Test.YtamacmnikdejeaaGreatDoorKZ
import Derived.Test.YtamacmnikdejeaaGreatDoorKO
import Derived.Test.YtamacmnikdejeaaGreatDoorKM
import Derived.Test.YtamacmnikdejeaaGreatDoorKY
set_option maxRecDepth 100000
set_option maxHeartbeats 8000000
set_option linter.unusedSimpArgs false
open Go renaming Addr.mk->Q,Value.slice->Y,Value.agg->ZG,Obj.cells->N,World->E,Ending.returned->ZF,World.heap->J,World.cell?->U,World.frozen?->z
open Option renaming none->Z,some->T
open Bool renaming false->ZA
open Array renaming size->I
namespace Go.Proofs.YtamacmnikdejeaaGreatDoor.Vp
open Tryz RowKit Ca
variable {lo:Nat}{b:Option Addr}
def DAS (w:E)(R q:Nat)(e:Ending)(b:E):Prop:=∃(a0:Option Addr) (n0 c0:Nat) (f0:Nat->Source) (a1:Option Addr) (n1 c1:Nat) (f1:Nat->Target) (a:Option Addr) (n c:Nat) (f:Nat->au),e=ZF (.tuple #[ZG #[Y a n c],ZG #[Y a0 n0 c0,Y a1 n1 c1]])/\HSg (I (J w)) b a0 n0 f0 a1 n1 f1/\HAc (I (J w)) b a n c f/\(n<=451/\∀i,i<n->FitK 1 (f i))/\∃q':Nat,q'<=q/\Rd b R q'/\Only R w b
theorem AZ (R p:Nat)(w:E)(hR:Rd w R p)(hp:p<=3000):Calls Tryz.prog 32 #[.pointer (T (Q R 0 Z))] w λe w'=>DAS w R (p+9500) e w':=by
 have HR:=ae hR;have O:=hR.lt;obtain⟨W0,ZM⟩:∃W:E,(w.alloc (N #[Y Z 0 0] 25)).alloc (N #[Y Z 0 0,Y Z 0 0] 29)=W:=⟨_,rfl⟩
 obtain⟨A0,KA,KS,hzA⟩:=nb2 ZM;have aq:=ae ZM;clear ZM;clear hR;go_enter func32,ntmps32;go_wp2_with fail;rw[aq.out];clear aq;refine(yX R p _ (HR.aa A0 ly) (by omega)).mono ?_;rintro e t ⟨a0,n0,c0,f0,a1,n1,c1,f1,a,n,c,f,rfl,hS,M,hn,hf,q1,hq1,n8,L⟩;have hs1:=L.size;obtain⟨W1,X⟩:∃W:E,(t.alloc (N #[Y a0 n0 c0,Y a1 n1 c1] 29)).alloc (N #[Y a n c] 25)=W:=⟨_,rfl⟩
 obtain⟨H,A,-,-⟩:=nb2 X;replace A:=A.out;replace H:=H.out;have ZK:=ae X;clear X;have D1:Hid (Dr2 [I (J t)+1,R,I (J w)+1,I (J w),I (J t)] w R (I (J w)+1) (I (J w)) (I (J t)) (I (J t)+1) W1 q1 n0 c0 n1 c1 a0 f0 a1 f1 n c a f):=by
  cases ZK.out
  refine⟨⟨n8.aa H ly,((Only.q A0).trans L).trans (Only.q H),(H.block _ (by omega)).trans ((L.block _ (by omega) (by omega)).trans KS),(H.block _ (by omega)).trans ((L.block _ (by omega) (by omega)).trans KA),A,⟨I (J W0),t,by omega,hS,dJ H ly,?_⟩,O,by omega,by omega,by omega⟩,PK t _ _,⟨I (J W0),t,by omega,M,dJ H ly,?_⟩,by omega⟩;all_goals
   intro x D;simp only[A9,nj,NJ] at D;omega
 have HF:=ae hf;clear H A hS M hf n8 L A0 KS KA HR;have ph:I (J w)+2<=I (J t):=by omega
 go_upto_region 2 with fail;rw[ZK.out];clear ZK;generalize ur:I (J t)+1=ab at D1 ⊢;have hab2:I (J w)+3<=ab:=by omega
 have n9:I (J t)<ab:=by omega
 clear ur;generalize (I (J t))=sb at D1 ph n9 ⊢;go_wp2_with fail;refine(ay R _ 5 _ D1.d.rd (by omega) (by omega) (by omega)).mono ?_;rintro e w2 ⟨ZR,rfl,hz0,hz1,hR,r⟩;have ZN:=ae (D1.ac r hR (by simp));clear hR r D1;go_upto_if 14 with fail;go_cut [] (λwx=>∃(q m0 B ZJ C m k:Nat) (b0:Option Addr) (P:Nat->Source) (ZL:Option Addr) (ZI:Nat->Target) (b:Option Addr) (g:Nat->au),q<=p+5600/\m<=400/\Hid (∀i,i<m->FitI (g i))/\Hid (Dr2 [ab,R,I (J w)+1,I (J w),sb] w R (I (J w)+1) (I (J w)) sb ab wx q m0 B ZJ C b0 P ZL ZI m k b g));case first =>
  by_cases hz:ZR=0
  ·subst hz;go_wp2_with fail;refine(sQ R _ _ ZN.d.rd (by omega)).mono ?_;rintro e w3 ⟨b0,m0,B,P,ZL,ZJ,C,ZI,rfl,hH,q3,DQ,hR,r⟩;have hz3:=r.size;have n7:=ar ZN.ax;have la:=ar ZN.d.sx;have fd:=ar ZN.d.zs;have ZP:=ae (ZN.ac r hR (by simp))
   have j:=ae (ZP.sput (k0:=B) (k1:=C) (by simp) (by omega) (QSp.new hH (by omega) (λx D=>by
    simp only[A9,nj,NJ] at D
    omega)))
   obtain⟨x0,x1,x2,x3,x4⟩:=ZP.d.cells;clear hH hR r ZN ZP;go_upto_region 4 with fail;generalize World.setCell (World.setCell w3 _ _) _ _=W4 at j ⊢;clear x0 x1 x2 x3 x4;obtain⟨x0,x1,x2,x3,x4⟩:=j.d.cells;go_wp2_with fail;refine(rh (I (J w)) m0 B ZJ C b0 P ZL ZI _ ⟨#[116,52]⟩ j.d.qs.at.1).mono ?_;rintro e w5 ⟨b,m,k,g,kk,tt,ra,rn,rc,rfl,M,hm,hg,hB⟩;have ro:=hB.size;have hl4:=ar j.ax;have hl5:=ar j.d.zs;have ld:=j.d.o.size;have l:=ae (j.aa hB (by simp))
   have u:=ae (l.put (by simp) (by omega) (QAc.new M (by omega) (λx D=>by
    simp only[A9,nj,NJ] at D
    omega)))
   obtain⟨y0,y1,y2⟩:=l.acc;have HG:=ae hg;clear M hB hg j l x0 x1 x2 x3 x4;go_wp2;go_meet;exact⟨_,_,_,_,_,m,k,_,_,_,_,b,g,by omega,hm,HG,u⟩
  ·have hzb:(ZR == 0)=ZA:=by simpa using hz
   go_wp2;go_meet;exact⟨_,_,_,_,_,n,c,_,_,_,_,a,f,by omega,hn,HF,ZN⟩
 case rest =>
 clear ZN HF hn;obtain⟨q3,n0,c0,n1,c1,n,c,a0,f0,a1,f1,a,f,DQ,hn,HF,ZP⟩:=hcut;generalize wc=W3 at ZP ⊢;go_wp2_with fail;refine(ay R _ 8 _ ZP.d.rd (by omega) (by omega) (by omega)).mono ?_;rintro e w4 ⟨y,rfl,hy0,hy1,hR,r⟩;have j:=ae (ZP.ac r hR (by simp));clear hR r ZP;go_upto_if 25 with fail;go_cut [] (λwx=>∃(q m k:Nat) (b:Option Addr) (g:Nat->au),q<=p+6800/\Hid (m<=451/\∀i,i<m->FitK 1 (g i))/\Hid (Dr2 [ab,R,I (J w)+1,I (J w),sb] w R (I (J w)+1) (I (J w)) sb ab wx q n0 c0 n1 c1 a0 f0 a1 f1 m k b g));case first =>
  by_cases hy:y=0
  ·subst hy;obtain⟨y0,y1,y2⟩:=j.acc;go_wp2_with fail;refine(r8 pY 0 1 (by omega) (by omega) R _ a n c f _ (j.qa.at.sl _ (Agr.refl _ _)) (λi hi=>(HF i hi).k) (by omega) j.d.rd (by omega)).mono ?_;rintro e w5 ⟨b,m,k,g,rfl,M,⟨q5,sm,hR,r⟩,mv,ex⟩;have HK:=ae (And.intro mv ex);clear mv ex;have ro:=r.size;have n7:=ar j.ax;have la:=ar j.d.sx;have fd:=ar j.d.zs;have ld:=j.d.o.size;have l:=ae (j.ac r hR (by simp))
   have u:=ae (l.put (by simp) (by omega) (QAc.new M (by omega) (λx D=>by
    simp only[A9,nj,NJ] at D
    omega)))
   clear y0 y1 y2;obtain⟨y0,y1,y2⟩:=l.acc;clear M hR r j l;go_wp2;go_meet;exact⟨_,m,k,b,g,by omega,HK,u⟩
  ·have DE:(y == 0)=ZA:=by simpa using hy
   go_wp2;go_meet;exact⟨_,n,c,a,f,by omega,⟨by omega,λi hi=>(HF i hi).k⟩,j⟩
 case rest =>
 clear j HF hn;obtain⟨q4,n,c,a,f,hq4,HK,l⟩:=hcut;generalize wc=W5 at l ⊢;go_upto_if 30 with fail;go_cut [] (λwx=>∃(q m0 B ZJ C:Nat) (b0:Option Addr) (P:Nat->Source) (ZL:Option Addr) (ZI:Nat->Target),q<=p+9500/\Hid (Dr2 [ab,R,I (J w)+1,I (J w),sb] w R (I (J w)+1) (I (J w)) sb ab wx q m0 B ZJ C b0 P ZL ZI n c a f));case first =>
  by_cases hy:y=1
  ·subst hy;obtain⟨x0,x1,x2,x3,x4⟩:=l.d.cells;go_wp2_with fail;refine(mW R _ (I (J w)) n0 c0 n1 c1 a0 f0 a1 f1 _ l.d.rd (by omega) O l.d.qs.at).mono ?_;rintro e w6 ⟨b0,m0,B,P,ZL,ZJ,C,ZI,rfl,hQ,q6,hq6,hR,r⟩;have hz6:=r.size;have n7:=ar l.ax;have la:=ar l.d.sx;have fd:=ar l.d.zs;have ld:=l.d.o.size;have u:=ae (l.ac r hR (by simp));have QQ:QSp (I (J w)) [ab,R,I (J w)+1,I (J w),sb] w6 b0 m0 P ZL ZJ ZI:=by
    rcases hQ with hH|⟨rfl,rfl,rfl,rfl,rfl,rfl⟩
    ·exact QSp.new hH (by omega) (λx D=>by
      simp only[A9,nj,NJ] at D
      omega)
    {exact u.d.qs}
   have D7:=ae (u.sput (k0:=B) (k1:=C) (by simp) (by omega) QQ);clear x0 x1 x2 x3 x4;obtain⟨x0,x1,x2,x3,x4⟩:=u.d.cells;clear hQ QQ hR r l u;go_wp2;go_meet;exact⟨_,_,_,_,_,_,_,_,_,by omega,D7⟩
  ·have DE:(y == 1)=ZA:=by simpa using hy
   go_wp2;go_meet;exact⟨_,_,_,_,_,_,_,_,_,by omega,l⟩
 case rest =>
 clear l;obtain⟨q5,n0,c0,n1,c1,a0,f0,a1,f1,sm,u⟩:=hcut;generalize wc=W6 at u ⊢;go_wp2_with fail;have SQ:Hid (∀V,Dr2 [ab,R,I (J w)+1,I (J w),sb] w R (I (J w)+1) (I (J w)) sb ab V q5 n0 c0 n1 c1 a0 f0 a1 f1 n c a f->U V (Q sb 0 Z)=T (Y a0 n0 c0)/\U V (Q sb 1 Z)=T (Y a1 n1 c1)/\U V (Q ab 0 Z)=T (Y a n c)):=λV h=>⟨h.d.cells.1,h.d.cells.2.1,h.acc.1⟩
 have ZO:=ae (u.aa br.drew (by simp));refine wp_region_held_drew (S:=λV=>U V (Q sb 0 Z)=T (Y a0 n0 c0)/\U V (Q sb 1 Z)=T (Y a1 n1 c1)/\U V (Q ab 0 Z)=T (Y a n c)) (by as_aux_lemma=>kernel_rfl) (SQ _ ZO) λhS=>?_;have G:=ae hS;clear hS u;generalize W6.drew=s at ZO G ⊢;iterate 2
  refine ba 0 (v:=?_) rfl rfl (by as_aux_lemma=>kernel_rfl) (λ_ _ _ h=>h) rfl ?_ G ?_;rotate_left
  ·(rintro wz ⟨s0,s1,s2⟩;go_simp)
   (try with_reducible rfl)
  (try simp only[Act.put,nzL])
 have A:=ZO.d.zs;have ka:=ZO.d.za;have r0:U s (Q (I (J w)+1) 0 Z)=T (Y Z 0 0):=by simp[World.cell?,A]
 have r1:U s (Q (I (J w)+1) 1 Z)=T (Y Z 0 0):=by simp[World.cell?,A]
 have r2:U s (Q (I (J w)) 0 Z)=T (Y Z 0 0):=by simp[World.cell?,ka]
 have y0:z s (Q (I (J w)+1) 0 Z)=ZA:=by simp[World.frozen?,A]
 have y1:z s (Q (I (J w)+1) 1 Z)=ZA:=by simp[World.frozen?,A]
 have y2:z s (Q (I (J w)) 0 Z)=ZA:=by simp[World.frozen?,ka]
 have l0:=ar A;have l1:=ar ka;have B3:=ae ((((cM (I (J w)) s).setCell (p:=(Q (I (J w)) 0 Z)) ly (Y a n c)).setCell (p:=(Q (I (J w)+1) 0 Z)) (D0 _) (Y a0 n0 c0)).setCell (p:=(Q (I (J w)+1) 1 Z)) (D0 _) (Y a1 n1 c1));have FR:Hid (Fr [ab,R,I (J w)+1,I (J w),sb] s (((s.setCell (Q (I (J w)) 0 Z) (Y a n c)).setCell (Q (I (J w)+1) 0 Z) (Y a0 n0 c0)).setCell (Q (I (J w)+1) 1 Z) (Y a1 n1 c1))):=((Fr.set (by simp) _).trans (Fr.set (by simp) _)).trans (Fr.set (by simp) _);have Bk:=ae (ZO.d.qs.fr FR).at;have th:=ae (ZO.qa.fr FR).at;have R9:=ae (ZO.d.rd.low B3 O);have O9:=ae (ZO.d.o.then B3);clear A ka B3 FR;have n6:sb≠I (J w):=by omega
 have qr:ab≠I (J w):=by omega
 have bt:ab≠I (J w)+1:=by omega
 have ZQ:sb≠I (J w)+1:=by omega
 refine aN (i:=2) rfl (by as_aux_lemma=>kernel_rfl) λK hK=>?_;go_simp;obtain⟨h1,h2,h3⟩:=G.out;clear G;have G:=ae (show(s.setCell (Q (I (J w)) 0 Z) (Y a n c)).cell? (Q sb 0 Z)=T (Y a0 n0 c0)/\(s.setCell (Q (I (J w)) 0 Z) (Y a n c)).cell? (Q sb 1 Z)=T (Y a1 n1 c1)/\(s.setCell (Q (I (J w)) 0 Z) (Y a n c)).cell? (Q ab 0 Z)=T (Y a n c) from⟨(cell_far _ _ _ _ n6.symm).trans h1,(cell_far _ _ _ _ n6.symm).trans h2,(cell_far _ _ _ _ qr.symm).trans h3⟩);clear h1 h2 h3;refine hK _ _ G ?_;clear hK K
 (try simp only[Act.put,nzL])
 refine aN (i:=3) rfl (by as_aux_lemma=>kernel_rfl) λK hK=>?_;go_simp;refine hK _ _ ⟨(cell_far _ _ _ _ ZQ.symm).trans ((cell_far _ _ _ _ ZQ.symm).trans G.1),(cell_far _ _ _ _ ZQ.symm).trans ((cell_far _ _ _ _ ZQ.symm).trans G.2.1),(cell_far _ _ _ _ bt.symm).trans ((cell_far _ _ _ _ bt.symm).trans G.2.2)⟩ ?_;clear hK K
 (try simp only[Act.put,nzL])
 refine wpAnyH_done (by as_aux_lemma=>kernel_rfl) ?_ _;go_wp2;exact bp (v:=.tuple #[ZG #[Y a n c],ZG #[Y a0 n0 c0,Y a1 n1 c1]]) (by simp[results,results32,go_sem,r0,r1,r2]) rfl ⟨_,_,_,_,_,_,_,_,_,_,_,_,rfl,Bk,th,HK,q5,by omega,R9,O9⟩
def DAu (w:E)(e:Ending)(b:E):Prop:=∃(a0:Option Addr) (n0 c0:Nat) (f0:Nat->Source) (a1:Option Addr) (n1 c1:Nat) (f1:Nat->Target) (a:Option Addr) (n c:Nat) (f:Nat->au),e=ZF (.tuple #[ZG #[Y a n c],ZG #[Y a0 n0 c0,Y a1 n1 c1]])/\HSp (I (J w)) b a0 n0 f0 a1 n1 f1/\HAc (I (J w)) b a n c f/\(n<=452/\∀i,i<n->FitK 2 (f i))/\Below (I (J w)) w b
def QSh (lo:Nat)(g:List Nat)(W:E)(a0:Option Addr)(n0:Nat)(f0:Nat->Source)(a1:Option Addr)(n1:Nat)(f1:Nat->Target):Prop:=∃(b:Nat) (f:E),lo<=b/\HSp b f a0 n0 f0 a1 n1 f1/\Agr b f W/\o7 g b (I (J f))
structure DuS (w:E)(R ab sb:Nat)(W:E)(q n0 c0 n1 c1:Nat)(a0:Option Addr)(f0:Nat->Source)(a1:Option Addr)(f1:Nat->Target)(n c:Nat)(a:Option Addr)(f:Nat->au):Prop where
 rd:Rd W R q
 bl:Below (I (J w)) w W
 za:W.heap[I (J w)]?=T (N #[Y Z 0 0] 25 (0,0))
 zs:W.heap[I (J w)+1]?=T (N #[Y Z 0 0,Y Z 0 0] 29 (0,0))
 ax:W.heap[ab]?=T (N #[Y a n c] 25 (0,0))
 sx:W.heap[sb]?=T (N #[Y a0 n0 c0,Y a1 n1 c1] 29 (0,0))
 qs:QSh (R+1) [R,I (J w),I (J w)+1,ab,sb] W a0 n0 f0 a1 n1 f1
 qa:QAc (I (J w)) [R,I (J w),I (J w)+1,ab,sb] W a n c f
 lo:I (J w)+1<R/\R<ab/\ab<sb
section
variable {w W W':E}{R sb ab q q' n0 c0 n1 c1 n c:Nat}{a0 a1 a:Option Addr}{f0:Nat->Source}{f1:Nat->Target}{f:Nat->au}
theorem QSh.fr{f:List Nat}(h:QSh lo f W a0 n0 f0 a1 n1 f1)(l:Fr f W W'):QSh lo f W' a0 n0 f0 a1 n1 f1:=by obtain⟨b,j,i,h1,h2,g⟩:=h;exact⟨b,j,i,h1,h2.fr g l,g⟩
theorem QSh.at{f:List Nat}(h:QSh lo f W a0 n0 f0 a1 n1 f1):HSp lo W a0 n0 f0 a1 n1 f1:=by obtain⟨b,w1,g,h1,h2,-⟩:=h;exact(h1.agr h2).mono g
theorem QSh.new{b:Nat}{xs:List Nat}(h:HSp b W a0 n0 f0 a1 n1 f1)(f:lo<=b)(g:o7 xs b (I (J W))):QSh lo xs W a0 n0 f0 a1 n1 f1:=⟨b,W,f,h,Agr.refl _ _,g⟩
theorem DuS.ac (h:DuS w R ab sb W q n0 c0 n1 c1 a0 f0 a1 f1 n c a f)(b:Only R W W')(hR:Rd W' R q'):DuS w R ab sb W' q' n0 c0 n1 c1 a0 f0 a1 f1 n c a f:=by have hl:=h.lo;exact⟨hR,h.bl.trans (b.aa (by omega) h.bl.size),(b.block _ (ar h.za) (by omega)).trans h.za,(b.block _ (ar h.zs) (by omega)).trans h.zs,(b.block _ (ar h.ax) (by omega)).trans h.ax,(b.block _ (ar h.sx) (by omega)).trans h.sx,h.qs.fr (Fr.ac b (by simp)),h.qa.fr (Fr.ac b (by simp)),h.lo⟩
theorem DuS.aa (h:DuS w R ab sb W q n0 c0 n1 c1 a0 f0 a1 f1 n c a f)(b:Below (I (J W)) W W'):DuS w R ab sb W' q n0 c0 n1 c1 a0 f0 a1 f1 n c a f:=h.ac (Only.q b) (h.rd.aa b ly)
theorem DuS.cells (h:DuS w R ab sb W q n0 c0 n1 c1 a0 f0 a1 f1 n c a f):U W (Q sb 0 Z)=T (Y a0 n0 c0)/\U W (Q sb 1 Z)=T (Y a1 n1 c1)/\z W (Q sb 0 Z)=ZA/\z W (Q sb 1 Z)=ZA/\sb<I (J W):=by have hb:=h.sx;refine⟨?_,?_,?_,?_,ar hb⟩<;>simp[World.cell?,World.frozen?,hb]
theorem DuS.acc (h:DuS w R ab sb W q n0 c0 n1 c1 a0 f0 a1 f1 n c a f):U W (Q ab 0 Z)=T (Y a n c)/\z W (Q ab 0 Z)=ZA/\ab<I (J W):=by have hb:=h.ax;refine⟨?_,?_,ar hb⟩<;>simp[World.cell?,World.frozen?,hb]
theorem DuS.set (h:DuS w R ab sb W q n0 c0 n1 c1 a0 f0 a1 f1 n c a f){x j:Nat}(b:x∈[R,I (J w),I (J w)+1,ab,sb])(hl:R<x)(u:Value):Rd (W.setCell (Q x j Z) u) R q/\Below (I (J w)) w (W.setCell (Q x j Z) u)/\Fr [R,I (J w),I (J w)+1,ab,sb] W (W.setCell (Q x j Z) u):=by have hh:=h.lo;exact⟨h.rd.low ((cM (R+1) W).setCell (p:=(Q x j Z)) (by show R+1<=x;omega) u) (j4 _),h.bl.setCell (p:=(Q x j Z)) (by show (I (J w))<=x;omega) u,Fr.set b u⟩
theorem DuS.put{m k:Nat}{g:Nat->au}(h:DuS w R ab sb W q n0 c0 n1 c1 a0 f0 a1 f1 n c a f)(o:QAc (I (J w)) [R,I (J w),I (J w)+1,ab,sb] W b m k g):DuS w R ab sb (W.setCell (Q ab 0 Z) (Y b m k)) q n0 c0 n1 c1 a0 f0 a1 f1 m k b g:=by have p:=h.lo;obtain⟨h1,h2,l⟩:=h.set (x:=ab) (j:=0) (by simp) p.2.1 (Y b m k);have far:∀i,i≠ab->(W.setCell (Q ab 0 Z) (Y b m k)).heap[i]?=W.heap[i]?:=λi hi=>qh _ _ _ _ hi;exact⟨h1,h2,(far _ (by omega)).trans h.za,(far _ (by omega)).trans h.zs,ci h.ax _,(far _ (by omega)).trans h.sx,h.qs.fr l,o.fr l,h.lo⟩
theorem DuS.sput{m0 k0 g k1:Nat}{b0:Option Addr}{j:Nat->Source}{l:Nat->Target}(h:DuS w R ab sb W q n0 c0 n1 c1 a0 f0 a1 f1 n c a f)(r:QSh (R+1) [R,I (J w),I (J w)+1,ab,sb] W b0 m0 j b g l):DuS w R ab sb ((W.setCell (Q sb 0 Z) (Y b0 m0 k0)).setCell (Q sb 1 Z) (Y b g k1)) q m0 k0 g k1 b0 j b l n c a f:=by have hl:=h.lo;have B:=((cM (R+1) W).setCell (p:=(Q sb 0 Z)) (by show R+1<=sb;omega) (Y b0 m0 k0)).setCell (p:=(Q sb 1 Z)) (by show R+1<=sb;omega) (Y b g k1);have m:Fr [R,I (J w),I (J w)+1,ab,sb] W ((W.setCell (Q sb 0 Z) (Y b0 m0 k0)).setCell (Q sb 1 Z) (Y b g k1)):=(Fr.set (by simp) _).trans (Fr.set (by simp) _);have far:∀i,i≠sb->((W.setCell (Q sb 0 Z) (Y b0 m0 k0)).setCell (Q sb 1 Z) (Y b g k1)).heap[i]?=W.heap[i]?:=λi hi=>(qh _ _ _ _ hi).trans (qh _ _ _ _ hi);have o:=h.sx;exact⟨h.rd.low B (j4 _),(h.bl.setCell (p:=(Q sb 0 Z)) (by show (I (J w))<=sb;omega) _).setCell (p:=(Q sb 1 Z)) (by show (I (J w))<=sb;omega) _,(far _ (by omega)).trans h.za,(far _ (by omega)).trans h.zs,(far _ (by omega)).trans h.ax,by simp[World.setCell,LE,o],r.fr m,h.qa.fr m,h.lo⟩
end
theorem sT (ac:Option Addr)(nc cap:Nat)(w:E)(hn:(nc:Int)<=1048576)(hc:nc<=cap)(C:ByteSl w ac nc):Calls Tryz.prog 7 #[Y ac nc cap] w λe w'=>DAu w e w':=by
 have S0:=ae C;clear C;go_enter func7,ntmps7;go_wp2_with fail;obtain⟨W0,bt⟩:∃W:E,(w.alloc (N #[Y Z 0 0] 25)).alloc (N #[Y Z 0 0,Y Z 0 0] 29)=W:=⟨_,rfl⟩
 obtain⟨A0,KA,KS,hzA⟩:=nb2 bt;have la:=ae bt;clear bt;rw[la.out];clear la;refine(xB ac nc cap _ hn hc (S0.aa A0 ly)).mono ?_;rintro e w1 ⟨R,rfl,hRz,mv,ZL⟩;have R1:=ae mv;have B1:=ae (A0.trans (ZL.mono (by omega)));have K1:=ae ((ZL.block (I (J w)) (by omega)).trans KA);have K2:=ae ((ZL.block (I (J w)+1) (by omega)).trans KS);have hs1:=ZL.size;have hRl:=mv.lt;clear mv ZL A0 KA KS S0;go_wp2_with fail;refine(AZ R 0 _ R1 (by omega)).mono ?_;rintro e A ⟨a0,n0,c0,f0,a1,n1,c1,f1,a,n,c,f,rfl,C,hA,X,q2,hq2,ph,L⟩;have hs2:=L.size;obtain⟨W2,ex⟩:∃W:E,(A.alloc (N #[Y a n c] 25)).alloc (N #[Y a0 n0 c0,Y a1 n1 c1] 29)=W:=⟨_,rfl⟩
 obtain⟨ZP,fd,-,-⟩:=nb2 ex;replace fd:=fd.out;replace ZP:=ZP.out;have aq:=ae ex;clear ex;have D1:Hid (DuS w R (I (J A)) (I (J A)+1) W2 q2 n0 c0 n1 c1 a0 f0 a1 f1 n c a f):=by
  cases aq.out
  refine⟨ph.aa ZP ly,(B1.trans (L.aa (by omega) B1.size)).trans (ZP.mono (by omega)),(ZP.block _ (by omega)).trans ((L.block _ (by omega) (by omega)).trans K1),(ZP.block _ (by omega)).trans ((L.block _ (by omega) (by omega)).trans K2),fd,PK A _ _,⟨I (J w1),A,by omega,C.1,dJ ZP ly,λx O=>?_⟩,⟨I (J w1),A,by omega,hA,dJ ZP ly,λx O=>?_⟩,by omega,by omega,by omega⟩;all_goals
   simp only[A9,nj,NJ] at O;omega
 have ZO:=ae C.2;have HF:=ae X;clear ZP fd C hA X ph L B1 K1 K2 R1;have At:I (J w)+2<=I (J A):=by omega
 go_upto_region 3 with fail;rw[aq.out];clear aq;generalize ro:I (J A)+1=sb at D1 ⊢;have qr:I (J A)<sb:=by omega
 clear ro;generalize (I (J A))=ab at D1 At qr ⊢;go_wp2_with fail;refine(ay R _ 6 _ D1.rd (by omega) (by omega) (by omega)).mono ?_;rintro e w3 ⟨ZR,rfl,hz0,hz1,hR,l⟩;have r:=ae (D1.ac l hR);clear hR l D1;go_upto_if 18 with fail;go_cut [] (λwx=>∃(q m k:Nat) (b:Option Addr) (g:Nat->au),q<=11000/\Hid (m<=452/\∀i,i<m->FitK 2 (g i))/\Hid (DuS w R ab sb wx q n0 c0 n1 c1 a0 f0 a1 f1 m k b g));case first =>
  by_cases hz:ZR=0
  ·subst hz;obtain⟨y0,y1,y2⟩:=r.acc;go_wp2_with fail;refine(r8 pY 1 2 (by omega) (by omega) R _ a n c f _ (r.qa.at.sl _ (Agr.refl _ _)) HF.2 HF.1 r.rd (by omega)).mono ?_;rintro e w5 ⟨b,m,k,g,rfl,hA,⟨q5,th,hR,l⟩,n8,n6⟩;have HK:=ae (And.intro n8 n6);clear n8 n6;have hz5:=l.size;have ZK:=ar r.ax;have ZM:=ar r.sx;have M:=ar r.zs;have ZN:=r.lo;have B:=ae (r.ac l hR)
   have j:=ae (B.put (QAc.new hA (by omega) (λx O=>by
    simp only[A9,nj,NJ] at O
    omega)))
   clear y0 y1 y2;obtain⟨y0,y1,y2⟩:=B.acc;clear hA hR l r B ZK ZM M ZN;go_wp2;go_meet;exact⟨_,m,k,b,g,by omega,HK,j⟩
  ·have n7:(ZR == 0)=ZA:=by simpa using hz
   go_wp2;go_meet;exact⟨_,n,c,a,f,by omega,⟨by have:=HF.1;omega,λi hi=>(HF.2 i hi).up (by omega)⟩,r⟩
 case rest =>
 clear r HF;obtain⟨q4,n,c,a,f,hq4,HK,o⟩:=hcut;generalize wc=W4 at o ⊢;go_upto_if 23 with fail;go_cut [] (λwx=>∃(q m0 ZQ ZJ G:Nat) (b0:Option Addr) (g0:Nat->Source) (u:Option Addr) (ZI:Nat->Target),q<=14000/\Hid (Gd m0 ZJ ZI)/\Hid (DuS w R ab sb wx q m0 ZQ ZJ G b0 g0 u ZI n c a f));case first =>
  by_cases hz:ZR=1
  ·subst hz;obtain⟨x0,x1,x2,x3,x4⟩:=o.cells;go_wp2_with fail;refine(mW R _ (R+1) n0 c0 n1 c1 a0 f0 a1 f1 _ o.rd (by omega) (j4 _) ⟨o.qs.at,ZO⟩).mono ?_;rintro e w6 ⟨b0,m0,ZQ,g0,u,ZJ,G,ZI,rfl,hQ,q6,Bk,hR,l⟩;have DS:=l.size;have ZK:=ar o.ax;have ZM:=ar o.sx;have M:=ar o.zs;have ZN:=o.lo;have j:=ae (o.ac l hR);have QQ:QSh (R+1) [R,I (J w),I (J w)+1,ab,sb] w6 b0 m0 g0 u ZJ ZI/\Gd m0 ZJ ZI:=by
    rcases hQ with hH|⟨rfl,rfl,rfl,rfl,rfl,rfl⟩
    ·exact⟨QSh.new hH.1 (by omega) (λx O=>by
      simp only[A9,nj,NJ] at O
      omega),hH.2⟩
    {exact⟨j.qs,ZO⟩}
   have GG:=ae QQ.2;have D7:=ae (j.sput (k0:=ZQ) (k1:=G) QQ.1);clear x0 x1 x2 x3 x4;obtain⟨x0,x1,x2,x3,x4⟩:=j.cells;clear hQ QQ hR l o j ZK ZM M ZN;go_wp2;go_meet;exact⟨_,_,_,_,_,_,_,_,_,by omega,GG,D7⟩
  ·have n7:(ZR == 1)=ZA:=by simpa using hz
   go_wp2;go_meet;exact⟨_,_,_,_,_,_,_,_,_,by omega,ZO,o⟩
 case rest =>
 clear o ZO;obtain⟨q5,n0,c0,n1,c1,a0,f0,a1,f1,th,ZO,B⟩:=hcut;generalize wc=W5 at B ⊢;go_upto_region 8 with fail;go_cut [33] (λs wx=>∃(u:Bool) (q:Nat),s=.bool u/\q<=14001/\Hid (DuS w R ab sb wx q n0 c0 n1 c1 a0 f0 a1 f1 n c a f));case first =>
  by_cases hz:ZR=2;{subst hz;go_wp2_with fail;refine(ay R _ 4 _ B.rd (by omega) (by omega) (by omega)).mono ?_;rintro e w6 ⟨y,rfl,hy0,hy1,hR,l⟩;have j:=ae (B.ac l hR);clear hR l B;go_wp2;go_meet;exact⟨_,_,rfl,by omega,j⟩}
  ·have n7:(ZR == 2)=ZA:=by simpa using hz
   go_wp2;go_meet;exact⟨ZA,_,rfl,by omega,B⟩
 case rest =>
 clear B;obtain⟨u,q6,rfl,Bk,j⟩:=hcut;generalize wc=W6 at j ⊢;go_upto_if 33 with fail;go_cut [] (λwx=>∃(q m0 ZQ ZJ G:Nat) (b0:Option Addr) (g0:Nat->Source) (u:Option Addr) (ZI:Nat->Target),Hid (DuS w R ab sb wx q m0 ZQ ZJ G b0 g0 u ZI n c a f));case first =>
  cases u with
  |true =>
   obtain⟨x0,x1,x2,x3,x4⟩:=j.cells;go_wp2_with fail;refine(vU R _ (R+1) n0 c0 n1 c1 a0 f0 a1 f1 _ j.rd (by omega) j.qs.at ZO.2.2 ZO.1 ZO.2.1).mono ?_;rintro e w7 ⟨b0,m0,ZQ,g0,u,ZJ,G,ZI,rfl,hH,q7,hq7,hR,l⟩;have DS:=l.size;have ZK:=ar j.ax;have ZM:=ar j.sx;have M:=ar j.zs;have ZN:=j.lo;have D7:=ae (j.ac l hR)
   have D8:=ae (D7.sput (k0:=ZQ) (k1:=G) (QSh.new hH (by omega) (λx O=>by
    simp only[A9,nj,NJ] at O
    omega)))
   clear x0 x1 x2 x3 x4;obtain⟨x0,x1,x2,x3,x4⟩:=D7.cells;clear hH hR l j D7 ZK ZM M ZN;go_wp2;go_meet;exact⟨_,_,_,_,_,_,_,_,_,D8⟩
  |false =>go_wp2;go_meet;exact⟨_,_,_,_,_,_,_,_,_,j⟩
 case rest =>
 clear j ZO;obtain⟨q8,n0,c0,n1,c1,a0,f0,a1,f1,j⟩:=hcut;generalize wc=W6 at j ⊢;go_wp2_with fail;have SQ:Hid (∀V,DuS w R ab sb V q8 n0 c0 n1 c1 a0 f0 a1 f1 n c a f->U V (Q sb 0 Z)=T (Y a0 n0 c0)/\U V (Q sb 1 Z)=T (Y a1 n1 c1)/\U V (Q ab 0 Z)=T (Y a n c)):=λV h=>⟨h.cells.1,h.cells.2.1,h.acc.1⟩
 have P:=ae (j.aa br.drew);refine wp_region_held_drew (S:=λV=>U V (Q sb 0 Z)=T (Y a0 n0 c0)/\U V (Q sb 1 Z)=T (Y a1 n1 c1)/\U V (Q ab 0 Z)=T (Y a n c)) (by as_aux_lemma=>kernel_rfl) (SQ _ P) λC=>?_;have H:=ae C;clear C j;generalize W6.drew=t at P H ⊢;iterate 2
  refine ba 0 (v:=?_) rfl rfl (by as_aux_lemma=>kernel_rfl) (λ_ _ _ h=>h) rfl ?_ H ?_;rotate_left
  ·(rintro wz ⟨s0,s1,s2⟩;go_simp)
   (try with_reducible rfl)
  (try simp only[Act.put,nzL])
 have ks:=P.zs;have ka:=P.za;have r0:U t (Q (I (J w)+1) 0 Z)=T (Y Z 0 0):=by simp[World.cell?,ks]
 have r1:U t (Q (I (J w)+1) 1 Z)=T (Y Z 0 0):=by simp[World.cell?,ks]
 have r2:U t (Q (I (J w)) 0 Z)=T (Y Z 0 0):=by simp[World.cell?,ka]
 have y0:z t (Q (I (J w)+1) 0 Z)=ZA:=by simp[World.frozen?,ks]
 have y1:z t (Q (I (J w)+1) 1 Z)=ZA:=by simp[World.frozen?,ks]
 have y2:z t (Q (I (J w)) 0 Z)=ZA:=by simp[World.frozen?,ka]
 have l0:=ar ks;have l1:=ar ka;have FR:Hid (Fr [R,I (J w),I (J w)+1,ab,sb] t (((t.setCell (Q (I (J w)) 0 Z) (Y a n c)).setCell (Q (I (J w)+1) 0 Z) (Y a0 n0 c0)).setCell (Q (I (J w)+1) 1 Z) (Y a1 n1 c1))):=((Fr.set (by simp) _).trans (Fr.set (by simp) _)).trans (Fr.set (by simp) _);have DQ:=ae ((P.qs.fr FR).at.mono (show (I (J w))<=R+1 by have:=P.lo;omega));have ur:=ae (P.qa.fr FR).at;have B9:=ae (((P.bl.setCell (p:=(Q (I (J w)) 0 Z)) ly (Y a n c)).setCell (p:=(Q (I (J w)+1) 0 Z)) (D0 _) (Y a0 n0 c0)).setCell (p:=(Q (I (J w)+1) 1 Z)) (D0 _) (Y a1 n1 c1));clear ks ka FR;have n9:sb≠I (J w):=by omega
 have sm:ab≠I (J w):=by omega
 have ld:ab≠I (J w)+1:=by omega
 have D:sb≠I (J w)+1:=by omega
 refine aN (i:=2) rfl (by as_aux_lemma=>kernel_rfl) λK X=>?_;go_simp;obtain⟨h1,h2,h3⟩:=H.out;clear H;have H:=ae (show(t.setCell (Q (I (J w)) 0 Z) (Y a n c)).cell? (Q sb 0 Z)=T (Y a0 n0 c0)/\(t.setCell (Q (I (J w)) 0 Z) (Y a n c)).cell? (Q sb 1 Z)=T (Y a1 n1 c1)/\(t.setCell (Q (I (J w)) 0 Z) (Y a n c)).cell? (Q ab 0 Z)=T (Y a n c) from⟨(cell_far _ _ _ _ n9.symm).trans h1,(cell_far _ _ _ _ n9.symm).trans h2,(cell_far _ _ _ _ sm.symm).trans h3⟩);clear h1 h2 h3;refine X _ _ H ?_;clear X K
 (try simp only[Act.put,nzL])
 refine aN (i:=3) rfl (by as_aux_lemma=>kernel_rfl) λK X=>?_;go_simp;refine X _ _ ⟨(cell_far _ _ _ _ D.symm).trans ((cell_far _ _ _ _ D.symm).trans H.1),(cell_far _ _ _ _ D.symm).trans ((cell_far _ _ _ _ D.symm).trans H.2.1),(cell_far _ _ _ _ ld.symm).trans ((cell_far _ _ _ _ ld.symm).trans H.2.2)⟩ ?_;clear X K
 (try simp only[Act.put,nzL])
 refine wpAnyH_done (by as_aux_lemma=>kernel_rfl) ?_ _;go_wp2;exact bp (v:=.tuple #[ZG #[Y a n c],ZG #[Y a0 n0 c0,Y a1 n1 c1]]) (by simp[results,results7,go_sem,r0,r1,r2]) rfl ⟨_,_,_,_,_,_,_,_,_,_,_,_,rfl,DQ,ur,HK,B9⟩
