import Derived.Test.YtamacmnikdejeaaGreatDoorPA
import Derived.Test.YtamacmnikdejeaaGreatDoorQN
import Derived.Test.YtamacmnikdejeaaGreatDoorQL
import Derived.Test.YtamacmnikdejeaaGreatDoorPB
set_option maxRecDepth 100000
set_option maxHeartbeats 8000000
set_option linter.unusedSimpArgs false
open Go.Addr renaming mk->N
open Go.Value renaming slice->Y,agg->QG
open Option renaming none->Z,some->T
open Go.Obj renaming cells->Q
open Go renaming World->G
open Bool renaming false->QB
open Go.Ending renaming returned->QF
namespace Go.Proofs.YtamacmnikdejeaaGreatDoor.Vp
open RowKit Ca
def DAS (w:G)(R q:Nat)(e:Ending)(b:G):Prop:=∃ (a0:Option Addr) (n0 c0:Nat) (f0:Nat->Source) (a1:Option Addr) (n1 c1:Nat) (f1:Nat->Target) (a:Option Addr) (n c:Nat) (f:Nat->ah),e=QF (.tuple #[QG #[Y a n c],QG #[Y a0 n0 c0,Y a1 n1 c1]])/\HSg w.heap.size b a0 n0 f0 a1 n1 f1/\HAc w.heap.size b a n c f/\(n<=451/\∀ i,i<n->FitK 1 (f i))/\∃ q':Nat,q'<=q/\Rd b R q'/\Only R w b
theorem zq (R p:Nat)(w:G)(hR:Rd w R p)(hp:p<=3000):Calls Tryz.prog 32 #[.pointer (T (N R 0 Z))] w fun e w'=>DAS w R (p+9500) e w':=by
 have HR:=ae hR;have QK:=hR.lt;have th:((w.alloc (Q #[Y Z 0 0] 25)).alloc (Q #[Y Z 0 0,Y Z 0 0] 29)).heap.size=w.heap.size+2:=by simp
 have A0:=ae (((q9 w).alloc ly (Q #[Y Z 0 0] 25)).alloc (by simp) (Q #[Y Z 0 0,Y Z 0 0] 29));have KA:Hid (((w.alloc (Q #[Y Z 0 0] 25)).alloc (Q #[Y Z 0 0,Y Z 0 0] 29)).heap[w.heap.size]?=T (Q #[Y Z 0 0] 25 (0,0))):=(((a8 (w.heap.size+1) (w.alloc (Q #[Y Z 0 0] 25))).alloc (by simp) _).block w.heap.size (eL _)).trans (eT w _);have KS:Hid (((w.alloc (Q #[Y Z 0 0] 25)).alloc (Q #[Y Z 0 0,Y Z 0 0] 29)).heap[w.heap.size+1]?=T (Q #[Y Z 0 0,Y Z 0 0] 29 (0,0))):=JZ w _ _;clear hR;go_enter Tryz.func32,Tryz.ntmps32;go_wp2_with fail;generalize (w.alloc (Q #[Y Z 0 0] 25)).alloc (Q #[Y Z 0 0,Y Z 0 0] 29)=W0 at A0 KS KA th ⊢;refine(xM R p _ (HR.below A0 ly) (by omega)).mono ?_;rintro e j ⟨a0,n0,c0,f0,a1,n1,c1,f1,a,n,c,f,rfl,hS,L,hn,hf,q1,hq1,bt,QO⟩;have hs1:=QO.size;have P:=((q9 j).alloc ly (Q #[Y a0 n0 c0,Y a1 n1 c1] 29)).alloc (by simp) (Q #[Y a n c] 25);have C:((j.alloc (Q #[Y a0 n0 c0,Y a1 n1 c1] 29)).alloc (Q #[Y a n c] 25)).heap[j.heap.size]?=T (Q #[Y a0 n0 c0,Y a1 n1 c1] 29 (0,0)):=(((a8 (j.heap.size+1) (j.alloc (Q #[Y a0 n0 c0,Y a1 n1 c1] 29))).alloc (by simp) _).block j.heap.size (eL _)).trans (eT j _);have D1:Hid (Dr2 [j.heap.size+1,R,w.heap.size+1,w.heap.size,j.heap.size] w R (w.heap.size+1) w.heap.size j.heap.size (j.heap.size+1) ((j.alloc (Q #[Y a0 n0 c0,Y a1 n1 c1] 29)).alloc (Q #[Y a n c] 25)) q1 n0 c0 n1 c1 a0 f0 a1 f1 n c a f):=by
  refine⟨⟨bt.below P ly,((Only.of_below A0).trans QO).trans (Only.of_below P),(P.block _ (by omega)).trans ((QO.block _ (by omega) (by omega)).trans KS),(P.block _ (by omega)).trans ((QO.block _ (by omega) (by omega)).trans KA),C,⟨W0.heap.size,j,by omega,hS,dh P ly,?_⟩,QK,by omega,by omega,by omega⟩,JZ j _ _,⟨W0.heap.size,j,by omega,L,dh P ly,?_⟩,by omega⟩;all_goals
   intro x E;simp only[p6,nj,JQ] at E;omega
 have HF:=ae hf;clear P C hS L hf bt QO A0 KS KA HR;have n9:w.heap.size+2<=j.heap.size:=by omega
 go_upto_region 2 with fail;generalize (j.alloc (Q #[Y a0 n0 c0,Y a1 n1 c1] 29)).alloc (Q #[Y a n c] 25)=W1 at D1 ⊢;generalize sm:j.heap.size+1=ab at D1 ⊢;have hab2:w.heap.size+3<=ab:=by omega
 have n8:j.heap.size<ab:=by omega
 clear sm;generalize j.heap.size=sb at D1 n9 n8 ⊢;go_wp2_with fail;refine(av R _ 5 _ D1.d.rd (by omega) (by omega) (by omega)).mono ?_;rintro e w2 ⟨z,rfl,hz0,hz1,hR,s⟩;have QN:=ae (D1.only s hR (by simp));clear hR s D1;go_upto_if 14 with fail;go_cut [] (fun wx=>∃ (q m0 A O B m k:Nat) (b0:Option Addr) (QM:Nat->Source) (QP:Option Addr) (QL:Nat->Target) (b:Option Addr) (g:Nat->ah),q<=p+5600/\m<=400/\Hid (∀ i,i<m->FitI (g i))/\Hid (Dr2 [ab,R,w.heap.size+1,w.heap.size,sb] w R (w.heap.size+1) w.heap.size sb ab wx q m0 A O B b0 QM QP QL m k b g));case first =>
  by_cases hz:z=0
  ·subst hz
   go_wp2_with fail;refine(rR R _ _ QN.d.rd (by omega)).mono ?_;rintro e w3 ⟨b0,m0,A,QM,QP,O,B,QL,rfl,hH,q3,CD,hR,s⟩;have hz3:=s.size;have n7:=ai QN.ax;have la:=ai QN.d.sx;have ex:=ai QN.d.zs;have H:=ae (QN.only s hR (by simp))
   have r:=ae (H.sput (k0:=A) (k1:=B) (by simp) (by omega) (QSp.new hH (by omega) (fun x E=>by
    simp only[p6,nj,JQ] at E
    omega)))
   obtain⟨QJ,x1,X,QH,W⟩:=H.d.cells;clear hH hR s QN H;go_upto_region 4 with fail;generalize (w3.setCell (N sb 0 Z) (Y b0 m0 A)).setCell (N sb 1 Z) (Y QP O B)=W4 at r ⊢;clear QJ x1 X QH W;obtain⟨QJ,x1,X,QH,W⟩:=r.d.cells;go_wp2_with fail;refine(qv w.heap.size m0 A O B b0 QM QP QL _ ⟨#[116,52]⟩ r.d.qs.at.1).mono ?_;rintro e w5 ⟨b,m,k,g,kk,tt,ra,rn,rc,rfl,L,hm,hg,hB⟩;have qr:=hB.size;have hl4:=ai r.ax;have hl5:=ai r.d.zs;have ld:=r.d.o.size;have l:=ae (r.below hB (by simp))
   have u:=ae (l.put (by simp) (by omega) (QAc.new L (by omega) (fun x E=>by
    simp only[p6,nj,JQ] at E
    omega)))
   obtain⟨y0,y1,y2⟩:=l.acc;have HG:=ae hg;clear L hB hg r l QJ x1 X QH W;go_wp2;go_meet;exact⟨_,_,_,_,_,m,k,_,_,_,_,b,g,by omega,hm,HG,u⟩
  ·have hzb:(z == 0)=QB:=by simpa using hz
   go_wp2;go_meet;exact⟨_,_,_,_,_,n,c,_,_,_,_,a,f,by omega,hn,HF,QN⟩
 case rest =>
 clear QN HF hn;obtain⟨q3,n0,c0,n1,c1,n,c,a0,f0,a1,f1,a,f,CD,hn,HF,H⟩:=hcut;generalize wc=W3 at H ⊢;go_wp2_with fail;refine(av R _ 8 _ H.d.rd (by omega) (by omega) (by omega)).mono ?_;rintro e w4 ⟨y,rfl,hy0,hy1,hR,s⟩;have r:=ae (H.only s hR (by simp));clear hR s H;go_upto_if 25 with fail;go_cut [] (fun wx=>∃ (q m k:Nat) (b:Option Addr) (g:Nat->ah),q<=p+6800/\Hid (m<=451/\∀ i,i<m->FitK 1 (g i))/\Hid (Dr2 [ab,R,w.heap.size+1,w.heap.size,sb] w R (w.heap.size+1) w.heap.size sb ab wx q n0 c0 n1 c1 a0 f0 a1 f1 m k b g));case first =>
  by_cases hy:y=0
  ·subst hy
   obtain⟨y0,y1,y2⟩:=r.acc;go_wp2_with fail;refine(qZ py 0 1 (by omega) (by omega) R _ a n c f _ (r.qa.at.sl _ (Agr.refl _ _)) (fun i hi=>(HF i hi).k) (by omega) r.d.rd (by omega)).mono ?_;rintro e w5 ⟨b,m,k,g,rfl,L,⟨q5,ur,hR,s⟩,n6,mv⟩;have HK:=ae (And.intro n6 mv);clear n6 mv;have qr:=s.size;have n7:=ai r.ax;have la:=ai r.d.sx;have ex:=ai r.d.zs;have ld:=r.d.o.size;have l:=ae (r.only s hR (by simp))
   have u:=ae (l.put (by simp) (by omega) (QAc.new L (by omega) (fun x E=>by
    simp only[p6,nj,JQ] at E
    omega)))
   clear y0 y1 y2;obtain⟨y0,y1,y2⟩:=l.acc;clear L hR s r l;go_wp2;go_meet;exact⟨_,m,k,b,g,by omega,HK,u⟩
  ·have Bk:(y == 0)=QB:=by simpa using hy
   go_wp2;go_meet;exact⟨_,n,c,a,f,by omega,⟨by omega,fun i hi=>(HF i hi).k⟩,r⟩
 case rest =>
 clear r HF hn;obtain⟨q4,n,c,a,f,hq4,HK,l⟩:=hcut;generalize wc=W5 at l ⊢;go_upto_if 30 with fail;go_cut [] (fun wx=>∃ (q m0 A O B:Nat) (b0:Option Addr) (QM:Nat->Source) (QP:Option Addr) (QL:Nat->Target),q<=p+9500/\Hid (Dr2 [ab,R,w.heap.size+1,w.heap.size,sb] w R (w.heap.size+1) w.heap.size sb ab wx q m0 A O B b0 QM QP QL n c a f));case first =>
  by_cases hy:y=1
  ·subst hy
   obtain⟨QJ,x1,X,QH,W⟩:=l.d.cells;go_wp2_with fail;refine(mI R _ w.heap.size n0 c0 n1 c1 a0 f0 a1 f1 _ l.d.rd (by omega) QK l.d.qs.at).mono ?_;rintro e w6 ⟨b0,m0,A,QM,QP,O,B,QL,rfl,hQ,q6,hq6,hR,s⟩;have hz6:=s.size;have n7:=ai l.ax;have la:=ai l.d.sx;have ex:=ai l.d.zs;have ld:=l.d.o.size;have u:=ae (l.only s hR (by simp));have QQ:QSp w.heap.size [ab,R,w.heap.size+1,w.heap.size,sb] w6 b0 m0 QM QP O QL:=by
    rcases hQ with hH | ⟨rfl,rfl,rfl,rfl,rfl,rfl⟩
    ·exact QSp.new hH (by omega) (fun x E=>by
      simp only[p6,nj,JQ] at E
      omega)
    ·exact u.d.qs
   have D7:=ae (u.sput (k0:=A) (k1:=B) (by simp) (by omega) QQ);clear QJ x1 X QH W;obtain⟨QJ,x1,X,QH,W⟩:=u.d.cells;clear hQ QQ hR s l u;go_wp2;go_meet;exact⟨_,_,_,_,_,_,_,_,_,by omega,D7⟩
  ·have Bk:(y == 1)=QB:=by simpa using hy
   go_wp2;go_meet;exact⟨_,_,_,_,_,_,_,_,_,by omega,l⟩
 case rest =>
 clear l;obtain⟨q5,n0,c0,n1,c1,a0,f0,a1,f1,ur,u⟩:=hcut;generalize wc=W6 at u ⊢;go_wp2_with fail;have SQ:Hid (∀ V,Dr2 [ab,R,w.heap.size+1,w.heap.size,sb] w R (w.heap.size+1) w.heap.size sb ab V q5 n0 c0 n1 c1 a0 f0 a1 f1 n c a f->V.cell? (N sb 0 Z)=T (Y a0 n0 c0)/\V.cell? (N sb 1 Z)=T (Y a1 n1 c1)/\V.cell? (N ab 0 Z)=T (Y a n c)):=fun V h=>⟨h.d.cells.1,h.d.cells.2.1,h.acc.1⟩
 have M:=ae (u.below br.drew (by simp));refine wp_region_held_drew (S:=fun V=>V.cell? (N sb 0 Z)=T (Y a0 n0 c0)/\V.cell? (N sb 1 Z)=T (Y a1 n1 c1)/\V.cell? (N ab 0 Z)=T (Y a n c)) (by as_aux_lemma=>kernel_rfl) (SQ _ M) (fun hS=>?_);have QR:=ae hS;clear hS u;generalize W6.drew=t at M QR ⊢
 iterate 2
  refine bB 0 (v:=?_) rfl rfl (by as_aux_lemma=>kernel_rfl) (fun _ _ _ h=>h) rfl ?_ QR ?_;rotate_left
  ·(intro wz ph;obtain⟨s0,s1,s2⟩:=ph;go_simp)
   (try with_reducible rfl)
  (try simp only[Act.put,nzL])
 have C:=M.d.zs;have ka:=M.d.za;have r0:t.cell? (N (w.heap.size+1) 0 Z)=T (Y Z 0 0):=by simp[World.cell?,C]
 have r1:t.cell? (N (w.heap.size+1) 1 Z)=T (Y Z 0 0):=by simp[World.cell?,C]
 have r2:t.cell? (N w.heap.size 0 Z)=T (Y Z 0 0):=by simp[World.cell?,ka]
 have y0:t.frozen? (N (w.heap.size+1) 0 Z)=QB:=by simp[World.frozen?,C]
 have y1:t.frozen? (N (w.heap.size+1) 1 Z)=QB:=by simp[World.frozen?,C]
 have y2:t.frozen? (N w.heap.size 0 Z)=QB:=by simp[World.frozen?,ka]
 have l0:=ai C;have l1:=ai ka;have B3:=ae ((((a8 w.heap.size t).setCell (p:=(N w.heap.size 0 Z)) ly (Y a n c)).setCell (p:=(N (w.heap.size+1) 0 Z)) (CV _) (Y a0 n0 c0)).setCell (p:=(N (w.heap.size+1) 1 Z)) (CV _) (Y a1 n1 c1));have FR:Hid (Fr [ab,R,w.heap.size+1,w.heap.size,sb] t (((t.setCell (N w.heap.size 0 Z) (Y a n c)).setCell (N (w.heap.size+1) 0 Z) (Y a0 n0 c0)).setCell (N (w.heap.size+1) 1 Z) (Y a1 n1 c1))):=((Fr.set (by simp) _).trans (Fr.set (by simp) _)).trans (Fr.set (by simp) _);have ro:=ae (M.d.qs.fr FR).at;have At:=ae (M.qa.fr FR).at;have R9:=ae (M.d.rd.low B3 QK);have O9:=ae (M.d.o.then B3);clear C ka B3 FR;have fd:sb≠w.heap.size:=by omega
 have DE:ab≠w.heap.size:=by omega
 have aq:ab≠w.heap.size+1:=by omega
 have D:sb≠w.heap.size+1:=by omega
 refine aR (i:=2) rfl (by as_aux_lemma=>kernel_rfl) (fun K hK=>?_);go_simp;obtain⟨h1,h2,h3⟩:=QR.out;clear QR;have QR:=ae (show(t.setCell (N w.heap.size 0 Z) (Y a n c)).cell? (N sb 0 Z)=T (Y a0 n0 c0)/\(t.setCell (N w.heap.size 0 Z) (Y a n c)).cell? (N sb 1 Z)=T (Y a1 n1 c1)/\(t.setCell (N w.heap.size 0 Z) (Y a n c)).cell? (N ab 0 Z)=T (Y a n c) from⟨(cell_far _ _ _ _ fd.symm).trans h1,(cell_far _ _ _ _ fd.symm).trans h2,(cell_far _ _ _ _ DE.symm).trans h3⟩);clear h1 h2 h3;refine hK _ _ QR ?_;clear hK K
 (try simp only[Act.put,nzL])
 refine aR (i:=3) rfl (by as_aux_lemma=>kernel_rfl) (fun K hK=>?_);go_simp;refine hK _ _ ⟨(cell_far _ _ _ _ D.symm).trans ((cell_far _ _ _ _ D.symm).trans QR.1),(cell_far _ _ _ _ D.symm).trans ((cell_far _ _ _ _ D.symm).trans QR.2.1),(cell_far _ _ _ _ aq.symm).trans ((cell_far _ _ _ _ aq.symm).trans QR.2.2)⟩ ?_;clear hK K
 (try simp only[Act.put,nzL])
 refine wpAnyH_done (by as_aux_lemma=>kernel_rfl) ?_ _;go_wp2;exact bp (v:=.tuple #[QG #[Y a n c],QG #[Y a0 n0 c0,Y a1 n1 c1]]) (by simp[results,Tryz.results32,go_sem,r0,r1,r2]) rfl ⟨_,_,_,_,_,_,_,_,_,_,_,_,rfl,ro,At,HK,q5,by omega,R9,O9⟩
def DAu (w:G)(e:Ending)(b:G):Prop:=∃ (a0:Option Addr) (n0 c0:Nat) (f0:Nat->Source) (a1:Option Addr) (n1 c1:Nat) (f1:Nat->Target) (a:Option Addr) (n c:Nat) (f:Nat->ah),e=QF (.tuple #[QG #[Y a n c],QG #[Y a0 n0 c0,Y a1 n1 c1]])/\HSp w.heap.size b a0 n0 f0 a1 n1 f1/\HAc w.heap.size b a n c f/\(n<=452/\∀ i,i<n->FitK 2 (f i))/\Below w.heap.size w b
def QSh (lo:Nat)(g:List Nat)(W:G)(a0:Option Addr)(n0:Nat)(f0:Nat->Source)(a1:Option Addr)(n1:Nat)(f1:Nat->Target):Prop:=∃ (b:Nat) (f:G),lo<=b/\HSp b f a0 n0 f0 a1 n1 f1/\Agr b f W/\oD g b f.heap.size
structure DuS (w:G)(R ab sb:Nat)(W:G)(q n0 c0 n1 c1:Nat)(a0:Option Addr)(f0:Nat->Source)(a1:Option Addr)(f1:Nat->Target)(n c:Nat)(a:Option Addr)(f:Nat->ah):Prop where
 rd:Rd W R q
 bl:Below w.heap.size w W
 za:W.heap[w.heap.size]?=T (Q #[Y Z 0 0] 25 (0,0))
 zs:W.heap[w.heap.size+1]?=T (Q #[Y Z 0 0,Y Z 0 0] 29 (0,0))
 ax:W.heap[ab]?=T (Q #[Y a n c] 25 (0,0))
 sx:W.heap[sb]?=T (Q #[Y a0 n0 c0,Y a1 n1 c1] 29 (0,0))
 qs:QSh (R+1) [R,w.heap.size,w.heap.size+1,ab,sb] W a0 n0 f0 a1 n1 f1
 qa:QAc w.heap.size [R,w.heap.size,w.heap.size+1,ab,sb] W a n c f
 lo:w.heap.size+1<R/\R<ab/\ab<sb
section
variable {w W W':G}{R sb ab q q' n0 c0 n1 c1 n c:Nat}{a0 a1 a:Option Addr}{f0:Nat->Source}{f1:Nat->Target}{f:Nat->ah}
theorem QSh.fr {lo:Nat}{f:List Nat}(h:QSh lo f W a0 n0 f0 a1 n1 f1)(j:Fr f W W'):QSh lo f W' a0 n0 f0 a1 n1 f1:=by obtain⟨b,l,i,h1,h2,g⟩:=h;exact⟨b,l,i,h1,h2.fr g j,g⟩
theorem QSh.at {lo:Nat}{g:List Nat}(h:QSh lo g W a0 n0 f0 a1 n1 f1):HSp lo W a0 n0 f0 a1 n1 f1:=by obtain⟨b,w1,f,h1,h2,-⟩:=h;exact(h1.agr h2).mono f
theorem QSh.new {lo b:Nat}{xs:List Nat}(h:HSp b W a0 n0 f0 a1 n1 f1)(f:lo<=b)(g:oD xs b W.heap.size):QSh lo xs W a0 n0 f0 a1 n1 f1:=⟨b,W,f,h,Agr.refl _ _,g⟩
theorem DuS.only (h:DuS w R ab sb W q n0 c0 n1 c1 a0 f0 a1 f1 n c a f)(b:Only R W W')(hR:Rd W' R q'):DuS w R ab sb W' q' n0 c0 n1 c1 a0 f0 a1 f1 n c a f:=by have hl:=h.lo;exact⟨hR,h.bl.trans (b.below (by omega) h.bl.size),(b.block _ (ai h.za) (by omega)).trans h.za,(b.block _ (ai h.zs) (by omega)).trans h.zs,(b.block _ (ai h.ax) (by omega)).trans h.ax,(b.block _ (ai h.sx) (by omega)).trans h.sx,h.qs.fr (Fr.only b (by simp)),h.qa.fr (Fr.only b (by simp)),h.lo⟩
theorem DuS.below (h:DuS w R ab sb W q n0 c0 n1 c1 a0 f0 a1 f1 n c a f)(b:Below W.heap.size W W'):DuS w R ab sb W' q n0 c0 n1 c1 a0 f0 a1 f1 n c a f:=h.only (Only.of_below b) (h.rd.below b ly)
theorem DuS.cells (h:DuS w R ab sb W q n0 c0 n1 c1 a0 f0 a1 f1 n c a f):W.cell? (N sb 0 Z)=T (Y a0 n0 c0)/\W.cell? (N sb 1 Z)=T (Y a1 n1 c1)/\W.frozen? (N sb 0 Z)=QB/\W.frozen? (N sb 1 Z)=QB/\sb<W.heap.size:=by have hb:=h.sx;refine⟨?_,?_,?_,?_,ai hb⟩<;>simp[World.cell?,World.frozen?,hb]
theorem DuS.acc (h:DuS w R ab sb W q n0 c0 n1 c1 a0 f0 a1 f1 n c a f):W.cell? (N ab 0 Z)=T (Y a n c)/\W.frozen? (N ab 0 Z)=QB/\ab<W.heap.size:=by have hb:=h.ax;refine⟨?_,?_,ai hb⟩<;>simp[World.cell?,World.frozen?,hb]
theorem DuS.set (h:DuS w R ab sb W q n0 c0 n1 c1 a0 f0 a1 f1 n c a f){x j:Nat}(b:x∈[R,w.heap.size,w.heap.size+1,ab,sb])(hl:R<x)(u:Value):Rd (W.setCell (N x j Z) u) R q/\Below w.heap.size w (W.setCell (N x j Z) u)/\Fr [R,w.heap.size,w.heap.size+1,ab,sb] W (W.setCell (N x j Z) u):=by have hh:=h.lo;exact⟨h.rd.low ((a8 (R+1) W).setCell (p:=(N x j Z)) (by show R+1<=x;omega) u) (eL _),h.bl.setCell (p:=(N x j Z)) (by show w.heap.size<=x;omega) u,Fr.set b u⟩
theorem DuS.put {m k:Nat}{b:Option Addr}{g:Nat->ah}(h:DuS w R ab sb W q n0 c0 n1 c1 a0 f0 a1 f1 n c a f)(p:QAc w.heap.size [R,w.heap.size,w.heap.size+1,ab,sb] W b m k g):DuS w R ab sb (W.setCell (N ab 0 Z) (Y b m k)) q n0 c0 n1 c1 a0 f0 a1 f1 m k b g:=by have o:=h.lo;obtain⟨h1,h2,l⟩:=h.set (x:=ab) (j:=0) (by simp) o.2.1 (Y b m k);have far:∀ i,i≠ab->(W.setCell (N ab 0 Z) (Y b m k)).heap[i]?=W.heap[i]?:=fun i hi=>qh _ _ _ _ hi;exact⟨h1,h2,(far _ (by omega)).trans h.za,(far _ (by omega)).trans h.zs,bI h.ax _,(far _ (by omega)).trans h.sx,h.qs.fr l,p.fr l,h.lo⟩
theorem DuS.sput {m0 k0 b k1:Nat}{b0 g:Option Addr}{j:Nat->Source}{m:Nat->Target}(h:DuS w R ab sb W q n0 c0 n1 c1 a0 f0 a1 f1 n c a f)(r:QSh (R+1) [R,w.heap.size,w.heap.size+1,ab,sb] W b0 m0 j g b m):DuS w R ab sb ((W.setCell (N sb 0 Z) (Y b0 m0 k0)).setCell (N sb 1 Z) (Y g b k1)) q m0 k0 b k1 b0 j g m n c a f:=by have hl:=h.lo;have B:=((a8 (R+1) W).setCell (p:=(N sb 0 Z)) (by show R+1<=sb;omega) (Y b0 m0 k0)).setCell (p:=(N sb 1 Z)) (by show R+1<=sb;omega) (Y g b k1);have l:Fr [R,w.heap.size,w.heap.size+1,ab,sb] W ((W.setCell (N sb 0 Z) (Y b0 m0 k0)).setCell (N sb 1 Z) (Y g b k1)):=(Fr.set (by simp) _).trans (Fr.set (by simp) _);have far:∀ i,i≠sb->((W.setCell (N sb 0 Z) (Y b0 m0 k0)).setCell (N sb 1 Z) (Y g b k1)).heap[i]?=W.heap[i]?:=fun i hi=>(qh _ _ _ _ hi).trans (qh _ _ _ _ hi);have o:=h.sx;exact⟨h.rd.low B (eL _),(h.bl.setCell (p:=(N sb 0 Z)) (by show w.heap.size<=sb;omega) _).setCell (p:=(N sb 1 Z)) (by show w.heap.size<=sb;omega) _,(far _ (by omega)).trans h.za,(far _ (by omega)).trans h.zs,(far _ (by omega)).trans h.ax,by simp[World.setCell,IK,o],r.fr l,h.qa.fr l,h.lo⟩
end
theorem rS (ac:Option Addr)(nc cap:Nat)(w:G)(hn:(nc:Int)<=1048576)(hc:nc<=cap)(QR:ByteSl w ac nc):Calls Tryz.prog 7 #[Y ac nc cap] w fun e w'=>DAu w e w':=by
 have S0:=ae QR;clear QR;go_enter Tryz.func7,Tryz.ntmps7;go_wp2_with fail;have ro:((w.alloc (Q #[Y Z 0 0] 25)).alloc (Q #[Y Z 0 0,Y Z 0 0] 29)).heap.size=w.heap.size+2:=by simp
 have A0:=ae (((q9 w).alloc ly (Q #[Y Z 0 0] 25)).alloc (by simp) (Q #[Y Z 0 0,Y Z 0 0] 29));have KA:Hid (((w.alloc (Q #[Y Z 0 0] 25)).alloc (Q #[Y Z 0 0,Y Z 0 0] 29)).heap[w.heap.size]?=T (Q #[Y Z 0 0] 25 (0,0))):=(((a8 (w.heap.size+1) (w.alloc (Q #[Y Z 0 0] 25))).alloc (by simp) _).block w.heap.size (eL _)).trans (eT w _);have KS:Hid (((w.alloc (Q #[Y Z 0 0] 25)).alloc (Q #[Y Z 0 0,Y Z 0 0] 29)).heap[w.heap.size+1]?=T (Q #[Y Z 0 0,Y Z 0 0] 29 (0,0))):=JZ w _ _;generalize (w.alloc (Q #[Y Z 0 0] 25)).alloc (Q #[Y Z 0 0,Y Z 0 0] 29)=W0 at A0 KS KA ro ⊢;refine(ws ac nc cap _ hn hc (S0.below A0 ly)).mono ?_;rintro e w1 ⟨R,rfl,hRz,aq,QM⟩;have R1:=ae aq;have B1:=ae (A0.trans (QM.mono (by omega)));have K1:=ae ((QM.block w.heap.size (by omega)).trans KA);have K2:=ae ((QM.block (w.heap.size+1) (by omega)).trans KS);have hs1:=QM.size;have hRl:=aq.lt;clear aq QM A0 KA KS S0;go_wp2_with fail;refine(zq R 0 _ R1 (by omega)).mono ?_;rintro e l ⟨a0,n0,c0,f0,a1,n1,c1,f1,a,n,c,f,rfl,QR,hA,O,q2,hq2,ex,L⟩;have hs2:=L.size;have QH:=((q9 l).alloc ly (Q #[Y a n c] 25)).alloc (by simp) (Q #[Y a0 n0 c0,Y a1 n1 c1] 29);have mv:((l.alloc (Q #[Y a n c] 25)).alloc (Q #[Y a0 n0 c0,Y a1 n1 c1] 29)).heap[l.heap.size]?=T (Q #[Y a n c] 25 (0,0)):=(((a8 (l.heap.size+1) (l.alloc (Q #[Y a n c] 25))).alloc (by simp) _).block l.heap.size (eL _)).trans (eT l _);have D1:Hid (DuS w R l.heap.size (l.heap.size+1) ((l.alloc (Q #[Y a n c] 25)).alloc (Q #[Y a0 n0 c0,Y a1 n1 c1] 29)) q2 n0 c0 n1 c1 a0 f0 a1 f1 n c a f):=by
  refine⟨ex.below QH ly,(B1.trans (L.below (by omega) B1.size)).trans (QH.mono (by omega)),(QH.block _ (by omega)).trans ((L.block _ (by omega) (by omega)).trans K1),(QH.block _ (by omega)).trans ((L.block _ (by omega) (by omega)).trans K2),mv,JZ l _ _,⟨w1.heap.size,l,by omega,QR.1,dh QH ly,fun x QN=>?_⟩,⟨w1.heap.size,l,by omega,hA,dh QH ly,fun x QN=>?_⟩,by omega,by omega,by omega⟩;all_goals
   simp only[p6,nj,JQ] at QN;omega
 have E:=ae QR.2;have HF:=ae O;clear QH mv QR hA O ex L B1 K1 K2 R1;have qr:w.heap.size+2<=l.heap.size:=by omega
 go_upto_region 3 with fail;generalize (l.alloc (Q #[Y a n c] 25)).alloc (Q #[Y a0 n0 c0,Y a1 n1 c1] 29)=W2 at D1 ⊢;generalize n8:l.heap.size+1=sb at D1 ⊢;have n7:l.heap.size<sb:=by omega
 clear n8;generalize l.heap.size=ab at D1 qr n7 ⊢;go_wp2_with fail;refine(av R _ 6 _ D1.rd (by omega) (by omega) (by omega)).mono ?_;rintro e w3 ⟨z,rfl,hz0,hz1,hR,o⟩;have u:=ae (D1.only o hR);clear hR o D1;go_upto_if 18 with fail;go_cut [] (fun QJ=>∃ (q m k:Nat) (b:Option Addr) (g:Nat->ah),q<=11000/\Hid (m<=452/\∀ i,i<m->FitK 2 (g i))/\Hid (DuS w R ab sb QJ q n0 c0 n1 c1 a0 f0 a1 f1 m k b g));case first =>
  by_cases hz:z=0
  ·subst hz
   obtain⟨y0,y1,y2⟩:=u.acc;go_wp2_with fail;refine(qZ py 1 2 (by omega) (by omega) R _ a n c f _ (u.qa.at.sl _ (Agr.refl _ _)) HF.2 HF.1 u.rd (by omega)).mono ?_;rintro e w5 ⟨b,m,k,g,rfl,hA,⟨q5,sm,hR,o⟩,n6,ld⟩;have HK:=ae (And.intro n6 ld);clear n6 ld;have hz5:=o.size;have X:=ai u.ax;have QK:=ai u.sx;have M:=ai u.zs;have W:=u.lo;have A:=ae (u.only o hR)
   have j:=ae (A.put (QAc.new hA (by omega) (fun x QN=>by
    simp only[p6,nj,JQ] at QN
    omega)))
   clear y0 y1 y2;obtain⟨y0,y1,y2⟩:=A.acc;clear hA hR o u A X QK M W;go_wp2;go_meet;exact⟨_,m,k,b,g,by omega,HK,j⟩
  ·have fd:(z == 0)=QB:=by simpa using hz
   go_wp2;go_meet;exact⟨_,n,c,a,f,by omega,⟨by have:=HF.1;omega,fun i hi=>(HF.2 i hi).up (by omega)⟩,u⟩
 case rest =>
 clear u HF;obtain⟨q4,n,c,a,f,hq4,HK,r⟩:=hcut;generalize wc=W4 at r ⊢;go_upto_if 23 with fail;go_cut [] (fun QJ=>∃ (q m0 C QL QP:Nat) (b0:Option Addr) (g0:Nat->Source) (B:Option Addr) (QO:Nat->Target),q<=14000/\Hid (Gd m0 QL QO)/\Hid (DuS w R ab sb QJ q m0 C QL QP b0 g0 B QO n c a f));case first =>
  by_cases hz:z=1
  ·subst hz
   obtain⟨x0,x1,x2,x3,x4⟩:=r.cells;go_wp2_with fail;refine(mI R _ (R+1) n0 c0 n1 c1 a0 f0 a1 f1 _ r.rd (by omega) (eL _) ⟨r.qs.at,E⟩).mono ?_;rintro e w6 ⟨b0,m0,C,g0,B,QL,QP,QO,rfl,hQ,q6,ur,hR,o⟩;have At:=o.size;have X:=ai r.ax;have QK:=ai r.sx;have M:=ai r.zs;have W:=r.lo;have j:=ae (r.only o hR);have QQ:QSh (R+1) [R,w.heap.size,w.heap.size+1,ab,sb] w6 b0 m0 g0 B QL QO/\Gd m0 QL QO:=by
    rcases hQ with hH | ⟨rfl,rfl,rfl,rfl,rfl,rfl⟩
    ·exact⟨QSh.new hH.1 (by omega) (fun x QN=>by
      simp only[p6,nj,JQ] at QN
      omega),hH.2⟩
    ·exact⟨j.qs,E⟩
   have GG:=ae QQ.2;have D7:=ae (j.sput (k0:=C) (k1:=QP) QQ.1);clear x0 x1 x2 x3 x4;obtain⟨x0,x1,x2,x3,x4⟩:=j.cells;clear hQ QQ hR o r j X QK M W;go_wp2;go_meet;exact⟨_,_,_,_,_,_,_,_,_,by omega,GG,D7⟩
  ·have fd:(z == 1)=QB:=by simpa using hz
   go_wp2;go_meet;exact⟨_,_,_,_,_,_,_,_,_,by omega,E,r⟩
 case rest =>
 clear r E;obtain⟨q5,n0,c0,n1,c1,a0,f0,a1,f1,sm,E,A⟩:=hcut;generalize wc=W5 at A ⊢;go_upto_region 8 with fail;go_cut [33] (fun s QJ=>∃ (B:Bool) (q:Nat),s=.bool B/\q<=14001/\Hid (DuS w R ab sb QJ q n0 c0 n1 c1 a0 f0 a1 f1 n c a f));case first =>
  by_cases hz:z=2
  ·subst hz
   go_wp2_with fail;refine(av R _ 4 _ A.rd (by omega) (by omega) (by omega)).mono ?_;rintro e w6 ⟨y,rfl,hy0,hy1,hR,o⟩;have j:=ae (A.only o hR);clear hR o A;go_wp2;go_meet;exact⟨_,_,rfl,by omega,j⟩
  ·have fd:(z == 2)=QB:=by simpa using hz
   go_wp2;go_meet;exact⟨QB,_,rfl,by omega,A⟩
 case rest =>
 clear A;obtain⟨B,q6,rfl,ur,j⟩:=hcut;generalize wc=W6 at j ⊢;go_upto_if 33 with fail;go_cut [] (fun QJ=>∃ (q m0 C QL QP:Nat) (b0:Option Addr) (g0:Nat->Source) (B:Option Addr) (QO:Nat->Target),Hid (DuS w R ab sb QJ q m0 C QL QP b0 g0 B QO n c a f));case first =>
  cases B with
  | true =>
   obtain⟨x0,x1,x2,x3,x4⟩:=j.cells;go_wp2_with fail;refine(uN R _ (R+1) n0 c0 n1 c1 a0 f0 a1 f1 _ j.rd (by omega) j.qs.at E.2.2 E.1 E.2.1).mono ?_;rintro e w7 ⟨b0,m0,C,g0,B,QL,QP,QO,rfl,hH,q7,hq7,hR,o⟩;have At:=o.size;have X:=ai j.ax;have QK:=ai j.sx;have M:=ai j.zs;have W:=j.lo;have D7:=ae (j.only o hR)
   have D8:=ae (D7.sput (k0:=C) (k1:=QP) (QSh.new hH (by omega) (fun x QN=>by
    simp only[p6,nj,JQ] at QN
    omega)))
   clear x0 x1 x2 x3 x4;obtain⟨x0,x1,x2,x3,x4⟩:=D7.cells;clear hH hR o j D7 X QK M W;go_wp2;go_meet;exact⟨_,_,_,_,_,_,_,_,_,D8⟩
  | false =>go_wp2;go_meet;exact⟨_,_,_,_,_,_,_,_,_,j⟩
 case rest =>
 clear j E;obtain⟨q8,n0,c0,n1,c1,a0,f0,a1,f1,j⟩:=hcut;generalize wc=W6 at j ⊢;go_wp2_with fail;have SQ:Hid (∀ V,DuS w R ab sb V q8 n0 c0 n1 c1 a0 f0 a1 f1 n c a f->V.cell? (N sb 0 Z)=T (Y a0 n0 c0)/\V.cell? (N sb 1 Z)=T (Y a1 n1 c1)/\V.cell? (N ab 0 Z)=T (Y a n c)):=fun V h=>⟨h.cells.1,h.cells.2.1,h.acc.1⟩
 have P:=ae (j.below br.drew);refine wp_region_held_drew (S:=fun V=>V.cell? (N sb 0 Z)=T (Y a0 n0 c0)/\V.cell? (N sb 1 Z)=T (Y a1 n1 c1)/\V.cell? (N ab 0 Z)=T (Y a n c)) (by as_aux_lemma=>kernel_rfl) (SQ _ P) (fun QR=>?_);have H:=ae QR;clear QR j;generalize W6.drew=t at P H ⊢
 iterate 2
  refine bB 0 (v:=?_) rfl rfl (by as_aux_lemma=>kernel_rfl) (fun _ _ _ h=>h) rfl ?_ H ?_;rotate_left
  ·(intro wz n9;obtain⟨s0,s1,s2⟩:=n9;go_simp)
   (try with_reducible rfl)
  (try simp only[Act.put,nzL])
 have ks:=P.zs;have ka:=P.za;have r0:t.cell? (N (w.heap.size+1) 0 Z)=T (Y Z 0 0):=by simp[World.cell?,ks]
 have r1:t.cell? (N (w.heap.size+1) 1 Z)=T (Y Z 0 0):=by simp[World.cell?,ks]
 have r2:t.cell? (N w.heap.size 0 Z)=T (Y Z 0 0):=by simp[World.cell?,ka]
 have y0:t.frozen? (N (w.heap.size+1) 0 Z)=QB:=by simp[World.frozen?,ks]
 have y1:t.frozen? (N (w.heap.size+1) 1 Z)=QB:=by simp[World.frozen?,ks]
 have y2:t.frozen? (N w.heap.size 0 Z)=QB:=by simp[World.frozen?,ka]
 have l0:=ai ks;have l1:=ai ka;have FR:Hid (Fr [R,w.heap.size,w.heap.size+1,ab,sb] t (((t.setCell (N w.heap.size 0 Z) (Y a n c)).setCell (N (w.heap.size+1) 0 Z) (Y a0 n0 c0)).setCell (N (w.heap.size+1) 1 Z) (Y a1 n1 c1))):=((Fr.set (by simp) _).trans (Fr.set (by simp) _)).trans (Fr.set (by simp) _);have ph:=ae ((P.qs.fr FR).at.mono (show w.heap.size<=R+1 by have:=P.lo;omega));have th:=ae (P.qa.fr FR).at;have B9:=ae (((P.bl.setCell (p:=(N w.heap.size 0 Z)) ly (Y a n c)).setCell (p:=(N (w.heap.size+1) 0 Z)) (CV _) (Y a0 n0 c0)).setCell (p:=(N (w.heap.size+1) 1 Z)) (CV _) (Y a1 n1 c1));clear ks ka FR;have la:sb≠w.heap.size:=by omega
 have Bk:ab≠w.heap.size:=by omega
 have bt:ab≠w.heap.size+1:=by omega
 have D:sb≠w.heap.size+1:=by omega
 refine aR (i:=2) rfl (by as_aux_lemma=>kernel_rfl) (fun K O=>?_);go_simp;obtain⟨h1,h2,h3⟩:=H.out;clear H;have H:=ae (show(t.setCell (N w.heap.size 0 Z) (Y a n c)).cell? (N sb 0 Z)=T (Y a0 n0 c0)/\(t.setCell (N w.heap.size 0 Z) (Y a n c)).cell? (N sb 1 Z)=T (Y a1 n1 c1)/\(t.setCell (N w.heap.size 0 Z) (Y a n c)).cell? (N ab 0 Z)=T (Y a n c) from⟨(cell_far _ _ _ _ la.symm).trans h1,(cell_far _ _ _ _ la.symm).trans h2,(cell_far _ _ _ _ Bk.symm).trans h3⟩);clear h1 h2 h3;refine O _ _ H ?_;clear O K
 (try simp only[Act.put,nzL])
 refine aR (i:=3) rfl (by as_aux_lemma=>kernel_rfl) (fun K O=>?_);go_simp;refine O _ _ ⟨(cell_far _ _ _ _ D.symm).trans ((cell_far _ _ _ _ D.symm).trans H.1),(cell_far _ _ _ _ D.symm).trans ((cell_far _ _ _ _ D.symm).trans H.2.1),(cell_far _ _ _ _ bt.symm).trans ((cell_far _ _ _ _ bt.symm).trans H.2.2)⟩ ?_;clear O K
 (try simp only[Act.put,nzL])
 refine wpAnyH_done (by as_aux_lemma=>kernel_rfl) ?_ _;go_wp2;exact bp (v:=.tuple #[QG #[Y a n c],QG #[Y a0 n0 c0,Y a1 n1 c1]]) (by simp[results,Tryz.results7,go_sem,r0,r1,r2]) rfl ⟨_,_,_,_,_,_,_,_,_,_,_,_,rfl,ph,th,HK,B9⟩
end Go.Proofs.YtamacmnikdejeaaGreatDoor.Vp
