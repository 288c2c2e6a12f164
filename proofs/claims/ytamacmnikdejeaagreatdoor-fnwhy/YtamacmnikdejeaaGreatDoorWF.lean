import Derived.Test.YtamacmnikdejeaaGreatDoorXU
import Derived.Test.YtamacmnikdejeaaGreatDoorXS
import Derived.Test.YtamacmnikdejeaaGreatDoorWE
set_option maxRecDepth 100000
set_option maxHeartbeats 60000000
open Go.Addr renaming mk->T
open Go.Value renaming slice->Y,string->U,int->I,agg->QV
open Option renaming none->Z,some->N
open Go.Obj renaming cells->Q
open Go.IntKind renaming i64->J
open Go renaming World->H
open Bool renaming false->QQ
open Go.Ending renaming returned->QU
namespace Go.Proofs.YtamacmnikdejeaaGreatDoor.Vp
open RowKit Ca
def DWy (w:H)(e:Ending)(h:H):Prop:=∃ (a:Option Addr) (n c:Nat) (f:Nat->aj) (b:Option Addr) (m k:Nat) (g:Nat->aj),e=QU (.tuple #[QV #[Y a n c],QV #[Y b m k]])/\HAc w.heap.size h a n c f/\HAc w.heap.size h b m k g/\Below w.heap.size w h
structure WyS (xs:List Nat)(w:H)(R ab:Nat)(W:H)(q n c:Nat)(a:Option Addr)(f:Nat->aj):Prop where
 rd:Rd W R q
 bl:Below w.heap.size w W
 z0:W.heap[w.heap.size]?=N (Q #[Y Z 0 0] 25 (0,0))
 z1:W.heap[w.heap.size+1]?=N (Q #[Y Z 0 0] 25 (0,0))
 x:W.heap[ab]?=N (Q #[Y a n c] 25 (0,0))
 qa:QAc w.heap.size xs W a n c f
 lo:w.heap.size+1<R/\R<ab
structure WyT (xs:List Nat)(w:H)(R ab bb:Nat)(W:H)(q n c:Nat)(a:Option Addr)(f:Nat->aj)(m k:Nat)(b:Option Addr)(g:Nat->aj):Prop where
 d:WyS xs w R ab W q n c a f
 y:W.heap[bb]?=N (Q #[Y b m k] 25 (0,0))
 qb:QAc w.heap.size xs W b m k g
 lo:ab<bb
section
variable {xs:List Nat}{w W W':H}{R ab bb q q' n c m k:Nat}{a b:Option Addr}{f g:Nat->aj}
theorem WyS.only (h:WyS xs w R ab W q n c a f)(b:Only R W W')(hR:Rd W' R q')(g:R∈xs):WyS xs w R ab W' q' n c a f:=by have hl:=h.lo;exact⟨hR,h.bl.trans (b.below (by omega) h.bl.size),(b.block _ (ai h.z0) (by omega)).trans h.z0,(b.block _ (ai h.z1) (by omega)).trans h.z1,(b.block _ (ai h.x) (by omega)).trans h.x,h.qa.fr (Fr.only b g),h.lo⟩
theorem WyS.below (h:WyS xs w R ab W q n c a f)(b:Below W.heap.size W W')(g:R∈xs):WyS xs w R ab W' q n c a f:=h.only (Only.of_below b) (h.rd.below b ly) g
theorem WyS.acc (h:WyS xs w R ab W q n c a f):W.cell? (T ab 0 Z)=N (Y a n c)/\ab<W.heap.size:=by have hb:=h.x;exact⟨by simp[World.cell?,hb],ai hb⟩
theorem WyT.only (h:WyT xs w R ab bb W q n c a f m k b g)(i:Only R W W')(hR:Rd W' R q')(j:R∈xs):WyT xs w R ab bb W' q' n c a f m k b g:=by have hl:=h.lo;have hl2:=h.d.lo;exact⟨h.d.only i hR j,(i.block _ (ai h.y) (by omega)).trans h.y,h.qb.fr (Fr.only i j),h.lo⟩
theorem WyT.below (h:WyT xs w R ab bb W q n c a f m k b g)(i:Below W.heap.size W W')(j:R∈xs):WyT xs w R ab bb W' q n c a f m k b g:=h.only (Only.of_below i) (h.d.rd.below i ly) j
theorem WyT.acc (h:WyT xs w R ab bb W q n c a f m k b g):W.cell? (T bb 0 Z)=N (Y b m k)/\W.frozen? (T bb 0 Z)=QQ/\bb<W.heap.size:=by have hb:=h.y;exact⟨by simp[World.cell?,hb],by simp[World.frozen?,hb],ai hb⟩
theorem WyS.set (h:WyS xs w R ab W q n c a f){x j:Nat}(b:x∈xs)(hl:ab<x)(u:Value):WyS xs w R ab (W.setCell (T x j Z) u) q n c a f:=by have hl2:=h.lo;have far:∀ i,i≠x->(W.setCell (T x j Z) u).heap[i]?=W.heap[i]?:=fun i hi=>qh _ _ _ _ hi;have B:=(eL (R+1) W).setCell (p:=(T x j Z)) (by show R+1<=x;omega) u;exact⟨h.rd.low B (j2 _),h.bl.setCell (p:=(T x j Z)) (by show w.heap.size<=x;omega) _,(far _ (by omega)).trans h.z0,(far _ (by omega)).trans h.z1,(far _ (by omega)).trans h.x,h.qa.fr (Fr.set b _),h.lo⟩
theorem WyT.put {o l:Nat}{j:Option Addr}{s:Nat->aj}(h:WyT xs w R ab bb W q n c a f m k b g)(r:bb∈xs)(t:QAc w.heap.size xs W j o l s):WyT xs w R ab bb (W.setCell (T bb 0 Z) (Y j o l)) q n c a f o l j s:=by have hl:=h.lo;have hl2:=h.d.lo;have far:∀ i,i≠bb->(W.setCell (T bb 0 Z) (Y j o l)).heap[i]?=W.heap[i]?:=fun i hi=>qh _ _ _ _ hi;have B:=(eL (R+1) W).setCell (p:=(T bb 0 Z)) (by show R+1<=bb;omega) (Y j o l);exact⟨⟨h.d.rd.low B (j2 _),h.d.bl.setCell (p:=(T bb 0 Z)) (by show w.heap.size<=bb;omega) _,(far _ (by omega)).trans h.d.z0,(far _ (by omega)).trans h.d.z1,(far _ (by omega)).trans h.d.x,h.d.qa.fr (Fr.set r _),h.d.lo⟩,bM h.y _,t.fr (Fr.set r _),h.lo⟩
theorem QAc.more {lo x:Nat}(h:QAc lo xs W a n c f)(i:W.heap.size<=x):QAc lo (x :: xs) W a n c f:=by
 obtain⟨b,m,l,h1,h2,j⟩:=h;refine⟨b,m,l,h1,h2,fun y g=>?_⟩;rcases nD.1 g with rfl | g
 ·exact .inr (j4 h2.1 i)
 ·exact j y g
theorem WyS.more {x:Nat}(h:WyS xs w R ab W q n c a f)(b:W.heap.size<=x):WyS (x :: xs) w R ab W q n c a f:=⟨h.rd,h.bl,h.z0,h.z1,h.x,h.qa.more b,h.lo⟩
theorem HAc.qac {i:Nat}(h:HAc i W' b m k g)(_:WyS xs w R ab W q n c a f)(l:w.heap.size<=i)(j:qO xs i W'.heap.size):QAc w.heap.size xs W' b m k g:=QAc.new h l j
theorem wW (h:WyS xs w R ab W q n c a f)(j:w.heap.size∈xs)(h1:w.heap.size+1∈xs)(i:QAc w.heap.size xs W b m k g):DWy w (QU (.tuple #[QV #[Y a n c],QV #[Y b m k]])) ((W.setCell (T w.heap.size 0 Z) (Y a n c)).setCell (T (w.heap.size+1) 0 Z) (Y b m k)) :=
 have fr:Fr xs W ((W.setCell (T w.heap.size 0 Z) (Y a n c)).setCell (T (w.heap.size+1) 0 Z) (Y b m k)):=(Fr.set j _).trans (Fr.set h1 _)
 ⟨_,_,_,_,_,_,_,_,rfl,(h.qa.fr fr).at,(i.fr fr).at,(h.bl.setCell (p:=(T w.heap.size 0 Z)) ly _).setCell (p:=(T (w.heap.size+1) 0 Z)) (vF _) _⟩
end
theorem vQ (ac:Option Addr)(nc cap:Nat)(w:H)(hn:(nc:Int)<=1048576)(hc:nc<=cap)(X:ByteSl w ac nc):Calls Tryz.prog 13 #[Y ac nc cap] w fun e w'=>DWy w e w':=by
 have S0:=ae X;clear X;have GH:((w.alloc (Q #[Y Z 0 0] 25)).alloc (Q #[Y Z 0 0] 25)).heap.size=w.heap.size+2:=by simp
 have A0:=ae (((q9 w).alloc ly (Q #[Y Z 0 0] 25)).alloc (by simp) (Q #[Y Z 0 0] 25));have K0:Hid (((w.alloc (Q #[Y Z 0 0] 25)).alloc (Q #[Y Z 0 0] 25)).heap[w.heap.size]?=N (Q #[Y Z 0 0] 25 (0,0))):=by show _=_;rw[MI _ _ (by simp)];exact cM w _
 have K1:Hid (((w.alloc (Q #[Y Z 0 0] 25)).alloc (Q #[Y Z 0 0] 25)).heap[w.heap.size+1]?=N (Q #[Y Z 0 0] 25 (0,0))):=LH w _ _;go_enter Tryz.func13,Tryz.ntmps13;go_wp2_with fail;generalize (w.alloc (Q #[Y Z 0 0] 25)).alloc (Q #[Y Z 0 0] 25)=W0 at A0 K0 K1 GH ⊢;refine(jd ac nc cap _ hn hc (S0.below A0 ly)).mono ?_;rintro e w1 ⟨R,rfl,hRz,qr,bt⟩;have R1:=ae qr;have B1:=ae (A0.trans (bt.mono (by omega)));have Z0:=ae ((bt.block w.heap.size (by omega)).trans K0);have Z1:=ae ((bt.block (w.heap.size+1) (by omega)).trans K1);have hs1:=bt.size;have hRl:=qr.lt;clear qr bt A0 K0 K1 S0;go_wp2_with fail;refine(yP R 0 _ R1 (by omega)).mono ?_;rintro e QY ⟨a0,n0,c0,f0,a1,n1,c1,f1,a,n,c,f,rfl,ro,hA,hn4,ur,q2,hq2,At,fd⟩;have hs2:=fd.size;have AS:=((q9 QY).alloc ly (Q #[Y a0 n0 c0,Y a1 n1 c1] 29)).alloc (by simp) (Q #[Y a n c] 25);have ks:((QY.alloc (Q #[Y a0 n0 c0,Y a1 n1 c1] 29)).alloc (Q #[Y a n c] 25)).heap[QY.heap.size]?=N (Q #[Y a0 n0 c0,Y a1 n1 c1] 29 (0,0)):=by rw[MI _ _ (by simp)];exact cM QY _
 have QW:Hid (WyS [R,w.heap.size,w.heap.size+1] w R (QY.heap.size+1) ((QY.alloc (Q #[Y a0 n0 c0,Y a1 n1 c1] 29)).alloc (Q #[Y a n c] 25)) q2 n c a f):=by refine⟨At.below AS ly,(B1.trans (fd.below (by omega) B1.size)).trans (AS.mono (by omega)),(AS.block _ (by omega)).trans ((fd.block _ (by omega) (by omega)).trans Z0),(AS.block _ (by omega)).trans ((fd.block _ (by omega) (by omega)).trans Z1),LH QY _ _,⟨w1.heap.size,QY,by omega,hA,bh AS ly,fun x F=>?_⟩,by omega,by omega⟩;simp only[nD,nj,MA] at F;omega
 have KS:=ae ks;have HG:Hid (HSg w1.heap.size ((QY.alloc (Q #[Y a0 n0 c0,Y a1 n1 c1] 29)).alloc (Q #[Y a n c] 25)) a0 n0 f0 a1 n1 f1):=⟨ro.1.agr (bh AS ly),ro.2⟩
 have HF:=ae ur;have n9:R<w1.heap.size/\w1.heap.size<=QY.heap.size:=by omega
 clear AS ks ro hA ur At fd B1 Z0 Z1 R1;go_upto_region 3 with fail;generalize (QY.alloc (Q #[Y a0 n0 c0,Y a1 n1 c1] 29)).alloc (Q #[Y a n c] 25)=W2 at QW KS HG ⊢;generalize w1.heap.size=lo at HG n9 ⊢;generalize QY.heap.size=sb at QW KS n9 ⊢;obtain⟨x0,-⟩:=QW.acc;by_cases h0:n=0
 ·subst h0
  go_wp2_with fail;have G:=ae (QW.below br.drew (by simp));refine wp_region_held_drew (S:=fun V=>V.cell? (T (sb+1) 0 Z)=N (Y a 0 c)) (by as_aux_lemma=>kernel_rfl) G.acc.1 (fun X=>?_);have u:=ae X;clear X QW x0;generalize W2.drew=W at G u ⊢
  iterate 2
   refine aV 0 (v:=?_) rfl rfl (by as_aux_lemma=>kernel_rfl) (fun _ _ _ h=>h) rfl ?_ u.out ?_;rotate_left
   ·(intro wz s0;go_simp)
    (try with_reducible rfl)
   (try simp only[Act.put,nzL])
  have ka:=G.z0;have kb:=G.z1;have r0:W.cell? (T w.heap.size 0 Z)=N (Y Z 0 0):=by simp[World.cell?,ka]
  have r1:W.cell? (T (w.heap.size+1) 0 Z)=N (Y Z 0 0):=by simp[World.cell?,kb]
  have y0:W.frozen? (T w.heap.size 0 Z)=QQ:=by simp[World.frozen?,ka]
  have y1:W.frozen? (T (w.heap.size+1) 0 Z)=QQ:=by simp[World.frozen?,kb]
  have l0:=ai ka;have l1:=ai kb;clear ka kb;have F3:=ae (wW G (by simp) (by simp) G.qa);refine aD (i:=2) rfl (by as_aux_lemma=>kernel_rfl) (fun K o=>?_);go_simp;have HT:=ae ((cell_far W (T w.heap.size 0 Z) (T (sb+1) 0 Z) (Y a 0 c) (by show w.heap.size≠sb+1;have:=G.lo;omega)).trans u);refine o _ _ HT ?_;clear o K
  (try simp only[Act.put,nzL])
  refine aD (i:=3) rfl (by as_aux_lemma=>kernel_rfl) (fun K o=>?_);go_simp;refine o _ _ ((cell_far _ (T (w.heap.size+1) 0 Z) (T (sb+1) 0 Z) (Y a 0 c) (by show w.heap.size+1≠sb+1;have:=G.lo;omega)).trans HT) ?_;clear o K
  (try simp only[Act.put,nzL])
  refine wpAnyH_done (by as_aux_lemma=>kernel_rfl) ?_ _;go_wp2;exact bp (v:=.tuple #[QV #[Y a 0 c],QV #[Y a 0 c]]) (by simp[results,Tryz.results13,go_sem,r0,r1]) rfl F3
 have h0b:((n:Int) == 0)=QQ:=by simp;omega
 obtain⟨l,rfl⟩:∃ l,n=l+1:=⟨n - 1,by omega⟩
 obtain⟨b,off,rfl,-⟩:∃ b off,a=N (T b off Z)/\RowDeed W2 b off (l+1) f:=by
  rcases QW.qa.at.here with h | h
  ·omega
  ·exact h
 clear h0;have hw:IntKind.i64.wrap ((l:Int)+1 - 1)=(l:Int):=by rw[j6];omega
 have hw2:IntKind.i64.wrap (l:Int)=(l:Int):=by rw[j6];omega
 have hl2:(l:Int)<(l:Int)+1:=by omega
 have SQ:Hid (∀ (xs:List Nat) (V:H) (q:Nat),WyS xs w R (sb+1) V q (l+1) c (N (T b off Z)) f->V.heap[sb]?=N (Q #[Y a0 n0 c0,Y a1 n1 c1] 29 (0,0))->V.cell? (T sb 0 Z)=N (Y a0 n0 c0)/\V.cell? (T sb 1 Z)=N (Y a1 n1 c1)/\V.cell? (T (sb+1) 0 Z)=N (Y (N (T b off Z)) (l+1) c)/\b<V.heap.size/\V.cell? (T b (off+l*6) Z)=N (U (f l).name)):=fun xs V q h hs=>by
  refine⟨by simp[World.cell?,hs],by simp[World.cell?,hs],h.acc.1,?_⟩;rcases h.qa.at.here with h0 | ⟨QZ,off',e,hr⟩
  ·omega
  ·cases e
   exact⟨hr.1,(hr.2 l (by omega)).1⟩
 generalize (f l).name=nm at SQ;have Fd:=ai KS.out;have th:sb+1<W2.heap.size:=ai QW.x;go_upto_region 5 with fail;go_cut [7] (fun s wx=>∃ (xs:List Nat) (bb q m k:Nat) (QZ:Option Addr) (g:Nat->aj),s=.pointer (N (T bb 0 Z))/\(R∈xs/\w.heap.size∈xs/\w.heap.size+1∈xs/\bb∈xs/\∀ x∈xs,x<wx.heap.size)/\q<=q2+2500/\Hid (WyT xs w R (sb+1) bb wx q (l+1) c (N (T b off Z)) f m k QZ g));case first =>
  go_wp2_with fail;have E:=ae (QW.below br.drew (by simp));have z:Hid (W2.drew.heap[sb]?=N (Q #[Y a0 n0 c0,Y a1 n1 c1] 29 (0,0))):=KS.out;have B:=ae (show HSg lo W2.drew a0 n0 f0 a1 n1 f1 from⟨HG.1.agr (bh (q9 W2).drew ly),HG.2⟩);have hz:sb+1<W2.drew.heap.size:=th;refine wp_region_held_drew (S:=fun V=>V.cell? (T sb 0 Z)=N (Y a0 n0 c0)/\V.cell? (T sb 1 Z)=N (Y a1 n1 c1)/\V.cell? (T (sb+1) 0 Z)=N (Y (N (T b off Z)) (l+1) c)/\b<V.heap.size/\V.cell? (T b (off+l*6) Z)=N (U nm)) (by as_aux_lemma=>kernel_rfl) (SQ _ _ _ E z) (fun X=>?_);have u:=ae X;clear X QW KS HG x0 th Fd;generalize W2.drew=v at E z B u hz ⊢
  iterate 2
   refine aV 0 (v:=?_) rfl rfl (by as_aux_lemma=>kernel_rfl) (fun _ _ _ h=>h) rfl ?_ u.out ?_;rotate_left
   ·(intro wz ZB;obtain⟨s0,s1,s2,s3,s4⟩:=ZB;go_simp)
    (try with_reducible rfl)
   (try simp only[Act.put,nzL])
  iterate 9
   refine aV 3 (v:=?_) rfl rfl (by as_aux_lemma=>kernel_rfl) (fun _ _ _ h=>h) rfl ?_ u.out ?_;rotate_left
   ·(intro wz ZB;obtain⟨s0,s1,s2,s3,s4⟩:=ZB;go_simp)
    (try with_reducible rfl)
   (try simp only[Act.put,nzL])
  repeat' first
   | (guard_hyp L;(fail_if_success guard_hyp Fk);refine aV 13 (v:=?_) rfl rfl (by as_aux_lemma=>kernel_rfl) (fun _ _ _ h=>h) rfl ?_ u ?_;rotate_left;(focus (intro wz ZB;obtain⟨s0,s1,s2,s3,s4⟩:=ZB;go_simp;(try with_reducible rfl);done));(try simp only[Act.put,nzL]);have Fk:=True.intro)
   | (guard_hyp L;guard_hyp Fk;(fail_if_success guard_hyp Fn);refine aV 14 (v:=?_) rfl rfl (by as_aux_lemma=>kernel_rfl) (fun _ _ _ h=>h) rfl ?_ u ?_;rotate_left;(focus (intro wz ZB;obtain⟨s0,s1,s2,s3,s4⟩:=ZB;go_simp;(try with_reducible rfl);done));(try simp only[Act.put,nzL]);have Fn:=True.intro)
   | (guard_hyp L;guard_hyp Fn;(fail_if_success guard_hyp aq);refine aV 15 (v:=?_) rfl rfl (by as_aux_lemma=>kernel_rfl) (fun _ _ _ h=>h) rfl ?_ u ?_;rotate_left;(focus (intro wz ZB;obtain⟨s0,s1,s2,s3,s4⟩:=ZB;go_simp;(try with_reducible rfl);done));(try simp only[Act.put,nzL]);have aq:=True.intro)
   | (guard_hyp B;(fail_if_success guard_hyp p);(fail_if_success guard_hyp t);refine o7 (i:=2) (j:=16) (m:=17) rfl rfl rfl (by as_aux_lemma=>kernel_rfl) (fun K o=>?_) (fun K o=>?_) (fun K o=>?_))
   | (guard_hyp B;guard_hyp p;(fail_if_success guard_hyp t);refine eP (i:=2) (j:=17) rfl rfl (by as_aux_lemma=>kernel_rfl) (fun K o=>?_) (fun K o=>?_))
   | (guard_hyp B;guard_hyp t;(fail_if_success guard_hyp p);refine eP (i:=2) (j:=16) rfl rfl (by as_aux_lemma=>kernel_rfl) (fun K o=>?_) (fun K o=>?_))
   | (guard_hyp B;guard_hyp p;guard_hyp t;refine aD (i:=2) rfl (by as_aux_lemma=>kernel_rfl) (fun K o=>?_))
   | (guard_hyp Q2;(fail_if_success guard_hyp p);(fail_if_success guard_hyp t);refine o7 (i:=12) (j:=16) (m:=17) rfl rfl rfl (by as_aux_lemma=>kernel_rfl) (fun K o=>?_) (fun K o=>?_) (fun K o=>?_))
   | (guard_hyp Q2;guard_hyp p;(fail_if_success guard_hyp t);refine eP (i:=12) (j:=17) rfl rfl (by as_aux_lemma=>kernel_rfl) (fun K o=>?_) (fun K o=>?_))
   | (guard_hyp Q2;guard_hyp t;(fail_if_success guard_hyp p);refine eP (i:=12) (j:=16) rfl rfl (by as_aux_lemma=>kernel_rfl) (fun K o=>?_) (fun K o=>?_))
   | (guard_hyp Q2;guard_hyp p;guard_hyp t;refine aD (i:=12) rfl (by as_aux_lemma=>kernel_rfl) (fun K o=>?_))
   | (guard_hyp aq;(fail_if_success guard_hyp p);(fail_if_success guard_hyp t);refine eP (i:=16) (j:=17) rfl rfl (by as_aux_lemma=>kernel_rfl) (fun K o=>?_) (fun K o=>?_))
   | (guard_hyp aq;guard_hyp p;(fail_if_success guard_hyp t);(fail_if_success guard_hyp QX);refine aD (i:=17) rfl (by as_aux_lemma=>kernel_rfl) (fun K o=>?_))
   | (guard_hyp aq;guard_hyp t;(fail_if_success guard_hyp p);refine aD (i:=16) rfl (by as_aux_lemma=>kernel_rfl) (fun K o=>?_))
   | (guard_hyp aq;guard_hyp p;guard_hyp t;(fail_if_success guard_hyp QX);refine aD (i:=18) rfl (by as_aux_lemma=>kernel_rfl) (fun K o=>?_))
   | (guard_hyp QX;(fail_if_success guard_hyp t);(fail_if_success guard_hyp mv);refine aD (i:=17) rfl (by as_aux_lemma=>kernel_rfl) (fun K o=>?_))
   | (guard_hyp QX;guard_hyp t;(fail_if_success guard_hyp mv);refine aD (i:=19) rfl (by as_aux_lemma=>kernel_rfl) (fun K o=>?_))
   | (guard_hyp mv;refine wpAnyH_done (by as_aux_lemma=>kernel_rfl) ?_ _;clear u;go_wp2;go_meet;exact⟨_,Q9,_,m,k,ba,g,rfl,⟨by simp,by simp,by simp,by simp,fun x F=>by(have h1:=ai E.z1;have h2:=ai p.out;have h3:=E.rd.lt;simp only[nD,nj,MA] at F;omega)⟩,by omega,E,p,L,sm⟩)
   | (guard_hyp B;go_simp;go_at_call 35;refine(uJ R _ lo n0 c0 n1 c1 a0 f0 a1 f1 _ E.rd (by omega) n9.1 B).mono ?_;rintro e v ⟨b0,m0,k0,g0,b1,m1,k1,g1,rfl,hQ,q4,hq4,hR,M⟩;have Q2:Hid (∃ d,HSp d v b0 m0 g0 b1 m1 g1):=(hQ.elim (fun h=>⟨_,h.1⟩) (fun⟨x0,x1,x2,x3,x4,x5⟩=>⟨_,x0 ▸ x1 ▸ x2 ▸ x3 ▸ x4 ▸ x5 ▸ B.1.agr (M.agr n9.1)⟩));(try replace p:=ae ((M.block Q9 (ai p) (by omega)).trans p));(try replace t:=ae ((M.block C (ai t) (by omega)).trans t));replace hz:=lj hz M.size;replace z:=ae ((M.block sb (ai z) (by omega)).trans z);replace E:=ae (E.only M hR (by simp));clear hQ hR M B;replace u:=ae (SQ _ _ _ E z);refine o _ _ u ?_;clear o K;(try simp only[Act.put,nzL]))
   | (guard_hyp Q2;go_simp;go_at_call 11;obtain⟨dm,DQ⟩:=Q2.out;refine(qP dm m0 k0 m1 k1 b0 g0 b1 g1 _ nm DQ).mono ?_;rintro e v2 ⟨ba,m,k,g,rk,rt,ra,rn,rc,rfl,Bk,-,-,A⟩;have L:=ae (Bk.qac E (by omega) (by first | (have h7:=ai p.out;have h8:=ai t.out;intro x F;simp only[nD,nj,MA] at F;omega) | (have h7:=ai p.out;intro x F;simp only[nD,nj,MA] at F;omega) | (have h7:=ai t.out;intro x F;simp only[nD,nj,MA] at F;omega) | (intro x F;simp only[nD,nj,MA] at F;omega)));(try replace p:=ae ((A.block Q9 (ai p)).trans p));(try replace t:=ae ((A.block C (ai t)).trans t));replace hz:=lj hz A.size;replace z:=ae ((A.block sb (ai z)).trans z);replace E:=ae (E.below A (by simp));clear Bk A Q2 DQ;replace u:=ae (SQ _ _ _ E z);refine o _ _ u ?_;clear o K;obtain⟨v,rfl⟩:∃ x,x=v2:=⟨_,rfl⟩;(try simp only[Act.put,nzL]))
   | ((fail_if_success guard_hyp p);have A:=(q9 v).alloc ly (Q #[Y Z 0 0] 25);have p:Hid ((v.alloc (Q #[Y Z 0 0] 25)).heap[v.heap.size]?=N (Q #[Y Z 0 0] 25 (0,0))):=cM v _;have sm:=hz;(try replace t:=ae ((A.block C (ai t)).trans t));(try replace B:=ae (show HSg lo _ a0 n0 f0 a1 n1 f1 from⟨B.1.agr (bh A ly),B.2⟩));(try replace Q2:=ae (Q2.out.imp fun d h=>h.agr (bh A ly)));(try replace L:=ae ((L.more ly).fr (Fr.below A)));replace z:=ae ((A.block sb (ai z)).trans z);replace E:=ae ((E.more ly).below A (by simp));replace hz:=lj hz A.size;replace u:=ae (SQ _ _ _ E z);go_simp;refine o _ _ u ?_;clear o K A;obtain⟨Q9,D⟩:∃ x,v.heap.size=x:=⟨_,rfl⟩;rw[D] at p E sm ⊢;(try rw[D] at L);clear D;obtain⟨v,D⟩:∃ x,v.alloc (Q #[Y Z 0 0] 25)=x:=⟨_,rfl⟩;rw[D] at p E z u hz ⊢;(try rw[D] at L);(try rw[D] at Q2);(try rw[D] at B);(try rw[D] at t);clear D;(try simp only[Act.put,nzL]))
   | ((fail_if_success guard_hyp t);(fail_if_success guard_hyp mv);have A:=(q9 v).alloc ly (Q #[I J 0,U ⟨#[]⟩,Y Z 0 0] 37);have t:Hid ((v.alloc (Q #[I J 0,U ⟨#[]⟩,Y Z 0 0] 37)).heap[v.heap.size]?=N (Q #[I J 0,U ⟨#[]⟩,Y Z 0 0] 37 (0,0))):=cM v _;have ld:=hz;(try replace p:=ae ((A.block Q9 (ai p)).trans p));(try replace B:=ae (show HSg lo _ a0 n0 f0 a1 n1 f1 from⟨B.1.agr (bh A ly),B.2⟩));(try replace Q2:=ae (Q2.out.imp fun d h=>h.agr (bh A ly)));(try replace L:=ae ((L.more ly).fr (Fr.below A)));replace z:=ae ((A.block sb (ai z)).trans z);replace E:=ae ((E.more ly).below A (by simp));replace hz:=lj hz A.size;replace u:=ae (SQ _ _ _ E z);go_simp;refine o _ _ u ?_;clear o K A;obtain⟨C,D⟩:∃ x,v.heap.size=x:=⟨_,rfl⟩;rw[D] at t E ld ⊢;(try rw[D] at L);clear D;obtain⟨v,D⟩:∃ x,v.alloc (Q #[I J 0,U ⟨#[]⟩,Y Z 0 0] 37)=x:=⟨_,rfl⟩;rw[D] at t E z u hz ⊢;(try rw[D] at L);(try rw[D] at Q2);(try rw[D] at B);(try rw[D] at p);clear D;(try simp only[Act.put,nzL]))
   | ((fail_if_success guard_hyp QX);have P:=p.out;have c0:v.cell? (T Q9 0 Z)=N (Y Z 0 0):=(by simp[World.cell?,P]);have c1:v.frozen? (T Q9 0 Z)=QQ:=(by simp[World.frozen?,P]);have c2:=ai P;(try replace t:=ae ((qh v (T Q9 0 Z) (Y ba m k) C (jR t p (by decide))).trans t));replace z:=ae ((qh v (T Q9 0 Z) (Y ba m k) sb (jR z p (by decide))).trans z);replace p:Hid ((v.setCell (T Q9 0 Z) (Y ba m k)).heap[Q9]?=N (Q #[Y ba m k] 25 (0,0))):=bM p _;replace L:=ae (L.fr (Fr.set (j:=0) (x:=Q9) (by simp) (Y ba m k)));replace E:=ae (E.set (j:=0) (x:=Q9) (by simp) sm (Y ba m k));replace u:=ae (SQ _ _ _ E z);go_simp;clear c0 c1 c2 P;refine o _ _ u ?_;clear o K;replace hz:sb+1<(v.setCell (T Q9 0 Z) (Y ba m k)).heap.size:=(by simpa using hz);obtain⟨v,D⟩:∃ x,v.setCell (T Q9 0 Z) (Y ba m k)=x:=⟨_,rfl⟩;rw[D] at p E z u hz L ⊢;(try rw[D] at t);clear D;(try simp only[Act.put,nzL]);have QX:=True.intro)
   | (guard_hyp QX;have P:=t.out;have c0:v.cell? (T C 0 Z)=N (I J 0):=(by simp[World.cell?,P]);have c1:v.cell? (T C 1 Z)=N (U ⟨#[]⟩):=(by simp[World.cell?,P]);have c2:v.cell? (T C 2 Z)=N (Y Z 0 0):=(by simp[World.cell?,P]);have f0:v.frozen? (T C 0 Z)=QQ:=(by simp[World.frozen?,P]);have f1:v.frozen? (T C 1 Z)=QQ:=(by simp[World.frozen?,P]);have f2:v.frozen? (T C 2 Z)=QQ:=(by simp[World.frozen?,P]);have f3:=ai P;have ne:=jR z t (by decide);have n8:=jR p t (by decide);replace z:=ae ((((qh _ (T C 2 Z) (Y ra rn rc) sb ne).trans (qh _ (T C 1 Z) (U rt) sb ne)).trans (qh v (T C 0 Z) (I J rk) sb ne)).trans z);replace p:=ae ((((qh _ (T C 2 Z) (Y ra rn rc) Q9 n8).trans (qh _ (T C 1 Z) (U rt) Q9 n8)).trans (qh v (T C 0 Z) (I J rk) Q9 n8)).trans p);replace L:=ae (L.fr (((Fr.set (j:=0) (x:=C) (by simp) (I J rk)).trans (Fr.set (j:=1) (x:=C) (by simp) (U rt))).trans (Fr.set (j:=2) (x:=C) (by simp) (Y ra rn rc))));replace E:=ae (((E.set (j:=0) (x:=C) (by simp) ld (I J rk)).set (j:=1) (x:=C) (by simp) ld (U rt)).set (j:=2) (x:=C) (by simp) ld (Y ra rn rc));replace u:=ae (SQ _ _ _ E z);go_simp;have h8:C<(((v.setCell (T C 0 Z) (I J rk)).setCell (T C 1 Z) (U rt)).setCell (T C 2 Z) (Y ra rn rc)).heap.size:=(by simpa using f3);clear c0 c1 c2 f0 f1 f2 f3 P ne n8 t;refine o _ _ u ?_;clear o K;(try simp only[Act.put,nzL]);have mv:=True.intro)
 case rest =>
 clear QW KS HG x0 Fd th SQ;obtain⟨xs,bb,q5,m,k,QZ,g,rfl,⟨la,GC,GE,DE,ph⟩,hq5,D5⟩:=hcut;generalize wc=W5 at D5 ph ⊢;go_wp2_with fail;refine(aw R _ 10 _ D5.d.rd (by omega) (by omega) (by omega)).mono ?_;rintro e w6 ⟨y,rfl,hy0,hy1,hR,M⟩;have ZA:=ae (D5.only M hR la);have O:=ae (fun x F=>lj (ph x F) M.size);clear hR M D5 ph;go_upto_if 42 with fail;go_cut [] (fun wx=>∃ (q m k:Nat) (QZ:Option Addr) (g:Nat->aj),q<=q5+2000/\Hid (∀ x∈xs,x<wx.heap.size)/\Hid (WyT xs w R (sb+1) bb wx q (l+1) c (N (T b off Z)) f m k QZ g));case first =>
  by_cases hy:y=0
  ·subst hy
   obtain⟨x0,x1⟩:=ZA.d.acc;go_wp2_with fail;refine(yM yK R _ _ (l+1) c f _ (ZA.d.qa.at.sl _ (Agr.refl _ _)) HF (by omega) ZA.d.rd (by omega)).mono ?_;rintro e w7 ⟨b7,m7,k7,g7,rfl,hA,q7,hq7,hR,M⟩;have Fm:=ZA.d.bl.size;have Q0:=ae (ZA.only M hR la);have D8:=ae (Q0.put DE (hA.qac Q0.d Fm (fun x F=>.inl (O x F))));have GI:=ae (fun x F=>lj (O x F) M.size);obtain⟨y0,y1,y2⟩:=Q0.acc;clear hA hR M ZA Q0 x0 x1 O;go_wp2;go_meet;exact⟨_,m7,k7,b7,g7,by omega,(fun x F=>by have:=GI x F;simpa using this),D8⟩
  ·have GD:(y == 0)=QQ:=by simpa using hy
   go_wp2;go_meet;exact⟨_,m,k,QZ,g,by omega,O,ZA⟩
 case rest =>
 clear ZA O;obtain⟨q6,m,k,QZ,g,hq6,O,ZA⟩:=hcut;generalize wc=W6 at ZA O ⊢;go_upto_if 47 with fail;go_cut [] (fun wx=>∃ (q m k:Nat) (QZ:Option Addr) (g:Nat->aj),Hid (WyT xs w R (sb+1) bb wx q (l+1) c (N (T b off Z)) f m k QZ g));case first =>
  by_cases hy:y=1
  ·subst hy
   obtain⟨x0,x1⟩:=ZA.d.acc;go_wp2_with fail;refine(rh _ (l+1) c f _ (by omega) (ZA.d.qa.at.sl _ (Agr.refl _ _)) (fun i hi=>(HF i hi).1.fits)).mono ?_;rintro e w7 ⟨b7,k7,R7,rfl,hD,hm,-,A⟩;have Fm:=ZA.d.bl.size;have GF:R7.length=l+1:=by have:=JN List.length hm;simpa using this
   have hA:=Ap hD (fun r hr=>by
    have h:r.1∈(List.range (l+1)).map f:=by rw[<-hm];exact MC hr
    obtain⟨i,hi,e⟩:=JQ.1 h;rw[<-e]
    exact(HF i (H7.1 hi)).1) (by omega)
   have Q0:=ae (ZA.below A la);have D8:=ae (Q0.put DE (hA.qac Q0.d (by omega) (fun x F=>.inl (lj (O x F) (Nat.le_add_right _ _)))));obtain⟨y0,y1,y2⟩:=Q0.acc;clear hA hD hm GF A ZA Q0 x0 x1;go_wp2;go_meet;exact⟨_,_,k7,b7,_,D8⟩
  ·have GD:(y == 1)=QQ:=by simpa using hy
   go_wp2;go_meet;exact⟨_,m,k,QZ,g,ZA⟩
 case rest =>
 clear ZA O;obtain⟨q7,m,k,QZ,g,Q0⟩:=hcut;generalize wc=W7 at Q0 ⊢;go_wp2_with fail;have G:=ae (Q0.below br.drew la);refine wp_region_held_drew (S:=fun V=>V.cell? (T (sb+1) 0 Z)=N (Y (N (T b off Z)) (l+1) c)/\V.cell? (T bb 0 Z)=N (Y QZ m k)) (by as_aux_lemma=>kernel_rfl) ⟨G.d.acc.1,G.acc.1⟩ (fun X=>?_);have u:=ae X;clear X Q0;generalize W7.drew=W at G u ⊢
 iterate 2
  refine aV 0 (v:=?_) rfl rfl (by as_aux_lemma=>kernel_rfl) (fun _ _ _ h=>h) rfl ?_ u.out ?_;rotate_left
  ·(intro wz ZB;obtain⟨s0,s1⟩:=ZB;go_simp)
   (try with_reducible rfl)
  (try simp only[Act.put,nzL])
 have ka:=G.d.z0;have kb:=G.d.z1;have r0:W.cell? (T w.heap.size 0 Z)=N (Y Z 0 0):=by simp[World.cell?,ka]
 have r1:W.cell? (T (w.heap.size+1) 0 Z)=N (Y Z 0 0):=by simp[World.cell?,kb]
 have y0:W.frozen? (T w.heap.size 0 Z)=QQ:=by simp[World.frozen?,ka]
 have y1:W.frozen? (T (w.heap.size+1) 0 Z)=QQ:=by simp[World.frozen?,kb]
 have l0:=ai ka;have l1:=ai kb;clear ka kb;have F3:=ae (wW G.d GC GE G.qb);have hlo:=G.d.lo;have hlb:=G.lo;refine aD (i:=2) rfl (by as_aux_lemma=>kernel_rfl) (fun K o=>?_);go_simp;have HT:=ae (show _/\_ from⟨(cell_far W (T w.heap.size 0 Z) (T (sb+1) 0 Z) (Y (N (T b off Z)) (l+1) c) (by show w.heap.size≠sb+1;omega)).trans u.1,(cell_far W (T w.heap.size 0 Z) (T bb 0 Z) (Y (N (T b off Z)) (l+1) c) (by show w.heap.size≠bb;omega)).trans u.2⟩);refine o _ _ HT ?_;clear o K
 (try simp only[Act.put,nzL])
 refine aD (i:=3) rfl (by as_aux_lemma=>kernel_rfl) (fun K o=>?_);go_simp;refine o _ _ ⟨(cell_far _ (T (w.heap.size+1) 0 Z) (T (sb+1) 0 Z) (Y QZ m k) (by show w.heap.size+1≠sb+1;omega)).trans HT.1,(cell_far _ (T (w.heap.size+1) 0 Z) (T bb 0 Z) (Y QZ m k) (by show w.heap.size+1≠bb;omega)).trans HT.2⟩ ?_;clear o K
 (try simp only[Act.put,nzL])
 refine wpAnyH_done (by as_aux_lemma=>kernel_rfl) ?_ _;go_wp2;exact bp (v:=.tuple #[QV #[Y (N (T b off Z)) (l+1) c],QV #[Y QZ m k]]) (by simp[results,Tryz.results13,go_sem,r0,r1]) rfl F3
end Go.Proofs.YtamacmnikdejeaaGreatDoor.Vp
