import Derived.Test.YtamacmnikdejeaaGreatDoorQI
import Derived.Test.YtamacmnikdejeaaGreatDoorSA
import Derived.Test.YtamacmnikdejeaaGreatDoorRV
set_option maxRecDepth 100000
set_option maxHeartbeats 40000000
open Go.Addr renaming mk->N
open Go.Value renaming slice->Y,string->U,int->J,bool->QC,agg->QG
open Option renaming none->Z,some->T
open Go.Obj renaming cells->Q
open Go.IntKind renaming i64->I
open Go renaming World->G
open Bool renaming false->QB,true->QD
namespace Go.Proofs.YtamacmnikdejeaaGreatDoor.Vp
open RowKit Ca
theorem Dx:∃ i:TypeInfo,Tryz.prog.info? 129=T i/\i.zero=T (QG #[U ⟨#[]⟩,QC QB,QC QB,J I 0])/\i.size=4/\i.bytes=32:=IL nI
theorem jq {w:G}{base size n:Nat}{e:TypeId}{cs:Array Value}(hb:base<=w.heap.size)(f:n<=maxLen)(b:cs.size=n*size):(w.alloc (Q cs e)).ownsRow base e size (Y (T (N w.heap.size 0 Z)) n n) n cs.toList :=
 ⟨by simpa using b,.inr ⟨w.heap.size,n,cs,rfl,hb,eT w _,j6 _,f,b,by rw[I8];simp[b]⟩⟩
theorem zj (f:Nat->Link){n m:Nat}(h:m<=n):(bV f n).take (m*4)=bV f m:=by
 refine LG fun j=>?_;rw[NO];have hn:=gV f n;have hm:=gV f m;by_cases b:j<m*4
 ·have e:j=j / 4*4+j % 4:=by omega
  rw[gM b,e,i8 f (by omega) _ (LH _ (by omega)),i8 f (by omega) _ (LH _ (by omega))]
 ·rw[cM b,I6 (by omega)]
theorem Bn {w:G}{b g n m c:Nat}{f:Nat->Link}(h:w.ownsRow b 129 4 (Y (T (N g 0 Z)) n c) n (bV f n))(l:m<=n):w.ownsRow b 129 4 (Y (T (N g 0 Z)) m c) m (bV f m):=by
 refine⟨gV f m,?_⟩;rcases h.2 with ⟨i,_⟩ | ⟨g',cap,j,i,hb,r,hc,p,o,q⟩
 ·cases i
 ·cases i
  refine .inr ⟨g,c,j,rfl,hb,r,by omega,p,o,?_⟩;rw[<-zj f l,<-q,List.take_take,JT (by omega)]
theorem tU (f:Nat->Link)(n:Nat)(y:Link):bV f n++dE y=bV (fun i=>if i=n then y else f i) (n+1):=by
 unfold bV;rw[JA,HJ,EQ];congr 1
 ·congr 1
  refine List.map_congr_left fun i hi=>?_;have:=HU.1 hi;rw[cM (by omega)]
 ·simp
theorem tV {w:G}{b:Nat}{l f i g:Int}{t:TypeId}{fz:Nat × Nat}(h:w.heap[b]?=T (Q #[J I l,J I f,J I i,J I g] t fz))(k:Nat)(m:k<4):∃ z,w.cell? (N b k Z)=T (J I z):=by
 match k,m with
 | 0,_=>exact⟨l,by simp[World.cell?,h]⟩
 | 1,_=>exact⟨f,by simp[World.cell?,h]⟩
 | 2,_=>exact⟨i,by simp[World.cell?,h]⟩
 | 3,_=>exact⟨g,by simp[World.cell?,h]⟩
 | j+4,h5=>exact absurd h5 (by omega)
def mF (W:G)(b:Nat):Nat:=match W.cell? (N b 5 Z) with
 | some (Y _ n _)=>n
 | _=>0
theorem LBx.len {W:G}{b n c:Nat}{f g i j l:Value}{a:Option Addr}(h:LBx W b f g i j l (Y a n c)):mF W b=n:=by unfold mF;rw[h.cells.2.2.2.2.2]
theorem pz (QN:Nat)(hNN:200<=QN/\QN<=299)(w0:G)(R p r g c n:Nat)(f:Nat->Link)(nm tx:ByteArray)(kd D:Int)(B:Option Addr)(C c4:Nat)(w:G)(hO:Only R w0 w)(hR:R<w0.heap.size)(hb:w0.heap.size<=r)(hbw:r<=w.heap.size)(hr:Rd w R p)(hp:p<=50000)(Bk:w.ownsRow r 129 4 (Y (T (N g 0 Z)) n c) n (bV f n))(hn:n<=QN)(Fa:∀ j,j<n->(f j).name.size<=5000):Calls Tryz.prog 79 #[.pointer (T (N R 0 Z)),QG #[U nm,J I kd,J I D,U tx,Y B C c4,Y (T (N g 0 Z)) n c]] w fun e w'=>DL QN w0 w R r g (U nm) (J I kd) (J I D) (U tx) (Y B C c4) (p+10) e w':=by
 have L0:=ae (Du (v0:=U nm) (v1:=J I kd) (v2:=J I D) (v3:=U tx) (v4:=Y B C c4) hO hR hb hbw hr Bk Fa);obtain⟨ur,hi,DQ,CD,DS⟩:=Dx;clear hO hR hb hbw hr Bk Fa;obtain⟨-,-,-,-,-,P⟩:=L0.bx.cells;have L:=L0.bx.lt;by_cases hz:n=0
 ·subst hz
  go_enter Tryz.func79,Tryz.ntmps79;go_wp2_with fail;generalize (w.alloc (Q #[U nm,J I kd,J I D,U tx,Y B C c4,Y (T (N g 0 Z)) 0 c] 46)).alloc (Q #[U ⟨#[]⟩,J I 0,J I 0,U ⟨#[]⟩,Y Z 0 0,Y Z 0 0] 46)=W0 at L0 P L ⊢;clear P L;refine(dN R _ _ L0.rd (by omega)).mono ?_;rintro e w1 ⟨ln,rfl,Fe,aq,la⟩;have L1:=ae (L0.only la aq);clear la aq L0;go_wp2_with fail;refine(av R _ 2 _ L1.rd (by omega) (by omega) (by omega)).mono ?_;rintro e E ⟨z,rfl,n6,sm,fd,ex⟩;have t:=ae (L1.only ex fd);clear ex fd L1;rcases(show z=0∨z=1 by omega) with rfl | rfl
  ·skip
   have A3:=(q9 E).alloc ly (Q #[U ln,QC QB,QC QD,J I 0] 129);have h2:=t.lt;have h3:=t.hbw;have O3:(E.alloc (Q #[U ln,QC QB,QC QD,J I 0] 129)).ownsRow r 129 4 (Y (T (N E.heap.size 0 Z)) 1 1) 1 (bV (fun _=>⟨ln,QB,QD,0⟩) 1):=jq (cs:=#[U ln,QC QB,QC QD,J I 0]) (by omega) (by unfold maxLen;omega) rfl;have l:=ae ((t.below A3).setB (lD _ _) O3 (.inr (by omega)) (fun j _=>by show ln.size<=5000;omega));obtain⟨-,-,-,-,-,P⟩:=t.bx.cells;have bz:=t.bx.fz 5;have L:=t.bx.lt;rw[World.setCell_alloc_past _ _ _ _ L] at l;clear A3 O3;go_upto_region 3 with fail;generalize (E.setCell (N w.heap.size 5 Z) (Y (T (N E.heap.size 0 Z)) 1 1)).alloc (Q #[U ln,QC QB,QC QD,J I 0] 129)=W3 at l ⊢;clear P bz L;obtain⟨b0,b1,b2,b3,b4,P⟩:=l.bx.cells;obtain⟨r0,r1,r2,r3,r4,r5⟩:=l.rs.cells;have z0:=l.rs.fz 0;have z1:=l.rs.fz 1;have z2:=l.rs.fz 2;have z3:=l.rs.fz 3;have z4:=l.rs.fz 4;have z5:=l.rs.fz 5;have L:=l.bx.lt;have lr:=l.rs.lt;have FN:=ae (l.fin (QN:=QN) (QM:=p+10) (by omega) (by omega) (U nm) (J I kd) (J I D) (U tx) (Y B C c4) (Y (T (N E.heap.size 0 Z)) 1 1));have FB:=ae (l.rs.six (U nm) (J I kd) (J I D) (U tx) (Y B C c4) (Y (T (N E.heap.size 0 Z)) 1 1));go_wp2;generalize (((((W3.setCell (N (w.heap.size+1) 0 Z) (U nm)).setCell (N (w.heap.size+1) 1 Z) (J I kd)).setCell (N (w.heap.size+1) 2 Z) (J I D)).setCell (N (w.heap.size+1) 3 Z) (U tx)).setCell (N (w.heap.size+1) 4 Z) (Y B C c4)).setCell (N (w.heap.size+1) 5 Z) (Y (T (N E.heap.size 0 Z)) 1 1)=V at FN FB ⊢;obtain⟨x0,x1,x2,x3,x4,x5⟩:=FB.cells;exact bp (v:=QG #[U nm,J I kd,J I D,U tx,Y B C c4,Y (T (N E.heap.size 0 Z)) 1 1]) (by simp[results,Tryz.results79,go_sem,x0,x1,x2,x3,x4,x5]) rfl FN.out
  ·skip
   have A3:=(q9 E).alloc ly (Q #[U ln,QC QB,QC QB,J I 0] 129);have h2:=t.lt;have h3:=t.hbw;have O3:(E.alloc (Q #[U ln,QC QB,QC QB,J I 0] 129)).ownsRow r 129 4 (Y (T (N E.heap.size 0 Z)) 1 1) 1 (bV (fun _=>⟨ln,QB,QB,0⟩) 1):=jq (cs:=#[U ln,QC QB,QC QB,J I 0]) (by omega) (by unfold maxLen;omega) rfl;have l:=ae ((t.below A3).setB (lD _ _) O3 (.inr (by omega)) (fun j _=>by show ln.size<=5000;omega));obtain⟨-,-,-,-,-,P⟩:=t.bx.cells;have bz:=t.bx.fz 5;have L:=t.bx.lt;rw[World.setCell_alloc_past _ _ _ _ L] at l;clear A3 O3;go_upto_region 3 with fail;generalize (E.setCell (N w.heap.size 5 Z) (Y (T (N E.heap.size 0 Z)) 1 1)).alloc (Q #[U ln,QC QB,QC QB,J I 0] 129)=W3 at l ⊢;clear P bz L;obtain⟨b0,b1,b2,b3,b4,P⟩:=l.bx.cells;obtain⟨r0,r1,r2,r3,r4,r5⟩:=l.rs.cells;have z0:=l.rs.fz 0;have z1:=l.rs.fz 1;have z2:=l.rs.fz 2;have z3:=l.rs.fz 3;have z4:=l.rs.fz 4;have z5:=l.rs.fz 5;have L:=l.bx.lt;have lr:=l.rs.lt;have FN:=ae (l.fin (QN:=QN) (QM:=p+10) (by omega) (by omega) (U nm) (J I kd) (J I D) (U tx) (Y B C c4) (Y (T (N E.heap.size 0 Z)) 1 1));have FB:=ae (l.rs.six (U nm) (J I kd) (J I D) (U tx) (Y B C c4) (Y (T (N E.heap.size 0 Z)) 1 1));go_wp2;generalize (((((W3.setCell (N (w.heap.size+1) 0 Z) (U nm)).setCell (N (w.heap.size+1) 1 Z) (J I kd)).setCell (N (w.heap.size+1) 2 Z) (J I D)).setCell (N (w.heap.size+1) 3 Z) (U tx)).setCell (N (w.heap.size+1) 4 Z) (Y B C c4)).setCell (N (w.heap.size+1) 5 Z) (Y (T (N E.heap.size 0 Z)) 1 1)=V at FN FB ⊢;obtain⟨x0,x1,x2,x3,x4,x5⟩:=FB.cells;exact bp (v:=QG #[U nm,J I kd,J I D,U tx,Y B C c4,Y (T (N E.heap.size 0 Z)) 1 1]) (by simp[results,Tryz.results79,go_sem,x0,x1,x2,x3,x4,x5]) rfl FN.out
 have nz:¬ ((n:Int)=0):=by omega
 go_enter Tryz.func79,Tryz.ntmps79;go_wp2_with fail;generalize (w.alloc (Q #[U nm,J I kd,J I D,U tx,Y B C c4,Y (T (N g 0 Z)) n c] 46)).alloc (Q #[U ⟨#[]⟩,J I 0,J I 0,U ⟨#[]⟩,Y Z 0 0,Y Z 0 0] 46)=W0 at L0 P L ⊢;refine(av R _ (n:Int) _ L0.rd (by omega) (by omega) (by omega)).mono ?_;rintro e w1 ⟨z,rfl,n6,sm,aq,la⟩;obtain⟨k,rfl⟩:=nX n6;have QR:k<n:=by omega
 have L1:=ae (L0.only la aq);clear la aq L0 P L n6 sm;go_wp2_with fail;refine(av R _ 7 _ L1.rd (by omega) (by omega) (by omega)).mono ?_;rintro e E ⟨s,rfl,hs0,hs1,fd,ex⟩;have t:=ae (L1.only ex fd);clear ex fd L1;have hn1:=t.nm k QR;have SB:Hid (∀ V:G,LBx V w.heap.size (U nm) (J I kd) (J I D) (U tx) (Y B C c4) (Y (T (N g 0 Z)) n c)->V.cell? (N w.heap.size 5 Z)=T (Y (T (N g 0 Z)) n c)):=fun V h=>h.cells.2.2.2.2.2;go_upto_block 0 with fail;go_cut [] (fun wx=>∃ (q' W QP QJ:Nat) (f':Nat->Link),q'<=p+10/\QP<=QN+1/\Hid (LStD w0 w R r g (U nm) (J I kd) (J I D) (U tx) (Y B C c4) wx q' W QP QJ f'));case rest =>clear t SB hn1;obtain⟨q',W,QP,QJ,f',hq',Fd,q⟩:=hcut;go_upto_region 21 with fail;obtain⟨b0,b1,b2,b3,b4,P⟩:=q.bx.cells;obtain⟨r0,r1,r2,r3,r4,r5⟩:=q.rs.cells;have z0:=q.rs.fz 0;have z1:=q.rs.fz 1;have z2:=q.rs.fz 2;have z3:=q.rs.fz 3;have z4:=q.rs.fz 4;have z5:=q.rs.fz 5;have L:=q.bx.lt;have lr:=q.rs.lt;have FN:=ae (q.fin (QN:=QN) (QM:=p+10) (by omega) (by omega) (U nm) (J I kd) (J I D) (U tx) (Y B C c4) (Y (T (N W 0 Z)) QP QJ));have FB:=ae (q.rs.six (U nm) (J I kd) (J I D) (U tx) (Y B C c4) (Y (T (N W 0 Z)) QP QJ));go_wp2;generalize (((((wc.setCell (N (w.heap.size+1) 0 Z) (U nm)).setCell (N (w.heap.size+1) 1 Z) (J I kd)).setCell (N (w.heap.size+1) 2 Z) (J I D)).setCell (N (w.heap.size+1) 3 Z) (U tx)).setCell (N (w.heap.size+1) 4 Z) (Y B C c4)).setCell (N (w.heap.size+1) 5 Z) (Y (T (N W 0 Z)) QP QJ)=V at FN FB ⊢;obtain⟨x0,x1,x2,x3,x4,x5⟩:=FB.cells;exact bp (v:=QG #[U nm,J I kd,J I D,U tx,Y B C c4,Y (T (N W 0 Z)) QP QJ]) (by simp[results,Tryz.results79,go_sem,x0,x1,x2,x3,x4,x5]) rfl FN.out
 rcases(show s=0∨s=1∨s=2∨s=3∨s=4∨s=5∨s=6 by omega) with rfl | rfl | rfl | rfl | rfl | rfl | rfl
 ·go_wp2_with fail
  refine aD (fun V=>V.cell? (N w.heap.size 5 Z)=T (Y (T (N g 0 Z)) n c)) 7 (by as_aux_lemma=>kernel_rfl) ?_;have l:=ae (t.below br.drew);clear t;generalize E.drew=x at l ⊢;have o:=ae (SB x l.bx)
  iterate 4
   refine aL 0 (v:=?_) rfl rfl (by as_aux_lemma=>kernel_rfl) (fun _ _ _ h=>h) rfl ?_ o ?_;rotate_left
   ·(intro wz s0;go_simp)
    (try with_reducible rfl)
   (try simp only[Act.put,nzL])
  refine af (i:=4) rfl (by as_aux_lemma=>kernel_rfl) (fun K b=>?_);go_simp;go_at_call 60;refine(dN R _ _ l.rd (by omega)).mono ?_;rintro e QO ⟨ln,rfl,Fe,QK,QL⟩;have q:=ae (l.only QL QK);clear QL QK l o;have o:=ae (SB QO q.bx);refine b _ _ (fun _=>o) ?_;clear b K
  (try simp only[Act.put,nzL])
  refine af (i:=5) rfl (by as_aux_lemma=>kernel_rfl) (fun K b=>?_);go_simp;refine b _ _ (fun _=>o) ?_;clear b K
  (try simp only[Act.put,nzL])
  refine af (i:=6) rfl (by as_aux_lemma=>kernel_rfl) (fun K b=>?_);go_simp;refine b _ _ (fun _=>o) ?_;clear b K
  (try simp only[Act.put,nzL])
  obtain⟨M,d1⟩:=cD (j:=0) q.own QR (by omega) rfl;rw[I9] at M d1;have gl:=q.gne.2.2.2;have A:Hid (LStD w0 w R r g (U nm) (J I kd) (J I D) (U tx) (Y B C c4) (QO.setCell (N g (k*4) Z) (U ln)) _ g n c _):=q.setL (j:=0) (y:={ f k with name:=ln }) (u:=U ln) QR (by omega) rfl (by show ln.size<=5000;omega);refine af (i:=7) rfl (by as_aux_lemma=>kernel_rfl) (fun K b=>?_);go_simp;refine b _ _ (fun h=>absurd rfl h) ?_;clear b K o
  (try simp only[Act.put,nzL])
  refine aM (by as_aux_lemma=>kernel_rfl) ?_ _;clear M d1 gl q;go_wp2;go_meet;exact⟨_,_,_,_,_,by omega,by omega,A⟩
 ·skip
  go_wp2_with fail;refine aD (fun V=>V.cell? (N w.heap.size 5 Z)=T (Y (T (N g 0 Z)) n c)/\V.cell? (N g (k*4+1) Z)=T (QC (f k).ask)) 12 (by as_aux_lemma=>kernel_rfl) ?_;have l:=ae (t.below br.drew);clear t;generalize E.drew=x at l ⊢;obtain⟨M,d1⟩:=cD (j:=1) l.own QR (by omega) rfl;have o:Hid (x.cell? (N w.heap.size 5 Z)=T (Y (T (N g 0 Z)) n c)/\x.cell? (N g (k*4+1) Z)=T (QC (f k).ask)):=⟨SB x l.bx,M⟩
  clear M
  iterate 10
   refine aL 0 (v:=?_) rfl rfl (by as_aux_lemma=>kernel_rfl) (fun _ _ _ h=>h) rfl ?_ o ?_;rotate_left
   ·(intro wz QH;obtain⟨s0,s1⟩:=QH;go_simp)
    (try with_reducible rfl)
   (try simp only[Act.put,nzL])
  refine af (i:=10) rfl (by as_aux_lemma=>kernel_rfl) (fun K b=>?_);go_simp;refine b _ _ (fun _=>o) ?_;clear b K
  (try simp only[Act.put,nzL])
  refine af (i:=11) rfl (by as_aux_lemma=>kernel_rfl) (fun K b=>?_);go_simp;refine b _ _ (fun _=>o) ?_;clear b K
  (try simp only[Act.put,nzL])
  have M:=o.2;have gl:=l.gne.2.2.2;have A:Hid (LStD w0 w R r g (U nm) (J I kd) (J I D) (U tx) (Y B C c4) (x.setCell (N g (k*4+1) Z) (QC (!(f k).ask))) _ g n c _):=l.setL (j:=1) (y:={ f k with ask:=!(f k).ask }) (u:=QC (!(f k).ask)) QR (by omega) rfl hn1;refine af (i:=12) rfl (by as_aux_lemma=>kernel_rfl) (fun K b=>?_);go_simp;refine b _ _ (fun h=>absurd rfl h) ?_;clear b K o
  (try simp only[Act.put,nzL])
  refine aM (by as_aux_lemma=>kernel_rfl) ?_ _;clear M d1 gl l;go_wp2;go_meet;exact⟨_,_,_,_,_,by omega,by omega,A⟩
 ·skip
  go_wp2_with fail;refine aD (fun V=>V.cell? (N w.heap.size 5 Z)=T (Y (T (N g 0 Z)) n c)/\V.cell? (N g (k*4+2) Z)=T (QC (f k).has)) 12 (by as_aux_lemma=>kernel_rfl) ?_;have l:=ae (t.below br.drew);clear t;generalize E.drew=x at l ⊢;obtain⟨M,d1⟩:=cD (j:=2) l.own QR (by omega) rfl;have o:Hid (x.cell? (N w.heap.size 5 Z)=T (Y (T (N g 0 Z)) n c)/\x.cell? (N g (k*4+2) Z)=T (QC (f k).has)):=⟨SB x l.bx,M⟩
  clear M
  iterate 10
   refine aL 0 (v:=?_) rfl rfl (by as_aux_lemma=>kernel_rfl) (fun _ _ _ h=>h) rfl ?_ o ?_;rotate_left
   ·(intro wz QH;obtain⟨s0,s1⟩:=QH;go_simp)
    (try with_reducible rfl)
   (try simp only[Act.put,nzL])
  refine af (i:=10) rfl (by as_aux_lemma=>kernel_rfl) (fun K b=>?_);go_simp;refine b _ _ (fun _=>o) ?_;clear b K
  (try simp only[Act.put,nzL])
  refine af (i:=11) rfl (by as_aux_lemma=>kernel_rfl) (fun K b=>?_);go_simp;refine b _ _ (fun _=>o) ?_;clear b K
  (try simp only[Act.put,nzL])
  have M:=o.2;have gl:=l.gne.2.2.2;have A:Hid (LStD w0 w R r g (U nm) (J I kd) (J I D) (U tx) (Y B C c4) (x.setCell (N g (k*4+2) Z) (QC (!(f k).has))) _ g n c _):=l.setL (j:=2) (y:={ f k with has:=!(f k).has }) (u:=QC (!(f k).has)) QR (by omega) rfl hn1;refine af (i:=12) rfl (by as_aux_lemma=>kernel_rfl) (fun K b=>?_);go_simp;refine b _ _ (fun h=>absurd rfl h) ?_;clear b K o
  (try simp only[Act.put,nzL])
  refine aM (by as_aux_lemma=>kernel_rfl) ?_ _;clear M d1 gl l;go_wp2;go_meet;exact⟨_,_,_,_,_,by omega,by omega,A⟩
 ·go_wp2_with fail
  refine aD (fun V=>V.cell? (N w.heap.size 5 Z)=T (Y (T (N g 0 Z)) n c)/\V.cell? (N g (k*4+3) Z)=T (J I (f k).at_)) 17 (by as_aux_lemma=>kernel_rfl) ?_;have l:=ae (t.below br.drew);clear t;generalize E.drew=x at l ⊢;have o:Hid (x.cell? (N w.heap.size 5 Z)=T (Y (T (N g 0 Z)) n c)/\x.cell? (N g (k*4+3) Z)=T (J I (f k).at_)):=⟨SB x l.bx,(cD (j:=3) l.own QR (by omega) rfl).1⟩
  iterate 10
   refine aL 0 (v:=?_) rfl rfl (by as_aux_lemma=>kernel_rfl) (fun _ _ _ h=>h) rfl ?_ o ?_;rotate_left
   ·(intro wz QH;obtain⟨s0,s1⟩:=QH;go_simp)
    (try with_reducible rfl)
   (try simp only[Act.put,nzL])
  refine aL 11 (v:=?_) rfl rfl (by as_aux_lemma=>kernel_rfl) (fun _ _ _ h=>h) rfl ?_ o ?_;rotate_left
  ·(intro wz QH;obtain⟨s0,s1⟩:=QH;go_simp)
   (try with_reducible rfl)
  (try simp only[Act.put,nzL])
  generalize IntKind.i64.wrap ((f k).at_+1)=ax;refine nH (i:=10) (j:=12) rfl rfl (by as_aux_lemma=>kernel_rfl) (fun K b=>?_) (fun K b=>?_)
  ·skip
   go_simp;have A4:=(q9 x).alloc ly (Q #[J I (-1),J I 0,J I ax,J I 400] 3);have X:Hid ((x.alloc (Q #[J I (-1),J I 0,J I ax,J I 400] 3)).heap[x.heap.size]?=T (Q #[J I (-1),J I 0,J I ax,J I 400] 3 (0,0))):=eT x _;have q:=ae (l.below A4);have n8:=l.lt;have n7:=l.hbw;have qr:=l.hR;have ro:=l.hb;have mv:x.heap.size≠R:=by omega
   clear A4 o n8 n7 qr ro;generalize x.alloc (Q #[J I (-1),J I 0,J I ax,J I 400] 3)=QO at q X ⊢;generalize x.heap.size=DE at X mv ⊢;have o:Hid (QO.cell? (N w.heap.size 5 Z)=T (Y (T (N g 0 Z)) n c)/\QO.cell? (N g (k*4+3) Z)=T (J I (f k).at_)):=⟨SB QO q.bx,(cD (j:=3) q.own QR (by omega) rfl).1⟩
   refine b _ _ (fun _=>o) ?_;clear b K
   (try simp only[Act.put,nzL])
   refine af (i:=12) rfl (by as_aux_lemma=>kernel_rfl) (fun K b=>?_);go_simp;go_at_call 33;refine(av R _ 4 _ q.rd (by omega) (by omega) (by omega)).mono ?_;rintro e S ⟨z4,rfl,ld,Fc,QK,QL⟩;obtain⟨m,rfl⟩:=nX ld;have hm:m<4:=by omega
   have A:=ae (q.only QL QK);have X:=ae ((QL.block DE (ai X) mv).trans X);clear QL QK q o;have o:Hid (S.cell? (N w.heap.size 5 Z)=T (Y (T (N g 0 Z)) n c)/\S.cell? (N g (k*4+3) Z)=T (J I (f k).at_)):=⟨SB S A.bx,(cD (j:=3) A.own QR (by omega) rfl).1⟩
   refine b _ _ (fun _=>o) ?_;clear b K
   (try simp only[Act.put,nzL])
   obtain⟨zz,ph⟩:=tV X m hm;refine af (i:=13) rfl (by as_aux_lemma=>kernel_rfl) (fun K b=>?_);go_simp;refine b _ _ (fun _=>o) ?_;clear b K
   (try simp only[Act.put,nzL])
   refine af (i:=14) rfl (by as_aux_lemma=>kernel_rfl) (fun K b=>?_);go_simp;refine b _ _ (fun _=>o) ?_;clear b K
   (try simp only[Act.put,nzL])
   refine af (i:=15) rfl (by as_aux_lemma=>kernel_rfl) (fun K b=>?_);go_simp;refine b _ _ (fun _=>o) ?_;clear b K
   (try simp only[Act.put,nzL])
   refine af (i:=16) rfl (by as_aux_lemma=>kernel_rfl) (fun K b=>?_);go_simp;refine b _ _ (fun _=>o) ?_;clear b K
   (try simp only[Act.put,nzL])
   have M:=o.2;have d1:=(cD (j:=3) A.own QR (by omega) rfl).2;have gl:=A.gne.2.2.2;have L7:Hid (LStD w0 w R r g (U nm) (J I kd) (J I D) (U tx) (Y B C c4) (S.setCell (N g (k*4+3) Z) (J I zz)) _ g n c _):=A.setL (j:=3) (y:={ f k with at_:=zz }) (u:=J I zz) QR (by omega) rfl hn1;refine af (i:=17) rfl (by as_aux_lemma=>kernel_rfl) (fun K b=>?_);go_simp;refine b _ _ (fun h=>absurd rfl h) ?_;clear b K o
   (try simp only[Act.put,nzL])
   refine aM (by as_aux_lemma=>kernel_rfl) ?_ _;clear M d1 gl A ph X;go_wp2;go_meet;exact⟨_,_,_,_,_,by omega,by omega,L7⟩
  ·skip
   go_simp;go_at_call 33;refine(av R _ 4 _ l.rd (by omega) (by omega) (by omega)).mono ?_;rintro e QO ⟨z4,rfl,ld,Fc,QK,QL⟩;obtain⟨m,rfl⟩:=nX ld;have hm:m<4:=by omega
   have q:=ae (l.only QL QK);clear QL QK l o;have o:Hid (QO.cell? (N w.heap.size 5 Z)=T (Y (T (N g 0 Z)) n c)/\QO.cell? (N g (k*4+3) Z)=T (J I (f k).at_)):=⟨SB QO q.bx,(cD (j:=3) q.own QR (by omega) rfl).1⟩
   refine b _ _ (fun _=>o) ?_;clear b K
   (try simp only[Act.put,nzL])
   refine af (i:=10) rfl (by as_aux_lemma=>kernel_rfl) (fun K b=>?_);go_simp;have A4:=(q9 QO).alloc ly (Q #[J I (-1),J I 0,J I ax,J I 400] 3);have X:Hid ((QO.alloc (Q #[J I (-1),J I 0,J I ax,J I 400] 3)).heap[QO.heap.size]?=T (Q #[J I (-1),J I 0,J I ax,J I 400] 3 (0,0))):=eT QO _;have A:=ae (q.below A4);have n8:=q.lt;have n7:=q.hbw;have qr:=q.hR;have ro:=q.hb;have mv:QO.heap.size≠R:=by omega
   clear A4 o n8 n7 qr ro;generalize QO.alloc (Q #[J I (-1),J I 0,J I ax,J I 400] 3)=S at A X ⊢;generalize QO.heap.size=DE at X mv ⊢;have o:Hid (S.cell? (N w.heap.size 5 Z)=T (Y (T (N g 0 Z)) n c)/\S.cell? (N g (k*4+3) Z)=T (J I (f k).at_)):=⟨SB S A.bx,(cD (j:=3) A.own QR (by omega) rfl).1⟩
   refine b _ _ (fun _=>o) ?_;clear b K
   (try simp only[Act.put,nzL])
   obtain⟨zz,ph⟩:=tV X m hm;refine af (i:=13) rfl (by as_aux_lemma=>kernel_rfl) (fun K b=>?_);go_simp;refine b _ _ (fun _=>o) ?_;clear b K
   (try simp only[Act.put,nzL])
   refine af (i:=14) rfl (by as_aux_lemma=>kernel_rfl) (fun K b=>?_);go_simp;refine b _ _ (fun _=>o) ?_;clear b K
   (try simp only[Act.put,nzL])
   refine af (i:=15) rfl (by as_aux_lemma=>kernel_rfl) (fun K b=>?_);go_simp;refine b _ _ (fun _=>o) ?_;clear b K
   (try simp only[Act.put,nzL])
   refine af (i:=16) rfl (by as_aux_lemma=>kernel_rfl) (fun K b=>?_);go_simp;refine b _ _ (fun _=>o) ?_;clear b K
   (try simp only[Act.put,nzL])
   have M:=o.2;have d1:=(cD (j:=3) A.own QR (by omega) rfl).2;have gl:=A.gne.2.2.2;have L7:Hid (LStD w0 w R r g (U nm) (J I kd) (J I D) (U tx) (Y B C c4) (S.setCell (N g (k*4+3) Z) (J I zz)) _ g n c _):=A.setL (j:=3) (y:={ f k with at_:=zz }) (u:=J I zz) QR (by omega) rfl hn1;refine af (i:=17) rfl (by as_aux_lemma=>kernel_rfl) (fun K b=>?_);go_simp;refine b _ _ (fun h=>absurd rfl h) ?_;clear b K o
   (try simp only[Act.put,nzL])
   refine aM (by as_aux_lemma=>kernel_rfl) ?_ _;clear M d1 gl A ph X;go_wp2;go_meet;exact⟨_,_,_,_,_,by omega,by omega,L7⟩
 ·obtain⟨m,rfl⟩:∃ m,n=m+1:=⟨n - 1,by omega⟩
  have hcap:=jp t.own;obtain⟨-,-,-,-,-,P⟩:=t.bx.cells;have bz:=t.bx.fz 5;have L:=t.bx.lt;have l:=ae (t.setB (lD _ _) (Bn t.own (CV m)) (.inl rfl) (fun j hj=>t.nm j (by omega)));have hw:IntKind.i64.wrap (((m+1:Nat):Int) - 1)=(m:Int):=by rw[kP];omega
  go_wp2;go_meet;exact⟨_,_,_,_,_,by omega,by omega,l⟩
 ·go_wp2_with fail
  refine aD (fun V=>V.cell? (N w.heap.size 5 Z)=T (Y (T (N g 0 Z)) n c)) 10 (by as_aux_lemma=>kernel_rfl) ?_;have l:=ae (t.below br.drew);clear t;generalize E.drew=x at l ⊢;have o:=ae (SB x l.bx)
  iterate 6
   refine aL 0 (v:=?_) rfl rfl (by as_aux_lemma=>kernel_rfl) (fun _ _ _ h=>h) rfl ?_ o ?_;rotate_left
   ·(intro wz s0;go_simp)
    (try with_reducible rfl)
   (try simp only[Act.put,nzL])
  have e0:=(cD (j:=0) l.own QR (by omega) rfl).1;have e1:=(cD (j:=1) l.own QR (by omega) rfl).1;have e2:=(cD (j:=2) l.own QR (by omega) rfl).1;have e3:=(cD (j:=3) l.own QR (by omega) rfl).1;rw[I9] at e0;refine af (i:=6) rfl (by as_aux_lemma=>kernel_rfl) (fun K b=>?_);go_simp;refine b _ _ (fun _=>o) ?_;clear b K
  (try simp only[Act.put,nzL])
  clear e0 e1 e2 e3;refine af (i:=7) rfl (by as_aux_lemma=>kernel_rfl) (fun K b=>?_);go_simp;have A4:=(q9 x).alloc ly (Q #[U (f k).name,QC (f k).ask,QC (f k).has,J I (f k).at_] 129);have q:=ae (l.below A4);have HN:Hid (∀ j u,(dE (f k))[j]?=T u->(x.alloc (Q #[U (f k).name,QC (f k).ask,QC (f k).has,J I (f k).at_] 129)).cell? (((N x.heap.size 0 Z):Addr).add j)=T u):=(jq (base:=0) (e:=129) (size:=4) (n:=1) (cs:=#[U (f k).name,QC (f k).ask,QC (f k).has,J I (f k).at_]) (DN _) (by unfold maxLen;omega) rfl).cells rfl;have hl3:=l.lt;have hl3':=l.hbw;have hz3:(x.alloc (Q #[U (f k).name,QC (f k).ask,QC (f k).has,J I (f k).at_] 129)).heap.size=x.heap.size+1:=by simp
  clear A4 o;have o:=ae (SB _ q.bx);refine b _ _ (fun _=>o) ?_;clear b K
  (try simp only[Act.put,nzL])
  refine af (i:=8) rfl (by as_aux_lemma=>kernel_rfl) (fun K b=>?_);refine step_append_lies _ rfl (.tmp 110) (.tmp 116) 44 rfl r 129 ur (QG #[U ⟨#[]⟩,QC QB,QC QB,J I 0]) 4 32 Tryz.underlying44 hi DQ CD DS rfl (by decide) (Y (T (N g 0 Z)) n c) n (bV f n) (by simp[Act.eval]) q.own (N x.heap.size 0 Z) 1 1 (dE (f k)) (by simp[Act.eval]) rfl HN.out (by simp[dE,Value.oneCell']) (by omega) (by unfold maxLen;omega) (by omega) (by omega) _ rfl ?_;intro g5 c5 S O H bt th;rw[tU f n (f k)] at O;have G5:=ae H;have O5:=ae O;have n9:g5=g∨w.heap.size<=g5:=by
   rcases bt with h | h
   ·exact .inl (by simpa[Value.ownBlock] using h.symm)
   ·exact .inr (by omega)
  have BX:Hid (LBx S w.heap.size (U nm) (J I kd) (J I D) (U tx) (Y B C c4) (Y (T (N g 0 Z)) n c)):=q.bx.blk (H.block _ q.bx.lt (fun e=>q.gne.1 (by simpa[Value.ownBlock] using e.symm)));clear O H bt th HN o;have o:=ae (SB S BX);refine b _ _ (fun _=>o) ?_;clear b K
  (try simp only[Act.put,nzL])
  refine af (i:=9) rfl (by as_aux_lemma=>kernel_rfl) (fun K b=>?_);go_simp;refine b _ _ (fun _=>o) ?_;clear b K
  (try simp only[Act.put,nzL])
  have L6:=ae (q.setB G5 O5 n9 (fun j hj=>by show(if j=n then f k else f j).name.size<=5000;split;exact hn1;exact q.nm j (by omega)));obtain⟨-,-,-,-,-,P⟩:=BX.cells;have bz:=BX.fz 5;have L:=BX.lt;refine af (i:=10) rfl (by as_aux_lemma=>kernel_rfl) (fun K b=>?_);go_simp;refine b _ _ (fun h=>absurd rfl h) ?_;clear b K o
  (try simp only[Act.put,nzL])
  refine aM (by as_aux_lemma=>kernel_rfl) ?_ _;clear P bz L BX G5 O5 q;go_wp2;go_meet;exact⟨_,_,_,_,_,by omega,by omega,L6⟩
 ·go_wp2_with fail
  refine(av R _ 2 _ t.rd (by omega) (by omega) (by omega)).mono ?_;rintro e w3 ⟨z,rfl,n6,sm,At,E9⟩;have l:=ae (t.only E9 At);clear E9 At t hn1 SB QR;have hw:IntKind.i64.wrap (200+z)=200+z:=by rw[kP];omega
  go_wp2_with fail;go_loopw [] (fun wr=>∃ (W QP QJ:Nat) (f':Nat->Link),QP<=QN+1/\Hid (LStD w0 w R r g (U nm) (J I kd) (J I D) (U tx) (Y B C c4) wr (p+1+1+1) W QP QJ f')) (fun wr=>300 - mF wr w.heap.size);case atStart=>exact⟨g,n,c,f,by omega,l⟩
  case round =>
   obtain⟨W,QP,QJ,f',Fd,q⟩:=hrel;obtain⟨-,-,-,-,-,P⟩:=q.bx.cells;have L:=q.bx.lt;have n8:=q.lt;have n7:=q.hbw;clear l;by_cases th:(QP:Int)<200+z
   ·have A:=ae (q.below ((q9 wr).alloc ly (Q #[U ⟨#[97]⟩,QC QB,QC QD,J I 0] 129)))
    have HN:Hid (∀ j u,(dE ⟨⟨#[97]⟩,QB,QD,0⟩)[j]?=T u->(wr.alloc (Q #[U ⟨#[97]⟩,QC QB,QC QD,J I 0] 129)).cell? (((N wr.heap.size 0 Z):Addr).add j)=T u):=(jq (base:=0) (e:=129) (size:=4) (n:=1) (cs:=#[U ⟨#[97]⟩,QC QB,QC QD,J I 0]) (DN _) (by unfold maxLen;omega) rfl).cells rfl;have hz5:(wr.alloc (Q #[U ⟨#[97]⟩,QC QB,QC QD,J I 0] 129)).heap.size=wr.heap.size+1:=by simp
    go_wp2_with (at_builtin;refine wpList_append_lies _ rfl (.tmp 36) (.tmp 38) 44 rfl r 129 ur (QG #[U ⟨#[]⟩,QC QB,QC QB,J I 0]) 4 32 Tryz.underlying44 hi DQ CD DS rfl (by decide) (Y (T (N W 0 Z)) QP QJ) QP (bV f' QP) (by simp[Act.eval]) A.own (N wr.heap.size 0 Z) 1 1 (dE ⟨⟨#[97]⟩,QB,QD,0⟩) (by simp[Act.eval]) rfl HN.out (by simp[dE,Value.oneCell']) (by omega) (by unfold maxLen;omega) (by omega) (by omega) _ rfl ?_;intro g5 c5 S O H bt Fb;have BX:Hid (LBx S w.heap.size (U nm) (J I kd) (J I D) (U tx) (Y B C c4) (Y (T (N W 0 Z)) QP QJ)):=A.bx.blk (H.block _ A.bx.lt (fun e=>A.gne.1 (by simpa[Value.ownBlock] using e.symm)));rw[tU f' QP] at O;have n9:g5=W∨w.heap.size<=g5:=(by rcases bt with h | h;exact .inl (by simpa[Value.ownBlock] using h.symm);exact .inr (by omega));have L6:=ae (A.setB H O n9 (fun j hj=>(by show(if j=QP then (⟨⟨#[97]⟩,QB,QD,0⟩:Link) else f' j).name.size<=5000;split;exact(by decide);exact A.nm j (by omega))));obtain⟨-,-,-,-,-,q5⟩:=BX.cells;have qz:=BX.fz 5;have ql:=BX.lt;clear O H bt Fb n9);refine⟨⟨g5,QP+1,c5,_,by omega,L6⟩,?_⟩;have e1:=q.bx.len;have e2:=L6.bx.len;show 300 - mF _ _<300 - mF _ _;rw[e1,e2];omega
   ·skip
    go_wp2;go_meet;exact⟨_,_,_,_,_,by omega,by omega,q⟩
theorem tW {w:G}{b:Nat}{s0 s1 f g:ByteArray}{t:TypeId}{fz:Nat × Nat}(h:w.heap[b]?=T (Q #[U s0,U s1,U f,U g] t fz))(l:s0.size<=5000)(h1:s1.size<=5000)(h2:f.size<=5000)(m:g.size<=5000)(k:Nat)(i:k<4):∃ s:ByteArray,s.size<=5000/\w.cell? (N b k Z)=T (U s):=by
 match k,i with
 | 0,_=>exact⟨s0,l,by simp[World.cell?,h]⟩
 | 1,_=>exact⟨s1,h1,by simp[World.cell?,h]⟩
 | 2,_=>exact⟨f,h2,by simp[World.cell?,h]⟩
 | 3,_=>exact⟨g,m,by simp[World.cell?,h]⟩
 | j+4,h5=>exact absurd h5 (by omega)
theorem DP.up {w:G}{R q lo n m:Nat}{e:Ending}{w':G}(h:DP w R q lo n e w')(hn:n<=m):DP w R q lo m e w':=by obtain⟨L,g,c,h1,h2,i,b,f⟩:=h;exact⟨L,g,c,h1,h2,i,p9 b hn,f⟩
theorem zk {K:Nat}{W:G}{i R p f g:Nat}{r:DR}(h:DSub W i r)(q:r.2.1=Y (T (N f 0 Z)) r.1.actN g)(hR:Rd W R p)(l:p<=20000)(j:FitK K r.1)(hK:K<=80):Calls Tryz.prog 78 #[.pointer (T (N R 0 Z)),QG #[Y (T (N f 0 Z)) r.1.actN g]] W fun e s=>DP W R (p+1000) 0 (200+K+1) e s:=by
 by_cases m:r.1.actN=0
 ·rw[m]
  exact(uM R p f g W hR l).mono fun _ _ h=>h.up (by omega)
 ·obtain⟨a,cap,e,n⟩:=h.ins
  rw[q] at e;obtain⟨rfl,-,-⟩:=KI e;rcases n with h1 | ⟨b,off,t,o⟩
  ·exact absurd h1 m
  ·cases t
   exact mC (200+K) ⟨by omega,by omega⟩ R p f g r.1.actN r.1.act W hR l o ⟨by omega,j.an⟩ j.asz
theorem qZ (Fn:Ce)(K0 KK:Nat)(hK0:K0+1<=KK)(hKK:KK<=50)(R p:Nat)(a:Option Addr)(n cap:Nat)(f:Nat->ah)(w:G)(hf:SlDeed w a n f)(Fy:∀ i,i<n->FitK K0 (f i))(hn:n<=450+K0)(hR:Rd w R p)(hp:p<=19000):Calls Tryz.prog 34 #[.pointer (T (N R 0 Z)),QG #[Y a n cap]] w fun e w'=>DAK KK w R (p+1100) e w':=by
 have Hl:=ae Fn;clear Fn;have HF:=ae hf;have FD:=ae Fy;have HR:=ae hR;have FP:=hR.lt;clear hf Fy hR;have A0:=ae (((q9 w).alloc ly (Q #[Y a n cap] 25)).alloc (by simp) (Q #[Y Z 0 0] 25));have Fu:Hid (((w.alloc (Q #[Y a n cap] 25)).alloc (Q #[Y Z 0 0] 25)).heap[w.heap.size+1]?=T (Q #[Y Z 0 0] 25 (0,0))):=by have h:=eT (w.alloc (Q #[Y a n cap] 25)) (Q #[Y Z 0 0] 25);rw[show(w.alloc (Q #[Y a n cap] 25)).heap.size=w.heap.size+1 by simp] at h;exact h
 have bt:((w.alloc (Q #[Y a n cap] 25)).alloc (Q #[Y Z 0 0] 25)).heap.size=w.heap.size+2:=by simp
 go_enter Tryz.func34,Tryz.ntmps34;go_wp2_with fail;generalize (w.alloc (Q #[Y a n cap] 25)).alloc (Q #[Y Z 0 0] 25)=W0 at A0 Fu bt ⊢;refine(xY a n cap f _ (by omega) (HF.below A0 ly) (fun i hi=>((FD i hi).d (by omega)).fits)).mono ?_;rintro e w1 ⟨a1,c1,D,rfl,hD,Fb,Fx,DS⟩;have n6:=ae Fx;have FY:=ae hD.up;clear Fx;have hl:D.length=n:=by have:=BC List.length Fb;simpa using this
 have ro:Hid (∀ r∈D,FitK K0 r.1):=fun r hr=>by have hm:r.1∈D.map (·.1):=IW.2 ⟨r,hr,rfl⟩;rw[Fb] at hm;obtain⟨i,hi,e⟩:=IW.1 hm;rw[<-e];exact FD i (HU.1 hi)
 have Gl:=DS.size;have B2:=(q9 w1).alloc ly (Q #[Y a1 D.length c1] 25);have S1:Hid (SpS KK w R w1.heap.size (w1.alloc (Q #[Y a1 D.length c1] 25)) p a1 c1 D):=by have O1:Only R w w1:=(Only.of_below A0).trans (Only.of_below (DS.mono (by omega)));exact⟨((HR.below A0 ly).below DS (by omega)).below B2 ly,O1.trans (Only.of_below B2),(B2.block _ (by omega)).trans ((DS.block _ (by omega)).trans Fu),eT w1 _,((hD.rw.below B2 ly).mono (by omega)),fun r hr=>(ro r hr).up (by omega),FP,by omega,by omega⟩
 have hX:w.heap.size+2<=w1.heap.size:=by omega
 have hD9:D.length<=450+K0:=by omega
 clear hD DS B2 Gl bt A0 Fu HF FD HR Fb hl;go_upto_region 2 with fail;generalize w1.alloc (Q #[Y a1 D.length c1] 25)=W1 at S1 ⊢;generalize w1.heap.size=X at S1 hX ⊢;have bx:=S1.box.1;by_cases hz:D.length=0
 ·obtain rfl:D=[]:=L8.1 hz
  rw[GD] at bx;clear hz;go_wp2_with fail;refine(av R _ 2 _ S1.rd (by omega) (by omega) (by omega)).mono ?_;rintro e w2 ⟨x,rfl,x0,x1,qr,CD⟩;have QR:=ae (S1.only CD qr);clear CD qr S1 bx;go_wp2_with fail;refine(av R _ 3 _ QR.rd (by omega) (by omega) (by omega)).mono ?_;rintro e M ⟨y,rfl,y0,y1,At,th⟩;have A:=ae (QR.only th At);clear th At QR;obtain⟨m,hm⟩:∃ m:Nat,400*x+y=(m:Int):=⟨(400*x+y).toNat,by omega⟩
  have Hi:IntKind.i64.wrap (400*x)=400*x:=by rw[kP];omega
  have GI:m<=450:=by omega
  have hw2:IntKind.i64.wrap (m:Int)=(m:Int):=by rw[kP];omega
  have hmk:=fun w=>DJ m (by omega) w;have rs:=A.rs;have r0:M.cell? (N (w.heap.size+1) 0 Z)=T (Y Z 0 0):=by simp[World.cell?,rs]
  have f0:M.frozen? (N (w.heap.size+1) 0 Z)=QB:=by simp[World.frozen?,rs]
  have l0:=ai rs;have FN:=ae (yY (m:=m) (QM:=p+1100) A GI (by omega));clear rs;go_wp2;exact bp (v:=QG #[Y (T (N M.heap.size 0 Z)) m m]) (by simp[results,Tryz.results34,go_sem,r0,l0]) rfl FN.out
 obtain⟨g,Hd,e⟩:=dr S1.row.own (by omega);obtain⟨rfl,-,-⟩:=KI e;clear e Hd;have nz:¬ ((D.length:Int)=0):=by omega
 go_wp2_with fail;refine(av R _ (D.length:Int) _ S1.rd (by omega) (by omega) (by omega)).mono ?_;rintro e w2 ⟨z,rfl,bt,n9,qr,CD⟩;obtain⟨k,rfl⟩:=nX bt;have hk:k<D.length:=by omega
 have S0:=ae (S1.only CD qr);clear CD qr S1 bt n9 bx;obtain⟨r,hr,hm⟩:=cU hk;have L:=ae hr;have HM:=ae hm;clear hr hm;go_wp2_with fail;refine(av R _ 13 _ S0.rd (by omega) (by omega) (by omega)).mono ?_;rintro e M ⟨s,rfl,hs0,Gl,At,th⟩;have QR:=ae (S0.only th At);clear th At S0;have Fi:=ro r HM;have QJ:=Fi.up (show K0<=KK by omega);have htx:=Fi.tx;have GN:=Fi.ln;go_upto_block 0 with fail;go_cut [8,9,10,11,12] (fun _ _ _ _ _ wx=>∃ (a':Option Addr) (c' q':Nat) (D':List DR),q'<=p+1100/\Hid (SpS KK w R X wx q' a' c' D'));case first =>
  rcases(show s=0∨s=1∨s=2∨s=3∨s=4∨s=5∨(s=6∨s=7∨s=8)∨s=9∨s=10∨s=11∨s=12 by omega) with rfl | rfl | rfl | rfl | rfl | rfl | h6 | rfl | rfl | rfl | rfl
  ·as_aux_lemma =>
    obtain⟨r0,Gr,Fj⟩:=cU (R:=D) (i:=0) (by omega);have H0:=ae Gr;have F0:r0.1.name.size<=5000:=(ro r0 Fj).nm;clear Gr Fj;go_wp2_with fail;refine aD (fun V=>V.cell? (N X 0 Z)=T (Y (T (N g 0 Z)) D.length c1)/\V.cell? (N g 0 Z)=T (U r0.1.name)) 16 (by as_aux_lemma=>kernel_rfl) ?_;have A:=ae (QR.below br.drew);clear QR;generalize M.drew=E at A ⊢;have hD0:0<D.length:=by omega
    have B:Hid (E.cell? (N X 0 Z)=T (Y (T (N g 0 Z)) D.length c1)/\E.cell? (N g 0 Z)=T (U r0.1.name)):=⟨A.box.1,by have h:=(A.at_ (k:=0) (j:=0) H0 (by omega) rfl).1;simpa using h⟩
    iterate 8
     refine aL 0 (v:=?_) rfl rfl (by as_aux_lemma=>kernel_rfl) (fun _ _ _ h=>h) rfl ?_ B ?_;rotate_left
     ·(intro wz aq;obtain⟨s0,s1⟩:=aq;go_simp)
      (try with_reducible rfl)
     (try simp only[Act.put,nzL])
    refine aL 10 (v:=?_) rfl rfl (by as_aux_lemma=>kernel_rfl) (fun _ _ _ h=>h) rfl ?_ B ?_;rotate_left
    ·(intro wz aq;obtain⟨s0,s1⟩:=aq;go_simp)
     (try with_reducible rfl)
    (try simp only[Act.put,nzL])
    refine af (i:=8) rfl (by as_aux_lemma=>kernel_rfl) (fun K l=>?_);go_simp;go_at_call 63;obtain⟨m1,Fs⟩:∃ m1:Nat,(61:Int)=(m1:Int):=⟨61,rfl⟩
    rw[Fs];refine(eO ⟨#[110]⟩ m1 _ (by show 1*m1<=4000;omega) (by omega)).mono ?_;rintro e v6 ⟨t,rfl,ht,hw⟩;rw[hw];have Ff:t.size<=5000:=p9 ht (by show 1*m1<=5000;omega);clear ht hw;refine l _ _ (fun _=>B) ?_;clear l K
    (try simp only[Act.put,nzL])
    refine nH (i:=9) (j:=11) rfl rfl (by as_aux_lemma=>kernel_rfl) (fun K l=>?_) (fun K l=>?_)
    ·skip
     go_simp;have A4:=(q9 E).alloc ly (Q #[U ⟨#[]⟩,U ⟨#[120,32,121]⟩,U r0.1.name,U t] 9);have HL:Hid ((E.alloc (Q #[U ⟨#[]⟩,U ⟨#[120,32,121]⟩,U r0.1.name,U t] 9)).heap[E.heap.size]?=T (Q #[U ⟨#[]⟩,U ⟨#[120,32,121]⟩,U r0.1.name,U t] 9 (0,0))):=eT E _;have C:=ae (A.below A4);have FC:=A.lt;have FM:=A.hX;have Fo:E.heap.size≠R:=by omega
     clear A4 B FC FM;generalize E.alloc (Q #[U ⟨#[]⟩,U ⟨#[120,32,121]⟩,U r0.1.name,U t] 9)=P at C HL ⊢;generalize E.heap.size=Ga at HL Fo ⊢;have B:Hid (P.cell? (N X 0 Z)=T (Y (T (N g 0 Z)) D.length c1)/\P.cell? (N g 0 Z)=T (U r0.1.name)):=⟨C.box.1,by have h:=(C.at_ (k:=0) (j:=0) H0 (by omega) rfl).1;simpa using h⟩
     refine l _ _ (fun _=>B) ?_;clear l K
     (try simp only[Act.put,nzL])
     refine af (i:=11) rfl (by as_aux_lemma=>kernel_rfl) (fun K l=>?_);go_simp;go_at_call 33;refine(av R _ 4 _ C.rd (by omega) (by omega) (by omega)).mono ?_;rintro e v5 ⟨z4,rfl,Fd,GF,QP,H⟩;obtain⟨m,rfl⟩:=nX Fd;have hm:m<4:=by omega
     have QL:=ae (C.only H QP);have HL:=ae ((H.block Ga (ai HL) Fo).trans HL);clear H QP C B;have B:Hid (v5.cell? (N X 0 Z)=T (Y (T (N g 0 Z)) D.length c1)/\v5.cell? (N g 0 Z)=T (U r0.1.name)):=⟨QL.box.1,by have h:=(QL.at_ (k:=0) (j:=0) H0 (by omega) rfl).1;simpa using h⟩
     refine l _ _ (fun _=>B) ?_;clear l K
     (try simp only[Act.put,nzL])
     obtain⟨zz,FG,GM⟩:=tW HL (by decide) (by decide) F0 Ff m hm
     iterate 4
      refine cC 12 rfl rfl (by as_aux_lemma=>kernel_rfl) (fun K l=>?_);go_simp;refine l _ _ (fun _=>B) ?_;clear l K
      (try simp only[Act.put,nzL])
     obtain⟨QK,d1⟩:=QL.at_ (j:=0) L (by omega) rfl;rw[I9] at QK d1;have QO:=QL.gb.2.1;have S9:=ae (QL.fld (j:=0) (u:=U zz) (r':=({ r.1 with name:=zz },r.2)) L (by omega) rfl ((QL.row.sub r HM).same _ rfl rfl rfl rfl) (QJ.name FG));refine af (i:=16) rfl (by as_aux_lemma=>kernel_rfl) (fun K l=>?_);go_simp;refine l _ _ (fun h=>absurd rfl h) ?_;clear l K B
     (try simp only[Act.put,nzL])
     refine aM (by as_aux_lemma=>kernel_rfl) ?_ _;clear QK d1 QO QL;go_wp2;go_meet;exact⟨_,_,_,_,by omega,S9⟩
    ·skip
     go_simp;go_at_call 33;refine(av R _ 4 _ A.rd (by omega) (by omega) (by omega)).mono ?_;rintro e P ⟨z4,rfl,Fd,GF,QP,H⟩;obtain⟨m,rfl⟩:=nX Fd;have hm:m<4:=by omega
     have C:=ae (A.only H QP);clear H QP A B;have B:Hid (P.cell? (N X 0 Z)=T (Y (T (N g 0 Z)) D.length c1)/\P.cell? (N g 0 Z)=T (U r0.1.name)):=⟨C.box.1,by have h:=(C.at_ (k:=0) (j:=0) H0 (by omega) rfl).1;simpa using h⟩
     refine l _ _ (fun _=>B) ?_;clear l K
     (try simp only[Act.put,nzL])
     refine af (i:=9) rfl (by as_aux_lemma=>kernel_rfl) (fun K l=>?_);go_simp;have A4:=(q9 P).alloc ly (Q #[U ⟨#[]⟩,U ⟨#[120,32,121]⟩,U r0.1.name,U t] 9);have HL:Hid ((P.alloc (Q #[U ⟨#[]⟩,U ⟨#[120,32,121]⟩,U r0.1.name,U t] 9)).heap[P.heap.size]?=T (Q #[U ⟨#[]⟩,U ⟨#[120,32,121]⟩,U r0.1.name,U t] 9 (0,0))):=eT P _;have QL:=ae (C.below A4);have FC:=C.lt;have FM:=C.hX;have Fo:P.heap.size≠R:=by omega
     clear A4 B FC FM;generalize P.alloc (Q #[U ⟨#[]⟩,U ⟨#[120,32,121]⟩,U r0.1.name,U t] 9)=v5 at QL HL ⊢;generalize P.heap.size=Ga at HL Fo ⊢;have B:Hid (v5.cell? (N X 0 Z)=T (Y (T (N g 0 Z)) D.length c1)/\v5.cell? (N g 0 Z)=T (U r0.1.name)):=⟨QL.box.1,by have h:=(QL.at_ (k:=0) (j:=0) H0 (by omega) rfl).1;simpa using h⟩
     refine l _ _ (fun _=>B) ?_;clear l K
     (try simp only[Act.put,nzL])
     obtain⟨zz,FG,GM⟩:=tW HL (by decide) (by decide) F0 Ff m hm
     iterate 4
      refine cC 12 rfl rfl (by as_aux_lemma=>kernel_rfl) (fun K l=>?_);go_simp;refine l _ _ (fun _=>B) ?_;clear l K
      (try simp only[Act.put,nzL])
     obtain⟨QK,d1⟩:=QL.at_ (j:=0) L (by omega) rfl;rw[I9] at QK d1;have QO:=QL.gb.2.1;have S9:=ae (QL.fld (j:=0) (u:=U zz) (r':=({ r.1 with name:=zz },r.2)) L (by omega) rfl ((QL.row.sub r HM).same _ rfl rfl rfl rfl) (QJ.name FG));refine af (i:=16) rfl (by as_aux_lemma=>kernel_rfl) (fun K l=>?_);go_simp;refine l _ _ (fun h=>absurd rfl h) ?_;clear l K B
     (try simp only[Act.put,nzL])
     refine aM (by as_aux_lemma=>kernel_rfl) ?_ _;clear QK d1 QO QL;go_wp2;go_meet;exact⟨_,_,_,_,by omega,S9⟩
  ·as_aux_lemma =>
    skip;go_wp2_with fail;refine aD (fun V=>V.cell? (N X 0 Z)=T (Y (T (N g 0 Z)) D.length c1)) 7 (by as_aux_lemma=>kernel_rfl) ?_;have A:=ae (QR.below br.drew);clear QR;generalize M.drew=E at A ⊢;have B:=ae A.box.1
    iterate 4
     refine aL 0 (v:=?_) rfl rfl (by as_aux_lemma=>kernel_rfl) (fun _ _ _ h=>h) rfl ?_ B ?_;rotate_left
     ·(intro wz s0;go_simp)
      (try with_reducible rfl)
     (try simp only[Act.put,nzL])
    refine af (i:=4) rfl (by as_aux_lemma=>kernel_rfl) (fun K l=>?_);go_simp;go_at_call 33;refine(av R _ 5 _ A.rd (by omega) (by omega) (by omega)).mono ?_;rintro e P ⟨z4,rfl,Gj,Gb,QP,H⟩;have C:=ae (A.only H QP);clear H QP A B;have B:=ae C.box.1;refine l _ _ (fun _=>B) ?_;clear l K
    (try simp only[Act.put,nzL])
    iterate 2
     refine cC 5 rfl rfl (by as_aux_lemma=>kernel_rfl) (fun K l=>?_);go_simp;refine l _ _ (fun _=>B) ?_;clear l K
     (try simp only[Act.put,nzL])
    obtain⟨QK,d1⟩:=C.at_ (j:=1) L (by omega) rfl;have QO:=C.gb.2.1;have QN:=ae (C.fld (j:=1) (u:=J I z4) (r':=({ r.1 with kind:=z4 },r.2)) L (by omega) rfl ((C.row.sub r HM).same _ rfl rfl rfl rfl) (QJ.kind z4));refine af (i:=7) rfl (by as_aux_lemma=>kernel_rfl) (fun K l=>?_);go_simp;refine l _ _ (fun h=>absurd rfl h) ?_;clear l K B
    (try simp only[Act.put,nzL])
    refine aM (by as_aux_lemma=>kernel_rfl) ?_ _;clear QK d1 QO C;go_wp2;go_meet;exact⟨_,_,_,_,by omega,QN⟩
  ·as_aux_lemma =>
    skip;go_wp2_with fail;refine aD (fun V=>V.cell? (N X 0 Z)=T (Y (T (N g 0 Z)) D.length c1)) 8 (by as_aux_lemma=>kernel_rfl) ?_;have A:=ae (QR.below br.drew);clear QR;generalize M.drew=E at A ⊢;have B:=ae A.box.1
    iterate 4
     refine aL 0 (v:=?_) rfl rfl (by as_aux_lemma=>kernel_rfl) (fun _ _ _ h=>h) rfl ?_ B ?_;rotate_left
     ·(intro wz s0;go_simp)
      (try with_reducible rfl)
     (try simp only[Act.put,nzL])
    refine af (i:=4) rfl (by as_aux_lemma=>kernel_rfl) (fun K l=>?_);go_simp;go_at_call 33;refine(av R _ 8 _ A.rd (by omega) (by omega) (by omega)).mono ?_;rintro e P ⟨z4,rfl,Gj,Gb,QP,H⟩;have C:=ae (A.only H QP);clear H QP A B;have B:=ae C.box.1;refine l _ _ (fun _=>B) ?_;clear l K
    (try simp only[Act.put,nzL])
    have Gv:IntKind.i64.wrap (z4 - 1)=z4 - 1:=by rw[kP];omega
    iterate 3
     refine cC 5 rfl rfl (by as_aux_lemma=>kernel_rfl) (fun K l=>?_);go_simp;refine l _ _ (fun _=>B) ?_;clear l K
     (try simp only[Act.put,nzL])
    obtain⟨QK,d1⟩:=C.at_ (j:=2) L (by omega) rfl;have QO:=C.gb.2.1;have QN:=ae (C.fld (j:=2) (u:=J I (z4 - 1)) (r':=({ r.1 with code:=z4 - 1 },r.2)) L (by omega) rfl ((C.row.sub r HM).same _ rfl rfl rfl rfl) (QJ.code _));refine af (i:=8) rfl (by as_aux_lemma=>kernel_rfl) (fun K l=>?_);go_simp;refine l _ _ (fun h=>absurd rfl h) ?_;clear l K B
    (try simp only[Act.put,nzL])
    refine aM (by as_aux_lemma=>kernel_rfl) ?_ _;clear QK d1 QO C;go_wp2;go_meet;exact⟨_,_,_,_,by omega,QN⟩
  ·as_aux_lemma =>
    go_wp2_with fail;refine aD (fun V=>V.cell? (N X 0 Z)=T (Y (T (N g 0 Z)) D.length c1)/\V.cell? (N g (k*6+3) Z)=T (U r.1.text)) 12 (by as_aux_lemma=>kernel_rfl) ?_;have A:=ae (QR.below br.drew);clear QR;generalize M.drew=E at A ⊢;have B:Hid (E.cell? (N X 0 Z)=T (Y (T (N g 0 Z)) D.length c1)/\E.cell? (N g (k*6+3) Z)=T (U r.1.text)):=⟨A.box.1,(A.at_ (j:=3) L (by omega) rfl).1⟩
    have hsz:¬ 9223372036854775807<r.1.text.size+1:=by omega
    have Gz:(r.1.text++⟨#[120]⟩).size<=2000+KK:=by have e1:(⟨#[120]⟩:ByteArray).size=1:=rfl;rw[JC,e1];omega
    iterate 9
     refine aL 0 (v:=?_) rfl rfl (by as_aux_lemma=>kernel_rfl) (fun _ _ _ h=>h) rfl ?_ B ?_;rotate_left
     ·(intro wz aq;obtain⟨s0,s1⟩:=aq;go_simp)
      (try with_reducible rfl)
     (try simp only[Act.put,nzL])
    iterate 3
     refine cC 9 rfl rfl (by as_aux_lemma=>kernel_rfl) (fun K l=>?_);go_simp;refine l _ _ (fun _=>B) ?_;clear l K
     (try simp only[Act.put,nzL])
    obtain⟨QK,d1⟩:=A.at_ (j:=3) L (by omega) rfl;have QO:=A.gb.2.1;have QN:=ae (A.fld (j:=3) (u:=U (r.1.text++⟨#[120]⟩)) (r':=({ r.1 with text:=r.1.text++⟨#[120]⟩ },r.2)) L (by omega) rfl ((A.row.sub r HM).same _ rfl rfl rfl rfl) (QJ.text Gz));refine af (i:=12) rfl (by as_aux_lemma=>kernel_rfl) (fun K l=>?_);go_simp;refine l _ _ (fun h=>absurd rfl h) ?_;clear l K B
    (try simp only[Act.put,nzL])
    refine aM (by as_aux_lemma=>kernel_rfl) ?_ _;clear QK d1 QO A;go_wp2;go_meet;exact⟨_,_,_,_,by omega,QN⟩
  ·as_aux_lemma =>
    skip;go_wp2_with fail;refine aD (fun V=>V.cell? (N X 0 Z)=T (Y (T (N g 0 Z)) D.length c1)) 9 (by as_aux_lemma=>kernel_rfl) ?_;have A:=ae (QR.below br.drew);clear QR;generalize M.drew=E at A ⊢;have B:=ae A.box.1
    iterate 4
     refine aL 0 (v:=?_) rfl rfl (by as_aux_lemma=>kernel_rfl) (fun _ _ _ h=>h) rfl ?_ B ?_;rotate_left
     ·(intro wz s0;go_simp)
      (try with_reducible rfl)
     (try simp only[Act.put,nzL])
    refine af (i:=4) rfl (by as_aux_lemma=>kernel_rfl) (fun K l=>?_);go_simp;go_at_call 33;refine(av R _ 2 _ A.rd (by omega) (by omega) (by omega)).mono ?_;rintro e P ⟨z4,rfl,Gj,Gb,QP,H⟩;have C:=ae (A.only H QP);clear H QP A B;have B:=ae C.box.1;refine l _ _ (fun _=>B) ?_;clear l K
    (try simp only[Act.put,nzL])
    have Gv:IntKind.i64.wrap (2000+z4)=2000+z4:=by rw[kP];omega
    refine af (i:=5) rfl (by as_aux_lemma=>kernel_rfl) (fun K l=>?_);go_simp;refine l _ _ (fun _=>B) ?_;clear l K
    (try simp only[Act.put,nzL])
    obtain⟨m0,Fj⟩:∃ m0:Nat,2000+z4=(m0:Int):=⟨(2000+z4).toNat,by omega⟩
    rw[Fj];refine af (i:=6) rfl (by as_aux_lemma=>kernel_rfl) (fun K l=>?_);go_simp;go_at_call 63;refine(eO ⟨#[116]⟩ m0 _ (by show 1*m0<=4000;omega) (by omega)).mono ?_;rintro e v6 ⟨t,rfl,ht,hw⟩;rw[hw];have Ff:t.size<=2000+KK:=p9 ht (by show 1*m0<=2000+KK;omega);clear ht hw Gv;refine l _ _ (fun _=>B) ?_;clear l K
    (try simp only[Act.put,nzL])
    iterate 2
     refine cC 7 rfl rfl (by as_aux_lemma=>kernel_rfl) (fun K l=>?_);go_simp;refine l _ _ (fun _=>B) ?_;clear l K
     (try simp only[Act.put,nzL])
    obtain⟨QK,d1⟩:=C.at_ (j:=3) L (by omega) rfl;have QO:=C.gb.2.1;have QN:=ae (C.fld (j:=3) (u:=U t) (r':=({ r.1 with text:=t },r.2)) L (by omega) rfl ((C.row.sub r HM).same _ rfl rfl rfl rfl) (QJ.text Ff));refine af (i:=9) rfl (by as_aux_lemma=>kernel_rfl) (fun K l=>?_);go_simp;refine l _ _ (fun h=>absurd rfl h) ?_;clear l K B
    (try simp only[Act.put,nzL])
    refine aM (by as_aux_lemma=>kernel_rfl) ?_ _;clear QK d1 QO C;go_wp2;go_meet;exact⟨_,_,_,_,by omega,QN⟩
  ·as_aux_lemma =>
    obtain⟨⟨ga,ca,ea⟩,-⟩:=n6.out r HM;have EA:=ae ea;clear ea;go_wp2_with fail;refine aD (fun V=>V.cell? (N X 0 Z)=T (Y (T (N g 0 Z)) D.length c1)/\V.cell? (N g (k*6+4) Z)=T (Y (T (N ga 0 Z)) r.1.actN ca)) 13 (by as_aux_lemma=>kernel_rfl) ?_;have A:=ae (QR.below br.drew);clear QR;generalize M.drew=E at A ⊢;have B:Hid (E.cell? (N X 0 Z)=T (Y (T (N g 0 Z)) D.length c1)/\E.cell? (N g (k*6+4) Z)=T (Y (T (N ga 0 Z)) r.1.actN ca)):=⟨A.box.1,(A.at_ (j:=4) L (by omega) (by rw[<-EA.out];rfl)).1⟩
    iterate 10
     refine aL 0 (v:=?_) rfl rfl (by as_aux_lemma=>kernel_rfl) (fun _ _ _ h=>h) rfl ?_ B ?_;rotate_left
     ·(intro wz aq;obtain⟨s0,s1⟩:=aq;go_simp)
      (try with_reducible rfl)
     (try simp only[Act.put,nzL])
    refine af (i:=10) rfl (by as_aux_lemma=>kernel_rfl) (fun K l=>?_);go_simp;go_at_call 78;refine(zk (A.row.sub r HM) EA A.rd (by omega) Fi (by omega)).mono ?_;rintro e P ⟨L4,g4,c4,rfl,Gn,-,GP,Gh,q4,hq4,QP,H⟩;have C:=ae (A.only H QP);have Gm:=A.lt;have I4:Hid (P.ownsRow (w.heap.size+2) 146 3 (Y (T (N g4 0 Z)) L4.length c4) L4.length (ct (cS L4) L4.length)):=by show World.ownsRow _ _ _ _ _ _ _;rw[<-pu];exact aE Gn (by omega)
    have T4:=ae Gh;clear H QP A B Gn Gh Gm;have B:Hid (P.cell? (N X 0 Z)=T (Y (T (N g 0 Z)) D.length c1)/\P.cell? (N g (k*6+4) Z)=T (Y (T (N ga 0 Z)) r.1.actN ca)):=⟨C.box.1,(C.at_ (j:=4) L (by omega) (by rw[<-EA.out];rfl)).1⟩
    refine l _ _ (fun _=>B) ?_;clear l K
    (try simp only[Act.put,nzL])
    iterate 2
     refine cC 11 rfl rfl (by as_aux_lemma=>kernel_rfl) (fun K l=>?_);go_simp;refine l _ _ (fun _=>B) ?_;clear l K
     (try simp only[Act.put,nzL])
    have QK:=B.2;have d1:=(C.at_ (j:=4) L (by omega) rfl).2;have QO:=C.gb.2.1;have QN:=ae (C.fld (j:=4) (u:=Y (T (N g4 0 Z)) L4.length c4) (r':=({ r.1 with actN:=L4.length,act:=cS L4 },Y (T (N g4 0 Z)) L4.length c4,r.2.2)) L (by omega) rfl ⟨I4,(C.row.sub r HM).lnk⟩ ⟨QJ.nm,QJ.tx,by show L4.length<=200+KK;omega,jn T4,QJ.ln,QJ.lsz⟩);refine af (i:=13) rfl (by as_aux_lemma=>kernel_rfl) (fun K l=>?_);go_simp;refine l _ _ (fun h=>absurd rfl h) ?_;clear l K B
    (try simp only[Act.put,nzL])
    refine aM (by as_aux_lemma=>kernel_rfl) ?_ _;clear QK d1 QO C;go_wp2;go_meet;exact⟨_,_,_,_,by omega,QN⟩
  ·as_aux_lemma =>
    obtain⟨⟨ga,ca,ea⟩,QO,cl,el⟩:=n6.out r HM;have EA:=ae ea;have EL:=ae el;clear ea el;rcases h6 with rfl | rfl | rfl
    iterate 3
     ·go_wp2_with fail
      refine aD (fun V=>V.cell? (N X 0 Z)=T (Y (T (N g 0 Z)) D.length c1)/\V.cell? (N g (k*6) Z)=T (U r.1.name)/\V.cell? (N g (k*6+1) Z)=T (J I r.1.kind)/\V.cell? (N g (k*6+2) Z)=T (J I r.1.code)/\V.cell? (N g (k*6+3) Z)=T (U r.1.text)/\V.cell? (N g (k*6+4) Z)=T (Y (T (N ga 0 Z)) r.1.actN ca)/\V.cell? (N g (k*6+5) Z)=T (Y (T (N QO 0 Z)) r.1.linksN cl)) 11 (by as_aux_lemma=>kernel_rfl) ?_;have A:=ae (QR.below br.drew);clear QR;generalize M.drew=E at A ⊢;have B:Hid (E.cell? (N X 0 Z)=T (Y (T (N g 0 Z)) D.length c1)/\E.cell? (N g (k*6) Z)=T (U r.1.name)/\E.cell? (N g (k*6+1) Z)=T (J I r.1.kind)/\E.cell? (N g (k*6+2) Z)=T (J I r.1.code)/\E.cell? (N g (k*6+3) Z)=T (U r.1.text)/\E.cell? (N g (k*6+4) Z)=T (Y (T (N ga 0 Z)) r.1.actN ca)/\E.cell? (N g (k*6+5) Z)=T (Y (T (N QO 0 Z)) r.1.linksN cl)):=⟨A.box.1,by have h:=(A.at_ (j:=0) L (by omega) rfl).1;rwa[I9] at h,(A.at_ (j:=1) L (by omega) rfl).1,(A.at_ (j:=2) L (by omega) rfl).1,(A.at_ (j:=3) L (by omega) rfl).1,(A.at_ (j:=4) L (by omega) (by rw[<-EA.out];rfl)).1,(A.at_ (j:=5) L (by omega) (by rw[<-EL.out];rfl)).1⟩
      iterate 9
       refine aL 0 (v:=?_) rfl rfl (by as_aux_lemma=>kernel_rfl) (fun _ _ _ h=>h) rfl ?_ B ?_;rotate_left
       ·(intro wz aq;obtain⟨s0,s1,s2,s3,s4,s5,s6⟩:=aq;go_simp)
        (try with_reducible rfl)
       (try simp only[Act.put,nzL])
      refine af (i:=9) rfl (by as_aux_lemma=>kernel_rfl) (fun K l=>?_);go_simp;go_at_call 79;refine(pz (200+K0) ⟨by omega,by omega⟩ w R _ (w.heap.size+2) QO cl r.1.linksN r.1.links r.1.name r.1.text r.1.kind r.1.code (T (N ga 0 Z)) r.1.actN ca _ A.o FP (by omega) (by have:=A.lt;omega) A.rd (by omega) (by rw[<-EL.out];exact(A.row.sub r HM).lnk) GN QJ.lsz).mono ?_;rintro e P ⟨g5,n5,c5,f5,rfl,FK,Fz,F3,⟨q5,hq5,F7⟩,FX,la⟩;obtain⟨kX,kg,F8⟩:=A.kept HM EL la;have QN:Hid (SpS KK w R X (iA P g k ({ r.1 with linksN:=n5,links:=f5 },Y (T (N ga 0 Z)) r.1.actN ca,Y (T (N g5 0 Z)) n5 c5)) q5 (T (N g 0 Z)) c1 _):=A.deed FY L HM EL F7 FX la _ ⟨A.actK HM EA EL la,FK⟩ ⟨QJ.nm,QJ.tx,QJ.an,QJ.asz,by show n5<=200+KK;omega,F3⟩;have F4:Hid (∀ j,j<6->P.frozen? (N g (k*6+j) Z)=QB):=fun j hj=>(IQ (a:=(N g (k*6+j) Z)) kg).trans (A.at_ (j:=j) L hj (gq (show j<(ddV r).length from hj))).2;have Bk:Hid (P.cell? (N X 0 Z)=T (Y (T (N g 0 Z)) D.length c1)/\P.cell? (N g (k*6) Z)=T (U r.1.name)/\P.cell? (N g (k*6+1) Z)=T (J I r.1.kind)/\P.cell? (N g (k*6+2) Z)=T (J I r.1.code)/\P.cell? (N g (k*6+3) Z)=T (U r.1.text)/\P.cell? (N g (k*6+4) Z)=T (Y (T (N ga 0 Z)) r.1.actN ca)/\P.cell? (N g (k*6+5) Z)=T (Y (T (N QO 0 Z)) r.1.linksN cl)):=⟨(cq (a:=(N X 0 Z)) kX).trans B.1,(cq (a:=(N g (k*6) Z)) kg).trans B.2.1,(cq (a:=(N g (k*6+1) Z)) kg).trans B.2.2.1,(cq (a:=(N g (k*6+2) Z)) kg).trans B.2.2.2.1,(cq (a:=(N g (k*6+3) Z)) kg).trans B.2.2.2.2.1,(cq (a:=(N g (k*6+4) Z)) kg).trans B.2.2.2.2.2.1,(cq (a:=(N g (k*6+5) Z)) kg).trans B.2.2.2.2.2.2⟩
      clear F7 FX la FK F3 kX kg B A;have B:=Bk;clear Bk;refine l _ _ (fun _=>B) ?_;clear l K
      (try simp only[Act.put,nzL])
      refine af (i:=10) rfl (by as_aux_lemma=>kernel_rfl) (fun K l=>?_);go_simp;refine l _ _ (fun _=>B) ?_;clear l K
      (try simp only[Act.put,nzL])
      obtain⟨-,QK,d1,d2,d3,d4,d5⟩:=B.out;have y0:=F4.out 0 (by omega);have y1:=F4.out 1 (by omega);have y2:=F4.out 2 (by omega);have y3:=F4.out 3 (by omega);have y4:=F4.out 4 (by omega);have y5:=F4.out 5 (by omega);rw[I9] at y0;refine af (i:=11) rfl (by as_aux_lemma=>kernel_rfl) (fun K l=>?_);go_simp;refine l _ _ (fun h=>absurd rfl h) ?_;clear l K B
      (try simp only[Act.put,nzL])
      refine aM (by as_aux_lemma=>kernel_rfl) ?_ _;clear QK d1 d2 d3 d4 d5 y0 y1 y2 y3 y4 y5;go_wp2;go_meet;exact⟨_,_,_,_,by omega,QN⟩
  ·skip
   by_cases Hc:(0:Int)<(k:Int)
   ·obtain⟨m,rfl⟩:∃ m,k=m+1:=⟨k - 1,by omega⟩
    have h1l:(1:Int)<(D.length:Int):=by omega
    obtain⟨r1,FW,Fs⟩:=cU (R:=D) (i:=m) (by omega);have mv:=ae FW;have FO:=ae Fs;clear FW Fs;obtain⟨⟨ga,ca,ea⟩,QO,cl,el⟩:=n6.out r HM;obtain⟨⟨gb,cb,eb⟩,gm,cm,em⟩:=n6.out r1 FO;have EA:=ae ea;have EL:=ae el;have EB:=ae eb;have EM:=ae em;clear ea el eb em;have Hg:=((ro r1 FO).up (show K0<=KK by omega))
    have bx:=QR.box.1;have C2:Hid (M.cell? ⟨g,(m+1)*6,Z⟩=T (U r.1.name)/\M.cell? ⟨g,(m+1)*6+1,Z⟩=T (J I r.1.kind)/\M.cell? ⟨g,(m+1)*6+2,Z⟩=T (J I r.1.code)/\M.cell? ⟨g,(m+1)*6+3,Z⟩=T (U r.1.text)/\M.cell? ⟨g,(m+1)*6+4,Z⟩=T (Y (T (N ga 0 Z)) r.1.actN ca)/\M.cell? ⟨g,(m+1)*6+5,Z⟩=T (Y (T (N QO 0 Z)) r.1.linksN cl)):=⟨by have h:=(QR.at_ (j:=0) L (by omega) rfl).1;rwa[I9] at h,(QR.at_ (j:=1) L (by omega) rfl).1,(QR.at_ (j:=2) L (by omega) rfl).1,(QR.at_ (j:=3) L (by omega) rfl).1,(QR.at_ (j:=4) L (by omega) (by rw[<-EA.out];rfl)).1,(QR.at_ (j:=5) L (by omega) (by rw[<-EL.out];rfl)).1⟩
    obtain⟨e0,e1,e2,e3,e4,e5⟩:=C2.out;have AB:=ae ((q9 M).alloc ly (Q #[U r.1.name,J I r.1.kind,J I r.1.code,U r.1.text,Y (T (N ga 0 Z)) r.1.actN ca,Y (T (N QO 0 Z)) r.1.linksN cl] 46));have YB:=ae (eT M (Q #[U r.1.name,J I r.1.kind,J I r.1.code,U r.1.text,Y (T (N ga 0 Z)) r.1.actN ca,Y (T (N QO 0 Z)) r.1.linksN cl] 46));have A:=ae (QR.below AB);have hwm:IntKind.i64.wrap (((m+1:Nat):Int) - 1)=(m:Int):=by rw[kP];omega
    have hwm2:IntKind.i64.wrap (m:Int)=(m:Int):=by rw[kP];omega
    have hml:m<D.length:=by omega
    have GS:(m:Int)+1<(D.length:Int):=by omega
    have hk2:(0:Int)<=(m:Int)+1:=by omega
    have Hq:((m:Int)+1).toNat=m+1:=by omega
    go_upto_region 41 with fail;generalize M.alloc (Q #[U r.1.name,J I r.1.kind,J I r.1.code,U r.1.text,Y (T (N ga 0 Z)) r.1.actN ca,Y (T (N QO 0 Z)) r.1.linksN cl] 46)=v2 at A YB ⊢;have Gt:M.heap.size≠g:=by have:=QR.gb.2.1;omega
    generalize M.heap.size=yb at YB Gt ⊢;clear bx e0 e1 e2 e3 e4 e5 C2 AB QR;refine aD (fun V=>V.cell? (N X 0 Z)=T (Y (T (N g 0 Z)) D.length c1)/\V.cell? (N g (m*6) Z)=T (U r1.1.name)/\V.cell? (N g (m*6+1) Z)=T (J I r1.1.kind)/\V.cell? (N g (m*6+2) Z)=T (J I r1.1.code)/\V.cell? (N g (m*6+3) Z)=T (U r1.1.text)/\V.cell? (N g (m*6+4) Z)=T (Y (T (N gb 0 Z)) r1.1.actN cb)/\V.cell? (N g (m*6+5) Z)=T (Y (T (N gm 0 Z)) r1.1.linksN cm)) 10 (by as_aux_lemma=>kernel_rfl) ?_;have C:=ae (A.below br.drew);have FJ:Hid (v2.drew.heap[yb]?=T (Q #[U r.1.name,J I r.1.kind,J I r.1.code,U r.1.text,Y (T (N ga 0 Z)) r.1.actN ca,Y (T (N QO 0 Z)) r.1.linksN cl] 46 (0,0))):=YB.out;clear A YB;generalize v2.drew=E at C FJ ⊢;have B:Hid (E.cell? (N X 0 Z)=T (Y (T (N g 0 Z)) D.length c1)/\E.cell? (N g (m*6) Z)=T (U r1.1.name)/\E.cell? (N g (m*6+1) Z)=T (J I r1.1.kind)/\E.cell? (N g (m*6+2) Z)=T (J I r1.1.code)/\E.cell? (N g (m*6+3) Z)=T (U r1.1.text)/\E.cell? (N g (m*6+4) Z)=T (Y (T (N gb 0 Z)) r1.1.actN cb)/\E.cell? (N g (m*6+5) Z)=T (Y (T (N gm 0 Z)) r1.1.linksN cm)):=⟨C.box.1,by have h:=(C.at_ (j:=0) mv (by omega) rfl).1;rwa[I9] at h,(C.at_ (j:=1) mv (by omega) rfl).1,(C.at_ (j:=2) mv (by omega) rfl).1,(C.at_ (j:=3) mv (by omega) rfl).1,(C.at_ (j:=4) mv (by omega) (by rw[<-EB.out];rfl)).1,(C.at_ (j:=5) mv (by omega) (by rw[<-EM.out];rfl)).1⟩
    iterate 9
     refine aL 0 (v:=?_) rfl rfl (by as_aux_lemma=>kernel_rfl) (fun _ _ _ h=>h) rfl ?_ B ?_;rotate_left
     ·(intro wz aq;obtain⟨s0,s1,s2,s3,s4,s5,s6⟩:=aq;go_simp)
      (try with_reducible rfl)
     (try simp only[Act.put,nzL])
    refine af (i:=9) rfl (by as_aux_lemma=>kernel_rfl) (fun K l=>?_);go_simp;refine l _ _ (fun _=>B) ?_;clear l K
    (try simp only[Act.put,nzL])
    have F4:Hid (∀ j,j<6->E.frozen? ⟨g,(m+1)*6+j,Z⟩=QB/\∃ u,E.cell? ⟨g,(m+1)*6+j,Z⟩=T u):=fun j hj=>by have h:=C.at_ (j:=j) L hj (gq (show j<(ddV r).length from hj));exact⟨h.2,_,h.1⟩
    obtain⟨y0,u0,QK⟩:=F4.out 0 (by omega);obtain⟨y1,u1,d1⟩:=F4.out 1 (by omega);obtain⟨y2,u2,d2⟩:=F4.out 2 (by omega);obtain⟨y3,u3,d3⟩:=F4.out 3 (by omega);obtain⟨y4,u4,d4⟩:=F4.out 4 (by omega);obtain⟨y5,u5,d5⟩:=F4.out 5 (by omega);rw[I9] at y0 QK;have F8:=C.gb.2.1;have QN:=ae (C.six L (r1.1,Y (T (N gb 0 Z)) r1.1.actN cb,Y (T (N gm 0 Z)) r1.1.linksN cm) ((C.row.sub r1 FO).form EB EM) Hg);have Fw:=ae ((eS E g (m+1) yb (r1.1,Y (T (N gb 0 Z)) r1.1.actN cb,Y (T (N gm 0 Z)) r1.1.linksN cm) Gt).trans FJ);have T5:Hid (DSub (iA E g (m+1) (r1.1,Y (T (N gb 0 Z)) r1.1.actN cb,Y (T (N gm 0 Z)) r1.1.linksN cm)) (w.heap.size+2) (r.1,Y (T (N ga 0 Z)) r.1.actN ca,Y (T (N QO 0 Z)) r.1.linksN cl)):=by obtain⟨cs,z,hg⟩:=C.gb.2.2.2;exact((C.row.sub r HM).form EA EL).six hg
    unfold iA at QN Fw T5;refine af (i:=10) rfl (by as_aux_lemma=>kernel_rfl) (fun K l=>?_);go_simp;refine l _ _ (fun h=>absurd rfl h) ?_;clear l K B
    (try simp only[Act.put,nzL])
    refine aM (by as_aux_lemma=>kernel_rfl) ?_ _;clear QK d1 d2 d3 d4 d5 y0 y1 y2 y3 y4 y5 F8 F4 C FJ;go_upto_region 42 with fail;generalize (((((E.setCell ⟨g,(m+1)*6,Z⟩ (U r1.1.name)).setCell ⟨g,(m+1)*6+1,Z⟩ (J I r1.1.kind)).setCell ⟨g,(m+1)*6+2,Z⟩ (J I r1.1.code)).setCell ⟨g,(m+1)*6+3,Z⟩ (U r1.1.text)).setCell ⟨g,(m+1)*6+4,Z⟩ (Y (T (N gb 0 Z)) r1.1.actN cb)).setCell ⟨g,(m+1)*6+5,Z⟩ (Y (T (N gm 0 Z)) r1.1.linksN cm)=v5 at QN Fw T5 ⊢;have ld:Hid ((D.set (m+1) (r1.1,Y (T (N gb 0 Z)) r1.1.actN cb,Y (T (N gm 0 Z)) r1.1.linksN cm))[m]?=T r1):=by show _=_;rw[JO (by omega)];exact mv
    have QL:=ae (QN.six ld (r.1,Y (T (N ga 0 Z)) r.1.actN ca,Y (T (N QO 0 Z)) r.1.linksN cl) T5 QJ);have bx:=QN.box.1;rw[IC] at bx;have S:=Fw.out;have q0:v5.cell? (N yb 0 Z)=T (U r.1.name):=by simp[World.cell?,S]
    have q1:v5.cell? (N yb 1 Z)=T (J I r.1.kind):=by simp[World.cell?,S]
    have q2:v5.cell? (N yb 2 Z)=T (J I r.1.code):=by simp[World.cell?,S]
    have q3:v5.cell? (N yb 3 Z)=T (U r.1.text):=by simp[World.cell?,S]
    have q4:v5.cell? (N yb 4 Z)=T (Y (T (N ga 0 Z)) r.1.actN ca):=by simp[World.cell?,S]
    have q5:v5.cell? (N yb 5 Z)=T (Y (T (N QO 0 Z)) r.1.linksN cl):=by simp[World.cell?,S]
    have F5:Hid (∀ j,j<6->v5.frozen? (N g (m*6+j) Z)=QB/\∃ u,v5.cell? (N g (m*6+j) Z)=T u):=fun j hj=>by have h:=QN.at_ (j:=j) ld hj (gq (show j<(ddV r1).length from hj));exact⟨h.2,_,h.1⟩
    obtain⟨y0,u0,QK⟩:=F5.out 0 (by omega);obtain⟨y1,u1,d1⟩:=F5.out 1 (by omega);obtain⟨y2,u2,d2⟩:=F5.out 2 (by omega);obtain⟨y3,u3,d3⟩:=F5.out 3 (by omega);obtain⟨y4,u4,d4⟩:=F5.out 4 (by omega);obtain⟨y5,u5,d5⟩:=F5.out 5 (by omega);rw[I9] at y0 QK;have gl5:=QN.gb.2.1;clear S QN;go_wp2;go_meet;exact⟨_,_,_,_,by omega,QL⟩
   ·by_cases h1:(1:Int)<(D.length:Int)
    iterate 2
     ·go_wp2
      go_meet;exact⟨_,_,_,_,by omega,QR⟩
  ·as_aux_lemma =>
    have hcap:=jp QR.row.own;obtain⟨Fk,hj,bt,n9,Fh⟩:=IL gA;have Hi:IntKind.i64.wrap ((k:Int)+1)=(k:Int)+1:=by rw[kP];omega
    have GS:(k:Int)+1<=(D.length:Int):=by omega
    have Hq:((k:Int)+1).toNat=k+1:=by omega
    have hkc:(k:Int)<=(c1:Int):=by omega
    have Hc:(0:Int)<=(k:Int)+1:=by omega
    obtain⟨A2,Hk,Gg⟩:=xE (base:=w.heap.size+2) (g:=g) (c:=c1) hk (by omega);have GU:=ae Gg;clear Gg;go_wp2_with fail;refine aD (fun V=>V.cell? (N X 0 Z)=T (Y (T (N g 0 Z)) D.length c1)) 13 (by as_aux_lemma=>kernel_rfl) ?_;have A:=ae (QR.below br.drew);clear QR;generalize M.drew=E at A ⊢;have B:=ae A.box.1
    iterate 4
     refine aL 1 (v:=?_) rfl rfl (by as_aux_lemma=>kernel_rfl) (fun _ _ _ h=>h) rfl ?_ B ?_;rotate_left
     ·(intro wz s0;go_simp)
      (try with_reducible rfl)
     (try simp only[Act.put,nzL])
    iterate 5
     refine aL 6 (v:=?_) rfl rfl (by as_aux_lemma=>kernel_rfl) (fun _ _ _ h=>h) rfl ?_ B ?_;rotate_left
     ·(intro wz s0;go_simp)
      (try with_reducible rfl)
     (try simp only[Act.put,nzL])
    clear Hk;refine af (i:=0) rfl (by as_aux_lemma=>kernel_rfl) (fun K l=>?_);go_simp;have Gm:=A.lt;have GJ:=A.hX;have A4:=ae ((q9 E).alloc ly (Q #[] 46));have O4:=ae (I7 (base:=w.heap.size+2) (e:=46) (size:=6) E #[] 0 (by omega) (by unfold maxLen;omega) rfl);have C:=ae (A.below A4);have Bk:=ae C.box.1;refine l _ _ (fun _=>Bk) ?_;clear l K
    (try simp only[Act.put,nzL])
    refine af (i:=5) rfl (by as_aux_lemma=>kernel_rfl) (fun K l=>?_);refine bA rfl (.tmp 247) (.tmp 251) 23 rfl (w.heap.size+2) 46 Fk (QG #[U ⟨#[]⟩,J I 0,J I 0,U ⟨#[]⟩,Y Z 0 0,Y Z 0 0]) 6 96 Tryz.underlying23 hj bt n9 Fh rfl (by decide) (Y (T (N E.heap.size 0 Z)) 0 0) 0 [] (by simp[Act.eval]) O4.out (N g 0 Z) k c1 ((D.take k).flatMap ddV) (by simp[Act.eval]) (by rw[eP ddV 6 (fun _=>rfl),IU,JT (by omega)]) (yZ k C.row.own) (fun u hu=>qk D n6 u (by obtain⟨O,h2,h3⟩:=JV.1 hu;exact JV.2 ⟨O,JX h2,h3⟩)) (by unfold maxLen;omega) (by omega) (by simp;omega) ?_;intro v5 w5 ph DQ FQ;simp only[D0,IN] at ph;have B5:=ae (bg A4 DQ (by simp) (fun j e=>by simp[Value.ownBlock] at e;omega));have Fv:∀ j,v5.ownBlock=T j->E.heap.size<=j:=fun j e=>by
     rcases FQ with h | h
     ·rw[h] at e
      simp[Value.ownBlock] at e;omega
     ·rw[h] at e
      have:=DC e;simp at this;omega
    have WB:=ae Fv;have O5:=ae ph;have QN:=ae (A.below B5);have Gq:=ae QN.box.1;clear ph DQ FQ Fv C O4 A4 Bk B;refine l _ _ (fun _=>Gq) ?_;clear l K
    (try simp only[Act.put,nzL])
    obtain⟨a5,c5,rfl⟩:=aP O5;refine af (i:=11) rfl (by as_aux_lemma=>kernel_rfl) (fun K l=>?_);refine bA rfl (.tmp 252) (.tmp 257) 23 rfl (w.heap.size+2) 46 Fk (QG #[U ⟨#[]⟩,J I 0,J I 0,U ⟨#[]⟩,Y Z 0 0,Y Z 0 0]) 6 96 Tryz.underlying23 hj bt n9 Fh rfl (by decide) (Y a5 k c5) k ((D.take k).flatMap ddV) (by simp[Act.eval]) O5.out A2 (D.length - (k+1)) (c1 - (k+1)) ((D.drop (k+1)).flatMap ddV) (by simp[Act.eval]) (by rw[eP ddV 6 (fun _=>rfl),IM]) (GU _ QN.row.own) (fun u hu=>qk D n6 u (by obtain⟨O,h2,h3⟩:=JV.1 hu;exact JV.2 ⟨O,MY h2,h3⟩)) (by unfold maxLen;omega) (by omega) (by have:=B5.size;omega) ?_;intro v6 w6 ex sm _;have B6:=ae (bg B5 sm (B5.size) (fun j e=>WB j e));rw[<-EQ] at ex;obtain⟨a6,c6,rfl⟩:=aP ex;obtain⟨D2,Fp⟩:∃ D2,D2=D.take k++D.drop (k+1):=⟨_,rfl⟩
    have Fa:D2.length=k+(D.length - (k+1)):=by rw[Fp,eI,IU,IM,JT (by omega)]
    rw[<-Fp,<-Fa] at ex;rw[<-Fa];have QL:=ae (A.below B6);have Fc:∀ O∈D2,O∈D:=fun O h2=>by rw[Fp] at h2;exact(nL.1 h2).elim JX MY
    have S7:=ae (A.box_ B6 ex (fun O h2=>QL.row.sub O (Fc O h2)) (fun O h2=>QL.fit O (Fc O h2)) (by omega));clear Fp;have Ft:=ae QL.box;clear ex sm Fc Fa QN O5 WB Gq;refine l _ _ (fun _=>Ft.1) ?_;clear l K
    (try simp only[Act.put,nzL])
    refine af (i:=12) rfl (by as_aux_lemma=>kernel_rfl) (fun K l=>?_);go_simp;refine l _ _ (fun _=>Ft.1) ?_;clear l K
    (try simp only[Act.put,nzL])
    have QK:=Ft.1;have d1:=Ft.2;have Ha:=QL.lt;refine af (i:=13) rfl (by as_aux_lemma=>kernel_rfl) (fun K l=>?_);go_simp;refine l _ _ (fun h=>absurd rfl h) ?_;clear l K
    (try simp only[Act.put,nzL])
    refine aM (by as_aux_lemma=>kernel_rfl) ?_ _;clear QK d1 Ha A QL;go_wp2;go_meet;exact⟨_,_,_,_,by omega,S7⟩
  ·as_aux_lemma =>
    go_wp2_with fail;refine(av R _ 3 _ QR.rd (by omega) (by omega) (by omega)).mono ?_;rintro e w4 ⟨z,rfl,z0,z1,QP,H⟩;have A:=ae (QR.only H QP);clear H QP QR;obtain⟨m,hm⟩:∃ m:Nat,60+z - 1=(m:Int):=⟨(60+z - 1).toNat,by omega⟩
    go_wp2_with fail;refine(Hl m _ (by omega)).mono ?_;rintro e w5 ⟨a5,n5,c5,f5,rfl,Gu,F1,Fz,Gw⟩;have C:=ae (A.below F1);have rs:=C.rs;have r0:w5.cell? (N (w.heap.size+1) 0 Z)=T (Y Z 0 0):=by simp[World.cell?,rs]
    have f0:w5.frozen? (N (w.heap.size+1) 0 Z)=QB:=by simp[World.frozen?,rs]
    have l0:=ai rs;have FN:=ae (A.other (QM:=p+1100) F1 Gu Fz Gw (by omega));clear rs F1 Gu Fz Gw;go_wp2;try simp only[Exit.inBlock,Exit.then]
    exact bp (v:=QG #[Y a5 n5 c5]) (by simp[results,Tryz.results34,go_sem,r0]) rfl FN.out
  ·skip
   have AB:=ae ((q9 M).alloc ly (Q #[U ⟨#[117,110,117,115,101,100]⟩,J I 2,J I 0,U ⟨#[]⟩,Y Z 0 0,Y Z 0 0] 46));have FB:=ae (eT M (Q #[U ⟨#[117,110,117,115,101,100]⟩,J I 2,J I 0,U ⟨#[]⟩,Y Z 0 0,Y Z 0 0] 46));have A:=ae (QR.below AB);have F9:w.heap.size+2<=M.heap.size:=by have:=QR.lt;omega
   have FU:M.heap.size≠X:=by have:=QR.lt;omega
   have Gp:M.heap.size≠g:=by have:=QR.gb.2.1;omega
   go_wp2_with fail;generalize M.alloc (Q #[U ⟨#[117,110,117,115,101,100]⟩,J I 2,J I 0,U ⟨#[]⟩,Y Z 0 0,Y Z 0 0] 46)=v2 at A FB ⊢;generalize M.heap.size=fb at FB F9 FU Gp ⊢;clear AB QR;go_loopg [10] D.length (fun gh i wr=>∃ (k2 q2:Nat) (nm tx:ByteArray) (kd:Int),k2+gh=D.length/\q2<=p+2+k2/\i=J I k2/\nm.size<=5000/\tx.size<=2000+K0/\Hid (SpS KK w R X wr q2 (T (N g 0 Z)) c1 D)/\Hid (wr.heap[fb]?=T (Q #[U nm,J I kd,J I 0,U tx,Y Z 0 0,Y Z 0 0] 46 (0,0))));case atStart=>exact⟨0,_,_,_,_,by omega,by omega,rfl,by decide,DN _,A,FB⟩
   case round =>
    clear A FB;obtain⟨k2,q2,nm,tx,kd,hg2,hq2,rfl,Gx,GA,A,FB⟩:=hrel;have hwk:IntKind.i64.wrap ((k2:Int)+1)=(k2:Int)+1:=by rw[kP];omega
    go_upto_region 9 with fail;go_cut [41] (fun Hb wx=>∃ (b1:Bool) (q3:Nat),Hb=QC b1/\(b1=QD->k2<D.length)/\q3<=q2+1/\Hid (SpS KK w R X wx q3 (T (N g 0 Z)) c1 D)/\Hid (wx.heap[fb]?=T (Q #[U nm,J I kd,J I 0,U tx,Y Z 0 0,Y Z 0 0] 46 (0,0))));case first =>
     by_cases FF:(k2:Int)<(D.length:Int)
     ·go_wp2_with fail
      refine(av R _ 2 _ A.rd (by omega) (by omega) (by omega)).mono ?_;rintro e w4 ⟨z,rfl,z0,z1,QP,H⟩;have C:=ae (A.only H QP);have DE:=ae ((H.block fb (ai FB) (by omega)).trans FB);clear H QP;go_wp2;go_meet;exact⟨_,_,rfl,fun _=>by omega,by omega,C,DE⟩
     ·go_wp2
      go_meet;exact⟨_,_,rfl,fun h=>by simp at h,by omega,A,FB⟩
    case rest =>
    clear A FB;obtain⟨b1,q3,rfl,GY,hq3,A,FB⟩:=hcut;cases b1 with
    | true =>
     have FF:k2<D.length:=GY rfl;obtain⟨O,Gi,Ge⟩:=cU (R:=D) FF;have ld:=ae Gi;have Gk:=(ro O Ge)
     clear Gi Ge;have bx:=A.box.1;have FV:=(A.at_ (j:=1) ld (by omega) rfl).1;by_cases h3:O.1.kind=3
     ·rw[h3] at FV
      have H3:=ae h3;clear h3;go_wp2;go_roundg (D.length - 1 - k2);case measure=>omega
      case rel=>exact⟨k2+1,q3,nm,tx,kd,by omega,by omega,by go_num,Gx,GA,A,FB⟩
     ·have n3:(O.1.kind == 3)=QB:=by simpa using h3
      go_upto_region 12 with fail;clear bx FV;refine aD (fun V=>V.cell? (N X 0 Z)=T (Y (T (N g 0 Z)) D.length c1)/\V.cell? (N g (k2*6) Z)=T (U O.1.name)/\V.cell? (N g (k2*6+1) Z)=T (J I O.1.kind)/\V.cell? (N g (k2*6+3) Z)=T (U O.1.text)) 19 (by as_aux_lemma=>kernel_rfl) ?_;have C:=ae (A.below br.drew);have DE:Hid (wc.drew.heap[fb]?=T (Q #[U nm,J I kd,J I 0,U tx,Y Z 0 0,Y Z 0 0] 46 (0,0))):=FB.out;clear A FB;generalize wc.drew=E at C DE ⊢;have B:Hid (E.cell? (N X 0 Z)=T (Y (T (N g 0 Z)) D.length c1)/\E.cell? (N g (k2*6) Z)=T (U O.1.name)/\E.cell? (N g (k2*6+1) Z)=T (J I O.1.kind)/\E.cell? (N g (k2*6+3) Z)=T (U O.1.text)):=⟨C.box.1,by have h:=(C.at_ (j:=0) ld (by omega) rfl).1;rwa[I9] at h,(C.at_ (j:=1) ld (by omega) rfl).1,(C.at_ (j:=3) ld (by omega) rfl).1⟩
      iterate 19
       refine aL 0 (v:=?_) rfl rfl (by as_aux_lemma=>kernel_rfl) (fun _ _ _ h=>h) rfl ?_ B ?_;rotate_left
       ·(intro wz aq;obtain⟨s0,s1,s2,s3⟩:=aq;go_simp)
        (try with_reducible rfl)
       (try simp only[Act.put,nzL])
      have S:=DE.out;have lf:=ai S;have q0:E.cell? (N fb 0 Z)=T (U nm):=by simp[World.cell?,S]
      have q1:E.cell? (N fb 1 Z)=T (J I kd):=by simp[World.cell?,S]
      have GH:E.cell? (N fb 2 Z)=T (J I 0):=by simp[World.cell?,S]
      have Hh:E.cell? (N fb 3 Z)=T (U tx):=by simp[World.cell?,S]
      have q4:E.cell? (N fb 4 Z)=T (Y Z 0 0):=by simp[World.cell?,S]
      have q5:E.cell? (N fb 5 Z)=T (Y Z 0 0):=by simp[World.cell?,S]
      have z0:∀ j,E.frozen? (N fb j Z)=QB:=fun j=>by simp[World.frozen?,S]
      have QN:=ae (C.aside F9 FU Gp S (U O.1.name) (J I O.1.kind) (J I 0) (U O.1.text) (Y Z 0 0) (Y Z 0 0));have Hp:=ae (LBx.six (W:=E) (b:=fb) S (U O.1.name) (J I O.1.kind) (J I 0) (U O.1.text) (Y Z 0 0) (Y Z 0 0));clear S;refine af (i:=19) rfl (by as_aux_lemma=>kernel_rfl) (fun K l=>?_);go_simp;refine l _ _ (fun h=>absurd rfl h) ?_;clear l K B
      (try simp only[Act.put,nzL])
      refine aM (by as_aux_lemma=>kernel_rfl) ?_ _;clear q0 q1 GH Hh q4 q5 z0 C DE;go_wp2;go_roundg (D.length - 1 - k2);case measure=>omega
      case rel=>exact⟨k2+1,q3,O.1.name,O.1.text,O.1.kind,by omega,by omega,by go_num,Gk.nm,Gk.tx,QN,Hp⟩
    | false =>
     have S:=FB.out;have lf:=ai S;have e0:wc.cell? (N fb 0 Z)=T (U nm):=by simp[World.cell?,S]
     have e1:wc.cell? (N fb 1 Z)=T (J I kd):=by simp[World.cell?,S]
     have e2:wc.cell? (N fb 2 Z)=T (J I 0):=by simp[World.cell?,S]
     have e3:wc.cell? (N fb 3 Z)=T (U tx):=by simp[World.cell?,S]
     have e4:wc.cell? (N fb 4 Z)=T (Y Z 0 0):=by simp[World.cell?,S]
     have e5:wc.cell? (N fb 5 Z)=T (Y Z 0 0):=by simp[World.cell?,S]
     clear S;have bx:=A.box.1;have lx:=A.lt;have GJ:=A.hX;obtain⟨Fk,hj,bt,n9,Fh⟩:=IL gA;have A4:=ae ((q9 wc).alloc ly (Q #[U nm,J I kd,J I 0,U tx,Y Z 0 0,Y Z 0 0] 46));have O4:Hid ((wc.alloc (Q #[U nm,J I kd,J I 0,U tx,Y Z 0 0,Y Z 0 0] 46)).ownsRow (w.heap.size+2) 46 6 (Y (T (N wc.heap.size 0 Z)) 1 1) 1 [U nm,J I kd,J I 0,U tx,Y Z 0 0,Y Z 0 0]):=jq (cs:=#[U nm,J I kd,J I 0,U tx,Y Z 0 0,Y Z 0 0]) (by omega) (by unfold maxLen;omega) rfl;have C:=ae (A.below A4);have Hj:=C.box.1;have GO:=C.box.2;go_wp2_with (at_builtin;refine CW _ rfl (.tmp 71) (.tmp 73) 23 rfl (w.heap.size+2) 46 Fk (QG #[U ⟨#[]⟩,J I 0,J I 0,U ⟨#[]⟩,Y Z 0 0,Y Z 0 0]) 6 96 Tryz.underlying23 hj bt n9 Fh rfl (by decide) (Y (T (N wc.heap.size 0 Z)) 1 1) 1 [U nm,J I kd,J I 0,U tx,Y Z 0 0,Y Z 0 0] (by simp[Act.eval]) O4.out (N g 0 Z) D.length c1 (D.flatMap ddV) (by simp[Act.eval]) (eP ddV 6 (fun _=>rfl) D) (fun j u hu=>C.row.own.cells (g:=g) rfl j u hu) (qk D n6) (by unfold maxLen;omega) (by omega) (by simp;omega) ?_;intro v5 w5 E9 Fe GC;obtain⟨g5,c5,rfl⟩:=dr E9 (by omega);have B5:=ae (bg A4 Fe (by simp) (fun j e=>by simp[Value.ownBlock] at e;omega));have O5:=ae E9;have QN:=ae (A.below B5);obtain⟨Hm,Hn⟩:=QN.box;have Ho:=QN.lt;clear E9 Fe GC);obtain⟨D3,n8⟩:∃ D3,D3=lE nm tx kd :: D:=⟨_,rfl⟩
     have FH:D3.length=1+D.length:=by rw[n8,nD];omega
     have Fq:w5.ownsRow (w.heap.size+2) 46 6 (Y (T (N g5 0 Z)) D3.length c5) D3.length (D3.flatMap ddV):=by rw[FH,n8,IY];exact O5
     have QL:=ae (A.box_ B5 Fq (fun r6 h6=>by
      rw[n8] at h6;rcases p6.1 h6 with rfl | h6
      ·exact Bg _ _ _ _ _
      ·exact QN.row.sub r6 h6) (fun r6 h6=>by
      rw[n8] at h6;rcases p6.1 h6 with rfl | h6
      ·exact tR kd Gx (by omega)
      ·exact QN.fit r6 h6) (by omega))
     have UP:Hid ((D3.map (·.2.2)).Pairwise Apt):=by rw[n8];exact Eo FY nm tx kd
     have hn3:D3.length<=450+KK:=by omega
     rw[<-FH];generalize w5.setCell (N X 0 Z) (Y (T (N g5 0 Z)) D3.length c5)=v6 at QL ⊢;clear Fq n8 FH O5 B5 QN C A4 O4 A FB Hm Hn Ho Hj GO bx lx e0 e1 e2 e3 e4 e5;go_loopg [11,12] D3.length (fun gh i _ wr=>∃ (k3:Nat) (D4:List DR),k3+gh=D3.length/\i=J I k3/\Hid (D4.length=D3.length)/\Hid (D4.map (·.2)=D3.map (·.2))/\Hid (SpS KK w R X wr q3 (T (N g5 0 Z)) c5 D4));case atStart=>exact⟨0,D3,by omega,rfl,rfl,rfl,QL⟩
     case round =>
      clear QL;obtain⟨k3,D4,hg3,rfl,ur,Gc,S7⟩:=hrel;have GP:D4.length<=450+KK:=by have:=ur.out;omega
      have hwk3:IntKind.i64.wrap ((k3:Int)+1)=(k3:Int)+1:=by rw[kP];have:=ur.out;omega
      have GW:=S7.box.1;by_cases FF:(k3:Int)<(D4.length:Int)
      ·obtain⟨r4,Gy,Gs⟩:=cU (R:=D4) (i:=k3) (by omega)
       have GL:=ae Gy;have hln4:=(S7.fit r4 Gs).ln;clear Gy Gs;go_wp2_with fail;clear GW;go_loopg [12] r4.1.linksN (fun gh j wr=>∃ (j3:Nat) (D5:List DR) (QH:DR),j3+gh=r4.1.linksN/\j=J I j3/\Hid (D5.length=D4.length)/\Hid (D5.map (·.2)=D4.map (·.2))/\Hid (D5[k3]?=T QH)/\Hid (QH.1.linksN=r4.1.linksN)/\Hid (SpS KK w R X wr q3 (T (N g5 0 Z)) c5 D5));case atStart=>exact⟨0,D4,r4,by omega,rfl,rfl,rfl,GL,rfl,S7⟩
       case round =>
        clear S7;obtain⟨j3,D5,QH,hg5,rfl,Fg,Fm,n7,fd,S8⟩:=hrel;have GQ:k3<D5.length:=by have:=Fg.out;omega
        have Gf:=IE n7.out;have FA:=ae Gf;clear Gf;have hln5:QH.1.linksN<=200+KK:=by have:=fd.out;omega
        have hwj3:IntKind.i64.wrap ((j3:Int)+1)=(j3:Int)+1:=by rw[kP];have:=fd.out;omega
        obtain⟨al,cl,el⟩:=kE (S8.row.sub QH FA).lnk;have EL:=ae el;have GV:=S8.box.1;have G8:_=T (Value.slice al QH.1.linksN cl):=(S8.at_ (j:=5) n7 (by omega) (by rw[<-el];rfl)).1;clear el;by_cases hjl:(j3:Int)<(QH.1.linksN:Int)
        ·have Fl:j3<QH.1.linksN:=by omega
         obtain⟨QO,Hf,e2⟩:=dr (S8.row.sub QH FA).lnk (by omega);rw[EL.out] at e2;obtain⟨rfl,-,-⟩:=KI e2;clear e2 Hf;have OL:Hid (∀ V q,SpS KK w R X V q (T (N g5 0 Z)) c5 D5->V.ownsRow (w.heap.size+2) 129 4 (Y (T (N QO 0 Z)) QH.1.linksN cl) QH.1.linksN (bV QH.1.links QH.1.linksN)):=fun V q hV=>by rw[<-EL.out];exact(hV.row.sub QH FA).lnk
         have ak:=(cD (j:=1) (OL _ _ S8) Fl (by omega) rfl).1;cases hask:(QH.1.links j3).ask with
         | false =>
          rw[hask] at ak;clear hask;go_wp2;go_roundg (r4.1.linksN - 1 - j3);case measure=>have:=fd.out;omega
          case rel=>exact⟨j3+1,D5,QH,by have:=fd.out;omega,by go_num,Fg,Fm,n7,fd,S8⟩
         | true =>
          rw[hask] at ak;clear hask;go_upto_region 21 with fail;clear GV G8 ak;refine aD (fun V=>V.cell? (N X 0 Z)=T (Y (T (N g5 0 Z)) D5.length c5)/\V.cell? (N g5 (k3*6+5) Z)=T (Y (T (N QO 0 Z)) QH.1.linksN cl)/\V.cell? (N QO (j3*4+3) Z)=T (J I (QH.1.links j3).at_)) 20 (by as_aux_lemma=>kernel_rfl) ?_;have S9:=ae (S8.below br.drew);clear S8;generalize wr.drew=v8 at S9 ⊢;have B:Hid (v8.cell? (N X 0 Z)=T (Y (T (N g5 0 Z)) D5.length c5)/\v8.cell? (N g5 (k3*6+5) Z)=T (Y (T (N QO 0 Z)) QH.1.linksN cl)/\v8.cell? (N QO (j3*4+3) Z)=T (J I (QH.1.links j3).at_)):=⟨S9.box.1,(S9.at_ (j:=5) n7 (by omega) (by rw[<-EL.out];rfl)).1,(cD (j:=3) (OL _ _ S9) Fl (by omega) rfl).1⟩
          iterate 18
           refine aL 0 (v:=?_) rfl rfl (by as_aux_lemma=>kernel_rfl) (fun _ _ _ h=>h) rfl ?_ B ?_;rotate_left
           ·(intro wz aq;obtain⟨s0,s1,s2⟩:=aq;go_simp)
            (try with_reducible rfl)
           (try simp only[Act.put,nzL])
          generalize IntKind.i64.wrap ((QH.1.links j3).at_+1)=zz
          iterate 2
           refine cC 18 rfl rfl (by as_aux_lemma=>kernel_rfl) (fun K l=>?_);go_simp;refine l _ _ (fun _=>B) ?_;clear l K
           (try simp only[Act.put,nzL])
          have QK:=B.2.2;have d1:=(cD (j:=3) (OL _ _ S9) Fl (by omega) rfl).2;have GT:=((OL _ _ S9).lt QO rfl).2;have FZ:(D5.map (·.2.2)).Pairwise Apt:=by
           have e3:D5.map (·.2.2)=D3.map (·.2.2):=by have e4:=BC (List.map Prod.snd) (Fm.trans Gc);rw[List.map_map,List.map_map] at e4;exact e4
           rw[e3];exact UP
          have GK:=ae (S9.lnk FZ n7 EL Fl zz);clear FZ;refine af (i:=20) rfl (by as_aux_lemma=>kernel_rfl) (fun K l=>?_);go_simp;refine l _ _ (fun h=>absurd rfl h) ?_;clear l K B
          (try simp only[Act.put,nzL])
          refine aM (by as_aux_lemma=>kernel_rfl) ?_ _;clear QK d1 GT S9;go_wp2;go_roundg (r4.1.linksN - 1 - j3);case measure=>have:=fd.out;omega
          case rel=>exact⟨j3+1,D5.set k3 (atD QH.1 j3 zz,QH.2),(atD QH.1 j3 zz,QH.2),by have:=fd.out;omega,by go_num,IC.trans Fg,(Bf n7 _).trans Fm,I5 GQ,fd,GK⟩
        ·go_wp2
         go_roundg (D3.length - 1 - k3);case measure=>have:=ur.out;omega
         case rel=>exact⟨k3+1,D5,by have:=ur.out;omega,by go_num,Fg.trans ur,Fm.trans Gc,S8⟩
      ·go_wp2
       go_meet;exact⟨_,_,_,_,by omega,S7⟩
 case rest =>
 clear QR;obtain⟨a',c',q',D',He,S9⟩:=hcut;have bx:=S9.box.1;have rs:=S9.rs;have r0:wc.cell? (N (w.heap.size+1) 0 Z)=T (Y Z 0 0):=by simp[World.cell?,rs]
 have f0:wc.frozen? (N (w.heap.size+1) 0 Z)=QB:=by simp[World.frozen?,rs]
 have l0:=ai rs;have FN:=ae (S9.fin (by omega) He);clear rs;go_wp2;exact bp (v:=QG #[Y a' D'.length c']) (by simp[results,Tryz.results34,go_sem,r0]) rfl FN.out
end Go.Proofs.YtamacmnikdejeaaGreatDoor.Vp
