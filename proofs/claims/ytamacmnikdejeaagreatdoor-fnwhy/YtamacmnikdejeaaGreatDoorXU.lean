import Derived.Test.YtamacmnikdejeaaGreatDoorXP
import Derived.Test.YtamacmnikdejeaaGreatDoorZA
import Derived.Test.YtamacmnikdejeaaGreatDoorXC
set_option maxRecDepth 100000
set_option maxHeartbeats 40000000
open Go.Addr renaming mk->T
open Go.Value renaming slice->Y,string->U,int->I,bool->QT,agg->QV
open Option renaming none->Z,some->N
open Go.Obj renaming cells->Q
open Go.IntKind renaming i64->J
open Go renaming World->H
open Bool renaming false->QQ,true->QR
namespace Go.Proofs.YtamacmnikdejeaaGreatDoor.Vp
open RowKit Ca
theorem Fj:∃ i:TypeInfo,Tryz.prog.info? 129=N i/\i.zero=N (QV #[U ⟨#[]⟩,QT QQ,QT QQ,I J 0])/\i.size=4/\i.bytes=32:=JV oy
theorem jP {w:H}{base size n:Nat}{e:TypeId}{cs:Array Value}(hb:base<=w.heap.size)(c:n<=maxLen)(b:cs.size=n*size):(w.alloc (Q cs e)).ownsRow base e size (Y (N (T w.heap.size 0 Z)) n n) n cs.toList :=
 ⟨by simpa using b,.inr ⟨w.heap.size,n,cs,rfl,hb,cM w _,j5 _,c,b,by rw[J6];simp[b]⟩⟩
theorem AD (f:Nat->Link){n m:Nat}(h:m<=n):(bZ f n).take (m*4)=bZ f m:=by
 refine NM fun j=>?_;rw[NZ];have hn:=iK f n;have hm:=iK f m;by_cases b:j<m*4
 ·have e:j=j / 4*4+j % 4:=by omega
  rw[gA b,e,jA f (by omega) _ (NO _ (by omega)),jA f (by omega) _ (NO _ (by omega))]
 ·rw[eI b,J2 (by omega)]
theorem DG {w:H}{b g n m c:Nat}{f:Nat->Link}(h:w.ownsRow b 129 4 (Y (N (T g 0 Z)) n c) n (bZ f n))(q:m<=n):w.ownsRow b 129 4 (Y (N (T g 0 Z)) m c) m (bZ f m):=by
 refine⟨iK f m,?_⟩;rcases h.2 with ⟨i,_⟩ | ⟨g',cap,j,i,hb,r,hc,o,l,p⟩
 ·cases i
 ·cases i
  refine .inr ⟨g,c,j,rfl,hb,r,by omega,o,l,?_⟩;rw[<-AD f q,<-p,List.take_take,LE (by omega)]
theorem uz (f:Nat->Link)(n:Nat)(y:Link):bZ f n++dV y=bZ (fun i=>if i=n then y else f i) (n+1):=by
 unfold bZ;rw[KV,CV,HH];congr 1
 ·congr 1
  refine List.map_congr_left fun i hi=>?_;have:=H7.1 hi;rw[eI (by omega)]
 ·simp
theorem uA {w:H}{b:Nat}{i g c f:Int}{t:TypeId}{fz:Nat × Nat}(h:w.heap[b]?=N (Q #[I J i,I J g,I J c,I J f] t fz))(k:Nat)(l:k<4):∃ z,w.cell? (T b k Z)=N (I J z):=by
 match k,l with
 | 0,_=>exact⟨i,by simp[World.cell?,h]⟩
 | 1,_=>exact⟨g,by simp[World.cell?,h]⟩
 | 2,_=>exact⟨c,by simp[World.cell?,h]⟩
 | 3,_=>exact⟨f,by simp[World.cell?,h]⟩
 | j+4,h5=>exact absurd h5 (by omega)
def nw (W:H)(b:Nat):Nat:=match W.cell? (T b 5 Z) with
 | some (Y _ n _)=>n
 | _=>0
theorem LBx.len {W:H}{b n c:Nat}{j l i g f:Value}{a:Option Addr}(h:LBx W b j l i g f (Y a n c)):nw W b=n:=by unfold nw;rw[h.cells.2.2.2.2.2]
theorem pY (QZ:Nat)(hNN:200<=QZ/\QZ<=299)(w0:H)(R p t g c n:Nat)(f:Nat->Link)(nm tx:ByteArray)(C A:Int)(E:Option Addr)(B c4:Nat)(w:H)(hO:Only R w0 w)(hR:R<w0.heap.size)(hb:w0.heap.size<=t)(hbw:t<=w.heap.size)(hr:Rd w R p)(hp:p<=50000)(DE:w.ownsRow t 129 4 (Y (N (T g 0 Z)) n c) n (bZ f n))(hn:n<=QZ)(GD:∀ j,j<n->(f j).name.size<=5000):Calls Tryz.prog 79 #[.pointer (N (T R 0 Z)),QV #[U nm,I J C,I J A,U tx,Y E B c4,Y (N (T g 0 Z)) n c]] w fun e w'=>DL QZ w0 w R t g (U nm) (I J C) (I J A) (U tx) (Y E B c4) (p+10) e w':=by
 have L0:=ae (Fg (v0:=U nm) (v1:=I J C) (v2:=I J A) (v3:=U tx) (v4:=Y E B c4) hO hR hb hbw hr DE GD);obtain⟨DQ,hi,GE,Fk,GC⟩:=Fj;clear hO hR hb hbw hr DE GD;obtain⟨-,-,-,-,-,P⟩:=L0.bx.cells;have L:=L0.bx.lt;by_cases hz:n=0
 ·subst hz
  go_enter Tryz.func79,Tryz.ntmps79;go_wp2_with fail;generalize (w.alloc (Q #[U nm,I J C,I J A,U tx,Y E B c4,Y (N (T g 0 Z)) 0 c] 46)).alloc (Q #[U ⟨#[]⟩,I J 0,I J 0,U ⟨#[]⟩,Y Z 0 0,Y Z 0 0] 46)=W0 at L0 P L ⊢;clear P L;refine(dN R _ _ L0.rd (by omega)).mono ?_;rintro e w1 ⟨ln,rfl,GJ,aq,bt⟩;have L1:=ae (L0.only bt aq);clear bt aq L0;go_wp2_with fail;refine(aw R _ 2 _ L1.rd (by omega) (by omega) (by omega)).mono ?_;rintro e F ⟨z,rfl,ph,At,fd,la⟩;have r:=ae (L1.only la fd);clear la fd L1;rcases(show z=0∨z=1 by omega) with rfl | rfl
  ·skip
   have A3:=(q9 F).alloc ly (Q #[U ln,QT QQ,QT QR,I J 0] 129);have h2:=r.lt;have h3:=r.hbw;have O3:(F.alloc (Q #[U ln,QT QQ,QT QR,I J 0] 129)).ownsRow t 129 4 (Y (N (T F.heap.size 0 Z)) 1 1) 1 (bZ (fun _=>⟨ln,QQ,QR,0⟩) 1):=jP (cs:=#[U ln,QT QQ,QT QR,I J 0]) (by omega) (by unfold maxLen;omega) rfl;have l:=ae ((r.below A3).setB (me _ _) O3 (.inr (by omega)) (fun j _=>by show ln.size<=5000;omega));obtain⟨-,-,-,-,-,P⟩:=r.bx.cells;have bz:=r.bx.fz 5;have L:=r.bx.lt;rw[World.setCell_alloc_past _ _ _ _ L] at l;clear A3 O3;go_upto_region 3 with fail;generalize (F.setCell (T w.heap.size 5 Z) (Y (N (T F.heap.size 0 Z)) 1 1)).alloc (Q #[U ln,QT QQ,QT QR,I J 0] 129)=W3 at l ⊢;clear P bz L;obtain⟨b0,b1,b2,b3,b4,P⟩:=l.bx.cells;obtain⟨r0,r1,r2,r3,r4,r5⟩:=l.rs.cells;have z0:=l.rs.fz 0;have z1:=l.rs.fz 1;have z2:=l.rs.fz 2;have z3:=l.rs.fz 3;have z4:=l.rs.fz 4;have z5:=l.rs.fz 5;have L:=l.bx.lt;have lr:=l.rs.lt;have FN:=ae (l.fin (QZ:=QZ) (Q0:=p+10) (by omega) (by omega) (U nm) (I J C) (I J A) (U tx) (Y E B c4) (Y (N (T F.heap.size 0 Z)) 1 1));have FB:=ae (l.rs.six (U nm) (I J C) (I J A) (U tx) (Y E B c4) (Y (N (T F.heap.size 0 Z)) 1 1));go_wp2;generalize (((((W3.setCell (T (w.heap.size+1) 0 Z) (U nm)).setCell (T (w.heap.size+1) 1 Z) (I J C)).setCell (T (w.heap.size+1) 2 Z) (I J A)).setCell (T (w.heap.size+1) 3 Z) (U tx)).setCell (T (w.heap.size+1) 4 Z) (Y E B c4)).setCell (T (w.heap.size+1) 5 Z) (Y (N (T F.heap.size 0 Z)) 1 1)=V at FN FB ⊢;obtain⟨x0,x1,x2,x3,x4,x5⟩:=FB.cells;exact bp (v:=QV #[U nm,I J C,I J A,U tx,Y E B c4,Y (N (T F.heap.size 0 Z)) 1 1]) (by simp[results,Tryz.results79,go_sem,x0,x1,x2,x3,x4,x5]) rfl FN.out
  ·skip
   have A3:=(q9 F).alloc ly (Q #[U ln,QT QQ,QT QQ,I J 0] 129);have h2:=r.lt;have h3:=r.hbw;have O3:(F.alloc (Q #[U ln,QT QQ,QT QQ,I J 0] 129)).ownsRow t 129 4 (Y (N (T F.heap.size 0 Z)) 1 1) 1 (bZ (fun _=>⟨ln,QQ,QQ,0⟩) 1):=jP (cs:=#[U ln,QT QQ,QT QQ,I J 0]) (by omega) (by unfold maxLen;omega) rfl;have l:=ae ((r.below A3).setB (me _ _) O3 (.inr (by omega)) (fun j _=>by show ln.size<=5000;omega));obtain⟨-,-,-,-,-,P⟩:=r.bx.cells;have bz:=r.bx.fz 5;have L:=r.bx.lt;rw[World.setCell_alloc_past _ _ _ _ L] at l;clear A3 O3;go_upto_region 3 with fail;generalize (F.setCell (T w.heap.size 5 Z) (Y (N (T F.heap.size 0 Z)) 1 1)).alloc (Q #[U ln,QT QQ,QT QQ,I J 0] 129)=W3 at l ⊢;clear P bz L;obtain⟨b0,b1,b2,b3,b4,P⟩:=l.bx.cells;obtain⟨r0,r1,r2,r3,r4,r5⟩:=l.rs.cells;have z0:=l.rs.fz 0;have z1:=l.rs.fz 1;have z2:=l.rs.fz 2;have z3:=l.rs.fz 3;have z4:=l.rs.fz 4;have z5:=l.rs.fz 5;have L:=l.bx.lt;have lr:=l.rs.lt;have FN:=ae (l.fin (QZ:=QZ) (Q0:=p+10) (by omega) (by omega) (U nm) (I J C) (I J A) (U tx) (Y E B c4) (Y (N (T F.heap.size 0 Z)) 1 1));have FB:=ae (l.rs.six (U nm) (I J C) (I J A) (U tx) (Y E B c4) (Y (N (T F.heap.size 0 Z)) 1 1));go_wp2;generalize (((((W3.setCell (T (w.heap.size+1) 0 Z) (U nm)).setCell (T (w.heap.size+1) 1 Z) (I J C)).setCell (T (w.heap.size+1) 2 Z) (I J A)).setCell (T (w.heap.size+1) 3 Z) (U tx)).setCell (T (w.heap.size+1) 4 Z) (Y E B c4)).setCell (T (w.heap.size+1) 5 Z) (Y (N (T F.heap.size 0 Z)) 1 1)=V at FN FB ⊢;obtain⟨x0,x1,x2,x3,x4,x5⟩:=FB.cells;exact bp (v:=QV #[U nm,I J C,I J A,U tx,Y E B c4,Y (N (T F.heap.size 0 Z)) 1 1]) (by simp[results,Tryz.results79,go_sem,x0,x1,x2,x3,x4,x5]) rfl FN.out
 have nz:¬ ((n:Int)=0):=by omega
 go_enter Tryz.func79,Tryz.ntmps79;go_wp2_with fail;generalize (w.alloc (Q #[U nm,I J C,I J A,U tx,Y E B c4,Y (N (T g 0 Z)) n c] 46)).alloc (Q #[U ⟨#[]⟩,I J 0,I J 0,U ⟨#[]⟩,Y Z 0 0,Y Z 0 0] 46)=W0 at L0 P L ⊢;refine(aw R _ (n:Int) _ L0.rd (by omega) (by omega) (by omega)).mono ?_;rintro e w1 ⟨z,rfl,ph,At,aq,bt⟩;obtain⟨k,rfl⟩:=nL ph;have G:k<n:=by omega
 have L1:=ae (L0.only bt aq);clear bt aq L0 P L ph At;go_wp2_with fail;refine(aw R _ 7 _ L1.rd (by omega) (by omega) (by omega)).mono ?_;rintro e F ⟨s,rfl,hs0,hs1,fd,la⟩;have r:=ae (L1.only la fd);clear la fd L1;have hn1:=r.nm k G;have SB:Hid (∀ V:H,LBx V w.heap.size (U nm) (I J C) (I J A) (U tx) (Y E B c4) (Y (N (T g 0 Z)) n c)->V.cell? (T w.heap.size 5 Z)=N (Y (N (T g 0 Z)) n c)):=fun V h=>h.cells.2.2.2.2.2;go_upto_block 0 with fail;go_cut [] (fun wx=>∃ (q' X Q9 QW:Nat) (f':Nat->Link),q'<=p+10/\Q9<=QZ+1/\Hid (LStD w0 w R t g (U nm) (I J C) (I J A) (U tx) (Y E B c4) wx q' X Q9 QW f'));case rest =>clear r SB hn1;obtain⟨q',X,Q9,QW,f',hq',GI,q⟩:=hcut;go_upto_region 21 with fail;obtain⟨b0,b1,b2,b3,b4,P⟩:=q.bx.cells;obtain⟨r0,r1,r2,r3,r4,r5⟩:=q.rs.cells;have z0:=q.rs.fz 0;have z1:=q.rs.fz 1;have z2:=q.rs.fz 2;have z3:=q.rs.fz 3;have z4:=q.rs.fz 4;have z5:=q.rs.fz 5;have L:=q.bx.lt;have lr:=q.rs.lt;have FN:=ae (q.fin (QZ:=QZ) (Q0:=p+10) (by omega) (by omega) (U nm) (I J C) (I J A) (U tx) (Y E B c4) (Y (N (T X 0 Z)) Q9 QW));have FB:=ae (q.rs.six (U nm) (I J C) (I J A) (U tx) (Y E B c4) (Y (N (T X 0 Z)) Q9 QW));go_wp2;generalize (((((wc.setCell (T (w.heap.size+1) 0 Z) (U nm)).setCell (T (w.heap.size+1) 1 Z) (I J C)).setCell (T (w.heap.size+1) 2 Z) (I J A)).setCell (T (w.heap.size+1) 3 Z) (U tx)).setCell (T (w.heap.size+1) 4 Z) (Y E B c4)).setCell (T (w.heap.size+1) 5 Z) (Y (N (T X 0 Z)) Q9 QW)=V at FN FB ⊢;obtain⟨x0,x1,x2,x3,x4,x5⟩:=FB.cells;exact bp (v:=QV #[U nm,I J C,I J A,U tx,Y E B c4,Y (N (T X 0 Z)) Q9 QW]) (by simp[results,Tryz.results79,go_sem,x0,x1,x2,x3,x4,x5]) rfl FN.out
 rcases(show s=0∨s=1∨s=2∨s=3∨s=4∨s=5∨s=6 by omega) with rfl | rfl | rfl | rfl | rfl | rfl | rfl
 ·go_wp2_with fail
  refine aH (fun V=>V.cell? (T w.heap.size 5 Z)=N (Y (N (T g 0 Z)) n c)) 7 (by as_aux_lemma=>kernel_rfl) ?_;have l:=ae (r.below br.drew);clear r;generalize F.drew=x at l ⊢;have o:=ae (SB x l.bx)
  iterate 4
   refine aO 0 (v:=?_) rfl rfl (by as_aux_lemma=>kernel_rfl) (fun _ _ _ h=>h) rfl ?_ o ?_;rotate_left
   ·(intro wz s0;go_simp)
    (try with_reducible rfl)
   (try simp only[Act.put,nzL])
  refine af (i:=4) rfl (by as_aux_lemma=>kernel_rfl) (fun K b=>?_);go_simp;go_at_call 60;refine(dN R _ _ l.rd (by omega)).mono ?_;rintro e ZB ⟨ln,rfl,GJ,QY,S⟩;have q:=ae (l.only S QY);clear S QY l o;have o:=ae (SB ZB q.bx);refine b _ _ (fun _=>o) ?_;clear b K
  (try simp only[Act.put,nzL])
  refine af (i:=5) rfl (by as_aux_lemma=>kernel_rfl) (fun K b=>?_);go_simp;refine b _ _ (fun _=>o) ?_;clear b K
  (try simp only[Act.put,nzL])
  refine af (i:=6) rfl (by as_aux_lemma=>kernel_rfl) (fun K b=>?_);go_simp;refine b _ _ (fun _=>o) ?_;clear b K
  (try simp only[Act.put,nzL])
  obtain⟨M,d1⟩:=cI (j:=0) q.own G (by omega) rfl;rw[KJ] at M d1;have gl:=q.gne.2.2.2;have D:Hid (LStD w0 w R t g (U nm) (I J C) (I J A) (U tx) (Y E B c4) (ZB.setCell (T g (k*4) Z) (U ln)) _ g n c _):=q.setL (j:=0) (y:={ f k with name:=ln }) (u:=U ln) G (by omega) rfl (by show ln.size<=5000;omega);refine af (i:=7) rfl (by as_aux_lemma=>kernel_rfl) (fun K b=>?_);go_simp;refine b _ _ (fun h=>absurd rfl h) ?_;clear b K o
  (try simp only[Act.put,nzL])
  refine aN (by as_aux_lemma=>kernel_rfl) ?_ _;clear M d1 gl q;go_wp2;go_meet;exact⟨_,_,_,_,_,by omega,by omega,D⟩
 ·skip
  go_wp2_with fail;refine aH (fun V=>V.cell? (T w.heap.size 5 Z)=N (Y (N (T g 0 Z)) n c)/\V.cell? (T g (k*4+1) Z)=N (QT (f k).ask)) 12 (by as_aux_lemma=>kernel_rfl) ?_;have l:=ae (r.below br.drew);clear r;generalize F.drew=x at l ⊢;obtain⟨M,d1⟩:=cI (j:=1) l.own G (by omega) rfl;have o:Hid (x.cell? (T w.heap.size 5 Z)=N (Y (N (T g 0 Z)) n c)/\x.cell? (T g (k*4+1) Z)=N (QT (f k).ask)):=⟨SB x l.bx,M⟩
  clear M
  iterate 10
   refine aO 0 (v:=?_) rfl rfl (by as_aux_lemma=>kernel_rfl) (fun _ _ _ h=>h) rfl ?_ o ?_;rotate_left
   ·(intro wz QX;obtain⟨s0,s1⟩:=QX;go_simp)
    (try with_reducible rfl)
   (try simp only[Act.put,nzL])
  refine af (i:=10) rfl (by as_aux_lemma=>kernel_rfl) (fun K b=>?_);go_simp;refine b _ _ (fun _=>o) ?_;clear b K
  (try simp only[Act.put,nzL])
  refine af (i:=11) rfl (by as_aux_lemma=>kernel_rfl) (fun K b=>?_);go_simp;refine b _ _ (fun _=>o) ?_;clear b K
  (try simp only[Act.put,nzL])
  have M:=o.2;have gl:=l.gne.2.2.2;have D:Hid (LStD w0 w R t g (U nm) (I J C) (I J A) (U tx) (Y E B c4) (x.setCell (T g (k*4+1) Z) (QT (!(f k).ask))) _ g n c _):=l.setL (j:=1) (y:={ f k with ask:=!(f k).ask }) (u:=QT (!(f k).ask)) G (by omega) rfl hn1;refine af (i:=12) rfl (by as_aux_lemma=>kernel_rfl) (fun K b=>?_);go_simp;refine b _ _ (fun h=>absurd rfl h) ?_;clear b K o
  (try simp only[Act.put,nzL])
  refine aN (by as_aux_lemma=>kernel_rfl) ?_ _;clear M d1 gl l;go_wp2;go_meet;exact⟨_,_,_,_,_,by omega,by omega,D⟩
 ·skip
  go_wp2_with fail;refine aH (fun V=>V.cell? (T w.heap.size 5 Z)=N (Y (N (T g 0 Z)) n c)/\V.cell? (T g (k*4+2) Z)=N (QT (f k).has)) 12 (by as_aux_lemma=>kernel_rfl) ?_;have l:=ae (r.below br.drew);clear r;generalize F.drew=x at l ⊢;obtain⟨M,d1⟩:=cI (j:=2) l.own G (by omega) rfl;have o:Hid (x.cell? (T w.heap.size 5 Z)=N (Y (N (T g 0 Z)) n c)/\x.cell? (T g (k*4+2) Z)=N (QT (f k).has)):=⟨SB x l.bx,M⟩
  clear M
  iterate 10
   refine aO 0 (v:=?_) rfl rfl (by as_aux_lemma=>kernel_rfl) (fun _ _ _ h=>h) rfl ?_ o ?_;rotate_left
   ·(intro wz QX;obtain⟨s0,s1⟩:=QX;go_simp)
    (try with_reducible rfl)
   (try simp only[Act.put,nzL])
  refine af (i:=10) rfl (by as_aux_lemma=>kernel_rfl) (fun K b=>?_);go_simp;refine b _ _ (fun _=>o) ?_;clear b K
  (try simp only[Act.put,nzL])
  refine af (i:=11) rfl (by as_aux_lemma=>kernel_rfl) (fun K b=>?_);go_simp;refine b _ _ (fun _=>o) ?_;clear b K
  (try simp only[Act.put,nzL])
  have M:=o.2;have gl:=l.gne.2.2.2;have D:Hid (LStD w0 w R t g (U nm) (I J C) (I J A) (U tx) (Y E B c4) (x.setCell (T g (k*4+2) Z) (QT (!(f k).has))) _ g n c _):=l.setL (j:=2) (y:={ f k with has:=!(f k).has }) (u:=QT (!(f k).has)) G (by omega) rfl hn1;refine af (i:=12) rfl (by as_aux_lemma=>kernel_rfl) (fun K b=>?_);go_simp;refine b _ _ (fun h=>absurd rfl h) ?_;clear b K o
  (try simp only[Act.put,nzL])
  refine aN (by as_aux_lemma=>kernel_rfl) ?_ _;clear M d1 gl l;go_wp2;go_meet;exact⟨_,_,_,_,_,by omega,by omega,D⟩
 ·go_wp2_with fail
  refine aH (fun V=>V.cell? (T w.heap.size 5 Z)=N (Y (N (T g 0 Z)) n c)/\V.cell? (T g (k*4+3) Z)=N (I J (f k).at_)) 17 (by as_aux_lemma=>kernel_rfl) ?_;have l:=ae (r.below br.drew);clear r;generalize F.drew=x at l ⊢;have o:Hid (x.cell? (T w.heap.size 5 Z)=N (Y (N (T g 0 Z)) n c)/\x.cell? (T g (k*4+3) Z)=N (I J (f k).at_)):=⟨SB x l.bx,(cI (j:=3) l.own G (by omega) rfl).1⟩
  iterate 10
   refine aO 0 (v:=?_) rfl rfl (by as_aux_lemma=>kernel_rfl) (fun _ _ _ h=>h) rfl ?_ o ?_;rotate_left
   ·(intro wz QX;obtain⟨s0,s1⟩:=QX;go_simp)
    (try with_reducible rfl)
   (try simp only[Act.put,nzL])
  refine aO 11 (v:=?_) rfl rfl (by as_aux_lemma=>kernel_rfl) (fun _ _ _ h=>h) rfl ?_ o ?_;rotate_left
  ·(intro wz QX;obtain⟨s0,s1⟩:=QX;go_simp)
   (try with_reducible rfl)
  (try simp only[Act.put,nzL])
  generalize IntKind.i64.wrap ((f k).at_+1)=ax;refine ox (i:=10) (j:=12) rfl rfl (by as_aux_lemma=>kernel_rfl) (fun K b=>?_) (fun K b=>?_)
  ·skip
   go_simp;have A4:=(q9 x).alloc ly (Q #[I J (-1),I J 0,I J ax,I J 400] 3);have W:Hid ((x.alloc (Q #[I J (-1),I J 0,I J ax,I J 400] 3)).heap[x.heap.size]?=N (Q #[I J (-1),I J 0,I J ax,I J 400] 3 (0,0))):=cM x _;have q:=ae (l.below A4);have n8:=l.lt;have qr:=l.hbw;have th:=l.hR;have ur:=l.hb;have n9:x.heap.size≠R:=by omega
   clear A4 o n8 qr th ur;generalize x.alloc (Q #[I J (-1),I J 0,I J ax,I J 400] 3)=ZB at q W ⊢;generalize x.heap.size=Fm at W n9 ⊢;have o:Hid (ZB.cell? (T w.heap.size 5 Z)=N (Y (N (T g 0 Z)) n c)/\ZB.cell? (T g (k*4+3) Z)=N (I J (f k).at_)):=⟨SB ZB q.bx,(cI (j:=3) q.own G (by omega) rfl).1⟩
   refine b _ _ (fun _=>o) ?_;clear b K
   (try simp only[Act.put,nzL])
   refine af (i:=12) rfl (by as_aux_lemma=>kernel_rfl) (fun K b=>?_);go_simp;go_at_call 33;refine(aw R _ 4 _ q.rd (by omega) (by omega) (by omega)).mono ?_;rintro e Q2 ⟨z4,rfl,mv,GF,QY,S⟩;obtain⟨m,rfl⟩:=nL mv;have hm:m<4:=by omega
   have D:=ae (q.only S QY);have W:=ae ((S.block Fm (ai W) n9).trans W);clear S QY q o;have o:Hid (Q2.cell? (T w.heap.size 5 Z)=N (Y (N (T g 0 Z)) n c)/\Q2.cell? (T g (k*4+3) Z)=N (I J (f k).at_)):=⟨SB Q2 D.bx,(cI (j:=3) D.own G (by omega) rfl).1⟩
   refine b _ _ (fun _=>o) ?_;clear b K
   (try simp only[Act.put,nzL])
   obtain⟨zz,sm⟩:=uA W m hm;refine af (i:=13) rfl (by as_aux_lemma=>kernel_rfl) (fun K b=>?_);go_simp;refine b _ _ (fun _=>o) ?_;clear b K
   (try simp only[Act.put,nzL])
   refine af (i:=14) rfl (by as_aux_lemma=>kernel_rfl) (fun K b=>?_);go_simp;refine b _ _ (fun _=>o) ?_;clear b K
   (try simp only[Act.put,nzL])
   refine af (i:=15) rfl (by as_aux_lemma=>kernel_rfl) (fun K b=>?_);go_simp;refine b _ _ (fun _=>o) ?_;clear b K
   (try simp only[Act.put,nzL])
   refine af (i:=16) rfl (by as_aux_lemma=>kernel_rfl) (fun K b=>?_);go_simp;refine b _ _ (fun _=>o) ?_;clear b K
   (try simp only[Act.put,nzL])
   have M:=o.2;have d1:=(cI (j:=3) D.own G (by omega) rfl).2;have gl:=D.gne.2.2.2;have L7:Hid (LStD w0 w R t g (U nm) (I J C) (I J A) (U tx) (Y E B c4) (Q2.setCell (T g (k*4+3) Z) (I J zz)) _ g n c _):=D.setL (j:=3) (y:={ f k with at_:=zz }) (u:=I J zz) G (by omega) rfl hn1;refine af (i:=17) rfl (by as_aux_lemma=>kernel_rfl) (fun K b=>?_);go_simp;refine b _ _ (fun h=>absurd rfl h) ?_;clear b K o
   (try simp only[Act.put,nzL])
   refine aN (by as_aux_lemma=>kernel_rfl) ?_ _;clear M d1 gl D sm W;go_wp2;go_meet;exact⟨_,_,_,_,_,by omega,by omega,L7⟩
  ·skip
   go_simp;go_at_call 33;refine(aw R _ 4 _ l.rd (by omega) (by omega) (by omega)).mono ?_;rintro e ZB ⟨z4,rfl,mv,GF,QY,S⟩;obtain⟨m,rfl⟩:=nL mv;have hm:m<4:=by omega
   have q:=ae (l.only S QY);clear S QY l o;have o:Hid (ZB.cell? (T w.heap.size 5 Z)=N (Y (N (T g 0 Z)) n c)/\ZB.cell? (T g (k*4+3) Z)=N (I J (f k).at_)):=⟨SB ZB q.bx,(cI (j:=3) q.own G (by omega) rfl).1⟩
   refine b _ _ (fun _=>o) ?_;clear b K
   (try simp only[Act.put,nzL])
   refine af (i:=10) rfl (by as_aux_lemma=>kernel_rfl) (fun K b=>?_);go_simp;have A4:=(q9 ZB).alloc ly (Q #[I J (-1),I J 0,I J ax,I J 400] 3);have W:Hid ((ZB.alloc (Q #[I J (-1),I J 0,I J ax,I J 400] 3)).heap[ZB.heap.size]?=N (Q #[I J (-1),I J 0,I J ax,I J 400] 3 (0,0))):=cM ZB _;have D:=ae (q.below A4);have n8:=q.lt;have qr:=q.hbw;have th:=q.hR;have ur:=q.hb;have n9:ZB.heap.size≠R:=by omega
   clear A4 o n8 qr th ur;generalize ZB.alloc (Q #[I J (-1),I J 0,I J ax,I J 400] 3)=Q2 at D W ⊢;generalize ZB.heap.size=Fm at W n9 ⊢;have o:Hid (Q2.cell? (T w.heap.size 5 Z)=N (Y (N (T g 0 Z)) n c)/\Q2.cell? (T g (k*4+3) Z)=N (I J (f k).at_)):=⟨SB Q2 D.bx,(cI (j:=3) D.own G (by omega) rfl).1⟩
   refine b _ _ (fun _=>o) ?_;clear b K
   (try simp only[Act.put,nzL])
   obtain⟨zz,sm⟩:=uA W m hm;refine af (i:=13) rfl (by as_aux_lemma=>kernel_rfl) (fun K b=>?_);go_simp;refine b _ _ (fun _=>o) ?_;clear b K
   (try simp only[Act.put,nzL])
   refine af (i:=14) rfl (by as_aux_lemma=>kernel_rfl) (fun K b=>?_);go_simp;refine b _ _ (fun _=>o) ?_;clear b K
   (try simp only[Act.put,nzL])
   refine af (i:=15) rfl (by as_aux_lemma=>kernel_rfl) (fun K b=>?_);go_simp;refine b _ _ (fun _=>o) ?_;clear b K
   (try simp only[Act.put,nzL])
   refine af (i:=16) rfl (by as_aux_lemma=>kernel_rfl) (fun K b=>?_);go_simp;refine b _ _ (fun _=>o) ?_;clear b K
   (try simp only[Act.put,nzL])
   have M:=o.2;have d1:=(cI (j:=3) D.own G (by omega) rfl).2;have gl:=D.gne.2.2.2;have L7:Hid (LStD w0 w R t g (U nm) (I J C) (I J A) (U tx) (Y E B c4) (Q2.setCell (T g (k*4+3) Z) (I J zz)) _ g n c _):=D.setL (j:=3) (y:={ f k with at_:=zz }) (u:=I J zz) G (by omega) rfl hn1;refine af (i:=17) rfl (by as_aux_lemma=>kernel_rfl) (fun K b=>?_);go_simp;refine b _ _ (fun h=>absurd rfl h) ?_;clear b K o
   (try simp only[Act.put,nzL])
   refine aN (by as_aux_lemma=>kernel_rfl) ?_ _;clear M d1 gl D sm W;go_wp2;go_meet;exact⟨_,_,_,_,_,by omega,by omega,L7⟩
 ·obtain⟨m,rfl⟩:∃ m,n=m+1:=⟨n - 1,by omega⟩
  have hcap:=jO r.own;obtain⟨-,-,-,-,-,P⟩:=r.bx.cells;have bz:=r.bx.fz 5;have L:=r.bx.lt;have l:=ae (r.setB (me _ _) (DG r.own (vF m)) (.inl rfl) (fun j hj=>r.nm j (by omega)));have hw:IntKind.i64.wrap (((m+1:Nat):Int) - 1)=(m:Int):=by rw[j6];omega
  go_wp2;go_meet;exact⟨_,_,_,_,_,by omega,by omega,l⟩
 ·go_wp2_with fail
  refine aH (fun V=>V.cell? (T w.heap.size 5 Z)=N (Y (N (T g 0 Z)) n c)) 10 (by as_aux_lemma=>kernel_rfl) ?_;have l:=ae (r.below br.drew);clear r;generalize F.drew=x at l ⊢;have o:=ae (SB x l.bx)
  iterate 6
   refine aO 0 (v:=?_) rfl rfl (by as_aux_lemma=>kernel_rfl) (fun _ _ _ h=>h) rfl ?_ o ?_;rotate_left
   ·(intro wz s0;go_simp)
    (try with_reducible rfl)
   (try simp only[Act.put,nzL])
  have e0:=(cI (j:=0) l.own G (by omega) rfl).1;have e1:=(cI (j:=1) l.own G (by omega) rfl).1;have e2:=(cI (j:=2) l.own G (by omega) rfl).1;have e3:=(cI (j:=3) l.own G (by omega) rfl).1;rw[KJ] at e0;refine af (i:=6) rfl (by as_aux_lemma=>kernel_rfl) (fun K b=>?_);go_simp;refine b _ _ (fun _=>o) ?_;clear b K
  (try simp only[Act.put,nzL])
  clear e0 e1 e2 e3;refine af (i:=7) rfl (by as_aux_lemma=>kernel_rfl) (fun K b=>?_);go_simp;have A4:=(q9 x).alloc ly (Q #[U (f k).name,QT (f k).ask,QT (f k).has,I J (f k).at_] 129);have q:=ae (l.below A4);have HN:Hid (∀ j u,(dV (f k))[j]?=N u->(x.alloc (Q #[U (f k).name,QT (f k).ask,QT (f k).has,I J (f k).at_] 129)).cell? (((T x.heap.size 0 Z):Addr).add j)=N u):=(jP (base:=0) (e:=129) (size:=4) (n:=1) (cs:=#[U (f k).name,QT (f k).ask,QT (f k).has,I J (f k).at_]) (AI _) (by unfold maxLen;omega) rfl).cells rfl;have hl3:=l.lt;have hl3':=l.hbw;have hz3:(x.alloc (Q #[U (f k).name,QT (f k).ask,QT (f k).has,I J (f k).at_] 129)).heap.size=x.heap.size+1:=by simp
  clear A4 o;have o:=ae (SB _ q.bx);refine b _ _ (fun _=>o) ?_;clear b K
  (try simp only[Act.put,nzL])
  refine af (i:=8) rfl (by as_aux_lemma=>kernel_rfl) (fun K b=>?_);refine step_append_lies _ rfl (.tmp 110) (.tmp 116) 44 rfl t 129 DQ (QV #[U ⟨#[]⟩,QT QQ,QT QQ,I J 0]) 4 32 Tryz.underlying44 hi GE Fk GC rfl (by decide) (Y (N (T g 0 Z)) n c) n (bZ f n) (by simp[Act.eval]) q.own (T x.heap.size 0 Z) 1 1 (dV (f k)) (by simp[Act.eval]) rfl HN.out (by simp[dV,Value.oneCell']) (by omega) (by unfold maxLen;omega) (by omega) (by omega) _ rfl ?_;intro g5 c5 Q2 O ZA ld Fn;rw[uz f n (f k)] at O;have G5:=ae ZA;have O5:=ae O;have ro:g5=g∨w.heap.size<=g5:=by
   rcases ld with h | h
   ·exact .inl (by simpa[Value.ownBlock] using h.symm)
   ·exact .inr (by omega)
  have BX:Hid (LBx Q2 w.heap.size (U nm) (I J C) (I J A) (U tx) (Y E B c4) (Y (N (T g 0 Z)) n c)):=q.bx.blk (ZA.block _ q.bx.lt (fun e=>q.gne.1 (by simpa[Value.ownBlock] using e.symm)));clear O ZA ld Fn HN o;have o:=ae (SB Q2 BX);refine b _ _ (fun _=>o) ?_;clear b K
  (try simp only[Act.put,nzL])
  refine af (i:=9) rfl (by as_aux_lemma=>kernel_rfl) (fun K b=>?_);go_simp;refine b _ _ (fun _=>o) ?_;clear b K
  (try simp only[Act.put,nzL])
  have L6:=ae (q.setB G5 O5 ro (fun j hj=>by show(if j=n then f k else f j).name.size<=5000;split;exact hn1;exact q.nm j (by omega)));obtain⟨-,-,-,-,-,P⟩:=BX.cells;have bz:=BX.fz 5;have L:=BX.lt;refine af (i:=10) rfl (by as_aux_lemma=>kernel_rfl) (fun K b=>?_);go_simp;refine b _ _ (fun h=>absurd rfl h) ?_;clear b K o
  (try simp only[Act.put,nzL])
  refine aN (by as_aux_lemma=>kernel_rfl) ?_ _;clear P bz L BX G5 O5 q;go_wp2;go_meet;exact⟨_,_,_,_,_,by omega,by omega,L6⟩
 ·go_wp2_with fail
  refine(aw R _ 2 _ r.rd (by omega) (by omega) (by omega)).mono ?_;rintro e w3 ⟨z,rfl,ph,At,Fd,Bk⟩;have l:=ae (r.only Bk Fd);clear Bk Fd r hn1 SB G;have hw:IntKind.i64.wrap (200+z)=200+z:=by rw[j6];omega
  go_wp2_with fail;go_loopw [] (fun wr=>∃ (X Q9 QW:Nat) (f':Nat->Link),Q9<=QZ+1/\Hid (LStD w0 w R t g (U nm) (I J C) (I J A) (U tx) (Y E B c4) wr (p+1+1+1) X Q9 QW f')) (fun wr=>300 - nw wr w.heap.size);case atStart=>exact⟨g,n,c,f,by omega,l⟩
  case round =>
   obtain⟨X,Q9,QW,f',GI,q⟩:=hrel;obtain⟨-,-,-,-,-,P⟩:=q.bx.cells;have L:=q.bx.lt;have n8:=q.lt;have qr:=q.hbw;clear l;by_cases Fn:(Q9:Int)<200+z
   ·have D:=ae (q.below ((q9 wr).alloc ly (Q #[U ⟨#[97]⟩,QT QQ,QT QR,I J 0] 129)))
    have HN:Hid (∀ j u,(dV ⟨⟨#[97]⟩,QQ,QR,0⟩)[j]?=N u->(wr.alloc (Q #[U ⟨#[97]⟩,QT QQ,QT QR,I J 0] 129)).cell? (((T wr.heap.size 0 Z):Addr).add j)=N u):=(jP (base:=0) (e:=129) (size:=4) (n:=1) (cs:=#[U ⟨#[97]⟩,QT QQ,QT QR,I J 0]) (AI _) (by unfold maxLen;omega) rfl).cells rfl;have hz5:(wr.alloc (Q #[U ⟨#[97]⟩,QT QQ,QT QR,I J 0] 129)).heap.size=wr.heap.size+1:=by simp
    go_wp2_with (at_builtin;refine wpList_append_lies _ rfl (.tmp 36) (.tmp 38) 44 rfl t 129 DQ (QV #[U ⟨#[]⟩,QT QQ,QT QQ,I J 0]) 4 32 Tryz.underlying44 hi GE Fk GC rfl (by decide) (Y (N (T X 0 Z)) Q9 QW) Q9 (bZ f' Q9) (by simp[Act.eval]) D.own (T wr.heap.size 0 Z) 1 1 (dV ⟨⟨#[97]⟩,QQ,QR,0⟩) (by simp[Act.eval]) rfl HN.out (by simp[dV,Value.oneCell']) (by omega) (by unfold maxLen;omega) (by omega) (by omega) _ rfl ?_;intro g5 c5 Q2 O ZA ld GH;have BX:Hid (LBx Q2 w.heap.size (U nm) (I J C) (I J A) (U tx) (Y E B c4) (Y (N (T X 0 Z)) Q9 QW)):=D.bx.blk (ZA.block _ D.bx.lt (fun e=>D.gne.1 (by simpa[Value.ownBlock] using e.symm)));rw[uz f' Q9] at O;have ro:g5=X∨w.heap.size<=g5:=(by rcases ld with h | h;exact .inl (by simpa[Value.ownBlock] using h.symm);exact .inr (by omega));have L6:=ae (D.setB ZA O ro (fun j hj=>(by show(if j=Q9 then (⟨⟨#[97]⟩,QQ,QR,0⟩:Link) else f' j).name.size<=5000;split;exact(by decide);exact D.nm j (by omega))));obtain⟨-,-,-,-,-,q5⟩:=BX.cells;have qz:=BX.fz 5;have ql:=BX.lt;clear O ZA ld GH ro);refine⟨⟨g5,Q9+1,c5,_,by omega,L6⟩,?_⟩;have e1:=q.bx.len;have e2:=L6.bx.len;show 300 - nw _ _<300 - nw _ _;rw[e1,e2];omega
   ·skip
    go_wp2;go_meet;exact⟨_,_,_,_,_,by omega,by omega,q⟩
theorem uB {w:H}{b:Nat}{i g f c:ByteArray}{t:TypeId}{fz:Nat × Nat}(h:w.heap[b]?=N (Q #[U i,U g,U f,U c] t fz))(m:i.size<=5000)(h1:g.size<=5000)(h2:f.size<=5000)(n:c.size<=5000)(k:Nat)(l:k<4):∃ s:ByteArray,s.size<=5000/\w.cell? (T b k Z)=N (U s):=by
 match k,l with
 | 0,_=>exact⟨i,m,by simp[World.cell?,h]⟩
 | 1,_=>exact⟨g,h1,by simp[World.cell?,h]⟩
 | 2,_=>exact⟨f,h2,by simp[World.cell?,h]⟩
 | 3,_=>exact⟨c,n,by simp[World.cell?,h]⟩
 | j+4,h5=>exact absurd h5 (by omega)
theorem DP.up {w:H}{R q lo n m:Nat}{e:Ending}{w':H}(h:DP w R q lo n e w')(hn:n<=m):DP w R q lo m e w':=by obtain⟨L,g,c,h1,h2,f,b,i⟩:=h;exact⟨L,g,c,h1,h2,f,j4 b hn,i⟩
theorem AE {K:Nat}{W:H}{f R p c ca:Nat}{r:DR}(h:DSub W f r)(q:r.2.1=Y (N (T c 0 Z)) r.1.actN ca)(hR:Rd W R p)(g:p<=20000)(j:FitK K r.1)(hK:K<=80):Calls Tryz.prog 78 #[.pointer (N (T R 0 Z)),QV #[Y (N (T c 0 Z)) r.1.actN ca]] W fun e o=>DP W R (p+1000) 0 (200+K+1) e o:=by
 by_cases i:r.1.actN=0
 ·rw[i]
  exact(vI R p c ca W hR g).mono fun _ _ h=>h.up (by omega)
 ·obtain⟨a,cap,e,l⟩:=h.ins
  rw[q] at e;obtain⟨rfl,-,-⟩:=NF e;rcases l with h1 | ⟨b,off,n,m⟩
  ·exact absurd h1 i
  ·cases n
   exact ni (200+K) ⟨by omega,by omega⟩ R p c ca r.1.actN r.1.act W hR g m ⟨by omega,j.an⟩ j.asz
theorem AF (GU:yH)(K0 KK:Nat)(hK0:K0+1<=KK)(hKK:KK<=50)(R p:Nat)(a:Option Addr)(n cap:Nat)(f:Nat->aj)(w:H)(hf:SlDeed w a n f)(Hb:∀ i,i<n->FitK K0 (f i))(hn:n<=450+K0)(hR:Rd w R p)(hp:p<=19000):Calls Tryz.prog 34 #[.pointer (N (T R 0 Z)),QV #[Y a n cap]] w fun e w'=>DAK KK w R (p+1100) e w':=by
 have I7:=ae GU;clear GU;have HF:=ae hf;have Hc:=ae Hb;have HR:=ae hR;have Ht:=hR.lt;clear hf Hb hR;have A0:=ae (((q9 w).alloc ly (Q #[Y a n cap] 25)).alloc (by simp) (Q #[Y Z 0 0] 25));have Hr:Hid (((w.alloc (Q #[Y a n cap] 25)).alloc (Q #[Y Z 0 0] 25)).heap[w.heap.size+1]?=N (Q #[Y Z 0 0] 25 (0,0))):=by have h:=cM (w.alloc (Q #[Y a n cap] 25)) (Q #[Y Z 0 0] 25);rw[show(w.alloc (Q #[Y a n cap] 25)).heap.size=w.heap.size+1 by simp] at h;exact h
 have bt:((w.alloc (Q #[Y a n cap] 25)).alloc (Q #[Y Z 0 0] 25)).heap.size=w.heap.size+2:=by simp
 go_enter Tryz.func34,Tryz.ntmps34;go_wp2_with fail;generalize (w.alloc (Q #[Y a n cap] 25)).alloc (Q #[Y Z 0 0] 25)=W0 at A0 Hr bt ⊢;refine(rh a n cap f _ (by omega) (HF.below A0 ly) (fun i hi=>((Hc i hi).d (by omega)).fits)).mono ?_;rintro e w1 ⟨a1,c1,D,rfl,hD,GF,Ho,DQ⟩;have n8:=ae Ho;have It:=ae hD.up;clear Ho;have hl:D.length=n:=by have:=JN List.length GF;simpa using this
 have Fn:Hid (∀ r∈D,FitK K0 r.1):=fun r hr=>by have hm:r.1∈D.map (·.1):=JQ.2 ⟨r,hr,rfl⟩;rw[GF] at hm;obtain⟨i,hi,e⟩:=JQ.1 hm;rw[<-e];exact Hc i (H7.1 hi)
 have Iw:=DQ.size;have B2:=(q9 w1).alloc ly (Q #[Y a1 D.length c1] 25);have S1:Hid (SpS KK w R w1.heap.size (w1.alloc (Q #[Y a1 D.length c1] 25)) p a1 c1 D):=by have O1:Only R w w1:=(Only.of_below A0).trans (Only.of_below (DQ.mono (by omega)));exact⟨((HR.below A0 ly).below DQ (by omega)).below B2 ly,O1.trans (Only.of_below B2),(B2.block _ (by omega)).trans ((DQ.block _ (by omega)).trans Hr),cM w1 _,((hD.rw.below B2 ly).mono (by omega)),fun r hr=>(Fn r hr).up (by omega),Ht,by omega,by omega⟩
 have hX:w.heap.size+2<=w1.heap.size:=by omega
 have hD9:D.length<=450+K0:=by omega
 clear hD DQ B2 Iw bt A0 Hr HF Hc HR GF hl;go_upto_region 2 with fail;generalize w1.alloc (Q #[Y a1 D.length c1] 25)=W1 at S1 ⊢;generalize w1.heap.size=X at S1 hX ⊢;have bx:=S1.box.1;by_cases hz:D.length=0
 ·obtain rfl:D=[]:=OJ.1 hz
  rw[IS] at bx;clear hz;go_wp2_with fail;refine(aw R _ 2 _ S1.rd (by omega) (by omega) (by omega)).mono ?_;rintro e w2 ⟨x,rfl,x0,x1,th,At⟩;have F:=ae (S1.only At th);clear At th S1 bx;go_wp2_with fail;refine(aw R _ 3 _ F.rd (by omega) (by omega) (by omega)).mono ?_;rintro e L ⟨y,rfl,y0,y1,Bk,Fd⟩;have A:=ae (F.only Fd Bk);clear Fd Bk F;obtain⟨m,hm⟩:∃ m:Nat,400*x+y=(m:Int):=⟨(400*x+y).toNat,by omega⟩
  have Jk:IntKind.i64.wrap (400*x)=400*x:=by rw[j6];omega
  have Ja:m<=450:=by omega
  have hw2:IntKind.i64.wrap (m:Int)=(m:Int):=by rw[j6];omega
  have hmk:=fun w=>FC m (by omega) w;have rs:=A.rs;have r0:L.cell? (T (w.heap.size+1) 0 Z)=N (Y Z 0 0):=by simp[World.cell?,rs]
  have f0:L.frozen? (T (w.heap.size+1) 0 Z)=QQ:=by simp[World.frozen?,rs]
  have l0:=ai rs;have FN:=ae (As (m:=m) (Q0:=p+1100) A Ja (by omega));clear rs;go_wp2;exact bp (v:=QV #[Y (N (T L.heap.size 0 Z)) m m]) (by simp[results,Tryz.results34,go_sem,r0,l0]) rfl FN.out
 obtain⟨g,Ji,e⟩:=d9 S1.row.own (by omega);obtain⟨rfl,-,-⟩:=NF e;clear e Ji;have nz:¬ ((D.length:Int)=0):=by omega
 go_wp2_with fail;refine(aw R _ (D.length:Int) _ S1.rd (by omega) (by omega) (by omega)).mono ?_;rintro e w2 ⟨z,rfl,bt,ph,th,At⟩;obtain⟨k,rfl⟩:=nL bt;have hk:k<D.length:=by omega
 have S0:=ae (S1.only At th);clear At th S1 bt ph bx;obtain⟨r,hr,hm⟩:=dI hk;have Q9:=ae hr;have HM:=ae hm;clear hr hm;go_wp2_with fail;refine(aw R _ 13 _ S0.rd (by omega) (by omega) (by omega)).mono ?_;rintro e L ⟨s,rfl,hs0,Iw,Bk,Fd⟩;have F:=ae (S0.only Fd Bk);clear Fd Bk S0;have GK:=Fn r HM;have QW:=GK.up (show K0<=KK by omega);have htx:=GK.tx;have Js:=GK.ln;go_upto_block 0 with fail;go_cut [8,9,10,11,12] (fun _ _ _ _ _ wx=>∃ (a':Option Addr) (c' q':Nat) (D':List DR),q'<=p+1100/\Hid (SpS KK w R X wx q' a' c' D'));case first =>
  rcases(show s=0∨s=1∨s=2∨s=3∨s=4∨s=5∨(s=6∨s=7∨s=8)∨s=9∨s=10∨s=11∨s=12 by omega) with rfl | rfl | rfl | rfl | rfl | rfl | h6 | rfl | rfl | rfl | rfl
  ·as_aux_lemma =>
    obtain⟨r0,Ia,GY⟩:=dI (R:=D) (i:=0) (by omega);have H0:=ae Ia;have IB:r0.1.name.size<=5000:=(Fn r0 GY).nm;clear Ia GY;go_wp2_with fail;refine aH (fun V=>V.cell? (T X 0 Z)=N (Y (N (T g 0 Z)) D.length c1)/\V.cell? (T g 0 Z)=N (U r0.1.name)) 16 (by as_aux_lemma=>kernel_rfl) ?_;have A:=ae (F.below br.drew);clear F;generalize L.drew=E at A ⊢;have hD0:0<D.length:=by omega
    have B:Hid (E.cell? (T X 0 Z)=N (Y (N (T g 0 Z)) D.length c1)/\E.cell? (T g 0 Z)=N (U r0.1.name)):=⟨A.box.1,by have h:=(A.at_ (k:=0) (j:=0) H0 (by omega) rfl).1;simpa using h⟩
    iterate 8
     refine aO 0 (v:=?_) rfl rfl (by as_aux_lemma=>kernel_rfl) (fun _ _ _ h=>h) rfl ?_ B ?_;rotate_left
     ·(intro wz aq;obtain⟨s0,s1⟩:=aq;go_simp)
      (try with_reducible rfl)
     (try simp only[Act.put,nzL])
    refine aO 10 (v:=?_) rfl rfl (by as_aux_lemma=>kernel_rfl) (fun _ _ _ h=>h) rfl ?_ B ?_;rotate_left
    ·(intro wz aq;obtain⟨s0,s1⟩:=aq;go_simp)
     (try with_reducible rfl)
    (try simp only[Act.put,nzL])
    refine af (i:=8) rfl (by as_aux_lemma=>kernel_rfl) (fun K l=>?_);go_simp;go_at_call 63;obtain⟨m1,GS⟩:∃ m1:Nat,(61:Int)=(m1:Int):=⟨61,rfl⟩
    rw[GS];refine(eG ⟨#[110]⟩ m1 _ (by show 1*m1<=4000;omega) (by omega)).mono ?_;rintro e v6 ⟨t,rfl,ht,hw⟩;rw[hw];have GO:t.size<=5000:=j4 ht (by show 1*m1<=5000;omega);clear ht hw;refine l _ _ (fun _=>B) ?_;clear l K
    (try simp only[Act.put,nzL])
    refine ox (i:=9) (j:=11) rfl rfl (by as_aux_lemma=>kernel_rfl) (fun K l=>?_) (fun K l=>?_)
    ·skip
     go_simp;have A4:=(q9 E).alloc ly (Q #[U ⟨#[]⟩,U ⟨#[120,32,121]⟩,U r0.1.name,U t] 9);have HL:Hid ((E.alloc (Q #[U ⟨#[]⟩,U ⟨#[120,32,121]⟩,U r0.1.name,U t] 9)).heap[E.heap.size]?=N (Q #[U ⟨#[]⟩,U ⟨#[120,32,121]⟩,U r0.1.name,U t] 9 (0,0))):=cM E _;have C:=ae (A.below A4);have Hj:=A.lt;have Hq:=A.hX;have GQ:E.heap.size≠R:=by omega
     clear A4 B Hj Hq;generalize E.alloc (Q #[U ⟨#[]⟩,U ⟨#[120,32,121]⟩,U r0.1.name,U t] 9)=O at C HL ⊢;generalize E.heap.size=Id at HL GQ ⊢;have B:Hid (O.cell? (T X 0 Z)=N (Y (N (T g 0 Z)) D.length c1)/\O.cell? (T g 0 Z)=N (U r0.1.name)):=⟨C.box.1,by have h:=(C.at_ (k:=0) (j:=0) H0 (by omega) rfl).1;simpa using h⟩
     refine l _ _ (fun _=>B) ?_;clear l K
     (try simp only[Act.put,nzL])
     refine af (i:=11) rfl (by as_aux_lemma=>kernel_rfl) (fun K l=>?_);go_simp;go_at_call 33;refine(aw R _ 4 _ C.rd (by omega) (by omega) (by omega)).mono ?_;rintro e v5 ⟨z4,rfl,GH,IJ,ZB,G⟩;obtain⟨m,rfl⟩:=nL GH;have hm:m<4:=by omega
     have S:=ae (C.only G ZB);have HL:=ae ((G.block Id (ai HL) GQ).trans HL);clear G ZB C B;have B:Hid (v5.cell? (T X 0 Z)=N (Y (N (T g 0 Z)) D.length c1)/\v5.cell? (T g 0 Z)=N (U r0.1.name)):=⟨S.box.1,by have h:=(S.at_ (k:=0) (j:=0) H0 (by omega) rfl).1;simpa using h⟩
     refine l _ _ (fun _=>B) ?_;clear l K
     (try simp only[Act.put,nzL])
     obtain⟨zz,Hm,Jf⟩:=uB HL (by decide) (by decide) IB GO m hm
     iterate 4
      refine cG 12 rfl rfl (by as_aux_lemma=>kernel_rfl) (fun K l=>?_);go_simp;refine l _ _ (fun _=>B) ?_;clear l K
      (try simp only[Act.put,nzL])
     obtain⟨Q2,QX⟩:=S.at_ (j:=0) Q9 (by omega) rfl;rw[KJ] at Q2 QX;have ZA:=S.gb.2.1;have S9:=ae (S.fld (j:=0) (u:=U zz) (r':=({ r.1 with name:=zz },r.2)) Q9 (by omega) rfl ((S.row.sub r HM).same _ rfl rfl rfl rfl) (QW.name Hm));refine af (i:=16) rfl (by as_aux_lemma=>kernel_rfl) (fun K l=>?_);go_simp;refine l _ _ (fun h=>absurd rfl h) ?_;clear l K B
     (try simp only[Act.put,nzL])
     refine aN (by as_aux_lemma=>kernel_rfl) ?_ _;clear Q2 QX ZA S;go_wp2;go_meet;exact⟨_,_,_,_,by omega,S9⟩
    ·skip
     go_simp;go_at_call 33;refine(aw R _ 4 _ A.rd (by omega) (by omega) (by omega)).mono ?_;rintro e O ⟨z4,rfl,GH,IJ,ZB,G⟩;obtain⟨m,rfl⟩:=nL GH;have hm:m<4:=by omega
     have C:=ae (A.only G ZB);clear G ZB A B;have B:Hid (O.cell? (T X 0 Z)=N (Y (N (T g 0 Z)) D.length c1)/\O.cell? (T g 0 Z)=N (U r0.1.name)):=⟨C.box.1,by have h:=(C.at_ (k:=0) (j:=0) H0 (by omega) rfl).1;simpa using h⟩
     refine l _ _ (fun _=>B) ?_;clear l K
     (try simp only[Act.put,nzL])
     refine af (i:=9) rfl (by as_aux_lemma=>kernel_rfl) (fun K l=>?_);go_simp;have A4:=(q9 O).alloc ly (Q #[U ⟨#[]⟩,U ⟨#[120,32,121]⟩,U r0.1.name,U t] 9);have HL:Hid ((O.alloc (Q #[U ⟨#[]⟩,U ⟨#[120,32,121]⟩,U r0.1.name,U t] 9)).heap[O.heap.size]?=N (Q #[U ⟨#[]⟩,U ⟨#[120,32,121]⟩,U r0.1.name,U t] 9 (0,0))):=cM O _;have S:=ae (C.below A4);have Hj:=C.lt;have Hq:=C.hX;have GQ:O.heap.size≠R:=by omega
     clear A4 B Hj Hq;generalize O.alloc (Q #[U ⟨#[]⟩,U ⟨#[120,32,121]⟩,U r0.1.name,U t] 9)=v5 at S HL ⊢;generalize O.heap.size=Id at HL GQ ⊢;have B:Hid (v5.cell? (T X 0 Z)=N (Y (N (T g 0 Z)) D.length c1)/\v5.cell? (T g 0 Z)=N (U r0.1.name)):=⟨S.box.1,by have h:=(S.at_ (k:=0) (j:=0) H0 (by omega) rfl).1;simpa using h⟩
     refine l _ _ (fun _=>B) ?_;clear l K
     (try simp only[Act.put,nzL])
     obtain⟨zz,Hm,Jf⟩:=uB HL (by decide) (by decide) IB GO m hm
     iterate 4
      refine cG 12 rfl rfl (by as_aux_lemma=>kernel_rfl) (fun K l=>?_);go_simp;refine l _ _ (fun _=>B) ?_;clear l K
      (try simp only[Act.put,nzL])
     obtain⟨Q2,QX⟩:=S.at_ (j:=0) Q9 (by omega) rfl;rw[KJ] at Q2 QX;have ZA:=S.gb.2.1;have S9:=ae (S.fld (j:=0) (u:=U zz) (r':=({ r.1 with name:=zz },r.2)) Q9 (by omega) rfl ((S.row.sub r HM).same _ rfl rfl rfl rfl) (QW.name Hm));refine af (i:=16) rfl (by as_aux_lemma=>kernel_rfl) (fun K l=>?_);go_simp;refine l _ _ (fun h=>absurd rfl h) ?_;clear l K B
     (try simp only[Act.put,nzL])
     refine aN (by as_aux_lemma=>kernel_rfl) ?_ _;clear Q2 QX ZA S;go_wp2;go_meet;exact⟨_,_,_,_,by omega,S9⟩
  ·as_aux_lemma =>
    skip;go_wp2_with fail;refine aH (fun V=>V.cell? (T X 0 Z)=N (Y (N (T g 0 Z)) D.length c1)) 7 (by as_aux_lemma=>kernel_rfl) ?_;have A:=ae (F.below br.drew);clear F;generalize L.drew=E at A ⊢;have B:=ae A.box.1
    iterate 4
     refine aO 0 (v:=?_) rfl rfl (by as_aux_lemma=>kernel_rfl) (fun _ _ _ h=>h) rfl ?_ B ?_;rotate_left
     ·(intro wz s0;go_simp)
      (try with_reducible rfl)
     (try simp only[Act.put,nzL])
    refine af (i:=4) rfl (by as_aux_lemma=>kernel_rfl) (fun K l=>?_);go_simp;go_at_call 33;refine(aw R _ 5 _ A.rd (by omega) (by omega) (by omega)).mono ?_;rintro e O ⟨z4,rfl,Ii,Iq,ZB,G⟩;have C:=ae (A.only G ZB);clear G ZB A B;have B:=ae C.box.1;refine l _ _ (fun _=>B) ?_;clear l K
    (try simp only[Act.put,nzL])
    iterate 2
     refine cG 5 rfl rfl (by as_aux_lemma=>kernel_rfl) (fun K l=>?_);go_simp;refine l _ _ (fun _=>B) ?_;clear l K
     (try simp only[Act.put,nzL])
    obtain⟨Q2,QX⟩:=C.at_ (j:=1) Q9 (by omega) rfl;have ZA:=C.gb.2.1;have QZ:=ae (C.fld (j:=1) (u:=I J z4) (r':=({ r.1 with kind:=z4 },r.2)) Q9 (by omega) rfl ((C.row.sub r HM).same _ rfl rfl rfl rfl) (QW.kind z4));refine af (i:=7) rfl (by as_aux_lemma=>kernel_rfl) (fun K l=>?_);go_simp;refine l _ _ (fun h=>absurd rfl h) ?_;clear l K B
    (try simp only[Act.put,nzL])
    refine aN (by as_aux_lemma=>kernel_rfl) ?_ _;clear Q2 QX ZA C;go_wp2;go_meet;exact⟨_,_,_,_,by omega,QZ⟩
  ·as_aux_lemma =>
    skip;go_wp2_with fail;refine aH (fun V=>V.cell? (T X 0 Z)=N (Y (N (T g 0 Z)) D.length c1)) 8 (by as_aux_lemma=>kernel_rfl) ?_;have A:=ae (F.below br.drew);clear F;generalize L.drew=E at A ⊢;have B:=ae A.box.1
    iterate 4
     refine aO 0 (v:=?_) rfl rfl (by as_aux_lemma=>kernel_rfl) (fun _ _ _ h=>h) rfl ?_ B ?_;rotate_left
     ·(intro wz s0;go_simp)
      (try with_reducible rfl)
     (try simp only[Act.put,nzL])
    refine af (i:=4) rfl (by as_aux_lemma=>kernel_rfl) (fun K l=>?_);go_simp;go_at_call 33;refine(aw R _ 8 _ A.rd (by omega) (by omega) (by omega)).mono ?_;rintro e O ⟨z4,rfl,Ii,Iq,ZB,G⟩;have C:=ae (A.only G ZB);clear G ZB A B;have B:=ae C.box.1;refine l _ _ (fun _=>B) ?_;clear l K
    (try simp only[Act.put,nzL])
    have IA:IntKind.i64.wrap (z4 - 1)=z4 - 1:=by rw[j6];omega
    iterate 3
     refine cG 5 rfl rfl (by as_aux_lemma=>kernel_rfl) (fun K l=>?_);go_simp;refine l _ _ (fun _=>B) ?_;clear l K
     (try simp only[Act.put,nzL])
    obtain⟨Q2,QX⟩:=C.at_ (j:=2) Q9 (by omega) rfl;have ZA:=C.gb.2.1;have QZ:=ae (C.fld (j:=2) (u:=I J (z4 - 1)) (r':=({ r.1 with code:=z4 - 1 },r.2)) Q9 (by omega) rfl ((C.row.sub r HM).same _ rfl rfl rfl rfl) (QW.code _));refine af (i:=8) rfl (by as_aux_lemma=>kernel_rfl) (fun K l=>?_);go_simp;refine l _ _ (fun h=>absurd rfl h) ?_;clear l K B
    (try simp only[Act.put,nzL])
    refine aN (by as_aux_lemma=>kernel_rfl) ?_ _;clear Q2 QX ZA C;go_wp2;go_meet;exact⟨_,_,_,_,by omega,QZ⟩
  ·as_aux_lemma =>
    go_wp2_with fail;refine aH (fun V=>V.cell? (T X 0 Z)=N (Y (N (T g 0 Z)) D.length c1)/\V.cell? (T g (k*6+3) Z)=N (U r.1.text)) 12 (by as_aux_lemma=>kernel_rfl) ?_;have A:=ae (F.below br.drew);clear F;generalize L.drew=E at A ⊢;have B:Hid (E.cell? (T X 0 Z)=N (Y (N (T g 0 Z)) D.length c1)/\E.cell? (T g (k*6+3) Z)=N (U r.1.text)):=⟨A.box.1,(A.at_ (j:=3) Q9 (by omega) rfl).1⟩
    have hsz:¬ 9223372036854775807<r.1.text.size+1:=by omega
    have ID:(r.1.text++⟨#[120]⟩).size<=2000+KK:=by have e1:(⟨#[120]⟩:ByteArray).size=1:=rfl;rw[KZ,e1];omega
    iterate 9
     refine aO 0 (v:=?_) rfl rfl (by as_aux_lemma=>kernel_rfl) (fun _ _ _ h=>h) rfl ?_ B ?_;rotate_left
     ·(intro wz aq;obtain⟨s0,s1⟩:=aq;go_simp)
      (try with_reducible rfl)
     (try simp only[Act.put,nzL])
    iterate 3
     refine cG 9 rfl rfl (by as_aux_lemma=>kernel_rfl) (fun K l=>?_);go_simp;refine l _ _ (fun _=>B) ?_;clear l K
     (try simp only[Act.put,nzL])
    obtain⟨Q2,QX⟩:=A.at_ (j:=3) Q9 (by omega) rfl;have ZA:=A.gb.2.1;have QZ:=ae (A.fld (j:=3) (u:=U (r.1.text++⟨#[120]⟩)) (r':=({ r.1 with text:=r.1.text++⟨#[120]⟩ },r.2)) Q9 (by omega) rfl ((A.row.sub r HM).same _ rfl rfl rfl rfl) (QW.text ID));refine af (i:=12) rfl (by as_aux_lemma=>kernel_rfl) (fun K l=>?_);go_simp;refine l _ _ (fun h=>absurd rfl h) ?_;clear l K B
    (try simp only[Act.put,nzL])
    refine aN (by as_aux_lemma=>kernel_rfl) ?_ _;clear Q2 QX ZA A;go_wp2;go_meet;exact⟨_,_,_,_,by omega,QZ⟩
  ·as_aux_lemma =>
    skip;go_wp2_with fail;refine aH (fun V=>V.cell? (T X 0 Z)=N (Y (N (T g 0 Z)) D.length c1)) 9 (by as_aux_lemma=>kernel_rfl) ?_;have A:=ae (F.below br.drew);clear F;generalize L.drew=E at A ⊢;have B:=ae A.box.1
    iterate 4
     refine aO 0 (v:=?_) rfl rfl (by as_aux_lemma=>kernel_rfl) (fun _ _ _ h=>h) rfl ?_ B ?_;rotate_left
     ·(intro wz s0;go_simp)
      (try with_reducible rfl)
     (try simp only[Act.put,nzL])
    refine af (i:=4) rfl (by as_aux_lemma=>kernel_rfl) (fun K l=>?_);go_simp;go_at_call 33;refine(aw R _ 2 _ A.rd (by omega) (by omega) (by omega)).mono ?_;rintro e O ⟨z4,rfl,Ii,Iq,ZB,G⟩;have C:=ae (A.only G ZB);clear G ZB A B;have B:=ae C.box.1;refine l _ _ (fun _=>B) ?_;clear l K
    (try simp only[Act.put,nzL])
    have IA:IntKind.i64.wrap (2000+z4)=2000+z4:=by rw[j6];omega
    refine af (i:=5) rfl (by as_aux_lemma=>kernel_rfl) (fun K l=>?_);go_simp;refine l _ _ (fun _=>B) ?_;clear l K
    (try simp only[Act.put,nzL])
    obtain⟨m0,GY⟩:∃ m0:Nat,2000+z4=(m0:Int):=⟨(2000+z4).toNat,by omega⟩
    rw[GY];refine af (i:=6) rfl (by as_aux_lemma=>kernel_rfl) (fun K l=>?_);go_simp;go_at_call 63;refine(eG ⟨#[116]⟩ m0 _ (by show 1*m0<=4000;omega) (by omega)).mono ?_;rintro e v6 ⟨t,rfl,ht,hw⟩;rw[hw];have GO:t.size<=2000+KK:=j4 ht (by show 1*m0<=2000+KK;omega);clear ht hw IA;refine l _ _ (fun _=>B) ?_;clear l K
    (try simp only[Act.put,nzL])
    iterate 2
     refine cG 7 rfl rfl (by as_aux_lemma=>kernel_rfl) (fun K l=>?_);go_simp;refine l _ _ (fun _=>B) ?_;clear l K
     (try simp only[Act.put,nzL])
    obtain⟨Q2,QX⟩:=C.at_ (j:=3) Q9 (by omega) rfl;have ZA:=C.gb.2.1;have QZ:=ae (C.fld (j:=3) (u:=U t) (r':=({ r.1 with text:=t },r.2)) Q9 (by omega) rfl ((C.row.sub r HM).same _ rfl rfl rfl rfl) (QW.text GO));refine af (i:=9) rfl (by as_aux_lemma=>kernel_rfl) (fun K l=>?_);go_simp;refine l _ _ (fun h=>absurd rfl h) ?_;clear l K B
    (try simp only[Act.put,nzL])
    refine aN (by as_aux_lemma=>kernel_rfl) ?_ _;clear Q2 QX ZA C;go_wp2;go_meet;exact⟨_,_,_,_,by omega,QZ⟩
  ·as_aux_lemma =>
    obtain⟨⟨ga,ca,ea⟩,-⟩:=n8.out r HM;have EA:=ae ea;clear ea;go_wp2_with fail;refine aH (fun V=>V.cell? (T X 0 Z)=N (Y (N (T g 0 Z)) D.length c1)/\V.cell? (T g (k*6+4) Z)=N (Y (N (T ga 0 Z)) r.1.actN ca)) 13 (by as_aux_lemma=>kernel_rfl) ?_;have A:=ae (F.below br.drew);clear F;generalize L.drew=E at A ⊢;have B:Hid (E.cell? (T X 0 Z)=N (Y (N (T g 0 Z)) D.length c1)/\E.cell? (T g (k*6+4) Z)=N (Y (N (T ga 0 Z)) r.1.actN ca)):=⟨A.box.1,(A.at_ (j:=4) Q9 (by omega) (by rw[<-EA.out];rfl)).1⟩
    iterate 10
     refine aO 0 (v:=?_) rfl rfl (by as_aux_lemma=>kernel_rfl) (fun _ _ _ h=>h) rfl ?_ B ?_;rotate_left
     ·(intro wz aq;obtain⟨s0,s1⟩:=aq;go_simp)
      (try with_reducible rfl)
     (try simp only[Act.put,nzL])
    refine af (i:=10) rfl (by as_aux_lemma=>kernel_rfl) (fun K l=>?_);go_simp;go_at_call 78;refine(AE (A.row.sub r HM) EA A.rd (by omega) GK (by omega)).mono ?_;rintro e O ⟨L4,g4,c4,rfl,Il,-,Jl,Hz,q4,hq4,ZB,G⟩;have C:=ae (A.only G ZB);have Ib:=A.lt;have I4:Hid (O.ownsRow (w.heap.size+2) 146 3 (Y (N (T g4 0 Z)) L4.length c4) L4.length (cF (dA L4) L4.length)):=by show World.ownsRow _ _ _ _ _ _ _;rw[<-ug];exact aE Il (by omega)
    have T4:=ae Hz;clear G ZB A B Il Hz Ib;have B:Hid (O.cell? (T X 0 Z)=N (Y (N (T g 0 Z)) D.length c1)/\O.cell? (T g (k*6+4) Z)=N (Y (N (T ga 0 Z)) r.1.actN ca)):=⟨C.box.1,(C.at_ (j:=4) Q9 (by omega) (by rw[<-EA.out];rfl)).1⟩
    refine l _ _ (fun _=>B) ?_;clear l K
    (try simp only[Act.put,nzL])
    iterate 2
     refine cG 11 rfl rfl (by as_aux_lemma=>kernel_rfl) (fun K l=>?_);go_simp;refine l _ _ (fun _=>B) ?_;clear l K
     (try simp only[Act.put,nzL])
    have Q2:=B.2;have QX:=(C.at_ (j:=4) Q9 (by omega) rfl).2;have ZA:=C.gb.2.1;have QZ:=ae (C.fld (j:=4) (u:=Y (N (T g4 0 Z)) L4.length c4) (r':=({ r.1 with actN:=L4.length,act:=dA L4 },Y (N (T g4 0 Z)) L4.length c4,r.2.2)) Q9 (by omega) rfl ⟨I4,(C.row.sub r HM).lnk⟩ ⟨QW.nm,QW.tx,by show L4.length<=200+KK;omega,jL T4,QW.ln,QW.lsz⟩);refine af (i:=13) rfl (by as_aux_lemma=>kernel_rfl) (fun K l=>?_);go_simp;refine l _ _ (fun h=>absurd rfl h) ?_;clear l K B
    (try simp only[Act.put,nzL])
    refine aN (by as_aux_lemma=>kernel_rfl) ?_ _;clear Q2 QX ZA C;go_wp2;go_meet;exact⟨_,_,_,_,by omega,QZ⟩
  ·as_aux_lemma =>
    obtain⟨⟨ga,ca,ea⟩,ZA,cl,el⟩:=n8.out r HM;have EA:=ae ea;have EL:=ae el;clear ea el;rcases h6 with rfl | rfl | rfl
    iterate 3
     ·go_wp2_with fail
      refine aH (fun V=>V.cell? (T X 0 Z)=N (Y (N (T g 0 Z)) D.length c1)/\V.cell? (T g (k*6) Z)=N (U r.1.name)/\V.cell? (T g (k*6+1) Z)=N (I J r.1.kind)/\V.cell? (T g (k*6+2) Z)=N (I J r.1.code)/\V.cell? (T g (k*6+3) Z)=N (U r.1.text)/\V.cell? (T g (k*6+4) Z)=N (Y (N (T ga 0 Z)) r.1.actN ca)/\V.cell? (T g (k*6+5) Z)=N (Y (N (T ZA 0 Z)) r.1.linksN cl)) 11 (by as_aux_lemma=>kernel_rfl) ?_;have A:=ae (F.below br.drew);clear F;generalize L.drew=E at A ⊢;have B:Hid (E.cell? (T X 0 Z)=N (Y (N (T g 0 Z)) D.length c1)/\E.cell? (T g (k*6) Z)=N (U r.1.name)/\E.cell? (T g (k*6+1) Z)=N (I J r.1.kind)/\E.cell? (T g (k*6+2) Z)=N (I J r.1.code)/\E.cell? (T g (k*6+3) Z)=N (U r.1.text)/\E.cell? (T g (k*6+4) Z)=N (Y (N (T ga 0 Z)) r.1.actN ca)/\E.cell? (T g (k*6+5) Z)=N (Y (N (T ZA 0 Z)) r.1.linksN cl)):=⟨A.box.1,by have h:=(A.at_ (j:=0) Q9 (by omega) rfl).1;rwa[KJ] at h,(A.at_ (j:=1) Q9 (by omega) rfl).1,(A.at_ (j:=2) Q9 (by omega) rfl).1,(A.at_ (j:=3) Q9 (by omega) rfl).1,(A.at_ (j:=4) Q9 (by omega) (by rw[<-EA.out];rfl)).1,(A.at_ (j:=5) Q9 (by omega) (by rw[<-EL.out];rfl)).1⟩
      iterate 9
       refine aO 0 (v:=?_) rfl rfl (by as_aux_lemma=>kernel_rfl) (fun _ _ _ h=>h) rfl ?_ B ?_;rotate_left
       ·(intro wz aq;obtain⟨s0,s1,s2,s3,s4,s5,s6⟩:=aq;go_simp)
        (try with_reducible rfl)
       (try simp only[Act.put,nzL])
      refine af (i:=9) rfl (by as_aux_lemma=>kernel_rfl) (fun K l=>?_);go_simp;go_at_call 79;refine(pY (200+K0) ⟨by omega,by omega⟩ w R _ (w.heap.size+2) ZA cl r.1.linksN r.1.links r.1.name r.1.text r.1.kind r.1.code (N (T ga 0 Z)) r.1.actN ca _ A.o Ht (by omega) (by have:=A.lt;omega) A.rd (by omega) (by rw[<-EL.out];exact(A.row.sub r HM).lnk) Js QW.lsz).mono ?_;rintro e O ⟨g5,n5,c5,f5,rfl,Ha,Hn,Is,⟨q5,hq5,Ig⟩,Hw,ld⟩;obtain⟨kX,kg,Io⟩:=A.kept HM EL ld;have QZ:Hid (SpS KK w R X (ja O g k ({ r.1 with linksN:=n5,links:=f5 },Y (N (T ga 0 Z)) r.1.actN ca,Y (N (T g5 0 Z)) n5 c5)) q5 (N (T g 0 Z)) c1 _):=A.deed It Q9 HM EL Ig Hw ld _ ⟨A.actK HM EA EL ld,Ha⟩ ⟨QW.nm,QW.tx,QW.an,QW.asz,by show n5<=200+KK;omega,Is⟩;have F4:Hid (∀ j,j<6->O.frozen? (T g (k*6+j) Z)=QQ):=fun j hj=>(JW (a:=(T g (k*6+j) Z)) kg).trans (A.at_ (j:=j) Q9 hj (gq (show j<(ddV r).length from hj))).2;have DE:Hid (O.cell? (T X 0 Z)=N (Y (N (T g 0 Z)) D.length c1)/\O.cell? (T g (k*6) Z)=N (U r.1.name)/\O.cell? (T g (k*6+1) Z)=N (I J r.1.kind)/\O.cell? (T g (k*6+2) Z)=N (I J r.1.code)/\O.cell? (T g (k*6+3) Z)=N (U r.1.text)/\O.cell? (T g (k*6+4) Z)=N (Y (N (T ga 0 Z)) r.1.actN ca)/\O.cell? (T g (k*6+5) Z)=N (Y (N (T ZA 0 Z)) r.1.linksN cl)):=⟨(cj (a:=(T X 0 Z)) kX).trans B.1,(cj (a:=(T g (k*6) Z)) kg).trans B.2.1,(cj (a:=(T g (k*6+1) Z)) kg).trans B.2.2.1,(cj (a:=(T g (k*6+2) Z)) kg).trans B.2.2.2.1,(cj (a:=(T g (k*6+3) Z)) kg).trans B.2.2.2.2.1,(cj (a:=(T g (k*6+4) Z)) kg).trans B.2.2.2.2.2.1,(cj (a:=(T g (k*6+5) Z)) kg).trans B.2.2.2.2.2.2⟩
      clear Ig Hw ld Ha Is kX kg B A;have B:=DE;clear DE;refine l _ _ (fun _=>B) ?_;clear l K
      (try simp only[Act.put,nzL])
      refine af (i:=10) rfl (by as_aux_lemma=>kernel_rfl) (fun K l=>?_);go_simp;refine l _ _ (fun _=>B) ?_;clear l K
      (try simp only[Act.put,nzL])
      obtain⟨-,Q2,QX,d2,d3,d4,d5⟩:=B.out;have y0:=F4.out 0 (by omega);have y1:=F4.out 1 (by omega);have y2:=F4.out 2 (by omega);have y3:=F4.out 3 (by omega);have y4:=F4.out 4 (by omega);have y5:=F4.out 5 (by omega);rw[KJ] at y0;refine af (i:=11) rfl (by as_aux_lemma=>kernel_rfl) (fun K l=>?_);go_simp;refine l _ _ (fun h=>absurd rfl h) ?_;clear l K B
      (try simp only[Act.put,nzL])
      refine aN (by as_aux_lemma=>kernel_rfl) ?_ _;clear Q2 QX d2 d3 d4 d5 y0 y1 y2 y3 y4 y5;go_wp2;go_meet;exact⟨_,_,_,_,by omega,QZ⟩
  ·skip
   by_cases I9:(0:Int)<(k:Int)
   ·obtain⟨m,rfl⟩:∃ m,k=m+1:=⟨k - 1,by omega⟩
    have h1l:(1:Int)<(D.length:Int):=by omega
    obtain⟨r1,Hx,GS⟩:=dI (R:=D) (i:=m) (by omega);have mv:=ae Hx;have Hg:=ae GS;clear Hx GS;obtain⟨⟨ga,ca,ea⟩,ZA,cl,el⟩:=n8.out r HM;obtain⟨⟨gb,cb,eb⟩,gm,cm,em⟩:=n8.out r1 Hg;have EA:=ae ea;have EL:=ae el;have EB:=ae eb;have EM:=ae em;clear ea el eb em;have IL:=((Fn r1 Hg).up (show K0<=KK by omega))
    have bx:=F.box.1;have C2:Hid (L.cell? ⟨g,(m+1)*6,Z⟩=N (U r.1.name)/\L.cell? ⟨g,(m+1)*6+1,Z⟩=N (I J r.1.kind)/\L.cell? ⟨g,(m+1)*6+2,Z⟩=N (I J r.1.code)/\L.cell? ⟨g,(m+1)*6+3,Z⟩=N (U r.1.text)/\L.cell? ⟨g,(m+1)*6+4,Z⟩=N (Y (N (T ga 0 Z)) r.1.actN ca)/\L.cell? ⟨g,(m+1)*6+5,Z⟩=N (Y (N (T ZA 0 Z)) r.1.linksN cl)):=⟨by have h:=(F.at_ (j:=0) Q9 (by omega) rfl).1;rwa[KJ] at h,(F.at_ (j:=1) Q9 (by omega) rfl).1,(F.at_ (j:=2) Q9 (by omega) rfl).1,(F.at_ (j:=3) Q9 (by omega) rfl).1,(F.at_ (j:=4) Q9 (by omega) (by rw[<-EA.out];rfl)).1,(F.at_ (j:=5) Q9 (by omega) (by rw[<-EL.out];rfl)).1⟩
    obtain⟨e0,e1,e2,e3,e4,e5⟩:=C2.out;have AB:=ae ((q9 L).alloc ly (Q #[U r.1.name,I J r.1.kind,I J r.1.code,U r.1.text,Y (N (T ga 0 Z)) r.1.actN ca,Y (N (T ZA 0 Z)) r.1.linksN cl] 46));have YB:=ae (cM L (Q #[U r.1.name,I J r.1.kind,I J r.1.code,U r.1.text,Y (N (T ga 0 Z)) r.1.actN ca,Y (N (T ZA 0 Z)) r.1.linksN cl] 46));have A:=ae (F.below AB);have hwm:IntKind.i64.wrap (((m+1:Nat):Int) - 1)=(m:Int):=by rw[j6];omega
    have hwm2:IntKind.i64.wrap (m:Int)=(m:Int):=by rw[j6];omega
    have hml:m<D.length:=by omega
    have Jg:(m:Int)+1<(D.length:Int):=by omega
    have hk2:(0:Int)<=(m:Int)+1:=by omega
    have Jc:((m:Int)+1).toNat=m+1:=by omega
    go_upto_region 41 with fail;generalize L.alloc (Q #[U r.1.name,I J r.1.kind,I J r.1.code,U r.1.text,Y (N (T ga 0 Z)) r.1.actN ca,Y (N (T ZA 0 Z)) r.1.linksN cl] 46)=v2 at A YB ⊢;have Ip:L.heap.size≠g:=by have:=F.gb.2.1;omega
    generalize L.heap.size=yb at YB Ip ⊢;clear bx e0 e1 e2 e3 e4 e5 C2 AB F;refine aH (fun V=>V.cell? (T X 0 Z)=N (Y (N (T g 0 Z)) D.length c1)/\V.cell? (T g (m*6) Z)=N (U r1.1.name)/\V.cell? (T g (m*6+1) Z)=N (I J r1.1.kind)/\V.cell? (T g (m*6+2) Z)=N (I J r1.1.code)/\V.cell? (T g (m*6+3) Z)=N (U r1.1.text)/\V.cell? (T g (m*6+4) Z)=N (Y (N (T gb 0 Z)) r1.1.actN cb)/\V.cell? (T g (m*6+5) Z)=N (Y (N (T gm 0 Z)) r1.1.linksN cm)) 10 (by as_aux_lemma=>kernel_rfl) ?_;have C:=ae (A.below br.drew);have He:Hid (v2.drew.heap[yb]?=N (Q #[U r.1.name,I J r.1.kind,I J r.1.code,U r.1.text,Y (N (T ga 0 Z)) r.1.actN ca,Y (N (T ZA 0 Z)) r.1.linksN cl] 46 (0,0))):=YB.out;clear A YB;generalize v2.drew=E at C He ⊢;have B:Hid (E.cell? (T X 0 Z)=N (Y (N (T g 0 Z)) D.length c1)/\E.cell? (T g (m*6) Z)=N (U r1.1.name)/\E.cell? (T g (m*6+1) Z)=N (I J r1.1.kind)/\E.cell? (T g (m*6+2) Z)=N (I J r1.1.code)/\E.cell? (T g (m*6+3) Z)=N (U r1.1.text)/\E.cell? (T g (m*6+4) Z)=N (Y (N (T gb 0 Z)) r1.1.actN cb)/\E.cell? (T g (m*6+5) Z)=N (Y (N (T gm 0 Z)) r1.1.linksN cm)):=⟨C.box.1,by have h:=(C.at_ (j:=0) mv (by omega) rfl).1;rwa[KJ] at h,(C.at_ (j:=1) mv (by omega) rfl).1,(C.at_ (j:=2) mv (by omega) rfl).1,(C.at_ (j:=3) mv (by omega) rfl).1,(C.at_ (j:=4) mv (by omega) (by rw[<-EB.out];rfl)).1,(C.at_ (j:=5) mv (by omega) (by rw[<-EM.out];rfl)).1⟩
    iterate 9
     refine aO 0 (v:=?_) rfl rfl (by as_aux_lemma=>kernel_rfl) (fun _ _ _ h=>h) rfl ?_ B ?_;rotate_left
     ·(intro wz aq;obtain⟨s0,s1,s2,s3,s4,s5,s6⟩:=aq;go_simp)
      (try with_reducible rfl)
     (try simp only[Act.put,nzL])
    refine af (i:=9) rfl (by as_aux_lemma=>kernel_rfl) (fun K l=>?_);go_simp;refine l _ _ (fun _=>B) ?_;clear l K
    (try simp only[Act.put,nzL])
    have F4:Hid (∀ j,j<6->E.frozen? ⟨g,(m+1)*6+j,Z⟩=QQ/\∃ u,E.cell? ⟨g,(m+1)*6+j,Z⟩=N u):=fun j hj=>by have h:=C.at_ (j:=j) Q9 hj (gq (show j<(ddV r).length from hj));exact⟨h.2,_,h.1⟩
    obtain⟨y0,u0,Q2⟩:=F4.out 0 (by omega);obtain⟨y1,u1,QX⟩:=F4.out 1 (by omega);obtain⟨y2,u2,d2⟩:=F4.out 2 (by omega);obtain⟨y3,u3,d3⟩:=F4.out 3 (by omega);obtain⟨y4,u4,d4⟩:=F4.out 4 (by omega);obtain⟨y5,u5,d5⟩:=F4.out 5 (by omega);rw[KJ] at y0 Q2;have Io:=C.gb.2.1;have QZ:=ae (C.six Q9 (r1.1,Y (N (T gb 0 Z)) r1.1.actN cb,Y (N (T gm 0 Z)) r1.1.linksN cm) ((C.row.sub r1 Hg).form EB EM) IL);have Hk:=ae ((fo E g (m+1) yb (r1.1,Y (N (T gb 0 Z)) r1.1.actN cb,Y (N (T gm 0 Z)) r1.1.linksN cm) Ip).trans He);have T5:Hid (DSub (ja E g (m+1) (r1.1,Y (N (T gb 0 Z)) r1.1.actN cb,Y (N (T gm 0 Z)) r1.1.linksN cm)) (w.heap.size+2) (r.1,Y (N (T ga 0 Z)) r.1.actN ca,Y (N (T ZA 0 Z)) r.1.linksN cl)):=by obtain⟨cs,z,hg⟩:=C.gb.2.2.2;exact((C.row.sub r HM).form EA EL).six hg
    unfold ja at QZ Hk T5;refine af (i:=10) rfl (by as_aux_lemma=>kernel_rfl) (fun K l=>?_);go_simp;refine l _ _ (fun h=>absurd rfl h) ?_;clear l K B
    (try simp only[Act.put,nzL])
    refine aN (by as_aux_lemma=>kernel_rfl) ?_ _;clear Q2 QX d2 d3 d4 d5 y0 y1 y2 y3 y4 y5 Io F4 C He;go_upto_region 42 with fail;generalize (((((E.setCell ⟨g,(m+1)*6,Z⟩ (U r1.1.name)).setCell ⟨g,(m+1)*6+1,Z⟩ (I J r1.1.kind)).setCell ⟨g,(m+1)*6+2,Z⟩ (I J r1.1.code)).setCell ⟨g,(m+1)*6+3,Z⟩ (U r1.1.text)).setCell ⟨g,(m+1)*6+4,Z⟩ (Y (N (T gb 0 Z)) r1.1.actN cb)).setCell ⟨g,(m+1)*6+5,Z⟩ (Y (N (T gm 0 Z)) r1.1.linksN cm)=v5 at QZ Hk T5 ⊢;have n9:Hid ((D.set (m+1) (r1.1,Y (N (T gb 0 Z)) r1.1.actN cb,Y (N (T gm 0 Z)) r1.1.linksN cm))[m]?=N r1):=by show _=_;rw[LZ (by omega)];exact mv
    have S:=ae (QZ.six n9 (r.1,Y (N (T ga 0 Z)) r.1.actN ca,Y (N (T ZA 0 Z)) r.1.linksN cl) T5 QW);have bx:=QZ.box.1;rw[JO] at bx;have P:=Hk.out;have q0:v5.cell? (T yb 0 Z)=N (U r.1.name):=by simp[World.cell?,P]
    have q1:v5.cell? (T yb 1 Z)=N (I J r.1.kind):=by simp[World.cell?,P]
    have q2:v5.cell? (T yb 2 Z)=N (I J r.1.code):=by simp[World.cell?,P]
    have q3:v5.cell? (T yb 3 Z)=N (U r.1.text):=by simp[World.cell?,P]
    have q4:v5.cell? (T yb 4 Z)=N (Y (N (T ga 0 Z)) r.1.actN ca):=by simp[World.cell?,P]
    have q5:v5.cell? (T yb 5 Z)=N (Y (N (T ZA 0 Z)) r.1.linksN cl):=by simp[World.cell?,P]
    have F5:Hid (∀ j,j<6->v5.frozen? (T g (m*6+j) Z)=QQ/\∃ u,v5.cell? (T g (m*6+j) Z)=N u):=fun j hj=>by have h:=QZ.at_ (j:=j) n9 hj (gq (show j<(ddV r1).length from hj));exact⟨h.2,_,h.1⟩
    obtain⟨y0,u0,Q2⟩:=F5.out 0 (by omega);obtain⟨y1,u1,QX⟩:=F5.out 1 (by omega);obtain⟨y2,u2,d2⟩:=F5.out 2 (by omega);obtain⟨y3,u3,d3⟩:=F5.out 3 (by omega);obtain⟨y4,u4,d4⟩:=F5.out 4 (by omega);obtain⟨y5,u5,d5⟩:=F5.out 5 (by omega);rw[KJ] at y0 Q2;have gl5:=QZ.gb.2.1;clear P QZ;go_wp2;go_meet;exact⟨_,_,_,_,by omega,S⟩
   ·by_cases h1:(1:Int)<(D.length:Int)
    iterate 2
     ·go_wp2
      go_meet;exact⟨_,_,_,_,by omega,F⟩
  ·as_aux_lemma =>
    have hcap:=jO F.row.own;obtain⟨GW,hj,bt,ph,G8⟩:=JV ie;have Jk:IntKind.i64.wrap ((k:Int)+1)=(k:Int)+1:=by rw[j6];omega
    have Jg:(k:Int)+1<=(D.length:Int):=by omega
    have Jc:((k:Int)+1).toNat=k+1:=by omega
    have hkc:(k:Int)<=(c1:Int):=by omega
    have I9:(0:Int)<=(k:Int)+1:=by omega
    obtain⟨A2,Jd,Iu⟩:=yG (base:=w.heap.size+2) (g:=g) (c:=c1) hk (by omega);have Jp:=ae Iu;clear Iu;go_wp2_with fail;refine aH (fun V=>V.cell? (T X 0 Z)=N (Y (N (T g 0 Z)) D.length c1)) 13 (by as_aux_lemma=>kernel_rfl) ?_;have A:=ae (F.below br.drew);clear F;generalize L.drew=E at A ⊢;have B:=ae A.box.1
    iterate 4
     refine aO 1 (v:=?_) rfl rfl (by as_aux_lemma=>kernel_rfl) (fun _ _ _ h=>h) rfl ?_ B ?_;rotate_left
     ·(intro wz s0;go_simp)
      (try with_reducible rfl)
     (try simp only[Act.put,nzL])
    iterate 5
     refine aO 6 (v:=?_) rfl rfl (by as_aux_lemma=>kernel_rfl) (fun _ _ _ h=>h) rfl ?_ B ?_;rotate_left
     ·(intro wz s0;go_simp)
      (try with_reducible rfl)
     (try simp only[Act.put,nzL])
    clear Jd;refine af (i:=0) rfl (by as_aux_lemma=>kernel_rfl) (fun K l=>?_);go_simp;have Ib:=A.lt;have I6:=A.hX;have A4:=ae ((q9 E).alloc ly (Q #[] 46));have O4:=ae (J9 (base:=w.heap.size+2) (e:=46) (size:=6) E #[] 0 (by omega) (by unfold maxLen;omega) rfl);have C:=ae (A.below A4);have DE:=ae C.box.1;refine l _ _ (fun _=>DE) ?_;clear l K
    (try simp only[Act.put,nzL])
    refine af (i:=5) rfl (by as_aux_lemma=>kernel_rfl) (fun K l=>?_);refine bI rfl (.tmp 247) (.tmp 251) 23 rfl (w.heap.size+2) 46 GW (QV #[U ⟨#[]⟩,I J 0,I J 0,U ⟨#[]⟩,Y Z 0 0,Y Z 0 0]) 6 96 Tryz.underlying23 hj bt ph G8 rfl (by decide) (Y (N (T E.heap.size 0 Z)) 0 0) 0 [] (by simp[Act.eval]) O4.out (T g 0 Z) k c1 ((D.take k).flatMap ddV) (by simp[Act.eval]) (by rw[fh ddV 6 (fun _=>rfl),JY,LE (by omega)]) (Au k C.row.own) (fun u hu=>qL D n8 u (by obtain⟨M,h2,h3⟩:=LN.1 hu;exact LN.2 ⟨M,LU h2,h3⟩)) (by unfold maxLen;omega) (by omega) (by simp;omega) ?_;intro v5 w5 sm Fm Hd;simp only[DN,JT] at sm;have B5:=ae (bg A4 Fm (by simp) (fun j e=>by simp[Value.ownBlock] at e;omega));have Hi:∀ j,v5.ownBlock=N j->E.heap.size<=j:=fun j e=>by
     rcases Hd with h | h
     ·rw[h] at e
      simp[Value.ownBlock] at e;omega
     ·rw[h] at e
      have:=ES e;simp at this;omega
    have WB:=ae Hi;have O5:=ae sm;have QZ:=ae (A.below B5);have Ir:=ae QZ.box.1;clear sm Fm Hd Hi C O4 A4 DE B;refine l _ _ (fun _=>Ir) ?_;clear l K
    (try simp only[Act.put,nzL])
    obtain⟨a5,c5,rfl⟩:=aF O5;refine af (i:=11) rfl (by as_aux_lemma=>kernel_rfl) (fun K l=>?_);refine bI rfl (.tmp 252) (.tmp 257) 23 rfl (w.heap.size+2) 46 GW (QV #[U ⟨#[]⟩,I J 0,I J 0,U ⟨#[]⟩,Y Z 0 0,Y Z 0 0]) 6 96 Tryz.underlying23 hj bt ph G8 rfl (by decide) (Y a5 k c5) k ((D.take k).flatMap ddV) (by simp[Act.eval]) O5.out A2 (D.length - (k+1)) (c1 - (k+1)) ((D.drop (k+1)).flatMap ddV) (by simp[Act.eval]) (by rw[fh ddV 6 (fun _=>rfl),JZ]) (Jp _ QZ.row.own) (fun u hu=>qL D n8 u (by obtain⟨M,h2,h3⟩:=LN.1 hu;exact LN.2 ⟨M,PU h2,h3⟩)) (by unfold maxLen;omega) (by omega) (by have:=B5.size;omega) ?_;intro v6 w6 fd Fk _;have B6:=ae (bg B5 Fk (B5.size) (fun j e=>WB j e));rw[<-HH] at fd;obtain⟨a6,c6,rfl⟩:=aF fd;obtain⟨D2,GJ⟩:∃ D2,D2=D.take k++D.drop (k+1):=⟨_,rfl⟩
    have GE:D2.length=k+(D.length - (k+1)):=by rw[GJ,a8,JY,JZ,LE (by omega)]
    rw[<-GJ,<-GE] at fd;rw[<-GE];have S:=ae (A.below B6);have GI:∀ M∈D2,M∈D:=fun M h2=>by rw[GJ] at h2;exact(hU.1 h2).elim LU PU
    have S7:=ae (A.box_ B6 fd (fun M h2=>S.row.sub M (GI M h2)) (fun M h2=>S.fit M (GI M h2)) (by omega));clear GJ;have GV:=ae S.box;clear fd Fk GI GE QZ O5 WB Ir;refine l _ _ (fun _=>GV.1) ?_;clear l K
    (try simp only[Act.put,nzL])
    refine af (i:=12) rfl (by as_aux_lemma=>kernel_rfl) (fun K l=>?_);go_simp;refine l _ _ (fun _=>GV.1) ?_;clear l K
    (try simp only[Act.put,nzL])
    have Q2:=GV.1;have QX:=GV.2;have IW:=S.lt;refine af (i:=13) rfl (by as_aux_lemma=>kernel_rfl) (fun K l=>?_);go_simp;refine l _ _ (fun h=>absurd rfl h) ?_;clear l K
    (try simp only[Act.put,nzL])
    refine aN (by as_aux_lemma=>kernel_rfl) ?_ _;clear Q2 QX IW A S;go_wp2;go_meet;exact⟨_,_,_,_,by omega,S7⟩
  ·as_aux_lemma =>
    go_wp2_with fail;refine(aw R _ 3 _ F.rd (by omega) (by omega) (by omega)).mono ?_;rintro e w4 ⟨z,rfl,z0,z1,ZB,G⟩;have A:=ae (F.only G ZB);clear G ZB F;obtain⟨m,hm⟩:∃ m:Nat,60+z - 1=(m:Int):=⟨(60+z - 1).toNat,by omega⟩
    go_wp2_with fail;refine(I7 m _ (by omega)).mono ?_;rintro e w5 ⟨a5,n5,c5,f5,rfl,Hu,Hf,Hn,Hy⟩;have C:=ae (A.below Hf);have rs:=C.rs;have r0:w5.cell? (T (w.heap.size+1) 0 Z)=N (Y Z 0 0):=by simp[World.cell?,rs]
    have f0:w5.frozen? (T (w.heap.size+1) 0 Z)=QQ:=by simp[World.frozen?,rs]
    have l0:=ai rs;have FN:=ae (A.other (Q0:=p+1100) Hf Hu Hn Hy (by omega));clear rs Hf Hu Hn Hy;go_wp2;try simp only[Exit.inBlock,Exit.then]
    exact bp (v:=QV #[Y a5 n5 c5]) (by simp[results,Tryz.results34,go_sem,r0]) rfl FN.out
  ·skip
   have AB:=ae ((q9 L).alloc ly (Q #[U ⟨#[117,110,117,115,101,100]⟩,I J 2,I J 0,U ⟨#[]⟩,Y Z 0 0,Y Z 0 0] 46));have FB:=ae (cM L (Q #[U ⟨#[117,110,117,115,101,100]⟩,I J 2,I J 0,U ⟨#[]⟩,Y Z 0 0,Y Z 0 0] 46));have A:=ae (F.below AB);have Ih:w.heap.size+2<=L.heap.size:=by have:=F.lt;omega
   have Iy:L.heap.size≠X:=by have:=F.lt;omega
   have HU:L.heap.size≠g:=by have:=F.gb.2.1;omega
   go_wp2_with fail;generalize L.alloc (Q #[U ⟨#[117,110,117,115,101,100]⟩,I J 2,I J 0,U ⟨#[]⟩,Y Z 0 0,Y Z 0 0] 46)=v2 at A FB ⊢;generalize L.heap.size=fb at FB Ih Iy HU ⊢;clear AB F;go_loopg [10] D.length (fun gh i wr=>∃ (k2 q2:Nat) (nm tx:ByteArray) (kd:Int),k2+gh=D.length/\q2<=p+2+k2/\i=I J k2/\nm.size<=5000/\tx.size<=2000+K0/\Hid (SpS KK w R X wr q2 (N (T g 0 Z)) c1 D)/\Hid (wr.heap[fb]?=N (Q #[U nm,I J kd,I J 0,U tx,Y Z 0 0,Y Z 0 0] 46 (0,0))));case atStart=>exact⟨0,_,_,_,_,by omega,by omega,rfl,by decide,AI _,A,FB⟩
   case round =>
    clear A FB;obtain⟨k2,q2,nm,tx,kd,hg2,hq2,rfl,IC,II,A,FB⟩:=hrel;have hwk:IntKind.i64.wrap ((k2:Int)+1)=(k2:Int)+1:=by rw[j6];omega
    go_upto_region 9 with fail;go_cut [41] (fun I8 wx=>∃ (b1:Bool) (q3:Nat),I8=QT b1/\(b1=QR->k2<D.length)/\q3<=q2+1/\Hid (SpS KK w R X wx q3 (N (T g 0 Z)) c1 D)/\Hid (wx.heap[fb]?=N (Q #[U nm,I J kd,I J 0,U tx,Y Z 0 0,Y Z 0 0] 46 (0,0))));case first =>
     by_cases Hh:(k2:Int)<(D.length:Int)
     ·go_wp2_with fail
      refine(aw R _ 2 _ A.rd (by omega) (by omega) (by omega)).mono ?_;rintro e w4 ⟨z,rfl,z0,z1,ZB,G⟩;have C:=ae (A.only G ZB);have GC:=ae ((G.block fb (ai FB) (by omega)).trans FB);clear G ZB;go_wp2;go_meet;exact⟨_,_,rfl,fun _=>by omega,by omega,C,GC⟩
     ·go_wp2
      go_meet;exact⟨_,_,rfl,fun h=>by simp at h,by omega,A,FB⟩
    case rest =>
    clear A FB;obtain⟨b1,q3,rfl,Jo,hq3,A,FB⟩:=hcut;cases b1 with
    | true =>
     have Hh:k2<D.length:=Jo rfl;obtain⟨M,Ij,Ik⟩:=dI (R:=D) Hh;have n9:=ae Ij;have Im:=(Fn M Ik)
     clear Ij Ik;have bx:=A.box.1;have H6:=(A.at_ (j:=1) n9 (by omega) rfl).1;by_cases h3:M.1.kind=3
     ·rw[h3] at H6
      have H3:=ae h3;clear h3;go_wp2;go_roundg (D.length - 1 - k2);case measure=>omega
      case rel=>exact⟨k2+1,q3,nm,tx,kd,by omega,by omega,by go_num,IC,II,A,FB⟩
     ·have n3:(M.1.kind == 3)=QQ:=by simpa using h3
      go_upto_region 12 with fail;clear bx H6;refine aH (fun V=>V.cell? (T X 0 Z)=N (Y (N (T g 0 Z)) D.length c1)/\V.cell? (T g (k2*6) Z)=N (U M.1.name)/\V.cell? (T g (k2*6+1) Z)=N (I J M.1.kind)/\V.cell? (T g (k2*6+3) Z)=N (U M.1.text)) 19 (by as_aux_lemma=>kernel_rfl) ?_;have C:=ae (A.below br.drew);have GC:Hid (wc.drew.heap[fb]?=N (Q #[U nm,I J kd,I J 0,U tx,Y Z 0 0,Y Z 0 0] 46 (0,0))):=FB.out;clear A FB;generalize wc.drew=E at C GC ⊢;have B:Hid (E.cell? (T X 0 Z)=N (Y (N (T g 0 Z)) D.length c1)/\E.cell? (T g (k2*6) Z)=N (U M.1.name)/\E.cell? (T g (k2*6+1) Z)=N (I J M.1.kind)/\E.cell? (T g (k2*6+3) Z)=N (U M.1.text)):=⟨C.box.1,by have h:=(C.at_ (j:=0) n9 (by omega) rfl).1;rwa[KJ] at h,(C.at_ (j:=1) n9 (by omega) rfl).1,(C.at_ (j:=3) n9 (by omega) rfl).1⟩
      iterate 19
       refine aO 0 (v:=?_) rfl rfl (by as_aux_lemma=>kernel_rfl) (fun _ _ _ h=>h) rfl ?_ B ?_;rotate_left
       ·(intro wz aq;obtain⟨s0,s1,s2,s3⟩:=aq;go_simp)
        (try with_reducible rfl)
       (try simp only[Act.put,nzL])
      have P:=GC.out;have lf:=ai P;have q0:E.cell? (T fb 0 Z)=N (U nm):=by simp[World.cell?,P]
      have q1:E.cell? (T fb 1 Z)=N (I J kd):=by simp[World.cell?,P]
      have Jb:E.cell? (T fb 2 Z)=N (I J 0):=by simp[World.cell?,P]
      have Jh:E.cell? (T fb 3 Z)=N (U tx):=by simp[World.cell?,P]
      have q4:E.cell? (T fb 4 Z)=N (Y Z 0 0):=by simp[World.cell?,P]
      have q5:E.cell? (T fb 5 Z)=N (Y Z 0 0):=by simp[World.cell?,P]
      have z0:∀ j,E.frozen? (T fb j Z)=QQ:=fun j=>by simp[World.frozen?,P]
      have QZ:=ae (C.aside Ih Iy HU P (U M.1.name) (I J M.1.kind) (I J 0) (U M.1.text) (Y Z 0 0) (Y Z 0 0));have IM:=ae (LBx.six (W:=E) (b:=fb) P (U M.1.name) (I J M.1.kind) (I J 0) (U M.1.text) (Y Z 0 0) (Y Z 0 0));clear P;refine af (i:=19) rfl (by as_aux_lemma=>kernel_rfl) (fun K l=>?_);go_simp;refine l _ _ (fun h=>absurd rfl h) ?_;clear l K B
      (try simp only[Act.put,nzL])
      refine aN (by as_aux_lemma=>kernel_rfl) ?_ _;clear q0 q1 Jb Jh q4 q5 z0 C GC;go_wp2;go_roundg (D.length - 1 - k2);case measure=>omega
      case rel=>exact⟨k2+1,q3,M.1.name,M.1.text,M.1.kind,by omega,by omega,by go_num,Im.nm,Im.tx,QZ,IM⟩
    | false =>
     have P:=FB.out;have lf:=ai P;have e0:wc.cell? (T fb 0 Z)=N (U nm):=by simp[World.cell?,P]
     have e1:wc.cell? (T fb 1 Z)=N (I J kd):=by simp[World.cell?,P]
     have e2:wc.cell? (T fb 2 Z)=N (I J 0):=by simp[World.cell?,P]
     have e3:wc.cell? (T fb 3 Z)=N (U tx):=by simp[World.cell?,P]
     have e4:wc.cell? (T fb 4 Z)=N (Y Z 0 0):=by simp[World.cell?,P]
     have e5:wc.cell? (T fb 5 Z)=N (Y Z 0 0):=by simp[World.cell?,P]
     clear P;have bx:=A.box.1;have lx:=A.lt;have I6:=A.hX;obtain⟨GW,hj,bt,ph,G8⟩:=JV ie;have A4:=ae ((q9 wc).alloc ly (Q #[U nm,I J kd,I J 0,U tx,Y Z 0 0,Y Z 0 0] 46));have O4:Hid ((wc.alloc (Q #[U nm,I J kd,I J 0,U tx,Y Z 0 0,Y Z 0 0] 46)).ownsRow (w.heap.size+2) 46 6 (Y (N (T wc.heap.size 0 Z)) 1 1) 1 [U nm,I J kd,I J 0,U tx,Y Z 0 0,Y Z 0 0]):=jP (cs:=#[U nm,I J kd,I J 0,U tx,Y Z 0 0,Y Z 0 0]) (by omega) (by unfold maxLen;omega) rfl;have C:=ae (A.below A4);have IZ:=C.box.1;have Iz0:=C.box.2;go_wp2_with (at_builtin;refine wC _ rfl (.tmp 71) (.tmp 73) 23 rfl (w.heap.size+2) 46 GW (QV #[U ⟨#[]⟩,I J 0,I J 0,U ⟨#[]⟩,Y Z 0 0,Y Z 0 0]) 6 96 Tryz.underlying23 hj bt ph G8 rfl (by decide) (Y (N (T wc.heap.size 0 Z)) 1 1) 1 [U nm,I J kd,I J 0,U tx,Y Z 0 0,Y Z 0 0] (by simp[Act.eval]) O4.out (T g 0 Z) D.length c1 (D.flatMap ddV) (by simp[Act.eval]) (fh ddV 6 (fun _=>rfl) D) (fun j u hu=>C.row.own.cells (g:=g) rfl j u hu) (qL D n8) (by unfold maxLen;omega) (by omega) (by simp;omega) ?_;intro v5 w5 GD GT IE;obtain⟨g5,c5,rfl⟩:=d9 GD (by omega);have B5:=ae (bg A4 GT (by simp) (fun j e=>by simp[Value.ownBlock] at e;omega));have O5:=ae GD;have QZ:=ae (A.below B5);obtain⟨Jr,IU⟩:=QZ.box;have IX:=QZ.lt;clear GD GT IE);obtain⟨D3,ro⟩:∃ D3,D3=mf nm tx kd :: D:=⟨_,rfl⟩
     have Hl:D3.length=1+D.length:=by rw[ro,z8];omega
     have GP:w5.ownsRow (w.heap.size+2) 46 6 (Y (N (T g5 0 Z)) D3.length c5) D3.length (D3.flatMap ddV):=by rw[Hl,ro,JU];exact O5
     have S:=ae (A.box_ B5 GP (fun r6 h6=>by
      rw[ro] at h6;rcases nD.1 h6 with rfl | h6
      ·exact Dv _ _ _ _ _
      ·exact QZ.row.sub r6 h6) (fun r6 h6=>by
      rw[ro] at h6;rcases nD.1 h6 with rfl | h6
      ·exact uw kd IC (by omega)
      ·exact QZ.fit r6 h6) (by omega))
     have UP:Hid ((D3.map (·.2.2)).Pairwise Apt):=by rw[ro];exact Ga It nm tx kd
     have hn3:D3.length<=450+KK:=by omega
     rw[<-Hl];generalize w5.setCell (T X 0 Z) (Y (N (T g5 0 Z)) D3.length c5)=v6 at S ⊢;clear GP ro Hl O5 B5 QZ C A4 O4 A FB Jr IU IX IZ Iz0 bx lx e0 e1 e2 e3 e4 e5;go_loopg [11,12] D3.length (fun gh i _ wr=>∃ (k3:Nat) (D4:List DR),k3+gh=D3.length/\i=I J k3/\Hid (D4.length=D3.length)/\Hid (D4.map (·.2)=D3.map (·.2))/\Hid (SpS KK w R X wr q3 (N (T g5 0 Z)) c5 D4));case atStart=>exact⟨0,D3,by omega,rfl,rfl,rfl,S⟩
     case round =>
      clear S;obtain⟨k3,D4,hg3,rfl,ur,Iz,S7⟩:=hrel;have Jl:D4.length<=450+KK:=by have:=ur.out;omega
      have hwk3:IntKind.i64.wrap ((k3:Int)+1)=(k3:Int)+1:=by rw[j6];have:=ur.out;omega
      have Je:=S7.box.1;by_cases Hh:(k3:Int)<(D4.length:Int)
      ·obtain⟨r4,Hv,Ie⟩:=dI (R:=D4) (i:=k3) (by omega)
       have Jq:=ae Hv;have hln4:=(S7.fit r4 Ie).ln;clear Hv Ie;go_wp2_with fail;clear Je;go_loopg [12] r4.1.linksN (fun gh j wr=>∃ (j3:Nat) (D5:List DR) (QY:DR),j3+gh=r4.1.linksN/\j=I J j3/\Hid (D5.length=D4.length)/\Hid (D5.map (·.2)=D4.map (·.2))/\Hid (D5[k3]?=N QY)/\Hid (QY.1.linksN=r4.1.linksN)/\Hid (SpS KK w R X wr q3 (N (T g5 0 Z)) c5 D5));case atStart=>exact⟨0,D4,r4,by omega,rfl,rfl,rfl,Jq,rfl,S7⟩
       case round =>
        clear S7;obtain⟨j3,D5,QY,hg5,rfl,GM,GN,qr,la,S8⟩:=hrel;have IP:k3<D5.length:=by have:=GM.out;omega
        have Ic:=IF qr.out;have Hp:=ae Ic;clear Ic;have hln5:QY.1.linksN<=200+KK:=by have:=la.out;omega
        have hwj3:IntKind.i64.wrap ((j3:Int)+1)=(j3:Int)+1:=by rw[j6];have:=la.out;omega
        obtain⟨al,cl,el⟩:=lD (S8.row.sub QY Hp).lnk;have EL:=ae el;have Jn:=S8.box.1;have IY:_=N (Value.slice al QY.1.linksN cl):=(S8.at_ (j:=5) qr (by omega) (by rw[<-el];rfl)).1;clear el;by_cases hjl:(j3:Int)<(QY.1.linksN:Int)
        ·have GL:j3<QY.1.linksN:=by omega
         obtain⟨ZA,IQ,e2⟩:=d9 (S8.row.sub QY Hp).lnk (by omega);rw[EL.out] at e2;obtain⟨rfl,-,-⟩:=NF e2;clear e2 IQ;have OL:Hid (∀ V q,SpS KK w R X V q (N (T g5 0 Z)) c5 D5->V.ownsRow (w.heap.size+2) 129 4 (Y (N (T ZA 0 Z)) QY.1.linksN cl) QY.1.linksN (bZ QY.1.links QY.1.linksN)):=fun V q hV=>by rw[<-EL.out];exact(hV.row.sub QY Hp).lnk
         have ak:=(cI (j:=1) (OL _ _ S8) GL (by omega) rfl).1;cases hask:(QY.1.links j3).ask with
         | false =>
          rw[hask] at ak;clear hask;go_wp2;go_roundg (r4.1.linksN - 1 - j3);case measure=>have:=la.out;omega
          case rel=>exact⟨j3+1,D5,QY,by have:=la.out;omega,by go_num,GM,GN,qr,la,S8⟩
         | true =>
          rw[hask] at ak;clear hask;go_upto_region 21 with fail;clear Jn IY ak;refine aH (fun V=>V.cell? (T X 0 Z)=N (Y (N (T g5 0 Z)) D5.length c5)/\V.cell? (T g5 (k3*6+5) Z)=N (Y (N (T ZA 0 Z)) QY.1.linksN cl)/\V.cell? (T ZA (j3*4+3) Z)=N (I J (QY.1.links j3).at_)) 20 (by as_aux_lemma=>kernel_rfl) ?_;have S9:=ae (S8.below br.drew);clear S8;generalize wr.drew=v8 at S9 ⊢;have B:Hid (v8.cell? (T X 0 Z)=N (Y (N (T g5 0 Z)) D5.length c5)/\v8.cell? (T g5 (k3*6+5) Z)=N (Y (N (T ZA 0 Z)) QY.1.linksN cl)/\v8.cell? (T ZA (j3*4+3) Z)=N (I J (QY.1.links j3).at_)):=⟨S9.box.1,(S9.at_ (j:=5) qr (by omega) (by rw[<-EL.out];rfl)).1,(cI (j:=3) (OL _ _ S9) GL (by omega) rfl).1⟩
          iterate 18
           refine aO 0 (v:=?_) rfl rfl (by as_aux_lemma=>kernel_rfl) (fun _ _ _ h=>h) rfl ?_ B ?_;rotate_left
           ·(intro wz aq;obtain⟨s0,s1,s2⟩:=aq;go_simp)
            (try with_reducible rfl)
           (try simp only[Act.put,nzL])
          generalize IntKind.i64.wrap ((QY.1.links j3).at_+1)=zz
          iterate 2
           refine cG 18 rfl rfl (by as_aux_lemma=>kernel_rfl) (fun K l=>?_);go_simp;refine l _ _ (fun _=>B) ?_;clear l K
           (try simp only[Act.put,nzL])
          have Q2:=B.2.2;have QX:=(cI (j:=3) (OL _ _ S9) GL (by omega) rfl).2;have IK:=((OL _ _ S9).lt ZA rfl).2;have Iv:(D5.map (·.2.2)).Pairwise Apt:=by
           have e3:D5.map (·.2.2)=D3.map (·.2.2):=by have e4:=JN (List.map Prod.snd) (GN.trans Iz);rw[List.map_map,List.map_map] at e4;exact e4
           rw[e3];exact UP
          have Jj:=ae (S9.lnk Iv qr EL GL zz);clear Iv;refine af (i:=20) rfl (by as_aux_lemma=>kernel_rfl) (fun K l=>?_);go_simp;refine l _ _ (fun h=>absurd rfl h) ?_;clear l K B
          (try simp only[Act.put,nzL])
          refine aN (by as_aux_lemma=>kernel_rfl) ?_ _;clear Q2 QX IK S9;go_wp2;go_roundg (r4.1.linksN - 1 - j3);case measure=>have:=la.out;omega
          case rel=>exact⟨j3+1,D5.set k3 (atD QY.1 j3 zz,QY.2),(atD QY.1 j3 zz,QY.2),by have:=la.out;omega,by go_num,JO.trans GM,(Du qr _).trans GN,KL IP,la,Jj⟩
        ·go_wp2
         go_roundg (D3.length - 1 - k3);case measure=>have:=ur.out;omega
         case rel=>exact⟨k3+1,D5,by have:=ur.out;omega,by go_num,GM.trans ur,GN.trans Iz,S8⟩
      ·go_wp2
       go_meet;exact⟨_,_,_,_,by omega,S7⟩
 case rest =>
 clear F;obtain⟨a',c',q',D',Jm,S9⟩:=hcut;have bx:=S9.box.1;have rs:=S9.rs;have r0:wc.cell? (T (w.heap.size+1) 0 Z)=N (Y Z 0 0):=by simp[World.cell?,rs]
 have f0:wc.frozen? (T (w.heap.size+1) 0 Z)=QQ:=by simp[World.frozen?,rs]
 have l0:=ai rs;have FN:=ae (S9.fin (by omega) Jm);clear rs;go_wp2;exact bp (v:=QV #[Y a' D'.length c']) (by simp[results,Tryz.results34,go_sem,r0]) rfl FN.out
theorem yM (b:yH)(R p:Nat)(a:Option Addr)(n cap:Nat)(f:Nat->aj)(w:H)(l:SlDeed w a n f)(c:∀ i,i<n->FitI (f i))(hn:n<=450)(hR:Rd w R p)(g:p<=19000):Calls Tryz.prog 34 #[.pointer (N (T R 0 Z)),QV #[Y a n cap]] w fun e j=>DA w R (p+1100) e j :=
 (AF b 0 1 (by omega) (by omega) R p a n cap f w l (fun i hi=>(c i hi).k) hn hR g).mono fun _ _ h=>h.da
end Go.Proofs.YtamacmnikdejeaaGreatDoor.Vp
