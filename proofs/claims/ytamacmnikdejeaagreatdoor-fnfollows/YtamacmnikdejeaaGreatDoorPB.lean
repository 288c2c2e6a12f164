import Derived.Test.YtamacmnikdejeaaGreatDoorQY
set_option maxRecDepth 100000
set_option maxHeartbeats 8000000
set_option linter.unusedSimpArgs false
open Go.Addr renaming mk->N
open Go.Value renaming slice->Y,string->U,agg->QG
open Option renaming none->Z,some->T
open Go.Obj renaming cells->Q
open Go renaming World->G
open Bool renaming false->QB
namespace Go.Proofs.YtamacmnikdejeaaGreatDoor.Vp
open RowKit Ca
def DCh (w:G)(R q:Nat)(a0:Option Addr)(n0:Nat)(f0:Nat->Source)(a1:Option Addr)(n1:Nat)(f1:Nat->Target)(e:Ending)(b:G):Prop:=∃ (d0:Option Addr) (m0 k0:Nat) (g0:Nat->Source) (d1:Option Addr) (m1 k1:Nat) (g1:Nat->Target),e=.returned (QG #[Y d0 m0 k0,Y d1 m1 k1])/\(HSg w.heap.size b d0 m0 g0 d1 m1 g1∨(d0=a0/\m0=n0/\g0=f0/\d1=a1/\m1=n1/\g1=f1))/\∃ q':Nat,q'<=q/\Rd b R q'/\Only R w b
structure Ch (E:Option Addr->Nat->(Nat->Source)->Option Addr->Nat->(Nat->Target)->Prop)(xs:List Nat)(w:G)(R:Nat)(W:G)(q m0 k0 m1 k1:Nat)(d0:Option Addr)(g0:Nat->Source)(d1:Option Addr)(g1:Nat->Target):Prop where
 rd:Rd W R q
 o:Only R w W
 sx:W.heap[w.heap.size]?=T (Q #[Y d0 m0 k0,Y d1 m1 k1] 29 (0,0))
 rx:W.heap[w.heap.size+1]?=T (Q #[Y Z 0 0,Y Z 0 0] 29 (0,0))
 sp:QSp w.heap.size xs W d0 m0 g0 d1 m1 g1∨E d0 m0 g0 d1 m1 g1
 lo:R<w.heap.size
section
variable {E:Option Addr->Nat->(Nat->Source)->Option Addr->Nat->(Nat->Target)->Prop}{xs ys:List Nat}{w W W':G}{R q q' m0 k0 m1 k1:Nat}{d0 d1:Option Addr}{g0:Nat->Source}{g1:Nat->Target}
theorem Ch.only (h:Ch E xs w R W q m0 k0 m1 k1 d0 g0 d1 g1)(b:Only R W W')(hR:Rd W' R q')(f:R∈xs):Ch E xs w R W' q' m0 k0 m1 k1 d0 g0 d1 g1:=by have hl:=h.lo;exact⟨hR,h.o.trans b,(b.block _ (ai h.sx) (by omega)).trans h.sx,(b.block _ (ai h.rx) (by omega)).trans h.rx,h.sp.imp (fun g=>g.fr (Fr.only b f)) id,h.lo⟩
theorem Ch.below (h:Ch E xs w R W q m0 k0 m1 k1 d0 g0 d1 g1)(b:Below W.heap.size W W')(f:R∈xs):Ch E xs w R W' q m0 k0 m1 k1 d0 g0 d1 g1:=h.only (Only.of_below b) (h.rd.below b ly) f
theorem QSp.more {lo x:Nat}(h:QSp lo xs W d0 m0 g0 d1 m1 g1)(j:W.heap.size<=x):QSp lo (x :: xs) W d0 m0 g0 d1 m1 g1:=by
 obtain⟨b,l,g,h1,h2,i⟩:=h;refine⟨b,l,g,h1,h2,fun y f=>?_⟩;rcases p6.1 f with rfl | f
 ·exact .inr (p9 h2.1 j)
 ·exact i y f
theorem QSp.less {lo x:Nat}(h:QSp lo (x :: xs) W d0 m0 g0 d1 m1 g1):QSp lo xs W d0 m0 g0 d1 m1 g1:=by obtain⟨b,j,f,h1,h2,g⟩:=h;exact⟨b,j,f,h1,h2,fun y i=>g y (mq _ i)⟩
theorem Ch.more {x:Nat}(h:Ch E xs w R W q m0 k0 m1 k1 d0 g0 d1 g1)(b:W.heap.size<=x):Ch E (x :: xs) w R W q m0 k0 m1 k1 d0 g0 d1 g1:=⟨h.rd,h.o,h.sx,h.rx,h.sp.imp (fun g=>g.more b) id,h.lo⟩
theorem Ch.less {x:Nat}(h:Ch E (x :: xs) w R W q m0 k0 m1 k1 d0 g0 d1 g1):Ch E xs w R W q m0 k0 m1 k1 d0 g0 d1 g1:=⟨h.rd,h.o,h.sx,h.rx,h.sp.imp (fun g=>g.less) id,h.lo⟩
theorem Ch.cells (h:Ch E xs w R W q m0 k0 m1 k1 d0 g0 d1 g1):W.cell? (N w.heap.size 0 Z)=T (Y d0 m0 k0)/\W.cell? (N w.heap.size 1 Z)=T (Y d1 m1 k1)/\W.frozen? (N w.heap.size 0 Z)=QB/\W.frozen? (N w.heap.size 1 Z)=QB/\w.heap.size<W.heap.size:=by have hb:=h.sx;refine⟨?_,?_,?_,?_,ai hb⟩<;>simp[World.cell?,World.frozen?,hb]
theorem Ch.two (h:Ch E xs w R W q m0 k0 m1 k1 d0 g0 d1 g1){x:Nat}(f:x∈xs)(b:w.heap.size+2<=x)(u v:Value):Ch E xs w R ((W.setCell (N x 0 Z) u).setCell (N x 1 Z) v) q m0 k0 m1 k1 d0 g0 d1 g1:=by have B:=((a8 (w.heap.size+2) W).setCell (p:=(N x 0 Z)) b u).setCell (p:=(N x 1 Z)) b v;have hlo:=h.lo;exact⟨h.rd.low B (by omega),h.o.then (B.mono (by omega)),(B.block _ (by omega)).trans h.sx,(B.block _ (by omega)).trans h.rx,h.sp.imp (fun g=>g.fr ((Fr.set f _).trans (Fr.set f _))) id,h.lo⟩
theorem Ch.put {f l0 j l1:Nat}{i b:Option Addr}{l:Nat->Source}{m:Nat->Target}(h:Ch E xs w R W q m0 k0 m1 k1 d0 g0 d1 g1)(r:w.heap.size∈xs)(s:QSp w.heap.size xs W i f l b j m∨E i f l b j m):Ch E xs w R ((W.setCell (N w.heap.size 0 Z) (Y i f l0)).setCell (N w.heap.size 1 Z) (Y b j l1)) q f l0 j l1 i l b m:=by have B:=((a8 w.heap.size W).setCell (p:=(N w.heap.size 0 Z)) ly (Y i f l0)).setCell (p:=(N w.heap.size 1 Z)) ly (Y b j l1);have far:∀ k,k≠w.heap.size->((W.setCell (N w.heap.size 0 Z) (Y i f l0)).setCell (N w.heap.size 1 Z) (Y b j l1)).heap[k]?=W.heap[k]?:=fun k n=>(qh _ _ _ _ n).trans (qh _ _ _ _ n);have t:=h.sx;exact⟨h.rd.low B h.lo,h.o.then B,by simp[World.setCell,IK,t],(far _ (by omega)).trans h.rx,s.imp (fun g=>g.fr ((Fr.set r _).trans (Fr.set r _))) id,h.lo⟩
end
theorem qw {w:G}{b c0 c1:Nat}{a0 a1:Option Addr}{f:List Source}{g:List TR}{l:List Target}(n:w.ownsRow b 121 2 (Y a0 f.length c0) f.length (f.flatMap bC))(p:TRow w b (Y a1 g.length c1) g)(m:g.map (·.1)=l)(j:Sml f l):HSg b w a0 f.length (ba f) a1 g.length (be l):=by
 subst m;refine⟨eX n rfl p rfl j.n0 (by simpa using j.n1) (fun r o=>?_),j.pos.1,by simpa using j.pos.2.1,fun i hi=>j.pos.2.2 i (by simpa using hi)⟩;obtain⟨i,hi,rfl⟩:=KP o;have e:be (g.map (·.1)) i=g[i].1:=by simp[be,hi]
 have h:=j.act i (by simpa using hi);rw[e] at h;exact h
theorem mI (R p b n0 c0 n1 c1:Nat)(a0:Option Addr)(f0:Nat->Source)(a1:Option Addr)(f1:Nat->Target)(w:G)(hR:Rd w R p)(hp:p<=15000)(hb:R<b)(hH:HSg b w a0 n0 f0 a1 n1 f1):Calls Tryz.prog 35 #[.pointer (T (N R 0 Z)),QG #[Y a0 n0 c0,Y a1 n1 c1]] w fun e w'=>DCh w R (p+2500) a0 n0 f0 a1 n1 f1 e w':=by
 obtain⟨E,hE⟩:∃ E:Option Addr->Nat->(Nat->Source)->Option Addr->Nat->(Nat->Target)->Prop,E=fun d0 m0 g0 d1 m1 g1=>d0=a0/\m0=n0/\g0=f0/\d1=a1/\m1=n1/\g1=f1:=⟨_,rfl⟩
 have HE:Hid (∀ d0 m0 g0 d1 m1 g1,E d0 m0 g0 d1 m1 g1->d0=a0/\m0=n0/\g0=f0/\d1=a1/\m1=n1/\g1=f1):=fun _ _ _ _ _ _ h=>by rw[hE] at h;exact h
 have f:Hid (∀ (V:G) (xs:List Nat) (q m0 k0 m1 k1:Nat) (d0:Option Addr) (g0:Nat->Source) (d1:Option Addr) (g1:Nat->Target),Ch E xs w R V q m0 k0 m1 k1 d0 g0 d1 g1->SlSource V d0 m0 g0/\SlTarget V d1 m1 g1/\m0<=300/\m1<=300/\∀ i,i<m1->(g1 i).actN<=300/\∀ j,j<(g1 i).actN->((g1 i).act j).s.size<=5000):=fun V xs q m0 k0 m1 k1 d0 g0 d1 g1 h=>by
  rcases h.sp with g | g
  ·have h1:=g.at.1
   exact⟨(h1.sl V (Agr.refl _ _)).1,(h1.sl V (Agr.refl _ _)).2,h1.hn0,h1.hn1,h1.fit⟩
  ·obtain⟨rfl,rfl,rfl,rfl,rfl,rfl⟩:=HE.out _ _ _ _ _ _ g
   have h1:=hH.1.sl V (h.o.agr hb);exact⟨h1.1,h1.2,hH.1.hn0,hH.1.hn1,hH.1.fit⟩
 have ur:=hR.lt;have C0:Hid (Ch E [R,w.heap.size,w.heap.size+1] w R ((w.alloc (Q #[Y a0 n0 c0,Y a1 n1 c1] 29)).alloc (Q #[Y Z 0 0,Y Z 0 0] 29)) p n0 c0 n1 c1 a0 f0 a1 f1):=by have B:=((q9 w).alloc ly (Q #[Y a0 n0 c0,Y a1 n1 c1] 29)).alloc (by simp) (Q #[Y Z 0 0,Y Z 0 0] 29);exact⟨hR.below B ly,Only.of_below B,(((a8 (w.heap.size+1) (w.alloc (Q #[Y a0 n0 c0,Y a1 n1 c1] 29))).alloc (by simp) _).block w.heap.size (eL _)).trans (eT w _),JZ w _ _,.inr (by rw[hE];exact⟨rfl,rfl,rfl,rfl,rfl,rfl⟩),ur⟩
 clear hE hR hH;go_enter Tryz.func35,Tryz.ntmps35;go_wp2_with fail;generalize (w.alloc (Q #[Y a0 n0 c0,Y a1 n1 c1] 29)).alloc (Q #[Y Z 0 0,Y Z 0 0] 29)=W0 at C0 ⊢;refine(av R p 3 _ C0.rd (by omega) (by omega) (by omega)).mono ?_;rintro e w1 ⟨z,rfl,ph,sm,mv,n6⟩;have C1:=ae (C0.only n6 mv (by simp));clear mv n6 C0;have At:IntKind.i64.wrap (1+z)=1+z:=by rw[kP];omega
 go_wp2_with fail;go_loopw [5] (fun v wr=>∃ (i:Int) (q m0 k0 m1 k1:Nat) (d0:Option Addr) (g0:Nat->Source) (d1:Option Addr) (g1:Nat->Target),v=.int .i64 i/\0<=i/\i<=3/\(q:Int)+610*i<=(p:Int)+1831/\Hid (Ch E [R,w.heap.size,w.heap.size+1] w R wr q m0 k0 m1 k1 d0 g0 d1 g1)) (fun v _=>(intOf v).toNat);case atStart=>exact⟨_,_,_,_,_,_,_,_,_,_,rfl,by omega,by omega,by omega,C1⟩
 case round =>
  clear C1 At ph sm;obtain⟨i,q,m0,k0,m1,k1,d0,g0,d1,g1,rfl,hi0,hi3,hq,C2⟩:=hrel;obtain⟨x0,x1,x2,x3,x4⟩:=C2.cells;by_cases hi:0<i
  ·have hwi:IntKind.i64.wrap (i - 1)=i - 1:=by rw[kP];omega
   have DS:=ai C2.rx;have C3:Hid (Ch E [wr.heap.size,R,w.heap.size,w.heap.size+1] w R (wr.alloc (Q #[Y d0 m0 k0,Y d1 m1 k1] 29)) q m0 k0 m1 k1 d0 g0 d1 g1):=(C2.more ly).below (br.alloc ly _) (by simp);have N3:Hid ((wr.alloc (Q #[Y d0 m0 k0,Y d1 m1 k1] 29)).heap[wr.heap.size]?=T (Q #[Y d0 m0 k0,Y d1 m1 k1] 29 (0,0))):=eT wr _;go_wp2_with fail;generalize wr.alloc (Q #[Y d0 m0 k0,Y d1 m1 k1] 29)=W3 at C3 N3 ⊢;refine(av R _ 6 _ C3.rd (by omega) (by omega) (by omega)).mono ?_;rintro e w4 ⟨z,rfl,ph,sm,n7,ld⟩;have QJ:=ae (C3.only ld n7 (by simp));have N4:=ae ((ld.block _ (ai N3) (by omega)).trans N3);clear n7 ld C3 N3;have ex:w.heap.size+2<=wr.heap.size:=by omega
   clear x0 x1 x2 x3 x4 DS C2;go_upto_block 2 with fail;generalize wr.heap.size=n at QJ N4 ex ⊢;have QK:Hid (∀ (V:G) (q:Nat),Ch E [n,R,w.heap.size,w.heap.size+1] w R V q m0 k0 m1 k1 d0 g0 d1 g1->V.cell? (N w.heap.size 0 Z)=T (Y d0 m0 k0)/\V.cell? (N w.heap.size 1 Z)=T (Y d1 m1 k1)):=fun V q h=>⟨h.cells.1,h.cells.2.1⟩
   obtain⟨-,-,hm0,hm1,la⟩:=f.out _ _ _ _ _ _ _ _ _ _ _ QJ;have HL:=f;clear f;have FT:Hid (∀ i,i<m1->bk (g1 i)):=fun i hi=>by have:=(la i hi).1;unfold bk;omega
   have FL:Hid (∀ i,i<m1->∀ j,j<(g1 i).actN->((g1 i).act j).s.size<=maxLen):=fun i hi j hj=>by have:=(la i hi).2 j hj;unfold maxLen;omega
   clear la;go_cut [7] (fun s7 wx=>∃ (cc:Int) (q' O H QN QP:Nat) (QO:Option Addr) (i0:Nat->Source) (M:Option Addr) (i1:Nat->Target),s7=.int .i64 cc/\q'<=q+605/\Hid (Ch E [n,R,w.heap.size,w.heap.size+1] w R wx q' m0 k0 m1 k1 d0 g0 d1 g1)/\Hid (wx.heap[n]?=T (Q #[Y QO O H,Y M QN QP] 29 (0,0)))/\Hid (QSp w.heap.size [n,R,w.heap.size,w.heap.size+1] wx QO O i0 M QN i1));case first =>
    rcases(show z=0∨z=1∨(1<z) by omega) with rfl | rfl | hz2
    ·go_wp2_with fail
     have l:=ae (QJ.below br.drew (by simp));have r:Hid (w4.drew.heap[n]?=T (Q #[Y d0 m0 k0,Y d1 m1 k1] 29 (0,0))):=N4.out;refine wp_region_held_drew (S:=fun V=>V.cell? (N w.heap.size 0 Z)=T (Y d0 m0 k0)/\V.cell? (N w.heap.size 1 Z)=T (Y d1 m1 k1)) (by as_aux_lemma=>kernel_rfl) (QK _ _ l) (fun hS=>?_);have f:=ae hS;clear hS QJ N4;generalize w4.drew=v4 at l r f ⊢
     iterate 2
      refine bB 0 (v:=?_) rfl rfl (by as_aux_lemma=>kernel_rfl) (fun _ _ _ h=>h) rfl ?_ f ?_;rotate_left
      ·(intro X u;obtain⟨s0,s1⟩:=u;go_simp)
       (try with_reducible rfl)
      (try simp only[Act.put,nzL])
     refine aR (i:=2) rfl (by as_aux_lemma=>kernel_rfl) (fun K m=>?_);go_simp;go_at_call 60;refine(dN R _ _ l.rd (by omega)).mono ?_;rintro e v5 ⟨t,rfl,W,hR,D⟩;clear W;have A:=ae (l.only D hR (by simp));have C:=ae ((D.block _ (ai r) (by omega)).trans r);clear hR D l r f;have l:=ae A.out;have r:=ae C.out;clear A C;have f:=ae (QK _ _ l);refine m _ _ f ?_;clear m K
     (try simp only[Act.put,nzL])
     refine aR (i:=3) rfl (by as_aux_lemma=>kernel_rfl) (fun K m=>?_);go_simp;go_at_call 29;refine(sV d0 m0 k0 g0 d1 m1 k1 g1 t _ (by omega) (by omega) (HL _ _ _ _ _ _ _ _ _ _ _ l).1 (HL _ _ _ _ _ _ _ _ _ _ _ l).2.1 FT FL).mono ?_;rintro e QL ⟨v0,v1,RT,rfl,QH,W,hm,QM⟩;obtain⟨QO,H,rfl⟩:=aP QH;obtain⟨M,QP,rfl⟩:=aP W.own;have th:=QM.size;have qr:=l.o.size;have aq:=ai r.out;have C6:=ae (l.below QM (by simp));have N6:=ae ((QM.block n aq).trans r)
     have P:=ae (QSp.new (lo:=w.heap.size) (xs:=[n,R,w.heap.size,w.heap.size+1]) (qw QH W hm Bw) (by omega) (fun x hx=>by
      simp only[p6,nj,JQ] at hx
      omega))
     clear QH W hm QM l r f;have f:=ae (QK _ _ C6);refine m _ _ f ?_;clear m K
     (try simp only[Act.put,nzL])
     iterate 3
      refine bB 4 (v:=?_) rfl rfl (by as_aux_lemma=>kernel_rfl) (fun _ _ _ h=>h) rfl ?_ f ?_;rotate_left
      ·(intro X u;obtain⟨s0,s1⟩:=u;go_simp)
       (try with_reducible rfl)
      (try simp only[Act.put,nzL])
     generalize (iD m0 g0 m1 g1 t).length=O at P ⊢;generalize RT.length=QN at P ⊢;generalize ba (iD m0 g0 m1 g1 t)=i0 at P;generalize be (kH m0 g0 m1 g1 t)=i1 at P;have QR:=N6.out;have y0:QL.frozen? (N n 0 Z)=QB:=by simp[World.frozen?,QR]
     have y1:QL.frozen? (N n 1 Z)=QB:=by simp[World.frozen?,QR]
     have y2:=ai QR;have y3:QL.cell? (N n 0 Z)=T (Y d0 m0 k0):=by simp[World.cell?,QR]
     have y4:QL.cell? (N n 1 Z)=T (Y d1 m1 k1):=by simp[World.cell?,QR]
     clear QR;have C7:=ae (C6.two (x:=n) (by simp) ex (Y QO O H) (Y M QN QP));have N7:Hid (((QL.setCell (N n 0 Z) (Y QO O H)).setCell (N n 1 Z) (Y M QN QP)).heap[n]?=T (Q #[Y QO O H,Y M QN QP] 29 (0,0))):=by have h1:=bI (j:=1) (bI (j:=0) N6 (Y QO O H)) (Y M QN QP);exact h1
     have Q7:=ae (P.fr ((Fr.set (x:=n) (j:=0) (by simp) (Y QO O H)).trans (Fr.set (x:=n) (j:=1) (by simp) (Y M QN QP))));refine aR (i:=7) rfl (by as_aux_lemma=>kernel_rfl) (fun K m=>?_);go_simp;clear f;have f:=ae (QK _ _ C7);refine m _ _ f ?_;clear m K
     (try simp only[Act.put,nzL])
     refine aR (i:=8) rfl (by as_aux_lemma=>kernel_rfl) (fun K m=>?_);go_simp;refine m _ _ f ?_;clear m K
     (try simp only[Act.put,nzL])
     refine wpAnyH_done (by as_aux_lemma=>kernel_rfl) ?_ _;go_wp2;go_meet;exact⟨_,_,_,_,_,_,_,_,_,_,rfl,by omega,C7,N7,Q7⟩
    ·go_wp2_with fail
     have l:=ae (QJ.below br.drew (by simp));have r:Hid (w4.drew.heap[n]?=T (Q #[Y d0 m0 k0,Y d1 m1 k1] 29 (0,0))):=N4.out;refine wp_region_held_drew (S:=fun V=>V.cell? (N w.heap.size 0 Z)=T (Y d0 m0 k0)/\V.cell? (N w.heap.size 1 Z)=T (Y d1 m1 k1)) (by as_aux_lemma=>kernel_rfl) (QK _ _ l) (fun hS=>?_);have f:=ae hS;clear hS QJ N4;generalize w4.drew=v4 at l r f ⊢
     iterate 2
      refine bB 0 (v:=?_) rfl rfl (by as_aux_lemma=>kernel_rfl) (fun _ _ _ h=>h) rfl ?_ f ?_;rotate_left
      ·(intro X u;obtain⟨s0,s1⟩:=u;go_simp)
       (try with_reducible rfl)
      (try simp only[Act.put,nzL])
     refine bB 5 (v:=?_) rfl rfl (by as_aux_lemma=>kernel_rfl) (fun _ _ _ h=>h) rfl ?_ f ?_;rotate_left
     ·(intro X u;obtain⟨s0,s1⟩:=u;go_simp)
      (try with_reducible rfl)
     (try simp only[Act.put,nzL])
     refine aR (i:=2) rfl (by as_aux_lemma=>kernel_rfl) (fun K m=>?_);go_simp;go_at_call 33;refine(av R _ 8 _ l.rd (by omega) (by omega) (by omega)).mono ?_;rintro e v5 ⟨y,rfl,bt,n8,hR,D⟩;obtain⟨k,rfl⟩:=nX bt;have A:=ae (l.only D hR (by simp));have C:=ae ((D.block _ (ai r) (by omega)).trans r);clear hR D l r f;have l:=ae A.out;have r:=ae C.out;clear A C;have f:=ae (QK _ _ l);refine m _ _ f ?_;clear m K
     (try simp only[Act.put,nzL])
     refine aR (i:=3) rfl (by as_aux_lemma=>kernel_rfl) (fun K m=>?_);go_simp;go_at_call 81;refine(gK k (by omega) _).mono ?_;rintro e v7 ⟨rfl,QM⟩;have hR:=l.rd.below QM ly;have D:=Only.of_below (b:=R) QM;clear QM;have A:=ae (l.only D hR (by simp));have C:=ae ((D.block _ (ai r) (by omega)).trans r);clear hR D l r f;have l:=ae A.out;have r:=ae C.out;clear A C;have f:=ae (QK _ _ l);refine m _ _ f ?_;clear m K
     (try simp only[Act.put,nzL])
     refine bB 4 (v:=?_) rfl rfl (by as_aux_lemma=>kernel_rfl) (fun _ _ _ h=>h) rfl ?_ f ?_;rotate_left
     ·(intro X u;obtain⟨s0,s1⟩:=u;go_simp)
      (try with_reducible rfl)
     (try simp only[Act.put,nzL])
     refine aR (i:=6) rfl (by as_aux_lemma=>kernel_rfl) (fun K m=>?_);go_simp;go_at_call 82;have hs7:=l.o.size;refine(iB R _ _ l.rd (by omega)).mono ?_;rintro e v8 ⟨L,g,c,rfl,hI,hL1,hL2,ro,q8,hq8,hR,D⟩;have SI:=ae (show SlIns v8 (T (N g 0 Z)) L.length (cS L) from .inr ⟨g,0,rfl,hI.lt.2,hI.at⟩);have FI:Hid (∀ i,i<L.length->(cS L i).s.size<=maxLen):=fun i hi=>by have:=jn ro i hi;unfold maxLen;omega
     clear hI ro;have A:=ae (l.only D hR (by simp));have C:=ae ((D.block _ (ai r) (by omega)).trans r);clear hR D l r f;have l:=ae A.out;have r:=ae C.out;clear A C;have f:=ae (QK _ _ l);refine m _ _ f ?_;clear m K
     (try simp only[Act.put,nzL])
     refine aR (i:=7) rfl (by as_aux_lemma=>kernel_rfl) (fun K m=>?_);go_simp;go_at_call 21;refine(ti d0 m0 k0 g0 d1 m1 k1 g1 _ (T (N g 0 Z)) L.length c (cS L) _ (by omega) (by omega) (by omega) (HL _ _ _ _ _ _ _ _ _ _ _ l).1 (HL _ _ _ _ _ _ _ _ _ _ _ l).2.1 SI FT FL FI).mono ?_;rintro e QL ⟨v0,v1,RT,rfl,QH,W,hm,QM⟩;clear SI FI;obtain⟨QO,H,rfl⟩:=aP QH;obtain⟨M,QP,rfl⟩:=aP W.own;have th:=QM.size;have qr:=l.o.size;have aq:=ai r.out;have C6:=ae (l.below QM (by simp));have N6:=ae ((QM.block n aq).trans r)
     have P:=ae (QSp.new (lo:=w.heap.size) (xs:=[n,R,w.heap.size,w.heap.size+1]) (qw QH W hm Bv) (by omega) (fun x hx=>by
      simp only[p6,nj,JQ] at hx
      omega))
     clear QH W hm QM l r f;have f:=ae (QK _ _ C6);refine m _ _ f ?_;clear m K
     (try simp only[Act.put,nzL])
     iterate 3
      refine bB 8 (v:=?_) rfl rfl (by as_aux_lemma=>kernel_rfl) (fun _ _ _ h=>h) rfl ?_ f ?_;rotate_left
      ·(intro X u;obtain⟨s0,s1⟩:=u;go_simp)
       (try with_reducible rfl)
      (try simp only[Act.put,nzL])
     generalize (⟨#[116]⟩:ByteArray)++⟨#[dig k]⟩=t at P ⊢;generalize (gn m0 g0 m1 g1 t L.length (cS L)).length=O at P ⊢;generalize RT.length=QN at P ⊢;generalize ba (gn m0 g0 m1 g1 t L.length (cS L))=i0 at P;generalize be (gN m0 g0 m1 g1 t L.length (cS L))=i1 at P;have QR:=N6.out;have y0:QL.frozen? (N n 0 Z)=QB:=by simp[World.frozen?,QR]
     have y1:QL.frozen? (N n 1 Z)=QB:=by simp[World.frozen?,QR]
     have y2:=ai QR;have y3:QL.cell? (N n 0 Z)=T (Y d0 m0 k0):=by simp[World.cell?,QR]
     have y4:QL.cell? (N n 1 Z)=T (Y d1 m1 k1):=by simp[World.cell?,QR]
     clear QR;have C7:=ae (C6.two (x:=n) (by simp) ex (Y QO O H) (Y M QN QP));have N7:Hid (((QL.setCell (N n 0 Z) (Y QO O H)).setCell (N n 1 Z) (Y M QN QP)).heap[n]?=T (Q #[Y QO O H,Y M QN QP] 29 (0,0))):=by have h1:=bI (j:=1) (bI (j:=0) N6 (Y QO O H)) (Y M QN QP);exact h1
     have Q7:=ae (P.fr ((Fr.set (x:=n) (j:=0) (by simp) (Y QO O H)).trans (Fr.set (x:=n) (j:=1) (by simp) (Y M QN QP))));refine aR (i:=11) rfl (by as_aux_lemma=>kernel_rfl) (fun K m=>?_);go_simp;clear f;have f:=ae (QK _ _ C7);refine m _ _ f ?_;clear m K
     (try simp only[Act.put,nzL])
     refine aR (i:=12) rfl (by as_aux_lemma=>kernel_rfl) (fun K m=>?_);go_simp;refine m _ _ f ?_;clear m K
     (try simp only[Act.put,nzL])
     refine wpAnyH_done (by as_aux_lemma=>kernel_rfl) ?_ _;go_wp2;go_meet;exact⟨_,_,_,_,_,_,_,_,_,_,rfl,by omega,C7,N7,Q7⟩
    ·have hz3:(z == 0)=QB:=by simp;omega
     have hz4:(z == 1)=QB:=by simp;omega
     go_wp2_with fail;have l:=ae (QJ.below br.drew (by simp));have r:Hid (w4.drew.heap[n]?=T (Q #[Y d0 m0 k0,Y d1 m1 k1] 29 (0,0))):=N4.out;refine wp_region_held_drew (S:=fun V=>V.cell? (N w.heap.size 0 Z)=T (Y d0 m0 k0)/\V.cell? (N w.heap.size 1 Z)=T (Y d1 m1 k1)) (by as_aux_lemma=>kernel_rfl) (QK _ _ l) (fun hS=>?_);have f:=ae hS;clear hS QJ N4;generalize w4.drew=v4 at l r f ⊢
     iterate 2
      refine bB 0 (v:=?_) rfl rfl (by as_aux_lemma=>kernel_rfl) (fun _ _ _ h=>h) rfl ?_ f ?_;rotate_left
      ·(intro X u;obtain⟨s0,s1⟩:=u;go_simp)
       (try with_reducible rfl)
      (try simp only[Act.put,nzL])
     refine bB 5 (v:=?_) rfl rfl (by as_aux_lemma=>kernel_rfl) (fun _ _ _ h=>h) rfl ?_ f ?_;rotate_left
     ·(intro X u;obtain⟨s0,s1⟩:=u;go_simp)
      (try with_reducible rfl)
     (try simp only[Act.put,nzL])
     refine bB 8 (v:=?_) rfl rfl (by as_aux_lemma=>kernel_rfl) (fun _ _ _ h=>h) rfl ?_ f ?_;rotate_left
     ·(intro X u;obtain⟨s0,s1⟩:=u;go_simp)
      (try with_reducible rfl)
     (try simp only[Act.put,nzL])
     refine aR (i:=2) rfl (by as_aux_lemma=>kernel_rfl) (fun K m=>?_);go_simp;go_at_call 33;refine(av R _ 6 _ l.rd (by omega) (by omega) (by omega)).mono ?_;rintro e v5 ⟨y,rfl,bt,n8,hR,D⟩;obtain⟨k,rfl⟩:=nX bt;have A:=ae (l.only D hR (by simp));have C:=ae ((D.block _ (ai r) (by omega)).trans r);clear hR D l r f;have l:=ae A.out;have r:=ae C.out;clear A C;have f:=ae (QK _ _ l);refine m _ _ f ?_;clear m K
     (try simp only[Act.put,nzL])
     refine bB 3 (v:=U ((⟨#[97,98,99,100,101,102]⟩:ByteArray).extract k 6)) rfl rfl (by as_aux_lemma=>kernel_rfl) (fun _ _ _ h=>h) rfl ?_ f ?_
     ·intro X u
      go_simp;intro h;omega
     (try simp only[Act.put,nzL])
     obtain⟨s,hs⟩:∃ s:ByteArray,s=(⟨#[97,98,99,100,101,102]⟩:ByteArray).extract k 6:=⟨_,rfl⟩
     have Bk:1<=s.size:=by rw[hs,ByteArray.size_extract];have e:(⟨#[97,98,99,100,101,102]⟩:ByteArray).size=6:=rfl;rw[e];omega
     rw[<-hs];clear hs bt n8;refine bB 4 (v:=U (s.extract 0 1)) rfl rfl (by as_aux_lemma=>kernel_rfl) (fun _ _ _ h=>h) rfl ?_ f ?_
     ·intro X u
      go_simp;intro h;omega
     (try simp only[Act.put,nzL])
     generalize s.extract 0 1=kn;clear Bk;refine aR (i:=6) rfl (by as_aux_lemma=>kernel_rfl) (fun K m=>?_);go_simp;go_at_call 64;refine(fY R _ _ l.rd (by omega)).mono ?_;rintro e v7 ⟨t,rfl,W,q7,hq7,hR,D⟩;have A:=ae (l.only D hR (by simp));have C:=ae ((D.block _ (ai r) (by omega)).trans r);clear hR D l r f;have l:=ae A.out;have r:=ae C.out;clear A C;have f:=ae (QK _ _ l);refine m _ _ f ?_;clear m K
     (try simp only[Act.put,nzL])
     refine bB 7 (v:=U (t++⟨#[32]⟩)) rfl rfl (by as_aux_lemma=>kernel_rfl) (fun _ _ _ h=>h) rfl ?_ f ?_
     ·intro X u
      go_simp;omega
     (try simp only[Act.put,nzL])
     obtain⟨tt,fd⟩:∃ tt:ByteArray,tt=t++⟨#[32]⟩:=⟨_,rfl⟩
     have CD:tt.size<=9:=by have e:(⟨#[32]⟩:ByteArray).size=1:=rfl;rw[fd,JC,e];omega
     rw[<-fd];clear fd W;refine aR (i:=9) rfl (by as_aux_lemma=>kernel_rfl) (fun K m=>?_);go_simp;go_at_call 60;refine(dN R _ _ l.rd (by omega)).mono ?_;rintro e v8 ⟨t2,rfl,DE,hR,D⟩;have A:=ae (l.only D hR (by simp));have C:=ae ((D.block _ (ai r) (by omega)).trans r);clear hR D l r f;have l:=ae A.out;have r:=ae C.out;clear A C;have f:=ae (QK _ _ l);refine m _ _ f ?_;clear m K
     (try simp only[Act.put,nzL])
     refine bB 10 (v:=U (tt++t2)) rfl rfl (by as_aux_lemma=>kernel_rfl) (fun _ _ _ h=>h) rfl ?_ f ?_
     ·intro X u
      go_simp;omega
     (try simp only[Act.put,nzL])
     generalize tt++t2=tx;clear CD DE;refine aR (i:=11) rfl (by as_aux_lemma=>kernel_rfl) (fun K m=>?_);go_simp;go_at_call 20;refine(sU d0 m0 k0 g0 d1 m1 k1 g1 kn tx _ (by omega) (by omega) (HL _ _ _ _ _ _ _ _ _ _ _ l).1 (HL _ _ _ _ _ _ _ _ _ _ _ l).2.1 FT FL).mono ?_;rintro e QL ⟨v0,v1,RT,rfl,QH,W,hm,QM⟩;obtain⟨QO,H,rfl⟩:=aP QH;obtain⟨M,QP,rfl⟩:=aP W.own;have th:=QM.size;have qr:=l.o.size;have aq:=ai r.out;have C6:=ae (l.below QM (by simp));have N6:=ae ((QM.block n aq).trans r)
     have P:=ae (QSp.new (lo:=w.heap.size) (xs:=[n,R,w.heap.size,w.heap.size+1]) (qw QH W hm Bu) (by omega) (fun x hx=>by
      simp only[p6,nj,JQ] at hx
      omega))
     clear QH W hm QM l r f;have f:=ae (QK _ _ C6);refine m _ _ f ?_;clear m K
     (try simp only[Act.put,nzL])
     iterate 3
      refine bB 12 (v:=?_) rfl rfl (by as_aux_lemma=>kernel_rfl) (fun _ _ _ h=>h) rfl ?_ f ?_;rotate_left
      ·(intro X u;obtain⟨s0,s1⟩:=u;go_simp)
       (try with_reducible rfl)
      (try simp only[Act.put,nzL])
     generalize (gE m0 g0 m1 g1 kn tx).length=O at P ⊢;generalize RT.length=QN at P ⊢;generalize ba (gE m0 g0 m1 g1 kn tx)=i0 at P;generalize be (jc m0 g0 m1 g1 kn tx)=i1 at P;have QR:=N6.out;have y0:QL.frozen? (N n 0 Z)=QB:=by simp[World.frozen?,QR]
     have y1:QL.frozen? (N n 1 Z)=QB:=by simp[World.frozen?,QR]
     have y2:=ai QR;have y3:QL.cell? (N n 0 Z)=T (Y d0 m0 k0):=by simp[World.cell?,QR]
     have y4:QL.cell? (N n 1 Z)=T (Y d1 m1 k1):=by simp[World.cell?,QR]
     clear QR;have C7:=ae (C6.two (x:=n) (by simp) ex (Y QO O H) (Y M QN QP));have N7:Hid (((QL.setCell (N n 0 Z) (Y QO O H)).setCell (N n 1 Z) (Y M QN QP)).heap[n]?=T (Q #[Y QO O H,Y M QN QP] 29 (0,0))):=by have h1:=bI (j:=1) (bI (j:=0) N6 (Y QO O H)) (Y M QN QP);exact h1
     have Q7:=ae (P.fr ((Fr.set (x:=n) (j:=0) (by simp) (Y QO O H)).trans (Fr.set (x:=n) (j:=1) (by simp) (Y M QN QP))));refine aR (i:=15) rfl (by as_aux_lemma=>kernel_rfl) (fun K m=>?_);go_simp;clear f;have f:=ae (QK _ _ C7);refine m _ _ f ?_;clear m K
     (try simp only[Act.put,nzL])
     refine aR (i:=16) rfl (by as_aux_lemma=>kernel_rfl) (fun K m=>?_);go_simp;refine m _ _ f ?_;clear m K
     (try simp only[Act.put,nzL])
     refine wpAnyH_done (by as_aux_lemma=>kernel_rfl) ?_ _;go_wp2;go_meet;exact⟨_,_,_,_,_,_,_,_,_,_,rfl,by omega,C7,N7,Q7⟩
   case rest =>
   clear QJ N4 QK FT FL;obtain⟨cc,q',O,H,QN,QP,QO,i0,M,i1,rfl,hq',C8,N8,Q8⟩:=hcut;generalize wc=W8 at C8 N8 Q8 ⊢;obtain⟨x0,x1,x2,x3,x4⟩:=C8.cells;have QR:=N8.out;have y3:W8.cell? (N n 0 Z)=T (Y QO O H):=by simp[World.cell?,QR]
   have y4:W8.cell? (N n 1 Z)=T (Y M QN QP):=by simp[World.cell?,QR]
   clear QR;by_cases n9:cc=0
   ·subst n9
    have C9:=ae ((C8.put (l0:=H) (l1:=QP) (by simp) (.inl Q8)).less);go_wp2;exact⟨⟨_,_,_,_,_,_,_,_,_,_,rfl,by omega,by omega,by omega,C9⟩,by simp only[intOf];omega⟩
   ·have hcb:(cc == 0)=QB:=by simpa using n9
    go_wp2;exact⟨⟨_,_,_,_,_,_,_,_,_,_,rfl,by omega,by omega,by omega,C8.less⟩,by simp only[intOf];omega⟩
  ·have hi2:¬ 0<i:=hi
   have kr:=C2.rx;have r0:wr.cell? (N (w.heap.size+1) 0 Z)=T (Y Z 0 0):=by simp[World.cell?,kr]
   have r1:wr.cell? (N (w.heap.size+1) 1 Z)=T (Y Z 0 0):=by simp[World.cell?,kr]
   have r2:wr.frozen? (N (w.heap.size+1) 0 Z)=QB:=by simp[World.frozen?,kr]
   have r3:wr.frozen? (N (w.heap.size+1) 1 Z)=QB:=by simp[World.frozen?,kr]
   have H:=ai kr;clear kr;have BE:=ae (((a8 (w.heap.size+1) wr).setCell (p:=(N (w.heap.size+1) 0 Z)) ly (Y d0 m0 k0)).setCell (p:=(N (w.heap.size+1) 1 Z)) ly (Y d1 m1 k1));have DQ:Hid (HSg w.heap.size ((wr.setCell (N (w.heap.size+1) 0 Z) (Y d0 m0 k0)).setCell (N (w.heap.size+1) 1 Z) (Y d1 m1 k1)) d0 m0 g0 d1 m1 g1∨(d0=a0/\m0=n0/\g0=f0/\d1=a1/\m1=n1/\g1=f1)):=C2.sp.imp (fun g=>(g.fr ((Fr.set (x:=w.heap.size+1) (j:=0) (by simp) (Y d0 m0 k0)).trans (Fr.set (x:=w.heap.size+1) (j:=1) (by simp) (Y d1 m1 k1)))).at) (HE _ _ _ _ _ _);have RE:=ae (C2.rd.low BE (by omega));have OE:=ae (C2.o.then (BE.mono (CV _)));go_wp2;exact bp (v:=QG #[Y d0 m0 k0,Y d1 m1 k1]) (by simp[results,Tryz.results35,go_sem,r0,r1]) rfl ⟨_,_,_,_,_,_,_,_,rfl,DQ,_,by omega,RE,OE⟩
end Go.Proofs.YtamacmnikdejeaaGreatDoor.Vp
