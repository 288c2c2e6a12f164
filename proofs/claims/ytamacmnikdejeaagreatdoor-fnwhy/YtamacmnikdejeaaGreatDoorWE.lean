import Derived.Test.YtamacmnikdejeaaGreatDoorWD
import Derived.Test.YtamacmnikdejeaaGreatDoorYV
import Derived.Test.YtamacmnikdejeaaGreatDoorXD
import Derived.Laws.StructEq
set_option maxRecDepth 100000
set_option maxHeartbeats 8000000
set_option linter.unusedSimpArgs false
open Go.Addr renaming mk->T
open Go.Value renaming slice->Y,string->U,agg->QV
open Option renaming none->Z,some->N
open Go.Obj renaming cells->Q
open Go renaming World->H
open Bool renaming false->QQ,true->QR
namespace Go.Proofs.YtamacmnikdejeaaGreatDoor.Vp
open RowKit
structure Sml (LS:List Source)(LT:List Target):Prop where
 n0:LS.length<=300
 n1:LT.length<=300
 act:∀ i,i<LT.length->(aT LT i).actN<=300/\∀ j,j<(aT LT i).actN->((aT LT i).act j).s.size<=5000
 pos:LS.length<=250/\LT.length<=250/\∀ i,i<LT.length->1<=(aT LT i).actN/\(aT LT i).actN<=200
theorem qQ:Sml [] []:=⟨by simp,by simp,fun i hi=>absurd hi (by simp),by simp,by simp,fun i hi=>absurd hi (by simp)⟩
theorem GoodE.sml {f:List Source}{b:List Target}(h:GoodE f b):Sml f b:=by
 have hf:=h.few;have c:∀ i (hi:i<b.length),valid b[i].act b[i].actN=QR:=fun i hi=>by have c:=(h.tgt _ (gj hi)).2;unfold dE at c;simpa using c
 refine⟨by omega,by omega,fun i hi=>?_,by omega,by omega,fun i hi=>by
  rw[dw hi];obtain⟨h1,h2,l⟩:=cJ (c i hi)
  omega⟩
 rw[dw hi];obtain⟨h1,h2,l⟩:=cJ (c i hi);refine⟨by omega,fun j m=>?_⟩;have g:=nA h1 m;unfold cK at g;rw[kP] at g;have hm:bW (b[i].act j).op<=2000:=by unfold bW;split<;>omega
 omega
theorem uH {n0:Nat}{f0:Nat->Source}{n1:Nat}{f1:Nat->Target}{t tx:ByteArray}:Sml (fU n0 f0 n1 f1 t tx) (gS n0 f0 n1 f1 t tx):=by
 by_cases h:jE n0 f0 n1 f1 t tx=0
 ·exact(Dj h).1.sml
 ·rw[fU,gS,eI h,eI h];exact qQ
theorem AK {n0:Nat}{f0:Nat->Source}{n1:Nat}{f1:Nat->Target}{t:ByteArray}{m:Nat}{b:Nat->Ins}(h:gT n0 f0 n1 f1 t (valid b m)=0):av t=QR/\GoodE (fB n0 f0 n1 f1 t m b) (fQ n0 f0 n1 f1 t m b)/\∃ i:Nat,(fQ n0 f0 n1 f1 t m b)[i]?=N ⟨t,m,b⟩:=by
 have c:=h;unfold gT at c;by_cases a1:bw n0 f0 n1 f1≠0
 ·rw[gA a1] at c;cases c
 rw[eI a1] at c;by_cases f:av t=QQ∨valid b m=QQ
 ·rw[gA f] at c;cases c
 rw[eI f] at c;by_cases j:200<=(keepS f0 t n0).length+(keepT f1 t n1).length
 ·rw[gA j] at c;cases c
 have l:bw n0 f0 n1 f1=0:=by omega
 have hn:av t=QR:=by rw[<-LD];exact fun e=>f (.inl e)
 have o:valid b m=QR:=by rw[<-LD];exact fun e=>f (.inr e)
 obtain⟨g1,g⟩:=Ak (x:=⟨t,m,b⟩) (t:=t) (iT t l) rfl (by omega) hn (by unfold dE;simp[o]) mW oS;have n:fB n0 f0 n1 f1 t m b=keepS f0 t n0:=by rw[fB,gA h]
 have p:fQ n0 f0 n1 f1 t m b=lJ (keepT f1 t n1) ⟨t,m,b⟩ t:=by rw[fQ,gA h]
 rw[n,p];exact⟨hn,g1,g⟩
theorem uI {n0:Nat}{f0:Nat->Source}{n1:Nat}{f1:Nat->Target}{t:ByteArray}{m:Nat}{fp:Nat->Ins}:Sml (fB n0 f0 n1 f1 t m fp) (fQ n0 f0 n1 f1 t m fp):=by
 by_cases h:gT n0 f0 n1 f1 t (valid fp m)=0
 ·exact(AK h).2.1.sml
 ·rw[fB,fQ,eI h,eI h];exact qQ
theorem DV {n0:Nat}{f0:Nat->Source}{n1:Nat}{f1:Nat->Target}{t:ByteArray}:Sml (jf n0 f0 n1 f1 t) (lG n0 f0 n1 f1 t):=by
 by_cases h:lF n0 f0 n1 f1 t=0
 ·have c:bw n0 f0 n1 f1=0:=by
   have b:=h;unfold lF at b;by_cases a1:bw n0 f0 n1 f1≠0
   ·rw[gA a1] at b;cases b
   ·omega
  rw[jf,lG,gA h,gA h];exact(iT t c).sml
 ·rw[jf,lG,eI h,eI h];exact qQ
end Go.Proofs.YtamacmnikdejeaaGreatDoor.Vp
namespace Go.Proofs.YtamacmnikdejeaaGreatDoor.Vp
open RowKit Ca
def DCh (w:H)(R q:Nat)(a0:Option Addr)(n0:Nat)(f0:Nat->Source)(a1:Option Addr)(n1:Nat)(f1:Nat->Target)(e:Ending)(b:H):Prop:=∃ (d0:Option Addr) (m0 k0:Nat) (g0:Nat->Source) (d1:Option Addr) (m1 k1:Nat) (g1:Nat->Target),e=.returned (QV #[Y d0 m0 k0,Y d1 m1 k1])/\(HSg w.heap.size b d0 m0 g0 d1 m1 g1∨(d0=a0/\m0=n0/\g0=f0/\d1=a1/\m1=n1/\g1=f1))/\∃ q':Nat,q'<=q/\Rd b R q'/\Only R w b
structure Ch (E:Option Addr->Nat->(Nat->Source)->Option Addr->Nat->(Nat->Target)->Prop)(xs:List Nat)(w:H)(R:Nat)(W:H)(q m0 k0 m1 k1:Nat)(d0:Option Addr)(g0:Nat->Source)(d1:Option Addr)(g1:Nat->Target):Prop where
 rd:Rd W R q
 o:Only R w W
 sx:W.heap[w.heap.size]?=N (Q #[Y d0 m0 k0,Y d1 m1 k1] 29 (0,0))
 rx:W.heap[w.heap.size+1]?=N (Q #[Y Z 0 0,Y Z 0 0] 29 (0,0))
 sp:QSp w.heap.size xs W d0 m0 g0 d1 m1 g1∨E d0 m0 g0 d1 m1 g1
 lo:R<w.heap.size
section
variable {E:Option Addr->Nat->(Nat->Source)->Option Addr->Nat->(Nat->Target)->Prop}{xs ys:List Nat}{w W W':H}{R q q' m0 k0 m1 k1:Nat}{d0 d1:Option Addr}{g0:Nat->Source}{g1:Nat->Target}
theorem Ch.only (h:Ch E xs w R W q m0 k0 m1 k1 d0 g0 d1 g1)(b:Only R W W')(hR:Rd W' R q')(c:R∈xs):Ch E xs w R W' q' m0 k0 m1 k1 d0 g0 d1 g1:=by have hl:=h.lo;exact⟨hR,h.o.trans b,(b.block _ (ai h.sx) (by omega)).trans h.sx,(b.block _ (ai h.rx) (by omega)).trans h.rx,h.sp.imp (fun g=>g.fr (Fr.only b c)) id,h.lo⟩
theorem Ch.below (h:Ch E xs w R W q m0 k0 m1 k1 d0 g0 d1 g1)(b:Below W.heap.size W W')(c:R∈xs):Ch E xs w R W' q m0 k0 m1 k1 d0 g0 d1 g1:=h.only (Only.of_below b) (h.rd.below b ly) c
theorem QSp.more {lo x:Nat}(h:QSp lo xs W d0 m0 g0 d1 m1 g1)(f:W.heap.size<=x):QSp lo (x :: xs) W d0 m0 g0 d1 m1 g1:=by
 obtain⟨b,j,i,h1,h2,g⟩:=h;refine⟨b,j,i,h1,h2,fun y c=>?_⟩;rcases nD.1 c with rfl | c
 ·exact .inr (j4 h2.1 f)
 ·exact g y c
theorem QSp.less {lo x:Nat}(h:QSp lo (x :: xs) W d0 m0 g0 d1 m1 g1):QSp lo xs W d0 m0 g0 d1 m1 g1:=by obtain⟨b,i,g,h1,h2,f⟩:=h;exact⟨b,i,g,h1,h2,fun y c=>f y (mz _ c)⟩
theorem Ch.more {x:Nat}(h:Ch E xs w R W q m0 k0 m1 k1 d0 g0 d1 g1)(b:W.heap.size<=x):Ch E (x :: xs) w R W q m0 k0 m1 k1 d0 g0 d1 g1:=⟨h.rd,h.o,h.sx,h.rx,h.sp.imp (fun g=>g.more b) id,h.lo⟩
theorem Ch.less {x:Nat}(h:Ch E (x :: xs) w R W q m0 k0 m1 k1 d0 g0 d1 g1):Ch E xs w R W q m0 k0 m1 k1 d0 g0 d1 g1:=⟨h.rd,h.o,h.sx,h.rx,h.sp.imp (fun g=>g.less) id,h.lo⟩
theorem Ch.cells (h:Ch E xs w R W q m0 k0 m1 k1 d0 g0 d1 g1):W.cell? (T w.heap.size 0 Z)=N (Y d0 m0 k0)/\W.cell? (T w.heap.size 1 Z)=N (Y d1 m1 k1)/\W.frozen? (T w.heap.size 0 Z)=QQ/\W.frozen? (T w.heap.size 1 Z)=QQ/\w.heap.size<W.heap.size:=by have hb:=h.sx;refine⟨?_,?_,?_,?_,ai hb⟩<;>simp[World.cell?,World.frozen?,hb]
theorem Ch.two (h:Ch E xs w R W q m0 k0 m1 k1 d0 g0 d1 g1){x:Nat}(b:x∈xs)(c:w.heap.size+2<=x)(u v:Value):Ch E xs w R ((W.setCell (T x 0 Z) u).setCell (T x 1 Z) v) q m0 k0 m1 k1 d0 g0 d1 g1:=by have B:=((eL (w.heap.size+2) W).setCell (p:=(T x 0 Z)) c u).setCell (p:=(T x 1 Z)) c v;have hlo:=h.lo;exact⟨h.rd.low B (by omega),h.o.then (B.mono (by omega)),(B.block _ (by omega)).trans h.sx,(B.block _ (by omega)).trans h.rx,h.sp.imp (fun g=>g.fr ((Fr.set b _).trans (Fr.set b _))) id,h.lo⟩
theorem Ch.put {c l0 f l1:Nat}{i b:Option Addr}{l:Nat->Source}{j:Nat->Target}(h:Ch E xs w R W q m0 k0 m1 k1 d0 g0 d1 g1)(m:w.heap.size∈xs)(s:QSp w.heap.size xs W i c l b f j∨E i c l b f j):Ch E xs w R ((W.setCell (T w.heap.size 0 Z) (Y i c l0)).setCell (T w.heap.size 1 Z) (Y b f l1)) q c l0 f l1 i l b j:=by have B:=((eL w.heap.size W).setCell (p:=(T w.heap.size 0 Z)) ly (Y i c l0)).setCell (p:=(T w.heap.size 1 Z)) ly (Y b f l1);have far:∀ k,k≠w.heap.size->((W.setCell (T w.heap.size 0 Z) (Y i c l0)).setCell (T w.heap.size 1 Z) (Y b f l1)).heap[k]?=W.heap[k]?:=fun k n=>(qh _ _ _ _ n).trans (qh _ _ _ _ n);have r:=h.sx;exact⟨h.rd.low B h.lo,h.o.then B,by simp[World.setCell,JR,r],(far _ (by omega)).trans h.rx,s.imp (fun g=>g.fr ((Fr.set m _).trans (Fr.set m _))) id,h.lo⟩
end
theorem lc {w:H}{b c0 c1:Nat}{a0 a1:Option Addr}{c:List Source}{f:List TR}{j:List Target}(l:w.ownsRow b 121 2 (Y a0 c.length c0) c.length (c.flatMap bG))(m:TRow w b (Y a1 f.length c1) f)(n:f.map (·.1)=j)(g:Sml c j):HSg b w a0 c.length (aR c) a1 f.length (aT j):=by
 subst n;refine⟨fv l rfl m rfl g.n0 (by simpa using g.n1) (fun r o=>?_),g.pos.1,by simpa using g.pos.2.1,fun i hi=>g.pos.2.2 i (by simpa using hi)⟩;obtain⟨i,hi,rfl⟩:=MU o;have e:aT (f.map (·.1)) i=f[i].1:=by simp[aT,hi]
 have h:=g.act i (by simpa using hi);rw[e] at h;exact h
theorem uJ (R p b n0 c0 n1 c1:Nat)(a0:Option Addr)(f0:Nat->Source)(a1:Option Addr)(f1:Nat->Target)(w:H)(hR:Rd w R p)(hp:p<=15000)(hb:R<b)(hH:HSg b w a0 n0 f0 a1 n1 f1):Calls Tryz.prog 35 #[.pointer (N (T R 0 Z)),QV #[Y a0 n0 c0,Y a1 n1 c1]] w fun e w'=>DCh w R (p+2500) a0 n0 f0 a1 n1 f1 e w':=by
 obtain⟨E,hE⟩:∃ E:Option Addr->Nat->(Nat->Source)->Option Addr->Nat->(Nat->Target)->Prop,E=fun d0 m0 g0 d1 m1 g1=>d0=a0/\m0=n0/\g0=f0/\d1=a1/\m1=n1/\g1=f1:=⟨_,rfl⟩
 have HE:Hid (∀ d0 m0 g0 d1 m1 g1,E d0 m0 g0 d1 m1 g1->d0=a0/\m0=n0/\g0=f0/\d1=a1/\m1=n1/\g1=f1):=fun _ _ _ _ _ _ h=>by rw[hE] at h;exact h
 have f:Hid (∀ (V:H) (xs:List Nat) (q m0 k0 m1 k1:Nat) (d0:Option Addr) (g0:Nat->Source) (d1:Option Addr) (g1:Nat->Target),Ch E xs w R V q m0 k0 m1 k1 d0 g0 d1 g1->SlSource V d0 m0 g0/\SlTarget V d1 m1 g1/\m0<=300/\m1<=300/\∀ i,i<m1->(g1 i).actN<=300/\∀ j,j<(g1 i).actN->((g1 i).act j).s.size<=5000):=fun V xs q m0 k0 m1 k1 d0 g0 d1 g1 h=>by
  rcases h.sp with g | g
  ·have h1:=g.at.1
   exact⟨(h1.sl V (Agr.refl _ _)).1,(h1.sl V (Agr.refl _ _)).2,h1.hn0,h1.hn1,h1.fit⟩
  ·obtain⟨rfl,rfl,rfl,rfl,rfl,rfl⟩:=HE.out _ _ _ _ _ _ g
   have h1:=hH.1.sl V (h.o.agr hb);exact⟨h1.1,h1.2,hH.1.hn0,hH.1.hn1,hH.1.fit⟩
 have DE:=hR.lt;have C0:Hid (Ch E [R,w.heap.size,w.heap.size+1] w R ((w.alloc (Q #[Y a0 n0 c0,Y a1 n1 c1] 29)).alloc (Q #[Y Z 0 0,Y Z 0 0] 29)) p n0 c0 n1 c1 a0 f0 a1 f1):=by have B:=((q9 w).alloc ly (Q #[Y a0 n0 c0,Y a1 n1 c1] 29)).alloc (by simp) (Q #[Y Z 0 0,Y Z 0 0] 29);exact⟨hR.below B ly,Only.of_below B,(((eL (w.heap.size+1) (w.alloc (Q #[Y a0 n0 c0,Y a1 n1 c1] 29))).alloc (by simp) _).block w.heap.size (j2 _)).trans (cM w _),LH w _ _,.inr (by rw[hE];exact⟨rfl,rfl,rfl,rfl,rfl,rfl⟩),DE⟩
 clear hE hR hH;go_enter Tryz.func35,Tryz.ntmps35;go_wp2_with fail;generalize (w.alloc (Q #[Y a0 n0 c0,Y a1 n1 c1] 29)).alloc (Q #[Y Z 0 0,Y Z 0 0] 29)=W0 at C0 ⊢;refine(aw R p 3 _ C0.rd (by omega) (by omega) (by omega)).mono ?_;rintro e w1 ⟨z,rfl,ro,At,n9,qr⟩;have C1:=ae (C0.only qr n9 (by simp));clear n9 qr C0;have Fd:IntKind.i64.wrap (1+z)=1+z:=by rw[j6];omega
 go_wp2_with fail;go_loopw [5] (fun v wr=>∃ (i:Int) (q m0 k0 m1 k1:Nat) (d0:Option Addr) (g0:Nat->Source) (d1:Option Addr) (g1:Nat->Target),v=.int .i64 i/\0<=i/\i<=3/\(q:Int)+610*i<=(p:Int)+1831/\Hid (Ch E [R,w.heap.size,w.heap.size+1] w R wr q m0 k0 m1 k1 d0 g0 d1 g1)) (fun v _=>(intOf v).toNat);case atStart=>exact⟨_,_,_,_,_,_,_,_,_,_,rfl,by omega,by omega,by omega,C1⟩
 case round =>
  clear C1 Fd ro At;obtain⟨i,q,m0,k0,m1,k1,d0,g0,d1,g1,rfl,hi0,hi3,hq,C2⟩:=hrel;obtain⟨x0,x1,x2,x3,x4⟩:=C2.cells;by_cases hi:0<i
  ·have hwi:IntKind.i64.wrap (i - 1)=i - 1:=by rw[j6];omega
   have Fk:=ai C2.rx;have C3:Hid (Ch E [wr.heap.size,R,w.heap.size,w.heap.size+1] w R (wr.alloc (Q #[Y d0 m0 k0,Y d1 m1 k1] 29)) q m0 k0 m1 k1 d0 g0 d1 g1):=(C2.more ly).below (br.alloc ly _) (by simp);have N3:Hid ((wr.alloc (Q #[Y d0 m0 k0,Y d1 m1 k1] 29)).heap[wr.heap.size]?=N (Q #[Y d0 m0 k0,Y d1 m1 k1] 29 (0,0))):=cM wr _;go_wp2_with fail;generalize wr.alloc (Q #[Y d0 m0 k0,Y d1 m1 k1] 29)=W3 at C3 N3 ⊢;refine(aw R _ 6 _ C3.rd (by omega) (by omega) (by omega)).mono ?_;rintro e w4 ⟨z,rfl,ro,At,ph,la⟩;have QW:=ae (C3.only la ph (by simp));have N4:=ae ((la.block _ (ai N3) (by omega)).trans N3);clear ph la C3 N3;have bt:w.heap.size+2<=wr.heap.size:=by omega
   clear x0 x1 x2 x3 x4 Fk C2;go_upto_block 2 with fail;generalize wr.heap.size=n at QW N4 bt ⊢;have Q2:Hid (∀ (V:H) (q:Nat),Ch E [n,R,w.heap.size,w.heap.size+1] w R V q m0 k0 m1 k1 d0 g0 d1 g1->V.cell? (T w.heap.size 0 Z)=N (Y d0 m0 k0)/\V.cell? (T w.heap.size 1 Z)=N (Y d1 m1 k1)):=fun V q h=>⟨h.cells.1,h.cells.2.1⟩
   obtain⟨-,-,hm0,hm1,mv⟩:=f.out _ _ _ _ _ _ _ _ _ _ _ QW;have HL:=f;clear f;have FT:Hid (∀ i,i<m1->bP (g1 i)):=fun i hi=>by have:=(mv i hi).1;unfold bP;omega
   have FL:Hid (∀ i,i<m1->∀ j,j<(g1 i).actN->((g1 i).act j).s.size<=maxLen):=fun i hi j hj=>by have:=(mv i hi).2 j hj;unfold maxLen;omega
   clear mv;go_cut [7] (fun s7 wx=>∃ (cc:Int) (q' QZ G M ZB:Nat) (ZA:Option Addr) (i0:Nat->Source) (Q9:Option Addr) (i1:Nat->Target),s7=.int .i64 cc/\q'<=q+605/\Hid (Ch E [n,R,w.heap.size,w.heap.size+1] w R wx q' m0 k0 m1 k1 d0 g0 d1 g1)/\Hid (wx.heap[n]?=N (Q #[Y ZA QZ G,Y Q9 M ZB] 29 (0,0)))/\Hid (QSp w.heap.size [n,R,w.heap.size,w.heap.size+1] wx ZA QZ i0 Q9 M i1));case first =>
    rcases(show z=0∨z=1∨(1<z) by omega) with rfl | rfl | hz2
    ·go_wp2_with fail
     have l:=ae (QW.below br.drew (by simp));have r:Hid (w4.drew.heap[n]?=N (Q #[Y d0 m0 k0,Y d1 m1 k1] 29 (0,0))):=N4.out;refine wp_region_held_drew (S:=fun V=>V.cell? (T w.heap.size 0 Z)=N (Y d0 m0 k0)/\V.cell? (T w.heap.size 1 Z)=N (Y d1 m1 k1)) (by as_aux_lemma=>kernel_rfl) (Q2 _ _ l) (fun hS=>?_);have f:=ae hS;clear hS QW N4;generalize w4.drew=v4 at l r f ⊢
     iterate 2
      refine aV 0 (v:=?_) rfl rfl (by as_aux_lemma=>kernel_rfl) (fun _ _ _ h=>h) rfl ?_ f ?_;rotate_left
      ·(intro W u;obtain⟨s0,QX⟩:=u;go_simp)
       (try with_reducible rfl)
      (try simp only[Act.put,nzL])
     refine aD (i:=2) rfl (by as_aux_lemma=>kernel_rfl) (fun K m=>?_);go_simp;go_at_call 60;refine(dN R _ _ l.rd (by omega)).mono ?_;rintro e v5 ⟨t,rfl,QY,hR,D⟩;clear QY;have A:=ae (l.only D hR (by simp));have C:=ae ((D.block _ (ai r) (by omega)).trans r);clear hR D l r f;have l:=ae A.out;have r:=ae C.out;clear A C;have f:=ae (Q2 _ _ l);refine m _ _ f ?_;clear m K
     (try simp only[Act.put,nzL])
     refine aD (i:=3) rfl (by as_aux_lemma=>kernel_rfl) (fun K m=>?_);go_simp;go_at_call 29;refine(tL d0 m0 k0 g0 d1 m1 k1 g1 t _ (by omega) (by omega) (HL _ _ _ _ _ _ _ _ _ _ _ l).1 (HL _ _ _ _ _ _ _ _ _ _ _ l).2.1 FT FL).mono ?_;rintro e Q0 ⟨v0,v1,RT,rfl,X,QY,hm,O⟩;obtain⟨ZA,G,rfl⟩:=aF X;obtain⟨Q9,ZB,rfl⟩:=aF QY.own;have sm:=O.size;have n8:=l.o.size;have aq:=ai r.out;have C6:=ae (l.below O (by simp));have N6:=ae ((O.block n aq).trans r)
     have P:=ae (QSp.new (lo:=w.heap.size) (xs:=[n,R,w.heap.size,w.heap.size+1]) (lc X QY hm DV) (by omega) (fun x hx=>by
      simp only[nD,nj,MA] at hx
      omega))
     clear X QY hm O l r f;have f:=ae (Q2 _ _ C6);refine m _ _ f ?_;clear m K
     (try simp only[Act.put,nzL])
     iterate 3
      refine aV 4 (v:=?_) rfl rfl (by as_aux_lemma=>kernel_rfl) (fun _ _ _ h=>h) rfl ?_ f ?_;rotate_left
      ·(intro W u;obtain⟨s0,QX⟩:=u;go_simp)
       (try with_reducible rfl)
      (try simp only[Act.put,nzL])
     generalize (jf m0 g0 m1 g1 t).length=QZ at P ⊢;generalize RT.length=M at P ⊢;generalize aR (jf m0 g0 m1 g1 t)=i0 at P;generalize aT (lG m0 g0 m1 g1 t)=i1 at P;have F:=N6.out;have y0:Q0.frozen? (T n 0 Z)=QQ:=by simp[World.frozen?,F]
     have y1:Q0.frozen? (T n 1 Z)=QQ:=by simp[World.frozen?,F]
     have y2:=ai F;have y3:Q0.cell? (T n 0 Z)=N (Y d0 m0 k0):=by simp[World.cell?,F]
     have y4:Q0.cell? (T n 1 Z)=N (Y d1 m1 k1):=by simp[World.cell?,F]
     clear F;have C7:=ae (C6.two (x:=n) (by simp) bt (Y ZA QZ G) (Y Q9 M ZB));have N7:Hid (((Q0.setCell (T n 0 Z) (Y ZA QZ G)).setCell (T n 1 Z) (Y Q9 M ZB)).heap[n]?=N (Q #[Y ZA QZ G,Y Q9 M ZB] 29 (0,0))):=by have h1:=bM (j:=1) (bM (j:=0) N6 (Y ZA QZ G)) (Y Q9 M ZB);exact h1
     have Q7:=ae (P.fr ((Fr.set (x:=n) (j:=0) (by simp) (Y ZA QZ G)).trans (Fr.set (x:=n) (j:=1) (by simp) (Y Q9 M ZB))));refine aD (i:=7) rfl (by as_aux_lemma=>kernel_rfl) (fun K m=>?_);go_simp;clear f;have f:=ae (Q2 _ _ C7);refine m _ _ f ?_;clear m K
     (try simp only[Act.put,nzL])
     refine aD (i:=8) rfl (by as_aux_lemma=>kernel_rfl) (fun K m=>?_);go_simp;refine m _ _ f ?_;clear m K
     (try simp only[Act.put,nzL])
     refine wpAnyH_done (by as_aux_lemma=>kernel_rfl) ?_ _;go_wp2;go_meet;exact⟨_,_,_,_,_,_,_,_,_,_,rfl,by omega,C7,N7,Q7⟩
    ·go_wp2_with fail
     have l:=ae (QW.below br.drew (by simp));have r:Hid (w4.drew.heap[n]?=N (Q #[Y d0 m0 k0,Y d1 m1 k1] 29 (0,0))):=N4.out;refine wp_region_held_drew (S:=fun V=>V.cell? (T w.heap.size 0 Z)=N (Y d0 m0 k0)/\V.cell? (T w.heap.size 1 Z)=N (Y d1 m1 k1)) (by as_aux_lemma=>kernel_rfl) (Q2 _ _ l) (fun hS=>?_);have f:=ae hS;clear hS QW N4;generalize w4.drew=v4 at l r f ⊢
     iterate 2
      refine aV 0 (v:=?_) rfl rfl (by as_aux_lemma=>kernel_rfl) (fun _ _ _ h=>h) rfl ?_ f ?_;rotate_left
      ·(intro W u;obtain⟨s0,QX⟩:=u;go_simp)
       (try with_reducible rfl)
      (try simp only[Act.put,nzL])
     refine aV 5 (v:=?_) rfl rfl (by as_aux_lemma=>kernel_rfl) (fun _ _ _ h=>h) rfl ?_ f ?_;rotate_left
     ·(intro W u;obtain⟨s0,QX⟩:=u;go_simp)
      (try with_reducible rfl)
     (try simp only[Act.put,nzL])
     refine aD (i:=2) rfl (by as_aux_lemma=>kernel_rfl) (fun K m=>?_);go_simp;go_at_call 33;refine(aw R _ 8 _ l.rd (by omega) (by omega) (by omega)).mono ?_;rintro e v5 ⟨y,rfl,fd,th,hR,D⟩;obtain⟨k,rfl⟩:=nL fd;have A:=ae (l.only D hR (by simp));have C:=ae ((D.block _ (ai r) (by omega)).trans r);clear hR D l r f;have l:=ae A.out;have r:=ae C.out;clear A C;have f:=ae (Q2 _ _ l);refine m _ _ f ?_;clear m K
     (try simp only[Act.put,nzL])
     refine aD (i:=3) rfl (by as_aux_lemma=>kernel_rfl) (fun K m=>?_);go_simp;go_at_call 81;refine(ku k (by omega) _).mono ?_;rintro e v7 ⟨rfl,O⟩;have hR:=l.rd.below O ly;have D:=Only.of_below (b:=R) O;clear O;have A:=ae (l.only D hR (by simp));have C:=ae ((D.block _ (ai r) (by omega)).trans r);clear hR D l r f;have l:=ae A.out;have r:=ae C.out;clear A C;have f:=ae (Q2 _ _ l);refine m _ _ f ?_;clear m K
     (try simp only[Act.put,nzL])
     refine aV 4 (v:=?_) rfl rfl (by as_aux_lemma=>kernel_rfl) (fun _ _ _ h=>h) rfl ?_ f ?_;rotate_left
     ·(intro W u;obtain⟨s0,QX⟩:=u;go_simp)
      (try with_reducible rfl)
     (try simp only[Act.put,nzL])
     refine aD (i:=6) rfl (by as_aux_lemma=>kernel_rfl) (fun K m=>?_);go_simp;go_at_call 82;have hs7:=l.o.size;refine(fT R _ _ l.rd (by omega)).mono ?_;rintro e v8 ⟨L,g,c,rfl,hI,hL1,hL2,Bk,q8,hq8,hR,D⟩;have SI:=ae (show SlIns v8 (N (T g 0 Z)) L.length (dA L) from .inr ⟨g,0,rfl,hI.lt.2,hI.at⟩);have FI:Hid (∀ i,i<L.length->(dA L i).s.size<=maxLen):=fun i hi=>by have:=jL Bk i hi;unfold maxLen;omega
     clear hI Bk;have A:=ae (l.only D hR (by simp));have C:=ae ((D.block _ (ai r) (by omega)).trans r);clear hR D l r f;have l:=ae A.out;have r:=ae C.out;clear A C;have f:=ae (Q2 _ _ l);refine m _ _ f ?_;clear m K
     (try simp only[Act.put,nzL])
     refine aD (i:=7) rfl (by as_aux_lemma=>kernel_rfl) (fun K m=>?_);go_simp;go_at_call 21;refine(mZ d0 m0 k0 g0 d1 m1 k1 g1 _ (N (T g 0 Z)) L.length c (dA L) _ (by omega) (by omega) (by omega) (HL _ _ _ _ _ _ _ _ _ _ _ l).1 (HL _ _ _ _ _ _ _ _ _ _ _ l).2.1 SI FT FL FI).mono ?_;rintro e Q0 ⟨v0,v1,RT,rfl,X,QY,hm,O⟩;clear SI FI;obtain⟨ZA,G,rfl⟩:=aF X;obtain⟨Q9,ZB,rfl⟩:=aF QY.own;have sm:=O.size;have n8:=l.o.size;have aq:=ai r.out;have C6:=ae (l.below O (by simp));have N6:=ae ((O.block n aq).trans r)
     have P:=ae (QSp.new (lo:=w.heap.size) (xs:=[n,R,w.heap.size,w.heap.size+1]) (lc X QY hm uI) (by omega) (fun x hx=>by
      simp only[nD,nj,MA] at hx
      omega))
     clear X QY hm O l r f;have f:=ae (Q2 _ _ C6);refine m _ _ f ?_;clear m K
     (try simp only[Act.put,nzL])
     iterate 3
      refine aV 8 (v:=?_) rfl rfl (by as_aux_lemma=>kernel_rfl) (fun _ _ _ h=>h) rfl ?_ f ?_;rotate_left
      ·(intro W u;obtain⟨s0,QX⟩:=u;go_simp)
       (try with_reducible rfl)
      (try simp only[Act.put,nzL])
     generalize (⟨#[116]⟩:ByteArray)++⟨#[dig k]⟩=t at P ⊢;generalize (fB m0 g0 m1 g1 t L.length (dA L)).length=QZ at P ⊢;generalize RT.length=M at P ⊢;generalize aR (fB m0 g0 m1 g1 t L.length (dA L))=i0 at P;generalize aT (fQ m0 g0 m1 g1 t L.length (dA L))=i1 at P;have F:=N6.out;have y0:Q0.frozen? (T n 0 Z)=QQ:=by simp[World.frozen?,F]
     have y1:Q0.frozen? (T n 1 Z)=QQ:=by simp[World.frozen?,F]
     have y2:=ai F;have y3:Q0.cell? (T n 0 Z)=N (Y d0 m0 k0):=by simp[World.cell?,F]
     have y4:Q0.cell? (T n 1 Z)=N (Y d1 m1 k1):=by simp[World.cell?,F]
     clear F;have C7:=ae (C6.two (x:=n) (by simp) bt (Y ZA QZ G) (Y Q9 M ZB));have N7:Hid (((Q0.setCell (T n 0 Z) (Y ZA QZ G)).setCell (T n 1 Z) (Y Q9 M ZB)).heap[n]?=N (Q #[Y ZA QZ G,Y Q9 M ZB] 29 (0,0))):=by have h1:=bM (j:=1) (bM (j:=0) N6 (Y ZA QZ G)) (Y Q9 M ZB);exact h1
     have Q7:=ae (P.fr ((Fr.set (x:=n) (j:=0) (by simp) (Y ZA QZ G)).trans (Fr.set (x:=n) (j:=1) (by simp) (Y Q9 M ZB))));refine aD (i:=11) rfl (by as_aux_lemma=>kernel_rfl) (fun K m=>?_);go_simp;clear f;have f:=ae (Q2 _ _ C7);refine m _ _ f ?_;clear m K
     (try simp only[Act.put,nzL])
     refine aD (i:=12) rfl (by as_aux_lemma=>kernel_rfl) (fun K m=>?_);go_simp;refine m _ _ f ?_;clear m K
     (try simp only[Act.put,nzL])
     refine wpAnyH_done (by as_aux_lemma=>kernel_rfl) ?_ _;go_wp2;go_meet;exact⟨_,_,_,_,_,_,_,_,_,_,rfl,by omega,C7,N7,Q7⟩
    ·have hz3:(z == 0)=QQ:=by simp;omega
     have hz4:(z == 1)=QQ:=by simp;omega
     go_wp2_with fail;have l:=ae (QW.below br.drew (by simp));have r:Hid (w4.drew.heap[n]?=N (Q #[Y d0 m0 k0,Y d1 m1 k1] 29 (0,0))):=N4.out;refine wp_region_held_drew (S:=fun V=>V.cell? (T w.heap.size 0 Z)=N (Y d0 m0 k0)/\V.cell? (T w.heap.size 1 Z)=N (Y d1 m1 k1)) (by as_aux_lemma=>kernel_rfl) (Q2 _ _ l) (fun hS=>?_);have f:=ae hS;clear hS QW N4;generalize w4.drew=v4 at l r f ⊢
     iterate 2
      refine aV 0 (v:=?_) rfl rfl (by as_aux_lemma=>kernel_rfl) (fun _ _ _ h=>h) rfl ?_ f ?_;rotate_left
      ·(intro W u;obtain⟨s0,QX⟩:=u;go_simp)
       (try with_reducible rfl)
      (try simp only[Act.put,nzL])
     refine aV 5 (v:=?_) rfl rfl (by as_aux_lemma=>kernel_rfl) (fun _ _ _ h=>h) rfl ?_ f ?_;rotate_left
     ·(intro W u;obtain⟨s0,QX⟩:=u;go_simp)
      (try with_reducible rfl)
     (try simp only[Act.put,nzL])
     refine aV 8 (v:=?_) rfl rfl (by as_aux_lemma=>kernel_rfl) (fun _ _ _ h=>h) rfl ?_ f ?_;rotate_left
     ·(intro W u;obtain⟨s0,QX⟩:=u;go_simp)
      (try with_reducible rfl)
     (try simp only[Act.put,nzL])
     refine aD (i:=2) rfl (by as_aux_lemma=>kernel_rfl) (fun K m=>?_);go_simp;go_at_call 33;refine(aw R _ 6 _ l.rd (by omega) (by omega) (by omega)).mono ?_;rintro e v5 ⟨y,rfl,fd,th,hR,D⟩;obtain⟨k,rfl⟩:=nL fd;have A:=ae (l.only D hR (by simp));have C:=ae ((D.block _ (ai r) (by omega)).trans r);clear hR D l r f;have l:=ae A.out;have r:=ae C.out;clear A C;have f:=ae (Q2 _ _ l);refine m _ _ f ?_;clear m K
     (try simp only[Act.put,nzL])
     refine aV 3 (v:=U ((⟨#[97,98,99,100,101,102]⟩:ByteArray).extract k 6)) rfl rfl (by as_aux_lemma=>kernel_rfl) (fun _ _ _ h=>h) rfl ?_ f ?_
     ·intro W u
      go_simp;intro h;omega
     (try simp only[Act.put,nzL])
     obtain⟨s,hs⟩:∃ s:ByteArray,s=(⟨#[97,98,99,100,101,102]⟩:ByteArray).extract k 6:=⟨_,rfl⟩
     have Fn:1<=s.size:=by rw[hs,ByteArray.size_extract];have e:(⟨#[97,98,99,100,101,102]⟩:ByteArray).size=6:=rfl;rw[e];omega
     rw[<-hs];clear hs fd th;refine aV 4 (v:=U (s.extract 0 1)) rfl rfl (by as_aux_lemma=>kernel_rfl) (fun _ _ _ h=>h) rfl ?_ f ?_
     ·intro W u
      go_simp;intro h;omega
     (try simp only[Act.put,nzL])
     generalize s.extract 0 1=kn;clear Fn;refine aD (i:=6) rfl (by as_aux_lemma=>kernel_rfl) (fun K m=>?_);go_simp;go_at_call 64;refine(fP R _ _ l.rd (by omega)).mono ?_;rintro e v7 ⟨t,rfl,QY,q7,hq7,hR,D⟩;have A:=ae (l.only D hR (by simp));have C:=ae ((D.block _ (ai r) (by omega)).trans r);clear hR D l r f;have l:=ae A.out;have r:=ae C.out;clear A C;have f:=ae (Q2 _ _ l);refine m _ _ f ?_;clear m K
     (try simp only[Act.put,nzL])
     refine aV 7 (v:=U (t++⟨#[32]⟩)) rfl rfl (by as_aux_lemma=>kernel_rfl) (fun _ _ _ h=>h) rfl ?_ f ?_
     ·intro W u
      go_simp;omega
     (try simp only[Act.put,nzL])
     obtain⟨tt,ld⟩:∃ tt:ByteArray,tt=t++⟨#[32]⟩:=⟨_,rfl⟩
     have Fm:tt.size<=9:=by have e:(⟨#[32]⟩:ByteArray).size=1:=rfl;rw[ld,KZ,e];omega
     rw[<-ld];clear ld QY;refine aD (i:=9) rfl (by as_aux_lemma=>kernel_rfl) (fun K m=>?_);go_simp;go_at_call 60;refine(dN R _ _ l.rd (by omega)).mono ?_;rintro e v8 ⟨t2,rfl,GC,hR,D⟩;have A:=ae (l.only D hR (by simp));have C:=ae ((D.block _ (ai r) (by omega)).trans r);clear hR D l r f;have l:=ae A.out;have r:=ae C.out;clear A C;have f:=ae (Q2 _ _ l);refine m _ _ f ?_;clear m K
     (try simp only[Act.put,nzL])
     refine aV 10 (v:=U (tt++t2)) rfl rfl (by as_aux_lemma=>kernel_rfl) (fun _ _ _ h=>h) rfl ?_ f ?_
     ·intro W u
      go_simp;omega
     (try simp only[Act.put,nzL])
     generalize tt++t2=tx;clear Fm GC;refine aD (i:=11) rfl (by as_aux_lemma=>kernel_rfl) (fun K m=>?_);go_simp;go_at_call 20;refine(mX d0 m0 k0 g0 d1 m1 k1 g1 kn tx _ (by omega) (by omega) (HL _ _ _ _ _ _ _ _ _ _ _ l).1 (HL _ _ _ _ _ _ _ _ _ _ _ l).2.1 FT FL).mono ?_;rintro e Q0 ⟨v0,v1,RT,rfl,X,QY,hm,O⟩;obtain⟨ZA,G,rfl⟩:=aF X;obtain⟨Q9,ZB,rfl⟩:=aF QY.own;have sm:=O.size;have n8:=l.o.size;have aq:=ai r.out;have C6:=ae (l.below O (by simp));have N6:=ae ((O.block n aq).trans r)
     have P:=ae (QSp.new (lo:=w.heap.size) (xs:=[n,R,w.heap.size,w.heap.size+1]) (lc X QY hm uH) (by omega) (fun x hx=>by
      simp only[nD,nj,MA] at hx
      omega))
     clear X QY hm O l r f;have f:=ae (Q2 _ _ C6);refine m _ _ f ?_;clear m K
     (try simp only[Act.put,nzL])
     iterate 3
      refine aV 12 (v:=?_) rfl rfl (by as_aux_lemma=>kernel_rfl) (fun _ _ _ h=>h) rfl ?_ f ?_;rotate_left
      ·(intro W u;obtain⟨s0,QX⟩:=u;go_simp)
       (try with_reducible rfl)
      (try simp only[Act.put,nzL])
     generalize (fU m0 g0 m1 g1 kn tx).length=QZ at P ⊢;generalize RT.length=M at P ⊢;generalize aR (fU m0 g0 m1 g1 kn tx)=i0 at P;generalize aT (gS m0 g0 m1 g1 kn tx)=i1 at P;have F:=N6.out;have y0:Q0.frozen? (T n 0 Z)=QQ:=by simp[World.frozen?,F]
     have y1:Q0.frozen? (T n 1 Z)=QQ:=by simp[World.frozen?,F]
     have y2:=ai F;have y3:Q0.cell? (T n 0 Z)=N (Y d0 m0 k0):=by simp[World.cell?,F]
     have y4:Q0.cell? (T n 1 Z)=N (Y d1 m1 k1):=by simp[World.cell?,F]
     clear F;have C7:=ae (C6.two (x:=n) (by simp) bt (Y ZA QZ G) (Y Q9 M ZB));have N7:Hid (((Q0.setCell (T n 0 Z) (Y ZA QZ G)).setCell (T n 1 Z) (Y Q9 M ZB)).heap[n]?=N (Q #[Y ZA QZ G,Y Q9 M ZB] 29 (0,0))):=by have h1:=bM (j:=1) (bM (j:=0) N6 (Y ZA QZ G)) (Y Q9 M ZB);exact h1
     have Q7:=ae (P.fr ((Fr.set (x:=n) (j:=0) (by simp) (Y ZA QZ G)).trans (Fr.set (x:=n) (j:=1) (by simp) (Y Q9 M ZB))));refine aD (i:=15) rfl (by as_aux_lemma=>kernel_rfl) (fun K m=>?_);go_simp;clear f;have f:=ae (Q2 _ _ C7);refine m _ _ f ?_;clear m K
     (try simp only[Act.put,nzL])
     refine aD (i:=16) rfl (by as_aux_lemma=>kernel_rfl) (fun K m=>?_);go_simp;refine m _ _ f ?_;clear m K
     (try simp only[Act.put,nzL])
     refine wpAnyH_done (by as_aux_lemma=>kernel_rfl) ?_ _;go_wp2;go_meet;exact⟨_,_,_,_,_,_,_,_,_,_,rfl,by omega,C7,N7,Q7⟩
   case rest =>
   clear QW N4 Q2 FT FL;obtain⟨cc,q',QZ,G,M,ZB,ZA,i0,Q9,i1,rfl,hq',C8,N8,Q8⟩:=hcut;generalize wc=W8 at C8 N8 Q8 ⊢;obtain⟨x0,x1,x2,x3,x4⟩:=C8.cells;have F:=N8.out;have y3:W8.cell? (T n 0 Z)=N (Y ZA QZ G):=by simp[World.cell?,F]
   have y4:W8.cell? (T n 1 Z)=N (Y Q9 M ZB):=by simp[World.cell?,F]
   clear F;by_cases ur:cc=0
   ·subst ur
    have C9:=ae ((C8.put (l0:=G) (l1:=ZB) (by simp) (.inl Q8)).less);go_wp2;exact⟨⟨_,_,_,_,_,_,_,_,_,_,rfl,by omega,by omega,by omega,C9⟩,by simp only[intOf];omega⟩
   ·have hcb:(cc == 0)=QQ:=by simpa using ur
    go_wp2;exact⟨⟨_,_,_,_,_,_,_,_,_,_,rfl,by omega,by omega,by omega,C8.less⟩,by simp only[intOf];omega⟩
  ·have hi2:¬ 0<i:=hi
   have kr:=C2.rx;have r0:wr.cell? (T (w.heap.size+1) 0 Z)=N (Y Z 0 0):=by simp[World.cell?,kr]
   have r1:wr.cell? (T (w.heap.size+1) 1 Z)=N (Y Z 0 0):=by simp[World.cell?,kr]
   have r2:wr.frozen? (T (w.heap.size+1) 0 Z)=QQ:=by simp[World.frozen?,kr]
   have r3:wr.frozen? (T (w.heap.size+1) 1 Z)=QQ:=by simp[World.frozen?,kr]
   have G:=ai kr;clear kr;have BE:=ae (((eL (w.heap.size+1) wr).setCell (p:=(T (w.heap.size+1) 0 Z)) ly (Y d0 m0 k0)).setCell (p:=(T (w.heap.size+1) 1 Z)) ly (Y d1 m1 k1));have DQ:Hid (HSg w.heap.size ((wr.setCell (T (w.heap.size+1) 0 Z) (Y d0 m0 k0)).setCell (T (w.heap.size+1) 1 Z) (Y d1 m1 k1)) d0 m0 g0 d1 m1 g1∨(d0=a0/\m0=n0/\g0=f0/\d1=a1/\m1=n1/\g1=f1)):=C2.sp.imp (fun g=>(g.fr ((Fr.set (x:=w.heap.size+1) (j:=0) (by simp) (Y d0 m0 k0)).trans (Fr.set (x:=w.heap.size+1) (j:=1) (by simp) (Y d1 m1 k1)))).at) (HE _ _ _ _ _ _);have RE:=ae (C2.rd.low BE (by omega));have OE:=ae (C2.o.then (BE.mono (vF _)));go_wp2;exact bp (v:=QV #[Y d0 m0 k0,Y d1 m1 k1]) (by simp[results,Tryz.results35,go_sem,r0,r1]) rfl ⟨_,_,_,_,_,_,_,_,rfl,DQ,_,by omega,RE,OE⟩
end Go.Proofs.YtamacmnikdejeaaGreatDoor.Vp
