import Derived.Test.YtkophfgkcijjkaaGreatDoorXU
import Derived.Test.YtkophfgkcijjkaaGreatDoorYP
import Derived.Test.YtkophfgkcijjkaaGreatDoorYV
import Derived.Laws.StructEq
set_option maxRecDepth 100000
set_option maxHeartbeats 8000000
namespace Go.Proofs.YtkophfgkcijjkaaGreatDoor.Vp
open RowKit
def MSp (W:World)(a0:Option Addr)(c0:Nat)(a1:Option Addr)(c1:Nat)(c:List Source)(d:List Target):Prop :=
 ∃ (b:Nat) (R:List TR),W.ownsRow b 100 2 (.slice a0 c.length c0) c.length (c.flatMap be)/\TRow W b (.slice a1 R.length c1) R/\R.map (·.1)=d
theorem MSp.below {W V:World}{a0 a1:Option Addr}{c0 c1 B:Nat}{d:List Source}{f:List Target}(h:MSp W a0 c0 a1 c1 d f)(hb:Below B W V)(c:W.heap.size<=B):MSp V a0 c0 a1 c1 d f:=by obtain⟨b,R,g,i,j⟩:=h;exact⟨b,R,own_below g hb c,i.below hb c,j⟩
theorem MSp.s0 {W:World}{a0 a1:Option Addr}{c0 c1:Nat}{b:List Source}{d:List Target}(h:MSp W a0 c0 a1 c1 b d):SlSource W a0 b.length (aO b):=by obtain⟨base,R,c,h1,h2⟩:=h;exact iL c
theorem MSp.s1 {W:World}{a0 a1:Option Addr}{c0 c1:Nat}{d:List Source}{b:List Target}(h:MSp W a0 c0 a1 c1 d b):SlTarget W a1 b.length (ba b):=by obtain⟨base,R,h0,c,rfl⟩:=h;have:=lv c;rw[List.length_map];exact this
structure Sml (LS:List Source)(LT:List Target):Prop where
 n0:LS.length<=300
 n1:LT.length<=300
 act:∀ i,i<LT.length->(ba LT i).actN<=300/\∀ j,j<(ba LT i).actN->((ba LT i).act j).s.size<=5000
theorem Sml.fit {c:List Source}{b:List Target}(h:Sml c b):∀ i,i<b.length->bD (ba b i):=fun i hi=>by have:=(h.act i hi).1;unfold bD;omega
theorem nr:Sml [] []:=⟨by simp,by simp,fun i hi=>absurd hi (by simp)⟩
theorem GoodE.sml {g:List Source}{b:List Target}(h:GoodE g b):Sml g b:=by
 have hf:=h.few;refine⟨by omega,by omega,fun i hi=>?_⟩;rw[dX hi];have c:=(h.tgt _ (gz hi)).2;unfold dk at c;have d:valid b[i].act b[i].actN=true:=by simpa using c
 obtain⟨k,h2,h3⟩:=cH d;refine⟨by omega,fun j l=>?_⟩;have f:=j8 k l;unfold cC at f;rw[decide_eq_true_eq] at f;have hm:bF (b[i].act j).op<=2000:=by unfold bF;split<;>omega
 omega
theorem xt {n0:Nat}{f0:Nat->Source}{n1:Nat}{f1:Nat->Target}{t tx:ByteArray}:Sml (fM n0 f0 n1 f1 t tx) (gT n0 f0 n1 f1 t tx):=by
 by_cases h:jS n0 f0 n1 f1 t tx=0
 ·exact(wV h).1.sml
 ·rw[fM,gT,if_neg h,if_neg h];exact nr
theorem vh {n0:Nat}{f0:Nat->Source}{n1:Nat}{f1:Nat->Target}{t:ByteArray}{m:Nat}{b:Nat->Ins}(h:ip n0 f0 n1 f1 t (valid b m)=0):aw t=true/\GoodE (fC n0 f0 n1 f1 t m b) (fT n0 f0 n1 f1 t m b)/\∃ i:Nat,(fT n0 f0 n1 f1 t m b)[i]?=some ⟨t,m,b⟩:=by
 have c:=h;unfold ip at c;by_cases a1:bi n0 f0 n1 f1≠0
 ·rw[if_pos a1] at c;cases c
 rw[if_neg a1] at c;by_cases d:aw t=false∨valid b m=false
 ·rw[if_pos d] at c;cases c
 rw[if_neg d] at c;by_cases l:200<=(bw f0 t n0).length+(ce f1 t n1).length
 ·rw[if_pos l] at c;cases c
 have n:bi n0 f0 n1 f1=0:=by omega
 have hn:aw t=true:=by rw[<-Bool.not_eq_false];exact fun e=>d (.inl e)
 have k:valid b m=true:=by rw[<-Bool.not_eq_false];exact fun e=>d (.inr e)
 obtain⟨g1,f⟩:=uN (x:=⟨t,m,b⟩) (t:=t) (j2 t n) rfl (by omega) hn (by unfold dk;simp[k]) nO pY;have g:fC n0 f0 n1 f1 t m b=bw f0 t n0:=by rw[fC,if_pos h]
 have j:fT n0 f0 n1 f1 t m b=lw (ce f1 t n1) ⟨t,m,b⟩ t:=by rw[fT,if_pos h]
 rw[g,j];exact⟨hn,g1,f⟩
theorem xu {n0:Nat}{f0:Nat->Source}{n1:Nat}{f1:Nat->Target}{t:ByteArray}{m:Nat}{b:Nat->Ins}:Sml (fC n0 f0 n1 f1 t m b) (fT n0 f0 n1 f1 t m b):=by
 by_cases h:ip n0 f0 n1 f1 t (valid b m)=0
 ·exact(vh h).2.1.sml
 ·rw[fC,fT,if_neg h,if_neg h];exact nr
theorem xv {n0:Nat}{f0:Nat->Source}{n1:Nat}{f1:Nat->Target}{t:ByteArray}:Sml (gC n0 f0 n1 f1 t) (jd n0 f0 n1 f1 t):=by
 by_cases h:jc n0 f0 n1 f1 t=0
 ·have c:bi n0 f0 n1 f1=0:=by
   have b:=h;unfold jc at b;by_cases a1:bi n0 f0 n1 f1≠0
   ·rw[if_pos a1] at b;cases b
   ·omega
  rw[gC,jd,if_pos h,if_pos h];exact(j2 t c).sml
 ·rw[gC,jd,if_neg h,if_neg h];exact nr
end Go.Proofs.YtkophfgkcijjkaaGreatDoor.Vp
namespace Go.Proofs.YtkophfgkcijjkaaGreatDoor.Vp
open RowKit Ca
def DCh (w:World)(R q:Nat)(a0:Option Addr)(n0:Nat)(f0:Nat->Source)(a1:Option Addr)(n1:Nat)(f1:Nat->Target)(e:Ending)(b:World):Prop:=∃ (d0:Option Addr) (m0 k0:Nat) (g0:Nat->Source) (d1:Option Addr) (m1 k1:Nat) (g1:Nat->Target),e=.returned (.agg #[.slice d0 m0 k0,.slice d1 m1 k1])/\(HSp w.heap.size b d0 m0 g0 d1 m1 g1∨(d0=a0/\m0=n0/\g0=f0/\d1=a1/\m1=n1/\g1=f1))/\∃ q':Nat,q'<=q/\Rd b R q'/\Only R w b
structure Ch (E:Option Addr->Nat->(Nat->Source)->Option Addr->Nat->(Nat->Target)->Prop)(xs:List Nat)(w:World)(R:Nat)(W:World)(q m0 k0 m1 k1:Nat)(d0:Option Addr)(g0:Nat->Source)(d1:Option Addr)(g1:Nat->Target):Prop where
 rd:Rd W R q
 o:Only R w W
 sx:W.heap[w.heap.size]?=some (.cells #[.slice d0 m0 k0,.slice d1 m1 k1] 26 (0,0))
 rx:W.heap[w.heap.size+1]?=some (.cells #[.slice none 0 0,.slice none 0 0] 26 (0,0))
 sp:QSp w.heap.size xs W d0 m0 g0 d1 m1 g1∨E d0 m0 g0 d1 m1 g1
 lo:R<w.heap.size
section
variable {E:Option Addr->Nat->(Nat->Source)->Option Addr->Nat->(Nat->Target)->Prop}{xs ys:List Nat}{w W W':World}{R q q' m0 k0 m1 k1:Nat}{d0 d1:Option Addr}{g0:Nat->Source}{g1:Nat->Target}
theorem Ch.only (h:Ch E xs w R W q m0 k0 m1 k1 d0 g0 d1 g1)(b:Only R W W')(hR:Rd W' R q')(c:R∈xs):Ch E xs w R W' q' m0 k0 m1 k1 d0 g0 d1 g1:=by have hl:=h.lo;exact⟨hR,h.o.trans b,(b.block _ (au h.sx) (by omega)).trans h.sx,(b.block _ (au h.rx) (by omega)).trans h.rx,h.sp.imp (fun g=>g.fr (Fr.only b c)) id,h.lo⟩
theorem Ch.below (h:Ch E xs w R W q m0 k0 m1 k1 d0 g0 d1 g1)(b:Below W.heap.size W W')(c:R∈xs):Ch E xs w R W' q m0 k0 m1 k1 d0 g0 d1 g1:=h.only (Only.of_below b) (h.rd.below b ly) c
theorem QSp.more {lo x:Nat}(h:QSp lo xs W d0 m0 g0 d1 m1 g1)(g:W.heap.size<=x):QSp lo (x :: xs) W d0 m0 g0 d1 m1 g1:=by
 obtain⟨b,f,j,k,d,i⟩:=h;refine⟨b,f,j,k,d,fun y c=>?_⟩;rcases List.mem_cons.1 c with rfl | c
 ·exact .inr (Nat.le_trans d.1 g)
 ·exact i y c
theorem QSp.less {lo x:Nat}(h:QSp lo (x :: xs) W d0 m0 g0 d1 m1 g1):QSp lo xs W d0 m0 g0 d1 m1 g1:=by obtain⟨b,c,g,i,j,d⟩:=h;exact⟨b,c,g,i,j,fun y f=>d y (mq _ f)⟩
theorem Ch.more {x:Nat}(h:Ch E xs w R W q m0 k0 m1 k1 d0 g0 d1 g1)(b:W.heap.size<=x):Ch E (x :: xs) w R W q m0 k0 m1 k1 d0 g0 d1 g1:=⟨h.rd,h.o,h.sx,h.rx,h.sp.imp (fun g=>g.more b) id,h.lo⟩
theorem Ch.less {x:Nat}(h:Ch E (x :: xs) w R W q m0 k0 m1 k1 d0 g0 d1 g1):Ch E xs w R W q m0 k0 m1 k1 d0 g0 d1 g1:=⟨h.rd,h.o,h.sx,h.rx,h.sp.imp (fun g=>g.less) id,h.lo⟩
theorem Ch.cells (h:Ch E xs w R W q m0 k0 m1 k1 d0 g0 d1 g1):W.cell? ⟨w.heap.size,0,none⟩=some (.slice d0 m0 k0)/\W.cell? ⟨w.heap.size,1,none⟩=some (.slice d1 m1 k1)/\W.frozen? ⟨w.heap.size,0,none⟩=false/\W.frozen? ⟨w.heap.size,1,none⟩=false/\w.heap.size<W.heap.size:=by have hb:=h.sx;refine⟨?_,?_,?_,?_,au hb⟩<;>simp[World.cell?,World.frozen?,hb]
theorem Ch.two (h:Ch E xs w R W q m0 k0 m1 k1 d0 g0 d1 g1){x:Nat}(b:x∈xs)(c:w.heap.size+2<=x)(u v:Value):Ch E xs w R ((W.setCell ⟨x,0,none⟩ u).setCell ⟨x,1,none⟩ v) q m0 k0 m1 k1 d0 g0 d1 g1:=by have B:=((Below.refl (w.heap.size+2) W).setCell (p:=⟨x,0,none⟩) c u).setCell (p:=⟨x,1,none⟩) c v;have hlo:=h.lo;exact⟨h.rd.low B (by omega),h.o.then (B.mono (by omega)),(B.block _ (by omega)).trans h.sx,(B.block _ (by omega)).trans h.rx,h.sp.imp (fun g=>g.fr ((Fr.set b _).trans (Fr.set b _))) id,h.lo⟩
theorem Ch.put {c l0 d l1:Nat}{f b:Option Addr}{j:Nat->Source}{i:Nat->Target}(h:Ch E xs w R W q m0 k0 m1 k1 d0 g0 d1 g1)(m:w.heap.size∈xs)(r:QSp w.heap.size xs W f c j b d i∨E f c j b d i):Ch E xs w R ((W.setCell ⟨w.heap.size,0,none⟩ (.slice f c l0)).setCell ⟨w.heap.size,1,none⟩ (.slice b d l1)) q c l0 d l1 f j b i:=by have B:=((Below.refl w.heap.size W).setCell (p:=⟨w.heap.size,0,none⟩) ly (.slice f c l0)).setCell (p:=⟨w.heap.size,1,none⟩) ly (.slice b d l1);have far:∀ k,k≠w.heap.size->((W.setCell ⟨w.heap.size,0,none⟩ (.slice f c l0)).setCell ⟨w.heap.size,1,none⟩ (.slice b d l1)).heap[k]?=W.heap[k]?:=fun k l=>(qh _ _ _ _ l).trans (qh _ _ _ _ l);have n:=h.sx;exact⟨h.rd.low B h.lo,h.o.then B,by simp[World.setCell,Array.getElem?_modify,n],(far _ (by omega)).trans h.rx,r.imp (fun g=>g.fr ((Fr.set m _).trans (Fr.set m _))) id,h.lo⟩
end
theorem nu {w:World}{b c0 c1:Nat}{a0 a1:Option Addr}{d:List Source}{c:List TR}{g:List Target}(k:w.ownsRow b 100 2 (.slice a0 d.length c0) d.length (d.flatMap be))(m:TRow w b (.slice a1 c.length c1) c)(j:c.map (·.1)=g)(f:Sml d g):HSp b w a0 d.length (aO d) a1 c.length (ba g):=by
 subst j;refine pQ k rfl m rfl f.n0 (by simpa using f.n1) (fun r l=>?_);obtain⟨i,hi,rfl⟩:=List.getElem_of_mem l;have e:ba (c.map (·.1)) i=c[i].1:=by simp[ba,hi]
 have h:=f.act i (by simpa using hi);rw[e] at h;exact h
theorem qB (R p b n0 c0 n1 c1:Nat)(a0:Option Addr)(f0:Nat->Source)(a1:Option Addr)(f1:Nat->Target)(w:World)(hR:Rd w R p)(hp:p<=15000)(hb:R<b)(hH:HSp b w a0 n0 f0 a1 n1 f1):Calls Tryz.prog 171 #[.pointer (some ⟨R,0,none⟩),.agg #[.slice a0 n0 c0,.slice a1 n1 c1]] w fun e w'=>DCh w R (p+2500) a0 n0 f0 a1 n1 f1 e w':=by
 obtain⟨E,hE⟩:∃ E:Option Addr->Nat->(Nat->Source)->Option Addr->Nat->(Nat->Target)->Prop,E=fun d0 m0 g0 d1 m1 g1=>d0=a0/\m0=n0/\g0=f0/\d1=a1/\m1=n1/\g1=f1:=⟨_,rfl⟩
 have HE:Hid (∀ d0 m0 g0 d1 m1 g1,E d0 m0 g0 d1 m1 g1->d0=a0/\m0=n0/\g0=f0/\d1=a1/\m1=n1/\g1=f1):=fun _ _ _ _ _ _ h=>by rw[hE] at h;exact h
 have d:Hid (∀ (V:World) (xs:List Nat) (q m0 k0 m1 k1:Nat) (d0:Option Addr) (g0:Nat->Source) (d1:Option Addr) (g1:Nat->Target),Ch E xs w R V q m0 k0 m1 k1 d0 g0 d1 g1->SlSource V d0 m0 g0/\SlTarget V d1 m1 g1/\m0<=300/\m1<=300/\∀ i,i<m1->(g1 i).actN<=300/\∀ j,j<(g1 i).actN->((g1 i).act j).s.size<=5000):=fun V xs q m0 k0 m1 k1 d0 g0 d1 g1 h=>by
  rcases h.sp with g | g
  ·have W:=g.at
   exact⟨(W.sl V (Agr.refl _ _)).1,(W.sl V (Agr.refl _ _)).2,W.hn0,W.hn1,W.fit⟩
  ·obtain⟨rfl,rfl,rfl,rfl,rfl,rfl⟩:=HE.out _ _ _ _ _ _ g
   have W:=hH.sl V (h.o.agr hb);exact⟨W.1,W.2,hH.hn0,hH.hn1,hH.fit⟩
 have zF:=hR.lt;have C0:Hid (Ch E [R,w.heap.size,w.heap.size+1] w R ((w.alloc (.cells #[.slice a0 n0 c0,.slice a1 n1 c1] 26)).alloc (.cells #[.slice none 0 0,.slice none 0 0] 26)) p n0 c0 n1 c1 a0 f0 a1 f1):=by have B:=((q9 w).alloc ly (.cells #[.slice a0 n0 c0,.slice a1 n1 c1] 26)).alloc (by simp) (.cells #[.slice none 0 0,.slice none 0 0] 26);exact⟨hR.below B ly,Only.of_below B,(((Below.refl (w.heap.size+1) (w.alloc (.cells #[.slice a0 n0 c0,.slice a1 n1 c1] 26))).alloc (by simp) _).block w.heap.size (Nat.lt_succ_self _)).trans (heap_alloc_new w _),heap_alloc2_new w _ _,.inr (by rw[hE];exact⟨rfl,rfl,rfl,rfl,rfl,rfl⟩),zF⟩
 clear hE hR hH;go_enter Tryz.func171,Tryz.ntmps171;go_wp2_with fail;generalize (w.alloc (.cells #[.slice a0 n0 c0,.slice a1 n1 c1] 26)).alloc (.cells #[.slice none 0 0,.slice none 0 0] 26)=W0 at C0 ⊢;refine(aA R p 3 _ C0.out.rd (by omega) (by omega) (by omega)).mono ?_;rintro e w1 ⟨z,rfl,sm,n8,ro,zE⟩;have C1:=ae (C0.out.only zE ro (by simp));clear ro zE C0;have zK:IntKind.i64.wrap (1+z)=1+z:=by rw[IntKind.wrap_i64];omega
 go_wp2_with fail;go_loopw [5] (fun v wr=>∃ (i:Int) (q m0 k0 m1 k1:Nat) (d0:Option Addr) (g0:Nat->Source) (d1:Option Addr) (g1:Nat->Target),v=.int .i64 i/\0<=i/\i<=3/\(q:Int)+610*i<=(p:Int)+1831/\Hid (Ch E [R,w.heap.size,w.heap.size+1] w R wr q m0 k0 m1 k1 d0 g0 d1 g1)) (fun v _=>(intOf v).toNat);case atStart=>exact⟨_,_,_,_,_,_,_,_,_,_,rfl,by omega,by omega,by omega,C1.out⟩
 case round =>
  clear C1 zK sm n8;obtain⟨i,q,m0,k0,m1,k1,d0,g0,d1,g1,rfl,hi0,hi3,hq,C2⟩:=hrel;obtain⟨x0,x1,x2,x3,x4⟩:=C2.out.cells;by_cases hi:0<i
  ·have hwi:IntKind.i64.wrap (i - 1)=i - 1:=by rw[IntKind.wrap_i64];omega
   have zJ:=au C2.out.rx;have C3:Hid (Ch E [wr.heap.size,R,w.heap.size,w.heap.size+1] w R (wr.alloc (.cells #[.slice d0 m0 k0,.slice d1 m1 k1] 26)) q m0 k0 m1 k1 d0 g0 d1 g1):=(C2.out.more ly).below (br.alloc ly _) (by simp);have N3:Hid ((wr.alloc (.cells #[.slice d0 m0 k0,.slice d1 m1 k1] 26)).heap[wr.heap.size]?=some (.cells #[.slice d0 m0 k0,.slice d1 m1 k1] 26 (0,0))):=heap_alloc_new wr _;go_wp2_with fail;generalize wr.alloc (.cells #[.slice d0 m0 k0,.slice d1 m1 k1] 26)=W3 at C3 N3 ⊢;refine(aA R _ 6 _ C3.out.rd (by omega) (by omega) (by omega)).mono ?_;rintro e w4 ⟨z,rfl,sm,n8,n9,la⟩;have Z:=ae (C3.out.only la n9 (by simp));have N4:=ae ((la.block _ (au N3.out) (by omega)).trans N3.out);clear n9 la C3 N3;have bt:w.heap.size+2<=wr.heap.size:=by omega
   clear x0 x1 x2 x3 x4 zJ C2;go_upto_block 2 with fail;generalize wr.heap.size=m at Z N4 bt ⊢;have Q:Hid (∀ (V:World) (q:Nat),Ch E [m,R,w.heap.size,w.heap.size+1] w R V q m0 k0 m1 k1 d0 g0 d1 g1->V.cell? ⟨w.heap.size,0,none⟩=some (.slice d0 m0 k0)/\V.cell? ⟨w.heap.size,1,none⟩=some (.slice d1 m1 k1)):=fun V q h=>⟨h.cells.1,h.cells.2.1⟩
   obtain⟨-,-,hm0,hm1,fd⟩:=d.out _ _ _ _ _ _ _ _ _ _ _ Z.out;have HL:=d;clear d;have FT:Hid (∀ i,i<m1->bD (g1 i)):=fun i hi=>by have:=(fd i hi).1;unfold bD;omega
   have FL:Hid (∀ i,i<m1->∀ j,j<(g1 i).actN->((g1 i).act j).s.size<=maxLen):=fun i hi j hj=>by have:=(fd i hi).2 j hj;unfold maxLen;omega
   clear fd;go_cut [7] (fun s7 wx=>∃ (cc:Int) (q' I D N H:Nat) (J:Option Addr) (i0:Nat->Source) (M:Option Addr) (i1:Nat->Target),s7=.int .i64 cc/\q'<=q+605/\Hid (Ch E [m,R,w.heap.size,w.heap.size+1] w R wx q' m0 k0 m1 k1 d0 g0 d1 g1)/\Hid (wx.heap[m]?=some (.cells #[.slice J I D,.slice M N H] 26 (0,0)))/\Hid (QSp w.heap.size [m,R,w.heap.size,w.heap.size+1] wx J I i0 M N i1));case first =>
    rcases(show z=0∨z=1∨(1<z) by omega) with rfl | rfl | hz2
    ·go_wp2_with fail
     have f:=ae (Z.out.below br.drew (by simp));have n:Hid (w4.drew.heap[m]?=some (.cells #[.slice d0 m0 k0,.slice d1 m1 k1] 26 (0,0))):=N4.out;refine wp_region_held_drew (S:=fun V=>V.cell? ⟨w.heap.size,0,none⟩=some (.slice d0 m0 k0)/\V.cell? ⟨w.heap.size,1,none⟩=some (.slice d1 m1 k1)) (by as_aux_lemma=>kernel_rfl) (Q.out _ _ f.out) (fun hS=>?_);have d:=ae hS;clear hS Z N4;generalize w4.drew=v4 at f n d ⊢
     iterate 2
      refine aF 0 (v:=?_) rfl rfl (by as_aux_lemma=>kernel_rfl) (fun _ _ _ h=>h) rfl ?_ d.out ?_;rotate_left
      ·(intro X r;obtain⟨s0,s1⟩:=r;go_simp)
       (try with_reducible rfl)
      (try simp only[Act.put,nzL])
     refine aK (i:=2) rfl (by as_aux_lemma=>kernel_rfl) (fun K l=>?_);go_simp;go_at_call 50;refine(cX R _ _ f.out.rd (by omega)).mono ?_;rintro e v5 ⟨t,rfl,U,hR,C⟩;clear U;have A:=ae (f.out.only C hR (by simp));have u:=ae ((C.block _ (au n.out) (by omega)).trans n.out);clear hR C f n d;have f:=ae A.out;have n:=ae u.out;clear A u;have d:=ae (Q.out _ _ f.out);refine l.out _ _ d.out ?_;clear l K
     (try simp only[Act.put,nzL])
     refine aK (i:=3) rfl (by as_aux_lemma=>kernel_rfl) (fun K l=>?_);go_simp;go_at_call 19;refine(px d0 m0 k0 g0 d1 m1 k1 g1 t _ (by omega) (by omega) (HL.out _ _ _ _ _ _ _ _ _ _ _ f.out).1 (HL.out _ _ _ _ _ _ _ _ _ _ _ f.out).2.1 FT.out FL.out).mono ?_;rintro e T ⟨v0,v1,RT,rfl,Y,U,hm,P⟩;obtain⟨J,D,rfl⟩:=aL Y;obtain⟨M,H,rfl⟩:=aL U.own;have ur:=P.size;have zD:=f.out.o.size;have aq:=au n.out;have C6:=ae (f.out.below P (by simp));have N6:=ae ((P.block m aq).trans n.out)
     have O:=ae (QSp.new (lo:=w.heap.size) (xs:=[m,R,w.heap.size,w.heap.size+1]) (nu Y U hm xv) (by omega) (fun x hx=>by
      simp only[List.mem_cons,nj,or_false] at hx
      omega))
     clear Y U hm P f n d;have d:=ae (Q.out _ _ C6.out);refine l.out _ _ d.out ?_;clear l K
     (try simp only[Act.put,nzL])
     iterate 3
      refine aF 4 (v:=?_) rfl rfl (by as_aux_lemma=>kernel_rfl) (fun _ _ _ h=>h) rfl ?_ d.out ?_;rotate_left
      ·(intro X r;obtain⟨s0,s1⟩:=r;go_simp)
       (try with_reducible rfl)
      (try simp only[Act.put,nzL])
     generalize (gC m0 g0 m1 g1 t).length=I at O ⊢;generalize RT.length=N at O ⊢;generalize aO (gC m0 g0 m1 g1 t)=i0 at O;generalize ba (jd m0 g0 m1 g1 t)=i1 at O;have G:=N6.out;have y0:T.frozen? ⟨m,0,none⟩=false:=by simp[World.frozen?,G]
     have y1:T.frozen? ⟨m,1,none⟩=false:=by simp[World.frozen?,G]
     have y2:=au G;have y3:T.cell? ⟨m,0,none⟩=some (.slice d0 m0 k0):=by simp[World.cell?,G]
     have y4:T.cell? ⟨m,1,none⟩=some (.slice d1 m1 k1):=by simp[World.cell?,G]
     clear G;have C7:=ae (C6.out.two (x:=m) (by simp) bt (.slice J I D) (.slice M N H));have N7:Hid (((T.setCell ⟨m,0,none⟩ (.slice J I D)).setCell ⟨m,1,none⟩ (.slice M N H)).heap[m]?=some (.cells #[.slice J I D,.slice M N H] 26 (0,0))):=by have W:=bG (j:=1) (bG (j:=0) N6.out (.slice J I D)) (.slice M N H);exact W
     have Q7:=ae (O.out.fr ((Fr.set (x:=m) (j:=0) (by simp) (.slice J I D)).trans (Fr.set (x:=m) (j:=1) (by simp) (.slice M N H))));refine aK (i:=7) rfl (by as_aux_lemma=>kernel_rfl) (fun K l=>?_);go_simp;clear d;have d:=ae (Q.out _ _ C7.out);refine l.out _ _ d.out ?_;clear l K
     (try simp only[Act.put,nzL])
     refine aK (i:=8) rfl (by as_aux_lemma=>kernel_rfl) (fun K l=>?_);go_simp;refine l.out _ _ d.out ?_;clear l K
     (try simp only[Act.put,nzL])
     refine wpAnyH_done (by as_aux_lemma=>kernel_rfl) ?_ _;go_wp2;go_meet;exact⟨_,_,_,_,_,_,_,_,_,_,rfl,by omega,C7.out,N7.out,Q7.out⟩
    ·go_wp2_with fail
     have f:=ae (Z.out.below br.drew (by simp));have n:Hid (w4.drew.heap[m]?=some (.cells #[.slice d0 m0 k0,.slice d1 m1 k1] 26 (0,0))):=N4.out;refine wp_region_held_drew (S:=fun V=>V.cell? ⟨w.heap.size,0,none⟩=some (.slice d0 m0 k0)/\V.cell? ⟨w.heap.size,1,none⟩=some (.slice d1 m1 k1)) (by as_aux_lemma=>kernel_rfl) (Q.out _ _ f.out) (fun hS=>?_);have d:=ae hS;clear hS Z N4;generalize w4.drew=v4 at f n d ⊢
     iterate 2
      refine aF 0 (v:=?_) rfl rfl (by as_aux_lemma=>kernel_rfl) (fun _ _ _ h=>h) rfl ?_ d.out ?_;rotate_left
      ·(intro X r;obtain⟨s0,s1⟩:=r;go_simp)
       (try with_reducible rfl)
      (try simp only[Act.put,nzL])
     refine aF 5 (v:=?_) rfl rfl (by as_aux_lemma=>kernel_rfl) (fun _ _ _ h=>h) rfl ?_ d.out ?_;rotate_left
     ·(intro X r;obtain⟨s0,s1⟩:=r;go_simp)
      (try with_reducible rfl)
     (try simp only[Act.put,nzL])
     refine aK (i:=2) rfl (by as_aux_lemma=>kernel_rfl) (fun K l=>?_);go_simp;go_at_call 51;refine(aA R _ 8 _ f.out.rd (by omega) (by omega) (by omega)).mono ?_;rintro e v5 ⟨y,rfl,ex,qr,hR,C⟩;obtain⟨k,rfl⟩:=Int.eq_ofNat_of_zero_le ex;have A:=ae (f.out.only C hR (by simp));have u:=ae ((C.block _ (au n.out) (by omega)).trans n.out);clear hR C f n d;have f:=ae A.out;have n:=ae u.out;clear A u;have d:=ae (Q.out _ _ f.out);refine l.out _ _ d.out ?_;clear l K
     (try simp only[Act.put,nzL])
     refine aK (i:=3) rfl (by as_aux_lemma=>kernel_rfl) (fun K l=>?_);go_simp;go_at_call 126;refine(fS k (by omega) _).mono ?_;rintro e v7 ⟨rfl,P⟩;have hR:=f.out.rd.below P ly;have C:=Only.of_below (b:=R) P;clear P;have A:=ae (f.out.only C hR (by simp));have u:=ae ((C.block _ (au n.out) (by omega)).trans n.out);clear hR C f n d;have f:=ae A.out;have n:=ae u.out;clear A u;have d:=ae (Q.out _ _ f.out);refine l.out _ _ d.out ?_;clear l K
     (try simp only[Act.put,nzL])
     refine aF 4 (v:=?_) rfl rfl (by as_aux_lemma=>kernel_rfl) (fun _ _ _ h=>h) rfl ?_ d.out ?_;rotate_left
     ·(intro X r;obtain⟨s0,s1⟩:=r;go_simp)
      (try with_reducible rfl)
     (try simp only[Act.put,nzL])
     refine aK (i:=6) rfl (by as_aux_lemma=>kernel_rfl) (fun K l=>?_);go_simp;go_at_call 130;have hs7:=f.out.o.size;refine(gy R _ _ f.out.rd (by omega)).mono ?_;rintro e v8 ⟨L,g,c,rfl,hI,hL1,hL2,th,q8,hq8,hR,C⟩;have SI:=ae (show SlIns v8 (some ⟨g,0,none⟩) L.length (cE L) from .inr ⟨g,0,rfl,hI.lt.2,hI.at⟩);have FI:Hid (∀ i,i<L.length->(cE L i).s.size<=maxLen):=fun i hi=>by have:=jq th i hi;unfold maxLen;omega
     clear hI th;have A:=ae (f.out.only C hR (by simp));have u:=ae ((C.block _ (au n.out) (by omega)).trans n.out);clear hR C f n d;have f:=ae A.out;have n:=ae u.out;clear A u;have d:=ae (Q.out _ _ f.out);refine l.out _ _ d.out ?_;clear l K
     (try simp only[Act.put,nzL])
     refine aK (i:=7) rfl (by as_aux_lemma=>kernel_rfl) (fun K l=>?_);go_simp;go_at_call 17;refine(pF d0 m0 k0 g0 d1 m1 k1 g1 _ (some ⟨g,0,none⟩) L.length c (cE L) _ (by omega) (by omega) (by omega) (HL.out _ _ _ _ _ _ _ _ _ _ _ f.out).1 (HL.out _ _ _ _ _ _ _ _ _ _ _ f.out).2.1 SI.out FT.out FL.out FI.out).mono ?_;rintro e T ⟨v0,v1,RT,rfl,Y,U,hm,P⟩;clear SI FI;obtain⟨J,D,rfl⟩:=aL Y;obtain⟨M,H,rfl⟩:=aL U.own;have ur:=P.size;have zD:=f.out.o.size;have aq:=au n.out;have C6:=ae (f.out.below P (by simp));have N6:=ae ((P.block m aq).trans n.out)
     have O:=ae (QSp.new (lo:=w.heap.size) (xs:=[m,R,w.heap.size,w.heap.size+1]) (nu Y U hm xu) (by omega) (fun x hx=>by
      simp only[List.mem_cons,nj,or_false] at hx
      omega))
     clear Y U hm P f n d;have d:=ae (Q.out _ _ C6.out);refine l.out _ _ d.out ?_;clear l K
     (try simp only[Act.put,nzL])
     iterate 3
      refine aF 8 (v:=?_) rfl rfl (by as_aux_lemma=>kernel_rfl) (fun _ _ _ h=>h) rfl ?_ d.out ?_;rotate_left
      ·(intro X r;obtain⟨s0,s1⟩:=r;go_simp)
       (try with_reducible rfl)
      (try simp only[Act.put,nzL])
     generalize (⟨#[116]⟩:ByteArray)++⟨#[dig k]⟩=t at O ⊢;generalize (fC m0 g0 m1 g1 t L.length (cE L)).length=I at O ⊢;generalize RT.length=N at O ⊢;generalize aO (fC m0 g0 m1 g1 t L.length (cE L))=i0 at O;generalize ba (fT m0 g0 m1 g1 t L.length (cE L))=i1 at O;have G:=N6.out;have y0:T.frozen? ⟨m,0,none⟩=false:=by simp[World.frozen?,G]
     have y1:T.frozen? ⟨m,1,none⟩=false:=by simp[World.frozen?,G]
     have y2:=au G;have y3:T.cell? ⟨m,0,none⟩=some (.slice d0 m0 k0):=by simp[World.cell?,G]
     have y4:T.cell? ⟨m,1,none⟩=some (.slice d1 m1 k1):=by simp[World.cell?,G]
     clear G;have C7:=ae (C6.out.two (x:=m) (by simp) bt (.slice J I D) (.slice M N H));have N7:Hid (((T.setCell ⟨m,0,none⟩ (.slice J I D)).setCell ⟨m,1,none⟩ (.slice M N H)).heap[m]?=some (.cells #[.slice J I D,.slice M N H] 26 (0,0))):=by have W:=bG (j:=1) (bG (j:=0) N6.out (.slice J I D)) (.slice M N H);exact W
     have Q7:=ae (O.out.fr ((Fr.set (x:=m) (j:=0) (by simp) (.slice J I D)).trans (Fr.set (x:=m) (j:=1) (by simp) (.slice M N H))));refine aK (i:=11) rfl (by as_aux_lemma=>kernel_rfl) (fun K l=>?_);go_simp;clear d;have d:=ae (Q.out _ _ C7.out);refine l.out _ _ d.out ?_;clear l K
     (try simp only[Act.put,nzL])
     refine aK (i:=12) rfl (by as_aux_lemma=>kernel_rfl) (fun K l=>?_);go_simp;refine l.out _ _ d.out ?_;clear l K
     (try simp only[Act.put,nzL])
     refine wpAnyH_done (by as_aux_lemma=>kernel_rfl) ?_ _;go_wp2;go_meet;exact⟨_,_,_,_,_,_,_,_,_,_,rfl,by omega,C7.out,N7.out,Q7.out⟩
    ·have hz3:(z == 0)=false:=by simp;omega
     have hz4:(z == 1)=false:=by simp;omega
     go_wp2_with fail;have f:=ae (Z.out.below br.drew (by simp));have n:Hid (w4.drew.heap[m]?=some (.cells #[.slice d0 m0 k0,.slice d1 m1 k1] 26 (0,0))):=N4.out;refine wp_region_held_drew (S:=fun V=>V.cell? ⟨w.heap.size,0,none⟩=some (.slice d0 m0 k0)/\V.cell? ⟨w.heap.size,1,none⟩=some (.slice d1 m1 k1)) (by as_aux_lemma=>kernel_rfl) (Q.out _ _ f.out) (fun hS=>?_);have d:=ae hS;clear hS Z N4;generalize w4.drew=v4 at f n d ⊢
     iterate 2
      refine aF 0 (v:=?_) rfl rfl (by as_aux_lemma=>kernel_rfl) (fun _ _ _ h=>h) rfl ?_ d.out ?_;rotate_left
      ·(intro X r;obtain⟨s0,s1⟩:=r;go_simp)
       (try with_reducible rfl)
      (try simp only[Act.put,nzL])
     refine aF 5 (v:=?_) rfl rfl (by as_aux_lemma=>kernel_rfl) (fun _ _ _ h=>h) rfl ?_ d.out ?_;rotate_left
     ·(intro X r;obtain⟨s0,s1⟩:=r;go_simp)
      (try with_reducible rfl)
     (try simp only[Act.put,nzL])
     refine aF 8 (v:=?_) rfl rfl (by as_aux_lemma=>kernel_rfl) (fun _ _ _ h=>h) rfl ?_ d.out ?_;rotate_left
     ·(intro X r;obtain⟨s0,s1⟩:=r;go_simp)
      (try with_reducible rfl)
     (try simp only[Act.put,nzL])
     refine aK (i:=2) rfl (by as_aux_lemma=>kernel_rfl) (fun K l=>?_);go_simp;go_at_call 51;refine(aA R _ 6 _ f.out.rd (by omega) (by omega) (by omega)).mono ?_;rintro e v5 ⟨y,rfl,ex,qr,hR,C⟩;obtain⟨k,rfl⟩:=Int.eq_ofNat_of_zero_le ex;have A:=ae (f.out.only C hR (by simp));have u:=ae ((C.block _ (au n.out) (by omega)).trans n.out);clear hR C f n d;have f:=ae A.out;have n:=ae u.out;clear A u;have d:=ae (Q.out _ _ f.out);refine l.out _ _ d.out ?_;clear l K
     (try simp only[Act.put,nzL])
     refine aF 3 (v:=.string ((⟨#[97,98,99,100,101,102]⟩:ByteArray).extract k 6)) rfl rfl (by as_aux_lemma=>kernel_rfl) (fun _ _ _ h=>h) rfl ?_ d.out ?_
     ·intro X r
      go_simp;intro h;omega
     (try simp only[Act.put,nzL])
     obtain⟨s,hs⟩:∃ s:ByteArray,s=(⟨#[97,98,99,100,101,102]⟩:ByteArray).extract k 6:=⟨_,rfl⟩
     have zH:1<=s.size:=by rw[hs,ByteArray.size_extract];have e:(⟨#[97,98,99,100,101,102]⟩:ByteArray).size=6:=rfl;rw[e];omega
     rw[<-hs];clear hs ex qr;refine aF 4 (v:=.string (s.extract 0 1)) rfl rfl (by as_aux_lemma=>kernel_rfl) (fun _ _ _ h=>h) rfl ?_ d.out ?_
     ·intro X r
      go_simp;intro h;omega
     (try simp only[Act.put,nzL])
     generalize s.extract 0 1=kn;clear zH;refine aK (i:=6) rfl (by as_aux_lemma=>kernel_rfl) (fun K l=>?_);go_simp;go_at_call 55;refine(fy R _ _ f.out.rd (by omega)).mono ?_;rintro e v7 ⟨t,rfl,U,q7,hq7,hR,C⟩;have A:=ae (f.out.only C hR (by simp));have u:=ae ((C.block _ (au n.out) (by omega)).trans n.out);clear hR C f n d;have f:=ae A.out;have n:=ae u.out;clear A u;have d:=ae (Q.out _ _ f.out);refine l.out _ _ d.out ?_;clear l K
     (try simp only[Act.put,nzL])
     refine aF 7 (v:=.string (t++⟨#[32]⟩)) rfl rfl (by as_aux_lemma=>kernel_rfl) (fun _ _ _ h=>h) rfl ?_ d.out ?_
     ·intro X r
      go_simp;omega
     (try simp only[Act.put,nzL])
     obtain⟨tt,ld⟩:∃ tt:ByteArray,tt=t++⟨#[32]⟩:=⟨_,rfl⟩
     have zI:tt.size<=9:=by have e:(⟨#[32]⟩:ByteArray).size=1:=rfl;rw[ld,ByteArray.size_append,e];omega
     rw[<-ld];clear ld U;refine aK (i:=9) rfl (by as_aux_lemma=>kernel_rfl) (fun K l=>?_);go_simp;go_at_call 50;refine(cX R _ _ f.out.rd (by omega)).mono ?_;rintro e v8 ⟨t2,rfl,zG,hR,C⟩;have A:=ae (f.out.only C hR (by simp));have u:=ae ((C.block _ (au n.out) (by omega)).trans n.out);clear hR C f n d;have f:=ae A.out;have n:=ae u.out;clear A u;have d:=ae (Q.out _ _ f.out);refine l.out _ _ d.out ?_;clear l K
     (try simp only[Act.put,nzL])
     refine aF 10 (v:=.string (tt++t2)) rfl rfl (by as_aux_lemma=>kernel_rfl) (fun _ _ _ h=>h) rfl ?_ d.out ?_
     ·intro X r
      go_simp;omega
     (try simp only[Act.put,nzL])
     generalize tt++t2=tx;clear zI zG;refine aK (i:=11) rfl (by as_aux_lemma=>kernel_rfl) (fun K l=>?_);go_simp;go_at_call 11;refine(pw d0 m0 k0 g0 d1 m1 k1 g1 kn tx _ (by omega) (by omega) (HL.out _ _ _ _ _ _ _ _ _ _ _ f.out).1 (HL.out _ _ _ _ _ _ _ _ _ _ _ f.out).2.1 FT.out FL.out).mono ?_;rintro e T ⟨v0,v1,RT,rfl,Y,U,hm,P⟩;obtain⟨J,D,rfl⟩:=aL Y;obtain⟨M,H,rfl⟩:=aL U.own;have ur:=P.size;have zD:=f.out.o.size;have aq:=au n.out;have C6:=ae (f.out.below P (by simp));have N6:=ae ((P.block m aq).trans n.out)
     have O:=ae (QSp.new (lo:=w.heap.size) (xs:=[m,R,w.heap.size,w.heap.size+1]) (nu Y U hm xt) (by omega) (fun x hx=>by
      simp only[List.mem_cons,nj,or_false] at hx
      omega))
     clear Y U hm P f n d;have d:=ae (Q.out _ _ C6.out);refine l.out _ _ d.out ?_;clear l K
     (try simp only[Act.put,nzL])
     iterate 3
      refine aF 12 (v:=?_) rfl rfl (by as_aux_lemma=>kernel_rfl) (fun _ _ _ h=>h) rfl ?_ d.out ?_;rotate_left
      ·(intro X r;obtain⟨s0,s1⟩:=r;go_simp)
       (try with_reducible rfl)
      (try simp only[Act.put,nzL])
     generalize (fM m0 g0 m1 g1 kn tx).length=I at O ⊢;generalize RT.length=N at O ⊢;generalize aO (fM m0 g0 m1 g1 kn tx)=i0 at O;generalize ba (gT m0 g0 m1 g1 kn tx)=i1 at O;have G:=N6.out;have y0:T.frozen? ⟨m,0,none⟩=false:=by simp[World.frozen?,G]
     have y1:T.frozen? ⟨m,1,none⟩=false:=by simp[World.frozen?,G]
     have y2:=au G;have y3:T.cell? ⟨m,0,none⟩=some (.slice d0 m0 k0):=by simp[World.cell?,G]
     have y4:T.cell? ⟨m,1,none⟩=some (.slice d1 m1 k1):=by simp[World.cell?,G]
     clear G;have C7:=ae (C6.out.two (x:=m) (by simp) bt (.slice J I D) (.slice M N H));have N7:Hid (((T.setCell ⟨m,0,none⟩ (.slice J I D)).setCell ⟨m,1,none⟩ (.slice M N H)).heap[m]?=some (.cells #[.slice J I D,.slice M N H] 26 (0,0))):=by have W:=bG (j:=1) (bG (j:=0) N6.out (.slice J I D)) (.slice M N H);exact W
     have Q7:=ae (O.out.fr ((Fr.set (x:=m) (j:=0) (by simp) (.slice J I D)).trans (Fr.set (x:=m) (j:=1) (by simp) (.slice M N H))));refine aK (i:=15) rfl (by as_aux_lemma=>kernel_rfl) (fun K l=>?_);go_simp;clear d;have d:=ae (Q.out _ _ C7.out);refine l.out _ _ d.out ?_;clear l K
     (try simp only[Act.put,nzL])
     refine aK (i:=16) rfl (by as_aux_lemma=>kernel_rfl) (fun K l=>?_);go_simp;refine l.out _ _ d.out ?_;clear l K
     (try simp only[Act.put,nzL])
     refine wpAnyH_done (by as_aux_lemma=>kernel_rfl) ?_ _;go_wp2;go_meet;exact⟨_,_,_,_,_,_,_,_,_,_,rfl,by omega,C7.out,N7.out,Q7.out⟩
   case rest =>
   clear Z N4 Q FT FL;obtain⟨cc,q',I,D,N,H,J,i0,M,i1,rfl,hq',C8,N8,Q8⟩:=hcut;generalize wc=W8 at C8 N8 Q8 ⊢;obtain⟨x0,x1,x2,x3,x4⟩:=C8.out.cells;have G:=N8.out;have y3:W8.cell? ⟨m,0,none⟩=some (.slice J I D):=by simp[World.cell?,G]
   have y4:W8.cell? ⟨m,1,none⟩=some (.slice M N H):=by simp[World.cell?,G]
   clear G;by_cases mv:cc=0
   ·subst mv
    have C9:=ae ((C8.out.put (l0:=D) (l1:=H) (by simp) (.inl Q8.out)).less);go_wp2;exact⟨⟨_,_,_,_,_,_,_,_,_,_,rfl,by omega,by omega,by omega,C9.out⟩,by simp only[intOf];omega⟩
   ·have hcb:(cc == 0)=false:=by simpa using mv
    go_wp2;exact⟨⟨_,_,_,_,_,_,_,_,_,_,rfl,by omega,by omega,by omega,C8.out.less⟩,by simp only[intOf];omega⟩
  ·have hi2:¬ 0<i:=hi
   have kr:=C2.out.rx;have r0:wr.cell? ⟨w.heap.size+1,0,none⟩=some (.slice none 0 0):=by simp[World.cell?,kr]
   have r1:wr.cell? ⟨w.heap.size+1,1,none⟩=some (.slice none 0 0):=by simp[World.cell?,kr]
   have r2:wr.frozen? ⟨w.heap.size+1,0,none⟩=false:=by simp[World.frozen?,kr]
   have r3:wr.frozen? ⟨w.heap.size+1,1,none⟩=false:=by simp[World.frozen?,kr]
   have D:=au kr;clear kr;have BE:=ae (((Below.refl (w.heap.size+1) wr).setCell (p:=⟨w.heap.size+1,0,none⟩) ly (.slice d0 m0 k0)).setCell (p:=⟨w.heap.size+1,1,none⟩) ly (.slice d1 m1 k1));have zL:Hid (HSp w.heap.size ((wr.setCell ⟨w.heap.size+1,0,none⟩ (.slice d0 m0 k0)).setCell ⟨w.heap.size+1,1,none⟩ (.slice d1 m1 k1)) d0 m0 g0 d1 m1 g1∨(d0=a0/\m0=n0/\g0=f0/\d1=a1/\m1=n1/\g1=f1)):=C2.out.sp.imp (fun g=>(g.fr ((Fr.set (x:=w.heap.size+1) (j:=0) (by simp) (.slice d0 m0 k0)).trans (Fr.set (x:=w.heap.size+1) (j:=1) (by simp) (.slice d1 m1 k1)))).at) (HE.out _ _ _ _ _ _);have RE:=ae (C2.out.rd.low BE.out (by omega));have OE:=ae (C2.out.o.then (BE.out.mono (Nat.le_succ _)));go_wp2;exact bp (v:=.agg #[.slice d0 m0 k0,.slice d1 m1 k1]) (by simp[results,Tryz.results171,go_sem,r0,r1]) rfl ⟨_,_,_,_,_,_,_,_,rfl,zL.out,_,by omega,RE.out,OE.out⟩
end Go.Proofs.YtkophfgkcijjkaaGreatDoor.Vp
