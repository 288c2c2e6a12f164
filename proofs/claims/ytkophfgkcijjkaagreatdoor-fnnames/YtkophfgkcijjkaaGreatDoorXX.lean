import Derived.Test.YtkophfgkcijjkaaGreatDoorXV
import Derived.Test.YtkophfgkcijjkaaGreatDoorXM
import Derived.Test.YtkophfgkcijjkaaGreatDoorXW
set_option maxRecDepth 100000
set_option maxHeartbeats 8000000
namespace Go.Proofs.YtkophfgkcijjkaaGreatDoor.Vp
open RowKit Ca
def DAS (w:World)(R q:Nat)(e:Ending)(b:World):Prop:=∃ (a0:Option Addr) (n0 c0:Nat) (f0:Nat->Source) (a1:Option Addr) (n1 c1:Nat) (f1:Nat->Target) (a:Option Addr) (n c:Nat) (f:Nat->ar),e=.returned (.tuple #[.agg #[.slice a n c],.agg #[.slice a0 n0 c0,.slice a1 n1 c1]])/\HSp w.heap.size b a0 n0 f0 a1 n1 f1/\HAc w.heap.size b a n c f/\∃ q':Nat,q'<=q/\Rd b R q'/\Only R w b
theorem vi (R p:Nat)(w:World)(hR:Rd w R p)(hp:p<=3000):Calls Tryz.prog 108 #[.pointer (some ⟨R,0,none⟩)] w fun e w'=>DAS w R (p+9500) e w':=by
 have HR:=ae hR;have T:=hR.lt;have ur:((w.alloc (.cells #[.slice none 0 0] 59)).alloc (.cells #[.slice none 0 0,.slice none 0 0] 26)).heap.size=w.heap.size+2:=by simp
 have A0:=ae (((q9 w).alloc ly (.cells #[.slice none 0 0] 59)).alloc (by simp) (.cells #[.slice none 0 0,.slice none 0 0] 26));have KA:Hid (((w.alloc (.cells #[.slice none 0 0] 59)).alloc (.cells #[.slice none 0 0,.slice none 0 0] 26)).heap[w.heap.size]?=some (.cells #[.slice none 0 0] 59 (0,0))):=(((Below.refl (w.heap.size+1) (w.alloc (.cells #[.slice none 0 0] 59))).alloc (by simp) _).block w.heap.size (Nat.lt_succ_self _)).trans (heap_alloc_new w _);have KS:Hid (((w.alloc (.cells #[.slice none 0 0] 59)).alloc (.cells #[.slice none 0 0,.slice none 0 0] 26)).heap[w.heap.size+1]?=some (.cells #[.slice none 0 0,.slice none 0 0] 26 (0,0))):=heap_alloc2_new w _ _;clear hR;go_enter Tryz.func108,Tryz.ntmps108;go_wp2_with fail;generalize (w.alloc (.cells #[.slice none 0 0] 59)).alloc (.cells #[.slice none 0 0,.slice none 0 0] 26)=W0 at A0 KS KA ur ⊢;refine(tQ R p _ (HR.out.below A0.out ly) (by omega)).mono ?_;rintro e j ⟨a0,n0,c0,f0,a1,n1,c1,f1,a,n,c,f,rfl,hS,O,hn,hf,q1,hq1,fd,N⟩;have hs1:=N.size;have P:=((q9 j).alloc ly (.cells #[.slice a0 n0 c0,.slice a1 n1 c1] 26)).alloc (by simp) (.cells #[.slice a n c] 59);have D:((j.alloc (.cells #[.slice a0 n0 c0,.slice a1 n1 c1] 26)).alloc (.cells #[.slice a n c] 59)).heap[j.heap.size]?=some (.cells #[.slice a0 n0 c0,.slice a1 n1 c1] 26 (0,0)):=(((Below.refl (j.heap.size+1) (j.alloc (.cells #[.slice a0 n0 c0,.slice a1 n1 c1] 26))).alloc (by simp) _).block j.heap.size (Nat.lt_succ_self _)).trans (heap_alloc_new j _);have X:Hid (Dr2 [j.heap.size+1,R,w.heap.size+1,w.heap.size,j.heap.size] w R (w.heap.size+1) w.heap.size j.heap.size (j.heap.size+1) ((j.alloc (.cells #[.slice a0 n0 c0,.slice a1 n1 c1] 26)).alloc (.cells #[.slice a n c] 59)) q1 n0 c0 n1 c1 a0 f0 a1 f1 n c a f):=by
  refine⟨⟨fd.below P ly,((Only.of_below A0.out).trans N).trans (Only.of_below P),(P.block _ (by omega)).trans ((N.block _ (by omega) (by omega)).trans KS.out),(P.block _ (by omega)).trans ((N.block _ (by omega) (by omega)).trans KA.out),D,⟨W0.heap.size,j,by omega,hS,d9 P ly,?_⟩,T,by omega,by omega,by omega⟩,heap_alloc2_new j _ _,⟨W0.heap.size,j,by omega,O,d9 P ly,?_⟩,by omega⟩;all_goals
   intro x G;simp only[List.mem_cons,nj,or_false] at G;omega
 have HF:=ae hf;clear P D hS O hf fd N A0 KS KA HR;have th:w.heap.size+2<=j.heap.size:=by omega
 go_upto_region 2 with fail;generalize (j.alloc (.cells #[.slice a0 n0 c0,.slice a1 n1 c1] 26)).alloc (.cells #[.slice a n c] 59)=W1 at X ⊢;generalize ro:j.heap.size+1=ab at X ⊢;have hab2:w.heap.size+3<=ab:=by omega
 have n8:j.heap.size<ab:=by omega
 clear ro;generalize j.heap.size=sb at X th n8 ⊢;go_wp2_with fail;refine(aA R _ 5 _ X.out.d.rd (by omega) (by omega) (by omega)).mono ?_;rintro e w2 ⟨z,rfl,hz0,hz1,hR,s⟩;have J:=ae (X.out.only s hR (by simp));clear hR s X;go_upto_if 14 with fail;go_cut [] (fun wx=>∃ (q m0 B H A m k:Nat) (b0:Option Addr) (U:Nat->Source) (I:Option Addr) (Q:Nat->Target) (b:Option Addr) (g:Nat->ar),q<=p+5600/\m<=400/\Hid (∀ i,i<m->nd (g i))/\Hid (Dr2 [ab,R,w.heap.size+1,w.heap.size,sb] w R (w.heap.size+1) w.heap.size sb ab wx q m0 B H A b0 U I Q m k b g));case first =>
  by_cases hz:z=0
  ·subst hz
   go_wp2_with fail;refine(oF R _ _ J.out.d.rd (by omega)).mono ?_;rintro e w3 ⟨b0,m0,B,U,I,H,A,Q,rfl,hH,q3,sm,hR,s⟩;have hz3:=s.size;have mv:=au J.out.ax;have la:=au J.out.d.sx;have ld:=au J.out.d.zs;have M:=ae (J.out.only s hR (by simp))
   have r:=ae (M.out.sput (k0:=B) (k1:=A) (by simp) (by omega) (QSp.new hH (by omega) (fun x G=>by
    simp only[List.mem_cons,nj,or_false] at G
    omega)))
   obtain⟨Y,W,Z,x3,x4⟩:=M.out.d.cells;clear hH hR s J M;go_upto_region 4 with fail;generalize (w3.setCell ⟨sb,0,none⟩ (.slice b0 m0 B)).setCell ⟨sb,1,none⟩ (.slice I H A)=W4 at r ⊢;clear Y W Z x3 x4;obtain⟨Y,W,Z,x3,x4⟩:=r.out.d.cells;go_wp2_with fail;refine(nl w.heap.size m0 B H A b0 U I Q _ ⟨#[116,52]⟩ r.out.d.qs.at).mono ?_;rintro e w5 ⟨b,m,k,g,kk,tt,ra,rn,rc,rfl,O,hm,hg,hB⟩;have zF:=hB.size;have hl4:=au r.out.ax;have hl5:=au r.out.d.zs;have ex:=r.out.d.o.size;have l:=ae (r.out.below hB (by simp))
   have t:=ae (l.out.put (by simp) (by omega) (QAc.new O (by omega) (fun x G=>by
    simp only[List.mem_cons,nj,or_false] at G
    omega)))
   obtain⟨y0,y1,y2⟩:=l.out.acc;have HG:=ae hg;clear O hB hg r l Y W Z x3 x4;go_wp2;go_meet;exact⟨_,_,_,_,_,m,k,_,_,_,_,b,g,by omega,hm,HG.out,t.out⟩
  ·have hzb:(z == 0)=false:=by simpa using hz
   go_wp2;go_meet;exact⟨_,_,_,_,_,n,c,_,_,_,_,a,f,by omega,hn,HF.out,J.out⟩
 case rest =>
 clear J HF hn;obtain⟨q3,n0,c0,n1,c1,n,c,a0,f0,a1,f1,a,f,sm,hn,HF,M⟩:=hcut;generalize wc=W3 at M ⊢;go_wp2_with fail;refine(aA R _ 8 _ M.out.d.rd (by omega) (by omega) (by omega)).mono ?_;rintro e w4 ⟨y,rfl,hy0,hy1,hR,s⟩;have r:=ae (M.out.only s hR (by simp));clear hR s M;go_upto_if 25 with fail;go_cut [] (fun wx=>∃ (q m k:Nat) (b:Option Addr) (g:Nat->ar),q<=p+6800/\Hid (Dr2 [ab,R,w.heap.size+1,w.heap.size,sb] w R (w.heap.size+1) w.heap.size sb ab wx q n0 c0 n1 c1 a0 f0 a1 f1 m k b g));case first =>
  by_cases hy:y=0
  ·subst hy
   obtain⟨y0,y1,y2⟩:=r.out.acc;go_wp2_with fail;refine(tN tM R _ a n c f _ (r.out.qa.at.sl _ (Agr.refl _ _)) HF.out (by omega) r.out.d.rd (by omega)).mono ?_;rintro e w5 ⟨b,m,k,g,rfl,O,q5,zD,hR,s⟩;have zF:=s.size;have mv:=au r.out.ax;have la:=au r.out.d.sx;have ld:=au r.out.d.zs;have ex:=r.out.d.o.size;have l:=ae (r.out.only s hR (by simp))
   have t:=ae (l.out.put (by simp) (by omega) (QAc.new O (by omega) (fun x G=>by
    simp only[List.mem_cons,nj,or_false] at G
    omega)))
   clear y0 y1 y2;obtain⟨y0,y1,y2⟩:=l.out.acc;clear O hR s r l;go_wp2;go_meet;exact⟨_,m,k,b,g,by omega,t.out⟩
  ·have zE:(y == 0)=false:=by simpa using hy
   go_wp2;go_meet;exact⟨_,n,c,a,f,by omega,r.out⟩
 case rest =>
 clear r HF hn;obtain⟨q4,n,c,a,f,hq4,l⟩:=hcut;generalize wc=W5 at l ⊢;go_upto_if 30 with fail;go_cut [] (fun wx=>∃ (q m0 B H A:Nat) (b0:Option Addr) (U:Nat->Source) (I:Option Addr) (Q:Nat->Target),q<=p+9500/\Hid (Dr2 [ab,R,w.heap.size+1,w.heap.size,sb] w R (w.heap.size+1) w.heap.size sb ab wx q m0 B H A b0 U I Q n c a f));case first =>
  by_cases hy:y=1
  ·subst hy
   obtain⟨Y,W,Z,x3,x4⟩:=l.out.d.cells;go_wp2_with fail;refine(qB R _ w.heap.size n0 c0 n1 c1 a0 f0 a1 f1 _ l.out.d.rd (by omega) T l.out.d.qs.at).mono ?_;rintro e w6 ⟨b0,m0,B,U,I,H,A,Q,rfl,hQ,q6,hq6,hR,s⟩;have hz6:=s.size;have mv:=au l.out.ax;have la:=au l.out.d.sx;have ld:=au l.out.d.zs;have ex:=l.out.d.o.size;have t:=ae (l.out.only s hR (by simp));have QQ:QSp w.heap.size [ab,R,w.heap.size+1,w.heap.size,sb] w6 b0 m0 U I H Q:=by
    rcases hQ with hH | ⟨rfl,rfl,rfl,rfl,rfl,rfl⟩
    ·exact QSp.new hH (by omega) (fun x G=>by
      simp only[List.mem_cons,nj,or_false] at G
      omega)
    ·exact t.out.d.qs
   have D7:=ae (t.out.sput (k0:=B) (k1:=A) (by simp) (by omega) QQ);clear Y W Z x3 x4;obtain⟨Y,W,Z,x3,x4⟩:=t.out.d.cells;clear hQ QQ hR s l t;go_wp2;go_meet;exact⟨_,_,_,_,_,_,_,_,_,by omega,D7.out⟩
  ·have zE:(y == 1)=false:=by simpa using hy
   go_wp2;go_meet;exact⟨_,_,_,_,_,_,_,_,_,by omega,l.out⟩
 case rest =>
 clear l;obtain⟨q5,n0,c0,n1,c1,a0,f0,a1,f1,zD,t⟩:=hcut;generalize wc=W6 at t ⊢;go_wp2_with fail;have SQ:Hid (∀ V,Dr2 [ab,R,w.heap.size+1,w.heap.size,sb] w R (w.heap.size+1) w.heap.size sb ab V q5 n0 c0 n1 c1 a0 f0 a1 f1 n c a f->V.cell? ⟨sb,0,none⟩=some (.slice a0 n0 c0)/\V.cell? ⟨sb,1,none⟩=some (.slice a1 n1 c1)/\V.cell? ⟨ab,0,none⟩=some (.slice a n c)):=fun V h=>⟨h.d.cells.1,h.d.cells.2.1,h.acc.1⟩
 have L:=ae (t.out.below br.drew (by simp));refine wp_region_held_drew (S:=fun V=>V.cell? ⟨sb,0,none⟩=some (.slice a0 n0 c0)/\V.cell? ⟨sb,1,none⟩=some (.slice a1 n1 c1)/\V.cell? ⟨ab,0,none⟩=some (.slice a n c)) (by as_aux_lemma=>kernel_rfl) (SQ.out _ L.out) (fun hS=>?_);have C:=ae hS;clear hS t;generalize W6.drew=u at L C ⊢
 iterate 2
  refine aF 0 (v:=?_) rfl rfl (by as_aux_lemma=>kernel_rfl) (fun _ _ _ h=>h) rfl ?_ C.out ?_;rotate_left
  ·(intro wz zH;obtain⟨s0,s1,s2⟩:=zH;go_simp)
   (try with_reducible rfl)
  (try simp only[Act.put,nzL])
 have D:=L.out.d.zs;have ka:=L.out.d.za;have r0:u.cell? ⟨w.heap.size+1,0,none⟩=some (.slice none 0 0):=by simp[World.cell?,D]
 have r1:u.cell? ⟨w.heap.size+1,1,none⟩=some (.slice none 0 0):=by simp[World.cell?,D]
 have r2:u.cell? ⟨w.heap.size,0,none⟩=some (.slice none 0 0):=by simp[World.cell?,ka]
 have y0:u.frozen? ⟨w.heap.size+1,0,none⟩=false:=by simp[World.frozen?,D]
 have y1:u.frozen? ⟨w.heap.size+1,1,none⟩=false:=by simp[World.frozen?,D]
 have y2:u.frozen? ⟨w.heap.size,0,none⟩=false:=by simp[World.frozen?,ka]
 have l0:=au D;have l1:=au ka;have B3:=ae ((((Below.refl w.heap.size u).setCell (p:=⟨w.heap.size,0,none⟩) ly (.slice a n c)).setCell (p:=⟨w.heap.size+1,0,none⟩) (Nat.le_succ _) (.slice a0 n0 c0)).setCell (p:=⟨w.heap.size+1,1,none⟩) (Nat.le_succ _) (.slice a1 n1 c1));have FR:Hid (Fr [ab,R,w.heap.size+1,w.heap.size,sb] u (((u.setCell ⟨w.heap.size,0,none⟩ (.slice a n c)).setCell ⟨w.heap.size+1,0,none⟩ (.slice a0 n0 c0)).setCell ⟨w.heap.size+1,1,none⟩ (.slice a1 n1 c1))):=((Fr.set (by simp) _).trans (Fr.set (by simp) _)).trans (Fr.set (by simp) _);have zG:=ae (L.out.d.qs.fr FR.out).at;have n9:=ae (L.out.qa.fr FR.out).at;have R9:=ae (L.out.d.rd.low B3.out T);have O9:=ae (L.out.d.o.then B3.out);clear D ka B3 FR;have bt:sb≠w.heap.size:=by omega
 have qr:ab≠w.heap.size:=by omega
 have aq:ab≠w.heap.size+1:=by omega
 have E:sb≠w.heap.size+1:=by omega
 refine aK (i:=2) rfl (by as_aux_lemma=>kernel_rfl) (fun K hK=>?_);go_simp;obtain⟨h1,h2,h3⟩:=C.out;clear C;have C:=ae (show(u.setCell ⟨w.heap.size,0,none⟩ (.slice a n c)).cell? ⟨sb,0,none⟩=some (.slice a0 n0 c0)/\(u.setCell ⟨w.heap.size,0,none⟩ (.slice a n c)).cell? ⟨sb,1,none⟩=some (.slice a1 n1 c1)/\(u.setCell ⟨w.heap.size,0,none⟩ (.slice a n c)).cell? ⟨ab,0,none⟩=some (.slice a n c) from⟨(cell_far _ _ _ _ bt.symm).trans h1,(cell_far _ _ _ _ bt.symm).trans h2,(cell_far _ _ _ _ qr.symm).trans h3⟩);clear h1 h2 h3;refine hK.out _ _ C.out ?_;clear hK K
 (try simp only[Act.put,nzL])
 refine aK (i:=3) rfl (by as_aux_lemma=>kernel_rfl) (fun K hK=>?_);go_simp;refine hK.out _ _ ⟨(cell_far _ _ _ _ E.symm).trans ((cell_far _ _ _ _ E.symm).trans C.out.1),(cell_far _ _ _ _ E.symm).trans ((cell_far _ _ _ _ E.symm).trans C.out.2.1),(cell_far _ _ _ _ aq.symm).trans ((cell_far _ _ _ _ aq.symm).trans C.out.2.2)⟩ ?_;clear hK K
 (try simp only[Act.put,nzL])
 refine wpAnyH_done (by as_aux_lemma=>kernel_rfl) ?_ _;go_wp2;exact bp (v:=.tuple #[.agg #[.slice a n c],.agg #[.slice a0 n0 c0,.slice a1 n1 c1]]) (by simp[results,Tryz.results108,go_sem,r0,r1,r2]) rfl ⟨_,_,_,_,_,_,_,_,_,_,_,_,rfl,zG.out,n9.out,q5,by omega,R9.out,O9.out⟩
def DDp (w:World)(e:Ending)(b:World):Prop:=∃ (a:Option Addr) (n c:Nat) (f:Nat->ar) (t:ByteArray),e=.returned (.tuple #[.agg #[.slice a n c],.string t])/\HAc w.heap.size b a n c f/\Below w.heap.size w b
structure DpS (w:World)(R ab:Nat)(W:World)(q n c:Nat)(a:Option Addr)(f:Nat->ar):Prop where
 rd:Rd W R q
 bl:Below w.heap.size w W
 z:W.heap[w.heap.size]?=some (.cells #[.slice none 0 0] 59 (0,0))
 x:W.heap[ab]?=some (.cells #[.slice a n c] 59 (0,0))
 qa:QAc w.heap.size [R,w.heap.size,ab] W a n c f
 lo:w.heap.size<R/\R<ab
section
variable {w W W':World}{R ab q q' n c:Nat}{a:Option Addr}{f:Nat->ar}
theorem DpS.only (h:DpS w R ab W q n c a f)(b:Only R W W')(hR:Rd W' R q'):DpS w R ab W' q' n c a f:=by have hl:=h.lo;exact⟨hR,h.bl.trans (b.below (by omega) h.bl.size),(b.block _ (au h.z) (by omega)).trans h.z,(b.block _ (au h.x) (by omega)).trans h.x,h.qa.fr (Fr.only b (by simp)),h.lo⟩
theorem DpS.below (h:DpS w R ab W q n c a f)(b:Below W.heap.size W W'):DpS w R ab W' q n c a f:=h.only (Only.of_below b) (h.rd.below b ly)
theorem DpS.acc (h:DpS w R ab W q n c a f):W.cell? ⟨ab,0,none⟩=some (.slice a n c):=by have hb:=h.x;simp[World.cell?,hb]
end
theorem rD (ac:Option Addr)(N cap:Nat)(w:World)(hn:(N:Int)<=1048576)(hc:N<=cap)(A:ByteSl w ac N):Calls Tryz.prog 34 #[.slice ac N cap] w fun e w'=>DDp w e w':=by
 have S0:=ae A;clear A;go_enter Tryz.func34,Tryz.ntmps34;go_wp2_with fail;have U:=ae ((q9 w).alloc ly (.cells #[.slice none 0 0] 59));have KA:Hid ((w.alloc (.cells #[.slice none 0 0] 59)).heap[w.heap.size]?=some (.cells #[.slice none 0 0] 59 (0,0))):=heap_alloc_new w _;have bt:(w.alloc (.cells #[.slice none 0 0] 59)).heap.size=w.heap.size+1:=by simp
 generalize w.alloc (.cells #[.slice none 0 0] 59)=W0 at U KA bt ⊢;refine(sL ac N cap _ hn hc (S0.out.below U.out ly)).mono ?_;rintro e w1 ⟨R,rfl,hRz,Q,J⟩;have R1:=ae Q;have B1:=ae (U.out.trans (J.mono (by omega)));have K1:=ae ((J.block w.heap.size (by omega)).trans KA.out);have hs1:=J.size;have hRl:=Q.lt;clear Q J U KA S0;go_wp2_with fail;refine(vi R 0 _ R1.out (by omega)).mono ?_;rintro e k ⟨a0,n0,c0,f0,a1,n1,c1,f1,a,n,c,f,rfl,-,hA,q2,hq2,Y,L⟩;have hs2:=L.size;have P:=((q9 k).alloc ly (.cells #[.slice a n c] 59)).alloc (by simp) (.cells #[.slice a0 n0 c0,.slice a1 n1 c1] 26);have X:((k.alloc (.cells #[.slice a n c] 59)).alloc (.cells #[.slice a0 n0 c0,.slice a1 n1 c1] 26)).heap[k.heap.size]?=some (.cells #[.slice a n c] 59 (0,0)):=(((Below.refl (k.heap.size+1) (k.alloc (.cells #[.slice a n c] 59))).alloc (by simp) _).block k.heap.size (Nat.lt_succ_self _)).trans (heap_alloc_new k _);have E:Hid (DpS w R k.heap.size ((k.alloc (.cells #[.slice a n c] 59)).alloc (.cells #[.slice a0 n0 c0,.slice a1 n1 c1] 26)) q2 n c a f):=by refine⟨Y.below P ly,(B1.out.trans (L.below (by omega) B1.out.size)).trans (P.mono (by omega)),(P.block _ (by omega)).trans ((L.block _ (by omega) (by omega)).trans K1.out),X,⟨w1.heap.size,k,by omega,hA,d9 P ly,fun x hx=>?_⟩,by omega,by omega⟩;simp only[List.mem_cons,nj,or_false] at hx;omega
 have hn5:=hA.hn;clear P X hA Y L B1 K1 R1;go_upto_region 3 with fail;generalize (k.alloc (.cells #[.slice a n c] 59)).alloc (.cells #[.slice a0 n0 c0,.slice a1 n1 c1] 26)=W2 at E ⊢;generalize k.heap.size=ab at E ⊢;have x0:=E.out.acc;go_cut [22] (fun s wx=>∃ (W:Bool) (q:Nat),s=.bool W/\(W=true->0<n)/\q<=9501/\Hid (DpS w R ab wx q n c a f));case first =>
  by_cases h0:0<n
  ·have h1:(0:Int)<(n:Int):=by omega
   go_wp2_with fail;refine(aA R _ 3 _ E.out.rd (by omega) (by omega) (by omega)).mono ?_;rintro e w3 ⟨z,rfl,hz0,hz1,hR,H⟩;have C:=ae (E.out.only H hR);clear hR H E x0;go_wp2;go_meet;exact⟨_,_,rfl,fun _=>h0,by omega,C.out⟩
  ·have h1:¬ (0:Int)<(n:Int):=by omega
   go_wp2;go_meet;exact⟨false,_,rfl,(fun h=>by cases h),by omega,E.out⟩
 case rest =>
 clear E x0;obtain⟨W,q3,rfl,M,hq3,C⟩:=hcut;generalize wc=W3 at C ⊢;cases W with
 | true =>
  have h0:=M rfl;clear M;obtain⟨b,off,D,-⟩:∃ b off,a=some ⟨b,off,none⟩/\RowDeed W3 b off n f:=by
   rcases C.out.qa.at.here with h | h
   ·omega
   ·exact h
  subst D
  have SQ:Hid (∀ (V:World) (q:Nat),DpS w R ab V q n c (some ⟨b,off,none⟩) f->V.cell? ⟨ab,0,none⟩=some (.slice (some ⟨b,off,none⟩) n c)/\b<V.heap.size/\∀ i,i<n->V.cell? ⟨b,off+i*6,none⟩=some (.string (f i).name)):=fun V q h=>⟨h.acc,by
   rcases h.qa.at.here with h0 | ⟨b',aq,e,O⟩
   ·omega
   ·cases e
    exact⟨O.1,fun i hi=>(O.2 i hi).1⟩⟩
  go_wp2_with fail;have o:=ae (C.out.below br.drew);refine wp_region_held_drew (S:=fun V=>V.cell? ⟨ab,0,none⟩=some (.slice (some ⟨b,off,none⟩) n c)/\b<V.heap.size/\∀ i,i<n->V.cell? ⟨b,off+i*6,none⟩=some (.string (f i).name)) (by as_aux_lemma=>kernel_rfl) (SQ.out _ _ o.out) (fun A=>?_);have d:=ae A;clear A C;generalize W3.drew=v3 at o d ⊢
  iterate 7
   refine aF 0 (v:=?_) rfl rfl (by as_aux_lemma=>kernel_rfl) (fun _ _ _ h=>h) rfl ?_ d.out ?_;rotate_left
   ·(intro wz G;obtain⟨s0,s1,T⟩:=G;go_simp)
    (try with_reducible rfl)
   (try simp only[Act.put,nzL])
  refine aK (i:=7) rfl (by as_aux_lemma=>kernel_rfl) (fun K g=>?_);go_simp;go_at_call 51;refine(aA R _ (n:Int) _ o.out.rd (by omega) (by omega) (by omega)).mono ?_;rintro e r ⟨y,rfl,Z,ex,hR,H⟩;obtain⟨m,rfl⟩:=Int.eq_ofNat_of_zero_le Z;have hm:m<n:=by omega
  have l:=ae (o.out.only H hR);clear hR H o d;have d:=ae (SQ.out _ _ l.out);refine g.out _ _ d.out ?_;clear g K
  (try simp only[Act.put,nzL])
  have hm2:(m:Int)<(n:Int):=by omega
  clear Z ex
  iterate 2
   refine aF 8 (v:=?_) rfl rfl (by as_aux_lemma=>kernel_rfl) (fun _ _ _ h=>h) rfl ?_ d.out ?_;rotate_left
   ·(intro wz G;obtain⟨s0,s1,T⟩:=G;go_simp)
    (try with_reducible rfl)
   (try simp only[Act.put,nzL])
  refine aF 10 (v:=?_) rfl rfl (by as_aux_lemma=>kernel_rfl) (fun _ _ _ h=>h) rfl ?_ d.out ?_;rotate_left
  ·(intro wz G;obtain⟨s0,s1,T⟩:=G;have s3:=T m hm;clear T;go_simp)
   (try with_reducible rfl)
  (try simp only[Act.put,nzL])
  have u:=l.out.z;have r0:r.cell? ⟨w.heap.size,0,none⟩=some (.slice none 0 0):=by simp[World.cell?,u]
  have y0:r.frozen? ⟨w.heap.size,0,none⟩=false:=by simp[World.frozen?,u]
  have l0:=au u;have BE:=ae (l.out.bl.setCell (p:=⟨w.heap.size,0,none⟩) ly (.slice (some ⟨b,off,none⟩) n c));have I:=ae (l.out.qa.fr (Fr.set (x:=w.heap.size) (j:=0) (by simp) (.slice (some ⟨b,off,none⟩) n c))).at;have fd:=l.out.lo;have D:w.heap.size≠ab:=by omega
  clear u;refine aK (i:=11) rfl (by as_aux_lemma=>kernel_rfl) (fun K g=>?_);go_simp
  have B:=ae (show(r.setCell ⟨w.heap.size,0,none⟩ (.slice (some ⟨b,off,none⟩) n c)).cell? ⟨ab,0,none⟩=some (.slice (some ⟨b,off,none⟩) n c)/\b<(r.setCell ⟨w.heap.size,0,none⟩ (.slice (some ⟨b,off,none⟩) n c)).heap.size/\∀ i,i<n->(r.setCell ⟨w.heap.size,0,none⟩ (.slice (some ⟨b,off,none⟩) n c)).cell? ⟨b,off+i*6,none⟩=some (.string (f i).name) from⟨(cell_far r ⟨w.heap.size,0,none⟩ ⟨ab,0,none⟩ _ D).trans d.out.1,by
   rcases I.out.here with h1 | ⟨b',aq,e,O⟩
   ·omega
   ·cases e
    exact⟨O.1,fun i hi=>(O.2 i hi).1⟩⟩)
  clear d;have d:=ae B.out;clear B;refine g.out _ _ d.out ?_;clear g K
  (try simp only[Act.put,nzL])
  refine aK (i:=12) rfl (by as_aux_lemma=>kernel_rfl) (fun K g=>?_);go_simp;refine g.out _ _ d.out ?_;clear g K
  (try simp only[Act.put,nzL])
  refine wpAnyH_done (by as_aux_lemma=>kernel_rfl) ?_ _;go_wp2;exact bp (v:=.tuple #[.agg #[.slice (some ⟨b,off,none⟩) n c],.string (f m).name]) (by simp[results,Tryz.results34,go_sem,r0]) rfl ⟨_,_,_,_,_,rfl,I.out,BE.out⟩
 | false =>
  clear M;go_wp2_with fail;have o:=ae (C.out.below br.drew);refine wp_region_held_drew (S:=fun V=>V.cell? ⟨ab,0,none⟩=some (.slice a n c)) (by as_aux_lemma=>kernel_rfl) o.out.acc (fun A=>?_);have d:=ae A;clear A C;generalize W3.drew=v3 at o d ⊢
  iterate 2
   refine aF 0 (v:=?_) rfl rfl (by as_aux_lemma=>kernel_rfl) (fun _ _ _ h=>h) rfl ?_ d.out ?_;rotate_left
   ·(intro wz s0;go_simp)
    (try with_reducible rfl)
   (try simp only[Act.put,nzL])
  refine aK (i:=2) rfl (by as_aux_lemma=>kernel_rfl) (fun K g=>?_);go_simp;go_at_call 50;refine(cX R _ _ o.out.rd (by omega)).mono ?_;rintro e r ⟨t,rfl,ht,hR,H⟩;have l:=ae (o.out.only H hR);clear hR H o d;have d:=ae l.out.acc;refine g.out _ _ d.out ?_;clear g K
  (try simp only[Act.put,nzL])
  have u:=l.out.z;have r0:r.cell? ⟨w.heap.size,0,none⟩=some (.slice none 0 0):=by simp[World.cell?,u]
  have y0:r.frozen? ⟨w.heap.size,0,none⟩=false:=by simp[World.frozen?,u]
  have l0:=au u;have BE:=ae (l.out.bl.setCell (p:=⟨w.heap.size,0,none⟩) ly (.slice a n c));have I:=ae (l.out.qa.fr (Fr.set (x:=w.heap.size) (j:=0) (by simp) (.slice a n c))).at;have fd:=l.out.lo;have D:w.heap.size≠ab:=by omega
  clear u;refine aK (i:=3) rfl (by as_aux_lemma=>kernel_rfl) (fun K g=>?_);go_simp;have B:=ae ((cell_far r ⟨w.heap.size,0,none⟩ ⟨ab,0,none⟩ (.slice a n c) D).trans d.out);clear d;have d:=ae B.out;clear B;refine g.out _ _ d.out ?_;clear g K
  (try simp only[Act.put,nzL])
  refine aK (i:=4) rfl (by as_aux_lemma=>kernel_rfl) (fun K g=>?_);go_simp;refine g.out _ _ d.out ?_;clear g K
  (try simp only[Act.put,nzL])
  refine wpAnyH_done (by as_aux_lemma=>kernel_rfl) ?_ _;go_wp2;exact bp (v:=.tuple #[.agg #[.slice a n c],.string t]) (by simp[results,Tryz.results34,go_sem,r0]) rfl ⟨_,_,_,_,_,rfl,I.out,BE.out⟩
end Go.Proofs.YtkophfgkcijjkaaGreatDoor.Vp
