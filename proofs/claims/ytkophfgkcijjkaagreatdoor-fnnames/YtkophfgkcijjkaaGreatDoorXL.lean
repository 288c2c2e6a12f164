import Derived.Test.YtkophfgkcijjkaaGreatDoorXI
import Derived.Test.YtkophfgkcijjkaaGreatDoorYW
set_option maxRecDepth 100000
set_option maxHeartbeats 8000000
namespace Go.Proofs.YtkophfgkcijjkaaGreatDoor.Vp
open RowKit Ca
theorem yx:∃ i:TypeInfo,Tryz.prog.info? 73=some i/\i.zero=some (.agg #[.string ⟨#[]⟩,.bool false,.bool false,.int .i64 0])/\i.size=4/\i.bytes=32:=info_parts iQ
theorem ie {w:World}{base size n:Nat}{e:TypeId}{cs:Array Value}(hb:base<=w.heap.size)(c:n<=maxLen)(b:cs.size=n*size):(w.alloc (.cells cs e)).ownsRow base e size (.slice (some ⟨w.heap.size,0,none⟩) n n) n cs.toList :=
 ⟨by simpa using b,.inr ⟨w.heap.size,n,cs,rfl,hb,heap_alloc_new w _,Nat.le_refl _,c,b,by rw[List.take_of_length_le];simp[b]⟩⟩
theorem vb (f:Nat->Link){n m:Nat}(h:m<=n):(bJ f n).take (m*4)=bJ f m:=by
 refine List.ext_getElem? fun j=>?_;rw[List.getElem?_take];have hn:=fW f n;have hm:=fW f m;by_cases b:j<m*4
 ·have e:j=j / 4*4+j % 4:=by omega
  rw[if_pos b,e,gQ f (by omega) _ (Nat.mod_lt _ (by omega)),gQ f (by omega) _ (Nat.mod_lt _ (by omega))]
 ·rw[if_neg b,List.getElem?_eq_none (by omega)]
theorem xm {w:World}{b g n m c:Nat}{f:Nat->Link}(h:w.ownsRow b 73 4 (.slice (some ⟨g,0,none⟩) n c) n (bJ f n))(o:m<=n):w.ownsRow b 73 4 (.slice (some ⟨g,0,none⟩) m c) m (bJ f m):=by
 refine⟨fW f m,?_⟩;rcases h.2 with ⟨d,_⟩ | ⟨g',cap,i,d,hb,k,hc,j,l,p⟩
 ·cases d
 ·cases d
  refine .inr ⟨g,c,i,rfl,hb,k,by omega,j,l,?_⟩;rw[<-vb f o,<-p,List.take_take,Nat.min_eq_left (by omega)]
theorem qp (f:Nat->Link)(n:Nat)(y:Link):bJ f n++cS y=bJ (fun i=>if i=n then y else f i) (n+1):=by
 unfold bJ;rw[List.range_succ,List.map_append,List.flatMap_append];congr 1
 ·congr 1
  refine List.map_congr_left fun i hi=>?_;have:=List.mem_range.1 hi;rw[if_neg (by omega)]
 ·simp
theorem qq {w:World}{b:Nat}{g c f d:Int}{t:TypeId}{fz:Nat × Nat}(h:w.heap[b]?=some (.cells #[.int .i64 g,.int .i64 c,.int .i64 f,.int .i64 d] t fz))(k:Nat)(i:k<4):∃ z,w.cell? ⟨b,k,none⟩=some (.int .i64 z):=by
 match k,i with
 | 0,_=>exact⟨g,by simp[World.cell?,h]⟩
 | 1,_=>exact⟨c,by simp[World.cell?,h]⟩
 | 2,_=>exact⟨f,by simp[World.cell?,h]⟩
 | 3,_=>exact⟨d,by simp[World.cell?,h]⟩
 | j+4,h5=>exact absurd h5 (by omega)
def j5 (W:World)(b:Nat):Nat:=match W.cell? ⟨b,5,none⟩ with
 | some (.slice _ n _)=>n
 | _=>0
theorem LBx.len {W:World}{b n c:Nat}{v0 f g i d:Value}{a:Option Addr}(h:LBx W b v0 f g i d (.slice a n c)):j5 W b=n:=by unfold j5;rw[h.cells.2.2.2.2.2]
theorem my (w0:World)(R p D g c n:Nat)(f:Nat->Link)(nm tx:ByteArray)(r o:Int)(t:Option Addr)(q c4:Nat)(w:World)(hO:Only R w0 w)(hR:R<w0.heap.size)(hb:w0.heap.size<=D)(hbw:D<=w.heap.size)(hr:Rd w R p)(hp:p<=50000)(zO:w.ownsRow D 73 4 (.slice (some ⟨g,0,none⟩) n c) n (bJ f n))(hn:n<=200)(zQ:∀ j,j<n->(f j).name.size<=5000):Calls Tryz.prog 208 #[.pointer (some ⟨R,0,none⟩),.agg #[.string nm,.int .i64 r,.int .i64 o,.string tx,.slice t q c4,.slice (some ⟨g,0,none⟩) n c]] w fun e w'=>DL w0 w R D g (.string nm) (.int .i64 r) (.int .i64 o) (.string tx) (.slice t q c4) (p+10) e w':=by
 have L0:=ae (yu (v0:=.string nm) (v1:=.int .i64 r) (v2:=.int .i64 o) (v3:=.string tx) (v4:=.slice t q c4) hO hR hb hbw hr zO zQ);obtain⟨zK,hi,zN,zM,zR⟩:=yx;clear hO hR hb hbw hr zO zQ;obtain⟨-,-,-,-,-,L⟩:=L0.out.bx.cells;have J:=L0.out.bx.lt;by_cases hz:n=0
 ·subst hz
  go_enter Tryz.func208,Tryz.ntmps208;go_wp2_with fail;generalize (w.alloc (.cells #[.string nm,.int .i64 r,.int .i64 o,.string tx,.slice t q c4,.slice (some ⟨g,0,none⟩) 0 c] 67)).alloc (.cells #[.string ⟨#[]⟩,.int .i64 0,.int .i64 0,.string ⟨#[]⟩,.slice none 0 0,.slice none 0 0] 67)=W0 at L0 L J ⊢;clear L J;refine(cX R _ _ L0.out.rd (by omega)).mono ?_;rintro e w1 ⟨ln,rfl,zU,mv,n9⟩;have L1:=ae (L0.out.only n9 mv);clear n9 mv L0;go_wp2_with fail;refine(aA R _ 2 _ L1.out.rd (by omega) (by omega) (by omega)).mono ?_;rintro e I ⟨z,rfl,zD,zF,n8,ld⟩;have C:=ae (L1.out.only ld n8);clear ld n8 L1;rcases(show z=0∨z=1 by omega) with rfl | rfl
  ·skip
   have A3:=(q9 I).alloc ly (.cells #[.string ln,.bool false,.bool true,.int .i64 0] 73);have h2:=C.out.lt;have h3:=C.out.hbw;have O3:(I.alloc (.cells #[.string ln,.bool false,.bool true,.int .i64 0] 73)).ownsRow D 73 4 (.slice (some ⟨I.heap.size,0,none⟩) 1 1) 1 (bJ (fun _=>⟨ln,false,true,0⟩) 1):=ie (cs:=#[.string ln,.bool false,.bool true,.int .i64 0]) (by omega) (by unfold maxLen;omega) rfl;have b:=ae ((C.out.below A3).setB (jx _ _) O3 (.inr (by omega)) (fun j _=>by show ln.size<=5000;omega));obtain⟨-,-,-,-,-,L⟩:=C.out.bx.cells;have bz:=C.out.bx.fz 5;have J:=C.out.bx.lt;rw[World.setCell_alloc_past _ _ _ _ J] at b;clear A3 O3;go_upto_region 3 with fail;generalize (I.setCell ⟨w.heap.size,5,none⟩ (.slice (some ⟨I.heap.size,0,none⟩) 1 1)).alloc (.cells #[.string ln,.bool false,.bool true,.int .i64 0] 73)=W3 at b ⊢;clear L bz J;obtain⟨b0,b1,b2,b3,b4,L⟩:=b.out.bx.cells;obtain⟨r0,r1,r2,r3,r4,r5⟩:=b.out.rs.cells;have z0:=b.out.rs.fz 0;have z1:=b.out.rs.fz 1;have z2:=b.out.rs.fz 2;have z3:=b.out.rs.fz 3;have z4:=b.out.rs.fz 4;have z5:=b.out.rs.fz 5;have J:=b.out.bx.lt;have lr:=b.out.rs.lt;have G:=ae (b.out.fin (Q:=p+10) (by omega) (by omega) (.string nm) (.int .i64 r) (.int .i64 o) (.string tx) (.slice t q c4) (.slice (some ⟨I.heap.size,0,none⟩) 1 1));have E:=ae (b.out.rs.six (.string nm) (.int .i64 r) (.int .i64 o) (.string tx) (.slice t q c4) (.slice (some ⟨I.heap.size,0,none⟩) 1 1));go_wp2;generalize (((((W3.setCell ⟨w.heap.size+1,0,none⟩ (.string nm)).setCell ⟨w.heap.size+1,1,none⟩ (.int .i64 r)).setCell ⟨w.heap.size+1,2,none⟩ (.int .i64 o)).setCell ⟨w.heap.size+1,3,none⟩ (.string tx)).setCell ⟨w.heap.size+1,4,none⟩ (.slice t q c4)).setCell ⟨w.heap.size+1,5,none⟩ (.slice (some ⟨I.heap.size,0,none⟩) 1 1)=V at G E ⊢;obtain⟨U,P,W,Y,X,S⟩:=E.out.cells;exact bp (v:=.agg #[.string nm,.int .i64 r,.int .i64 o,.string tx,.slice t q c4,.slice (some ⟨I.heap.size,0,none⟩) 1 1]) (by simp[results,Tryz.results208,go_sem,U,P,W,Y,X,S]) rfl G.out
  ·skip
   have A3:=(q9 I).alloc ly (.cells #[.string ln,.bool false,.bool false,.int .i64 0] 73);have h2:=C.out.lt;have h3:=C.out.hbw;have O3:(I.alloc (.cells #[.string ln,.bool false,.bool false,.int .i64 0] 73)).ownsRow D 73 4 (.slice (some ⟨I.heap.size,0,none⟩) 1 1) 1 (bJ (fun _=>⟨ln,false,false,0⟩) 1):=ie (cs:=#[.string ln,.bool false,.bool false,.int .i64 0]) (by omega) (by unfold maxLen;omega) rfl;have b:=ae ((C.out.below A3).setB (jx _ _) O3 (.inr (by omega)) (fun j _=>by show ln.size<=5000;omega));obtain⟨-,-,-,-,-,L⟩:=C.out.bx.cells;have bz:=C.out.bx.fz 5;have J:=C.out.bx.lt;rw[World.setCell_alloc_past _ _ _ _ J] at b;clear A3 O3;go_upto_region 3 with fail;generalize (I.setCell ⟨w.heap.size,5,none⟩ (.slice (some ⟨I.heap.size,0,none⟩) 1 1)).alloc (.cells #[.string ln,.bool false,.bool false,.int .i64 0] 73)=W3 at b ⊢;clear L bz J;obtain⟨b0,b1,b2,b3,b4,L⟩:=b.out.bx.cells;obtain⟨r0,r1,r2,r3,r4,r5⟩:=b.out.rs.cells;have z0:=b.out.rs.fz 0;have z1:=b.out.rs.fz 1;have z2:=b.out.rs.fz 2;have z3:=b.out.rs.fz 3;have z4:=b.out.rs.fz 4;have z5:=b.out.rs.fz 5;have J:=b.out.bx.lt;have lr:=b.out.rs.lt;have G:=ae (b.out.fin (Q:=p+10) (by omega) (by omega) (.string nm) (.int .i64 r) (.int .i64 o) (.string tx) (.slice t q c4) (.slice (some ⟨I.heap.size,0,none⟩) 1 1));have E:=ae (b.out.rs.six (.string nm) (.int .i64 r) (.int .i64 o) (.string tx) (.slice t q c4) (.slice (some ⟨I.heap.size,0,none⟩) 1 1));go_wp2;generalize (((((W3.setCell ⟨w.heap.size+1,0,none⟩ (.string nm)).setCell ⟨w.heap.size+1,1,none⟩ (.int .i64 r)).setCell ⟨w.heap.size+1,2,none⟩ (.int .i64 o)).setCell ⟨w.heap.size+1,3,none⟩ (.string tx)).setCell ⟨w.heap.size+1,4,none⟩ (.slice t q c4)).setCell ⟨w.heap.size+1,5,none⟩ (.slice (some ⟨I.heap.size,0,none⟩) 1 1)=V at G E ⊢;obtain⟨U,P,W,Y,X,S⟩:=E.out.cells;exact bp (v:=.agg #[.string nm,.int .i64 r,.int .i64 o,.string tx,.slice t q c4,.slice (some ⟨I.heap.size,0,none⟩) 1 1]) (by simp[results,Tryz.results208,go_sem,U,P,W,Y,X,S]) rfl G.out
 have nz:¬ ((n:Int)=0):=by omega
 go_enter Tryz.func208,Tryz.ntmps208;go_wp2_with fail;generalize (w.alloc (.cells #[.string nm,.int .i64 r,.int .i64 o,.string tx,.slice t q c4,.slice (some ⟨g,0,none⟩) n c] 67)).alloc (.cells #[.string ⟨#[]⟩,.int .i64 0,.int .i64 0,.string ⟨#[]⟩,.slice none 0 0,.slice none 0 0] 67)=W0 at L0 L J ⊢;refine(aA R _ (n:Int) _ L0.out.rd (by omega) (by omega) (by omega)).mono ?_;rintro e w1 ⟨z,rfl,zD,zF,mv,n9⟩;obtain⟨k,rfl⟩:=Int.eq_ofNat_of_zero_le zD;have N:k<n:=by omega
 have L1:=ae (L0.out.only n9 mv);clear n9 mv L0 L J zD zF;go_wp2_with fail;refine(aA R _ 7 _ L1.out.rd (by omega) (by omega) (by omega)).mono ?_;rintro e I ⟨s,rfl,hs0,hs1,n8,ld⟩;have C:=ae (L1.out.only ld n8);clear ld n8 L1;have hn1:=C.out.nm k N;have SB:Hid (∀ V:World,LBx V w.heap.size (.string nm) (.int .i64 r) (.int .i64 o) (.string tx) (.slice t q c4) (.slice (some ⟨g,0,none⟩) n c)->V.cell? ⟨w.heap.size,5,none⟩=some (.slice (some ⟨g,0,none⟩) n c)):=fun V h=>h.cells.2.2.2.2.2;rcases(show s=0∨s=1∨s=2∨s=3∨s=4∨s=5∨s=6 by omega) with rfl | rfl | rfl | rfl | rfl | rfl | rfl
 ·go_wp2_with fail
  refine aJ (fun V=>V.cell? ⟨w.heap.size,5,none⟩=some (.slice (some ⟨g,0,none⟩) n c)) 7 (by as_aux_lemma=>kernel_rfl) ?_;have b:=ae (C.out.below br.drew);clear C;generalize I.drew=B at b ⊢;have x:=ae (SB.out B b.out.bx)
  iterate 4
   refine aM 0 (v:=?_) rfl rfl (by as_aux_lemma=>kernel_rfl) (fun _ _ _ h=>h) rfl ?_ x.out ?_;rotate_left
   ·(intro wz s0;go_simp)
    (try with_reducible rfl)
   (try simp only[Act.put,nzL])
  refine aj (i:=4) rfl (by as_aux_lemma=>kernel_rfl) (fun K l=>?_);go_simp;go_at_call 50;refine(cX R _ _ b.out.rd (by omega)).mono ?_;rintro e O ⟨ln,rfl,zU,ex,bt⟩;have A:=ae (b.out.only bt ex);clear bt ex b x;have x:=ae (SB.out O A.out.bx);refine l.out _ _ (fun _=>x.out) ?_;clear l K
  (try simp only[Act.put,nzL])
  iterate 2
   refine cB 5 rfl rfl (by as_aux_lemma=>kernel_rfl) (fun K l=>?_);go_simp;refine l.out _ _ (fun _=>x.out) ?_;clear l K
   (try simp only[Act.put,nzL])
  obtain⟨d0,d1⟩:=cA (j:=0) A.out.own N (by omega) rfl;rw[Nat.add_zero] at d0 d1;have gl:=A.out.gne.2.2.2;have d:Hid (LStD w0 w R D g (.string nm) (.int .i64 r) (.int .i64 o) (.string tx) (.slice t q c4) (O.setCell ⟨g,k*4,none⟩ (.string ln)) _ g n c _):=A.out.setL (j:=0) (y:={ f k with name:=ln }) (u:=.string ln) N (by omega) rfl (by show ln.size<=5000;omega);refine aj (i:=7) rfl (by as_aux_lemma=>kernel_rfl) (fun K l=>?_);go_simp;refine l.out _ _ (fun h=>absurd rfl h) ?_;clear l K x
  (try simp only[Act.put,nzL])
  refine aP (by as_aux_lemma=>kernel_rfl) ?_ _;clear d0 d1 gl A;go_upto_region 21 with fail;generalize O.setCell ⟨g,k*4,none⟩ (.string ln)=M at d ⊢;obtain⟨b0,b1,b2,b3,b4,L⟩:=d.out.bx.cells;obtain⟨r0,r1,r2,r3,r4,r5⟩:=d.out.rs.cells;have z0:=d.out.rs.fz 0;have z1:=d.out.rs.fz 1;have z2:=d.out.rs.fz 2;have z3:=d.out.rs.fz 3;have z4:=d.out.rs.fz 4;have z5:=d.out.rs.fz 5;have J:=d.out.bx.lt;have lr:=d.out.rs.lt;have G:=ae (d.out.fin (Q:=p+10) (by omega) (by omega) (.string nm) (.int .i64 r) (.int .i64 o) (.string tx) (.slice t q c4) (.slice (some ⟨g,0,none⟩) n c));have E:=ae (d.out.rs.six (.string nm) (.int .i64 r) (.int .i64 o) (.string tx) (.slice t q c4) (.slice (some ⟨g,0,none⟩) n c));go_wp2;generalize (((((M.setCell ⟨w.heap.size+1,0,none⟩ (.string nm)).setCell ⟨w.heap.size+1,1,none⟩ (.int .i64 r)).setCell ⟨w.heap.size+1,2,none⟩ (.int .i64 o)).setCell ⟨w.heap.size+1,3,none⟩ (.string tx)).setCell ⟨w.heap.size+1,4,none⟩ (.slice t q c4)).setCell ⟨w.heap.size+1,5,none⟩ (.slice (some ⟨g,0,none⟩) n c)=V at G E ⊢;obtain⟨U,P,W,Y,X,S⟩:=E.out.cells;exact bp (v:=.agg #[.string nm,.int .i64 r,.int .i64 o,.string tx,.slice t q c4,.slice (some ⟨g,0,none⟩) n c]) (by simp[results,Tryz.results208,go_sem,U,P,W,Y,X,S]) rfl G.out
 ·skip
  go_wp2_with fail;refine aJ (fun V=>V.cell? ⟨w.heap.size,5,none⟩=some (.slice (some ⟨g,0,none⟩) n c)/\V.cell? ⟨g,k*4+1,none⟩=some (.bool (f k).ask)) 12 (by as_aux_lemma=>kernel_rfl) ?_;have b:=ae (C.out.below br.drew);clear C;generalize I.drew=B at b ⊢;obtain⟨d0,d1⟩:=cA (j:=1) b.out.own N (by omega) rfl;have x:Hid (B.cell? ⟨w.heap.size,5,none⟩=some (.slice (some ⟨g,0,none⟩) n c)/\B.cell? ⟨g,k*4+1,none⟩=some (.bool (f k).ask)):=⟨SB.out B b.out.bx,d0⟩
  clear d0
  iterate 10
   refine aM 0 (v:=?_) rfl rfl (by as_aux_lemma=>kernel_rfl) (fun _ _ _ h=>h) rfl ?_ x.out ?_;rotate_left
   ·(intro wz fd;obtain⟨s0,s1⟩:=fd;go_simp)
    (try with_reducible rfl)
   (try simp only[Act.put,nzL])
  iterate 2
   refine cB 10 rfl rfl (by as_aux_lemma=>kernel_rfl) (fun K l=>?_);go_simp;refine l.out _ _ (fun _=>x.out) ?_;clear l K
   (try simp only[Act.put,nzL])
  have d0:=x.out.2;have gl:=b.out.gne.2.2.2;have d:Hid (LStD w0 w R D g (.string nm) (.int .i64 r) (.int .i64 o) (.string tx) (.slice t q c4) (B.setCell ⟨g,k*4+1,none⟩ (.bool (!(f k).ask))) _ g n c _):=b.out.setL (j:=1) (y:={ f k with ask:=!(f k).ask }) (u:=.bool (!(f k).ask)) N (by omega) rfl hn1;refine aj (i:=12) rfl (by as_aux_lemma=>kernel_rfl) (fun K l=>?_);go_simp;refine l.out _ _ (fun h=>absurd rfl h) ?_;clear l K x
  (try simp only[Act.put,nzL])
  refine aP (by as_aux_lemma=>kernel_rfl) ?_ _;clear d0 d1 gl b;go_upto_region 21 with fail;generalize B.setCell ⟨g,k*4+1,none⟩ (.bool (!(f k).ask))=M at d ⊢;obtain⟨b0,b1,b2,b3,b4,L⟩:=d.out.bx.cells;obtain⟨r0,r1,r2,r3,r4,r5⟩:=d.out.rs.cells;have z0:=d.out.rs.fz 0;have z1:=d.out.rs.fz 1;have z2:=d.out.rs.fz 2;have z3:=d.out.rs.fz 3;have z4:=d.out.rs.fz 4;have z5:=d.out.rs.fz 5;have J:=d.out.bx.lt;have lr:=d.out.rs.lt;have G:=ae (d.out.fin (Q:=p+10) (by omega) (by omega) (.string nm) (.int .i64 r) (.int .i64 o) (.string tx) (.slice t q c4) (.slice (some ⟨g,0,none⟩) n c));have E:=ae (d.out.rs.six (.string nm) (.int .i64 r) (.int .i64 o) (.string tx) (.slice t q c4) (.slice (some ⟨g,0,none⟩) n c));go_wp2;generalize (((((M.setCell ⟨w.heap.size+1,0,none⟩ (.string nm)).setCell ⟨w.heap.size+1,1,none⟩ (.int .i64 r)).setCell ⟨w.heap.size+1,2,none⟩ (.int .i64 o)).setCell ⟨w.heap.size+1,3,none⟩ (.string tx)).setCell ⟨w.heap.size+1,4,none⟩ (.slice t q c4)).setCell ⟨w.heap.size+1,5,none⟩ (.slice (some ⟨g,0,none⟩) n c)=V at G E ⊢;obtain⟨U,P,W,Y,X,S⟩:=E.out.cells;exact bp (v:=.agg #[.string nm,.int .i64 r,.int .i64 o,.string tx,.slice t q c4,.slice (some ⟨g,0,none⟩) n c]) (by simp[results,Tryz.results208,go_sem,U,P,W,Y,X,S]) rfl G.out
 ·skip
  go_wp2_with fail;refine aJ (fun V=>V.cell? ⟨w.heap.size,5,none⟩=some (.slice (some ⟨g,0,none⟩) n c)/\V.cell? ⟨g,k*4+2,none⟩=some (.bool (f k).has)) 12 (by as_aux_lemma=>kernel_rfl) ?_;have b:=ae (C.out.below br.drew);clear C;generalize I.drew=B at b ⊢;obtain⟨d0,d1⟩:=cA (j:=2) b.out.own N (by omega) rfl;have x:Hid (B.cell? ⟨w.heap.size,5,none⟩=some (.slice (some ⟨g,0,none⟩) n c)/\B.cell? ⟨g,k*4+2,none⟩=some (.bool (f k).has)):=⟨SB.out B b.out.bx,d0⟩
  clear d0
  iterate 10
   refine aM 0 (v:=?_) rfl rfl (by as_aux_lemma=>kernel_rfl) (fun _ _ _ h=>h) rfl ?_ x.out ?_;rotate_left
   ·(intro wz fd;obtain⟨s0,s1⟩:=fd;go_simp)
    (try with_reducible rfl)
   (try simp only[Act.put,nzL])
  iterate 2
   refine cB 10 rfl rfl (by as_aux_lemma=>kernel_rfl) (fun K l=>?_);go_simp;refine l.out _ _ (fun _=>x.out) ?_;clear l K
   (try simp only[Act.put,nzL])
  have d0:=x.out.2;have gl:=b.out.gne.2.2.2;have d:Hid (LStD w0 w R D g (.string nm) (.int .i64 r) (.int .i64 o) (.string tx) (.slice t q c4) (B.setCell ⟨g,k*4+2,none⟩ (.bool (!(f k).has))) _ g n c _):=b.out.setL (j:=2) (y:={ f k with has:=!(f k).has }) (u:=.bool (!(f k).has)) N (by omega) rfl hn1;refine aj (i:=12) rfl (by as_aux_lemma=>kernel_rfl) (fun K l=>?_);go_simp;refine l.out _ _ (fun h=>absurd rfl h) ?_;clear l K x
  (try simp only[Act.put,nzL])
  refine aP (by as_aux_lemma=>kernel_rfl) ?_ _;clear d0 d1 gl b;go_upto_region 21 with fail;generalize B.setCell ⟨g,k*4+2,none⟩ (.bool (!(f k).has))=M at d ⊢;obtain⟨b0,b1,b2,b3,b4,L⟩:=d.out.bx.cells;obtain⟨r0,r1,r2,r3,r4,r5⟩:=d.out.rs.cells;have z0:=d.out.rs.fz 0;have z1:=d.out.rs.fz 1;have z2:=d.out.rs.fz 2;have z3:=d.out.rs.fz 3;have z4:=d.out.rs.fz 4;have z5:=d.out.rs.fz 5;have J:=d.out.bx.lt;have lr:=d.out.rs.lt;have G:=ae (d.out.fin (Q:=p+10) (by omega) (by omega) (.string nm) (.int .i64 r) (.int .i64 o) (.string tx) (.slice t q c4) (.slice (some ⟨g,0,none⟩) n c));have E:=ae (d.out.rs.six (.string nm) (.int .i64 r) (.int .i64 o) (.string tx) (.slice t q c4) (.slice (some ⟨g,0,none⟩) n c));go_wp2;generalize (((((M.setCell ⟨w.heap.size+1,0,none⟩ (.string nm)).setCell ⟨w.heap.size+1,1,none⟩ (.int .i64 r)).setCell ⟨w.heap.size+1,2,none⟩ (.int .i64 o)).setCell ⟨w.heap.size+1,3,none⟩ (.string tx)).setCell ⟨w.heap.size+1,4,none⟩ (.slice t q c4)).setCell ⟨w.heap.size+1,5,none⟩ (.slice (some ⟨g,0,none⟩) n c)=V at G E ⊢;obtain⟨U,P,W,Y,X,S⟩:=E.out.cells;exact bp (v:=.agg #[.string nm,.int .i64 r,.int .i64 o,.string tx,.slice t q c4,.slice (some ⟨g,0,none⟩) n c]) (by simp[results,Tryz.results208,go_sem,U,P,W,Y,X,S]) rfl G.out
 ·go_wp2_with fail
  refine aJ (fun V=>V.cell? ⟨w.heap.size,5,none⟩=some (.slice (some ⟨g,0,none⟩) n c)/\V.cell? ⟨g,k*4+3,none⟩=some (.int .i64 (f k).at_)) 17 (by as_aux_lemma=>kernel_rfl) ?_;have b:=ae (C.out.below br.drew);clear C;generalize I.drew=B at b ⊢;have x:Hid (B.cell? ⟨w.heap.size,5,none⟩=some (.slice (some ⟨g,0,none⟩) n c)/\B.cell? ⟨g,k*4+3,none⟩=some (.int .i64 (f k).at_)):=⟨SB.out B b.out.bx,(cA (j:=3) b.out.own N (by omega) rfl).1⟩
  iterate 10
   refine aM 0 (v:=?_) rfl rfl (by as_aux_lemma=>kernel_rfl) (fun _ _ _ h=>h) rfl ?_ x.out ?_;rotate_left
   ·(intro wz fd;obtain⟨s0,s1⟩:=fd;go_simp)
    (try with_reducible rfl)
   (try simp only[Act.put,nzL])
  refine aM 11 (v:=?_) rfl rfl (by as_aux_lemma=>kernel_rfl) (fun _ _ _ h=>h) rfl ?_ x.out ?_;rotate_left
  ·(intro wz fd;obtain⟨s0,s1⟩:=fd;go_simp)
   (try with_reducible rfl)
  (try simp only[Act.put,nzL])
  generalize IntKind.i64.wrap ((f k).at_+1)=ax;refine oJ (i:=10) (j:=12) rfl rfl (by as_aux_lemma=>kernel_rfl) (fun K l=>?_) (fun K l=>?_)
  ·skip
   go_simp;have A4:=(q9 B).alloc ly (.cells #[.int .i64 (-1),.int .i64 0,.int .i64 ax,.int .i64 400] 3);have HL:Hid ((B.alloc (.cells #[.int .i64 (-1),.int .i64 0,.int .i64 ax,.int .i64 400] 3)).heap[B.heap.size]?=some (.cells #[.int .i64 (-1),.int .i64 0,.int .i64 ax,.int .i64 400] 3 (0,0))):=heap_alloc_new B _;have A:=ae (b.out.below A4);have th:=b.out.lt;have ro:=b.out.hbw;have zH:=b.out.hR;have zE:=b.out.hb;have ur:B.heap.size≠R:=by omega
   clear A4 x th ro zH zE;generalize B.alloc (.cells #[.int .i64 (-1),.int .i64 0,.int .i64 ax,.int .i64 400] 3)=O at A HL ⊢;generalize B.heap.size=zL at HL ur ⊢;have x:Hid (O.cell? ⟨w.heap.size,5,none⟩=some (.slice (some ⟨g,0,none⟩) n c)/\O.cell? ⟨g,k*4+3,none⟩=some (.int .i64 (f k).at_)):=⟨SB.out O A.out.bx,(cA (j:=3) A.out.own N (by omega) rfl).1⟩
   refine l.out _ _ (fun _=>x.out) ?_;clear l K
   (try simp only[Act.put,nzL])
   refine aj (i:=12) rfl (by as_aux_lemma=>kernel_rfl) (fun K l=>?_);go_simp;go_at_call 51;refine(aA R _ 4 _ A.out.rd (by omega) (by omega) (by omega)).mono ?_;rintro e M ⟨z4,rfl,qr,zT,ex,bt⟩;obtain⟨m,rfl⟩:=Int.eq_ofNat_of_zero_le qr;have hm:m<4:=by omega
   have d:=ae (A.out.only bt ex);have HL:=ae ((bt.block zL (au HL.out) ur).trans HL.out);clear bt ex A x;have x:Hid (M.cell? ⟨w.heap.size,5,none⟩=some (.slice (some ⟨g,0,none⟩) n c)/\M.cell? ⟨g,k*4+3,none⟩=some (.int .i64 (f k).at_)):=⟨SB.out M d.out.bx,(cA (j:=3) d.out.own N (by omega) rfl).1⟩
   refine l.out _ _ (fun _=>x.out) ?_;clear l K
   (try simp only[Act.put,nzL])
   obtain⟨zz,zG⟩:=qq HL.out m hm
   iterate 4
    refine cB 13 rfl rfl (by as_aux_lemma=>kernel_rfl) (fun K l=>?_);go_simp;refine l.out _ _ (fun _=>x.out) ?_;clear l K
    (try simp only[Act.put,nzL])
   have d0:=x.out.2;have d1:=(cA (j:=3) d.out.own N (by omega) rfl).2;have gl:=d.out.gne.2.2.2;have H:Hid (LStD w0 w R D g (.string nm) (.int .i64 r) (.int .i64 o) (.string tx) (.slice t q c4) (M.setCell ⟨g,k*4+3,none⟩ (.int .i64 zz)) _ g n c _):=d.out.setL (j:=3) (y:={ f k with at_:=zz }) (u:=.int .i64 zz) N (by omega) rfl hn1;refine aj (i:=17) rfl (by as_aux_lemma=>kernel_rfl) (fun K l=>?_);go_simp;refine l.out _ _ (fun h=>absurd rfl h) ?_;clear l K x
   (try simp only[Act.put,nzL])
   refine aP (by as_aux_lemma=>kernel_rfl) ?_ _;clear d0 d1 gl d zG HL;go_upto_region 21 with fail;generalize M.setCell ⟨g,k*4+3,none⟩ (.int .i64 zz)=v7 at H ⊢;obtain⟨b0,b1,b2,b3,b4,L⟩:=H.out.bx.cells;obtain⟨r0,r1,r2,r3,r4,r5⟩:=H.out.rs.cells;have z0:=H.out.rs.fz 0;have z1:=H.out.rs.fz 1;have z2:=H.out.rs.fz 2;have z3:=H.out.rs.fz 3;have z4:=H.out.rs.fz 4;have z5:=H.out.rs.fz 5;have J:=H.out.bx.lt;have lr:=H.out.rs.lt;have G:=ae (H.out.fin (Q:=p+10) (by omega) (by omega) (.string nm) (.int .i64 r) (.int .i64 o) (.string tx) (.slice t q c4) (.slice (some ⟨g,0,none⟩) n c));have E:=ae (H.out.rs.six (.string nm) (.int .i64 r) (.int .i64 o) (.string tx) (.slice t q c4) (.slice (some ⟨g,0,none⟩) n c));go_wp2;generalize (((((v7.setCell ⟨w.heap.size+1,0,none⟩ (.string nm)).setCell ⟨w.heap.size+1,1,none⟩ (.int .i64 r)).setCell ⟨w.heap.size+1,2,none⟩ (.int .i64 o)).setCell ⟨w.heap.size+1,3,none⟩ (.string tx)).setCell ⟨w.heap.size+1,4,none⟩ (.slice t q c4)).setCell ⟨w.heap.size+1,5,none⟩ (.slice (some ⟨g,0,none⟩) n c)=V at G E ⊢;obtain⟨U,P,W,Y,X,S⟩:=E.out.cells;exact bp (v:=.agg #[.string nm,.int .i64 r,.int .i64 o,.string tx,.slice t q c4,.slice (some ⟨g,0,none⟩) n c]) (by simp[results,Tryz.results208,go_sem,U,P,W,Y,X,S]) rfl G.out
  ·skip
   go_simp;go_at_call 51;refine(aA R _ 4 _ b.out.rd (by omega) (by omega) (by omega)).mono ?_;rintro e O ⟨z4,rfl,qr,zT,ex,bt⟩;obtain⟨m,rfl⟩:=Int.eq_ofNat_of_zero_le qr;have hm:m<4:=by omega
   have A:=ae (b.out.only bt ex);clear bt ex b x;have x:Hid (O.cell? ⟨w.heap.size,5,none⟩=some (.slice (some ⟨g,0,none⟩) n c)/\O.cell? ⟨g,k*4+3,none⟩=some (.int .i64 (f k).at_)):=⟨SB.out O A.out.bx,(cA (j:=3) A.out.own N (by omega) rfl).1⟩
   refine l.out _ _ (fun _=>x.out) ?_;clear l K
   (try simp only[Act.put,nzL])
   refine aj (i:=10) rfl (by as_aux_lemma=>kernel_rfl) (fun K l=>?_);go_simp;have A4:=(q9 O).alloc ly (.cells #[.int .i64 (-1),.int .i64 0,.int .i64 ax,.int .i64 400] 3);have HL:Hid ((O.alloc (.cells #[.int .i64 (-1),.int .i64 0,.int .i64 ax,.int .i64 400] 3)).heap[O.heap.size]?=some (.cells #[.int .i64 (-1),.int .i64 0,.int .i64 ax,.int .i64 400] 3 (0,0))):=heap_alloc_new O _;have d:=ae (A.out.below A4);have th:=A.out.lt;have ro:=A.out.hbw;have zH:=A.out.hR;have zE:=A.out.hb;have ur:O.heap.size≠R:=by omega
   clear A4 x th ro zH zE;generalize O.alloc (.cells #[.int .i64 (-1),.int .i64 0,.int .i64 ax,.int .i64 400] 3)=M at d HL ⊢;generalize O.heap.size=zL at HL ur ⊢;have x:Hid (M.cell? ⟨w.heap.size,5,none⟩=some (.slice (some ⟨g,0,none⟩) n c)/\M.cell? ⟨g,k*4+3,none⟩=some (.int .i64 (f k).at_)):=⟨SB.out M d.out.bx,(cA (j:=3) d.out.own N (by omega) rfl).1⟩
   refine l.out _ _ (fun _=>x.out) ?_;clear l K
   (try simp only[Act.put,nzL])
   obtain⟨zz,zG⟩:=qq HL.out m hm
   iterate 4
    refine cB 13 rfl rfl (by as_aux_lemma=>kernel_rfl) (fun K l=>?_);go_simp;refine l.out _ _ (fun _=>x.out) ?_;clear l K
    (try simp only[Act.put,nzL])
   have d0:=x.out.2;have d1:=(cA (j:=3) d.out.own N (by omega) rfl).2;have gl:=d.out.gne.2.2.2;have H:Hid (LStD w0 w R D g (.string nm) (.int .i64 r) (.int .i64 o) (.string tx) (.slice t q c4) (M.setCell ⟨g,k*4+3,none⟩ (.int .i64 zz)) _ g n c _):=d.out.setL (j:=3) (y:={ f k with at_:=zz }) (u:=.int .i64 zz) N (by omega) rfl hn1;refine aj (i:=17) rfl (by as_aux_lemma=>kernel_rfl) (fun K l=>?_);go_simp;refine l.out _ _ (fun h=>absurd rfl h) ?_;clear l K x
   (try simp only[Act.put,nzL])
   refine aP (by as_aux_lemma=>kernel_rfl) ?_ _;clear d0 d1 gl d zG HL;go_upto_region 21 with fail;generalize M.setCell ⟨g,k*4+3,none⟩ (.int .i64 zz)=v7 at H ⊢;obtain⟨b0,b1,b2,b3,b4,L⟩:=H.out.bx.cells;obtain⟨r0,r1,r2,r3,r4,r5⟩:=H.out.rs.cells;have z0:=H.out.rs.fz 0;have z1:=H.out.rs.fz 1;have z2:=H.out.rs.fz 2;have z3:=H.out.rs.fz 3;have z4:=H.out.rs.fz 4;have z5:=H.out.rs.fz 5;have J:=H.out.bx.lt;have lr:=H.out.rs.lt;have G:=ae (H.out.fin (Q:=p+10) (by omega) (by omega) (.string nm) (.int .i64 r) (.int .i64 o) (.string tx) (.slice t q c4) (.slice (some ⟨g,0,none⟩) n c));have E:=ae (H.out.rs.six (.string nm) (.int .i64 r) (.int .i64 o) (.string tx) (.slice t q c4) (.slice (some ⟨g,0,none⟩) n c));go_wp2;generalize (((((v7.setCell ⟨w.heap.size+1,0,none⟩ (.string nm)).setCell ⟨w.heap.size+1,1,none⟩ (.int .i64 r)).setCell ⟨w.heap.size+1,2,none⟩ (.int .i64 o)).setCell ⟨w.heap.size+1,3,none⟩ (.string tx)).setCell ⟨w.heap.size+1,4,none⟩ (.slice t q c4)).setCell ⟨w.heap.size+1,5,none⟩ (.slice (some ⟨g,0,none⟩) n c)=V at G E ⊢;obtain⟨U,P,W,Y,X,S⟩:=E.out.cells;exact bp (v:=.agg #[.string nm,.int .i64 r,.int .i64 o,.string tx,.slice t q c4,.slice (some ⟨g,0,none⟩) n c]) (by simp[results,Tryz.results208,go_sem,U,P,W,Y,X,S]) rfl G.out
 ·obtain⟨m,rfl⟩:∃ m,n=m+1:=⟨n - 1,by omega⟩
  have hcap:=gZ C.out.own;obtain⟨-,-,-,-,-,L⟩:=C.out.bx.cells;have bz:=C.out.bx.fz 5;have J:=C.out.bx.lt;have b:=ae (C.out.setB (jx _ _) (xm C.out.own (Nat.le_succ m)) (.inl rfl) (fun j hj=>C.out.nm j (by omega)));have hw:IntKind.i64.wrap (((m+1:Nat):Int) - 1)=(m:Int):=by rw[IntKind.wrap_i64];omega
  go_upto_region 21 with fail;generalize I.setCell ⟨w.heap.size,5,none⟩ (.slice (some ⟨g,0,none⟩) m c)=W3 at b ⊢;clear L bz J;obtain⟨b0,b1,b2,b3,b4,L⟩:=b.out.bx.cells;obtain⟨r0,r1,r2,r3,r4,r5⟩:=b.out.rs.cells;have z0:=b.out.rs.fz 0;have z1:=b.out.rs.fz 1;have z2:=b.out.rs.fz 2;have z3:=b.out.rs.fz 3;have z4:=b.out.rs.fz 4;have z5:=b.out.rs.fz 5;have J:=b.out.bx.lt;have lr:=b.out.rs.lt;have G:=ae (b.out.fin (Q:=p+10) (by omega) (by omega) (.string nm) (.int .i64 r) (.int .i64 o) (.string tx) (.slice t q c4) (.slice (some ⟨g,0,none⟩) m c));have E:=ae (b.out.rs.six (.string nm) (.int .i64 r) (.int .i64 o) (.string tx) (.slice t q c4) (.slice (some ⟨g,0,none⟩) m c));go_wp2;generalize (((((W3.setCell ⟨w.heap.size+1,0,none⟩ (.string nm)).setCell ⟨w.heap.size+1,1,none⟩ (.int .i64 r)).setCell ⟨w.heap.size+1,2,none⟩ (.int .i64 o)).setCell ⟨w.heap.size+1,3,none⟩ (.string tx)).setCell ⟨w.heap.size+1,4,none⟩ (.slice t q c4)).setCell ⟨w.heap.size+1,5,none⟩ (.slice (some ⟨g,0,none⟩) m c)=V at G E ⊢;obtain⟨U,P,W,Y,X,S⟩:=E.out.cells;exact bp (v:=.agg #[.string nm,.int .i64 r,.int .i64 o,.string tx,.slice t q c4,.slice (some ⟨g,0,none⟩) m c]) (by simp[results,Tryz.results208,go_sem,U,P,W,Y,X,S]) rfl G.out
 ·go_wp2_with fail
  refine aJ (fun V=>V.cell? ⟨w.heap.size,5,none⟩=some (.slice (some ⟨g,0,none⟩) n c)) 10 (by as_aux_lemma=>kernel_rfl) ?_;have b:=ae (C.out.below br.drew);clear C;generalize I.drew=B at b ⊢;have x:=ae (SB.out B b.out.bx)
  iterate 6
   refine aM 0 (v:=?_) rfl rfl (by as_aux_lemma=>kernel_rfl) (fun _ _ _ h=>h) rfl ?_ x.out ?_;rotate_left
   ·(intro wz s0;go_simp)
    (try with_reducible rfl)
   (try simp only[Act.put,nzL])
  have e0:=(cA (j:=0) b.out.own N (by omega) rfl).1;have e1:=(cA (j:=1) b.out.own N (by omega) rfl).1;have e2:=(cA (j:=2) b.out.own N (by omega) rfl).1;have e3:=(cA (j:=3) b.out.own N (by omega) rfl).1;rw[Nat.add_zero] at e0;refine aj (i:=6) rfl (by as_aux_lemma=>kernel_rfl) (fun K l=>?_);go_simp;refine l.out _ _ (fun _=>x.out) ?_;clear l K
  (try simp only[Act.put,nzL])
  clear e0 e1 e2 e3;refine aj (i:=7) rfl (by as_aux_lemma=>kernel_rfl) (fun K l=>?_);go_simp;have A4:=(q9 B).alloc ly (.cells #[.string (f k).name,.bool (f k).ask,.bool (f k).has,.int .i64 (f k).at_] 73);have A:=ae (b.out.below A4);have HN:Hid (∀ j u,(cS (f k))[j]?=some u->(B.alloc (.cells #[.string (f k).name,.bool (f k).ask,.bool (f k).has,.int .i64 (f k).at_] 73)).cell? ((⟨B.heap.size,0,none⟩:Addr).add j)=some u):=(ie (base:=0) (e:=73) (size:=4) (n:=1) (cs:=#[.string (f k).name,.bool (f k).ask,.bool (f k).has,.int .i64 (f k).at_]) (Nat.zero_le _) (by unfold maxLen;omega) rfl).cells rfl;have hl3:=b.out.lt;have hl3':=b.out.hbw;have hz3:(B.alloc (.cells #[.string (f k).name,.bool (f k).ask,.bool (f k).has,.int .i64 (f k).at_] 73)).heap.size=B.heap.size+1:=by simp
  clear A4 x;have x:=ae (SB.out _ A.out.bx);refine l.out _ _ (fun _=>x.out) ?_;clear l K
  (try simp only[Act.put,nzL])
  refine aj (i:=8) rfl (by as_aux_lemma=>kernel_rfl) (fun K l=>?_);refine step_append_lies _ rfl (.tmp 110) (.tmp 116) 65 rfl D 73 zK (.agg #[.string ⟨#[]⟩,.bool false,.bool false,.int .i64 0]) 4 32 Tryz.underlying65 hi zN zM zR rfl (by decide) (.slice (some ⟨g,0,none⟩) n c) n (bJ f n) (by simp[Act.eval]) A.out.own ⟨B.heap.size,0,none⟩ 1 1 (cS (f k)) (by simp[Act.eval]) rfl HN.out (by simp[cS,Value.oneCell']) (by omega) (by unfold maxLen;omega) (by omega) (by omega) _ rfl ?_;intro g5 c5 M aq T la zJ;rw[qp f n (f k)] at aq;have G5:=ae T;have O5:=ae aq;have sm:g5=g∨w.heap.size<=g5:=by
   rcases la with h | h
   ·exact .inl (by simpa[Value.ownBlock] using h.symm)
   ·exact .inr (by omega)
  have BX:Hid (LBx M w.heap.size (.string nm) (.int .i64 r) (.int .i64 o) (.string tx) (.slice t q c4) (.slice (some ⟨g,0,none⟩) n c)):=A.out.bx.blk (T.block _ A.out.bx.lt (fun e=>A.out.gne.1 (by simpa[Value.ownBlock] using e.symm)));clear aq T la zJ HN x;have x:=ae (SB.out M BX.out);refine l.out _ _ (fun _=>x.out) ?_;clear l K
  (try simp only[Act.put,nzL])
  refine aj (i:=9) rfl (by as_aux_lemma=>kernel_rfl) (fun K l=>?_);go_simp;refine l.out _ _ (fun _=>x.out) ?_;clear l K
  (try simp only[Act.put,nzL])
  have Z:=ae (A.out.setB G5.out O5.out sm (fun j hj=>by show(if j=n then f k else f j).name.size<=5000;split;exact hn1;exact A.out.nm j (by omega)));obtain⟨-,-,-,-,-,L⟩:=BX.out.cells;have bz:=BX.out.fz 5;have J:=BX.out.lt;refine aj (i:=10) rfl (by as_aux_lemma=>kernel_rfl) (fun K l=>?_);go_simp;refine l.out _ _ (fun h=>absurd rfl h) ?_;clear l K x
  (try simp only[Act.put,nzL])
  refine aP (by as_aux_lemma=>kernel_rfl) ?_ _;clear L bz J BX G5 O5 A;go_upto_region 21 with fail;generalize M.setCell ⟨w.heap.size,5,none⟩ (.slice (some ⟨g5,0,none⟩) (n+1) c5)=v6 at Z ⊢;obtain⟨b0,b1,b2,b3,b4,L⟩:=Z.out.bx.cells;obtain⟨r0,r1,r2,r3,r4,r5⟩:=Z.out.rs.cells;have z0:=Z.out.rs.fz 0;have z1:=Z.out.rs.fz 1;have z2:=Z.out.rs.fz 2;have z3:=Z.out.rs.fz 3;have z4:=Z.out.rs.fz 4;have z5:=Z.out.rs.fz 5;have J:=Z.out.bx.lt;have lr:=Z.out.rs.lt;have G:=ae (Z.out.fin (Q:=p+10) (by omega) (by omega) (.string nm) (.int .i64 r) (.int .i64 o) (.string tx) (.slice t q c4) (.slice (some ⟨g5,0,none⟩) (n+1) c5));have E:=ae (Z.out.rs.six (.string nm) (.int .i64 r) (.int .i64 o) (.string tx) (.slice t q c4) (.slice (some ⟨g5,0,none⟩) (n+1) c5));go_wp2;generalize (((((v6.setCell ⟨w.heap.size+1,0,none⟩ (.string nm)).setCell ⟨w.heap.size+1,1,none⟩ (.int .i64 r)).setCell ⟨w.heap.size+1,2,none⟩ (.int .i64 o)).setCell ⟨w.heap.size+1,3,none⟩ (.string tx)).setCell ⟨w.heap.size+1,4,none⟩ (.slice t q c4)).setCell ⟨w.heap.size+1,5,none⟩ (.slice (some ⟨g5,0,none⟩) (n+1) c5)=V at G E ⊢;obtain⟨U,P,W,Y,X,S⟩:=E.out.cells;exact bp (v:=.agg #[.string nm,.int .i64 r,.int .i64 o,.string tx,.slice t q c4,.slice (some ⟨g5,0,none⟩) (n+1) c5]) (by simp[results,Tryz.results208,go_sem,U,P,W,Y,X,S]) rfl G.out
 ·go_wp2_with fail
  refine(aA R _ 2 _ C.out.rd (by omega) (by omega) (by omega)).mono ?_;rintro e w3 ⟨z,rfl,zD,zF,zI,zP⟩;have b:=ae (C.out.only zP zI);clear zP zI C hn1 SB N;have hw:IntKind.i64.wrap (200+z)=200+z:=by rw[IntKind.wrap_i64];omega
  go_wp2_with fail;go_loopw [] (fun wr=>∃ (g' n' c':Nat) (f':Nat->Link),n'<=201/\Hid (LStD w0 w R D g (.string nm) (.int .i64 r) (.int .i64 o) (.string tx) (.slice t q c4) wr (p+1+1+1) g' n' c' f')) (fun wr=>300 - j5 wr w.heap.size);case atStart=>exact⟨g,n,c,f,by omega,b.out⟩
  case round =>
   obtain⟨g',n',c',f',hn',A⟩:=hrel;obtain⟨-,-,-,-,-,L⟩:=A.out.bx.cells;have J:=A.out.bx.lt;have th:=A.out.lt;have ro:=A.out.hbw;clear b;by_cases zJ:(n':Int)<200+z
   ·have d:=ae (A.out.below ((q9 wr).alloc ly (.cells #[.string ⟨#[97]⟩,.bool false,.bool true,.int .i64 0] 73)))
    have HN:Hid (∀ j u,(cS ⟨⟨#[97]⟩,false,true,0⟩)[j]?=some u->(wr.alloc (.cells #[.string ⟨#[97]⟩,.bool false,.bool true,.int .i64 0] 73)).cell? ((⟨wr.heap.size,0,none⟩:Addr).add j)=some u):=(ie (base:=0) (e:=73) (size:=4) (n:=1) (cs:=#[.string ⟨#[97]⟩,.bool false,.bool true,.int .i64 0]) (Nat.zero_le _) (by unfold maxLen;omega) rfl).cells rfl;have hz5:(wr.alloc (.cells #[.string ⟨#[97]⟩,.bool false,.bool true,.int .i64 0] 73)).heap.size=wr.heap.size+1:=by simp
    go_wp2_with (at_builtin;refine wpList_append_lies _ rfl (.tmp 36) (.tmp 38) 65 rfl D 73 zK (.agg #[.string ⟨#[]⟩,.bool false,.bool false,.int .i64 0]) 4 32 Tryz.underlying65 hi zN zM zR rfl (by decide) (.slice (some ⟨g',0,none⟩) n' c') n' (bJ f' n') (by simp[Act.eval]) d.out.own ⟨wr.heap.size,0,none⟩ 1 1 (cS ⟨⟨#[97]⟩,false,true,0⟩) (by simp[Act.eval]) rfl HN.out (by simp[cS,Value.oneCell']) (by omega) (by unfold maxLen;omega) (by omega) (by omega) _ rfl ?_;intro g5 c5 M aq T la zS;have BX:Hid (LBx M w.heap.size (.string nm) (.int .i64 r) (.int .i64 o) (.string tx) (.slice t q c4) (.slice (some ⟨g',0,none⟩) n' c')):=d.out.bx.blk (T.block _ d.out.bx.lt (fun e=>d.out.gne.1 (by simpa[Value.ownBlock] using e.symm)));rw[qp f' n'] at aq;have sm:g5=g'∨w.heap.size<=g5:=(by rcases la with h | h;exact .inl (by simpa[Value.ownBlock] using h.symm);exact .inr (by omega));have Z:=ae (d.out.setB T aq sm (fun j hj=>(by show(if j=n' then (⟨⟨#[97]⟩,false,true,0⟩:Link) else f' j).name.size<=5000;split;exact(by decide);exact d.out.nm j (by omega))));obtain⟨-,-,-,-,-,q5⟩:=BX.out.cells;have qz:=BX.out.fz 5;have ql:=BX.out.lt;clear aq T la zS sm);refine⟨⟨g5,n'+1,c5,_,by omega,Z.out⟩,?_⟩;have e1:=A.out.bx.len;have e2:=Z.out.bx.len;show 300 - j5 _ _<300 - j5 _ _;rw[e1,e2];omega
   ·go_upto_region 21 with fail
    clear L J;obtain⟨b0,b1,b2,b3,b4,L⟩:=A.out.bx.cells;obtain⟨r0,r1,r2,r3,r4,r5⟩:=A.out.rs.cells;have z0:=A.out.rs.fz 0;have z1:=A.out.rs.fz 1;have z2:=A.out.rs.fz 2;have z3:=A.out.rs.fz 3;have z4:=A.out.rs.fz 4;have z5:=A.out.rs.fz 5;have J:=A.out.bx.lt;have lr:=A.out.rs.lt;have G:=ae (A.out.fin (Q:=p+10) (by omega) (by omega) (.string nm) (.int .i64 r) (.int .i64 o) (.string tx) (.slice t q c4) (.slice (some ⟨g',0,none⟩) n' c'));have E:=ae (A.out.rs.six (.string nm) (.int .i64 r) (.int .i64 o) (.string tx) (.slice t q c4) (.slice (some ⟨g',0,none⟩) n' c'));go_wp2;generalize (((((wr.setCell ⟨w.heap.size+1,0,none⟩ (.string nm)).setCell ⟨w.heap.size+1,1,none⟩ (.int .i64 r)).setCell ⟨w.heap.size+1,2,none⟩ (.int .i64 o)).setCell ⟨w.heap.size+1,3,none⟩ (.string tx)).setCell ⟨w.heap.size+1,4,none⟩ (.slice t q c4)).setCell ⟨w.heap.size+1,5,none⟩ (.slice (some ⟨g',0,none⟩) n' c')=V at G E ⊢;obtain⟨U,P,W,Y,X,S⟩:=E.out.cells;exact bp (v:=.agg #[.string nm,.int .i64 r,.int .i64 o,.string tx,.slice t q c4,.slice (some ⟨g',0,none⟩) n' c']) (by simp[results,Tryz.results208,go_sem,U,P,W,Y,X,S]) rfl G.out
structure LSub (w:World)(base:Nat)(r:DR):Prop where
 act:r.1.actN=0/\(∃ c,r.2.1=.slice none 0 c)∨∃ g c,r.2.1=.slice (some ⟨g,0,none⟩) r.1.actN c/\RowIns w g 0 r.1.actN r.1.act/\TypeAt w g 176/\base<=g
 lnk:w.ownsRow base 73 4 r.2.2 r.1.linksN (bJ r.1.links r.1.linksN)
structure LRw (w:World)(base:Nat)(v:Value)(R:List DR):Prop where
 own:w.ownsRow base 67 6 v R.length (R.flatMap ddV)
 sub:∀ r∈R,LSub w base r
theorem LSub.blk {w w':World}{b:Nat}{r:DR}(h:LSub w b r)(hz:w.heap.size<=w'.heap.size)(hb:∀ k,OfTy w k 176∨OfTy w k 73->b<=k->w'.heap[k]?=w.heap[k]?):LSub w' b r:=by
 refine⟨?_,dJ h.lnk fun k o l=>hb k (.inr l) (h.lnk.lt k o).1⟩;rcases h.act with p | ⟨g,c,e,m,d,i⟩
 ·exact .inl p
 ·have f:w'.heap[g]?=w.heap[g]?:=hb g (.inl (by obtain⟨n,j⟩:=d;exact⟨n,_,j⟩)) i
  exact .inr ⟨g,c,e,m.block hz f,d.block f,i⟩
theorem LRw.agr {w V:World}{b:Nat}{v:Value}{R:List DR}(h:LRw w b v R)(d:Agr b w V):LRw V b v R :=
 ⟨eO h.own d,fun r g=>(h.sub r g).blk d.1 fun k f hb=>d.2 k hb (by rcases f with ⟨c,z,e⟩ | ⟨c,z,e⟩<;>exact au e)⟩
theorem LRw.deeds {w:World}{b c:Nat}{a:Option Addr}{R:List DR}(h:LRw w b (.slice a R.length c) R):SlDeed w a R.length (dF (R.map (·.1))):=by
 by_cases hz:R.length=0
 ·exact .inl hz
 ·obtain⟨g,c',e⟩:=dm h.own (by omega)
  cases e
  refine .inr ⟨g,0,rfl,(cu h.own).2,fun i hi=>?_⟩;obtain⟨r,d,f⟩:=dI hi;rw[jb d];have c:∀ j,j<6->∀ u,(ddV r)[j]?=some u->w.cell? ⟨g,0+i*6+j,none⟩=some u:=fun j t u x=>by rw[show 0+i*6+j=i*6+j by omega];exact(fX h.own d j t x).1
  have y:DSub w b ({ r.1 with actN:=0 },.slice none 0 0,r.2.2):=⟨World.ownsRow_nil _ _ _ _,(h.sub r f).lnk⟩
  obtain⟨s,c5,o,p⟩:=y.links;obtain⟨l,c4,m,q⟩:∃ a cap,r.2.1=.slice a r.1.actN cap/\SlIns w a r.1.actN r.1.act:=by
   rcases(h.sub r f).act with ⟨k,c,e⟩ | ⟨g,c,e,n,-,-⟩
   ·exact⟨none,c,by rw[k];exact e,.inl k⟩
   ·exact⟨_,c,e,.inr ⟨g,0,rfl,n⟩⟩
  exact⟨c 0 (by omega) _ rfl,c 1 (by omega) _ rfl,c 2 (by omega) _ rfl,c 3 (by omega) _ rfl,⟨l,c4,by rw[<-m];exact c 4 (by omega) _ rfl,q⟩,⟨s,c5,by rw[<-show r.2.2=_ from o];exact c 5 (by omega) _ rfl,p⟩⟩
theorem yW {w:World}{b n c:Nat}{a:Option Addr}{R:List DR}(h:LRw w b (.slice a n c) R)(e:n=R.length)(j:∀ r∈R,FitD r.1)(hn:R.length<=50000):HAc b w a n c (dF (R.map (·.1))):=by subst e;refine⟨fun V d=>(h.agr d).deeds,gZ h.own,hn,fun i hi=>?_⟩;obtain⟨r,f,g⟩:=dI hi;rw[jb f];exact j r g
theorem TRow.blk {w w':World}{b:Nat}{v:Value}{R:List TR}(h:TRow w b v R)(hz:w.heap.size<=w'.heap.size)(hb:∀ k,TypeAt w k 104∨TypeAt w k 176->w'.heap[k]?=w.heap[k]?):TRow w' b v R:=by
 refine⟨?_,fun r m=>?_,h.up⟩
 ·refine⟨h.own.1,?_⟩
  rcases h.own.2 with f | ⟨g,cap,c,rfl,l,j,d⟩
  ·exact .inl f
  ·exact .inr ⟨g,cap,c,rfl,l,(hb g (.inl ⟨c,j⟩)).trans j,d⟩
 ·obtain⟨f,⟨F,d⟩,i,n⟩:=h.act r m
  have e:=hb r.2.1 (.inr i);exact⟨f.block hz e,⟨F,d.block hz e⟩,i.block e,n⟩
structure LgS (w:World)(sb X:Nat)(W:World)(v0:Value)(a1:Option Addr)(c1:Nat)(RT:List TR)(a:Option Addr)(c:Nat)(D:List DR):Prop where
 rs:W.heap[w.heap.size]?=some (.cells #[.slice none 0 0] 59 (0,0))
 sx:W.heap[sb]?=some (.cells #[v0,.slice a1 RT.length c1] 26 (0,0))
 bx:W.heap[X]?=some (.cells #[.slice a D.length c] 59 (0,0))
 tg:TRow W (w.heap.size+1) (.slice a1 RT.length c1) RT
 row:LRw W (w.heap.size+1) (.slice a D.length c) D
 fit:∀ r∈D,FitD r.1
 lo:w.heap.size<X
 bl:Below w.heap.size w W
section
variable {w W W':World}{sb X c1 c c' g:Nat}{v0:Value}{a1:Option Addr}{a':Option Addr}{RT:List TR}{D:List DR}{r:DR}
theorem LgS.below {a:Option Addr}(h:LgS w sb X W v0 a1 c1 RT a c D)(hb:Below W.heap.size W W'):LgS w sb X W' v0 a1 c1 RT a c D :=
 ⟨(hb.block _ (au h.rs)).trans h.rs,(hb.block _ (au h.sx)).trans h.sx,(hb.block _ (au h.bx)).trans h.bx,h.tg.below hb ly,h.row.agr (d9 hb ly),h.fit,h.lo,h.bl.trans (hb.mono h.bl.size)⟩
theorem LgS.more (h:LgS w sb X W v0 a1 c1 RT (some ⟨g,0,none⟩) c D)(hz:W.heap.size<=W'.heap.size)(keep:∀ k,k<W.heap.size->k≠g->k≠X->W'.heap[k]?=W.heap[k]?)(n:W'.heap[X]?=some (.cells #[.slice a' (D.length+1) c'] 59 (0,0)))
  (m:W'.ownsRow (w.heap.size+1) 67 6 (.slice a' (D.length+1) c') (D.length+1) (D.flatMap ddV++ddV r)) (q:LSub W' (w.heap.size+1) r) (u:FitD r.1) (hb:Below w.heap.size w W'):LgS w sb X W' v0 a1 c1 RT a' c' (D++[r]):=by
 have hlo:=h.lo;obtain⟨cs,z,p⟩:=eJ h.row.own g rfl;have hgb:=(h.row.own.lt g rfl).1;have i:∀ (k:Nat) (f:Array Value) (e:TypeId) (j:Nat × Nat),W.heap[k]?=some (Obj.cells f e j)->e≠67->e≠59->W'.heap[k]?=W.heap[k]?:=fun k f e j b t s=>by
  refine keep k (au b) (fun l=>?_) (fun l=>?_)
  ·rw[l,p] at b
   simp at b;exact t b.2.1.symm
  ·rw[l,h.bx] at b
   simp at b;exact s b.2.1.symm
 have o:(D++[r]).length=D.length+1:=by simp
 refine⟨(keep _ (au h.rs) (by omega) (by omega)).trans h.rs,(i _ _ _ _ h.sx (by decide) (by decide)).trans h.sx,by rw[o];exact n,h.tg.blk hz fun k b=>?_,⟨?_,fun x d=>?_⟩,fun x d=>?_,h.lo,hb⟩
 ·rcases b with ⟨f,b⟩ | ⟨f,b⟩
  ·exact i _ _ _ _ b (by decide) (by decide)
  ·exact i _ _ _ _ b (by decide) (by decide)
 ·rw[o,List.flatMap_append]
  simpa using m
 ·rcases List.mem_append.1 d with d | d
  ·refine(h.row.sub x d).blk hz fun k b _=>?_
   rcases b with ⟨f,j,b⟩ | ⟨f,j,b⟩
   ·exact i _ _ _ _ b (by decide) (by decide)
   ·exact i _ _ _ _ b (by decide) (by decide)
  ·rw[List.mem_singleton.1 d];exact q
 ·rcases List.mem_append.1 d with d | d
  ·exact h.fit x d
  ·rw[List.mem_singleton.1 d];exact u
end
def tL (b c:ByteArray)(an:Nat)(act:Nat->Ins)(z:Int):ar:=⟨b,3,0,⟨#[103,114,111,117,110,100]⟩,an,act,1,fun _=>⟨c,true,false,z⟩⟩
theorem vd (w:World)(b:Nat)(hb:b<=w.heap.size)(d c:ByteArray)(an:Nat)(act:Nat->Ins)(z:Int):(w.alloc (.cells #[.string c,.bool true,.bool false,.int .i64 z] 73)).ownsRow b 73 4 (.slice (some ⟨w.heap.size,0,none⟩) 1 1) 1 (bJ (tL d c an act z).links 1) :=
 ⟨rfl,.inr ⟨w.heap.size,1,_,rfl,hb,heap_alloc_new w _,Nat.le_refl _,by unfold maxLen;omega,rfl,rfl⟩⟩
theorem xn {c b:ByteArray}{an:Nat}{act:Nat->Ins}{z:Int}(g:c.size<=5000)(h:b.size<=5000)(d:an<=300)(f:∀ j,j<an->(act j).s.size<=5000):FitD (tL c b an act z) :=
 ⟨g,by show(⟨#[103,114,111,117,110,100]⟩:ByteArray).size<=5000;decide,d,f,by show 1<=300;omega,fun _ _=>h⟩
theorem tM:xB:=by
 intro n w hn;obtain⟨zG,hi,zS,zI,zX⟩:=info_parts fH;have zQ:(w.alloc (.cells #[.slice none 0 0] 59)).heap.size=w.heap.size+1:=by simp
 have A0:=ae ((q9 w).alloc ly (.cells #[.slice none 0 0] 59));have K0:Hid ((w.alloc (.cells #[.slice none 0 0] 59)).heap[w.heap.size]?=some (.cells #[.slice none 0 0] 59 (0,0))):=heap_alloc_new w _;have hw1:IntKind.i64.wrap ((n:Int) - 1)=(n:Int) - 1:=by rw[IntKind.wrap_i64];omega
 go_enter Tryz.func209,Tryz.ntmps209;go_wp2_with fail;generalize w.alloc (.cells #[.slice none 0 0] 59)=W0 at A0 K0 zQ ⊢;refine(kM n (by omega) ⟨#[97]⟩ (by decide) W0).mono ?_;rintro e b ⟨b0,n0,c0,f0,a1,c1,RT,rfl,ld,-,hT,hG,hN,hB⟩;have HG:=ae hG;have zT:=ae hN;have zU:=ae ld;have hs1:=hB.size;have O:(b.alloc (.cells #[.slice b0 n0 c0,.slice a1 RT.length c1] 26)).heap.size=b.heap.size+1:=by simp
 have N:((b.alloc (.cells #[.slice b0 n0 c0,.slice a1 RT.length c1] 26)).alloc (.cells #[.string ⟨#[97]⟩,.int .i64 1,.int .i64 0,.string ⟨#[103,114,111,117,110,100]⟩,.slice none 0 0,.slice none 0 0] 67)).heap.size=b.heap.size+2:=by simp
 have AB:=((q9 b).alloc ly (.cells #[.slice b0 n0 c0,.slice a1 RT.length c1] 26)).alloc (by simp) (.cells #[.string ⟨#[97]⟩,.int .i64 1,.int .i64 0,.string ⟨#[103,114,111,117,110,100]⟩,.slice none 0 0,.slice none 0 0] 67);have AC:=AB.alloc (by simp<;>omega) (.cells #[.slice (some ⟨b.heap.size+1,0,none⟩) 1 1] 59);have kS:=heap_alloc_new b (.cells #[.slice b0 n0 c0,.slice a1 RT.length c1] 26);have kD:=heap_alloc_new (b.alloc (.cells #[.slice b0 n0 c0,.slice a1 RT.length c1] 26)) (.cells #[.string ⟨#[97]⟩,.int .i64 1,.int .i64 0,.string ⟨#[103,114,111,117,110,100]⟩,.slice none 0 0,.slice none 0 0] 67);rw[O] at kD;have kX:=heap_alloc_new ((b.alloc (.cells #[.slice b0 n0 c0,.slice a1 RT.length c1] 26)).alloc (.cells #[.string ⟨#[97]⟩,.int .i64 1,.int .i64 0,.string ⟨#[103,114,111,117,110,100]⟩,.slice none 0 0,.slice none 0 0] 67)) (.cells #[.slice (some ⟨b.heap.size+1,0,none⟩) 1 1] 59);rw[N] at kX;have B1:=(Below.refl (b.heap.size+1) (b.alloc (.cells #[.slice b0 n0 c0,.slice a1 RT.length c1] 26))).alloc (by rw[O];exact Nat.le_refl _) (.cells #[.string ⟨#[97]⟩,.int .i64 1,.int .i64 0,.string ⟨#[103,114,111,117,110,100]⟩,.slice none 0 0,.slice none 0 0] 67);have B2:=(Below.refl (b.heap.size+2) ((b.alloc (.cells #[.slice b0 n0 c0,.slice a1 RT.length c1] 26)).alloc (.cells #[.string ⟨#[97]⟩,.int .i64 1,.int .i64 0,.string ⟨#[103,114,111,117,110,100]⟩,.slice none 0 0,.slice none 0 0] 67))).alloc (by rw[N];exact Nat.le_refl _) (.cells #[.slice (some ⟨b.heap.size+1,0,none⟩) 1 1] 59);have U:Hid (LgS w b.heap.size (b.heap.size+2) (((b.alloc (.cells #[.slice b0 n0 c0,.slice a1 RT.length c1] 26)).alloc (.cells #[.string ⟨#[97]⟩,.int .i64 1,.int .i64 0,.string ⟨#[103,114,111,117,110,100]⟩,.slice none 0 0,.slice none 0 0] 67)).alloc (.cells #[.slice (some ⟨b.heap.size+1,0,none⟩) 1 1] 59)) (.slice b0 n0 c0) a1 c1 RT (some ⟨b.heap.size+1,0,none⟩) 1 [jy ⟨#[97]⟩ ⟨#[103,114,111,117,110,100]⟩ 1]):=by
  have zD:=(B2.block (b.heap.size+1) (by omega)).trans kD;refine⟨(AC.block w.heap.size (by omega)).trans ((hB.block w.heap.size (by omega)).trans K0.out),(B2.block b.heap.size (by omega)).trans ((B1.block b.heap.size (by omega)).trans kS),kX,(hT.mono (by omega)).below AC ly,⟨⟨rfl,.inr ⟨b.heap.size+1,1,_,rfl,by omega,zD,Nat.le_refl _,by unfold maxLen;omega,rfl,rfl⟩⟩,fun r hr=>?_⟩,fun r hr=>?_,by omega,(A0.out.trans (hB.mono (by omega))).trans (AC.mono (by omega))⟩
  ·rw[List.mem_singleton.1 hr]
   exact⟨.inl ⟨rfl,0,rfl⟩,World.ownsRow_nil _ _ _ _⟩
  ·rw[List.mem_singleton.1 hr]
   exact qj 1 (by decide) (by decide)
 clear AB AC kS kD kX B1 B2 O N hT hG hN hB A0 K0 ld;go_wp2_with fail;generalize ((b.alloc (.cells #[.slice b0 n0 c0,.slice a1 RT.length c1] 26)).alloc (.cells #[.string ⟨#[97]⟩,.int .i64 1,.int .i64 0,.string ⟨#[103,114,111,117,110,100]⟩,.slice none 0 0,.slice none 0 0] 67)).alloc (.cells #[.slice (some ⟨b.heap.size+1,0,none⟩) 1 1] 59)=W1 at U ⊢;generalize b.heap.size+2=X at U ⊢;generalize b.heap.size=sb at U ⊢;go_loopw [5] (fun i wr=>∃ (m:Nat) (z:Int) (a:Option Addr) (c:Nat) (D:List DR),i=.int .i64 z/\z=(m:Int) - 1/\m<=n/\D.length+m=n+1/\Hid (LgS w sb X wr (.slice b0 n0 c0) a1 c1 RT a c D)) (fun i _=>(intOf i+1).toNat);case atStart=>exact⟨n,_,_,_,_,rfl,rfl,Nat.le_refl _,by simp;omega,U.out⟩
 case round =>
  clear U;obtain⟨m,z,a,c,D,rfl,hz,hm,hD,d⟩:=hrel;have HD:=ae hD;clear hD;by_cases h0:m=0
  ·subst h0
   obtain rfl:z=-1:=by omega
   have zE:D.length<=50000:=by have:=HD.out;omega
   have HE:=ae ((yW (d.out.row.agr (yn (j:=0) (Nat.lt_succ_self w.heap.size) (.slice a D.length c))) rfl d.out.fit zE).mono (Nat.le_succ w.heap.size));have BE:=ae (d.out.bl.setCell (p:=⟨w.heap.size,0,none⟩) ly (.slice a D.length c));have kr:=d.out.rs;have x:=d.out.bx;have r0:wr.cell? ⟨w.heap.size,0,none⟩=some (.slice none 0 0):=by simp[World.cell?,kr]
   have q0:wr.frozen? ⟨w.heap.size,0,none⟩=false:=by simp[World.frozen?,kr]
   have x0:wr.cell? ⟨X,0,none⟩=some (.slice a D.length c):=by simp[World.cell?,x]
   have l0:=au kr;have l1:=au x;clear kr x hz;go_wp2;exact bp (v:=.agg #[.slice a D.length c]) (by simp[results,Tryz.results209,go_sem,r0]) rfl ⟨_,_,_,_,rfl,HE.out,BE.out⟩
  ·obtain⟨k,rfl⟩:∃ k,m=k+1:=⟨m - 1,by omega⟩
   obtain rfl:z=(k:Int):=by omega
   clear hz h0;have zJ:k<RT.length:=by have:=zU.out;omega
   have zF:0<D.length:=by have:=HD.out;omega
   have hDn:D.length<=100:=by have:=HD.out;omega
   obtain⟨g,c',e⟩:=dm d.out.row.own zF;obtain⟨rfl,-,-⟩:=Value.slice.inj e;clear e c';obtain⟨L,hL⟩:∃ L,D.length=L+1:=⟨D.length - 1,by omega⟩
   obtain⟨rl,A,qr⟩:=dI (R:=D) (i:=L) (by omega);have e0:=(fX d.out.row.own A 0 (by omega) (u:=.string rl.1.name) rfl).1;rw[Nat.add_zero] at e0;have ur:=(d.out.fit rl qr).nm;have hwL:IntKind.i64.wrap ((D.length:Int) - 1)=(L:Int):=by rw[IntKind.wrap_i64];omega
   have hLl:(L:Int)<(D.length:Int):=by omega
   obtain⟨l,r,ex,I,Q,t0,t1,-⟩:=d.out.tg.atk zJ;obtain⟨sm,-,Y,zR⟩:=d.out.tg.act r Q;have n9:=ae sm;have n8:=ae Y;obtain⟨zN,la⟩:=HG.out r Q;have zV:=ae la;have zK:=zT.out r Q;have x:=d.out.bx;have S:=d.out.sx;rw[ex] at S;have x0:wr.cell? ⟨X,0,none⟩=some (.slice (some ⟨g,0,none⟩) D.length c):=by simp[World.cell?,x]
   have y0:wr.frozen? ⟨X,0,none⟩=false:=by simp[World.frozen?,x]
   have x1:wr.cell? ⟨sb,1,none⟩=some (.slice (some ⟨l,0,none⟩) RT.length c1):=by simp[World.cell?,S]
   have l0:=au x;have l1:=au S;obtain⟨cg,zg,Z⟩:=eJ d.out.row.own g rfl;have lg:=au Z;have ro:X≠g:=fun e=>by rw[e,Z] at x;simp at x
   have zP:sb≠g:=fun e=>by rw[e,Z] at S;simp at S
   have th:l≠g:=fun e=>by obtain⟨cur,hc⟩:=d.out.tg.type l (by rw[ex];rfl);rw[e,Z] at hc;simp at hc
   have hgb:=(d.out.row.own.lt g rfl).1;have hlo:=d.out.lo;have mv:=d.out.bl.size;clear x S sm Y la A qr Q ex Z;have SQ:Hid (∀ V:World,(∀ j,j<wr.heap.size->j≠g->V.heap[j]?=wr.heap[j]?)->V.cell? ⟨X,0,none⟩=some (.slice (some ⟨g,0,none⟩) D.length c)/\V.cell? ⟨sb,1,none⟩=some (.slice (some ⟨l,0,none⟩) RT.length c1)/\V.cell? ⟨l,k*2,none⟩=some (.string r.1.name)/\V.cell? ⟨l,k*2+1,none⟩=some (.slice (some ⟨r.2.1,0,none⟩) r.1.actN r.2.2)):=fun V hV=>⟨(cq (a:=⟨X,0,none⟩) (hV X l0 ro)).trans x0,(cq (a:=⟨sb,1,none⟩) (hV sb l1 zP)).trans x1,(cq (a:=⟨l,k*2,none⟩) (hV l I th)).trans t0,(cq (a:=⟨l,k*2+1,none⟩) (hV l I th)).trans t1⟩
   have HL:=ae hL;clear hL;generalize rl.1.name=B at e0 ur;go_upto_region 7 with fail;have hk2:(k:Int)<(RT.length:Int):=by omega
   go_wp2_with fail;refine aJ (fun V=>V.cell? ⟨X,0,none⟩=some (.slice (some ⟨g,0,none⟩) D.length c)/\V.cell? ⟨sb,1,none⟩=some (.slice (some ⟨l,0,none⟩) RT.length c1)/\V.cell? ⟨l,k*2,none⟩=some (.string r.1.name)/\V.cell? ⟨l,k*2+1,none⟩=some (.slice (some ⟨r.2.1,0,none⟩) r.1.actN r.2.2)) 25 (by as_aux_lemma=>kernel_rfl) ?_;have C:=ae (d.out.below br.drew);have y:Hid (∀ V:World,(∀ j,j<wr.drew.heap.size->j≠g->V.heap[j]?=wr.drew.heap[j]?)->V.cell? ⟨X,0,none⟩=some (.slice (some ⟨g,0,none⟩) D.length c)/\V.cell? ⟨sb,1,none⟩=some (.slice (some ⟨l,0,none⟩) RT.length c1)/\V.cell? ⟨l,k*2,none⟩=some (.string r.1.name)/\V.cell? ⟨l,k*2+1,none⟩=some (.slice (some ⟨r.2.1,0,none⟩) r.1.actN r.2.2)):=SQ;have P:Hid (RowIns wr.drew r.2.1 0 r.1.actN r.1.act):=n9.out.below br.drew ly;have J:Hid (TypeAt wr.drew r.2.1 176):=n8;have l2:X<wr.drew.heap.size:=l0;have fd:w.heap.size<=wr.drew.heap.size:=mv;clear d SQ n9 n8 l0 l1 lg I x0 x1 y0 t0 t1 e0 mv;generalize wr.drew=v at C y P J l2 fd ⊢;have o:=ae (y.out v (fun j _ _=>rfl))
   iterate 20
    refine aM 0 (v:=?_) rfl rfl (by as_aux_lemma=>kernel_rfl) (fun _ _ _ h=>h) rfl ?_ o.out ?_;rotate_left
    ·(intro wz zY;obtain⟨s0,s1,s2,s3⟩:=zY;go_simp)
     (try with_reducible rfl)
    (try simp only[Act.put,nzL])
   have BA:=ae ((q9 v).alloc ly (.cells #[.string B,.bool true,.bool false,.int .i64 L] 73));have hx1:=C.out.lo;have zO:(v.alloc (.cells #[.string B,.bool true,.bool false,.int .i64 L] 73)).heap.size=v.heap.size+1:=by simp
   have OL:=ae (vd v (w.heap.size+1) (by omega) r.1.name B r.1.actN r.1.act (L:Int));refine aj (i:=20) rfl (by as_aux_lemma=>kernel_rfl) (fun K f=>?_);go_simp;clear o;have o:=ae (y.out _ (fun j G _=>BA.out.block j G));refine f.out _ _ (fun _=>o.out) ?_;clear f K
   (try simp only[Act.put,nzL])
   refine aj (i:=21) rfl (by as_aux_lemma=>kernel_rfl) (fun K f=>?_);go_simp;refine f.out _ _ (fun _=>o.out) ?_;clear f K
   (try simp only[Act.put,nzL])
   have zH:=BA.out.size;have H:=ae (BA.out.alloc zH (.cells #[.string r.1.name,.int .i64 3,.int .i64 0,.string ⟨#[103,114,111,117,110,100]⟩,.slice (some ⟨r.2.1,0,none⟩) r.1.actN r.2.2,.slice (some ⟨v.heap.size,0,none⟩) 1 1] 67));refine aj (i:=22) rfl (by as_aux_lemma=>kernel_rfl) (fun K f=>?_);go_simp;clear o;have o:=ae (y.out _ (fun j G _=>H.out.block j G));refine f.out _ _ (fun _=>o.out) ?_;clear f K
   (try simp only[Act.put,nzL])
   have OW:=ae (own_below C.out.row.own H.out ly);have zL:((v.alloc (.cells #[.string B,.bool true,.bool false,.int .i64 L] 73)).alloc (.cells #[.string r.1.name,.int .i64 3,.int .i64 0,.string ⟨#[103,114,111,117,110,100]⟩,.slice (some ⟨r.2.1,0,none⟩) r.1.actN r.2.2,.slice (some ⟨v.heap.size,0,none⟩) 1 1] 67)).heap.size=v.heap.size+2:=by simp
   have NC:Hid (∀ j u,[Value.string r.1.name,.int .i64 3,.int .i64 0,.string ⟨#[103,114,111,117,110,100]⟩,.slice (some ⟨r.2.1,0,none⟩) r.1.actN r.2.2,.slice (some ⟨v.heap.size,0,none⟩) 1 1][j]?=some u->((v.alloc (.cells #[.string B,.bool true,.bool false,.int .i64 L] 73)).alloc (.cells #[.string r.1.name,.int .i64 3,.int .i64 0,.string ⟨#[103,114,111,117,110,100]⟩,.slice (some ⟨r.2.1,0,none⟩) r.1.actN r.2.2,.slice (some ⟨v.heap.size,0,none⟩) 1 1] 67)).cell? ((⟨v.heap.size+1,0,none⟩:Addr).add j)=some u):=by have h:=bU (v.alloc (.cells #[.string B,.bool true,.bool false,.int .i64 L] 73)) #[.string r.1.name,.int .i64 3,.int .i64 0,.string ⟨#[103,114,111,117,110,100]⟩,.slice (some ⟨r.2.1,0,none⟩) r.1.actN r.2.2,.slice (some ⟨v.heap.size,0,none⟩) 1 1] 67;rw[zO] at h;exact h
   have OK:=ae (own_below OL.out ((Below.refl _ (v.alloc (.cells #[.string B,.bool true,.bool false,.int .i64 L] 73))).alloc ly (.cells #[.string r.1.name,.int .i64 3,.int .i64 0,.string ⟨#[103,114,111,117,110,100]⟩,.slice (some ⟨r.2.1,0,none⟩) r.1.actN r.2.2,.slice (some ⟨v.heap.size,0,none⟩) 1 1] 67)) ly);clear OL;generalize (v.alloc (.cells #[.string B,.bool true,.bool false,.int .i64 L] 73)).alloc (.cells #[.string r.1.name,.int .i64 3,.int .i64 0,.string ⟨#[103,114,111,117,110,100]⟩,.slice (some ⟨r.2.1,0,none⟩) r.1.actN r.2.2,.slice (some ⟨v.heap.size,0,none⟩) 1 1] 67)=WC at H OW zL NC OK o ⊢;refine aj (i:=23) rfl (by as_aux_lemma=>kernel_rfl) (fun K f=>?_);refine bq rfl (.tmp 28) (.tmp 49) 57 rfl (w.heap.size+1) 67 zG (.agg #[.string ⟨#[]⟩,.int .i64 0,.int .i64 0,.string ⟨#[]⟩,.slice none 0 0,.slice none 0 0]) 6 96 Tryz.underlying57 hi zS zI zX rfl (by decide) (.slice (some ⟨g,0,none⟩) D.length c) D.length (D.flatMap ddV) (by simp[Act.eval]) OW.out ⟨v.heap.size+1,0,none⟩ 1 1 [.string r.1.name,.int .i64 3,.int .i64 0,.string ⟨#[103,114,111,117,110,100]⟩,.slice (some ⟨r.2.1,0,none⟩) r.1.actN r.2.2,.slice (some ⟨v.heap.size,0,none⟩) 1 1] (by simp[Act.eval]) rfl NC.out (by simp[Value.oneCell']) (by unfold maxLen;omega) (by omega) (by omega) ?_;intro v' t E q zM;obtain⟨M,c',rfl⟩:=dm E (by omega);have KG:Hid (∀ j,j<WC.heap.size->j≠g->t.heap[j]?=WC.heap[j]?):=fun j G aq=>q.block j G (fun e=>aq (Option.some.inj (show some j=some g from e)));have hz6:=q.size;clear o;have o:=ae (y.out t (fun j G aq=>(KG.out j (by omega) aq).trans (H.out.block j G)));refine f.out _ _ (fun _=>o.out) ?_;clear f K
   (try simp only[Act.put,nzL])
   refine aj (i:=24) rfl (by as_aux_lemma=>kernel_rfl) (fun K f=>?_);go_simp;refine f.out _ _ (fun _=>o.out) ?_;clear f K
   (try simp only[Act.put,nzL])
   have HO:=ae E;have k6:t.heap[X]?=v.heap[X]?:=(KG.out X (by omega) ro).trans (H.out.block X l2);have s:=k6.trans C.out.bx;have z0:t.cell? ⟨X,0,none⟩=some (.slice (some ⟨g,0,none⟩) D.length c):=by simp[World.cell?,s]
   have z1:t.frozen? ⟨X,0,none⟩=false:=by simp[World.frozen?,s]
   have z2:=au s;have zW:X≠M:=fun e=>by obtain⟨cc,zz,hc⟩:=eJ E M rfl;rw[e,hc] at s;simp at s
   clear E;refine aj (i:=25) rfl (by as_aux_lemma=>kernel_rfl) (fun K f=>?_);go_simp;refine f.out _ _ (fun h=>absurd rfl h) ?_;clear f K o
   (try simp only[Act.put,nzL])
   refine aP (by as_aux_lemma=>kernel_rfl) ?_ _;have keep:∀ j,j<v.heap.size->j≠g->j≠X->(t.setCell ⟨X,0,none⟩ (.slice (some ⟨M,0,none⟩) (D.length+1) c')).heap[j]?=v.heap[j]?:=fun j G h1 h2=>(qh t ⟨X,0,none⟩ _ j h2).trans ((KG.out j (by omega) h1).trans (H.out.block j G));have bt:r.2.1≠g:=fun e=>by obtain⟨c5,z5,h5⟩:=eJ C.out.row.own g rfl;obtain⟨c6,W⟩:=J.out;rw[e,h5] at W;simp at W
   have T:r.2.1≠X:=fun e=>by obtain⟨c6,W⟩:=J.out;rw[e,C.out.bx] at W;simp at W
   have A:=P.out.1;have I:=(C.out.row.own.lt g rfl).2
   have S9:=ae (C.out.more (r:=(tL r.1.name B r.1.actN r.1.act (L:Int),.slice (some ⟨r.2.1,0,none⟩) r.1.actN r.2.2,.slice (some ⟨v.heap.size,0,none⟩) 1 1)) (a':=some ⟨M,0,none⟩) (c':=c') (W':=t.setCell ⟨X,0,none⟩ (.slice (some ⟨M,0,none⟩) (D.length+1) c')) (by simp;omega) keep (bG s _)
    (dJ HO.out fun m hm _=>qh t ⟨X,0,none⟩ _ m (fun e=>zW (e.symm.trans (Option.some.inj (show some m=some M from hm.symm ▸ rfl)))))
    ⟨.inr ⟨r.2.1,r.2.2,rfl,P.out.block (by simp;omega) (keep _ A bt T),J.out.block (keep _ A bt T),zR⟩,dJ OK.out fun m hm _=>by
     obtain rfl:v.heap.size=m:=Option.some.inj hm
     exact(qh t ⟨X,0,none⟩ _ _ (by show v.heap.size≠X;omega)).trans (KG.out _ (by omega) (by omega))⟩
    (xn zK ur zN zV.out)
    (((C.out.bl.trans (H.out.mono fd)).trans (bg (Below.refl w.heap.size WC) q (by omega) (fun k' e=>by have e2:=Option.some.inj (show some g=some k' from e);omega))).setCell (p:=⟨X,0,none⟩) (by show w.heap.size<=X;omega) _))
   clear keep bt T A I q zM HO OK OW NC KG BA H y P J s k6 z0 z1 z2;generalize t.setCell ⟨X,0,none⟩ (.slice (some ⟨M,0,none⟩) (D.length+1) c')=W9 at S9 ⊢;have hwk:IntKind.i64.wrap ((k:Int) - 1)=(k:Int) - 1:=by rw[IntKind.wrap_i64];omega
   go_wp2;refine⟨⟨k,(k:Int) - 1,_,_,_,by go_num,rfl,by omega,?_,S9.out⟩,by simp[intOf]⟩;have:=HD.out;rw[List.length_append,List.length_singleton];omega
end Go.Proofs.YtkophfgkcijjkaaGreatDoor.Vp
