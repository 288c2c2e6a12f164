import Derived.Test.YtkophfgkcijjkaaGreatDoorYA
import Derived.Deep.DeepCutAuto
set_option maxRecDepth 100000
set_option maxHeartbeats 8000000
namespace Go.Proofs.YtkophfgkcijjkaaGreatDoor.Vp
open RowKit
theorem dM {t:ByteArray}{n:Int}(b:t.size<=5000){M:List I3}(hM:∀ i∈M,i.2.1.length<=5000):∀ i∈(1,t.data.toList,n) :: M,i.2.1.length<=5000:=by
 intro i hi;rcases List.mem_cons.1 hi with rfl | hi
 ·show t.data.toList.length<=5000
  rw[Array.length_toList];exact b
 ·exact hM i hi
structure VS (w:World)(R:Nat)(W:World)(q g c:Nat)(L:List I3)(n:Nat):Prop where
 rd:Rd W R q
 o:Only R w W
 ir:IR W w.heap.size g c L
 tx:∀ i∈L,i.2.1.length<=5000
 lo:R<w.heap.size
 le:L.length<=n
section
variable {w W W':World}{R q q' g c g' c' n:Nat}{L M:List I3}
theorem VS.only (h:VS w R W q g c L n)(b:Only R W W')(hR:Rd W' R q'):VS w R W' q' g c L n:=⟨hR,h.o.trans b,h.ir.only b h.lo,h.tx,h.lo,h.le⟩
theorem VS.below (h:VS w R W q g c L n)(b:Below W.heap.size W W'):VS w R W' q g c L n:=h.only (Only.of_below b) (h.rd.below b ly)
theorem VS.low (h:VS w R W q g c L n)(b:Below w.heap.size W W')(d:IR W' w.heap.size g' c' M)(hM:∀ i∈M,i.2.1.length<=5000):VS w R W' q g' c' M M.length:=⟨h.rd.low b h.lo,h.o.then b,d,hM,h.lo,Nat.le_refl _⟩
theorem VS.join (h:VS w R W q g c L n)(d:IR W' w.heap.size g' c' (L++M))(b:W.grownBy W' (some g))(hM:∀ i∈M,i.2.1.length<=5000):VS w R W' q g' c' (L++M) (L++M).length :=
 h.low (bg (Below.refl w.heap.size W) b h.o.size (fun k e=>by have:=h.ir.lt;simp at e;omega)) d fun i hi=>by
  rcases List.mem_append.1 hi with hi | hi
  ·exact h.tx i hi
  ·exact hM i hi
theorem VS.add (cs:Array Value)(h:VS w R W q g c L n)(b:IR W' w.heap.size g' c' (L++M))(d:(W.alloc (.cells cs 176)).grownBy W' (some g))(hM:∀ i∈M,i.2.1.length<=5000):VS w R W' q g' c' (L++M) (L++M).length :=
 (h.below (br.alloc ly _)).join b d hM
theorem VS.fin {m Q N:Nat}(h:VS w R W q g c L n)(f:m=L.length)(b:L≠[])(hn:L.length<=N)(d:q<=Q):DI w R Q N (.returned (.slice (some ⟨g,0,none⟩) m c)) W :=
 ⟨L,g,c,by rw[f],h.ir,b,hn,h.tx,q,d,h.rd,h.o⟩
end
theorem nH (O:Int)(H nc B C9:Nat)(hd3:O<=11)(hd0:0<=O)(hb:H<=44)(hB4:4<=B)(hC14:14<=C9)(ex:0<O->3*H+2<=B/\3*nc+14<=C9/\4<=H)(mv:0<O->∀ (R p:Nat) (at_:Int) (w:World),Rd w R p->p+nc<=30000->0<=at_->at_+(H:Int)<=10000->Calls Tryz.prog 185 #[.pointer (some ⟨R,0,none⟩),.int .i64 at_,.int .i64 (O - 1)] w fun e w'=>DI w R (p+nc) H e w')
  (R p:Nat) (at_:Int) (w:World) (hR:Rd w R p) (hp:p+C9<=30000) (ha0:0<=at_) (ha1:at_+(B:Int)<=10000) :
  Calls Tryz.prog 185 #[.pointer (some ⟨R,0,none⟩),.int .i64 at_,.int .i64 O] w fun e w'=>DI w R (p+C9) B e w':=by
 have IH:=ae mv;have A0:=(q9 w).alloc ly (.cells #[] 176);have C:Hid (VS w R (w.alloc (.cells #[] 176)) p w.heap.size 0 [] 0):=⟨hR.below A0 ly,Only.of_below A0,IR.lit w,fun i hi=>(by cases hi),hR.lt,Nat.le_refl _⟩
 clear A0 hR mv;go_enter Tryz.func185,Tryz.ntmps185;go_wp2_with fail;generalize w.alloc (.cells #[] 176)=W0 at C ⊢;refine(aA R _ 12 _ C.out.rd (by omega) (by omega) (by omega)).mono ?_;rintro e b ⟨z,rfl,z0,z1,hR,f⟩;replace C:=ae (C.out.only f hR);clear f hR;go_upto_region 3 with fail;go_cut [19] (fun sb wx=>∃ T:Bool,sb=.bool T/\(T=true->6<z)/\(T=false->6<z->0<O)/\Hid (VS w R wx (p+1) w.heap.size 0 [] 0));case first =>
  by_cases h2:O<=0
  ·by_cases h3:6<z
   ·go_wp2
    go_meet;exact⟨true,rfl,fun _=>h3,(fun h=>by cases h),C.out⟩
   ·go_wp2
    go_meet;exact⟨false,rfl,(fun h=>by cases h),fun _ h=>absurd h (by omega),C.out⟩
  ·go_wp2
   go_meet;exact⟨false,rfl,(fun h=>by cases h),fun _ _=>by omega,C.out⟩
 case rest =>
 clear C;obtain⟨T,rfl,aq,bt,C⟩:=hcut;go_upto_if 19 with fail;go_cut [7,8] (fun so sk wx=>∃ (g c q:Nat) (L:List I3) (k:Int),so=.slice (some ⟨g,0,none⟩) L.length c/\sk=.int .i64 k/\0<=k/\k<12/\(6<k->0<O)/\q<=p+1/\Hid (VS w R wx q g c L 0));case first =>
  cases T with
  | true =>
   have h2:=aq rfl;have hw:IntKind.i64.wrap (z - 6)=z - 6:=by rw[IntKind.wrap_i64];omega
   go_wp2;go_meet;exact⟨_,_,_,[],_,rfl,rfl,by omega,by omega,fun h=>by omega,Nat.le_refl _,C.out⟩
  | false =>have Z:=ae (bt rfl);go_wp2;go_meet;exact⟨_,_,_,[],_,rfl,rfl,by omega,by omega,Z.out,Nat.le_refl _,C.out⟩
 case rest =>
 clear C;obtain⟨g,c,q,L,k,rfl,rfl,hk0,hk1,fd,hq,C⟩:=hcut;have hL0:=C.out.le;rcases(show(k=0∨k=1)∨(k=2∨k=3∨k=4)∨k=5∨k=6∨k=7∨k=8∨(k=9∨k=10)∨k=11 by omega) with hk | hk | rfl | rfl | rfl | rfl | hk | rfl
 ·rcases hk with rfl | rfl
  all_goals
   go_wp2_with fail;refine(fy R _ _ C.out.rd (by omega)).mono ?_;rintro e b ⟨t,rfl,ht,q2,la,hR,f⟩;replace C:=ae (C.out.only f hR);clear f hR;go_wp2_with fail;first | (with_reducible refine(aR _ _).mono ?_) | (with_reducible refine(bh _ _ _).mono ?_) | (with_reducible refine(aY _ _).mono ?_)
   rintro e b ⟨rfl,n⟩;replace C:=ae (C.out.below n);clear n;have X:=ae (C.out.below ((q9 b).alloc ly (.cells #[.int .i64 1,.string t,.int .i64 0] 176)));have ln:=C.out.le;go_wp2_with (at_builtin;refine bV rfl (.tmp 26) (.tmp 30) rfl w.heap.size g c L (by simp[Act.eval]) X.out.ir ⟨b.heap.size,0,none⟩ 1 1 [(1,t.data.toList,0)] (by simp[Act.eval]) rfl (by simp) (bU b #[.int .i64 1,.string t,.int .i64 0] _) (by simp only[List.length_cons,List.length_nil];omega) (by have:=C.out.o.size;simp;omega) ?_);intro N c1 V d j;replace C:=ae (C.out.add _ d j (dM (by omega) (by decide)));clear d j X;go_wp2;go_ret;exact C.out.fin (by simp) (by simp) (by simp only[List.length_append,List.length_cons,List.length_nil];omega) (by omega)
 ·rcases hk with rfl | rfl | rfl
  all_goals
   go_wp2_with fail;refine(cX R _ _ C.out.rd (by omega)).mono ?_;rintro e b ⟨t,rfl,ht,hR,f⟩;replace C:=ae (C.out.only f hR);clear f hR
   iterate 2
    go_wp2_with fail;first | (with_reducible refine(aR _ _).mono ?_) | (with_reducible refine(bh _ _ _).mono ?_) | (with_reducible refine(aY _ _).mono ?_)
    rintro e b ⟨rfl,n⟩;replace C:=ae (C.out.below n);clear n
   have X:=ae (C.out.below ((q9 b).alloc ly (.cells #[.int .i64 1,.string t,.int .i64 0,.int .i64 12,.string ⟨#[]⟩,.int .i64 0] 176)));have ln:=C.out.le;go_wp2_with (at_builtin;refine bV rfl (.tmp 36) (.tmp 41) rfl w.heap.size g c L (by simp[Act.eval]) X.out.ir ⟨b.heap.size,0,none⟩ 2 2 [(1,t.data.toList,0),(12,[],0)] (by simp[Act.eval]) rfl (by simp) (bU b #[.int .i64 1,.string t,.int .i64 0,.int .i64 12,.string ⟨#[]⟩,.int .i64 0] _) (by simp only[List.length_cons,List.length_nil];omega) (by have:=C.out.o.size;simp;omega) ?_);intro N c1 V d j;replace C:=ae (C.out.add _ d j (dM (by omega) (by decide)));clear d j X;go_wp2;go_ret;exact C.out.fin (by simp) (by simp) (by simp only[List.length_append,List.length_cons,List.length_nil];omega) (by omega)
 ·go_wp2_with fail
  refine(cX R _ _ C.out.rd (by omega)).mono ?_;rintro e b ⟨t,rfl,ht,hR,f⟩;replace C:=ae (C.out.only f hR);clear f hR
  iterate 2
   go_wp2_with fail;first | (with_reducible refine(aR _ _).mono ?_) | (with_reducible refine(bh _ _ _).mono ?_) | (with_reducible refine(aY _ _).mono ?_)
   rintro e b ⟨rfl,n⟩;replace C:=ae (C.out.below n);clear n
  go_wp2_with fail;refine(aA R _ 3 _ C.out.rd (by omega) (by omega) (by omega)).mono ?_;rintro e b ⟨y,rfl,y0,y1,hR,f⟩;replace C:=ae (C.out.only f hR);clear f hR
  iterate 2
   go_wp2_with fail;first | (with_reducible refine(aR _ _).mono ?_) | (with_reducible refine(bh _ _ _).mono ?_) | (with_reducible refine(aY _ _).mono ?_)
   rintro e b ⟨rfl,n⟩;replace C:=ae (C.out.below n);clear n
  have X:=ae (C.out.below ((q9 b).alloc ly (.cells #[.int .i64 1,.string t,.int .i64 0,.int .i64 12,.string ⟨#[]⟩,.int .i64 0,.int .i64 5,.string ⟨#[]⟩,.int .i64 y,.int .i64 12,.string ⟨#[]⟩,.int .i64 0] 176)));have ln:=C.out.le;go_wp2_with (at_builtin;refine bV rfl (.tmp 45) (.tmp 54) rfl w.heap.size g c L (by simp[Act.eval]) X.out.ir ⟨b.heap.size,0,none⟩ 4 4 [(1,t.data.toList,0),(12,[],0),(5,[],y),(12,[],0)] (by simp[Act.eval]) rfl (by simp) (bU b #[.int .i64 1,.string t,.int .i64 0,.int .i64 12,.string ⟨#[]⟩,.int .i64 0,.int .i64 5,.string ⟨#[]⟩,.int .i64 y,.int .i64 12,.string ⟨#[]⟩,.int .i64 0] _) (by simp only[List.length_cons,List.length_nil];omega) (by have:=C.out.o.size;simp;omega) ?_);intro N c1 V d j;replace C:=ae (C.out.add _ d j (dM (by omega) (by intro i hi;simp only[List.mem_cons,nj,or_false] at hi;rcases hi with rfl | rfl | rfl<;>exact Nat.zero_le _)));clear d j X;go_wp2;go_ret;exact C.out.fin (by simp) (by simp) (by simp only[List.length_append,List.length_cons,List.length_nil];omega) (by omega)
 ·go_wp2_with fail
  refine(cX R _ _ C.out.rd (by omega)).mono ?_;rintro e b ⟨t,rfl,ht,hR,f⟩;replace C:=ae (C.out.only f hR);clear f hR
  iterate 2
   go_wp2_with fail;first | (with_reducible refine(aR _ _).mono ?_) | (with_reducible refine(bh _ _ _).mono ?_) | (with_reducible refine(aY _ _).mono ?_)
   rintro e b ⟨rfl,n⟩;replace C:=ae (C.out.below n);clear n
  have X:=ae (C.out.below ((q9 b).alloc ly (.cells #[.int .i64 1,.string t,.int .i64 0,.int .i64 13,.string ⟨#[]⟩,.int .i64 0] 176)));have ln:=C.out.le;go_wp2_with (at_builtin;refine bV rfl (.tmp 58) (.tmp 63) rfl w.heap.size g c L (by simp[Act.eval]) X.out.ir ⟨b.heap.size,0,none⟩ 2 2 [(1,t.data.toList,0),(13,[],0)] (by simp[Act.eval]) rfl (by simp) (bU b #[.int .i64 1,.string t,.int .i64 0,.int .i64 13,.string ⟨#[]⟩,.int .i64 0] _) (by simp only[List.length_cons,List.length_nil];omega) (by have:=C.out.o.size;simp;omega) ?_);intro N c1 V d j;replace C:=ae (C.out.add _ d j (dM (by omega) (by decide)));clear d j X;go_wp2;go_ret;exact C.out.fin (by simp) (by simp) (by simp only[List.length_append,List.length_cons,List.length_nil];omega) (by omega)
 ·have D:=fd (by omega)
  obtain⟨aq,bt,Z⟩:=ex D;go_wp2_with fail;refine(IH.out D R _ at_ _ C.out.rd (by omega) (by omega) (by omega)).mono ?_;rintro e b ⟨M,K,I,rfl,hM,l,A,u,q1,ld,hR,f⟩;replace C:=ae (C.out.only f hR);have J:=ae hM;have s:=ae u;have m:=ae l;clear f hR hM u l;have ln:=C.out.le;go_wp2_with (at_builtin;refine bV rfl (.tmp 67) (.tmp 72) rfl w.heap.size g c L (by simp[Act.eval]) C.out.ir ⟨K,0,none⟩ M.length I M (by simp[Act.eval]) rfl m.out J.out.news (by omega) C.out.o.size ?_);intro N c1 V d j;replace C:=ae (C.out.join d j s.out);clear d j J s;generalize hL:L++M=r at C;have hn1:L.length+M.length=r.length:=by rw[<-hL,List.length_append]
  rw[hn1];have T:r.length<=L.length+H:=by omega
  have d1:L.length<r.length:=by have:=List.length_pos_iff.2 m.out;omega
  clear hL hn1 ln m A;go_wp2_with fail;refine(IH.out D R _ (at_+(r.length:Int)) _ C.out.rd (by omega) (by omega) (by omega)).mono ?_;rintro e b ⟨M,K,I,rfl,hM,l,A,u,q2,la,hR,f⟩;replace C:=ae (C.out.only f hR);have J:=ae hM;have s:=ae u;have m:=ae l;clear f hR hM u l;have ln:=C.out.le;go_wp2_with (at_builtin;refine bV rfl (.tmp 74) (.tmp 82) rfl w.heap.size N c1 r (by simp[Act.eval]) C.out.ir ⟨K,0,none⟩ M.length I M (by simp[Act.eval]) rfl m.out J.out.news (by omega) C.out.o.size ?_);intro g2 c2 W2 d j;replace C:=ae (C.out.join d j s.out);clear d j J s;generalize hL:r++M=E at C;have hn1:r.length+M.length=E.length:=by rw[<-hL,List.length_append]
  rw[hn1];have b2:E.length<=r.length+H:=by omega
  have d2:r.length<E.length:=by have:=List.length_pos_iff.2 m.out;omega
  clear hL hn1 ln m A;go_wp2_with fail;refine(aA R _ 2 _ C.out.rd (by omega) (by omega) (by omega)).mono ?_;rintro e b ⟨y,rfl,y0,y1,hR,f⟩;replace C:=ae (C.out.only f hR);clear f hR;go_wp2_with fail;first | (with_reducible refine(aR _ _).mono ?_) | (with_reducible refine(bh _ _ _).mono ?_) | (with_reducible refine(aY _ _).mono ?_)
  rintro e b ⟨rfl,n⟩;replace C:=ae (C.out.below n);clear n;have X:=ae (C.out.below ((q9 b).alloc ly (.cells #[.int .i64 (2+4*y),.string ⟨#[]⟩,.int .i64 0] 176)));have ln:=C.out.le;go_wp2_with (at_builtin;refine bV rfl (.tmp 84) (.tmp 90) rfl w.heap.size g2 c2 E (by simp[Act.eval]) X.out.ir ⟨b.heap.size,0,none⟩ 1 1 [((2+4*y),[],0)] (by simp[Act.eval]) rfl (by simp) (bU b #[.int .i64 (2+4*y),.string ⟨#[]⟩,.int .i64 0] _) (by simp only[List.length_cons,List.length_nil];omega) (by have:=C.out.o.size;simp;omega) ?_);intro g3 c3 W3 d j;replace C:=ae (C.out.add _ d j (fun i hi=>by rw[List.mem_singleton.1 hi];exact Nat.zero_le _));clear d j X;go_wp2;go_ret;exact C.out.fin (by simp) (by simp) (by simp only[List.length_append,List.length_cons,List.length_nil];omega) (by omega)
 ·have D:=fd (by omega)
  obtain⟨aq,bt,Z⟩:=ex D;go_wp2_with fail;refine(IH.out D R _ at_ _ C.out.rd (by omega) (by omega) (by omega)).mono ?_;rintro e b ⟨M,K,I,rfl,hM,l,A,u,q1,ld,hR,f⟩;replace C:=ae (C.out.only f hR);have J:=ae hM;have s:=ae u;have m:=ae l;clear f hR hM u l;have ln:=C.out.le;go_wp2_with (at_builtin;refine bV rfl (.tmp 94) (.tmp 99) rfl w.heap.size g c L (by simp[Act.eval]) C.out.ir ⟨K,0,none⟩ M.length I M (by simp[Act.eval]) rfl m.out J.out.news (by omega) C.out.o.size ?_);intro N c1 V d j;replace C:=ae (C.out.join d j s.out);clear d j J s;generalize hL:L++M=r at C;have hn1:L.length+M.length=r.length:=by rw[<-hL,List.length_append]
  rw[hn1];have T:r.length<=L.length+H:=by omega
  have d1:L.length<r.length:=by have:=List.length_pos_iff.2 m.out;omega
  clear hL hn1 ln m A;go_wp2_with fail;refine(aA R _ 3 _ C.out.rd (by omega) (by omega) (by omega)).mono ?_;rintro e b ⟨x,rfl,x0,x1,hR,f⟩;replace C:=ae (C.out.only f hR);clear f hR;go_wp2_with fail;refine(aA R _ 4 _ C.out.rd (by omega) (by omega) (by omega)).mono ?_;rintro e b ⟨y,rfl,y0,y1,hR,f⟩;replace C:=ae (C.out.only f hR);clear f hR;go_wp2_with fail;first | (with_reducible refine(aR _ _).mono ?_) | (with_reducible refine(bh _ _ _).mono ?_) | (with_reducible refine(aY _ _).mono ?_)
  rintro e b ⟨rfl,n⟩;replace C:=ae (C.out.below n);clear n;have X:=ae (C.out.below ((q9 b).alloc ly (.cells #[.int .i64 (3+x),.string ⟨#[]⟩,.int .i64 y] 176)));have ln:=C.out.le;go_wp2_with (at_builtin;refine bV rfl (.tmp 101) (.tmp 108) rfl w.heap.size N c1 r (by simp[Act.eval]) X.out.ir ⟨b.heap.size,0,none⟩ 1 1 [((3+x),[],y)] (by simp[Act.eval]) rfl (by simp) (bU b #[.int .i64 (3+x),.string ⟨#[]⟩,.int .i64 y] _) (by simp only[List.length_cons,List.length_nil];omega) (by have:=C.out.o.size;simp;omega) ?_);intro g2 c2 W2 d j;replace C:=ae (C.out.add _ d j (fun i hi=>by rw[List.mem_singleton.1 hi];exact Nat.zero_le _));clear d j X;go_wp2;go_ret;exact C.out.fin (by simp) (by simp) (by simp only[List.length_append,List.length_cons,List.length_nil];omega) (by omega)
 ·rcases hk with rfl | rfl
  all_goals
   have D:=fd (by omega);obtain⟨aq,bt,Z⟩:=ex D;go_wp2_with fail;refine(IH.out D R _ at_ _ C.out.rd (by omega) (by omega) (by omega)).mono ?_;rintro e b ⟨M,K,I,rfl,hM,l,A,u,q1,ld,hR,f⟩;replace C:=ae (C.out.only f hR);have J:=ae hM;have s:=ae u;have m:=ae l;clear f hR hM u l;have ln:=C.out.le;go_wp2_with (at_builtin;refine bV rfl (.tmp 113) (.tmp 118) rfl w.heap.size g c L (by simp[Act.eval]) C.out.ir ⟨K,0,none⟩ M.length I M (by simp[Act.eval]) rfl m.out J.out.news (by omega) C.out.o.size ?_);intro N c1 V d j;replace C:=ae (C.out.join d j s.out);clear d j J s;generalize hL:L++M=r at C;have hn1:L.length+M.length=r.length:=by rw[<-hL,List.length_append]
   rw[hn1];have T:r.length<=L.length+H:=by omega
   have d1:L.length<r.length:=by have:=List.length_pos_iff.2 m.out;omega
   clear hL hn1 ln m A;go_wp2_with fail;first | (with_reducible refine(aR _ _).mono ?_) | (with_reducible refine(bh _ _ _).mono ?_) | (with_reducible refine(aY _ _).mono ?_)
   rintro e b ⟨rfl,n⟩;replace C:=ae (C.out.below n);clear n;have X:=ae (C.out.below ((q9 b).alloc ly (.cells #[.int .i64 11,.string ⟨#[]⟩,.int .i64 0] 176)));have ln:=C.out.le;go_wp2_with (at_builtin;refine bV rfl (.tmp 122) (.tmp 124) rfl w.heap.size N c1 r (by simp[Act.eval]) X.out.ir ⟨b.heap.size,0,none⟩ 1 1 [(11,[],0)] (by simp[Act.eval]) rfl (by simp) (bU b #[.int .i64 11,.string ⟨#[]⟩,.int .i64 0] _) (by simp only[List.length_cons,List.length_nil];omega) (by have:=C.out.o.size;simp;omega) ?_);intro g2 c2 W2 d j;replace C:=ae (C.out.add _ d j (fun i hi=>by rw[List.mem_singleton.1 hi];exact Nat.zero_le _));clear d j X;generalize hL:r++[(11,[],0)]=E at C;have hn1:r.length+1=E.length:=by rw[<-hL,List.length_append];rfl
   rw[hn1];have b2:E.length<=r.length+1:=by omega
   have d2:r.length<E.length:=by omega
   clear hL hn1 ln;go_wp2_with fail;refine(IH.out D R _ (at_+(E.length:Int)) _ C.out.rd (by omega) (by omega) (by omega)).mono ?_;rintro e b ⟨M,K,I,rfl,hM,l,A,u,q3,hq3,hR,f⟩;replace C:=ae (C.out.only f hR);have J:=ae hM;have s:=ae u;have m:=ae l;clear f hR hM u l;have ln:=C.out.le;go_wp2_with (at_builtin;refine bV rfl (.tmp 126) (.tmp 134) rfl w.heap.size g2 c2 E (by simp[Act.eval]) C.out.ir ⟨K,0,none⟩ M.length I M (by simp[Act.eval]) rfl m.out J.out.news (by omega) C.out.o.size ?_);intro g3 c3 W3 d j;replace C:=ae (C.out.join d j s.out);clear d j J s;generalize hL:E++M=G at C;have hn1:E.length+M.length=G.length:=by rw[<-hL,List.length_append]
   rw[hn1];have b3:G.length<=E.length+H:=by omega
   have d3:E.length<G.length:=by have:=List.length_pos_iff.2 m.out;omega
   clear hL hn1 ln m A;go_wp2_with fail;first | (with_reducible refine(aR _ _).mono ?_) | (with_reducible refine(bh _ _ _).mono ?_) | (with_reducible refine(aY _ _).mono ?_)
   rintro e b ⟨rfl,n⟩;replace C:=ae (C.out.below n);clear n;have X:=ae (C.out.below ((q9 b).alloc ly (.cells #[.int .i64 10,.string ⟨#[]⟩,.int .i64 0] 176)));have ln:=C.out.le;go_wp2_with (at_builtin;refine bV rfl (.tmp 138) (.tmp 140) rfl w.heap.size g3 c3 G (by simp[Act.eval]) X.out.ir ⟨b.heap.size,0,none⟩ 1 1 [(10,[],0)] (by simp[Act.eval]) rfl (by simp) (bU b #[.int .i64 10,.string ⟨#[]⟩,.int .i64 0] _) (by simp only[List.length_cons,List.length_nil];omega) (by have:=C.out.o.size;simp;omega) ?_);intro g4 c4 W4 d j;replace C:=ae (C.out.add _ d j (fun i hi=>by rw[List.mem_singleton.1 hi];exact Nat.zero_le _));clear d j X;generalize hL:G++[(10,[],0)]=S at C;have hn1:G.length+1=S.length:=by rw[<-hL,List.length_append];rfl
   rw[hn1];have b4:S.length<=G.length+1:=by omega
   have d4:G.length<S.length:=by omega
   clear hL hn1 ln;obtain⟨⟨n0,cn⟩,fz⟩:=C.out.ir.cellN (i:=r.length) (by omega);have il:(r.length:Int)<(S.length:Int):=by omega
   have gl:=C.out.ir.lt.2;go_wp2_with fail;refine(kE _ _).mono ?_;rintro e b ⟨rfl,hw⟩;rw[hw];clear hw;generalize (if 200<at_+(S.length:Int) then 200 else at_+(S.length:Int))=sv;obtain⟨U,hlk,P,d⟩:=C.out.ir.setN (i:=r.length) (by omega) sv;replace C:=ae (C.out.low ((Below.refl w.heap.size W4).setCell (p:=⟨g4,r.length*3+2,none⟩) C.out.ir.lt.1 (.int .i64 sv)) d (P C.out.tx));go_upto_region 33 with fail;generalize W4.setCell ⟨g4,r.length*3+2,none⟩ (.int .i64 sv)=W5 at C ⊢;rw[<-hlk];have b5:U.length<=S.length:=by omega
   have d5:S.length<=U.length:=by omega
   obtain⟨g5,W⟩:∃ x,x=g4:=⟨_,rfl⟩
   obtain⟨c5,Y⟩:∃ x,x=c4:=⟨_,rfl⟩
   rw[<-W,<-Y];rw[<-W,<-Y] at C;clear hlk P d cn fz gl il W Y;go_wp2_with fail;refine(IH.out D R _ (at_+(U.length:Int)) _ C.out.rd (by omega) (by omega) (by omega)).mono ?_;rintro e b ⟨M,K,I,rfl,hM,l,A,u,q6,hq6,hR,f⟩;replace C:=ae (C.out.only f hR);have J:=ae hM;have s:=ae u;have m:=ae l;clear f hR hM u l;have ln:=C.out.le;go_wp2_with (at_builtin;refine bV rfl (.tmp 151) (.tmp 159) rfl w.heap.size g5 c5 U (by simp[Act.eval]) C.out.ir ⟨K,0,none⟩ M.length I M (by simp[Act.eval]) rfl m.out J.out.news (by omega) C.out.o.size ?_);intro g6 c6 W6 d j;replace C:=ae (C.out.join d j s.out);clear d j J s;generalize hL:U++M=Q at C;have hn1:U.length+M.length=Q.length:=by rw[<-hL,List.length_append]
   rw[hn1];have b6:Q.length<=U.length+H:=by omega
   have d6:U.length<Q.length:=by have:=List.length_pos_iff.2 m.out;omega
   clear hL hn1 ln m A;obtain⟨⟨n0,cn⟩,fz⟩:=C.out.ir.cellN (i:=G.length) (by omega);have il:(G.length:Int)<(Q.length:Int):=by omega
   have gl:=C.out.ir.lt.2;go_wp2_with fail;refine(kE _ _).mono ?_;rintro e b ⟨rfl,hw⟩;rw[hw];clear hw;generalize (if 200<at_+(Q.length:Int) then 200 else at_+(Q.length:Int))=sv;obtain⟨L7,hlk,P,d⟩:=C.out.ir.setN (i:=G.length) (by omega) sv;replace C:=ae (C.out.low ((Below.refl w.heap.size W6).setCell (p:=⟨g6,G.length*3+2,none⟩) C.out.ir.lt.1 (.int .i64 sv)) d (P C.out.tx));go_upto_region 35 with fail;generalize W6.setCell ⟨g6,G.length*3+2,none⟩ (.int .i64 sv)=W7 at C ⊢;rw[<-hlk];have b7:L7.length<=Q.length:=by omega
   have d7:Q.length<=L7.length:=by omega
   obtain⟨g7,W⟩:∃ x,x=g6:=⟨_,rfl⟩
   obtain⟨c7,Y⟩:∃ x,x=c6:=⟨_,rfl⟩
   rw[<-W,<-Y];rw[<-W,<-Y] at C;clear hlk P d cn fz gl il W Y;go_wp2;go_ret;exact C.out.fin rfl (List.length_pos_iff.1 (by omega)) (by omega) (by omega)
 ·go_wp2_with fail
  refine(fy R _ _ C.out.rd (by omega)).mono ?_;rintro e b ⟨t,rfl,ht,q2,la,hR,f⟩;replace C:=ae (C.out.only f hR);clear f hR
  iterate 4
   go_wp2_with fail;first | (with_reducible refine(aR _ _).mono ?_) | (with_reducible refine(bh _ _ _).mono ?_) | (with_reducible refine(aY _ _).mono ?_)
   rintro e b ⟨rfl,n⟩;replace C:=ae (C.out.below n);clear n
  have X:=ae (C.out.below ((q9 b).alloc ly (.cells #[.int .i64 1,.string t,.int .i64 0,.int .i64 7,.string ⟨#[]⟩,.int .i64 0,.int .i64 8,.string ⟨#[]⟩,.int .i64 0,.int .i64 9,.string ⟨#[]⟩,.int .i64 0] 176)));have ln:=C.out.le;go_wp2_with (at_builtin;refine bV rfl (.tmp 171) (.tmp 178) rfl w.heap.size g c L (by simp[Act.eval]) X.out.ir ⟨b.heap.size,0,none⟩ 4 4 [(1,t.data.toList,0),(7,[],0),(8,[],0),(9,[],0)] (by simp[Act.eval]) rfl (by simp) (bU b #[.int .i64 1,.string t,.int .i64 0,.int .i64 7,.string ⟨#[]⟩,.int .i64 0,.int .i64 8,.string ⟨#[]⟩,.int .i64 0,.int .i64 9,.string ⟨#[]⟩,.int .i64 0] _) (by simp only[List.length_cons,List.length_nil];omega) (by have:=C.out.o.size;simp;omega) ?_);intro N c1 V d j;replace C:=ae (C.out.add _ d j (dM (by omega) (by decide)));clear d j X;go_wp2;go_ret;exact C.out.fin (by simp) (by simp) (by simp only[List.length_append,List.length_cons,List.length_nil];omega) (by omega)
theorem uf (R p:Nat)(at_:Int)(w:World)(hR:Rd w R p)(b:p+14<=30000)(d:0<=at_)(f:at_+4<=10000):Calls Tryz.prog 185 #[.pointer (some ⟨R,0,none⟩),.int .i64 at_,.int .i64 0] w fun e c=>DI w R (p+14) 4 e c :=
 nH 0 4 14 4 14 (by omega) (by omega) (by omega) (by omega) (by omega) (fun h=>absurd h (by omega)) (fun h=>absurd h (by omega)) R p at_ w hR b d f
theorem jK (d b c:Nat)(hd3:(d:Int)<=10)(hb:b<=44)(i:4<=b)(k:∀ (R p:Nat) (at_:Int) (w:World),Rd w R p->p+c<=30000->0<=at_->at_+(b:Int)<=10000->Calls Tryz.prog 185 #[.pointer (some ⟨R,0,none⟩),.int .i64 at_,.int .i64 d] w fun e f=>DI w R (p+c) b e f)
  (R p:Nat) (at_:Int) (w:World) (hR:Rd w R p) (j:p+(3*c+14)<=30000) (g:0<=at_) (h:at_+((3*b+2:Nat):Int)<=10000) :
  Calls Tryz.prog 185 #[.pointer (some ⟨R,0,none⟩),.int .i64 at_,.int .i64 ((d:Int)+1)] w fun e f=>DI w R (p+(3*c+14)) (3*b+2) e f :=
 nH ((d:Int)+1) b c (3*b+2) (3*c+14) (by omega) (by omega) hb (by omega) (by omega) (fun _=>⟨Nat.le_refl _,Nat.le_refl _,i⟩) (fun _=>by rw[Int.add_sub_cancel];exact k) R p at_ w hR j g h
def VD (b c:Nat)(d:Int):Prop:=∀ (R p:Nat) (at_:Int) (w:World),Rd w R p->p+b<=30000->0<=at_->at_+(c:Int)<=10000->Calls Tryz.prog 185 #[.pointer (some ⟨R,0,none⟩),.int .i64 at_,.int .i64 d] w fun e f=>DI w R (p+b) c e f
theorem vd0:VD 14 4 ((0:Nat):Int):=fun R p at_ w hR b c h1=>uf R p at_ w hR b c (by omega)
theorem vd1:VD 56 14 ((1:Nat):Int):=fun R p at_ w hR hp b h1=>jK 0 4 14 (by omega) (by omega) (by omega) vd0 R p at_ w hR (by omega) b (by omega)
theorem vd2:VD 182 44 ((2:Nat):Int):=fun R p at_ w hR hp b h1=>jK 1 14 56 (by omega) (by omega) (by omega) vd1 R p at_ w hR (by omega) b (by omega)
theorem vd3:VD 560 134 ((3:Nat):Int):=fun R p at_ w hR hp b h1=>jK 2 44 182 (by omega) (by omega) (by omega) vd2 R p at_ w hR (by omega) b (by omega)
theorem DI.mono {w b:World}{R q q' n d:Nat}{e:Ending}(h:DI w R q n e b)(i:q<=q')(hn:n<=d):DI w R q' d e b:=by obtain⟨L,g,c,r,j,f,l,m,p,o,k⟩:=h;exact⟨L,g,c,r,j,f,Nat.le_trans l hn,m,p,Nat.le_trans o i,k⟩
theorem qL (R p:Nat)(z:Int)(hz:z=0∨z=1)(w:World)(hR:Rd w R p)(hp:p<=29000):Calls Tryz.prog 185 #[.pointer (some ⟨R,0,none⟩),.int .i64 0,.int .i64 (2+z)] w fun e b=>DI w R (p+560) 134 e b:=by
 rcases hz with rfl | rfl
 ·exact(vd2 R p 0 w hR (by omega) (by omega) (by omega)).mono fun e b h=>h.mono (by omega) (by omega)
 ·exact vd3 R p 0 w hR (by omega) (by omega) (by omega)
def ST (w:World)(R b:Nat)(W:World)(q:Nat):Prop:=Rd W R q/\Only R w W/\PB W b (.slice none 0 0)/\R<w.heap.size/\w.heap.size<=b
def SC (w:World)(R b:Nat)(W:World)(q g c:Nat)(L:List I3)(n:Nat):Prop:=ST w R b W q/\IR W (b+1) g c L/\L.length<=n/\∀ i∈L,i.2.1.length<=5000
theorem ST.rd {w W:World}{R b q:Nat}(h:ST w R b W q):Rd W R q:=h.1
theorem ST.lt {w W:World}{R b q:Nat}(h:ST w R b W q):b<W.heap.size:=h.2.2.1.lt
theorem ST.low {w W W':World}{R b q:Nat}(h:ST w R b W q)(hb:Below (b+1) W W'):ST w R b W' q:=by obtain⟨g,i,c,f,d⟩:=h;exact⟨g.low hb (by omega),i.then (hb.mono (by omega)),c.below hb (by omega),f,d⟩
theorem ST.below {w W W':World}{R b q:Nat}(h:ST w R b W q)(hb:Below W.heap.size W W'):ST w R b W' q:=h.low (hb.mono h.lt)
theorem PB.only {w c:World}{b R:Nat}{v:Value}(h:PB w b v)(d:Only R w c)(hR:b≠R):PB c b v:=(d.block b h.lt hR).trans h
theorem ST.only {w W W':World}{R c q q':Nat}(h:ST w R c W q)(b:Only R W W')(hR:Rd W' R q'):ST w R c W' q':=by obtain⟨h1,i,d,g,f⟩:=h;exact⟨hR,i.trans b,d.only b (by omega),g,f⟩
theorem ST.new {w:World}{R q:Nat}(h:Rd w R q):ST w R w.heap.size (w.alloc (.cells #[.slice none 0 0] 31)) q:=by have b:=(q9 w).alloc ly (.cells #[.slice none 0 0] 31);exact⟨h.below b ly,Only.of_below b,heap_alloc_new w _,h.lt,Nat.le_refl _⟩
theorem SC.st {w W:World}{R b q g c n:Nat}{L:List I3}(h:SC w R b W q g c L n):ST w R b W q:=h.1
theorem SC.ir {w W:World}{R b q g c n:Nat}{L:List I3}(h:SC w R b W q g c L n):IR W (b+1) g c L:=h.2.1
theorem SC.len {w W:World}{R b q g c n:Nat}{L:List I3}(h:SC w R b W q g c L n):L.length<=n:=h.2.2.1
theorem SC.up {w W:World}{R b q g c n m:Nat}{L:List I3}(h:SC w R b W q g c L n)(d:n<=m):SC w R b W q g c L m:=⟨h.1,h.2.1,Nat.le_trans h.2.2.1 d,h.2.2.2⟩
theorem SC.below {w W W':World}{R b q g c n:Nat}{L:List I3}(h:SC w R b W q g c L n)(hb:Below W.heap.size W W'):SC w R b W' q g c L n :=
 ⟨h.1.below hb,h.2.1.below hb ly,h.2.2⟩
theorem SC.only {w W W':World}{R d q q' g c n:Nat}{L:List I3}(h:SC w R d W q g c L n)(b:Only R W W')(hR:Rd W' R q'):SC w R d W' q' g c L n :=
 ⟨h.1.only b hR,h.2.1.only b (by have:=h.1.2.2.2;omega),h.2.2⟩
theorem SC.di {w W W':World}{R b q q' g c n:Nat}{L:List I3}(h:ST w R b W q)(j:IR W' W.heap.size g c L)(hn:L.length<=n)(d:∀ i∈L,i.2.1.length<=5000)(f:Only R W W')(hR:Rd W' R q'):SC w R b W' q' g c L n :=
 ⟨h.only f hR,aB j h.lt,hn,d⟩
theorem SC.app {w W W':World}{R b q g c g' c' n n':Nat}{L M:List I3}(d:Array Value)(h:SC w R b W q g c L n)(f:IR W' (b+1) g' c' (L++M))(m:(W.alloc (.cells d 176)).grownBy W' (some g))(hn:n+M.length<=n')(j:∀ i∈M,i.2.1.length<=5000):SC w R b W' q g' c' (L++M) n':=by
 have o:=h.1.lt;have l:=bg ((Below.refl (b+1) W).alloc o (.cells d 176)) m (by simp;omega) (fun k e=>by have:=h.2.1.lt;simp at e;omega);refine⟨h.1.low l,f,by rw[List.length_append];have:=h.len;omega,fun i hi=>?_⟩;rcases List.mem_append.1 hi with hi | hi
 ·exact h.2.2.2 i hi
 ·exact j i hi
theorem IR.new (W:World)(b:Nat)(hb:b<=W.heap.size)(L:List I3)(c:Array Value)(d:c.toList=i3L L)(n:Nat)(hn:n=L.length)(hm:n<=100000):IR (W.alloc (.cells c 176)) b W.heap.size n L:=by
 subst hn;have hz:c.size=L.length*3:=by rw[<-gG,<-d,Array.length_toList]
 refine⟨gG L,.inr ⟨W.heap.size,L.length,c,rfl,hb,heap_alloc_new W _,Nat.le_refl _,by unfold maxLen;omega,hz,?_⟩⟩;rw[d,List.take_of_length_le (by rw[gG];omega)]
theorem SC.lit {w W:World}{R c q:Nat}(h:ST w R c W q)(L:List I3)(b:Array Value)(f:b.toList=i3L L)(n:Nat)(hn:n=L.length)(g:n<=100000)(d:∀ i∈L,i.2.1.length<=5000):SC w R c (W.alloc (.cells b 176)) q W.heap.size n L n :=
 ⟨h.below (br.alloc ly _),IR.new W (c+1) h.lt L b f n hn g,by omega,d⟩
theorem SC.fin {w W:World}{R b q g c n:Nat}{L:List I3}(h:SC w R b W q g c L n)(v:Value):PB (W.setCell ⟨b,0,none⟩ v) b v/\IR (W.setCell ⟨b,0,none⟩ v) w.heap.size g c L/\L.length<=n/\(∀ i∈L,i.2.1.length<=5000)/\Rd (W.setCell ⟨b,0,none⟩ v) R q/\Only R w (W.setCell ⟨b,0,none⟩ v):=by obtain⟨⟨r,j,d,m,l⟩,o,k,f⟩:=h;have B:=(Below.refl w.heap.size W).setCell (p:=⟨b,0,none⟩) l v;exact⟨d.set v,aB (vL o (by omega) v) (by omega),k,f,r.low B m,j.then B⟩
def DP (w:World)(R q lo n:Nat)(e:Ending)(w':World):Prop:=∃ (L:List I3) (g c:Nat),e=.returned (.agg #[.slice (some ⟨g,0,none⟩) L.length c])/\IR w' w.heap.size g c L/\lo<=L.length/\L.length<=n/\(∀ i∈L,i.2.1.length<=5000)/\∃ q':Nat,q'<=q/\Rd w' R q'/\Only R w w'
theorem cy {fn:Func}{p:Tmp}(h:fn.results=#[.cell p 31])(tmps:Array Value)(w:World)(g:Nat)(v:Value)(b:tmps.getD p undef=.pointer (some ⟨g,0,none⟩))(c:PB w g v):(results fn tmps).run Tryz.prog w=.ok (.agg #[v]) w :=
 results_cell_row h tmps w g 31 #[v] (0,0) _ b c Tryz.underlying31 rfl qK
def cE (L:List I3)(i:Nat):Ins:=⟨(L.getD i (0,[],0)).1,⟨(L.getD i (0,[],0)).2.1.toArray⟩,(L.getD i (0,[],0)).2.2⟩
theorem ug:∀ (L:List I3) (i:Nat),i<L.length->(i3L L)[i*3]?=some (.int .i64 (cE L i).op)/\(i3L L)[i*3+1]?=some (.string (cE L i).s)/\(i3L L)[i*3+2]?=some (.int .i64 (cE L i).n)
 | [],i,h=>by simp at h
 | x :: L,0,_=>⟨rfl,rfl,rfl⟩
 | x :: L,i+1,h=>by
  have d:=ug L i (by simpa using h);have c:(i3V x).length=3:=rfl;have e:∀ k,(i3L (x :: L))[(i+1)*3+k]?=(i3L L)[i*3+k]?:=fun k=>by show(i3V x++i3L L)[(i+1)*3+k]?=_;rw[List.getElem?_append_right (by rw[c];omega),c,show(i+1)*3+k - 3=i*3+k by omega]
  have b:=e 0;rw[Nat.add_zero,Nat.add_zero] at b;rw[b,e 1,e 2];exact d
theorem IR.at {w:World}{b g c:Nat}{L:List I3}(h:IR w b g c L):∀ i,i<L.length->AtIns w g 0 i (cE L i):=by intro i hi;obtain⟨d,f,j⟩:=ug L i hi;have c0:=h.news _ _ d;have c1:=h.news _ _ f;have c2:=h.news _ _ j;rw[fm] at c0 c1 c2;exact⟨c0,c1,c2⟩
theorem xJ {L:List I3}(b:∀ i∈L,i.2.1.length<=5000):∀ i,i<L.length->(cE L i).s.size<=maxLen:=by
 intro i hi;have h:=b L[i] (gz hi);have e:L.getD i (0,[],0)=L[i]:=by simp[hi]
 show(L.getD i (0,[],0)).2.1.toArray.size<=maxLen;rw[e,List.size_toArray];unfold maxLen;omega
theorem qM (n:Nat)(w:World)(hn:(n:Int)<=300):Calls Tryz.prog 186 #[.int .i64 n] w fun e o=>∃ (L:List I3) (g:Nat),e=.returned (.slice (some ⟨g,0,none⟩) 7 7)/\IR o w.heap.size g 7 L/\L.length=7/\(∀ i∈L,i.2.1.length<=5000)/\Below w.heap.size w o:=by
 go_enter Tryz.func186,Tryz.ntmps186;go_wp2_with fail;refine(fx ⟨#[97,32]⟩ n _ (by show 2*n<=4000;omega) (by omega)).mono ?_;rintro e Wx ⟨t,rfl,k,j⟩;rw[j];have r:t.size<=5000:=Nat.le_trans k (by show 2*n<=5000;omega);clear k j;go_wp2_with fail;refine(aY t _).mono ?_;rintro e W1 ⟨rfl,b⟩;have m:=ae (b);clear b;go_wp2_with fail;refine(aR 7 _).mono ?_;rintro e W2 ⟨rfl,b⟩;have d:=ae (m.out.trans (b.mono m.out.size));clear b;go_wp2_with fail;refine(bh 5 0 _).mono ?_;rintro e W3 ⟨rfl,b⟩;have f:=ae (d.out.trans (b.mono d.out.size));clear b;go_wp2_with fail;refine(aR 13 _).mono ?_;rintro e W4 ⟨rfl,b⟩;have p:=ae (f.out.trans (b.mono f.out.size));clear b;go_wp2_with fail;refine(aR 9 _).mono ?_;rintro e W5 ⟨rfl,b⟩;have h:=ae (p.out.trans (b.mono p.out.size));clear b;go_wp2_with fail;refine(bh 4 2 _).mono ?_;rintro e W6 ⟨rfl,b⟩;have l:=ae (h.out.trans (b.mono h.out.size));clear b;go_wp2_with fail;refine(bh 10 1 _).mono ?_;rintro e q ⟨rfl,b⟩;have c:=ae (l.out.trans (b.mono l.out.size));clear b;go_wp2;go_ret;refine⟨[(1,t.data.toList,0),(7,[],0),(5,[],0),(13,[],0),(9,[],0),(4,[],2),(10,[],1)],_,rfl,IR.new q _ c.out.size _ _ rfl _ rfl (by omega),rfl,?_,c.out.alloc c.out.size _⟩;intro i hi;simp only[List.mem_cons,nj,or_false] at hi;rcases hi with rfl | rfl | rfl | rfl | rfl | rfl | rfl
 ·show t.data.toList.length<=5000
  rw[Array.length_toList];exact r
 all_goals exact Nat.zero_le _
theorem gy (R p:Nat)(w:World)(hR:Rd w R p)(hp:p<=20000):Calls Tryz.prog 130 #[.pointer (some ⟨R,0,none⟩)] w fun e w'=>DP w R (p+600) 1 140 e w':=by
 have D:=ae (ST.new hR);clear hR;go_enter Tryz.func130,Tryz.ntmps130;go_wp2_with fail;generalize w.alloc (.cells #[.slice none 0 0] 31)=W0 at D ⊢;refine(aA R _ 2 _ D.out.rd (by omega) (by omega) (by omega)).mono ?_;rintro e W1 ⟨d,rfl,W,T,hR,h⟩;have N:=ae (D.out.only h hR);clear h hR D;go_wp2_with fail;refine(qL R _ d (by omega) _ N.out.rd (by omega)).mono ?_;rintro e W2 ⟨L,g,c,rfl,k,U,hn,A,q2,hq2,hR,h⟩;have C:Hid (SC w R w.heap.size W2 q2 g c L 134):=SC.di N.out k hn A h hR;clear h hR k A U hn N;go_wp2_with fail;refine(aA R _ 24 _ C.out.st.rd (by omega) (by omega) (by omega)).mono ?_;rintro e b ⟨z,rfl,z0,z1,hR,h⟩;replace C:=ae (C.out.only h hR);clear h hR;go_upto_if 13 with fail;go_cut [3] (fun l j=>∃ (L:List I3) (g c q:Nat),l=.slice (some ⟨g,0,none⟩) L.length c/\q<=q2+2/\Hid (SC w R w.heap.size j q g c L 135));case first =>
  rcases(show z=0∨z=1∨z=2∨3<=z by omega) with rfl | rfl | rfl | h3
  ·iterate 1
    go_wp2_with fail;first | (with_reducible refine(aR _ _).mono ?_) | (with_reducible refine(bh _ _ _).mono ?_) | (with_reducible refine(aY _ _).mono ?_)
    rintro e b ⟨rfl,f⟩;replace C:=ae (C.out.below f);clear f
   have X:=ae (C.out.below ((q9 b).alloc ly (.cells #[.int .i64 14,.string ⟨#[]⟩,.int .i64 0] 176)));have ln:=C.out.len;go_wp2_with (at_builtin;refine bV rfl (.tmp 14) (.tmp 16) rfl (w.heap.size+1) g c L (by simp[Act.eval]) X.out.ir ⟨b.heap.size,0,none⟩ 1 1 [(14,[],0)] (by simp[Act.eval]) rfl (by simp) (bU b #[.int .i64 14,.string ⟨#[]⟩,.int .i64 0] _) (by simp only[List.length_cons,List.length_nil];omega) (by have:=C.out.st.lt;simp;omega) ?_;intro B c1 G k r);go_meet;exact⟨_,B,c1,_,by simp,by omega,(C.out.app (n':=135) _ k r (by show 134+1<=135;omega) (fun i hi=>by rw[List.mem_singleton.1 hi];exact Nat.zero_le _))⟩
  ·iterate 1
    go_wp2_with fail;first | (with_reducible refine(aR _ _).mono ?_) | (with_reducible refine(bh _ _ _).mono ?_) | (with_reducible refine(aY _ _).mono ?_)
    rintro e b ⟨rfl,f⟩;replace C:=ae (C.out.below f);clear f
   have X:=ae (C.out.below ((q9 b).alloc ly (.cells #[.int .i64 10,.string ⟨#[]⟩,.int .i64 0] 176)));have ln:=C.out.len;go_wp2_with (at_builtin;refine bV rfl (.tmp 20) (.tmp 22) rfl (w.heap.size+1) g c L (by simp[Act.eval]) X.out.ir ⟨b.heap.size,0,none⟩ 1 1 [(10,[],0)] (by simp[Act.eval]) rfl (by simp) (bU b #[.int .i64 10,.string ⟨#[]⟩,.int .i64 0] _) (by simp only[List.length_cons,List.length_nil];omega) (by have:=C.out.st.lt;simp;omega) ?_;intro B c1 G k r);go_meet;exact⟨_,B,c1,_,by simp,by omega,(C.out.app (n':=135) _ k r (by show 134+1<=135;omega) (fun i hi=>by rw[List.mem_singleton.1 hi];exact Nat.zero_le _))⟩
  ·go_wp2_with fail
   refine(aA R _ 15 _ C.out.st.rd (by omega) (by omega) (by omega)).mono ?_;rintro e b ⟨y,rfl,S,Q,hR,h⟩;replace C:=ae (C.out.only h hR);clear h hR
   iterate 1
    go_wp2_with fail;first | (with_reducible refine(aR _ _).mono ?_) | (with_reducible refine(bh _ _ _).mono ?_) | (with_reducible refine(aY _ _).mono ?_)
    rintro e b ⟨rfl,f⟩;replace C:=ae (C.out.below f);clear f
   have X:=ae (C.out.below ((q9 b).alloc ly (.cells #[.int .i64 (1+y),.string ⟨#[]⟩,.int .i64 0] 176)));have ln:=C.out.len;go_wp2_with (at_builtin;refine bV rfl (.tmp 26) (.tmp 31) rfl (w.heap.size+1) g c L (by simp[Act.eval]) X.out.ir ⟨b.heap.size,0,none⟩ 1 1 [((1+y),[],0)] (by simp[Act.eval]) rfl (by simp) (bU b #[.int .i64 (1+y),.string ⟨#[]⟩,.int .i64 0] _) (by simp only[List.length_cons,List.length_nil];omega) (by have:=C.out.st.lt;simp;omega) ?_;intro B c1 G k r);go_meet;exact⟨_,B,c1,_,by simp,by omega,(C.out.app (n':=135) _ k r (by show 134+1<=135;omega) (fun i hi=>by rw[List.mem_singleton.1 hi];exact Nat.zero_le _))⟩
  ·have n0:(z == 0)=false:=by simp;omega
   have n1:(z == 1)=false:=by simp;omega
   have n2:(z == 2)=false:=by simp;omega
   go_wp2;go_meet;exact⟨L,g,c,_,rfl,by omega,C.out.up (by omega)⟩
 case rest =>
 clear C;obtain⟨H,g0,c0,q3,rfl,hq3,C⟩:=hcut
 iterate 1
  go_wp2_with fail;first | (with_reducible refine(aR _ _).mono ?_) | (with_reducible refine(bh _ _ _).mono ?_) | (with_reducible refine(aY _ _).mono ?_)
  rintro e b ⟨rfl,f⟩;replace C:=ae (C.out.below f);clear f
 have X:=ae (C.out.below ((q9 b).alloc ly (.cells #[.int .i64 15,.string ⟨#[]⟩,.int .i64 0] 176)));have ln:=C.out.len;go_upto_if 38 with (at_builtin;refine bV rfl (.tmp 33) (.tmp 35) rfl (w.heap.size+1) g0 c0 H (by simp[Act.eval]) X.out.ir ⟨b.heap.size,0,none⟩ 1 1 [(15,[],0)] (by simp[Act.eval]) rfl (by simp) (bU b #[.int .i64 15,.string ⟨#[]⟩,.int .i64 0] _) (by simp only[List.length_cons,List.length_nil];omega) (by have:=C.out.st.lt;simp;omega) ?_;intro g c G k r);replace C:=ae (C.out.app (n':=136) _ k r (by show 135+1<=136;omega) (fun i hi=>by rw[List.mem_singleton.1 hi];exact Nat.zero_le _));clear k r X ln;generalize hL:H++[(15,[],0)]=L at C;have hn1:H.length+1=L.length:=by rw[<-hL,List.length_append];rfl
 rw[hn1];clear hL hn1;go_cut [3] (fun l j=>∃ (L:List I3) (g c q:Nat),l=.slice (some ⟨g,0,none⟩) L.length c/\q<=q3/\Hid (SC w R w.heap.size j q g c L 140));case first =>
  by_cases hz:z=3
  ·subst hz
   iterate 4
    go_wp2_with fail;first | (with_reducible refine(aR _ _).mono ?_) | (with_reducible refine(bh _ _ _).mono ?_) | (with_reducible refine(aY _ _).mono ?_)
    rintro e b ⟨rfl,f⟩;replace C:=ae (C.out.below f);clear f
   have u:=ae (SC.lit C.out.st [(1,[97,98,99,100,101,102,103,104],0),(7,[],0),(2,[],0),(10,[],1)] #[.int .i64 1,.string ⟨#[97,98,99,100,101,102,103,104]⟩,.int .i64 0,.int .i64 7,.string ⟨#[]⟩,.int .i64 0,.int .i64 2,.string ⟨#[]⟩,.int .i64 0,.int .i64 10,.string ⟨#[]⟩,.int .i64 1] rfl 4 rfl (by omega) (by decide));go_wp2;go_meet;exact⟨_,_,_,_,rfl,by omega,u.out.up (by omega)⟩
  ·go_wp2
   go_meet;exact⟨L,g,c,_,rfl,by omega,C.out.up (by omega)⟩
 case rest =>
 clear C;obtain⟨L,g,c,q4,rfl,hq4,C⟩:=hcut;go_upto_if 45 with fail;go_cut [3] (fun l j=>∃ (L:List I3) (g c q:Nat),l=.slice (some ⟨g,0,none⟩) L.length c/\q<=q4+1/\Hid (SC w R w.heap.size j q g c L 140));case first =>
  by_cases hz:z=4
  ·subst hz
   go_wp2_with fail;refine(cX R _ _ C.out.st.rd (by omega)).mono ?_;rintro e b ⟨t,rfl,K,hR,h⟩;replace C:=ae (C.out.only h hR);clear h hR
   iterate 4
    go_wp2_with fail;first | (with_reducible refine(aR _ _).mono ?_) | (with_reducible refine(bh _ _ _).mono ?_) | (with_reducible refine(aY _ _).mono ?_)
    rintro e b ⟨rfl,f⟩;replace C:=ae (C.out.below f);clear f
   have u:=ae (SC.lit C.out.st [(1,t.data.toList,0),(13,[],0),(9,[],0),(10,[],0)] #[.int .i64 1,.string t,.int .i64 0,.int .i64 13,.string ⟨#[]⟩,.int .i64 0,.int .i64 9,.string ⟨#[]⟩,.int .i64 0,.int .i64 10,.string ⟨#[]⟩,.int .i64 0] rfl 4 rfl (by omega) (dM (by omega) (by decide)));go_wp2;go_meet;exact⟨_,_,_,_,rfl,by omega,u.out.up (by omega)⟩
  ·go_wp2
   go_meet;exact⟨L,g,c,_,rfl,by omega,C.out.up (by omega)⟩
 case rest =>
 clear C;obtain⟨L,g,c,q5,rfl,hq5,C⟩:=hcut;go_upto_region 14 with fail;go_cut [59] (fun sb j=>∃ (s:Bool) (q:Nat),sb=.bool s/\q<=q5+1/\Hid (SC w R w.heap.size j q g c L 140));case first =>
  by_cases hz:z=7
  ·subst hz
   go_wp2_with fail;refine(aA R _ 3 _ C.out.st.rd (by omega) (by omega) (by omega)).mono ?_;rintro e b ⟨x,rfl,x0,x1,hR,h⟩;replace C:=ae (C.out.only h hR);clear h hR;go_wp2;go_meet;exact⟨_,_,rfl,by omega,C.out⟩
  ·go_wp2
   go_meet;exact⟨_,_,rfl,by omega,C.out⟩
 case rest =>
 clear C;obtain⟨s,P,rfl,hq5b,C⟩:=hcut;go_upto_if 59 with fail;go_cut [3] (fun l j=>∃ (L:List I3) (g c q:Nat),l=.slice (some ⟨g,0,none⟩) L.length c/\q<=P+1/\Hid (SC w R w.heap.size j q g c L 140));case first =>
  cases s with
  | false =>go_wp2;go_meet;exact⟨L,g,c,_,rfl,by omega,C.out⟩
  | true =>
   go_wp2_with fail;refine(aA R _ 2 _ C.out.st.rd (by omega) (by omega) (by omega)).mono ?_;rintro e b ⟨y,rfl,S,Q,hR,h⟩;replace C:=ae (C.out.only h hR);clear h hR;go_wp2_with fail;obtain⟨m0,o⟩:∃ m0:Nat,499+y=(m0:Int):=⟨(499+y).toNat,by omega⟩
   rw[o];refine(fx ⟨#[120]⟩ m0 _ (by show 1*m0<=4000;omega) (by omega)).mono ?_;rintro e Wm ⟨t,rfl,K,hw⟩;rw[hw];have Y:t.size<=5000:=Nat.le_trans K (by show 1*m0<=5000;omega);clear K o hw
   iterate 6
    go_wp2_with fail;first | (with_reducible refine(aR _ _).mono ?_) | (with_reducible refine(bh _ _ _).mono ?_) | (with_reducible refine(aY _ _).mono ?_)
    rintro e b ⟨rfl,f⟩;replace C:=ae (C.out.below f);clear f
   have u:=ae (SC.lit C.out.st [(1,t.data.toList,0),(7,[],0),(11,[],5),(4,[],1),(10,[],1),(9,[],0)] #[.int .i64 1,.string t,.int .i64 0,.int .i64 7,.string ⟨#[]⟩,.int .i64 0,.int .i64 11,.string ⟨#[]⟩,.int .i64 5,.int .i64 4,.string ⟨#[]⟩,.int .i64 1,.int .i64 10,.string ⟨#[]⟩,.int .i64 1,.int .i64 9,.string ⟨#[]⟩,.int .i64 0] rfl 6 rfl (by omega) (dM Y (by decide)));go_wp2;go_meet;exact⟨_,_,_,_,rfl,by omega,u.out.up (by omega)⟩
 case rest =>
 clear C;obtain⟨L,g,c,q6,rfl,hq6,C⟩:=hcut;go_upto_region 16 with fail;go_cut [77] (fun sb j=>∃ (s:Bool) (q:Nat),sb=.bool s/\q<=q6+1/\Hid (SC w R w.heap.size j q g c L 140));case first =>
  by_cases hz:z=6
  ·subst hz
   go_wp2_with fail;refine(aA R _ 3 _ C.out.st.rd (by omega) (by omega) (by omega)).mono ?_;rintro e b ⟨x,rfl,x0,x1,hR,h⟩;replace C:=ae (C.out.only h hR);clear h hR;go_wp2;go_meet;exact⟨_,_,rfl,by omega,C.out⟩
  ·go_wp2
   go_meet;exact⟨_,_,rfl,by omega,C.out⟩
 case rest =>
 clear C;obtain⟨s,Z,rfl,hq6b,C⟩:=hcut;go_upto_if 77 with fail;go_cut [3] (fun l j=>∃ (L:List I3) (g c q:Nat),l=.slice (some ⟨g,0,none⟩) L.length c/\q<=Z+1/\Hid (SC w R w.heap.size j q g c L 140));case first =>
  cases s with
  | false =>go_wp2;go_meet;exact⟨L,g,c,_,rfl,by omega,C.out⟩
  | true =>
   go_wp2_with fail;refine(aA R _ 3 _ C.out.st.rd (by omega) (by omega) (by omega)).mono ?_;rintro e b ⟨y,rfl,S,Q,hR,h⟩;replace C:=ae (C.out.only h hR);clear h hR;go_wp2_with fail;obtain⟨m0,o⟩:∃ m0:Nat,200+y - 1=(m0:Int):=⟨(200+y - 1).toNat,by omega⟩
   rw[o];refine(qM m0 _ (by omega)).mono ?_;rintro e W8 ⟨LW,gW,rfl,k,lq,A,f⟩;have C8:=ae (SC.di C.out.st k (n:=140) (by omega) A (Only.of_below f) (C.out.st.rd.below f ly));clear k A f o;go_wp2;go_meet;exact⟨LW,gW,7,_,by rw[lq],by omega,C8.out⟩
 case rest =>
 clear C;obtain⟨L,g,c,q7,rfl,hq7,C⟩:=hcut;go_upto_if 84 with fail;go_cut [3] (fun l j=>∃ (L:List I3) (g c q:Nat),l=.slice (some ⟨g,0,none⟩) L.length c/\q<=q7/\Hid (SC w R w.heap.size j q g c L 140));case first =>
  by_cases hz:z=5
  ·subst hz
   iterate 2
    go_wp2_with fail;first | (with_reducible refine(aR _ _).mono ?_) | (with_reducible refine(bh _ _ _).mono ?_) | (with_reducible refine(aY _ _).mono ?_)
    rintro e b ⟨rfl,f⟩;replace C:=ae (C.out.below f);clear f
   have u:=ae (SC.lit C.out.st [(1,[115],0),(10,[],0)] #[.int .i64 1,.string ⟨#[115]⟩,.int .i64 0,.int .i64 10,.string ⟨#[]⟩,.int .i64 0] rfl 2 rfl (by omega) (by decide));go_wp2;go_meet;exact⟨_,_,_,_,rfl,by omega,u.out.up (by omega)⟩
  ·go_wp2
   go_meet;exact⟨L,g,c,_,rfl,by omega,C.out.up (by omega)⟩
 case rest =>
 clear C;obtain⟨L,g,c,q8,rfl,hq8,C⟩:=hcut;have ln:=C.out.len;have ge:=C.out.ir.lt;go_wp2_with fail;refine(ep g 0 L.length c (cE L) _ (by omega) ge.2 (fun i hi=>C.out.ir.at i (by omega)) (fun i hi=>xJ C.out.2.2.2 i (by omega))).mono ?_;rintro e Wv ⟨rfl,f⟩;have I:=ae (C.out.below f);clear f;cases hv:valid (cE L) L.length with
 | true =>
  have vp:=(cH hv).2.1;clear hv;have m:=I.out.st.2.2.1;have zl:=m.lt;have W:=m.c0;have T:=m.fz 0;have fin:=ae (I.out.fin (.slice (some ⟨g,0,none⟩) L.length c));clear m;go_wp2;obtain⟨f1,M,f3,O,J,E⟩:=fin.out;try simp only[Exit.inBlock,Exit.then]
  refine bp (cy rfl _ _ w.heap.size _ rfl f1) rfl ?_;exact⟨L,g,c,rfl,M,by omega,by omega,O,q8,by omega,J,E⟩
 | false =>
  clear hv;replace C:=I
  iterate 2
   go_wp2_with fail;first | (with_reducible refine(aR _ _).mono ?_) | (with_reducible refine(bh _ _ _).mono ?_) | (with_reducible refine(aY _ _).mono ?_)
   rintro e b ⟨rfl,f⟩;replace C:=ae (C.out.below f);clear f
  have V:=ae (SC.lit C.out.st [(1,[120],0),(15,[],0)] #[.int .i64 1,.string ⟨#[120]⟩,.int .i64 0,.int .i64 15,.string ⟨#[]⟩,.int .i64 0] rfl 2 rfl (by omega) (by decide));have m:=V.out.st.2.2.1;have zl:=m.lt;have W:=m.c0;have T:=m.fz 0;have fin:=ae (V.out.fin (.slice (some ⟨b.heap.size,0,none⟩) 2 2));clear m;go_wp2;obtain⟨f1,M,f3,O,J,E⟩:=fin.out;try simp only[Exit.inBlock,Exit.then]
  refine bp (cy rfl _ _ w.heap.size _ rfl f1) rfl ?_;exact⟨[(1,[120],0),(15,[],0)],b.heap.size,2,rfl,M,by simp,by simp,O,q8,by omega,J,E⟩
theorem pc:∀ (L:List I3) (i:Nat) (y:I3) (j:Nat) (v:Value),j<3->i<L.length->i3V y=(i3V (L.getD i (0,[],0))).set j v->i3L (L.set i y)=(i3L L).set (i*3+j) v
 | [],i,y,j,v,_,h,_=>by simp at h
 | x :: L,0,y,j,v,hj,_,e=>by show i3V y++i3L L=(i3V x++i3L L).set (0*3+j) v;rw[List.set_append_left _ _ (by show 0*3+j<3;omega),Nat.zero_mul,Nat.zero_add];rw[show i3V y=(i3V x).set j v from e]
 | x :: L,i+1,y,j,v,hj,h,e=>by have c:=pc L i y j v hj (by simpa using h) e;have b:(i3V x).length=3:=rfl;show i3V x++i3L (L.set i y)=(i3V x++i3L L).set ((i+1)*3+j) v;rw[c,List.set_append_right _ _ (by rw[b];omega),b,show(i+1)*3+j - 3=i*3+j by omega]
theorem IR.set3 {w:World}{b g c:Nat}{L:List I3}(h:IR w b g c L){i j:Nat}(hi:i<L.length)(l:j<3)(y:I3)(v:Value)(e:i3V y=(i3V (L.getD i (0,[],0))).set j v):IR (w.setCell ⟨g,i*3+j,none⟩ v) b g c (L.set i y):=by
 unfold IR;rw[List.length_set,pc L i y j v l hi e];refine⟨by rw[List.length_set];exact h.1,?_⟩;rcases h.2 with ⟨d,h0⟩ | ⟨g',cap,f,d,hb,m,p,n,k,o⟩
 ·simp at d
 ·simp only[Value.slice.injEq,Option.some.injEq,Addr.mk.injEq] at d
  obtain⟨⟨rfl,-⟩,-,rfl⟩:=d;refine .inr ⟨g,c,f.setIfInBounds (i*3+j) v,rfl,hb,?_,p,n,by simpa using k,?_⟩
  ·simp[World.setCell,Array.getElem?_modify,m]
  ·rw[Array.toList_setIfInBounds,List.take_set,o]
theorem IR.take {w:World}{b g c:Nat}{L:List I3}(h:IR w b g c L)(k:Nat)(i:k<=L.length):IR w b g c (L.take k):=by
 have e:i3L (L.take k)=(i3L L).take (k*3):=by
  have j:i3L L=i3L (L.take k)++i3L (L.drop k):=by rw[<-mK,List.take_append_drop]
  have f:(i3L (L.take k)).length=k*3:=by rw[gG,List.length_take,Nat.min_eq_left i]
  rw[j,<-f,List.take_left'];rfl
 have p:(L.take k).length=k:=by rw[List.length_take,Nat.min_eq_left i]
 unfold IR;rw[e,p];refine⟨by rw[List.length_take,h.1,Nat.min_eq_left (by omega)],?_⟩;rcases h.2 with ⟨d,h0⟩ | ⟨g',cap,l,d,hb,n,j,f,m,o⟩
 ·simp at d
 ·simp only[Value.slice.injEq,Option.some.injEq,Addr.mk.injEq] at d
  obtain⟨⟨rfl,-⟩,-,rfl⟩:=d;refine .inr ⟨g,c,l,rfl,hb,n,by omega,f,m,?_⟩;rw[<-o,List.take_take,Nat.min_eq_left (by omega)]
theorem IR.fz {w:World}{d g c:Nat}{L:List I3}(h:IR w d g c L)(j:Nat):w.frozen? ⟨g,j,none⟩=false:=by
 rcases h.2 with ⟨b,_⟩ | ⟨g',cap,cur,b,_,f,_⟩
 ·simp at b
 ·simp only[Value.slice.injEq,Option.some.injEq,Addr.mk.injEq] at b
  obtain⟨⟨rfl,-⟩,-,rfl⟩:=b;exact Lib.frozen_of_heap f _
theorem SC.set3 {w W:World}{R d q g c n:Nat}{L:List I3}(h:SC w R d W q g c L n){i j:Nat}(hi:i<L.length)(k:j<3)(y:I3)(v:Value)(e:i3V y=(i3V (L.getD i (0,[],0))).set j v)(l:y.2.1.length<=5000):SC w R d (W.setCell ⟨g,i*3+j,none⟩ v) q g c (L.set i y) n:=by
 have B:=(Below.refl (d+1) W).setCell (p:=⟨g,i*3+j,none⟩) h.ir.lt.1 v;refine⟨h.1.low B,h.ir.set3 hi k y v e,by rw[List.length_set];exact h.len,fun x f=>?_⟩;rcases List.mem_or_eq_of_mem_set f with b | b
 ·exact h.2.2.2 x b
 ·rw[b];exact l
theorem SC.take {w W:World}{R b q g c n:Nat}{L:List I3}(h:SC w R b W q g c L n)(k:Nat)(d:k<=L.length):SC w R b W q g c (L.take k) n :=
 ⟨h.1,h.ir.take k d,by rw[List.length_take];have:=h.len;omega,fun i hi=>h.2.2.2 i (List.mem_of_mem_take hi)⟩
theorem SC.app0 {w W W':World}{R b q g c g' c' n n':Nat}{L M:List I3}(h:SC w R b W q g c L n)(d:IR W' (b+1) g' c' (L++M))(l:W.grownBy W' (some g))(hn:L.length+M.length<=n')(f:∀ i∈M,i.2.1.length<=5000):SC w R b W' q g' c' (L++M) n':=by
 have hl:=h.1.lt;have j:=bg (Below.refl (b+1) W) l (by omega) (fun k e=>by have:=h.2.1.lt;simp at e;omega);refine⟨h.1.low j,d,by rw[List.length_append];omega,fun i hi=>?_⟩;rcases List.mem_append.1 hi with hi | hi
 ·exact h.2.2.2 i hi
 ·exact f i hi
theorem SC.mono {w W:World}{R d q g c n b:Nat}{L:List I3}(h:SC w R d W q g c L n)(hn:L.length<=b):SC w R d W q g c L b:=⟨h.1,h.2.1,hn,h.2.2.2⟩
theorem SC.text {w W:World}{R b q g c n:Nat}{L:List I3}(h:SC w R b W q g c L n)(i:Nat)(hi:i<L.length):(L.getD i (0,[],0)).2.1.length<=5000:=by
 have e:L.getD i (0,[],0)=L[i]:=by simp[hi]
 rw[e];exact h.2.2.2 _ (gz hi)
theorem nI {w:World}{R q:Nat}(h:Rd w R q)(v:Value):SC w R (w.heap.size+1) (((w.alloc (.cells #[v] 31)).alloc (.cells #[.slice none 0 0] 31)).alloc (.cells #[] 176)) q (w.heap.size+2) 0 [] 0:=by
 have d:=(q9 w).alloc ly (.cells #[v] 31);have b:=d.alloc d.size (.cells #[.slice none 0 0] 31);have c:=b.alloc b.size (.cells #[] 176);have hz:((w.alloc (.cells #[v] 31)).alloc (.cells #[.slice none 0 0] 31)).heap.size=w.heap.size+2:=by simp
 have I:=IR.lit ((w.alloc (.cells #[v] 31)).alloc (.cells #[.slice none 0 0] 31));rw[hz] at I;refine⟨⟨h.below c ly,Only.of_below c,?_,h.lt,by omega⟩,I,Nat.le_refl _,fun i hi=>by cases hi⟩;show _=_;rw[heap_alloc_old _ _ (by simp)];exact heap_alloc2_new w _ _
theorem ox (R p g c:Nat)(L:List I3)(w:World)(hR:Rd w R p)(hp:p<=20000)(bt:g<w.heap.size)(hN:∀ j u,(i3L L)[j]?=some u->w.cell? ((⟨g,0,none⟩:Addr).add j)=some u)(hn:L.length<=200)(Z:L≠[])(hT:∀ i∈L,i.2.1.length<=5000):Calls Tryz.prog 131 #[.pointer (some ⟨R,0,none⟩),.agg #[.slice (some ⟨g,0,none⟩) L.length c]] w fun e w'=>DP w R (p+1000) 0 201 e w':=by
 have A2:=(((q9 w).alloc ly (.cells #[.slice (some ⟨g,0,none⟩) L.length c] 31)).alloc (by simp) (.cells #[.slice none 0 0] 31)).alloc (by simp;omega) (.cells #[] 176);have C0:=ae (nI hR (.slice (some ⟨g,0,none⟩) L.length c));have N0:=ae (fun(j:Nat) (u:Value) (Y:(i3L L)[j]?=some u)=>(A2.cell (p:=(⟨g,0,none⟩:Addr).add j) (by rw[fm];exact bt)).trans (hN j u Y));have HT:=ae hT;have hl:0<L.length:=List.length_pos_iff.2 Z;clear A2 hR hN hT bt;go_enter Tryz.func131,Tryz.ntmps131;go_wp2_with (at_builtin;refine bV rfl (.tmp 7) (.tmp 9) rfl (w.heap.size+2) (w.heap.size+2) 0 [] (by simp[Act.eval]) C0.out.ir ⟨g,0,none⟩ L.length c L (by simp[Act.eval]) rfl Z N0.out (by simp only[List.length_nil];omega) (by simp) ?_);intro h c1 W1 hI hG;have C1:=ae (C0.out.app0 (n':=200) hI hG (by simp only[List.length_nil];omega) HT.out);rw[List.nil_append] at C1;clear hI hG C0 N0 HT Z;go_wp2_with fail;refine(aA R _ (L.length:Int) _ C1.out.st.rd (by omega) (by omega) (by omega)).mono ?_;rintro e W2 ⟨z,rfl,z0,z1,hR,N⟩;obtain⟨k,rfl⟩:∃ k:Nat,z=(k:Int):=⟨z.toNat,by omega⟩
 have C2:=ae (C1.out.only N hR);have C:k<L.length:=by omega
 have nz:¬ ((L.length:Int)=0):=by omega
 clear N hR C1;go_wp2_with fail;refine(aA R _ 7 _ C2.out.st.rd (by omega) (by omega) (by omega)).mono ?_;rintro e P ⟨s,rfl,s0,s1,hR,N⟩;have m:=ae (C2.out.only N hR);clear N hR C2;rcases(show s=0∨s=1∨s=2∨s=3∨s=4∨s=5∨s=6 by omega) with rfl | rfl | rfl | rfl | rfl | rfl | rfl
 ·go_wp2_with fail
  refine(aA R _ 18 _ m.out.st.rd (by omega) (by omega) (by omega)).mono ?_;rintro e E ⟨y,rfl,y0,y1,hR,N⟩;have b:=ae (m.out.only N hR);clear N hR m;obtain⟨r,o,x⟩:=b.out.ir.at k C;rw[Nat.zero_add] at r o x;have A:=b.out.ir.fz (k*3);have B:=b.out.ir.fz (k*3+1);have q:=b.out.ir.fz (k*3+2);have K:=b.out.ir.lt.2;have l:Hid (SC w R (w.heap.size+1) (E.setCell ⟨h,k*3,none⟩ (.int .i64 (y - 1))) _ h c1 (L.set k (y - 1,(L.getD k (0,[],0)).2.1,(L.getD k (0,[],0)).2.2)) 200):=b.out.set3 (j:=0) C (by omega) (y - 1,(L.getD k (0,[],0)).2.1,(L.getD k (0,[],0)).2.2) (.int .i64 (y - 1)) rfl (b.out.text k C);go_upto_region 20 with fail;generalize E.setCell ⟨h,k*3,none⟩ (.int .i64 (y - 1))=Q at l ⊢;obtain⟨f,hL⟩:∃ f,f=L.set k (y - 1,(L.getD k (0,[],0)).2.1,(L.getD k (0,[],0)).2.2):=⟨_,rfl⟩
  have D:f.length=L.length:=by rw[hL,List.length_set]
  rw[<-hL] at l;clear hL r o x A B q K b;have d:=l.out.st.2.2.1;have S:=d.lt;have U:=d.c0;have T:=d.fz 0;have fin:=ae (l.out.fin (.slice (some ⟨h,0,none⟩) L.length c1));clear d;go_wp2;obtain⟨f1,I,V,J,H,G⟩:=fin.out;try simp only[Exit.inBlock,Exit.then]
  refine bp (cy rfl _ _ (w.heap.size+1) _ rfl f1) rfl ?_;exact⟨f,h,c1,by rw[D],I,by omega,by omega,J,_,by omega,H,G⟩
 ·obtain⟨r,o,x⟩:=m.out.ir.at k C
  rw[Nat.zero_add] at r o x;have A:=m.out.ir.fz (k*3);have B:=m.out.ir.fz (k*3+1);have q:=m.out.ir.fz (k*3+2);have K:=m.out.ir.lt.2;have b:Hid (SC w R (w.heap.size+1) (P.setCell ⟨h,k*3+2,none⟩ (.int .i64 (wrap64 ((cE L k).n+1)))) _ h c1 (L.set k ((L.getD k (0,[],0)).1,(L.getD k (0,[],0)).2.1,(wrap64 ((cE L k).n+1)))) 200):=m.out.set3 (j:=2) C (by omega) ((L.getD k (0,[],0)).1,(L.getD k (0,[],0)).2.1,(wrap64 ((cE L k).n+1))) (.int .i64 (wrap64 ((cE L k).n+1))) rfl (m.out.text k C);go_upto_region 20 with fail;generalize P.setCell ⟨h,k*3+2,none⟩ (.int .i64 (wrap64 ((cE L k).n+1)))=E at b ⊢;obtain⟨f,hL⟩:∃ f,f=L.set k ((L.getD k (0,[],0)).1,(L.getD k (0,[],0)).2.1,(wrap64 ((cE L k).n+1))):=⟨_,rfl⟩
  have D:f.length=L.length:=by rw[hL,List.length_set]
  rw[<-hL] at b;clear hL r o x A B q K m;have d:=b.out.st.2.2.1;have S:=d.lt;have U:=d.c0;have T:=d.fz 0;have fin:=ae (b.out.fin (.slice (some ⟨h,0,none⟩) L.length c1));clear d;go_wp2;obtain⟨f1,I,V,J,H,G⟩:=fin.out;try simp only[Exit.inBlock,Exit.then]
  refine bp (cy rfl _ _ (w.heap.size+1) _ rfl f1) rfl ?_;exact⟨f,h,c1,by rw[D],I,by omega,by omega,J,_,by omega,H,G⟩
 ·have W:=ae (m.out.below ((q9 P).alloc ly (.cells #[.int .i64 (-1),.int .i64 2000,.int .i64 2001,.int .i64 200,.int .i64 201,.int .i64 1000000007] 3)))
  have sz3:=W.out.st.lt;have v0:∀ j u,(#[.int .i64 (-1),.int .i64 2000,.int .i64 2001,.int .i64 200,.int .i64 201,.int .i64 1000000007]:Array Value)[j]?=some u->(P.alloc (.cells #[.int .i64 (-1),.int .i64 2000,.int .i64 2001,.int .i64 200,.int .i64 201,.int .i64 1000000007] 3)).cell? ⟨P.heap.size,j,none⟩=some u:=fun j u Y=>iU P _ _ _ j u rfl Y;have rl:=m.out.st.rd.lt;have V0:=ae v0;clear v0;go_wp2_with fail;refine(aA R _ 6 _ W.out.st.rd (by omega) (by omega) (by omega)).mono ?_;rintro e E ⟨y,rfl,y0,y1,hR,N⟩;have b:=ae (W.out.only N hR);have O:∀ j u,(#[.int .i64 (-1),.int .i64 2000,.int .i64 2001,.int .i64 200,.int .i64 201,.int .i64 1000000007]:Array Value)[j]?=some u->E.cell? ⟨P.heap.size,j,none⟩=some u:=fun j u Y=>(N.cell P.heap.size j (by simp) (by omega)).trans (V0.out j u Y);have sz4:P.heap.size<E.heap.size:=by have:=N.size;simp at this;omega
  clear N hR m W V0;rcases(show y=0∨y=1∨y=2∨y=3∨y=4∨y=5 by omega) with rfl | rfl | rfl | rfl | rfl | rfl
  ·have cv:=O 0 (.int .i64 (-1)) rfl
   clear O;obtain⟨r,o,x⟩:=b.out.ir.at k C;rw[Nat.zero_add] at r o x;have A:=b.out.ir.fz (k*3);have B:=b.out.ir.fz (k*3+1);have q:=b.out.ir.fz (k*3+2);have K:=b.out.ir.lt.2;have l:Hid (SC w R (w.heap.size+1) (E.setCell ⟨h,k*3+2,none⟩ (.int .i64 (-1))) _ h c1 (L.set k ((L.getD k (0,[],0)).1,(L.getD k (0,[],0)).2.1,(-1))) 200):=b.out.set3 (j:=2) C (by omega) ((L.getD k (0,[],0)).1,(L.getD k (0,[],0)).2.1,(-1)) (.int .i64 (-1)) rfl (b.out.text k C);go_upto_region 20 with fail;generalize E.setCell ⟨h,k*3+2,none⟩ (.int .i64 (-1))=Q at l ⊢;obtain⟨f,hL⟩:∃ f,f=L.set k ((L.getD k (0,[],0)).1,(L.getD k (0,[],0)).2.1,(-1)):=⟨_,rfl⟩
   have D:f.length=L.length:=by rw[hL,List.length_set]
   rw[<-hL] at l;clear hL r o x A B q K b;have d:=l.out.st.2.2.1;have S:=d.lt;have U:=d.c0;have T:=d.fz 0;have fin:=ae (l.out.fin (.slice (some ⟨h,0,none⟩) L.length c1));clear d;go_wp2;obtain⟨f1,I,V,J,H,G⟩:=fin.out;try simp only[Exit.inBlock,Exit.then]
   refine bp (cy rfl _ _ (w.heap.size+1) _ rfl f1) rfl ?_;exact⟨f,h,c1,by rw[D],I,by omega,by omega,J,_,by omega,H,G⟩
  ·have cv:=O 1 (.int .i64 2000) rfl
   clear O;obtain⟨r,o,x⟩:=b.out.ir.at k C;rw[Nat.zero_add] at r o x;have A:=b.out.ir.fz (k*3);have B:=b.out.ir.fz (k*3+1);have q:=b.out.ir.fz (k*3+2);have K:=b.out.ir.lt.2;have l:Hid (SC w R (w.heap.size+1) (E.setCell ⟨h,k*3+2,none⟩ (.int .i64 2000)) _ h c1 (L.set k ((L.getD k (0,[],0)).1,(L.getD k (0,[],0)).2.1,2000)) 200):=b.out.set3 (j:=2) C (by omega) ((L.getD k (0,[],0)).1,(L.getD k (0,[],0)).2.1,2000) (.int .i64 2000) rfl (b.out.text k C);go_upto_region 20 with fail;generalize E.setCell ⟨h,k*3+2,none⟩ (.int .i64 2000)=Q at l ⊢;obtain⟨f,hL⟩:∃ f,f=L.set k ((L.getD k (0,[],0)).1,(L.getD k (0,[],0)).2.1,2000):=⟨_,rfl⟩
   have D:f.length=L.length:=by rw[hL,List.length_set]
   rw[<-hL] at l;clear hL r o x A B q K b;have d:=l.out.st.2.2.1;have S:=d.lt;have U:=d.c0;have T:=d.fz 0;have fin:=ae (l.out.fin (.slice (some ⟨h,0,none⟩) L.length c1));clear d;go_wp2;obtain⟨f1,I,V,J,H,G⟩:=fin.out;try simp only[Exit.inBlock,Exit.then]
   refine bp (cy rfl _ _ (w.heap.size+1) _ rfl f1) rfl ?_;exact⟨f,h,c1,by rw[D],I,by omega,by omega,J,_,by omega,H,G⟩
  ·have cv:=O 2 (.int .i64 2001) rfl
   clear O;obtain⟨r,o,x⟩:=b.out.ir.at k C;rw[Nat.zero_add] at r o x;have A:=b.out.ir.fz (k*3);have B:=b.out.ir.fz (k*3+1);have q:=b.out.ir.fz (k*3+2);have K:=b.out.ir.lt.2;have l:Hid (SC w R (w.heap.size+1) (E.setCell ⟨h,k*3+2,none⟩ (.int .i64 2001)) _ h c1 (L.set k ((L.getD k (0,[],0)).1,(L.getD k (0,[],0)).2.1,2001)) 200):=b.out.set3 (j:=2) C (by omega) ((L.getD k (0,[],0)).1,(L.getD k (0,[],0)).2.1,2001) (.int .i64 2001) rfl (b.out.text k C);go_upto_region 20 with fail;generalize E.setCell ⟨h,k*3+2,none⟩ (.int .i64 2001)=Q at l ⊢;obtain⟨f,hL⟩:∃ f,f=L.set k ((L.getD k (0,[],0)).1,(L.getD k (0,[],0)).2.1,2001):=⟨_,rfl⟩
   have D:f.length=L.length:=by rw[hL,List.length_set]
   rw[<-hL] at l;clear hL r o x A B q K b;have d:=l.out.st.2.2.1;have S:=d.lt;have U:=d.c0;have T:=d.fz 0;have fin:=ae (l.out.fin (.slice (some ⟨h,0,none⟩) L.length c1));clear d;go_wp2;obtain⟨f1,I,V,J,H,G⟩:=fin.out;try simp only[Exit.inBlock,Exit.then]
   refine bp (cy rfl _ _ (w.heap.size+1) _ rfl f1) rfl ?_;exact⟨f,h,c1,by rw[D],I,by omega,by omega,J,_,by omega,H,G⟩
  ·have cv:=O 3 (.int .i64 200) rfl
   clear O;obtain⟨r,o,x⟩:=b.out.ir.at k C;rw[Nat.zero_add] at r o x;have A:=b.out.ir.fz (k*3);have B:=b.out.ir.fz (k*3+1);have q:=b.out.ir.fz (k*3+2);have K:=b.out.ir.lt.2;have l:Hid (SC w R (w.heap.size+1) (E.setCell ⟨h,k*3+2,none⟩ (.int .i64 200)) _ h c1 (L.set k ((L.getD k (0,[],0)).1,(L.getD k (0,[],0)).2.1,200)) 200):=b.out.set3 (j:=2) C (by omega) ((L.getD k (0,[],0)).1,(L.getD k (0,[],0)).2.1,200) (.int .i64 200) rfl (b.out.text k C);go_upto_region 20 with fail;generalize E.setCell ⟨h,k*3+2,none⟩ (.int .i64 200)=Q at l ⊢;obtain⟨f,hL⟩:∃ f,f=L.set k ((L.getD k (0,[],0)).1,(L.getD k (0,[],0)).2.1,200):=⟨_,rfl⟩
   have D:f.length=L.length:=by rw[hL,List.length_set]
   rw[<-hL] at l;clear hL r o x A B q K b;have d:=l.out.st.2.2.1;have S:=d.lt;have U:=d.c0;have T:=d.fz 0;have fin:=ae (l.out.fin (.slice (some ⟨h,0,none⟩) L.length c1));clear d;go_wp2;obtain⟨f1,I,V,J,H,G⟩:=fin.out;try simp only[Exit.inBlock,Exit.then]
   refine bp (cy rfl _ _ (w.heap.size+1) _ rfl f1) rfl ?_;exact⟨f,h,c1,by rw[D],I,by omega,by omega,J,_,by omega,H,G⟩
  ·have cv:=O 4 (.int .i64 201) rfl
   clear O;obtain⟨r,o,x⟩:=b.out.ir.at k C;rw[Nat.zero_add] at r o x;have A:=b.out.ir.fz (k*3);have B:=b.out.ir.fz (k*3+1);have q:=b.out.ir.fz (k*3+2);have K:=b.out.ir.lt.2;have l:Hid (SC w R (w.heap.size+1) (E.setCell ⟨h,k*3+2,none⟩ (.int .i64 201)) _ h c1 (L.set k ((L.getD k (0,[],0)).1,(L.getD k (0,[],0)).2.1,201)) 200):=b.out.set3 (j:=2) C (by omega) ((L.getD k (0,[],0)).1,(L.getD k (0,[],0)).2.1,201) (.int .i64 201) rfl (b.out.text k C);go_upto_region 20 with fail;generalize E.setCell ⟨h,k*3+2,none⟩ (.int .i64 201)=Q at l ⊢;obtain⟨f,hL⟩:∃ f,f=L.set k ((L.getD k (0,[],0)).1,(L.getD k (0,[],0)).2.1,201):=⟨_,rfl⟩
   have D:f.length=L.length:=by rw[hL,List.length_set]
   rw[<-hL] at l;clear hL r o x A B q K b;have d:=l.out.st.2.2.1;have S:=d.lt;have U:=d.c0;have T:=d.fz 0;have fin:=ae (l.out.fin (.slice (some ⟨h,0,none⟩) L.length c1));clear d;go_wp2;obtain⟨f1,I,V,J,H,G⟩:=fin.out;try simp only[Exit.inBlock,Exit.then]
   refine bp (cy rfl _ _ (w.heap.size+1) _ rfl f1) rfl ?_;exact⟨f,h,c1,by rw[D],I,by omega,by omega,J,_,by omega,H,G⟩
  ·have cv:=O 5 (.int .i64 1000000007) rfl
   clear O;obtain⟨r,o,x⟩:=b.out.ir.at k C;rw[Nat.zero_add] at r o x;have A:=b.out.ir.fz (k*3);have B:=b.out.ir.fz (k*3+1);have q:=b.out.ir.fz (k*3+2);have K:=b.out.ir.lt.2;have l:Hid (SC w R (w.heap.size+1) (E.setCell ⟨h,k*3+2,none⟩ (.int .i64 1000000007)) _ h c1 (L.set k ((L.getD k (0,[],0)).1,(L.getD k (0,[],0)).2.1,1000000007)) 200):=b.out.set3 (j:=2) C (by omega) ((L.getD k (0,[],0)).1,(L.getD k (0,[],0)).2.1,1000000007) (.int .i64 1000000007) rfl (b.out.text k C);go_upto_region 20 with fail;generalize E.setCell ⟨h,k*3+2,none⟩ (.int .i64 1000000007)=Q at l ⊢;obtain⟨f,hL⟩:∃ f,f=L.set k ((L.getD k (0,[],0)).1,(L.getD k (0,[],0)).2.1,1000000007):=⟨_,rfl⟩
   have D:f.length=L.length:=by rw[hL,List.length_set]
   rw[<-hL] at l;clear hL r o x A B q K b;have d:=l.out.st.2.2.1;have S:=d.lt;have U:=d.c0;have T:=d.fz 0;have fin:=ae (l.out.fin (.slice (some ⟨h,0,none⟩) L.length c1));clear d;go_wp2;obtain⟨f1,I,V,J,H,G⟩:=fin.out;try simp only[Exit.inBlock,Exit.then]
   refine bp (cy rfl _ _ (w.heap.size+1) _ rfl f1) rfl ?_;exact⟨f,h,c1,by rw[D],I,by omega,by omega,J,_,by omega,H,G⟩
 ·go_wp2_with fail
  refine(aA R _ 2 _ m.out.st.rd (by omega) (by omega) (by omega)).mono ?_;rintro e E ⟨y,rfl,y0,y1,hR,N⟩;have b:=ae (m.out.only N hR);clear N hR m;go_wp2_with fail;obtain⟨m0,aq⟩:∃ m0:Nat,2000+y=(m0:Int):=⟨(2000+y).toNat,by omega⟩
  rw[aq];refine(fx ⟨#[116]⟩ m0 _ (by show 1*m0<=4000;omega) (by omega)).mono ?_;rintro e Wm ⟨t,rfl,ht,hw⟩;rw[hw];have h5:t.data.toList.length<=5000:=by rw[Array.length_toList];exact Nat.le_trans ht (by show 1*m0<=5000;omega)
  clear ht aq hw;obtain⟨r,o,x⟩:=b.out.ir.at k C;rw[Nat.zero_add] at r o x;have A:=b.out.ir.fz (k*3);have B:=b.out.ir.fz (k*3+1);have q:=b.out.ir.fz (k*3+2);have K:=b.out.ir.lt.2;have l:Hid (SC w R (w.heap.size+1) (E.setCell ⟨h,k*3+1,none⟩ (.string t)) _ h c1 (L.set k ((L.getD k (0,[],0)).1,t.data.toList,(L.getD k (0,[],0)).2.2)) 200):=b.out.set3 (j:=1) C (by omega) ((L.getD k (0,[],0)).1,t.data.toList,(L.getD k (0,[],0)).2.2) (.string t) rfl h5;go_upto_region 20 with fail;generalize E.setCell ⟨h,k*3+1,none⟩ (.string t)=Q at l ⊢;obtain⟨f,hL⟩:∃ f,f=L.set k ((L.getD k (0,[],0)).1,t.data.toList,(L.getD k (0,[],0)).2.2):=⟨_,rfl⟩
  have D:f.length=L.length:=by rw[hL,List.length_set]
  rw[<-hL] at l;clear hL r o x A B q K b;have d:=l.out.st.2.2.1;have S:=d.lt;have U:=d.c0;have T:=d.fz 0;have fin:=ae (l.out.fin (.slice (some ⟨h,0,none⟩) L.length c1));clear d;go_wp2;obtain⟨f1,I,V,J,H,G⟩:=fin.out;try simp only[Exit.inBlock,Exit.then]
  refine bp (cy rfl _ _ (w.heap.size+1) _ rfl f1) rfl ?_;exact⟨f,h,c1,by rw[D],I,by omega,by omega,J,_,by omega,H,G⟩
 ·have hc1:L.length<=c1:=by
   rcases m.out.ir.2 with ⟨O,_⟩ | ⟨_,_,_,O,_,_,h1,_⟩
   ·simp at O
   ·simp only[Value.slice.injEq] at O
    omega
  have b:=ae (m.out.take k (by omega));obtain⟨f,hL⟩:∃ f,f=L.take k:=⟨_,rfl⟩
  have D:f.length=k:=by rw[hL,List.length_take];omega
  rw[<-hL] at b;clear hL m;have d:=b.out.st.2.2.1;have S:=d.lt;have U:=d.c0;have T:=d.fz 0;have fin:=ae (b.out.fin (.slice (some ⟨h,0,none⟩) k c1));clear d;go_wp2;obtain⟨f1,I,V,J,H,G⟩:=fin.out;try simp only[Exit.inBlock,Exit.then]
  refine bp (cy rfl _ _ (w.heap.size+1) _ rfl f1) rfl ?_;exact⟨f,h,c1,by rw[D],I,by omega,by omega,J,_,by omega,H,G⟩
 ·have bd:=m.out.len
  go_wp2;go_loopw [5] (fun v wr=>∃ (X c2 q2:Nat) (M:List I3),v=.slice (some ⟨X,0,none⟩) M.length c2/\SC w R (w.heap.size+1) wr q2 X c2 M 201/\q2<=p+10+M.length) (fun v _=>202 - (match v with | .slice _ n _=>n | _=>0));case atStart=>exact⟨h,c1,_,L,rfl,m.out.mono (by omega),by omega⟩
  case round =>
   obtain⟨X,c2,q2,M,rfl,hC,hq⟩:=hrel;have CC:=ae hC;have ln:=hC.len;clear hC m;go_wp2_with fail;refine(aA R _ 2 _ CC.out.st.rd (by omega) (by omega) (by omega)).mono ?_;rintro e E ⟨y,rfl,y0,y1,hR,N⟩;have b:=ae (CC.out.only N hR);clear N hR CC;by_cases hlt:(M.length:Int)<200+y
   ·go_wp2_with fail
    refine(aR 9 _).mono ?_;rintro e Q ⟨rfl,hB⟩;have l:=ae (b.out.below hB);clear hB b;have X5:=ae (l.out.below ((q9 Q).alloc ly (.cells #[.int .i64 9,.string ⟨#[]⟩,.int .i64 0] 176)));have S:=l.out.st.lt;go_wp2_with (at_builtin;refine bV rfl (.tmp 81) (.tmp 83) rfl (w.heap.size+2) X c2 M (by simp[Act.eval]) X5.out.ir ⟨Q.heap.size,0,none⟩ 1 1 [(9,[],0)] (by simp[Act.eval]) rfl (by simp) (bU Q #[.int .i64 9,.string ⟨#[]⟩,.int .i64 0] _) (by simp only[List.length_cons,List.length_nil];omega) (by simp;omega) ?_);intro g3 c3 W6 hI hG;have C6:=ae (X5.out.app0 (n':=201) hI hG (by show M.length+1<=201;omega) (fun i hi=>by rw[List.mem_singleton.1 hi];exact Nat.zero_le _));clear hI hG X5 l;go_wp2;exact⟨⟨g3,c3,_,M++[(9,[],0)],by simp,C6.out,by simp only[List.length_append,List.length_cons,List.length_nil];omega⟩,by simp;omega⟩
   ·obtain⟨f,hL⟩:∃ f,f=M:=⟨_,rfl⟩
    have D:f.length=M.length:=by rw[hL]
    rw[<-hL] at b;clear hL;have d:=b.out.st.2.2.1;have S:=d.lt;have U:=d.c0;have T:=d.fz 0;have fin:=ae (b.out.fin (.slice (some ⟨X,0,none⟩) M.length c2));clear d;go_wp2;obtain⟨f1,I,V,J,H,G⟩:=fin.out;try simp only[Exit.inBlock,Exit.then]
    refine bp (cy rfl _ _ (w.heap.size+1) _ rfl f1) rfl ?_;exact⟨f,X,c2,by rw[D],I,by omega,by omega,J,_,by omega,H,G⟩
 ·obtain⟨r,o,x⟩:=m.out.ir.at k C
  rw[Nat.zero_add] at r o x;have A:=m.out.ir.fz (k*3);have B:=m.out.ir.fz (k*3+1);have q:=m.out.ir.fz (k*3+2);have K:=m.out.ir.lt.2;have b:Hid (SC w R (w.heap.size+1) (P.setCell ⟨h,k*3+1,none⟩ (.string ⟨#[121]⟩)) _ h c1 (L.set k ((L.getD k (0,[],0)).1,[121],(L.getD k (0,[],0)).2.2)) 200):=m.out.set3 (j:=1) C (by omega) ((L.getD k (0,[],0)).1,[121],(L.getD k (0,[],0)).2.2) (.string ⟨#[121]⟩) rfl (by simp);go_upto_region 20 with fail;generalize P.setCell ⟨h,k*3+1,none⟩ (.string ⟨#[121]⟩)=E at b ⊢;obtain⟨f,hL⟩:∃ f,f=L.set k ((L.getD k (0,[],0)).1,[121],(L.getD k (0,[],0)).2.2):=⟨_,rfl⟩
  have D:f.length=L.length:=by rw[hL,List.length_set]
  rw[<-hL] at b;clear hL r o x A B q K m;have d:=b.out.st.2.2.1;have S:=d.lt;have U:=d.c0;have T:=d.fz 0;have fin:=ae (b.out.fin (.slice (some ⟨h,0,none⟩) L.length c1));clear d;go_wp2;obtain⟨f1,I,V,J,H,G⟩:=fin.out;try simp only[Exit.inBlock,Exit.then]
  refine bp (cy rfl _ _ (w.heap.size+1) _ rfl f1) rfl ?_;exact⟨f,h,c1,by rw[D],I,by omega,by omega,J,_,by omega,H,G⟩
end Go.Proofs.YtkophfgkcijjkaaGreatDoor.Vp
