import Derived.Test.YtkophfgkcijjkaaGreatDoorZJ
import Derived.Test.YtkophfgkcijjkaaGreatDoorZL
import Derived.Lib.SliceRun
set_option maxRecDepth 100000
set_option maxHeartbeats 2000000
namespace Go.Proofs.YtkophfgkcijjkaaGreatDoor.Vp
open RowKit
theorem addr_add (b off j:Nat):(⟨b,off,none⟩:Addr).add j=⟨b,off+j,none⟩:=by unfold Addr.add;split<;>simp_all
theorem bZ {c:Type}(g:c->List Value)(C:Nat)(b:∀ x,(g x).length=C):∀ (L:List c) (i j:Nat) (_:j<C) (x:c),L[i]?=some x->(L.flatMap g)[i*C+j]?=(g x)[j]?
 | [],i,j,_,x,h=>by simp at h
 | y :: L,0,j,hj,x,h=>by simp at h;subst h;rw[List.flatMap_cons,Nat.zero_mul,Nat.zero_add,List.getElem?_append_left (by rw[b];exact hj)]
 | y :: L,i+1,j,hj,x,h=>by simp at h;rw[List.flatMap_cons,List.getElem?_append_right (by rw[b,Nat.succ_mul];omega),b,show(i+1)*C+j - C=i*C+j by rw[Nat.succ_mul];omega];exact bZ g C b L i j hj x h
theorem eh {b:Type}(g:b->List Value)(C:Nat)(c:∀ x,(g x).length=C):∀ L:List b,(L.flatMap g).length=L.length*C
 | []=>by simp
 | y :: L=>by rw[List.flatMap_cons,List.length_append,c,eh g C c L,List.length_cons,Nat.succ_mul];omega
def i8 (x:Ins):List Value:=[.int .i64 x.op,.string x.s,.int .i64 x.n]
def bI (f:Nat->Ins)(n:Nat):List Value:=((List.range n).map f).flatMap i8
theorem i9 (f:Nat->Ins)(n:Nat):(bI f n).length=n*3:=by rw[bI,eh i8 3 (fun _=>rfl)];simp
theorem ke (f:Nat->Ins){n i:Nat}(hi:i<n)(j:Nat)(b:j<3):(bI f n)[i*3+j]?=(i8 (f i))[j]? :=
 bZ i8 3 (fun _=>rfl) _ i j b (f i) (by simp[hi])
theorem o8 (f:Nat->Ins)(n:Nat):∀ u∈bI f n,u.oneCell'=true:=by intro u c;simp only[bI,List.mem_flatMap,i8] at c;obtain⟨x,_,b⟩:=c;simp at b;rcases b with rfl | rfl | rfl<;>simp[Value.oneCell']
theorem mJ {w:World}{b off n:Nat}{f:Nat->Ins}(h:RowIns w b off n f):∀ j u,(bI f n)[j]?=some u->w.cell? ((⟨b,off,none⟩:Addr).add j)=some u:=by
 intro j u c;have hl:j<n*3:=by have:=(List.getElem?_eq_some_iff.1 c).1;rwa[i9] at this
 have e:j=j / 3*3+j % 3:=by omega
 have hi:j / 3<n:=by omega
 obtain⟨i,k,l⟩:=h.2 (j / 3) hi;have d:j % 3<3:=Nat.mod_lt _ (by omega);rw[e,ke f hi (j % 3) d] at c;have g:(⟨b,off,none⟩:Addr).add j=⟨b,off+j,none⟩:=addr_add _ _ _;rw[g];rcases(show j % 3=0∨j % 3=1∨j % 3=2 by omega) with q | q | q;all_goals rw[q] at c;simp[i8] at c;subst c
 ·rw[show off+j=off+j / 3*3 by omega];exact i
 ·rw[show off+j=off+j / 3*3+1 by omega];exact k
 ·rw[show off+j=off+j / 3*3+2 by omega];exact l
theorem bA {w:World}{c size n g cap:Nat}{e:TypeId}{d:List Value}(h:w.ownsRow c e size (.slice (some ⟨g,0,none⟩) n cap) n d){j:Nat}{u:Value}(f:d[j]?=some u):w.cell? ⟨g,j,none⟩=some u/\w.frozen? ⟨g,j,none⟩=false:=by
 refine⟨?_,?_⟩
 ·have:=h.cells (g:=g) rfl j u f
  have i:(⟨g,0,none⟩:Addr).add j=⟨g,j,none⟩:=by rw[addr_add];simp
  rwa[i] at this
 ·rcases h.2 with ⟨b,_⟩ | ⟨g',cap',cur,b,_,k,_⟩
  ·simp at b
  ·simp at b
   obtain⟨rfl,rfl⟩:=b;simp[World.frozen?,k]
theorem cu {w:World}{b size n g cap:Nat}{e:TypeId}{c:List Value}(h:w.ownsRow b e size (.slice (some ⟨g,0,none⟩) n cap) n c):b<=g/\g<w.heap.size:=h.lt g rfl
def TypeAt (w:World)(g:Nat)(e:TypeId):Prop:=∃ b,w.heap[g]?=some (.cells b e (0,0))
theorem ei {w:World}{c size n g cap:Nat}{e:TypeId}{f:List Value}(h:w.ownsRow c e size (.slice (some ⟨g,0,none⟩) n cap) n f):TypeAt w g e:=by
 rcases h.2 with ⟨b,_⟩ | ⟨g',cap',d,b,_,i,_⟩
 ·simp at b
 ·simp at b
  obtain⟨rfl,rfl⟩:=b;exact⟨d,i⟩
theorem dU {w:World}{g k:Nat}{e f:TypeId}(h:TypeAt w g e)(j:TypeAt w k f)(i:e≠f):g≠k:=by rintro rfl;obtain⟨c,l⟩:=h;obtain⟨d,b⟩:=j;rw[l] at b;simp at b;exact i b.2
theorem aD {w:World}{b size n R j:Nat}{e:TypeId}{v:Value}{d:List Value}(h:w.ownsRow b e size v n d)(hR:R<b)(u:Value):(w.setCell ⟨R,j,none⟩ u).ownsRow b e size v n d:=by
 refine h.kept (row:=some R) ⟨rfl,rfl,rfl,by simp[World.setCell],fun k _ c=>qh _ _ _ _ (by simpa using c)⟩ ?_;rcases h.2 with ⟨rfl,_⟩ | ⟨g,cap,cur,rfl,hg,_⟩
 ·exact .inl rfl
 ·right
  simp[Value.ownBlock];omega
theorem kf {w:World}{c n g cap:Nat}{f:Nat->Ins}(h:w.ownsRow c 176 3 (.slice (some ⟨g,0,none⟩) n cap) n (bI f n)):RowIns w g 0 n f/\∃ F,Cells w g 0 (n*3) F:=by
 have b:=(cu h).2;refine⟨⟨b,fun i hi=>⟨?_,?_,?_⟩⟩,fun j=>(bI f n)[j]?.getD undef,b,fun j k=>?_⟩
 ·have:=(bA h (j:=i*3) (u:=.int .i64 (f i).op) (by have:=ke f hi 0 (by omega);simpa[i8] using this)).1
  rwa[show 0+i*3=i*3 by omega]
 ·have:=(bA h (j:=i*3+1) (u:=.string (f i).s) (by have:=ke f hi 1 (by omega);simpa[i8] using this)).1
  rwa[show 0+i*3+1=i*3+1 by omega]
 ·have:=(bA h (j:=i*3+2) (u:=.int .i64 (f i).n) (by have:=ke f hi 2 (by omega);simpa[i8] using this)).1
  rwa[show 0+i*3+2=i*3+2 by omega]
 ·rw[Nat.zero_add]
  have d:j<(bI f n).length:=by rw[i9];exact k
  have:=bA h (j:=j) (u:=(bI f n)[j]) (by rw[gq d]);show w.cell? _=some ((bI f n)[j]?.getD undef)/\_;rw[gq d];exact this
theorem uc (b off n cap:Nat)(f:Nat->Ins)(w:World)(hn:(n:Int)<=1048576)(o:RowIns w b off n f):Calls Tryz.prog 151 #[.slice (some ⟨b,off,none⟩) n cap] w fun e q=>∃ g c,e=.returned (.slice (some ⟨g,0,none⟩) n c)/\q.ownsRow w.heap.size 176 3 (.slice (some ⟨g,0,none⟩) n c) n (bI f n)/\Below w.heap.size w q:=by
 have s:=ae ((q9 w).alloc ly (.cells #[] 176));have x:=ae (o.below s.out ly);clear o;obtain⟨r,hi,l,p,m⟩:=info_parts j7;have hnl:∀ w:World,(binOp .eql 29 (.slice (some ⟨b,off,none⟩) n cap) (.slice none 0 0)).run Tryz.prog w=.ok (.bool false) w:=fun w=>Lib.run_eql_slice_nil w _ _ _ _ _ _ _ Tryz.underlying29;go_enter Tryz.func151,Tryz.ntmps151;go_wp2_with (at_builtin;refine wpList_append_own _ rfl (.tmp 5) (.tmp 6) 29 rfl w.heap.size 176 r (.agg #[.int .i64 0,.string ⟨#[]⟩,.int .i64 0]) 3 32 Tryz.underlying29 hi l p m rfl (by decide) (.slice (some ⟨w.heap.size,0,none⟩) 0 0) 0 [] (by simp[Act.eval]) (World.ownsRow_made w #[] 0 ly (by unfold maxLen;omega) rfl) ⟨b,off,none⟩ n cap (bI f n) (by simp[Act.eval]) (i9 f n) (mJ x.out) (o8 f n) (by unfold maxLen;omega) (by omega) (by simp) ?_;intro v' w2 d h i;simp only[Nat.zero_add,List.nil_append] at d;have k:=ae d;have u:=ae i;have t:=ae (bg s.out h (by simp) (fun j e=>by simp[Value.ownBlock] at e;omega));clear d h i);go_ret;rcases k.out.2 with ⟨rfl,_⟩ | ⟨g,c,cur,rfl,_⟩
 ·have:=u.out.1 rfl
  simp at this
 ·exact⟨g,c,rfl,k.out,t.out⟩
theorem lM (b off n cap:Nat)(f:Nat->Ins)(w:World)(hn:(n:Int)<=1048576)(h:RowIns w b off n f):Calls Tryz.prog 78 #[.agg #[.slice (some ⟨b,off,none⟩) n cap]] w fun e l=>∃ g c,e=.returned (.agg #[.slice (some ⟨g,0,none⟩) n c])/\l.ownsRow w.heap.size 176 3 (.slice (some ⟨g,0,none⟩) n c) n (bI f n)/\Below w.heap.size w l:=by
 have m:=ae (((q9 w).alloc ly (.cells #[.slice (some ⟨b,off,none⟩) n cap] 31)).alloc (by simp) (.cells #[.slice none 0 0] 31));have t:=ae (h.below m.out ly);have i:((w.alloc (.cells #[.slice (some ⟨b,off,none⟩) n cap] 31)).alloc (.cells #[.slice none 0 0] 31)).cell? ⟨w.heap.size+1,0,none⟩=some (.slice none 0 0):=by simp
 clear h;go_enter Tryz.func78,Tryz.ntmps78;go_wp2_with fail;refine(uc b off n cap f _ hn t.out).mono ?_;rintro e o ⟨g,c,rfl,k,d⟩;have q:=(d.cell (p:=⟨w.heap.size+1,0,none⟩) (by simp)).trans i;have r:=ae (aB (aD (R:=w.heap.size+1) (j:=0) k (by simp) (.slice (some ⟨g,0,none⟩) n c)) (base':=w.heap.size) (by simp;omega));have s:=ae ((m.out.trans (d.mono (by simp;omega))).setCell (p:=⟨w.heap.size+1,0,none⟩) (by simp) (.slice (some ⟨g,0,none⟩) n c));have z0:o.frozen? ⟨w.heap.size+1,0,none⟩=false:=(d.frozen (p:=⟨w.heap.size+1,0,none⟩) (by simp)).trans (by simp);clear k d i;go_wp2;exact bp (v:=.agg #[.slice (some ⟨g,0,none⟩) n c]) (by simp[results,Tryz.results78,go_sem,q]) rfl ⟨g,c,rfl,r.out,s.out⟩
theorem gj (b off n cap:Nat)(f:Nat->Ins)(w:World)(hn:(n:Int)<=1048576)(q:RowIns w b off n f):Calls Tryz.prog 80 #[.agg #[.slice (some ⟨b,off,none⟩) n cap]] w fun e m=>∃ g c,e=.returned (.agg #[.slice (some ⟨g,0,none⟩) n c])/\m.ownsRow w.heap.size 176 3 (.slice (some ⟨g,0,none⟩) n c) n (bI f n)/\Below w.heap.size w m:=by
 have o:=ae (((q9 w).alloc ly (.cells #[.slice (some ⟨b,off,none⟩) n cap] 31)).alloc (by simp) (.cells #[.slice none 0 0] 31));have l:((w.alloc (.cells #[.slice (some ⟨b,off,none⟩) n cap] 31)).alloc (.cells #[.slice none 0 0] 31)).cell? ⟨w.heap.size+1,0,none⟩=some (.slice none 0 0):=by simp
 have D:((w.alloc (.cells #[.slice (some ⟨b,off,none⟩) n cap] 31)).alloc (.cells #[.slice none 0 0] 31)).cell? ⟨w.heap.size,0,none⟩=some (.slice (some ⟨b,off,none⟩) n cap):=by simp
 have z0:((w.alloc (.cells #[.slice (some ⟨b,off,none⟩) n cap] 31)).alloc (.cells #[.slice none 0 0] 31)).frozen? ⟨w.heap.size+1,0,none⟩=false:=by simp
 have hz:((w.alloc (.cells #[.slice (some ⟨b,off,none⟩) n cap] 31)).alloc (.cells #[.slice none 0 0] 31)).heap.size=w.heap.size+1+1:=by simp
 have y:=ae (q.below o.out ly);clear q;obtain⟨s,hi,t,r,u⟩:=info_parts j7;go_enter Tryz.func80,Tryz.ntmps80;have x:=ae ((Below.refl (w.heap.size+1+1) ((w.alloc (.cells #[.slice (some ⟨b,off,none⟩) n cap] 31)).alloc (.cells #[.slice none 0 0] 31))).alloc (by simp) (.cells #[] 176));have E:=ae (y.out.below x.out (by simp));go_wp2_with (at_builtin;refine wpList_append_own _ rfl (.tmp 3) (.tmp 5) 29 rfl (w.heap.size+1+1) 176 s (.agg #[.int .i64 0,.string ⟨#[]⟩,.int .i64 0]) 3 32 Tryz.underlying29 hi t r u rfl (by decide) (.slice (some ⟨w.heap.size+1+1,0,none⟩) 0 0) 0 [] (by simp[Act.eval]) (by have:=World.ownsRow_made (base:=w.heap.size+1+1) (e:=176) (size:=3) ((w.alloc (.cells #[.slice (some ⟨b,off,none⟩) n cap] 31)).alloc (.cells #[.slice none 0 0] 31)) #[] 0 (by simp) (by unfold maxLen;omega) rfl;simpa using this) ⟨b,off,none⟩ n cap (bI f n) (by simp[Act.eval]) (i9 f n) (mJ E.out) (o8 f n) (by unfold maxLen;omega) (by omega) (by simp<;>omega) ?_;intro C w2 d h i;simp only[Nat.zero_add,List.nil_append] at d;obtain⟨g,c,rfl⟩:∃ g c,C=.slice (some ⟨g,0,none⟩) n c:=(by rcases d.2 with ⟨rfl,_⟩ | ⟨g,c,cur,rfl,_⟩;(have:=i.1 rfl;simp at this);exact⟨g,c,rfl⟩);have k:=ae (bg x.out h (by simp<;>omega) (fun j e=>by simp[Value.ownBlock] at e;omega));have B:=ae (o.out.trans (k.out.mono (by omega)));have z:=(k.out.cell (p:=⟨w.heap.size+1,0,none⟩) (by simp)).trans l;have lz:=(k.out.frozen (p:=⟨w.heap.size+1,0,none⟩) (by simp)).trans z0;have A:=ae (aB (aD (R:=w.heap.size+1) (j:=0) d (by omega) (.slice (some ⟨g,0,none⟩) n c)) (base':=w.heap.size) (by omega));clear d h i l D z0);exact bp (v:=.agg #[.slice (some ⟨g,0,none⟩) n c]) (by simp[results,Tryz.results80,go_sem,z]) rfl ⟨g,c,rfl,A.out,B.out.setCell (by simp) _⟩
def be (x:Source):List Value:=[.string x.name,.string x.text]
theorem ou (a:Option Addr)(cap:Nat)(w:World):Calls Tryz.prog 80 #[.agg #[.slice a 0 cap]] w fun e n=>∃ g c,e=.returned (.agg #[.slice (some ⟨g,0,none⟩) 0 c])/\n.ownsRow w.heap.size 176 3 (.slice (some ⟨g,0,none⟩) 0 c) 0 []/\Below w.heap.size w n:=by
 have hz:((w.alloc (.cells #[.slice a 0 cap] 31)).alloc (.cells #[.slice (some ⟨w.heap.size+1+1,0,none⟩) 0 0] 31)).heap.size=w.heap.size+1+1:=by simp
 have y:=ae ((((q9 w).alloc ly (.cells #[.slice a 0 cap] 31)).alloc (by simp) (.cells #[.slice (some ⟨w.heap.size+1+1,0,none⟩) 0 0] 31)).alloc (by rw[hz];omega) (.cells #[] 176));have s:Hid ((((w.alloc (.cells #[.slice a 0 cap] 31)).alloc (.cells #[.slice (some ⟨w.heap.size+1+1,0,none⟩) 0 0] 31)).alloc (.cells #[] 176)).ownsRow w.heap.size 176 3 (.slice (some ⟨w.heap.size+1+1,0,none⟩) 0 0) 0 []):=by have h:=World.ownsRow_made (base:=w.heap.size) (e:=176) (size:=3) ((w.alloc (.cells #[.slice a 0 cap] 31)).alloc (.cells #[.slice (some ⟨w.heap.size+1+1,0,none⟩) 0 0] 31)) #[] 0 (by rw[hz];omega) (by unfold maxLen;omega) rfl;rw[hz] at h;exact h
 have k:((w.alloc (.cells #[.slice a 0 cap] 31)).alloc (.cells #[.slice none 0 0] 31)).cell? ⟨w.heap.size+1,0,none⟩=some (.slice none 0 0):=by simp
 have r:((w.alloc (.cells #[.slice a 0 cap] 31)).alloc (.cells #[.slice none 0 0] 31)).cell? ⟨w.heap.size,0,none⟩=some (.slice a 0 cap):=by simp
 have z0:((w.alloc (.cells #[.slice a 0 cap] 31)).alloc (.cells #[.slice none 0 0] 31)).frozen? ⟨w.heap.size+1,0,none⟩=false:=by simp
 cases a with
 | none =>clear k r z0;go_enter Tryz.func80,Tryz.ntmps80;go_wp2;exact bp (v:=.agg #[.slice (some ⟨w.heap.size+1+1,0,none⟩) 0 0]) (by simp[results,Tryz.results80,go_sem]) rfl ⟨_,_,rfl,s.out,y.out⟩
 | some f =>
  have z:=ae (((q9 w).alloc ly (.cells #[.slice (some f) 0 cap] 31)).alloc (by simp) (.cells #[.slice none 0 0] 31));have hz2:((w.alloc (.cells #[.slice (some f) 0 cap] 31)).alloc (.cells #[.slice none 0 0] 31)).heap.size=w.heap.size+1+1:=by simp
  obtain⟨q,hi,t,o,x⟩:=info_parts j7;have E:=ae ((Below.refl (w.heap.size+1+1) ((w.alloc (.cells #[.slice (some f) 0 cap] 31)).alloc (.cells #[.slice none 0 0] 31))).alloc (by simp) (.cells #[] 176));clear y s hz;go_enter Tryz.func80,Tryz.ntmps80;go_wp2_with (at_builtin;refine wpList_append_own _ rfl (.tmp 3) (.tmp 5) 29 rfl (w.heap.size+1+1) 176 q (.agg #[.int .i64 0,.string ⟨#[]⟩,.int .i64 0]) 3 32 Tryz.underlying29 hi t o x rfl (by decide) (.slice (some ⟨w.heap.size+1+1,0,none⟩) 0 0) 0 [] (by simp[Act.eval]) (by have:=World.ownsRow_made (base:=w.heap.size+1+1) (e:=176) (size:=3) ((w.alloc (.cells #[.slice (some f) 0 cap] 31)).alloc (.cells #[.slice none 0 0] 31)) #[] 0 (by simp) (by unfold maxLen;omega) rfl;simpa using this) f 0 cap [] (by simp[Act.eval]) rfl (fun j u l=>by simp at l) (fun u l=>by simp at l) (by unfold maxLen;omega) (by omega) (by simp<;>omega) ?_;intro D w2 b d i;simp only[Nat.zero_add,List.nil_append] at b;obtain⟨g,c,rfl⟩:∃ g c,D=.slice (some ⟨g,0,none⟩) 0 c:=(by rcases b.2 with ⟨rfl,_⟩ | ⟨g,c,cur,rfl,_⟩;(have:=i.1 rfl;simp at this);exact⟨g,c,rfl⟩);have m:=ae (bg E.out d (by simp<;>omega) (fun j e=>by simp[Value.ownBlock] at e;omega));have C:=ae (z.out.trans (m.out.mono (by omega)));have A:=(m.out.cell (p:=⟨w.heap.size+1,0,none⟩) (by simp)).trans k;have lz:=(m.out.frozen (p:=⟨w.heap.size+1,0,none⟩) (by simp)).trans z0;have B:=ae (aB (aD (R:=w.heap.size+1) (j:=0) b (by omega) (.slice (some ⟨g,0,none⟩) 0 c)) (base':=w.heap.size) (by omega));clear b d i k r z0);exact bp (v:=.agg #[.slice (some ⟨g,0,none⟩) 0 c]) (by simp[results,Tryz.results80,go_sem,A]) rfl ⟨g,c,rfl,B.out,C.out.setCell (by simp) _⟩
theorem gn (a:Option Addr)(n cap:Nat)(f:Nat->Ins)(w:World)(hn:(n:Int)<=1048576)(d:SlIns w a n f):Calls Tryz.prog 80 #[.agg #[.slice a n cap]] w fun e h=>∃ g c,e=.returned (.agg #[.slice (some ⟨g,0,none⟩) n c])/\h.ownsRow w.heap.size 176 3 (.slice (some ⟨g,0,none⟩) n c) n (bI f n)/\Below w.heap.size w h:=by
 rcases d with rfl | ⟨b,off,rfl,d⟩
 ·exact ou a cap w
 ·exact gj b off n cap f w hn d
end Go.Proofs.YtkophfgkcijjkaaGreatDoor.Vp
