import Derived.Test.YtkdimgejdocbbaaGreatDoorZM
import Derived.Test.YtkdimgejdocbbaaGreatDoorZL
import Derived.Lib.SliceRun
set_option maxRecDepth 100000
set_option maxHeartbeats 2000000
open Go.Addr renaming mk->J
open Go.Value renaming slice->Y,string->U,int->N,agg->QE
open Option renaming none->Z,some->Q
open Go.Obj renaming cells->T
open Go.IntKind renaming i64->I
open Go renaming World->E,Value->QB,TypeId->QF
open Bool renaming false->D
open Go.Ending renaming returned->QD
namespace Go.Proofs.YtkdimgejdocbbaaGreatDoor.Vp
open RowKit
theorem addr_add (b off j:Nat):((J b off Z):Addr).add j=(J b (off+j) Z):=by unfold Addr.add;split<;>simp_all
theorem cS {d:Type}(g:d->List QB)(C:Nat)(b:∀ x,(g x).length=C):∀ (L:List d) (i j:Nat) (_:j<C) (x:d),L[i]?=Q x->(L.flatMap g)[i*C+j]?=(g x)[j]?
 | [],i,j,_,x,h=>by simp at h
 | y :: L,0,j,hj,x,h=>by simp at h;subst h;rw[I8,LV,C9,IJ (by rw[b];exact hj)]
 | y :: L,i+1,j,hj,x,h=>by simp at h;rw[I8,AT (by rw[b,Nat.succ_mul];omega),b,show(i+1)*C+j - C=i*C+j by rw[Nat.succ_mul];omega];exact cS g C b L i j hj x h
theorem nf {b:Type}(g:b->List QB)(C:Nat)(d:∀ x,(g x).length=C):∀ L:List b,(L.flatMap g).length=L.length*C
 | []=>by simp
 | y :: L=>by rw[I8,cM,d,nf g C d L,o3,Nat.succ_mul];omega
def kj (x:Ins):List QB:=[N I x.op,U x.s,N I x.n]
def cB (f:Nat->Ins)(n:Nat):List QB:=((List.range n).map f).flatMap kj
theorem kk (f:Nat->Ins)(n:Nat):(cB f n).length=n*3:=by rw[cB,nf kj 3 (fun _=>rfl)];simp
theorem mz (f:Nat->Ins){n i:Nat}(hi:i<n)(j:Nat)(b:j<3):(cB f n)[i*3+j]?=(kj (f i))[j]? :=
 cS kj 3 (fun _=>rfl) _ i j b (f i) (by simp[hi])
theorem rM (f:Nat->Ins)(n:Nat):∀ u∈cB f n,u.oneCell'=true:=by intro u d;simp only[cB,List.mem_flatMap,kj] at d;obtain⟨x,_,b⟩:=d;simp at b;rcases b with rfl | rfl | rfl<;>simp[Value.oneCell']
theorem o7 {w:E}{b off n:Nat}{f:Nat->Ins}(h:RowIns w b off n f):∀ j u,(cB f n)[j]?=Q u->w.cell? (((J b off Z):Addr).add j)=Q u:=by
 intro j u d;have hl:j<n*3:=by have:=(kS.1 d).1;rwa[kk] at this
 have e:j=j / 3*3+j % 3:=by omega
 have hi:j / 3<n:=by omega
 obtain⟨k,h1,h2⟩:=h.2 (j / 3) hi;have i:j % 3<3:=NE _ (by omega);rw[e,mz f hi (j % 3) i] at d;have g:((J b off Z):Addr).add j=(J b (off+j) Z):=addr_add _ _ _;rw[g];rcases(show j % 3=0∨j % 3=1∨j % 3=2 by omega) with q | q | q;all_goals rw[q] at d;simp[kj] at d;subst d
 ·rw[show off+j=off+j / 3*3 by omega];exact k
 ·rw[show off+j=off+j / 3*3+1 by omega];exact h1
 ·rw[show off+j=off+j / 3*3+2 by omega];exact h2
theorem bv {w:E}{d size n g i:Nat}{e:QF}{f:List QB}(h:w.ownsRow d e size (Y (Q (J g 0 Z)) n i) n f){j:Nat}{u:QB}(l:f[j]?=Q u):w.cell? (J g j Z)=Q u/\w.frozen? (J g j Z)=D:=by
 refine⟨?_,?_⟩
 ·have:=h.cells (g:=g) rfl j u l
  have m:((J g 0 Z):Addr).add j=(J g j Z):=by rw[addr_add];simp
  rwa[m] at this
 ·rcases h.2 with ⟨b,_⟩ | ⟨g',cap',cur,b,_,k,_⟩
  ·simp at b
  ·simp at b
   obtain⟨rfl,rfl⟩:=b;simp[World.frozen?,k]
theorem dR {w:E}{b size n g d:Nat}{e:QF}{f:List QB}(h:w.ownsRow b e size (Y (Q (J g 0 Z)) n d) n f):b<=g/\g<w.heap.size:=h.lt g rfl
def TypeAt (w:E)(g:Nat)(e:QF):Prop:=∃ b,w.heap[g]?=Q (T b e (0,0))
theorem iX {w:E}{d size n g f:Nat}{e:QF}{j:List QB}(h:w.ownsRow d e size (Y (Q (J g 0 Z)) n f) n j):TypeAt w g e:=by
 rcases h.2 with ⟨b,_⟩ | ⟨g',cap',i,b,_,k,_⟩
 ·simp at b
 ·simp at b
  obtain⟨rfl,rfl⟩:=b;exact⟨i,k⟩
theorem ey {w:E}{g k:Nat}{e i:QF}(h:TypeAt w g e)(j:TypeAt w k i)(f:e≠i):g≠k:=by rintro rfl;obtain⟨c,l⟩:=h;obtain⟨d,b⟩:=j;rw[l] at b;simp at b;exact f b.2
theorem aG {w:E}{b size n R j:Nat}{e:QF}{v:QB}{f:List QB}(h:w.ownsRow b e size v n f)(hR:R<b)(u:QB):(w.setCell (J R j Z) u).ownsRow b e size v n f:=by
 refine h.kept (row:=Q R) ⟨rfl,rfl,rfl,by simp[World.setCell],fun k _ d=>qh _ _ _ _ (by simpa using d)⟩ ?_;rcases h.2 with ⟨rfl,_⟩ | ⟨g,cap,cur,rfl,hg,_⟩
 ·exact .inl rfl
 ·right
  simp[Value.ownBlock];omega
theorem jN {w:E}{d n g l:Nat}{f:Nat->Ins}(h:w.ownsRow d 188 3 (Y (Q (J g 0 Z)) n l) n (cB f n)):RowIns w g 0 n f/\∃ F,Cells w g 0 (n*3) F:=by
 have b:=(dR h).2;refine⟨⟨b,fun i hi=>⟨?_,?_,?_⟩⟩,fun j=>(cB f n)[j]?.getD undef,b,fun j m=>?_⟩
 ·have:=(bv h (j:=i*3) (u:=N I (f i).op) (by have:=mz f hi 0 (by omega);simpa[kj] using this)).1
  rwa[show 0+i*3=i*3 by omega]
 ·have:=(bv h (j:=i*3+1) (u:=U (f i).s) (by have:=mz f hi 1 (by omega);simpa[kj] using this)).1
  rwa[show 0+i*3+1=i*3+1 by omega]
 ·have:=(bv h (j:=i*3+2) (u:=N I (f i).n) (by have:=mz f hi 2 (by omega);simpa[kj] using this)).1
  rwa[show 0+i*3+2=i*3+2 by omega]
 ·rw[C9]
  have k:j<(cB f n).length:=by rw[kk];exact m
  have:=bv h (j:=j) (u:=(cB f n)[j]) (by rw[gq k]);show w.cell? _=Q ((cB f n)[j]?.getD undef)/\_;rw[gq k];exact this
theorem xV (b off n i:Nat)(f:Nat->Ins)(w:E)(hn:(n:Int)<=1048576)(q:RowIns w b off n f):Calls Tryz.prog 165 #[Y (Q (J b off Z)) n i] w fun e p=>∃ g c,e=QD (Y (Q (J g 0 Z)) n c)/\p.ownsRow w.heap.size 188 3 (Y (Q (J g 0 Z)) n c) n (cB f n)/\Below w.heap.size w p:=by
 have s:=ae ((Qs w).alloc lr (T #[] 188));have u:=ae (q.below s lr);clear q;obtain⟨l,hi,o,r,m⟩:=IQ mx;have hnl:∀ w:E,(binOp .eql 29 (Y (Q (J b off Z)) n i) (Y Z 0 0)).run Tryz.prog w=.ok (.bool D) w:=fun w=>Lib.run_eql_slice_nil w _ _ _ _ _ _ _ Tryz.underlying29;go_enter Tryz.func165,Tryz.ntmps165;go_wp2_with (at_builtin;refine CL _ rfl (.tmp 5) (.tmp 6) 29 rfl w.heap.size 188 l (QE #[N I 0,U ⟨#[]⟩,N I 0]) 3 32 Tryz.underlying29 hi o r m rfl (by decide) (Y (Q (J w.heap.size 0 Z)) 0 0) 0 [] (by simp[Act.eval]) (JC w #[] 0 lr (by unfold maxLen;omega) rfl) (J b off Z) n i (cB f n) (by simp[Act.eval]) (kk f n) (o7 u) (rM f n) (by unfold maxLen;omega) (by omega) (by simp) ?_;intro v' w2 d h k;simp only[C9,IM] at d;have t:=ae d;have x:=ae k;have y:=ae (bg s h (by simp) (fun j e=>by simp[Value.ownBlock] at e;omega));clear d h k);go_ret;rcases t.2 with ⟨rfl,_⟩ | ⟨g,c,cur,rfl,_⟩
 ·have:=x.1 rfl
  simp at this
 ·exact⟨g,c,rfl,t,y⟩
theorem n3 (b off n d:Nat)(f:Nat->Ins)(w:E)(s:(n:Int)<=1048576)(l:RowIns w b off n f):Calls Tryz.prog 84 #[QE #[Y (Q (J b off Z)) n d]] w fun e k=>∃ g c,e=QD (QE #[Y (Q (J g 0 Z)) n c])/\k.ownsRow w.heap.size 188 3 (Y (Q (J g 0 Z)) n c) n (cB f n)/\Below w.heap.size w k:=by
 have m:=ae (((Qs w).alloc lr (T #[Y (Q (J b off Z)) n d] 31)).alloc (by simp) (T #[Y Z 0 0] 31));have q:=ae (l.below m lr);have o:((w.alloc (T #[Y (Q (J b off Z)) n d] 31)).alloc (T #[Y Z 0 0] 31)).cell? (J (w.heap.size+1) 0 Z)=Q (Y Z 0 0):=by simp
 clear l;go_enter Tryz.func84,Tryz.ntmps84;go_wp2_with fail;refine(xV b off n d f _ s q).mono ?_;rintro e x ⟨g,c,rfl,i,h⟩;have u:=(h.cell (p:=(J (w.heap.size+1) 0 Z)) (by simp)).trans o;have r:=ae (aI (aG (R:=w.heap.size+1) (j:=0) i (by simp) (Y (Q (J g 0 Z)) n c)) (base':=w.heap.size) (by simp;omega));have t:=ae ((m.trans (h.mono (by simp;omega))).setCell (p:=(J (w.heap.size+1) 0 Z)) (by simp) (Y (Q (J g 0 Z)) n c));have z0:x.frozen? (J (w.heap.size+1) 0 Z)=D:=(h.frozen (p:=(J (w.heap.size+1) 0 Z)) (by simp)).trans (by simp);clear i h o;go_wp2;exact bp (v:=QE #[Y (Q (J g 0 Z)) n c]) (by simp[results,Tryz.results84,go_sem,u]) rfl ⟨g,c,rfl,r,t⟩
theorem lC (b off n d:Nat)(f:Nat->Ins)(w:E)(hn:(n:Int)<=1048576)(m:RowIns w b off n f):Calls Tryz.prog 86 #[QE #[Y (Q (J b off Z)) n d]] w fun e s=>∃ g c,e=QD (QE #[Y (Q (J g 0 Z)) n c])/\s.ownsRow w.heap.size 188 3 (Y (Q (J g 0 Z)) n c) n (cB f n)/\Below w.heap.size w s:=by
 have o:=ae (((Qs w).alloc lr (T #[Y (Q (J b off Z)) n d] 31)).alloc (by simp) (T #[Y Z 0 0] 31));have q:((w.alloc (T #[Y (Q (J b off Z)) n d] 31)).alloc (T #[Y Z 0 0] 31)).cell? (J (w.heap.size+1) 0 Z)=Q (Y Z 0 0):=by simp
 have B:((w.alloc (T #[Y (Q (J b off Z)) n d] 31)).alloc (T #[Y Z 0 0] 31)).cell? (J w.heap.size 0 Z)=Q (Y (Q (J b off Z)) n d):=by simp
 have z0:((w.alloc (T #[Y (Q (J b off Z)) n d] 31)).alloc (T #[Y Z 0 0] 31)).frozen? (J (w.heap.size+1) 0 Z)=D:=by simp
 have hz:((w.alloc (T #[Y (Q (J b off Z)) n d] 31)).alloc (T #[Y Z 0 0] 31)).heap.size=w.heap.size+1+1:=by simp
 have t:=ae (m.below o lr);clear m;obtain⟨u,hi,y,z,r⟩:=IQ mx;go_enter Tryz.func86,Tryz.ntmps86;have x:=ae ((eI (w.heap.size+1+1) ((w.alloc (T #[Y (Q (J b off Z)) n d] 31)).alloc (T #[Y Z 0 0] 31))).alloc (by simp) (T #[] 188));have QP:=ae (t.below x (by simp));go_wp2_with (at_builtin;refine CL _ rfl (.tmp 3) (.tmp 5) 29 rfl (w.heap.size+1+1) 188 u (QE #[N I 0,U ⟨#[]⟩,N I 0]) 3 32 Tryz.underlying29 hi y z r rfl (by decide) (Y (Q (J (w.heap.size+1+1) 0 Z)) 0 0) 0 [] (by simp[Act.eval]) (by have:=JC (base:=w.heap.size+1+1) (e:=188) (size:=3) ((w.alloc (T #[Y (Q (J b off Z)) n d] 31)).alloc (T #[Y Z 0 0] 31)) #[] 0 (by simp) (by unfold maxLen;omega) rfl;simpa using this) (J b off Z) n d (cB f n) (by simp[Act.eval]) (kk f n) (o7 QP) (rM f n) (by unfold maxLen;omega) (by omega) (by simp<;>omega) ?_;intro A w2 h i k;simp only[C9,IM] at h;obtain⟨g,c,rfl⟩:∃ g c,A=Y (Q (J g 0 Z)) n c:=(by rcases h.2 with ⟨rfl,_⟩ | ⟨g,c,cur,rfl,_⟩;(have:=k.1 rfl;simp at this);exact⟨g,c,rfl⟩);have l:=ae (bg x i (by simp<;>omega) (fun j e=>by simp[Value.ownBlock] at e;omega));have G:=ae (o.trans (l.mono (by omega)));have QQ:=(l.cell (p:=(J (w.heap.size+1) 0 Z)) (by simp)).trans q;have lz:=(l.frozen (p:=(J (w.heap.size+1) 0 Z)) (by simp)).trans z0;have C:=ae (aI (aG (R:=w.heap.size+1) (j:=0) h (by omega) (Y (Q (J g 0 Z)) n c)) (base':=w.heap.size) (by omega));clear h i k q B z0);exact bp (v:=QE #[Y (Q (J g 0 Z)) n c]) (by simp[results,Tryz.results86,go_sem,QQ]) rfl ⟨g,c,rfl,C,G.setCell (by simp) _⟩
def bC (x:Source):List QB:=[U x.name,U x.text]
theorem qJ (a:Option Addr)(b:Nat)(w:E):Calls Tryz.prog 86 #[QE #[Y a 0 b]] w fun e q=>∃ g c,e=QD (QE #[Y (Q (J g 0 Z)) 0 c])/\q.ownsRow w.heap.size 188 3 (Y (Q (J g 0 Z)) 0 c) 0 []/\Below w.heap.size w q:=by
 have hz:((w.alloc (T #[Y a 0 b] 31)).alloc (T #[Y (Q (J (w.heap.size+1+1) 0 Z)) 0 0] 31)).heap.size=w.heap.size+1+1:=by simp
 have t:=ae ((((Qs w).alloc lr (T #[Y a 0 b] 31)).alloc (by simp) (T #[Y (Q (J (w.heap.size+1+1) 0 Z)) 0 0] 31)).alloc (by rw[hz];omega) (T #[] 188));have x:Hid ((((w.alloc (T #[Y a 0 b] 31)).alloc (T #[Y (Q (J (w.heap.size+1+1) 0 Z)) 0 0] 31)).alloc (T #[] 188)).ownsRow w.heap.size 188 3 (Y (Q (J (w.heap.size+1+1) 0 Z)) 0 0) 0 []):=by have h:=JC (base:=w.heap.size) (e:=188) (size:=3) ((w.alloc (T #[Y a 0 b] 31)).alloc (T #[Y (Q (J (w.heap.size+1+1) 0 Z)) 0 0] 31)) #[] 0 (by rw[hz];omega) (by unfold maxLen;omega) rfl;rw[hz] at h;exact h
 have l:((w.alloc (T #[Y a 0 b] 31)).alloc (T #[Y Z 0 0] 31)).cell? (J (w.heap.size+1) 0 Z)=Q (Y Z 0 0):=by simp
 have r:((w.alloc (T #[Y a 0 b] 31)).alloc (T #[Y Z 0 0] 31)).cell? (J w.heap.size 0 Z)=Q (Y a 0 b):=by simp
 have z0:((w.alloc (T #[Y a 0 b] 31)).alloc (T #[Y Z 0 0] 31)).frozen? (J (w.heap.size+1) 0 Z)=D:=by simp
 cases a with
 | none =>clear l r z0;go_enter Tryz.func86,Tryz.ntmps86;go_wp2;exact bp (v:=QE #[Y (Q (J (w.heap.size+1+1) 0 Z)) 0 0]) (by simp[results,Tryz.results86,go_sem]) rfl ⟨_,_,rfl,x,t⟩
 | some k =>
  have B:=ae (((Qs w).alloc lr (T #[Y (Q k) 0 b] 31)).alloc (by simp) (T #[Y Z 0 0] 31));have hz2:((w.alloc (T #[Y (Q k) 0 b] 31)).alloc (T #[Y Z 0 0] 31)).heap.size=w.heap.size+1+1:=by simp
  obtain⟨s,hi,y,z,o⟩:=IQ mx;have C:=ae ((eI (w.heap.size+1+1) ((w.alloc (T #[Y (Q k) 0 b] 31)).alloc (T #[Y Z 0 0] 31))).alloc (by simp) (T #[] 188));clear t x hz;go_enter Tryz.func86,Tryz.ntmps86;go_wp2_with (at_builtin;refine CL _ rfl (.tmp 3) (.tmp 5) 29 rfl (w.heap.size+1+1) 188 s (QE #[N I 0,U ⟨#[]⟩,N I 0]) 3 32 Tryz.underlying29 hi y z o rfl (by decide) (Y (Q (J (w.heap.size+1+1) 0 Z)) 0 0) 0 [] (by simp[Act.eval]) (by have:=JC (base:=w.heap.size+1+1) (e:=188) (size:=3) ((w.alloc (T #[Y (Q k) 0 b] 31)).alloc (T #[Y Z 0 0] 31)) #[] 0 (by simp) (by unfold maxLen;omega) rfl;simpa using this) k 0 b [] (by simp[Act.eval]) rfl (fun j u n=>by simp at n) (fun u n=>by simp at n) (by unfold maxLen;omega) (by omega) (by simp<;>omega) ?_;intro A w2 d f i;simp only[C9,IM] at d;obtain⟨g,c,rfl⟩:∃ g c,A=Y (Q (J g 0 Z)) 0 c:=(by rcases d.2 with ⟨rfl,_⟩ | ⟨g,c,cur,rfl,_⟩;(have:=i.1 rfl;simp at this);exact⟨g,c,rfl⟩);have m:=ae (bg C f (by simp<;>omega) (fun j e=>by simp[Value.ownBlock] at e;omega));have G:=ae (B.trans (m.mono (by omega)));have QP:=(m.cell (p:=(J (w.heap.size+1) 0 Z)) (by simp)).trans l;have lz:=(m.frozen (p:=(J (w.heap.size+1) 0 Z)) (by simp)).trans z0;have QQ:=ae (aI (aG (R:=w.heap.size+1) (j:=0) d (by omega) (Y (Q (J g 0 Z)) 0 c)) (base':=w.heap.size) (by omega));clear d f i l r z0);exact bp (v:=QE #[Y (Q (J g 0 Z)) 0 c]) (by simp[results,Tryz.results86,go_sem,QP]) rfl ⟨g,c,rfl,QQ,G.setCell (by simp) _⟩
theorem lD (a:Option Addr)(n d:Nat)(f:Nat->Ins)(w:E)(j:(n:Int)<=1048576)(h:SlIns w a n f):Calls Tryz.prog 86 #[QE #[Y a n d]] w fun e i=>∃ g c,e=QD (QE #[Y (Q (J g 0 Z)) n c])/\i.ownsRow w.heap.size 188 3 (Y (Q (J g 0 Z)) n c) n (cB f n)/\Below w.heap.size w i:=by
 rcases h with rfl | ⟨b,off,rfl,h⟩
 ·exact qJ a d w
 ·exact lC b off n d f w j h
end Go.Proofs.YtkdimgejdocbbaaGreatDoor.Vp
