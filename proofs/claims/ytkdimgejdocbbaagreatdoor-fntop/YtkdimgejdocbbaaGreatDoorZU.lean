import Derived.Test.YtkdimgejdocbbaaGreatDoorZM
import Derived.Test.YtkdimgejdocbbaaGreatDoorZL
import Derived.Lib.SliceRun
set_option maxRecDepth 100000
set_option maxHeartbeats 2000000
open Go.Addr renaming mk->J
open Go.Value renaming slice->Z,string->U,int->Q,agg->QE
open Option renaming none->Y,some->N
open Go.Obj renaming cells->T
open Go.IntKind renaming i64->I
open Go renaming World->E,Value->QB,TypeId->QF
open Bool renaming false->D
open Go.Ending renaming returned->QD
namespace Go.Proofs.YtkdimgejdocbbaaGreatDoor.Vp
open RowKit
theorem addr_add (b off j:Nat):((J b off Y):Addr).add j=(J b (off+j) Y):=by unfold Addr.add;split<;>simp_all
theorem cS {d:Type}(g:d->List QB)(C:Nat)(b:∀ x,(g x).length=C):∀ (L:List d) (i j:Nat) (_:j<C) (x:d),L[i]?=N x->(L.flatMap g)[i*C+j]?=(g x)[j]?
 | [],i,j,_,x,h=>by simp at h
 | y :: L,0,j,hj,x,h=>by simp at h;subst h;rw[I9,LZ,DC,IK (by rw[b];exact hj)]
 | y :: L,i+1,j,hj,x,h=>by simp at h;rw[I9,AT (by rw[b,Nat.succ_mul];omega),b,show(i+1)*C+j - C=i*C+j by rw[Nat.succ_mul];omega];exact cS g C b L i j hj x h
theorem nf {d:Type}(g:d->List QB)(C:Nat)(b:∀ x,(g x).length=C):∀ L:List d,(L.flatMap g).length=L.length*C
 | []=>by simp
 | y :: L=>by rw[I9,cM,b,nf g C b L,p7,Nat.succ_mul];omega
def kj (x:Ins):List QB:=[Q I x.op,U x.s,Q I x.n]
def cB (f:Nat->Ins)(n:Nat):List QB:=((List.range n).map f).flatMap kj
theorem kk (f:Nat->Ins)(n:Nat):(cB f n).length=n*3:=by rw[cB,nf kj 3 (fun _=>rfl)];simp
theorem mz (f:Nat->Ins){n i:Nat}(hi:i<n)(j:Nat)(b:j<3):(cB f n)[i*3+j]?=(kj (f i))[j]? :=
 cS kj 3 (fun _=>rfl) _ i j b (f i) (by simp[hi])
theorem rM (f:Nat->Ins)(n:Nat):∀ u∈cB f n,u.oneCell'=true:=by intro u d;simp only[cB,List.mem_flatMap,kj] at d;obtain⟨x,_,b⟩:=d;simp at b;rcases b with rfl | rfl | rfl<;>simp[Value.oneCell']
theorem o7 {w:E}{b off n:Nat}{f:Nat->Ins}(h:RowIns w b off n f):∀ j u,(cB f n)[j]?=N u->w.cell? (((J b off Y):Addr).add j)=N u:=by
 intro j u d;have hl:j<n*3:=by have:=(o3.1 d).1;rwa[kk] at this
 have e:j=j / 3*3+j % 3:=by omega
 have hi:j / 3<n:=by omega
 obtain⟨i,h1,h2⟩:=h.2 (j / 3) hi;have k:j % 3<3:=NH _ (by omega);rw[e,mz f hi (j % 3) k] at d;have g:((J b off Y):Addr).add j=(J b (off+j) Y):=addr_add _ _ _;rw[g];rcases(show j % 3=0∨j % 3=1∨j % 3=2 by omega) with q | q | q;all_goals rw[q] at d;simp[kj] at d;subst d
 ·rw[show off+j=off+j / 3*3 by omega];exact i
 ·rw[show off+j=off+j / 3*3+1 by omega];exact h1
 ·rw[show off+j=off+j / 3*3+2 by omega];exact h2
theorem bv {w:E}{d size n g i:Nat}{e:QF}{f:List QB}(h:w.ownsRow d e size (Z (N (J g 0 Y)) n i) n f){j:Nat}{u:QB}(k:f[j]?=N u):w.cell? (J g j Y)=N u/\w.frozen? (J g j Y)=D:=by
 refine⟨?_,?_⟩
 ·have:=h.cells (g:=g) rfl j u k
  have m:((J g 0 Y):Addr).add j=(J g j Y):=by rw[addr_add];simp
  rwa[m] at this
 ·rcases h.2 with ⟨b,_⟩ | ⟨g',cap',cur,b,_,l,_⟩
  ·simp at b
  ·simp at b
   obtain⟨rfl,rfl⟩:=b;simp[World.frozen?,l]
theorem dR {w:E}{b size n g d:Nat}{e:QF}{f:List QB}(h:w.ownsRow b e size (Z (N (J g 0 Y)) n d) n f):b<=g/\g<w.heap.size:=h.lt g rfl
def TypeAt (w:E)(g:Nat)(e:QF):Prop:=∃ b,w.heap[g]?=N (T b e (0,0))
theorem iX {w:E}{d size n g f:Nat}{e:QF}{j:List QB}(h:w.ownsRow d e size (Z (N (J g 0 Y)) n f) n j):TypeAt w g e:=by
 rcases h.2 with ⟨b,_⟩ | ⟨g',cap',i,b,_,k,_⟩
 ·simp at b
 ·simp at b
  obtain⟨rfl,rfl⟩:=b;exact⟨i,k⟩
theorem ey {w:E}{g k:Nat}{e i:QF}(h:TypeAt w g e)(j:TypeAt w k i)(f:e≠i):g≠k:=by rintro rfl;obtain⟨c,l⟩:=h;obtain⟨d,b⟩:=j;rw[l] at b;simp at b;exact f b.2
theorem aG {w:E}{b size n R j:Nat}{e:QF}{v:QB}{f:List QB}(h:w.ownsRow b e size v n f)(hR:R<b)(u:QB):(w.setCell (J R j Y) u).ownsRow b e size v n f:=by
 refine h.kept (row:=N R) ⟨rfl,rfl,rfl,by simp[World.setCell],fun k _ d=>qh _ _ _ _ (by simpa using d)⟩ ?_;rcases h.2 with ⟨rfl,_⟩ | ⟨g,cap,cur,rfl,hg,_⟩
 ·exact .inl rfl
 ·right
  simp[Value.ownBlock];omega
theorem jN {w:E}{d n g k:Nat}{f:Nat->Ins}(h:w.ownsRow d 188 3 (Z (N (J g 0 Y)) n k) n (cB f n)):RowIns w g 0 n f/\∃ F,Cells w g 0 (n*3) F:=by
 have b:=(dR h).2;refine⟨⟨b,fun i hi=>⟨?_,?_,?_⟩⟩,fun j=>(cB f n)[j]?.getD undef,b,fun j m=>?_⟩
 ·have:=(bv h (j:=i*3) (u:=Q I (f i).op) (by have:=mz f hi 0 (by omega);simpa[kj] using this)).1
  rwa[show 0+i*3=i*3 by omega]
 ·have:=(bv h (j:=i*3+1) (u:=U (f i).s) (by have:=mz f hi 1 (by omega);simpa[kj] using this)).1
  rwa[show 0+i*3+1=i*3+1 by omega]
 ·have:=(bv h (j:=i*3+2) (u:=Q I (f i).n) (by have:=mz f hi 2 (by omega);simpa[kj] using this)).1
  rwa[show 0+i*3+2=i*3+2 by omega]
 ·rw[DC]
  have l:j<(cB f n).length:=by rw[kk];exact m
  have:=bv h (j:=j) (u:=(cB f n)[j]) (by rw[gq l]);show w.cell? _=N ((cB f n)[j]?.getD undef)/\_;rw[gq l];exact this
theorem xV (b off n k:Nat)(f:Nat->Ins)(w:E)(hn:(n:Int)<=1048576)(q:RowIns w b off n f):Calls Tryz.prog 165 #[Z (N (J b off Y)) n k] w fun e p=>∃ g c,e=QD (Z (N (J g 0 Y)) n c)/\p.ownsRow w.heap.size 188 3 (Z (N (J g 0 Y)) n c) n (cB f n)/\Below w.heap.size w p:=by
 have r:=ae ((Qs w).alloc lr (T #[] 188));have y:=ae (q.below r lr);clear q;obtain⟨t,hi,o,m,s⟩:=IS mx;have hnl:∀ w:E,(binOp .eql 29 (Z (N (J b off Y)) n k) (Z Y 0 0)).run Tryz.prog w=.ok (.bool D) w:=fun w=>Lib.run_eql_slice_nil w _ _ _ _ _ _ _ Tryz.underlying29;go_enter Tryz.func165,Tryz.ntmps165;go_wp2_with (at_builtin;refine CD _ rfl (.tmp 5) (.tmp 6) 29 rfl w.heap.size 188 t (QE #[Q I 0,U ⟨#[]⟩,Q I 0]) 3 32 Tryz.underlying29 hi o m s rfl (by decide) (Z (N (J w.heap.size 0 Y)) 0 0) 0 [] (by simp[Act.eval]) (JD w #[] 0 lr (by unfold maxLen;omega) rfl) (J b off Y) n k (cB f n) (by simp[Act.eval]) (kk f n) (o7 y) (rM f n) (by unfold maxLen;omega) (by omega) (by simp) ?_;intro v' w2 d h i;simp only[DC,IN] at d;have l:=ae d;have u:=ae i;have x:=ae (bg r h (by simp) (fun j e=>by simp[Value.ownBlock] at e;omega));clear d h i);go_ret;rcases l.2 with ⟨rfl,_⟩ | ⟨g,c,cur,rfl,_⟩
 ·have:=u.1 rfl
  simp at this
 ·exact⟨g,c,rfl,l,x⟩
theorem n3 (b off n d:Nat)(f:Nat->Ins)(w:E)(x:(n:Int)<=1048576)(k:RowIns w b off n f):Calls Tryz.prog 84 #[QE #[Z (N (J b off Y)) n d]] w fun e i=>∃ g c,e=QD (QE #[Z (N (J g 0 Y)) n c])/\i.ownsRow w.heap.size 188 3 (Z (N (J g 0 Y)) n c) n (cB f n)/\Below w.heap.size w i:=by
 have o:=ae (((Qs w).alloc lr (T #[Z (N (J b off Y)) n d] 31)).alloc (by simp) (T #[Z Y 0 0] 31));have t:=ae (k.below o lr);have l:((w.alloc (T #[Z (N (J b off Y)) n d] 31)).alloc (T #[Z Y 0 0] 31)).cell? (J (w.heap.size+1) 0 Y)=N (Z Y 0 0):=by simp
 clear k;go_enter Tryz.func84,Tryz.ntmps84;go_wp2_with fail;refine(xV b off n d f _ x t).mono ?_;rintro e r ⟨g,c,rfl,m,h⟩;have u:=(h.cell (p:=(J (w.heap.size+1) 0 Y)) (by simp)).trans l;have s:=ae (aI (aG (R:=w.heap.size+1) (j:=0) m (by simp) (Z (N (J g 0 Y)) n c)) (base':=w.heap.size) (by simp;omega));have q:=ae ((o.trans (h.mono (by simp;omega))).setCell (p:=(J (w.heap.size+1) 0 Y)) (by simp) (Z (N (J g 0 Y)) n c));have z0:r.frozen? (J (w.heap.size+1) 0 Y)=D:=(h.frozen (p:=(J (w.heap.size+1) 0 Y)) (by simp)).trans (by simp);clear m h l;go_wp2;exact bp (v:=QE #[Z (N (J g 0 Y)) n c]) (by simp[results,Tryz.results84,go_sem,u]) rfl ⟨g,c,rfl,s,q⟩
theorem lC (b off n d:Nat)(f:Nat->Ins)(w:E)(hn:(n:Int)<=1048576)(o:RowIns w b off n f):Calls Tryz.prog 86 #[QE #[Z (N (J b off Y)) n d]] w fun e t=>∃ g c,e=QD (QE #[Z (N (J g 0 Y)) n c])/\t.ownsRow w.heap.size 188 3 (Z (N (J g 0 Y)) n c) n (cB f n)/\Below w.heap.size w t:=by
 have r:=ae (((Qs w).alloc lr (T #[Z (N (J b off Y)) n d] 31)).alloc (by simp) (T #[Z Y 0 0] 31));have u:((w.alloc (T #[Z (N (J b off Y)) n d] 31)).alloc (T #[Z Y 0 0] 31)).cell? (J (w.heap.size+1) 0 Y)=N (Z Y 0 0):=by simp
 have QQ:((w.alloc (T #[Z (N (J b off Y)) n d] 31)).alloc (T #[Z Y 0 0] 31)).cell? (J w.heap.size 0 Y)=N (Z (N (J b off Y)) n d):=by simp
 have z0:((w.alloc (T #[Z (N (J b off Y)) n d] 31)).alloc (T #[Z Y 0 0] 31)).frozen? (J (w.heap.size+1) 0 Y)=D:=by simp
 have hz:((w.alloc (T #[Z (N (J b off Y)) n d] 31)).alloc (T #[Z Y 0 0] 31)).heap.size=w.heap.size+1+1:=by simp
 have q:=ae (o.below r lr);clear o;obtain⟨s,hi,m,x,z⟩:=IS mx;go_enter Tryz.func86,Tryz.ntmps86;have y:=ae ((eI (w.heap.size+1+1) ((w.alloc (T #[Z (N (J b off Y)) n d] 31)).alloc (T #[Z Y 0 0] 31))).alloc (by simp) (T #[] 188));have QP:=ae (q.below y (by simp));go_wp2_with (at_builtin;refine CD _ rfl (.tmp 3) (.tmp 5) 29 rfl (w.heap.size+1+1) 188 s (QE #[Q I 0,U ⟨#[]⟩,Q I 0]) 3 32 Tryz.underlying29 hi m x z rfl (by decide) (Z (N (J (w.heap.size+1+1) 0 Y)) 0 0) 0 [] (by simp[Act.eval]) (by have:=JD (base:=w.heap.size+1+1) (e:=188) (size:=3) ((w.alloc (T #[Z (N (J b off Y)) n d] 31)).alloc (T #[Z Y 0 0] 31)) #[] 0 (by simp) (by unfold maxLen;omega) rfl;simpa using this) (J b off Y) n d (cB f n) (by simp[Act.eval]) (kk f n) (o7 QP) (rM f n) (by unfold maxLen;omega) (by omega) (by simp<;>omega) ?_;intro G w2 h i k;simp only[DC,IN] at h;obtain⟨g,c,rfl⟩:∃ g c,G=Z (N (J g 0 Y)) n c:=(by rcases h.2 with ⟨rfl,_⟩ | ⟨g,c,cur,rfl,_⟩;(have:=k.1 rfl;simp at this);exact⟨g,c,rfl⟩);have l:=ae (bg y i (by simp<;>omega) (fun j e=>by simp[Value.ownBlock] at e;omega));have B:=ae (r.trans (l.mono (by omega)));have C:=(l.cell (p:=(J (w.heap.size+1) 0 Y)) (by simp)).trans u;have lz:=(l.frozen (p:=(J (w.heap.size+1) 0 Y)) (by simp)).trans z0;have A:=ae (aI (aG (R:=w.heap.size+1) (j:=0) h (by omega) (Z (N (J g 0 Y)) n c)) (base':=w.heap.size) (by omega));clear h i k u QQ z0);exact bp (v:=QE #[Z (N (J g 0 Y)) n c]) (by simp[results,Tryz.results86,go_sem,C]) rfl ⟨g,c,rfl,A,B.setCell (by simp) _⟩
def bC (x:Source):List QB:=[U x.name,U x.text]
theorem qJ (a:Option Addr)(b:Nat)(w:E):Calls Tryz.prog 86 #[QE #[Z a 0 b]] w fun e s=>∃ g c,e=QD (QE #[Z (N (J g 0 Y)) 0 c])/\s.ownsRow w.heap.size 188 3 (Z (N (J g 0 Y)) 0 c) 0 []/\Below w.heap.size w s:=by
 have hz:((w.alloc (T #[Z a 0 b] 31)).alloc (T #[Z (N (J (w.heap.size+1+1) 0 Y)) 0 0] 31)).heap.size=w.heap.size+1+1:=by simp
 have y:=ae ((((Qs w).alloc lr (T #[Z a 0 b] 31)).alloc (by simp) (T #[Z (N (J (w.heap.size+1+1) 0 Y)) 0 0] 31)).alloc (by rw[hz];omega) (T #[] 188));have r:Hid ((((w.alloc (T #[Z a 0 b] 31)).alloc (T #[Z (N (J (w.heap.size+1+1) 0 Y)) 0 0] 31)).alloc (T #[] 188)).ownsRow w.heap.size 188 3 (Z (N (J (w.heap.size+1+1) 0 Y)) 0 0) 0 []):=by have h:=JD (base:=w.heap.size) (e:=188) (size:=3) ((w.alloc (T #[Z a 0 b] 31)).alloc (T #[Z (N (J (w.heap.size+1+1) 0 Y)) 0 0] 31)) #[] 0 (by rw[hz];omega) (by unfold maxLen;omega) rfl;rw[hz] at h;exact h
 have m:((w.alloc (T #[Z a 0 b] 31)).alloc (T #[Z Y 0 0] 31)).cell? (J (w.heap.size+1) 0 Y)=N (Z Y 0 0):=by simp
 have t:((w.alloc (T #[Z a 0 b] 31)).alloc (T #[Z Y 0 0] 31)).cell? (J w.heap.size 0 Y)=N (Z a 0 b):=by simp
 have z0:((w.alloc (T #[Z a 0 b] 31)).alloc (T #[Z Y 0 0] 31)).frozen? (J (w.heap.size+1) 0 Y)=D:=by simp
 cases a with
 | none =>clear m t z0;go_enter Tryz.func86,Tryz.ntmps86;go_wp2;exact bp (v:=QE #[Z (N (J (w.heap.size+1+1) 0 Y)) 0 0]) (by simp[results,Tryz.results86,go_sem]) rfl ⟨_,_,rfl,r,y⟩
 | some k =>
  have QQ:=ae (((Qs w).alloc lr (T #[Z (N k) 0 b] 31)).alloc (by simp) (T #[Z Y 0 0] 31));have hz2:((w.alloc (T #[Z (N k) 0 b] 31)).alloc (T #[Z Y 0 0] 31)).heap.size=w.heap.size+1+1:=by simp
  obtain⟨q,hi,o,x,z⟩:=IS mx;have C:=ae ((eI (w.heap.size+1+1) ((w.alloc (T #[Z (N k) 0 b] 31)).alloc (T #[Z Y 0 0] 31))).alloc (by simp) (T #[] 188));clear y r hz;go_enter Tryz.func86,Tryz.ntmps86;go_wp2_with (at_builtin;refine CD _ rfl (.tmp 3) (.tmp 5) 29 rfl (w.heap.size+1+1) 188 q (QE #[Q I 0,U ⟨#[]⟩,Q I 0]) 3 32 Tryz.underlying29 hi o x z rfl (by decide) (Z (N (J (w.heap.size+1+1) 0 Y)) 0 0) 0 [] (by simp[Act.eval]) (by have:=JD (base:=w.heap.size+1+1) (e:=188) (size:=3) ((w.alloc (T #[Z (N k) 0 b] 31)).alloc (T #[Z Y 0 0] 31)) #[] 0 (by simp) (by unfold maxLen;omega) rfl;simpa using this) k 0 b [] (by simp[Act.eval]) rfl (fun j u n=>by simp at n) (fun u n=>by simp at n) (by unfold maxLen;omega) (by omega) (by simp<;>omega) ?_;intro G w2 d f i;simp only[DC,IN] at d;obtain⟨g,c,rfl⟩:∃ g c,G=Z (N (J g 0 Y)) 0 c:=(by rcases d.2 with ⟨rfl,_⟩ | ⟨g,c,cur,rfl,_⟩;(have:=i.1 rfl;simp at this);exact⟨g,c,rfl⟩);have l:=ae (bg C f (by simp<;>omega) (fun j e=>by simp[Value.ownBlock] at e;omega));have B:=ae (QQ.trans (l.mono (by omega)));have QP:=(l.cell (p:=(J (w.heap.size+1) 0 Y)) (by simp)).trans m;have lz:=(l.frozen (p:=(J (w.heap.size+1) 0 Y)) (by simp)).trans z0;have A:=ae (aI (aG (R:=w.heap.size+1) (j:=0) d (by omega) (Z (N (J g 0 Y)) 0 c)) (base':=w.heap.size) (by omega));clear d f i m t z0);exact bp (v:=QE #[Z (N (J g 0 Y)) 0 c]) (by simp[results,Tryz.results86,go_sem,QP]) rfl ⟨g,c,rfl,A,B.setCell (by simp) _⟩
theorem lD (a:Option Addr)(n d:Nat)(f:Nat->Ins)(w:E)(j:(n:Int)<=1048576)(h:SlIns w a n f):Calls Tryz.prog 86 #[QE #[Z a n d]] w fun e i=>∃ g c,e=QD (QE #[Z (N (J g 0 Y)) n c])/\i.ownsRow w.heap.size 188 3 (Z (N (J g 0 Y)) n c) n (cB f n)/\Below w.heap.size w i:=by
 rcases h with rfl | ⟨b,off,rfl,h⟩
 ·exact qJ a d w
 ·exact lC b off n d f w j h
end Go.Proofs.YtkdimgejdocbbaaGreatDoor.Vp
