import Derived.Test.YtamacmnikdejeaaGreatDoorSM
import Derived.Test.YtamacmnikdejeaaGreatDoorSL
import Derived.Lib.SliceRun
set_option maxRecDepth 100000
set_option maxHeartbeats 2000000
open Go.Addr renaming mk->N
open Go.Value renaming slice->Y,string->U,int->J,agg->QG
open Option renaming none->Z,some->T
open Go.Obj renaming cells->Q
open Go.IntKind renaming i64->I
open Go renaming World->G,Value->QE
open Bool renaming false->QB
open Go.Ending renaming returned->QF
namespace Go.Proofs.YtamacmnikdejeaaGreatDoor.Vp
open RowKit
theorem addr_add (b off j:Nat):((N b off Z):Addr).add j=(N b (off+j) Z):=by unfold Addr.add;split<;>simp_all
theorem cK {f:Type}(g:f->List QE)(C:Nat)(b:∀ x,(g x).length=C):∀ (L:List f) (i j:Nat) (_:j<C) (x:f),L[i]?=T x->(L.flatMap g)[i*C+j]?=(g x)[j]?
 | [],i,j,_,x,h=>by simp at h
 | y :: L,0,j,hj,x,h=>by simp at h;subst h;rw[IY,NH,D0,IG (by rw[b];exact hj)]
 | y :: L,i+1,j,hj,x,h=>by simp at h;rw[IY,BS (by rw[b,Nat.succ_mul];omega),b,show(i+1)*C+j - C=i*C+j by rw[Nat.succ_mul];omega];exact cK g C b L i j hj x h
theorem eP {f:Type}(g:f->List QE)(C:Nat)(b:∀ x,(g x).length=C):∀ L:List f,(L.flatMap g).length=L.length*C
 | []=>by simp
 | y :: L=>by rw[IY,eI,b,eP g C b L,nD,Nat.succ_mul];omega
def kw (x:Ins):List QE:=[J I x.op,U x.s,J I x.n]
def ct (f:Nat->Ins)(n:Nat):List QE:=((List.range n).map f).flatMap kw
theorem nO (f:Nat->Ins)(n:Nat):(ct f n).length=n*3:=by rw[ct,eP kw 3 (fun _=>rfl)];simp
theorem mJ (f:Nat->Ins){n i:Nat}(hi:i<n)(j:Nat)(b:j<3):(ct f n)[i*3+j]?=(kw (f i))[j]? :=
 cK kw 3 (fun _=>rfl) _ i j b (f i) (by simp[hi])
theorem zF (f:Nat->Ins)(n:Nat):∀ u∈ct f n,u.oneCell'=true:=by intro u g;simp only[ct,JV,kw] at g;obtain⟨x,_,b⟩:=g;simp at b;rcases b with rfl | rfl | rfl<;>simp[Value.oneCell']
theorem uX {w:G}{b off n:Nat}{f:Nat->Ins}(h:RowIns w b off n f):∀ j u,(ct f n)[j]?=T u->w.cell? (((N b off Z):Addr).add j)=T u:=by
 intro j u g;have hl:j<n*3:=by have:=(j2.1 g).1;rwa[nO] at this
 have e:j=j / 3*3+j % 3:=by omega
 have hi:j / 3<n:=by omega
 obtain⟨l,h1,h2⟩:=h.2 (j / 3) hi;have i:j % 3<3:=LH _ (by omega);rw[e,mJ f hi (j % 3) i] at g;have m:((N b off Z):Addr).add j=(N b (off+j) Z):=addr_add _ _ _;rw[m];rcases(show j % 3=0∨j % 3=1∨j % 3=2 by omega) with q | q | q;all_goals rw[q] at g;simp[kw] at g;subst g
 ·rw[show off+j=off+j / 3*3 by omega];exact l
 ·rw[show off+j=off+j / 3*3+1 by omega];exact h1
 ·rw[show off+j=off+j / 3*3+2 by omega];exact h2
theorem bv {w:G}{f size n g cap:Nat}{e:TypeId}{i:List QE}(h:w.ownsRow f e size (Y (T (N g 0 Z)) n cap) n i){j:Nat}{u:QE}(o:i[j]?=T u):w.cell? (N g j Z)=T u/\w.frozen? (N g j Z)=QB:=by
 refine⟨?_,?_⟩
 ·have:=h.cells (g:=g) rfl j u o
  have m:((N g 0 Z):Addr).add j=(N g j Z):=by rw[addr_add];simp
  rwa[m] at this
 ·rcases h.2 with ⟨b,_⟩ | ⟨g',cap',cur,b,_,l,_⟩
  ·simp at b
  ·simp at b
   obtain⟨rfl,rfl⟩:=b;simp[World.frozen?,l]
theorem cX {w:G}{b size n g cap:Nat}{e:TypeId}{f:List QE}(h:w.ownsRow b e size (Y (T (N g 0 Z)) n cap) n f):b<=g/\g<w.heap.size:=h.lt g rfl
def TypeAt (w:G)(g:Nat)(e:TypeId):Prop:=∃ b,w.heap[g]?=T (Q b e (0,0))
theorem iZ {w:G}{f size n g cap:Nat}{e:TypeId}{j:List QE}(h:w.ownsRow f e size (Y (T (N g 0 Z)) n cap) n j):TypeAt w g e:=by
 rcases h.2 with ⟨b,_⟩ | ⟨g',cap',i,b,_,l,_⟩
 ·simp at b
 ·simp at b
  obtain⟨rfl,rfl⟩:=b;exact⟨i,l⟩
theorem eC {w:G}{g k:Nat}{e f:TypeId}(h:TypeAt w g e)(l:TypeAt w k f)(i:e≠f):g≠k:=by rintro rfl;obtain⟨c,j⟩:=h;obtain⟨d,b⟩:=l;rw[j] at b;simp at b;exact i b.2
theorem aV {w:G}{b size n R j:Nat}{e:TypeId}{v:QE}{f:List QE}(h:w.ownsRow b e size v n f)(hR:R<b)(u:QE):(w.setCell (N R j Z) u).ownsRow b e size v n f:=by
 refine h.kept (row:=T R) ⟨rfl,rfl,rfl,by simp[World.setCell],fun k _ i=>qh _ _ _ _ (by simpa using i)⟩ ?_;rcases h.2 with ⟨rfl,_⟩ | ⟨g,cap,cur,rfl,hg,_⟩
 ·exact .inl rfl
 ·right
  simp[Value.ownBlock];omega
theorem jX {w:G}{l n g cap:Nat}{f:Nat->Ins}(h:w.ownsRow l 146 3 (Y (T (N g 0 Z)) n cap) n (ct f n)):RowIns w g 0 n f/\∃ F,Cells w g 0 (n*3) F:=by
 have b:=(cX h).2;refine⟨⟨b,fun i hi=>⟨?_,?_,?_⟩⟩,fun j=>(ct f n)[j]?.getD undef,b,fun j o=>?_⟩
 ·have:=(bv h (j:=i*3) (u:=J I (f i).op) (by have:=mJ f hi 0 (by omega);simpa[kw] using this)).1
  rwa[show 0+i*3=i*3 by omega]
 ·have:=(bv h (j:=i*3+1) (u:=U (f i).s) (by have:=mJ f hi 1 (by omega);simpa[kw] using this)).1
  rwa[show 0+i*3+1=i*3+1 by omega]
 ·have:=(bv h (j:=i*3+2) (u:=J I (f i).n) (by have:=mJ f hi 2 (by omega);simpa[kw] using this)).1
  rwa[show 0+i*3+2=i*3+2 by omega]
 ·rw[D0]
  have m:j<(ct f n).length:=by rw[nO];exact o
  have:=bv h (j:=j) (u:=(ct f n)[j]) (by rw[gq m]);show w.cell? _=T ((ct f n)[j]?.getD undef)/\_;rw[gq m];exact this
theorem iu (b off n cap:Nat)(f:Nat->Ins)(w:G)(hn:(n:Int)<=1048576)(r:RowIns w b off n f):Calls Tryz.prog 67 #[QG #[Y (T (N b off Z)) n cap]] w fun e A=>∃ g c,e=QF (QG #[Y (T (N g 0 Z)) n c])/\A.ownsRow w.heap.size 146 3 (Y (T (N g 0 Z)) n c) n (ct f n)/\Below w.heap.size w A:=by
 have s:=ae (((q9 w).alloc ly (Q #[Y (T (N b off Z)) n cap] 43)).alloc (by simp) (Q #[Y Z 0 0] 43));have y:((w.alloc (Q #[Y (T (N b off Z)) n cap] 43)).alloc (Q #[Y Z 0 0] 43)).cell? (N (w.heap.size+1) 0 Z)=T (Y Z 0 0):=by simp
 have E:((w.alloc (Q #[Y (T (N b off Z)) n cap] 43)).alloc (Q #[Y Z 0 0] 43)).cell? (N w.heap.size 0 Z)=T (Y (T (N b off Z)) n cap):=by simp
 have z0:((w.alloc (Q #[Y (T (N b off Z)) n cap] 43)).alloc (Q #[Y Z 0 0] 43)).frozen? (N (w.heap.size+1) 0 Z)=QB:=by simp
 have hz:((w.alloc (Q #[Y (T (N b off Z)) n cap] 43)).alloc (Q #[Y Z 0 0] 43)).heap.size=w.heap.size+1+1:=by simp
 have t:=ae (r.below s ly);clear r;obtain⟨o,hi,x,q,z⟩:=IL pE;go_enter Tryz.func67,Tryz.ntmps67;have u:=ae ((a8 (w.heap.size+1+1) ((w.alloc (Q #[Y (T (N b off Z)) n cap] 43)).alloc (Q #[Y Z 0 0] 43))).alloc (by simp) (Q #[] 146));have B:=ae (t.below u (by simp));go_wp2_with (at_builtin;refine CW _ rfl (.tmp 3) (.tmp 5) 41 rfl (w.heap.size+1+1) 146 o (QG #[J I 0,U ⟨#[]⟩,J I 0]) 3 32 Tryz.underlying41 hi x q z rfl (by decide) (Y (T (N (w.heap.size+1+1) 0 Z)) 0 0) 0 [] (by simp[Act.eval]) (by have:=I7 (base:=w.heap.size+1+1) (e:=146) (size:=3) ((w.alloc (Q #[Y (T (N b off Z)) n cap] 43)).alloc (Q #[Y Z 0 0] 43)) #[] 0 (by simp) (by unfold maxLen;omega) rfl;simpa using this) (N b off Z) n cap (ct f n) (by simp[Act.eval]) (nO f n) (uX B) (zF f n) (by unfold maxLen;omega) (by omega) (by simp<;>omega) ?_;intro QR w2 h i l;simp only[D0,IN] at h;obtain⟨g,c,rfl⟩:∃ g c,QR=Y (T (N g 0 Z)) n c:=(by rcases h.2 with ⟨rfl,_⟩ | ⟨g,c,cur,rfl,_⟩;(have:=l.1 rfl;simp at this);exact⟨g,c,rfl⟩);have m:=ae (bg u i (by simp<;>omega) (fun j e=>by simp[Value.ownBlock] at e;omega));have D:=ae (s.trans (m.mono (by omega)));have C:=(m.cell (p:=(N (w.heap.size+1) 0 Z)) (by simp)).trans y;have lz:=(m.frozen (p:=(N (w.heap.size+1) 0 Z)) (by simp)).trans z0;have H:=ae (aE (aV (R:=w.heap.size+1) (j:=0) h (by omega) (Y (T (N g 0 Z)) n c)) (base':=w.heap.size) (by omega));clear h i l y E z0);exact bp (v:=QG #[Y (T (N g 0 Z)) n c]) (by simp[results,Tryz.results67,go_sem,C]) rfl ⟨g,c,rfl,H,D.setCell (by simp) _⟩
def bC (x:Source):List QE:=[U x.name,U x.text]
theorem rD (a:Option Addr)(cap:Nat)(w:G):Calls Tryz.prog 67 #[QG #[Y a 0 cap]] w fun e A=>∃ g c,e=QF (QG #[Y (T (N g 0 Z)) 0 c])/\A.ownsRow w.heap.size 146 3 (Y (T (N g 0 Z)) 0 c) 0 []/\Below w.heap.size w A:=by
 have hz:((w.alloc (Q #[Y a 0 cap] 43)).alloc (Q #[Y (T (N (w.heap.size+1+1) 0 Z)) 0 0] 43)).heap.size=w.heap.size+1+1:=by simp
 have s:=ae ((((q9 w).alloc ly (Q #[Y a 0 cap] 43)).alloc (by simp) (Q #[Y (T (N (w.heap.size+1+1) 0 Z)) 0 0] 43)).alloc (by rw[hz];omega) (Q #[] 146));have t:Hid ((((w.alloc (Q #[Y a 0 cap] 43)).alloc (Q #[Y (T (N (w.heap.size+1+1) 0 Z)) 0 0] 43)).alloc (Q #[] 146)).ownsRow w.heap.size 146 3 (Y (T (N (w.heap.size+1+1) 0 Z)) 0 0) 0 []):=by have h:=I7 (base:=w.heap.size) (e:=146) (size:=3) ((w.alloc (Q #[Y a 0 cap] 43)).alloc (Q #[Y (T (N (w.heap.size+1+1) 0 Z)) 0 0] 43)) #[] 0 (by rw[hz];omega) (by unfold maxLen;omega) rfl;rw[hz] at h;exact h
 have o:((w.alloc (Q #[Y a 0 cap] 43)).alloc (Q #[Y Z 0 0] 43)).cell? (N (w.heap.size+1) 0 Z)=T (Y Z 0 0):=by simp
 have x:((w.alloc (Q #[Y a 0 cap] 43)).alloc (Q #[Y Z 0 0] 43)).cell? (N w.heap.size 0 Z)=T (Y a 0 cap):=by simp
 have z0:((w.alloc (Q #[Y a 0 cap] 43)).alloc (Q #[Y Z 0 0] 43)).frozen? (N (w.heap.size+1) 0 Z)=QB:=by simp
 cases a with
 | none =>clear o x z0;go_enter Tryz.func67,Tryz.ntmps67;go_wp2;exact bp (v:=QG #[Y (T (N (w.heap.size+1+1) 0 Z)) 0 0]) (by simp[results,Tryz.results67,go_sem]) rfl ⟨_,_,rfl,t,s⟩
 | some l =>
  have B:=ae (((q9 w).alloc ly (Q #[Y (T l) 0 cap] 43)).alloc (by simp) (Q #[Y Z 0 0] 43));have hz2:((w.alloc (Q #[Y (T l) 0 cap] 43)).alloc (Q #[Y Z 0 0] 43)).heap.size=w.heap.size+1+1:=by simp
  obtain⟨q,hi,y,r,z⟩:=IL pE;have E:=ae ((a8 (w.heap.size+1+1) ((w.alloc (Q #[Y (T l) 0 cap] 43)).alloc (Q #[Y Z 0 0] 43))).alloc (by simp) (Q #[] 146));clear s t hz;go_enter Tryz.func67,Tryz.ntmps67;go_wp2_with (at_builtin;refine CW _ rfl (.tmp 3) (.tmp 5) 41 rfl (w.heap.size+1+1) 146 q (QG #[J I 0,U ⟨#[]⟩,J I 0]) 3 32 Tryz.underlying41 hi y r z rfl (by decide) (Y (T (N (w.heap.size+1+1) 0 Z)) 0 0) 0 [] (by simp[Act.eval]) (by have:=I7 (base:=w.heap.size+1+1) (e:=146) (size:=3) ((w.alloc (Q #[Y (T l) 0 cap] 43)).alloc (Q #[Y Z 0 0] 43)) #[] 0 (by simp) (by unfold maxLen;omega) rfl;simpa using this) l 0 cap [] (by simp[Act.eval]) rfl (fun j u n=>by simp at n) (fun u n=>by simp at n) (by unfold maxLen;omega) (by omega) (by simp<;>omega) ?_;intro QR w2 b f i;simp only[D0,IN] at b;obtain⟨g,c,rfl⟩:∃ g c,QR=Y (T (N g 0 Z)) 0 c:=(by rcases b.2 with ⟨rfl,_⟩ | ⟨g,c,cur,rfl,_⟩;(have:=i.1 rfl;simp at this);exact⟨g,c,rfl⟩);have m:=ae (bg E f (by simp<;>omega) (fun j e=>by simp[Value.ownBlock] at e;omega));have D:=ae (B.trans (m.mono (by omega)));have C:=(m.cell (p:=(N (w.heap.size+1) 0 Z)) (by simp)).trans o;have lz:=(m.frozen (p:=(N (w.heap.size+1) 0 Z)) (by simp)).trans z0;have H:=ae (aE (aV (R:=w.heap.size+1) (j:=0) b (by omega) (Y (T (N g 0 Z)) 0 c)) (base':=w.heap.size) (by omega));clear b f i o x z0);exact bp (v:=QG #[Y (T (N g 0 Z)) 0 c]) (by simp[results,Tryz.results67,go_sem,C]) rfl ⟨g,c,rfl,H,D.setCell (by simp) _⟩
theorem iv (a:Option Addr)(n cap:Nat)(f:Nat->Ins)(w:G)(hn:(n:Int)<=1048576)(h:SlIns w a n f):Calls Tryz.prog 67 #[QG #[Y a n cap]] w fun e i=>∃ g c,e=QF (QG #[Y (T (N g 0 Z)) n c])/\i.ownsRow w.heap.size 146 3 (Y (T (N g 0 Z)) n c) n (ct f n)/\Below w.heap.size w i:=by
 rcases h with rfl | ⟨b,off,rfl,h⟩
 ·exact rD a cap w
 ·exact iu b off n cap f w hn h
end Go.Proofs.YtamacmnikdejeaaGreatDoor.Vp
