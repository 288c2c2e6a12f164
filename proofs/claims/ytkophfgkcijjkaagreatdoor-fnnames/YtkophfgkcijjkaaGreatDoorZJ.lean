import Derived.Test.YtkophfgkcijjkaaGreatDoorZE
import Derived.Lib.ItoaNum
import Derived.Lib.ItoaLen
import Derived.Lib.ItoaMem
namespace Go.Proofs.YtkophfgkcijjkaaGreatDoor.Vp
open RowKit
def mkT (k:Int):ByteArray:=⟨(109 :: Lib.decDigits k.toNat).toArray⟩
structure Within (lo hi:Nat)(w w':World):Prop where
 os:w'.os=w.os
 tape:w'.tape=w.tape
 output:w'.output=w.output
 size:w.heap.size<=w'.heap.size
 block:∀ k,k<w.heap.size->k<lo∨hi<=k->w'.heap[k]?=w.heap[k]?
theorem Within.refl (lo hi:Nat)(w:World):Within lo hi w w:=⟨rfl,rfl,rfl,Nat.le_refl _,fun _ _ _=>rfl⟩
theorem Within.trans {lo hi:Nat}{a b c:World}(h:Within lo hi a b)(k:Within lo hi b c):Within lo hi a c :=
 ⟨k.os.trans h.os,k.tape.trans h.tape,k.output.trans h.output,Nat.le_trans h.size k.size,fun i hi d=>(k.block i (lj hi h.size) d).trans (h.block i hi d)⟩
theorem Within.of_below {lo hi B:Nat}{w b:World}(h:Below B w b)(c:w.heap.size<=B):Within lo hi w b :=
 ⟨h.os,h.tape,h.output,h.size,fun i hi _=>h.block i (lj hi c)⟩
theorem Within.below {lo hi B:Nat}{a w b:World}(h:Within lo hi a w)(hb:Below B w b)(c:w.heap.size<=B):Within lo hi a b:=h.trans (Within.of_below hb c)
theorem Within.setCell {lo hi:Nat}{a w:World}(h:Within lo hi a w){p:Addr}(h1:lo<=p.block)(h2:p.block<hi)(v:Value):Within lo hi a (w.setCell p v) :=
 h.trans ⟨rfl,rfl,rfl,by simp[World.setCell],fun k _ ho=>qh _ _ _ _ (by omega)⟩
theorem Within.mono {lo hi c b:Nat}{w d:World}(h:Within lo hi w d)(h1:c<=lo)(h2:hi<=b):Within c b w d :=
 ⟨h.os,h.tape,h.output,h.size,fun k f ho=>h.block k f (by omega)⟩
def Cells (w:World)(b off m:Nat)(F:Nat->Value):Prop:=b<w.heap.size/\∀ j,j<m->w.cell? ⟨b,off+j,none⟩=some (F j)/\w.frozen? ⟨b,off+j,none⟩=false
theorem Cells.below {w c:World}{B b off m:Nat}{F:Nat->Value}(h:Cells w b off m F)(hb:Below B w c)(f:b<B):Cells c b off m F :=
 ⟨lj h.1 hb.size,fun j d=>⟨(hb.cell (p:=⟨b,_,none⟩) f).trans (h.2 j d).1,(hb.frozen (p:=⟨b,_,none⟩) f).trans (h.2 j d).2⟩⟩
theorem Cells.set {w:World}{b off m:Nat}{F:Nat->Value}(h:Cells w b off m F)(j:Nat)(hj:j<m)(v:Value):Cells (w.setCell ⟨b,off+j,none⟩ v) b off m (fun x=>if x=j then v else F x):=by
 refine⟨by simpa using h.1,fun x c=>⟨?_,?_⟩⟩
 ·by_cases e:x=j
  ·subst e
   exact(World.cell?_setCell_same' _ _ _ (by rw[(h.2 x c).1];rfl)).trans (by simp)
  ·have d:(⟨b,off+j,none⟩:Addr)≠⟨b,off+x,none⟩:=by
    intro q;exact e (by simpa using q.symm)
   exact(sq _ _ _ _ d).trans ((h.2 x c).1.trans (by simp[e]))
 ·have:=(h.2 x c).2
  simpa using this
theorem Cells.congr {w:World}{b off m:Nat}{F G:Nat->Value}(h:Cells w b off m F)(e:∀ j,j<m->F j=G j):Cells w b off m G :=
 ⟨h.1,fun j c=>by rw[<-e j c];exact h.2 j c⟩
theorem Cells.at {w:World}{b off m:Nat}{F:Nat->Value}(h:Cells w b off m F)(x j:Nat)(c:x=off+j)(d:j<m):w.cell? ⟨b,x,none⟩=some (F j)/\w.frozen? ⟨b,x,none⟩=false:=by subst c;exact h.2 j d
theorem Cells.setAt {w:World}{b off m:Nat}{F:Nat->Value}(h:Cells w b off m F)(x j:Nat)(c:x=off+j)(d:j<m)(v:Value):Cells (w.setCell ⟨b,x,none⟩ v) b off m (fun y=>if y=j then v else F y):=by subst c;exact h.set j d v
def mF (b:Nat)(j:Nat):Value:=if j % 3=0 then .int .i64 ((b:Int)+j) else if j % 3=1 then .string (mkT ((b:Int)+j)) else .int .i64 ((b:Int)+j)
def oP (b:Nat)(j:Nat):Value:=if j % 4=0 then .string (mkT ((b:Int)+j)) else if j % 4=3 then .int .i64 ((b:Int)+j) else .bool (decide (((b:Int)+j) % 3=0))
structure Touch (P:Nat->Prop)(w w':World):Prop where
 os:w'.os=w.os
 tape:w'.tape=w.tape
 output:w'.output=w.output
 size:w.heap.size<=w'.heap.size
 block:∀ k,k<w.heap.size->¬ P k->w'.heap[k]?=w.heap[k]?
theorem Touch.refl (P:Nat->Prop)(w:World):Touch P w w:=⟨rfl,rfl,rfl,Nat.le_refl _,fun _ _ _=>rfl⟩
theorem Touch.trans {P:Nat->Prop}{a b c:World}(h:Touch P a b)(k:Touch P b c):Touch P a c :=
 ⟨k.os.trans h.os,k.tape.trans h.tape,k.output.trans h.output,Nat.le_trans h.size k.size,fun i hi d=>(k.block i (lj hi h.size) d).trans (h.block i hi d)⟩
theorem Touch.of_below {P:Nat->Prop}{B:Nat}{w b:World}(h:Below B w b)(c:w.heap.size<=B):Touch P w b :=
 ⟨h.os,h.tape,h.output,h.size,fun i hi _=>h.block i (lj hi c)⟩
theorem Touch.below {P:Nat->Prop}{B:Nat}{a w b:World}(h:Touch P a w)(hb:Below B w b)(c:w.heap.size<=B):Touch P a b:=h.trans (Touch.of_below hb c)
theorem Touch.setCell {P:Nat->Prop}{a w:World}(h:Touch P a w){p:Addr}(b:P p.block)(v:Value):Touch P a (w.setCell p v) :=
 h.trans ⟨rfl,rfl,rfl,by simp[World.setCell],fun k _ c=>qh _ _ _ _ (fun e=>c (e ▸ b))⟩
theorem Touch.mono {P Q:Nat->Prop}{w b:World}(h:Touch P w b)(c:∀ k,P k->Q k):Touch Q w b :=
 ⟨h.os,h.tape,h.output,h.size,fun k g f=>h.block k g (fun d=>f (c k d))⟩
theorem Cells.touch {w c:World}{b off m:Nat}{F:Nat->Value}{P:Nat->Prop}(h:Cells w b off m F)(f:Touch P w c)(hb:¬ P b):Cells c b off m F:=by have e:=f.block b h.1 hb;exact⟨lj h.1 f.size,fun j d=>⟨(cq (a:=⟨b,off+j,none⟩) e).trans (h.2 j d).1,(World.frozen?_of_block (a:=⟨b,off+j,none⟩) e).trans (h.2 j d).2⟩⟩
theorem Touch.cell {P:Nat->Prop}{w b:World}(h:Touch P w b){p:Addr}(d:p.block<w.heap.size)(c:¬ P p.block):b.cell? p=w.cell? p:=cq (h.block p.block d c)
def dAt (a l:Nat->Nat)(b:Nat):Nat->Nat
 | 0=>b
 | i+1=>dAt a l b i+4+a i*3+l i*4
structure zj (T n:Nat)(A L a l:Nat->Nat):Prop where
 fit:∀ i,i<n->a i<=1048576/\l i<=1048576
 apart:∀ i,i<n->(a i≠0->A i≠T)/\(l i≠0->L i≠T)
 each:∀ i j,i<n->j<n->i≠j->(a i≠0->a j≠0->A i≠A j)/\(l i≠0->l j≠0->L i≠L j)
 cross:∀ i j,i<n->j<n->a i≠0->l j≠0->A i≠L j
structure DCells (w:World)(T n:Nat)(A L a l:Nat->Nat):Prop where
 row:∃ F,Cells w T 0 (n*6) F/\∀ i,i<n->(∃ p cap,F (i*6+4)=.slice p (a i) cap/\(a i≠0->p=some ⟨A i,0,none⟩))/\∃ p cap,F (i*6+5)=.slice p (l i) cap/\(l i≠0->p=some ⟨L i,0,none⟩)
 act:∀ i,i<n->a i≠0->∃ G,Cells w (A i) 0 (a i*3) G
 lnk:∀ i,i<n->l i≠0->∃ G,Cells w (L i) 0 (l i*4) G
structure DMarked (w:World)(T n:Nat)(A L a l:Nat->Nat)(k0:Nat):Prop where
 row:∃ F,Cells w T 0 (n*6) F/\∀ i,i<n->F (i*6)=.string (mkT ((dAt a l k0 i:Nat):Int))/\F (i*6+1)=.int .i64 ((dAt a l k0 i+1:Nat):Int)/\F (i*6+2)=.int .i64 ((dAt a l k0 i+2:Nat):Int)/\F (i*6+3)=.string (mkT ((dAt a l k0 i+3:Nat):Int))/\(∃ p cap,F (i*6+4)=.slice p (a i) cap/\(a i≠0->p=some ⟨A i,0,none⟩))/\∃ p cap,F (i*6+5)=.slice p (l i) cap/\(l i≠0->p=some ⟨L i,0,none⟩)
 act:∀ i,i<n->a i≠0->Cells w (A i) 0 (a i*3) (mF (dAt a l k0 i+4))
 lnk:∀ i,i<n->l i≠0->Cells w (L i) 0 (l i*4) (oP (dAt a l k0 i+4+a i*3))
theorem DMarked.below {w g:World}{T n d Z:Nat}{A L a l:Nat->Nat}(h:DMarked w T n A L a l d)(hb:Below Z w g)(b:w.heap.size<=Z):DMarked g T n A L a l d:=by obtain⟨⟨F,hF,j⟩,f,c⟩:=h;exact⟨⟨F,hF.below hb (lj hF.1 b),j⟩,fun i hi hz=>(f i hi hz).below hb (lj (f i hi hz).1 b),fun i hi hz=>(c i hi hz).below hb (lj (c i hi hz).1 b)⟩
theorem DCells.below {w d:World}{T n Z:Nat}{A L a l:Nat->Nat}(h:DCells w T n A L a l)(hb:Below Z w d)(c:w.heap.size<=Z):DCells d T n A L a l:=by
 obtain⟨⟨F,hF,j⟩,g,f⟩:=h;refine⟨⟨F,hF.below hb (lj hF.1 c),j⟩,fun i hi hz=>?_,fun i hi hz=>?_⟩
 ·obtain⟨G,b⟩:=g i hi hz
  exact⟨G,b.below hb (lj b.1 c)⟩
 ·obtain⟨G,b⟩:=f i hi hz
  exact⟨G,b.below hb (lj b.1 c)⟩
structure DPart (w:World)(T n k ka kl k0:Nat)(A L a l:Nat->Nat)(F:Nat->Value):Prop where
 row:Cells w T 0 (n*6) F
 sl:∀ i,i<n->(∃ p cap,F (i*6+4)=.slice p (a i) cap/\(a i≠0->p=some ⟨A i,0,none⟩))/\∃ p cap,F (i*6+5)=.slice p (l i) cap/\(l i≠0->p=some ⟨L i,0,none⟩)
 mrk:∀ i,i<k->F (i*6)=.string (mkT ((dAt a l k0 i:Nat):Int))/\F (i*6+1)=.int .i64 ((dAt a l k0 i+1:Nat):Int)/\F (i*6+2)=.int .i64 ((dAt a l k0 i+2:Nat):Int)/\F (i*6+3)=.string (mkT ((dAt a l k0 i+3:Nat):Int))
 actM:∀ i,i<k->a i≠0->Cells w (A i) 0 (a i*3) (mF (dAt a l k0 i+4))
 lnkM:∀ i,i<k->l i≠0->Cells w (L i) 0 (l i*4) (oP (dAt a l k0 i+4+a i*3))
 act:∀ i,ka<=i->i<n->a i≠0->∃ G,Cells w (A i) 0 (a i*3) G
 lnk:∀ i,kl<=i->i<n->l i≠0->∃ G,Cells w (L i) 0 (l i*4) G
theorem DPart.move {w p:World}{T n k m o s:Nat}{A L a l:Nat->Nat}{F b:Nat->Value}(h:DPart w T n k m o s A L a l F)(u:Cells p T 0 (n*6) b)(r:∀ i,i<n->b (i*6+4)=F (i*6+4)/\b (i*6+5)=F (i*6+5))(f:∀ i,i<k->∀ j,j<4->b (i*6+j)=F (i*6+j)){Q:Nat->Prop}(g:Touch Q w p)(t:∀ i,i<n->(i<k∨m<=i)->a i≠0->¬ Q (A i))(hL:∀ i,i<n->(i<k∨o<=i)->l i≠0->¬ Q (L i))(hk:k<=n):DPart p T n k m o s A L a l b:=by
 refine⟨u,fun i hi=>?_,fun i hi=>?_,fun i hi hz=>(h.actM i hi hz).touch g (t i (by omega) (.inl hi) hz),fun i hi hz=>(h.lnkM i hi hz).touch g (hL i (by omega) (.inl hi) hz),fun i d c hz=>?_,fun i d c hz=>?_⟩
 ·rw[(r i hi).1,(r i hi).2]
  exact h.sl i hi
 ·have x:b (i*6)=F (i*6):=f i hi 0 (by omega)
  rw[x,f i hi 1 (by omega),f i hi 2 (by omega),f i hi 3 (by omega)];exact h.mrk i hi
 ·obtain⟨G,q⟩:=h.act i d c hz
  exact⟨G,q.touch g (t i c (.inr d) hz)⟩
 ·obtain⟨G,q⟩:=h.lnk i d c hz
  exact⟨G,q.touch g (hL i c (.inr d) hz)⟩
theorem DPart.below {w f:World}{T n k b d c Z:Nat}{A L a l:Nat->Nat}{F:Nat->Value}(h:DPart w T n k b d c A L a l F)(hb:Below Z w f)(g:w.heap.size<=Z)(i:k<=n):DPart f T n k b d c A L a l F :=
 h.move (h.row.below hb (lj h.row.1 g)) (fun _ _=>⟨rfl,rfl⟩) (fun _ _ _ _=>rfl) (Q:=fun _=>False) (Touch.of_below hb g) (fun _ _ _ _ h=>h) (fun _ _ _ _ h=>h) i
theorem DPart.setCell {w:World}{T n k d f c:Nat}{A L a l:Nat->Nat}{F:Nat->Value}(h:DPart w T n k d f c A L a l F)(b:zj T n A L a l)(hk:k<n)(x j:Nat)(g:x=0+(k*6+j))(hj:j<4)(v:Value):DPart (w.setCell ⟨T,x,none⟩ v) T n k d f c A L a l (fun y=>if y=k*6+j then v else F y):=by
 have m:=h.row.setAt x (k*6+j) g (by omega) v;refine h.move m (fun i hi=>⟨?_,?_⟩) (fun i hi y hy=>?_) (Q:=fun y=>y=T) ((Touch.refl (fun y=>y=T) w).setCell (p:=⟨T,x,none⟩) rfl v) (fun i hi _ hz=>(b.apart i hi).1 hz) (fun i hi _ hz=>(b.apart i hi).2 hz) (by omega)
 ·exact if_neg (by omega)
 ·exact if_neg (by omega)
 ·exact if_neg (by omega)
theorem cells_of_row {w:World}{b n:Nat}{t:TypeId}{F:Nat->Value}(h:w.rowIs b t n F):Cells w b 0 n F :=
 ⟨h.lt,fun j c=>by rw[Nat.zero_add];exact⟨h.cell c,h.frozen j⟩⟩
theorem OwnIns.lt {w:World}{g n k:Nat}{f:Nat->Ins}(h:OwnIns w g n k f):g<w.heap.size:=by obtain⟨F,b,_⟩:=h;exact b.lt
theorem OwnIns.setOther {w:World}{g n k:Nat}{f:Nat->Ins}(h:OwnIns w g n k f)(p:Addr)(b:p.block≠g)(v:Value):OwnIns (w.setCell p v) g n k f:=by obtain⟨F,c,hF⟩:=h;exact⟨F,c.setOther (fun e=>b e.symm) v,hF⟩
theorem OwnIns.kept {w b:World}{g n k:Nat}{f:Nat->Ins}{B:Nat}(h:OwnIns w g n k f)(hb:Below B w b)(c:w.heap.size<=B):OwnIns b g n k f:=h.below hb (lj h.lt c)
theorem OwnIns.cells {w:World}{g n:Nat}{f:Nat->Ins}(h:OwnIns w g n n f):∃ F,Cells w g 0 (n*3) F:=by obtain⟨F,b,_⟩:=h;exact⟨F,cells_of_row b⟩
theorem OwnSource.lt {w:World}{g n k:Nat}{f:Nat->Source}(h:OwnSource w g n k f):g<w.heap.size:=by obtain⟨F,b,_⟩:=h;exact b.lt
theorem OwnSource.setOther {w:World}{g n k:Nat}{f:Nat->Source}(h:OwnSource w g n k f)(p:Addr)(b:p.block≠g)(v:Value):OwnSource (w.setCell p v) g n k f:=by obtain⟨F,c,hF⟩:=h;exact⟨F,c.setOther (fun e=>b e.symm) v,hF⟩
theorem OwnSource.kept {w b:World}{g n k:Nat}{f:Nat->Source}{B:Nat}(h:OwnSource w g n k f)(hb:Below B w b)(c:w.heap.size<=B):OwnSource b g n k f:=h.below hb (lj h.lt c)
theorem OwnSource.cells {w:World}{g n:Nat}{f:Nat->Source}(h:OwnSource w g n n f):∃ F,Cells w g 0 (n*2) F:=by obtain⟨F,b,_⟩:=h;exact⟨F,cells_of_row b⟩
def OwnTarget2 (w:World)(g n k N:Nat)(f:Nat->Target):Prop :=
 ∃ (F:Nat->Value) (b:Nat->Nat),w.rowIs g 104 (n*2) F/\(∀ i j,i<j->j<k->b i<b j)/\(∀ i,i<k->b i<N)/\∀ i,i<k->F (i*2)=.string (f i).name/\(F (i*2+1)=.slice (some ⟨b i,0,none⟩) (f i).actN (f i).actN/\OwnIns w (b i) (f i).actN (f i).actN (f i).act/\g<b i)
theorem OwnTarget2.lt {w:World}{g n k N:Nat}{f:Nat->Target}(h:OwnTarget2 w g n k N f):g<w.heap.size:=by obtain⟨F,G0,b,_⟩:=h;exact b.lt
theorem OwnTarget2.below {w b:World}{g n k N:Nat}{f:Nat->Target}{B:Nat}(h:OwnTarget2 w g n k N f)(hb:Below B w b)(c:w.heap.size<=B):OwnTarget2 b g n k N f:=by have m:=h.lt;obtain⟨F,l,j,d,o,hF⟩:=h;refine⟨F,l,j.of_block (hb.block g (lj m c)),d,o,fun i hi=>?_⟩;obtain⟨p,⟨s0,r0,u0⟩⟩:=hF i hi;exact⟨p,⟨s0,r0.kept hb c,u0⟩⟩
theorem OwnTarget2.setOther {w:World}{g n k N:Nat}{f:Nat->Target}(h:OwnTarget2 w g n k N f)(p:Addr)(hp:p.block<g)(v:Value):OwnTarget2 (w.setCell p v) g n k N f:=by obtain⟨F,d,c,b,j,hF⟩:=h;refine⟨F,d,c.setOther (by omega) v,b,j,fun i hi=>?_⟩;obtain⟨l,⟨s0,r0,u0⟩⟩:=hF i hi;exact⟨l,⟨s0,r0.setOther p (by omega) v,u0⟩⟩
theorem OwnTarget2.old {w:World}{g n k N:Nat}{f:Nat->Target}(h:OwnTarget2 w g n k N f):OwnTarget w g n k f:=by obtain⟨F,c,b,ha,hN,hF⟩:=h;refine⟨F,c,b,fun i hi=>?_⟩;obtain⟨d,⟨s0,r0,u0⟩⟩:=hF i hi;exact⟨d,⟨s0,r0.row,u0⟩⟩
theorem OwnTarget2.row {w:World}{g n N:Nat}{f:Nat->Target}(h:OwnTarget2 w g n n N f):RowTarget w g 0 n f:=h.old.row
theorem OwnTarget2.step {w:World}{g n k b N:Nat}{f:Nat->Target}(h:OwnTarget2 w g n k N f)(o:OwnIns w b (f k).actN (f k).actN (f k).act)(d:g<b)(hN0:N<=b):OwnTarget2 ((w.setCell ⟨g,k*2,none⟩ (.string (f k).name)).setCell ⟨g,k*2+1,none⟩ (.slice (some ⟨b,0,none⟩) (f k).actN (f k).actN)) g n (k+1) (b+1) f:=by
 obtain⟨F,q,p,m,l,hF⟩:=h;refine⟨_,fun i=>if i=k then b else q i,((p.set _ _).set _ _),fun i j c hj=>?_,fun i hi=>?_,fun i hi=>?_⟩
 ·dsimp only
  rw[if_neg (show ¬ i=k by omega)];by_cases e:j=k
  ·rw[if_pos e]
   have:=l i (by omega);omega
  ·rw[if_neg e]
   exact m i j c (by omega)
 ·dsimp only
  by_cases e:i=k
  ·rw[if_pos e]
   omega
  ·rw[if_neg e]
   have:=l i (by omega);omega
 ·by_cases e:i=k
  ·subst e
   exact⟨by simp,⟨by simp,by dsimp only;rw[if_pos rfl];exact((o).setOther _ (by first | (simp;omega) | simp) _).setOther _ (by first | (simp;omega) | simp) _,by dsimp only;rw[if_pos rfl];exact d⟩⟩
  ·obtain⟨r,⟨s0,r0,u0⟩⟩:=hF i (by omega)
   refine⟨?_,?_⟩
   ·show(if _ then _ else if _ then _ else _)=_
    rw[if_neg (by omega),if_neg (by omega),r]
   ·dsimp only
    rw[if_neg e];refine⟨?_,((r0).setOther _ (by first | (simp;omega) | simp) _).setOther _ (by first | (simp;omega) | simp) _,u0⟩;show(if _ then _ else if _ then _ else _)=_;rw[if_neg (by omega),if_neg (by omega),s0]
def kAt (m:Nat->Nat)(b:Nat):Nat->Nat
 | 0=>b
 | i+1=>kAt m b i+1+m i*3
structure TCells (w:World)(T off n:Nat)(B m:Nat->Nat):Prop where
 row:∃ F,Cells w T off (n*2) F/\∀ i,i<n->∃ cap,F (i*2+1)=.slice (some ⟨B i,0,none⟩) (m i) cap
 act:∀ i,i<n->∃ G,Cells w (B i) 0 (m i*3) G
 apart:∀ i,i<n->B i≠T
 each:∀ i j,i<n->j<n->i≠j->B i≠B j
structure TMarked (w:World)(T off n:Nat)(B m:Nat->Nat)(k0:Nat):Prop where
 row:∃ F,Cells w T off (n*2) F/\∀ i,i<n->F (i*2)=.string (mkT ((kAt m k0 i:Nat):Int))/\∃ cap,F (i*2+1)=.slice (some ⟨B i,0,none⟩) (m i) cap
 act:∀ i,i<n->Cells w (B i) 0 (m i*3) (mF (kAt m k0 i+1))
theorem TMarked.below {w c:World}{T off n f Z:Nat}{B m:Nat->Nat}(h:TMarked w T off n B m f)(hb:Below Z w c)(d:w.heap.size<=Z):TMarked c T off n B m f:=by obtain⟨⟨F,hF,g⟩,b⟩:=h;exact⟨⟨F,hF.below hb (lj hF.1 d),g⟩,fun i hi=>(b i hi).below hb (lj (b i hi).1 d)⟩
def sG (b:Nat)(j:Nat):Value:=if j % 2=0 then .string (mkT ((b:Int)+j)) else .string (mkT ((b:Int)+j))
structure SCells (w:World)(a0:Option Addr)(n0:Nat)(a1:Option Addr)(n1:Nat)(P:Nat->Prop):Prop where
 src:n0=0∨∃ S,a0=some ⟨S,0,none⟩/\P S/\∃ F,Cells w S 0 (n0*2) F
 tgt:n1=0∨∃ T B m,a1=some ⟨T,0,none⟩/\TCells w T 0 n1 B m/\P T/\(∀ i,i<n1->P (B i))/\(∀ i,i<n1->m i<=1048576)/\∀ S,a0=some ⟨S,0,none⟩->n0≠0->T≠S/\∀ i,i<n1->B i≠S
structure SMarked (w:World)(a0:Option Addr)(n0:Nat)(a1:Option Addr)(n1 r:Nat):Prop where
 src:n0=0∨∃ S,a0=some ⟨S,0,none⟩/\Cells w S 0 (n0*2) (sG 1)
 tgt:(n1=0/\r=1+n0*2)∨∃ T B m,a1=some ⟨T,0,none⟩/\TMarked w T 0 n1 B m (1+n0*2)/\(∀ i,i<n1->m i<=1048576)/\r=kAt m (1+n0*2) n1
theorem TCells.below {w c:World}{T off n Z:Nat}{B m:Nat->Nat}(h:TCells w T off n B m)(hb:Below Z w c)(d:w.heap.size<=Z):TCells c T off n B m:=by obtain⟨⟨F,hF,g⟩,f,k,j⟩:=h;refine⟨⟨F,hF.below hb (lj hF.1 d),g⟩,fun i hi=>?_,k,j⟩;obtain⟨G,b⟩:=f i hi;exact⟨G,b.below hb (lj b.1 d)⟩
theorem TMarked.lt {w:World}{T off n b:Nat}{B m:Nat->Nat}(h:TMarked w T off n B m b):T<w.heap.size:=by obtain⟨⟨F,hF,_⟩,_⟩:=h;exact hF.1
theorem SMarked.below {w c:World}{a0 a1:Option Addr}{n0 n1 r Z:Nat}(h:SMarked w a0 n0 a1 n1 r)(hb:Below Z w c)(d:w.heap.size<=Z):SMarked c a0 n0 a1 n1 r:=by
 obtain⟨j,k⟩:=h;refine⟨?_,?_⟩
 ·rcases j with h | ⟨S,e,b⟩
  ·exact .inl h
  ·exact .inr ⟨S,e,b.below hb (lj b.1 d)⟩
 ·rcases k with h | ⟨T,B,m,e,i,g,f⟩
  ·exact .inl h
  ·exact .inr ⟨T,B,m,e,i.below hb d,g,f⟩
structure Two (w:World)(b:Nat)(v0 v1:Value):Prop where
 lt:b<w.heap.size
 c0:w.cell? ⟨b,0,none⟩=some v0
 c1:w.cell? ⟨b,1,none⟩=some v1
theorem Two.block {w c:World}{b:Nat}{v0 d:Value}(h:Two w b v0 d)(hz:w.heap.size<=c.heap.size)(hb:c.heap[b]?=w.heap[b]?):Two c b v0 d :=
 ⟨lj h.lt hz,(cq (a:=⟨b,0,none⟩) hb).trans h.c0,(cq (a:=⟨b,1,none⟩) hb).trans h.c1⟩
theorem Two.below {w d:World}{b:Nat}{c f:Value}(h:Two w b c f)(hb:Below w.heap.size w d):Two d b c f:=h.block hb.size (hb.block b h.lt)
theorem Two.touch {w d:World}{b:Nat}{c f:Value}{P:Nat->Prop}(h:Two w b c f)(g:Touch P w d)(hb:¬ P b):Two d b c f:=h.block g.size (g.block b h.lt hb)
theorem SCells.below {w b:World}{a0 a1:Option Addr}{n0 n1:Nat}{P:Nat->Prop}(h:SCells w a0 n0 a1 n1 P)(hb:Below w.heap.size w b):SCells b a0 n0 a1 n1 P:=by
 obtain⟨f,g⟩:=h;refine⟨?_,?_⟩
 ·rcases f with h | ⟨S,e,c,F,hF⟩
  ·exact .inl h
  ·exact .inr ⟨S,e,c,F,hF.below hb hF.1⟩
 ·rcases g with h | ⟨T,B,m,e,d,r⟩
  ·exact .inl h
  ·exact .inr ⟨T,B,m,e,d.below hb ly,r⟩
end Go.Proofs.YtkophfgkcijjkaaGreatDoor.Vp
