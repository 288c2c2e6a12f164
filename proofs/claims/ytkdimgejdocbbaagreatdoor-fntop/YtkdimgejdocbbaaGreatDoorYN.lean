import Derived.Test.YtkdimgejdocbbaaGreatDoorYL
import Derived.Shelf.Spec.SlicesInsert
import Derived.Laws.CopyRow
import Derived.Lib.AppendZerosOnto
set_option maxRecDepth 100000
set_option maxHeartbeats 8000000
set_option linter.unusedSimpArgs false
open Go.Addr renaming mk->J
open Go.Value renaming slice->Y,string->U,int->N,agg->QE
open Option renaming none->Z,some->Q
open Go.Obj renaming cells->T
open Go.IntKind renaming i64->I
open Go renaming World->E,Value->QB,TypeId->QF
open Bool renaming false->D,true->QC
namespace Go.Proofs.YtkdimgejdocbbaaGreatDoor.Vp
open RowKit
def ep (n0:Nat)(f0:Nat->Source)(n1:Nat)(f1:Nat->Target)(t:ByteArray)(m:Nat)(b:Nat->Ins):List Source:=if fN n0 f0 n1 f1 t (valid b m)=0 then keepS f0 t n0 else []
def er (n0:Nat)(f0:Nat->Source)(n1:Nat)(f1:Nat->Target)(t:ByteArray)(m:Nat)(b:Nat->Ins):List Target:=if fN n0 f0 n1 f1 t (valid b m)=0 then ko (keepT f1 t n1) ⟨t,m,b⟩ t else []
structure Trio (w:E)(h:Nat)(p0 p1 p2:QB):Prop where
 lt:h+2<w.heap.size
 a0:w.cell? (J h 0 Z)=Q p0
 a1:w.cell? (J h 1 Z)=Q p1
 b0:w.cell? (J (h+1) 0 Z)=Q p2
 r0:w.cell? (J (h+2) 0 Z)=Q (Y Z 0 0)/\w.frozen? (J (h+2) 0 Z)=D
 r1:w.cell? (J (h+2) 1 Z)=Q (Y Z 0 0)/\w.frozen? (J (h+2) 1 Z)=D
theorem Trio.below {w d:E}{h B:Nat}{l i j:QB}(b:Trio w h l i j)(hb:Below B w d)(hB:h+3<=B):Trio d h l i j:=by have c:∀ k o,k<B->d.cell? (J k o Z)=w.cell? (J k o Z):=fun k o g=>hb.cell (p:=(J k o Z)) g;have f:∀ k o,k<B->d.frozen? (J k o Z)=w.frozen? (J k o Z):=fun k o g=>hb.frozen (p:=(J k o Z)) g;exact⟨ll b.lt hb.size,(c _ _ (by omega)).trans b.a0,(c _ _ (by omega)).trans b.a1,(c _ _ (by omega)).trans b.b0,⟨(c _ _ (by omega)).trans b.r0.1,(f _ _ (by omega)).trans b.r0.2⟩,⟨(c _ _ (by omega)).trans b.r1.1,(f _ _ (by omega)).trans b.r1.2⟩⟩
theorem Am (w:E)(d b f:QB)(t u:QF):Trio (((w.alloc (T #[d,b] t)).alloc (T #[f] u)).alloc (T #[Y Z 0 0,Y Z 0 0] t)) w.heap.size d b f:=by
 have i:Below (w.heap.size+1) (w.alloc (T #[d,b] t)) ((w.alloc (T #[d,b] t)).alloc (T #[f] u)):=br.alloc (by simp) _;have h:Below (w.heap.size+2) ((w.alloc (T #[d,b] t)).alloc (T #[f] u)) (((w.alloc (T #[d,b] t)).alloc (T #[f] u)).alloc (T #[Y Z 0 0,Y Z 0 0] t)):=br.alloc (by simp) _;have hz:(w.alloc (T #[d,b] t)).heap.size=w.heap.size+1:=by simp
 have g:((w.alloc (T #[d,b] t)).alloc (T #[f] u)).heap.size=w.heap.size+2:=by simp
 refine⟨by simp,?_,?_,?_,⟨?_,?_⟩,⟨?_,?_⟩⟩
 ·exact(h.cell (p:=(J w.heap.size 0 Z)) (by simp)).trans ((i.cell (p:=(J w.heap.size 0 Z)) (by simp)).trans (by simp))
 ·exact(h.cell (p:=(J w.heap.size 1 Z)) (by simp)).trans ((i.cell (p:=(J w.heap.size 1 Z)) (by simp)).trans (by simp))
 ·refine(h.cell (p:=(J (w.heap.size+1) 0 Z)) (by simp)).trans ?_
  rw[<-hz];clear i h hz g;generalize w.alloc (T #[d,b] t)=W;simp
 all_goals
  rw[<-g];clear i h hz g;generalize (w.alloc (T #[d,b] t)).alloc (T #[f] u)=W;simp
theorem t8 {P:Program}{w:E}(d:Nat)(t ty e:QF)(i:TypeInfo)(z:QB)(size g:Nat)(y:P.underlying t=Q (.slice e))(hi:P.info? e=Q i)(hz:i.zero=Q z)
  (n:i.size=size) (r:i.bytes=g) (q:z.cells.size=size)
  (b:Nat) (a:Addr) (c:Nat) (news:List QB) (l:news.length=1*size) (m:∀ j u,news[j]?=Q u->w.cell? (a.add j)=Q u)
  (h:1*g<=140737488355328) (f:d<=w.heap.size) :
  ∃ s p,(Builtin.append_ #[t,t] ty #[Y (Q (J b 0 Z)) 0 0,Y (Q a) 1 c]).run P w=.ok s p/\p.ownsRow d e size s 1 news/\Below d w p:=by
 subst n r;have C:=run_append_grow (P:=P) w t ty e i z y hi hz (J b 0 Z) 0 0 [] (by simp) (by intro j v B;simp at B) a 1 c news l m (by omega) (by omega) (growslice_fits (by omega) (by simpa using h));have o:=grownCap_ge w (0+1) 0 e;have x:grownCap w (0+1) 0 e<=maxLen:=grownCap_le_maxLen w (0+1) 0 e (by unfold maxLen;omega);refine⟨_,_,C,⟨by simpa using l,.inr ⟨w.heap.size,_,_,rfl,f,eL w.drew _,o,x,?_,?_⟩⟩,rfl,rfl,rfl,by simp,fun k A=>J7 w.drew _ (ll A f)⟩
 ·simp only[Array.size_append,JK,size_zeroCells,q,l,ES,C9,<-Nat.add_mul]
  congr 1;have:=o;simp only[C9] at this;omega
 ·simp only[Array.toList_append,IM]
  rw[<-l];exact List.take_left
theorem dY {P:Program}{w:E}{B:Array Oper}{rest:List Oper}{o:Oper}{a:Act}{QL:Exit->Act->E->Prop}(QQ:o.guard=Z)(s x:Operand)(t:QF)
  (QO:o.op=.call { callee:=.builtin .append,args:=#[s,x],argTypes:=#[t,t] })
  (d:Nat) (e:QF) (i:TypeInfo) (z:QB) (size f:Nat) (L:P.underlying t=Q (.slice e)) (hi:P.info? e=Q i) (hz:i.zero=Q z)
  (q:i.size=size) (QP:i.bytes=f) (C:z.cells.size=size) (QM:0<size)
  (v:QB) (n:Nat) (y:List QB) (K:a.eval s=v) (k:w.ownsRow d e size v n y∨∃ b,v=Y (Q (J b 0 Z)) 0 0/\n=0/\y=[])
  (A:Addr) (c:Nat) (news:List QB) (M:a.eval x=Y (Q A) 1 c) (H:news.length=1*size) (p:∀ j u,news[j]?=Q u->w.cell? (A.add j)=Q u) (h1:∀ u∈news,u.oneCell'=QC)
  (QN:n+1<=maxLen) (r:(n+1)*f<=140737488355328) (g:d<=w.heap.size)
  (h:∀ m l,l.ownsRow d e size m (n+1) (y++news)->Below d w l->wpList P B QL rest (a.put o.dst m) l):wpList P B QL (o :: rest) a w:=by
 rcases k with k | ⟨b,rfl,rfl,rfl⟩
 ·exact CL w QQ s x t QO d e i z size f L hi hz q QP C QM v n y K k A 1 c news M H p h1 QN r g fun m l h2 G _=>h m l h2 (bg (eI d w) G g (fun j e=>(k.lt j e).1))
 ·obtain⟨m,l,O,h2,G⟩:=t8 (w:=w) d t o.type e i z size f L hi hz q QP C b A c news H p (by omega) g
  exact Lib.wpList_append_run w QQ s x t t QO _ _ K M m l O (h m l (by simpa using h2) G)
theorem oE {b:Type}(g:Nat->ByteArray)(F:Nat->b)(x:b)(t:ByteArray)(k:Nat):(dL g t k=D->eB g F x t k=(List.range k).map F)/\(dL g t k=QC->∃ A B,(List.range k).map F=A++B/\eB g F x t k=A++x :: B):=by
 induction k with
 | zero=>simp[eB,dL]
 | succ j d =>
  have e:(List.range (j+1)).map F=(List.range j).map F++[F j]:=by rw[JA,E2];rfl
  rw[e];simp only[eB,dL];cases hd:dL g t j with
  | false =>
   have h1:=d.1 hd;cases hl:ay t (g j) with
   | true=>simpa[h1] using⟨(List.range j).map F,[F j],rfl,by simp⟩
   | false=>simp[h1]
  | true =>obtain⟨A,B,h1,h2⟩:=d.2 hd;simp only[Bool.true_or,Bool.true_eq_false,false_and,LM,true_implies,false_implies,LN];exact⟨A,B++[F j],by rw[h1];simp,by rw[h2];simp⟩
theorem wL {b:Type}(g:Nat->ByteArray)(F:Nat->b)(x:b)(t:ByteArray)(n:Nat):∃ A B,(List.range n).map F=A++B/\jE g F x t n=A++x :: B:=by
 obtain⟨h1,h2⟩:=oE g F x t n;unfold jE;cases hd:dL g t n with
 | true=>simpa using h2 hd
 | false=>exact⟨(List.range n).map F,[],by simp,by simp[h1 hd]⟩
theorem wM {b:Type}(R:List b)(d:b):(List.range R.length).map (fun j=>R.getD j d)=R:=by
 apply MR
 ·simp
 ·intro i h1 h2
  simp at h1;simp[vF,h1]
theorem sy {b f:Type}(p:b->f)(R:List b)(d:b)(j:Nat):p (R.getD j d)=(R.map p).getD j (p d):=by simp[vF]
theorem An {w:E}{d:Nat}{m v:QB}{A B:List TR}{x:TR}(h:TRow w d m (A++B))(l:RowIns w x.2.1 0 x.1.actN x.1.act/\(∃ F,Cells w x.2.1 0 (x.1.actN*3) F)/\TypeAt w x.2.1 188/\d<=x.2.1)
  (g:∀ r∈A++B,r.2.1≠x.2.1) (j:w.ownsRow d 108 2 v (A++x :: B).length ((A++x :: B).flatMap aV)):TRow w d v (A++x :: B):=by
 refine⟨j,fun r f=>?_,?_⟩
 ·rcases kP.1 f with f | f
  ·exact h.act r (kP.2 (.inl f))
  ·rcases BC.1 f with rfl | f
   ·exact l
   ·exact h.act r (kP.2 (.inr f))
 ·have i:=IX.1 h.up
  refine IX.2 ⟨i.1,List.pairwise_cons.2 ⟨fun b hb e=>g b (kP.2 (.inr hb)) e.symm,i.2.1⟩,fun a k b hb=>?_⟩;rcases BC.1 hb with rfl | hb
  ·exact g a (kP.2 (.inl k))
  ·exact i.2.2 a k b hb
theorem CQ {b:Type}{g:Nat->ByteArray}{F:Nat->b}{x:b}{t:ByteArray}{k:Nat}(h:dL g t k=QC):(eB g F x t k).length≠0:=by obtain⟨A,B,_,h2⟩:=(oE g F x t k).2 h;rw[h2];simp
theorem wN {w:E}{d c:Nat}{a:Option Addr}{R:List TR}(h:TRow w d (Y a R.length c) R)(k:0<R.length):∃ b off,a=Q (J b off Z)/\b<w.heap.size/\∀ i,i<R.length->w.cell? (J b (off+i*2) Z)=Q (U (R.getD i dfR).1.name)/\w.cell? (J b (off+i*2+1) Z)=Q (Y (Q ⟨(R.getD i dfR).2.1,0,Z⟩) (R.getD i dfR).1.actN (R.getD i dfR).2.2):=by
 obtain⟨g,c',e⟩:=dS h.own k;simp at e;obtain⟨rfl,rfl⟩:=e;refine⟨g,0,rfl,(dR h.own).2,fun i hi=>?_⟩;have f:R[i]?=Q (R.getD i dfR):=by rw[vF,gq hi];rfl
 generalize R.getD i dfR=r at f;refine⟨?_,?_⟩
 ·have:=(bv h.own (j:=i*2) (u:=U r.1.name) (by have:=cS aV 2 (fun _=>rfl) R i 0 (by omega) _ f;simpa[aV] using this)).1
  rwa[show 0+i*2=i*2 by omega]
 ·have:=(bv h.own (j:=i*2+1) (u:=Y (Q (J r.2.1 0 Z)) r.1.actN r.2.2) (by have:=cS aV 2 (fun _=>rfl) R i 1 (by omega) _ f;simpa[aV] using this)).1
  rwa[show 0+i*2+1=i*2+1 by omega]
def fe (R:List TR)(x:TR)(t:ByteArray):List TR:=jE (nm1 (bo (R.map fun r:TR=>r.1))) (fun j=>R.getD j dfR) x t R.length
theorem uP (R:List TR)(j:Nat):nm1 (bo (R.map fun r:TR=>r.1)) j=(R.getD j dfR).1.name:=by exact vG Target.name (sy (fun r:TR=>r.1) R dfR j).symm
theorem sA (R:List TR)(x:TR)(t:ByteArray):(fe R x t).map (fun r:TR=>r.1)=ko (R.map fun r:TR=>r.1) x.1 t:=by unfold fe ko;rw[Ai,IZ];congr 1;funext j;exact sy (fun r:TR=>r.1) R dfR j
theorem Ao {w:E}{b:Nat}{g v:QB}{R:List TR}{x:TR}{t:ByteArray}(h:TRow w b g R)(i:RowIns w x.2.1 0 x.1.actN x.1.act/\(∃ F,Cells w x.2.1 0 (x.1.actN*3) F)/\TypeAt w x.2.1 188/\b<=x.2.1)
  (f:∀ r∈R,r.2.1≠x.2.1) (d:w.ownsRow b 108 2 v (fe R x t).length ((fe R x t).flatMap aV)):TRow w b v (fe R x t):=by
 obtain⟨A,B,h1,h2⟩:=wL (nm1 (bo (R.map fun r:TR=>r.1))) (fun j=>R.getD j dfR) x t R.length;rw[wM] at h1;unfold fe at d ⊢;rw[h2] at d ⊢;subst h1;exact An h i f d
theorem CR {w:E}{b g c:Nat}{x:Target}(h:w.ownsRow b 188 3 (Y (Q (J g 0 Z)) x.actN c) x.actN (cB x.act x.actN)):RowIns w g 0 x.actN x.act/\(∃ F,Cells w g 0 (x.actN*3) F)/\TypeAt w g 188/\b<=g:=by obtain⟨h1,h2⟩:=jN h;exact⟨h1,h2,iX h,(dR h).1⟩
theorem kw {w:E}{d size n:Nat}{e:QF}{v:QB}{f:List QB}(h:w.ownsRow d e size v n f∨∃ b,v=Y (Q (J b 0 Z)) 0 0/\n=0/\f=[])(o:Obj):(w.alloc o).ownsRow d e size v n f∨∃ b,v=Y (Q (J b 0 Z)) 0 0/\n=0/\f=[] :=
 h.imp (fun h=>h.alloc o) id
theorem sB {i h wr:E}{b X QH bL lo m d g:Nat}{QQ v u0 u1:QB}{R:List TR}{t:ByteArray}{f:Nat->Ins}(y:∀ k,Below X i k->TRow k (b+3) QQ R)(C:Below X i wr)(G:Below bL h wr)(A:h.ownsRow lo 188 3 (Y (Q (J d 0 Z)) m g) m (cB f m))(z:wr.ownsRow bL 108 2 v (fe R (⟨t,m,f⟩,d,g) t).length ((fe R (⟨t,m,f⟩,d,g) t).flatMap aV))(n:∀ r∈R,r.2.1<X)(hb:bL=h.heap.size)(h1:X<lo)(h2:QH<b+3)(h3:b+3<=X)(h4:lo<=bL)(h5:lo<=d):TRow (((wr.setCell (J X 1 Z) v).setCell (J QH 0 Z) u0).setCell (J QH 1 Z) u1) b v (fe R (⟨t,m,f⟩,d,g) t):=by have B:=y _ (C.setCell (p:=(J X 1 Z)) lr v);have o:=aG (own_below A G (by omega)) (R:=X) (j:=1) (by omega) v;have l:=aG z (R:=X) (j:=1) (by omega) v;have QP:=(B.set (X:=QH) (j:=0) h2 u0).set (X:=QH) (j:=1) h2 u1;have s:=aG (aG o (R:=QH) (j:=0) (by omega) u0) (R:=QH) (j:=1) (by omega) u1;have q:=aG (aG l (R:=QH) (j:=0) (by omega) u0) (R:=QH) (j:=1) (by omega) u1;exact Ao (jo QP (by omega)) (CR (x:=⟨t,m,f⟩) (aI s (by omega))) (fun r u=>by have:=n r u;show r.2.1≠d;omega) (aI q (by omega))
theorem sC (a0:Option Addr)(n0 c0:Nat)(f0:Nat->Source)(a1:Option Addr)(n1 c1:Nat)(f1:Nat->Target)(t:ByteArray)(ap:Option Addr)(m cp:Nat)(g:Nat->Ins)(w:E)(hn0:(n0:Int)<=1048576)(hn1:(n1:Int)<=1048576)(hm:m<=1048576)(FM:SlSource w a0 n0 f0)(FF:SlTarget w a1 n1 f1)(FN:SlIns w ap m g)(Fo:∀ i,i<n1->aS (f1 i))(hs:∀ i,i<n1->∀ j,j<(f1 i).actN->((f1 i).act j).s.size<=maxLen)(Fx:∀ i,i<m->(g i).s.size<=maxLen):Calls Tryz.prog 18 #[QE #[Y a0 n0 c0,Y a1 n1 c1],U t,QE #[Y ap m cp]] w fun e P=>∃ v0 v1 R,e=.returned (.tuple #[QE #[v0,v1],N I (fN n0 f0 n1 f1 t (valid g m))])/\P.ownsRow w.heap.size 104 2 v0 (ep n0 f0 n1 f1 t m g).length ((ep n0 f0 n1 f1 t m g).flatMap bC)/\TRow P w.heap.size v1 R/\R.map (·.1)=er n0 f0 n1 f1 t m g/\Below w.heap.size w P:=by
 have V0:=ae FM;have V1:=ae FF;have VP:=ae FN;have HF:=ae Fo;have HS:=ae hs;have FI:=ae Fx;clear FM FF FN Fo hs Fx;obtain⟨n7,ex,mv,la,fd⟩:=IQ ft;obtain⟨C,hC⟩:∃ C,C=aU n0 f0 n1 f1:=⟨_,rfl⟩
 obtain⟨rt,Fi⟩:∃ rt,rt=valid g m:=⟨_,rfl⟩
 obtain⟨QQ,hD⟩:∃ QQ,QQ=fN n0 f0 n1 f1 t (valid g m):=⟨_,rfl⟩
 obtain⟨QP,Bk⟩:∃ QP,QP=ep n0 f0 n1 f1 t m g:=⟨_,rfl⟩
 obtain⟨LT,Fd⟩:∃ LT,LT=er n0 f0 n1 f1 t m g:=⟨_,rfl⟩
 rw[<-hD,<-Bk,<-Fd];have HC:=ae hC;have HR:=ae Fi;have HD:=ae (hD.trans (by unfold fN;rw[<-hC,<-Fi]));have ld:=ae (Bk.trans (by unfold ep;rw[<-hD]));have QN:=ae (Fd.trans (by unfold er;rw[<-hD]));clear hC hD Bk Fd Fi;have A0:=ae ((((Qs w).alloc lr (T #[Y a0 n0 c0,Y a1 n1 c1] 26)).alloc (by simp) (T #[Y ap m cp] 31)).alloc (by simp;omega) (T #[Y Z 0 0,Y Z 0 0] 26));have X0:=ae (Am w (Y a0 n0 c0) (Y a1 n1 c1) (Y ap m cp) 26 31);go_enter Tryz.func18,Tryz.ntmps18;go_wp2_with fail;generalize ((w.alloc (T #[Y a0 n0 c0,Y a1 n1 c1] 26)).alloc (T #[Y ap m cp] 31)).alloc (T #[Y Z 0 0,Y Z 0 0] 26)=W at A0 X0 ⊢;refine(fL a0 n0 c0 f0 a1 n1 c1 f1 _ hn0 hn1 (V0.below A0 lr) (V1.below A0 lr) HF HS).mono ?_;rintro e w1 ⟨rfl,B⟩;rw[<-HC.out];have X1:=ae (X0.below B X0.lt);have B1:=ae (A0.trans (B.mono A0.size));clear B A0 X0;by_cases hc:C=0;case neg =>
  have hd:=HD.out;rw[eT hc] at hd;have y:=ld.out;rw[a8 (by omega)] at y;have q:=QN.out;rw[a8 (by omega)] at q;subst hd y q;have hc':(C == 0)=D:=by simpa using hc
  obtain⟨r0,q0⟩:=X1.r0;obtain⟨r1,q1⟩:=X1.r1;go_wp2;exact bp (v:=.tuple #[QE #[Y Z 0 0,Y Z 0 0],N I 1]) (by simp[results,Tryz.results18,go_sem,r0,r1]) rfl ⟨_,_,[],rfl,E4 _ _ _ _,dT _ _,rfl,(B1.setCell (by simp;omega) _).setCell (by simp;omega) _⟩
 subst hc;have hz:=oA HC.symm;have HZ:=ae hz;clear hz HC;have Fm:=HD.out;rw[a8 (by omega)] at Fm;have Fp:=ae Fm;clear Fm HD;go_wp2_with fail;refine(cX t _).mono ?_;rintro e w2 ⟨rfl,B⟩;have X2:=ae (X1.below B X1.lt);have B2:=ae (B1.trans (B.mono B1.size));clear B X1 B1;cases hn:au t with
 | false =>have hd:=Fp.out;rw[eT (.inl hn)] at hd;have y:=ld.out;rw[a8 (by omega)] at y;have q:=QN.out;rw[a8 (by omega)] at q;subst hd y q;obtain⟨r0,q0⟩:=X2.r0;obtain⟨r1,q1⟩:=X2.r1;go_wp2;exact bp (v:=.tuple #[QE #[Y Z 0 0,Y Z 0 0],N I 2]) (by simp[results,Tryz.results18,go_sem,r0,r1]) rfl ⟨_,_,[],rfl,E4 _ _ _ _,dT _ _,rfl,(B2.setCell (by simp;omega) _).setCell (by simp;omega) _⟩
 | true =>
 have k2:=X2.b0;go_wp2_with fail;refine(iS ap m cp g _ hm (VP.below B2 lr) FI).mono ?_;rintro e FU ⟨rfl,B⟩;rw[<-HR.out];have H:=ae (X2.below B X2.lt);have QJ:=ae (B2.trans (B.mono B2.size));clear B X2 B2 k2;have V:=Fp.out;rw[hn] at V;clear Fp;cases rt with
 | false =>rw[eT (.inr rfl)] at V;have y:=ld.out;rw[a8 (by omega)] at y;have q:=QN.out;rw[a8 (by omega)] at q;subst V y q;obtain⟨r0,q0⟩:=H.r0;obtain⟨r1,q1⟩:=H.r1;go_wp2;exact bp (v:=.tuple #[QE #[Y Z 0 0,Y Z 0 0],N I 2]) (by simp[results,Tryz.results18,go_sem,r0,r1]) rfl ⟨_,_,[],rfl,E4 _ _ _ _,dT _ _,rfl,(QJ.setCell (by simp;omega) _).setCell (by simp;omega) _⟩
 | true =>
 rw[a8 (by simp)] at V;have FH:=ae V;clear V hn;have hm1:1<=m:=by have h:=HR.out;unfold valid at h;have h2:=(Bool.and_eq_true_iff.1 h.symm).2;have:=(IU h2).1;omega
 obtain⟨pb,po,rfl,Fu⟩:=VP.resolve_left (by omega);have Fq:=ae Fu;clear VP Fu HR;have k0:=H.a0;have k1:=H.a1;go_wp2_with fail;refine(fM a0 n0 c0 f0 a1 n1 c1 f1 t _ hn0 hn1 (V0.below QJ lr) (V1.below QJ lr) HF).mono ?_;rintro e A ⟨v0,v1,R,rfl,hO,hR,hM,B⟩;have FP:=H.lt;have X3:=ae (H.below B H.lt);have B3:=ae (QJ.trans (B.mono QJ.size));obtain⟨QM,M,rfl⟩:=bh hO;obtain⟨QK,S,rfl⟩:=bh hR.own;have eR:R.length=(keepT f1 t n1).length:=by rw[<-hM];simp
 have FX:=ia f0 t n0;have FT:=lV f1 t n1;obtain⟨L,hL⟩:∃ L,L=keepS f0 t n0:=⟨_,rfl⟩
 obtain⟨K,hK⟩:∃ K,K=keepT f1 t n1:=⟨_,rfl⟩
 rw[<-hL] at hO FX ⊢;rw[<-hK] at hM FT eR;have bt:=FH.out;rw[<-hL,<-hK] at bt;have y:=ld.out;rw[<-hL] at y;have q:=QN.out;rw[<-hK] at q;have ER:=ae eR;have hlr:R.length<=n1:=by omega
 clear FH ld QN hL hK B k0 k1 H QJ eR;have hbw:w.heap.size+3<=FU.heap.size:=FP;have O3:=ae (aI hO (base':=w.heap.size+3) (by omega));have R3:=ae (jo hR (base':=w.heap.size+3) (by omega));have HM:=ae hM;have hll:(L.length:Int)<=1048576:=by omega
 clear hO hR hM;have DB:=ae ((Qs A).alloc lr (T #[Y QM L.length M,Y QK R.length S] 26));have K8:=ae (sg A (Y QM L.length M) (Y QK R.length S) 26);have X4:=ae (X3.below DB X3.lt);have B4:=ae (B3.trans (DB.mono B3.size));have O4:=ae (own_below O3 DB lr);have R4:=ae (R3.below DB lr);have ur:=ae DB.out;have Fr:w.heap.size+2<A.heap.size:=X3.lt;have c8:=K8.c0;have c9:=K8.c1;clear DB;by_cases hc3:(200:Int)<=L.length+R.length
 ·rw[eT (by have:=ER.out;omega)] at bt
  rw[a8 (by omega)] at y q;subst bt y q;obtain⟨r0,q0⟩:=X3.r0;obtain⟨r1,q1⟩:=X3.r1;clear c8 c9;go_wp2;exact bp (v:=.tuple #[QE #[Y Z 0 0,Y Z 0 0],N I 3]) (by simp[results,Tryz.results18,go_sem,r0,r1,Fr]) rfl ⟨_,_,[],rfl,E4 _ _ _ _,dT _ _,rfl,((B3.setCell (by simp;omega) _).setCell (by simp;omega) _).alloc (by have:=B3.size;simp;omega) _⟩
 clear X3;rw[a8 (by have:=ER.out;omega)] at bt;rw[eT bt] at y q;subst bt y;have QN:=ae q;clear q;have k2:=X4.b0;have FD:(A.alloc (T #[Y QM QP.length M,Y QK R.length S] 26)).heap.size=A.heap.size+1:=by simp
 have RX:Hid (∀ P,Below A.heap.size A P->TRow P (w.heap.size+3) (Y QK R.length S) R):=fun P hb=>R3.below hb lr;have OX:Hid (∀ P,Below A.heap.size A P->P.ownsRow (w.heap.size+3) 104 2 (Y QM QP.length M) QP.length (QP.flatMap bC)):=fun P hb=>own_below O3 hb lr;have DE:Hid (∀ r∈R,r.2.1<A.heap.size):=fun r hr=>(R3.act r hr).1.1;have E5:=ae ((eI (A.alloc (T #[Y QM QP.length M,Y QK R.length S] 26)).heap.size (A.alloc (T #[Y QM QP.length M,Y QK R.length S] 26))).alloc lr (T #[] 108));have FK:((A.alloc (T #[Y QM QP.length M,Y QK R.length S] 26)).alloc (T #[] 108)).heap.size=(A.alloc (T #[Y QM QP.length M,Y QK R.length S] 26)).heap.size+1:=by simp
 have k3:=(E5.cell (p:=(J (w.heap.size+1) 0 Z)) (by show w.heap.size+1<_;have:=X4.lt;omega)).trans k2;have ph:=ae (Fq.below B4 lr);have qr:=ae FD;have sm:=ae FK;clear R3 O3 k2 FD FK;go_wp2_with fail;generalize (A.alloc (T #[Y QM QP.length M,Y QK R.length S] 26)).alloc (T #[] 108)=Fh at E5 sm k3 ⊢;generalize A.alloc (T #[Y QM QP.length M,Y QK R.length S] 26)=w4 at K8 X4 B4 O4 R4 c8 c9 qr sm ur E5 ph;generalize A.heap.size=X at K8 c8 c9 Fr qr RX OX DE ur ⊢;refine(lC pb po m cp g _ (by omega) (ph.below E5 lr)).mono ?_;rintro e w5 ⟨n,o,rfl,Fj,FG⟩;have hzx:w4.heap.size=X+1:=qr.out;have hzy:Fh.heap.size=w4.heap.size+1:=sm.out;have F5:=ae (E5.trans (FG.mono (by omega)));have OG:=ae Fj;have FA:=(dR Fj).1;clear Fj FG E5 qr sm k3 ph;have Fk:(w5.alloc (T #[U t,Y (Q (J n 0 Z)) m o] 108)).heap.size=w5.heap.size+1:=by simp
 have F6:=ae (F5.alloc F5.size (T #[U t,Y (Q (J n 0 Z)) m o] 108));have y0:(w5.alloc (T #[U t,Y (Q (J n 0 Z)) m o] 108)).cell? (J w5.heap.size 0 Z)=Q (U t):=by simp
 have y1:(w5.alloc (T #[U t,Y (Q (J n 0 Z)) m o] 108)).cell? (J w5.heap.size 1 Z)=Q (Y (Q (J n 0 Z)) m o):=by simp
 have th:=ae (OG.alloc (T #[U t,Y (Q (J n 0 Z)) m o] 108));have Fs:=F6.size;have ro:=ae Fs;clear Fs OG F5;go_wp2;generalize w5.alloc (T #[U t,Y (Q (J n 0 Z)) m o] 108)=w6 at Fk F6 y0 y1 th ro ⊢;have hgw:n<w6.heap.size:=(dR th).2;generalize w5.heap.size=QG at Fk y0 y1 ⊢;obtain⟨z,FO⟩:∃ z,z=w6.heap.size:=⟨_,rfl⟩
 have u:=ae FO;have QL:X<z:=by have:=ro.out;omega
 have FJ:QG<z:=by omega
 have Fv:=(F6.cell (p:=(J X 0 Z)) (by show X<_;omega)).trans c8;have Ft:=(F6.cell (p:=(J X 1 Z)) (by show X<_;omega)).trans c9;have FL:=(F6.frozen (p:=(J X 1 Z)) (by show X<_;omega)).trans K8.z1;have X6:=ae (X4.below F6 (by have:=X4.lt;omega));have R6:=ae (R4.below F6 lr);have FE:=ae (ur.trans (F6.mono (by omega)));have Fw:w.heap.size<=X:=by omega
 have hb1:X+2<z+0:=by have:=ro.out;omega
 clear c8 c9 K8 R4 O4 X4 B4 Fk FO ur F6 V0 V1 HF HS FI Fq HZ ro;have c8:=Fv;have c9:=Ft;clear Fv Ft;obtain⟨QO,hI⟩:∃ QO,QO=eB (nm1 (bo (R.map fun r:TR=>r.1))) (fun j=>R.getD j dfR) ((⟨t,m,g⟩,n,o):TR) t:=⟨_,rfl⟩
 obtain⟨O,aq⟩:∃ O,O=dL (nm1 (bo (R.map fun r:TR=>r.1))) t:=⟨_,rfl⟩
 have FV:Hid (∀ k,QO (k+1)=if O k=D/\ay t (R.getD k dfR).1.name=QC then QO k++[(⟨t,m,g⟩,n,o)]++[R.getD k dfR] else QO k++[R.getD k dfR]):=fun k=>by rw[hI,aq,<-uP R k];rfl
 have F0:Hid (∀ k,O (k+1)=(O k || ay t (R.getD k dfR).1.name)):=fun k=>by rw[aq,<-uP R k];rfl
 have FW:Hid (∀ k,(QO k).length<=k+1):=fun k=>by rw[hI];exact(Ah _ _ _ _ k).1
 have FC:Hid (∀ k,O k=QC->(QO k).length≠0):=fun k h=>by rw[hI];rw[aq] at h;exact CQ h
 have Fz:Hid (fe R (⟨t,m,g⟩,n,o) t=if O R.length=QC then QO R.length else QO R.length++[(⟨t,m,g⟩,n,o)]):=by rw[hI,aq];rfl
 have DQ:Hid (QO 0=[]/\O 0=D):=by rw[hI,aq];exact⟨rfl,rfl⟩
 clear hI aq;go_loopw [9,10,12] (fun v d i wr=>∃ (k:Nat) (db:Bool),k<=R.length/\i=N I k/\d=.bool db/\Hid (db=O k)/\Hid (wr.ownsRow z 108 2 v (QO k).length ((QO k).flatMap aV)∨∃ b,v=Y (Q (J b 0 Z)) 0 0/\(QO k).length=0/\(QO k).flatMap aV=[])/\Hid (Below z w6 wr)) (fun _ _ i _=>R.length - (intOf i).toNat);case atStart=>exact⟨0,D,by omega,rfl,rfl,DQ.2.symm,.inr ⟨_,rfl,by rw[DQ.1];rfl,by rw[DQ.1];rfl⟩,by rw[u.out];exact eI _ _⟩
 case round =>
  obtain⟨k,db,hk,rfl,rfl,G,OW,x⟩:=hrel;have e9:=(x.cell (p:=(J X 1 Z)) QL).trans c9;have z0:=(x.cell (p:=(J QG 0 Z)) FJ).trans y0;have z1:=(x.cell (p:=(J QG 1 Z)) FJ).trans y1;have hlen1:=FW.out k;by_cases q:k<R.length
  ·obtain⟨b,off,rfl,hbl,Fy⟩:=wN R6 (by omega)
   obtain⟨p0,p1⟩:=Fy k q;have DA:=FV.out k;have Fl:=F0.out k;generalize R.getD k dfR=rk at p0 p1 DA Fl;have n8:=ae DA;have n9:=ae Fl;clear DA Fl;have At:b<z:=by have:=u.out;omega
   have d0:=(x.cell (p:=(J b (off+k*2) Z)) At).trans p0;have d1:=(x.cell (p:=(J b (off+k*2+1) Z)) At).trans p1;clear Fy;cases db with
   | true =>
    have HI:Hid (QO (k+1)=QO k++[rk]):=by show _=_;rw[n8.out,a8 (by rw[<-G.out];simp)]
    have HN:Hid (QC=O (k+1)):=by show QC=_;rw[n9.out,<-G.out];rfl
    go_wp2_with (at_builtin;(refine dY rfl (.tmp 66) (.tmp 72) 24 rfl z 108 n7 (QE #[U ⟨#[]⟩,Y Z 0 0]) 2 40 Tryz.underlying24 ex mv la fd rfl (by decide) _ (QO k).length ((QO k).flatMap aV) (by simp[Act.eval]) (kw OW _) (J wr.heap.size 0 Z) 1 (aV rk) (by simp[Act.eval]) rfl (cT wr _ _ _) (by simp[aV,Value.oneCell']) (by unfold maxLen;omega) (by omega) (by have:=x.size;have:=u.out;simp;omega) ?_;intro vy wy f l;have OY:=ae f;have BY:=ae ((x.alloc (by have:=x.size;have:=u.out;omega) _).trans l);clear f l));exact⟨⟨k+1,QC,by omega,by go_num,rfl,HN,.inl (by rw[HI.out,cM,IB];simpa using OY.out),BY.out⟩,by simp[intOf];omega⟩
   | false =>
    cases hq:ay t rk.1.name with
    | true =>
     have HI:Hid (QO (k+1)=QO k++[(⟨t,m,g⟩,n,o)]++[rk]):=by show _=_;rw[n8.out,eT ⟨G.symm,hq⟩]
     have HN:Hid (QC=O (k+1)):=by show QC=_;rw[n9.out,hq];simp
     obtain⟨q1,q2⟩:=ib hq;clear hq;go_wp2_with (at_builtin;first | (refine dY rfl (.tmp 62) (.tmp 64) 24 rfl z 108 n7 (QE #[U ⟨#[]⟩,Y Z 0 0]) 2 40 Tryz.underlying24 ex mv la fd rfl (by decide) _ (QO k).length ((QO k).flatMap aV) (by simp[Act.eval]) (kw OW _) (J wr.heap.size 0 Z) 1 (aV (⟨t,m,g⟩,n,o)) (by simp[Act.eval]) rfl (cT wr _ _ _) (by simp[aV,Value.oneCell']) (by unfold maxLen;omega) (by omega) (by have:=x.size;have:=u.out;simp;omega) ?_;intro vx wx f l;have FQ:=ae f;have BX:=ae ((x.alloc (by have:=x.size;have:=u.out;omega) _).trans l);have f9:=(BX.cell (p:=(J X 1 Z)) QL).trans c9;have g0:=(BX.cell (p:=(J b (off+k*2) Z)) At).trans p0;have g1:=(BX.cell (p:=(J b (off+k*2+1) Z)) At).trans p1;clear f l) | (refine dY rfl (.tmp 66) (.tmp 72) 24 rfl z 108 n7 (QE #[U ⟨#[]⟩,Y Z 0 0]) 2 40 Tryz.underlying24 ex mv la fd rfl (by decide) _ ((QO k).length+1) ((QO k).flatMap aV++aV (⟨t,m,g⟩,n,o)) (by simp[Act.eval]) (.inl (FQ.alloc _)) (J wx.heap.size 0 Z) 1 (aV rk) (by simp[Act.eval]) rfl (cT wx _ _ _) (by simp[aV,Value.oneCell']) (by unfold maxLen;omega) (by omega) (by have:=BX.size;have:=u.out;simp;omega) ?_;intro vy wy f l;have OY:=ae f;have BY:=ae ((BX.alloc (by have:=BX.size;have:=u.out;omega) _).trans l);clear f l));exact⟨⟨k+1,QC,by omega,by go_num,rfl,HN,.inl (by rw[HI.out,cM,cM,IB,IB];simpa using OY.out),BY.out⟩,by simp[intOf];omega⟩
    | false =>
     have HI:Hid (QO (k+1)=QO k++[rk]):=by show _=_;rw[n8.out,a8 (by rw[hq];simp)]
     have HN:Hid (D=O (k+1)):=by show D=_;rw[n9.out,<-G.out,hq];rfl
     have HQ:=ae (iZ hq);clear hq;rcases HQ.out with q1 | ⟨q1,q2⟩
     all_goals
      go_wp2_with (at_builtin;(refine dY rfl (.tmp 66) (.tmp 72) 24 rfl z 108 n7 (QE #[U ⟨#[]⟩,Y Z 0 0]) 2 40 Tryz.underlying24 ex mv la fd rfl (by decide) _ (QO k).length ((QO k).flatMap aV) (by simp[Act.eval]) (kw OW _) (J wr.heap.size 0 Z) 1 (aV rk) (by simp[Act.eval]) rfl (cT wr _ _ _) (by simp[aV,Value.oneCell']) (by unfold maxLen;omega) (by omega) (by have:=x.size;have:=u.out;simp;omega) ?_;intro vy wy f l;have OY:=ae f;have BY:=ae ((x.alloc (by have:=x.size;have:=u.out;omega) _).trans l);clear f l));exact⟨⟨k+1,D,by omega,by go_num,rfl,HN,.inl (by rw[HI.out,cM,IB];simpa using OY.out),BY.out⟩,by simp[intOf];omega⟩
  ·have e:R.length=k:=by omega
   subst e;cases db with
   | true =>
    have n6:fe R (⟨t,m,g⟩,n,o) t=QO R.length:=by rw[Fz.out,eT G.symm]
    have ow:=OW.resolve_right (by rintro⟨b,_,h0,_⟩;exact FC _ G.symm h0);obtain⟨va,vc,rfl⟩:=dS ow (by have:=FC.out _ G.symm;omega);have OF:Hid (wr.ownsRow z 108 2 (Y (Q (J va 0 Z)) (QO R.length).length vc) (fe R (⟨t,m,g⟩,n,o) t).length ((fe R (⟨t,m,g⟩,n,o) t).flatMap aV)):=by show World.ownsRow _ _ _ _ _ _ _;rw[n6];exact ow
    have e8:=(x.cell (p:=(J X 0 Z)) QL).trans c8;have y9:=(x.frozen (p:=(J X 1 Z)) QL).trans FL;obtain⟨r0,q0⟩:=(X6.below x (by omega)).r0;obtain⟨r1,q1⟩:=(X6.below x (by omega)).r1;have H3:=ae n6;clear n6 ow OW;go_wp2;refine ?_;have GB:=ae (FE.trans (x.mono (by omega)));refine bp (v:=.tuple #[QE #[Y QM QP.length M,Y (Q (J va 0 Z)) (QO R.length).length vc],N I 0]) (by simp[results,Tryz.results18,go_sem,r0,r1]) rfl ⟨_,_,fe R (⟨t,m,g⟩,n,o) t,rfl,aI (aG (aG (OX _ ((GB).setCell (p:=(J X 1 Z)) lr _)) (R:=w.heap.size+2) (j:=0) (by omega) _) (R:=w.heap.size+2) (j:=1) (by omega) _) (by omega),?_,(sA R (⟨t,m,g⟩,n,o) t).trans (by rw[HM.out];exact QN.symm),(((B3.trans ((GB).mono Fw)).setCell (by simp;omega) _).setCell (by simp;omega) _).setCell (by simp;omega) _⟩;exact sB (X:=X) (QH:=w.heap.size+2) (bL:=z) (lo:=Fh.heap.size) RX GB x th OF DE u (by omega) (by omega) (by omega) (by omega) FA
   | false =>
    go_wp2_with (at_builtin;(refine dY rfl (.tmp 76) (.tmp 78) 24 rfl z 108 n7 (QE #[U ⟨#[]⟩,Y Z 0 0]) 2 40 Tryz.underlying24 ex mv la fd rfl (by decide) _ (QO R.length).length ((QO R.length).flatMap aV) (by simp[Act.eval]) (kw OW _) (J wr.heap.size 0 Z) 1 (aV (⟨t,m,g⟩,n,o)) (by simp[Act.eval]) rfl (cT wr _ _ _) (by simp[aV,Value.oneCell']) (by unfold maxLen;omega) (by omega) (by have:=x.size;have:=u.out;simp;omega) ?_;intro vz wz f l;obtain⟨gs,cs,rfl⟩:=dS f (Nat.succ_pos _);have OZ:=ae f;have BZ:=ae ((x.alloc (by have:=x.size;have:=u.out;omega) _).trans l);have f8:=(BZ.cell (p:=(J X 0 Z)) QL).trans c8;have f9:=(BZ.cell (p:=(J X 1 Z)) QL).trans c9;have y9:=(BZ.frozen (p:=(J X 1 Z)) QL).trans FL;obtain⟨r0,q0⟩:=(X6.below BZ (by have:=u.out;omega)).r0;obtain⟨r1,q1⟩:=(X6.below BZ (by have:=u.out;omega)).r1;clear f l));have n6:fe R (⟨t,m,g⟩,n,o) t=QO R.length++[(⟨t,m,g⟩,n,o)]:=by rw[Fz.out,a8 (by rw[<-G.out];simp)]
    have OF:Hid (wz.ownsRow z 108 2 (Y (Q (J gs 0 Z)) ((QO R.length).length+1) cs) (fe R (⟨t,m,g⟩,n,o) t).length ((fe R (⟨t,m,g⟩,n,o) t).flatMap aV)):=by show World.ownsRow _ _ _ _ _ _ _;rw[n6,cM,IB];simpa using OZ.out
    have GB:=ae (FE.trans (BZ.mono (by omega)));refine bp (v:=.tuple #[QE #[Y QM QP.length M,Y (Q (J gs 0 Z)) ((QO R.length).length+1) cs],N I 0]) (by simp[results,Tryz.results18,go_sem,r0,r1]) rfl ⟨_,_,fe R (⟨t,m,g⟩,n,o) t,rfl,aI (aG (aG (OX _ ((GB).setCell (p:=(J X 1 Z)) lr _)) (R:=w.heap.size+2) (j:=0) (by omega) _) (R:=w.heap.size+2) (j:=1) (by omega) _) (by omega),?_,(sA R (⟨t,m,g⟩,n,o) t).trans (by rw[HM.out];exact QN.symm),(((B3.trans ((GB).mono Fw)).setCell (by simp;omega) _).setCell (by simp;omega) _).setCell (by simp;omega) _⟩;exact sB (X:=X) (QH:=w.heap.size+2) (bL:=z) (lo:=Fh.heap.size) RX GB BZ th OF DE u (by omega) (by omega) (by omega) (by omega) FA
end Go.Proofs.YtkdimgejdocbbaaGreatDoor.Vp
