import Derived.Test.YtkdimgejdocbbaaGreatDoorYL
import Derived.Shelf.Spec.SlicesInsert
import Derived.Laws.CopyRow
import Derived.Lib.AppendZerosOnto
set_option maxRecDepth 100000
set_option maxHeartbeats 8000000
open Go.Addr renaming mk->J
open Go.Value renaming slice->Z,string->U,int->Q,agg->QE
open Option renaming none->Y,some->N
open Go.Obj renaming cells->T
open Go.IntKind renaming i64->I
open Go renaming World->E,Value->QB,TypeId->QF
open Bool renaming false->D,true->QC
namespace Go.Proofs.YtkdimgejdocbbaaGreatDoor.Vp
open RowKit
def ep (n0:Nat)(f0:Nat->Source)(n1:Nat)(f1:Nat->Target)(t:ByteArray)(m:Nat)(b:Nat->Ins):List Source:=if fN n0 f0 n1 f1 t (valid b m)=0 then keepS f0 t n0 else []
def er (n0:Nat)(f0:Nat->Source)(n1:Nat)(f1:Nat->Target)(t:ByteArray)(m:Nat)(b:Nat->Ins):List Target:=if fN n0 f0 n1 f1 t (valid b m)=0 then ko (keepT f1 t n1) ⟨t,m,b⟩ t else []
structure Trio (w:E)(h:Nat)(p0 p1 p2:QB):Prop where
 lt:h+2<w.heap.size
 a0:w.cell? (J h 0 Y)=N p0
 a1:w.cell? (J h 1 Y)=N p1
 b0:w.cell? (J (h+1) 0 Y)=N p2
 r0:w.cell? (J (h+2) 0 Y)=N (Z Y 0 0)/\w.frozen? (J (h+2) 0 Y)=D
 r1:w.cell? (J (h+2) 1 Y)=N (Z Y 0 0)/\w.frozen? (J (h+2) 1 Y)=D
theorem Trio.below {w d:E}{h B:Nat}{i l j:QB}(b:Trio w h i l j)(hb:Below B w d)(hB:h+3<=B):Trio d h i l j:=by have c:∀ k o,k<B->d.cell? (J k o Y)=w.cell? (J k o Y):=fun k o g=>hb.cell (p:=(J k o Y)) g;have f:∀ k o,k<B->d.frozen? (J k o Y)=w.frozen? (J k o Y):=fun k o g=>hb.frozen (p:=(J k o Y)) g;exact⟨ll b.lt hb.size,(c _ _ (by omega)).trans b.a0,(c _ _ (by omega)).trans b.a1,(c _ _ (by omega)).trans b.b0,⟨(c _ _ (by omega)).trans b.r0.1,(f _ _ (by omega)).trans b.r0.2⟩,⟨(c _ _ (by omega)).trans b.r1.1,(f _ _ (by omega)).trans b.r1.2⟩⟩
theorem Am (w:E)(b d f:QB)(t u:QF):Trio (((w.alloc (T #[b,d] t)).alloc (T #[f] u)).alloc (T #[Z Y 0 0,Z Y 0 0] t)) w.heap.size b d f:=by
 have i:Below (w.heap.size+1) (w.alloc (T #[b,d] t)) ((w.alloc (T #[b,d] t)).alloc (T #[f] u)):=br.alloc (by simp) _;have g:Below (w.heap.size+2) ((w.alloc (T #[b,d] t)).alloc (T #[f] u)) (((w.alloc (T #[b,d] t)).alloc (T #[f] u)).alloc (T #[Z Y 0 0,Z Y 0 0] t)):=br.alloc (by simp) _;have hz:(w.alloc (T #[b,d] t)).heap.size=w.heap.size+1:=by simp
 have h:((w.alloc (T #[b,d] t)).alloc (T #[f] u)).heap.size=w.heap.size+2:=by simp
 refine⟨by simp,?_,?_,?_,⟨?_,?_⟩,⟨?_,?_⟩⟩
 ·exact(g.cell (p:=(J w.heap.size 0 Y)) (by simp)).trans ((i.cell (p:=(J w.heap.size 0 Y)) (by simp)).trans (by simp))
 ·exact(g.cell (p:=(J w.heap.size 1 Y)) (by simp)).trans ((i.cell (p:=(J w.heap.size 1 Y)) (by simp)).trans (by simp))
 ·refine(g.cell (p:=(J (w.heap.size+1) 0 Y)) (by simp)).trans ?_
  rw[<-hz];clear i g hz h;generalize w.alloc (T #[b,d] t)=W;simp
 all_goals
  rw[<-h];clear i g hz h;generalize (w.alloc (T #[b,d] t)).alloc (T #[f] u)=W;simp
theorem t8 {P:Program}{w:E}(d:Nat)(t ty e:QF)(i:TypeInfo)(z:QB)(size f:Nat)(A:P.underlying t=N (.slice e))(hi:P.info? e=N i)(hz:i.zero=N z)
  (l:i.size=size) (x:i.bytes=f) (q:z.cells.size=size)
  (b:Nat) (a:Addr) (c:Nat) (news:List QB) (m:news.length=1*size) (n:∀ j u,news[j]?=N u->w.cell? (a.add j)=N u)
  (h:1*f<=140737488355328) (g:d<=w.heap.size) :
  ∃ s p,(Builtin.append_ #[t,t] ty #[Z (N (J b 0 Y)) 0 0,Z (N a) 1 c]).run P w=.ok s p/\p.ownsRow d e size s 1 news/\Below d w p:=by
 subst l x;have B:=run_append_grow (P:=P) w t ty e i z A hi hz (J b 0 Y) 0 0 [] (by simp) (by intro j v y;simp at y) a 1 c news m n (by omega) (by omega) (growslice_fits (by omega) (by simpa using h));have o:=grownCap_ge w (0+1) 0 e;have r:grownCap w (0+1) 0 e<=maxLen:=grownCap_le_maxLen w (0+1) 0 e (by unfold maxLen;omega);refine⟨_,_,B,⟨by simpa using m,.inr ⟨w.heap.size,_,_,rfl,g,eL w.drew _,o,r,?_,?_⟩⟩,rfl,rfl,rfl,by simp,fun k C=>KE w.drew _ (ll C g)⟩
 ·simp only[Array.size_append,JL,size_zeroCells,q,m,E4,DC,<-Nat.add_mul]
  congr 1;have:=o;simp only[DC] at this;omega
 ·simp only[Array.toList_append,IN]
  rw[<-m];exact List.take_left
theorem dY {P:Program}{w:E}{QP:Array Oper}{rest:List Oper}{o:Oper}{a:Act}{QM:Exit->Act->E->Prop}(QQ:o.guard=Y)(s x:Operand)(t:QF)
  (K:o.op=.call { callee:=.builtin .append,args:=#[s,x],argTypes:=#[t,t] })
  (d:Nat) (e:QF) (i:TypeInfo) (z:QB) (size f:Nat) (QN:P.underlying t=N (.slice e)) (hi:P.info? e=N i) (hz:i.zero=N z)
  (q:i.size=size) (C:i.bytes=f) (B:z.cells.size=size) (QL:0<size)
  (v:QB) (n:Nat) (y:List QB) (H:a.eval s=v) (g:w.ownsRow d e size v n y∨∃ b,v=Z (N (J b 0 Y)) 0 0/\n=0/\y=[])
  (A:Addr) (c:Nat) (news:List QB) (L:a.eval x=Z (N A) 1 c) (QO:news.length=1*size) (p:∀ j u,news[j]?=N u->w.cell? (A.add j)=N u) (h1:∀ u∈news,u.oneCell'=QC)
  (M:n+1<=maxLen) (r:(n+1)*f<=140737488355328) (k:d<=w.heap.size)
  (h:∀ m l,l.ownsRow d e size m (n+1) (y++news)->Below d w l->wpList P QP QM rest (a.put o.dst m) l):wpList P QP QM (o :: rest) a w:=by
 rcases g with g | ⟨b,rfl,rfl,rfl⟩
 ·exact CD w QQ s x t K d e i z size f QN hi hz q C B QL v n y H g A 1 c news L QO p h1 M r k fun m l h2 G _=>h m l h2 (bg (eI d w) G k (fun j e=>(g.lt j e).1))
 ·obtain⟨m,l,O,h2,G⟩:=t8 (w:=w) d t o.type e i z size f QN hi hz q C B b A c news QO p (by omega) k
  exact Lib.wpList_append_run w QQ s x t t K _ _ H L m l O (h m l (by simpa using h2) G)
theorem oE {b:Type}(g:Nat->ByteArray)(F:Nat->b)(x:b)(t:ByteArray)(k:Nat):(dL g t k=D->eB g F x t k=(List.range k).map F)/\(dL g t k=QC->∃ A B,(List.range k).map F=A++B/\eB g F x t k=A++x :: B):=by
 induction k with
 | zero=>simp[eB,dL]
 | succ j d =>
  have e:(List.range (j+1)).map F=(List.range j).map F++[F j]:=by rw[JB,FB];rfl
  rw[e];simp only[eB,dL];cases hd:dL g t j with
  | false =>
   have h1:=d.1 hd;cases hl:ay t (g j) with
   | true=>simpa[h1] using⟨(List.range j).map F,[F j],rfl,by simp⟩
   | false=>simp[h1]
  | true =>obtain⟨A,B,h1,h2⟩:=d.2 hd;simp only[Bool.true_or,Bool.true_eq_false,false_and,LQ,true_implies,false_implies,LR];exact⟨A,B++[F j],by rw[h1];simp,by rw[h2];simp⟩
theorem wL {b:Type}(g:Nat->ByteArray)(F:Nat->b)(x:b)(t:ByteArray)(n:Nat):∃ A B,(List.range n).map F=A++B/\jE g F x t n=A++x :: B:=by
 obtain⟨h1,h2⟩:=oE g F x t n;unfold jE;cases hd:dL g t n with
 | true=>simpa using h2 hd
 | false=>exact⟨(List.range n).map F,[],by simp,by simp[h1 hd]⟩
theorem wM {b:Type}(R:List b)(d:b):(List.range R.length).map (fun j=>R.getD j d)=R:=by
 apply MW
 ·simp
 ·intro i h1 h2
  simp at h1;simp[vG,h1]
theorem sy {b f:Type}(p:b->f)(R:List b)(d:b)(j:Nat):p (R.getD j d)=(R.map p).getD j (p d):=by simp[vG]
theorem An {w:E}{d:Nat}{m v:QB}{A B:List TR}{x:TR}(h:TRow w d m (A++B))(l:RowIns w x.2.1 0 x.1.actN x.1.act/\(∃ F,Cells w x.2.1 0 (x.1.actN*3) F)/\TypeAt w x.2.1 188/\d<=x.2.1)
  (g:∀ r∈A++B,r.2.1≠x.2.1) (j:w.ownsRow d 108 2 v (A++x :: B).length ((A++x :: B).flatMap aV)):TRow w d v (A++x :: B):=by
 refine⟨j,fun r f=>?_,?_⟩
 ·rcases kS.1 f with f | f
  ·exact h.act r (kS.2 (.inl f))
  ·rcases BC.1 f with rfl | f
   ·exact l
   ·exact h.act r (kS.2 (.inr f))
 ·have i:=IY.1 h.up
  refine IY.2 ⟨i.1,List.pairwise_cons.2 ⟨fun b hb e=>g b (kS.2 (.inr hb)) e.symm,i.2.1⟩,fun a k b hb=>?_⟩;rcases BC.1 hb with rfl | hb
  ·exact g a (kS.2 (.inl k))
  ·exact i.2.2 a k b hb
theorem CQ {b:Type}{g:Nat->ByteArray}{F:Nat->b}{x:b}{t:ByteArray}{k:Nat}(h:dL g t k=QC):(eB g F x t k).length≠0:=by obtain⟨A,B,_,h2⟩:=(oE g F x t k).2 h;rw[h2];simp
theorem wN {w:E}{d c:Nat}{a:Option Addr}{R:List TR}(h:TRow w d (Z a R.length c) R)(k:0<R.length):∃ b off,a=N (J b off Y)/\b<w.heap.size/\∀ i,i<R.length->w.cell? (J b (off+i*2) Y)=N (U (R.getD i dfR).1.name)/\w.cell? (J b (off+i*2+1) Y)=N (Z (N ⟨(R.getD i dfR).2.1,0,Y⟩) (R.getD i dfR).1.actN (R.getD i dfR).2.2):=by
 obtain⟨g,c',e⟩:=dS h.own k;simp at e;obtain⟨rfl,rfl⟩:=e;refine⟨g,0,rfl,(dR h.own).2,fun i hi=>?_⟩;have f:R[i]?=N (R.getD i dfR):=by rw[vG,gq hi];rfl
 generalize R.getD i dfR=r at f;refine⟨?_,?_⟩
 ·have:=(bv h.own (j:=i*2) (u:=U r.1.name) (by have:=cS aV 2 (fun _=>rfl) R i 0 (by omega) _ f;simpa[aV] using this)).1
  rwa[show 0+i*2=i*2 by omega]
 ·have:=(bv h.own (j:=i*2+1) (u:=Z (N (J r.2.1 0 Y)) r.1.actN r.2.2) (by have:=cS aV 2 (fun _=>rfl) R i 1 (by omega) _ f;simpa[aV] using this)).1
  rwa[show 0+i*2+1=i*2+1 by omega]
def fe (R:List TR)(x:TR)(t:ByteArray):List TR:=jE (nm1 (bo (R.map fun r:TR=>r.1))) (fun j=>R.getD j dfR) x t R.length
theorem uP (R:List TR)(j:Nat):nm1 (bo (R.map fun r:TR=>r.1)) j=(R.getD j dfR).1.name:=by exact wC Target.name (sy (fun r:TR=>r.1) R dfR j).symm
theorem sA (R:List TR)(x:TR)(t:ByteArray):(fe R x t).map (fun r:TR=>r.1)=ko (R.map fun r:TR=>r.1) x.1 t:=by unfold fe ko;rw[Ai,I4];congr 1;funext j;exact sy (fun r:TR=>r.1) R dfR j
theorem Ao {w:E}{b:Nat}{i v:QB}{R:List TR}{x:TR}{t:ByteArray}(h:TRow w b i R)(g:RowIns w x.2.1 0 x.1.actN x.1.act/\(∃ F,Cells w x.2.1 0 (x.1.actN*3) F)/\TypeAt w x.2.1 188/\b<=x.2.1)
  (f:∀ r∈R,r.2.1≠x.2.1) (d:w.ownsRow b 108 2 v (fe R x t).length ((fe R x t).flatMap aV)):TRow w b v (fe R x t):=by
 obtain⟨A,B,h1,h2⟩:=wL (nm1 (bo (R.map fun r:TR=>r.1))) (fun j=>R.getD j dfR) x t R.length;rw[wM] at h1;unfold fe at d ⊢;rw[h2] at d ⊢;subst h1;exact An h g f d
theorem CR {w:E}{b g c:Nat}{x:Target}(h:w.ownsRow b 188 3 (Z (N (J g 0 Y)) x.actN c) x.actN (cB x.act x.actN)):RowIns w g 0 x.actN x.act/\(∃ F,Cells w g 0 (x.actN*3) F)/\TypeAt w g 188/\b<=g:=by obtain⟨h1,h2⟩:=jN h;exact⟨h1,h2,iX h,(dR h).1⟩
theorem kw {w:E}{d size n:Nat}{e:QF}{v:QB}{f:List QB}(h:w.ownsRow d e size v n f∨∃ b,v=Z (N (J b 0 Y)) 0 0/\n=0/\f=[])(o:Obj):(w.alloc o).ownsRow d e size v n f∨∃ b,v=Z (N (J b 0 Y)) 0 0/\n=0/\f=[] :=
 h.imp (fun h=>h.alloc o) id
theorem sB {s h wr:E}{b X QG bL lo m d g:Nat}{y v u0 u1:QB}{R:List TR}{t:ByteArray}{f:Nat->Ins}(C:∀ l,Below X s l->TRow l (b+3) y R)(B:Below X s wr)(QP:Below bL h wr)(G:h.ownsRow lo 188 3 (Z (N (J d 0 Y)) m g) m (cB f m))(A:wr.ownsRow bL 108 2 v (fe R (⟨t,m,f⟩,d,g) t).length ((fe R (⟨t,m,f⟩,d,g) t).flatMap aV))(n:∀ r∈R,r.2.1<X)(hb:bL=h.heap.size)(h1:X<lo)(h2:QG<b+3)(h3:b+3<=X)(h4:lo<=bL)(h5:lo<=d):TRow (((wr.setCell (J X 1 Y) v).setCell (J QG 0 Y) u0).setCell (J QG 1 Y) u1) b v (fe R (⟨t,m,f⟩,d,g) t):=by have z:=C _ (B.setCell (p:=(J X 1 Y)) lr v);have i:=aG (own_below G QP (by omega)) (R:=X) (j:=1) (by omega) v;have o:=aG A (R:=X) (j:=1) (by omega) v;have QQ:=(z.set (X:=QG) (j:=0) h2 u0).set (X:=QG) (j:=1) h2 u1;have k:=aG (aG i (R:=QG) (j:=0) (by omega) u0) (R:=QG) (j:=1) (by omega) u1;have q:=aG (aG o (R:=QG) (j:=0) (by omega) u0) (R:=QG) (j:=1) (by omega) u1;exact Ao (jo QQ (by omega)) (CR (x:=⟨t,m,f⟩) (aI k (by omega))) (fun r u=>by have:=n r u;show r.2.1≠d;omega) (aI q (by omega))
theorem sC (a0:Option Addr)(n0 c0:Nat)(f0:Nat->Source)(a1:Option Addr)(n1 c1:Nat)(f1:Nat->Target)(t:ByteArray)(ap:Option Addr)(m cp:Nat)(f:Nat->Ins)(w:E)(hn0:(n0:Int)<=1048576)(hn1:(n1:Int)<=1048576)(hm:m<=1048576)(FM:SlSource w a0 n0 f0)(FE:SlTarget w a1 n1 f1)(FK:SlIns w ap m f)(DA:∀ i,i<n1->aS (f1 i))(hs:∀ i,i<n1->∀ j,j<(f1 i).actN->((f1 i).act j).s.size<=maxLen)(FH:∀ i,i<m->(f i).s.size<=maxLen):Calls Tryz.prog 18 #[QE #[Z a0 n0 c0,Z a1 n1 c1],U t,QE #[Z ap m cp]] w fun e QM=>∃ v0 v1 R,e=.returned (.tuple #[QE #[v0,v1],Q I (fN n0 f0 n1 f1 t (valid f m))])/\QM.ownsRow w.heap.size 104 2 v0 (ep n0 f0 n1 f1 t m f).length ((ep n0 f0 n1 f1 t m f).flatMap bC)/\TRow QM w.heap.size v1 R/\R.map (·.1)=er n0 f0 n1 f1 t m f/\Below w.heap.size w QM:=by
 have V0:=ae FM;have V1:=ae FE;have VP:=ae FK;have HF:=ae DA;have HS:=ae hs;have FI:=ae FH;clear FM FE FK DA hs FH;obtain⟨ld,la,fd,ex,n7⟩:=IS ft;obtain⟨C,hC⟩:∃ C,C=aU n0 f0 n1 f1:=⟨_,rfl⟩
 obtain⟨rt,DQ⟩:∃ rt,rt=valid f m:=⟨_,rfl⟩
 obtain⟨QQ,hD⟩:∃ QQ,QQ=fN n0 f0 n1 f1 t (valid f m):=⟨_,rfl⟩
 obtain⟨QP,Fk⟩:∃ QP,QP=ep n0 f0 n1 f1 t m f:=⟨_,rfl⟩
 obtain⟨LT,Fj⟩:∃ LT,LT=er n0 f0 n1 f1 t m f:=⟨_,rfl⟩
 rw[<-hD,<-Fk,<-Fj];have HC:=ae hC;have HR:=ae DQ;have HD:=ae (hD.trans (by unfold fN;rw[<-hC,<-DQ]));have mv:=ae (Fk.trans (by unfold ep;rw[<-hD]));have H:=ae (Fj.trans (by unfold er;rw[<-hD]));clear hC hD Fk Fj DQ;have A0:=ae ((((Qs w).alloc lr (T #[Z a0 n0 c0,Z a1 n1 c1] 26)).alloc (by simp) (T #[Z ap m cp] 31)).alloc (by simp;omega) (T #[Z Y 0 0,Z Y 0 0] 26));have X0:=ae (Am w (Z a0 n0 c0) (Z a1 n1 c1) (Z ap m cp) 26 31);go_enter Tryz.func18,Tryz.ntmps18;go_wp2_with fail;generalize ((w.alloc (T #[Z a0 n0 c0,Z a1 n1 c1] 26)).alloc (T #[Z ap m cp] 31)).alloc (T #[Z Y 0 0,Z Y 0 0] 26)=W at A0 X0 ⊢;refine(fL a0 n0 c0 f0 a1 n1 c1 f1 _ hn0 hn1 (V0.below A0 lr) (V1.below A0 lr) HF HS).mono ?_;rintro e w1 ⟨rfl,B⟩;rw[<-HC.out];have X1:=ae (X0.below B X0.lt);have B1:=ae (A0.trans (B.mono A0.size));clear B A0 X0;by_cases hc:C=0;case neg =>
  have hd:=HD.out;rw[eT hc] at hd;have y:=mv.out;rw[a8 (by omega)] at y;have o:=H.out;rw[a8 (by omega)] at o;subst hd y o;have hc':(C == 0)=D:=by simpa using hc
  obtain⟨r0,q0⟩:=X1.r0;obtain⟨r1,q1⟩:=X1.r1;go_wp2;exact bp (v:=.tuple #[QE #[Z Y 0 0,Z Y 0 0],Q I 1]) (by simp[results,Tryz.results18,go_sem,r0,r1]) rfl ⟨_,_,[],rfl,H7 _ _ _ _,dT _ _,rfl,(B1.setCell (by simp;omega) _).setCell (by simp;omega) _⟩
 subst hc;have hz:=oA HC.symm;have HZ:=ae hz;clear hz HC;have Fh:=HD.out;rw[a8 (by omega)] at Fh;have Fl:=ae Fh;clear Fh HD;go_wp2_with fail;refine(cX t _).mono ?_;rintro e w2 ⟨rfl,B⟩;have X2:=ae (X1.below B X1.lt);have B2:=ae (B1.trans (B.mono B1.size));clear B X1 B1;cases hn:au t with
 | false =>have hd:=Fl.out;rw[eT (.inl hn)] at hd;have y:=mv.out;rw[a8 (by omega)] at y;have o:=H.out;rw[a8 (by omega)] at o;subst hd y o;obtain⟨r0,q0⟩:=X2.r0;obtain⟨r1,q1⟩:=X2.r1;go_wp2;exact bp (v:=.tuple #[QE #[Z Y 0 0,Z Y 0 0],Q I 2]) (by simp[results,Tryz.results18,go_sem,r0,r1]) rfl ⟨_,_,[],rfl,H7 _ _ _ _,dT _ _,rfl,(B2.setCell (by simp;omega) _).setCell (by simp;omega) _⟩
 | true =>
 have k2:=X2.b0;go_wp2_with fail;refine(iS ap m cp f _ hm (VP.below B2 lr) FI).mono ?_;rintro e FV ⟨rfl,B⟩;rw[<-HR.out];have QN:=ae (X2.below B X2.lt);have QJ:=ae (B2.trans (B.mono B2.size));clear B X2 B2 k2;have V:=Fl.out;rw[hn] at V;clear Fl;cases rt with
 | false =>rw[eT (.inr rfl)] at V;have y:=mv.out;rw[a8 (by omega)] at y;have o:=H.out;rw[a8 (by omega)] at o;subst V y o;obtain⟨r0,q0⟩:=QN.r0;obtain⟨r1,q1⟩:=QN.r1;go_wp2;exact bp (v:=.tuple #[QE #[Z Y 0 0,Z Y 0 0],Q I 2]) (by simp[results,Tryz.results18,go_sem,r0,r1]) rfl ⟨_,_,[],rfl,H7 _ _ _ _,dT _ _,rfl,(QJ.setCell (by simp;omega) _).setCell (by simp;omega) _⟩
 | true =>
 rw[a8 (by simp)] at V;have FG:=ae V;clear V hn;have hm1:1<=m:=by have h:=HR.out;unfold valid at h;have h2:=(Bool.and_eq_true_iff.1 h.symm).2;have:=(IW h2).1;omega
 obtain⟨pb,po,rfl,FD⟩:=VP.resolve_left (by omega);have Fu:=ae FD;clear VP FD HR;have k0:=QN.a0;have k1:=QN.a1;go_wp2_with fail;refine(fM a0 n0 c0 f0 a1 n1 c1 f1 t _ hn0 hn1 (V0.below QJ lr) (V1.below QJ lr) HF).mono ?_;rintro e A ⟨v0,v1,R,rfl,hO,hR,hM,B⟩;have FP:=QN.lt;have X3:=ae (QN.below B QN.lt);have B3:=ae (QJ.trans (B.mono QJ.size));obtain⟨O,QL,rfl⟩:=bh hO;obtain⟨QK,S,rfl⟩:=bh hR.own;have eR:R.length=(keepT f1 t n1).length:=by rw[<-hM];simp
 have FS:=ia f0 t n0;have FX:=lV f1 t n1;obtain⟨L,hL⟩:∃ L,L=keepS f0 t n0:=⟨_,rfl⟩
 obtain⟨K,hK⟩:∃ K,K=keepT f1 t n1:=⟨_,rfl⟩
 rw[<-hL] at hO FS ⊢;rw[<-hK] at hM FX eR;have aq:=FG.out;rw[<-hL,<-hK] at aq;have y:=mv.out;rw[<-hL] at y;have o:=H.out;rw[<-hK] at o;have ER:=ae eR;have hlr:R.length<=n1:=by omega
 clear FG mv H hL hK B k0 k1 QN QJ eR;have hbw:w.heap.size+3<=FV.heap.size:=FP;have O3:=ae (aI hO (base':=w.heap.size+3) (by omega));have R3:=ae (jo hR (base':=w.heap.size+3) (by omega));have HM:=ae hM;have hll:(L.length:Int)<=1048576:=by omega
 clear hO hR hM;have DB:=ae ((Qs A).alloc lr (T #[Z O L.length QL,Z QK R.length S] 26));have K8:=ae (sg A (Z O L.length QL) (Z QK R.length S) 26);have X4:=ae (X3.below DB X3.lt);have B4:=ae (B3.trans (DB.mono B3.size));have O4:=ae (own_below O3 DB lr);have R4:=ae (R3.below DB lr);have sm:=ae DB.out;have FJ:w.heap.size+2<A.heap.size:=X3.lt;have c8:=K8.c0;have c9:=K8.c1;clear DB;by_cases hc3:(200:Int)<=L.length+R.length
 ·rw[eT (by have:=ER.out;omega)] at aq
  rw[a8 (by omega)] at y o;subst aq y o;obtain⟨r0,q0⟩:=X3.r0;obtain⟨r1,q1⟩:=X3.r1;clear c8 c9;go_wp2;exact bp (v:=.tuple #[QE #[Z Y 0 0,Z Y 0 0],Q I 3]) (by simp[results,Tryz.results18,go_sem,r0,r1,FJ]) rfl ⟨_,_,[],rfl,H7 _ _ _ _,dT _ _,rfl,((B3.setCell (by simp;omega) _).setCell (by simp;omega) _).alloc (by have:=B3.size;simp;omega) _⟩
 clear X3;rw[a8 (by have:=ER.out;omega)] at aq;rw[eT aq] at y o;subst aq y;have H:=ae o;clear o;have k2:=X4.b0;have FL:(A.alloc (T #[Z O QP.length QL,Z QK R.length S] 26)).heap.size=A.heap.size+1:=by simp
 have RX:Hid (∀ QM,Below A.heap.size A QM->TRow QM (w.heap.size+3) (Z QK R.length S) R):=fun QM hb=>R3.below hb lr;have OX:Hid (∀ QM,Below A.heap.size A QM->QM.ownsRow (w.heap.size+3) 104 2 (Z O QP.length QL) QP.length (QP.flatMap bC)):=fun QM hb=>own_below O3 hb lr;have Fo:Hid (∀ r∈R,r.2.1<A.heap.size):=fun r hr=>(R3.act r hr).1.1;have E5:=ae ((eI (A.alloc (T #[Z O QP.length QL,Z QK R.length S] 26)).heap.size (A.alloc (T #[Z O QP.length QL,Z QK R.length S] 26))).alloc lr (T #[] 108));have Ft:((A.alloc (T #[Z O QP.length QL,Z QK R.length S] 26)).alloc (T #[] 108)).heap.size=(A.alloc (T #[Z O QP.length QL,Z QK R.length S] 26)).heap.size+1:=by simp
 have k3:=(E5.cell (p:=(J (w.heap.size+1) 0 Y)) (by show w.heap.size+1<_;have:=X4.lt;omega)).trans k2;have n9:=ae (Fu.below B4 lr);have At:=ae FL;have qr:=ae Ft;clear R3 O3 k2 FL Ft;go_wp2_with fail;generalize (A.alloc (T #[Z O QP.length QL,Z QK R.length S] 26)).alloc (T #[] 108)=Fm at E5 qr k3 ⊢;generalize A.alloc (T #[Z O QP.length QL,Z QK R.length S] 26)=w4 at K8 X4 B4 O4 R4 c8 c9 At qr sm E5 n9;generalize A.heap.size=X at K8 c8 c9 FJ At RX OX Fo sm ⊢;refine(lC pb po m cp f _ (by omega) (n9.below E5 lr)).mono ?_;rintro e w5 ⟨n,q,rfl,Fi,Fx⟩;have hzx:w4.heap.size=X+1:=At.out;have hzy:Fm.heap.size=w4.heap.size+1:=qr.out;have F5:=ae (E5.trans (Fx.mono (by omega)));have OG:=ae Fi;have FC:=(dR Fi).1;clear Fi Fx E5 At qr k3 n9;have Fd:(w5.alloc (T #[U t,Z (N (J n 0 Y)) m q] 108)).heap.size=w5.heap.size+1:=by simp
 have F6:=ae (F5.alloc F5.size (T #[U t,Z (N (J n 0 Y)) m q] 108));have y0:(w5.alloc (T #[U t,Z (N (J n 0 Y)) m q] 108)).cell? (J w5.heap.size 0 Y)=N (U t):=by simp
 have y1:(w5.alloc (T #[U t,Z (N (J n 0 Y)) m q] 108)).cell? (J w5.heap.size 1 Y)=N (Z (N (J n 0 Y)) m q):=by simp
 have ur:=ae (OG.alloc (T #[U t,Z (N (J n 0 Y)) m q] 108));have FF:=F6.size;have th:=ae FF;clear FF OG F5;go_wp2;generalize w5.alloc (T #[U t,Z (N (J n 0 Y)) m q] 108)=w6 at Fd F6 y0 y1 ur th ⊢;have hgw:n<w6.heap.size:=(dR ur).2;generalize w5.heap.size=QH at Fd y0 y1 ⊢;obtain⟨z,Fz⟩:∃ z,z=w6.heap.size:=⟨_,rfl⟩
 have u:=ae Fz;have P:X<z:=by have:=th.out;omega
 have Fy:QH<z:=by omega
 have FN:=(F6.cell (p:=(J X 0 Y)) (by show X<_;omega)).trans c8;have Fs:=(F6.cell (p:=(J X 1 Y)) (by show X<_;omega)).trans c9;have Fr:=(F6.frozen (p:=(J X 1 Y)) (by show X<_;omega)).trans K8.z1;have X6:=ae (X4.below F6 (by have:=X4.lt;omega));have R6:=ae (R4.below F6 lr);have Fq:=ae (sm.trans (F6.mono (by omega)));have Fv:w.heap.size<=X:=by omega
 have hb1:X+2<z+0:=by have:=th.out;omega
 clear c8 c9 K8 R4 O4 X4 B4 Fd Fz sm F6 V0 V1 HF HS FI Fu HZ th;have c8:=FN;have c9:=Fs;clear FN Fs;obtain⟨QO,hI⟩:∃ QO,QO=eB (nm1 (bo (R.map fun r:TR=>r.1))) (fun j=>R.getD j dfR) ((⟨t,m,f⟩,n,q):TR) t:=⟨_,rfl⟩
 obtain⟨M,bt⟩:∃ M,M=dL (nm1 (bo (R.map fun r:TR=>r.1))) t:=⟨_,rfl⟩
 have FU:Hid (∀ k,QO (k+1)=if M k=D/\ay t (R.getD k dfR).1.name=QC then QO k++[(⟨t,m,f⟩,n,q)]++[R.getD k dfR] else QO k++[R.getD k dfR]):=fun k=>by rw[hI,bt,<-uP R k];rfl
 have FQ:Hid (∀ k,M (k+1)=(M k || ay t (R.getD k dfR).1.name)):=fun k=>by rw[bt,<-uP R k];rfl
 have FT:Hid (∀ k,(QO k).length<=k+1):=fun k=>by rw[hI];exact(Ah _ _ _ _ k).1
 have FO:Hid (∀ k,M k=QC->(QO k).length≠0):=fun k h=>by rw[hI];rw[bt] at h;exact CQ h
 have Fw:Hid (fe R (⟨t,m,f⟩,n,q) t=if M R.length=QC then QO R.length else QO R.length++[(⟨t,m,f⟩,n,q)]):=by rw[hI,bt];rfl
 have Bk:Hid (QO 0=[]/\M 0=D):=by rw[hI,bt];exact⟨rfl,rfl⟩
 clear hI bt;go_loopw [9,10,12] (fun v d i wr=>∃ (k:Nat) (db:Bool),k<=R.length/\i=Q I k/\d=.bool db/\Hid (db=M k)/\Hid (wr.ownsRow z 108 2 v (QO k).length ((QO k).flatMap aV)∨∃ b,v=Z (N (J b 0 Y)) 0 0/\(QO k).length=0/\(QO k).flatMap aV=[])/\Hid (Below z w6 wr)) (fun _ _ i _=>R.length - (intOf i).toNat);case atStart=>exact⟨0,D,by omega,rfl,rfl,Bk.2.symm,.inr ⟨_,rfl,by rw[Bk.1];rfl,by rw[Bk.1];rfl⟩,by rw[u.out];exact eI _ _⟩
 case round =>
  obtain⟨k,db,hk,rfl,rfl,G,OW,x⟩:=hrel;have e9:=(x.cell (p:=(J X 1 Y)) P).trans c9;have z0:=(x.cell (p:=(J QH 0 Y)) Fy).trans y0;have z1:=(x.cell (p:=(J QH 1 Y)) Fy).trans y1;have hlen1:=FT.out k;by_cases o:k<R.length
  ·obtain⟨b,off,rfl,hbl,FA⟩:=wN R6 (by omega)
   obtain⟨p0,p1⟩:=FA k o;have Fp:=FU.out k;have DE:=FQ.out k;generalize R.getD k dfR=rk at p0 p1 Fp DE;have n8:=ae Fp;have ph:=ae DE;clear Fp DE;have ro:b<z:=by have:=u.out;omega
   have d0:=(x.cell (p:=(J b (off+k*2) Y)) ro).trans p0;have d1:=(x.cell (p:=(J b (off+k*2+1) Y)) ro).trans p1;clear FA;cases db with
   | true =>
    have HI:Hid (QO (k+1)=QO k++[rk]):=by show _=_;rw[n8.out,a8 (by rw[<-G.out];simp)]
    have HN:Hid (QC=M (k+1)):=by show QC=_;rw[ph.out,<-G.out];rfl
    go_wp2_with (at_builtin;(refine dY rfl (.tmp 66) (.tmp 72) 24 rfl z 108 ld (QE #[U ⟨#[]⟩,Z Y 0 0]) 2 40 Tryz.underlying24 la fd ex n7 rfl (by decide) _ (QO k).length ((QO k).flatMap aV) (by simp[Act.eval]) (kw OW _) (J wr.heap.size 0 Y) 1 (aV rk) (by simp[Act.eval]) rfl (cT wr _ _ _) (by simp[aV,Value.oneCell']) (by unfold maxLen;omega) (by omega) (by have:=x.size;have:=u.out;simp;omega) ?_;intro vy wy g l;have OY:=ae g;have BY:=ae ((x.alloc (by have:=x.size;have:=u.out;omega) _).trans l);clear g l));exact⟨⟨k+1,QC,by omega,by go_num,rfl,HN,.inl (by rw[HI.out,cM,IC];simpa using OY.out),BY.out⟩,by simp[intOf];omega⟩
   | false =>
    cases hq:ay t rk.1.name with
    | true =>
     have HI:Hid (QO (k+1)=QO k++[(⟨t,m,f⟩,n,q)]++[rk]):=by show _=_;rw[n8.out,eT ⟨G.symm,hq⟩]
     have HN:Hid (QC=M (k+1)):=by show QC=_;rw[ph.out,hq];simp
     obtain⟨q1,q2⟩:=ib hq;clear hq;go_wp2_with (at_builtin;first | (refine dY rfl (.tmp 62) (.tmp 64) 24 rfl z 108 ld (QE #[U ⟨#[]⟩,Z Y 0 0]) 2 40 Tryz.underlying24 la fd ex n7 rfl (by decide) _ (QO k).length ((QO k).flatMap aV) (by simp[Act.eval]) (kw OW _) (J wr.heap.size 0 Y) 1 (aV (⟨t,m,f⟩,n,q)) (by simp[Act.eval]) rfl (cT wr _ _ _) (by simp[aV,Value.oneCell']) (by unfold maxLen;omega) (by omega) (by have:=x.size;have:=u.out;simp;omega) ?_;intro vx wx g l;have FW:=ae g;have BX:=ae ((x.alloc (by have:=x.size;have:=u.out;omega) _).trans l);have f9:=(BX.cell (p:=(J X 1 Y)) P).trans c9;have g0:=(BX.cell (p:=(J b (off+k*2) Y)) ro).trans p0;have g1:=(BX.cell (p:=(J b (off+k*2+1) Y)) ro).trans p1;clear g l) | (refine dY rfl (.tmp 66) (.tmp 72) 24 rfl z 108 ld (QE #[U ⟨#[]⟩,Z Y 0 0]) 2 40 Tryz.underlying24 la fd ex n7 rfl (by decide) _ ((QO k).length+1) ((QO k).flatMap aV++aV (⟨t,m,f⟩,n,q)) (by simp[Act.eval]) (.inl (FW.alloc _)) (J wx.heap.size 0 Y) 1 (aV rk) (by simp[Act.eval]) rfl (cT wx _ _ _) (by simp[aV,Value.oneCell']) (by unfold maxLen;omega) (by omega) (by have:=BX.size;have:=u.out;simp;omega) ?_;intro vy wy g l;have OY:=ae g;have BY:=ae ((BX.alloc (by have:=BX.size;have:=u.out;omega) _).trans l);clear g l));exact⟨⟨k+1,QC,by omega,by go_num,rfl,HN,.inl (by rw[HI.out,cM,cM,IC,IC];simpa using OY.out),BY.out⟩,by simp[intOf];omega⟩
    | false =>
     have HI:Hid (QO (k+1)=QO k++[rk]):=by show _=_;rw[n8.out,a8 (by rw[hq];simp)]
     have HN:Hid (D=M (k+1)):=by show D=_;rw[ph.out,<-G.out,hq];rfl
     have HQ:=ae (iZ hq);clear hq;rcases HQ.out with q1 | ⟨q1,q2⟩
     all_goals
      go_wp2_with (at_builtin;(refine dY rfl (.tmp 66) (.tmp 72) 24 rfl z 108 ld (QE #[U ⟨#[]⟩,Z Y 0 0]) 2 40 Tryz.underlying24 la fd ex n7 rfl (by decide) _ (QO k).length ((QO k).flatMap aV) (by simp[Act.eval]) (kw OW _) (J wr.heap.size 0 Y) 1 (aV rk) (by simp[Act.eval]) rfl (cT wr _ _ _) (by simp[aV,Value.oneCell']) (by unfold maxLen;omega) (by omega) (by have:=x.size;have:=u.out;simp;omega) ?_;intro vy wy g l;have OY:=ae g;have BY:=ae ((x.alloc (by have:=x.size;have:=u.out;omega) _).trans l);clear g l));exact⟨⟨k+1,D,by omega,by go_num,rfl,HN,.inl (by rw[HI.out,cM,IC];simpa using OY.out),BY.out⟩,by simp[intOf];omega⟩
  ·have e:R.length=k:=by omega
   subst e;cases db with
   | true =>
    have n6:fe R (⟨t,m,f⟩,n,q) t=QO R.length:=by rw[Fw.out,eT G.symm]
    have ow:=OW.resolve_right (by rintro⟨b,_,h0,_⟩;exact FO _ G.symm h0);obtain⟨va,vc,rfl⟩:=dS ow (by have:=FO.out _ G.symm;omega);have OF:Hid (wr.ownsRow z 108 2 (Z (N (J va 0 Y)) (QO R.length).length vc) (fe R (⟨t,m,f⟩,n,q) t).length ((fe R (⟨t,m,f⟩,n,q) t).flatMap aV)):=by show World.ownsRow _ _ _ _ _ _ _;rw[n6];exact ow
    have e8:=(x.cell (p:=(J X 0 Y)) P).trans c8;have y9:=(x.frozen (p:=(J X 1 Y)) P).trans Fr;obtain⟨r0,q0⟩:=(X6.below x (by omega)).r0;obtain⟨r1,q1⟩:=(X6.below x (by omega)).r1;have H3:=ae n6;clear n6 ow OW;go_wp2;refine ?_;have GB:=ae (Fq.trans (x.mono (by omega)));refine bp (v:=.tuple #[QE #[Z O QP.length QL,Z (N (J va 0 Y)) (QO R.length).length vc],Q I 0]) (by simp[results,Tryz.results18,go_sem,r0,r1]) rfl ⟨_,_,fe R (⟨t,m,f⟩,n,q) t,rfl,aI (aG (aG (OX _ ((GB).setCell (p:=(J X 1 Y)) lr _)) (R:=w.heap.size+2) (j:=0) (by omega) _) (R:=w.heap.size+2) (j:=1) (by omega) _) (by omega),?_,(sA R (⟨t,m,f⟩,n,q) t).trans (by rw[HM.out];exact H.symm),(((B3.trans ((GB).mono Fv)).setCell (by simp;omega) _).setCell (by simp;omega) _).setCell (by simp;omega) _⟩;exact sB (X:=X) (QG:=w.heap.size+2) (bL:=z) (lo:=Fm.heap.size) RX GB x ur OF Fo u (by omega) (by omega) (by omega) (by omega) FC
   | false =>
    go_wp2_with (at_builtin;(refine dY rfl (.tmp 76) (.tmp 78) 24 rfl z 108 ld (QE #[U ⟨#[]⟩,Z Y 0 0]) 2 40 Tryz.underlying24 la fd ex n7 rfl (by decide) _ (QO R.length).length ((QO R.length).flatMap aV) (by simp[Act.eval]) (kw OW _) (J wr.heap.size 0 Y) 1 (aV (⟨t,m,f⟩,n,q)) (by simp[Act.eval]) rfl (cT wr _ _ _) (by simp[aV,Value.oneCell']) (by unfold maxLen;omega) (by omega) (by have:=x.size;have:=u.out;simp;omega) ?_;intro vz wz g l;obtain⟨gs,cs,rfl⟩:=dS g (Nat.succ_pos _);have OZ:=ae g;have BZ:=ae ((x.alloc (by have:=x.size;have:=u.out;omega) _).trans l);have f8:=(BZ.cell (p:=(J X 0 Y)) P).trans c8;have f9:=(BZ.cell (p:=(J X 1 Y)) P).trans c9;have y9:=(BZ.frozen (p:=(J X 1 Y)) P).trans Fr;obtain⟨r0,q0⟩:=(X6.below BZ (by have:=u.out;omega)).r0;obtain⟨r1,q1⟩:=(X6.below BZ (by have:=u.out;omega)).r1;clear g l));have n6:fe R (⟨t,m,f⟩,n,q) t=QO R.length++[(⟨t,m,f⟩,n,q)]:=by rw[Fw.out,a8 (by rw[<-G.out];simp)]
    have OF:Hid (wz.ownsRow z 108 2 (Z (N (J gs 0 Y)) ((QO R.length).length+1) cs) (fe R (⟨t,m,f⟩,n,q) t).length ((fe R (⟨t,m,f⟩,n,q) t).flatMap aV)):=by show World.ownsRow _ _ _ _ _ _ _;rw[n6,cM,IC];simpa using OZ.out
    have GB:=ae (Fq.trans (BZ.mono (by omega)));refine bp (v:=.tuple #[QE #[Z O QP.length QL,Z (N (J gs 0 Y)) ((QO R.length).length+1) cs],Q I 0]) (by simp[results,Tryz.results18,go_sem,r0,r1]) rfl ⟨_,_,fe R (⟨t,m,f⟩,n,q) t,rfl,aI (aG (aG (OX _ ((GB).setCell (p:=(J X 1 Y)) lr _)) (R:=w.heap.size+2) (j:=0) (by omega) _) (R:=w.heap.size+2) (j:=1) (by omega) _) (by omega),?_,(sA R (⟨t,m,f⟩,n,q) t).trans (by rw[HM.out];exact H.symm),(((B3.trans ((GB).mono Fv)).setCell (by simp;omega) _).setCell (by simp;omega) _).setCell (by simp;omega) _⟩;exact sB (X:=X) (QG:=w.heap.size+2) (bL:=z) (lo:=Fm.heap.size) RX GB BZ ur OF Fo u (by omega) (by omega) (by omega) (by omega) FC
end Go.Proofs.YtkdimgejdocbbaaGreatDoor.Vp
