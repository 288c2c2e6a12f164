import Derived.Test.YtamacmnikdejeaaGreatDoorRM
import Derived.Shelf.Spec.SlicesInsert
import Derived.Laws.CopyRow
import Derived.Lib.AppendZerosOnto
set_option maxRecDepth 100000
set_option maxHeartbeats 8000000
set_option linter.unusedSimpArgs false
open Go.Addr renaming mk->N
open Go.Value renaming slice->Y,string->U,int->J,agg->QG
open Option renaming none->Z,some->T
open Go.Obj renaming cells->Q
open Go.IntKind renaming i64->I
open Go renaming World->G,Value->QE
open Bool renaming false->QB,true->QD
namespace Go.Proofs.YtamacmnikdejeaaGreatDoor.Vp
open RowKit
def gn (n0:Nat)(f0:Nat->Source)(n1:Nat)(f1:Nat->Target)(t:ByteArray)(m:Nat)(b:Nat->Ins):List Source:=if jB n0 f0 n1 f1 t (valid b m)=0 then keepS f0 t n0 else []
def gN (n0:Nat)(f0:Nat->Source)(n1:Nat)(f1:Nat->Target)(t:ByteArray)(m:Nat)(b:Nat->Ins):List Target:=if jB n0 f0 n1 f1 t (valid b m)=0 then od (keepT f1 t n1) ⟨t,m,b⟩ t else []
structure Trio (w:G)(h:Nat)(p0 p1 p2:QE):Prop where
 lt:h+2<w.heap.size
 a0:w.cell? (N h 0 Z)=T p0
 a1:w.cell? (N h 1 Z)=T p1
 b0:w.cell? (N (h+1) 0 Z)=T p2
 r0:w.cell? (N (h+2) 0 Z)=T (Y Z 0 0)/\w.frozen? (N (h+2) 0 Z)=QB
 r1:w.cell? (N (h+2) 1 Z)=T (Y Z 0 0)/\w.frozen? (N (h+2) 1 Z)=QB
theorem Trio.below {w g:G}{h B:Nat}{j m l:QE}(b:Trio w h j m l)(hb:Below B w g)(hB:h+3<=B):Trio g h j m l:=by have c:∀ k o,k<B->g.cell? (N k o Z)=w.cell? (N k o Z):=fun k o i=>hb.cell (p:=(N k o Z)) i;have f:∀ k o,k<B->g.frozen? (N k o Z)=w.frozen? (N k o Z):=fun k o i=>hb.frozen (p:=(N k o Z)) i;exact⟨lj b.lt hb.size,(c _ _ (by omega)).trans b.a0,(c _ _ (by omega)).trans b.a1,(c _ _ (by omega)).trans b.b0,⟨(c _ _ (by omega)).trans b.r0.1,(f _ _ (by omega)).trans b.r0.2⟩,⟨(c _ _ (by omega)).trans b.r1.1,(f _ _ (by omega)).trans b.r1.2⟩⟩
theorem Af (w:G)(f b g:QE)(t u:TypeId):Trio (((w.alloc (Q #[f,b] t)).alloc (Q #[g] u)).alloc (Q #[Y Z 0 0,Y Z 0 0] t)) w.heap.size f b g:=by
 have j:Below (w.heap.size+1) (w.alloc (Q #[f,b] t)) ((w.alloc (Q #[f,b] t)).alloc (Q #[g] u)):=br.alloc (by simp) _;have h:Below (w.heap.size+2) ((w.alloc (Q #[f,b] t)).alloc (Q #[g] u)) (((w.alloc (Q #[f,b] t)).alloc (Q #[g] u)).alloc (Q #[Y Z 0 0,Y Z 0 0] t)):=br.alloc (by simp) _;have hz:(w.alloc (Q #[f,b] t)).heap.size=w.heap.size+1:=by simp
 have i:((w.alloc (Q #[f,b] t)).alloc (Q #[g] u)).heap.size=w.heap.size+2:=by simp
 refine⟨by simp,?_,?_,?_,⟨?_,?_⟩,⟨?_,?_⟩⟩
 ·exact(h.cell (p:=(N w.heap.size 0 Z)) (by simp)).trans ((j.cell (p:=(N w.heap.size 0 Z)) (by simp)).trans (by simp))
 ·exact(h.cell (p:=(N w.heap.size 1 Z)) (by simp)).trans ((j.cell (p:=(N w.heap.size 1 Z)) (by simp)).trans (by simp))
 ·refine(h.cell (p:=(N (w.heap.size+1) 0 Z)) (by simp)).trans ?_
  rw[<-hz];clear j h hz i;generalize w.alloc (Q #[f,b] t)=W;simp
 all_goals
  rw[<-i];clear j h hz i;generalize (w.alloc (Q #[f,b] t)).alloc (Q #[g] u)=W;simp
theorem uw {P:Program}{w:G}(f:Nat)(t ty e:TypeId)(i:TypeInfo)(z:QE)(size g:Nat)(C:P.underlying t=T (.slice e))(hi:P.info? e=T i)(hz:i.zero=T z)
  (o:i.size=size) (y:i.bytes=g) (x:z.cells.size=size)
  (b:Nat) (a:Addr) (c:Nat) (news:List QE) (m:news.length=1*size) (n:∀ j u,news[j]?=T u->w.cell? (a.add j)=T u)
  (l:1*g<=140737488355328) (h:f<=w.heap.size) :
  ∃ r q,(Builtin.append_ #[t,t] ty #[Y (T (N b 0 Z)) 0 0,Y (T a) 1 c]).run P w=.ok r q/\q.ownsRow f e size r 1 news/\Below f w q:=by
 subst o y;have A:=run_append_grow (P:=P) w t ty e i z C hi hz (N b 0 Z) 0 0 [] (by simp) (by intro j v B;simp at B) a 1 c news m n (by omega) (by omega) (growslice_fits (by omega) (by simpa using l));have p:=grownCap_ge w (0+1) 0 e;have s:grownCap w (0+1) 0 e<=maxLen:=grownCap_le_maxLen w (0+1) 0 e (by unfold maxLen;omega);refine⟨_,_,A,⟨by simpa using m,.inr ⟨w.heap.size,_,_,rfl,h,eT w.drew _,p,s,?_,?_⟩⟩,rfl,rfl,rfl,by simp,fun k D=>heap_alloc_old w.drew _ (lj D h)⟩
 ·simp only[Array.size_append,JY,size_zeroCells,x,m,GD,D0,<-Nat.add_mul]
  congr 1;have:=p;simp only[D0] at this;omega
 ·simp only[Array.toList_append,IN]
  rw[<-m];exact List.take_left
theorem ei {P:Program}{w:G}{E:Array Oper}{rest:List Oper}{o:Oper}{a:Act}{QM:Exit->Act->G->Prop}(D:o.guard=Z)(s x:Operand)(t:TypeId)
  (M:o.op=.call { callee:=.builtin .append,args:=#[s,x],argTypes:=#[t,t] })
  (f:Nat) (e:TypeId) (i:TypeInfo) (z:QE) (size g:Nat) (L:P.underlying t=T (.slice e)) (hi:P.info? e=T i) (hz:i.zero=T z)
  (y:i.size=size) (H:i.bytes=g) (QR:z.cells.size=size) (QN:0<size)
  (v:QE) (n:Nat) (C:List QE) (QO:a.eval s=v) (m:w.ownsRow f e size v n C∨∃ b,v=Y (T (N b 0 Z)) 0 0/\n=0/\C=[])
  (B:Addr) (c:Nat) (news:List QE) (R:a.eval x=Y (T B) 1 c) (K:news.length=1*size) (r:∀ j u,news[j]?=T u->w.cell? (B.add j)=T u) (h1:∀ u∈news,u.oneCell'=QD)
  (O:n+1<=maxLen) (A:(n+1)*g<=140737488355328) (l:f<=w.heap.size)
  (h:∀ q p,p.ownsRow f e size q (n+1) (C++news)->Below f w p->wpList P E QM rest (a.put o.dst q) p):wpList P E QM (o :: rest) a w:=by
 rcases m with m | ⟨b,rfl,rfl,rfl⟩
 ·exact CW w D s x t M f e i z size g L hi hz y H QR QN v n C QO m B 1 c news R K r h1 O A l fun q p h2 QP _=>h q p h2 (bg (a8 f w) QP l (fun j e=>(m.lt j e).1))
 ·obtain⟨q,p,S,h2,QP⟩:=uw (w:=w) f t o.type e i z size g L hi hz y H QR b B c news K r (by omega) l
  exact Lib.wpList_append_run w D s x t t M _ _ QO R q p S (h q p (by simpa using h2) QP)
theorem o9 {f:Type}(g:Nat->ByteArray)(F:Nat->f)(x:f)(t:ByteArray)(k:Nat):(dO g t k=QB->eE g F x t k=(List.range k).map F)/\(dO g t k=QD->∃ A B,(List.range k).map F=A++B/\eE g F x t k=A++x :: B):=by
 induction k with
 | zero=>simp[eE,dO]
 | succ j b =>
  have e:(List.range (j+1)).map F=(List.range j).map F++[F j]:=by rw[JA,HJ];rfl
  rw[e];simp only[eE,dO];cases hd:dO g t j with
  | false =>
   have h1:=b.1 hd;cases hl:aw t (g j) with
   | true=>simpa[h1] using⟨(List.range j).map F,[F j],rfl,by simp⟩
   | false=>simp[h1]
  | true =>obtain⟨A,B,h1,h2⟩:=b.2 hd;simp only[Bool.true_or,Bool.true_eq_false,false_and,L9,true_implies,false_implies,MV];exact⟨A,B++[F j],by rw[h1];simp,by rw[h2];simp⟩
theorem wT {b:Type}(g:Nat->ByteArray)(F:Nat->b)(x:b)(t:ByteArray)(n:Nat):∃ A B,(List.range n).map F=A++B/\jO g F x t n=A++x :: B:=by
 obtain⟨h1,h2⟩:=o9 g F x t n;unfold jO;cases hd:dO g t n with
 | true=>simpa using h2 hd
 | false=>exact⟨(List.range n).map F,[],by simp,by simp[h1 hd]⟩
theorem wU {b:Type}(R:List b)(d:b):(List.range R.length).map (fun j=>R.getD j d)=R:=by
 apply List.ext_getElem
 ·simp
 ·intro i h1 h2
  simp at h1;simp[CL,h1]
theorem sY {b f:Type}(p:b->f)(R:List b)(d:b)(j:Nat):p (R.getD j d)=(R.map p).getD j (p d):=by simp[CL]
theorem Ag {w:G}{f:Nat}{o v:QE}{A B:List TR}{x:TR}(h:TRow w f o (A++B))(n:RowIns w x.2.1 0 x.1.actN x.1.act/\(∃ F,Cells w x.2.1 0 (x.1.actN*3) F)/\TypeAt w x.2.1 146/\f<=x.2.1)
  (i:∀ r∈A++B,r.2.1≠x.2.1) (j:w.ownsRow f 125 2 v (A++x :: B).length ((A++x :: B).flatMap bc)):TRow w f v (A++x :: B):=by
 refine⟨j,fun r g=>?_,?_⟩
 ·rcases nL.1 g with g | g
  ·exact h.act r (nL.2 (.inl g))
  ·rcases p6.1 g with rfl | g
   ·exact n
   ·exact h.act r (nL.2 (.inr g))
 ·have l:=JG.1 h.up
  refine JG.2 ⟨l.1,NN.2 ⟨fun b hb e=>i b (nL.2 (.inr hb)) e.symm,l.2.1⟩,fun a m b hb=>?_⟩;rcases p6.1 hb with rfl | hb
  ·exact i a (nL.2 (.inl m))
  ·exact l.2.2 a m b hb
theorem CJ {b:Type}{g:Nat->ByteArray}{F:Nat->b}{x:b}{t:ByteArray}{k:Nat}(h:dO g t k=QD):(eE g F x t k).length≠0:=by obtain⟨A,B,_,h2⟩:=(o9 g F x t k).2 h;rw[h2];simp
theorem wV {w:G}{l c:Nat}{a:Option Addr}{R:List TR}(h:TRow w l (Y a R.length c) R)(hn:0<R.length):∃ b off,a=T (N b off Z)/\b<w.heap.size/\∀ i,i<R.length->w.cell? (N b (off+i*2) Z)=T (U (R.getD i dfR).1.name)/\w.cell? (N b (off+i*2+1) Z)=T (Y (T ⟨(R.getD i dfR).2.1,0,Z⟩) (R.getD i dfR).1.actN (R.getD i dfR).2.2):=by
 obtain⟨g,c',e⟩:=dV h.own hn;simp at e;obtain⟨rfl,rfl⟩:=e;refine⟨g,0,rfl,(cX h.own).2,fun i hi=>?_⟩;have f:R[i]?=T (R.getD i dfR):=by rw[CL,gq hi];rfl
 generalize R.getD i dfR=r at f;refine⟨?_,?_⟩
 ·have:=(bv h.own (j:=i*2) (u:=U r.1.name) (by have:=cK bc 2 (fun _=>rfl) R i 0 (by omega) _ f;simpa[bc] using this)).1
  rwa[show 0+i*2=i*2 by omega]
 ·have:=(bv h.own (j:=i*2+1) (u:=Y (T (N r.2.1 0 Z)) r.1.actN r.2.2) (by have:=cK bc 2 (fun _=>rfl) R i 1 (by omega) _ f;simpa[bc] using this)).1
  rwa[show 0+i*2+1=i*2+1 by omega]
def fa (R:List TR)(x:TR)(t:ByteArray):List TR:=jO (nm1 (be (R.map fun r:TR=>r.1))) (fun j=>R.getD j dfR) x t R.length
theorem vh (R:List TR)(j:Nat):nm1 (be (R.map fun r:TR=>r.1)) j=(R.getD j dfR).1.name:=by exact BC Target.name (sY (fun r:TR=>r.1) R dfR j).symm
theorem sZ (R:List TR)(x:TR)(t:ByteArray):(fa R x t).map (fun r:TR=>r.1)=od (R.map fun r:TR=>r.1) x.1 t:=by unfold fa od;rw[Ab,JN];congr 1;funext j;exact sY (fun r:TR=>r.1) R dfR j
theorem Ah {w:G}{b:Nat}{i v:QE}{R:List TR}{x:TR}{t:ByteArray}(h:TRow w b i R)(l:RowIns w x.2.1 0 x.1.actN x.1.act/\(∃ F,Cells w x.2.1 0 (x.1.actN*3) F)/\TypeAt w x.2.1 146/\b<=x.2.1)
  (g:∀ r∈R,r.2.1≠x.2.1) (f:w.ownsRow b 125 2 v (fa R x t).length ((fa R x t).flatMap bc)):TRow w b v (fa R x t):=by
 obtain⟨A,B,h1,h2⟩:=wT (nm1 (be (R.map fun r:TR=>r.1))) (fun j=>R.getD j dfR) x t R.length;rw[wU] at h1;unfold fa at f ⊢;rw[h2] at f ⊢;subst h1;exact Ag h l g f
theorem CK {w:G}{b g c:Nat}{x:Target}(h:w.ownsRow b 146 3 (Y (T (N g 0 Z)) x.actN c) x.actN (ct x.act x.actN)):RowIns w g 0 x.actN x.act/\(∃ F,Cells w g 0 (x.actN*3) F)/\TypeAt w g 146/\b<=g:=by obtain⟨h1,h2⟩:=jX h;exact⟨h1,h2,iZ h,(cX h).1⟩
theorem kN {w:G}{f size n:Nat}{e:TypeId}{v:QE}{g:List QE}(h:w.ownsRow f e size v n g∨∃ b,v=Y (T (N b 0 Z)) 0 0/\n=0/\g=[])(o:Obj):(w.alloc o).ownsRow f e size v n g∨∃ b,v=Y (T (N b 0 Z)) 0 0/\n=0/\g=[] :=
 h.imp (fun h=>h.alloc o) id
theorem te {q h wr:G}{b X QJ bL lo m gb g:Nat}{H v u0 u1:QE}{R:List TR}{t:ByteArray}{f:Nat->Ins}(B:∀ u,Below X q u->TRow u (b+3) H R)(QR:Below X q wr)(C:Below bL h wr)(y:h.ownsRow lo 146 3 (Y (T (N gb 0 Z)) m g) m (ct f m))(D:wr.ownsRow bL 125 2 v (fa R (⟨t,m,f⟩,gb,g) t).length ((fa R (⟨t,m,f⟩,gb,g) t).flatMap bc))(i:∀ r∈R,r.2.1<X)(hb:bL=h.heap.size)(h1:X<lo)(h2:QJ<b+3)(h3:b+3<=X)(h4:lo<=bL)(h5:lo<=gb):TRow (((wr.setCell (N X 1 Z) v).setCell (N QJ 0 Z) u0).setCell (N QJ 1 Z) u1) b v (fa R (⟨t,m,f⟩,gb,g) t):=by have E:=B _ (QR.setCell (p:=(N X 1 Z)) ly v);have o:=aV (own_below y C (by omega)) (R:=X) (j:=1) (by omega) v;have s:=aV D (R:=X) (j:=1) (by omega) v;have z:=(E.set (X:=QJ) (j:=0) h2 u0).set (X:=QJ) (j:=1) h2 u1;have n:=aV (aV o (R:=QJ) (j:=0) (by omega) u0) (R:=QJ) (j:=1) (by omega) u1;have l:=aV (aV s (R:=QJ) (j:=0) (by omega) u0) (R:=QJ) (j:=1) (by omega) u1;exact Ah (fQ z (by omega)) (CK (x:=⟨t,m,f⟩) (aE n (by omega))) (fun r A=>by have:=i r A;show r.2.1≠gb;omega) (aE l (by omega))
theorem ti (a0:Option Addr)(n0 c0:Nat)(f0:Nat->Source)(a1:Option Addr)(n1 c1:Nat)(f1:Nat->Target)(t:ByteArray)(ap:Option Addr)(m cp:Nat)(g:Nat->Ins)(w:G)(hn0:(n0:Int)<=1048576)(hn1:(n1:Int)<=1048576)(hm:m<=1048576)(Fg:SlSource w a0 n0 f0)(FD:SlTarget w a1 n1 f1)(FA:SlIns w ap m g)(DS:∀ i,i<n1->bk (f1 i))(hs:∀ i,i<n1->∀ j,j<(f1 i).actN->((f1 i).act j).s.size<=maxLen)(FG:∀ i,i<m->(g i).s.size<=maxLen):Calls Tryz.prog 21 #[QG #[Y a0 n0 c0,Y a1 n1 c1],U t,QG #[Y ap m cp]] w fun e O=>∃ v0 v1 R,e=.returned (.tuple #[QG #[v0,v1],J I (jB n0 f0 n1 f1 t (valid g m))])/\O.ownsRow w.heap.size 121 2 v0 (gn n0 f0 n1 f1 t m g).length ((gn n0 f0 n1 f1 t m g).flatMap bC)/\TRow O w.heap.size v1 R/\R.map (·.1)=gN n0 f0 n1 f1 t m g/\Below w.heap.size w O:=by
 have V0:=ae Fg;have V1:=ae FD;have VP:=ae FA;have HF:=ae DS;have HS:=ae hs;have Fm:=ae FG;clear Fg FD FA DS hs FG;obtain⟨bt,fd,la,ex,mv⟩:=IL fw;obtain⟨C,hC⟩:∃ C,C=bh n0 f0 n1 f1:=⟨_,rfl⟩
 obtain⟨rt,At⟩:∃ rt,rt=valid g m:=⟨_,rfl⟩
 obtain⟨D,hD⟩:∃ D,D=jB n0 f0 n1 f1 t (valid g m):=⟨_,rfl⟩
 obtain⟨B,Fc⟩:∃ B,B=gn n0 f0 n1 f1 t m g:=⟨_,rfl⟩
 obtain⟨LT,E9⟩:∃ LT,LT=gN n0 f0 n1 f1 t m g:=⟨_,rfl⟩
 rw[<-hD,<-Fc,<-E9];have HC:=ae hC;have HR:=ae At;have HD:=ae (hD.trans (by unfold jB;rw[<-hC,<-At]));have ld:=ae (Fc.trans (by unfold gn;rw[<-hD]));have E:=ae (E9.trans (by unfold gN;rw[<-hD]));clear hC hD Fc E9 At;have A0:=ae ((((q9 w).alloc ly (Q #[Y a0 n0 c0,Y a1 n1 c1] 29)).alloc (by simp) (Q #[Y ap m cp] 43)).alloc (by simp;omega) (Q #[Y Z 0 0,Y Z 0 0] 29));have X0:=ae (Af w (Y a0 n0 c0) (Y a1 n1 c1) (Y ap m cp) 29 43);go_enter Tryz.func21,Tryz.ntmps21;go_wp2_with fail;generalize ((w.alloc (Q #[Y a0 n0 c0,Y a1 n1 c1] 29)).alloc (Q #[Y ap m cp] 43)).alloc (Q #[Y Z 0 0,Y Z 0 0] 29)=W at A0 X0 ⊢;refine(eV a0 n0 c0 f0 a1 n1 c1 f1 _ hn0 hn1 (V0.below A0 ly) (V1.below A0 ly) HF HS).mono ?_;rintro e w1 ⟨rfl,A⟩;rw[<-HC.out];have X1:=ae (X0.below A X0.lt);have B1:=ae (A0.trans (A.mono A0.size));clear A A0 X0;by_cases hc:C=0;case neg =>
  have hd:=HD.out;rw[gM hc] at hd;have x:=ld.out;rw[cM (by omega)] at x;have n:=E.out;rw[cM (by omega)] at n;subst hd x n;have hc':(C == 0)=QB:=by simpa using hc
  obtain⟨r0,q0⟩:=X1.r0;obtain⟨r1,q1⟩:=X1.r1;go_wp2;exact bp (v:=.tuple #[QG #[Y Z 0 0,Y Z 0 0],J I 1]) (by simp[results,Tryz.results21,go_sem,r0,r1]) rfl ⟨_,_,[],rfl,BG _ _ _ _,cT _ _,rfl,(B1.setCell (by simp;omega) _).setCell (by simp;omega) _⟩
 subst hc;have hz:=kI HC.symm;have HZ:=ae hz;clear hz HC;have Fa:=HD.out;rw[cM (by omega)] at Fa;have DE:=ae Fa;clear Fa HD;go_wp2_with fail;refine(cP t _).mono ?_;rintro e w2 ⟨rfl,A⟩;have X2:=ae (X1.below A X1.lt);have B2:=ae (B1.trans (A.mono B1.size));clear A X1 B1;cases hn:au t with
 | false =>have hd:=DE.out;rw[gM (.inl hn)] at hd;have x:=ld.out;rw[cM (by omega)] at x;have n:=E.out;rw[cM (by omega)] at n;subst hd x n;obtain⟨r0,q0⟩:=X2.r0;obtain⟨r1,q1⟩:=X2.r1;go_wp2;exact bp (v:=.tuple #[QG #[Y Z 0 0,Y Z 0 0],J I 2]) (by simp[results,Tryz.results21,go_sem,r0,r1]) rfl ⟨_,_,[],rfl,BG _ _ _ _,cT _ _,rfl,(B2.setCell (by simp;omega) _).setCell (by simp;omega) _⟩
 | true =>
 have k2:=X2.b0;go_wp2_with fail;refine(iW ap m cp g _ hm (VP.below B2 ly) Fm).mono ?_;rintro e FK ⟨rfl,A⟩;rw[<-HR.out];have QR:=ae (X2.below A X2.lt);have QL:=ae (B2.trans (A.mono B2.size));clear A X2 B2 k2;have aq:=DE.out;rw[hn] at aq;clear DE;cases rt with
 | false =>rw[gM (.inr rfl)] at aq;have x:=ld.out;rw[cM (by omega)] at x;have n:=E.out;rw[cM (by omega)] at n;subst aq x n;obtain⟨r0,q0⟩:=QR.r0;obtain⟨r1,q1⟩:=QR.r1;go_wp2;exact bp (v:=.tuple #[QG #[Y Z 0 0,Y Z 0 0],J I 2]) (by simp[results,Tryz.results21,go_sem,r0,r1]) rfl ⟨_,_,[],rfl,BG _ _ _ _,cT _ _,rfl,(QL.setCell (by simp;omega) _).setCell (by simp;omega) _⟩
 | true =>
 rw[cM (by simp)] at aq;have Fu:=ae aq;clear aq hn;have hm1:1<=m:=by have h:=HR.out;unfold valid at h;have h2:=(Bool.and_eq_true_iff.1 h.symm).2;have:=(JE h2).1;omega
 obtain⟨pb,po,rfl,Fh⟩:=VP.resolve_left (by omega);have Fo:=ae Fh;clear VP Fh HR;have k0:=QR.a0;have k1:=QR.a1;go_wp2_with fail;refine(eW a0 n0 c0 f0 a1 n1 c1 f1 t _ hn0 hn1 (V0.below QL ly) (V1.below QL ly) HF).mono ?_;rintro e z ⟨v0,v1,R,rfl,hO,hR,hM,A⟩;have FH:=QR.lt;have X3:=ae (QR.below A QR.lt);have B3:=ae (QL.trans (A.mono QL.size));obtain⟨QN,M,rfl⟩:=aP hO;obtain⟨S,QM,rfl⟩:=aP hR.own;have eR:R.length=(keepT f1 t n1).length:=by rw[<-hM];simp
 have FM:=jA f0 t n0;have F0:=ma f1 t n1;obtain⟨L,hL⟩:∃ L,L=keepS f0 t n0:=⟨_,rfl⟩
 obtain⟨K,hK⟩:∃ K,K=keepT f1 t n1:=⟨_,rfl⟩
 rw[<-hL] at hO FM ⊢;rw[<-hK] at hM F0 eR;have V:=Fu.out;rw[<-hL,<-hK] at V;have x:=ld.out;rw[<-hL] at x;have n:=E.out;rw[<-hK] at n;have ER:=ae eR;have hlr:R.length<=n1:=by omega
 clear Fu ld E hL hK A k0 k1 QR QL eR;have hbw:w.heap.size+3<=FK.heap.size:=FH;have O3:=ae (aE hO (base':=w.heap.size+3) (by omega));have R3:=ae (fQ hR (base':=w.heap.size+3) (by omega));have HM:=ae hM;have hll:(L.length:Int)<=1048576:=by omega
 clear hO hR hM;have DB:=ae ((q9 z).alloc ly (Q #[Y QN L.length M,Y S R.length QM] 29));have K8:=ae (sS z (Y QN L.length M) (Y S R.length QM) 29);have X4:=ae (X3.below DB X3.lt);have B4:=ae (B3.trans (DB.mono B3.size));have O4:=ae (own_below O3 DB ly);have R4:=ae (R3.below DB ly);have th:=ae DB.out;have Fx:w.heap.size+2<z.heap.size:=X3.lt;have c8:=K8.c0;have c9:=K8.c1;clear DB;by_cases hc3:(200:Int)<=L.length+R.length
 ·rw[gM (by have:=ER.out;omega)] at V
  rw[cM (by omega)] at x n;subst V x n;obtain⟨r0,q0⟩:=X3.r0;obtain⟨r1,q1⟩:=X3.r1;clear c8 c9;go_wp2;exact bp (v:=.tuple #[QG #[Y Z 0 0,Y Z 0 0],J I 3]) (by simp[results,Tryz.results21,go_sem,r0,r1,Fx]) rfl ⟨_,_,[],rfl,BG _ _ _ _,cT _ _,rfl,((B3.setCell (by simp;omega) _).setCell (by simp;omega) _).alloc (by have:=B3.size;simp;omega) _⟩
 clear X3;rw[cM (by have:=ER.out;omega)] at V;rw[gM V] at x n;subst V x;have E:=ae n;clear n;have k2:=X4.b0;have Fz:(z.alloc (Q #[Y QN B.length M,Y S R.length QM] 29)).heap.size=z.heap.size+1:=by simp
 have RX:Hid (∀ O,Below z.heap.size z O->TRow O (w.heap.size+3) (Y S R.length QM) R):=fun O hb=>R3.below hb ly;have OX:Hid (∀ O,Below z.heap.size z O->O.ownsRow (w.heap.size+3) 121 2 (Y QN B.length M) B.length (B.flatMap bC)):=fun O hb=>own_below O3 hb ly;have DQ:Hid (∀ r∈R,r.2.1<z.heap.size):=fun r hr=>(R3.act r hr).1.1;have E5:=ae ((a8 (z.alloc (Q #[Y QN B.length M,Y S R.length QM] 29)).heap.size (z.alloc (Q #[Y QN B.length M,Y S R.length QM] 29))).alloc ly (Q #[] 125));have Fl:((z.alloc (Q #[Y QN B.length M,Y S R.length QM] 29)).alloc (Q #[] 125)).heap.size=(z.alloc (Q #[Y QN B.length M,Y S R.length QM] 29)).heap.size+1:=by simp
 have k3:=(E5.cell (p:=(N (w.heap.size+1) 0 Z)) (by show w.heap.size+1<_;have:=X4.lt;omega)).trans k2;have n9:=ae (Fo.below B4 ly);have ph:=ae Fz;have ur:=ae Fl;clear R3 O3 k2 Fz Fl;go_wp2_with fail;generalize (z.alloc (Q #[Y QN B.length M,Y S R.length QM] 29)).alloc (Q #[] 125)=CD at E5 ur k3 ⊢;generalize z.alloc (Q #[Y QN B.length M,Y S R.length QM] 29)=w4 at K8 X4 B4 O4 R4 c8 c9 ph ur th E5 n9;generalize z.heap.size=X at K8 c8 c9 Fx ph RX OX DQ th ⊢;refine(iu pb po m cp g _ (by omega) (n9.below E5 ly)).mono ?_;rintro e w5 ⟨gb,o,rfl,Bk,FF⟩;have hzx:w4.heap.size=X+1:=ph.out;have hzy:CD.heap.size=w4.heap.size+1:=ur.out;have F5:=ae (E5.trans (FF.mono (by omega)));have OG:=ae Bk;have Fp:=(cX Bk).1;clear Bk FF E5 ph ur k3 n9;have Fd:(w5.alloc (Q #[U t,Y (T (N gb 0 Z)) m o] 125)).heap.size=w5.heap.size+1:=by simp
 have F6:=ae (F5.alloc F5.size (Q #[U t,Y (T (N gb 0 Z)) m o] 125));have y0:(w5.alloc (Q #[U t,Y (T (N gb 0 Z)) m o] 125)).cell? (N w5.heap.size 0 Z)=T (U t):=by simp
 have y1:(w5.alloc (Q #[U t,Y (T (N gb 0 Z)) m o] 125)).cell? (N w5.heap.size 1 Z)=T (Y (T (N gb 0 Z)) m o):=by simp
 have sm:=ae (OG.alloc (Q #[U t,Y (T (N gb 0 Z)) m o] 125));have Fj:=F6.size;have qr:=ae Fj;clear Fj OG F5;go_wp2;generalize w5.alloc (Q #[U t,Y (T (N gb 0 Z)) m o] 125)=w6 at Fd F6 y0 y1 sm qr ⊢;have hgw:gb<w6.heap.size:=(cX sm).2;generalize w5.heap.size=QH at Fd y0 y1 ⊢;obtain⟨y,Fv⟩:∃ y,y=w6.heap.size:=⟨_,rfl⟩
 have q:=ae Fv;have P:X<y:=by have:=qr.out;omega
 have Fk:QH<y:=by omega
 have Fi:=(F6.cell (p:=(N X 0 Z)) (by show X<_;omega)).trans c8;have Fw:=(F6.cell (p:=(N X 1 Z)) (by show X<_;omega)).trans c9;have Fq:=(F6.frozen (p:=(N X 1 Z)) (by show X<_;omega)).trans K8.z1;have X6:=ae (X4.below F6 (by have:=X4.lt;omega));have R6:=ae (R4.below F6 ly);have FC:=ae (th.trans (F6.mono (by omega)));have Fs:w.heap.size<=X:=by omega
 have hb1:X+2<y+0:=by have:=qr.out;omega
 clear c8 c9 K8 R4 O4 X4 B4 Fd Fv th F6 V0 V1 HF HS Fm Fo HZ qr;have c8:=Fi;have c9:=Fw;clear Fi Fw;obtain⟨QP,hI⟩:∃ QP,QP=eE (nm1 (be (R.map fun r:TR=>r.1))) (fun j=>R.getD j dfR) ((⟨t,m,g⟩,gb,o):TR) t:=⟨_,rfl⟩
 obtain⟨QO,QK⟩:∃ QO,QO=dO (nm1 (be (R.map fun r:TR=>r.1))) t:=⟨_,rfl⟩
 have FO:Hid (∀ k,QP (k+1)=if QO k=QB/\aw t (R.getD k dfR).1.name=QD then QP k++[(⟨t,m,g⟩,gb,o)]++[R.getD k dfR] else QP k++[R.getD k dfR]):=fun k=>by rw[hI,QK,<-vh R k];rfl
 have FQ:Hid (∀ k,QO (k+1)=(QO k || aw t (R.getD k dfR).1.name)):=fun k=>by rw[QK,<-vh R k];rfl
 have FP:Hid (∀ k,(QP k).length<=k+1):=fun k=>by rw[hI];exact(Aa _ _ _ _ k).1
 have Fy:Hid (∀ k,QO k=QD->(QP k).length≠0):=fun k h=>by rw[hI];rw[QK] at h;exact CJ h
 have Ft:Hid (fa R (⟨t,m,g⟩,gb,o) t=if QO R.length=QD then QP R.length else QP R.length++[(⟨t,m,g⟩,gb,o)]):=by rw[hI,QK];rfl
 have Fb:Hid (QP 0=[]/\QO 0=QB):=by rw[hI,QK];exact⟨rfl,rfl⟩
 clear hI QK;go_loopw [9,10,12] (fun v d i wr=>∃ (k:Nat) (db:Bool),k<=R.length/\i=J I k/\d=.bool db/\Hid (db=QO k)/\Hid (wr.ownsRow y 125 2 v (QP k).length ((QP k).flatMap bc)∨∃ b,v=Y (T (N b 0 Z)) 0 0/\(QP k).length=0/\(QP k).flatMap bc=[])/\Hid (Below y w6 wr)) (fun _ _ i _=>R.length - (intOf i).toNat);case atStart=>exact⟨0,QB,by omega,rfl,rfl,Fb.2.symm,.inr ⟨_,rfl,by rw[Fb.1];rfl,by rw[Fb.1];rfl⟩,by rw[q.out];exact a8 _ _⟩
 case round =>
  obtain⟨k,db,hk,rfl,rfl,H,OW,u⟩:=hrel;have e9:=(u.cell (p:=(N X 1 Z)) P).trans c9;have z0:=(u.cell (p:=(N QH 0 Z)) Fk).trans y0;have z1:=(u.cell (p:=(N QH 1 Z)) Fk).trans y1;have hlen1:=FP.out k;by_cases n:k<R.length
  ·obtain⟨b,off,rfl,hbl,Fn⟩:=wV R6 (by omega)
   obtain⟨p0,p1⟩:=Fn k n;have Fe:=FO.out k;have Ff:=FQ.out k;generalize R.getD k dfR=rk at p0 p1 Fe Ff;have n7:=ae Fe;have n8:=ae Ff;clear Fe Ff;have ro:b<y:=by have:=q.out;omega
   have d0:=(u.cell (p:=(N b (off+k*2) Z)) ro).trans p0;have d1:=(u.cell (p:=(N b (off+k*2+1) Z)) ro).trans p1;clear Fn;cases db with
   | true =>
    have HI:Hid (QP (k+1)=QP k++[rk]):=by show _=_;rw[n7.out,cM (by rw[<-H.out];simp)]
    have HN:Hid (QD=QO (k+1)):=by show QD=_;rw[n8.out,<-H.out];rfl
    go_wp2_with (at_builtin;(refine ei rfl (.tmp 66) (.tmp 72) 27 rfl y 125 bt (QG #[U ⟨#[]⟩,Y Z 0 0]) 2 40 Tryz.underlying27 fd la ex mv rfl (by decide) _ (QP k).length ((QP k).flatMap bc) (by simp[Act.eval]) (kN OW _) (N wr.heap.size 0 Z) 1 (bc rk) (by simp[Act.eval]) rfl (cL wr _ _ _) (by simp[bc,Value.oneCell']) (by unfold maxLen;omega) (by omega) (by have:=u.size;have:=q.out;simp;omega) ?_;intro vy wy f l;have OY:=ae f;have BY:=ae ((u.alloc (by have:=u.size;have:=q.out;omega) _).trans l);clear f l));exact⟨⟨k+1,QD,by omega,by go_num,rfl,HN,.inl (by rw[HI.out,eI,EQ];simpa using OY.out),BY.out⟩,by simp[intOf];omega⟩
   | false =>
    cases hq:aw t rk.1.name with
    | true =>
     have HI:Hid (QP (k+1)=QP k++[(⟨t,m,g⟩,gb,o)]++[rk]):=by show _=_;rw[n7.out,gM ⟨H.symm,hq⟩]
     have HN:Hid (QD=QO (k+1)):=by show QD=_;rw[n8.out,hq];simp
     obtain⟨q1,q2⟩:=gY hq;clear hq;go_wp2_with (at_builtin;first | (refine ei rfl (.tmp 62) (.tmp 64) 27 rfl y 125 bt (QG #[U ⟨#[]⟩,Y Z 0 0]) 2 40 Tryz.underlying27 fd la ex mv rfl (by decide) _ (QP k).length ((QP k).flatMap bc) (by simp[Act.eval]) (kN OW _) (N wr.heap.size 0 Z) 1 (bc (⟨t,m,g⟩,gb,o)) (by simp[Act.eval]) rfl (cL wr _ _ _) (by simp[bc,Value.oneCell']) (by unfold maxLen;omega) (by omega) (by have:=u.size;have:=q.out;simp;omega) ?_;intro vx wx f l;have FJ:=ae f;have BX:=ae ((u.alloc (by have:=u.size;have:=q.out;omega) _).trans l);have f9:=(BX.cell (p:=(N X 1 Z)) P).trans c9;have g0:=(BX.cell (p:=(N b (off+k*2) Z)) ro).trans p0;have g1:=(BX.cell (p:=(N b (off+k*2+1) Z)) ro).trans p1;clear f l) | (refine ei rfl (.tmp 66) (.tmp 72) 27 rfl y 125 bt (QG #[U ⟨#[]⟩,Y Z 0 0]) 2 40 Tryz.underlying27 fd la ex mv rfl (by decide) _ ((QP k).length+1) ((QP k).flatMap bc++bc (⟨t,m,g⟩,gb,o)) (by simp[Act.eval]) (.inl (FJ.alloc _)) (N wx.heap.size 0 Z) 1 (bc rk) (by simp[Act.eval]) rfl (cL wx _ _ _) (by simp[bc,Value.oneCell']) (by unfold maxLen;omega) (by omega) (by have:=BX.size;have:=q.out;simp;omega) ?_;intro vy wy f l;have OY:=ae f;have BY:=ae ((BX.alloc (by have:=BX.size;have:=q.out;omega) _).trans l);clear f l));exact⟨⟨k+1,QD,by omega,by go_num,rfl,HN,.inl (by rw[HI.out,eI,eI,EQ,EQ];simpa using OY.out),BY.out⟩,by simp[intOf];omega⟩
    | false =>
     have HI:Hid (QP (k+1)=QP k++[rk]):=by show _=_;rw[n7.out,cM (by rw[hq];simp)]
     have HN:Hid (QB=QO (k+1)):=by show QB=_;rw[n8.out,<-H.out,hq];rfl
     have HQ:=ae (jb hq);clear hq;rcases HQ.out with q1 | ⟨q1,q2⟩
     all_goals
      go_wp2_with (at_builtin;(refine ei rfl (.tmp 66) (.tmp 72) 27 rfl y 125 bt (QG #[U ⟨#[]⟩,Y Z 0 0]) 2 40 Tryz.underlying27 fd la ex mv rfl (by decide) _ (QP k).length ((QP k).flatMap bc) (by simp[Act.eval]) (kN OW _) (N wr.heap.size 0 Z) 1 (bc rk) (by simp[Act.eval]) rfl (cL wr _ _ _) (by simp[bc,Value.oneCell']) (by unfold maxLen;omega) (by omega) (by have:=u.size;have:=q.out;simp;omega) ?_;intro vy wy f l;have OY:=ae f;have BY:=ae ((u.alloc (by have:=u.size;have:=q.out;omega) _).trans l);clear f l));exact⟨⟨k+1,QB,by omega,by go_num,rfl,HN,.inl (by rw[HI.out,eI,EQ];simpa using OY.out),BY.out⟩,by simp[intOf];omega⟩
  ·have e:R.length=k:=by omega
   subst e;cases db with
   | true =>
    have n6:fa R (⟨t,m,g⟩,gb,o) t=QP R.length:=by rw[Ft.out,gM H.symm]
    have ow:=OW.resolve_right (by rintro⟨b,_,h0,_⟩;exact Fy _ H.symm h0);obtain⟨va,vc,rfl⟩:=dV ow (by have:=Fy.out _ H.symm;omega);have OF:Hid (wr.ownsRow y 125 2 (Y (T (N va 0 Z)) (QP R.length).length vc) (fa R (⟨t,m,g⟩,gb,o) t).length ((fa R (⟨t,m,g⟩,gb,o) t).flatMap bc)):=by show World.ownsRow _ _ _ _ _ _ _;rw[n6];exact ow
    have e8:=(u.cell (p:=(N X 0 Z)) P).trans c8;have y9:=(u.frozen (p:=(N X 1 Z)) P).trans Fq;obtain⟨r0,q0⟩:=(X6.below u (by omega)).r0;obtain⟨r1,q1⟩:=(X6.below u (by omega)).r1;have H3:=ae n6;clear n6 ow OW;go_wp2;refine ?_;have GB:=ae (FC.trans (u.mono (by omega)));refine bp (v:=.tuple #[QG #[Y QN B.length M,Y (T (N va 0 Z)) (QP R.length).length vc],J I 0]) (by simp[results,Tryz.results21,go_sem,r0,r1]) rfl ⟨_,_,fa R (⟨t,m,g⟩,gb,o) t,rfl,aE (aV (aV (OX _ ((GB).setCell (p:=(N X 1 Z)) ly _)) (R:=w.heap.size+2) (j:=0) (by omega) _) (R:=w.heap.size+2) (j:=1) (by omega) _) (by omega),?_,(sZ R (⟨t,m,g⟩,gb,o) t).trans (by rw[HM.out];exact E.symm),(((B3.trans ((GB).mono Fs)).setCell (by simp;omega) _).setCell (by simp;omega) _).setCell (by simp;omega) _⟩;exact te (X:=X) (QJ:=w.heap.size+2) (bL:=y) (lo:=CD.heap.size) RX GB u sm OF DQ q (by omega) (by omega) (by omega) (by omega) Fp
   | false =>
    go_wp2_with (at_builtin;(refine ei rfl (.tmp 76) (.tmp 78) 27 rfl y 125 bt (QG #[U ⟨#[]⟩,Y Z 0 0]) 2 40 Tryz.underlying27 fd la ex mv rfl (by decide) _ (QP R.length).length ((QP R.length).flatMap bc) (by simp[Act.eval]) (kN OW _) (N wr.heap.size 0 Z) 1 (bc (⟨t,m,g⟩,gb,o)) (by simp[Act.eval]) rfl (cL wr _ _ _) (by simp[bc,Value.oneCell']) (by unfold maxLen;omega) (by omega) (by have:=u.size;have:=q.out;simp;omega) ?_;intro vz wz f l;obtain⟨gs,cs,rfl⟩:=dV f (Nat.succ_pos _);have OZ:=ae f;have BZ:=ae ((u.alloc (by have:=u.size;have:=q.out;omega) _).trans l);have f8:=(BZ.cell (p:=(N X 0 Z)) P).trans c8;have f9:=(BZ.cell (p:=(N X 1 Z)) P).trans c9;have y9:=(BZ.frozen (p:=(N X 1 Z)) P).trans Fq;obtain⟨r0,q0⟩:=(X6.below BZ (by have:=q.out;omega)).r0;obtain⟨r1,q1⟩:=(X6.below BZ (by have:=q.out;omega)).r1;clear f l));have n6:fa R (⟨t,m,g⟩,gb,o) t=QP R.length++[(⟨t,m,g⟩,gb,o)]:=by rw[Ft.out,cM (by rw[<-H.out];simp)]
    have OF:Hid (wz.ownsRow y 125 2 (Y (T (N gs 0 Z)) ((QP R.length).length+1) cs) (fa R (⟨t,m,g⟩,gb,o) t).length ((fa R (⟨t,m,g⟩,gb,o) t).flatMap bc)):=by show World.ownsRow _ _ _ _ _ _ _;rw[n6,eI,EQ];simpa using OZ.out
    have GB:=ae (FC.trans (BZ.mono (by omega)));refine bp (v:=.tuple #[QG #[Y QN B.length M,Y (T (N gs 0 Z)) ((QP R.length).length+1) cs],J I 0]) (by simp[results,Tryz.results21,go_sem,r0,r1]) rfl ⟨_,_,fa R (⟨t,m,g⟩,gb,o) t,rfl,aE (aV (aV (OX _ ((GB).setCell (p:=(N X 1 Z)) ly _)) (R:=w.heap.size+2) (j:=0) (by omega) _) (R:=w.heap.size+2) (j:=1) (by omega) _) (by omega),?_,(sZ R (⟨t,m,g⟩,gb,o) t).trans (by rw[HM.out];exact E.symm),(((B3.trans ((GB).mono Fs)).setCell (by simp;omega) _).setCell (by simp;omega) _).setCell (by simp;omega) _⟩;exact te (X:=X) (QJ:=w.heap.size+2) (bL:=y) (lo:=CD.heap.size) RX GB BZ sm OF DQ q (by omega) (by omega) (by omega) (by omega) Fp
end Go.Proofs.YtamacmnikdejeaaGreatDoor.Vp
