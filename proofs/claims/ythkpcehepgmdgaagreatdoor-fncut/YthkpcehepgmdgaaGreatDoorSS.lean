import Derived.Test.YthkpcehepgmdgaaGreatDoorSP
import Derived.Shelf.Spec.SlicesInsert
import Derived.Laws.CopyRow
import Derived.Lib.AppendZerosOnto
set_option linter.unusedSimpArgs false
open Go renaming Addr.mk->Q,Value.slice->Z,Value.string->U,Obj.cells->N,World->G,Value->ZD,TypeId->ZI,World.alloc->J,World.cell?->ZT
open Option renaming none->Y,some->T
open Bool renaming false->ZB
open List renaming length->I
namespace Go.Proofs.YthkpcehepgmdgaaGreatDoor.Vp
open RowKit
variable {w:G}{b:Type}{l:ZD}{P:Program}{x:TR}{t:ByteArray}{R:List TR}
def iU (n0:Nat)(f0:Nat->Source)(n1:Nat)(f1:Nat->Target)(t:ByteArray)(m:Nat)(b:Nat->Ins):List Source:=if lv n0 f0 n1 f1 t (valid b m)=0 then keepS f0 t n0 else []
def lC (n0:Nat)(f0:Nat->Source)(n1:Nat)(f1:Nat->Target)(t:ByteArray)(m:Nat)(b:Nat->Ins):List Target:=if lv n0 f0 n1 f1 t (valid b m)=0 then tR (keepT f1 t n1) ⟨t,m,b⟩ t else []
structure Trio (w:G)(h:Nat)(p0 p1 p2:ZD):Prop where
 lt:h+2<w.heap.size
 a0:ZT w (Q h 0 Y)=T p0
 a1:ZT w (Q h 1 Y)=T p1
 b0:ZT w (Q (h+1) 0 Y)=T p2
 r0:ZT w (Q (h+2) 0 Y)=T (Z Y 0 0)/\w.frozen? (Q (h+2) 0 Y)=ZB
 r1:ZT w (Q (h+2) 1 Y)=T (Z Y 0 0)/\w.frozen? (Q (h+2) 1 Y)=ZB
theorem Trio.aa{g:G}{h B:Nat}{m j:ZD}(b:Trio w h m j l)(hb:Below B w g)(hB:h+3<=B):Trio g h m j l:=by have c:∀k o,k<B->ZT g (Q k o Y)=ZT w (Q k o Y):=λk o i=>hb.cell (p:=(Q k o Y)) i;have f:∀k o,k<B->g.frozen? (Q k o Y)=w.frozen? (Q k o Y):=λk o i=>hb.frozen (p:=(Q k o Y)) i;exact⟨lj b.lt hb.size,(c _ _ (by omega)).trans b.a0,(c _ _ (by omega)).trans b.a1,(c _ _ (by omega)).trans b.b0,⟨(c _ _ (by omega)).trans b.r0.1,(f _ _ (by omega)).trans b.r0.2⟩,⟨(c _ _ (by omega)).trans b.r1.1,(f _ _ (by omega)).trans b.r1.2⟩⟩
theorem BK (w:G)(f b g:ZD)(t u:ZI):Trio (J (J (J w (N #[f,b] t)) (N #[g] u)) (N #[Z Y 0 0,Z Y 0 0] t)) w.heap.size f b g:=by
 have j:Below (w.heap.size+1) (J w (N #[f,b] t)) (J (J w (N #[f,b] t)) (N #[g] u)):=br.alloc (by simp) _;have i:Below (w.heap.size+2) (J (J w (N #[f,b] t)) (N #[g] u)) (J (J (J w (N #[f,b] t)) (N #[g] u)) (N #[Z Y 0 0,Z Y 0 0] t)):=br.alloc (by simp) _;have hz:(J w (N #[f,b] t)).heap.size=w.heap.size+1:=by simp
 have h:(J (J w (N #[f,b] t)) (N #[g] u)).heap.size=w.heap.size+2:=by simp
 refine⟨by simp,?_,?_,?_,⟨?_,?_⟩,⟨?_,?_⟩⟩;{exact(i.cell (p:=(Q w.heap.size 0 Y)) (by simp)).trans ((j.cell (p:=(Q w.heap.size 0 Y)) (by simp)).trans (by simp))};{exact(i.cell (p:=(Q w.heap.size 1 Y)) (by simp)).trans ((j.cell (p:=(Q w.heap.size 1 Y)) (by simp)).trans (by simp))};{refine(i.cell (p:=(Q (w.heap.size+1) 0 Y)) (by simp)).trans ?_;rw[<-hz];clear j i hz h;generalize J w (N #[f,b] t)=W;simp};all_goals
  rw[<-h];clear j i hz h;generalize J (J w (N #[f,b] t)) (N #[g] u)=W;simp
theorem vw (f:Nat)(t ty e:ZI)(i:TypeInfo)(z:ZD)(size h:Nat)(D:P.underlying t=T (.slice e))(hi:P.info? e=T i)(hz:i.zero=T z)
  (n:i.size=size) (r:i.bytes=h) (s:z.cells.size=size)
  (b:Nat) (a:Addr) (c:Nat) (news:List ZD) (m:I news=1*size) (o:∀j u,news[j]?=T u->w.cell? (a.add j)=T u)
  (l:1*h<=140737488355328) (g:f<=w.heap.size) :
  ∃x q,(Builtin.append_ #[t,t] ty #[Z (T (Q b 0 Y)) 0 0,Z (T a) 1 c]).run P w=.ok x q/\q.ownsRow f e size x 1 news/\Below f w q:=by
 subst n r;have B:=run_append_grow (P:=P) w t ty e i z D hi hz (Q b 0 Y) 0 0 [] (by simp) (by intro j v C;simp at C) a 1 c news m o (by omega) (by omega) (growslice_fits (by omega) (by simpa using l));have p:=grownCap_ge w (0+1) 0 e;have y:grownCap w (0+1) 0 e<=maxLen:=grownCap_le_maxLen w (0+1) 0 e (by unfold maxLen;omega);refine⟨_,_,B,⟨by simpa using m,.inr ⟨w.heap.size,_,_,rfl,g,nD w.drew _,p,y,?_,?_⟩⟩,rfl,rfl,rfl,by simp,λk A=>UI w.drew _ (lj A g)⟩;{simp only[Array.size_append,MX,size_zeroCells,s,m,J1,E4,<-Nat.add_mul];congr 1;have:=p;simp only[E4] at this;omega};{simp only[Array.toList_append,J2];rw[<-m];exact List.take_left}
theorem eK{ZS:Array Oper}{rest:List Oper}{o:Oper}{a:Act}{ZN:Exit->Act->G->Prop}(H:o.guard=Y)(s x:Operand)(t:ZI)
  (ZO:o.op=.call { callee:=.builtin .append,args:=#[s,x],argTypes:=#[t,t] })
  (f:Nat) (e:ZI) (i:TypeInfo) (z:ZD) (size g:Nat) (M:P.underlying t=T (.slice e)) (hi:P.info? e=T i) (hz:i.zero=T z)
  (r:i.size=size) (E:i.bytes=g) (D:z.cells.size=size) (L:0<size)
  (v:ZD) (n:Nat) (C:List ZD) (R:a.eval s=v) (l:w.ownsRow f e size v n C∨∃b,v=Z (T (Q b 0 Y)) 0 0/\n=0/\C=[])
  (B:Addr) (c:Nat) (news:List ZD) (K:a.eval x=Z (T B) 1 c) (O:I news=1*size) (y:∀j u,news[j]?=T u->w.cell? (B.add j)=T u) (h1:∀u∈news,u.oneCell'=true)
  (ZP:n+1<=maxLen) (A:(n+1)*g<=140737488355328) (m:f<=w.heap.size)
  (h:∀q p,p.ownsRow f e size q (n+1) (C++news)->Below f w p->wpList P ZS ZN rest (a.put o.dst q) p):wpList P ZS ZN (o::rest) a w:=by
 rcases l with l|⟨b,rfl,rfl,rfl⟩
 {exact DD w H s x t ZO f e i z size g M hi hz r E D L v n C R l B 1 c news K O y h1 ZP A m λq p h2 ZQ _=>h q p h2 (bg (cM f w) ZQ m (λj e=>(l.lt j e).1))};{obtain⟨q,p,S,h2,ZQ⟩:=vw (w:=w) f t o.type e i z size g M hi hz r E D b B c news O y (by omega) m;exact Lib.wpList_append_run w H s x t t ZO _ _ R K q p S (h q p (by simpa using h2) ZQ)}
theorem pD (g:Nat->ByteArray)(F:Nat->b)(x:b)(t:ByteArray)(k:Nat):(fy g t k=ZB->eS g F x t k=(List.range k).map F)/\(fy g t k=true->∃A B,(List.range k).map F=A++B/\eS g F x t k=A++x::B):=by
 induction k with
 |zero=>simp[eS,fy]
 |succ j f =>
  have e:(List.range (j+1)).map F=(List.range j).map F++[F j]:=by rw[LP,AI];rfl
  rw[e];simp only[eS,fy];cases hd:fy g t j with
  |false =>
   have h1:=f.1 hd;cases hl:aX t (g j) with
   |true=>simpa[h1] using⟨(List.range j).map F,[F j],rfl,by simp⟩
   |false=>simp[h1]
  |true =>obtain⟨A,B,h1,h2⟩:=f.2 hd;simp only[Bool.true_or,Bool.true_eq_false,false_and,QE,true_implies,false_implies,TG];exact⟨A,B++[F j],by rw[h1];simp,by rw[h2];simp⟩
theorem xX (g:Nat->ByteArray)(F:Nat->b)(x:b)(t:ByteArray)(n:Nat):∃A B,(List.range n).map F=A++B/\lw g F x t n=A++x::B:=by
 obtain⟨h1,h2⟩:=pD g F x t n;unfold lw;cases hd:fy g t n with
 |true=>simpa using h2 hd
 |false=>exact⟨(List.range n).map F,[],by simp,by simp[h1 hd]⟩
theorem xY (R:List b)(d:b):(List.range (I R)).map (λj=>R.getD j d)=R:=by
 apply List.ext_getElem;{simp};{intro i h1 h2;simp at h1;simp[CP,h1]}
theorem tW{f:Type}(p:b->f)(R:List b)(d:b)(j:Nat):p (R.getD j d)=(R.map p).getD j (p d):=by simp[CP]
theorem BR{f:Nat}{o v:ZD}{A B:List TR}(h:TRow w f o (A++B))(n:RowIns w x.2.1 0 x.1.l x.1.u/\(∃F,Cells w x.2.1 0 (x.1.l*3) F)/\TypeAt w x.2.1 90/\f<=x.2.1)
  (i:∀r∈A++B,r.2.1≠x.2.1) (j:w.ownsRow f 94 2 v (A++x::B).length ((A++x::B).flatMap aY)):TRow w f v (A++x::B):=by
 refine⟨j,λr g=>?_,?_⟩;{rcases n6.1 g with g|g;{exact h.u r (n6.2 (.inl g))};{rcases BS.1 g with rfl|g;{exact n};{exact h.u r (n6.2 (.inr g))}}};{have l:=MN.1 h.up;refine MN.2 ⟨l.1,List.pairwise_cons.2 ⟨λb hb e=>i b (n6.2 (.inr hb)) e.symm,l.2.1⟩,λa m b hb=>?_⟩;rcases BS.1 hb with rfl|hb;{exact i a (n6.2 (.inl m))};{exact l.2.2 a m b hb}}
theorem EI{g:Nat->ByteArray}{F:Nat->b}{x:b}{k:Nat}(h:fy g t k=true):(eS g F x t k).length≠0:=by obtain⟨A,B,_,h2⟩:=(pD g F x t k).2 h;rw[h2];simp
theorem xZ{l c:Nat}{a:Option Addr}(h:TRow w l (Z a (I R) c) R)(hn:0<I R):∃b off,a=T (Q b off Y)/\b<w.heap.size/\∀i,i<I R->ZT w (Q b (off+i*2) Y)=T (U (R.getD i dfR).1.e)/\ZT w (Q b (off+i*2+1) Y)=T (Z (T ⟨(R.getD i dfR).2.1,0,Y⟩) (R.getD i dfR).1.l (R.getD i dfR).2.2):=by
 obtain⟨g,c',e⟩:=ef h.y hn;simp at e;obtain⟨rfl,rfl⟩:=e;refine⟨g,0,rfl,(cu h.y).2,λi hi=>?_⟩;have f:R[i]?=T (R.getD i dfR):=by rw[CP,gq hi];rfl
 generalize R.getD i dfR=r at f;refine⟨?_,?_⟩;{have:=(a8 h.y (j:=i*2) (u:=U r.1.e) (by have:=cL aY 2 (λ_=>rfl) R i 0 (by omega) _ f;simpa[aY] using this)).1;rwa[show 0+i*2=i*2 by omega]};{have:=(a8 h.y (j:=i*2+1) (u:=Z (T (Q r.2.1 0 Y)) r.1.l r.2.2) (by have:=cL aY 2 (λ_=>rfl) R i 1 (by omega) _ f;simpa[aY] using this)).1;rwa[show 0+i*2+1=i*2+1 by omega]}
def fw (R:List TR)(x:TR)(t:ByteArray):List TR:=lw (nm1 (bj (R.map λr:TR=>r.1))) (λj=>R.getD j dfR) x t (I R)
theorem wH (R:List TR)(j:Nat):nm1 (bj (R.map λr:TR=>r.1)) j=(R.getD j dfR).1.e:=by exact CD Target.e (tW (λr:TR=>r.1) R dfR j).symm
theorem tX (R:List TR)(x:TR)(t:ByteArray):(fw R x t).map (λr:TR=>r.1)=tR (R.map λr:TR=>r.1) x.1 t:=by unfold fw tR;rw[Bu,LR];congr 1;funext j;exact tW (λr:TR=>r.1) R dfR j
theorem BU{b:Nat}{v:ZD}(h:TRow w b l R)(i:RowIns w x.2.1 0 x.1.l x.1.u/\(∃F,Cells w x.2.1 0 (x.1.l*3) F)/\TypeAt w x.2.1 90/\b<=x.2.1)
  (g:∀r∈R,r.2.1≠x.2.1) (f:w.ownsRow b 94 2 v (fw R x t).length ((fw R x t).flatMap aY)):TRow w b v (fw R x t):=by
 obtain⟨A,B,h1,h2⟩:=xX (nm1 (bj (R.map λr:TR=>r.1))) (λj=>R.getD j dfR) x t (I R);rw[xY] at h1;unfold fw at f ⊢;rw[h2] at f ⊢;subst h1;exact BR h i g f
theorem EJ{b g c:Nat}{x:Target}(h:w.ownsRow b 90 3 (Z (T (Q g 0 Y)) x.l c) x.l (bK x.u x.l)):RowIns w g 0 x.l x.u/\(∃F,Cells w g 0 (x.l*3) F)/\TypeAt w g 90/\b<=g:=by obtain⟨h1,h2⟩:=gV h;exact⟨h1,h2,fU h,(cu h).1⟩
