import Derived.Test.YtpmnbjkjpnclaaaGreatDoorLN
import Derived.Shelf.Spec.SlicesInsert
import Derived.Laws.CopyRow
import Derived.Lib.AppendZerosOnto
set_option linter.unusedSimpArgs false
open Go renaming Addr.mk->N,Value.slice->Y,Value.string->U,Obj.cells->J,World->M,Value->ZB,TypeId->ZH,World.alloc->I,World.cell?->Q
open Option renaming none->Z,some->T
open Bool renaming false->ZA
namespace Go.Proofs.YtpmnbjkjpnclaaaGreatDoor.Vp
open RowKit
variable {w:M}{b:Type}{P:Program}{x:TR}{t:ByteArray}{R:List TR}
def iv (n0:Nat)(f0:Nat->Source)(n1:Nat)(f1:Nat->Target)(t:ByteArray)(m:Nat)(b:Nat->Ins):List Source:=if jV n0 f0 n1 f1 t (valid b m)=0 then keepS f0 t n0 else []
def jZ (n0:Nat)(f0:Nat->Source)(n1:Nat)(f1:Nat->Target)(t:ByteArray)(m:Nat)(b:Nat->Ins):List Target:=if jV n0 f0 n1 f1 t (valid b m)=0 then sA (keepT f1 t n1) ⟨t,m,b⟩ t else []
structure Trio (w:M)(h:Nat)(p0 p1 p2:ZB):Prop where
 lt:h+2<w.heap.size
 a0:Q w (N h 0 Z)=T p0
 a1:Q w (N h 1 Z)=T p1
 b0:Q w (N (h+1) 0 Z)=T p2
 r0:Q w (N (h+2) 0 Z)=T (Y Z 0 0)/\w.frozen? (N (h+2) 0 Z)=ZA
 r1:Q w (N (h+2) 1 Z)=T (Y Z 0 0)/\w.frozen? (N (h+2) 1 Z)=ZA
theorem Trio.aa{g:M}{h B:Nat}{l m j:ZB}(b:Trio w h l m j)(hb:Below B w g)(hB:h+3<=B):Trio g h l m j:=by have c:∀k o,k<B->Q g (N k o Z)=Q w (N k o Z):=λk o i=>hb.cell (p:=(N k o Z)) i;have f:∀k o,k<B->g.frozen? (N k o Z)=w.frozen? (N k o Z):=λk o i=>hb.frozen (p:=(N k o Z)) i;exact⟨lj b.lt hb.size,(c _ _ (by omega)).trans b.a0,(c _ _ (by omega)).trans b.a1,(c _ _ (by omega)).trans b.b0,⟨(c _ _ (by omega)).trans b.r0.1,(f _ _ (by omega)).trans b.r0.2⟩,⟨(c _ _ (by omega)).trans b.r1.1,(f _ _ (by omega)).trans b.r1.2⟩⟩
theorem Ag (w:M)(b f g:ZB)(t u:ZH):Trio (((I w (J #[b,f] t)).alloc (J #[g] u)).alloc (J #[Y Z 0 0,Y Z 0 0] t)) w.heap.size b f g:=by
 have j:Below (w.heap.size+1) (I w (J #[b,f] t)) ((I w (J #[b,f] t)).alloc (J #[g] u)):=br.alloc (by simp) _;have i:Below (w.heap.size+2) ((I w (J #[b,f] t)).alloc (J #[g] u)) (((I w (J #[b,f] t)).alloc (J #[g] u)).alloc (J #[Y Z 0 0,Y Z 0 0] t)):=br.alloc (by simp) _;have hz:(I w (J #[b,f] t)).heap.size=w.heap.size+1:=by simp
 have h:((I w (J #[b,f] t)).alloc (J #[g] u)).heap.size=w.heap.size+2:=by simp
 refine⟨by simp,?_,?_,?_,⟨?_,?_⟩,⟨?_,?_⟩⟩;{exact(i.cell (p:=(N w.heap.size 0 Z)) (by simp)).trans ((j.cell (p:=(N w.heap.size 0 Z)) (by simp)).trans (by simp))};{exact(i.cell (p:=(N w.heap.size 1 Z)) (by simp)).trans ((j.cell (p:=(N w.heap.size 1 Z)) (by simp)).trans (by simp))};{refine(i.cell (p:=(N (w.heap.size+1) 0 Z)) (by simp)).trans ?_;rw[<-hz];clear j i hz h;generalize I w (J #[b,f] t)=W;simp};all_goals
  rw[<-h];clear j i hz h;generalize (I w (J #[b,f] t)).alloc (J #[g] u)=W;simp
theorem uh (f:Nat)(t ty e:ZH)(i:TypeInfo)(z:ZB)(size h:Nat)(C:P.underlying t=T (.slice e))(hi:P.info? e=T i)(hz:i.zero=T z)
  (m:i.size=size) (y:i.bytes=h) (x:z.cells.size=size)
  (b:Nat) (a:Addr) (c:Nat) (news:List ZB) (o:news.length=1*size) (n:∀j u,news[j]?=T u->w.cell? (a.add j)=T u)
  (l:1*h<=140737488355328) (g:f<=w.heap.size) :
  ∃s q,(Builtin.append_ #[t,t] ty #[Y (T (N b 0 Z)) 0 0,Y (T a) 1 c]).run P w=.ok s q/\q.ownsRow f e size s 1 news/\Below f w q:=by
 subst m y;have B:=run_append_grow (P:=P) w t ty e i z C hi hz (N b 0 Z) 0 0 [] (by simp) (by intro j v D;simp at D) a 1 c news o n (by omega) (by omega) (growslice_fits (by omega) (by simpa using l));have p:=grownCap_ge w (0+1) 0 e;have r:grownCap w (0+1) 0 e<=maxLen:=grownCap_le_maxLen w (0+1) 0 e (by unfold maxLen;omega);refine⟨_,_,B,⟨by simpa using o,.inr ⟨w.heap.size,_,_,rfl,g,gM w.drew _,p,r,?_,?_⟩⟩,rfl,rfl,rfl,by simp,λk A=>heap_alloc_old w.drew _ (lj A g)⟩;{simp only[Array.size_append,LG,size_zeroCells,x,o,JJ,JC,<-Nat.add_mul];congr 1;have:=p;simp only[JC] at this;omega};{simp only[Array.toList_append,JW];rw[<-o];exact List.take_left}
theorem dO{D:Array Oper}{rest:List Oper}{o:Oper}{a:Act}{ZN:Exit->Act->M->Prop}(G:o.guard=Z)(s x:Operand)(t:ZH)
  (ZM:o.op=.call { callee:=.builtin .append,args:=#[s,x],argTypes:=#[t,t] })
  (f:Nat) (e:ZH) (i:TypeInfo) (z:ZB) (size g:Nat) (ZO:P.underlying t=T (.slice e)) (hi:P.info? e=T i) (hz:i.zero=T z)
  (r:i.size=size) (H:i.bytes=g) (E:z.cells.size=size) (K:0<size)
  (v:ZB) (n:Nat) (C:List ZB) (ZQ:a.eval s=v) (l:w.ownsRow f e size v n C∨∃b,v=Y (T (N b 0 Z)) 0 0/\n=0/\C=[])
  (B:Addr) (c:Nat) (news:List ZB) (R:a.eval x=Y (T B) 1 c) (O:news.length=1*size) (y:∀j u,news[j]?=T u->w.cell? (B.add j)=T u) (h1:∀u∈news,u.oneCell'=true)
  (L:n+1<=maxLen) (A:(n+1)*g<=140737488355328) (m:f<=w.heap.size)
  (h:∀q p,p.ownsRow f e size q (n+1) (C++news)->Below f w p->wpList P D ZN rest (a.put o.dst q) p):wpList P D ZN (o::rest) a w:=by
 rcases l with l|⟨b,rfl,rfl,rfl⟩
 {exact IS w G s x t ZM f e i z size g ZO hi hz r H E K v n C ZQ l B 1 c news R O y h1 L A m λq p h2 ZP _=>h q p h2 (bg (cM f w) ZP m (λj e=>(l.lt j e).1))};{obtain⟨q,p,S,h2,ZP⟩:=uh (w:=w) f t o.type e i z size g ZO hi hz r H E b B c news O y (by omega) m;exact Lib.wpList_append_run w G s x t t ZM _ _ ZQ R q p S (h q p (by simpa using h2) ZP)}
theorem oC (g:Nat->ByteArray)(F:Nat->b)(x:b)(t:ByteArray)(k:Nat):(eO g t k=ZA->dY g F x t k=(List.range k).map F)/\(eO g t k=true->∃A B,(List.range k).map F=A++B/\dY g F x t k=A++x::B):=by
 induction k with
 |zero=>simp[dY,eO]
 |succ j f =>
  have e:(List.range (j+1)).map F=(List.range j).map F++[F j]:=by rw[KV,JS];rfl
  rw[e];simp only[dY,eO];cases hd:eO g t j with
  |false =>
   have h1:=f.1 hd;cases hl:aG t (g j) with
   |true=>simpa[h1] using⟨(List.range j).map F,[F j],rfl,by simp⟩
   |false=>simp[h1]
  |true =>obtain⟨A,B,h1,h2⟩:=f.2 hd;simp only[Bool.true_or,Bool.true_eq_false,false_and,P2,true_implies,false_implies,P6];exact⟨A,B++[F j],by rw[h1];simp,by rw[h2];simp⟩
theorem wK (g:Nat->ByteArray)(F:Nat->b)(x:b)(t:ByteArray)(n:Nat):∃A B,(List.range n).map F=A++B/\jW g F x t n=A++x::B:=by
 obtain⟨h1,h2⟩:=oC g F x t n;unfold jW;cases hd:eO g t n with
 |true=>simpa using h2 hd
 |false=>exact⟨(List.range n).map F,[],by simp,by simp[h1 hd]⟩
theorem wL (R:List b)(d:b):(List.range R.length).map (λj=>R.getD j d)=R:=by
 apply List.ext_getElem;{simp};{intro i h1 h2;simp at h1;simp[JB,h1]}
theorem sE{f:Type}(p:b->f)(R:List b)(d:b)(j:Nat):p (R.getD j d)=(R.map p).getD j (p d):=by simp[JB]
theorem Ah{f:Nat}{n v:ZB}{A B:List TR}(h:TRow w f n (A++B))(o:RowIns w x.2.1 0 x.1.m x.1.D/\(∃F,Cells w x.2.1 0 (x.1.m*3) F)/\TypeAt w x.2.1 151/\f<=x.2.1)
  (i:∀r∈A++B,r.2.1≠x.2.1) (l:w.ownsRow f 146 2 v (A++x::B).length ((A++x::B).flatMap aS)):TRow w f v (A++x::B):=by
 refine⟨l,λr g=>?_,?_⟩;{rcases BC.1 g with g|g;{exact h.D r (BC.2 (.inl g))};{rcases BO.1 g with rfl|g;{exact o};{exact h.D r (BC.2 (.inr g))}}};{have j:=KT.1 h.up;refine KT.2 ⟨j.1,LM.2 ⟨λb hb e=>i b (BC.2 (.inr hb)) e.symm,j.2.1⟩,λa m b hb=>?_⟩;rcases BO.1 hb with rfl|hb;{exact i a (BC.2 (.inl m))};{exact j.2.2 a m b hb}}
theorem Dl{g:Nat->ByteArray}{F:Nat->b}{x:b}{k:Nat}(h:eO g t k=true):(dY g F x t k).length≠0:=by obtain⟨A,B,_,h2⟩:=(oC g F x t k).2 h;rw[h2];simp
theorem wM{l c:Nat}{a:Option Addr}(h:TRow w l (Y a R.length c) R)(hn:0<R.length):∃b off,a=T (N b off Z)/\b<w.heap.size/\∀i,i<R.length->Q w (N b (off+i*2) Z)=T (U (R.getD i dfR).1.e)/\Q w (N b (off+i*2+1) Z)=T (Y (T ⟨(R.getD i dfR).2.1,0,Z⟩) (R.getD i dfR).1.m (R.getD i dfR).2.2):=by
 obtain⟨g,c',e⟩:=dI h.x hn;simp at e;obtain⟨rfl,rfl⟩:=e;refine⟨g,0,rfl,(cO h.x).2,λi hi=>?_⟩;have f:R[i]?=T (R.getD i dfR):=by rw[JB,gq hi];rfl
 generalize R.getD i dfR=r at f;refine⟨?_,?_⟩;{have:=(aV h.x (j:=i*2) (u:=U r.1.e) (by have:=cF aS 2 (λ_=>rfl) R i 0 (by omega) _ f;simpa[aS] using this)).1;rwa[show 0+i*2=i*2 by omega]};{have:=(aV h.x (j:=i*2+1) (u:=Y (T (N r.2.1 0 Z)) r.1.m r.2.2) (by have:=cF aS 2 (λ_=>rfl) R i 1 (by omega) _ f;simpa[aS] using this)).1;rwa[show 0+i*2+1=i*2+1 by omega]}
def eG (R:List TR)(x:TR)(t:ByteArray):List TR:=jW (nm1 (bD (R.map λr:TR=>r.1))) (λj=>R.getD j dfR) x t R.length
theorem uY (R:List TR)(j:Nat):nm1 (bD (R.map λr:TR=>r.1)) j=(R.getD j dfR).1.e:=by exact A9 Target.e (sE (λr:TR=>r.1) R dfR j).symm
theorem sF (R:List TR)(x:TR)(t:ByteArray):(eG R x t).map (λr:TR=>r.1)=sA (R.map λr:TR=>r.1) x.1 t:=by unfold eG sA;rw[Ac,LI];congr 1;funext j;exact sE (λr:TR=>r.1) R dfR j
theorem Ai{b:Nat}{i v:ZB}(h:TRow w b i R)(l:RowIns w x.2.1 0 x.1.m x.1.D/\(∃F,Cells w x.2.1 0 (x.1.m*3) F)/\TypeAt w x.2.1 151/\b<=x.2.1)
  (g:∀r∈R,r.2.1≠x.2.1) (f:w.ownsRow b 146 2 v (eG R x t).length ((eG R x t).flatMap aS)):TRow w b v (eG R x t):=by
 obtain⟨A,B,h1,h2⟩:=wK (nm1 (bD (R.map λr:TR=>r.1))) (λj=>R.getD j dfR) x t R.length;rw[wL] at h1;unfold eG at f ⊢;rw[h2] at f ⊢;subst h1;exact Ah h l g f
theorem Dm{b g c:Nat}{x:Target}(h:w.ownsRow b 151 3 (Y (T (N g 0 Z)) x.m c) x.m (bX x.D x.m)):RowIns w g 0 x.m x.D/\(∃F,Cells w g 0 (x.m*3) F)/\TypeAt w g 151/\b<=g:=by obtain⟨h1,h2⟩:=jy h;exact⟨h1,h2,iK h,(cO h).1⟩
