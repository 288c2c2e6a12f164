import Derived.Test.YtamacmnikdejeaaGreatDoorYS
import Derived.Shelf.Spec.SlicesInsert
import Derived.Laws.CopyRow
import Derived.Lib.AppendZerosOnto
set_option maxRecDepth 100000
set_option maxHeartbeats 8000000
set_option linter.unusedSimpArgs false
open Go.Addr renaming mk->T
open Go.Value renaming slice->Y,string->U,int->I,agg->QV
open Option renaming none->Z,some->N
open Go.Obj renaming cells->Q
open Go.IntKind renaming i64->J
open Go renaming World->H,Value->QS
open Bool renaming false->QQ,true->QR
namespace Go.Proofs.YtamacmnikdejeaaGreatDoor.Vp
open RowKit
def fB (n0:Nat)(f0:Nat->Source)(n1:Nat)(f1:Nat->Target)(t:ByteArray)(m:Nat)(b:Nat->Ins):List Source:=if gT n0 f0 n1 f1 t (valid b m)=0 then keepS f0 t n0 else []
def fQ (n0:Nat)(f0:Nat->Source)(n1:Nat)(f1:Nat->Target)(t:ByteArray)(m:Nat)(b:Nat->Ins):List Target:=if gT n0 f0 n1 f1 t (valid b m)=0 then lJ (keepT f1 t n1) ⟨t,m,b⟩ t else []
structure Trio (w:H)(h:Nat)(p0 p1 p2:QS):Prop where
 lt:h+2<w.heap.size
 a0:w.cell? (T h 0 Z)=N p0
 a1:w.cell? (T h 1 Z)=N p1
 b0:w.cell? (T (h+1) 0 Z)=N p2
 r0:w.cell? (T (h+2) 0 Z)=N (Y Z 0 0)/\w.frozen? (T (h+2) 0 Z)=QQ
 r1:w.cell? (T (h+2) 1 Z)=N (Y Z 0 0)/\w.frozen? (T (h+2) 1 Z)=QQ
theorem Trio.below {w g:H}{h B:Nat}{j l m:QS}(b:Trio w h j l m)(hb:Below B w g)(hB:h+3<=B):Trio g h j l m:=by have c:∀ k o,k<B->g.cell? (T k o Z)=w.cell? (T k o Z):=fun k o i=>hb.cell (p:=(T k o Z)) i;have f:∀ k o,k<B->g.frozen? (T k o Z)=w.frozen? (T k o Z):=fun k o i=>hb.frozen (p:=(T k o Z)) i;exact⟨lj b.lt hb.size,(c _ _ (by omega)).trans b.a0,(c _ _ (by omega)).trans b.a1,(c _ _ (by omega)).trans b.b0,⟨(c _ _ (by omega)).trans b.r0.1,(f _ _ (by omega)).trans b.r0.2⟩,⟨(c _ _ (by omega)).trans b.r1.1,(f _ _ (by omega)).trans b.r1.2⟩⟩
theorem Cp (w:H)(b c f:QS)(t u:TypeId):Trio (((w.alloc (Q #[b,c] t)).alloc (Q #[f] u)).alloc (Q #[Y Z 0 0,Y Z 0 0] t)) w.heap.size b c f:=by
 have i:Below (w.heap.size+1) (w.alloc (Q #[b,c] t)) ((w.alloc (Q #[b,c] t)).alloc (Q #[f] u)):=br.alloc (by simp) _;have g:Below (w.heap.size+2) ((w.alloc (Q #[b,c] t)).alloc (Q #[f] u)) (((w.alloc (Q #[b,c] t)).alloc (Q #[f] u)).alloc (Q #[Y Z 0 0,Y Z 0 0] t)):=br.alloc (by simp) _;have hz:(w.alloc (Q #[b,c] t)).heap.size=w.heap.size+1:=by simp
 have h:((w.alloc (Q #[b,c] t)).alloc (Q #[f] u)).heap.size=w.heap.size+2:=by simp
 refine⟨by simp,?_,?_,?_,⟨?_,?_⟩,⟨?_,?_⟩⟩
 ·exact(g.cell (p:=(T w.heap.size 0 Z)) (by simp)).trans ((i.cell (p:=(T w.heap.size 0 Z)) (by simp)).trans (by simp))
 ·exact(g.cell (p:=(T w.heap.size 1 Z)) (by simp)).trans ((i.cell (p:=(T w.heap.size 1 Z)) (by simp)).trans (by simp))
 ·refine(g.cell (p:=(T (w.heap.size+1) 0 Z)) (by simp)).trans ?_
  rw[<-hz];clear i g hz h;generalize w.alloc (Q #[b,c] t)=W;simp
 all_goals
  rw[<-h];clear i g hz h;generalize (w.alloc (Q #[b,c] t)).alloc (Q #[f] u)=W;simp
theorem vr {P:Program}{w:H}(f:Nat)(t ty e:TypeId)(i:TypeInfo)(z:QS)(size g:Nat)(B:P.underlying t=N (.slice e))(hi:P.info? e=N i)(hz:i.zero=N z)
  (n:i.size=size) (r:i.bytes=g) (y:z.cells.size=size)
  (b:Nat) (a:Addr) (c:Nat) (news:List QS) (m:news.length=1*size) (o:∀ j u,news[j]?=N u->w.cell? (a.add j)=N u)
  (l:1*g<=140737488355328) (h:f<=w.heap.size) :
  ∃ x q,(Builtin.append_ #[t,t] ty #[Y (N (T b 0 Z)) 0 0,Y (N a) 1 c]).run P w=.ok x q/\q.ownsRow f e size x 1 news/\Below f w q:=by
 subst n r;have C:=run_append_grow (P:=P) w t ty e i z B hi hz (T b 0 Z) 0 0 [] (by simp) (by intro j v A;simp at A) a 1 c news m o (by omega) (by omega) (growslice_fits (by omega) (by simpa using l));have p:=grownCap_ge w (0+1) 0 e;have s:grownCap w (0+1) 0 e<=maxLen:=grownCap_le_maxLen w (0+1) 0 e (by unfold maxLen;omega);refine⟨_,_,C,⟨by simpa using m,.inr ⟨w.heap.size,_,_,rfl,h,cM w.drew _,p,s,?_,?_⟩⟩,rfl,rfl,rfl,by simp,fun k D=>MI w.drew _ (lj D h)⟩
 ·simp only[Array.size_append,LC,size_zeroCells,y,m,IS,DN,<-Nat.add_mul]
  congr 1;have:=p;simp only[DN] at this;omega
 ·simp only[Array.toList_append,JT]
  rw[<-m];exact List.take_left
theorem eK {P:Program}{w:H}{E:Array Oper}{rest:List Oper}{o:Oper}{a:Act}{Q0:Exit->Act->H->Prop}(F:o.guard=Z)(s x:Operand)(t:TypeId)
  (K:o.op=.call { callee:=.builtin .append,args:=#[s,x],argTypes:=#[t,t] })
  (f:Nat) (e:TypeId) (i:TypeInfo) (z:QS) (size g:Nat) (M:P.underlying t=N (.slice e)) (hi:P.info? e=N i) (hz:i.zero=N z)
  (r:i.size=size) (D:i.bytes=g) (G:z.cells.size=size) (L:0<size)
  (v:QS) (n:Nat) (C:List QS) (ZA:a.eval s=v) (l:w.ownsRow f e size v n C∨∃ b,v=Y (N (T b 0 Z)) 0 0/\n=0/\C=[])
  (B:Addr) (c:Nat) (news:List QS) (Q9:a.eval x=Y (N B) 1 c) (O:news.length=1*size) (y:∀ j u,news[j]?=N u->w.cell? (B.add j)=N u) (h1:∀ u∈news,u.oneCell'=QR)
  (QZ:n+1<=maxLen) (A:(n+1)*g<=140737488355328) (m:f<=w.heap.size)
  (h:∀ q p,p.ownsRow f e size q (n+1) (C++news)->Below f w p->wpList P E Q0 rest (a.put o.dst q) p):wpList P E Q0 (o :: rest) a w:=by
 rcases l with l | ⟨b,rfl,rfl,rfl⟩
 ·exact wC w F s x t K f e i z size g M hi hz r D G L v n C ZA l B 1 c news Q9 O y h1 QZ A m fun q p h2 ZB _=>h q p h2 (bg (eL f w) ZB m (fun j e=>(l.lt j e).1))
 ·obtain⟨q,p,R,h2,ZB⟩:=vr (w:=w) f t o.type e i z size g M hi hz r D G b B c news O y (by omega) m
  exact Lib.wpList_append_run w F s x t t K _ _ ZA Q9 q p R (h q p (by simpa using h2) ZB)
theorem pK {b:Type}(g:Nat->ByteArray)(F:Nat->b)(x:b)(t:ByteArray)(k:Nat):(eh g t k=QQ->eY g F x t k=(List.range k).map F)/\(eh g t k=QR->∃ A B,(List.range k).map F=A++B/\eY g F x t k=A++x :: B):=by
 induction k with
 | zero=>simp[eY,eh]
 | succ j c =>
  have e:(List.range (j+1)).map F=(List.range j).map F++[F j]:=by rw[KV,CV];rfl
  rw[e];simp only[eY,eh];cases hd:eh g t j with
  | false =>
   have h1:=c.1 hd;cases hl:aL t (g j) with
   | true=>simpa[h1] using⟨(List.range j).map F,[F j],rfl,by simp⟩
   | false=>simp[h1]
  | true =>obtain⟨A,B,h1,h2⟩:=c.2 hd;simp only[Bool.true_or,Bool.true_eq_false,false_and,PC,true_implies,false_implies,PR];exact⟨A,B++[F j],by rw[h1];simp,by rw[h2];simp⟩
theorem xW {b:Type}(g:Nat->ByteArray)(F:Nat->b)(x:b)(t:ByteArray)(n:Nat):∃ A B,(List.range n).map F=A++B/\kF g F x t n=A++x :: B:=by
 obtain⟨h1,h2⟩:=pK g F x t n;unfold kF;cases hd:eh g t n with
 | true=>simpa using h2 hd
 | false=>exact⟨(List.range n).map F,[],by simp,by simp[h1 hd]⟩
theorem xX {b:Type}(R:List b)(d:b):(List.range R.length).map (fun j=>R.getD j d)=R:=by
 apply PL
 ·simp
 ·intro i h1 h2
  simp at h1;simp[BO,h1]
theorem tP {b c:Type}(p:b->c)(R:List b)(d:b)(j:Nat):p (R.getD j d)=(R.map p).getD j (p d):=by simp[BO]
theorem Cq {w:H}{c:Nat}{n v:QS}{A B:List TR}{x:TR}(h:TRow w c n (A++B))(m:RowIns w x.2.1 0 x.1.actN x.1.act/\(∃ F,Cells w x.2.1 0 (x.1.actN*3) F)/\TypeAt w x.2.1 146/\c<=x.2.1)
  (g:∀ r∈A++B,r.2.1≠x.2.1) (i:w.ownsRow c 125 2 v (A++x :: B).length ((A++x :: B).flatMap bc)):TRow w c v (A++x :: B):=by
 refine⟨i,fun r f=>?_,?_⟩
 ·rcases hU.1 f with f | f
  ·exact h.act r (hU.2 (.inl f))
  ·rcases nD.1 f with rfl | f
   ·exact m
   ·exact h.act r (hU.2 (.inr f))
 ·have j:=KT.1 h.up
  refine KT.2 ⟨j.1,KQ.2 ⟨fun b hb e=>g b (hU.2 (.inr hb)) e.symm,j.2.1⟩,fun a l b hb=>?_⟩;rcases nD.1 hb with rfl | hb
  ·exact g a (hU.2 (.inl l))
  ·exact j.2.2 a l b hb
theorem Ez {b:Type}{g:Nat->ByteArray}{F:Nat->b}{x:b}{t:ByteArray}{k:Nat}(h:eh g t k=QR):(eY g F x t k).length≠0:=by obtain⟨A,B,_,h2⟩:=(pK g F x t k).2 h;rw[h2];simp
theorem xY {w:H}{l c:Nat}{a:Option Addr}{R:List TR}(h:TRow w l (Y a R.length c) R)(hn:0<R.length):∃ b off,a=N (T b off Z)/\b<w.heap.size/\∀ i,i<R.length->w.cell? (T b (off+i*2) Z)=N (U (R.getD i dfR).1.name)/\w.cell? (T b (off+i*2+1) Z)=N (Y (N ⟨(R.getD i dfR).2.1,0,Z⟩) (R.getD i dfR).1.actN (R.getD i dfR).2.2):=by
 obtain⟨g,c',e⟩:=eA h.own hn;simp at e;obtain⟨rfl,rfl⟩:=e;refine⟨g,0,rfl,(dq h.own).2,fun i hi=>?_⟩;have f:R[i]?=N (R.getD i dfR):=by rw[BO,gq hi];rfl
 generalize R.getD i dfR=r at f;refine⟨?_,?_⟩
 ·have:=(bB h.own (j:=i*2) (u:=U r.1.name) (by have:=cW bc 2 (fun _=>rfl) R i 0 (by omega) _ f;simpa[bc] using this)).1
  rwa[show 0+i*2=i*2 by omega]
 ·have:=(bB h.own (j:=i*2+1) (u:=Y (N (T r.2.1 0 Z)) r.1.actN r.2.2) (by have:=cW bc 2 (fun _=>rfl) R i 1 (by omega) _ f;simpa[bc] using this)).1
  rwa[show 0+i*2+1=i*2+1 by omega]
def fy (R:List TR)(x:TR)(t:ByteArray):List TR:=kF (nm1 (aT (R.map fun r:TR=>r.1))) (fun j=>R.getD j dfR) x t R.length
theorem ws (R:List TR)(j:Nat):nm1 (aT (R.map fun r:TR=>r.1)) j=(R.getD j dfR).1.name:=by exact JN Target.name (tP (fun r:TR=>r.1) R dfR j).symm
theorem tQ (R:List TR)(x:TR)(t:ByteArray):(fy R x t).map (fun r:TR=>r.1)=lJ (R.map fun r:TR=>r.1) x.1 t:=by unfold fy lJ;rw[Cn,KO];congr 1;funext j;exact tP (fun r:TR=>r.1) R dfR j
theorem Cr {w:H}{b:Nat}{i v:QS}{R:List TR}{x:TR}{t:ByteArray}(h:TRow w b i R)(g:RowIns w x.2.1 0 x.1.actN x.1.act/\(∃ F,Cells w x.2.1 0 (x.1.actN*3) F)/\TypeAt w x.2.1 146/\b<=x.2.1)
  (f:∀ r∈R,r.2.1≠x.2.1) (c:w.ownsRow b 125 2 v (fy R x t).length ((fy R x t).flatMap bc)):TRow w b v (fy R x t):=by
 obtain⟨A,B,h1,h2⟩:=xW (nm1 (aT (R.map fun r:TR=>r.1))) (fun j=>R.getD j dfR) x t R.length;rw[xX] at h1;unfold fy at c ⊢;rw[h2] at c ⊢;subst h1;exact Cq h g f c
theorem EC {w:H}{b g c:Nat}{x:Target}(h:w.ownsRow b 146 3 (Y (N (T g 0 Z)) x.actN c) x.actN (cF x.act x.actN)):RowIns w g 0 x.actN x.act/\(∃ F,Cells w g 0 (x.actN*3) F)/\TypeAt w g 146/\b<=g:=by obtain⟨h1,h2⟩:=kM h;exact⟨h1,h2,jz h,(dq h).1⟩
theorem lK {w:H}{c size n:Nat}{e:TypeId}{v:QS}{f:List QS}(h:w.ownsRow c e size v n f∨∃ b,v=Y (N (T b 0 Z)) 0 0/\n=0/\f=[])(o:Obj):(w.alloc o).ownsRow c e size v n f∨∃ b,v=Y (N (T b 0 Z)) 0 0/\n=0/\f=[] :=
 h.imp (fun h=>h.alloc o) id
theorem tR {h g wr:H}{b X QX bL lo m gb f:Nat}{D v u0 u1:QS}{R:List TR}{t:ByteArray}{c:Nat->Ins}(E:∀ o,Below X h o->TRow o (b+3) D R)(B:Below X h wr)(F:Below bL g wr)(C:g.ownsRow lo 146 3 (Y (N (T gb 0 Z)) m f) m (cF c m))(z:wr.ownsRow bL 125 2 v (fy R (⟨t,m,c⟩,gb,f) t).length ((fy R (⟨t,m,c⟩,gb,f) t).flatMap bc))(s:∀ r∈R,r.2.1<X)(hb:bL=g.heap.size)(h1:X<lo)(h2:QX<b+3)(h3:b+3<=X)(h4:lo<=bL)(h5:lo<=gb):TRow (((wr.setCell (T X 1 Z) v).setCell (T QX 0 Z) u0).setCell (T QX 1 Z) u1) b v (fy R (⟨t,m,c⟩,gb,f) t):=by have y:=E _ (B.setCell (p:=(T X 1 Z)) ly v);have n:=aS (own_below C F (by omega)) (R:=X) (j:=1) (by omega) v;have l:=aS z (R:=X) (j:=1) (by omega) v;have A:=(y.set (X:=QX) (j:=0) h2 u0).set (X:=QX) (j:=1) h2 u1;have q:=aS (aS n (R:=QX) (j:=0) (by omega) u0) (R:=QX) (j:=1) (by omega) u1;have i:=aS (aS l (R:=QX) (j:=0) (by omega) u0) (R:=QX) (j:=1) (by omega) u1;exact Cr (gH A (by omega)) (EC (x:=⟨t,m,c⟩) (aE q (by omega))) (fun r u=>by have:=s r u;show r.2.1≠gb;omega) (aE i (by omega))
theorem mZ (a0:Option Addr)(n0 c0:Nat)(f0:Nat->Source)(a1:Option Addr)(n1 c1:Nat)(f1:Nat->Target)(t:ByteArray)(ap:Option Addr)(m cp:Nat)(f:Nat->Ins)(w:H)(hn0:(n0:Int)<=1048576)(hn1:(n1:Int)<=1048576)(hm:m<=1048576)(He:SlSource w a0 n0 f0)(GW:SlTarget w a1 n1 f1)(Hj:SlIns w ap m f)(DE:∀ i,i<n1->bP (f1 i))(hs:∀ i,i<n1->∀ j,j<(f1 i).actN->((f1 i).act j).s.size<=maxLen)(GN:∀ i,i<m->(f i).s.size<=maxLen):Calls Tryz.prog 21 #[QV #[Y a0 n0 c0,Y a1 n1 c1],U t,QV #[Y ap m cp]] w fun e QZ=>∃ v0 v1 R,e=.returned (.tuple #[QV #[v0,v1],I J (gT n0 f0 n1 f1 t (valid f m))])/\QZ.ownsRow w.heap.size 121 2 v0 (fB n0 f0 n1 f1 t m f).length ((fB n0 f0 n1 f1 t m f).flatMap bG)/\TRow QZ w.heap.size v1 R/\R.map (·.1)=fQ n0 f0 n1 f1 t m f/\Below w.heap.size w QZ:=by
 have V0:=ae He;have V1:=ae GW;have VP:=ae Hj;have HF:=ae DE;have HS:=ae hs;have GU:=ae GN;clear He GW Hj DE hs GN;obtain⟨aq,bt,n8,la,mv⟩:=JV fL;obtain⟨C,hC⟩:∃ C,C=bw n0 f0 n1 f1:=⟨_,rfl⟩
 obtain⟨rt,GE⟩:∃ rt,rt=valid f m:=⟨_,rfl⟩
 obtain⟨D,hD⟩:∃ D,D=gT n0 f0 n1 f1 t (valid f m):=⟨_,rfl⟩
 obtain⟨A,GD⟩:∃ A,A=fB n0 f0 n1 f1 t m f:=⟨_,rfl⟩
 obtain⟨LT,GJ⟩:∃ LT,LT=fQ n0 f0 n1 f1 t m f:=⟨_,rfl⟩
 rw[<-hD,<-GD,<-GJ];have HC:=ae hC;have HR:=ae GE;have HD:=ae (hD.trans (by unfold gT;rw[<-hC,<-GE]));have fd:=ae (GD.trans (by unfold fB;rw[<-hD]));have B:=ae (GJ.trans (by unfold fQ;rw[<-hD]));clear hC hD GD GJ GE;have A0:=ae ((((q9 w).alloc ly (Q #[Y a0 n0 c0,Y a1 n1 c1] 29)).alloc (by simp) (Q #[Y ap m cp] 43)).alloc (by simp;omega) (Q #[Y Z 0 0,Y Z 0 0] 29));have X0:=ae (Cp w (Y a0 n0 c0) (Y a1 n1 c1) (Y ap m cp) 29 43);go_enter Tryz.func21,Tryz.ntmps21;go_wp2_with fail;generalize ((w.alloc (Q #[Y a0 n0 c0,Y a1 n1 c1] 29)).alloc (Q #[Y ap m cp] 43)).alloc (Q #[Y Z 0 0,Y Z 0 0] 29)=W at A0 X0 ⊢;refine(fs a0 n0 c0 f0 a1 n1 c1 f1 _ hn0 hn1 (V0.below A0 ly) (V1.below A0 ly) HF HS).mono ?_;rintro e w1 ⟨rfl,z⟩;rw[<-HC.out];have X1:=ae (X0.below z X0.lt);have B1:=ae (A0.trans (z.mono A0.size));clear z A0 X0;by_cases hc:C=0;case neg =>
  have hd:=HD.out;rw[gA hc] at hd;have u:=fd.out;rw[eI (by omega)] at u;have n:=B.out;rw[eI (by omega)] at n;subst hd u n;have hc':(C == 0)=QQ:=by simpa using hc
  obtain⟨r0,q0⟩:=X1.r0;obtain⟨r1,q1⟩:=X1.r1;go_wp2;exact bp (v:=.tuple #[QV #[Y Z 0 0,Y Z 0 0],I J 1]) (by simp[results,Tryz.results21,go_sem,r0,r1]) rfl ⟨_,_,[],rfl,CP _ _ _ _,dr _ _,rfl,(B1.setCell (by simp;omega) _).setCell (by simp;omega) _⟩
 subst hc;have hz:=lH HC.symm;have HZ:=ae hz;clear hz HC;have GC:=HD.out;rw[eI (by omega)] at GC;have GF:=ae GC;clear GC HD;go_wp2_with fail;refine(cY t _).mono ?_;rintro e w2 ⟨rfl,z⟩;have X2:=ae (X1.below z X1.lt);have B2:=ae (B1.trans (z.mono B1.size));clear z X1 B1;cases hn:av t with
 | false =>have hd:=GF.out;rw[gA (.inl hn)] at hd;have u:=fd.out;rw[eI (by omega)] at u;have n:=B.out;rw[eI (by omega)] at n;subst hd u n;obtain⟨r0,q0⟩:=X2.r0;obtain⟨r1,q1⟩:=X2.r1;go_wp2;exact bp (v:=.tuple #[QV #[Y Z 0 0,Y Z 0 0],I J 2]) (by simp[results,Tryz.results21,go_sem,r0,r1]) rfl ⟨_,_,[],rfl,CP _ _ _ _,dr _ _,rfl,(B2.setCell (by simp;omega) _).setCell (by simp;omega) _⟩
 | true =>
 have k2:=X2.b0;go_wp2_with fail;refine(jv ap m cp f _ hm (VP.below B2 ly) GU).mono ?_;rintro e Hl ⟨rfl,z⟩;rw[<-HR.out];have F:=ae (X2.below z X2.lt);have Q0:=ae (B2.trans (z.mono B2.size));clear z X2 B2 k2;have S:=GF.out;rw[hn] at S;clear GF;cases rt with
 | false =>rw[gA (.inr rfl)] at S;have u:=fd.out;rw[eI (by omega)] at u;have n:=B.out;rw[eI (by omega)] at n;subst S u n;obtain⟨r0,q0⟩:=F.r0;obtain⟨r1,q1⟩:=F.r1;go_wp2;exact bp (v:=.tuple #[QV #[Y Z 0 0,Y Z 0 0],I J 2]) (by simp[results,Tryz.results21,go_sem,r0,r1]) rfl ⟨_,_,[],rfl,CP _ _ _ _,dr _ _,rfl,(Q0.setCell (by simp;omega) _).setCell (by simp;omega) _⟩
 | true =>
 rw[eI (by simp)] at S;have GV:=ae S;clear S hn;have hm1:1<=m:=by have h:=HR.out;unfold valid at h;have h2:=(Bool.and_eq_true_iff.1 h.symm).2;have:=(J8 h2).1;omega
 obtain⟨pb,po,rfl,Ha⟩:=VP.resolve_left (by omega);have Hb:=ae Ha;clear VP Ha HR;have k0:=F.a0;have k1:=F.a1;go_wp2_with fail;refine(eE a0 n0 c0 f0 a1 n1 c1 f1 t _ hn0 hn1 (V0.below Q0 ly) (V1.below Q0 ly) HF).mono ?_;rintro e y ⟨v0,v1,R,rfl,hO,hR,hM,z⟩;have Hk:=F.lt;have X3:=ae (F.below z F.lt);have B3:=ae (Q0.trans (z.mono Q0.size));obtain⟨Q9,ZB,rfl⟩:=aF hO;obtain⟨ta,O,rfl⟩:=aF hR.own;have eR:R.length=(keepT f1 t n1).length:=by rw[<-hM];simp
 have Hp:=iM f0 t n0;have Hq:=mV f1 t n1;obtain⟨L,hL⟩:∃ L,L=keepS f0 t n0:=⟨_,rfl⟩
 obtain⟨K,hK⟩:∃ K,K=keepT f1 t n1:=⟨_,rfl⟩
 rw[<-hL] at hO Hp ⊢;rw[<-hK] at hM Hq eR;have P:=GV.out;rw[<-hL,<-hK] at P;have u:=fd.out;rw[<-hL] at u;have n:=B.out;rw[<-hK] at n;have ER:=ae eR;have hlr:R.length<=n1:=by omega
 clear GV fd B hL hK z k0 k1 F Q0 eR;have hbw:w.heap.size+3<=Hl.heap.size:=Hk;have O3:=ae (aE hO (base':=w.heap.size+3) (by omega));have R3:=ae (gH hR (base':=w.heap.size+3) (by omega));have HM:=ae hM;have hll:(L.length:Int)<=1048576:=by omega
 clear hO hR hM;have DB:=ae ((q9 y).alloc ly (Q #[Y Q9 L.length ZB,Y ta R.length O] 29));have K8:=ae (tJ y (Y Q9 L.length ZB) (Y ta R.length O) 29);have X4:=ae (X3.below DB X3.lt);have B4:=ae (B3.trans (DB.mono B3.size));have O4:=ae (own_below O3 DB ly);have R4:=ae (R3.below DB ly);have sm:=ae DB.out;have GP:w.heap.size+2<y.heap.size:=X3.lt;have c8:=K8.c0;have V:=K8.c1;clear DB;by_cases hc3:(200:Int)<=L.length+R.length
 ·rw[gA (by have:=ER.out;omega)] at P
  rw[eI (by omega)] at u n;subst P u n;obtain⟨r0,q0⟩:=X3.r0;obtain⟨r1,q1⟩:=X3.r1;clear c8 V;go_wp2;exact bp (v:=.tuple #[QV #[Y Z 0 0,Y Z 0 0],I J 3]) (by simp[results,Tryz.results21,go_sem,r0,r1,GP]) rfl ⟨_,_,[],rfl,CP _ _ _ _,dr _ _,rfl,((B3.setCell (by simp;omega) _).setCell (by simp;omega) _).alloc (by have:=B3.size;simp;omega) _⟩
 clear X3;rw[eI (by have:=ER.out;omega)] at P;rw[gA P] at u n;subst P u;have B:=ae n;clear n;have k2:=X4.b0;have GS:(y.alloc (Q #[Y Q9 A.length ZB,Y ta R.length O] 29)).heap.size=y.heap.size+1:=by simp
 have RX:Hid (∀ QZ,Below y.heap.size y QZ->TRow QZ (w.heap.size+3) (Y ta R.length O) R):=fun QZ hb=>R3.below hb ly;have OX:Hid (∀ QZ,Below y.heap.size y QZ->QZ.ownsRow (w.heap.size+3) 121 2 (Y Q9 A.length ZB) A.length (A.flatMap bG)):=fun QZ hb=>own_below O3 hb ly;have Fk:Hid (∀ r∈R,r.2.1<y.heap.size):=fun r hr=>(R3.act r hr).1.1;have E5:=ae ((eL (y.alloc (Q #[Y Q9 A.length ZB,Y ta R.length O] 29)).heap.size (y.alloc (Q #[Y Q9 A.length ZB,Y ta R.length O] 29))).alloc ly (Q #[] 125));have GQ:((y.alloc (Q #[Y Q9 A.length ZB,Y ta R.length O] 29)).alloc (Q #[] 125)).heap.size=(y.alloc (Q #[Y Q9 A.length ZB,Y ta R.length O] 29)).heap.size+1:=by simp
 have k3:=(E5.cell (p:=(T (w.heap.size+1) 0 Z)) (by show w.heap.size+1<_;have:=X4.lt;omega)).trans k2;have ph:=ae (Hb.below B4 ly);have Bk:=ae GS;have ur:=ae GQ;clear R3 O3 k2 GS GQ;go_wp2_with fail;generalize (y.alloc (Q #[Y Q9 A.length ZB,Y ta R.length O] 29)).alloc (Q #[] 125)=GI at E5 ur k3 ⊢;generalize y.alloc (Q #[Y Q9 A.length ZB,Y ta R.length O] 29)=w4 at K8 X4 B4 O4 R4 c8 V Bk ur sm E5 ph;generalize y.heap.size=X at K8 c8 V GP Bk RX OX Fk sm ⊢;refine(iY pb po m cp f _ (by omega) (ph.below E5 ly)).mono ?_;rintro e w5 ⟨gb,l,rfl,Fm,GT⟩;have hzx:w4.heap.size=X+1:=Bk.out;have hzy:GI.heap.size=w4.heap.size+1:=ur.out;have F5:=ae (E5.trans (GT.mono (by omega)));have OG:=ae Fm;have GO:=(dq Fm).1;clear Fm GT E5 Bk ur k3 ph;have Fn:(w5.alloc (Q #[U t,Y (N (T gb 0 Z)) m l] 125)).heap.size=w5.heap.size+1:=by simp
 have QY:=ae (F5.alloc F5.size (Q #[U t,Y (N (T gb 0 Z)) m l] 125));have y0:(w5.alloc (Q #[U t,Y (N (T gb 0 Z)) m l] 125)).cell? (T w5.heap.size 0 Z)=N (U t):=by simp
 have y1:(w5.alloc (Q #[U t,Y (N (T gb 0 Z)) m l] 125)).cell? (T w5.heap.size 1 Z)=N (Y (N (T gb 0 Z)) m l):=by simp
 have th:=ae (OG.alloc (Q #[U t,Y (N (T gb 0 Z)) m l] 125));have GY:=QY.size;have ro:=ae GY;clear GY OG F5;go_wp2;generalize w5.alloc (Q #[U t,Y (N (T gb 0 Z)) m l] 125)=w6 at Fn QY y0 y1 th ro ⊢;have hgw:gb<w6.heap.size:=(dq th).2;generalize w5.heap.size=QW at Fn y0 y1 ⊢;obtain⟨x,Hg⟩:∃ x,x=w6.heap.size:=⟨_,rfl⟩
 have o:=ae Hg;have M:X<x:=by have:=ro.out;omega
 have GM:QW<x:=by omega
 have Hc:=(QY.cell (p:=(T X 0 Z)) (by show X<_;omega)).trans c8;have Hh:=(QY.cell (p:=(T X 1 Z)) (by show X<_;omega)).trans V;have Hf:=(QY.frozen (p:=(T X 1 Z)) (by show X<_;omega)).trans K8.z1;have X6:=ae (X4.below QY (by have:=X4.lt;omega));have R6:=ae (R4.below QY ly);have GK:=ae (sm.trans (QY.mono (by omega)));have Hd:w.heap.size<=X:=by omega
 have hb1:X+2<x+0:=by have:=ro.out;omega
 clear c8 V K8 R4 O4 X4 B4 Fn Hg sm QY V0 V1 HF HS GU Hb HZ ro;have c8:=Hc;have V:=Hh;clear Hc Hh;obtain⟨ZA,hI⟩:∃ ZA,ZA=eY (nm1 (aT (R.map fun r:TR=>r.1))) (fun j=>R.getD j dfR) ((⟨t,m,f⟩,gb,l):TR) t:=⟨_,rfl⟩
 obtain⟨G,Q2⟩:∃ G,G=eh (nm1 (aT (R.map fun r:TR=>r.1))) t:=⟨_,rfl⟩
 have Ho:Hid (∀ k,ZA (k+1)=if G k=QQ/\aL t (R.getD k dfR).1.name=QR then ZA k++[(⟨t,m,f⟩,gb,l)]++[R.getD k dfR] else ZA k++[R.getD k dfR]):=fun k=>by rw[hI,Q2,<-ws R k];rfl
 have Hm:Hid (∀ k,G (k+1)=(G k || aL t (R.getD k dfR).1.name)):=fun k=>by rw[Q2,<-ws R k];rfl
 have Hn:Hid (∀ k,(ZA k).length<=k+1):=fun k=>by rw[hI];exact(Cm _ _ _ _ k).1
 have GL:Hid (∀ k,G k=QR->(ZA k).length≠0):=fun k h=>by rw[hI];rw[Q2] at h;exact Ez h
 have G8:Hid (fy R (⟨t,m,f⟩,gb,l) t=if G R.length=QR then ZA R.length else ZA R.length++[(⟨t,m,f⟩,gb,l)]):=by rw[hI,Q2];rfl
 have GH:Hid (ZA 0=[]/\G 0=QQ):=by rw[hI,Q2];exact⟨rfl,rfl⟩
 clear hI Q2;go_loopw [9,10,12] (fun v d i wr=>∃ (k:Nat) (db:Bool),k<=R.length/\i=I J k/\d=.bool db/\Hid (db=G k)/\Hid (wr.ownsRow x 125 2 v (ZA k).length ((ZA k).flatMap bc)∨∃ b,v=Y (N (T b 0 Z)) 0 0/\(ZA k).length=0/\(ZA k).flatMap bc=[])/\Hid (Below x w6 wr)) (fun _ _ i _=>R.length - (intOf i).toNat);case atStart=>exact⟨0,QQ,by omega,rfl,rfl,GH.2.symm,.inr ⟨_,rfl,by rw[GH.1];rfl,by rw[GH.1];rfl⟩,by rw[o.out];exact eL _ _⟩
 case round =>
  obtain⟨k,db,hk,rfl,rfl,E,OW,q⟩:=hrel;have e9:=(q.cell (p:=(T X 1 Z)) M).trans V;have z0:=(q.cell (p:=(T QW 0 Z)) GM).trans y0;have z1:=(q.cell (p:=(T QW 1 Z)) GM).trans y1;have hlen1:=Hn.out k;by_cases n:k<R.length
  ·obtain⟨b,off,rfl,hbl,Hi⟩:=xY R6 (by omega)
   obtain⟨p0,p1⟩:=Hi k n;have DQ:=Ho.out k;have Fd:=Hm.out k;generalize R.getD k dfR=rk at p0 p1 DQ Fd;have qr:=ae DQ;have n9:=ae Fd;clear DQ Fd;have At:b<x:=by have:=o.out;omega
   have d0:=(q.cell (p:=(T b (off+k*2) Z)) At).trans p0;have d1:=(q.cell (p:=(T b (off+k*2+1) Z)) At).trans p1;clear Hi;cases db with
   | true =>
    have HI:Hid (ZA (k+1)=ZA k++[rk]):=by show _=_;rw[qr.out,eI (by rw[<-E.out];simp)]
    have HN:Hid (QR=G (k+1)):=by show QR=_;rw[n9.out,<-E.out];rfl
    go_wp2_with (at_builtin;(refine eK rfl (.tmp 66) (.tmp 72) 27 rfl x 125 aq (QV #[U ⟨#[]⟩,Y Z 0 0]) 2 40 Tryz.underlying27 bt n8 la mv rfl (by decide) _ (ZA k).length ((ZA k).flatMap bc) (by simp[Act.eval]) (lK OW _) (T wr.heap.size 0 Z) 1 (bc rk) (by simp[Act.eval]) rfl (df wr _ _ _) (by simp[bc,Value.oneCell']) (by unfold maxLen;omega) (by omega) (by have:=q.size;have:=o.out;simp;omega) ?_;intro vy wy c g;have OY:=ae c;have BY:=ae ((q.alloc (by have:=q.size;have:=o.out;omega) _).trans g);clear c g));exact⟨⟨k+1,QR,by omega,by go_num,rfl,HN,.inl (by rw[HI.out,a8,HH];simpa using OY.out),BY.out⟩,by simp[intOf];omega⟩
   | false =>
    cases hq:aL t rk.1.name with
    | true =>
     have HI:Hid (ZA (k+1)=ZA k++[(⟨t,m,f⟩,gb,l)]++[rk]):=by show _=_;rw[qr.out,gA ⟨E.symm,hq⟩]
     have HN:Hid (QR=G (k+1)):=by show QR=_;rw[n9.out,hq];simp
     obtain⟨q1,q2⟩:=iN hq;clear hq;go_wp2_with (at_builtin;first | (refine eK rfl (.tmp 62) (.tmp 64) 27 rfl x 125 aq (QV #[U ⟨#[]⟩,Y Z 0 0]) 2 40 Tryz.underlying27 bt n8 la mv rfl (by decide) _ (ZA k).length ((ZA k).flatMap bc) (by simp[Act.eval]) (lK OW _) (T wr.heap.size 0 Z) 1 (bc (⟨t,m,f⟩,gb,l)) (by simp[Act.eval]) rfl (df wr _ _ _) (by simp[bc,Value.oneCell']) (by unfold maxLen;omega) (by omega) (by have:=q.size;have:=o.out;simp;omega) ?_;intro vx wx c g;have Hr:=ae c;have BX:=ae ((q.alloc (by have:=q.size;have:=o.out;omega) _).trans g);have f9:=(BX.cell (p:=(T X 1 Z)) M).trans V;have g0:=(BX.cell (p:=(T b (off+k*2) Z)) At).trans p0;have g1:=(BX.cell (p:=(T b (off+k*2+1) Z)) At).trans p1;clear c g) | (refine eK rfl (.tmp 66) (.tmp 72) 27 rfl x 125 aq (QV #[U ⟨#[]⟩,Y Z 0 0]) 2 40 Tryz.underlying27 bt n8 la mv rfl (by decide) _ ((ZA k).length+1) ((ZA k).flatMap bc++bc (⟨t,m,f⟩,gb,l)) (by simp[Act.eval]) (.inl (Hr.alloc _)) (T wx.heap.size 0 Z) 1 (bc rk) (by simp[Act.eval]) rfl (df wx _ _ _) (by simp[bc,Value.oneCell']) (by unfold maxLen;omega) (by omega) (by have:=BX.size;have:=o.out;simp;omega) ?_;intro vy wy c g;have OY:=ae c;have BY:=ae ((BX.alloc (by have:=BX.size;have:=o.out;omega) _).trans g);clear c g));exact⟨⟨k+1,QR,by omega,by go_num,rfl,HN,.inl (by rw[HI.out,a8,a8,HH,HH];simpa using OY.out),BY.out⟩,by simp[intOf];omega⟩
    | false =>
     have HI:Hid (ZA (k+1)=ZA k++[rk]):=by show _=_;rw[qr.out,eI (by rw[hq];simp)]
     have HN:Hid (QQ=G (k+1)):=by show QQ=_;rw[n9.out,<-E.out,hq];rfl
     have HQ:=ae (jD hq);clear hq;rcases HQ.out with q1 | ⟨q1,q2⟩
     all_goals
      go_wp2_with (at_builtin;(refine eK rfl (.tmp 66) (.tmp 72) 27 rfl x 125 aq (QV #[U ⟨#[]⟩,Y Z 0 0]) 2 40 Tryz.underlying27 bt n8 la mv rfl (by decide) _ (ZA k).length ((ZA k).flatMap bc) (by simp[Act.eval]) (lK OW _) (T wr.heap.size 0 Z) 1 (bc rk) (by simp[Act.eval]) rfl (df wr _ _ _) (by simp[bc,Value.oneCell']) (by unfold maxLen;omega) (by omega) (by have:=q.size;have:=o.out;simp;omega) ?_;intro vy wy c g;have OY:=ae c;have BY:=ae ((q.alloc (by have:=q.size;have:=o.out;omega) _).trans g);clear c g));exact⟨⟨k+1,QQ,by omega,by go_num,rfl,HN,.inl (by rw[HI.out,a8,HH];simpa using OY.out),BY.out⟩,by simp[intOf];omega⟩
  ·have e:R.length=k:=by omega
   subst e;cases db with
   | true =>
    have ld:fy R (⟨t,m,f⟩,gb,l) t=ZA R.length:=by rw[G8.out,gA E.symm]
    have ow:=OW.resolve_right (by rintro⟨b,_,h0,_⟩;exact GL _ E.symm h0);obtain⟨va,vc,rfl⟩:=eA ow (by have:=GL.out _ E.symm;omega);have OF:Hid (wr.ownsRow x 125 2 (Y (N (T va 0 Z)) (ZA R.length).length vc) (fy R (⟨t,m,f⟩,gb,l) t).length ((fy R (⟨t,m,f⟩,gb,l) t).flatMap bc)):=by show World.ownsRow _ _ _ _ _ _ _;rw[ld];exact ow
    have e8:=(q.cell (p:=(T X 0 Z)) M).trans c8;have y9:=(q.frozen (p:=(T X 1 Z)) M).trans Hf;obtain⟨r0,q0⟩:=(X6.below q (by omega)).r0;obtain⟨r1,q1⟩:=(X6.below q (by omega)).r1;have H3:=ae ld;clear ld ow OW;go_wp2;refine ?_;have GB:=ae (GK.trans (q.mono (by omega)));refine bp (v:=.tuple #[QV #[Y Q9 A.length ZB,Y (N (T va 0 Z)) (ZA R.length).length vc],I J 0]) (by simp[results,Tryz.results21,go_sem,r0,r1]) rfl ⟨_,_,fy R (⟨t,m,f⟩,gb,l) t,rfl,aE (aS (aS (OX _ ((GB).setCell (p:=(T X 1 Z)) ly _)) (R:=w.heap.size+2) (j:=0) (by omega) _) (R:=w.heap.size+2) (j:=1) (by omega) _) (by omega),?_,(tQ R (⟨t,m,f⟩,gb,l) t).trans (by rw[HM.out];exact B.symm),(((B3.trans ((GB).mono Hd)).setCell (by simp;omega) _).setCell (by simp;omega) _).setCell (by simp;omega) _⟩;exact tR (X:=X) (QX:=w.heap.size+2) (bL:=x) (lo:=GI.heap.size) RX GB q th OF Fk o (by omega) (by omega) (by omega) (by omega) GO
   | false =>
    go_wp2_with (at_builtin;(refine eK rfl (.tmp 76) (.tmp 78) 27 rfl x 125 aq (QV #[U ⟨#[]⟩,Y Z 0 0]) 2 40 Tryz.underlying27 bt n8 la mv rfl (by decide) _ (ZA R.length).length ((ZA R.length).flatMap bc) (by simp[Act.eval]) (lK OW _) (T wr.heap.size 0 Z) 1 (bc (⟨t,m,f⟩,gb,l)) (by simp[Act.eval]) rfl (df wr _ _ _) (by simp[bc,Value.oneCell']) (by unfold maxLen;omega) (by omega) (by have:=q.size;have:=o.out;simp;omega) ?_;intro vz wz c g;obtain⟨gs,cs,rfl⟩:=eA c (Nat.succ_pos _);have OZ:=ae c;have BZ:=ae ((q.alloc (by have:=q.size;have:=o.out;omega) _).trans g);have f8:=(BZ.cell (p:=(T X 0 Z)) M).trans c8;have f9:=(BZ.cell (p:=(T X 1 Z)) M).trans V;have y9:=(BZ.frozen (p:=(T X 1 Z)) M).trans Hf;obtain⟨r0,q0⟩:=(X6.below BZ (by have:=o.out;omega)).r0;obtain⟨r1,q1⟩:=(X6.below BZ (by have:=o.out;omega)).r1;clear c g));have ld:fy R (⟨t,m,f⟩,gb,l) t=ZA R.length++[(⟨t,m,f⟩,gb,l)]:=by rw[G8.out,eI (by rw[<-E.out];simp)]
    have OF:Hid (wz.ownsRow x 125 2 (Y (N (T gs 0 Z)) ((ZA R.length).length+1) cs) (fy R (⟨t,m,f⟩,gb,l) t).length ((fy R (⟨t,m,f⟩,gb,l) t).flatMap bc)):=by show World.ownsRow _ _ _ _ _ _ _;rw[ld,a8,HH];simpa using OZ.out
    have GB:=ae (GK.trans (BZ.mono (by omega)));refine bp (v:=.tuple #[QV #[Y Q9 A.length ZB,Y (N (T gs 0 Z)) ((ZA R.length).length+1) cs],I J 0]) (by simp[results,Tryz.results21,go_sem,r0,r1]) rfl ⟨_,_,fy R (⟨t,m,f⟩,gb,l) t,rfl,aE (aS (aS (OX _ ((GB).setCell (p:=(T X 1 Z)) ly _)) (R:=w.heap.size+2) (j:=0) (by omega) _) (R:=w.heap.size+2) (j:=1) (by omega) _) (by omega),?_,(tQ R (⟨t,m,f⟩,gb,l) t).trans (by rw[HM.out];exact B.symm),(((B3.trans ((GB).mono Hd)).setCell (by simp;omega) _).setCell (by simp;omega) _).setCell (by simp;omega) _⟩;exact tR (X:=X) (QX:=w.heap.size+2) (bL:=x) (lo:=GI.heap.size) RX GB BZ th OF Fk o (by omega) (by omega) (by omega) (by omega) GO
end Go.Proofs.YtamacmnikdejeaaGreatDoor.Vp
