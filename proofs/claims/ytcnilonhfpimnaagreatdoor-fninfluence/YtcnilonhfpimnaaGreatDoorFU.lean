import Derived.Test.YtcnilonhfpimnaaGreatDoorFS
import Derived.Shelf.Spec.SlicesInsert
import Derived.Laws.CopyRow
import Derived.Lib.AppendZerosOnto
set_option linter.all false
set_option maxRecDepth 100000
set_option maxHeartbeats 8000000
open Go renaming Addr.mk->T,Value.slice->Y,Value.string->U,Value.int->J,Value.agg->ZJ,Obj.cells->N,IntKind.i64->I,World->E,Value->ZB,TypeId->ZK,World.heap->A,World.ownsRow->ZW,World.alloc->ZU,World.cell?->ZV
open Option renaming none->Z,some->Q
open Bool renaming false->ZA,true->ZH
open Array renaming size->z
open List renaming length->B
namespace Go.Proofs.YtcnilonhfpimnaaGreatDoor.Vp
open RowKit
variable {w:E}{b:Type}{f g:Nat}{t:F_}{R:List TR}{P:Program}{x:TR}
def d9 (n0:Nat)(f0:Nat->Source)(n1:Nat)(f1:Nat->Target)(t:F_)(m:Nat)(b:Nat->Ins):List Source:=if fW n0 f0 n1 f1 t (valid b m)=0 then Qy f0 t n0 else []
def eE (n0:Nat)(f0:Nat->Source)(n1:Nat)(f1:Nat->Target)(t:F_)(m:Nat)(b:Nat->Ins):List Target:=if fW n0 f0 n1 f1 t (valid b m)=0 then jO (Qj f1 t n1) ⟨t,m,b⟩ t else []
structure Trio (w:E)(h:Nat)(p0 p1 p2:ZB):Prop where
 lt:h+2<z (A w)
 a0:ZV w (T h 0 Z)=Q p0
 a1:ZV w (T h 1 Z)=Q p1
 b0:ZV w (T (h+1) 0 Z)=Q p2
 r0:ZV w (T (h+2) 0 Z)=Q (Y Z 0 0)/\w.frozen? (T (h+2) 0 Z)=ZA
 r1:ZV w (T (h+2) 1 Z)=Q (Y Z 0 0)/\w.frozen? (T (h+2) 1 Z)=ZA
def Trio.aa{g:E}{h ZZ:Nat}{m j l:ZB}(b:Trio w h m j l)(hb:Below ZZ w g)(hB:h+3<=ZZ):Trio g h m j l:=by have c:∀k o,k<ZZ->ZV g (T k o Z)=ZV w (T k o Z):=λk o i=>hb.O (p:=(T k o Z)) i;have f:∀k o,k<ZZ->g.frozen? (T k o Z)=w.frozen? (T k o Z):=λk o i=>hb.frozen (p:=(T k o Z)) i;exact⟨lj b.lt hb.size,(c _ _ (by omega)).k b.a0,(c _ _ (by omega)).k b.a1,(c _ _ (by omega)).k b.b0,⟨(c _ _ (by omega)).k b.r0.1,(f _ _ (by omega)).k b.r0.2⟩,⟨(c _ _ (by omega)).k b.r1.1,(f _ _ (by omega)).k b.r1.2⟩⟩
def EJ (w:E)(b f g:ZB)(t u:ZK):Trio (ZU (ZU (ZU w (N #[b,f] t)) (N #[g] u)) (N #[Y Z 0 0,Y Z 0 0] t)) (z (A w)) b f g:=by
 have j:Below (z (A w)+1) (ZU w (N #[b,f] t)) (ZU (ZU w (N #[b,f] t)) (N #[g] u)):=br.alloc (by simp) _;have i:Below (z (A w)+2) (ZU (ZU w (N #[b,f] t)) (N #[g] u)) (ZU (ZU (ZU w (N #[b,f] t)) (N #[g] u)) (N #[Y Z 0 0,Y Z 0 0] t)):=br.alloc (by simp) _;have hz:z (A (ZU w (N #[b,f] t)))=z (A w)+1:=by simp
 have h:z (A (ZU (ZU w (N #[b,f] t)) (N #[g] u)))=z (A w)+2:=by simp
 refine⟨by simp,?_,?_,?_,⟨?_,?_⟩,⟨?_,?_⟩⟩;{exact(i.O (p:=(T (z (A w)) 0 Z)) (by simp)).k ((j.O (p:=(T (z (A w)) 0 Z)) (by simp)).k (by simp))};{exact(i.O (p:=(T (z (A w)) 1 Z)) (by simp)).k ((j.O (p:=(T (z (A w)) 1 Z)) (by simp)).k (by simp))};{refine(i.O (p:=(T (z (A w)+1) 0 Z)) (by simp)).k ?_;rw[<-hz];clear j i hz h;generalize ZU w (N #[b,f] t)=W;simp};all_goals
  rw[<-h];clear j i hz h;generalize ZU (ZU w (N #[b,f] t)) (N #[g] u)=W;simp
def xm (f:Nat)(t ty e:ZK)(i:TypeInfo)(ZX:ZB)(size h:Nat)(D:P.underlying t=Q (.slice e))(hi:P.info? e=Q i)(hz:i.zero=Q ZX)
  (o:i.size=size) (r:i.bytes=h) (s:ZX.cells.size=size)
  (b:Nat) (a:Addr) (c:Nat) (news:List ZB) (m:B news=1*size) (n:∀j u,news[j]?=Q u->w.cell? (a.add j)=Q u)
  (l:1*h<=140737488355328) (g:f<=z (A w)) :
  ∃y q,(Builtin.append_ #[t,t] ty #[Y (Q (T b 0 Z)) 0 0,Y (Q a) 1 c]).run P w=.ok y q/\q.ownsRow f e size y 1 news/\Below f w q:=by
 subst o r;have ZZ:=run_append_grow (P:=P) w t ty e i ZX D hi hz (T b 0 Z) 0 0 [] (by simp) (by intro j v ZY;simp at ZY) a 1 c news m n (by omega) (by omega) (growslice_fits (by omega) (by simpa using l));have p:=grownCap_ge w (0+1) 0 e;have x:grownCap w (0+1) 0 e<=maxLen:=grownCap_le_maxLen w (0+1) 0 e (by unfold maxLen;omega);refine⟨_,_,ZZ,⟨by simpa using m,.inr ⟨z (A w),_,_,rfl,g,gM w.drew _,p,x,?_,?_⟩⟩,rfl,rfl,rfl,by simp,λk C=>UK w.drew _ (lj C g)⟩;{simp only[Array.size_append,QF,size_zeroCells,s,m,IS,IT,<-Nat.add_mul];congr 1;have:=p;simp only[IT] at this;omega};{simp only[Array.toList_append,NR];rw[<-m];exact List.take_left}
def eV{H:Array Oper}{rest:List Oper}{o:Oper}{a:Act}{ZO:Exit->Act->E->Prop}(D:o.guard=Z)(s x:Operand)(t:ZK)
  (ZQ:o.op=.call { callee:=.builtin .append,args:=#[s,x],argTypes:=#[t,t] })
  (f:Nat) (e:ZK) (i:TypeInfo) (ZX:ZB) (size g:Nat) (L:P.underlying t=Q (.slice e)) (hi:P.info? e=Q i) (hz:i.zero=Q ZX)
  (y:i.size=size) (ZT:i.bytes=g) (G:ZX.cells.size=size) (ZR:0<size)
  (v:ZB) (n:Nat) (C:List ZB) (R:a.eval s=v) (m:ZW w f e size v n C\/∃b,v=Y (Q (T b 0 Z)) 0 0/\n=0/\C=[])
  (ZZ:Addr) (c:Nat) (news:List ZB) (M:a.eval x=Y (Q ZZ) 1 c) (K:B news=1*size) (r:∀j u,news[j]?=Q u->w.cell? (ZZ.add j)=Q u) (h1:∀u∈news,u.oneCell'=ZH)
  (O:n+1<=maxLen) (ZY:(n+1)*g<=140737488355328) (l:f<=z (A w))
  (h:∀q p,p.ownsRow f e size q (n+1) (C++news)->Below f w p->wpList P H ZO rest (a.put o.dst q) p):wpList P H ZO (o::rest) a w:=by
 rcases m with m|⟨b,rfl,rfl,rfl⟩
 {exact DN w D s x t ZQ f e i ZX size g L hi hz y ZT G ZR v n C R m ZZ 1 c news M K r h1 O ZY l λq p h2 ZS _=>h q p h2 (bg (a8 f w) ZS l (λj e=>(m.lt j e).1))};{obtain⟨q,p,S,h2,ZS⟩:=xm (w:=w) f t o.type e i ZX size g L hi hz y ZT G b ZZ c news K r (by omega) l;exact Lib.wpList_append_run w D s x t t ZQ _ _ R M q p S (h q p (by simpa using h2) ZS)}
def qC{f:Type}(g:B_)(F:Nat->f)(x:f)(t:F_)(k:Nat):(dZ g t k=ZA->ez g F x t k=(List.range k).map F)/\(dZ g t k=ZH->∃ZY ZZ,(List.range k).map F=ZY++ZZ/\ez g F x t k=ZY++x::ZZ):=by
 induction k with
 |zero=>simp[ez,dZ]
 |succ j b =>
  have e:(List.range (j+1)).map F=(List.range j).map F++[F j]:=by rw[PH,ND];rfl
  rw[e];simp only[ez,dZ];cases hd:dZ g t j with
  |false =>
   have h1:=b.1 hd;cases hl:aC t (g j) with
   |true=>simpa[h1] using⟨(List.range j).map F,[F j],rfl,by simp⟩
   |false=>simp[h1]
  |true =>obtain⟨ZY,ZZ,h1,h2⟩:=b.2 hd;simp only[Bool.true_or,Bool.true_eq_false,false_and,UI,true_implies,false_implies,TX];exact⟨ZY,ZZ++[F j],by rw[h1];simp,by rw[h2];simp⟩
def zE (g:B_)(F:Nat->b)(x:b)(t:F_)(n:Nat):∃ZY ZZ,(List.range n).map F=ZY++ZZ/\jg g F x t n=ZY++x::ZZ:=by
 obtain⟨h1,h2⟩:=qC g F x t n;unfold jg;cases hd:dZ g t n with
 |true=>simpa using h2 hd
 |false=>exact⟨(List.range n).map F,[],by simp,by simp[h1 hd]⟩
def zF (R:List b)(d:b):(List.range (B R)).map (λj=>R.getD j d)=R:=by
 apply WO;{simp};{intro i h1 h2;simp at h1;simp[CL,h1]}
def uX{f:Type}(p:b->f)(R:List b)(d:b)(j:Nat):p (R.getD j d)=(R.map p).getD j (p d):=by simp[CL]
def EK{o v:ZB}{ZY ZZ:List TR}(h:TRow w f o (ZY++ZZ))(n:Q_ w x.2.1 0 x.1.h x.1.q/\(∃F,Cells w x.2.1 0 (x.1.h*3) F)/\Qz w x.2.1 102/\f<=x.2.1)
  (i:∀r∈ZY++ZZ,r.2.1≠x.2.1) (l:ZW w f 86 2 v (ZY++x::ZZ).length ((ZY++x::ZZ).flatMap aZ)):TRow w f v (ZY++x::ZZ):=by
 refine⟨l,λr g=>?_,?_⟩;{rcases p8.1 g with g|g;{exact h.q r (p8.2 (.inl g))};{rcases vG.1 g with rfl|g;{exact n};{exact h.q r (p8.2 (.inr g))}}};{have j:=PC.1 h.up;refine PC.2 ⟨j.1,PX.2 ⟨λb hb e=>i b (p8.2 (.inr hb)) e.c,j.2.1⟩,λa m b hb=>?_⟩;rcases vG.1 hb with rfl|hb;{exact i a (p8.2 (.inl m))};{exact j.2.2 a m b hb}}
def Hi{g:B_}{F:Nat->b}{x:b}{k:Nat}(h:dZ g t k=ZH):(ez g F x t k).length≠0:=by obtain⟨ZY,ZZ,_,h2⟩:=(qC g F x t k).2 h;rw[h2];simp
def zG{c:Nat}{a:O_}(h:TRow w f (Y a (B R) c) R)(hn:0<B R):∃b off,a=Q (T b off Z)/\b<z (A w)/\∀i,i<B R->ZV w (T b (off+i*2) Z)=Q (U (R.getD i dfR).1.e)/\ZV w (T b (off+i*2+1) Z)=Q (Y (Q ⟨(R.getD i dfR).2.1,0,Z⟩) (R.getD i dfR).1.h (R.getD i dfR).2.2):=by
 obtain⟨g,c',e⟩:=ey h.u hn;simp at e;obtain⟨rfl,rfl⟩:=e;refine⟨g,0,rfl,(cV h.u).2,λi hi=>?_⟩;have l:R[i]?=Q (R.getD i dfR):=by rw[CL,gq hi];rfl
 generalize R.getD i dfR=r at l;refine⟨?_,?_⟩;{have:=(bA h.u (j:=i*2) (u:=U r.1.e) (by have:=cT aZ 2 (λ_=>rfl) R i 0 (by omega) _ l;simpa[aZ] using this)).1;rwa[show 0+i*2=i*2 by omega]};{have:=(bA h.u (j:=i*2+1) (u:=Y (Q (T r.2.1 0 Z)) r.1.h r.2.2) (by have:=cT aZ 2 (λ_=>rfl) R i 1 (by omega) _ l;simpa[aZ] using this)).1;rwa[show 0+i*2+1=i*2+1 by omega]}
def fK (R:List TR)(x:TR)(t:F_):List TR:=jg (nm1 (aW (R.map λr:TR=>r.1))) (λj=>R.getD j dfR) x t (B R)
def ya (R:List TR)(j:Nat):nm1 (aW (R.map λr:TR=>r.1)) j=(R.getD j dfR).1.e:=by exact xT Target.e (uX (λr:TR=>r.1) R dfR j).c
def uY (R:List TR)(x:TR)(t:F_):(fK R x t).map (λr:TR=>r.1)=jO (R.map λr:TR=>r.1) x.1 t:=by unfold fK jO;rw[Ey,PI];congr 1;funext j;exact uX (λr:TR=>r.1) R dfR j
def EO{b:Nat}{i v:ZB}(h:TRow w b i R)(l:Q_ w x.2.1 0 x.1.h x.1.q/\(∃F,Cells w x.2.1 0 (x.1.h*3) F)/\Qz w x.2.1 102/\b<=x.2.1)
  (g:∀r∈R,r.2.1≠x.2.1) (f:ZW w b 86 2 v (fK R x t).length ((fK R x t).flatMap aZ)):TRow w b v (fK R x t):=by
 obtain⟨ZY,ZZ,h1,h2⟩:=zE (nm1 (aW (R.map λr:TR=>r.1))) (λj=>R.getD j dfR) x t (B R);rw[zF] at h1;unfold fK at f ⊢;rw[h2] at f ⊢;subst h1;exact EK h l g f
def Hj{b c:Nat}{x:Target}(h:ZW w b 102 3 (Y (Q (T g 0 Z)) x.h c) x.h (bZ x.q x.h)):Q_ w g 0 x.h x.q/\(∃F,Cells w g 0 (x.h*3) F)/\Qz w g 102/\b<=g:=by obtain⟨h1,h2⟩:=kY h;exact⟨h1,h2,jH h,(cV h).1⟩
def lY{size n:Nat}{e:ZK}{v:ZB}{g:List ZB}(h:ZW w f e size v n g\/∃b,v=Y (Q (T b 0 Z)) 0 0/\n=0/\g=[])(o:Obj):(w.alloc o).ownsRow f e size v n g\/∃b,v=Y (Q (T b 0 Z)) 0 0/\n=0/\g=[]:=
 h.imp (λh=>h.alloc o) id
def uZ{u h wr:E}{b X ZM bL lo m gb:Nat}{ZZ v u0 u1:ZB}{f:Nat->Ins}(ZY:∀l,Below X u l->TRow l (b+3) ZZ R)(ZX:Below X u wr)(y:Below bL h wr)(D:ZW h lo 102 3 (Y (Q (T gb 0 Z)) m g) m (bZ f m))(G:ZW wr bL 86 2 v (fK R (⟨t,m,f⟩,gb,g) t).length ((fK R (⟨t,m,f⟩,gb,g) t).flatMap aZ))(o:∀r∈R,r.2.1<X)(hb:bL=z (A h))(h1:X<lo)(h2:ZM<b+3)(h3:b+3<=X)(h4:lo<=bL)(h5:lo<=gb):TRow (((wr.setCell (T X 1 Z) v).setCell (T ZM 0 Z) u0).setCell (T ZM 1 Z) u1) b v (fK R (⟨t,m,f⟩,gb,g) t):=by have H:=ZY _ (ZX.setCell (p:=(T X 1 Z)) ly v);have q:=aH (J_ D y (by omega)) (R:=X) (j:=1) (by omega) v;have n:=aH G (R:=X) (j:=1) (by omega) v;have C:=(H.set (X:=ZM) (j:=0) h2 u0).set (X:=ZM) (j:=1) h2 u1;have i:=aH (aH q (R:=ZM) (j:=0) (by omega) u0) (R:=ZM) (j:=1) (by omega) u1;have s:=aH (aH n (R:=ZM) (j:=0) (by omega) u0) (R:=ZM) (j:=1) (by omega) u1;exact EO (iV C (by omega)) (Hj (x:=⟨t,m,f⟩) (aE i (by omega))) (λr ZT=>by have:=o r ZT;show r.2.1≠gb;omega) (aE s (by omega))
def nG (a0:O_)(n0 c0:Nat)(f0:Nat->Source)(a1:O_)(n1 c1:Nat)(f1:Nat->Target)(t:F_)(ap:O_)(m cp:Nat)(g:Nat->Ins)(w:E)(hn0:(n0:Int)<=1048576)(hn1:(n1:Int)<=1048576)(hm:m<=1048576)(JZ:Qx w a0 n0 f0)(J4:Qq w a1 n1 f1)(JQ:SlIns w ap m g)(Fk:∀i,i<n1->aP (f1 i))(hs:∀i,i<n1->∀j,j<(f1 i).h->((f1 i).q j).s.size<=maxLen)(Ka:∀i,i<m->(g i).s.size<=maxLen):Calls Tryz.prog 13 #[ZJ #[Y a0 n0 c0,Y a1 n1 c1],U t,ZJ #[Y ap m cp]] w λe ZQ=>∃v0 v1 R,e=.returned (.tuple #[ZJ #[v0,v1],J I (fW n0 f0 n1 f1 t (valid g m))])/\ZQ.ownsRow (z (A w)) 82 2 v0 (d9 n0 f0 n1 f1 t m g).length ((d9 n0 f0 n1 f1 t m g).flatMap bF)/\TRow ZQ (z (A w)) v1 R/\R.map (·.1)=eE n0 f0 n1 f1 t m g/\Below (z (A w)) w ZQ:=by
 have V0:=ae JZ;have V1:=ae J4;have VP:=ae JQ;have HF:=ae Fk;have HS:=ae hs;have JX:=ae Ka;clear JZ J4 JQ Fk hs Ka;obtain⟨n8,mv,fd,bt,la⟩:=NO fw;obtain⟨C,hC⟩:∃C,C=aR n0 f0 n1 f1:=⟨_,rfl⟩
 obtain⟨rt,GS⟩:∃rt,rt=valid g m:=⟨_,rfl⟩
 obtain⟨D,hD⟩:∃D,D=fW n0 f0 n1 f1 t (valid g m):=⟨_,rfl⟩
 obtain⟨H,JJ⟩:∃H,H=d9 n0 f0 n1 f1 t m g:=⟨_,rfl⟩
 obtain⟨LT,JH⟩:∃LT,LT=eE n0 f0 n1 f1 t m g:=⟨_,rfl⟩
 rw[<-hD,<-JJ,<-JH];have HC:=ae hC;have HR:=ae GS;have HD:=ae (hD.k (by unfold fW;rw[<-hC,<-GS]));have ex:=ae (JJ.k (by unfold d9;rw[<-hD]));have ZZ:=ae (JH.k (by unfold eE;rw[<-hD]));clear hC hD JJ JH GS;obtain⟨W,JK⟩:∃W:E,ZU (ZU (ZU w (N #[Y a0 n0 c0,Y a1 n1 c1] 29)) (N #[Y ap m cp] 37)) (N #[Y Z 0 0,Y Z 0 0] 29)=W:=⟨_,rfl⟩
 obtain⟨A0,-,-,-,-⟩:=nb3 JK;have JO:=ae JK;clear JK;have X0:=ae (EJ w (Y a0 n0 c0) (Y a1 n1 c1) (Y ap m cp) 29 37);go_enter Tryz.func13,Tryz.ntmps13;go_wp2_with fail;rw[JO.i] at X0 ⊢;clear JO;refine(eK a0 n0 c0 f0 a1 n1 c1 f1 _ hn0 hn1 (V0.aa A0 ly) (V1.aa A0 ly) HF HS).P ?_;rintro e w1⟨rfl,ZY⟩;rw[<-HC.i];have X1:=ae (X0.aa ZY X0.lt);have B1:=ae (A0.k (ZY.P A0.size));clear ZY A0 X0;by_cases hc:C=0;case neg =>
  have hd:=HD.i;rw[eT hc] at hd;have x:=ex.i;rw[eI (by omega)] at x;have n:=ZZ.i;rw[eI (by omega)] at n;subst hd x n;have hc':(C == 0)=ZA:=by simpa using hc
  obtain⟨r0,q0⟩:=X1.r0;obtain⟨r1,q1⟩:=X1.r1;go_wp2;exact bp (v:=.tuple #[ZJ #[Y Z 0 0,Y Z 0 0],J I 1]) (by simp[results,UN,go_sem,r0,r1]) rfl ⟨_,_,[],rfl,CP _ _ _ _,dq _ _,rfl,(B1.setCell (by simp;omega) _).setCell (by simp;omega) _⟩
 subst hc;have hz:=lU HC.c;have HZ:=ae hz;clear hz HC;have Fd:=HD.i;rw[eI (by omega)] at Fd;have Hx:=ae Fd;clear Fd HD;go_wp2_with fail;refine(dl t _).P ?_;rintro e w2⟨rfl,ZY⟩;have X2:=ae (X1.aa ZY X1.lt);have B2:=ae (B1.k (ZY.P B1.size));clear ZY X1 B1;cases hn:aA t with
 |false =>have hd:=Hx.i;rw[eT (.inl hn)] at hd;have x:=ex.i;rw[eI (by omega)] at x;have n:=ZZ.i;rw[eI (by omega)] at n;subst hd x n;obtain⟨r0,q0⟩:=X2.r0;obtain⟨r1,q1⟩:=X2.r1;go_wp2;exact bp (v:=.tuple #[ZJ #[Y Z 0 0,Y Z 0 0],J I 2]) (by simp[results,UN,go_sem,r0,r1]) rfl ⟨_,_,[],rfl,CP _ _ _ _,dq _ _,rfl,(B2.setCell (by simp;omega) _).setCell (by simp;omega) _⟩
 |true =>
 have k2:=X2.b0;go_wp2_with fail;refine(jD ap m cp g _ hm (VP.aa B2 ly) JX).P ?_;rintro e Kg⟨rfl,ZY⟩;rw[<-HR.i];have ZT:=ae (X2.aa ZY X2.lt);have ZP:=ae (B2.k (ZY.P B2.size));clear ZY X2 B2 k2;have S:=Hx.i;rw[hn] at S;clear Hx;cases rt with
 |false =>rw[eT (.inr rfl)] at S;have x:=ex.i;rw[eI (by omega)] at x;have n:=ZZ.i;rw[eI (by omega)] at n;subst S x n;obtain⟨r0,q0⟩:=ZT.r0;obtain⟨r1,q1⟩:=ZT.r1;go_wp2;exact bp (v:=.tuple #[ZJ #[Y Z 0 0,Y Z 0 0],J I 2]) (by simp[results,UN,go_sem,r0,r1]) rfl ⟨_,_,[],rfl,CP _ _ _ _,dq _ _,rfl,(ZP.setCell (by simp;omega) _).setCell (by simp;omega) _⟩
 |true =>
 rw[eI (by simp)] at S;have J8:=ae S;clear S hn;have hm1:1<=m:=by have h:=HR.i;unfold valid at h;have h2:=(Bool.and_eq_true_iff.1 h.c).2;have:=(OT h2).1;omega
 obtain⟨pb,po,rfl,J7⟩:=VP.resolve_left (by omega);have JS:=ae J7;clear VP J7 HR;have k0:=ZT.a0;have k1:=ZT.a1;go_wp2_with fail;refine(fH a0 n0 c0 f0 a1 n1 c1 f1 t _ hn0 hn1 (V0.aa ZP ly) (V1.aa ZP ly) HF).P ?_;rintro e ZX⟨v0,v1,R,rfl,hO,hR,hM,ZY⟩;have Kf:=ZT.lt;have X3:=ae (ZT.aa ZY ZT.lt);have B3:=ae (ZP.k (ZY.P ZP.size));obtain⟨O,P,rfl⟩:=aJ hO;obtain⟨ta,tc,rfl⟩:=aJ hR.u;have eR:B R=(Qj f1 t n1).length:=by rw[<-hM];simp
 have Kj:=gO f0 t n0;have Kl:=kf f1 t n1;obtain⟨L,hL⟩:∃L,L=Qy f0 t n0:=⟨_,rfl⟩
 obtain⟨K,hK⟩:∃K,K=Qj f1 t n1:=⟨_,rfl⟩
 rw[<-hL] at hO Kj ⊢;rw[<-hK] at hM Kl eR;have ZO:=J8.i;rw[<-hL,<-hK] at ZO;have x:=ex.i;rw[<-hL] at x;have n:=ZZ.i;rw[<-hK] at n;have ER:=ae eR;have hlr:B R<=n1:=by omega
 clear J8 ex ZZ hL hK ZY k0 k1 ZT ZP eR;have hbw:z (A w)+3<=z (A Kg):=Kf;have O3:=ae (aE hO (base':=z (A w)+3) (by omega));have R3:=ae (iV hR (base':=z (A w)+3) (by omega));have HM:=ae hM;have hll:(B L:Int)<=1048576:=by omega
 clear hO hR hM;have DB:=ae ((BS ZX).alloc ly (N #[Y O (B L) P,Y ta (B R) tc] 29));have K8:=ae (uS ZX (Y O (B L) P) (Y ta (B R) tc) 29);have X4:=ae (X3.aa DB X3.lt);have B4:=ae (B3.k (DB.P B3.size));have O4:=ae (J_ O3 DB ly);have R4:=ae (R3.aa DB ly);have At:=ae DB.i;have JY:z (A w)+2<z (A ZX):=X3.lt;have c8:=K8.c0;have V:=K8.c1;clear DB;by_cases hc3:(200:Int)<=B L+B R;{rw[eT (by have:=ER.i;omega)] at ZO;rw[eI (by omega)] at x n;subst ZO x n;obtain⟨r0,q0⟩:=X3.r0;obtain⟨r1,q1⟩:=X3.r1;clear c8 V;go_wp2;exact bp (v:=.tuple #[ZJ #[Y Z 0 0,Y Z 0 0],J I 3]) (by simp[results,UN,go_sem,r0,r1,JY]) rfl ⟨_,_,[],rfl,CP _ _ _ _,dq _ _,rfl,((B3.setCell (by simp;omega) _).setCell (by simp;omega) _).alloc (by have:=B3.size;simp;omega) _⟩};clear X3;rw[eI (by have:=ER.i;omega)] at ZO;rw[eT ZO] at x n;subst ZO x;have ZZ:=ae n;clear n;have k2:=X4.b0;have Ke:z (A (ZU ZX (N #[Y O (B H) P,Y ta (B R) tc] 29)))=z (A ZX)+1:=by simp
 have RX:Hid (∀ZQ,Below (z (A ZX)) ZX ZQ->TRow ZQ (z (A w)+3) (Y ta (B R) tc) R):=λZQ hb=>R3.aa hb ly;have OX:Hid (∀ZQ,Below (z (A ZX)) ZX ZQ->ZQ.ownsRow (z (A w)+3) 82 2 (Y O (B H) P) (B H) (H.flatMap bF)):=λZQ hb=>J_ O3 hb ly;have JL:Hid (∀r∈R,r.2.1<z (A ZX)):=λr hr=>(R3.q r hr).1.1;have E5:=ae ((a8 (z (A (ZU ZX (N #[Y O (B H) P,Y ta (B R) tc] 29)))) (ZU ZX (N #[Y O (B H) P,Y ta (B R) tc] 29))).alloc ly (N #[] 86));have JV:z (A (ZU (ZU ZX (N #[Y O (B H) P,Y ta (B R) tc] 29)) (N #[] 86)))=z (A (ZU ZX (N #[Y O (B H) P,Y ta (B R) tc] 29)))+1:=by simp
 have k3:=(E5.O (p:=(T (z (A w)+1) 0 Z)) (by show (z (A w))+1<_;have:=X4.lt;omega)).k k2;have ro:=ae (JS.aa B4 ly);have ur:=ae Ke;have DE:=ae JV;clear R3 O3 k2 Ke JV;go_wp2_with fail;generalize World.alloc (World.alloc ZX _) _=Fm at E5 DE k3 ⊢;generalize World.alloc ZX _=w4 at K8 X4 B4 O4 R4 c8 V ur DE At E5 ro;generalize (z (A ZX))=X at K8 c8 V JY ur RX OX JL At ⊢;refine(je pb po m cp g _ (by omega) (ro.aa E5 ly)).P ?_;rintro e w5⟨gb,q,rfl,JG,JN⟩;have hzx:z (A w4)=X+1:=ur.i;have hzy:z (A Fm)=z (A w4)+1:=DE.i;have F5:=ae (E5.k (JN.P (by omega)));have OG:=ae JG;have JU:=(cV JG).1;clear JG JN E5 ur DE k3 ro;obtain⟨w6,ph⟩:∃W:E,ZU w5 (N #[U t,Y (Q (T gb 0 Z)) m q] 86)=W:=⟨_,rfl⟩
 obtain⟨-,-,JT⟩:=nb1 ph;have aq:=ae ph;clear ph;have F6:=ae (F5.alloc F5.size (N #[U t,Y (Q (T gb 0 Z)) m q] 86));have y0:ZV w6 (T (z (A w5)) 0 Z)=Q (U t):=by cases aq.i;simp
 have y1:ZV w6 (T (z (A w5)) 1 Z)=Q (Y (Q (T gb 0 Z)) m q):=by cases aq.i;simp
 have Bk:=ae (OG.alloc (N #[U t,Y (Q (T gb 0 Z)) m q] 86));have J0:=F6.size;have th:=ae J0;clear J0 OG F5;go_wp2;rw[aq.i] at F6 Bk th ⊢;clear aq;have hgw:gb<z (A w6):=(cV Bk).2;generalize (z (A w5))=ZL at JT y0 y1 ⊢;obtain⟨y,J6⟩:∃y,y=z (A w6):=⟨_,rfl⟩
 have o:=ae J6;have M:X<y:=by have:=th.i;omega
 have JM:ZL<y:=by omega
 have Kc:=(F6.O (p:=(T X 0 Z)) (by show X<_;omega)).k c8;have JP:=(F6.O (p:=(T X 1 Z)) (by show X<_;omega)).k V;have Kd:=(F6.frozen (p:=(T X 1 Z)) (by show X<_;omega)).k K8.z1;have X6:=ae (X4.aa F6 (by have:=X4.lt;omega));have R6:=ae (R4.aa F6 ly);have J9:=ae (At.k (F6.P (by omega)));have J5:z (A w)<=X:=by omega
 have hb1:X+2<y+0:=by have:=th.i;omega
 clear c8 V K8 R4 O4 X4 B4 JT J6 At F6 V0 V1 HF HS JX JS HZ th;have c8:=Kc;have V:=JP;clear Kc JP;obtain⟨ZS,hI⟩:∃ZS,ZS=ez (nm1 (aW (R.map λr:TR=>r.1))) (λj=>R.getD j dfR) ((⟨t,m,g⟩,gb,q):TR) t:=⟨_,rfl⟩
 obtain⟨ZR,ZN⟩:∃ZR,ZR=dZ (nm1 (aW (R.map λr:TR=>r.1))) t:=⟨_,rfl⟩
 have Ki:Hid (∀k,ZS (k+1)=if ZR k=ZA/\aC t (R.getD k dfR).1.e=ZH then ZS k++[(⟨t,m,g⟩,gb,q)]++[R.getD k dfR] else ZS k++[R.getD k dfR]):=λk=>by rw[hI,ZN,<-ya R k];rfl
 have Km:Hid (∀k,ZR (k+1)=(ZR k || aC t (R.getD k dfR).1.e)):=λk=>by rw[ZN,<-ya R k];rfl
 have Kk:Hid (∀k,(ZS k).length<=k+1):=λk=>by rw[hI];exact(uT _ _ _ _ k).1
 have Kb:Hid (∀k,ZR k=ZH->(ZS k).length≠0):=λk h=>by rw[hI];rw[ZN] at h;exact Hi h
 have JW:Hid (fK R (⟨t,m,g⟩,gb,q) t=if ZR (B R)=ZH then ZS (B R) else ZS (B R)++[(⟨t,m,g⟩,gb,q)]):=by rw[hI,ZN];rfl
 have JI:Hid (ZS 0=[]/\ZR 0=ZA):=by rw[hI,ZN];exact⟨rfl,rfl⟩
 clear hI ZN;go_loopw [9,10,12] (λv d i wr=>∃(k:Nat) (db:Bool),k<=B R/\i=J I k/\d=.bool db/\Hid (db=ZR k)/\Hid (wr.ownsRow y 86 2 v (ZS k).length ((ZS k).flatMap aZ)\/∃b,v=Y (Q (T b 0 Z)) 0 0/\(ZS k).length=0/\(ZS k).flatMap aZ=[])/\Hid (Below y w6 wr)) (λ_ _ i _=>B R - (intOf i).toNat);case atStart=>exact⟨0,ZA,by omega,rfl,rfl,JI.2.c,.inr ⟨_,rfl,by rw[JI.1];rfl,by rw[JI.1];rfl⟩,by rw[o.i];exact a8 _ _⟩
 case round =>
  obtain⟨k,db,hk,rfl,rfl,G,OW,u⟩:=hrel;have e9:=(u.O (p:=(T X 1 Z)) M).k V;have z0:=(u.O (p:=(T ZL 0 Z)) JM).k y0;have z1:=(u.O (p:=(T ZL 1 Z)) JM).k y1;have hlen1:=Kk.i k;by_cases n:k<B R
  ·obtain⟨b,off,rfl,hbl,JR⟩:=zG R6 (by omega);obtain⟨p0,p1⟩:=JR k n;have DQ:=Ki.i k;have Id:=Km.i k;generalize R.getD k dfR=rk at p0 p1 DQ Id;have n9:=ae DQ;have qr:=ae Id;clear DQ Id;have sm:b<y:=by have:=o.i;omega
   have d0:=(u.O (p:=(T b (off+k*2) Z)) sm).k p0;have d1:=(u.O (p:=(T b (off+k*2+1) Z)) sm).k p1;clear JR;cases db with
   |true =>
    have HI:Hid (ZS (k+1)=ZS k++[rk]):=by show _=_;rw[n9.i,eI (by rw[<-G.i];simp)]
    have HN:Hid (ZH=ZR (k+1)):=by show ZH=_;rw[qr.i,<-G.i];rfl
    go_wp2_with (at_builtin;(refine eV rfl (.tmp 66) (.tmp 72) 27 rfl y 86 n8 (ZJ #[U ⟨#[]⟩,Y Z 0 0]) 2 40 OJ mv fd bt la rfl (by decide) _ (ZS k).length ((ZS k).flatMap aZ) (by simp[Act.eval]) (lY OW _) (T (z (A wr)) 0 Z) 1 (aZ rk) (by simp[Act.eval]) rfl (df wr _ _ _) (by simp[aZ,Value.oneCell']) (by unfold maxLen;omega) (by omega) (by have:=u.size;have:=o.i;simp;omega) ?_;intro vy wy f l;have OY:=ae f;have BY:=ae ((u.alloc (by have:=u.size;have:=o.i;omega) _).k l);clear f l));exact⟨⟨k+1,ZH,by omega,by go_num,rfl,HN,.inl (by rw[HI.i,cM,J1];simpa using OY.i),BY.i⟩,by simp[intOf];omega⟩
   |false =>
    cases hq:aC t rk.1.e with
    |true =>
     have HI:Hid (ZS (k+1)=ZS k++[(⟨t,m,g⟩,gb,q)]++[rk]):=by show _=_;rw[n9.i,eT ⟨G.c,hq⟩]
     have HN:Hid (ZH=ZR (k+1)):=by show ZH=_;rw[qr.i,hq];simp
     obtain⟨q1,q2⟩:=iW hq;clear hq;go_wp2_with (at_builtin;first|(refine eV rfl (.tmp 62) (.tmp 64) 27 rfl y 86 n8 (ZJ #[U ⟨#[]⟩,Y Z 0 0]) 2 40 OJ mv fd bt la rfl (by decide) _ (ZS k).length ((ZS k).flatMap aZ) (by simp[Act.eval]) (lY OW _) (T (z (A wr)) 0 Z) 1 (aZ (⟨t,m,g⟩,gb,q)) (by simp[Act.eval]) rfl (df wr _ _ _) (by simp[aZ,Value.oneCell']) (by unfold maxLen;omega) (by omega) (by have:=u.size;have:=o.i;simp;omega) ?_;intro vx wx f l;have Kh:=ae f;have BX:=ae ((u.alloc (by have:=u.size;have:=o.i;omega) _).k l);have f9:=(BX.O (p:=(T X 1 Z)) M).k V;have g0:=(BX.O (p:=(T b (off+k*2) Z)) sm).k p0;have g1:=(BX.O (p:=(T b (off+k*2+1) Z)) sm).k p1;clear f l)|(refine eV rfl (.tmp 66) (.tmp 72) 27 rfl y 86 n8 (ZJ #[U ⟨#[]⟩,Y Z 0 0]) 2 40 OJ mv fd bt la rfl (by decide) _ ((ZS k).length+1) ((ZS k).flatMap aZ++aZ (⟨t,m,g⟩,gb,q)) (by simp[Act.eval]) (.inl (Kh.alloc _)) (T (z (A wx)) 0 Z) 1 (aZ rk) (by simp[Act.eval]) rfl (df wx _ _ _) (by simp[aZ,Value.oneCell']) (by unfold maxLen;omega) (by omega) (by have:=BX.size;have:=o.i;simp;omega) ?_;intro vy wy f l;have OY:=ae f;have BY:=ae ((BX.alloc (by have:=BX.size;have:=o.i;omega) _).k l);clear f l));exact⟨⟨k+1,ZH,by omega,by go_num,rfl,HN,.inl (by rw[HI.i,cM,cM,J1,J1];simpa using OY.i),BY.i⟩,by simp[intOf];omega⟩
    |false =>
     have HI:Hid (ZS (k+1)=ZS k++[rk]):=by show _=_;rw[n9.i,eI (by rw[hq];simp)]
     have HN:Hid (ZA=ZR (k+1)):=by show ZA=_;rw[qr.i,<-G.i,hq];rfl
     have HQ:=ae (jN hq);clear hq;rcases HQ.i with q1|⟨q1,q2⟩
     all_goals
      go_wp2_with (at_builtin;(refine eV rfl (.tmp 66) (.tmp 72) 27 rfl y 86 n8 (ZJ #[U ⟨#[]⟩,Y Z 0 0]) 2 40 OJ mv fd bt la rfl (by decide) _ (ZS k).length ((ZS k).flatMap aZ) (by simp[Act.eval]) (lY OW _) (T (z (A wr)) 0 Z) 1 (aZ rk) (by simp[Act.eval]) rfl (df wr _ _ _) (by simp[aZ,Value.oneCell']) (by unfold maxLen;omega) (by omega) (by have:=u.size;have:=o.i;simp;omega) ?_;intro vy wy f l;have OY:=ae f;have BY:=ae ((u.alloc (by have:=u.size;have:=o.i;omega) _).k l);clear f l));exact⟨⟨k+1,ZA,by omega,by go_num,rfl,HN,.inl (by rw[HI.i,cM,J1];simpa using OY.i),BY.i⟩,by simp[intOf];omega⟩
  ·have e:B R=k:=by omega
   subst e;cases db with
   |true =>
    have ld:fK R (⟨t,m,g⟩,gb,q) t=ZS (B R):=by rw[JW.i,eT G.c]
    have ow:=OW.resolve_right (by rintro⟨b,_,h0,_⟩;exact Kb _ G.c h0);obtain⟨va,vc,rfl⟩:=ey ow (by have:=Kb.i _ G.c;omega);have OF:Hid (wr.ownsRow y 86 2 (Y (Q (T va 0 Z)) (ZS (B R)).length vc) (fK R (⟨t,m,g⟩,gb,q) t).length ((fK R (⟨t,m,g⟩,gb,q) t).flatMap aZ)):=by show World.ownsRow _ _ _ _ _ _ _;rw[ld];exact ow
    have e8:=(u.O (p:=(T X 0 Z)) M).k c8;have y9:=(u.frozen (p:=(T X 1 Z)) M).k Kd;obtain⟨r0,q0⟩:=(X6.aa u (by omega)).r0;obtain⟨r1,q1⟩:=(X6.aa u (by omega)).r1;have H3:=ae ld;clear ld ow OW;go_wp2;refine ?_;have GB:=ae (J9.k (u.P (by omega)));refine bp (v:=.tuple #[ZJ #[Y O (B H) P,Y (Q (T va 0 Z)) (ZS (B R)).length vc],J I 0]) (by simp[results,UN,go_sem,r0,r1]) rfl ⟨_,_,fK R (⟨t,m,g⟩,gb,q) t,rfl,aE (aH (aH (OX _ ((GB).setCell (p:=(T X 1 Z)) ly _)) (R:=z (A w)+2) (j:=0) (by omega) _) (R:=z (A w)+2) (j:=1) (by omega) _) (by omega),?_,(uY R (⟨t,m,g⟩,gb,q) t).k (by rw[HM.i];exact ZZ.c),(((B3.k ((GB).P J5)).setCell (by simp;omega) _).setCell (by simp;omega) _).setCell (by simp;omega) _⟩;exact uZ (X:=X) (ZM:=z (A w)+2) (bL:=y) (lo:=z (A Fm)) RX GB u Bk OF JL o (by omega) (by omega) (by omega) (by omega) JU
   |false =>
    go_wp2_with (at_builtin;(refine eV rfl (.tmp 76) (.tmp 78) 27 rfl y 86 n8 (ZJ #[U ⟨#[]⟩,Y Z 0 0]) 2 40 OJ mv fd bt la rfl (by decide) _ (ZS (B R)).length ((ZS (B R)).flatMap aZ) (by simp[Act.eval]) (lY OW _) (T (z (A wr)) 0 Z) 1 (aZ (⟨t,m,g⟩,gb,q)) (by simp[Act.eval]) rfl (df wr _ _ _) (by simp[aZ,Value.oneCell']) (by unfold maxLen;omega) (by omega) (by have:=u.size;have:=o.i;simp;omega) ?_;intro vz wz f l;obtain⟨gs,cs,rfl⟩:=ey f (Nat.succ_pos _);have OZ:=ae f;have BZ:=ae ((u.alloc (by have:=u.size;have:=o.i;omega) _).k l);have f8:=(BZ.O (p:=(T X 0 Z)) M).k c8;have f9:=(BZ.O (p:=(T X 1 Z)) M).k V;have y9:=(BZ.frozen (p:=(T X 1 Z)) M).k Kd;obtain⟨r0,q0⟩:=(X6.aa BZ (by have:=o.i;omega)).r0;obtain⟨r1,q1⟩:=(X6.aa BZ (by have:=o.i;omega)).r1;clear f l));have ld:fK R (⟨t,m,g⟩,gb,q) t=ZS (B R)++[(⟨t,m,g⟩,gb,q)]:=by rw[JW.i,eI (by rw[<-G.i];simp)]
    have OF:Hid (wz.ownsRow y 86 2 (Y (Q (T gs 0 Z)) ((ZS (B R)).length+1) cs) (fK R (⟨t,m,g⟩,gb,q) t).length ((fK R (⟨t,m,g⟩,gb,q) t).flatMap aZ)):=by show World.ownsRow _ _ _ _ _ _ _;rw[ld,cM,J1];simpa using OZ.i
    have GB:=ae (J9.k (BZ.P (by omega)));refine bp (v:=.tuple #[ZJ #[Y O (B H) P,Y (Q (T gs 0 Z)) ((ZS (B R)).length+1) cs],J I 0]) (by simp[results,UN,go_sem,r0,r1]) rfl ⟨_,_,fK R (⟨t,m,g⟩,gb,q) t,rfl,aE (aH (aH (OX _ ((GB).setCell (p:=(T X 1 Z)) ly _)) (R:=z (A w)+2) (j:=0) (by omega) _) (R:=z (A w)+2) (j:=1) (by omega) _) (by omega),?_,(uY R (⟨t,m,g⟩,gb,q) t).k (by rw[HM.i];exact ZZ.c),(((B3.k ((GB).P J5)).setCell (by simp;omega) _).setCell (by simp;omega) _).setCell (by simp;omega) _⟩;exact uZ (X:=X) (ZM:=z (A w)+2) (bL:=y) (lo:=z (A Fm)) RX GB BZ Bk OF JL o (by omega) (by omega) (by omega) (by omega) JU
