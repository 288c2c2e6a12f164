import Derived.Test.YtcnilonhfpimnaaGreatDoorFS
import Derived.Shelf.Spec.SlicesInsert
import Derived.Laws.CopyRow
import Derived.Lib.AppendZerosOnto
set_option linter.all false
set_option maxRecDepth 100000
set_option maxHeartbeats 8000000
open Go renaming Addr.mk->T,Value.slice->Z,Value.string->U,Value.int->J,Value.agg->ZJ,Obj.cells->N,IntKind.i64->I,World->E,Value->ZB,TypeId->ZK,World.heap->A,World.ownsRow->ZW,World.alloc->ZU,World.cell?->ZV
open Option renaming none->Y,some->Q
open Bool renaming false->ZA,true->ZH
open Array renaming size->z
open List renaming length->B
namespace Go.Proofs.YtcnilonhfpimnaaGreatDoor.Vp
open RowKit
variable {w:E}{b:Type}{t:F_}{R:List TR}{P:Program}{f g:Nat}{x:TR}
def d9 (n0:Nat)(f0:Nat->Source)(n1:Nat)(f1:Nat->Target)(t:F_)(m:Nat)(b:Nat->Ins):List Source:=if fW n0 f0 n1 f1 t (valid b m)=0 then Qz f0 t n0 else []
def eE (n0:Nat)(f0:Nat->Source)(n1:Nat)(f1:Nat->Target)(t:F_)(m:Nat)(b:Nat->Ins):List Target:=if fW n0 f0 n1 f1 t (valid b m)=0 then jO (Qq f1 t n1) ⟨t,m,b⟩ t else []
structure Trio (w:E)(h:Nat)(p0 p1 p2:ZB):Prop where
 lt:h+2<z (A w)
 a0:ZV w (T h 0 Y)=Q p0
 a1:ZV w (T h 1 Y)=Q p1
 b0:ZV w (T (h+1) 0 Y)=Q p2
 r0:ZV w (T (h+2) 0 Y)=Q (Z Y 0 0)/\w.frozen? (T (h+2) 0 Y)=ZA
 r1:ZV w (T (h+2) 1 Y)=Q (Z Y 0 0)/\w.frozen? (T (h+2) 1 Y)=ZA
def Trio.aa{g:E}{h ZZ:Nat}{j l m:ZB}(b:Trio w h j l m)(hb:Below ZZ w g)(hB:h+3<=ZZ):Trio g h j l m:=by have c:∀k o,k<ZZ->ZV g (T k o Y)=ZV w (T k o Y):=λk o i=>hb.O (p:=(T k o Y)) i;have f:∀k o,k<ZZ->g.frozen? (T k o Y)=w.frozen? (T k o Y):=λk o i=>hb.frozen (p:=(T k o Y)) i;exact⟨lj b.lt hb.size,(c _ _ (by omega)).k b.a0,(c _ _ (by omega)).k b.a1,(c _ _ (by omega)).k b.b0,⟨(c _ _ (by omega)).k b.r0.1,(f _ _ (by omega)).k b.r0.2⟩,⟨(c _ _ (by omega)).k b.r1.1,(f _ _ (by omega)).k b.r1.2⟩⟩
def EJ (w:E)(f b g:ZB)(t u:ZK):Trio (ZU (ZU (ZU w (N #[f,b] t)) (N #[g] u)) (N #[Z Y 0 0,Z Y 0 0] t)) (z (A w)) f b g:=by
 have j:Below (z (A w)+1) (ZU w (N #[f,b] t)) (ZU (ZU w (N #[f,b] t)) (N #[g] u)):=br.alloc (by simp) _;have i:Below (z (A w)+2) (ZU (ZU w (N #[f,b] t)) (N #[g] u)) (ZU (ZU (ZU w (N #[f,b] t)) (N #[g] u)) (N #[Z Y 0 0,Z Y 0 0] t)):=br.alloc (by simp) _;have hz:z (A (ZU w (N #[f,b] t)))=z (A w)+1:=by simp
 have h:z (A (ZU (ZU w (N #[f,b] t)) (N #[g] u)))=z (A w)+2:=by simp
 refine⟨by simp,?_,?_,?_,⟨?_,?_⟩,⟨?_,?_⟩⟩;{exact(i.O (p:=(T (z (A w)) 0 Y)) (by simp)).k ((j.O (p:=(T (z (A w)) 0 Y)) (by simp)).k (by simp))};{exact(i.O (p:=(T (z (A w)) 1 Y)) (by simp)).k ((j.O (p:=(T (z (A w)) 1 Y)) (by simp)).k (by simp))};{refine(i.O (p:=(T (z (A w)+1) 0 Y)) (by simp)).k ?_;rw[<-hz];clear j i hz h;generalize ZU w (N #[f,b] t)=W;simp};all_goals
  rw[<-h];clear j i hz h;generalize ZU (ZU w (N #[f,b] t)) (N #[g] u)=W;simp
def xm (f:Nat)(t ty e:ZK)(i:TypeInfo)(ZX:ZB)(size h:Nat)(ZZ:P.underlying t=Q (.slice e))(hi:P.info? e=Q i)(hz:i.zero=Q ZX)
  (m:i.size=size) (x:i.bytes=h) (y:ZX.cells.size=size)
  (b:Nat) (a:Addr) (c:Nat) (news:List ZB) (o:B news=1*size) (n:∀j u,news[j]?=Q u->w.cell? (a.add j)=Q u)
  (l:1*h<=140737488355328) (g:f<=z (A w)) :
  ∃r q,(Builtin.append_ #[t,t] ty #[Z (Q (T b 0 Y)) 0 0,Z (Q a) 1 c]).run P w=.ok r q/\q.ownsRow f e size r 1 news/\Below f w q:=by
 subst m x;have C:=run_append_grow (P:=P) w t ty e i ZX ZZ hi hz (T b 0 Y) 0 0 [] (by simp) (by intro j v D;simp at D) a 1 c news o n (by omega) (by omega) (growslice_fits (by omega) (by simpa using l));have p:=grownCap_ge w (0+1) 0 e;have s:grownCap w (0+1) 0 e<=maxLen:=grownCap_le_maxLen w (0+1) 0 e (by unfold maxLen;omega);refine⟨_,_,C,⟨by simpa using o,.inr ⟨z (A w),_,_,rfl,g,gM w.drew _,p,s,?_,?_⟩⟩,rfl,rfl,rfl,by simp,λk ZY=>UK w.drew _ (lj ZY g)⟩;{simp only[Array.size_append,QG,size_zeroCells,y,o,IT,I5,<-Nat.add_mul];congr 1;have:=p;simp only[I5] at this;omega};{simp only[Array.toList_append,NS];rw[<-o];exact List.take_left}
def eV{G:Array Oper}{rest:List Oper}{o:Oper}{a:Act}{ZO:Exit->Act->E->Prop}(H:o.guard=Y)(s x:Operand)(t:ZK)
  (ZQ:o.op=.call { callee:=.builtin .append,args:=#[s,x],argTypes:=#[t,t] })
  (f:Nat) (e:ZK) (i:TypeInfo) (ZX:ZB) (size g:Nat) (M:P.underlying t=Q (.slice e)) (hi:P.info? e=Q i) (hz:i.zero=Q ZX)
  (r:i.size=size) (D:i.bytes=g) (ZT:ZX.cells.size=size) (R:0<size)
  (v:ZB) (n:Nat) (ZZ:List ZB) (K:a.eval s=v) (l:ZW w f e size v n ZZ\/∃b,v=Z (Q (T b 0 Y)) 0 0/\n=0/\ZZ=[])
  (C:Addr) (c:Nat) (news:List ZB) (ZR:a.eval x=Z (Q C) 1 c) (O:B news=1*size) (y:∀j u,news[j]?=Q u->w.cell? (C.add j)=Q u) (h1:∀u∈news,u.oneCell'=ZH)
  (L:n+1<=maxLen) (ZY:(n+1)*g<=140737488355328) (m:f<=z (A w))
  (h:∀q p,p.ownsRow f e size q (n+1) (ZZ++news)->Below f w p->wpList P G ZO rest (a.put o.dst q) p):wpList P G ZO (o::rest) a w:=by
 rcases l with l|⟨b,rfl,rfl,rfl⟩
 {exact DN w H s x t ZQ f e i ZX size g M hi hz r D ZT R v n ZZ K l C 1 c news ZR O y h1 L ZY m λq p h2 ZS _=>h q p h2 (bg (a8 f w) ZS m (λj e=>(l.lt j e).1))};{obtain⟨q,p,S,h2,ZS⟩:=xm (w:=w) f t o.type e i ZX size g M hi hz r D ZT b C c news O y (by omega) m;exact Lib.wpList_append_run w H s x t t ZQ _ _ K ZR q p S (h q p (by simpa using h2) ZS)}
def qC (g:B_)(F:Nat->b)(x:b)(t:F_)(k:Nat):(dZ g t k=ZA->ez g F x t k=(List.range k).map F)/\(dZ g t k=ZH->∃ZY ZZ,(List.range k).map F=ZY++ZZ/\ez g F x t k=ZY++x::ZZ):=by
 induction k with
 |zero=>simp[ez,dZ]
 |succ j f =>
  have e:(List.range (j+1)).map F=(List.range j).map F++[F j]:=by rw[PI,NE];rfl
  rw[e];simp only[ez,dZ];cases hd:dZ g t j with
  |false =>
   have h1:=f.1 hd;cases hl:aC t (g j) with
   |true=>simpa[h1] using⟨(List.range j).map F,[F j],rfl,by simp⟩
   |false=>simp[h1]
  |true =>obtain⟨ZY,ZZ,h1,h2⟩:=f.2 hd;simp only[Bool.true_or,Bool.true_eq_false,false_and,UI,true_implies,false_implies,TX];exact⟨ZY,ZZ++[F j],by rw[h1];simp,by rw[h2];simp⟩
def zE (g:B_)(F:Nat->b)(x:b)(t:F_)(n:Nat):∃ZY ZZ,(List.range n).map F=ZY++ZZ/\jg g F x t n=ZY++x::ZZ:=by
 obtain⟨h1,h2⟩:=qC g F x t n;unfold jg;cases hd:dZ g t n with
 |true=>simpa using h2 hd
 |false=>exact⟨(List.range n).map F,[],by simp,by simp[h1 hd]⟩
def zF (R:List b)(d:b):(List.range (B R)).map (λj=>R.getD j d)=R:=by
 apply WO;{simp};{intro i h1 h2;simp at h1;simp[CL,h1]}
def uX{f:Type}(p:b->f)(R:List b)(d:b)(j:Nat):p (R.getD j d)=(R.map p).getD j (p d):=by simp[CL]
def EK{o v:ZB}{ZY ZZ:List TR}(h:TRow w f o (ZY++ZZ))(n:Qj w x.2.1 0 x.1.h x.1.q/\(∃F,Cells w x.2.1 0 (x.1.h*3) F)/\Qk w x.2.1 102/\f<=x.2.1)
  (i:∀r∈ZY++ZZ,r.2.1≠x.2.1) (j:ZW w f 86 2 v (ZY++x::ZZ).length ((ZY++x::ZZ).flatMap aZ)):TRow w f v (ZY++x::ZZ):=by
 refine⟨j,λr g=>?_,?_⟩;{rcases p8.1 g with g|g;{exact h.q r (p8.2 (.inl g))};{rcases vG.1 g with rfl|g;{exact n};{exact h.q r (p8.2 (.inr g))}}};{have l:=PD.1 h.up;refine PD.2 ⟨l.1,P9.2 ⟨λb hb e=>i b (p8.2 (.inr hb)) e.c,l.2.1⟩,λa m b hb=>?_⟩;rcases vG.1 hb with rfl|hb;{exact i a (p8.2 (.inl m))};{exact l.2.2 a m b hb}}
def Hi{g:B_}{F:Nat->b}{x:b}{k:Nat}(h:dZ g t k=ZH):(ez g F x t k).length≠0:=by obtain⟨ZY,ZZ,_,h2⟩:=(qC g F x t k).2 h;rw[h2];simp
def zG{l c:Nat}{a:O_}(h:TRow w l (Z a (B R) c) R)(hn:0<B R):∃b off,a=Q (T b off Y)/\b<z (A w)/\∀i,i<B R->ZV w (T b (off+i*2) Y)=Q (U (R.getD i dfR).1.e)/\ZV w (T b (off+i*2+1) Y)=Q (Z (Q ⟨(R.getD i dfR).2.1,0,Y⟩) (R.getD i dfR).1.h (R.getD i dfR).2.2):=by
 obtain⟨g,c',e⟩:=ey h.u hn;simp at e;obtain⟨rfl,rfl⟩:=e;refine⟨g,0,rfl,(cV h.u).2,λi hi=>?_⟩;have f:R[i]?=Q (R.getD i dfR):=by rw[CL,gq hi];rfl
 generalize R.getD i dfR=r at f;refine⟨?_,?_⟩;{have:=(bA h.u (j:=i*2) (u:=U r.1.e) (by have:=cT aZ 2 (λ_=>rfl) R i 0 (by omega) _ f;simpa[aZ] using this)).1;rwa[show 0+i*2=i*2 by omega]};{have:=(bA h.u (j:=i*2+1) (u:=Z (Q (T r.2.1 0 Y)) r.1.h r.2.2) (by have:=cT aZ 2 (λ_=>rfl) R i 1 (by omega) _ f;simpa[aZ] using this)).1;rwa[show 0+i*2+1=i*2+1 by omega]}
def fK (R:List TR)(x:TR)(t:F_):List TR:=jg (nm1 (aW (R.map λr:TR=>r.1))) (λj=>R.getD j dfR) x t (B R)
def ya (R:List TR)(j:Nat):nm1 (aW (R.map λr:TR=>r.1)) j=(R.getD j dfR).1.e:=by exact xT Target.e (uX (λr:TR=>r.1) R dfR j).c
def uY (R:List TR)(x:TR)(t:F_):(fK R x t).map (λr:TR=>r.1)=jO (R.map λr:TR=>r.1) x.1 t:=by unfold fK jO;rw[Ey,PJ];congr 1;funext j;exact uX (λr:TR=>r.1) R dfR j
def EO{b:Nat}{i v:ZB}(h:TRow w b i R)(l:Qj w x.2.1 0 x.1.h x.1.q/\(∃F,Cells w x.2.1 0 (x.1.h*3) F)/\Qk w x.2.1 102/\b<=x.2.1)
  (g:∀r∈R,r.2.1≠x.2.1) (f:ZW w b 86 2 v (fK R x t).length ((fK R x t).flatMap aZ)):TRow w b v (fK R x t):=by
 obtain⟨ZY,ZZ,h1,h2⟩:=zE (nm1 (aW (R.map λr:TR=>r.1))) (λj=>R.getD j dfR) x t (B R);rw[zF] at h1;unfold fK at f ⊢;rw[h2] at f ⊢;subst h1;exact EK h l g f
def Hj{b c:Nat}{x:Target}(h:ZW w b 102 3 (Z (Q (T g 0 Y)) x.h c) x.h (bZ x.q x.h)):Qj w g 0 x.h x.q/\(∃F,Cells w g 0 (x.h*3) F)/\Qk w g 102/\b<=g:=by obtain⟨h1,h2⟩:=kY h;exact⟨h1,h2,jH h,(cV h).1⟩
def lY{size n:Nat}{e:ZK}{v:ZB}{g:List ZB}(h:ZW w f e size v n g\/∃b,v=Z (Q (T b 0 Y)) 0 0/\n=0/\g=[])(o:Obj):(w.alloc o).ownsRow f e size v n g\/∃b,v=Z (Q (T b 0 Y)) 0 0/\n=0/\g=[]:=
 h.imp (λh=>h.alloc o) id
def uZ{i h wr:E}{b X ZL bL lo m gb:Nat}{H v u0 u1:ZB}{f:Nat->Ins}(C:∀s,Below X i s->TRow s (b+3) H R)(ZZ:Below X i wr)(G:Below bL h wr)(y:ZW h lo 102 3 (Z (Q (T gb 0 Y)) m g) m (bZ f m))(ZT:ZW wr bL 86 2 v (fK R (⟨t,m,f⟩,gb,g) t).length ((fK R (⟨t,m,f⟩,gb,g) t).flatMap aZ))(u:∀r∈R,r.2.1<X)(hb:bL=z (A h))(h1:X<lo)(h2:ZL<b+3)(h3:b+3<=X)(h4:lo<=bL)(h5:lo<=gb):TRow (((wr.setCell (T X 1 Y) v).setCell (T ZL 0 Y) u0).setCell (T ZL 1 Y) u1) b v (fK R (⟨t,m,f⟩,gb,g) t):=by have D:=C _ (ZZ.setCell (p:=(T X 1 Y)) ly v);have l:=aH (K_ y G (by omega)) (R:=X) (j:=1) (by omega) v;have n:=aH ZT (R:=X) (j:=1) (by omega) v;have ZY:=(D.set (X:=ZL) (j:=0) h2 u0).set (X:=ZL) (j:=1) h2 u1;have o:=aH (aH l (R:=ZL) (j:=0) (by omega) u0) (R:=ZL) (j:=1) (by omega) u1;have q:=aH (aH n (R:=ZL) (j:=0) (by omega) u0) (R:=ZL) (j:=1) (by omega) u1;exact EO (iV ZY (by omega)) (Hj (x:=⟨t,m,f⟩) (aE o (by omega))) (λr ZX=>by have:=u r ZX;show r.2.1≠gb;omega) (aE q (by omega))
def nG (a0:O_)(n0 c0:Nat)(f0:Nat->Source)(a1:O_)(n1 c1:Nat)(f1:Nat->Target)(t:F_)(ap:O_)(m cp:Nat)(f:Nat->Ins)(w:E)(hn0:(n0:Int)<=1048576)(hn1:(n1:Int)<=1048576)(hm:m<=1048576)(JQ:Qy w a0 n0 f0)(JN:Qx w a1 n1 f1)(JV:SlIns w ap m f)(Hx:∀i,i<n1->aP (f1 i))(hs:∀i,i<n1->∀j,j<(f1 i).h->((f1 i).q j).s.size<=maxLen)(JO:∀i,i<m->(f i).s.size<=maxLen):Calls Tryz.prog 13 #[ZJ #[Z a0 n0 c0,Z a1 n1 c1],U t,ZJ #[Z ap m cp]] w λe ZQ=>∃v0 v1 R,e=.returned (.tuple #[ZJ #[v0,v1],J I (fW n0 f0 n1 f1 t (valid f m))])/\ZQ.ownsRow (z (A w)) 82 2 v0 (d9 n0 f0 n1 f1 t m f).length ((d9 n0 f0 n1 f1 t m f).flatMap bF)/\TRow ZQ (z (A w)) v1 R/\R.map (·.1)=eE n0 f0 n1 f1 t m f/\Below (z (A w)) w ZQ:=by
 have V0:=ae JQ;have V1:=ae JN;have VP:=ae JV;have HF:=ae Hx;have HS:=ae hs;have JZ:=ae JO;clear JQ JN JV Hx hs JO;obtain⟨ex,fd,mv,bt,la⟩:=NP fw;obtain⟨C,hC⟩:∃C,C=aR n0 f0 n1 f1:=⟨_,rfl⟩
 obtain⟨rt,Id⟩:∃rt,rt=valid f m:=⟨_,rfl⟩
 obtain⟨D,hD⟩:∃D,D=fW n0 f0 n1 f1 t (valid f m):=⟨_,rfl⟩
 obtain⟨H,Fd⟩:∃H,H=d9 n0 f0 n1 f1 t m f:=⟨_,rfl⟩
 obtain⟨LT,Fm⟩:∃LT,LT=eE n0 f0 n1 f1 t m f:=⟨_,rfl⟩
 rw[<-hD,<-Fd,<-Fm];have HC:=ae hC;have HR:=ae Id;have HD:=ae (hD.k (by unfold fW;rw[<-hC,<-Id]));have n8:=ae (Fd.k (by unfold d9;rw[<-hD]));have ZZ:=ae (Fm.k (by unfold eE;rw[<-hD]));clear hC hD Fd Fm Id;obtain⟨W,JK⟩:∃W:E,ZU (ZU (ZU w (N #[Z a0 n0 c0,Z a1 n1 c1] 29)) (N #[Z ap m cp] 37)) (N #[Z Y 0 0,Z Y 0 0] 29)=W:=⟨_,rfl⟩
 obtain⟨A0,-,-,-,-⟩:=nb3 JK;have JW:=ae JK;clear JK;have X0:=ae (EJ w (Z a0 n0 c0) (Z a1 n1 c1) (Z ap m cp) 29 37);go_enter Tryz.func13,Tryz.ntmps13;go_wp2_with fail;rw[JW.i] at X0 ⊢;clear JW;refine(eK a0 n0 c0 f0 a1 n1 c1 f1 _ hn0 hn1 (V0.aa A0 ly) (V1.aa A0 ly) HF HS).P ?_;rintro e w1⟨rfl,ZY⟩;rw[<-HC.i];have X1:=ae (X0.aa ZY X0.lt);have B1:=ae (A0.k (ZY.P A0.size));clear ZY A0 X0;by_cases hc:C=0;case neg =>
  have hd:=HD.i;rw[eT hc] at hd;have x:=n8.i;rw[eI (by omega)] at x;have n:=ZZ.i;rw[eI (by omega)] at n;subst hd x n;have hc':(C == 0)=ZA:=by simpa using hc
  obtain⟨r0,q0⟩:=X1.r0;obtain⟨r1,q1⟩:=X1.r1;go_wp2;exact bp (v:=.tuple #[ZJ #[Z Y 0 0,Z Y 0 0],J I 1]) (by simp[results,UN,go_sem,r0,r1]) rfl ⟨_,_,[],rfl,CP _ _ _ _,dq _ _,rfl,(B1.setCell (by simp;omega) _).setCell (by simp;omega) _⟩
 subst hc;have hz:=lU HC.c;have HZ:=ae hz;clear hz HC;have Fk:=HD.i;rw[eI (by omega)] at Fk;have JH:=ae Fk;clear Fk HD;go_wp2_with fail;refine(dl t _).P ?_;rintro e w2⟨rfl,ZY⟩;have X2:=ae (X1.aa ZY X1.lt);have B2:=ae (B1.k (ZY.P B1.size));clear ZY X1 B1;cases hn:aA t with
 |false =>have hd:=JH.i;rw[eT (.inl hn)] at hd;have x:=n8.i;rw[eI (by omega)] at x;have n:=ZZ.i;rw[eI (by omega)] at n;subst hd x n;obtain⟨r0,q0⟩:=X2.r0;obtain⟨r1,q1⟩:=X2.r1;go_wp2;exact bp (v:=.tuple #[ZJ #[Z Y 0 0,Z Y 0 0],J I 2]) (by simp[results,UN,go_sem,r0,r1]) rfl ⟨_,_,[],rfl,CP _ _ _ _,dq _ _,rfl,(B2.setCell (by simp;omega) _).setCell (by simp;omega) _⟩
 |true =>
 have k2:=X2.b0;go_wp2_with fail;refine(jD ap m cp f _ hm (VP.aa B2 ly) JZ).P ?_;rintro e Kl⟨rfl,ZY⟩;rw[<-HR.i];have ZT:=ae (X2.aa ZY X2.lt);have ZO:=ae (B2.k (ZY.P B2.size));clear ZY X2 B2 k2;have S:=JH.i;rw[hn] at S;clear JH;cases rt with
 |false =>rw[eT (.inr rfl)] at S;have x:=n8.i;rw[eI (by omega)] at x;have n:=ZZ.i;rw[eI (by omega)] at n;subst S x n;obtain⟨r0,q0⟩:=ZT.r0;obtain⟨r1,q1⟩:=ZT.r1;go_wp2;exact bp (v:=.tuple #[ZJ #[Z Y 0 0,Z Y 0 0],J I 2]) (by simp[results,UN,go_sem,r0,r1]) rfl ⟨_,_,[],rfl,CP _ _ _ _,dq _ _,rfl,(ZO.setCell (by simp;omega) _).setCell (by simp;omega) _⟩
 |true =>
 rw[eI (by simp)] at S;have JR:=ae S;clear S hn;have hm1:1<=m:=by have h:=HR.i;unfold valid at h;have h2:=(Bool.and_eq_true_iff.1 h.c).2;have:=(OU h2).1;omega
 obtain⟨pb,po,rfl,Kb⟩:=VP.resolve_left (by omega);have JY:=ae Kb;clear VP Kb HR;have k0:=ZT.a0;have k1:=ZT.a1;go_wp2_with fail;refine(fH a0 n0 c0 f0 a1 n1 c1 f1 t _ hn0 hn1 (V0.aa ZO ly) (V1.aa ZO ly) HF).P ?_;rintro e ZX⟨v0,v1,R,rfl,hO,hR,hM,ZY⟩;have Kf:=ZT.lt;have X3:=ae (ZT.aa ZY ZT.lt);have B3:=ae (ZO.k (ZY.P ZO.size));obtain⟨P,O,rfl⟩:=aJ hO;obtain⟨ta,tc,rfl⟩:=aJ hR.u;have eR:B R=(Qq f1 t n1).length:=by rw[<-hM];simp
 have Kj:=gO f0 t n0;have Km:=kf f1 t n1;obtain⟨L,hL⟩:∃L,L=Qz f0 t n0:=⟨_,rfl⟩
 obtain⟨K,hK⟩:∃K,K=Qq f1 t n1:=⟨_,rfl⟩
 rw[<-hL] at hO Kj ⊢;rw[<-hK] at hM Km eR;have ZP:=JR.i;rw[<-hL,<-hK] at ZP;have x:=n8.i;rw[<-hL] at x;have n:=ZZ.i;rw[<-hK] at n;have ER:=ae eR;have hlr:B R<=n1:=by omega
 clear JR n8 ZZ hL hK ZY k0 k1 ZT ZO eR;have hbw:z (A w)+3<=z (A Kl):=Kf;have O3:=ae (aE hO (base':=z (A w)+3) (by omega));have R3:=ae (iV hR (base':=z (A w)+3) (by omega));have HM:=ae hM;have hll:(B L:Int)<=1048576:=by omega
 clear hO hR hM;have DB:=ae ((BS ZX).alloc ly (N #[Z P (B L) O,Z ta (B R) tc] 29));have K8:=ae (uS ZX (Z P (B L) O) (Z ta (B R) tc) 29);have X4:=ae (X3.aa DB X3.lt);have B4:=ae (B3.k (DB.P B3.size));have O4:=ae (K_ O3 DB ly);have R4:=ae (R3.aa DB ly);have sm:=ae DB.i;have JP:z (A w)+2<z (A ZX):=X3.lt;have c8:=K8.c0;have c9:=K8.c1;clear DB;by_cases hc3:(200:Int)<=B L+B R;{rw[eT (by have:=ER.i;omega)] at ZP;rw[eI (by omega)] at x n;subst ZP x n;obtain⟨r0,q0⟩:=X3.r0;obtain⟨r1,q1⟩:=X3.r1;clear c8 c9;go_wp2;exact bp (v:=.tuple #[ZJ #[Z Y 0 0,Z Y 0 0],J I 3]) (by simp[results,UN,go_sem,r0,r1,JP]) rfl ⟨_,_,[],rfl,CP _ _ _ _,dq _ _,rfl,((B3.setCell (by simp;omega) _).setCell (by simp;omega) _).alloc (by have:=B3.size;simp;omega) _⟩};clear X3;rw[eI (by have:=ER.i;omega)] at ZP;rw[eT ZP] at x n;subst ZP x;have ZZ:=ae n;clear n;have k2:=X4.b0;have Ka:z (A (ZU ZX (N #[Z P (B H) O,Z ta (B R) tc] 29)))=z (A ZX)+1:=by simp
 have RX:Hid (∀ZQ,Below (z (A ZX)) ZX ZQ->TRow ZQ (z (A w)+3) (Z ta (B R) tc) R):=λZQ hb=>R3.aa hb ly;have OX:Hid (∀ZQ,Below (z (A ZX)) ZX ZQ->ZQ.ownsRow (z (A w)+3) 82 2 (Z P (B H) O) (B H) (H.flatMap bF)):=λZQ hb=>K_ O3 hb ly;have JL:Hid (∀r∈R,r.2.1<z (A ZX)):=λr hr=>(R3.q r hr).1.1;have E5:=ae ((a8 (z (A (ZU ZX (N #[Z P (B H) O,Z ta (B R) tc] 29)))) (ZU ZX (N #[Z P (B H) O,Z ta (B R) tc] 29))).alloc ly (N #[] 86));have JX:z (A (ZU (ZU ZX (N #[Z P (B H) O,Z ta (B R) tc] 29)) (N #[] 86)))=z (A (ZU ZX (N #[Z P (B H) O,Z ta (B R) tc] 29)))+1:=by simp
 have k3:=(E5.O (p:=(T (z (A w)+1) 0 Y)) (by show (z (A w))+1<_;have:=X4.lt;omega)).k k2;have ph:=ae (JY.aa B4 ly);have ur:=ae Ka;have th:=ae JX;clear R3 O3 k2 Ka JX;go_wp2_with fail;generalize World.alloc (World.alloc ZX _) _=JJ at E5 th k3 ⊢;generalize World.alloc ZX _=w4 at K8 X4 B4 O4 R4 c8 c9 ur th sm E5 ph;generalize (z (A ZX))=X at K8 c8 c9 JP ur RX OX JL sm ⊢;refine(je pb po m cp f _ (by omega) (ph.aa E5 ly)).P ?_;rintro e w5⟨gb,u,rfl,GS,J0⟩;have hzx:z (A w4)=X+1:=ur.i;have hzy:z (A JJ)=z (A w4)+1:=th.i;have F5:=ae (E5.k (J0.P (by omega)));have OG:=ae GS;have Kd:=(cV GS).1;clear GS J0 E5 ur th k3 ph;obtain⟨w6,ro⟩:∃W:E,ZU w5 (N #[U t,Z (Q (T gb 0 Y)) m u] 86)=W:=⟨_,rfl⟩
 obtain⟨-,-,J8⟩:=nb1 ro;have aq:=ae ro;clear ro;have V:=ae (F5.alloc F5.size (N #[U t,Z (Q (T gb 0 Y)) m u] 86));have y0:ZV w6 (T (z (A w5)) 0 Y)=Q (U t):=by cases aq.i;simp
 have y1:ZV w6 (T (z (A w5)) 1 Y)=Q (Z (Q (T gb 0 Y)) m u):=by cases aq.i;simp
 have At:=ae (OG.alloc (N #[U t,Z (Q (T gb 0 Y)) m u] 86));have JM:=V.size;have DE:=ae JM;clear JM OG F5;go_wp2;rw[aq.i] at V At DE ⊢;clear aq;have hgw:gb<z (A w6):=(cV At).2;generalize (z (A w5))=ZM at J8 y0 y1 ⊢;obtain⟨y,J4⟩:∃y,y=z (A w6):=⟨_,rfl⟩
 have o:=ae J4;have M:X<y:=by have:=DE.i;omega
 have Ke:ZM<y:=by omega
 have J5:=(V.O (p:=(T X 0 Y)) (by show X<_;omega)).k c8;have J9:=(V.O (p:=(T X 1 Y)) (by show X<_;omega)).k c9;have J6:=(V.frozen (p:=(T X 1 Y)) (by show X<_;omega)).k K8.z1;have X6:=ae (X4.aa V (by have:=X4.lt;omega));have R6:=ae (R4.aa V ly);have JU:=ae (sm.k (V.P (by omega)));have JT:z (A w)<=X:=by omega
 have hb1:X+2<y+0:=by have:=DE.i;omega
 clear c8 c9 K8 R4 O4 X4 B4 J8 J4 sm V V0 V1 HF HS JZ JY HZ DE;have c8:=J5;have c9:=J9;clear J5 J9;obtain⟨ZS,hI⟩:∃ZS,ZS=ez (nm1 (aW (R.map λr:TR=>r.1))) (λj=>R.getD j dfR) ((⟨t,m,f⟩,gb,u):TR) t:=⟨_,rfl⟩
 obtain⟨ZR,ZN⟩:∃ZR,ZR=dZ (nm1 (aW (R.map λr:TR=>r.1))) t:=⟨_,rfl⟩
 have Kk:Hid (∀k,ZS (k+1)=if ZR k=ZA/\aC t (R.getD k dfR).1.e=ZH then ZS k++[(⟨t,m,f⟩,gb,u)]++[R.getD k dfR] else ZS k++[R.getD k dfR]):=λk=>by rw[hI,ZN,<-ya R k];rfl
 have Kh:Hid (∀k,ZR (k+1)=(ZR k || aC t (R.getD k dfR).1.e)):=λk=>by rw[ZN,<-ya R k];rfl
 have Kg:Hid (∀k,(ZS k).length<=k+1):=λk=>by rw[hI];exact(uT _ _ _ _ k).1
 have Kc:Hid (∀k,ZR k=ZH->(ZS k).length≠0):=λk h=>by rw[hI];rw[ZN] at h;exact Hi h
 have JS:Hid (fK R (⟨t,m,f⟩,gb,u) t=if ZR (B R)=ZH then ZS (B R) else ZS (B R)++[(⟨t,m,f⟩,gb,u)]):=by rw[hI,ZN];rfl
 have DQ:Hid (ZS 0=[]/\ZR 0=ZA):=by rw[hI,ZN];exact⟨rfl,rfl⟩
 clear hI ZN;go_loopw [9,10,12] (λv d i wr=>∃(k:Nat) (db:Bool),k<=B R/\i=J I k/\d=.bool db/\Hid (db=ZR k)/\Hid (wr.ownsRow y 86 2 v (ZS k).length ((ZS k).flatMap aZ)\/∃b,v=Z (Q (T b 0 Y)) 0 0/\(ZS k).length=0/\(ZS k).flatMap aZ=[])/\Hid (Below y w6 wr)) (λ_ _ i _=>B R - (intOf i).toNat);case atStart=>exact⟨0,ZA,by omega,rfl,rfl,DQ.2.c,.inr ⟨_,rfl,by rw[DQ.1];rfl,by rw[DQ.1];rfl⟩,by rw[o.i];exact a8 _ _⟩
 case round =>
  obtain⟨k,db,hk,rfl,rfl,G,OW,q⟩:=hrel;have e9:=(q.O (p:=(T X 1 Y)) M).k c9;have z0:=(q.O (p:=(T ZM 0 Y)) Ke).k y0;have z1:=(q.O (p:=(T ZM 1 Y)) Ke).k y1;have hlen1:=Kg.i k;by_cases n:k<B R
  ·obtain⟨b,off,rfl,hbl,J7⟩:=zG R6 (by omega);obtain⟨p0,p1⟩:=J7 k n;have JG:=Kk.i k;have JI:=Kh.i k;generalize R.getD k dfR=rk at p0 p1 JG JI;have qr:=ae JG;have n9:=ae JI;clear JG JI;have Bk:b<y:=by have:=o.i;omega
   have d0:=(q.O (p:=(T b (off+k*2) Y)) Bk).k p0;have d1:=(q.O (p:=(T b (off+k*2+1) Y)) Bk).k p1;clear J7;cases db with
   |true =>
    have HI:Hid (ZS (k+1)=ZS k++[rk]):=by show _=_;rw[qr.i,eI (by rw[<-G.i];simp)]
    have HN:Hid (ZH=ZR (k+1)):=by show ZH=_;rw[n9.i,<-G.i];rfl
    go_wp2_with (at_builtin;(refine eV rfl (.tmp 66) (.tmp 72) 27 rfl y 86 ex (ZJ #[U ⟨#[]⟩,Z Y 0 0]) 2 40 ON fd mv bt la rfl (by decide) _ (ZS k).length ((ZS k).flatMap aZ) (by simp[Act.eval]) (lY OW _) (T (z (A wr)) 0 Y) 1 (aZ rk) (by simp[Act.eval]) rfl (df wr _ _ _) (by simp[aZ,Value.oneCell']) (by unfold maxLen;omega) (by omega) (by have:=q.size;have:=o.i;simp;omega) ?_;intro vy wy g l;have OY:=ae g;have BY:=ae ((q.alloc (by have:=q.size;have:=o.i;omega) _).k l);clear g l));exact⟨⟨k+1,ZH,by omega,by go_num,rfl,HN,.inl (by rw[HI.i,cM,KE];simpa using OY.i),BY.i⟩,by simp[intOf];omega⟩
   |false =>
    cases hq:aC t rk.1.e with
    |true =>
     have HI:Hid (ZS (k+1)=ZS k++[(⟨t,m,f⟩,gb,u)]++[rk]):=by show _=_;rw[qr.i,eT ⟨G.c,hq⟩]
     have HN:Hid (ZH=ZR (k+1)):=by show ZH=_;rw[n9.i,hq];simp
     obtain⟨q1,q2⟩:=iW hq;clear hq;go_wp2_with (at_builtin;first|(refine eV rfl (.tmp 62) (.tmp 64) 27 rfl y 86 ex (ZJ #[U ⟨#[]⟩,Z Y 0 0]) 2 40 ON fd mv bt la rfl (by decide) _ (ZS k).length ((ZS k).flatMap aZ) (by simp[Act.eval]) (lY OW _) (T (z (A wr)) 0 Y) 1 (aZ (⟨t,m,f⟩,gb,u)) (by simp[Act.eval]) rfl (df wr _ _ _) (by simp[aZ,Value.oneCell']) (by unfold maxLen;omega) (by omega) (by have:=q.size;have:=o.i;simp;omega) ?_;intro vx wx g l;have Ki:=ae g;have BX:=ae ((q.alloc (by have:=q.size;have:=o.i;omega) _).k l);have f9:=(BX.O (p:=(T X 1 Y)) M).k c9;have g0:=(BX.O (p:=(T b (off+k*2) Y)) Bk).k p0;have g1:=(BX.O (p:=(T b (off+k*2+1) Y)) Bk).k p1;clear g l)|(refine eV rfl (.tmp 66) (.tmp 72) 27 rfl y 86 ex (ZJ #[U ⟨#[]⟩,Z Y 0 0]) 2 40 ON fd mv bt la rfl (by decide) _ ((ZS k).length+1) ((ZS k).flatMap aZ++aZ (⟨t,m,f⟩,gb,u)) (by simp[Act.eval]) (.inl (Ki.alloc _)) (T (z (A wx)) 0 Y) 1 (aZ rk) (by simp[Act.eval]) rfl (df wx _ _ _) (by simp[aZ,Value.oneCell']) (by unfold maxLen;omega) (by omega) (by have:=BX.size;have:=o.i;simp;omega) ?_;intro vy wy g l;have OY:=ae g;have BY:=ae ((BX.alloc (by have:=BX.size;have:=o.i;omega) _).k l);clear g l));exact⟨⟨k+1,ZH,by omega,by go_num,rfl,HN,.inl (by rw[HI.i,cM,cM,KE,KE];simpa using OY.i),BY.i⟩,by simp[intOf];omega⟩
    |false =>
     have HI:Hid (ZS (k+1)=ZS k++[rk]):=by show _=_;rw[qr.i,eI (by rw[hq];simp)]
     have HN:Hid (ZA=ZR (k+1)):=by show ZA=_;rw[n9.i,<-G.i,hq];rfl
     have HQ:=ae (jN hq);clear hq;rcases HQ.i with q1|⟨q1,q2⟩
     all_goals
      go_wp2_with (at_builtin;(refine eV rfl (.tmp 66) (.tmp 72) 27 rfl y 86 ex (ZJ #[U ⟨#[]⟩,Z Y 0 0]) 2 40 ON fd mv bt la rfl (by decide) _ (ZS k).length ((ZS k).flatMap aZ) (by simp[Act.eval]) (lY OW _) (T (z (A wr)) 0 Y) 1 (aZ rk) (by simp[Act.eval]) rfl (df wr _ _ _) (by simp[aZ,Value.oneCell']) (by unfold maxLen;omega) (by omega) (by have:=q.size;have:=o.i;simp;omega) ?_;intro vy wy g l;have OY:=ae g;have BY:=ae ((q.alloc (by have:=q.size;have:=o.i;omega) _).k l);clear g l));exact⟨⟨k+1,ZA,by omega,by go_num,rfl,HN,.inl (by rw[HI.i,cM,KE];simpa using OY.i),BY.i⟩,by simp[intOf];omega⟩
  ·have e:B R=k:=by omega
   subst e;cases db with
   |true =>
    have ld:fK R (⟨t,m,f⟩,gb,u) t=ZS (B R):=by rw[JS.i,eT G.c]
    have ow:=OW.resolve_right (by rintro⟨b,_,h0,_⟩;exact Kc _ G.c h0);obtain⟨va,vc,rfl⟩:=ey ow (by have:=Kc.i _ G.c;omega);have OF:Hid (wr.ownsRow y 86 2 (Z (Q (T va 0 Y)) (ZS (B R)).length vc) (fK R (⟨t,m,f⟩,gb,u) t).length ((fK R (⟨t,m,f⟩,gb,u) t).flatMap aZ)):=by show World.ownsRow _ _ _ _ _ _ _;rw[ld];exact ow
    have e8:=(q.O (p:=(T X 0 Y)) M).k c8;have y9:=(q.frozen (p:=(T X 1 Y)) M).k J6;obtain⟨r0,q0⟩:=(X6.aa q (by omega)).r0;obtain⟨r1,q1⟩:=(X6.aa q (by omega)).r1;have H3:=ae ld;clear ld ow OW;go_wp2;refine ?_;have GB:=ae (JU.k (q.P (by omega)));refine bp (v:=.tuple #[ZJ #[Z P (B H) O,Z (Q (T va 0 Y)) (ZS (B R)).length vc],J I 0]) (by simp[results,UN,go_sem,r0,r1]) rfl ⟨_,_,fK R (⟨t,m,f⟩,gb,u) t,rfl,aE (aH (aH (OX _ ((GB).setCell (p:=(T X 1 Y)) ly _)) (R:=z (A w)+2) (j:=0) (by omega) _) (R:=z (A w)+2) (j:=1) (by omega) _) (by omega),?_,(uY R (⟨t,m,f⟩,gb,u) t).k (by rw[HM.i];exact ZZ.c),(((B3.k ((GB).P JT)).setCell (by simp;omega) _).setCell (by simp;omega) _).setCell (by simp;omega) _⟩;exact uZ (X:=X) (ZL:=z (A w)+2) (bL:=y) (lo:=z (A JJ)) RX GB q At OF JL o (by omega) (by omega) (by omega) (by omega) Kd
   |false =>
    go_wp2_with (at_builtin;(refine eV rfl (.tmp 76) (.tmp 78) 27 rfl y 86 ex (ZJ #[U ⟨#[]⟩,Z Y 0 0]) 2 40 ON fd mv bt la rfl (by decide) _ (ZS (B R)).length ((ZS (B R)).flatMap aZ) (by simp[Act.eval]) (lY OW _) (T (z (A wr)) 0 Y) 1 (aZ (⟨t,m,f⟩,gb,u)) (by simp[Act.eval]) rfl (df wr _ _ _) (by simp[aZ,Value.oneCell']) (by unfold maxLen;omega) (by omega) (by have:=q.size;have:=o.i;simp;omega) ?_;intro vz wz g l;obtain⟨gs,cs,rfl⟩:=ey g (Nat.succ_pos _);have OZ:=ae g;have BZ:=ae ((q.alloc (by have:=q.size;have:=o.i;omega) _).k l);have f8:=(BZ.O (p:=(T X 0 Y)) M).k c8;have f9:=(BZ.O (p:=(T X 1 Y)) M).k c9;have y9:=(BZ.frozen (p:=(T X 1 Y)) M).k J6;obtain⟨r0,q0⟩:=(X6.aa BZ (by have:=o.i;omega)).r0;obtain⟨r1,q1⟩:=(X6.aa BZ (by have:=o.i;omega)).r1;clear g l));have ld:fK R (⟨t,m,f⟩,gb,u) t=ZS (B R)++[(⟨t,m,f⟩,gb,u)]:=by rw[JS.i,eI (by rw[<-G.i];simp)]
    have OF:Hid (wz.ownsRow y 86 2 (Z (Q (T gs 0 Y)) ((ZS (B R)).length+1) cs) (fK R (⟨t,m,f⟩,gb,u) t).length ((fK R (⟨t,m,f⟩,gb,u) t).flatMap aZ)):=by show World.ownsRow _ _ _ _ _ _ _;rw[ld,cM,KE];simpa using OZ.i
    have GB:=ae (JU.k (BZ.P (by omega)));refine bp (v:=.tuple #[ZJ #[Z P (B H) O,Z (Q (T gs 0 Y)) ((ZS (B R)).length+1) cs],J I 0]) (by simp[results,UN,go_sem,r0,r1]) rfl ⟨_,_,fK R (⟨t,m,f⟩,gb,u) t,rfl,aE (aH (aH (OX _ ((GB).setCell (p:=(T X 1 Y)) ly _)) (R:=z (A w)+2) (j:=0) (by omega) _) (R:=z (A w)+2) (j:=1) (by omega) _) (by omega),?_,(uY R (⟨t,m,f⟩,gb,u) t).k (by rw[HM.i];exact ZZ.c),(((B3.k ((GB).P JT)).setCell (by simp;omega) _).setCell (by simp;omega) _).setCell (by simp;omega) _⟩;exact uZ (X:=X) (ZL:=z (A w)+2) (bL:=y) (lo:=z (A JJ)) RX GB BZ At OF JL o (by omega) (by omega) (by omega) (by omega) Kd
