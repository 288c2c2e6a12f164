import Derived.Test.YtpmnbjkjpnclaaaGreatDoorQE
import Derived.Shelf.Spec.SlicesInsert
import Derived.Laws.CopyRow
import Derived.Lib.AppendZerosOnto
set_option maxRecDepth 100000
set_option maxHeartbeats 8000000
set_option linter.unusedSimpArgs false
open Go renaming Addr.mk->Q,Value.slice->Z,Value.string->Y,Value.int->J,Obj.cells->N,IntKind.i64->I,World->M,Value->ZC,TypeId->ZH,World.alloc->A
open Option renaming none->U,some->T
open Bool renaming false->ZA,true->ZG
namespace Go.Proofs.YtpmnbjkjpnclaaaGreatDoor.Vp
open RowKit
variable {w g:M}{b:Type}{c:Nat}{t:ByteArray}{R:List TR}{P:Program}{x:TR}
def jy (n0:Nat)(f0:Nat->Source)(n1:Nat)(f1:Nat->Target)(t:ByteArray)(m:Nat)(b:Nat->Ins):List Source:=if me n0 f0 n1 f1 t (valid b m)=0 then bX f0 t n0 else []
def mh (n0:Nat)(f0:Nat->Source)(n1:Nat)(f1:Nat->Target)(t:ByteArray)(m:Nat)(b:Nat->Ins):List Target:=if me n0 f0 n1 f1 t (valid b m)=0 then uO (keepT f1 t n1) ⟨t,m,b⟩ t else []
structure Trio (w:M)(h:Nat)(p0 p1 p2:ZC):Prop where
 lt:h+2<w.heap.size
 a0:w.cell? (Q h 0 U)=T p0
 a1:w.cell? (Q h 1 U)=T p1
 b0:w.cell? (Q (h+1) 0 U)=T p2
 r0:w.cell? (Q (h+2) 0 U)=T (Z U 0 0)/\w.frozen? (Q (h+2) 0 U)=ZA
 r1:w.cell? (Q (h+2) 1 U)=T (Z U 0 0)/\w.frozen? (Q (h+2) 1 U)=ZA
theorem Trio.aa{h B:Nat}{l m j:ZC}(b:Trio w h l m j)(hb:Below B w g)(hB:h+3<=B):Trio g h l m j:=by have c:∀k o,k<B->g.cell? (Q k o U)=w.cell? (Q k o U):=λk o i=>hb.cell (p:=(Q k o U)) i;have f:∀k o,k<B->g.frozen? (Q k o U)=w.frozen? (Q k o U):=λk o i=>hb.frozen (p:=(Q k o U)) i;exact⟨lj b.lt hb.size,(c _ _ (by omega)).trans b.a0,(c _ _ (by omega)).trans b.a1,(c _ _ (by omega)).trans b.b0,⟨(c _ _ (by omega)).trans b.r0.1,(f _ _ (by omega)).trans b.r0.2⟩,⟨(c _ _ (by omega)).trans b.r1.1,(f _ _ (by omega)).trans b.r1.2⟩⟩
theorem ES (w:M)(b c f:ZC)(t u:ZH):Trio (((A w (N #[b,c] t)).alloc (N #[f] u)).alloc (N #[Z U 0 0,Z U 0 0] t)) w.heap.size b c f:=by
 have i:Below (w.heap.size+1) (A w (N #[b,c] t)) ((A w (N #[b,c] t)).alloc (N #[f] u)):=br.alloc (by simp) _;have g:Below (w.heap.size+2) ((A w (N #[b,c] t)).alloc (N #[f] u)) (((A w (N #[b,c] t)).alloc (N #[f] u)).alloc (N #[Z U 0 0,Z U 0 0] t)):=br.alloc (by simp) _;have hz:(A w (N #[b,c] t)).heap.size=w.heap.size+1:=by simp
 have h:((A w (N #[b,c] t)).alloc (N #[f] u)).heap.size=w.heap.size+2:=by simp
 refine⟨by simp,?_,?_,?_,⟨?_,?_⟩,⟨?_,?_⟩⟩;{exact(g.cell (p:=(Q w.heap.size 0 U)) (by simp)).trans ((i.cell (p:=(Q w.heap.size 0 U)) (by simp)).trans (by simp))};{exact(g.cell (p:=(Q w.heap.size 1 U)) (by simp)).trans ((i.cell (p:=(Q w.heap.size 1 U)) (by simp)).trans (by simp))};{refine(g.cell (p:=(Q (w.heap.size+1) 0 U)) (by simp)).trans ?_;rw[<-hz];clear i g hz h;generalize A w (N #[b,c] t)=W;simp};all_goals
  rw[<-h];clear i g hz h;generalize (A w (N #[b,c] t)).alloc (N #[f] u)=W;simp
theorem xg (f:Nat)(t ty e:ZH)(i:TypeInfo)(z:ZC)(size g:Nat)(B:P.underlying t=T (.slice e))(hi:P.info? e=T i)(hz:i.zero=T z)
  (n:i.size=size) (y:i.bytes=g) (x:z.cells.size=size)
  (b:Nat) (a:Addr) (c:Nat) (news:List ZC) (o:news.length=1*size) (m:∀j u,news[j]?=T u->w.cell? (a.add j)=T u)
  (l:1*g<=140737488355328) (h:f<=w.heap.size) :
  ∃r q,(Builtin.append_ #[t,t] ty #[Z (T (Q b 0 U)) 0 0,Z (T a) 1 c]).run P w=.ok r q/\q.ownsRow f e size r 1 news/\Below f w q:=by
 subst n y;have ZR:=run_append_grow (P:=P) w t ty e i z B hi hz (Q b 0 U) 0 0 [] (by simp) (by intro j v C;simp at C) a 1 c news o m (by omega) (by omega) (growslice_fits (by omega) (by simpa using l));have p:=grownCap_ge w (0+1) 0 e;have s:grownCap w (0+1) 0 e<=maxLen:=WT w (0+1) 0 e (by unfold maxLen;omega);refine⟨_,_,ZR,⟨by simpa using o,.inr ⟨w.heap.size,_,_,rfl,h,nL w.drew _,p,s,?_,?_⟩⟩,rfl,rfl,rfl,by simp,λk D=>QI w.drew _ (lj D h)⟩;{simp only[Array.size_append,CV,size_zeroCells,x,o,nX,FM,<-Nat.add_mul];congr 1;have:=p;simp only[FM] at this;omega};{simp only[Array.toList_append,LN];rw[<-o];exact List.take_left}
theorem eU{E:Array Oper}{rest:List Oper}{o:Oper}{a:Act}{ZM:Exit->Act->M->Prop}(D:o.guard=U)(s x:Operand)(t:ZH)
  (ZQ:o.op=.call { callee:=.builtin .append,args:=#[s,x],argTypes:=#[t,t] })
  (f:Nat) (e:ZH) (i:TypeInfo) (z:ZC) (size g:Nat) (ZN:P.underlying t=T (.slice e)) (hi:P.info? e=T i) (hz:i.zero=T z)
  (y:i.size=size) (G:i.bytes=g) (F:z.cells.size=size) (H:0<size)
  (v:ZC) (n:Nat) (B:List ZC) (L:a.eval s=v) (l:w.ownsRow f e size v n B∨∃b,v=Z (T (Q b 0 U)) 0 0/\n=0/\B=[])
  (C:Addr) (c:Nat) (news:List ZC) (ZP:a.eval x=Z (T C) 1 c) (K:news.length=1*size) (r:∀j u,news[j]?=T u->w.cell? (C.add j)=T u) (h1:∀u∈news,u.oneCell'=ZG)
  (ZO:n+1<=maxLen) (ZR:(n+1)*g<=140737488355328) (m:f<=w.heap.size)
  (h:∀q p,p.ownsRow f e size q (n+1) (B++news)->Below f w p->wpList P E ZM rest (a.put o.dst q) p):wpList P E ZM (o::rest) a w:=by
 rcases l with l|⟨b,rfl,rfl,rfl⟩
 {exact BS w D s x t ZQ f e i z size g ZN hi hz y G F H v n B L l C 1 c news ZP K r h1 ZO ZR m λq p h2 h3 _=>h q p h2 (bg (dB f w) h3 m (λj e=>(l.lt j e).1))};{obtain⟨q,p,O,h2,h3⟩:=xg (w:=w) f t o.type e i z size g ZN hi hz y G F b C c news K r (by omega) m;exact Lib.wpList_append_run w D s x t t ZQ _ _ L ZP q p O (h q p (by simpa using h2) h3)}
theorem qn{c:Type}(g:Nat->ByteArray)(F:Nat->c)(x:c)(t:ByteArray)(k:Nat):(fH g t k=ZA->fe g F x t k=(List.range k).map F)/\(fH g t k=ZG->∃ZR B,(List.range k).map F=ZR++B/\fe g F x t k=ZR++x::B):=by
 induction k with
 |zero=>simp[fe,fH]
 |succ j b =>
  have e:(List.range (j+1)).map F=(List.range j).map F++[F j]:=by rw[OQ,DN];rfl
  rw[e];simp only[fe,fH];cases hd:fH g t j with
  |false =>
   have h1:=b.1 hd;cases hl:eB t (g j) with
   |true=>simpa[h1] using⟨(List.range j).map F,[F j],rfl,by simp⟩
   |false=>simp[h1]
  |true =>obtain⟨ZR,B,h1,h2⟩:=b.2 hd;simp only[Bool.true_or,Bool.true_eq_false,false_and,WO,true_implies,false_implies,TF];exact⟨ZR,B++[F j],by rw[h1];simp,by rw[h2];simp⟩
theorem zL (g:Nat->ByteArray)(F:Nat->b)(x:b)(t:ByteArray)(n:Nat):∃ZR B,(List.range n).map F=ZR++B/\mf g F x t n=ZR++x::B:=by
 obtain⟨h1,h2⟩:=qn g F x t n;unfold mf;cases hd:fH g t n with
 |true=>simpa using h2 hd
 |false=>exact⟨(List.range n).map F,[],by simp,by simp[h1 hd]⟩
theorem zM (R:List b)(d:b):(List.range R.length).map (λj=>R.getD j d)=R:=by
 apply List.ext_getElem;{simp};{intro i h1 h2;simp at h1;simp[IA,h1]}
theorem uW{c:Type}(p:b->c)(R:List b)(d:b)(j:Nat):p (R.getD j d)=(R.map p).getD j (p d):=by simp[IA]
theorem EU{n v:ZC}{ZR B:List TR}(h:TRow w c n (ZR++B))(m:RowIns w x.2.1 0 x.1.f x.1.H/\(∃F,Cells w x.2.1 0 (x.1.f*3) F)/\TypeAt w x.2.1 151/\c<=x.2.1)
  (g:∀r∈ZR++B,r.2.1≠x.2.1) (i:w.ownsRow c 146 2 v (ZR++x::B).length ((ZR++x::B).flatMap bj)):TRow w c v (ZR++x::B):=by
 refine⟨i,λr f=>?_,?_⟩;{rcases p8.1 f with f|f;{exact h.H r (p8.2 (.inl f))};{rcases AT.1 f with rfl|f;{exact m};{exact h.H r (p8.2 (.inr f))}}};{have j:=PF.1 h.up;refine PF.2 ⟨j.1,List.pairwise_cons.2 ⟨λb hb e=>g b (p8.2 (.inr hb)) e.symm,j.2.1⟩,λa l b hb=>?_⟩;rcases AT.1 hb with rfl|hb;{exact g a (p8.2 (.inl l))};{exact j.2.2 a l b hb}}
theorem Ho{g:Nat->ByteArray}{F:Nat->b}{x:b}{k:Nat}(h:fH g t k=ZG):(fe g F x t k).length≠0:=by obtain⟨ZR,B,_,h2⟩:=(qn g F x t k).2 h;rw[h2];simp
theorem zN{l:Nat}{a:Option Addr}(h:TRow w l (Z a R.length c) R)(hn:0<R.length):∃b off,a=T (Q b off U)/\b<w.heap.size/\∀i,i<R.length->w.cell? (Q b (off+i*2) U)=T (Y (R.getD i dfR).1.e)/\w.cell? (Q b (off+i*2+1) U)=T (Z (T ⟨(R.getD i dfR).2.1,0,U⟩) (R.getD i dfR).1.f (R.getD i dfR).2.2):=by
 obtain⟨g,c',e⟩:=fu h.i hn;simp at e;obtain⟨rfl,rfl⟩:=e;refine⟨g,0,rfl,(dM h.i).2,λi hi=>?_⟩;have f:R[i]?=T (R.getD i dfR):=by rw[IA,gq hi];rfl
 generalize R.getD i dfR=r at f;refine⟨?_,?_⟩;{have:=(cP h.i (j:=i*2) (u:=Y r.1.e) (by have:=dt bj 2 (λ_=>rfl) R i 0 (by omega) _ f;simpa[bj] using this)).1;rwa[show 0+i*2=i*2 by omega]};{have:=(cP h.i (j:=i*2+1) (u:=Z (T (Q r.2.1 0 U)) r.1.f r.2.2) (by have:=dt bj 2 (λ_=>rfl) R i 1 (by omega) _ f;simpa[bj] using this)).1;rwa[show 0+i*2+1=i*2+1 by omega]}
def fF (R:List TR)(x:TR)(t:ByteArray):List TR:=mf (nm1 (bZ (R.map λr:TR=>r.1))) (λj=>R.getD j dfR) x t R.length
theorem yi (R:List TR)(j:Nat):nm1 (bZ (R.map λr:TR=>r.1)) j=(R.getD j dfR).1.e:=by exact wA Target.e (uW (λr:TR=>r.1) R dfR j).symm
theorem uX (R:List TR)(x:TR)(t:ByteArray):(fF R x t).map (λr:TR=>r.1)=uO (R.map λr:TR=>r.1) x.1 t:=by unfold fF uO;rw[EF,QX];congr 1;funext j;exact uW (λr:TR=>r.1) R dfR j
theorem EW{b:Nat}{g v:ZC}(h:TRow w b g R)(i:RowIns w x.2.1 0 x.1.f x.1.H/\(∃F,Cells w x.2.1 0 (x.1.f*3) F)/\TypeAt w x.2.1 151/\b<=x.2.1)
  (f:∀r∈R,r.2.1≠x.2.1) (c:w.ownsRow b 146 2 v (fF R x t).length ((fF R x t).flatMap bj)):TRow w b v (fF R x t):=by
 obtain⟨ZR,B,h1,h2⟩:=zL (nm1 (bZ (R.map λr:TR=>r.1))) (λj=>R.getD j dfR) x t R.length;rw[zM] at h1;unfold fF at c ⊢;rw[h2] at c ⊢;subst h1;exact EU h i f c
theorem Hp{b g:Nat}{x:Target}(h:w.ownsRow b 151 3 (Z (T (Q g 0 U)) x.f c) x.f (bJ x.H x.f)):RowIns w g 0 x.f x.H/\(∃F,Cells w g 0 (x.f*3) F)/\TypeAt w g 151/\b<=g:=by obtain⟨h1,h2⟩:=nQ h;exact⟨h1,h2,lT h,(dM h).1⟩
theorem mi{size n:Nat}{e:ZH}{v:ZC}{f:List ZC}(h:w.ownsRow c e size v n f∨∃b,v=Z (T (Q b 0 U)) 0 0/\n=0/\f=[])(o:Obj):(w.alloc o).ownsRow c e size v n f∨∃b,v=Z (T (Q b 0 U)) 0 0/\n=0/\f=[] :=
 h.imp (λh=>h.alloc o) id
theorem uY{h wr:M}{b X ZI bL lo m gb f:Nat}{ZR v u0 u1:ZC}{c:Nat->Ins}(C:∀l,Below X h l->TRow l (b+3) ZR R)(B:Below X h wr)(D:Below bL g wr)(F:g.ownsRow lo 151 3 (Z (T (Q gb 0 U)) m f) m (bJ c m))(z:wr.ownsRow bL 146 2 v (fF R (⟨t,m,c⟩,gb,f) t).length ((fF R (⟨t,m,c⟩,gb,f) t).flatMap bj))(s:∀r∈R,r.2.1<X)(hb:bL=g.heap.size)(h1:X<lo)(h2:ZI<b+3)(h3:b+3<=X)(h4:lo<=bL)(h5:lo<=gb):TRow (((wr.setCell (Q X 1 U) v).setCell (Q ZI 0 U) u0).setCell (Q ZI 1 U) u1) b v (fF R (⟨t,m,c⟩,gb,f) t):=by have u:=C _ (B.setCell (p:=(Q X 1 U)) ly v);have i:=aQ (own_below F D (by omega)) (R:=X) (j:=1) (by omega) v;have q:=aQ z (R:=X) (j:=1) (by omega) v;have E:=(u.set (X:=ZI) (j:=0) h2 u0).set (X:=ZI) (j:=1) h2 u1;have n:=aQ (aQ i (R:=ZI) (j:=0) (by omega) u0) (R:=ZI) (j:=1) (by omega) u1;have o:=aQ (aQ q (R:=ZI) (j:=0) (by omega) u0) (R:=ZI) (j:=1) (by omega) u1;exact EW (gK E (by omega)) (Hp (x:=⟨t,m,c⟩) (aB n (by omega))) (λr y=>by have:=s r y;show r.2.1≠gb;omega) (aB o (by omega))
theorem uZ (a0:Option Addr)(n0 c0:Nat)(f0:Nat->Source)(a1:Option Addr)(n1 c1:Nat)(f1:Nat->Target)(t:ByteArray)(ap:Option Addr)(m cp:Nat)(f:Nat->Ins)(w:M)(hn0:(n0:Int)<=1048576)(hn1:(n1:Int)<=1048576)(hm:m<=1048576)(KN:SlSource w a0 n0 f0)(KE:SlTarget w a1 n1 f1)(La:SlIns w ap m f)(Fk:∀i,i<n1->cT (f1 i))(hs:∀i,i<n1->∀j,j<(f1 i).f->((f1 i).H j).s.size<=maxLen)(KC:∀i,i<m->(f i).s.size<=maxLen):Calls Tryz.prog 34 #[.agg #[Z a0 n0 c0,Z a1 n1 c1],Y t,.agg #[Z ap m cp]] w λe ZN=>∃v0 v1 R,e=.returned (.tuple #[.agg #[v0,v1],J I (me n0 f0 n1 f1 t (valid f m))])/\ZN.ownsRow w.heap.size 142 2 v0 (jy n0 f0 n1 f1 t m f).length ((jy n0 f0 n1 f1 t m f).flatMap bK)/\TRow ZN w.heap.size v1 R/\R.map (·.1)=mh n0 f0 n1 f1 t m f/\Below w.heap.size w ZN:=by
 have V0:=ae KN;have V1:=ae KE;have VP:=ae La;have HF:=ae Fk;have HS:=ae hs;have Ld:=ae KC;clear KN KE La Fk hs KC;obtain⟨mv,la,aq,fd,bt⟩:=L8 gR;obtain⟨C,hC⟩:∃C,C=ce n0 f0 n1 f1:=⟨_,rfl⟩
 obtain⟨rt,DS⟩:∃rt,rt=valid f m:=⟨_,rfl⟩
 obtain⟨D,hD⟩:∃D,D=me n0 f0 n1 f1 t (valid f m):=⟨_,rfl⟩
 obtain⟨G,Fn⟩:∃G,G=jy n0 f0 n1 f1 t m f:=⟨_,rfl⟩
 obtain⟨LT,Hx⟩:∃LT,LT=mh n0 f0 n1 f1 t m f:=⟨_,rfl⟩
 rw[<-hD,<-Fn,<-Hx];have HC:=ae hC;have HR:=ae DS;have HD:=ae (hD.trans (by unfold me;rw[<-hC,<-DS]));have dg:=ae (Fn.trans (by unfold jy;rw[<-hD]));have B:=ae (Hx.trans (by unfold mh;rw[<-hD]));clear hC hD Fn Hx DS;obtain⟨W,Id⟩:∃W:M,((A w (N #[Z a0 n0 c0,Z a1 n1 c1] 27)).alloc (N #[Z ap m cp] 43)).alloc (N #[Z U 0 0,Z U 0 0] 27)=W:=⟨_,rfl⟩
 obtain⟨A0,-,-,-,-⟩:=nb3 Id;have Kz:=ae Id;clear Id;have X0:=ae (ES w (Z a0 n0 c0) (Z a1 n1 c1) (Z ap m cp) 27 43);go_enter Tryz.func34,Tryz.ntmps34;go_wp2_with fail;rw[Kz.out] at X0 ⊢;clear Kz;refine(fB a0 n0 c0 f0 a1 n1 c1 f1 _ hn0 hn1 (V0.aa A0 ly) (V1.aa A0 ly) HF HS).mono ?_;rintro e w1 ⟨rfl,z⟩;rw[<-HC.out];have X1:=ae (X0.aa z X0.lt);have B1:=ae (A0.trans (z.mono A0.size));clear z A0 X0;by_cases hc:C=0;case neg =>
  have hd:=HD.out;rw[p6 hc] at hd;have u:=dg.out;rw[gM (by omega)] at u;have l:=B.out;rw[gM (by omega)] at l;subst hd u l;have hc':(C == 0)=ZA:=by simpa using hc
  obtain⟨r0,q0⟩:=X1.r0;obtain⟨r1,q1⟩:=X1.r1;go_wp2;exact bp (v:=.tuple #[.agg #[Z U 0 0,Z U 0 0],J I 1]) (by simp[results,UA,go_sem,r0,r1]) rfl ⟨_,_,[],rfl,A9 _ _ _ _,dh _ _,rfl,(B1.setCell (by simp;omega) _).setCell (by simp;omega) _⟩
 subst hc;have hz:=ma HC.symm;have HZ:=ae hz;clear hz HC;have GS:=HD.out;rw[gM (by omega)] at GS;have DQ:=ae GS;clear GS HD;go_wp2_with fail;refine(dc t _).mono ?_;rintro e w2 ⟨rfl,z⟩;have X2:=ae (X1.aa z X1.lt);have B2:=ae (B1.trans (z.mono B1.size));clear z X1 B1;cases hn:aw t with
 |false =>have hd:=DQ.out;rw[p6 (.inl hn)] at hd;have u:=dg.out;rw[gM (by omega)] at u;have l:=B.out;rw[gM (by omega)] at l;subst hd u l;obtain⟨r0,q0⟩:=X2.r0;obtain⟨r1,q1⟩:=X2.r1;go_wp2;exact bp (v:=.tuple #[.agg #[Z U 0 0,Z U 0 0],J I 2]) (by simp[results,UA,go_sem,r0,r1]) rfl ⟨_,_,[],rfl,A9 _ _ _ _,dh _ _,rfl,(B2.setCell (by simp;omega) _).setCell (by simp;omega) _⟩
 |true =>
 have k2:=X2.b0;go_wp2_with fail;refine(jM ap m cp f _ hm (VP.aa B2 ly) Ld).mono ?_;rintro e Lg ⟨rfl,z⟩;rw[<-HR.out];have ZR:=ae (X2.aa z X2.lt);have S:=ae (B2.trans (z.mono B2.size));clear z X2 B2 k2;have O:=DQ.out;rw[hn] at O;clear DQ;cases rt with
 |false =>rw[p6 (.inr rfl)] at O;have u:=dg.out;rw[gM (by omega)] at u;have l:=B.out;rw[gM (by omega)] at l;subst O u l;obtain⟨r0,q0⟩:=ZR.r0;obtain⟨r1,q1⟩:=ZR.r1;go_wp2;exact bp (v:=.tuple #[.agg #[Z U 0 0,Z U 0 0],J I 2]) (by simp[results,UA,go_sem,r0,r1]) rfl ⟨_,_,[],rfl,A9 _ _ _ _,dh _ _,rfl,(S.setCell (by simp;omega) _).setCell (by simp;omega) _⟩
 |true =>
 rw[gM (by simp)] at O;have KH:=ae O;clear O hn;have hm1:1<=m:=by have h:=HR.out;unfold valid at h;have h2:=(Bool.and_eq_true_iff.1 h.symm).2;have:=(QG h2).1;omega
 obtain⟨pb,po,rfl,Lb⟩:=VP.resolve_left (by omega);have KP:=ae Lb;clear VP Lb HR;have k0:=ZR.a0;have k1:=ZR.a1;go_wp2_with fail;refine(gu a0 n0 c0 f0 a1 n1 c1 f1 t _ hn0 hn1 (V0.aa S ly) (V1.aa S ly) HF).mono ?_;rintro e y ⟨v0,v1,R,rfl,hO,hR,hM,z⟩;have Le:=ZR.lt;have X3:=ae (ZR.aa z ZR.lt);have B3:=ae (S.trans (z.mono S.size));obtain⟨ZO,ZQ,rfl⟩:=aU hO;obtain⟨ta,tc,rfl⟩:=aU hR.i;have eR:R.length=(keepT f1 t n1).length:=by rw[<-hM];simp
 have Lj:=kq f0 t n0;have Li:=ku f1 t n1;obtain⟨L,hL⟩:∃L,L=bX f0 t n0:=⟨_,rfl⟩
 obtain⟨K,hK⟩:∃K,K=keepT f1 t n1:=⟨_,rfl⟩
 rw[<-hL] at hO Lj ⊢;rw[<-hK] at hM Li eR;have P:=KH.out;rw[<-hL,<-hK] at P;have u:=dg.out;rw[<-hL] at u;have l:=B.out;rw[<-hK] at l;have ER:=ae eR;have hlr:R.length<=n1:=by omega
 clear KH dg B hL hK z k0 k1 ZR S eR;have hbw:w.heap.size+3<=Lg.heap.size:=Le;have O3:=ae (aB hO (base':=w.heap.size+3) (by omega));have R3:=ae (gK hR (base':=w.heap.size+3) (by omega));have HM:=ae hM;have hll:(L.length:Int)<=1048576:=by omega
 clear hO hR hM;have DB:=ae ((q9 y).alloc ly (N #[Z ZO L.length ZQ,Z ta R.length tc] 27));have K8:=ae (uL y (Z ZO L.length ZQ) (Z ta R.length tc) 27);have X4:=ae (X3.aa DB X3.lt);have B4:=ae (B3.trans (DB.mono B3.size));have O4:=ae (own_below O3 DB ly);have R4:=ae (R3.aa DB ly);have sm:=ae DB.out;have Kx:w.heap.size+2<y.heap.size:=X3.lt;have c8:=K8.c0;have ZJ:=K8.c1;clear DB;by_cases hc3:(200:Int)<=L.length+R.length;{rw[p6 (by have:=ER.out;omega)] at P;rw[gM (by omega)] at u l;subst P u l;obtain⟨r0,q0⟩:=X3.r0;obtain⟨r1,q1⟩:=X3.r1;clear c8 ZJ;go_wp2;exact bp (v:=.tuple #[.agg #[Z U 0 0,Z U 0 0],J I 3]) (by simp[results,UA,go_sem,r0,r1,Kx]) rfl ⟨_,_,[],rfl,A9 _ _ _ _,dh _ _,rfl,((B3.setCell (by simp;omega) _).setCell (by simp;omega) _).alloc (by have:=B3.size;simp;omega) _⟩};clear X3;rw[gM (by have:=ER.out;omega)] at P;rw[p6 P] at u l;subst P u;have B:=ae l;clear l;have k2:=X4.b0;have KX:(A y (N #[Z ZO G.length ZQ,Z ta R.length tc] 27)).heap.size=y.heap.size+1:=by simp
 have RX:Hid (∀ZN,Below y.heap.size y ZN->TRow ZN (w.heap.size+3) (Z ta R.length tc) R):=λZN hb=>R3.aa hb ly;have OX:Hid (∀ZN,Below y.heap.size y ZN->ZN.ownsRow (w.heap.size+3) 142 2 (Z ZO G.length ZQ) G.length (G.flatMap bK)):=λZN hb=>own_below O3 hb ly;have Fm:Hid (∀r∈R,r.2.1<y.heap.size):=λr hr=>(R3.H r hr).1.1;have E5:=ae ((dB (A y (N #[Z ZO G.length ZQ,Z ta R.length tc] 27)).heap.size (A y (N #[Z ZO G.length ZQ,Z ta R.length tc] 27))).alloc ly (N #[] 146));have KZ:((A y (N #[Z ZO G.length ZQ,Z ta R.length tc] 27)).alloc (N #[] 146)).heap.size=(A y (N #[Z ZO G.length ZQ,Z ta R.length tc] 27)).heap.size+1:=by simp
 have k3:=(E5.cell (p:=(Q (w.heap.size+1) 0 U)) (by show w.heap.size+1<_;have:=X4.lt;omega)).trans k2;have ro:=ae (KP.aa B4 ly);have th:=ae KX;have DE:=ae KZ;clear R3 O3 k2 KX KZ;go_wp2_with fail;generalize World.alloc (World.alloc y _) _=DH at E5 DE k3 ⊢;generalize World.alloc y _=w4 at K8 X4 B4 O4 R4 c8 ZJ th DE sm E5 ro;generalize y.heap.size=X at K8 c8 ZJ Kx th RX OX Fm sm ⊢;refine(jl pb po m cp f _ (by omega) (ro.aa E5 ly)).mono ?_;rintro e w5 ⟨gb,o,rfl,Fd,KQ⟩;have hzx:w4.heap.size=X+1:=th.out;have hzy:DH.heap.size=w4.heap.size+1:=DE.out;have F5:=ae (E5.trans (KQ.mono (by omega)));have OG:=ae Fd;have KB:=(dM Fd).1;clear Fd KQ E5 th DE k3 ro;obtain⟨w6,qr⟩:∃W:M,A w5 (N #[Y t,Z (T (Q gb 0 U)) m o] 146)=W:=⟨_,rfl⟩
 obtain⟨-,-,KM⟩:=nb1 qr;have ZL:=ae qr;clear qr;have V:=ae (F5.alloc F5.size (N #[Y t,Z (T (Q gb 0 U)) m o] 146));have y0:w6.cell? (Q w5.heap.size 0 U)=T (Y t):=by cases ZL.out;simp
 have y1:w6.cell? (Q w5.heap.size 1 U)=T (Z (T (Q gb 0 U)) m o):=by cases ZL.out;simp
 have ur:=ae (OG.alloc (N #[Y t,Z (T (Q gb 0 U)) m o] 146));have KV:=V.size;have At:=ae KV;clear KV OG F5;go_wp2;rw[ZL.out] at V ur At ⊢;clear ZL;have hgw:gb<w6.heap.size:=(dM ur).2;generalize w5.heap.size=ZK at KM y0 y1 ⊢;obtain⟨x,KD⟩:∃x,x=w6.heap.size:=⟨_,rfl⟩
 have n:=ae KD;have H:X<x:=by have:=At.out;omega
 have Kv:ZK<x:=by omega
 have KF:=(V.cell (p:=(Q X 0 U)) (by show X<_;omega)).trans c8;have KJ:=(V.cell (p:=(Q X 1 U)) (by show X<_;omega)).trans ZJ;have Lc:=(V.frozen (p:=(Q X 1 U)) (by show X<_;omega)).trans K8.z1;have X6:=ae (X4.aa V (by have:=X4.lt;omega));have R6:=ae (R4.aa V ly);have Ky:=ae (sm.trans (V.mono (by omega)));have KT:w.heap.size<=X:=by omega
 have hb1:X+2<x+0:=by have:=At.out;omega
 clear c8 ZJ K8 R4 O4 X4 B4 KM KD sm V V0 V1 HF HS Ld KP HZ At;have c8:=KF;have ZJ:=KJ;clear KF KJ;obtain⟨ZP,hI⟩:∃ZP,ZP=fe (nm1 (bZ (R.map λr:TR=>r.1))) (λj=>R.getD j dfR) ((⟨t,m,f⟩,gb,o):TR) t:=⟨_,rfl⟩
 obtain⟨F,ZM⟩:∃F,F=fH (nm1 (bZ (R.map λr:TR=>r.1))) t:=⟨_,rfl⟩
 have Lh:Hid (∀k,ZP (k+1)=if F k=ZA/\eB t (R.getD k dfR).1.e=ZG then ZP k++[(⟨t,m,f⟩,gb,o)]++[R.getD k dfR] else ZP k++[R.getD k dfR]):=λk=>by rw[hI,ZM,<-yi R k];rfl
 have Lf:Hid (∀k,F (k+1)=(F k || eB t (R.getD k dfR).1.e)):=λk=>by rw[ZM,<-yi R k];rfl
 have Lm:Hid (∀k,(ZP k).length<=k+1):=λk=>by rw[hI];exact(uM _ _ _ _ k).1
 have Kw:Hid (∀k,F k=ZG->(ZP k).length≠0):=λk h=>by rw[hI];rw[ZM] at h;exact Ho h
 have KU:Hid (fF R (⟨t,m,f⟩,gb,o) t=if F R.length=ZG then ZP R.length else ZP R.length++[(⟨t,m,f⟩,gb,o)]):=by rw[hI,ZM];rfl
 have Ku:Hid (ZP 0=[]/\F 0=ZA):=by rw[hI,ZM];exact⟨rfl,rfl⟩
 clear hI ZM;go_loopw [9,10,12] (λv d i wr=>∃(k:Nat) (db:Bool),k<=R.length/\i=J I k/\d=.bool db/\Hid (db=F k)/\Hid (wr.ownsRow x 146 2 v (ZP k).length ((ZP k).flatMap bj)∨∃b,v=Z (T (Q b 0 U)) 0 0/\(ZP k).length=0/\(ZP k).flatMap bj=[])/\Hid (Below x w6 wr)) (λ_ _ i _=>R.length - (intOf i).toNat);case atStart=>exact⟨0,ZA,by omega,rfl,rfl,Ku.2.symm,.inr ⟨_,rfl,by rw[Ku.1];rfl,by rw[Ku.1];rfl⟩,by rw[n.out];exact dB _ _⟩
 case round =>
  obtain⟨k,db,hk,rfl,rfl,E,OW,q⟩:=hrel;have e9:=(q.cell (p:=(Q X 1 U)) H).trans ZJ;have z0:=(q.cell (p:=(Q ZK 0 U)) Kv).trans y0;have z1:=(q.cell (p:=(Q ZK 1 U)) Kv).trans y1;have hlen1:=Lm.out k;by_cases l:k<R.length
  ·obtain⟨b,off,rfl,hbl,KO⟩:=zN R6 (by omega);obtain⟨p0,p1⟩:=KO k l;have Kt:=Lh.out k;have JT:=Lf.out k;generalize R.getD k dfR=rk at p0 p1 Kt JT;have n9:=ae Kt;have ph:=ae JT;clear Kt JT;have Bk:b<x:=by have:=n.out;omega
   have d0:=(q.cell (p:=(Q b (off+k*2) U)) Bk).trans p0;have d1:=(q.cell (p:=(Q b (off+k*2+1) U)) Bk).trans p1;clear KO;cases db with
   |true =>
    have HI:Hid (ZP (k+1)=ZP k++[rk]):=by show _=_;rw[n9.out,gM (by rw[<-E.out];simp)]
    have HN:Hid (ZG=F (k+1)):=by show ZG=_;rw[ph.out,<-E.out];rfl
    go_wp2_with (at_builtin;(refine eU rfl (.tmp 66) (.tmp 72) 25 rfl x 146 mv (.agg #[Y ⟨#[]⟩,Z U 0 0]) 2 40 QH la aq fd bt rfl (by decide) _ (ZP k).length ((ZP k).flatMap bj) (by simp[Act.eval]) (mi OW _) (Q wr.heap.size 0 U) 1 (bj rk) (by simp[Act.eval]) rfl (du wr _ _ _) (by simp[bj,Value.oneCell']) (by unfold maxLen;omega) (by omega) (by have:=q.size;have:=n.out;simp;omega) ?_;intro vy wy c g;have OY:=ae c;have BY:=ae ((q.alloc (by have:=q.size;have:=n.out;omega) _).trans g);clear c g));exact⟨⟨k+1,ZG,by omega,by go_num,rfl,HN,.inl (by rw[HI.out,cM,BO];simpa using OY.out),BY.out⟩,by simp[intOf];omega⟩
   |false =>
    cases hq:eB t rk.1.e with
    |true =>
     have HI:Hid (ZP (k+1)=ZP k++[(⟨t,m,f⟩,gb,o)]++[rk]):=by show _=_;rw[n9.out,p6 ⟨E.symm,hq⟩]
     have HN:Hid (ZG=F (k+1)):=by show ZG=_;rw[ph.out,hq];simp
     obtain⟨q1,q2⟩:=sF hq;clear hq;go_wp2_with (at_builtin;first|(refine eU rfl (.tmp 62) (.tmp 64) 25 rfl x 146 mv (.agg #[Y ⟨#[]⟩,Z U 0 0]) 2 40 QH la aq fd bt rfl (by decide) _ (ZP k).length ((ZP k).flatMap bj) (by simp[Act.eval]) (mi OW _) (Q wr.heap.size 0 U) 1 (bj (⟨t,m,f⟩,gb,o)) (by simp[Act.eval]) rfl (du wr _ _ _) (by simp[bj,Value.oneCell']) (by unfold maxLen;omega) (by omega) (by have:=q.size;have:=n.out;simp;omega) ?_;intro vx wx c g;have Ll:=ae c;have BX:=ae ((q.alloc (by have:=q.size;have:=n.out;omega) _).trans g);have f9:=(BX.cell (p:=(Q X 1 U)) H).trans ZJ;have g0:=(BX.cell (p:=(Q b (off+k*2) U)) Bk).trans p0;have g1:=(BX.cell (p:=(Q b (off+k*2+1) U)) Bk).trans p1;clear c g)|(refine eU rfl (.tmp 66) (.tmp 72) 25 rfl x 146 mv (.agg #[Y ⟨#[]⟩,Z U 0 0]) 2 40 QH la aq fd bt rfl (by decide) _ ((ZP k).length+1) ((ZP k).flatMap bj++bj (⟨t,m,f⟩,gb,o)) (by simp[Act.eval]) (.inl (Ll.alloc _)) (Q wx.heap.size 0 U) 1 (bj rk) (by simp[Act.eval]) rfl (du wx _ _ _) (by simp[bj,Value.oneCell']) (by unfold maxLen;omega) (by omega) (by have:=BX.size;have:=n.out;simp;omega) ?_;intro vy wy c g;have OY:=ae c;have BY:=ae ((BX.alloc (by have:=BX.size;have:=n.out;omega) _).trans g);clear c g));exact⟨⟨k+1,ZG,by omega,by go_num,rfl,HN,.inl (by rw[HI.out,cM,cM,BO,BO];simpa using OY.out),BY.out⟩,by simp[intOf];omega⟩
    |false =>
     have HI:Hid (ZP (k+1)=ZP k++[rk]):=by show _=_;rw[n9.out,gM (by rw[hq];simp)]
     have HN:Hid (ZA=F (k+1)):=by show ZA=_;rw[ph.out,<-E.out,hq];rfl
     have HQ:=ae (uK hq);clear hq;rcases HQ.out with q1|⟨q1,q2⟩
     all_goals
      go_wp2_with (at_builtin;(refine eU rfl (.tmp 66) (.tmp 72) 25 rfl x 146 mv (.agg #[Y ⟨#[]⟩,Z U 0 0]) 2 40 QH la aq fd bt rfl (by decide) _ (ZP k).length ((ZP k).flatMap bj) (by simp[Act.eval]) (mi OW _) (Q wr.heap.size 0 U) 1 (bj rk) (by simp[Act.eval]) rfl (du wr _ _ _) (by simp[bj,Value.oneCell']) (by unfold maxLen;omega) (by omega) (by have:=q.size;have:=n.out;simp;omega) ?_;intro vy wy c g;have OY:=ae c;have BY:=ae ((q.alloc (by have:=q.size;have:=n.out;omega) _).trans g);clear c g));exact⟨⟨k+1,ZA,by omega,by go_num,rfl,HN,.inl (by rw[HI.out,cM,BO];simpa using OY.out),BY.out⟩,by simp[intOf];omega⟩
  ·have e:R.length=k:=by omega
   subst e;cases db with
   |true =>
    have ld:fF R (⟨t,m,f⟩,gb,o) t=ZP R.length:=by rw[KU.out,p6 E.symm]
    have ow:=OW.resolve_right (by rintro⟨b,_,h0,_⟩;exact Kw _ E.symm h0);obtain⟨va,vc,rfl⟩:=fu ow (by have:=Kw.out _ E.symm;omega);have OF:Hid (wr.ownsRow x 146 2 (Z (T (Q va 0 U)) (ZP R.length).length vc) (fF R (⟨t,m,f⟩,gb,o) t).length ((fF R (⟨t,m,f⟩,gb,o) t).flatMap bj)):=by show World.ownsRow _ _ _ _ _ _ _;rw[ld];exact ow
    have e8:=(q.cell (p:=(Q X 0 U)) H).trans c8;have y9:=(q.frozen (p:=(Q X 1 U)) H).trans Lc;obtain⟨r0,q0⟩:=(X6.aa q (by omega)).r0;obtain⟨r1,q1⟩:=(X6.aa q (by omega)).r1;have H3:=ae ld;clear ld ow OW;go_wp2;refine ?_;have GB:=ae (Ky.trans (q.mono (by omega)));refine bp (v:=.tuple #[.agg #[Z ZO G.length ZQ,Z (T (Q va 0 U)) (ZP R.length).length vc],J I 0]) (by simp[results,UA,go_sem,r0,r1]) rfl ⟨_,_,fF R (⟨t,m,f⟩,gb,o) t,rfl,aB (aQ (aQ (OX _ ((GB).setCell (p:=(Q X 1 U)) ly _)) (R:=w.heap.size+2) (j:=0) (by omega) _) (R:=w.heap.size+2) (j:=1) (by omega) _) (by omega),?_,(uX R (⟨t,m,f⟩,gb,o) t).trans (by rw[HM.out];exact B.symm),(((B3.trans ((GB).mono KT)).setCell (by simp;omega) _).setCell (by simp;omega) _).setCell (by simp;omega) _⟩;exact uY (X:=X) (ZI:=w.heap.size+2) (bL:=x) (lo:=DH.heap.size) RX GB q ur OF Fm n (by omega) (by omega) (by omega) (by omega) KB
   |false =>
    go_wp2_with (at_builtin;(refine eU rfl (.tmp 76) (.tmp 78) 25 rfl x 146 mv (.agg #[Y ⟨#[]⟩,Z U 0 0]) 2 40 QH la aq fd bt rfl (by decide) _ (ZP R.length).length ((ZP R.length).flatMap bj) (by simp[Act.eval]) (mi OW _) (Q wr.heap.size 0 U) 1 (bj (⟨t,m,f⟩,gb,o)) (by simp[Act.eval]) rfl (du wr _ _ _) (by simp[bj,Value.oneCell']) (by unfold maxLen;omega) (by omega) (by have:=q.size;have:=n.out;simp;omega) ?_;intro vz wz c g;obtain⟨gs,cs,rfl⟩:=fu c (Nat.succ_pos _);have OZ:=ae c;have BZ:=ae ((q.alloc (by have:=q.size;have:=n.out;omega) _).trans g);have f8:=(BZ.cell (p:=(Q X 0 U)) H).trans c8;have f9:=(BZ.cell (p:=(Q X 1 U)) H).trans ZJ;have y9:=(BZ.frozen (p:=(Q X 1 U)) H).trans Lc;obtain⟨r0,q0⟩:=(X6.aa BZ (by have:=n.out;omega)).r0;obtain⟨r1,q1⟩:=(X6.aa BZ (by have:=n.out;omega)).r1;clear c g));have ld:fF R (⟨t,m,f⟩,gb,o) t=ZP R.length++[(⟨t,m,f⟩,gb,o)]:=by rw[KU.out,gM (by rw[<-E.out];simp)]
    have OF:Hid (wz.ownsRow x 146 2 (Z (T (Q gs 0 U)) ((ZP R.length).length+1) cs) (fF R (⟨t,m,f⟩,gb,o) t).length ((fF R (⟨t,m,f⟩,gb,o) t).flatMap bj)):=by show World.ownsRow _ _ _ _ _ _ _;rw[ld,cM,BO];simpa using OZ.out
    have GB:=ae (Ky.trans (BZ.mono (by omega)));refine bp (v:=.tuple #[.agg #[Z ZO G.length ZQ,Z (T (Q gs 0 U)) ((ZP R.length).length+1) cs],J I 0]) (by simp[results,UA,go_sem,r0,r1]) rfl ⟨_,_,fF R (⟨t,m,f⟩,gb,o) t,rfl,aB (aQ (aQ (OX _ ((GB).setCell (p:=(Q X 1 U)) ly _)) (R:=w.heap.size+2) (j:=0) (by omega) _) (R:=w.heap.size+2) (j:=1) (by omega) _) (by omega),?_,(uX R (⟨t,m,f⟩,gb,o) t).trans (by rw[HM.out];exact B.symm),(((B3.trans ((GB).mono KT)).setCell (by simp;omega) _).setCell (by simp;omega) _).setCell (by simp;omega) _⟩;exact uY (X:=X) (ZI:=w.heap.size+2) (bL:=x) (lo:=DH.heap.size) RX GB BZ ur OF Fm n (by omega) (by omega) (by omega) (by omega) KB
