import Derived.Test.YtoddkejemcbkmaaGreatDoorQC
import Derived.Shelf.Spec.SlicesInsert
import Derived.Laws.CopyRow
import Derived.Lib.AppendZerosOnto
set_option maxRecDepth 100000
set_option maxHeartbeats 8000000
set_option linter.unusedSimpArgs false
open Go renaming Addr.mk->Q,Value.slice->Z,Value.string->U,Value.int->J,Obj.cells->N,IntKind.i64->I,World->M,Value->ZC,TypeId->ZH,World.alloc->A
open Option renaming none->Y,some->T
open Bool renaming false->ZA,true->ZG
namespace Go.Proofs.YtoddkejemcbkmaaGreatDoor.Vp
open RowKit
variable {w g:M}{b:Type}{c:Nat}{t:ByteArray}{R:List TR}{P:Program}{x:TR}
def jp (n0:Nat)(f0:Nat->Source)(n1:Nat)(f1:Nat->Target)(t:ByteArray)(m:Nat)(b:Nat->Ins):List Source:=if lR n0 f0 n1 f1 t (valid b m)=0 then bW f0 t n0 else []
def lU (n0:Nat)(f0:Nat->Source)(n1:Nat)(f1:Nat->Target)(t:ByteArray)(m:Nat)(b:Nat->Ins):List Target:=if lR n0 f0 n1 f1 t (valid b m)=0 then uc (keepT f1 t n1) ⟨t,m,b⟩ t else []
structure Trio (w:M)(h:Nat)(p0 p1 p2:ZC):Prop where
 lt:h+2<w.heap.size
 a0:w.cell? (Q h 0 Y)=T p0
 a1:w.cell? (Q h 1 Y)=T p1
 b0:w.cell? (Q (h+1) 0 Y)=T p2
 r0:w.cell? (Q (h+2) 0 Y)=T (Z Y 0 0)/\w.frozen? (Q (h+2) 0 Y)=ZA
 r1:w.cell? (Q (h+2) 1 Y)=T (Z Y 0 0)/\w.frozen? (Q (h+2) 1 Y)=ZA
theorem Trio.aa{h B:Nat}{l j m:ZC}(b:Trio w h l j m)(hb:Below B w g)(hB:h+3<=B):Trio g h l j m:=by have c:∀k o,k<B->g.cell? (Q k o Y)=w.cell? (Q k o Y):=λk o i=>hb.cell (p:=(Q k o Y)) i;have f:∀k o,k<B->g.frozen? (Q k o Y)=w.frozen? (Q k o Y):=λk o i=>hb.frozen (p:=(Q k o Y)) i;exact⟨lj b.lt hb.size,(c _ _ (by omega)).trans b.a0,(c _ _ (by omega)).trans b.a1,(c _ _ (by omega)).trans b.b0,⟨(c _ _ (by omega)).trans b.r0.1,(f _ _ (by omega)).trans b.r0.2⟩,⟨(c _ _ (by omega)).trans b.r1.1,(f _ _ (by omega)).trans b.r1.2⟩⟩
theorem DV (w:M)(c b f:ZC)(t u:ZH):Trio (((A w (N #[c,b] t)).alloc (N #[f] u)).alloc (N #[Z Y 0 0,Z Y 0 0] t)) w.heap.size c b f:=by
 have i:Below (w.heap.size+1) (A w (N #[c,b] t)) ((A w (N #[c,b] t)).alloc (N #[f] u)):=br.alloc (by simp) _;have h:Below (w.heap.size+2) ((A w (N #[c,b] t)).alloc (N #[f] u)) (((A w (N #[c,b] t)).alloc (N #[f] u)).alloc (N #[Z Y 0 0,Z Y 0 0] t)):=br.alloc (by simp) _;have hz:(A w (N #[c,b] t)).heap.size=w.heap.size+1:=by simp
 have g:((A w (N #[c,b] t)).alloc (N #[f] u)).heap.size=w.heap.size+2:=by simp
 refine⟨by simp,?_,?_,?_,⟨?_,?_⟩,⟨?_,?_⟩⟩;{exact(h.cell (p:=(Q w.heap.size 0 Y)) (by simp)).trans ((i.cell (p:=(Q w.heap.size 0 Y)) (by simp)).trans (by simp))};{exact(h.cell (p:=(Q w.heap.size 1 Y)) (by simp)).trans ((i.cell (p:=(Q w.heap.size 1 Y)) (by simp)).trans (by simp))};{refine(h.cell (p:=(Q (w.heap.size+1) 0 Y)) (by simp)).trans ?_;rw[<-hz];clear i h hz g;generalize A w (N #[c,b] t)=W;simp};all_goals
  rw[<-g];clear i h hz g;generalize (A w (N #[c,b] t)).alloc (N #[f] u)=W;simp
theorem vV (f:Nat)(t ty e:ZH)(i:TypeInfo)(z:ZC)(size h:Nat)(ZR:P.underlying t=T (.slice e))(hi:P.info? e=T i)(hz:i.zero=T z)
  (o:i.size=size) (r:i.bytes=h) (y:z.cells.size=size)
  (b:Nat) (a:Addr) (c:Nat) (news:List ZC) (n:news.length=1*size) (m:∀j u,news[j]?=T u->w.cell? (a.add j)=T u)
  (l:1*h<=140737488355328) (g:f<=w.heap.size) :
  ∃s q,(Builtin.append_ #[t,t] ty #[Z (T (Q b 0 Y)) 0 0,Z (T a) 1 c]).run P w=.ok s q/\q.ownsRow f e size s 1 news/\Below f w q:=by
 subst o r;have D:=run_append_grow (P:=P) w t ty e i z ZR hi hz (Q b 0 Y) 0 0 [] (by simp) (by intro j v C;simp at C) a 1 c news n m (by omega) (by omega) (growslice_fits (by omega) (by simpa using l));have p:=grownCap_ge w (0+1) 0 e;have x:grownCap w (0+1) 0 e<=maxLen:=U4 w (0+1) 0 e (by unfold maxLen;omega);refine⟨_,_,D,⟨by simpa using n,.inr ⟨w.heap.size,_,_,rfl,g,n6 w.drew _,p,x,?_,?_⟩⟩,rfl,rfl,rfl,by simp,λk B=>OP w.drew _ (lj B g)⟩;{simp only[Array.size_append,CX,size_zeroCells,y,n,nX,F6,<-Nat.add_mul];congr 1;have:=p;simp only[F6] at this;omega};{simp only[Array.toList_append,MH];rw[<-n];exact List.take_left}
theorem eK{F:Array Oper}{rest:List Oper}{o:Oper}{a:Act}{ZM:Exit->Act->M->Prop}(E:o.guard=Y)(s x:Operand)(t:ZH)
  (ZQ:o.op=.call { callee:=.builtin .append,args:=#[s,x],argTypes:=#[t,t] })
  (f:Nat) (e:ZH) (i:TypeInfo) (z:ZC) (size g:Nat) (ZP:P.underlying t=T (.slice e)) (hi:P.info? e=T i) (hz:i.zero=T z)
  (r:i.size=size) (D:i.bytes=g) (G:z.cells.size=size) (ZO:0<size)
  (v:ZC) (n:Nat) (B:List ZC) (L:a.eval s=v) (l:w.ownsRow f e size v n B∨∃b,v=Z (T (Q b 0 Y)) 0 0/\n=0/\B=[])
  (C:Addr) (c:Nat) (news:List ZC) (K:a.eval x=Z (T C) 1 c) (H:news.length=1*size) (y:∀j u,news[j]?=T u->w.cell? (C.add j)=T u) (h1:∀u∈news,u.oneCell'=ZG)
  (ZN:n+1<=maxLen) (ZR:(n+1)*g<=140737488355328) (m:f<=w.heap.size)
  (h:∀q p,p.ownsRow f e size q (n+1) (B++news)->Below f w p->wpList P F ZM rest (a.put o.dst q) p):wpList P F ZM (o::rest) a w:=by
 rcases l with l|⟨b,rfl,rfl,rfl⟩
 {exact BS w E s x t ZQ f e i z size g ZP hi hz r D G ZO v n B L l C 1 c news K H y h1 ZN ZR m λq p h2 h3 _=>h q p h2 (bg (eL f w) h3 m (λj e=>(l.lt j e).1))};{obtain⟨q,p,O,h2,h3⟩:=vV (w:=w) f t o.type e i z size g ZP hi hz r D G b C c news H y (by omega) m;exact Lib.wpList_append_run w E s x t t ZQ _ _ L K q p O (h q p (by simpa using h2) h3)}
theorem pL{c:Type}(g:Nat->ByteArray)(F:Nat->c)(x:c)(t:ByteArray)(k:Nat):(fC g t k=ZA->eY g F x t k=(List.range k).map F)/\(fC g t k=ZG->∃ZR B,(List.range k).map F=ZR++B/\eY g F x t k=ZR++x::B):=by
 induction k with
 |zero=>simp[eY,fC]
 |succ j b =>
  have e:(List.range (j+1)).map F=(List.range j).map F++[F j]:=by rw[MY,BG];rfl
  rw[e];simp only[eY,fC];cases hd:fC g t j with
  |false =>
   have h1:=b.1 hd;cases hl:ez t (g j) with
   |true=>simpa[h1] using⟨(List.range j).map F,[F j],rfl,by simp⟩
   |false=>simp[h1]
  |true =>obtain⟨ZR,B,h1,h2⟩:=b.2 hd;simp only[Bool.true_or,Bool.true_eq_false,false_and,VJ,true_implies,false_implies,QR];exact⟨ZR,B++[F j],by rw[h1];simp,by rw[h2];simp⟩
theorem yM (g:Nat->ByteArray)(F:Nat->b)(x:b)(t:ByteArray)(n:Nat):∃ZR B,(List.range n).map F=ZR++B/\lS g F x t n=ZR++x::B:=by
 obtain⟨h1,h2⟩:=pL g F x t n;unfold lS;cases hd:fC g t n with
 |true=>simpa using h2 hd
 |false=>exact⟨(List.range n).map F,[],by simp,by simp[h1 hd]⟩
theorem yN (R:List b)(d:b):(List.range R.length).map (λj=>R.getD j d)=R:=by
 apply List.ext_getElem;{simp};{intro i h1 h2;simp at h1;simp[IX,h1]}
theorem ui{c:Type}(p:b->c)(R:List b)(d:b)(j:Nat):p (R.getD j d)=(R.map p).getD j (p d):=by simp[IX]
theorem DX{n v:ZC}{ZR B:List TR}(h:TRow w c n (ZR++B))(m:RowIns w x.2.1 0 x.1.f x.1.G/\(∃F,Cells w x.2.1 0 (x.1.f*3) F)/\TypeAt w x.2.1 90/\c<=x.2.1)
  (g:∀r∈ZR++B,r.2.1≠x.2.1) (i:w.ownsRow c 125 2 v (ZR++x::B).length ((ZR++x::B).flatMap bi)):TRow w c v (ZR++x::B):=by
 refine⟨i,λr f=>?_,?_⟩;{rcases p8.1 f with f|f;{exact h.G r (p8.2 (.inl f))};{rcases A9.1 f with rfl|f;{exact m};{exact h.G r (p8.2 (.inr f))}}};{have j:=NI.1 h.up;refine NI.2 ⟨j.1,List.pairwise_cons.2 ⟨λb hb e=>g b (p8.2 (.inr hb)) e.symm,j.2.1⟩,λa l b hb=>?_⟩;rcases A9.1 hb with rfl|hb;{exact g a (p8.2 (.inl l))};{exact j.2.2 a l b hb}}
theorem Gl{g:Nat->ByteArray}{F:Nat->b}{x:b}{k:Nat}(h:fC g t k=ZG):(eY g F x t k).length≠0:=by obtain⟨ZR,B,_,h2⟩:=(pL g F x t k).2 h;rw[h2];simp
theorem yO{l:Nat}{a:Option Addr}(h:TRow w l (Z a R.length c) R)(hn:0<R.length):∃b off,a=T (Q b off Y)/\b<w.heap.size/\∀i,i<R.length->w.cell? (Q b (off+i*2) Y)=T (U (R.getD i dfR).1.e)/\w.cell? (Q b (off+i*2+1) Y)=T (Z (T ⟨(R.getD i dfR).2.1,0,Y⟩) (R.getD i dfR).1.f (R.getD i dfR).2.2):=by
 obtain⟨g,c',e⟩:=fk h.i hn;simp at e;obtain⟨rfl,rfl⟩:=e;refine⟨g,0,rfl,(dL h.i).2,λi hi=>?_⟩;have f:R[i]?=T (R.getD i dfR):=by rw[IX,gq hi];rfl
 generalize R.getD i dfR=r at f;refine⟨?_,?_⟩;{have:=(cO h.i (j:=i*2) (u:=U r.1.e) (by have:=dr bi 2 (λ_=>rfl) R i 0 (by omega) _ f;simpa[bi] using this)).1;rwa[show 0+i*2=i*2 by omega]};{have:=(cO h.i (j:=i*2+1) (u:=Z (T (Q r.2.1 0 Y)) r.1.f r.2.2) (by have:=dr bi 2 (λ_=>rfl) R i 1 (by omega) _ f;simpa[bi] using this)).1;rwa[show 0+i*2+1=i*2+1 by omega]}
def fA (R:List TR)(x:TR)(t:ByteArray):List TR:=lS (nm1 (bY (R.map λr:TR=>r.1))) (λj=>R.getD j dfR) x t R.length
theorem xv (R:List TR)(j:Nat):nm1 (bY (R.map λr:TR=>r.1)) j=(R.getD j dfR).1.e:=by exact AP Target.e (ui (λr:TR=>r.1) R dfR j).symm
theorem uj (R:List TR)(x:TR)(t:ByteArray):(fA R x t).map (λr:TR=>r.1)=uc (R.map λr:TR=>r.1) x.1 t:=by unfold fA uc;rw[Dz,PK];congr 1;funext j;exact ui (λr:TR=>r.1) R dfR j
theorem DY{b:Nat}{g v:ZC}(h:TRow w b g R)(i:RowIns w x.2.1 0 x.1.f x.1.G/\(∃F,Cells w x.2.1 0 (x.1.f*3) F)/\TypeAt w x.2.1 90/\b<=x.2.1)
  (f:∀r∈R,r.2.1≠x.2.1) (c:w.ownsRow b 125 2 v (fA R x t).length ((fA R x t).flatMap bi)):TRow w b v (fA R x t):=by
 obtain⟨ZR,B,h1,h2⟩:=yM (nm1 (bY (R.map λr:TR=>r.1))) (λj=>R.getD j dfR) x t R.length;rw[yN] at h1;unfold fA at c ⊢;rw[h2] at c ⊢;subst h1;exact DX h i f c
theorem Gm{b g:Nat}{x:Target}(h:w.ownsRow b 90 3 (Z (T (Q g 0 Y)) x.f c) x.f (bH x.G x.f)):RowIns w g 0 x.f x.G/\(∃F,Cells w g 0 (x.f*3) F)/\TypeAt w g 90/\b<=g:=by obtain⟨h1,h2⟩:=nC h;exact⟨h1,h2,lJ h,(dL h).1⟩
theorem lV{size n:Nat}{e:ZH}{v:ZC}{f:List ZC}(h:w.ownsRow c e size v n f∨∃b,v=Z (T (Q b 0 Y)) 0 0/\n=0/\f=[])(o:Obj):(w.alloc o).ownsRow c e size v n f∨∃b,v=Z (T (Q b 0 Y)) 0 0/\n=0/\f=[] :=
 h.imp (λh=>h.alloc o) id
theorem uk{n wr:M}{b X ZI bL lo m gb f:Nat}{D v u0 u1:ZC}{c:Nat->Ins}(E:∀q,Below X n q->TRow q (b+3) D R)(ZR:Below X n wr)(y:Below bL g wr)(u:g.ownsRow lo 90 3 (Z (T (Q gb 0 Y)) m f) m (bH c m))(B:wr.ownsRow bL 125 2 v (fA R (⟨t,m,c⟩,gb,f) t).length ((fA R (⟨t,m,c⟩,gb,f) t).flatMap bi))(s:∀r∈R,r.2.1<X)(hb:bL=g.heap.size)(h1:X<lo)(h2:ZI<b+3)(h3:b+3<=X)(h4:lo<=bL)(h5:lo<=gb):TRow (((wr.setCell (Q X 1 Y) v).setCell (Q ZI 0 Y) u0).setCell (Q ZI 1 Y) u1) b v (fA R (⟨t,m,c⟩,gb,f) t):=by have F:=E _ (ZR.setCell (p:=(Q X 1 Y)) ly v);have o:=aP (own_below u y (by omega)) (R:=X) (j:=1) (by omega) v;have h:=aP B (R:=X) (j:=1) (by omega) v;have C:=(F.set (X:=ZI) (j:=0) h2 u0).set (X:=ZI) (j:=1) h2 u1;have i:=aP (aP o (R:=ZI) (j:=0) (by omega) u0) (R:=ZI) (j:=1) (by omega) u1;have l:=aP (aP h (R:=ZI) (j:=0) (by omega) u0) (R:=ZI) (j:=1) (by omega) u1;exact DY (gG C (by omega)) (Gm (x:=⟨t,m,c⟩) (aC i (by omega))) (λr z=>by have:=s r z;show r.2.1≠gb;omega) (aC l (by omega))
theorem um (a0:Option Addr)(n0 c0:Nat)(f0:Nat->Source)(a1:Option Addr)(n1 c1:Nat)(f1:Nat->Target)(t:ByteArray)(ap:Option Addr)(m cp:Nat)(f:Nat->Ins)(w:M)(hn0:(n0:Int)<=1048576)(hn1:(n1:Int)<=1048576)(hm:m<=1048576)(Js:SlSource w a0 n0 f0)(JI:SlTarget w a1 n1 f1)(JA:SlIns w ap m f)(Hx:∀i,i<n1->cR (f1 i))(hs:∀i,i<n1->∀j,j<(f1 i).f->((f1 i).G j).s.size<=maxLen)(Jy:∀i,i<m->(f i).s.size<=maxLen):Calls Tryz.prog 82 #[.agg #[Z a0 n0 c0,Z a1 n1 c1],U t,.agg #[Z ap m cp]] w λe H=>∃v0 v1 R,e=.returned (.tuple #[.agg #[v0,v1],J I (lR n0 f0 n1 f1 t (valid f m))])/\H.ownsRow w.heap.size 122 2 v0 (jp n0 f0 n1 f1 t m f).length ((jp n0 f0 n1 f1 t m f).flatMap bI)/\TRow H w.heap.size v1 R/\R.map (·.1)=lU n0 f0 n1 f1 t m f/\Below w.heap.size w H:=by
 have V0:=ae Js;have V1:=ae JI;have VP:=ae JA;have HF:=ae Hx;have HS:=ae hs;have Jw:=ae Jy;clear Js JI JA Hx hs Jy;obtain⟨fd,mv,ld,la,bt⟩:=LY gO;obtain⟨C,hC⟩:∃C,C=ce n0 f0 n1 f1:=⟨_,rfl⟩
 obtain⟨rt,Id⟩:∃rt,rt=valid f m:=⟨_,rfl⟩
 obtain⟨D,hD⟩:∃D,D=lR n0 f0 n1 f1 t (valid f m):=⟨_,rfl⟩
 obtain⟨F,Jr⟩:∃F,F=jp n0 f0 n1 f1 t m f:=⟨_,rfl⟩
 obtain⟨LT,Fk⟩:∃LT,LT=lU n0 f0 n1 f1 t m f:=⟨_,rfl⟩
 rw[<-hD,<-Jr,<-Fk];have HC:=ae hC;have HR:=ae Id;have HD:=ae (hD.trans (by unfold lR;rw[<-hC,<-Id]));have dg:=ae (Jr.trans (by unfold jp;rw[<-hD]));have ZR:=ae (Fk.trans (by unfold lU;rw[<-hD]));clear hC hD Jr Fk Id;obtain⟨W,Fm⟩:∃W:M,((A w (N #[Z a0 n0 c0,Z a1 n1 c1] 44)).alloc (N #[Z ap m cp] 59)).alloc (N #[Z Y 0 0,Z Y 0 0] 44)=W:=⟨_,rfl⟩
 obtain⟨A0,-,-,-,-⟩:=nb3 Fm;have Jz:=ae Fm;clear Fm;have X0:=ae (DV w (Z a0 n0 c0) (Z a1 n1 c1) (Z ap m cp) 44 59);go_enter Tryz.func82,Tryz.ntmps82;go_wp2_with fail;rw[Jz.out] at X0 ⊢;clear Jz;refine(fu a0 n0 c0 f0 a1 n1 c1 f1 _ hn0 hn1 (V0.aa A0 ly) (V1.aa A0 ly) HF HS).mono ?_;rintro e w1 ⟨rfl,z⟩;rw[<-HC.out];have X1:=ae (X0.aa z X0.lt);have B1:=ae (A0.trans (z.mono A0.size));clear z A0 X0;by_cases hc:C=0;case neg =>
  have hd:=HD.out;rw[p7 hc] at hd;have u:=dg.out;rw[nD (by omega)] at u;have l:=ZR.out;rw[nD (by omega)] at l;subst hd u l;have hc':(C == 0)=ZA:=by simpa using hc
  obtain⟨r0,q0⟩:=X1.r0;obtain⟨r1,q1⟩:=X1.r1;go_wp2;exact bp (v:=.tuple #[.agg #[Z Y 0 0,Z Y 0 0],J I 1]) (by simp[results,RV,go_sem,r0,r1]) rfl ⟨_,_,[],rfl,AT _ _ _ _,dd _ _,rfl,(B1.setCell (by simp;omega) _).setCell (by simp;omega) _⟩
 subst hc;have hz:=lP HC.symm;have HZ:=ae hz;clear hz HC;have Jq:=HD.out;rw[nD (by omega)] at Jq;have DH:=ae Jq;clear Jq HD;go_wp2_with fail;refine(cZ t _).mono ?_;rintro e w2 ⟨rfl,z⟩;have X2:=ae (X1.aa z X1.lt);have B2:=ae (B1.trans (z.mono B1.size));clear z X1 B1;cases hn:aw t with
 |false =>have hd:=DH.out;rw[p7 (.inl hn)] at hd;have u:=dg.out;rw[nD (by omega)] at u;have l:=ZR.out;rw[nD (by omega)] at l;subst hd u l;obtain⟨r0,q0⟩:=X2.r0;obtain⟨r1,q1⟩:=X2.r1;go_wp2;exact bp (v:=.tuple #[.agg #[Z Y 0 0,Z Y 0 0],J I 2]) (by simp[results,RV,go_sem,r0,r1]) rfl ⟨_,_,[],rfl,AT _ _ _ _,dd _ _,rfl,(B2.setCell (by simp;omega) _).setCell (by simp;omega) _⟩
 |true =>
 have k2:=X2.b0;go_wp2_with fail;refine(jB ap m cp f _ hm (VP.aa B2 ly) Jw).mono ?_;rintro e J4 ⟨rfl,z⟩;rw[<-HR.out];have B:=ae (X2.aa z X2.lt);have S:=ae (B2.trans (z.mono B2.size));clear z X2 B2 k2;have ZM:=DH.out;rw[hn] at ZM;clear DH;cases rt with
 |false =>rw[p7 (.inr rfl)] at ZM;have u:=dg.out;rw[nD (by omega)] at u;have l:=ZR.out;rw[nD (by omega)] at l;subst ZM u l;obtain⟨r0,q0⟩:=B.r0;obtain⟨r1,q1⟩:=B.r1;go_wp2;exact bp (v:=.tuple #[.agg #[Z Y 0 0,Z Y 0 0],J I 2]) (by simp[results,RV,go_sem,r0,r1]) rfl ⟨_,_,[],rfl,AT _ _ _ _,dd _ _,rfl,(S.setCell (by simp;omega) _).setCell (by simp;omega) _⟩
 |true =>
 rw[nD (by simp)] at ZM;have Ju:=ae ZM;clear ZM hn;have hm1:1<=m:=by have h:=HR.out;unfold valid at h;have h2:=(Bool.and_eq_true_iff.1 h.symm).2;have:=(OH h2).1;omega
 obtain⟨pb,po,rfl,JE⟩:=VP.resolve_left (by omega);have JP:=ae JE;clear VP JE HR;have k0:=B.a0;have k1:=B.a1;go_wp2_with fail;refine(fY a0 n0 c0 f0 a1 n1 c1 f1 t _ hn0 hn1 (V0.aa S ly) (V1.aa S ly) HF).mono ?_;rintro e y ⟨v0,v1,R,rfl,hO,hR,hM,z⟩;have JU:=B.lt;have X3:=ae (B.aa z B.lt);have B3:=ae (S.trans (z.mono S.size));obtain⟨ZQ,ZN,rfl⟩:=aU hO;obtain⟨ta,tc,rfl⟩:=aU hR.i;have eR:R.length=(keepT f1 t n1).length:=by rw[<-hM];simp
 have JV:=j9 f0 t n0;have JY:=ke f1 t n1;obtain⟨L,hL⟩:∃L,L=bW f0 t n0:=⟨_,rfl⟩
 obtain⟨K,hK⟩:∃K,K=keepT f1 t n1:=⟨_,rfl⟩
 rw[<-hL] at hO JV ⊢;rw[<-hK] at hM JY eR;have P:=Ju.out;rw[<-hL,<-hK] at P;have u:=dg.out;rw[<-hL] at u;have l:=ZR.out;rw[<-hK] at l;have ER:=ae eR;have hlr:R.length<=n1:=by omega
 clear Ju dg ZR hL hK z k0 k1 B S eR;have hbw:w.heap.size+3<=J4.heap.size:=JU;have O3:=ae (aC hO (base':=w.heap.size+3) (by omega));have R3:=ae (gG hR (base':=w.heap.size+3) (by omega));have HM:=ae hM;have hll:(L.length:Int)<=1048576:=by omega
 clear hO hR hM;have DB:=ae ((q9 y).alloc ly (N #[Z ZQ L.length ZN,Z ta R.length tc] 44));have K8:=ae (t8 y (Z ZQ L.length ZN) (Z ta R.length tc) 44);have X4:=ae (X3.aa DB X3.lt);have B4:=ae (B3.trans (DB.mono B3.size));have O4:=ae (own_below O3 DB ly);have R4:=ae (R3.aa DB ly);have th:=ae DB.out;have Jv:w.heap.size+2<y.heap.size:=X3.lt;have c8:=K8.c0;have V:=K8.c1;clear DB;by_cases hc3:(200:Int)<=L.length+R.length;{rw[p7 (by have:=ER.out;omega)] at P;rw[nD (by omega)] at u l;subst P u l;obtain⟨r0,q0⟩:=X3.r0;obtain⟨r1,q1⟩:=X3.r1;clear c8 V;go_wp2;exact bp (v:=.tuple #[.agg #[Z Y 0 0,Z Y 0 0],J I 3]) (by simp[results,RV,go_sem,r0,r1,Jv]) rfl ⟨_,_,[],rfl,AT _ _ _ _,dd _ _,rfl,((B3.setCell (by simp;omega) _).setCell (by simp;omega) _).alloc (by have:=B3.size;simp;omega) _⟩};clear X3;rw[nD (by have:=ER.out;omega)] at P;rw[p7 P] at u l;subst P u;have ZR:=ae l;clear l;have k2:=X4.b0;have JG:(A y (N #[Z ZQ F.length ZN,Z ta R.length tc] 44)).heap.size=y.heap.size+1:=by simp
 have RX:Hid (∀H,Below y.heap.size y H->TRow H (w.heap.size+3) (Z ta R.length tc) R):=λH hb=>R3.aa hb ly;have OX:Hid (∀H,Below y.heap.size y H->H.ownsRow (w.heap.size+3) 122 2 (Z ZQ F.length ZN) F.length (F.flatMap bI)):=λH hb=>own_below O3 hb ly;have DS:Hid (∀r∈R,r.2.1<y.heap.size):=λr hr=>(R3.G r hr).1.1;have E5:=ae ((eL (A y (N #[Z ZQ F.length ZN,Z ta R.length tc] 44)).heap.size (A y (N #[Z ZQ F.length ZN,Z ta R.length tc] 44))).alloc ly (N #[] 125));have JM:((A y (N #[Z ZQ F.length ZN,Z ta R.length tc] 44)).alloc (N #[] 125)).heap.size=(A y (N #[Z ZQ F.length ZN,Z ta R.length tc] 44)).heap.size+1:=by simp
 have k3:=(E5.cell (p:=(Q (w.heap.size+1) 0 Y)) (by show w.heap.size+1<_;have:=X4.lt;omega)).trans k2;have qr:=ae (JP.aa B4 ly);have ur:=ae JG;have Bk:=ae JM;clear R3 O3 k2 JG JM;go_wp2_with fail;generalize World.alloc (World.alloc y _) _=Fd at E5 Bk k3 ⊢;generalize World.alloc y _=w4 at K8 X4 B4 O4 R4 c8 V ur Bk th E5 qr;generalize y.heap.size=X at K8 c8 V Jv ur RX OX DS th ⊢;refine(jd pb po m cp f _ (by omega) (qr.aa E5 ly)).mono ?_;rintro e w5 ⟨gb,q,rfl,Fn,Jt⟩;have hzx:w4.heap.size=X+1:=ur.out;have hzy:Fd.heap.size=w4.heap.size+1:=Bk.out;have F5:=ae (E5.trans (Jt.mono (by omega)));have OG:=ae Fn;have JK:=(dL Fn).1;clear Fn Jt E5 ur Bk k3 qr;obtain⟨w6,n9⟩:∃W:M,A w5 (N #[U t,Z (T (Q gb 0 Y)) m q] 125)=W:=⟨_,rfl⟩
 obtain⟨-,-,JL⟩:=nb1 n9;have ZK:=ae n9;clear n9;have ZL:=ae (F5.alloc F5.size (N #[U t,Z (T (Q gb 0 Y)) m q] 125));have y0:w6.cell? (Q w5.heap.size 0 Y)=T (U t):=by cases ZK.out;simp
 have y1:w6.cell? (Q w5.heap.size 1 Y)=T (Z (T (Q gb 0 Y)) m q):=by cases ZK.out;simp
 have DE:=ae (OG.alloc (N #[U t,Z (T (Q gb 0 Y)) m q] 125));have JD:=ZL.size;have sm:=ae JD;clear JD OG F5;go_wp2;rw[ZK.out] at ZL DE sm ⊢;clear ZK;have hgw:gb<w6.heap.size:=(dL DE).2;generalize w5.heap.size=ZJ at JL y0 y1 ⊢;obtain⟨x,JC⟩:∃x,x=w6.heap.size:=⟨_,rfl⟩
 have n:=ae JC;have ZO:X<x:=by have:=sm.out;omega
 have JT:ZJ<x:=by omega
 have JS:=(ZL.cell (p:=(Q X 0 Y)) (by show X<_;omega)).trans c8;have JB:=(ZL.cell (p:=(Q X 1 Y)) (by show X<_;omega)).trans V;have JQ:=(ZL.frozen (p:=(Q X 1 Y)) (by show X<_;omega)).trans K8.z1;have X6:=ae (X4.aa ZL (by have:=X4.lt;omega));have R6:=ae (R4.aa ZL ly);have JF:=ae (th.trans (ZL.mono (by omega)));have JR:w.heap.size<=X:=by omega
 have hb1:X+2<x+0:=by have:=sm.out;omega
 clear c8 V K8 R4 O4 X4 B4 JL JC th ZL V0 V1 HF HS Jw JP HZ sm;have c8:=JS;have V:=JB;clear JS JB;obtain⟨ZP,hI⟩:∃ZP,ZP=eY (nm1 (bY (R.map λr:TR=>r.1))) (λj=>R.getD j dfR) ((⟨t,m,f⟩,gb,q):TR) t:=⟨_,rfl⟩
 obtain⟨G,O⟩:∃G,G=fC (nm1 (bY (R.map λr:TR=>r.1))) t:=⟨_,rfl⟩
 have JW:Hid (∀k,ZP (k+1)=if G k=ZA/\ez t (R.getD k dfR).1.e=ZG then ZP k++[(⟨t,m,f⟩,gb,q)]++[R.getD k dfR] else ZP k++[R.getD k dfR]):=λk=>by rw[hI,O,<-xv R k];rfl
 have J0:Hid (∀k,G (k+1)=(G k || ez t (R.getD k dfR).1.e)):=λk=>by rw[O,<-xv R k];rfl
 have JX:Hid (∀k,(ZP k).length<=k+1):=λk=>by rw[hI];exact(ua _ _ _ _ k).1
 have JJ:Hid (∀k,G k=ZG->(ZP k).length≠0):=λk h=>by rw[hI];rw[O] at h;exact Gl h
 have JO:Hid (fA R (⟨t,m,f⟩,gb,q) t=if G R.length=ZG then ZP R.length else ZP R.length++[(⟨t,m,f⟩,gb,q)]):=by rw[hI,O];rfl
 have DQ:Hid (ZP 0=[]/\G 0=ZA):=by rw[hI,O];exact⟨rfl,rfl⟩
 clear hI O;go_loopw [9,10,12] (λv d i wr=>∃(k:Nat) (db:Bool),k<=R.length/\i=J I k/\d=.bool db/\Hid (db=G k)/\Hid (wr.ownsRow x 125 2 v (ZP k).length ((ZP k).flatMap bi)∨∃b,v=Z (T (Q b 0 Y)) 0 0/\(ZP k).length=0/\(ZP k).flatMap bi=[])/\Hid (Below x w6 wr)) (λ_ _ i _=>R.length - (intOf i).toNat);case atStart=>exact⟨0,ZA,by omega,rfl,rfl,DQ.2.symm,.inr ⟨_,rfl,by rw[DQ.1];rfl,by rw[DQ.1];rfl⟩,by rw[n.out];exact eL _ _⟩
 case round =>
  obtain⟨k,db,hk,rfl,rfl,E,OW,o⟩:=hrel;have e9:=(o.cell (p:=(Q X 1 Y)) ZO).trans V;have z0:=(o.cell (p:=(Q ZJ 0 Y)) JT).trans y0;have z1:=(o.cell (p:=(Q ZJ 1 Y)) JT).trans y1;have hlen1:=JX.out k;by_cases l:k<R.length
  ·obtain⟨b,off,rfl,hbl,JH⟩:=yO R6 (by omega);obtain⟨p0,p1⟩:=JH k l;have GS:=JW.out k;have Jp:=J0.out k;generalize R.getD k dfR=rk at p0 p1 GS Jp;have ph:=ae GS;have ro:=ae Jp;clear GS Jp;have At:b<x:=by have:=n.out;omega
   have d0:=(o.cell (p:=(Q b (off+k*2) Y)) At).trans p0;have d1:=(o.cell (p:=(Q b (off+k*2+1) Y)) At).trans p1;clear JH;cases db with
   |true =>
    have HI:Hid (ZP (k+1)=ZP k++[rk]):=by show _=_;rw[ph.out,nD (by rw[<-E.out];simp)]
    have HN:Hid (ZG=G (k+1)):=by show ZG=_;rw[ro.out,<-E.out];rfl
    go_wp2_with (at_builtin;(refine eK rfl (.tmp 66) (.tmp 72) 42 rfl x 125 fd (.agg #[U ⟨#[]⟩,Z Y 0 0]) 2 40 OJ mv ld la bt rfl (by decide) _ (ZP k).length ((ZP k).flatMap bi) (by simp[Act.eval]) (lV OW _) (Q wr.heap.size 0 Y) 1 (bi rk) (by simp[Act.eval]) rfl (dt wr _ _ _) (by simp[bi,Value.oneCell']) (by unfold maxLen;omega) (by omega) (by have:=o.size;have:=n.out;simp;omega) ?_;intro vy wy c g;have OY:=ae c;have BY:=ae ((o.alloc (by have:=o.size;have:=n.out;omega) _).trans g);clear c g));exact⟨⟨k+1,ZG,by omega,by go_num,rfl,HN,.inl (by rw[HI.out,cM,BM];simpa using OY.out),BY.out⟩,by simp[intOf];omega⟩
   |false =>
    cases hq:ez t rk.1.e with
    |true =>
     have HI:Hid (ZP (k+1)=ZP k++[(⟨t,m,f⟩,gb,q)]++[rk]):=by show _=_;rw[ph.out,p7 ⟨E.symm,hq⟩]
     have HN:Hid (ZG=G (k+1)):=by show ZG=_;rw[ro.out,hq];simp
     obtain⟨q1,q2⟩:=rM hq;clear hq;go_wp2_with (at_builtin;first|(refine eK rfl (.tmp 62) (.tmp 64) 42 rfl x 125 fd (.agg #[U ⟨#[]⟩,Z Y 0 0]) 2 40 OJ mv ld la bt rfl (by decide) _ (ZP k).length ((ZP k).flatMap bi) (by simp[Act.eval]) (lV OW _) (Q wr.heap.size 0 Y) 1 (bi (⟨t,m,f⟩,gb,q)) (by simp[Act.eval]) rfl (dt wr _ _ _) (by simp[bi,Value.oneCell']) (by unfold maxLen;omega) (by omega) (by have:=o.size;have:=n.out;simp;omega) ?_;intro vx wx c g;have JZ:=ae c;have BX:=ae ((o.alloc (by have:=o.size;have:=n.out;omega) _).trans g);have f9:=(BX.cell (p:=(Q X 1 Y)) ZO).trans V;have g0:=(BX.cell (p:=(Q b (off+k*2) Y)) At).trans p0;have g1:=(BX.cell (p:=(Q b (off+k*2+1) Y)) At).trans p1;clear c g)|(refine eK rfl (.tmp 66) (.tmp 72) 42 rfl x 125 fd (.agg #[U ⟨#[]⟩,Z Y 0 0]) 2 40 OJ mv ld la bt rfl (by decide) _ ((ZP k).length+1) ((ZP k).flatMap bi++bi (⟨t,m,f⟩,gb,q)) (by simp[Act.eval]) (.inl (JZ.alloc _)) (Q wx.heap.size 0 Y) 1 (bi rk) (by simp[Act.eval]) rfl (dt wx _ _ _) (by simp[bi,Value.oneCell']) (by unfold maxLen;omega) (by omega) (by have:=BX.size;have:=n.out;simp;omega) ?_;intro vy wy c g;have OY:=ae c;have BY:=ae ((BX.alloc (by have:=BX.size;have:=n.out;omega) _).trans g);clear c g));exact⟨⟨k+1,ZG,by omega,by go_num,rfl,HN,.inl (by rw[HI.out,cM,cM,BM,BM];simpa using OY.out),BY.out⟩,by simp[intOf];omega⟩
    |false =>
     have HI:Hid (ZP (k+1)=ZP k++[rk]):=by show _=_;rw[ph.out,nD (by rw[hq];simp)]
     have HN:Hid (ZA=G (k+1)):=by show ZA=_;rw[ro.out,<-E.out,hq];rfl
     have HQ:=ae (t6 hq);clear hq;rcases HQ.out with q1|⟨q1,q2⟩
     all_goals
      go_wp2_with (at_builtin;(refine eK rfl (.tmp 66) (.tmp 72) 42 rfl x 125 fd (.agg #[U ⟨#[]⟩,Z Y 0 0]) 2 40 OJ mv ld la bt rfl (by decide) _ (ZP k).length ((ZP k).flatMap bi) (by simp[Act.eval]) (lV OW _) (Q wr.heap.size 0 Y) 1 (bi rk) (by simp[Act.eval]) rfl (dt wr _ _ _) (by simp[bi,Value.oneCell']) (by unfold maxLen;omega) (by omega) (by have:=o.size;have:=n.out;simp;omega) ?_;intro vy wy c g;have OY:=ae c;have BY:=ae ((o.alloc (by have:=o.size;have:=n.out;omega) _).trans g);clear c g));exact⟨⟨k+1,ZA,by omega,by go_num,rfl,HN,.inl (by rw[HI.out,cM,BM];simpa using OY.out),BY.out⟩,by simp[intOf];omega⟩
  ·have e:R.length=k:=by omega
   subst e;cases db with
   |true =>
    have aq:fA R (⟨t,m,f⟩,gb,q) t=ZP R.length:=by rw[JO.out,p7 E.symm]
    have ow:=OW.resolve_right (by rintro⟨b,_,h0,_⟩;exact JJ _ E.symm h0);obtain⟨va,vc,rfl⟩:=fk ow (by have:=JJ.out _ E.symm;omega);have OF:Hid (wr.ownsRow x 125 2 (Z (T (Q va 0 Y)) (ZP R.length).length vc) (fA R (⟨t,m,f⟩,gb,q) t).length ((fA R (⟨t,m,f⟩,gb,q) t).flatMap bi)):=by show World.ownsRow _ _ _ _ _ _ _;rw[aq];exact ow
    have e8:=(o.cell (p:=(Q X 0 Y)) ZO).trans c8;have y9:=(o.frozen (p:=(Q X 1 Y)) ZO).trans JQ;obtain⟨r0,q0⟩:=(X6.aa o (by omega)).r0;obtain⟨r1,q1⟩:=(X6.aa o (by omega)).r1;have H3:=ae aq;clear aq ow OW;go_wp2;refine ?_;have GB:=ae (JF.trans (o.mono (by omega)));refine bp (v:=.tuple #[.agg #[Z ZQ F.length ZN,Z (T (Q va 0 Y)) (ZP R.length).length vc],J I 0]) (by simp[results,RV,go_sem,r0,r1]) rfl ⟨_,_,fA R (⟨t,m,f⟩,gb,q) t,rfl,aC (aP (aP (OX _ ((GB).setCell (p:=(Q X 1 Y)) ly _)) (R:=w.heap.size+2) (j:=0) (by omega) _) (R:=w.heap.size+2) (j:=1) (by omega) _) (by omega),?_,(uj R (⟨t,m,f⟩,gb,q) t).trans (by rw[HM.out];exact ZR.symm),(((B3.trans ((GB).mono JR)).setCell (by simp;omega) _).setCell (by simp;omega) _).setCell (by simp;omega) _⟩;exact uk (X:=X) (ZI:=w.heap.size+2) (bL:=x) (lo:=Fd.heap.size) RX GB o DE OF DS n (by omega) (by omega) (by omega) (by omega) JK
   |false =>
    go_wp2_with (at_builtin;(refine eK rfl (.tmp 76) (.tmp 78) 42 rfl x 125 fd (.agg #[U ⟨#[]⟩,Z Y 0 0]) 2 40 OJ mv ld la bt rfl (by decide) _ (ZP R.length).length ((ZP R.length).flatMap bi) (by simp[Act.eval]) (lV OW _) (Q wr.heap.size 0 Y) 1 (bi (⟨t,m,f⟩,gb,q)) (by simp[Act.eval]) rfl (dt wr _ _ _) (by simp[bi,Value.oneCell']) (by unfold maxLen;omega) (by omega) (by have:=o.size;have:=n.out;simp;omega) ?_;intro vz wz c g;obtain⟨gs,cs,rfl⟩:=fk c (Nat.succ_pos _);have OZ:=ae c;have BZ:=ae ((o.alloc (by have:=o.size;have:=n.out;omega) _).trans g);have f8:=(BZ.cell (p:=(Q X 0 Y)) ZO).trans c8;have f9:=(BZ.cell (p:=(Q X 1 Y)) ZO).trans V;have y9:=(BZ.frozen (p:=(Q X 1 Y)) ZO).trans JQ;obtain⟨r0,q0⟩:=(X6.aa BZ (by have:=n.out;omega)).r0;obtain⟨r1,q1⟩:=(X6.aa BZ (by have:=n.out;omega)).r1;clear c g));have aq:fA R (⟨t,m,f⟩,gb,q) t=ZP R.length++[(⟨t,m,f⟩,gb,q)]:=by rw[JO.out,nD (by rw[<-E.out];simp)]
    have OF:Hid (wz.ownsRow x 125 2 (Z (T (Q gs 0 Y)) ((ZP R.length).length+1) cs) (fA R (⟨t,m,f⟩,gb,q) t).length ((fA R (⟨t,m,f⟩,gb,q) t).flatMap bi)):=by show World.ownsRow _ _ _ _ _ _ _;rw[aq,cM,BM];simpa using OZ.out
    have GB:=ae (JF.trans (BZ.mono (by omega)));refine bp (v:=.tuple #[.agg #[Z ZQ F.length ZN,Z (T (Q gs 0 Y)) ((ZP R.length).length+1) cs],J I 0]) (by simp[results,RV,go_sem,r0,r1]) rfl ⟨_,_,fA R (⟨t,m,f⟩,gb,q) t,rfl,aC (aP (aP (OX _ ((GB).setCell (p:=(Q X 1 Y)) ly _)) (R:=w.heap.size+2) (j:=0) (by omega) _) (R:=w.heap.size+2) (j:=1) (by omega) _) (by omega),?_,(uj R (⟨t,m,f⟩,gb,q) t).trans (by rw[HM.out];exact ZR.symm),(((B3.trans ((GB).mono JR)).setCell (by simp;omega) _).setCell (by simp;omega) _).setCell (by simp;omega) _⟩;exact uk (X:=X) (ZI:=w.heap.size+2) (bL:=x) (lo:=Fd.heap.size) RX GB BZ DE OF DS n (by omega) (by omega) (by omega) (by omega) JK
