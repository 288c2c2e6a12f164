import Derived.Test.YtpmnbjkjpnclaaaGreatDoorQE
import Derived.Shelf.Spec.SlicesInsert
import Derived.Laws.CopyRow
import Derived.Lib.AppendZerosOnto
set_option maxRecDepth 100000
set_option maxHeartbeats 8000000
set_option linter.unusedSimpArgs false
open Go renaming Addr.mk->Q,Value.slice->Z,Value.string->U,Value.int->N,Value.agg->ZH,Obj.cells->J,IntKind.i64->I,World->M,Value->ZC,TypeId->ZI,World.alloc->A
open Option renaming none->Y,some->T
open Bool renaming false->ZA,true->ZG
namespace Go.Proofs.YtpmnbjkjpnclaaaGreatDoor.Vp
open RowKit
variable {w g:M}{b:Type}{c f:Nat}{t:ByteArray}{R:List TR}{m:ZC}{P:Program}{x:TR}
def jz (n0:Nat)(f0:Nat->Source)(n1:Nat)(f1:Nat->Target)(t:ByteArray)(m:Nat)(b:Nat->Ins):List Source:=if mg n0 f0 n1 f1 t (valid b m)=0 then bY f0 t n0 else []
def mr (n0:Nat)(f0:Nat->Source)(n1:Nat)(f1:Nat->Target)(t:ByteArray)(m:Nat)(b:Nat->Ins):List Target:=if mg n0 f0 n1 f1 t (valid b m)=0 then uR (keepT f1 t n1) ⟨t,m,b⟩ t else []
structure Trio (w:M)(h:Nat)(p0 p1 p2:ZC):Prop where
 lt:h+2<w.heap.size
 a0:w.cell? (Q h 0 Y)=T p0
 a1:w.cell? (Q h 1 Y)=T p1
 b0:w.cell? (Q (h+1) 0 Y)=T p2
 r0:w.cell? (Q (h+2) 0 Y)=T (Z Y 0 0)/\w.frozen? (Q (h+2) 0 Y)=ZA
 r1:w.cell? (Q (h+2) 1 Y)=T (Z Y 0 0)/\w.frozen? (Q (h+2) 1 Y)=ZA
theorem Trio.aa{h B:Nat}{j l:ZC}(b:Trio w h j m l)(hb:Below B w g)(hB:h+3<=B):Trio g h j m l:=by have c:∀k o,k<B->g.cell? (Q k o Y)=w.cell? (Q k o Y):=λk o i=>hb.cell (p:=(Q k o Y)) i;have f:∀k o,k<B->g.frozen? (Q k o Y)=w.frozen? (Q k o Y):=λk o i=>hb.frozen (p:=(Q k o Y)) i;exact⟨lj b.lt hb.size,(c _ _ (by omega)).trans b.a0,(c _ _ (by omega)).trans b.a1,(c _ _ (by omega)).trans b.b0,⟨(c _ _ (by omega)).trans b.r0.1,(f _ _ (by omega)).trans b.r0.2⟩,⟨(c _ _ (by omega)).trans b.r1.1,(f _ _ (by omega)).trans b.r1.2⟩⟩
theorem Fa (w:M)(c b f:ZC)(t u:ZI):Trio (((A w (J #[c,b] t)).alloc (J #[f] u)).alloc (J #[Z Y 0 0,Z Y 0 0] t)) w.heap.size c b f:=by
 have i:Below (w.heap.size+1) (A w (J #[c,b] t)) ((A w (J #[c,b] t)).alloc (J #[f] u)):=br.alloc (by simp) _;have h:Below (w.heap.size+2) ((A w (J #[c,b] t)).alloc (J #[f] u)) (((A w (J #[c,b] t)).alloc (J #[f] u)).alloc (J #[Z Y 0 0,Z Y 0 0] t)):=br.alloc (by simp) _;have hz:(A w (J #[c,b] t)).heap.size=w.heap.size+1:=by simp
 have g:((A w (J #[c,b] t)).alloc (J #[f] u)).heap.size=w.heap.size+2:=by simp
 refine⟨by simp,?_,?_,?_,⟨?_,?_⟩,⟨?_,?_⟩⟩;{exact(h.cell (p:=(Q w.heap.size 0 Y)) (by simp)).trans ((i.cell (p:=(Q w.heap.size 0 Y)) (by simp)).trans (by simp))};{exact(h.cell (p:=(Q w.heap.size 1 Y)) (by simp)).trans ((i.cell (p:=(Q w.heap.size 1 Y)) (by simp)).trans (by simp))};{refine(h.cell (p:=(Q (w.heap.size+1) 0 Y)) (by simp)).trans ?_;rw[<-hz];clear i h hz g;generalize A w (J #[c,b] t)=W;simp};all_goals
  rw[<-g];clear i h hz g;generalize (A w (J #[c,b] t)).alloc (J #[f] u)=W;simp
theorem xm (f:Nat)(t ty e:ZI)(i:TypeInfo)(z:ZC)(size h:Nat)(B:P.underlying t=T (.slice e))(hi:P.info? e=T i)(hz:i.zero=T z)
  (m:i.size=size) (s:i.bytes=h) (x:z.cells.size=size)
  (b:Nat) (a:Addr) (c:Nat) (news:List ZC) (n:news.length=1*size) (o:∀j u,news[j]?=T u->w.cell? (a.add j)=T u)
  (l:1*h<=140737488355328) (g:f<=w.heap.size) :
  ∃y q,(Builtin.append_ #[t,t] ty #[Z (T (Q b 0 Y)) 0 0,Z (T a) 1 c]).run P w=.ok y q/\q.ownsRow f e size y 1 news/\Below f w q:=by
 subst m s;have D:=run_append_grow (P:=P) w t ty e i z B hi hz (Q b 0 Y) 0 0 [] (by simp) (by intro j v ZS;simp at ZS) a 1 c news n o (by omega) (by omega) (growslice_fits (by omega) (by simpa using l));have p:=grownCap_ge w (0+1) 0 e;have r:grownCap w (0+1) 0 e<=maxLen:=XB w (0+1) 0 e (by unfold maxLen;omega);refine⟨_,_,D,⟨by simpa using n,.inr ⟨w.heap.size,_,_,rfl,g,nL w.drew _,p,r,?_,?_⟩⟩,rfl,rfl,rfl,by simp,λk C=>QR w.drew _ (lj C g)⟩;{simp only[Array.size_append,CV,size_zeroCells,x,n,nX,FM,<-Nat.add_mul];congr 1;have:=p;simp only[FM] at this;omega};{simp only[Array.toList_append,LY];rw[<-n];exact List.take_left}
theorem eV{F:Array Oper}{rest:List Oper}{o:Oper}{a:Act}{ZN:Exit->Act->M->Prop}(D:o.guard=Y)(s x:Operand)(t:ZI)
  (ZO:o.op=.call { callee:=.builtin .append,args:=#[s,x],argTypes:=#[t,t] })
  (f:Nat) (e:ZI) (i:TypeInfo) (z:ZC) (size g:Nat) (H:P.underlying t=T (.slice e)) (hi:P.info? e=T i) (hz:i.zero=T z)
  (r:i.size=size) (E:i.bytes=g) (G:z.cells.size=size) (K:0<size)
  (v:ZC) (n:Nat) (C:List ZC) (ZQ:a.eval s=v) (m:w.ownsRow f e size v n C∨∃b,v=Z (T (Q b 0 Y)) 0 0/\n=0/\C=[])
  (B:Addr) (c:Nat) (news:List ZC) (L:a.eval x=Z (T B) 1 c) (ZR:news.length=1*size) (y:∀j u,news[j]?=T u->w.cell? (B.add j)=T u) (h1:∀u∈news,u.oneCell'=ZG)
  (ZP:n+1<=maxLen) (ZS:(n+1)*g<=140737488355328) (l:f<=w.heap.size)
  (h:∀q p,p.ownsRow f e size q (n+1) (C++news)->Below f w p->wpList P F ZN rest (a.put o.dst q) p):wpList P F ZN (o::rest) a w:=by
 rcases m with m|⟨b,rfl,rfl,rfl⟩
 {exact BS w D s x t ZO f e i z size g H hi hz r E G K v n C ZQ m B 1 c news L ZR y h1 ZP ZS l λq p h2 h3 _=>h q p h2 (bg (dB f w) h3 l (λj e=>(m.lt j e).1))};{obtain⟨q,p,O,h2,h3⟩:=xm (w:=w) f t o.type e i z size g H hi hz r E G b B c news ZR y (by omega) l;exact Lib.wpList_append_run w D s x t t ZO _ _ ZQ L q p O (h q p (by simpa using h2) h3)}
theorem qx{c:Type}(g:Nat->ByteArray)(F:Nat->c)(x:c)(t:ByteArray)(k:Nat):(fJ g t k=ZA->fg g F x t k=(List.range k).map F)/\(fJ g t k=ZG->∃ZS B,(List.range k).map F=ZS++B/\fg g F x t k=ZS++x::B):=by
 induction k with
 |zero=>simp[fg,fJ]
 |succ j b =>
  have e:(List.range (j+1)).map F=(List.range j).map F++[F j]:=by rw[PD,DN];rfl
  rw[e];simp only[fg,fJ];cases hd:fJ g t j with
  |false =>
   have h1:=b.1 hd;cases hl:eC t (g j) with
   |true=>simpa[h1] using⟨(List.range j).map F,[F j],rfl,by simp⟩
   |false=>simp[h1]
  |true =>obtain⟨ZS,B,h1,h2⟩:=b.2 hd;simp only[Bool.true_or,Bool.true_eq_false,false_and,WW,true_implies,false_implies,TM];exact⟨ZS,B++[F j],by rw[h1];simp,by rw[h2];simp⟩
theorem zR (g:Nat->ByteArray)(F:Nat->b)(x:b)(t:ByteArray)(n:Nat):∃ZS B,(List.range n).map F=ZS++B/\mh g F x t n=ZS++x::B:=by
 obtain⟨h1,h2⟩:=qx g F x t n;unfold mh;cases hd:fJ g t n with
 |true=>simpa using h2 hd
 |false=>exact⟨(List.range n).map F,[],by simp,by simp[h1 hd]⟩
theorem zS (R:List b)(d:b):(List.range R.length).map (λj=>R.getD j d)=R:=by
 apply List.ext_getElem;{simp};{intro i h1 h2;simp at h1;simp[IA,h1]}
theorem vd{c:Type}(p:b->c)(R:List b)(d:b)(j:Nat):p (R.getD j d)=(R.map p).getD j (p d):=by simp[IA]
theorem Fb{v:ZC}{ZS B:List TR}(h:TRow w c m (ZS++B))(n:RowIns w x.2.1 0 x.1.f x.1.H/\(∃F,Cells w x.2.1 0 (x.1.f*3) F)/\TypeAt w x.2.1 151/\c<=x.2.1)
  (g:∀r∈ZS++B,r.2.1≠x.2.1) (j:w.ownsRow c 146 2 v (ZS++x::B).length ((ZS++x::B).flatMap bj)):TRow w c v (ZS++x::B):=by
 refine⟨j,λr f=>?_,?_⟩;{rcases p8.1 f with f|f;{exact h.H r (p8.2 (.inl f))};{rcases AT.1 f with rfl|f;{exact n};{exact h.H r (p8.2 (.inr f))}}};{have i:=PM.1 h.up;refine PM.2 ⟨i.1,List.pairwise_cons.2 ⟨λb hb e=>g b (p8.2 (.inr hb)) e.symm,i.2.1⟩,λa l b hb=>?_⟩;rcases AT.1 hb with rfl|hb;{exact g a (p8.2 (.inl l))};{exact i.2.2 a l b hb}}
theorem Hy{g:Nat->ByteArray}{F:Nat->b}{x:b}{k:Nat}(h:fJ g t k=ZG):(fg g F x t k).length≠0:=by obtain⟨ZS,B,_,h2⟩:=(qx g F x t k).2 h;rw[h2];simp
theorem zT{a:Option Addr}(h:TRow w f (Z a R.length c) R)(hn:0<R.length):∃b off,a=T (Q b off Y)/\b<w.heap.size/\∀i,i<R.length->w.cell? (Q b (off+i*2) Y)=T (U (R.getD i dfR).1.e)/\w.cell? (Q b (off+i*2+1) Y)=T (Z (T ⟨(R.getD i dfR).2.1,0,Y⟩) (R.getD i dfR).1.f (R.getD i dfR).2.2):=by
 obtain⟨g,c',e⟩:=fv h.i hn;simp at e;obtain⟨rfl,rfl⟩:=e;refine⟨g,0,rfl,(dN h.i).2,λi hi=>?_⟩;have l:R[i]?=T (R.getD i dfR):=by rw[IA,gq hi];rfl
 generalize R.getD i dfR=r at l;refine⟨?_,?_⟩;{have:=(cP h.i (j:=i*2) (u:=U r.1.e) (by have:=du bj 2 (λ_=>rfl) R i 0 (by omega) _ l;simpa[bj] using this)).1;rwa[show 0+i*2=i*2 by omega]};{have:=(cP h.i (j:=i*2+1) (u:=Z (T (Q r.2.1 0 Y)) r.1.f r.2.2) (by have:=du bj 2 (λ_=>rfl) R i 1 (by omega) _ l;simpa[bj] using this)).1;rwa[show 0+i*2+1=i*2+1 by omega]}
def fG (R:List TR)(x:TR)(t:ByteArray):List TR:=mh (nm1 (b9 (R.map λr:TR=>r.1))) (λj=>R.getD j dfR) x t R.length
theorem yn (R:List TR)(j:Nat):nm1 (b9 (R.map λr:TR=>r.1)) j=(R.getD j dfR).1.e:=by exact wA Target.e (vd (λr:TR=>r.1) R dfR j).symm
theorem ve (R:List TR)(x:TR)(t:ByteArray):(fG R x t).map (λr:TR=>r.1)=uR (R.map λr:TR=>r.1) x.1 t:=by unfold fG uR;rw[EQ,Q9];congr 1;funext j;exact vd (λr:TR=>r.1) R dfR j
theorem Fc{b:Nat}{g v:ZC}(h:TRow w b g R)(i:RowIns w x.2.1 0 x.1.f x.1.H/\(∃F,Cells w x.2.1 0 (x.1.f*3) F)/\TypeAt w x.2.1 151/\b<=x.2.1)
  (f:∀r∈R,r.2.1≠x.2.1) (c:w.ownsRow b 146 2 v (fG R x t).length ((fG R x t).flatMap bj)):TRow w b v (fG R x t):=by
 obtain⟨ZS,B,h1,h2⟩:=zR (nm1 (b9 (R.map λr:TR=>r.1))) (λj=>R.getD j dfR) x t R.length;rw[zS] at h1;unfold fG at c ⊢;rw[h2] at c ⊢;subst h1;exact Fb h i f c
theorem Hz{b g:Nat}{x:Target}(h:w.ownsRow b 151 3 (Z (T (Q g 0 Y)) x.f c) x.f (bJ x.H x.f)):RowIns w g 0 x.f x.H/\(∃F,Cells w g 0 (x.f*3) F)/\TypeAt w g 151/\b<=g:=by obtain⟨h1,h2⟩:=nT h;exact⟨h1,h2,lU h,(dN h).1⟩
theorem mu{size n:Nat}{e:ZI}{v:ZC}{f:List ZC}(h:w.ownsRow c e size v n f∨∃b,v=Z (T (Q b 0 Y)) 0 0/\n=0/\f=[])(o:Obj):(w.alloc o).ownsRow c e size v n f∨∃b,v=Z (T (Q b 0 Y)) 0 0/\n=0/\f=[] :=
 h.imp (λh=>h.alloc o) id
theorem vf{n wr:M}{b X ZJ bL lo m gb:Nat}{z v u0 u1:ZC}{c:Nat->Ins}(y:∀q,Below X n q->TRow q (b+3) z R)(C:Below X n wr)(F:Below bL g wr)(E:g.ownsRow lo 151 3 (Z (T (Q gb 0 Y)) m f) m (bJ c m))(D:wr.ownsRow bL 146 2 v (fG R (⟨t,m,c⟩,gb,f) t).length ((fG R (⟨t,m,c⟩,gb,f) t).flatMap bj))(i:∀r∈R,r.2.1<X)(hb:bL=g.heap.size)(h1:X<lo)(h2:ZJ<b+3)(h3:b+3<=X)(h4:lo<=bL)(h5:lo<=gb):TRow (((wr.setCell (Q X 1 Y) v).setCell (Q ZJ 0 Y) u0).setCell (Q ZJ 1 Y) u1) b v (fG R (⟨t,m,c⟩,gb,f) t):=by have B:=y _ (C.setCell (p:=(Q X 1 Y)) ly v);have h:=aQ (own_below E F (by omega)) (R:=X) (j:=1) (by omega) v;have o:=aQ D (R:=X) (j:=1) (by omega) v;have u:=(B.set (X:=ZJ) (j:=0) h2 u0).set (X:=ZJ) (j:=1) h2 u1;have l:=aQ (aQ h (R:=ZJ) (j:=0) (by omega) u0) (R:=ZJ) (j:=1) (by omega) u1;have s:=aQ (aQ o (R:=ZJ) (j:=0) (by omega) u0) (R:=ZJ) (j:=1) (by omega) u1;exact Fc (gN u (by omega)) (Hz (x:=⟨t,m,c⟩) (aB l (by omega))) (λr ZS=>by have:=i r ZS;show r.2.1≠gb;omega) (aB s (by omega))
theorem vg (a0:Option Addr)(n0 c0:Nat)(f0:Nat->Source)(a1:Option Addr)(n1 c1:Nat)(f1:Nat->Target)(t:ByteArray)(ap:Option Addr)(m cp:Nat)(c:Nat->Ins)(w:M)(hn0:(n0:Int)<=1048576)(hn1:(n1:Int)<=1048576)(hm:m<=1048576)(Lf:SlSource w a0 n0 f0)(La:SlTarget w a1 n1 f1)(Lu:SlIns w ap m c)(DH:∀i,i<n1->cT (f1 i))(hs:∀i,i<n1->∀j,j<(f1 i).f->((f1 i).H j).s.size<=maxLen)(Lc:∀i,i<m->(c i).s.size<=maxLen):Calls Tryz.prog 34 #[ZH #[Z a0 n0 c0,Z a1 n1 c1],U t,ZH #[Z ap m cp]] w λe H=>∃v0 v1 R,e=.returned (.tuple #[ZH #[v0,v1],N I (mg n0 f0 n1 f1 t (valid c m))])/\H.ownsRow w.heap.size 142 2 v0 (jz n0 f0 n1 f1 t m c).length ((jz n0 f0 n1 f1 t m c).flatMap bK)/\TRow H w.heap.size v1 R/\R.map (·.1)=mr n0 f0 n1 f1 t m c/\Below w.heap.size w H:=by
 have V0:=ae Lf;have V1:=ae La;have VP:=ae Lu;have HF:=ae DH;have HS:=ae hs;have Lo:=ae Lc;clear Lf La Lu DH hs Lc;obtain⟨fd,aq,la,ld,mv⟩:=OB gT;obtain⟨C,hC⟩:∃C,C=ce n0 f0 n1 f1:=⟨_,rfl⟩
 obtain⟨rt,Fk⟩:∃rt,rt=valid c m:=⟨_,rfl⟩
 obtain⟨D,hD⟩:∃D,D=mg n0 f0 n1 f1 t (valid c m):=⟨_,rfl⟩
 obtain⟨F,JT⟩:∃F,F=jz n0 f0 n1 f1 t m c:=⟨_,rfl⟩
 obtain⟨LT,KZ⟩:∃LT,LT=mr n0 f0 n1 f1 t m c:=⟨_,rfl⟩
 rw[<-hD,<-JT,<-KZ];have HC:=ae hC;have HR:=ae Fk;have HD:=ae (hD.trans (by unfold mg;rw[<-hC,<-Fk]));have bt:=ae (JT.trans (by unfold jz;rw[<-hD]));have B:=ae (KZ.trans (by unfold mr;rw[<-hD]));clear hC hD JT KZ Fk;obtain⟨W,Fd⟩:∃W:M,((A w (J #[Z a0 n0 c0,Z a1 n1 c1] 27)).alloc (J #[Z ap m cp] 43)).alloc (J #[Z Y 0 0,Z Y 0 0] 27)=W:=⟨_,rfl⟩
 obtain⟨A0,-,-,-,-⟩:=nb3 Fd;have LF:=ae Fd;clear Fd;have X0:=ae (Fa w (Z a0 n0 c0) (Z a1 n1 c1) (Z ap m cp) 27 43);go_enter Tryz.func34,Tryz.ntmps34;go_wp2_with fail;rw[LF.out] at X0 ⊢;clear LF;refine(fC a0 n0 c0 f0 a1 n1 c1 f1 _ hn0 hn1 (V0.aa A0 ly) (V1.aa A0 ly) HF HS).mono ?_;rintro e w1 ⟨rfl,z⟩;rw[<-HC.out];have X1:=ae (X0.aa z X0.lt);have B1:=ae (A0.trans (z.mono A0.size));clear z A0 X0;by_cases hc:C=0;case neg =>
  have hd:=HD.out;rw[p6 hc] at hd;have u:=bt.out;rw[gM (by omega)] at u;have l:=B.out;rw[gM (by omega)] at l;subst hd u l;have hc':(C == 0)=ZA:=by simpa using hc
  obtain⟨r0,q0⟩:=X1.r0;obtain⟨r1,q1⟩:=X1.r1;go_wp2;exact bp (v:=.tuple #[ZH #[Z Y 0 0,Z Y 0 0],N I 1]) (by simp[results,UG,go_sem,r0,r1]) rfl ⟨_,_,[],rfl,A9 _ _ _ _,dh _ _,rfl,(B1.setCell (by simp;omega) _).setCell (by simp;omega) _⟩
 subst hc;have hz:=me HC.symm;have HZ:=ae hz;clear hz HC;have Fn:=HD.out;rw[gM (by omega)] at Fn;have KV:=ae Fn;clear Fn HD;go_wp2_with fail;refine(dc t _).mono ?_;rintro e w2 ⟨rfl,z⟩;have X2:=ae (X1.aa z X1.lt);have B2:=ae (B1.trans (z.mono B1.size));clear z X1 B1;cases hn:aw t with
 |false =>have hd:=KV.out;rw[p6 (.inl hn)] at hd;have u:=bt.out;rw[gM (by omega)] at u;have l:=B.out;rw[gM (by omega)] at l;subst hd u l;obtain⟨r0,q0⟩:=X2.r0;obtain⟨r1,q1⟩:=X2.r1;go_wp2;exact bp (v:=.tuple #[ZH #[Z Y 0 0,Z Y 0 0],N I 2]) (by simp[results,UG,go_sem,r0,r1]) rfl ⟨_,_,[],rfl,A9 _ _ _ _,dh _ _,rfl,(B2.setCell (by simp;omega) _).setCell (by simp;omega) _⟩
 |true =>
 have k2:=X2.b0;go_wp2_with fail;refine(jN ap m cp c _ hm (VP.aa B2 ly) Lo).mono ?_;rintro e LI ⟨rfl,z⟩;rw[<-HR.out];have E:=ae (X2.aa z X2.lt);have P:=ae (B2.trans (z.mono B2.size));clear z X2 B2 k2;have ZN:=KV.out;rw[hn] at ZN;clear KV;cases rt with
 |false =>rw[p6 (.inr rfl)] at ZN;have u:=bt.out;rw[gM (by omega)] at u;have l:=B.out;rw[gM (by omega)] at l;subst ZN u l;obtain⟨r0,q0⟩:=E.r0;obtain⟨r1,q1⟩:=E.r1;go_wp2;exact bp (v:=.tuple #[ZH #[Z Y 0 0,Z Y 0 0],N I 2]) (by simp[results,UG,go_sem,r0,r1]) rfl ⟨_,_,[],rfl,A9 _ _ _ _,dh _ _,rfl,(P.setCell (by simp;omega) _).setCell (by simp;omega) _⟩
 |true =>
 rw[gM (by simp)] at ZN;have Lr:=ae ZN;clear ZN hn;have hm1:1<=m:=by have h:=HR.out;unfold valid at h;have h2:=(Bool.and_eq_true_iff.1 h.symm).2;have:=(QO h2).1;omega
 obtain⟨pb,po,rfl,Ld⟩:=VP.resolve_left (by omega);have Li:=ae Ld;clear VP Ld HR;have k0:=E.a0;have k1:=E.a1;go_wp2_with fail;refine(gw a0 n0 c0 f0 a1 n1 c1 f1 t _ hn0 hn1 (V0.aa P ly) (V1.aa P ly) HF).mono ?_;rintro e y ⟨v0,v1,R,rfl,hO,hR,hM,z⟩;have LG:=E.lt;have X3:=ae (E.aa z E.lt);have B3:=ae (P.trans (z.mono P.size));obtain⟨ZR,ZO,rfl⟩:=aU hO;obtain⟨ta,tc,rfl⟩:=aU hR.i;have eR:R.length=(keepT f1 t n1).length:=by rw[<-hM];simp
 have LQ:=ku f0 t n0;have LV:=kv f1 t n1;obtain⟨L,hL⟩:∃L,L=bY f0 t n0:=⟨_,rfl⟩
 obtain⟨K,hK⟩:∃K,K=keepT f1 t n1:=⟨_,rfl⟩
 rw[<-hL] at hO LQ ⊢;rw[<-hK] at hM LV eR;have S:=Lr.out;rw[<-hL,<-hK] at S;have u:=bt.out;rw[<-hL] at u;have l:=B.out;rw[<-hK] at l;have ER:=ae eR;have hlr:R.length<=n1:=by omega
 clear Lr bt B hL hK z k0 k1 E P eR;have hbw:w.heap.size+3<=LI.heap.size:=LG;have O3:=ae (aB hO (base':=w.heap.size+3) (by omega));have R3:=ae (gN hR (base':=w.heap.size+3) (by omega));have HM:=ae hM;have hll:(L.length:Int)<=1048576:=by omega
 clear hO hR hM;have DB:=ae ((q9 y).alloc ly (J #[Z ZR L.length ZO,Z ta R.length tc] 27));have K8:=ae (uO y (Z ZR L.length ZO) (Z ta R.length tc) 27);have X4:=ae (X3.aa DB X3.lt);have B4:=ae (B3.trans (DB.mono B3.size));have O4:=ae (own_below O3 DB ly);have R4:=ae (R3.aa DB ly);have At:=ae DB.out;have Ly:w.heap.size+2<y.heap.size:=X3.lt;have c8:=K8.c0;have ZL:=K8.c1;clear DB;by_cases hc3:(200:Int)<=L.length+R.length;{rw[p6 (by have:=ER.out;omega)] at S;rw[gM (by omega)] at u l;subst S u l;obtain⟨r0,q0⟩:=X3.r0;obtain⟨r1,q1⟩:=X3.r1;clear c8 ZL;go_wp2;exact bp (v:=.tuple #[ZH #[Z Y 0 0,Z Y 0 0],N I 3]) (by simp[results,UG,go_sem,r0,r1,Ly]) rfl ⟨_,_,[],rfl,A9 _ _ _ _,dh _ _,rfl,((B3.setCell (by simp;omega) _).setCell (by simp;omega) _).alloc (by have:=B3.size;simp;omega) _⟩};clear X3;rw[gM (by have:=ER.out;omega)] at S;rw[p6 S] at u l;subst S u;have B:=ae l;clear l;have k2:=X4.b0;have Lm:(A y (J #[Z ZR F.length ZO,Z ta R.length tc] 27)).heap.size=y.heap.size+1:=by simp
 have RX:Hid (∀H,Below y.heap.size y H->TRow H (w.heap.size+3) (Z ta R.length tc) R):=λH hb=>R3.aa hb ly;have OX:Hid (∀H,Below y.heap.size y H->H.ownsRow (w.heap.size+3) 142 2 (Z ZR F.length ZO) F.length (F.flatMap bK)):=λH hb=>own_below O3 hb ly;have GS:Hid (∀r∈R,r.2.1<y.heap.size):=λr hr=>(R3.H r hr).1.1;have E5:=ae ((dB (A y (J #[Z ZR F.length ZO,Z ta R.length tc] 27)).heap.size (A y (J #[Z ZR F.length ZO,Z ta R.length tc] 27))).alloc ly (J #[] 146));have Lv:((A y (J #[Z ZR F.length ZO,Z ta R.length tc] 27)).alloc (J #[] 146)).heap.size=(A y (J #[Z ZR F.length ZO,Z ta R.length tc] 27)).heap.size+1:=by simp
 have k3:=(E5.cell (p:=(Q (w.heap.size+1) 0 Y)) (by show w.heap.size+1<_;have:=X4.lt;omega)).trans k2;have n9:=ae (Li.aa B4 ly);have Bk:=ae Lm;have th:=ae Lv;clear R3 O3 k2 Lm Lv;go_wp2_with fail;generalize World.alloc (World.alloc y _) _=Id at E5 th k3 ⊢;generalize World.alloc y _=w4 at K8 X4 B4 O4 R4 c8 ZL Bk th At E5 n9;generalize y.heap.size=X at K8 c8 ZL Ly Bk RX OX GS At ⊢;refine(jm pb po m cp c _ (by omega) (n9.aa E5 ly)).mono ?_;rintro e w5 ⟨gb,q,rfl,Hx,Lh⟩;have hzx:w4.heap.size=X+1:=Bk.out;have hzy:Id.heap.size=w4.heap.size+1:=th.out;have F5:=ae (E5.trans (Lh.mono (by omega)));have OG:=ae Hx;have Le:=(dN Hx).1;clear Hx Lh E5 Bk th k3 n9;obtain⟨w6,ro⟩:∃W:M,A w5 (J #[U t,Z (T (Q gb 0 Y)) m q] 146)=W:=⟨_,rfl⟩
 obtain⟨-,-,Lp⟩:=nb1 ro;have ZM:=ae ro;clear ro;have V:=ae (F5.alloc F5.size (J #[U t,Z (T (Q gb 0 Y)) m q] 146));have y0:w6.cell? (Q w5.heap.size 0 Y)=T (U t):=by cases ZM.out;simp
 have y1:w6.cell? (Q w5.heap.size 1 Y)=T (Z (T (Q gb 0 Y)) m q):=by cases ZM.out;simp
 have sm:=ae (OG.alloc (J #[U t,Z (T (Q gb 0 Y)) m q] 146));have Lz:=V.size;have DE:=ae Lz;clear Lz OG F5;go_wp2;rw[ZM.out] at V sm DE ⊢;clear ZM;have hgw:gb<w6.heap.size:=(dN sm).2;generalize w5.heap.size=ZK at Lp y0 y1 ⊢;obtain⟨x,Lt⟩:∃x,x=w6.heap.size:=⟨_,rfl⟩
 have n:=ae Lt;have ZP:X<x:=by have:=DE.out;omega
 have Lq:ZK<x:=by omega
 have Lj:=(V.cell (p:=(Q X 0 Y)) (by show X<_;omega)).trans c8;have Ll:=(V.cell (p:=(Q X 1 Y)) (by show X<_;omega)).trans ZL;have Lx:=(V.frozen (p:=(Q X 1 Y)) (by show X<_;omega)).trans K8.z1;have X6:=ae (X4.aa V (by have:=X4.lt;omega));have R6:=ae (R4.aa V ly);have Lw:=ae (At.trans (V.mono (by omega)));have Lb:w.heap.size<=X:=by omega
 have hb1:X+2<x+0:=by have:=DE.out;omega
 clear c8 ZL K8 R4 O4 X4 B4 Lp Lt At V V0 V1 HF HS Lo Li HZ DE;have c8:=Lj;have ZL:=Ll;clear Lj Ll;obtain⟨ZQ,hI⟩:∃ZQ,ZQ=fg (nm1 (b9 (R.map λr:TR=>r.1))) (λj=>R.getD j dfR) ((⟨t,m,c⟩,gb,q):TR) t:=⟨_,rfl⟩
 obtain⟨G,O⟩:∃G,G=fJ (nm1 (b9 (R.map λr:TR=>r.1))) t:=⟨_,rfl⟩
 have LJ:Hid (∀k,ZQ (k+1)=if G k=ZA/\eC t (R.getD k dfR).1.e=ZG then ZQ k++[(⟨t,m,c⟩,gb,q)]++[R.getD k dfR] else ZQ k++[R.getD k dfR]):=λk=>by rw[hI,O,<-yn R k];rfl
 have LP:Hid (∀k,G (k+1)=(G k || eC t (R.getD k dfR).1.e)):=λk=>by rw[O,<-yn R k];rfl
 have LU:Hid (∀k,(ZQ k).length<=k+1):=λk=>by rw[hI];exact(uP _ _ _ _ k).1
 have Lg:Hid (∀k,G k=ZG->(ZQ k).length≠0):=λk h=>by rw[hI];rw[O] at h;exact Hy h
 have Ln:Hid (fG R (⟨t,m,c⟩,gb,q) t=if G R.length=ZG then ZQ R.length else ZQ R.length++[(⟨t,m,c⟩,gb,q)]):=by rw[hI,O];rfl
 have DS:Hid (ZQ 0=[]/\G 0=ZA):=by rw[hI,O];exact⟨rfl,rfl⟩
 clear hI O;go_loopw [9,10,12] (λv d i wr=>∃(k:Nat) (db:Bool),k<=R.length/\i=N I k/\d=.bool db/\Hid (db=G k)/\Hid (wr.ownsRow x 146 2 v (ZQ k).length ((ZQ k).flatMap bj)∨∃b,v=Z (T (Q b 0 Y)) 0 0/\(ZQ k).length=0/\(ZQ k).flatMap bj=[])/\Hid (Below x w6 wr)) (λ_ _ i _=>R.length - (intOf i).toNat);case atStart=>exact⟨0,ZA,by omega,rfl,rfl,DS.2.symm,.inr ⟨_,rfl,by rw[DS.1];rfl,by rw[DS.1];rfl⟩,by rw[n.out];exact dB _ _⟩
 case round =>
  obtain⟨k,db,hk,rfl,rfl,ZS,OW,o⟩:=hrel;have e9:=(o.cell (p:=(Q X 1 Y)) ZP).trans ZL;have z0:=(o.cell (p:=(Q ZK 0 Y)) Lq).trans y0;have z1:=(o.cell (p:=(Q ZK 1 Y)) Lq).trans y1;have hlen1:=LU.out k;by_cases l:k<R.length
  ·obtain⟨b,off,rfl,hbl,Ls⟩:=zT R6 (by omega);obtain⟨p0,p1⟩:=Ls k l;have Fm:=LJ.out k;have DQ:=LP.out k;generalize R.getD k dfR=rk at p0 p1 Fm DQ;have ph:=ae Fm;have qr:=ae DQ;clear Fm DQ;have ur:b<x:=by have:=n.out;omega
   have d0:=(o.cell (p:=(Q b (off+k*2) Y)) ur).trans p0;have d1:=(o.cell (p:=(Q b (off+k*2+1) Y)) ur).trans p1;clear Ls;cases db with
   |true =>
    have HI:Hid (ZQ (k+1)=ZQ k++[rk]):=by show _=_;rw[ph.out,gM (by rw[<-ZS.out];simp)]
    have HN:Hid (ZG=G (k+1)):=by show ZG=_;rw[qr.out,<-ZS.out];rfl
    go_wp2_with (at_builtin;(refine eV rfl (.tmp 66) (.tmp 72) 25 rfl x 146 fd (ZH #[U ⟨#[]⟩,Z Y 0 0]) 2 40 QP aq la ld mv rfl (by decide) _ (ZQ k).length ((ZQ k).flatMap bj) (by simp[Act.eval]) (mu OW _) (Q wr.heap.size 0 Y) 1 (bj rk) (by simp[Act.eval]) rfl (dv wr _ _ _) (by simp[bj,Value.oneCell']) (by unfold maxLen;omega) (by omega) (by have:=o.size;have:=n.out;simp;omega) ?_;intro vy wy f g;have OY:=ae f;have BY:=ae ((o.alloc (by have:=o.size;have:=n.out;omega) _).trans g);clear f g));exact⟨⟨k+1,ZG,by omega,by go_num,rfl,HN,.inl (by rw[HI.out,cM,BO];simpa using OY.out),BY.out⟩,by simp[intOf];omega⟩
   |false =>
    cases hq:eC t rk.1.e with
    |true =>
     have HI:Hid (ZQ (k+1)=ZQ k++[(⟨t,m,c⟩,gb,q)]++[rk]):=by show _=_;rw[ph.out,p6 ⟨ZS.symm,hq⟩]
     have HN:Hid (ZG=G (k+1)):=by show ZG=_;rw[qr.out,hq];simp
     obtain⟨q1,q2⟩:=sI hq;clear hq;go_wp2_with (at_builtin;first|(refine eV rfl (.tmp 62) (.tmp 64) 25 rfl x 146 fd (ZH #[U ⟨#[]⟩,Z Y 0 0]) 2 40 QP aq la ld mv rfl (by decide) _ (ZQ k).length ((ZQ k).flatMap bj) (by simp[Act.eval]) (mu OW _) (Q wr.heap.size 0 Y) 1 (bj (⟨t,m,c⟩,gb,q)) (by simp[Act.eval]) rfl (dv wr _ _ _) (by simp[bj,Value.oneCell']) (by unfold maxLen;omega) (by omega) (by have:=o.size;have:=n.out;simp;omega) ?_;intro vx wx f g;have LH:=ae f;have BX:=ae ((o.alloc (by have:=o.size;have:=n.out;omega) _).trans g);have f9:=(BX.cell (p:=(Q X 1 Y)) ZP).trans ZL;have g0:=(BX.cell (p:=(Q b (off+k*2) Y)) ur).trans p0;have g1:=(BX.cell (p:=(Q b (off+k*2+1) Y)) ur).trans p1;clear f g)|(refine eV rfl (.tmp 66) (.tmp 72) 25 rfl x 146 fd (ZH #[U ⟨#[]⟩,Z Y 0 0]) 2 40 QP aq la ld mv rfl (by decide) _ ((ZQ k).length+1) ((ZQ k).flatMap bj++bj (⟨t,m,c⟩,gb,q)) (by simp[Act.eval]) (.inl (LH.alloc _)) (Q wx.heap.size 0 Y) 1 (bj rk) (by simp[Act.eval]) rfl (dv wx _ _ _) (by simp[bj,Value.oneCell']) (by unfold maxLen;omega) (by omega) (by have:=BX.size;have:=n.out;simp;omega) ?_;intro vy wy f g;have OY:=ae f;have BY:=ae ((BX.alloc (by have:=BX.size;have:=n.out;omega) _).trans g);clear f g));exact⟨⟨k+1,ZG,by omega,by go_num,rfl,HN,.inl (by rw[HI.out,cM,cM,BO,BO];simpa using OY.out),BY.out⟩,by simp[intOf];omega⟩
    |false =>
     have HI:Hid (ZQ (k+1)=ZQ k++[rk]):=by show _=_;rw[ph.out,gM (by rw[hq];simp)]
     have HN:Hid (ZA=G (k+1)):=by show ZA=_;rw[qr.out,<-ZS.out,hq];rfl
     have HQ:=ae (uN hq);clear hq;rcases HQ.out with q1|⟨q1,q2⟩
     all_goals
      go_wp2_with (at_builtin;(refine eV rfl (.tmp 66) (.tmp 72) 25 rfl x 146 fd (ZH #[U ⟨#[]⟩,Z Y 0 0]) 2 40 QP aq la ld mv rfl (by decide) _ (ZQ k).length ((ZQ k).flatMap bj) (by simp[Act.eval]) (mu OW _) (Q wr.heap.size 0 Y) 1 (bj rk) (by simp[Act.eval]) rfl (dv wr _ _ _) (by simp[bj,Value.oneCell']) (by unfold maxLen;omega) (by omega) (by have:=o.size;have:=n.out;simp;omega) ?_;intro vy wy f g;have OY:=ae f;have BY:=ae ((o.alloc (by have:=o.size;have:=n.out;omega) _).trans g);clear f g));exact⟨⟨k+1,ZA,by omega,by go_num,rfl,HN,.inl (by rw[HI.out,cM,BO];simpa using OY.out),BY.out⟩,by simp[intOf];omega⟩
  ·have e:R.length=k:=by omega
   subst e;cases db with
   |true =>
    have dg:fG R (⟨t,m,c⟩,gb,q) t=ZQ R.length:=by rw[Ln.out,p6 ZS.symm]
    have ow:=OW.resolve_right (by rintro⟨b,_,h0,_⟩;exact Lg _ ZS.symm h0);obtain⟨va,vc,rfl⟩:=fv ow (by have:=Lg.out _ ZS.symm;omega);have OF:Hid (wr.ownsRow x 146 2 (Z (T (Q va 0 Y)) (ZQ R.length).length vc) (fG R (⟨t,m,c⟩,gb,q) t).length ((fG R (⟨t,m,c⟩,gb,q) t).flatMap bj)):=by show World.ownsRow _ _ _ _ _ _ _;rw[dg];exact ow
    have e8:=(o.cell (p:=(Q X 0 Y)) ZP).trans c8;have y9:=(o.frozen (p:=(Q X 1 Y)) ZP).trans Lx;obtain⟨r0,q0⟩:=(X6.aa o (by omega)).r0;obtain⟨r1,q1⟩:=(X6.aa o (by omega)).r1;have H3:=ae dg;clear dg ow OW;go_wp2;refine ?_;have GB:=ae (Lw.trans (o.mono (by omega)));refine bp (v:=.tuple #[ZH #[Z ZR F.length ZO,Z (T (Q va 0 Y)) (ZQ R.length).length vc],N I 0]) (by simp[results,UG,go_sem,r0,r1]) rfl ⟨_,_,fG R (⟨t,m,c⟩,gb,q) t,rfl,aB (aQ (aQ (OX _ ((GB).setCell (p:=(Q X 1 Y)) ly _)) (R:=w.heap.size+2) (j:=0) (by omega) _) (R:=w.heap.size+2) (j:=1) (by omega) _) (by omega),?_,(ve R (⟨t,m,c⟩,gb,q) t).trans (by rw[HM.out];exact B.symm),(((B3.trans ((GB).mono Lb)).setCell (by simp;omega) _).setCell (by simp;omega) _).setCell (by simp;omega) _⟩;exact vf (X:=X) (ZJ:=w.heap.size+2) (bL:=x) (lo:=Id.heap.size) RX GB o sm OF GS n (by omega) (by omega) (by omega) (by omega) Le
   |false =>
    go_wp2_with (at_builtin;(refine eV rfl (.tmp 76) (.tmp 78) 25 rfl x 146 fd (ZH #[U ⟨#[]⟩,Z Y 0 0]) 2 40 QP aq la ld mv rfl (by decide) _ (ZQ R.length).length ((ZQ R.length).flatMap bj) (by simp[Act.eval]) (mu OW _) (Q wr.heap.size 0 Y) 1 (bj (⟨t,m,c⟩,gb,q)) (by simp[Act.eval]) rfl (dv wr _ _ _) (by simp[bj,Value.oneCell']) (by unfold maxLen;omega) (by omega) (by have:=o.size;have:=n.out;simp;omega) ?_;intro vz wz f g;obtain⟨gs,cs,rfl⟩:=fv f (Nat.succ_pos _);have OZ:=ae f;have BZ:=ae ((o.alloc (by have:=o.size;have:=n.out;omega) _).trans g);have f8:=(BZ.cell (p:=(Q X 0 Y)) ZP).trans c8;have f9:=(BZ.cell (p:=(Q X 1 Y)) ZP).trans ZL;have y9:=(BZ.frozen (p:=(Q X 1 Y)) ZP).trans Lx;obtain⟨r0,q0⟩:=(X6.aa BZ (by have:=n.out;omega)).r0;obtain⟨r1,q1⟩:=(X6.aa BZ (by have:=n.out;omega)).r1;clear f g));have dg:fG R (⟨t,m,c⟩,gb,q) t=ZQ R.length++[(⟨t,m,c⟩,gb,q)]:=by rw[Ln.out,gM (by rw[<-ZS.out];simp)]
    have OF:Hid (wz.ownsRow x 146 2 (Z (T (Q gs 0 Y)) ((ZQ R.length).length+1) cs) (fG R (⟨t,m,c⟩,gb,q) t).length ((fG R (⟨t,m,c⟩,gb,q) t).flatMap bj)):=by show World.ownsRow _ _ _ _ _ _ _;rw[dg,cM,BO];simpa using OZ.out
    have GB:=ae (Lw.trans (BZ.mono (by omega)));refine bp (v:=.tuple #[ZH #[Z ZR F.length ZO,Z (T (Q gs 0 Y)) ((ZQ R.length).length+1) cs],N I 0]) (by simp[results,UG,go_sem,r0,r1]) rfl ⟨_,_,fG R (⟨t,m,c⟩,gb,q) t,rfl,aB (aQ (aQ (OX _ ((GB).setCell (p:=(Q X 1 Y)) ly _)) (R:=w.heap.size+2) (j:=0) (by omega) _) (R:=w.heap.size+2) (j:=1) (by omega) _) (by omega),?_,(ve R (⟨t,m,c⟩,gb,q) t).trans (by rw[HM.out];exact B.symm),(((B3.trans ((GB).mono Lb)).setCell (by simp;omega) _).setCell (by simp;omega) _).setCell (by simp;omega) _⟩;exact vf (X:=X) (ZJ:=w.heap.size+2) (bL:=x) (lo:=Id.heap.size) RX GB BZ sm OF GS n (by omega) (by omega) (by omega) (by omega) Le
