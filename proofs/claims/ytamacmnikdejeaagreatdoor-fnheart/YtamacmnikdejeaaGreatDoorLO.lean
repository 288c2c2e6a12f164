import Derived.Test.YtamacmnikdejeaaGreatDoorLM
import Derived.Shelf.Spec.SlicesInsert
import Derived.Laws.CopyRow
import Derived.Lib.AppendZerosOnto
set_option maxRecDepth 100000
set_option maxHeartbeats 8000000
set_option linter.unusedSimpArgs false
open Go renaming Addr.mk->Q,Value.slice->Y,Value.string->U,Value.int->J,Value.agg->ZG,Obj.cells->N,IntKind.i64->I,World->E,Value->ZB,TypeId->ZH,World.heap->A
open Option renaming none->Z,some->T
open Bool renaming false->ZA,true->ZD
open Array renaming size->z
namespace Go.Proofs.YtamacmnikdejeaaGreatDoor.Vp
open RowKit
variable {w:E}{b:Type}{f g:Nat}{t:ByteArray}{R:List TR}{l:ZB}{P:Program}{x:TR}
def iJ (n0:Nat)(f0:Nat->Source)(n1:Nat)(f1:Nat->Target)(t:ByteArray)(m:Nat)(b:Nat->Ins):List Source:=if kZ n0 f0 n1 f1 t (valid b m)=0 then keepS f0 t n0 else []
def lp (n0:Nat)(f0:Nat->Source)(n1:Nat)(f1:Nat->Target)(t:ByteArray)(m:Nat)(b:Nat->Ins):List Target:=if kZ n0 f0 n1 f1 t (valid b m)=0 then tX (keepT f1 t n1) ⟨t,m,b⟩ t else []
structure Trio (w:E)(h:Nat)(p0 p1 p2:ZB):Prop where
 lt:h+2<z (A w)
 a0:w.cell? (Q h 0 Z)=T p0
 a1:w.cell? (Q h 1 Z)=T p1
 b0:w.cell? (Q (h+1) 0 Z)=T p2
 r0:w.cell? (Q (h+2) 0 Z)=T (Y Z 0 0)/\w.frozen? (Q (h+2) 0 Z)=ZA
 r1:w.cell? (Q (h+2) 1 Z)=T (Y Z 0 0)/\w.frozen? (Q (h+2) 1 Z)=ZA
theorem Trio.aa{g:E}{h B:Nat}{j m:ZB}(b:Trio w h j m l)(hb:Below B w g)(hB:h+3<=B):Trio g h j m l:=by have c:∀k o,k<B->g.cell? (Q k o Z)=w.cell? (Q k o Z):=λk o i=>hb.cell (p:=(Q k o Z)) i;have f:∀k o,k<B->g.frozen? (Q k o Z)=w.frozen? (Q k o Z):=λk o i=>hb.frozen (p:=(Q k o Z)) i;exact⟨lj b.lt hb.size,(c _ _ (by omega)).trans b.a0,(c _ _ (by omega)).trans b.a1,(c _ _ (by omega)).trans b.b0,⟨(c _ _ (by omega)).trans b.r0.1,(f _ _ (by omega)).trans b.r0.2⟩,⟨(c _ _ (by omega)).trans b.r1.1,(f _ _ (by omega)).trans b.r1.2⟩⟩
theorem Cf (w:E)(b f g:ZB)(t u:ZH):Trio (((w.alloc (N #[b,f] t)).alloc (N #[g] u)).alloc (N #[Y Z 0 0,Y Z 0 0] t)) (z (A w)) b f g:=by
 have j:Below (z (A w)+1) (w.alloc (N #[b,f] t)) ((w.alloc (N #[b,f] t)).alloc (N #[g] u)):=br.alloc (by simp) _;have i:Below (z (A w)+2) ((w.alloc (N #[b,f] t)).alloc (N #[g] u)) (((w.alloc (N #[b,f] t)).alloc (N #[g] u)).alloc (N #[Y Z 0 0,Y Z 0 0] t)):=br.alloc (by simp) _;have hz:(w.alloc (N #[b,f] t)).heap.size=z (A w)+1:=by simp
 have h:((w.alloc (N #[b,f] t)).alloc (N #[g] u)).heap.size=z (A w)+2:=by simp
 refine⟨by simp,?_,?_,?_,⟨?_,?_⟩,⟨?_,?_⟩⟩;{exact(i.cell (p:=(Q (z (A w)) 0 Z)) (by simp)).trans ((j.cell (p:=(Q (z (A w)) 0 Z)) (by simp)).trans (by simp))};{exact(i.cell (p:=(Q (z (A w)) 1 Z)) (by simp)).trans ((j.cell (p:=(Q (z (A w)) 1 Z)) (by simp)).trans (by simp))};{refine(i.cell (p:=(Q (z (A w)+1) 0 Z)) (by simp)).trans ?_;rw[<-hz];clear j i hz h;generalize w.alloc (N #[b,f] t)=W;simp};all_goals
  rw[<-h];clear j i hz h;generalize (w.alloc (N #[b,f] t)).alloc (N #[g] u)=W;simp
theorem vG (f:Nat)(t ty e:ZH)(i:TypeInfo)(ZR:ZB)(size h:Nat)(C:P.underlying t=T (.slice e))(hi:P.info? e=T i)(hz:i.zero=T ZR)
  (m:i.size=size) (s:i.bytes=h) (r:ZR.cells.size=size)
  (b:Nat) (a:Addr) (c:Nat) (news:List ZB) (n:news.length=1*size) (o:∀j u,news[j]?=T u->w.cell? (a.add j)=T u)
  (l:1*h<=140737488355328) (g:f<=z (A w)) :
  ∃y q,(Builtin.append_ #[t,t] ty #[Y (T (Q b 0 Z)) 0 0,Y (T a) 1 c]).run P w=.ok y q/\q.ownsRow f e size y 1 news/\Below f w q:=by
 subst m s;have B:=run_append_grow (P:=P) w t ty e i ZR C hi hz (Q b 0 Z) 0 0 [] (by simp) (by intro j v D;simp at D) a 1 c news n o (by omega) (by omega) (growslice_fits (by omega) (by simpa using l));have p:=grownCap_ge w (0+1) 0 e;have x:grownCap w (0+1) 0 e<=maxLen:=grownCap_le_maxLen w (0+1) 0 e (by unfold maxLen;omega);refine⟨_,_,B,⟨by simpa using n,.inr ⟨z (A w),_,_,rfl,g,gM w.drew _,p,x,?_,?_⟩⟩,rfl,rfl,rfl,by simp,λk ZS=>UJ w.drew _ (lj ZS g)⟩;{simp only[Array.size_append,NM,size_zeroCells,r,n,KF,IT,<-Nat.add_mul];congr 1;have:=p;simp only[IT] at this;omega};{simp only[Array.toList_append,LA];rw[<-n];exact List.take_left}
theorem eA{H:Array Oper}{rest:List Oper}{o:Oper}{a:Act}{ZM:Exit->Act->E->Prop}(G:o.guard=Z)(s x:Operand)(t:ZH)
  (O:o.op=.call { callee:=.builtin .append,args:=#[s,x],argTypes:=#[t,t] })
  (f:Nat) (e:ZH) (i:TypeInfo) (ZR:ZB) (size g:Nat) (K:P.underlying t=T (.slice e)) (hi:P.info? e=T i) (hz:i.zero=T ZR)
  (r:i.size=size) (ZQ:i.bytes=g) (D:ZR.cells.size=size) (R:0<size)
  (v:ZB) (n:Nat) (B:List ZB) (ZO:a.eval s=v) (m:w.ownsRow f e size v n B∨∃b,v=Y (T (Q b 0 Z)) 0 0/\n=0/\B=[])
  (C:Addr) (c:Nat) (news:List ZB) (L:a.eval x=Y (T C) 1 c) (M:news.length=1*size) (y:∀j u,news[j]?=T u->w.cell? (C.add j)=T u) (h1:∀u∈news,u.oneCell'=ZD)
  (ZN:n+1<=maxLen) (ZS:(n+1)*g<=140737488355328) (l:f<=z (A w))
  (h:∀q p,p.ownsRow f e size q (n+1) (B++news)->Below f w p->wpList P H ZM rest (a.put o.dst q) p):wpList P H ZM (o::rest) a w:=by
 rcases m with m|⟨b,rfl,rfl,rfl⟩
 {exact E4 w G s x t O f e i ZR size g K hi hz r ZQ D R v n B ZO m C 1 c news L M y h1 ZN ZS l λq p h2 ZP _=>h q p h2 (bg (cM f w) ZP l (λj e=>(m.lt j e).1))};{obtain⟨q,p,S,h2,ZP⟩:=vG (w:=w) f t o.type e i ZR size g K hi hz r ZQ D b C c news M y (by omega) l;exact Lib.wpList_append_run w G s x t t O _ _ ZO L q p S (h q p (by simpa using h2) ZP)}
theorem pL{f:Type}(g:Nat->ByteArray)(F:Nat->f)(x:f)(t:ByteArray)(k:Nat):(ft g t k=ZA->eI g F x t k=(List.range k).map F)/\(ft g t k=ZD->∃ZS B,(List.range k).map F=ZS++B/\eI g F x t k=ZS++x::B):=by
 induction k with
 |zero=>simp[eI,ft]
 |succ j b =>
  have e:(List.range (j+1)).map F=(List.range j).map F++[F j]:=by rw[MB,KI];rfl
  rw[e];simp only[eI,ft];cases hd:ft g t j with
  |false =>
   have h1:=b.1 hd;cases hl:aJ t (g j) with
   |true=>simpa[h1] using⟨(List.range j).map F,[F j],rfl,by simp⟩
   |false=>simp[h1]
  |true =>obtain⟨ZS,B,h1,h2⟩:=b.2 hd;simp only[Bool.true_or,Bool.true_eq_false,false_and,RV,true_implies,false_implies,PJ];exact⟨ZS,B++[F j],by rw[h1];simp,by rw[h2];simp⟩
theorem x8 (g:Nat->ByteArray)(F:Nat->b)(x:b)(t:ByteArray)(n:Nat):∃ZS B,(List.range n).map F=ZS++B/\lc g F x t n=ZS++x::B:=by
 obtain⟨h1,h2⟩:=pL g F x t n;unfold lc;cases hd:ft g t n with
 |true=>simpa using h2 hd
 |false=>exact⟨(List.range n).map F,[],by simp,by simp[h1 hd]⟩
theorem x9 (R:List b)(d:b):(List.range R.length).map (λj=>R.getD j d)=R:=by
 apply List.ext_getElem;{simp};{intro i h1 h2;simp at h1;simp[IS,h1]}
theorem t8{f:Type}(p:b->f)(R:List b)(d:b)(j:Nat):p (R.getD j d)=(R.map p).getD j (p d):=by simp[IS]
theorem Cg{n v:ZB}{ZS B:List TR}(h:TRow w f n (ZS++B))(o:RowIns w x.2.1 0 x.1.h x.1.u/\(∃F,Cells w x.2.1 0 (x.1.h*3) F)/\TypeAt w x.2.1 146/\f<=x.2.1)
  (i:∀r∈ZS++B,r.2.1≠x.2.1) (l:w.ownsRow f 125 2 v (ZS++x::B).length ((ZS++x::B).flatMap aZ)):TRow w f v (ZS++x::B):=by
 refine⟨l,λr g=>?_,?_⟩;{rcases wC.1 g with g|g;{exact h.u r (wC.2 (.inl g))};{rcases A9.1 g with rfl|g;{exact o};{exact h.u r (wC.2 (.inr g))}}};{have j:=MN.1 h.up;refine MN.2 ⟨j.1,List.pairwise_cons.2 ⟨λb hb e=>i b (wC.2 (.inr hb)) e.symm,j.2.1⟩,λa m b hb=>?_⟩;rcases A9.1 hb with rfl|hb;{exact i a (wC.2 (.inl m))};{exact j.2.2 a m b hb}}
theorem E9{g:Nat->ByteArray}{F:Nat->b}{x:b}{k:Nat}(h:ft g t k=ZD):(eI g F x t k).length≠0:=by obtain⟨ZS,B,_,h2⟩:=(pL g F x t k).2 h;rw[h2];simp
theorem ya{c:Nat}{a:Option Addr}(h:TRow w f (Y a R.length c) R)(hn:0<R.length):∃b off,a=T (Q b off Z)/\b<z (A w)/\∀i,i<R.length->w.cell? (Q b (off+i*2) Z)=T (U (R.getD i dfR).1.e)/\w.cell? (Q b (off+i*2+1) Z)=T (Y (T ⟨(R.getD i dfR).2.1,0,Z⟩) (R.getD i dfR).1.h (R.getD i dfR).2.2):=by
 obtain⟨g,c',e⟩:=d9 h.y hn;simp at e;obtain⟨rfl,rfl⟩:=e;refine⟨g,0,rfl,(cO h.y).2,λi hi=>?_⟩;have l:R[i]?=T (R.getD i dfR):=by rw[IS,gq hi];rfl
 generalize R.getD i dfR=r at l;refine⟨?_,?_⟩;{have:=(bk h.y (j:=i*2) (u:=U r.1.e) (by have:=cK aZ 2 (λ_=>rfl) R i 0 (by omega) _ l;simpa[aZ] using this)).1;rwa[show 0+i*2=i*2 by omega]};{have:=(bk h.y (j:=i*2+1) (u:=Y (T (Q r.2.1 0 Z)) r.1.h r.2.2) (by have:=cK aZ 2 (λ_=>rfl) R i 1 (by omega) _ l;simpa[aZ] using this)).1;rwa[show 0+i*2+1=i*2+1 by omega]}
def fm (R:List TR)(x:TR)(t:ByteArray):List TR:=lc (nm1 (bK (R.map λr:TR=>r.1))) (λj=>R.getD j dfR) x t R.length
theorem wI (R:List TR)(j:Nat):nm1 (bK (R.map λr:TR=>r.1)) j=(R.getD j dfR).1.e:=by exact CV Target.e (t8 (λr:TR=>r.1) R dfR j).symm
theorem ua (R:List TR)(x:TR)(t:ByteArray):(fm R x t).map (λr:TR=>r.1)=tX (R.map λr:TR=>r.1) x.1 t:=by unfold fm tX;rw[BR,MP];congr 1;funext j;exact t8 (λr:TR=>r.1) R dfR j
theorem Ci{b:Nat}{v:ZB}(h:TRow w b l R)(i:RowIns w x.2.1 0 x.1.h x.1.u/\(∃F,Cells w x.2.1 0 (x.1.h*3) F)/\TypeAt w x.2.1 146/\b<=x.2.1)
  (g:∀r∈R,r.2.1≠x.2.1) (f:w.ownsRow b 125 2 v (fm R x t).length ((fm R x t).flatMap aZ)):TRow w b v (fm R x t):=by
 obtain⟨ZS,B,h1,h2⟩:=x8 (nm1 (bK (R.map λr:TR=>r.1))) (λj=>R.getD j dfR) x t R.length;rw[x9] at h1;unfold fm at f ⊢;rw[h2] at f ⊢;subst h1;exact Cg h i g f
theorem Fa{b c:Nat}{x:Target}(h:w.ownsRow b 146 3 (Y (T (Q g 0 Z)) x.h c) x.h (bV x.u x.h)):RowIns w g 0 x.h x.u/\(∃F,Cells w g 0 (x.h*3) F)/\TypeAt w g 146/\b<=g:=by obtain⟨h1,h2⟩:=j8 h;exact⟨h1,h2,jf h,(cO h).1⟩
theorem lu{size n:Nat}{e:ZH}{v:ZB}{g:List ZB}(h:w.ownsRow f e size v n g∨∃b,v=Y (T (Q b 0 Z)) 0 0/\n=0/\g=[])(o:Obj):(w.alloc o).ownsRow f e size v n g∨∃b,v=Y (T (Q b 0 Z)) 0 0/\n=0/\g=[] :=
 h.imp (λh=>h.alloc o) id
theorem ub{i h wr:E}{b X ZJ bL lo m gb:Nat}{D v u0 u1:ZB}{f:Nat->Ins}(ZQ:∀u,Below X i u->TRow u (b+3) D R)(H:Below X i wr)(G:Below bL h wr)(ZR:h.ownsRow lo 146 3 (Y (T (Q gb 0 Z)) m g) m (bV f m))(B:wr.ownsRow bL 125 2 v (fm R (⟨t,m,f⟩,gb,g) t).length ((fm R (⟨t,m,f⟩,gb,g) t).flatMap aZ))(n:∀r∈R,r.2.1<X)(hb:bL=z (A h))(h1:X<lo)(h2:ZJ<b+3)(h3:b+3<=X)(h4:lo<=bL)(h5:lo<=gb):TRow (((wr.setCell (Q X 1 Z) v).setCell (Q ZJ 0 Z) u0).setCell (Q ZJ 1 Z) u1) b v (fm R (⟨t,m,f⟩,gb,g) t):=by have ZS:=ZQ _ (H.setCell (p:=(Q X 1 Z)) ly v);have s:=aE (own_below ZR G (by omega)) (R:=X) (j:=1) (by omega) v;have q:=aE B (R:=X) (j:=1) (by omega) v;have C:=(ZS.set (X:=ZJ) (j:=0) h2 u0).set (X:=ZJ) (j:=1) h2 u1;have o:=aE (aE s (R:=ZJ) (j:=0) (by omega) u0) (R:=ZJ) (j:=1) (by omega) u1;have l:=aE (aE q (R:=ZJ) (j:=0) (by omega) u0) (R:=ZJ) (j:=1) (by omega) u1;exact Ci (fZ C (by omega)) (Fa (x:=⟨t,m,f⟩) (aF o (by omega))) (λr y=>by have:=n r y;show r.2.1≠gb;omega) (aF l (by omega))
theorem uc (a0:Option Addr)(n0 c0:Nat)(f0:Nat->Source)(a1:Option Addr)(n1 c1:Nat)(f1:Nat->Target)(t:ByteArray)(ap:Option Addr)(m cp:Nat)(g:Nat->Ins)(w:E)(hn0:(n0:Int)<=1048576)(hn1:(n1:Int)<=1048576)(hm:m<=1048576)(Hn:SlSource w a0 n0 f0)(Hl:SlTarget w a1 n1 f1)(Ia:SlIns w ap m g)(DE:∀i,i<n1->aX (f1 i))(hs:∀i,i<n1->∀j,j<(f1 i).h->((f1 i).u j).s.size<=maxLen)(Hx:∀i,i<m->(g i).s.size<=maxLen):Calls Tryz.prog 21 #[ZG #[Y a0 n0 c0,Y a1 n1 c1],U t,ZG #[Y ap m cp]] w λe ZN=>∃v0 v1 R,e=.returned (.tuple #[ZG #[v0,v1],J I (kZ n0 f0 n1 f1 t (valid g m))])/\ZN.ownsRow (z (A w)) 121 2 v0 (iJ n0 f0 n1 f1 t m g).length ((iJ n0 f0 n1 f1 t m g).flatMap bC)/\TRow ZN (z (A w)) v1 R/\R.map (·.1)=lp n0 f0 n1 f1 t m g/\Below (z (A w)) w ZN:=by
 have V0:=ae Hn;have V1:=ae Hl;have VP:=ae Ia;have HF:=ae DE;have HS:=ae hs;have Hq:=ae Hx;clear Hn Hl Ia DE hs Hx;obtain⟨ex,fd,mv,la,n6⟩:=KZ fA;obtain⟨C,hC⟩:∃C,C=bq n0 f0 n1 f1:=⟨_,rfl⟩
 obtain⟨rt,DS⟩:∃rt,rt=valid g m:=⟨_,rfl⟩
 obtain⟨D,hD⟩:∃D,D=kZ n0 f0 n1 f1 t (valid g m):=⟨_,rfl⟩
 obtain⟨H,Ha⟩:∃H,H=iJ n0 f0 n1 f1 t m g:=⟨_,rfl⟩
 obtain⟨LT,Hd⟩:∃LT,LT=lp n0 f0 n1 f1 t m g:=⟨_,rfl⟩
 rw[<-hD,<-Ha,<-Hd];have HC:=ae hC;have HR:=ae DS;have HD:=ae (hD.trans (by unfold kZ;rw[<-hC,<-DS]));have ld:=ae (Ha.trans (by unfold iJ;rw[<-hD]));have B:=ae (Hd.trans (by unfold lp;rw[<-hD]));clear hC hD Ha Hd DS;obtain⟨W,Fd⟩:∃W:E,((w.alloc (N #[Y a0 n0 c0,Y a1 n1 c1] 29)).alloc (N #[Y ap m cp] 43)).alloc (N #[Y Z 0 0,Y Z 0 0] 29)=W:=⟨_,rfl⟩
 obtain⟨A0,-,-,-,-⟩:=nb3 Fd;have Hk:=ae Fd;clear Fd;have X0:=ae (Cf w (Y a0 n0 c0) (Y a1 n1 c1) (Y ap m cp) 29 43);go_enter Tryz.func21,Tryz.ntmps21;go_wp2_with fail;rw[Hk.out] at X0 ⊢;clear Hk;refine(eo a0 n0 c0 f0 a1 n1 c1 f1 _ hn0 hn1 (V0.aa A0 ly) (V1.aa A0 ly) HF HS).mono ?_;rintro e w1 ⟨rfl,ZS⟩;rw[<-HC.out];have X1:=ae (X0.aa ZS X0.lt);have B1:=ae (A0.trans (ZS.mono A0.size));clear ZS A0 X0;by_cases hc:C=0;case neg =>
  have hd:=HD.out;rw[j6 hc] at hd;have x:=ld.out;rw[eT (by omega)] at x;have n:=B.out;rw[eT (by omega)] at n;subst hd x n;have hc':(C == 0)=ZA:=by simpa using hc
  obtain⟨r0,q0⟩:=X1.r0;obtain⟨r1,q1⟩:=X1.r1;go_wp2;exact bp (v:=.tuple #[ZG #[Y Z 0 0,Y Z 0 0],J I 1]) (by simp[results,QG,go_sem,r0,r1]) rfl ⟨_,_,[],rfl,CL _ _ _ _,da _ _,rfl,(B1.setCell (by simp;omega) _).setCell (by simp;omega) _⟩
 subst hc;have hz:=kW HC.symm;have HZ:=ae hz;clear hz HC;have Fm:=HD.out;rw[eT (by omega)] at Fm;have Fk:=ae Fm;clear Fm HD;go_wp2_with fail;refine(cV t _).mono ?_;rintro e w2 ⟨rfl,ZS⟩;have X2:=ae (X1.aa ZS X1.lt);have B2:=ae (B1.trans (ZS.mono B1.size));clear ZS X1 B1;cases hn:aB t with
 |false =>have hd:=Fk.out;rw[j6 (.inl hn)] at hd;have x:=ld.out;rw[eT (by omega)] at x;have n:=B.out;rw[eT (by omega)] at n;subst hd x n;obtain⟨r0,q0⟩:=X2.r0;obtain⟨r1,q1⟩:=X2.r1;go_wp2;exact bp (v:=.tuple #[ZG #[Y Z 0 0,Y Z 0 0],J I 2]) (by simp[results,QG,go_sem,r0,r1]) rfl ⟨_,_,[],rfl,CL _ _ _ _,da _ _,rfl,(B2.setCell (by simp;omega) _).setCell (by simp;omega) _⟩
 |true =>
 have k2:=X2.b0;go_wp2_with fail;refine(i8 ap m cp g _ hm (VP.aa B2 ly) Hq).mono ?_;rintro e Ii ⟨rfl,ZS⟩;rw[<-HR.out];have G:=ae (X2.aa ZS X2.lt);have ZK:=ae (B2.trans (ZS.mono B2.size));clear ZS X2 B2 k2;have S:=Fk.out;rw[hn] at S;clear Fk;cases rt with
 |false =>rw[j6 (.inr rfl)] at S;have x:=ld.out;rw[eT (by omega)] at x;have n:=B.out;rw[eT (by omega)] at n;subst S x n;obtain⟨r0,q0⟩:=G.r0;obtain⟨r1,q1⟩:=G.r1;go_wp2;exact bp (v:=.tuple #[ZG #[Y Z 0 0,Y Z 0 0],J I 2]) (by simp[results,QG,go_sem,r0,r1]) rfl ⟨_,_,[],rfl,CL _ _ _ _,da _ _,rfl,(ZK.setCell (by simp;omega) _).setCell (by simp;omega) _⟩
 |true =>
 rw[eT (by simp)] at S;have Hw:=ae S;clear S hn;have hm1:1<=m:=by have h:=HR.out;unfold valid at h;have h2:=(Bool.and_eq_true_iff.1 h.symm).2;have:=(MJ h2).1;omega
 obtain⟨pb,po,rfl,Hp⟩:=VP.resolve_left (by omega);have Hy:=ae Hp;clear VP Hp HR;have k0:=G.a0;have k1:=G.a1;go_wp2_with fail;refine(fh a0 n0 c0 f0 a1 n1 c1 f1 t _ hn0 hn1 (V0.aa ZK ly) (V1.aa ZK ly) HF).mono ?_;rintro e ZR ⟨v0,v1,R,rfl,hO,hR,hM,ZS⟩;have Ic:=G.lt;have X3:=ae (G.aa ZS G.lt);have B3:=ae (ZK.trans (ZS.mono ZK.size));obtain⟨O,P,rfl⟩:=aQ hO;obtain⟨ta,tc,rfl⟩:=aQ hR.y;have eR:R.length=(keepT f1 t n1).length:=by rw[<-hM];simp
 have Ie:=ip f0 t n0;have Ik:=jA f1 t n1;obtain⟨L,hL⟩:∃L,L=keepS f0 t n0:=⟨_,rfl⟩
 obtain⟨K,hK⟩:∃K,K=keepT f1 t n1:=⟨_,rfl⟩
 rw[<-hL] at hO Ie ⊢;rw[<-hK] at hM Ik eR;have ZM:=Hw.out;rw[<-hL,<-hK] at ZM;have x:=ld.out;rw[<-hL] at x;have n:=B.out;rw[<-hK] at n;have ER:=ae eR;have hlr:R.length<=n1:=by omega
 clear Hw ld B hL hK ZS k0 k1 G ZK eR;have hbw:z (A w)+3<=z (A Ii):=Ic;have O3:=ae (aF hO (base':=z (A w)+3) (by omega));have R3:=ae (fZ hR (base':=z (A w)+3) (by omega));have HM:=ae hM;have hll:(L.length:Int)<=1048576:=by omega
 clear hO hR hM;have DB:=ae ((BS ZR).alloc ly (N #[Y O L.length P,Y ta R.length tc] 29));have K8:=ae (tU ZR (Y O L.length P) (Y ta R.length tc) 29);have X4:=ae (X3.aa DB X3.lt);have B4:=ae (B3.trans (DB.mono B3.size));have O4:=ae (own_below O3 DB ly);have R4:=ae (R3.aa DB ly);have ur:=ae DB.out;have Ib:z (A w)+2<z (A ZR):=X3.lt;have c8:=K8.c0;have V:=K8.c1;clear DB;by_cases hc3:(200:Int)<=L.length+R.length;{rw[j6 (by have:=ER.out;omega)] at ZM;rw[eT (by omega)] at x n;subst ZM x n;obtain⟨r0,q0⟩:=X3.r0;obtain⟨r1,q1⟩:=X3.r1;clear c8 V;go_wp2;exact bp (v:=.tuple #[ZG #[Y Z 0 0,Y Z 0 0],J I 3]) (by simp[results,QG,go_sem,r0,r1,Ib]) rfl ⟨_,_,[],rfl,CL _ _ _ _,da _ _,rfl,((B3.setCell (by simp;omega) _).setCell (by simp;omega) _).alloc (by have:=B3.size;simp;omega) _⟩};clear X3;rw[eT (by have:=ER.out;omega)] at ZM;rw[j6 ZM] at x n;subst ZM x;have B:=ae n;clear n;have k2:=X4.b0;have Hr:(ZR.alloc (N #[Y O H.length P,Y ta R.length tc] 29)).heap.size=z (A ZR)+1:=by simp
 have RX:Hid (∀ZN,Below (z (A ZR)) ZR ZN->TRow ZN (z (A w)+3) (Y ta R.length tc) R):=λZN hb=>R3.aa hb ly;have OX:Hid (∀ZN,Below (z (A ZR)) ZR ZN->ZN.ownsRow (z (A w)+3) 121 2 (Y O H.length P) H.length (H.flatMap bC)):=λZN hb=>own_below O3 hb ly;have Bk:Hid (∀r∈R,r.2.1<z (A ZR)):=λr hr=>(R3.u r hr).1.1;have E5:=ae ((cM (ZR.alloc (N #[Y O H.length P,Y ta R.length tc] 29)).heap.size (ZR.alloc (N #[Y O H.length P,Y ta R.length tc] 29))).alloc ly (N #[] 125));have Hf:((ZR.alloc (N #[Y O H.length P,Y ta R.length tc] 29)).alloc (N #[] 125)).heap.size=(ZR.alloc (N #[Y O H.length P,Y ta R.length tc] 29)).heap.size+1:=by simp
 have k3:=(E5.cell (p:=(Q (z (A w)+1) 0 Z)) (by show (z (A w))+1<_;have:=X4.lt;omega)).trans k2;have n8:=ae (Hy.aa B4 ly);have ro:=ae Hr;have th:=ae Hf;clear R3 O3 k2 Hr Hf;go_wp2_with fail;generalize World.alloc (World.alloc ZR _) _=GS at E5 th k3 ⊢;generalize World.alloc ZR _=w4 at K8 X4 B4 O4 R4 c8 V ro th ur E5 n8;generalize (z (A ZR))=X at K8 c8 V Ib ro RX OX Bk ur ⊢;refine(iz pb po m cp g _ (by omega) (n8.aa E5 ly)).mono ?_;rintro e w5 ⟨gb,q,rfl,G8,Hh⟩;have hzx:z (A w4)=X+1:=ro.out;have hzy:z (A GS)=z (A w4)+1:=th.out;have F5:=ae (E5.trans (Hh.mono (by omega)));have OG:=ae G8;have Hg:=(cO G8).1;clear G8 Hh E5 ro th k3 n8;obtain⟨w6,n9⟩:∃W:E,w5.alloc (N #[U t,Y (T (Q gb 0 Z)) m q] 125)=W:=⟨_,rfl⟩
 obtain⟨-,-,Hv⟩:=nb1 n9;have aq:=ae n9;clear n9;have F6:=ae (F5.alloc F5.size (N #[U t,Y (T (Q gb 0 Z)) m q] 125));have y0:w6.cell? (Q (z (A w5)) 0 Z)=T (U t):=by cases aq.out;simp
 have y1:w6.cell? (Q (z (A w5)) 1 Z)=T (Y (T (Q gb 0 Z)) m q):=by cases aq.out;simp
 have qr:=ae (OG.alloc (N #[U t,Y (T (Q gb 0 Z)) m q] 125));have H7:=F6.size;have At:=ae H7;clear H7 OG F5;go_wp2;rw[aq.out] at F6 qr At ⊢;clear aq;have hgw:gb<z (A w6):=(cO qr).2;generalize (z (A w5))=ZI at Hv y0 y1 ⊢;obtain⟨y,H9⟩:∃y,y=z (A w6):=⟨_,rfl⟩
 have o:=ae H9;have M:X<y:=by have:=At.out;omega
 have Hu:ZI<y:=by omega
 have Hz:=(F6.cell (p:=(Q X 0 Z)) (by show X<_;omega)).trans c8;have H6:=(F6.cell (p:=(Q X 1 Z)) (by show X<_;omega)).trans V;have Hi:=(F6.frozen (p:=(Q X 1 Z)) (by show X<_;omega)).trans K8.z1;have X6:=ae (X4.aa F6 (by have:=X4.lt;omega));have R6:=ae (R4.aa F6 ly);have Hj:=ae (ur.trans (F6.mono (by omega)));have He:z (A w)<=X:=by omega
 have hb1:X+2<y+0:=by have:=At.out;omega
 clear c8 V K8 R4 O4 X4 B4 Hv H9 ur F6 V0 V1 HF HS Hq Hy HZ At;have c8:=Hz;have V:=H6;clear Hz H6;obtain⟨ZP,hI⟩:∃ZP,ZP=eI (nm1 (bK (R.map λr:TR=>r.1))) (λj=>R.getD j dfR) ((⟨t,m,g⟩,gb,q):TR) t:=⟨_,rfl⟩
 obtain⟨ZO,ZL⟩:∃ZO,ZO=ft (nm1 (bK (R.map λr:TR=>r.1))) t:=⟨_,rfl⟩
 have Id:Hid (∀k,ZP (k+1)=if ZO k=ZA/\aJ t (R.getD k dfR).1.e=ZD then ZP k++[(⟨t,m,g⟩,gb,q)]++[R.getD k dfR] else ZP k++[R.getD k dfR]):=λk=>by rw[hI,ZL,<-wI R k];rfl
 have Ij:Hid (∀k,ZO (k+1)=(ZO k || aJ t (R.getD k dfR).1.e)):=λk=>by rw[ZL,<-wI R k];rfl
 have Ih:Hid (∀k,(ZP k).length<=k+1):=λk=>by rw[hI];exact(tV _ _ _ _ k).1
 have Hm:Hid (∀k,ZO k=ZD->(ZP k).length≠0):=λk h=>by rw[hI];rw[ZL] at h;exact E9 h
 have Ho:Hid (fm R (⟨t,m,g⟩,gb,q) t=if ZO R.length=ZD then ZP R.length else ZP R.length++[(⟨t,m,g⟩,gb,q)]):=by rw[hI,ZL];rfl
 have DQ:Hid (ZP 0=[]/\ZO 0=ZA):=by rw[hI,ZL];exact⟨rfl,rfl⟩
 clear hI ZL;go_loopw [9,10,12] (λv d i wr=>∃(k:Nat) (db:Bool),k<=R.length/\i=J I k/\d=.bool db/\Hid (db=ZO k)/\Hid (wr.ownsRow y 125 2 v (ZP k).length ((ZP k).flatMap aZ)∨∃b,v=Y (T (Q b 0 Z)) 0 0/\(ZP k).length=0/\(ZP k).flatMap aZ=[])/\Hid (Below y w6 wr)) (λ_ _ i _=>R.length - (intOf i).toNat);case atStart=>exact⟨0,ZA,by omega,rfl,rfl,DQ.2.symm,.inr ⟨_,rfl,by rw[DQ.1];rfl,by rw[DQ.1];rfl⟩,by rw[o.out];exact cM _ _⟩
 case round =>
  obtain⟨k,db,hk,rfl,rfl,ZQ,OW,u⟩:=hrel;have e9:=(u.cell (p:=(Q X 1 Z)) M).trans V;have z0:=(u.cell (p:=(Q ZI 0 Z)) Hu).trans y0;have z1:=(u.cell (p:=(Q ZI 1 Z)) Hu).trans y1;have hlen1:=Ih.out k;by_cases n:k<R.length
  ·obtain⟨b,off,rfl,hbl,Ht⟩:=ya R6 (by omega);obtain⟨p0,p1⟩:=Ht k n;have Hb:=Id.out k;have Hc:=Ij.out k;generalize R.getD k dfR=rk at p0 p1 Hb Hc;have n7:=ae Hb;have ph:=ae Hc;clear Hb Hc;have sm:b<y:=by have:=o.out;omega
   have d0:=(u.cell (p:=(Q b (off+k*2) Z)) sm).trans p0;have d1:=(u.cell (p:=(Q b (off+k*2+1) Z)) sm).trans p1;clear Ht;cases db with
   |true =>
    have HI:Hid (ZP (k+1)=ZP k++[rk]):=by show _=_;rw[n7.out,eT (by rw[<-ZQ.out];simp)]
    have HN:Hid (ZD=ZO (k+1)):=by show ZD=_;rw[ph.out,<-ZQ.out];rfl
    go_wp2_with (at_builtin;(refine eA rfl (.tmp 66) (.tmp 72) 27 rfl y 125 ex (ZG #[U ⟨#[]⟩,Y Z 0 0]) 2 40 LU fd mv la n6 rfl (by decide) _ (ZP k).length ((ZP k).flatMap aZ) (by simp[Act.eval]) (lu OW _) (Q (z (A wr)) 0 Z) 1 (aZ rk) (by simp[Act.eval]) rfl (cT wr _ _ _) (by simp[aZ,Value.oneCell']) (by unfold maxLen;omega) (by omega) (by have:=u.size;have:=o.out;simp;omega) ?_;intro vy wy f l;have OY:=ae f;have BY:=ae ((u.alloc (by have:=u.size;have:=o.out;omega) _).trans l);clear f l));exact⟨⟨k+1,ZD,by omega,by go_num,rfl,HN,.inl (by rw[HI.out,eL,KE];simpa using OY.out),BY.out⟩,by simp[intOf];omega⟩
   |false =>
    cases hq:aJ t rk.1.e with
    |true =>
     have HI:Hid (ZP (k+1)=ZP k++[(⟨t,m,g⟩,gb,q)]++[rk]):=by show _=_;rw[n7.out,j6 ⟨ZQ.symm,hq⟩]
     have HN:Hid (ZD=ZO (k+1)):=by show ZD=_;rw[ph.out,hq];simp
     obtain⟨q1,q2⟩:=rB hq;clear hq;go_wp2_with (at_builtin;first|(refine eA rfl (.tmp 62) (.tmp 64) 27 rfl y 125 ex (ZG #[U ⟨#[]⟩,Y Z 0 0]) 2 40 LU fd mv la n6 rfl (by decide) _ (ZP k).length ((ZP k).flatMap aZ) (by simp[Act.eval]) (lu OW _) (Q (z (A wr)) 0 Z) 1 (aZ (⟨t,m,g⟩,gb,q)) (by simp[Act.eval]) rfl (cT wr _ _ _) (by simp[aZ,Value.oneCell']) (by unfold maxLen;omega) (by omega) (by have:=u.size;have:=o.out;simp;omega) ?_;intro vx wx f l;have Ig:=ae f;have BX:=ae ((u.alloc (by have:=u.size;have:=o.out;omega) _).trans l);have f9:=(BX.cell (p:=(Q X 1 Z)) M).trans V;have g0:=(BX.cell (p:=(Q b (off+k*2) Z)) sm).trans p0;have g1:=(BX.cell (p:=(Q b (off+k*2+1) Z)) sm).trans p1;clear f l)|(refine eA rfl (.tmp 66) (.tmp 72) 27 rfl y 125 ex (ZG #[U ⟨#[]⟩,Y Z 0 0]) 2 40 LU fd mv la n6 rfl (by decide) _ ((ZP k).length+1) ((ZP k).flatMap aZ++aZ (⟨t,m,g⟩,gb,q)) (by simp[Act.eval]) (.inl (Ig.alloc _)) (Q (z (A wx)) 0 Z) 1 (aZ rk) (by simp[Act.eval]) rfl (cT wx _ _ _) (by simp[aZ,Value.oneCell']) (by unfold maxLen;omega) (by omega) (by have:=BX.size;have:=o.out;simp;omega) ?_;intro vy wy f l;have OY:=ae f;have BY:=ae ((BX.alloc (by have:=BX.size;have:=o.out;omega) _).trans l);clear f l));exact⟨⟨k+1,ZD,by omega,by go_num,rfl,HN,.inl (by rw[HI.out,eL,eL,KE,KE];simpa using OY.out),BY.out⟩,by simp[intOf];omega⟩
    |false =>
     have HI:Hid (ZP (k+1)=ZP k++[rk]):=by show _=_;rw[n7.out,eT (by rw[hq];simp)]
     have HN:Hid (ZA=ZO (k+1)):=by show ZA=_;rw[ph.out,<-ZQ.out,hq];rfl
     have HQ:=ae (tT hq);clear hq;rcases HQ.out with q1|⟨q1,q2⟩
     all_goals
      go_wp2_with (at_builtin;(refine eA rfl (.tmp 66) (.tmp 72) 27 rfl y 125 ex (ZG #[U ⟨#[]⟩,Y Z 0 0]) 2 40 LU fd mv la n6 rfl (by decide) _ (ZP k).length ((ZP k).flatMap aZ) (by simp[Act.eval]) (lu OW _) (Q (z (A wr)) 0 Z) 1 (aZ rk) (by simp[Act.eval]) rfl (cT wr _ _ _) (by simp[aZ,Value.oneCell']) (by unfold maxLen;omega) (by omega) (by have:=u.size;have:=o.out;simp;omega) ?_;intro vy wy f l;have OY:=ae f;have BY:=ae ((u.alloc (by have:=u.size;have:=o.out;omega) _).trans l);clear f l));exact⟨⟨k+1,ZA,by omega,by go_num,rfl,HN,.inl (by rw[HI.out,eL,KE];simpa using OY.out),BY.out⟩,by simp[intOf];omega⟩
  ·have e:R.length=k:=by omega
   subst e;cases db with
   |true =>
    have bt:fm R (⟨t,m,g⟩,gb,q) t=ZP R.length:=by rw[Ho.out,j6 ZQ.symm]
    have ow:=OW.resolve_right (by rintro⟨b,_,h0,_⟩;exact Hm _ ZQ.symm h0);obtain⟨va,vc,rfl⟩:=d9 ow (by have:=Hm.out _ ZQ.symm;omega);have OF:Hid (wr.ownsRow y 125 2 (Y (T (Q va 0 Z)) (ZP R.length).length vc) (fm R (⟨t,m,g⟩,gb,q) t).length ((fm R (⟨t,m,g⟩,gb,q) t).flatMap aZ)):=by show World.ownsRow _ _ _ _ _ _ _;rw[bt];exact ow
    have e8:=(u.cell (p:=(Q X 0 Z)) M).trans c8;have y9:=(u.frozen (p:=(Q X 1 Z)) M).trans Hi;obtain⟨r0,q0⟩:=(X6.aa u (by omega)).r0;obtain⟨r1,q1⟩:=(X6.aa u (by omega)).r1;have H3:=ae bt;clear bt ow OW;go_wp2;refine ?_;have GB:=ae (Hj.trans (u.mono (by omega)));refine bp (v:=.tuple #[ZG #[Y O H.length P,Y (T (Q va 0 Z)) (ZP R.length).length vc],J I 0]) (by simp[results,QG,go_sem,r0,r1]) rfl ⟨_,_,fm R (⟨t,m,g⟩,gb,q) t,rfl,aF (aE (aE (OX _ ((GB).setCell (p:=(Q X 1 Z)) ly _)) (R:=z (A w)+2) (j:=0) (by omega) _) (R:=z (A w)+2) (j:=1) (by omega) _) (by omega),?_,(ua R (⟨t,m,g⟩,gb,q) t).trans (by rw[HM.out];exact B.symm),(((B3.trans ((GB).mono He)).setCell (by simp;omega) _).setCell (by simp;omega) _).setCell (by simp;omega) _⟩;exact ub (X:=X) (ZJ:=z (A w)+2) (bL:=y) (lo:=z (A GS)) RX GB u qr OF Bk o (by omega) (by omega) (by omega) (by omega) Hg
   |false =>
    go_wp2_with (at_builtin;(refine eA rfl (.tmp 76) (.tmp 78) 27 rfl y 125 ex (ZG #[U ⟨#[]⟩,Y Z 0 0]) 2 40 LU fd mv la n6 rfl (by decide) _ (ZP R.length).length ((ZP R.length).flatMap aZ) (by simp[Act.eval]) (lu OW _) (Q (z (A wr)) 0 Z) 1 (aZ (⟨t,m,g⟩,gb,q)) (by simp[Act.eval]) rfl (cT wr _ _ _) (by simp[aZ,Value.oneCell']) (by unfold maxLen;omega) (by omega) (by have:=u.size;have:=o.out;simp;omega) ?_;intro vz wz f l;obtain⟨gs,cs,rfl⟩:=d9 f (Nat.succ_pos _);have OZ:=ae f;have BZ:=ae ((u.alloc (by have:=u.size;have:=o.out;omega) _).trans l);have f8:=(BZ.cell (p:=(Q X 0 Z)) M).trans c8;have f9:=(BZ.cell (p:=(Q X 1 Z)) M).trans V;have y9:=(BZ.frozen (p:=(Q X 1 Z)) M).trans Hi;obtain⟨r0,q0⟩:=(X6.aa BZ (by have:=o.out;omega)).r0;obtain⟨r1,q1⟩:=(X6.aa BZ (by have:=o.out;omega)).r1;clear f l));have bt:fm R (⟨t,m,g⟩,gb,q) t=ZP R.length++[(⟨t,m,g⟩,gb,q)]:=by rw[Ho.out,eT (by rw[<-ZQ.out];simp)]
    have OF:Hid (wz.ownsRow y 125 2 (Y (T (Q gs 0 Z)) ((ZP R.length).length+1) cs) (fm R (⟨t,m,g⟩,gb,q) t).length ((fm R (⟨t,m,g⟩,gb,q) t).flatMap aZ)):=by show World.ownsRow _ _ _ _ _ _ _;rw[bt,eL,KE];simpa using OZ.out
    have GB:=ae (Hj.trans (BZ.mono (by omega)));refine bp (v:=.tuple #[ZG #[Y O H.length P,Y (T (Q gs 0 Z)) ((ZP R.length).length+1) cs],J I 0]) (by simp[results,QG,go_sem,r0,r1]) rfl ⟨_,_,fm R (⟨t,m,g⟩,gb,q) t,rfl,aF (aE (aE (OX _ ((GB).setCell (p:=(Q X 1 Z)) ly _)) (R:=z (A w)+2) (j:=0) (by omega) _) (R:=z (A w)+2) (j:=1) (by omega) _) (by omega),?_,(ua R (⟨t,m,g⟩,gb,q) t).trans (by rw[HM.out];exact B.symm),(((B3.trans ((GB).mono He)).setCell (by simp;omega) _).setCell (by simp;omega) _).setCell (by simp;omega) _⟩;exact ub (X:=X) (ZJ:=z (A w)+2) (bL:=y) (lo:=z (A GS)) RX GB BZ qr OF Bk o (by omega) (by omega) (by omega) (by omega) Hg
