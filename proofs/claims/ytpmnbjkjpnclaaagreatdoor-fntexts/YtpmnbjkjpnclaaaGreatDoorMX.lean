import Derived.Test.YtpmnbjkjpnclaaaGreatDoorMW
import Derived.Test.YtpmnbjkjpnclaaaGreatDoorMC
open Go renaming Addr.mk->N,Value.slice->Y,Value.string->U,Value.int->Q,Obj.cells->J,IntKind.i64->I,World->M,Value->ZB,TypeId->ZH,World.heap->A
open Option renaming none->Z,some->T
open Bool renaming false->ZA
open Array renaming size->z
namespace Go.Proofs.YtpmnbjkjpnclaaaGreatDoor.Vp
open RowKit Ca
variable {w g m w' W:M}{b n i size f base' cap:Nat}{e:ZH}{l:List ZB}
def dv (x:Link):List ZB:=[U x.e,.bool x.ask,.bool x.has,Q I x.G]
def bQ (f:Nat->Link)(n:Nat):List ZB:=((List.range n).map f).flatMap dv
theorem gK (f:Nat->Link)(n:Nat):(bQ f n).length=n*4:=by rw[bQ,ek dv 4 (λ_=>rfl)];simp
theorem iL (f:Nat->Link)(hi:i<n)(j:Nat)(b:j<4):(bQ f n)[i*4+j]?=(dv (f i))[j]? :=
 cF dv 4 (λ_=>rfl) _ i j b (f i) (by simp[hi])
theorem xS (f:Nat->Link)(n:Nat):∀u∈bQ f n,u.oneCell'=true:=by intro u b;simp only[bQ,LN,dv] at b;obtain⟨x,_,g⟩:=b;simp at g;rcases g with rfl|rfl|rfl|rfl<;>simp[Value.oneCell']
theorem zJ{off:Nat}{f:Nat->Link}(h:RowLink w b off n f):∀j u,(bQ f n)[j]?=T u->w.cell? (((N b off Z):Addr).add j)=T u:=by
 intro j u g;have hl:j<n*4:=by have:=(p9.1 g).1;rwa[gK] at this
 have e:j=j / 4*4+j % 4:=by omega
 have hi:j / 4<n:=by omega
 obtain⟨i,h1,h2,m⟩:=h.2 (j / 4) hi;have o:j % 4<4:=N9 _ (by omega);rw[e,iL f hi (j % 4) o] at g;have l:((N b off Z):Addr).add j=(N b (off+j) Z):=addr_add _ _ _;rw[l];rcases(show j % 4=0∨j % 4=1∨j % 4=2∨j % 4=3 by omega) with q|q|q|q;all_goals rw[q] at g;simp[dv] at g;subst g
 {rw[show off+j=off+j / 4*4 by omega];exact i};{rw[show off+j=off+j / 4*4+1 by omega];exact h1};{rw[show off+j=off+j / 4*4+2 by omega];exact h2};{rw[show off+j=off+j / 4*4+3 by omega];exact m}
theorem cy{v:ZB}(h:w.ownsRow b e size v n l)(hb:∀k,v.ownBlock=T k->OfTy w k e->m.heap[k]?=w.heap[k]?):m.ownsRow b e size v n l:=by
 refine⟨h.1,?_⟩;rcases h.2 with hn|⟨g,cap,f,rfl,j,i,rest⟩
 {exact .inl hn};{exact .inr ⟨g,cap,f,rfl,j,(hb g rfl ⟨f,_,i⟩).trans i,rest⟩}
theorem eN{v:ZB}(h:w.ownsRow f e size v n l):∀k,v.ownBlock=T k->OfTy w k e:=by
 intro k b;rcases h.2 with ⟨rfl,_⟩|⟨g,cap,i,rfl,_,j,_⟩
 {simp[Value.ownBlock] at b};{simp[Value.ownBlock] at b;subst b;exact⟨i,_,j⟩}
theorem cU{v:ZB}{f:List ZB}(h:w.ownsRow b e size v n f)(hn:0<n):∃g cap,v=Y (T (N g 0 Z)) n cap:=by
 rcases h.2 with ⟨_,h2⟩|⟨g,c,cur,h1,_⟩
 {omega};{exact⟨g,c,h1⟩}
theorem eS{v:ZB}{f:List ZB}(h:w.ownsRow b e size v n f):∃a cap,v=Y a n cap:=by
 rcases h.2 with ⟨h1,h2⟩|⟨g,c,cur,h1,_⟩
 {exact⟨Z,0,by rw[h1,h2]⟩};{exact⟨_,_,h1⟩}
abbrev DR:=aj × ZB × ZB
def ddV (r:DR):List ZB:=[U r.1.e,Q I r.1.H,Q I r.1.E,U r.1.y,r.2.1,r.2.2]
structure DSub (w:M)(base:Nat)(r:DR):Prop where
 D:w.ownsRow base 151 3 r.2.1 r.1.m (bX r.1.D r.1.m)
 av:w.ownsRow base 91 4 r.2.2 r.1.l (bQ r.1.u r.1.l)
def Apt (a b:ZB):Prop:=a.ownBlock=Z∨a.ownBlock≠b.ownBlock
structure DRow (w:M)(base:Nat)(v:ZB)(R:List DR):Prop where
 x:w.ownsRow base 46 6 v R.length (R.flatMap ddV)
 sub:∀r∈R,DSub w base r
 up:R.Pairwise λa b=>Apt a.2.1 b.2.1/\Apt a.2.2 b.2.2
theorem DSub.ad{r:DR}(h:DSub w b r)(hb:∀k,OfTy w k 151∨OfTy w k 91->b<=k->w'.heap[k]?=w.heap[k]?):DSub w' b r :=
 ⟨cy h.D λk f g=>hb k (.inl g) (h.D.lt k f).1,cy h.av λk f g=>hb k (.inr g) (h.av.lt k f).1⟩
theorem DSub.aa{f:M}{B:Nat}{r:DR}(h:DSub w b r)(hb:Below B w f)(g:z (A w)<=B):DSub f b r:=⟨own_below h.D hb g,own_below h.av hb g⟩
theorem DSub.mono{r:DR}(h:DSub w b r)(hb:base'<=b):DSub w base' r:=⟨aC h.D hb,aC h.av hb⟩
theorem DRow.ad{v:ZB}{R:List DR}(h:DRow w b v R)(hb:∀k,OfTy w k 151∨OfTy w k 91∨OfTy w k 46->b<=k->w'.heap[k]?=w.heap[k]?):DRow w' b v R :=
 ⟨cy h.x λk f i=>hb k (.inr (.inr i)) (h.x.lt k f).1,λr g=>(h.sub r g).ad λk f=>hb k (f.imp id .inl),h.up⟩
theorem DRow.aa{B:Nat}{v:ZB}{R:List DR}(h:DRow w b v R)(hb:Below B w g)(f:z (A w)<=B):DRow g b v R :=
 ⟨own_below h.x hb f,λr i=>(h.sub r i).aa hb f,h.up⟩
theorem DRow.mono{v:ZB}{R:List DR}(h:DRow w b v R)(hb:base'<=b):DRow w base' v R:=⟨aC h.x hb,λr f=>(h.sub r f).mono hb,h.up⟩
theorem DRow.set{v:ZB}{R:List DR}(h:DRow w f v R){p:Addr}(i:p.block<f∨(OfTy w p.block e/\e≠151/\e≠91/\e≠46))(u:ZB):DRow (w.setCell p u) f v R :=
 h.ad λk b hb=>qh _ _ _ _ (λx=>by
  subst x;rcases i with i|⟨g,h1,h2,j⟩
  ·omega
  ·rcases b with b|b|b
   ·exact g.ne (Ne.symm h1) b
   ·exact g.ne (Ne.symm h2) b
   ·exact g.ne (Ne.symm j) b)
theorem jP (w:M)(b:Nat):DRow w b (Y Z 0 0) []:=⟨ES _ _ _ _,λr f=>absurd f (by simp),List.Pairwise.nil⟩
theorem DRow.more{v t:ZB}{R:List DR}{r:DR}(h:DRow w i v R)(h1:DRow g i v R)(l:i<=z (A w))(p:DSub g (z (A w)) r)
  (o:m.ownsRow i 46 6 t (R.length+1) (R.flatMap ddV++ddV r)) (ZS:g.grownBy m v.ownBlock):DRow m i t (R++[r]):=by
 have y:∀k,OfTy g k 151∨OfTy g k 91->T k≠v.ownBlock:=λk f e=>by
  have q:=eN h1.x k e.symm;rcases f with f|f;{exact q.ne (by decide) f};{exact q.ne (by decide) f}
 have s:∀k,OfTy g k 151∨OfTy g k 91->k<z (A g):=λk f=>by rcases f with ⟨c,ZR,f⟩|⟨c,ZR,f⟩<;>exact(E7.1 f).1
 have keep:∀k,OfTy g k 151∨OfTy g k 91->m.heap[k]?=g.heap[k]?:=λk f=>ZS.block k (s k f) (y k f);refine⟨by simpa using o,λx j=>?_,?_⟩;{rcases BC.1 j with j|j;{exact(h1.sub x j).ad λk f _=>keep k f};{simp at j;subst j;exact(p.ad λk f _=>keep k f).mono l}}
 ·rw[KT];refine⟨h.up,by simp,λa B b n=>?_⟩;simp at n;subst n;have u:=h.sub a B;refine⟨?_,?_⟩
  ·cases f:a.2.1.ownBlock with
   |none=>exact .inl f
   |some k =>refine .inr λe=>?_;have h1:=(u.D.lt k f).2;have h2:=(p.D.lt k (e ▸ f)).1;omega
  ·cases f:a.2.2.ownBlock with
   |none=>exact .inl f
   |some k =>refine .inr λe=>?_;have h1:=(u.av.lt k f).2;have h2:=(p.av.lt k (e ▸ f)).1;omega
theorem zK{g:Nat}{f:Nat->Link}(h:w.ownsRow b 91 4 (Y (T (N g 0 Z)) n cap) n (bQ f n)):RowLink w g 0 n f:=by
 refine⟨(cO h).2,λi hi=>?_⟩;have c:∀j,j<4->∀u,(dv (f i))[j]?=T u->w.cell? (N g (0+i*4+j) Z)=T u:=λj m u l=>by have:=(aV h (j:=i*4+j) (u:=u) (by rw[iL f hi j m];exact l)).1;rwa[show 0+i*4+j=i*4+j by omega]
 exact⟨c 0 (by omega) _ rfl,c 1 (by omega) _ rfl,c 2 (by omega) _ rfl,c 3 (by omega) _ rfl⟩
theorem DSub.ins{r:DR}(h:DSub w f r):∃a cap,r.2.1=Y a r.1.m cap/\SlIns w a r.1.m r.1.D:=by
 obtain⟨a,cap,e⟩:=eS h.D;refine⟨a,cap,e,?_⟩;by_cases hz:r.1.m=0;{exact .inl hz}
 ·obtain⟨g,c,b⟩:=cU h.D (by omega);have i:=h.D;rw[b] at i;rw[e] at b;cases b
  exact .inr ⟨g,0,rfl,(jy i).1⟩
theorem DSub.u{r:DR}(h:DSub w f r):∃a cap,r.2.2=Y a r.1.l cap/\SlLink w a r.1.l r.1.u:=by
 obtain⟨a,cap,e⟩:=eS h.av;refine⟨a,cap,e,?_⟩;by_cases hz:r.1.l=0;{exact .inl hz}
 ·obtain⟨g,c,b⟩:=cU h.av (by omega);have i:=h.av;rw[b] at i;rw[e] at b;cases b
  exact .inr ⟨g,0,rfl,zK i⟩
theorem cZ{R:List DR}(hi:i<R.length):∃r,R[i]?=T r/\r∈R:=⟨R[i],gq hi,gz hi⟩
theorem gB{R:List DR}{r:DR}(h:R[i]?=T r):dF (R.map (·.1)) i=r.1:=by unfold dF;rw[JB,JM,h];rfl
theorem gL{g:Nat}{R:List DR}(h:w.ownsRow b 46 6 (Y (T (N g 0 Z)) R.length cap) R.length (R.flatMap ddV)){r:DR}(m:R[i]?=T r)(j:Nat)(f:j<6){u:ZB}(l:(ddV r)[j]?=T u):w.cell? (N g (i*6+j) Z)=T u/\w.frozen? (N g (i*6+j) Z)=ZA :=
 aV h (j:=i*6+j) (u:=u) (by rw[cF ddV 6 (λ_=>rfl) R i j f r m];exact l)
theorem DRow.bb{c:Nat}{a:Option Addr}{R:List DR}(h:DRow w b (Y a R.length c) R):SlDeed w a R.length (dF (R.map (·.1))):=by
 by_cases hz:R.length=0;{exact .inl hz}
 ·obtain⟨g,c',e⟩:=cU h.x (by omega);cases e
  refine .inr ⟨g,0,rfl,(cO h.x).2,λi hi=>?_⟩;obtain⟨r,f,l⟩:=cZ hi;rw[gB f];have c:∀j,j<6->∀u,(ddV r)[j]?=T u->w.cell? (N g (0+i*6+j) Z)=T u:=λj s u n=>by rw[show 0+i*6+j=i*6+j by omega];exact(gL h.x f j s n).1
  obtain⟨x,c4,o,p⟩:=(h.sub r l).ins;obtain⟨q,c5,t,m⟩:=(h.sub r l).u;exact⟨c 0 (by omega) _ rfl,c 1 (by omega) _ rfl,c 2 (by omega) _ rfl,c 3 (by omega) _ rfl,⟨x,c4,by rw[<-o];exact c 4 (by omega) _ rfl,p⟩,⟨q,c5,by rw[<-t];exact c 5 (by omega) _ rfl,m⟩⟩
def rAt (R:List DR)(i:Nat):DR:=R.getD i (dV,Y Z 0 0,Y Z 0 0)
def ra (R:List DR)(i:Nat):Nat:=(rAt R i).1.m
def rl (R:List DR)(i:Nat):Nat:=(rAt R i).1.l
structure CpB (W:M)(h:Nat)(v vo:ZB):Prop where
 size:h+3<=z (A W)
 a:W.cell? (N h 0 Z)=T v
 r:W.cell? (N (h+1) 0 Z)=T (Y Z 0 0)/\W.frozen? (N (h+1) 0 Z)=ZA
 o:W.cell? (N (h+2) 0 Z)=T vo/\W.frozen? (N (h+2) 0 Z)=ZA
theorem rJ (W:M)(v:ZB)(t:ZH):(W.alloc (J #[v] t)).cell? (N (z (A W)) 0 Z)=T v/\(W.alloc (J #[v] t)).frozen? (N (z (A W)) 0 Z)=ZA:=by constructor<;>simp
theorem Ev (w:M)(v:ZB)(f:ZH):CpB (((w.alloc (J #[v] f)).alloc (J #[Y Z 0 0] f)).alloc (J #[Y Z 0 0] f)) (z (A w)) v (Y Z 0 0):=by
 obtain⟨b,m⟩:∃b,w.alloc (J #[v] f)=b:=⟨_,rfl⟩
 obtain⟨g,j⟩:∃g,b.alloc (J #[Y Z 0 0] f)=g:=⟨_,rfl⟩
 obtain⟨i,l⟩:∃i,g.alloc (J #[Y Z 0 0] f)=i:=⟨_,rfl⟩
 rw[m,j,l];have z1:z (A b)=z (A w)+1:=by rw[<-m];simp
 have z2:z (A g)=z (A w)+2:=by rw[<-j];simp;omega
 have z3:z (A i)=z (A w)+3:=by rw[<-l];simp;omega
 have h:Below (z (A g)) g i:=by rw[<-l];exact br.alloc ly _
 have o:Below (z (A b)) b i:=(by rw[<-j];exact br.alloc ly _:Below (z (A b)) b g).trans (h.mono (by omega));have n1:=rJ w v f;have n:=rJ b (Y Z 0 0) f;have q:=rJ g (Y Z 0 0) f;rw[m] at n1;rw[j,z1] at n;rw[l,z2] at q;exact⟨by omega,(o.cell (p:=(N (z (A w)) 0 Z)) (by show (z (A w))<_;omega)).trans n1.1,⟨(h.cell (p:=(N (z (A w)+1) 0 Z)) (by show (z (A w))+1<_;omega)).trans n.1,(h.frozen (p:=(N (z (A w)+1) 0 Z)) (by show (z (A w))+1<_;omega)).trans n.2⟩,q⟩
theorem CpB.aa{h B:Nat}{v j:ZB}(b:CpB W h v j)(hb:Below B W g)(hB:h+3<=B):CpB g h v j:=by have c:∀k o,k<B->g.cell? (N k o Z)=W.cell? (N k o Z):=λk o i=>hb.cell (p:=(N k o Z)) i;have f:∀k o,k<B->g.frozen? (N k o Z)=W.frozen? (N k o Z):=λk o i=>hb.frozen (p:=(N k o Z)) i;exact⟨nD b.size hb.size,(c _ _ (by omega)).trans b.a,⟨(c _ _ (by omega)).trans b.r.1,(f _ _ (by omega)).trans b.r.2⟩,⟨(c _ _ (by omega)).trans b.o.1,(f _ _ (by omega)).trans b.o.2⟩⟩
theorem CpB.out{h:Nat}{v g:ZB}(b:CpB W h v g)(u:ZB):CpB (W.setCell (N (h+2) 0 Z) u) h v u:=by have c:∀k o,k≠h+2->(W.setCell (N (h+2) 0 Z) u).cell? (N k o Z)=W.cell? (N k o Z):=λk o f=>cell_far _ _ _ _ (by simpa using λe=>f e.symm);exact⟨by simpa using b.size,(c _ _ (by omega)).trans b.a,⟨(c _ _ (by omega)).trans b.r.1,by simpa using b.r.2⟩,⟨DN _ _ _ (by rw[b.o.1];rfl),by simpa using b.o.2⟩⟩
theorem Ew (w:M)(i g m f l n:ZB)(t:ZH):∀j u,[i,g,m,f,l,n][j]?=T u->(w.alloc (J #[i,g,m,f,l,n] t)).cell? (((N (z (A w)) 0 Z):Addr).add j)=T u:=by
 intro j u b;have hj:j<6:=by have:=(p9.1 b).1;simpa using this
 have h:=mH w i g m f l n t;rw[addr_add,JC];rcases(show j=0∨j=1∨j=2∨j=3∨j=4∨j=5 by omega) with rfl|rfl|rfl|rfl|rfl|rfl;all_goals simp only[List.getElem?_cons_zero,PU,JE] at b;subst b
 {exact h.c0.1};{exact h.c1.1};{exact h.c2.1};{exact h.c3.1};{exact h.c4.1};{exact h.c5.1}
