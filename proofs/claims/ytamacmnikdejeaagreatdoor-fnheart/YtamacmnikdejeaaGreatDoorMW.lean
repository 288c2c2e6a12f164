import Derived.Test.YtamacmnikdejeaaGreatDoorMV
import Derived.Test.YtamacmnikdejeaaGreatDoorMC
open Go renaming Addr.mk->Q,Value.slice->Y,Value.string->U,Value.int->J,Obj.cells->N,IntKind.i64->I,World->E,Value->ZB,TypeId->ZH,World.heap->A
open Option renaming none->Z,some->T
open Bool renaming false->ZA
open Array renaming size->z
namespace Go.Proofs.YtamacmnikdejeaaGreatDoor.Vp
open RowKit Ca
variable {w w' W:E}{b n i size g base' cap h:Nat}{e:ZH}{f:Nat->Link}{l:List ZB}
def dl (x:Link):List ZB:=[U x.e,.bool x.ask,.bool x.has,J I x.G]
def bY (f:Nat->Link)(n:Nat):List ZB:=((List.range n).map f).flatMap dl
theorem ii (f:Nat->Link)(n:Nat):(bY f n).length=n*4:=by rw[bY,eY dl 4 (λ_=>rfl)];simp
theorem jg (f:Nat->Link)(hi:i<n)(j:Nat)(b:j<4):(bY f n)[i*4+j]?=(dl (f i))[j]? :=
 cK dl 4 (λ_=>rfl) _ i j b (f i) (by simp[hi])
theorem zp (f:Nat->Link)(n:Nat):∀u∈bY f n,u.oneCell'=true:=by intro u g;simp only[bY,NE,dl] at g;obtain⟨x,_,b⟩:=g;simp at b;rcases b with rfl|rfl|rfl|rfl<;>simp[Value.oneCell']
theorem Bm{off:Nat}(h:RowLink w b off n f):∀j u,(bY f n)[j]?=T u->w.cell? (((Q b off Z):Addr).add j)=T u:=by
 intro j u g;have hl:j<n*4:=by have:=(j5.1 g).1;rwa[ii] at this
 have e:j=j / 4*4+j % 4:=by omega
 have hi:j / 4<n:=by omega
 obtain⟨o,h1,h2,m⟩:=h.2 (j / 4) hi;have i:j % 4<4:=QE _ (by omega);rw[e,jg f hi (j % 4) i] at g;have l:((Q b off Z):Addr).add j=(Q b (off+j) Z):=addr_add _ _ _;rw[l];rcases(show j % 4=0∨j % 4=1∨j % 4=2∨j % 4=3 by omega) with q|q|q|q;all_goals rw[q] at g;simp[dl] at g;subst g
 {rw[show off+j=off+j / 4*4 by omega];exact o};{rw[show off+j=off+j / 4*4+1 by omega];exact h1};{rw[show off+j=off+j / 4*4+2 by omega];exact h2};{rw[show off+j=off+j / 4*4+3 by omega];exact m}
theorem dP{m:E}{v:ZB}(h:w.ownsRow b e size v n l)(hb:∀k,v.ownBlock=T k->OfTy w k e->m.heap[k]?=w.heap[k]?):m.ownsRow b e size v n l:=by
 refine⟨h.1,?_⟩;rcases h.2 with hn|⟨g,cap,i,rfl,j,f,rest⟩
 {exact .inl hn};{exact .inr ⟨g,cap,i,rfl,j,(hb g rfl ⟨i,_,f⟩).trans f,rest⟩}
theorem fD{v:ZB}(h:w.ownsRow b e size v n l):∀k,v.ownBlock=T k->OfTy w k e:=by
 intro k f;rcases h.2 with ⟨rfl,_⟩|⟨g,cap,i,rfl,_,j,_⟩
 {simp[Value.ownBlock] at f};{simp[Value.ownBlock] at f;subst f;exact⟨i,_,j⟩}
theorem df{v:ZB}{f:List ZB}(h:w.ownsRow b e size v n f)(hn:0<n):∃g cap,v=Y (T (Q g 0 Z)) n cap:=by
 rcases h.2 with ⟨_,h2⟩|⟨g,c,cur,h1,_⟩
 {omega};{exact⟨g,c,h1⟩}
theorem kO{v:ZB}{f:List ZB}(h:w.ownsRow b e size v n f):∃a cap,v=Y a n cap:=by
 rcases h.2 with ⟨h1,h2⟩|⟨g,c,cur,h1,_⟩
 {exact⟨Z,0,by rw[h1,h2]⟩};{exact⟨_,_,h1⟩}
abbrev DR:=au × ZB × ZB
def ddV (r:DR):List ZB:=[U r.1.e,J I r.1.L,J I r.1.M,U r.1.H,r.2.1,r.2.2]
structure DSub (w:E)(base:Nat)(r:DR):Prop where
 u:w.ownsRow base 146 3 r.2.1 r.1.h (bV r.1.u r.1.h)
 aq:w.ownsRow base 129 4 r.2.2 r.1.f (bY r.1.m r.1.f)
def Apt (a b:ZB):Prop:=a.ownBlock=Z∨a.ownBlock≠b.ownBlock
structure DRow (w:E)(base:Nat)(v:ZB)(R:List DR):Prop where
 y:w.ownsRow base 46 6 v R.length (R.flatMap ddV)
 sub:∀r∈R,DSub w base r
 up:R.Pairwise λa b=>Apt a.2.1 b.2.1/\Apt a.2.2 b.2.2
theorem DSub.ab{r:DR}(h:DSub w b r)(hb:∀k,OfTy w k 146∨OfTy w k 129->b<=k->w'.heap[k]?=w.heap[k]?):DSub w' b r :=
 ⟨dP h.u λk g f=>hb k (.inl f) (h.u.lt k g).1,dP h.aq λk g f=>hb k (.inr f) (h.aq.lt k g).1⟩
theorem DSub.aa{f:E}{B:Nat}{r:DR}(h:DSub w b r)(hb:Below B w f)(g:z (A w)<=B):DSub f b r:=⟨own_below h.u hb g,own_below h.aq hb g⟩
theorem DSub.mono{r:DR}(h:DSub w b r)(hb:base'<=b):DSub w base' r:=⟨aF h.u hb,aF h.aq hb⟩
theorem DRow.ab{v:ZB}{R:List DR}(h:DRow w b v R)(hb:∀k,OfTy w k 146∨OfTy w k 129∨OfTy w k 46->b<=k->w'.heap[k]?=w.heap[k]?):DRow w' b v R :=
 ⟨dP h.y λk f g=>hb k (.inr (.inr g)) (h.y.lt k f).1,λr i=>(h.sub r i).ab λk f=>hb k (f.imp id .inl),h.up⟩
theorem DRow.aa{g:E}{B:Nat}{v:ZB}{R:List DR}(h:DRow w b v R)(hb:Below B w g)(f:z (A w)<=B):DRow g b v R :=
 ⟨own_below h.y hb f,λr i=>(h.sub r i).aa hb f,h.up⟩
theorem DRow.mono{v:ZB}{R:List DR}(h:DRow w b v R)(hb:base'<=b):DRow w base' v R:=⟨aF h.y hb,λr f=>(h.sub r f).mono hb,h.up⟩
theorem DRow.set{v:ZB}{R:List DR}(h:DRow w b v R){p:Addr}(i:p.block<b∨(OfTy w p.block e/\e≠146/\e≠129/\e≠46))(u:ZB):DRow (w.setCell p u) b v R :=
 h.ab λk f hb=>qh _ _ _ _ (λx=>by
  subst x;rcases i with i|⟨g,h1,h2,j⟩
  ·omega
  ·rcases f with f|f|f
   ·exact g.ne (Ne.symm h1) f
   ·exact g.ne (Ne.symm h2) f
   ·exact g.ne (Ne.symm j) f)
theorem ji (w:E)(b:Nat):DRow w b (Y Z 0 0) []:=⟨CL _ _ _ _,λr f=>absurd f (by simp),List.Pairwise.nil⟩
theorem DRow.more{i l:E}{v ZS:ZB}{R:List DR}{r:DR}(h:DRow w g v R)(h1:DRow i g v R)(m:g<=z (A w))(p:DSub i (z (A w)) r)
  (o:l.ownsRow g 46 6 ZS (R.length+1) (R.flatMap ddV++ddV r)) (q:i.grownBy l v.ownBlock):DRow l g ZS (R++[r]):=by
 have s:∀k,OfTy i k 146∨OfTy i k 129->T k≠v.ownBlock:=λk f e=>by
  have u:=fD h1.y k e.symm;rcases f with f|f;{exact u.ne (by decide) f};{exact u.ne (by decide) f}
 have y:∀k,OfTy i k 146∨OfTy i k 129->k<z (A i):=λk f=>by rcases f with ⟨c,ZR,f⟩|⟨c,ZR,f⟩<;>exact(DN.1 f).1
 have keep:∀k,OfTy i k 146∨OfTy i k 129->l.heap[k]?=i.heap[k]?:=λk f=>q.block k (y k f) (s k f);refine⟨by simpa using o,λx j=>?_,?_⟩;{rcases wC.1 j with j|j;{exact(h1.sub x j).ab λk f _=>keep k f};{simp at j;subst j;exact(p.ab λk f _=>keep k f).mono m}}
 ·rw[MN];refine⟨h.up,by simp,λa B b n=>?_⟩;simp at n;subst n;have t:=h.sub a B;refine⟨?_,?_⟩
  ·cases f:a.2.1.ownBlock with
   |none=>exact .inl f
   |some k =>refine .inr λe=>?_;have h1:=(t.u.lt k f).2;have h2:=(p.u.lt k (e ▸ f)).1;omega
  ·cases f:a.2.2.ownBlock with
   |none=>exact .inl f
   |some k =>refine .inr λe=>?_;have h1:=(t.aq.lt k f).2;have h2:=(p.aq.lt k (e ▸ f)).1;omega
theorem Bn (h:w.ownsRow b 129 4 (Y (T (Q g 0 Z)) n cap) n (bY f n)):RowLink w g 0 n f:=by
 refine⟨(cO h).2,λi hi=>?_⟩;have c:∀j,j<4->∀u,(dl (f i))[j]?=T u->w.cell? (Q g (0+i*4+j) Z)=T u:=λj l u m=>by have:=(bk h (j:=i*4+j) (u:=u) (by rw[jg f hi j l];exact m)).1;rwa[show 0+i*4+j=i*4+j by omega]
 exact⟨c 0 (by omega) _ rfl,c 1 (by omega) _ rfl,c 2 (by omega) _ rfl,c 3 (by omega) _ rfl⟩
theorem DSub.ins{r:DR}(h:DSub w b r):∃a cap,r.2.1=Y a r.1.h cap/\SlIns w a r.1.h r.1.u:=by
 obtain⟨a,cap,e⟩:=kO h.u;refine⟨a,cap,e,?_⟩;by_cases hz:r.1.h=0;{exact .inl hz}
 ·obtain⟨g,c,f⟩:=df h.u (by omega);have i:=h.u;rw[f] at i;rw[e] at f;cases f
  exact .inr ⟨g,0,rfl,(j8 i).1⟩
theorem DSub.m{r:DR}(h:DSub w b r):∃a cap,r.2.2=Y a r.1.f cap/\SlLink w a r.1.f r.1.m:=by
 obtain⟨a,cap,e⟩:=kO h.aq;refine⟨a,cap,e,?_⟩;by_cases hz:r.1.f=0;{exact .inl hz}
 ·obtain⟨g,c,f⟩:=df h.aq (by omega);have i:=h.aq;rw[f] at i;rw[e] at f;cases f
  exact .inr ⟨g,0,rfl,Bn i⟩
theorem dr{R:List DR}(hi:i<R.length):∃r,R[i]?=T r/\r∈R:=⟨R[i],gq hi,gz hi⟩
theorem gF{R:List DR}{r:DR}(h:R[i]?=T r):dF (R.map (·.1)) i=r.1:=by unfold dF;rw[IS,KN,h];rfl
theorem ij{R:List DR}(h:w.ownsRow b 46 6 (Y (T (Q g 0 Z)) R.length cap) R.length (R.flatMap ddV)){r:DR}(f:R[i]?=T r)(j:Nat)(l:j<6){u:ZB}(m:(ddV r)[j]?=T u):w.cell? (Q g (i*6+j) Z)=T u/\w.frozen? (Q g (i*6+j) Z)=ZA :=
 bk h (j:=i*6+j) (u:=u) (by rw[cK ddV 6 (λ_=>rfl) R i j l r f];exact m)
theorem DRow.bb{c:Nat}{a:Option Addr}{R:List DR}(h:DRow w b (Y a R.length c) R):SlDeed w a R.length (dF (R.map (·.1))):=by
 by_cases hz:R.length=0;{exact .inl hz}
 ·obtain⟨g,c',e⟩:=df h.y (by omega);cases e
  refine .inr ⟨g,0,rfl,(cO h.y).2,λi hi=>?_⟩;obtain⟨r,f,l⟩:=dr hi;rw[gF f];have c:∀j,j<6->∀u,(ddV r)[j]?=T u->w.cell? (Q g (0+i*6+j) Z)=T u:=λj x u p=>by rw[show 0+i*6+j=i*6+j by omega];exact(ij h.y f j x p).1
  obtain⟨m,c4,s,q⟩:=(h.sub r l).ins;obtain⟨n,c5,t,o⟩:=(h.sub r l).m;exact⟨c 0 (by omega) _ rfl,c 1 (by omega) _ rfl,c 2 (by omega) _ rfl,c 3 (by omega) _ rfl,⟨m,c4,by rw[<-s];exact c 4 (by omega) _ rfl,q⟩,⟨n,c5,by rw[<-t];exact c 5 (by omega) _ rfl,o⟩⟩
def rAt (R:List DR)(i:Nat):DR:=R.getD i (fg,Y Z 0 0,Y Z 0 0)
def ra (R:List DR)(i:Nat):Nat:=(rAt R i).1.h
def rl (R:List DR)(i:Nat):Nat:=(rAt R i).1.f
structure CpB (W:E)(h:Nat)(v vo:ZB):Prop where
 size:h+3<=z (A W)
 a:W.cell? (Q h 0 Z)=T v
 r:W.cell? (Q (h+1) 0 Z)=T (Y Z 0 0)/\W.frozen? (Q (h+1) 0 Z)=ZA
 o:W.cell? (Q (h+2) 0 Z)=T vo/\W.frozen? (Q (h+2) 0 Z)=ZA
theorem tD (W:E)(v:ZB)(t:ZH):(W.alloc (N #[v] t)).cell? (Q (z (A W)) 0 Z)=T v/\(W.alloc (N #[v] t)).frozen? (Q (z (A W)) 0 Z)=ZA:=by constructor<;>simp
theorem F8 (w:E)(v:ZB)(b:ZH):CpB (((w.alloc (N #[v] b)).alloc (N #[Y Z 0 0] b)).alloc (N #[Y Z 0 0] b)) (z (A w)) v (Y Z 0 0):=by
 obtain⟨f,n⟩:∃f,w.alloc (N #[v] b)=f:=⟨_,rfl⟩
 obtain⟨g,l⟩:∃g,f.alloc (N #[Y Z 0 0] b)=g:=⟨_,rfl⟩
 obtain⟨h,j⟩:∃h,g.alloc (N #[Y Z 0 0] b)=h:=⟨_,rfl⟩
 rw[n,l,j];have z1:z (A f)=z (A w)+1:=by rw[<-n];simp
 have z2:z (A g)=z (A w)+2:=by rw[<-l];simp;omega
 have z3:z (A h)=z (A w)+3:=by rw[<-j];simp;omega
 have i:Below (z (A g)) g h:=by rw[<-j];exact br.alloc ly _
 have o:Below (z (A f)) f h:=(by rw[<-l];exact br.alloc ly _:Below (z (A f)) f g).trans (i.mono (by omega));have n1:=tD w v b;have m:=tD f (Y Z 0 0) b;have q:=tD g (Y Z 0 0) b;rw[n] at n1;rw[l,z1] at m;rw[j,z2] at q;exact⟨by omega,(o.cell (p:=(Q (z (A w)) 0 Z)) (by show (z (A w))<_;omega)).trans n1.1,⟨(i.cell (p:=(Q (z (A w)+1) 0 Z)) (by show (z (A w))+1<_;omega)).trans m.1,(i.frozen (p:=(Q (z (A w)+1) 0 Z)) (by show (z (A w))+1<_;omega)).trans m.2⟩,q⟩
theorem CpB.aa{g:E}{B:Nat}{v j:ZB}(b:CpB W h v j)(hb:Below B W g)(hB:h+3<=B):CpB g h v j:=by have c:∀k o,k<B->g.cell? (Q k o Z)=W.cell? (Q k o Z):=λk o i=>hb.cell (p:=(Q k o Z)) i;have f:∀k o,k<B->g.frozen? (Q k o Z)=W.frozen? (Q k o Z):=λk o i=>hb.frozen (p:=(Q k o Z)) i;exact⟨nL b.size hb.size,(c _ _ (by omega)).trans b.a,⟨(c _ _ (by omega)).trans b.r.1,(f _ _ (by omega)).trans b.r.2⟩,⟨(c _ _ (by omega)).trans b.o.1,(f _ _ (by omega)).trans b.o.2⟩⟩
theorem CpB.out{v g:ZB}(b:CpB W h v g)(u:ZB):CpB (W.setCell (Q (h+2) 0 Z) u) h v u:=by have c:∀k o,k≠h+2->(W.setCell (Q (h+2) 0 Z) u).cell? (Q k o Z)=W.cell? (Q k o Z):=λk o f=>cell_far _ _ _ _ (by simpa using λe=>f e.symm);exact⟨by simpa using b.size,(c _ _ (by omega)).trans b.a,⟨(c _ _ (by omega)).trans b.r.1,by simpa using b.r.2⟩,⟨BO _ _ _ (by rw[b.o.1];rfl),by simpa using b.o.2⟩⟩
theorem F9 (w:E)(f i l n b m:ZB)(t:ZH):∀j u,[f,i,l,n,b,m][j]?=T u->(w.alloc (N #[f,i,l,n,b,m] t)).cell? (((Q (z (A w)) 0 Z):Addr).add j)=T u:=by
 intro j u g;have hj:j<6:=by have:=(j5.1 g).1;simpa using this
 have h:=jc w f i l n b m t;rw[addr_add,IT];rcases(show j=0∨j=1∨j=2∨j=3∨j=4∨j=5 by omega) with rfl|rfl|rfl|rfl|rfl|rfl;all_goals simp only[List.getElem?_cons_zero,List.getElem?_cons_succ,KJ] at g;subst g
 {exact h.c0.1};{exact h.c1.1};{exact h.c2.1};{exact h.c3.1};{exact h.c4.1};{exact h.c5.1}
