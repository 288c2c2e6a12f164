import Derived.Test.YthkpcehepgmdgaaGreatDoorTW
import Derived.Test.YthkpcehepgmdgaaGreatDoorTC
set_option maxRecDepth 100000
set_option maxHeartbeats 2000000
set_option linter.unusedSimpArgs false
open Go renaming Addr.mk->Q,Value.slice->Z,Value.string->U,Value.int->J,Value.bool->ZC,Value.agg->ZH,Obj.cells->N,IntKind.i64->I,World->G,Value->ZD,TypeId->ZI,Ending.returned->ZG,World.ownsRow->ZY,World.alloc->ZV,World.cell?->ZW,World.frozen?->ZX,World.setCell->ZT,Proofs.Tryz.prog->Pg
open Option renaming none->Y,some->T
open Bool renaming false->ZB
open List renaming length->ZU
namespace Go.Proofs.YthkpcehepgmdgaaGreatDoor.Vp
open Tryz RowKit Ca
variable {w g w' W:G}{b n i X size B cap base':Nat}{f:Nat->Link}{e:ZI}{a:Option Addr}{j:List ZD}{p:Addr}{L:List Nat}
def dt (x:Link):List ZD:=[U x.e,ZC x.ask,ZC x.has,J I x.L]
def bq (f:Nat->Link)(n:Nat):List ZD:=((List.range n).map f).flatMap dt
theorem eE (f:Nat->Link)(n:Nat):(bq f n).length=n*4:=by rw[bq,fc dt 4 (λ_=>rfl)];simp
theorem fe (f:Nat->Link)(hi:i<n)(j:Nat)(b:j<4):(bq f n)[i*4+j]?=(dt (f i))[j]? :=
 cL dt 4 (λ_=>rfl) _ i j b (f i) (by simp[hi])
theorem qT (f:Nat->Link)(n:Nat):∀u∈bq f n,u.oneCell'=true:=by intro u g;simp only[bq,MK,dt] at g;obtain⟨x,_,b⟩:=g;simp at b;rcases b with rfl|rfl|rfl|rfl<;>simp[Value.oneCell']
theorem tk{off:Nat}(h:RowLink w b off n f):∀j u,(bq f n)[j]?=T u->w.cell? (((Q b off Y):Addr).add j)=T u:=by
 intro j u g;have hl:j<n*4:=by have:=(j2.1 g).1;rwa[eE] at this
 have e:j=j / 4*4+j % 4:=by omega
 have hi:j / 4<n:=by omega
 obtain⟨o,h1,h2,l⟩:=h.2 (j / 4) hi;have m:j % 4<4:=PE _ (by omega);rw[e,fe f hi (j % 4) m] at g;have i:((Q b off Y):Addr).add j=(Q b (off+j) Y):=addr_add _ _ _;rw[i];rcases(show j % 4=0∨j % 4=1∨j % 4=2∨j % 4=3 by omega) with q|q|q|q;all_goals rw[q] at g;simp[dt] at g;subst g
 {rw[show off+j=off+j / 4*4 by omega];exact o};{rw[show off+j=off+j / 4*4+1 by omega];exact h1};{rw[show off+j=off+j / 4*4+2 by omega];exact h2};{rw[show off+j=off+j / 4*4+3 by omega];exact l}
theorem vd{b:Nat->Link}(h:∀i,i<n->f i=b i):bq f n=bq b n:=by unfold bq;congr 1;exact T0 λi hi=>h i (KT.1 hi)
theorem cH{v:ZD}(h:ZY w b e size v n j)(hb:∀k,v.ownBlock=T k->OfTy w k e->w'.heap[k]?=w.heap[k]?):ZY w' b e size v n j:=by
 refine⟨h.1,?_⟩;rcases h.2 with hn|⟨g,cap,f,rfl,l,i,rest⟩
 {exact .inl hn};{exact .inr ⟨g,cap,f,rfl,l,(hb g rfl ⟨f,_,i⟩).trans i,rest⟩}
theorem eF{f:Nat}{v:ZD}(h:ZY w f e size v n j):∀k,v.ownBlock=T k->OfTy w k e:=by
 intro k b;rcases h.2 with ⟨rfl,_⟩|⟨g,cap,i,rfl,_,l,_⟩
 {simp[Value.ownBlock] at b};{simp[Value.ownBlock] at b;subst b;exact⟨i,_,l⟩}
theorem bV{v:ZD}{f:List ZD}(h:ZY w b e size v n f)(hn:0<n):∃g cap,v=Z (T (Q g 0 Y)) n cap:=by
 rcases h.2 with ⟨_,h2⟩|⟨g,c,cur,h1,_⟩
 {omega};{exact⟨g,c,h1⟩}
theorem du{v:ZD}{f:List ZD}(h:ZY w b e size v n f):∃a cap,v=Z a n cap:=by
 rcases h.2 with ⟨h1,h2⟩|⟨g,c,cur,h1,_⟩
 {exact⟨Y,0,by rw[h1,h2]⟩};{exact⟨_,_,h1⟩}
abbrev DR:=af × ZD × ZD
def ddV (r:DR):List ZD:=[U r.1.e,J I r.1.H,J I r.1.E,U r.1.B,r.2.1,r.2.2]
structure DSub (w:G)(base:Nat)(r:DR):Prop where
 u:ZY w base 90 3 r.2.1 r.1.l (bK r.1.u r.1.l)
 am:ZY w base 68 4 r.2.2 r.1.f (bq r.1.m r.1.f)
def Apt (a b:ZD):Prop:=a.ownBlock=Y∨a.ownBlock≠b.ownBlock
structure DRow (w:G)(base:Nat)(v:ZD)(R:List DR):Prop where
 y:ZY w base 44 6 v (ZU R) (R.flatMap ddV)
 sub:∀r∈R,DSub w base r
 up:R.Pairwise λa b=>Apt a.2.1 b.2.1/\Apt a.2.2 b.2.2
theorem DSub.ab{r:DR}(h:DSub w b r)(hb:∀k,OfTy w k 90∨OfTy w k 68->b<=k->w'.heap[k]?=w.heap[k]?):DSub w' b r :=
 ⟨cH h.u λk f g=>hb k (.inl g) (h.u.lt k f).1,cH h.am λk f g=>hb k (.inr g) (h.am.lt k f).1⟩
theorem DSub.aa{r:DR}(h:DSub w b r)(hb:Below B w g)(f:w.heap.size<=B):DSub g b r:=⟨own_below h.u hb f,own_below h.am hb f⟩
theorem DSub.mono{r:DR}(h:DSub w b r)(hb:base'<=b):DSub w base' r:=⟨aA h.u hb,aA h.am hb⟩
theorem DRow.ab{v:ZD}{R:List DR}(h:DRow w b v R)(hb:∀k,OfTy w k 90∨OfTy w k 68∨OfTy w k 44->b<=k->w'.heap[k]?=w.heap[k]?):DRow w' b v R :=
 ⟨cH h.y λk f i=>hb k (.inr (.inr i)) (h.y.lt k f).1,λr g=>(h.sub r g).ab λk f=>hb k (f.imp id .inl),h.up⟩
theorem DRow.aa{v:ZD}{R:List DR}(h:DRow w b v R)(hb:Below B w g)(f:w.heap.size<=B):DRow g b v R :=
 ⟨own_below h.y hb f,λr i=>(h.sub r i).aa hb f,h.up⟩
theorem DRow.mono{v:ZD}{R:List DR}(h:DRow w b v R)(hb:base'<=b):DRow w base' v R:=⟨aA h.y hb,λr f=>(h.sub r f).mono hb,h.up⟩
theorem DRow.itr{f:Nat}{v:ZD}{R:List DR}(h:DRow w f v R)(hi:Itr 4 n w g):DRow g f v R :=
 h.ab λk b _=>by
  rcases b with ⟨c,z,b⟩|⟨c,z,b⟩|⟨c,z,b⟩
  all_goals exact hi.keep k c _ z b (by decide)
theorem DRow.set{f:Nat}{v:ZD}{R:List DR}(h:DRow w f v R)(i:p.block<f∨(OfTy w p.block e/\e≠90/\e≠68/\e≠44))(u:ZD):DRow (w.setCell p u) f v R :=
 h.ab λk b hb=>qh _ _ _ _ (λx=>by
  subst x;rcases i with i|⟨g,h1,h2,j⟩
  ·omega
  ·rcases b with b|b|b
   ·exact g.ne (Ne.symm h1) b
   ·exact g.ne (Ne.symm h2) b
   ·exact g.ne (Ne.symm j) b)
theorem fB (w:G)(b:Nat):DRow w b (Z Y 0 0) []:=⟨CL _ _ _ _,λr f=>absurd f (by simp),List.Pairwise.nil⟩
theorem DRow.more{i m:G}{g:Nat}{v s:ZD}{R:List DR}{r:DR}(h:DRow w g v R)(h1:DRow i g v R)(l:g<=w.heap.size)(o:DSub i w.heap.size r)
  (p:ZY m g 44 6 s (ZU R+1) (R.flatMap ddV++ddV r)) (y:i.grownBy m v.ownBlock):DRow m g s (R++[r]):=by
 have t:∀k,OfTy i k 90∨OfTy i k 68->T k≠v.ownBlock:=λk f e=>by
  have A:=eF h1.y k e.symm;rcases f with f|f;{exact A.ne (by decide) f};{exact A.ne (by decide) f}
 have q:∀k,OfTy i k 90∨OfTy i k 68->k<i.heap.size:=λk f=>by rcases f with ⟨c,z,f⟩|⟨c,z,f⟩<;>exact(A9.1 f).1
 have keep:∀k,OfTy i k 90∨OfTy i k 68->m.heap[k]?=i.heap[k]?:=λk f=>y.block k (q k f) (t k f);refine⟨by simpa using p,λx j=>?_,?_⟩;{rcases n6.1 j with j|j;{exact(h1.sub x j).ab λk f _=>keep k f};{simp at j;subst j;exact(o.ab λk f _=>keep k f).mono l}}
 ·rw[MN];refine⟨h.up,by simp,λa B b n=>?_⟩;simp at n;subst n;have u:=h.sub a B;refine⟨?_,?_⟩
  ·cases f:a.2.1.ownBlock with
   |none=>exact .inl f
   |some k =>refine .inr λe=>?_;have h1:=(u.u.lt k f).2;have h2:=(o.u.lt k (e ▸ f)).1;omega
  ·cases f:a.2.2.ownBlock with
   |none=>exact .inl f
   |some k =>refine .inr λe=>?_;have h1:=(u.am.lt k f).2;have h2:=(o.am.lt k (e ▸ f)).1;omega
theorem tm{g:Nat}(h:ZY w b 68 4 (Z (T (Q g 0 Y)) n cap) n (bq f n)):RowLink w g 0 n f:=by
 refine⟨(cu h).2,λi hi=>?_⟩;have c:∀j,j<4->∀u,(dt (f i))[j]?=T u->ZW w (Q g (0+i*4+j) Y)=T u:=λj m u l=>by have:=(a8 h (j:=i*4+j) (u:=u) (by rw[fe f hi j m];exact l)).1;rwa[show 0+i*4+j=i*4+j by omega]
 exact⟨c 0 (by omega) _ rfl,c 1 (by omega) _ rfl,c 2 (by omega) _ rfl,c 3 (by omega) _ rfl⟩
theorem DSub.ins{r:DR}(h:DSub w b r):∃a cap,r.2.1=Z a r.1.l cap/\SlIns w a r.1.l r.1.u:=by
 obtain⟨a,cap,e⟩:=du h.u;refine⟨a,cap,e,?_⟩;by_cases hz:r.1.l=0;{exact .inl hz}
 ·obtain⟨g,c,f⟩:=bV h.u (by omega);have i:=h.u;rw[f] at i;rw[e] at f;cases f
  exact .inr ⟨g,0,rfl,(gV i).1⟩
theorem DSub.m{r:DR}(h:DSub w b r):∃a cap,r.2.2=Z a r.1.f cap/\SlLink w a r.1.f r.1.m:=by
 obtain⟨a,cap,e⟩:=du h.am;refine⟨a,cap,e,?_⟩;by_cases hz:r.1.f=0;{exact .inl hz}
 ·obtain⟨g,c,f⟩:=bV h.am (by omega);have i:=h.am;rw[f] at i;rw[e] at f;cases f
  exact .inr ⟨g,0,rfl,tm i⟩
theorem dJ{R:List DR}(hi:i<ZU R):∃r,R[i]?=T r/\r∈R:=⟨R[i],gq hi,gz hi⟩
theorem ii{R:List DR}{r:DR}(h:R[i]?=T r):dF (R.map (·.1)) i=r.1:=by unfold dF;rw[CP,HU,h];rfl
theorem gy{g:Nat}{R:List DR}(h:ZY w b 44 6 (Z (T (Q g 0 Y)) (ZU R) cap) (ZU R) (R.flatMap ddV)){r:DR}(f:R[i]?=T r)(j:Nat)(l:j<6){u:ZD}(m:(ddV r)[j]?=T u):ZW w (Q g (i*6+j) Y)=T u/\ZX w (Q g (i*6+j) Y)=ZB :=
 a8 h (j:=i*6+j) (u:=u) (by rw[cL ddV 6 (λ_=>rfl) R i j l r f];exact m)
theorem DRow.bb{c:Nat}{R:List DR}(h:DRow w b (Z a (ZU R) c) R):SlDeed w a (ZU R) (dF (R.map (·.1))):=by
 by_cases hz:ZU R=0;{exact .inl hz}
 ·obtain⟨g,c',e⟩:=bV h.y (by omega);cases e
  refine .inr ⟨g,0,rfl,(cu h.y).2,λi hi=>?_⟩;obtain⟨r,l,f⟩:=dJ hi;rw[ii l];have c:∀j,j<6->∀u,(ddV r)[j]?=T u->ZW w (Q g (0+i*6+j) Y)=T u:=λj q u x=>by rw[show 0+i*6+j=i*6+j by omega];exact(gy h.y l j q x).1
  obtain⟨p,c4,n,s⟩:=(h.sub r f).ins;obtain⟨m,c5,t,o⟩:=(h.sub r f).m;exact⟨c 0 (by omega) _ rfl,c 1 (by omega) _ rfl,c 2 (by omega) _ rfl,c 3 (by omega) _ rfl,⟨p,c4,by rw[<-n];exact c 4 (by omega) _ rfl,s⟩,⟨m,c5,by rw[<-t];exact c 5 (by omega) _ rfl,o⟩⟩
def rAt (R:List DR)(i:Nat):DR:=R.getD i (fk,Z Y 0 0,Z Y 0 0)
theorem mi{R:List DR}{r:DR}(h:R[i]?=T r):rAt R i=r:=by unfold rAt;rw[CP,h];rfl
def ra (R:List DR)(i:Nat):Nat:=(rAt R i).1.l
def rl (R:List DR)(i:Nat):Nat:=(rAt R i).1.f
structure CpB (W:G)(h:Nat)(v vo:ZD):Prop where
 size:h+3<=W.heap.size
 a:ZW W (Q h 0 Y)=T v
 r:ZW W (Q (h+1) 0 Y)=T (Z Y 0 0)/\ZX W (Q (h+1) 0 Y)=ZB
 o:ZW W (Q (h+2) 0 Y)=T vo/\ZX W (Q (h+2) 0 Y)=ZB
theorem jo (W:G)(v:ZD)(t:ZI):ZW (ZV W (N #[v] t)) (Q W.heap.size 0 Y)=T v/\ZX (ZV W (N #[v] t)) (Q W.heap.size 0 Y)=ZB:=by constructor<;>simp
theorem FV (w:G)(v:ZD)(f:ZI):CpB (ZV (ZV (ZV w (N #[v] f)) (N #[Z Y 0 0] f)) (N #[Z Y 0 0] f)) w.heap.size v (Z Y 0 0):=by
 obtain⟨b,m⟩:∃b,ZV w (N #[v] f)=b:=⟨_,rfl⟩
 obtain⟨g,l⟩:∃g,ZV b (N #[Z Y 0 0] f)=g:=⟨_,rfl⟩
 obtain⟨h,j⟩:∃h,ZV g (N #[Z Y 0 0] f)=h:=⟨_,rfl⟩
 rw[m,l,j];have z1:b.heap.size=w.heap.size+1:=by rw[<-m];simp
 have z2:g.heap.size=w.heap.size+2:=by rw[<-l];simp;omega
 have z3:h.heap.size=w.heap.size+3:=by rw[<-j];simp;omega
 have i:Below g.heap.size g h:=by rw[<-j];exact br.alloc ly _
 have q:Below b.heap.size b h:=(by rw[<-l];exact br.alloc ly _:Below b.heap.size b g).trans (i.mono (by omega));have n1:=jo w v f;have n:=jo b (Z Y 0 0) f;have o:=jo g (Z Y 0 0) f;rw[m] at n1;rw[l,z1] at n;rw[j,z2] at o;exact⟨by omega,(q.cell (p:=(Q w.heap.size 0 Y)) (by show w.heap.size<_;omega)).trans n1.1,⟨(i.cell (p:=(Q (w.heap.size+1) 0 Y)) (by show w.heap.size+1<_;omega)).trans n.1,(i.frozen (p:=(Q (w.heap.size+1) 0 Y)) (by show w.heap.size+1<_;omega)).trans n.2⟩,o⟩
theorem CpB.aa{h:Nat}{v j:ZD}(b:CpB W h v j)(hb:Below B W g)(hB:h+3<=B):CpB g h v j:=by have c:∀k o,k<B->ZW g (Q k o Y)=ZW W (Q k o Y):=λk o i=>hb.cell (p:=(Q k o Y)) i;have f:∀k o,k<B->ZX g (Q k o Y)=ZX W (Q k o Y):=λk o i=>hb.frozen (p:=(Q k o Y)) i;exact⟨AD b.size hb.size,(c _ _ (by omega)).trans b.a,⟨(c _ _ (by omega)).trans b.r.1,(f _ _ (by omega)).trans b.r.2⟩,⟨(c _ _ (by omega)).trans b.o.1,(f _ _ (by omega)).trans b.o.2⟩⟩
theorem CpB.out{h:Nat}{v g:ZD}(b:CpB W h v g)(u:ZD):CpB (ZT W (Q (h+2) 0 Y) u) h v u:=by have c:∀k o,k≠h+2->ZW (ZT W (Q (h+2) 0 Y) u) (Q k o Y)=ZW W (Q k o Y):=λk o f=>cell_far _ _ _ _ (by simpa using λe=>f e.symm);exact⟨by simpa using b.size,(c _ _ (by omega)).trans b.a,⟨(c _ _ (by omega)).trans b.r.1,by simpa using b.r.2⟩,⟨AT _ _ _ (by rw[b.o.1];rfl),by simpa using b.o.2⟩⟩
theorem zx (w:G)(g m l i f b:ZD)(t:ZI):∀j u,[g,m,l,i,f,b][j]?=T u->(ZV w (N #[g,m,l,i,f,b] t)).cell? (((Q w.heap.size 0 Y):Addr).add j)=T u:=by
 intro j u n;have hj:j<6:=by have:=(j2.1 n).1;simpa using this
 have h:=fT w g m l i f b t;rw[addr_add,E4];rcases(show j=0∨j=1∨j=2∨j=3∨j=4∨j=5 by omega) with rfl|rfl|rfl|rfl|rfl|rfl;all_goals simp only[Q3,Q9,KN] at n;subst n
 {exact h.c0.1};{exact h.c1.1};{exact h.c2.1};{exact h.c3.1};{exact h.c4.1};{exact h.c5.1}
def NW (w:G)(b:Addr)(f:List ZD):Prop:=∀j u,f[j]?=T u->w.cell? (b.add j)=T u
theorem NW.aa{f:Addr}{b:List ZD}(h:NW w f b)(hb:Below w.heap.size w g):NW g f b:=λj u i=>(hb.cell (OV _ _ (h j u i))).trans (h j u i)
theorem Et{c:Nat}{f:List ZD}(h:ZY w b e size (Z a n c) n f)(hn:0<n):∃g,a=T (Q g 0 Y):=by obtain⟨g,c',e⟩:=bV h hn;simp at e;exact⟨g,e.1⟩
theorem SlIns.bf{f:Nat->Ins}(h:SlIns w a n f):(a=Y/\n=0)∨∃g,a=T g/\NW w g (bK f n):=by
 rcases h with rfl|⟨b,off,rfl,i⟩
 ·cases a with
  |none=>exact .inl ⟨rfl,rfl⟩
  |some g=>exact .inr ⟨g,rfl,λj u l=>by simp[bK] at l⟩
 {exact .inr ⟨_,rfl,qi i⟩}
theorem SlLink.bf (h:SlLink w a n f):(a=Y/\n=0)∨∃g,a=T g/\NW w g (bq f n):=by
 rcases h with rfl|⟨b,off,rfl,i⟩
 ·cases a with
  |none=>exact .inl ⟨rfl,rfl⟩
  |some g=>exact .inr ⟨g,rfl,λj u l=>by simp[bq] at l⟩
 {exact .inr ⟨_,rfl,tk i⟩}
theorem ve (a:Option Addr)(n cap:Nat)(f:Nat->Ins)(w:G)(hn:(n:Int)<=1048576)(o:SlIns w a n f):Calls Pg 114 #[Z a n cap] w λe u=>∃i c,e=ZG (Z i n c)/\u.ownsRow w.heap.size 90 3 (Z i n c) n (bK f n)/\Below w.heap.size w u:=by
 have l:∀w:G,(binOp .eql 39 (Z a n cap) (Z Y 0 0)).run Pg w=.ok (ZC a.isNone) w:=λw=>Lib.run_eql_slice_nil w _ _ _ _ _ _ _ MB;rcases o.bf with ⟨rfl,rfl⟩|⟨A,rfl,h⟩
 {clear o;rw[Option.isNone_none] at l;go_enter func114,ntmps114;go_wp2;go_ret;exact⟨Y,0,rfl,CL _ _ _ _,cM _ _⟩};{rw[Option.isNone_some] at l;have s:=ae ((q9 w).alloc ly (N #[] 90));have z:=ae (h.aa s);clear o h;obtain⟨p,hi,x,q,t⟩:=KQ mW;go_enter func114,ntmps114;go_wp2_with (at_builtin;refine DD _ rfl (.tmp 5) (.tmp 6) 39 rfl w.heap.size 90 p (ZH #[J I 0,U ⟨#[]⟩,J I 0]) 3 32 MB hi x q t rfl (by decide) (Z (T (Q w.heap.size 0 Y)) 0 0) 0 [] (by simp[Act.eval]) (LK w #[] 0 ly (by unfold maxLen;omega) rfl) A n cap (bK f n) (by simp[Act.eval]) (kY f n) z (oq f n) (by unfold maxLen;omega) (by omega) (by simp) ?_;intro v' w2 b g m;simp only[E4,J2] at b;have r:=ae b;have y:=ae (bg s g (by simp) (λj e=>by simp[Value.ownBlock] at e;omega));clear b g m);go_ret;obtain⟨i,c,rfl⟩:=du r.out;exact⟨i,c,rfl,r,y⟩}
theorem tp (a:Option Addr)(n cap:Nat)(f:Nat->Link)(w:G)(hn:(n:Int)<=1048576)(o:SlLink w a n f):Calls Pg 84 #[Z a n cap] w λe u=>∃i c,e=ZG (Z i n c)/\u.ownsRow w.heap.size 68 4 (Z i n c) n (bq f n)/\Below w.heap.size w u:=by
 have l:∀w:G,(binOp .eql 42 (Z a n cap) (Z Y 0 0)).run Pg w=.ok (ZC a.isNone) w:=λw=>Lib.run_eql_slice_nil w _ _ _ _ _ _ _ OB;rcases o.bf with ⟨rfl,rfl⟩|⟨A,rfl,h⟩
 {clear o;rw[Option.isNone_none] at l;go_enter func84,ntmps84;go_wp2;go_ret;exact⟨Y,0,rfl,CL _ _ _ _,cM _ _⟩};{rw[Option.isNone_some] at l;have s:=ae ((q9 w).alloc ly (N #[] 68));have z:=ae (h.aa s);clear o h;obtain⟨p,hi,x,q,t⟩:=KQ kJ;go_enter func84,ntmps84;go_wp2_with (at_builtin;refine DD _ rfl (.tmp 5) (.tmp 6) 42 rfl w.heap.size 68 p (ZH #[U ⟨#[]⟩,ZC ZB,ZC ZB,J I 0]) 4 32 OB hi x q t rfl (by decide) (Z (T (Q w.heap.size 0 Y)) 0 0) 0 [] (by simp[Act.eval]) (LK w #[] 0 ly (by unfold maxLen;omega) rfl) A n cap (bq f n) (by simp[Act.eval]) (eE f n) z (qT f n) (by unfold maxLen;omega) (by omega) (by simp) ?_;intro v' w2 b g m;simp only[E4,J2] at b;have r:=ae b;have y:=ae (bg s g (by simp) (λj e=>by simp[Value.ownBlock] at e;omega));clear b g m);go_ret;obtain⟨i,c,rfl⟩:=du r.out;exact⟨i,c,rfl,r,y⟩}
theorem pj (a:Option Addr)(n cap:Nat)(f:Nat->Ins)(w:G)(hn:(n:Int)<=1048576)(m:SlIns w a n f):Calls Pg 83 #[ZH #[Z a n cap]] w λe o=>∃b c,e=ZG (ZH #[Z b n c])/\o.ownsRow w.heap.size 90 3 (Z b n c) n (bK f n)/\Below w.heap.size w o:=by
 have l:=ae (((q9 w).alloc ly (N #[Z a n cap] 41)).alloc (by simp) (N #[Z Y 0 0] 41));have t:=ae (m.aa l ly);have i:ZW (ZV (ZV w (N #[Z a n cap] 41)) (N #[Z Y 0 0] 41)) (Q (w.heap.size+1) 0 Y)=T (Z Y 0 0):=by simp
 clear m;go_enter func83,ntmps83;go_wp2_with fail;refine(ve a n cap f _ hn t).mono ?_;rintro e q ⟨b,c,rfl,h,g⟩;have s:=(g.cell (p:=(Q (w.heap.size+1) 0 Y)) (by simp)).trans i;have r:=ae (aA (aC (R:=w.heap.size+1) (j:=0) h (by simp) (Z b n c)) (base':=w.heap.size) (by simp;omega));have u:=ae ((l.trans (g.mono (by simp;omega))).setCell (p:=(Q (w.heap.size+1) 0 Y)) (by simp) (Z b n c));have z0:ZX q (Q (w.heap.size+1) 0 Y)=ZB:=(g.frozen (p:=(Q (w.heap.size+1) 0 Y)) (by simp)).trans (by simp);clear h g i;go_wp2;exact bp (v:=ZH #[Z b n c]) (by simp[results,results83,go_sem,s]) rfl ⟨b,c,rfl,r,u⟩
def fu (L:List Nat)(f:Nat->Link)(i:Nat):Nat->Link:=λj=>if j<i then dG L (f j) else f j
theorem qU (L:List Nat)(f:Nat->Link):fu L f 0=f:=by funext j;simp[fu]
theorem tq (L:List Nat)(f:Nat->Link)(n:Nat):bq (fu L f n) n=bq (λj=>dG L (f j)) n:=vd λi hi=>by simp[fu,hi]
theorem qV (h:(f i).ask=ZB):fu L f (i+1)=fu L f i:=by
 funext j;unfold fu;by_cases e:j=i;{subst e;rw[hU (by omega),eT (by omega),dG,eT (by rw[h];simp)]};{by_cases h1:j<i;{rw[hU (by omega),hU h1]};{rw[eT (by omega),eT h1]}}
theorem nK{g:Nat}(h:ZY w b 68 4 (Z (T (Q g 0 Y)) n cap) n (bq f n))(hi:i<n)(x:Int):(ZT w (Q g (i*4+3) Y) (J I x)).ownsRow b 68 4 (Z (T (Q g 0 Y)) n cap) n (bq (λj=>if j=i then { f j with L:=x } else f j) n):=by
 refine⟨eE _ _,?_⟩;rcases h.2 with ⟨h1,_⟩|⟨g',cap',o,t,hb,u,r,s,y,A⟩
 {cases h1}
 ·cases t
  refine .inr ⟨g,cap,o.setIfInBounds (i*4+3) (J I x),rfl,hb,by simp[World.setCell,KZ,u],r,s,by simpa using y,?_⟩;rw[MU,SY,A];refine OD λj=>?_;rw[List.getElem?_set];have hl:=eE f n;by_cases hj:j<n*4
  ·have e:j=j / 4*4+j % 4:=by omega
   have p:j / 4<n:=by omega
   have m:j % 4<4:=PE _ (by omega);rw[e,fe f p _ m,fe _ p _ m];by_cases hji:i*4+3=j
   ·have l:j / 4=i:=by omega
    have z:j % 4=3:=by omega
    rw[hU (by omega),hU (by omega),l,z];simp[dt]
   ·rw[eT (by omega)];by_cases l:j / 4=i
    ·have:j % 4=0∨j % 4=1∨j % 4=2:=by omega
     rw[hU l];rcases this with q|q|q<;>rw[q]<;>simp[dt]
    {rw[eT l]}
  {rw[eT (by omega),LJ (by omega),LJ (by rw[eE];omega)]}
theorem tr (h:(f i).ask=true):fu L f (i+1)=λj=>if j=i then { fu L f i j with L:=((L.idxOf (f i).L.toNat:Nat):Int) } else fu L f i j:=by
 funext j;unfold fu;by_cases e:j=i;{subst e;rw[hU (by omega),hU rfl,eT (by omega),dG,hU h]};{rw[eT e];by_cases h1:j<i;{rw[hU (by omega),hU h1]};{rw[eT (by omega),eT h1]}}
structure AllB (w:G)(base X:Nat)(va:ZD)(R:List DR)(cur:Nat->Nat->Link):Prop where
 y:ZY w base 44 6 va (ZU R) (R.flatMap ddV)
 u:∀(q:Nat) (r:DR),R[q]?=T r->ZY w base 90 3 r.2.1 r.1.l (bK r.1.u r.1.l)
 am:∀(q:Nat) (r:DR),R[q]?=T r->ZY w base 68 4 r.2.2 r.1.f (bq (cur q) r.1.f)
 apart:R.Pairwise λa b=>Apt a.2.2 b.2.2
 top:∀k,va.ownBlock=T k->k<X
 topA:∀(q:Nat) (r:DR),R[q]?=T r->∀k,r.2.1.ownBlock=T k->k<X
 topL:∀(q:Nat) (r:DR),R[q]?=T r->∀k,r.2.2.ownBlock=T k->k<X
theorem DRow.allB{g:Nat}{i:ZD}{R:List DR}(h:DRow w g i R):AllB w g w.heap.size i R (λq=>(rAt R q).1.m) :=
 ⟨h.y,λq r b=>(h.sub r (IN b)).u,λq r b=>by rw[mi b];exact(h.sub r (IN b)).am,h.up.imp λj=>j.2,λk f=>(h.y.lt k f).2,λq r b k f=>((h.sub r (IN b)).u.lt k f).2,λq r b k f=>((h.sub r (IN b)).am.lt k f).2⟩
theorem AllB.keep{j:G}{f:Nat}{l:ZD}{R:List DR}{g:Nat->Nat->Link}(h:AllB w f X l R g)(i:∀k,f<=k->k<X->j.heap[k]?=w.heap[k]?):AllB j f X l R g :=
 ⟨cH h.y λk e _=>i k (h.y.lt k e).1 (h.top k e),λq r b=>cH (h.u q r b) λk e _=>i k ((h.u q r b).lt k e).1 (h.topA q r b k e),λq r b=>cH (h.am q r b) λk e _=>i k ((h.am q r b).lt k e).1 (h.topL q r b k e),h.apart,h.top,h.topA,h.topL⟩
theorem AllB.aa{i:ZD}{R:List DR}{f:Nat->Nat->Link}(h:AllB w b X i R f)(hb:Below B w g)(hB:X<=B):AllB g b X i R f:=h.keep λk _ hX=>hb.block k (by omega)
theorem AllB.set{g:ZD}{R:List DR}{f:Nat->Nat->Link}(h:AllB w b X g R f)(hp:X<=p.block)(v:ZD):AllB (w.setCell p v) b X g R f:=h.keep λk _ hX=>qh _ _ _ _ (by omega)
theorem AllB.congr{j:ZD}{R:List DR}{g f:Nat->Nat->Link}(h:AllB w b X j R g)(l:∀(q:Nat) (r:DR),R[q]?=T r->bq (g q) r.1.f=bq (f q) r.1.f):AllB w b X j R f :=
 ⟨h.y,h.u,λq r i=>by rw[<-l q r i];exact h.am q r i,h.apart,h.top,h.topA,h.topL⟩
theorem AllB.setLink{m:Nat}{A:ZD}{R:List DR}{l:Nat->Nat->Link}(h:AllB w m X A R l){q:Nat}{r:DR}(s:R[q]?=T r){g c k:Nat}(p:r.2.2=Z (T (Q g 0 Y)) r.1.f c)(ZS:k<r.1.f)(x:Int):AllB (ZT w (Q g (k*4+3) Y) (J I x)) m X A R (λf=>if f=q then (λj=>if j=k then { l q j with L:=x } else l q j) else l f):=by
 have z:=h.am q r s;rw[p] at z;have D:=eF z g rfl
 have far:∀{e:ZI} (i:Nat),OfTy w i e->e≠68->(ZT w (Q g (k*4+3) Y) (J I x)).heap[i]?=w.heap[i]?:=λi o C=>qh _ _ _ _ (λe=>by
  subst e
  exact D.ne C o)
 refine⟨cH h.y λi _ o=>far i o (by decide),λf y b=>cH (h.u f y b) λi _ o=>far i o (by decide),λf y b=>?_,h.apart,h.top,h.topA,h.topL⟩;by_cases e:f=q
 ·subst e;rw[s] at b;cases b
  rw[hU rfl,p];exact nK z ZS x
 {rw[eT e];refine cH (h.am f y b) λi t _=>qh _ _ _ _ λH=>?_;subst H;have hi:=(j2.1 s).1;have u:=(j2.1 b).1;have B:=(j2.1 s).2;have E:=(j2.1 b).2;rcases UG e with n|n;{have:=LD.1 h.apart f q u hi n;rw[B,E,Apt,t,p] at this;simp[Value.ownBlock] at this};{have:=LD.1 h.apart q f hi u n;rw[B,E,Apt,t,p] at this;simp[Value.ownBlock] at this}}
theorem AllB.rows{f base2 c:Nat}{L:ZD}{R:List DR}{b:Nat->Nat->Link}{pre:List Nat}(h:AllB w f X L R b)(p:ZY w base2 44 6 (Z a (ZU pre) c) (ZU pre) ((pre.map (rAt R)).flatMap ddV))(s:∀q∈pre,q<ZU R)(g:Nat->af)
  (M:∀i (hi:i<ZU pre),(g i).e=(rAt R pre[i]).1.e/\(g i).H=(rAt R pre[i]).1.H/\(g i).E=(rAt R pre[i]).1.E/\(g i).B=(rAt R pre[i]).1.B/\(g i).l=(rAt R pre[i]).1.l/\(g i).u=(rAt R pre[i]).1.u/\(g i).f=(rAt R pre[i]).1.f/\bq (g i).m (g i).f=bq (b pre[i]) (g i).f):SlDeed w a (ZU pre) g:=by
 by_cases hz:ZU pre=0;{exact .inl hz}
 ·obtain⟨gb,c',e⟩:=bV p (by omega);cases e
  refine .inr ⟨gb,0,rfl,(cu p).2,λi hi=>?_⟩;obtain⟨t,ZQ,ZP,H,o,A,l,y⟩:=M i hi;have D:=s pre[i] (gz hi);have C:R[pre[i]]?=T (rAt R pre[i]):=by rw[gq D];exact CD T (mi (gq D)).symm
  have ZO:(pre.map (rAt R))[i]?=T (rAt R pre[i]):=by rw[HU,gq hi];rfl
  have c:∀j,j<6->∀u,(ddV (rAt R pre[i]))[j]?=T u->ZW w (Q gb (0+i*6+j) Y)=T u:=λj ZN u ZM=>by rw[show 0+i*6+j=i*6+j by omega];exact(a8 p (j:=i*6+j) (u:=u) (by rw[cL ddV 6 (λ_=>rfl) _ i j ZN _ ZO];exact ZM)).1
  have ZS:=h.u _ _ C;have hL:=h.am _ _ C;generalize rAt R pre[i]=r at ZS hL c t ZQ ZP H o A l;have K:DSub w f ({ e:=r.1.e,H:=r.1.H,E:=r.1.E,B:=r.1.B,l:=r.1.l,u:=r.1.u,f:=r.1.f,m:=b pre[i] },r.2):=⟨ZS,hL⟩
  obtain⟨z,c4,O,S⟩:=K.ins;obtain⟨n,c5,E,h5⟩:=K.m;refine⟨by rw[t];exact c 0 (by omega) _ rfl,by rw[ZQ];exact c 1 (by omega) _ rfl,by rw[ZP];exact c 2 (by omega) _ rfl,by rw[H];exact c 3 (by omega) _ rfl,⟨z,c4,by rw[o,<-show r.2.1=Value.slice z r.1.l c4 from O];exact c 4 (by omega) _ rfl,by rw[o,A];exact S⟩,⟨n,c5,by rw[l,<-show r.2.2=Value.slice n r.1.f c5 from E];exact c 5 (by omega) _ rfl,?_⟩⟩;rw[l];rw[l] at y;by_cases x:r.1.f=0;{exact .inl x}
  ·obtain⟨P,cl,B⟩:=bV hL (by omega);rw[B] at hL;have m:r.2.2=Value.slice n r.1.f c5:=E;rw[B] at m;cases m
   rw[<-y] at hL;exact .inr ⟨P,0,rfl,tm hL⟩
