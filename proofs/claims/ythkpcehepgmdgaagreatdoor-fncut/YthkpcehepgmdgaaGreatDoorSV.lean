import Derived.Deep.RegionHeld3
import Derived.Test.YthkpcehepgmdgaaGreatDoorSN
import Derived.OrdersHeld
import Derived.OrdersIn
set_option maxRecDepth 100000
set_option maxHeartbeats 4000000
set_option linter.unusedSimpArgs false
open Go renaming Addr.mk->Q,Value.slice->Z,Value.string->U,Value.int->J,Value.agg->ZH,Obj.cells->N,IntKind.i64->I,World->G,Value->ZD,TypeId->ZI,Ending.returned->ZG,World.heap->h,World.alloc->ZV,World.cell?->ZW,World.frozen?->ZX,World.setCell->ZT,Proofs.Tryz.prog->Pg
open Option renaming none->Y,some->T
open Bool renaming false->ZB,true->ZF
open Array renaming size->A
open List renaming length->ZU
namespace Go.Proofs.YthkpcehepgmdgaaGreatDoor.Ca
open RowKit
theorem yd {l n:Nat}{P:Program}{o:Oper}{a:Act}{K j:Act->G->Prop}{ZN:Exit->Act->G->Prop}{r:Result Next}(b:∀a w,K a w->j a w)(ZZ:o.upon P a K ZN r):o.uponIn (Fence.wide.inRound l) n P a j ZN r:=by
 cases r with
 |ok x s =>
  cases x<;>simp only[Oper.upon,Oper.uponIn] at ZZ ⊢
  case value=>exact b _ _ ZZ
  case skip=>exact b _ _ ZZ
  case defer=>exact b _ _ ZZ
  case enter f args =>
   refine⟨(λZZ=>by cases ZZ),CallsIn.inRound l (callsIn_wide.2 (Calls.mono ZZ λe g i=>?_))⟩;cases e with
   |returned u=>exact b _ _ i
   |panicked c=>exact i
   |outgrown=>exact i
  case row row args =>refine⟨(λZZ=>by cases ZZ),λc m _=>?_⟩;obtain⟨v,g,p,q⟩:=ZZ c m;exact⟨v,g,b _ _ p,(stepsIn_wide (P:=P)).2 q⟩
 |halt x s =>cases x<;>simp only[Oper.upon,Oper.uponIn] at ZZ ⊢<;>exact ZZ
def ni (b:Array Oper):Bool:=b.toList.all λo=>match o.op with
 |.defer _=>ZB
 |_=>ZF
theorem ye {b:Array Oper}(ZZ:ni b=ZF){i:Nat}{o:Oper}(f:b[i]?=T o):∀c,o.op≠.defer c:=by
 intro c g
 have h1:=List.all_eq_true.1 ZZ o (by
  rw[<-Array.getElem?_toList] at f
  exact List.mem_of_getElem? f)
 rw[g] at h1;cases h1
theorem yg {l n:Nat}{P:Program}{b:Array Oper}{ZN:Exit->Act->G->Prop}(p:ni b=ZF)(m:¬ LetsOut ZN){i:Nat}{K j:Act->G->Prop}{a:Act}{w:G}(f:∀a w,K a w->j a w)(ZZ:wpOp P b ZN i K a w):wpOpIn (Fence.wide.inRound l) n P b ZN i j a w:=by
 unfold wpOp at ZZ;unfold wpOpIn;cases ho:b[i]? with
 |none=>simp only[ho] at ZZ ⊢;exact f _ _ ZZ
 |some o =>
  simp only[ho] at ZZ ⊢;split
  ·rename_i g;simp only[g,if_true] at ZZ;rcases ZZ with ZZ|⟨_,ZZ⟩
   {refine⟨λ_ _=>trivial,?_⟩;rw[Oper.semAt_plain _ _ _ (ye p ho)];exact yd f ZZ};{exact absurd ZZ m}
  {rename_i g;simp only[g] at ZZ;exact⟨λ_ _=>trivial,f _ _ ZZ⟩}
theorem nP {l n:Nat}{P:Program}{j:Region.Mode}{g:Array Oper}{ZN:Exit->Act->G->Prop}(o:ni g=ZF)(m:¬ LetsOut ZN):∀(b:Nat) (f:Array Bool) (a:Act) (w:G),wpAny P j g ZN b f a w->wpAnyIn (Fence.wide.inRound l) n P j g ZN b f a w
 |0,_,_,_,ZZ=>ZZ
 |b+1,_,_,_,ZZ=>⟨ZZ.1,λi hi=>yg o m (λr p q=>nP o m b _ r p q) (ZZ.2 i hi)⟩
theorem nJ {l n id:Nat}{P:Program}{b:Array Oper}{ZN:Exit->Act->G->Prop}{a:Act}{w:G}(S:G->Prop)(f:P.follows .mixedOrders=ZF)(g:ni b=ZF)(i:¬ LetsOut ZN)
  (ZZ:wpAnyH P .any b ZN S b.size (Array.replicate b.size ZB) a w.drew):(Code.region id b ZF).wpIn (Fence.wide.inRound l) n P ZN a w :=
 wpIn_region_any f (nP g i _ _ _ _ (wpAny_of_held _ _ _ _ ZZ))
end Go.Proofs.YthkpcehepgmdgaaGreatDoor.Ca
namespace Go.Proofs.YthkpcehepgmdgaaGreatDoor.Vp
open RowKit Go.Shelf Ca
attribute [local go_sem] TU
theorem Cb:(Pg.info? 3).map (λi=>(i.zero,i.size,i.bytes))=T (T (J I 0),1,8):=by kernel_rfl
def eh (n:Nat):Array ZD:=madeCells (Value.int I 0).cells n
theorem GP (n:Nat)(hn:n<=1048576)(w:G):(Instr.makeSlice 64 (J I (n:Int)) (J I (n:Int))).run Pg w=.ok (Z (T (Q (A (h w)) 0 Y)) n n) (w.alloc (N (eh n) 3)):=by obtain⟨i,hi,hz⟩:=MP.1 Cb;simp only[KJ] at hz;obtain⟨h1,h2,b⟩:=hz;have ZZ:=run_make (P:=Pg) w 64 3 i _ Tryz.underlying64 hi h1 I I n n (by omega) (TF _) (by rw[b];omega) (by omega);rw[h2] at ZZ;simpa[eh] using ZZ
theorem vB (n q:Nat)(ZZ:q<n):(eh n)[q]?=T (J I 0):=by unfold eh madeCells;simp[Value.cells,ZZ,Nat.mod_one]
theorem Gb (W:G)(n q:Nat)(ZZ:q<n):(W.alloc (N (eh n) 3)).cell? (Q (A (h W)) q Y)=T (J I 0)/\(W.alloc (N (eh n) 3)).frozen? (Q (A (h W)) q Y)=ZB:=by
 have e:=nD W (N (eh n) 3);refine⟨?_,?_⟩;{rw[cell_of_row _ _ _ _ _ _ e];exact vB n q ZZ};{unfold World.frozen?;rw[e];simp}
theorem iD (W:G)(v:ZD)(t:ZI):ZW (ZV W (N #[v] t)) (Q (A (h W)) 0 Y)=T v/\ZX (ZV W (N #[v] t)) (Q (A (h W)) 0 Y)=ZB:=by constructor<;>simp
structure LiB (W:G)(ZZ n:Nat)(v vo:ZD)(pl:Nat->Int):Prop where
 size:ZZ+6<=A (h W)
 a:ZW W (Q ZZ 0 Y)=T v
 r:ZW W (Q (ZZ+1) 0 Y)=T (Z Y 0 0)/\ZX W (Q (ZZ+1) 0 Y)=ZB
 row:∀q,q<n->ZW W (Q (ZZ+2) q Y)=T (J I (pl q))/\ZX W (Q (ZZ+2) q Y)=ZB
 pb:ZW W (Q (ZZ+3) 0 Y)=T (Z (T (Q (ZZ+2) 0 Y)) n n)
 o:ZW W (Q (ZZ+4) 0 Y)=T vo/\ZX W (Q (ZZ+4) 0 Y)=ZB
 c:ZW W (Q (ZZ+5) 0 Y)=T v
theorem Gc (w:G)(n:Nat)(v:ZD)(t u:ZI):LiB (((((ZV (ZV w (N #[v] t)) (N #[Z Y 0 0] t)).alloc (N (eh n) 3)).alloc (N #[Z (T (Q (A (h w)+2) 0 Y)) n n] u)).alloc (N #[Z Y 0 0] t)).alloc (N #[v] t)) (A (h w)) n v (Z Y 0 0) (λ_=>0):=by
 obtain⟨ZZ,B⟩:∃ZZ,ZV w (N #[v] t)=ZZ:=⟨_,rfl⟩
 obtain⟨g,y⟩:∃g,ZV ZZ (N #[Z Y 0 0] t)=g:=⟨_,rfl⟩
 obtain⟨b,r⟩:∃b,g.alloc (N (eh n) 3)=b:=⟨_,rfl⟩
 obtain⟨f,x⟩:∃f,ZV b (N #[Z (T (Q (A (h w)+2) 0 Y)) n n] u)=f:=⟨_,rfl⟩
 obtain⟨j,z⟩:∃j,ZV f (N #[Z Y 0 0] t)=j:=⟨_,rfl⟩
 obtain⟨i,s⟩:∃i,ZV j (N #[v] t)=i:=⟨_,rfl⟩
 rw[B,y,r,x,z,s];have z1:A (h ZZ)=A (h w)+1:=by rw[<-B];simp
 have z2:A (h g)=A (h w)+2:=by rw[<-y];simp;omega
 have z3:A (h b)=A (h w)+3:=by rw[<-r];simp;omega
 have K:A (h f)=A (h w)+4:=by rw[<-x];simp;omega
 have ZP:A (h j)=A (h w)+5:=by rw[<-z];simp;omega
 have z6:A (h i)=A (h w)+6:=by rw[<-s];simp;omega
 have m:Below (A (h j)) j i:=by rw[<-s];exact br.alloc ly _
 have ZY:Below (A (h f)) f i:=(by rw[<-z];exact br.alloc ly _:Below (A (h f)) f j).trans (m.mono (by omega));have o:Below (A (h b)) b i:=(by rw[<-x];exact br.alloc ly _:Below (A (h b)) b f).trans (ZY.mono (by omega));have l:Below (A (h g)) g i:=(by rw[<-r];exact br.alloc ly _:Below (A (h g)) g b).trans (o.mono (by omega));have ZS:Below (A (h ZZ)) ZZ i:=(by rw[<-y];exact br.alloc ly _:Below (A (h ZZ)) ZZ g).trans (l.mono (by omega));have n1:=iD w v t;have C:=iD ZZ (Z Y 0 0) t;have ZQ:=iD b (Z (T (Q (A (h w)+2) 0 Y)) n n) u;have E:=iD f (Z Y 0 0) t;have H:=iD j v t;rw[B] at n1;rw[y,z1] at C;rw[x,z3] at ZQ;rw[z,K] at E;rw[s,ZP] at H;refine⟨by omega,(ZS.cell (p:=(Q (A (h w)) 0 Y)) (by show (A (h w))<_;omega)).trans n1.1,⟨(l.cell (p:=(Q (A (h w)+1) 0 Y)) (by show (A (h w))+1<_;omega)).trans C.1,(l.frozen (p:=(Q (A (h w)+1) 0 Y)) (by show (A (h w))+1<_;omega)).trans C.2⟩,λq L=>?_,(ZY.cell (p:=(Q (A (h w)+3) 0 Y)) (by show (A (h w))+3<_;omega)).trans ZQ.1,⟨(m.cell (p:=(Q (A (h w)+4) 0 Y)) (by show (A (h w))+4<_;omega)).trans E.1,(m.frozen (p:=(Q (A (h w)+4) 0 Y)) (by show (A (h w))+4<_;omega)).trans E.2⟩,H.1⟩;have D:=Gb g n q L;rw[r,z2] at D;exact⟨(o.cell (p:=(Q (A (h w)+2) q Y)) (by show (A (h w))+2<_;omega)).trans D.1,(o.frozen (p:=(Q (A (h w)+2) q Y)) (by show (A (h w))+2<_;omega)).trans D.2⟩
theorem LiB.aa {W g:G}{ZZ n B:Nat}{v l:ZD}{pl:Nat->Int}(b:LiB W ZZ n v l pl)(hb:Below B W g)(hB:ZZ+6<=B):LiB g ZZ n v l pl:=by have c:∀k o,k<B->ZW g (Q k o Y)=ZW W (Q k o Y):=λk o i=>hb.cell (p:=(Q k o Y)) i;have f:∀k o,k<B->ZX g (Q k o Y)=ZX W (Q k o Y):=λk o i=>hb.frozen (p:=(Q k o Y)) i;exact⟨AD b.size hb.size,(c _ _ (by omega)).trans b.a,⟨(c _ _ (by omega)).trans b.r.1,(f _ _ (by omega)).trans b.r.2⟩,λq j=>⟨(c _ _ (by omega)).trans (b.row q j).1,(f _ _ (by omega)).trans (b.row q j).2⟩,(c _ _ (by omega)).trans b.pb,⟨(c _ _ (by omega)).trans b.o.1,(f _ _ (by omega)).trans b.o.2⟩,(c _ _ (by omega)).trans b.c⟩
theorem LiB.W {W:G}{ZZ n f:Nat}{v i:ZD}{pl:Nat->Int}(b:LiB W ZZ n v i pl)(hq0:f<n)(x:Int):LiB (ZT W (Q (ZZ+2) f Y) (J I x)) ZZ n v i (λq=>if q=f then x else pl q):=by
 have c:∀k o,k≠ZZ+2->ZW (ZT W (Q (ZZ+2) f Y) (J I x)) (Q k o Y)=ZW W (Q k o Y):=λk o j=>cell_far _ _ _ _ (by simpa using λe=>j e.symm);refine⟨by simpa using b.size,(c _ _ (by omega)).trans b.a,⟨(c _ _ (by omega)).trans b.r.1,by simpa using b.r.2⟩,λq g=>⟨?_,by simpa using(b.row q g).2⟩,(c _ _ (by omega)).trans b.pb,⟨(c _ _ (by omega)).trans b.o.1,by simpa using b.o.2⟩,(c _ _ (by omega)).trans b.c⟩;by_cases e:q=f;{subst e;rw[hU rfl];exact AT _ _ _ (by rw[(b.row q g).1];rfl)};{rw[eT e,sq _ _ _ _ (by simp)];exact(b.row q g).1}
theorem LiB.out {W:G}{ZZ n:Nat}{v i:ZD}{pl:Nat->Int}(b:LiB W ZZ n v i pl)(u:ZD):LiB (ZT W (Q (ZZ+4) 0 Y) u) ZZ n v u pl:=by have c:∀k o,k≠ZZ+4->ZW (ZT W (Q (ZZ+4) 0 Y) u) (Q k o Y)=ZW W (Q k o Y):=λk o g=>cell_far _ _ _ _ (by simpa using λe=>g e.symm);exact⟨by simpa using b.size,(c _ _ (by omega)).trans b.a,⟨(c _ _ (by omega)).trans b.r.1,by simpa using b.r.2⟩,λq f=>⟨(c _ _ (by omega)).trans (b.row q f).1,by simpa using(b.row q f).2⟩,(c _ _ (by omega)).trans b.pb,⟨AT _ _ _ (by rw[b.o.1];rfl),by simpa using b.o.2⟩,(c _ _ (by omega)).trans b.c⟩
def oD (b:List Nat)(q:Nat):Int:=if q∈b then ((b.idxOf q:Nat):Int) else 0
theorem zN {b:List Nat}{x:Nat}(ZZ:x ∉ b):oD (b++[x])=λq=>if q=x then (ZU b:Int) else oD b q:=by
 funext q;unfold oD;by_cases e:q=x;{subst e;rw[hU (by simp),hU rfl,OJ,eT ZZ];simp};{rw[eT e];by_cases f:q∈b;{rw[hU (by simp[f]),hU f,OJ,hU f]};{rw[eT (by simp[f,e]),eT f]}}
def ListS (ZZ b off n cap q:Nat)(a0:Option Addr)(g:Nat)(a1:Option Addr)(f:Nat)(x:af)(W:G):Prop :=
 ZW W (Q ZZ 0 Y)=T (Z (T (Q b off Y)) n cap)/\ZW W (Q (ZZ+3) 0 Y)=T (Z (T (Q (ZZ+2) 0 Y)) n n)/\ZW W (Q b (off+q*6) Y)=T (U x.e)/\ZW W (Q b (off+q*6+1) Y)=T (J I x.H)/\ZW W (Q b (off+q*6+2) Y)=T (J I x.E)/\ZW W (Q b (off+q*6+3) Y)=T (U x.B)/\ZW W (Q b (off+q*6+4) Y)=T (Z a0 x.l g)/\ZW W (Q b (off+q*6+5) Y)=T (Z a1 x.f f)
theorem ListS.aa {ZZ b off n cap q i f B:Nat}{a0 a1:Option Addr}{x:af}{W g:G}(s:ListS ZZ b off n cap q a0 i a1 f x W)(hb:Below B W g)(h1:ZZ+3<B)(h2:b<B):ListS ZZ b off n cap q a0 i a1 f x g:=by obtain⟨s0,s1,t,m,l,r,j,o⟩:=s;exact⟨(hb.cell (p:=(Q ZZ _ Y)) (by show ZZ<B;omega)).trans s0,(hb.cell (p:=(Q (ZZ+3) _ Y)) h1).trans s1,(hb.cell (p:=(Q b _ Y)) h2).trans t,(hb.cell (p:=(Q b _ Y)) h2).trans m,(hb.cell (p:=(Q b _ Y)) h2).trans l,(hb.cell (p:=(Q b _ Y)) h2).trans r,(hb.cell (p:=(Q b _ Y)) h2).trans j,(hb.cell (p:=(Q b _ Y)) h2).trans o⟩
theorem ListS.set {ZZ b off n cap q g f:Nat}{a0 a1:Option Addr}{x:af}{W:G}(s:ListS ZZ b off n cap q a0 g a1 f x W)(h2:b<ZZ)(v:ZD):ListS ZZ b off n cap q a0 g a1 f x (ZT W (Q (ZZ+4) 0 Y) v):=by obtain⟨s0,s1,t,m,l,r,j,p⟩:=s;have c:∀k o,k≠ZZ+4->ZW (ZT W (Q (ZZ+4) 0 Y) v) (Q k o Y)=ZW W (Q k o Y):=λk o i=>cell_far _ _ _ _ (by simpa using λe=>i e.symm);exact⟨(c _ _ (by omega)).trans s0,(c _ _ (by omega)).trans s1,(c _ _ (by omega)).trans t,(c _ _ (by omega)).trans m,(c _ _ (by omega)).trans l,(c _ _ (by omega)).trans r,(c _ _ (by omega)).trans j,(c _ _ (by omega)).trans p⟩
theorem rp (w:G)(g m l i f b:ZD)(t:ZI):∀j u,[g,m,l,i,f,b][j]?=T u->(ZV w (N #[g,m,l,i,f,b] t)).cell? (((Q (A (h w)) 0 Y):Addr).add j)=T u:=by
 intro j u n;have hj:j<6:=by have:=(j2.1 n).1;simpa using this
 have ZZ:=fT w g m l i f b t;rw[addr_add,E4];rcases(show j=0∨j=1∨j=2∨j=3∨j=4∨j=5 by omega) with rfl|rfl|rfl|rfl|rfl|rfl;all_goals simp only[Q3,Q9,KN] at n;subst n
 {exact ZZ.c0.1};{exact ZZ.c1.1};{exact ZZ.c2.1};{exact ZZ.c3.1};{exact ZZ.c4.1};{exact ZZ.c5.1}
theorem lE {w t o g b:G}{n ZO:Nat}{v i f:ZD}{R:List DR}{r:DR}{pl:Nat->Int}(hN:A (h w)+6<=ZO)(h2:A (h w)+6<=A (h o))(ZY:Upd2 44 (A (h w)) ZO t g)(D:Below (A (h w)) w g)(u:LiB g (A (h w)) n v i pl)(B:DRow o (A (h w)+6) i R)(q:DRow g (A (h w)+6) i R)(E:DSub g (A (h o)) r)
  (s:b.ownsRow (A (h w)+6) 44 6 f (ZU R+1) (R.flatMap ddV++ddV r)) (l:g.grownBy b i.ownBlock):Below (A (h w)+6) g b/\LiB b (A (h w)) n v i pl/\Upd2 44 (A (h w)) ZO t (ZT b (Q (A (h w)+4) 0 Y) f)/\LiB (ZT b (Q (A (h w)+4) 0 Y) f) (A (h w)) n v f pl/\DRow (ZT b (Q (A (h w)+4) 0 Y) f) (A (h w)+6) f (R++[r])/\Below (A (h w)) w (ZT b (Q (A (h w)+4) 0 Y) f):=by
 have ZZ:Below (A (h w)+6) g b:=bg br l (by have:=u.size;omega) (λj e=>(q.y.lt j e).1);have x:=u.aa ZZ ly;have z:=B.more q h2 E s l
 have C:Upd2 44 (A (h w)) ZO g b:=⟨ZZ.os,ZZ.tape,ZZ.output,ZZ.size,λk y m=>by
  rcases m with m|⟨_,m⟩
  {exact ZZ.block k (by omega)}
  ·exact l.block k y (λe=>m (eF q.y k e.symm))⟩
 exact⟨ZZ,x,(ZY.trans C).trans (Upd2.setCell b (p:=(Q (A (h w)+4) 0 Y)) (by show (A (h w))<=A (h w)+4;omega) (.inl (by show (A (h w))+4<ZO;omega)) f),x.out f,z.set (e:=0) (.inl (by show (A (h w))+4<A (h w)+6;omega)) f,(D.trans (ZZ.mono (by omega))).setCell (by show (A (h w))<=A (h w)+4;omega) f⟩
theorem EN {b L:List Nat}{q y:Nat}(ZZ:b++[q] <+: L)(f:y∈b):oD (b++[q]) y=((L.idxOf y:Nat):Int):=by obtain⟨t,rfl⟩:=ZZ;have g:y∈b++[q]:=KM _ f;unfold oD;rw[hU g,OJ,OJ,hU f,hU g,OJ,hU f]
theorem yi (b off n cap:Nat)(f:Nat->af)(w:G)(hA:cG f n)(hn1:1<=n)(hn:(n:Int)<=400)(hf:RowDeed w b off n f)(hlk:∀p,p<n->(f p).f<=200)(ro:∀p,p<n->bJ (f p)):Calls Pg 20 #[ZH #[Z (T (Q b off Y)) n cap]] w λe w'=>∃a c R,e=ZG (ZH #[Z a (ZU R) c])/\DRow w' (A (h w)+6) (Z a (ZU R) c) R/\R.map (·.1)=bs f (n - 1)/\Below (A (h w)) w w':=by
 refine(callsIn_wide (n:=3)).1 ?_;have HF:=ae hf;have HA:=ae hA;have Hq:=ae hlk;have DS:=ae ro;clear hf hA hlk ro;have Fk:=((((((q9 w).alloc ly (N #[Z (T (Q b off Y)) n cap] 25)).alloc (by simp) (N #[Z Y 0 0] 25)).alloc (by simp;omega) (N (eh n) 3)).alloc (by simp;omega) (N #[Z (T (Q (A (h w)+2) 0 Y)) n n] 64)).alloc (by simp;omega) (N #[Z Y 0 0] 25)).alloc (by simp;omega) (N #[Z (T (Q b off Y)) n cap] 25);have A0:=ae Fk;clear Fk;have O0:=ae (Gc w n (Z (T (Q b off Y)) n cap) 25 64);have Hm:=λw=>GP n (by omega) w;refine callsIn_of_wp_marks Tryz.func20 rfl trivial ?_ rfl;simp only[Tryz.ntmps20,MX,p6,J1,Nat.reduceAdd,Nat.reduceSub,NJ,NK,OH,NN,J2,LQ];gi_wp2_with (refine⟨trivial,?_⟩;gi_at_call 46;refine(kZ _ _ _).mono ?_;rintro e w' ⟨rfl,rfl⟩);generalize ((((ZV (ZV w (N #[Z (T (Q b off Y)) n cap] 25)) (N #[Z Y 0 0] 25)).alloc (N (eh n) 3)).alloc (N #[Z (T (Q (A (h w)+2) 0 Y)) n n] 64)).alloc (N #[Z Y 0 0] 25)).alloc (N #[Z (T (Q b off Y)) n cap] 25)=W at A0 O0 ⊢;obtain⟨p0,GS⟩:∃p0,n=p0+1:=⟨n - 1,by omega⟩
 obtain⟨L,hL⟩:∃L,L=(aw f n).map λz=>z.1:=⟨_,rfl⟩
 have sm:Hid (L=bC f (n - 1)):=by show L=_;rw[hL,GS];exact sU p0
 have Hp:Hid (fP f [] L):=by show fP f [] L;rw[sm.out];exact mf HA.out (by omega)
 have Bk:=ae hL;clear hL GS Hm;have DQ:=O0.out.size;refine nI (ZM:=44) (B:=4) (F:=Fence.wide) rfl (by omega) (gf:=81) (lb:=#[.pointer (T (Q (A (h w)+5) 0 Y))]) rfl trivial (enters_of Tryz.func81 (by kernel_rfl) rfl) (base:=A (h w)) (by omega)
  (mo (ZM:=44) ⟨by decide,by decide⟩ w b off n cap (A (h w)+5) (3 - 1) f W HA.out hn1 hn HF.out Hq.out A0.out O0.out.c (by omega)) br (λ_=>rfl)
  (λS Wx=>∃vo R,Hid (LiB Wx (A (h w)) n (Z (T (Q b off Y)) n cap) vo (oD (S.map λz=>z.1)))/\Hid (DRow Wx (A (h w)+6) vo R)/\Hid (R.map (·.1)=(S.map λz=>z.1).map (mv f L))/\Hid (Below (A (h w)) w Wx))
  (λ_ _ _=>False)
  (λs ZY C ZZ hB=>by
   obtain⟨vo,R,h1,h2,h3,h4⟩:=ZZ
   exact⟨vo,R,h1.out.aa hB.low (by omega),h2.out.itr hB,h3,h4.out.trans (hB.low.mono (by omega))⟩)
  (λ_ _ _ _ ZZ _=>ZZ.elim)
  ⟨Z Y 0 0,[],O0.out,fB _ _,rfl,A0.out⟩
  (λx=>{ tmps:=#[ZH #[Z (T (Q b off Y)) n cap],.pointer (T (Q (A (h w)) 0 Y)),.pointer (T (Q (A (h w)+1) 0 Y)),.pointer (T (Q (A (h w)+3) 0 Y)),.pointer (T (Q (A (h w)+4) 0 Y)),J I (x.1:Int),.pointer (T (Q (A (h w)) 0 Y)),Z (T (Q b off Y)) n cap,J I (n:Int),Z (T (Q (A (h w)+2) 0 Y)) n n,ZH #[Z (T (Q b off Y)) n cap],.func (.func 81) #[] #[.pointer (T (Q (A (h w)+5) 0 Y))],J I (x.1:Int),J I (x.2:Int),undef,undef,undef,undef,undef,undef,undef,undef,undef,undef,undef,undef,undef,undef,undef,undef,undef,undef,undef],defers:=[] }) ?assign ?body ?done ?stop
 case assign =>intro l x W K m;gi_wp2;exact m
 case stop =>rintro D0 c S W1 hD la ZZ m;exact ZZ.elim
 case done =>rintro D0 ys W1 hD rfl ⟨vo,R,LB,DB,HM,HB⟩ m;obtain⟨ZK,ZL,rfl⟩:=du DB.out.y;obtain⟨hr,hrf⟩:=LB.out.r;have ho:=LB.out.o.1;have K1:=ae ((KeepsOthers.setCell W1 (Q (A (h w)+1) 0 Y) (Z ZK (ZU R) ZL)).same D0 _ m rfl);have B1:=ae (HB.out.setCell (p:=(Q (A (h w)+1) 0 Y)) (by show _<=_+1;omega) (Z ZK (ZU R) ZL));have C1:=ae (AT W1 (Q (A (h w)+1) 0 Y) (Z ZK (ZU R) ZL) (by rw[hr];rfl));have D1:=ae (DB.out.set (p:=(Q (A (h w)+1) 0 Y)) (e:=0) (.inl (by show (A (h w))+1<A (h w)+6;omega)) (Z ZK (ZU R) ZL));gi_wp2;refine⟨by simp,.inl ⟨_,_,rfl,run_takeDeferred K1.out,?_⟩⟩;have P1:Itr 4 (A (h W)) (ZT W1 (Q (A (h w)+1) 0 Y) (Z ZK (ZU R) ZL)) _:=Itr.putObj (ZT W1 (Q (A (h w)+1) 0 Y) (Z ZK (ZU R) ZL)) hD (A9.1 K1.out).1 (λc e z ZZ=>by have:=K1.out.symm.trans ZZ;cases this) (.deferred Y);have c:=(P1.low.cell (p:=(Q (A (h w)+1) 0 Y)) (by show (A (h w))+1<A (h W);omega)).trans C1.out;refine⟨ZH #[Z ZK (ZU R) ZL],by simp[results,Tryz.results20,go_sem,c],ZK,ZL,R,rfl,D1.out.itr P1,?_,B1.out.trans (P1.low.mono (by omega))⟩;rw[HM.out,<-Bk.out,sm.out];rfl
 case body =>
  rintro l S ⟨q,dd⟩ W1 ⟨bt,la⟩ ⟨vo,R,LB,DB,HM,HB⟩ hz;dsimp only at bt;have ur:Hid (q ∉ S.map (λz=>z.1)/\∀i,i<(f q).f->((f q).m i).ask=ZF->((f q).m i).L.toNat∈S.map (λz=>z.1)):=by obtain⟨t,ht⟩:=la;have:=kQ (p:=S.map λz=>z.1) (x:=q) (q:=t.map λz=>z.1) Hp.out (by rw[Bk.out,<-ht];simp);rw[J2] at this;exact this
  have hpl:Hid ((S.map λz=>z.1)++[q] <+: L):=by obtain⟨t,ht⟩:=la;exact⟨t.map λz=>z.1,by rw[Bk.out,<-ht];simp⟩
  generalize hP:S.map (λz=>z.1)=pr at LB HM ur hpl;have ex:=ae hP;clear hP la;have Fd:ZU R=ZU pr:=by have:=CD List.length HM.out;simpa using this
  have Ho:ZU pr+1<=400:=by have h1:=hpl.out.length_le;have h2:=(gS HA.out (show n - 1<n by omega)).1;rw[<-sm.out] at h2;simp at h1;omega
  have Hn:=ae Fd;have hR4:(ZU R:Int)<=400:=by omega
  clear Fd Ho;obtain⟨ZK,ZL,rfl⟩:=du DB.out.y;have hq0:(0:Int)<=(q:Int):=by omega
  have hqn:(q:Int)<n:=by omega
  obtain⟨r0,z0⟩:=LB.out.row q bt;obtain⟨o0,y0⟩:=LB.out.o;have Hl:=LB.out.pb;have V:Hid (LiB (ZT W1 (Q (A (h w)+2) q Y) (J I (ZU R:Int))) (A (h w)) n (Z (T (Q b off Y)) n cap) (Z ZK (ZU R) ZL) (oD (pr++[q]))):=by show LiB _ _ _ _ _ _;rw[zN ur.out.1,<-Hn.out];exact LB.out.W bt _
  have D2:=ae (DB.out.set (p:=(Q (A (h w)+2) q Y)) (e:=0) (.inl (by show (A (h w))+2<A (h w)+6;omega)) (J I (ZU R:Int)));have B2:=ae (HB.out.setCell (p:=(Q (A (h w)+2) q Y)) (by show (A (h w))<=A (h w)+2;omega) (J I (ZU R:Int)));have U2:=ae (Upd2.setCell (ZM:=44) (base:=A (h w)) (n₀:=A (h W)) W1 (p:=(Q (A (h w)+2) q Y)) (by show (A (h w))<=A (h w)+2;omega) (.inl (by show (A (h w))+2<A (h W);omega)) (J I (ZU R:Int)));gi_wp2_with fail;generalize ZT W1 (Q (A (h w)+2) q Y) (J I (ZU R:Int))=u at V D2 B2 U2 ⊢;clear r0 z0 o0 y0 Hl LB DB HB;obtain⟨c0,c1,c2,c3,⟨a0,e0,c4,h4⟩,⟨a1,e1,c5,h5⟩⟩:=(HF.out.aa B2.out ly).2 q bt;have ca:=V.out.a;have cp:=V.out.pb;obtain⟨co1,co2⟩:=V.out.o;have Fm:A (h w)+2<A (h u):=by have:=V.out.size;omega
  have ZQ:A (h w)+6<=A (h u):=V.out.size;have hbw:b<A (h w):=HF.out.1;have Hi:Hid (∀j,j<(f q).f->((f q).m j).ask=ZF->0<=((f q).m j).L/\((f q).m j).L.toNat<n/\u.drew.cell? ⟨A (h w)+2,((f q).m j).L.toNat,Y⟩=T (J I ((L.idxOf ((f q).m j).L.toNat:Nat):Int))):=by intro j hj ha;obtain⟨ha1,Ht⟩:=HA.out q bt j hj ha;refine⟨Ht,by omega,?_⟩;rw[<-EN hpl.out (ur.out.2 j hj ha)];exact(V.out.row _ (by omega)).1
  have H4:Hid (SlIns u.drew a0 (f q).l (f q).u):=h4.aa (q9 u).drew ly;have H5:Hid (SlLink u.drew a1 (f q).f (f q).m):=h5.aa (q9 u).drew ly;obtain⟨i1,hi,At,th,DE⟩:=KQ fA;have ZP:ListS (A (h w)) b off n cap q a0 e0 a1 e1 (f q) u.drew:=⟨ca,cp,c0,c1,c2,c3,c4,c5⟩
  clear h4 h5 ca cp c0 c1 c2 c3 c4 c5;refine nJ (ListS (A (h w)) b off n cap q a0 e0 a1 e1 (f q)) (by kernel_rfl) (by kernel_rfl) (by rintro⟨a,w,ZZ⟩;exact ZZ) ?_;refine wpAnyH_take (i:=0) (oi:={ dst:=T 20,op:=Op.fieldAddr 25 (Operand.tmp 4) 0,type:=0,pos:="l7_keep.go:36",after:=#[],guard:=Y }) (v:=?_) rfl (by kernel_rfl) (by kernel_rfl) (by kernel_rfl) (λ_ _ _ ZZ=>ZZ) (Or.inl ⟨by rfl,?_⟩) ZP ?_;rotate_left
  ·(rintro w ⟨s0,s1,s2,s3,s4,s5,s6,s7⟩;go_simp)
   (try with_reducible rfl)
  (try simp only[Act.put,nzL])
  refine wpAnyH_take (i:=2) (oi:={ dst:=T 22,op:=Op.fieldAddr 25 (Operand.tmp 1) 0,type:=0,pos:="l7_keep.go:36",after:=#[],guard:=Y }) (v:=?_) rfl (by kernel_rfl) (by kernel_rfl) (by kernel_rfl) (λ_ _ _ ZZ=>ZZ) (Or.inl ⟨by rfl,?_⟩) ZP ?_;rotate_left
  ·(rintro w ⟨s0,s1,s2,s3,s4,s5,s6,s7⟩;go_simp)
   (try with_reducible rfl)
  (try simp only[Act.put,nzL])
  refine wpAnyH_take (i:=3) (oi:={ dst:=T 23,op:=Op.load 23 (Operand.tmp 22),type:=23,pos:="l7_keep.go:36",after:=#[{ on:=2,ground:=Ground.data }],guard:=Y }) (v:=?_) rfl (by kernel_rfl) (by kernel_rfl) (by kernel_rfl) (λ_ _ _ ZZ=>ZZ) (Or.inl ⟨by rfl,?_⟩) ZP ?_;rotate_left
  ·(rintro w ⟨s0,s1,s2,s3,s4,s5,s6,s7⟩;go_simp)
   (try with_reducible rfl)
  (try simp only[Act.put,nzL])
  refine wpAnyH_take (i:=4) (oi:={ dst:=T 24,op:=Op.move (Operand.tmp 5),type:=3,pos:="l7_keep.go:36",after:=#[],guard:=Y }) (v:=?_) rfl (by kernel_rfl) (by kernel_rfl) (by kernel_rfl) (λ_ _ _ ZZ=>ZZ) (Or.inl ⟨by rfl,?_⟩) ZP ?_;rotate_left
  ·(rintro w ⟨s0,s1,s2,s3,s4,s5,s6,s7⟩;go_simp)
   (try with_reducible rfl)
  (try simp only[Act.put,nzL])
  refine wpAnyH_take (i:=5) (oi:={ dst:=T 25,op:=Op.indexAddr 23 (Operand.tmp 23) (Operand.tmp 24),type:=0,pos:="l7_keep.go:36",after:=#[{ on:=3,ground:=Ground.data },{ on:=4,ground:=Ground.data }],guard:=Y }) (v:=?_) rfl (by kernel_rfl) (by kernel_rfl) (by kernel_rfl) (λ_ _ _ ZZ=>ZZ) (Or.inl ⟨by rfl,?_⟩) ZP ?_;rotate_left
  ·(rintro w ⟨s0,s1,s2,s3,s4,s5,s6,s7⟩;go_simp)
   (try with_reducible rfl)
  (try simp only[Act.put,nzL])
  refine wpAnyH_take (i:=6) (oi:={ dst:=T 26,op:=Op.load 44 (Operand.tmp 25),type:=44,pos:="l7_keep.go:36",after:=#[{ on:=5,ground:=Ground.data }],guard:=Y }) (v:=?_) rfl (by kernel_rfl) (by kernel_rfl) (by kernel_rfl) (λ_ _ _ ZZ=>ZZ) (Or.inl ⟨by rfl,?_⟩) ZP ?_;rotate_left
  ·(rintro w ⟨s0,s1,s2,s3,s4,s5,s6,s7⟩;go_simp)
   (try with_reducible rfl)
  (try simp only[Act.put,nzL])
  refine wpAnyH_take (i:=7) (oi:={ dst:=T 27,op:=Op.load 64 (Operand.tmp 3),type:=64,pos:="l7_keep.go:36",after:=#[],guard:=Y }) (v:=?_) rfl (by kernel_rfl) (by kernel_rfl) (by kernel_rfl) (λ_ _ _ ZZ=>ZZ) (Or.inl ⟨by rfl,?_⟩) ZP ?_;rotate_left
  ·(rintro w ⟨s0,s1,s2,s3,s4,s5,s6,s7⟩;go_simp)
   (try with_reducible rfl)
  (try simp only[Act.put,nzL])
  refine wpAnyH_ready (rs:=[1,8]) (by kernel_rfl) (by simp) ?_;refine AllReadyH.cons (o:={ dst:=T 21,op:=Op.load 23 (Operand.tmp 20),type:=23,pos:="l7_keep.go:36",after:=#[{ on:=0,ground:=Ground.data }],guard:=Y }) rfl (λK m=>?_) ?_
  ·go_simp;refine m.out _ _ ZP λg=>?_;clear m K g
   (try simp only[Act.put,nzL])
   refine wpAnyH_ready (rs:=[8]) (by kernel_rfl) (by simp) ?_;refine AllReadyH.cons (o:={ dst:=T 28,op:=Op.call { callee:=Callee.value (Operand.func 47),args:=#[Operand.tmp 26,Operand.tmp 27],argTypes:=#[44,64] },type:=44,pos:="l7_keep.go:36",after:=#[{ on:=6,ground:=Ground.data },{ on:=7,ground:=Ground.data }],guard:=Y }) rfl (λK m=>?_) ?_
   ·go_simp;refine(qW (f q) a0 e0 a1 e1 (A (h w)+2) n n L u.drew (DS.out q bt) H4.out H5.out Fm Hi.out).mono ?_;rintro e ZS ⟨ZO,O,P,ZN,rfl,n9,aq⟩;have X:Below (A (h u)) u ZS:=((q9 u).drew).trans aq;have M:=X.alloc X.size (N #[U (f q).e,J I (f q).H,J I (f q).E,U (f q).B,Z ZO (f q).l O,Z P (f q).f ZN] 44);have F4:Below (A (h ZS)) ZS (ZV ZS (N #[U (f q).e,J I (f q).H,J I (f q).E,U (f q).B,Z ZO (f q).l O,Z P (f q).f ZN] 44)):=(q9 ZS).alloc ly _;have fd:=ZP.aa aq (by show (A (h w))+3<A (h u);omega) (by show b<A (h u);omega);have ZJ:=fd.aa F4 (by have:=X.size;omega) (by have:=X.size;omega);obtain⟨Hu,_⟩:=(V.out.aa X ZQ).o;obtain⟨Hk,Hr⟩:=(V.out.aa M ZQ).o;have K4:=ae (V.out.aa M ZQ);have D4:=ae (D2.out.aa M ly);have G4:=ae (n9.aa F4 ly);have B4:=ae (B2.out.trans (M.mono B2.out.size));have U4:=ae (U2.out.trans (Upd2.q M ly));have Z4:A (h w)+6<=A (h (ZV ZS (N #[U (f q).e,J I (f q).H,J I (f q).E,U (f q).B,Z ZO (f q).l O,Z P (f q).f ZN] 44))):=AD ZQ M.size;have N4:=ae (rp ZS (U (f q).e) (J I (f q).H) (J I (f q).E) (U (f q).B) (Z ZO (f q).l O) (Z P (f q).f ZN) 44);clear n9 aq X M F4;refine m.out _ _ fd λg=>?_;clear m K g
    (try simp only[Act.put,nzL])
    refine wpAnyH_ready (rs:=[9]) (by kernel_rfl) (by simp) ?_;refine AllReadyH.cons (o:={ dst:=T 29,op:=Op.buildSlice 23 1 #[(0,Operand.tmp 28)],type:=23,pos:="l7_keep.go:36",after:=#[{ on:=8,ground:=Ground.data }],guard:=Y }) rfl (λK m=>?_) ?_
    ·go_simp;refine m.out _ _ ZJ λg=>?_;clear m K g
     (try simp only[Act.put,nzL])
     refine wpAnyH_ready (rs:=[10]) (by kernel_rfl) (by simp) ?_;refine AllReadyH.cons (o:={ dst:=T 30,op:=Op.call { callee:=Callee.builtin Builtin.append,args:=#[Operand.tmp 21,Operand.tmp 29],argTypes:=#[23,23] },type:=23,pos:="l7_keep.go:36",after:=#[{ on:=1,ground:=Ground.data },{ on:=9,ground:=Ground.data },{ on:=8,ground:=Ground.chain }],guard:=Y }) rfl (λK m=>?_) ?_
     ·refine dr rfl (.tmp 21) (.tmp 29) 23 rfl (A (h w)+6) 44 i1 (ZH #[U ⟨#[]⟩,J I 0,J I 0,U ⟨#[]⟩,Z Y 0 0,Z Y 0 0]) 6 96 LX hi At th DE rfl (by decide) (Z ZK (ZU R) ZL) (ZU R) (R.flatMap ddV) (by simp[Act.eval]) D4.out.y (Q (A (h ZS)) 0 Y) 1 1 (ddV (mv f L q,Z ZO (f q).l O,Z P (f q).f ZN)) (by simp[Act.eval]) rfl N4.out (by simp[ddV,Value.oneCell']) (by unfold maxLen;omega) (by omega) (by omega) ?_;intro v' W5 y D _;obtain⟨gs,cs,rfl⟩:=bV y (by omega);obtain⟨E5,L5,U6,L6,D6,B6⟩:=lE DQ ZQ U4.out B4.out K4.out D2.out D4.out G4.out y D;obtain⟨Hj,Fn⟩:=L5.o;have H:=ZJ.aa E5 (by omega) (by omega);have qr:=H.set hbw (Z (T (Q gs 0 Y)) (ZU R+1) cs);have n8:=ae U6;have n7:=ae L6;have ld:=ae D6;have ph:=ae B6;clear y D U6 L6 D6 B6 E5 L5;refine m.out _ _ H λg=>?_;clear m K g
      (try simp only[Act.put,nzL])
      refine wpAnyH_ready (rs:=[11]) (by kernel_rfl) (by simp) ?_;refine AllReadyH.cons (o:={ dst:=T 31,op:=Op.fieldAddr 25 (Operand.tmp 4) 0,type:=0,pos:="l7_keep.go:36",after:=#[{ on:=0,ground:=Ground.phase },{ on:=1,ground:=Ground.phase },{ on:=2,ground:=Ground.phase },{ on:=3,ground:=Ground.phase },{ on:=4,ground:=Ground.phase },{ on:=5,ground:=Ground.phase },{ on:=6,ground:=Ground.phase },{ on:=7,ground:=Ground.phase },{ on:=8,ground:=Ground.phase },{ on:=9,ground:=Ground.phase },{ on:=10,ground:=Ground.phase }],guard:=Y }) rfl (λK m=>?_) ?_
      ·go_simp;refine m.out _ _ H λg=>?_;clear m K g
       (try simp only[Act.put,nzL])
       refine wpAnyH_ready (rs:=[12]) (by kernel_rfl) (by simp) ?_;refine AllReadyH.cons (o:={ dst:=Y,op:=Op.store 23 (Operand.tmp 31) (Operand.tmp 30),type:=0,pos:="l7_keep.go:36",after:=#[{ on:=11,ground:=Ground.data },{ on:=10,ground:=Ground.data },{ on:=10,ground:=Ground.chain },{ on:=0,ground:=Ground.phase },{ on:=1,ground:=Ground.phase },{ on:=2,ground:=Ground.phase },{ on:=3,ground:=Ground.phase },{ on:=4,ground:=Ground.phase },{ on:=5,ground:=Ground.phase },{ on:=6,ground:=Ground.phase },{ on:=7,ground:=Ground.phase },{ on:=8,ground:=Ground.phase },{ on:=9,ground:=Ground.phase },{ on:=10,ground:=Ground.phase }],guard:=Y }) rfl (λK m=>?_) ?_
       ·go_simp;refine m.out _ _ qr λg=>?_;clear m K g
        (try simp only[Act.put,nzL])
        refine wpAnyH_done (by kernel_rfl) ?_ _;refine⟨n8.out,Z (T (Q gs 0 Y)) (ZU R+1) cs,R++[(mv f L q,Z ZO (f q).l O,Z P (f q).f ZN)],?_,?_,?_,ph.out⟩;{rw[AI,ex.out];exact n7.out};{exact ld.out};{show _=_;rw[AI,AI,AI,ex.out,HM.out];rfl}
       {exact AllReadyH.nil}
      {exact AllReadyH.nil}
     {exact AllReadyH.nil}
    {exact AllReadyH.nil}
   {exact AllReadyH.nil}
  ·refine AllReadyH.cons (o:={ dst:=T 28,op:=Op.call { callee:=Callee.value (Operand.func 47),args:=#[Operand.tmp 26,Operand.tmp 27],argTypes:=#[44,64] },type:=44,pos:="l7_keep.go:36",after:=#[{ on:=6,ground:=Ground.data },{ on:=7,ground:=Ground.data }],guard:=Y }) rfl (λK m=>?_) ?_
   ·go_simp;refine(qW (f q) a0 e0 a1 e1 (A (h w)+2) n n L u.drew (DS.out q bt) H4.out H5.out Fm Hi.out).mono ?_;rintro e ZS ⟨ZO,O,P,ZN,rfl,n9,aq⟩;have X:Below (A (h u)) u ZS:=((q9 u).drew).trans aq;have M:=X.alloc X.size (N #[U (f q).e,J I (f q).H,J I (f q).E,U (f q).B,Z ZO (f q).l O,Z P (f q).f ZN] 44);have F4:Below (A (h ZS)) ZS (ZV ZS (N #[U (f q).e,J I (f q).H,J I (f q).E,U (f q).B,Z ZO (f q).l O,Z P (f q).f ZN] 44)):=(q9 ZS).alloc ly _;have fd:=ZP.aa aq (by show (A (h w))+3<A (h u);omega) (by show b<A (h u);omega);have ZJ:=fd.aa F4 (by have:=X.size;omega) (by have:=X.size;omega);obtain⟨Hu,_⟩:=(V.out.aa X ZQ).o;obtain⟨Hk,Hr⟩:=(V.out.aa M ZQ).o;have K4:=ae (V.out.aa M ZQ);have D4:=ae (D2.out.aa M ly);have G4:=ae (n9.aa F4 ly);have B4:=ae (B2.out.trans (M.mono B2.out.size));have U4:=ae (U2.out.trans (Upd2.q M ly));have Z4:A (h w)+6<=A (h (ZV ZS (N #[U (f q).e,J I (f q).H,J I (f q).E,U (f q).B,Z ZO (f q).l O,Z P (f q).f ZN] 44))):=AD ZQ M.size;have N4:=ae (rp ZS (U (f q).e) (J I (f q).H) (J I (f q).E) (U (f q).B) (Z ZO (f q).l O) (Z P (f q).f ZN) 44);clear n9 aq X M F4;refine m.out _ _ fd λg=>?_;clear m K g
    (try simp only[Act.put,nzL])
    refine wpAnyH_ready (rs:=[1,9]) (by kernel_rfl) (by simp) ?_;refine AllReadyH.cons (o:={ dst:=T 21,op:=Op.load 23 (Operand.tmp 20),type:=23,pos:="l7_keep.go:36",after:=#[{ on:=0,ground:=Ground.data }],guard:=Y }) rfl (λK m=>?_) ?_
    ·go_simp;refine m.out _ _ fd λg=>?_;clear m K g
     (try simp only[Act.put,nzL])
     refine wpAnyH_ready (rs:=[9]) (by kernel_rfl) (by simp) ?_;refine AllReadyH.cons (o:={ dst:=T 29,op:=Op.buildSlice 23 1 #[(0,Operand.tmp 28)],type:=23,pos:="l7_keep.go:36",after:=#[{ on:=8,ground:=Ground.data }],guard:=Y }) rfl (λK m=>?_) ?_
     ·go_simp;refine m.out _ _ ZJ λg=>?_;clear m K g
      (try simp only[Act.put,nzL])
      refine wpAnyH_ready (rs:=[10]) (by kernel_rfl) (by simp) ?_;refine AllReadyH.cons (o:={ dst:=T 30,op:=Op.call { callee:=Callee.builtin Builtin.append,args:=#[Operand.tmp 21,Operand.tmp 29],argTypes:=#[23,23] },type:=23,pos:="l7_keep.go:36",after:=#[{ on:=1,ground:=Ground.data },{ on:=9,ground:=Ground.data },{ on:=8,ground:=Ground.chain }],guard:=Y }) rfl (λK m=>?_) ?_
      ·refine dr rfl (.tmp 21) (.tmp 29) 23 rfl (A (h w)+6) 44 i1 (ZH #[U ⟨#[]⟩,J I 0,J I 0,U ⟨#[]⟩,Z Y 0 0,Z Y 0 0]) 6 96 LX hi At th DE rfl (by decide) (Z ZK (ZU R) ZL) (ZU R) (R.flatMap ddV) (by simp[Act.eval]) D4.out.y (Q (A (h ZS)) 0 Y) 1 1 (ddV (mv f L q,Z ZO (f q).l O,Z P (f q).f ZN)) (by simp[Act.eval]) rfl N4.out (by simp[ddV,Value.oneCell']) (by unfold maxLen;omega) (by omega) (by omega) ?_;intro v' W5 y D _;obtain⟨gs,cs,rfl⟩:=bV y (by omega);obtain⟨E5,L5,U6,L6,D6,B6⟩:=lE DQ ZQ U4.out B4.out K4.out D2.out D4.out G4.out y D;obtain⟨Hj,Fn⟩:=L5.o;have H:=ZJ.aa E5 (by omega) (by omega);have qr:=H.set hbw (Z (T (Q gs 0 Y)) (ZU R+1) cs);have n8:=ae U6;have n7:=ae L6;have ld:=ae D6;have ph:=ae B6;clear y D U6 L6 D6 B6 E5 L5;refine m.out _ _ H λg=>?_;clear m K g
       (try simp only[Act.put,nzL])
       refine wpAnyH_ready (rs:=[11]) (by kernel_rfl) (by simp) ?_;refine AllReadyH.cons (o:={ dst:=T 31,op:=Op.fieldAddr 25 (Operand.tmp 4) 0,type:=0,pos:="l7_keep.go:36",after:=#[{ on:=0,ground:=Ground.phase },{ on:=1,ground:=Ground.phase },{ on:=2,ground:=Ground.phase },{ on:=3,ground:=Ground.phase },{ on:=4,ground:=Ground.phase },{ on:=5,ground:=Ground.phase },{ on:=6,ground:=Ground.phase },{ on:=7,ground:=Ground.phase },{ on:=8,ground:=Ground.phase },{ on:=9,ground:=Ground.phase },{ on:=10,ground:=Ground.phase }],guard:=Y }) rfl (λK m=>?_) ?_
       ·go_simp;refine m.out _ _ H λg=>?_;clear m K g
        (try simp only[Act.put,nzL])
        refine wpAnyH_ready (rs:=[12]) (by kernel_rfl) (by simp) ?_;refine AllReadyH.cons (o:={ dst:=Y,op:=Op.store 23 (Operand.tmp 31) (Operand.tmp 30),type:=0,pos:="l7_keep.go:36",after:=#[{ on:=11,ground:=Ground.data },{ on:=10,ground:=Ground.data },{ on:=10,ground:=Ground.chain },{ on:=0,ground:=Ground.phase },{ on:=1,ground:=Ground.phase },{ on:=2,ground:=Ground.phase },{ on:=3,ground:=Ground.phase },{ on:=4,ground:=Ground.phase },{ on:=5,ground:=Ground.phase },{ on:=6,ground:=Ground.phase },{ on:=7,ground:=Ground.phase },{ on:=8,ground:=Ground.phase },{ on:=9,ground:=Ground.phase },{ on:=10,ground:=Ground.phase }],guard:=Y }) rfl (λK m=>?_) ?_
        ·go_simp;refine m.out _ _ qr λg=>?_;clear m K g
         (try simp only[Act.put,nzL])
         refine wpAnyH_done (by kernel_rfl) ?_ _;refine⟨n8.out,Z (T (Q gs 0 Y)) (ZU R+1) cs,R++[(mv f L q,Z ZO (f q).l O,Z P (f q).f ZN)],?_,?_,?_,ph.out⟩;{rw[AI,ex.out];exact n7.out};{exact ld.out};{show _=_;rw[AI,AI,AI,ex.out,HM.out];rfl}
        {exact AllReadyH.nil}
       {exact AllReadyH.nil}
      {exact AllReadyH.nil}
     {exact AllReadyH.nil}
    ·refine AllReadyH.cons (o:={ dst:=T 29,op:=Op.buildSlice 23 1 #[(0,Operand.tmp 28)],type:=23,pos:="l7_keep.go:36",after:=#[{ on:=8,ground:=Ground.data }],guard:=Y }) rfl (λK m=>?_) ?_
     ·go_simp;refine m.out _ _ ZJ λg=>?_;clear m K g
      (try simp only[Act.put,nzL])
      refine wpAnyH_ready (rs:=[1]) (by kernel_rfl) (by simp) ?_;refine AllReadyH.cons (o:={ dst:=T 21,op:=Op.load 23 (Operand.tmp 20),type:=23,pos:="l7_keep.go:36",after:=#[{ on:=0,ground:=Ground.data }],guard:=Y }) rfl (λK m=>?_) ?_
      ·go_simp;refine m.out _ _ ZJ λg=>?_;clear m K g
       (try simp only[Act.put,nzL])
       refine wpAnyH_ready (rs:=[10]) (by kernel_rfl) (by simp) ?_;refine AllReadyH.cons (o:={ dst:=T 30,op:=Op.call { callee:=Callee.builtin Builtin.append,args:=#[Operand.tmp 21,Operand.tmp 29],argTypes:=#[23,23] },type:=23,pos:="l7_keep.go:36",after:=#[{ on:=1,ground:=Ground.data },{ on:=9,ground:=Ground.data },{ on:=8,ground:=Ground.chain }],guard:=Y }) rfl (λK m=>?_) ?_
       ·refine dr rfl (.tmp 21) (.tmp 29) 23 rfl (A (h w)+6) 44 i1 (ZH #[U ⟨#[]⟩,J I 0,J I 0,U ⟨#[]⟩,Z Y 0 0,Z Y 0 0]) 6 96 LX hi At th DE rfl (by decide) (Z ZK (ZU R) ZL) (ZU R) (R.flatMap ddV) (by simp[Act.eval]) D4.out.y (Q (A (h ZS)) 0 Y) 1 1 (ddV (mv f L q,Z ZO (f q).l O,Z P (f q).f ZN)) (by simp[Act.eval]) rfl N4.out (by simp[ddV,Value.oneCell']) (by unfold maxLen;omega) (by omega) (by omega) ?_;intro v' W5 y D _;obtain⟨gs,cs,rfl⟩:=bV y (by omega);obtain⟨E5,L5,U6,L6,D6,B6⟩:=lE DQ ZQ U4.out B4.out K4.out D2.out D4.out G4.out y D;obtain⟨Hj,Fn⟩:=L5.o;have H:=ZJ.aa E5 (by omega) (by omega);have qr:=H.set hbw (Z (T (Q gs 0 Y)) (ZU R+1) cs);have n8:=ae U6;have n7:=ae L6;have ld:=ae D6;have ph:=ae B6;clear y D U6 L6 D6 B6 E5 L5;refine m.out _ _ H λg=>?_;clear m K g
        (try simp only[Act.put,nzL])
        refine wpAnyH_ready (rs:=[11]) (by kernel_rfl) (by simp) ?_;refine AllReadyH.cons (o:={ dst:=T 31,op:=Op.fieldAddr 25 (Operand.tmp 4) 0,type:=0,pos:="l7_keep.go:36",after:=#[{ on:=0,ground:=Ground.phase },{ on:=1,ground:=Ground.phase },{ on:=2,ground:=Ground.phase },{ on:=3,ground:=Ground.phase },{ on:=4,ground:=Ground.phase },{ on:=5,ground:=Ground.phase },{ on:=6,ground:=Ground.phase },{ on:=7,ground:=Ground.phase },{ on:=8,ground:=Ground.phase },{ on:=9,ground:=Ground.phase },{ on:=10,ground:=Ground.phase }],guard:=Y }) rfl (λK m=>?_) ?_
        ·go_simp;refine m.out _ _ H λg=>?_;clear m K g
         (try simp only[Act.put,nzL])
         refine wpAnyH_ready (rs:=[12]) (by kernel_rfl) (by simp) ?_;refine AllReadyH.cons (o:={ dst:=Y,op:=Op.store 23 (Operand.tmp 31) (Operand.tmp 30),type:=0,pos:="l7_keep.go:36",after:=#[{ on:=11,ground:=Ground.data },{ on:=10,ground:=Ground.data },{ on:=10,ground:=Ground.chain },{ on:=0,ground:=Ground.phase },{ on:=1,ground:=Ground.phase },{ on:=2,ground:=Ground.phase },{ on:=3,ground:=Ground.phase },{ on:=4,ground:=Ground.phase },{ on:=5,ground:=Ground.phase },{ on:=6,ground:=Ground.phase },{ on:=7,ground:=Ground.phase },{ on:=8,ground:=Ground.phase },{ on:=9,ground:=Ground.phase },{ on:=10,ground:=Ground.phase }],guard:=Y }) rfl (λK m=>?_) ?_
         ·go_simp;refine m.out _ _ qr λg=>?_;clear m K g
          (try simp only[Act.put,nzL])
          refine wpAnyH_done (by kernel_rfl) ?_ _;refine⟨n8.out,Z (T (Q gs 0 Y)) (ZU R+1) cs,R++[(mv f L q,Z ZO (f q).l O,Z P (f q).f ZN)],?_,?_,?_,ph.out⟩;{rw[AI,ex.out];exact n7.out};{exact ld.out};{show _=_;rw[AI,AI,AI,ex.out,HM.out];rfl}
         {exact AllReadyH.nil}
        {exact AllReadyH.nil}
       {exact AllReadyH.nil}
      {exact AllReadyH.nil}
     {exact AllReadyH.nil}
   {exact AllReadyH.nil}
theorem EO {f:Nat->af}{n p:Nat}(i:cG f n)(ZZ:p<n){x:af}(b:x∈bs f p):∃q,q<n/\x=mv f (bC f p) q:=by unfold bs at b;obtain⟨q,g,rfl⟩:=LA.1 b;exact⟨q,by have:=mX i ZZ q g;omega,rfl⟩
theorem t8 {f:Nat->af}{n p:Nat}(j:cG f n)(ZZ:p<n)(l:∀i,i<n->bJ (f i)):∀x∈bs f p,bJ x:=by intro x b;obtain⟨q,g,rfl⟩:=EO j ZZ b;exact l q g
theorem zO {L:List af}{i:Nat}(hi:i<ZU L):dF L i∈L:=by unfold dF;rw[CP,gq hi];exact gz hi
theorem Cc {w:G}{b size n:Nat}{e:ZI}{a:Option Addr}{c:Nat}{f:List ZD}(ZZ:w.ownsRow b e size (Z a n c) n f):n<=c:=by
 rcases ZZ.2 with ⟨h1,h2⟩|⟨g,c',cur,h1,_,_,i,_⟩
 ·cases h1
  omega
 ·cases h1
  exact i
theorem yj {w:G}{b off n m:Nat}{f:Nat->af}(ZZ:RowDeed w b off n f)(hm:m<=n):RowDeed w b off m f:=⟨ZZ.1,λi hi=>ZZ.2 i (by omega)⟩
structure CuB (W:G)(ZZ:Nat)(v:ZD)(t:ByteArray):Prop where
 size:ZZ+3<=A (h W)
 a:ZW W (Q ZZ 0 Y)=T v
 n:ZW W (Q (ZZ+1) 0 Y)=T (U t)
 r:ZW W (Q (ZZ+2) 0 Y)=T (Z Y 0 0)/\ZX W (Q (ZZ+2) 0 Y)=ZB
theorem Ge (w:G)(v:ZD)(t:ByteArray)(g n:ZI):CuB (ZV (ZV (ZV w (N #[v] g)) (N #[U t] n)) (N #[Z Y 0 0] g)) (A (h w)) v t:=by
 obtain⟨b,m⟩:∃b,ZV w (N #[v] g)=b:=⟨_,rfl⟩
 obtain⟨f,i⟩:∃f,ZV b (N #[U t] n)=f:=⟨_,rfl⟩
 obtain⟨ZZ,j⟩:∃ZZ,ZV f (N #[Z Y 0 0] g)=ZZ:=⟨_,rfl⟩
 rw[m,i,j];have z1:A (h b)=A (h w)+1:=by rw[<-m];simp
 have z2:A (h f)=A (h w)+2:=by rw[<-i];simp;omega
 have z3:A (h ZZ)=A (h w)+3:=by rw[<-j];simp;omega
 have l:Below (A (h f)) f ZZ:=by rw[<-j];exact br.alloc ly _
 have o:Below (A (h b)) b ZZ:=(by rw[<-i];exact br.alloc ly _:Below (A (h b)) b f).trans (l.mono (by omega));have n1:=iD w v g;have q:=iD b (U t) n;have r:=iD f (Z Y 0 0) g;rw[m] at n1;rw[i,z1] at q;rw[j,z2] at r;exact⟨by omega,(o.cell (p:=(Q (A (h w)) 0 Y)) (by show (A (h w))<_;omega)).trans n1.1,(l.cell (p:=(Q (A (h w)+1) 0 Y)) (by show (A (h w))+1<_;omega)).trans q.1,r⟩
theorem CuB.aa {W f:G}{ZZ B:Nat}{v:ZD}{t:ByteArray}(b:CuB W ZZ v t)(hb:Below B W f)(hB:ZZ+3<=B):CuB f ZZ v t:=by have c:∀k o,k<B->ZW f (Q k o Y)=ZW W (Q k o Y):=λk o g=>hb.cell (p:=(Q k o Y)) g;exact⟨AD b.size hb.size,(c _ _ (by omega)).trans b.a,(c _ _ (by omega)).trans b.n,(c _ _ (by omega)).trans b.r.1,(hb.frozen (p:=(Q (ZZ+2) 0 Y)) (by show ZZ+2<B;omega)).trans b.r.2⟩
theorem nQ (a:Option Addr)(n cap:Nat)(f:Nat->af)(t:ByteArray)(w:G)(hn:(n:Int)<=1048576)(hf:SlDeed w a n f)(W:(n:Int)<=cap)(ZY:∀i,i<n->bJ (f i))(hT:Tab w):Calls Pg 6 #[ZH #[Z a n cap],U t] w λe w'=>∃a c R,e=ZG (ZH #[Z a (ZU R) c])/\DRow w' (A (h w)+3) (Z a (ZU R) c) R/\R.map (·.1)=cD f n t/\Below (A (h w)) w w':=by
 have u:=ae hf;have ZL:=ae ZY;have P:=ae hT;clear hf ZY hT;have o:=ae ((((q9 w).alloc ly (N #[Z a n cap] 25)).alloc (by simp) (N #[U t] 9)).alloc (by simp;omega) (N #[Z Y 0 0] 25));have M:=ae (Ge w (Z a n cap) t 25 9);obtain⟨C,ZM⟩:∃C,C=cD f n t:=⟨_,rfl⟩
 rw[<-ZM];have X:=ae ZM;clear ZM;go_enter Tryz.func6,Tryz.ntmps6;go_wp2_with fail;generalize ZV (ZV (ZV w (N #[Z a n cap] 25)) (N #[U t] 9)) (N #[Z Y 0 0] 25)=W0 at o M ⊢;refine(fW _ n cap f _ hn (u.out.aa o.out ly) W ZL.out (P.out.aa o.out P.out.1)).mono ?_;rintro e w1 ⟨rfl,y⟩;have ZQ:=ae (o.out.trans (y.mono o.out.size));have j:=ae (M.out.aa y M.out.size);clear y M o;cases hok:aK f n with
 |false =>
  obtain⟨r0,z0⟩:=j.out.r;have q:Hid (C=[]):=by show C=[];rw[X.out,cD,eT (by rw[hok];simp)]
  go_wp2;exact bp (v:=ZH #[Z Y 0 0]) (by simp[results,UY,go_sem,r0]) rfl ⟨Y,0,[],rfl,fB _ _,q.out.symm,ZQ.out.setCell (by show (A (h w))<=A (h w)+2;omega) _⟩
 |true =>
  have B:=ae hok;have aq:=dy hok;clear hok;obtain⟨b,off,rfl,S⟩:=u.out.resolve_left (by omega);clear u;have u:=ae S;clear S;have ex:=j.out.a;go_wp2_with fail;refine(uZ b off n cap f (A (h w)+1) t _ hn (u.out.aa ZQ.out ly) j.out.n (by have:=j.out.size;omega)).mono ?_;rintro e w2 ⟨rfl,ZP⟩;have D:=ae (ZQ.out.trans (ZP.mono ZQ.out.size));have s:=ae (j.out.aa ZP j.out.size);clear ZP j ZQ ex;obtain⟨r0,z0⟩:=s.out.r;have bt:=s.out.a;rcases iL (λi=>!((f i).e.toList == t.toList)) n with H|⟨p,H,hp,-,-⟩
  ·have q:Hid (C=[]):=by show C=[];rw[X.out,cD,hU B.out,hU (by unfold bZ;exact H)]
   rw[bZ,H];go_wp2;exact bp (v:=ZH #[Z Y 0 0]) (by simp[results,UY,go_sem,r0]) rfl ⟨Y,0,[],rfl,fB _ _,q.out.symm,D.out.setCell (by show (A (h w))<=A (h w)+2;omega) _⟩
  ·have q:Hid (C=if aK (dF (bs f p)) (bs f p).length=ZF then bs f p else []):=by
    have e:bZ f t n=(p:Int):=H;show C=_;rw[X.out,cD,hU B.out,e,eT (by omega),MV]
   rw[bZ,H];have hA:=dI aq.2.2;have z:=ae hA;have hp1:(p:Int)+1<=400:=by omega
   have hpc:(p:Int)+1<=cap:=by omega
   go_wp2_with fail;refine(yi b off (p+1) cap f _ (sT z.out (by omega)) (by omega) (by omega) (yj (u.out.aa D.out ly) (by omega)) (λi hi=>eP B.out i (by omega)) (λi hi=>ZL.out i (by omega))).mono ?_;rintro e g ⟨a,c,R,rfl,l,hR,m⟩;rw[NR] at hR;have ZS:ZU R=(bs f p).length:=by rw[<-hR];simp
   have hRb:ZU R<=p+1:=by rw[ZS,bs,LR];exact(gS z.out hp).1
   have HR:=ae hR;have L:=ae ZS;have ZK:=ae (D.out.trans (m.mono D.out.size));have ZJ:=ae (s.out.aa m s.out.size);have hz3:A (h w2)<=A (h g):=m.size;have hs2:=s.out.size;have D3:=ae l;have x:=ae ((q9 g).alloc ly (N #[Z a (ZU R) c] 25));have ZN:=ae (l.aa x.out ly);have E:=ae (ZK.out.trans (x.out.mono ZK.out.size));have ZO:=ae (ZJ.out.aa x.out ZJ.out.size);have V:Hid (SlDeed (ZV g (N #[Z a (ZU R) c] 25)) a (ZU R) (dF (bs f p))):=by have:=ZN.out.bb;rw[hR] at this;exact this
   have hcc:=Cc l.y;have O:ZW (ZV g (N #[Z a (ZU R) c] 25)) (Q (A (h g)) 0 Y)=T (Z a (ZU R) c):=by simp
   clear l hR m ZS r0 z0 bt D3 ZJ ZK s D;go_wp2_with fail;generalize ZV g (N #[Z a (ZU R) c] 25)=W4 at x ZN E ZO V O ⊢;refine(fW a (ZU R) c (dF (bs f p)) _ (by omega) V.out (by omega) (λi hi=>t8 z.out hp ZL.out _ (zO (by rw[<-L.out];exact hi))) (P.out.aa E.out P.out.1)).mono ?_;rintro e w5 ⟨rfl,ZZ⟩;have B5:=ae (E.out.trans (ZZ.mono E.out.size));have X5:=ae (ZO.out.aa ZZ ZO.out.size);have D5:=ae (ZN.out.aa ZZ ly);have k5:=(ZZ.cell (p:=(Q (A (h g)) 0 Y)) (by have:=x.out;show (A (h g))<A (h W4);exact OV _ _ O)).trans O;clear ZZ E ZO ZN O x V;obtain⟨r0,z0⟩:=X5.out.r;cases hok2:aK (dF (bs f p)) (ZU R) with
   |false =>
    have K:Hid (C=[]):=by show C=[];rw[q.out,eT (by rw[<-L.out,hok2];simp)]
    go_wp2;exact bp (v:=ZH #[Z Y 0 0]) (by simp[results,UY,go_sem,r0]) rfl ⟨Y,0,[],rfl,fB _ _,K.out.symm,B5.out.setCell (by show (A (h w))<=A (h w)+2;omega) _⟩
   |true =>
    have K:Hid (C=bs f p):=by show C=_;rw[q.out,hU (by rw[<-L.out,hok2])]
    go_wp2;exact bp (v:=ZH #[Z a (ZU R) c]) (by simp[results,UY,go_sem,r0]) rfl ⟨a,c,R,rfl,(D5.out.mono (by omega)).set (e:=0) (.inl (by show (A (h w))+2<A (h w)+3;omega)) _,by rw[HR.out,K.out],B5.out.setCell (by show (A (h w))<=A (h w)+2;omega) _⟩
