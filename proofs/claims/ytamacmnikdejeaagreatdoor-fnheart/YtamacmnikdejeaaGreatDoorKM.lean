import Derived.Test.YtamacmnikdejeaaGreatDoorLY
import Derived.Test.YtamacmnikdejeaaGreatDoorKJ
set_option maxRecDepth 100000
set_option maxHeartbeats 8000000
open Go renaming Addr.mk->Q,Value.slice->Y,Value.string->U,Value.int->J,Value.bool->ZC,Obj.cells->N,IntKind.i64->I,World->E,Value->ZB,World.heap->A,World.alloc->z
open Option renaming none->Z,some->T
open Bool renaming false->ZA,true->ZD
open Array renaming size->B
namespace Go.Proofs.YtamacmnikdejeaaGreatDoor.Vp
open Tryz RowKit Ca
variable {w w':E}{b:Nat}{R:List DR}{a:Option Addr}
structure LSub (w:E)(base:Nat)(r:DR):Prop where
 u:r.1.h=0/\(∃c,r.2.1=Y Z 0 c)∨∃g c,r.2.1=Y (T (Q g 0 Z)) r.1.h c/\RowIns w g 0 r.1.h r.1.u/\TypeAt w g 146/\base<=g
 aq:w.ownsRow base 129 4 r.2.2 r.1.f (bY r.1.m r.1.f)
structure LRw (w:E)(base:Nat)(v:ZB)(R:List DR):Prop where
 y:w.ownsRow base 46 6 v R.length (R.flatMap ddV)
 sub:∀r∈R,LSub w base r
theorem LSub.ab{r:DR}(h:LSub w b r)(hz:B (A w)<=B (A w'))(hb:∀k,OfTy w k 146∨OfTy w k 129->b<=k->w'.heap[k]?=w.heap[k]?):LSub w' b r:=by
 refine⟨?_,dP h.aq λk l n=>hb k (.inr n) (h.aq.lt k l).1⟩;rcases h.u with h1|⟨g,c,e,h2,j,i⟩
 {exact .inl h1};{have f:w'.heap[g]?=w.heap[g]?:=hb g (.inl (by obtain⟨m,o⟩:=j;exact⟨m,_,o⟩)) i;exact .inr ⟨g,c,e,h2.block hz f,j.block f,i⟩}
theorem LRw.agr{V:E}{v:ZB}(h:LRw w b v R)(f:Agr b w V):LRw V b v R :=
 ⟨eO h.y f,λr g=>(h.sub r g).ab f.1 λk i hb=>f.2 k hb (by rcases i with ⟨c,ZT,e⟩|⟨c,ZT,e⟩<;>exact ar e)⟩
theorem LRw.bb{c:Nat}(h:LRw w b (Y a R.length c) R):SlDeed w a R.length (dF (R.map (·.1))):=by
 by_cases hz:R.length=0;{exact .inl hz}
 ·obtain⟨g,c',e⟩:=df h.y (by omega);cases e
  refine .inr ⟨g,0,rfl,(cO h.y).2,λi hi=>?_⟩;obtain⟨r,f,l⟩:=dr hi;rw[gF f];have c:∀j,j<6->∀u,(ddV r)[j]?=T u->w.cell? (Q g (0+i*6+j) Z)=T u:=λj y u p=>by rw[show 0+i*6+j=i*6+j by omega];exact(ij h.y f j y p).1
  have t:DSub w b ({ r.1 with h:=0 },Y Z 0 0,r.2.2):=⟨CL _ _ _ _,(h.sub r l).aq⟩
  obtain⟨m,c5,x,o⟩:=t.m;obtain⟨n,c4,s,q⟩:∃a cap,r.2.1=Y a r.1.h cap/\SlIns w a r.1.h r.1.u:=by
   rcases(h.sub r l).u with ⟨h1,c,e⟩|⟨g,c,e,h2,-,-⟩
   {exact⟨Z,c,by rw[h1];exact e,.inl h1⟩};{exact⟨_,c,e,.inr ⟨g,0,rfl,h2⟩⟩}
  exact⟨c 0 (by omega) _ rfl,c 1 (by omega) _ rfl,c 2 (by omega) _ rfl,c 3 (by omega) _ rfl,⟨n,c4,by rw[<-s];exact c 4 (by omega) _ rfl,q⟩,⟨m,c5,by rw[<-show r.2.2=_ from x];exact c 5 (by omega) _ rfl,o⟩⟩
theorem Gu{n c:Nat}(h:LRw w b (Y a n c) R)(e:n=R.length)(l:∀r∈R,FitD r.1)(hn:R.length<=50000):HAc b w a n c (dF (R.map (·.1))):=by subst e;refine⟨λV j=>(h.agr j).bb,jt h.y,hn,λi hi=>?_⟩;obtain⟨r,f,g⟩:=dr hi;rw[gF f];exact l r g
theorem TRow.ab{v:ZB}{R:List TR}(h:TRow w b v R)(hz:B (A w)<=B (A w'))(hb:∀k,TypeAt w k 125∨TypeAt w k 146->w'.heap[k]?=w.heap[k]?):TRow w' b v R:=by
 refine⟨?_,λr m=>?_,h.up⟩
 ·refine⟨h.y.1,?_⟩;rcases h.y.2 with h1|⟨g,cap,f,rfl,l,i,h2⟩
  {exact .inl h1};{exact .inr ⟨g,cap,f,rfl,l,(hb g (.inl ⟨f,i⟩)).trans i,h2⟩}
 {obtain⟨h1,⟨F,h2⟩,j,n⟩:=h.u r m;have e:=hb r.2.1 (.inr j);exact⟨h1.block hz e,⟨F,h2.block hz e⟩,j.block e,n⟩}
structure LgS (w:E)(sb X:Nat)(W:E)(v0:ZB)(a1:Option Addr)(c1:Nat)(RT:List TR)(a:Option Addr)(c:Nat)(D:List DR):Prop where
 rs:W.heap[B (A w)]?=T (N #[Y Z 0 0] 25 (0,0))
 sx:W.heap[sb]?=T (N #[v0,Y a1 RT.length c1] 29 (0,0))
 bx:W.heap[X]?=T (N #[Y a D.length c] 25 (0,0))
 tg:TRow W (B (A w)+1) (Y a1 RT.length c1) RT
 row:LRw W (B (A w)+1) (Y a D.length c) D
 az:∀r∈D,FitK 0 r.1
 lo:B (A w)<X
 bl:Below (B (A w)) w W
section
variable {w W W':E}{sb X c1 c c' g:Nat}{v0:ZB}{a1:Option Addr}{a':Option Addr}{RT:List TR}{D:List DR}{r:DR}
theorem LgS.aa (h:LgS w sb X W v0 a1 c1 RT a c D)(hb:Below (B (A W)) W W'):LgS w sb X W' v0 a1 c1 RT a c D :=
 ⟨(hb.block _ (ar h.rs)).trans h.rs,(hb.block _ (ar h.sx)).trans h.sx,(hb.block _ (ar h.bx)).trans h.bx,h.tg.aa hb ly,h.row.agr (dJ hb ly),h.az,h.lo,h.bl.trans (hb.mono h.bl.size)⟩
theorem LgS.more (h:LgS w sb X W v0 a1 c1 RT (T (Q g 0 Z)) c D)(hz:B (A W)<=B (A W'))(keep:∀k,k<B (A W)->k≠g->k≠X->W'.heap[k]?=W.heap[k]?)(p:W'.heap[X]?=T (N #[Y a' (D.length+1) c'] 25 (0,0)))
  (n:W'.ownsRow (B (A w)+1) 46 6 (Y a' (D.length+1) c') (D.length+1) (D.flatMap ddV++ddV r)) (s:LSub W' (B (A w)+1) r) (t:FitK 0 r.1) (hb:Below (B (A w)) w W'):LgS w sb X W' v0 a1 c1 RT a' c' (D++[r]):=by
 have hlo:=h.lo;obtain⟨cs,ZT,q⟩:=fD h.row.y g rfl;have hgb:=(h.row.y.lt g rfl).1;have j:∀(k:Nat) (i:Array ZB) (e:TypeId) (l:Nat × Nat),W.heap[k]?=T (Obj.cells i e l)->e≠46->e≠25->W'.heap[k]?=W.heap[k]?:=λk i e l b h1 h2=>by
  refine keep k (ar b) (λm=>?_) λm=>?_;{rw[m,q] at b;simp at b;exact h1 b.2.1.symm};{rw[m,h.bx] at b;simp at b;exact h2 b.2.1.symm}
 have o:(D++[r]).length=D.length+1:=by simp
 refine⟨(keep _ (ar h.rs) (by omega) (by omega)).trans h.rs,(j _ _ _ _ h.sx (by decide) (by decide)).trans h.sx,by rw[o];exact p,h.tg.ab hz λk b=>?_,⟨?_,λx f=>?_⟩,λx f=>?_,h.lo,hb⟩
 ·rcases b with ⟨i,b⟩|⟨i,b⟩
  {exact j _ _ _ _ b (by decide) (by decide)};{exact j _ _ _ _ b (by decide) (by decide)}
 {rw[o,KE];simpa using n}
 ·rcases wC.1 f with f|f
  ·refine(h.row.sub x f).ab hz λk b _=>?_;rcases b with ⟨i,l,b⟩|⟨i,l,b⟩
   {exact j _ _ _ _ b (by decide) (by decide)};{exact j _ _ _ _ b (by decide) (by decide)}
  {rw[hU.1 f];exact s}
 {rcases wC.1 f with f|f;{exact h.az x f};{rw[hU.1 f];exact t}}
end
def yR (b f:ByteArray)(an:Nat)(act:Nat->Ins)(ZT:Int):au:=⟨b,3,0,⟨#[103,114,111,117,110,100]⟩,an,act,1,λ_=>⟨f,ZD,ZA,ZT⟩⟩
theorem AH (w:E)(b:Nat)(hb:b<=B (A w))(g f:ByteArray)(an:Nat)(act:Nat->Ins)(ZT:Int):(z w (N #[U f,ZC ZD,ZC ZA,J I ZT] 129)).ownsRow b 129 4 (Y (T (Q (B (A w)) 0 Z)) 1 1) 1 (bY (yR g f an act ZT).m 1) :=
 ⟨rfl,.inr ⟨B (A w),1,_,rfl,hb,gM w _,nX _,by unfold maxLen;omega,rfl,rfl⟩⟩
theorem DY{b f:ByteArray}{an:Nat}{act:Nat->Ins}{ZT:Int}(h1:b.size<=5000)(h2:f.size<=5000)(g:an<=200)(h:∀j,j<an->(act j).s.size<=5000):FitK 0 (yR b f an act ZT) :=
 ⟨h1,by show(⟨#[103,114,111,117,110,100]⟩:ByteArray).size<=2000;decide,g,h,by show 1<=200;omega,λ_ _=>h2⟩
theorem pY:Ew:=by
 intro n w hn;obtain⟨DE,hi,He,Hd,Hi⟩:=KZ fR;obtain⟨W0,ZL⟩:∃W:E,z w (N #[Y Z 0 0] 25)=W:=⟨_,rfl⟩
 obtain⟨A0,K0,hz0⟩:=nb1 ZL;have aq:=ae ZL;clear ZL;have hw1:IntKind.i64.wrap ((n:Int) - 1)=(n:Int) - 1:=by rw[p9];omega
 go_enter func80,ntmps80;go_wp2_with fail;rw[aq.out];clear aq;refine(nT n (by omega) ⟨#[97]⟩ (by decide) W0).mono ?_;rintro e b ⟨b0,n0,c0,f0,a1,c1,RT,rfl,mv,-,-,hT,hG,hN,hB⟩;have HG:=ae hG;have At:=ae (λr t=>(hN r t).1);have Hl:=ae (λr t=>(hN r t).2);have Hj:=ae mv;have hs1:=hB.size;have S:(z b (N #[Y b0 n0 c0,Y a1 RT.length c1] 29)).heap.size=B (A b)+1:=by simp
 have ZK:((z b (N #[Y b0 n0 c0,Y a1 RT.length c1] 29)).alloc (N #[U ⟨#[97]⟩,J I 1,J I 0,U ⟨#[103,114,111,117,110,100]⟩,Y Z 0 0,Y Z 0 0] 46)).heap.size=B (A b)+2:=by simp
 have AB:=((BS b).alloc ly (N #[Y b0 n0 c0,Y a1 RT.length c1] 29)).alloc (by simp) (N #[U ⟨#[97]⟩,J I 1,J I 0,U ⟨#[103,114,111,117,110,100]⟩,Y Z 0 0,Y Z 0 0] 46);have AC:=AB.alloc (by simp<;>omega) (N #[Y (T (Q (B (A b)+1) 0 Z)) 1 1] 25);have kS:=gM b (N #[Y b0 n0 c0,Y a1 RT.length c1] 29);have kD:=gM (z b (N #[Y b0 n0 c0,Y a1 RT.length c1] 29)) (N #[U ⟨#[97]⟩,J I 1,J I 0,U ⟨#[103,114,111,117,110,100]⟩,Y Z 0 0,Y Z 0 0] 46);rw[S] at kD;have kX:=gM ((z b (N #[Y b0 n0 c0,Y a1 RT.length c1] 29)).alloc (N #[U ⟨#[97]⟩,J I 1,J I 0,U ⟨#[103,114,111,117,110,100]⟩,Y Z 0 0,Y Z 0 0] 46)) (N #[Y (T (Q (B (A b)+1) 0 Z)) 1 1] 25);rw[ZK] at kX;have B1:=(cM (B (A b)+1) (z b (N #[Y b0 n0 c0,Y a1 RT.length c1] 29))).alloc (by rw[S];exact nX _) (N #[U ⟨#[97]⟩,J I 1,J I 0,U ⟨#[103,114,111,117,110,100]⟩,Y Z 0 0,Y Z 0 0] 46);have B2:=(cM (B (A b)+2) ((z b (N #[Y b0 n0 c0,Y a1 RT.length c1] 29)).alloc (N #[U ⟨#[97]⟩,J I 1,J I 0,U ⟨#[103,114,111,117,110,100]⟩,Y Z 0 0,Y Z 0 0] 46))).alloc (by rw[ZK];exact nX _) (N #[Y (T (Q (B (A b)+1) 0 Z)) 1 1] 25);have S1:Hid (LgS w (B (A b)) (B (A b)+2) (((z b (N #[Y b0 n0 c0,Y a1 RT.length c1] 29)).alloc (N #[U ⟨#[97]⟩,J I 1,J I 0,U ⟨#[103,114,111,117,110,100]⟩,Y Z 0 0,Y Z 0 0] 46)).alloc (N #[Y (T (Q (B (A b)+1) 0 Z)) 1 1] 25)) (Y b0 n0 c0) a1 c1 RT (T (Q (B (A b)+1) 0 Z)) 1 [lO ⟨#[97]⟩ ⟨#[103,114,111,117,110,100]⟩ 1]):=by
  have Hh:=(B2.block (B (A b)+1) (by omega)).trans kD;refine⟨(AC.block (B (A w)) (by omega)).trans ((hB.block (B (A w)) (by omega)).trans K0),(B2.block (B (A b)) (by omega)).trans ((B1.block (B (A b)) (by omega)).trans kS),kX,(hT.mono (by omega)).aa AC ly,⟨⟨rfl,.inr ⟨B (A b)+1,1,_,rfl,by omega,Hh,nX _,by unfold maxLen;omega,rfl,rfl⟩⟩,λr t=>?_⟩,λr t=>?_,by omega,(A0.trans (hB.mono (by omega))).trans (AC.mono (by omega))⟩;{rw[hU.1 t];exact⟨.inl ⟨rfl,0,rfl⟩,CL _ _ _ _⟩};{rw[hU.1 t];exact uQ 1 (by decide) (by decide)}
 clear AB AC kS kD kX B1 B2 S ZK hT hG hN hB A0 K0 mv;go_wp2_with fail;generalize World.alloc (World.alloc (World.alloc b _) _) _=W1 at S1 ⊢;generalize (B (A b))+2=X at S1 ⊢;generalize (B (A b))=sb at S1 ⊢;go_loopw [5] (λi wr=>∃(m:Nat) (ZT:Int) (a:Option Addr) (c:Nat) (D:List DR),i=J I ZT/\ZT=(m:Int) - 1/\m<=n/\D.length+m=n+1/\Hid (LgS w sb X wr (Y b0 n0 c0) a1 c1 RT a c D)) (λi _=>(intOf i+1).toNat);case atStart=>exact⟨n,_,_,_,_,rfl,rfl,nX _,by simp;omega,S1⟩
 case round =>
  clear S1;obtain⟨m,ZT,a,c,D,rfl,hz,hm,hD,f⟩:=hrel;have HD:=ae hD;clear hD;by_cases h0:m=0
  ·subst h0;obtain rfl:ZT=-1:=by omega
   have Fd:D.length<=50000:=by have:=HD.out;omega
   have HE:=ae ((Gu (f.row.agr (qL (j:=0) (j4 (B (A w))) (Y a D.length c))) rfl (λr t=>(f.az r t).d (by omega)) Fd).mono (D0 (B (A w))));have Bk:D.length<=450:=by have:=HD.out;omega
   have FE:=ae (λ(i:Nat) (hi:i<D.length)=>show FitK 0 (dF (D.map (·.1)) i) by
    obtain⟨r,t,hm⟩:=dr hi;rw[gF t]
    exact f.az r hm)
   have BE:=ae (f.bl.setCell (p:=(Q (B (A w)) 0 Z)) ly (Y a D.length c));have kr:=f.rs;have ZS:=f.bx;have r0:wr.cell? (Q (B (A w)) 0 Z)=T (Y Z 0 0):=by simp[World.cell?,kr]
   have q0:wr.frozen? (Q (B (A w)) 0 Z)=ZA:=by simp[World.frozen?,kr]
   have x0:wr.cell? (Q X 0 Z)=T (Y a D.length c):=by simp[World.cell?,ZS]
   have l0:=ar kr;have l1:=ar ZS;clear kr ZS hz;go_wp2;exact bp (v:=.agg #[Y a D.length c]) (by simp[results,results80,go_sem,r0]) rfl ⟨_,_,_,_,rfl,HE,BE,Bk,FE⟩
  ·obtain⟨k,rfl⟩:∃k,m=k+1:=⟨m - 1,by omega⟩
   obtain rfl:ZT=(k:Int):=by omega
   clear hz h0;have Fk:k<RT.length:=by have:=Hj.out;omega
   have Hc:0<D.length:=by have:=HD.out;omega
   have hDn:D.length<=100:=by have:=HD.out;omega
   obtain⟨g,c',e⟩:=df f.row.y Hc;obtain⟨rfl,-,-⟩:=PO e;clear e c';obtain⟨L,hL⟩:∃L,D.length=L+1:=⟨D.length - 1,by omega⟩
   obtain⟨rl,C,n6⟩:=dr (R:=D) (i:=L) (by omega);have e0:=(ij f.row.y C 0 (by omega) (u:=U rl.1.e) rfl).1;rw[LX] at e0;have ro:=(f.az rl n6).nm;have hwL:IntKind.i64.wrap ((D.length:Int) - 1)=(L:Int):=by rw[p9];omega
   have hLl:(L:Int)<(D.length:Int):=by omega
   obtain⟨o,r,fd,M,ZO,t0,t1,-⟩:=f.tg.atk Fk;obtain⟨qr,-,ld,DQ⟩:=f.tg.u r ZO;have sm:=ae qr;have th:=ae ld;obtain⟨-,n8⟩:=HG.out r ZO;have G8:r.1.h<=200:=by have:=Hl.out r ZO;omega
   have Hg:=ae n8;have Hb:=At.out r ZO;have ZS:=f.bx;have ks:=f.sx;rw[fd] at ks;have x0:wr.cell? (Q X 0 Z)=T (Y (T (Q g 0 Z)) D.length c):=by simp[World.cell?,ZS]
   have y0:wr.frozen? (Q X 0 Z)=ZA:=by simp[World.frozen?,ZS]
   have x1:wr.cell? (Q sb 1 Z)=T (Y (T (Q o 0 Z)) RT.length c1):=by simp[World.cell?,ks]
   have l0:=ar ZS;have l1:=ar ks;obtain⟨cg,zg,kg⟩:=fD f.row.y g rfl;have lg:=ar kg;have ur:X≠g:=λe=>by rw[e,kg] at ZS;simp at ZS
   have Hf:sb≠g:=λe=>by rw[e,kg] at ks;simp at ks
   have n9:o≠g:=λe=>by obtain⟨cur,hc⟩:=f.tg.type o (by rw[fd];rfl);rw[e,kg] at hc;simp at hc
   have hgb:=(f.row.y.lt g rfl).1;have hlo:=f.lo;have ph:=f.bl.size;clear ZS ks qr ld n8 C n6 ZO fd kg;have SQ:Hid (∀V:E,(∀j,j<B (A wr)->j≠g->V.heap[j]?=wr.heap[j]?)->V.cell? (Q X 0 Z)=T (Y (T (Q g 0 Z)) D.length c)/\V.cell? (Q sb 1 Z)=T (Y (T (Q o 0 Z)) RT.length c1)/\V.cell? (Q o (k*2) Z)=T (U r.1.e)/\V.cell? (Q o (k*2+1) Z)=T (Y (T (Q r.2.1 0 Z)) r.1.h r.2.2)):=λV hV=>⟨(cq (a:=(Q X 0 Z)) (hV X l0 ur)).trans x0,(cq (a:=(Q sb 1 Z)) (hV sb l1 Hf)).trans x1,(cq (a:=(Q o (k*2) Z)) (hV o M n9)).trans t0,(cq (a:=(Q o (k*2+1) Z)) (hV o M n9)).trans t1⟩
   have HL:=ae hL;clear hL;generalize rl.1.e=O at e0 ro;go_upto_region 7 with fail;have hk2:(k:Int)<(RT.length:Int):=by omega
   go_wp2_with fail;refine aH (λV=>V.cell? (Q X 0 Z)=T (Y (T (Q g 0 Z)) D.length c)/\V.cell? (Q sb 1 Z)=T (Y (T (Q o 0 Z)) RT.length c1)/\V.cell? (Q o (k*2) Z)=T (U r.1.e)/\V.cell? (Q o (k*2+1) Z)=T (Y (T (Q r.2.1 0 Z)) r.1.h r.2.2)) 25 (by kernel_rfl) ?_;have H:=ae (f.aa br.drew);have ZR:Hid (∀V:E,(∀j,j<wr.drew.heap.size->j≠g->V.heap[j]?=wr.drew.heap[j]?)->V.cell? (Q X 0 Z)=T (Y (T (Q g 0 Z)) D.length c)/\V.cell? (Q sb 1 Z)=T (Y (T (Q o 0 Z)) RT.length c1)/\V.cell? (Q o (k*2) Z)=T (U r.1.e)/\V.cell? (Q o (k*2+1) Z)=T (Y (T (Q r.2.1 0 Z)) r.1.h r.2.2)):=SQ;have ZI:Hid (RowIns wr.drew r.2.1 0 r.1.h r.1.u):=sm.aa br.drew ly;have ZN:Hid (TypeAt wr.drew r.2.1 146):=th;have l2:X<wr.drew.heap.size:=l0;have n7:B (A w)<=wr.drew.heap.size:=ph;clear f SQ sm th l0 l1 lg M x0 x1 y0 t0 t1 e0 ph;generalize wr.drew=v at H ZR ZI ZN l2 n7 ⊢;have q:=ae (ZR v (λj _ _=>rfl));iterate 20
    refine aK 0 (v:=?_) rfl rfl (by kernel_rfl) (λ_ _ _ h=>h) rfl ?_ q ?_;rotate_left
    ·(rintro wz ⟨s0,s1,s2,s3⟩;go_simp)
     (try with_reducible rfl)
    (try simp only[Act.put,nzL])
   have BA:=ae ((BS v).alloc ly (N #[U O,ZC ZD,ZC ZA,J I L] 129));have hx1:=H.lo;have Hk:(z v (N #[U O,ZC ZD,ZC ZA,J I L] 129)).heap.size=B (A v)+1:=by simp
   have OL:=ae (AH v (B (A w)+1) (by omega) r.1.e O r.1.h r.1.u (L:Int));refine aj (i:=20) rfl (by kernel_rfl) λK l=>?_;go_simp;clear q;have q:=ae (ZR _ (λj ZQ _=>BA.block j ZQ));refine l _ _ (λ_=>q) ?_;clear l K
   (try simp only[Act.put,nzL])
   refine aj (i:=21) rfl (by kernel_rfl) λK l=>?_;go_simp;refine l _ _ (λ_=>q) ?_;clear l K
   (try simp only[Act.put,nzL])
   have DS:=BA.size;have ZP:=ae (BA.alloc DS (N #[U r.1.e,J I 3,J I 0,U ⟨#[103,114,111,117,110,100]⟩,Y (T (Q r.2.1 0 Z)) r.1.h r.2.2,Y (T (Q (B (A v)) 0 Z)) 1 1] 46));refine aj (i:=22) rfl (by kernel_rfl) λK l=>?_;go_simp;clear q;have q:=ae (ZR _ (λj ZQ _=>ZP.block j ZQ));refine l _ _ (λ_=>q) ?_;clear l K
   (try simp only[Act.put,nzL])
   have OW:=ae (own_below H.row.y ZP ly);obtain⟨WC,ZM⟩:∃W:E,(z v (N #[U O,ZC ZD,ZC ZA,J I L] 129)).alloc (N #[U r.1.e,J I 3,J I 0,U ⟨#[103,114,111,117,110,100]⟩,Y (T (Q r.2.1 0 Z)) r.1.h r.2.2,Y (T (Q (B (A v)) 0 Z)) 1 1] 46)=W:=⟨_,rfl⟩
   obtain⟨-,-,-,hzC⟩:=nb2 ZM;have P:=ae ZM;clear ZM;have NC:Hid (∀j u,[Value.string r.1.e,J I 3,J I 0,U ⟨#[103,114,111,117,110,100]⟩,Y (T (Q r.2.1 0 Z)) r.1.h r.2.2,Y (T (Q (B (A v)) 0 Z)) 1 1][j]?=T u->WC.cell? (((Q (B (A v)+1) 0 Z):Addr).add j)=T u):=by rw[<-P.out];have h:=ew (z v (N #[U O,ZC ZD,ZC ZA,J I L] 129)) #[U r.1.e,J I 3,J I 0,U ⟨#[103,114,111,117,110,100]⟩,Y (T (Q r.2.1 0 Z)) r.1.h r.2.2,Y (T (Q (B (A v)) 0 Z)) 1 1] 46;rw[Hk] at h;exact h
   have OK:=ae (own_below OL ((cM _ (z v (N #[U O,ZC ZD,ZC ZA,J I L] 129))).alloc ly (N #[U r.1.e,J I 3,J I 0,U ⟨#[103,114,111,117,110,100]⟩,Y (T (Q r.2.1 0 Z)) r.1.h r.2.2,Y (T (Q (B (A v)) 0 Z)) 1 1] 46)) ly);clear OL;rw[P.out] at ZP OW OK q ⊢;clear P;refine aj (i:=23) rfl (by kernel_rfl) λK l=>?_;refine aW rfl (.tmp 28) (.tmp 49) 23 rfl (B (A w)+1) 46 DE (.agg #[U ⟨#[]⟩,J I 0,J I 0,U ⟨#[]⟩,Y Z 0 0,Y Z 0 0]) 6 96 MU hi He Hd Hi rfl (by decide) (Y (T (Q g 0 Z)) D.length c) D.length (D.flatMap ddV) (by simp[Act.eval]) OW.out (Q (B (A v)+1) 0 Z) 1 1 [U r.1.e,J I 3,J I 0,U ⟨#[103,114,111,117,110,100]⟩,Y (T (Q r.2.1 0 Z)) r.1.h r.2.2,Y (T (Q (B (A v)) 0 Z)) 1 1] (by simp[Act.eval]) rfl NC.out (by simp[Value.oneCell']) (by unfold maxLen;omega) (by omega) (by omega) ?_;intro v' x G s Fm;obtain⟨ZJ,c',rfl⟩:=df G (by omega);have KG:Hid (∀j,j<B (A WC)->j≠g->x.heap[j]?=WC.heap[j]?):=λj ZQ ex=>s.block j ZQ (λe=>ex (IN (show T j=T g from e)));have hz6:=s.size;clear q;have q:=ae (ZR x (λj ZQ ex=>(KG j (by omega) ex).trans (ZP.block j ZQ)));refine l _ _ (λ_=>q) ?_;clear l K
   (try simp only[Act.put,nzL])
   refine aj (i:=24) rfl (by kernel_rfl) λK l=>?_;go_simp;refine l _ _ (λ_=>q) ?_;clear l K
   (try simp only[Act.put,nzL])
   have HO:=ae G;have k6:x.heap[X]?=v.heap[X]?:=(KG X (by omega) ur).trans (ZP.block X l2);have y:=k6.trans H.bx;have z0:x.cell? (Q X 0 Z)=T (Y (T (Q g 0 Z)) D.length c):=by simp[World.cell?,y]
   have z1:x.frozen? (Q X 0 Z)=ZA:=by simp[World.frozen?,y]
   have z2:=ar y;have GS:X≠ZJ:=λe=>by obtain⟨cc,zz,hc⟩:=fD G ZJ rfl;rw[e,hc] at y;simp at y
   clear G;refine aj (i:=25) rfl (by kernel_rfl) λK l=>?_;go_simp;refine l _ _ (λh=>absurd rfl h) ?_;clear l K q
   (try simp only[Act.put,nzL])
   refine be (by kernel_rfl) ?_ _;have keep:∀j,j<B (A v)->j≠g->j≠X->(x.setCell (Q X 0 Z) (Y (T (Q ZJ 0 Z)) (D.length+1) c')).heap[j]?=v.heap[j]?:=λj ZQ h1 h2=>(qh x (Q X 0 Z) _ j h2).trans ((KG j (by omega) h1).trans (ZP.block j ZQ));have bt:r.2.1≠g:=λe=>by obtain⟨c5,z5,h5⟩:=fD H.row.y g rfl;obtain⟨c6,h6⟩:=ZN.out;rw[e,h5] at h6;simp at h6
   have la:r.2.1≠X:=λe=>by obtain⟨c6,h6⟩:=ZN.out;rw[e,H.bx] at h6;simp at h6
   have C:=ZI.1;have M:=(H.row.y.lt g rfl).2
   have S9:=ae (H.more (r:=(yR r.1.e O r.1.h r.1.u (L:Int),Y (T (Q r.2.1 0 Z)) r.1.h r.2.2,Y (T (Q (B (A v)) 0 Z)) 1 1)) (a':=T (Q ZJ 0 Z)) (c':=c') (W':=x.setCell (Q X 0 Z) (Y (T (Q ZJ 0 Z)) (D.length+1) c')) (by simp;omega) keep (ci y _)
    (dP HO λm hm _=>qh x (Q X 0 Z) _ m (λe=>GS (e.symm.trans (IN (show T m=T ZJ from hm.symm ▸ rfl)))))
    ⟨.inr ⟨r.2.1,r.2.2,rfl,ZI.block (by simp;omega) (keep _ C bt la),ZN.block (keep _ C bt la),DQ⟩,dP OK λm hm _=>by
     obtain rfl:B (A v)=m:=IN hm
     exact(qh x (Q X 0 Z) _ _ (by show (B (A v))≠X;omega)).trans (KG _ (by omega) (by omega))⟩
    (DY Hb ro G8 Hg)
    (((H.bl.trans (ZP.mono n7)).trans (bg (cM (B (A w)) WC) s (by omega) (λk' e=>by have e2:=IN (show T g=T k' from e);omega))).setCell (p:=(Q X 0 Z)) (by show (B (A w))<=X;omega) _))
   clear keep bt la C M s Fm HO OK OW NC KG BA ZP ZR ZI ZN y k6 z0 z1 z2;generalize World.setCell x _ _=W9 at S9 ⊢;have hwk:IntKind.i64.wrap ((k:Int) - 1)=(k:Int) - 1:=by rw[p9];omega
   go_wp2;refine⟨⟨k,(k:Int) - 1,_,_,_,by go_num,rfl,by omega,?_,S9⟩,by simp[intOf]⟩;have:=HD.out;rw[eL,AT];omega
