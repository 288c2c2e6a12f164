import Derived.Test.YtpmnbjkjpnclaaaGreatDoorKB
import Derived.Test.YtpmnbjkjpnclaaaGreatDoorKM
set_option maxRecDepth 100000
set_option maxHeartbeats 8000000
open Go renaming Addr.mk->N,Value.slice->Y,Value.string->U,Value.int->Q,Value.bool->ZC,Obj.cells->J,IntKind.i64->I,World->M,Value->ZB,World.heap->A,World.alloc->z
open Option renaming none->Z,some->T
open Bool renaming false->ZA,true->ZF
open Array renaming size->B
namespace Go.Proofs.YtpmnbjkjpnclaaaGreatDoor.Vp
open Tryz RowKit Ca
variable {w w':M}{b:Nat}{R:List DR}{a:Option Addr}
structure LSub (w:M)(base:Nat)(r:DR):Prop where
 D:r.1.m=0/\(∃c,r.2.1=Y Z 0 c)∨∃g c,r.2.1=Y (T (N g 0 Z)) r.1.m c/\RowIns w g 0 r.1.m r.1.D/\TypeAt w g 151/\base<=g
 av:w.ownsRow base 91 4 r.2.2 r.1.l (bQ r.1.u r.1.l)
structure LRw (w:M)(base:Nat)(v:ZB)(R:List DR):Prop where
 x:w.ownsRow base 46 6 v R.length (R.flatMap ddV)
 sub:∀r∈R,LSub w base r
theorem LSub.ad{r:DR}(h:LSub w b r)(hz:B (A w)<=B (A w'))(hb:∀k,OfTy w k 151∨OfTy w k 91->b<=k->w'.heap[k]?=w.heap[k]?):LSub w' b r:=by
 refine⟨?_,cy h.av λk l m=>hb k (.inr m) (h.av.lt k l).1⟩;rcases h.D with h1|⟨g,c,e,h2,i,f⟩
 {exact .inl h1};{have j:w'.heap[g]?=w.heap[g]?:=hb g (.inl (by obtain⟨n,o⟩:=i;exact⟨n,_,o⟩)) f;exact .inr ⟨g,c,e,h2.block hz j,i.block j,f⟩}
theorem LRw.agr{V:M}{v:ZB}(h:LRw w b v R)(f:Agr b w V):LRw V b v R :=
 ⟨d9 h.x f,λr i=>(h.sub r i).ad f.1 λk g hb=>f.2 k hb (by rcases g with ⟨c,ZT,e⟩|⟨c,ZT,e⟩<;>exact ar e)⟩
theorem LRw.bb{c:Nat}(h:LRw w b (Y a R.length c) R):SlDeed w a R.length (dF (R.map (·.1))):=by
 by_cases hz:R.length=0;{exact .inl hz}
 ·obtain⟨g,c',e⟩:=cU h.x (by omega);cases e
  refine .inr ⟨g,0,rfl,(cO h.x).2,λi hi=>?_⟩;obtain⟨r,f,l⟩:=cZ hi;rw[gB f];have c:∀j,j<6->∀u,(ddV r)[j]?=T u->w.cell? (N g (0+i*6+j) Z)=T u:=λj s u n=>by rw[show 0+i*6+j=i*6+j by omega];exact(gL h.x f j s n).1
  have x:DSub w b ({ r.1 with m:=0 },Y Z 0 0,r.2.2):=⟨ES _ _ _ _,(h.sub r l).av⟩
  obtain⟨p,c5,t,m⟩:=x.u;obtain⟨y,c4,o,q⟩:∃a cap,r.2.1=Y a r.1.m cap/\SlIns w a r.1.m r.1.D:=by
   rcases(h.sub r l).D with ⟨h1,c,e⟩|⟨g,c,e,h2,-,-⟩
   {exact⟨Z,c,by rw[h1];exact e,.inl h1⟩};{exact⟨_,c,e,.inr ⟨g,0,rfl,h2⟩⟩}
  exact⟨c 0 (by omega) _ rfl,c 1 (by omega) _ rfl,c 2 (by omega) _ rfl,c 3 (by omega) _ rfl,⟨y,c4,by rw[<-o];exact c 4 (by omega) _ rfl,q⟩,⟨p,c5,by rw[<-show r.2.2=_ from t];exact c 5 (by omega) _ rfl,m⟩⟩
theorem Fb{n c:Nat}(h:LRw w b (Y a n c) R)(e:n=R.length)(l:∀r∈R,FitD r.1)(hn:R.length<=50000):HAc b w a n c (dF (R.map (·.1))):=by subst e;refine⟨λV j=>(h.agr j).bb,iS h.x,hn,λi hi=>?_⟩;obtain⟨r,g,f⟩:=cZ hi;rw[gB g];exact l r f
theorem TRow.ad{v:ZB}{R:List TR}(h:TRow w b v R)(hz:B (A w)<=B (A w'))(hb:∀k,TypeAt w k 146∨TypeAt w k 151->w'.heap[k]?=w.heap[k]?):TRow w' b v R:=by
 refine⟨?_,λr m=>?_,h.up⟩
 ·refine⟨h.x.1,?_⟩;rcases h.x.2 with h1|⟨g,cap,f,rfl,i,l,h2⟩
  {exact .inl h1};{exact .inr ⟨g,cap,f,rfl,i,(hb g (.inl ⟨f,l⟩)).trans l,h2⟩}
 {obtain⟨h1,⟨F,h2⟩,j,n⟩:=h.D r m;have e:=hb r.2.1 (.inr j);exact⟨h1.block hz e,⟨F,h2.block hz e⟩,j.block e,n⟩}
structure LgS (w:M)(sb X:Nat)(W:M)(v0:ZB)(a1:Option Addr)(c1:Nat)(RT:List TR)(a:Option Addr)(c:Nat)(D:List DR):Prop where
 rs:W.heap[B (A w)]?=T (J #[Y Z 0 0] 37 (0,0))
 sx:W.heap[sb]?=T (J #[v0,Y a1 RT.length c1] 27 (0,0))
 bx:W.heap[X]?=T (J #[Y a D.length c] 37 (0,0))
 tg:TRow W (B (A w)+1) (Y a1 RT.length c1) RT
 row:LRw W (B (A w)+1) (Y a D.length c) D
 az:∀r∈D,FitK 0 r.1
 lo:B (A w)<X
 bl:Below (B (A w)) w W
section
variable {w W W':M}{sb X c1 c c' g:Nat}{v0:ZB}{a1:Option Addr}{a':Option Addr}{RT:List TR}{D:List DR}{r:DR}
theorem LgS.aa (h:LgS w sb X W v0 a1 c1 RT a c D)(hb:Below (B (A W)) W W'):LgS w sb X W' v0 a1 c1 RT a c D :=
 ⟨(hb.block _ (ar h.rs)).trans h.rs,(hb.block _ (ar h.sx)).trans h.sx,(hb.block _ (ar h.bx)).trans h.bx,h.tg.aa hb ly,h.row.agr (fF hb ly),h.az,h.lo,h.bl.trans (hb.mono h.bl.size)⟩
theorem LgS.more (h:LgS w sb X W v0 a1 c1 RT (T (N g 0 Z)) c D)(hz:B (A W)<=B (A W'))(keep:∀k,k<B (A W)->k≠g->k≠X->W'.heap[k]?=W.heap[k]?)(o:W'.heap[X]?=T (J #[Y a' (D.length+1) c'] 37 (0,0)))
  (m:W'.ownsRow (B (A w)+1) 46 6 (Y a' (D.length+1) c') (D.length+1) (D.flatMap ddV++ddV r)) (s:LSub W' (B (A w)+1) r) (q:FitK 0 r.1) (hb:Below (B (A w)) w W'):LgS w sb X W' v0 a1 c1 RT a' c' (D++[r]):=by
 have hlo:=h.lo;obtain⟨cs,ZT,t⟩:=eN h.row.x g rfl;have hgb:=(h.row.x.lt g rfl).1;have j:∀(k:Nat) (i:Array ZB) (e:TypeId) (l:Nat × Nat),W.heap[k]?=T (Obj.cells i e l)->e≠46->e≠37->W'.heap[k]?=W.heap[k]?:=λk i e l b h1 h2=>by
  refine keep k (ar b) (λn=>?_) λn=>?_;{rw[n,t] at b;simp at b;exact h1 b.2.1.symm};{rw[n,h.bx] at b;simp at b;exact h2 b.2.1.symm}
 have p:(D++[r]).length=D.length+1:=by simp
 refine⟨(keep _ (ar h.rs) (by omega) (by omega)).trans h.rs,(j _ _ _ _ h.sx (by decide) (by decide)).trans h.sx,by rw[p];exact o,h.tg.ad hz λk b=>?_,⟨?_,λx f=>?_⟩,λx f=>?_,h.lo,hb⟩
 ·rcases b with ⟨i,b⟩|⟨i,b⟩
  {exact j _ _ _ _ b (by decide) (by decide)};{exact j _ _ _ _ b (by decide) (by decide)}
 {rw[p,JA];simpa using m}
 ·rcases BC.1 f with f|f
  ·refine(h.row.sub x f).ad hz λk b _=>?_;rcases b with ⟨i,l,b⟩|⟨i,l,b⟩
   {exact j _ _ _ _ b (by decide) (by decide)};{exact j _ _ _ _ b (by decide) (by decide)}
  {rw[hU.1 f];exact s}
 {rcases BC.1 f with f|f;{exact h.az x f};{rw[hU.1 f];exact q}}
end
def xu (b f:ByteArray)(an:Nat)(act:Nat->Ins)(ZT:Int):aj:=⟨b,3,0,⟨#[103,114,111,117,110,100]⟩,an,act,1,λ_=>⟨f,ZF,ZA,ZT⟩⟩
theorem yY (w:M)(b:Nat)(hb:b<=B (A w))(g f:ByteArray)(an:Nat)(act:Nat->Ins)(ZT:Int):(z w (J #[U f,ZC ZF,ZC ZA,Q I ZT] 91)).ownsRow b 91 4 (Y (T (N (B (A w)) 0 Z)) 1 1) 1 (bQ (xu g f an act ZT).u 1) :=
 ⟨rfl,.inr ⟨B (A w),1,_,rfl,hb,gM w _,nX _,by unfold maxLen;omega,rfl,rfl⟩⟩
theorem Bs{f b:ByteArray}{an:Nat}{act:Nat->Ins}{ZT:Int}(h1:f.size<=5000)(h2:b.size<=5000)(g:an<=200)(h:∀j,j<an->(act j).s.size<=5000):FitK 0 (xu f b an act ZT) :=
 ⟨h1,by show(⟨#[103,114,111,117,110,100]⟩:ByteArray).size<=2000;decide,g,h,by show 1<=200;omega,λ_ _=>h2⟩
theorem xw:Cx:=by
 intro n w hn;obtain⟨FP,hi,F8,F9,DQ⟩:=JT fX;obtain⟨W0,S⟩:∃W:M,z w (J #[Y Z 0 0] 37)=W:=⟨_,rfl⟩
 obtain⟨A0,K0,hz0⟩:=nb1 S;have bt:=ae S;clear S;have hw1:IntKind.i64.wrap ((n:Int) - 1)=(n:Int) - 1:=by rw[AI];omega
 go_enter func123,ntmps123;go_wp2_with fail;rw[bt.out];clear bt;refine(uy n (by omega) ⟨#[97]⟩ (by decide) W0).mono ?_;rintro e b ⟨b0,n0,c0,f0,a1,c1,RT,rfl,n9,-,-,hT,hG,hN,hB⟩;have HG:=ae hG;have FX:=ae (λr x=>(hN r x).1);have F0:=ae (λr x=>(hN r x).2);have Fm:=ae n9;have hs1:=hB.size;have ZL:(z b (J #[Y b0 n0 c0,Y a1 RT.length c1] 27)).heap.size=B (A b)+1:=by simp
 have P:((z b (J #[Y b0 n0 c0,Y a1 RT.length c1] 27)).alloc (J #[U ⟨#[97]⟩,Q I 1,Q I 0,U ⟨#[103,114,111,117,110,100]⟩,Y Z 0 0,Y Z 0 0] 46)).heap.size=B (A b)+2:=by simp
 have AB:=((BS b).alloc ly (J #[Y b0 n0 c0,Y a1 RT.length c1] 27)).alloc (by simp) (J #[U ⟨#[97]⟩,Q I 1,Q I 0,U ⟨#[103,114,111,117,110,100]⟩,Y Z 0 0,Y Z 0 0] 46);have AC:=AB.alloc (by simp<;>omega) (J #[Y (T (N (B (A b)+1) 0 Z)) 1 1] 37);have kS:=gM b (J #[Y b0 n0 c0,Y a1 RT.length c1] 27);have kD:=gM (z b (J #[Y b0 n0 c0,Y a1 RT.length c1] 27)) (J #[U ⟨#[97]⟩,Q I 1,Q I 0,U ⟨#[103,114,111,117,110,100]⟩,Y Z 0 0,Y Z 0 0] 46);rw[ZL] at kD;have kX:=gM ((z b (J #[Y b0 n0 c0,Y a1 RT.length c1] 27)).alloc (J #[U ⟨#[97]⟩,Q I 1,Q I 0,U ⟨#[103,114,111,117,110,100]⟩,Y Z 0 0,Y Z 0 0] 46)) (J #[Y (T (N (B (A b)+1) 0 Z)) 1 1] 37);rw[P] at kX;have B1:=(cM (B (A b)+1) (z b (J #[Y b0 n0 c0,Y a1 RT.length c1] 27))).alloc (by rw[ZL];exact nX _) (J #[U ⟨#[97]⟩,Q I 1,Q I 0,U ⟨#[103,114,111,117,110,100]⟩,Y Z 0 0,Y Z 0 0] 46);have B2:=(cM (B (A b)+2) ((z b (J #[Y b0 n0 c0,Y a1 RT.length c1] 27)).alloc (J #[U ⟨#[97]⟩,Q I 1,Q I 0,U ⟨#[103,114,111,117,110,100]⟩,Y Z 0 0,Y Z 0 0] 46))).alloc (by rw[P];exact nX _) (J #[Y (T (N (B (A b)+1) 0 Z)) 1 1] 37);have S1:Hid (LgS w (B (A b)) (B (A b)+2) (((z b (J #[Y b0 n0 c0,Y a1 RT.length c1] 27)).alloc (J #[U ⟨#[97]⟩,Q I 1,Q I 0,U ⟨#[103,114,111,117,110,100]⟩,Y Z 0 0,Y Z 0 0] 46)).alloc (J #[Y (T (N (B (A b)+1) 0 Z)) 1 1] 37)) (Y b0 n0 c0) a1 c1 RT (T (N (B (A b)+1) 0 Z)) 1 [km ⟨#[97]⟩ ⟨#[103,114,111,117,110,100]⟩ 1]):=by
  have FQ:=(B2.block (B (A b)+1) (by omega)).trans kD;refine⟨(AC.block (B (A w)) (by omega)).trans ((hB.block (B (A w)) (by omega)).trans K0),(B2.block (B (A b)) (by omega)).trans ((B1.block (B (A b)) (by omega)).trans kS),kX,(hT.mono (by omega)).aa AC ly,⟨⟨rfl,.inr ⟨B (A b)+1,1,_,rfl,by omega,FQ,nX _,by unfold maxLen;omega,rfl,rfl⟩⟩,λr x=>?_⟩,λr x=>?_,by omega,(A0.trans (hB.mono (by omega))).trans (AC.mono (by omega))⟩;{rw[hU.1 x];exact⟨.inl ⟨rfl,0,rfl⟩,ES _ _ _ _⟩};{rw[hU.1 x];exact ts 1 (by decide) (by decide)}
 clear AB AC kS kD kX B1 B2 ZL P hT hG hN hB A0 K0 n9;go_wp2_with fail;generalize World.alloc (World.alloc (World.alloc b _) _) _=W1 at S1 ⊢;generalize (B (A b))+2=X at S1 ⊢;generalize (B (A b))=sb at S1 ⊢;go_loopw [5] (λi wr=>∃(m:Nat) (ZT:Int) (a:Option Addr) (c:Nat) (D:List DR),i=Q I ZT/\ZT=(m:Int) - 1/\m<=n/\D.length+m=n+1/\Hid (LgS w sb X wr (Y b0 n0 c0) a1 c1 RT a c D)) (λi _=>(intOf i+1).toNat);case atStart=>exact⟨n,_,_,_,_,rfl,rfl,nX _,by simp;omega,S1⟩
 case round =>
  clear S1;obtain⟨m,ZT,a,c,D,rfl,hz,hm,hD,f⟩:=hrel;have HD:=ae hD;clear hD;by_cases h0:m=0
  ·subst h0;obtain rfl:ZT=-1:=by omega
   have FU:D.length<=50000:=by have:=HD.out;omega
   have HE:=ae ((Fb (f.row.agr (px (j:=0) (AD (B (A w))) (Y a D.length c))) rfl (λr x=>(f.az r x).d (by omega)) FU).mono (JH (B (A w))));have FK:D.length<=450:=by have:=HD.out;omega
   have FE:=ae (λ(i:Nat) (hi:i<D.length)=>show FitK 0 (dF (D.map (·.1)) i) by
    obtain⟨r,x,hm⟩:=cZ hi;rw[gB x]
    exact f.az r hm)
   have BE:=ae (f.bl.setCell (p:=(N (B (A w)) 0 Z)) ly (Y a D.length c));have kr:=f.rs;have ZS:=f.bx;have r0:wr.cell? (N (B (A w)) 0 Z)=T (Y Z 0 0):=by simp[World.cell?,kr]
   have q0:wr.frozen? (N (B (A w)) 0 Z)=ZA:=by simp[World.frozen?,kr]
   have x0:wr.cell? (N X 0 Z)=T (Y a D.length c):=by simp[World.cell?,ZS]
   have l0:=ar kr;have l1:=ar ZS;clear kr ZS hz;go_wp2;exact bp (v:=.agg #[Y a D.length c]) (by simp[results,results123,go_sem,r0]) rfl ⟨_,_,_,_,rfl,HE,BE,FK,FE⟩
  ·obtain⟨k,rfl⟩:∃k,m=k+1:=⟨m - 1,by omega⟩
   obtain rfl:ZT=(k:Int):=by omega
   clear hz h0;have Fd:k<RT.length:=by have:=Fm.out;omega
   have FV:0<D.length:=by have:=HD.out;omega
   have hDn:D.length<=100:=by have:=HD.out;omega
   obtain⟨g,c',e⟩:=cU f.row.x FV;obtain⟨rfl,-,-⟩:=NQ e;clear e c';obtain⟨L,hL⟩:∃L,D.length=L+1:=⟨D.length - 1,by omega⟩
   obtain⟨rl,C,sm⟩:=cZ (R:=D) (i:=L) (by omega);have e0:=(gL f.row.x C 0 (by omega) (u:=U rl.1.e) rfl).1;rw[KL] at e0;have ro:=(f.az rl sm).nm;have hwL:IntKind.i64.wrap ((D.length:Int) - 1)=(L:Int):=by rw[AI];omega
   have hLl:(L:Int)<(D.length:Int):=by omega
   obtain⟨o,r,ld,ZM,ZP,t0,t1,-⟩:=f.tg.atk Fd;obtain⟨ph,-,ex,DE⟩:=f.tg.D r ZP;have At:=ae ph;have qr:=ae ex;obtain⟨-,th⟩:=HG.out r ZP;have FO:r.1.m<=200:=by have:=F0.out r ZP;omega
   have Fk:=ae th;have F7:=FX.out r ZP;have ZS:=f.bx;have ks:=f.sx;rw[ld] at ks;have x0:wr.cell? (N X 0 Z)=T (Y (T (N g 0 Z)) D.length c):=by simp[World.cell?,ZS]
   have y0:wr.frozen? (N X 0 Z)=ZA:=by simp[World.frozen?,ZS]
   have x1:wr.cell? (N sb 1 Z)=T (Y (T (N o 0 Z)) RT.length c1):=by simp[World.cell?,ks]
   have l0:=ar ZS;have l1:=ar ks;obtain⟨cg,zg,kg⟩:=eN f.row.x g rfl;have lg:=ar kg;have CD:X≠g:=λe=>by rw[e,kg] at ZS;simp at ZS
   have DS:sb≠g:=λe=>by rw[e,kg] at ks;simp at ks
   have n8:o≠g:=λe=>by obtain⟨cur,hc⟩:=f.tg.type o (by rw[ld];rfl);rw[e,kg] at hc;simp at hc
   have hgb:=(f.row.x.lt g rfl).1;have hlo:=f.lo;have ur:=f.bl.size;clear ZS ks ph ex th C sm ZP ld kg;have SQ:Hid (∀V:M,(∀j,j<B (A wr)->j≠g->V.heap[j]?=wr.heap[j]?)->V.cell? (N X 0 Z)=T (Y (T (N g 0 Z)) D.length c)/\V.cell? (N sb 1 Z)=T (Y (T (N o 0 Z)) RT.length c1)/\V.cell? (N o (k*2) Z)=T (U r.1.e)/\V.cell? (N o (k*2+1) Z)=T (Y (T (N r.2.1 0 Z)) r.1.m r.2.2)):=λV hV=>⟨(cq (a:=(N X 0 Z)) (hV X l0 CD)).trans x0,(cq (a:=(N sb 1 Z)) (hV sb l1 DS)).trans x1,(cq (a:=(N o (k*2) Z)) (hV o ZM n8)).trans t0,(cq (a:=(N o (k*2+1) Z)) (hV o ZM n8)).trans t1⟩
   have HL:=ae hL;clear hL;generalize rl.1.e=ZN at e0 ro;go_upto_region 7 with fail;have hk2:(k:Int)<(RT.length:Int):=by omega
   go_wp2_with fail;refine aD (λV=>V.cell? (N X 0 Z)=T (Y (T (N g 0 Z)) D.length c)/\V.cell? (N sb 1 Z)=T (Y (T (N o 0 Z)) RT.length c1)/\V.cell? (N o (k*2) Z)=T (U r.1.e)/\V.cell? (N o (k*2+1) Z)=T (Y (T (N r.2.1 0 Z)) r.1.m r.2.2)) 25 (by kernel_rfl) ?_;have G:=ae (f.aa br.drew);have ZR:Hid (∀V:M,(∀j,j<wr.drew.heap.size->j≠g->V.heap[j]?=wr.drew.heap[j]?)->V.cell? (N X 0 Z)=T (Y (T (N g 0 Z)) D.length c)/\V.cell? (N sb 1 Z)=T (Y (T (N o 0 Z)) RT.length c1)/\V.cell? (N o (k*2) Z)=T (U r.1.e)/\V.cell? (N o (k*2+1) Z)=T (Y (T (N r.2.1 0 Z)) r.1.m r.2.2)):=SQ;have ZI:Hid (RowIns wr.drew r.2.1 0 r.1.m r.1.D):=At.aa br.drew ly;have ZO:Hid (TypeAt wr.drew r.2.1 151):=qr;have l2:X<wr.drew.heap.size:=l0;have Bk:B (A w)<=wr.drew.heap.size:=ur;clear f SQ At qr l0 l1 lg ZM x0 x1 y0 t0 t1 e0 ur;generalize wr.drew=v at G ZR ZI ZO l2 Bk ⊢;have q:=ae (ZR v (λj _ _=>rfl));iterate 20
    refine aH 0 (v:=?_) rfl rfl (by kernel_rfl) (λ_ _ _ h=>h) rfl ?_ q ?_;rotate_left
    ·(rintro wz ⟨s0,s1,s2,s3⟩;go_simp)
     (try with_reducible rfl)
    (try simp only[Act.put,nzL])
   have BA:=ae ((BS v).alloc ly (J #[U ZN,ZC ZF,ZC ZA,Q I L] 91));have hx1:=G.lo;have FZ:(z v (J #[U ZN,ZC ZF,ZC ZA,Q I L] 91)).heap.size=B (A v)+1:=by simp
   have OL:=ae (yY v (B (A w)+1) (by omega) r.1.e ZN r.1.m r.1.D (L:Int));refine ai (i:=20) rfl (by kernel_rfl) λK l=>?_;go_simp;clear q;have q:=ae (ZR _ (λj E _=>BA.block j E));refine l _ _ (λ_=>q) ?_;clear l K
   (try simp only[Act.put,nzL])
   refine ai (i:=21) rfl (by kernel_rfl) λK l=>?_;go_simp;refine l _ _ (λ_=>q) ?_;clear l K
   (try simp only[Act.put,nzL])
   have FW:=BA.size;have ZQ:=ae (BA.alloc FW (J #[U r.1.e,Q I 3,Q I 0,U ⟨#[103,114,111,117,110,100]⟩,Y (T (N r.2.1 0 Z)) r.1.m r.2.2,Y (T (N (B (A v)) 0 Z)) 1 1] 46));refine ai (i:=22) rfl (by kernel_rfl) λK l=>?_;go_simp;clear q;have q:=ae (ZR _ (λj E _=>ZQ.block j E));refine l _ _ (λ_=>q) ?_;clear l K
   (try simp only[Act.put,nzL])
   have OW:=ae (own_below G.row.x ZQ ly);obtain⟨WC,O⟩:∃W:M,(z v (J #[U ZN,ZC ZF,ZC ZA,Q I L] 91)).alloc (J #[U r.1.e,Q I 3,Q I 0,U ⟨#[103,114,111,117,110,100]⟩,Y (T (N r.2.1 0 Z)) r.1.m r.2.2,Y (T (N (B (A v)) 0 Z)) 1 1] 46)=W:=⟨_,rfl⟩
   obtain⟨-,-,-,hzC⟩:=nb2 O;have ZK:=ae O;clear O;have NC:Hid (∀j u,[Value.string r.1.e,Q I 3,Q I 0,U ⟨#[103,114,111,117,110,100]⟩,Y (T (N r.2.1 0 Z)) r.1.m r.2.2,Y (T (N (B (A v)) 0 Z)) 1 1][j]?=T u->WC.cell? (((N (B (A v)+1) 0 Z):Addr).add j)=T u):=by rw[<-ZK.out];have h:=ed (z v (J #[U ZN,ZC ZF,ZC ZA,Q I L] 91)) #[U r.1.e,Q I 3,Q I 0,U ⟨#[103,114,111,117,110,100]⟩,Y (T (N r.2.1 0 Z)) r.1.m r.2.2,Y (T (N (B (A v)) 0 Z)) 1 1] 46;rw[FZ] at h;exact h
   have OK:=ae (own_below OL ((cM _ (z v (J #[U ZN,ZC ZF,ZC ZA,Q I L] 91))).alloc ly (J #[U r.1.e,Q I 3,Q I 0,U ⟨#[103,114,111,117,110,100]⟩,Y (T (N r.2.1 0 Z)) r.1.m r.2.2,Y (T (N (B (A v)) 0 Z)) 1 1] 46)) ly);clear OL;rw[ZK.out] at ZQ OW OK q ⊢;clear ZK;refine ai (i:=23) rfl (by kernel_rfl) λK l=>?_;refine aW rfl (.tmp 28) (.tmp 49) 35 rfl (B (A w)+1) 46 FP (.agg #[U ⟨#[]⟩,Q I 0,Q I 0,U ⟨#[]⟩,Y Z 0 0,Y Z 0 0]) 6 96 L8 hi F8 F9 DQ rfl (by decide) (Y (T (N g 0 Z)) D.length c) D.length (D.flatMap ddV) (by simp[Act.eval]) OW.out (N (B (A v)+1) 0 Z) 1 1 [U r.1.e,Q I 3,Q I 0,U ⟨#[103,114,111,117,110,100]⟩,Y (T (N r.2.1 0 Z)) r.1.m r.2.2,Y (T (N (B (A v)) 0 Z)) 1 1] (by simp[Act.eval]) rfl NC.out (by simp[Value.oneCell']) (by unfold maxLen;omega) (by omega) (by omega) ?_;intro v' y H s FM;obtain⟨ZJ,c',rfl⟩:=cU H (by omega);have KG:Hid (∀j,j<B (A WC)->j≠g->y.heap[j]?=WC.heap[j]?):=λj E aq=>s.block j E (λe=>aq (IT (show T j=T g from e)));have hz6:=s.size;clear q;have q:=ae (ZR y (λj E aq=>(KG j (by omega) aq).trans (ZQ.block j E)));refine l _ _ (λ_=>q) ?_;clear l K
   (try simp only[Act.put,nzL])
   refine ai (i:=24) rfl (by kernel_rfl) λK l=>?_;go_simp;refine l _ _ (λ_=>q) ?_;clear l K
   (try simp only[Act.put,nzL])
   have HO:=ae H;have k6:y.heap[X]?=v.heap[X]?:=(KG X (by omega) CD).trans (ZQ.block X l2);have t:=k6.trans G.bx;have z0:y.cell? (N X 0 Z)=T (Y (T (N g 0 Z)) D.length c):=by simp[World.cell?,t]
   have z1:y.frozen? (N X 0 Z)=ZA:=by simp[World.frozen?,t]
   have z2:=ar t;have F3:X≠ZJ:=λe=>by obtain⟨cc,zz,hc⟩:=eN H ZJ rfl;rw[e,hc] at t;simp at t
   clear H;refine ai (i:=25) rfl (by kernel_rfl) λK l=>?_;go_simp;refine l _ _ (λh=>absurd rfl h) ?_;clear l K q
   (try simp only[Act.put,nzL])
   refine aT (by kernel_rfl) ?_ _;have keep:∀j,j<B (A v)->j≠g->j≠X->(y.setCell (N X 0 Z) (Y (T (N ZJ 0 Z)) (D.length+1) c')).heap[j]?=v.heap[j]?:=λj E h1 h2=>(qh y (N X 0 Z) _ j h2).trans ((KG j (by omega) h1).trans (ZQ.block j E));have fd:r.2.1≠g:=λe=>by obtain⟨c5,z5,h5⟩:=eN G.row.x g rfl;obtain⟨c6,h6⟩:=ZO.out;rw[e,h5] at h6;simp at h6
   have mv:r.2.1≠X:=λe=>by obtain⟨c6,h6⟩:=ZO.out;rw[e,G.bx] at h6;simp at h6
   have C:=ZI.1;have ZM:=(G.row.x.lt g rfl).2
   have S9:=ae (G.more (r:=(xu r.1.e ZN r.1.m r.1.D (L:Int),Y (T (N r.2.1 0 Z)) r.1.m r.2.2,Y (T (N (B (A v)) 0 Z)) 1 1)) (a':=T (N ZJ 0 Z)) (c':=c') (W':=y.setCell (N X 0 Z) (Y (T (N ZJ 0 Z)) (D.length+1) c')) (by simp;omega) keep (bJ t _)
    (cy HO λm hm _=>qh y (N X 0 Z) _ m (λe=>F3 (e.symm.trans (IT (show T m=T ZJ from hm.symm ▸ rfl)))))
    ⟨.inr ⟨r.2.1,r.2.2,rfl,ZI.block (by simp;omega) (keep _ C fd mv),ZO.block (keep _ C fd mv),DE⟩,cy OK λm hm _=>by
     obtain rfl:B (A v)=m:=IT hm
     exact(qh y (N X 0 Z) _ _ (by show (B (A v))≠X;omega)).trans (KG _ (by omega) (by omega))⟩
    (Bs F7 ro FO Fk)
    (((G.bl.trans (ZQ.mono Bk)).trans (bg (cM (B (A w)) WC) s (by omega) (λk' e=>by have e2:=IT (show T g=T k' from e);omega))).setCell (p:=(N X 0 Z)) (by show (B (A w))<=X;omega) _))
   clear keep fd mv C ZM s FM HO OK OW NC KG BA ZQ ZR ZI ZO t k6 z0 z1 z2;generalize World.setCell y _ _=W9 at S9 ⊢;have hwk:IntKind.i64.wrap ((k:Int) - 1)=(k:Int) - 1:=by rw[AI];omega
   go_wp2;refine⟨⟨k,(k:Int) - 1,_,_,_,by go_num,rfl,by omega,?_,S9⟩,by simp[intOf]⟩;have:=HD.out;rw[eL,D0];omega
