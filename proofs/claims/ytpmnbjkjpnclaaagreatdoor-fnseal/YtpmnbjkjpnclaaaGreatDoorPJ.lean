import Derived.Test.YtpmnbjkjpnclaaaGreatDoorQU
import Derived.Test.YtpmnbjkjpnclaaaGreatDoorPG
set_option maxRecDepth 100000
set_option maxHeartbeats 8000000
open Go renaming Addr.mk->Q,Value.slice->Z,Value.string->Y,Value.int->J,Value.bool->ZD,Obj.cells->N,IntKind.i64->I,World->M,Value->ZC,World.alloc->A
open Option renaming none->U,some->T
open Bool renaming false->ZA,true->ZG
namespace Go.Proofs.YtpmnbjkjpnclaaaGreatDoor.Vp
open Tryz RowKit Ca
variable {w w':M}{b c:Nat}{R:List DR}{a:Option Addr}
structure LSub (w:M)(base:Nat)(r:DR):Prop where
 H:r.1.f=0/\(∃c,r.2.1=Z U 0 c)∨∃g c,r.2.1=Z (T (Q g 0 U)) r.1.f c/\RowIns w g 0 r.1.f r.1.H/\TypeAt w g 151/\base<=g
 V:w.ownsRow base 91 4 r.2.2 r.1.b (bq r.1.D r.1.b)
structure LRw (w:M)(base:Nat)(v:ZC)(R:List DR):Prop where
 i:w.ownsRow base 46 6 v R.length (R.flatMap ddV)
 sub:∀r∈R,LSub w base r
theorem LSub.ab{r:DR}(h:LSub w b r)(hz:w.heap.size<=w'.heap.size)(hb:∀k,OfTy w k 151∨OfTy w k 91->b<=k->w'.heap[k]?=w.heap[k]?):LSub w' b r:=by
 refine⟨?_,bD h.V λk j i=>hb k (.inr i) (h.V.lt k j).1⟩;rcases h.H with h1|⟨g,c,e,h2,h3,h4⟩
 {exact .inl h1};{have f:w'.heap[g]?=w.heap[g]?:=hb g (.inl (by obtain⟨m,l⟩:=h3;exact⟨m,_,l⟩)) h4;exact .inr ⟨g,c,e,h2.block hz f,h3.block f,h4⟩}
theorem LRw.agr{V:M}{v:ZC}(h:LRw w b v R)(f:Agr b w V):LRw V b v R :=
 ⟨iJ h.i f,λr g=>(h.sub r g).ab f.1 λk i hb=>f.2 k hb (by rcases i with ⟨c,z,e⟩|⟨c,z,e⟩<;>exact ag e)⟩
theorem LRw.ak (h:LRw w b (Z a R.length c) R):SlDeed w a R.length (dF (R.map (·.1))):=by
 by_cases hz:R.length=0;{exact .inl hz}
 ·obtain⟨g,c',e⟩:=cC h.i (by omega);cases e
  refine .inr ⟨g,0,rfl,(dM h.i).2,λi hi=>?_⟩;obtain⟨r,f,l⟩:=cZ hi;rw[gn f];have c:∀j,j<6->∀u,(ddV r)[j]?=T u->w.cell? (Q g (0+i*6+j) U)=T u:=λj p u t=>by rw[show 0+i*6+j=i*6+j by omega];exact(cR h.i f j p t).1
  have q:DSub w b ({ r.1 with f:=0 },Z U 0 0,r.2.2):=⟨A9 _ _ _ _,(h.sub r l).V⟩
  obtain⟨o,c5,m,s⟩:=q.D;obtain⟨n,c4,x,h4⟩:∃a cap,r.2.1=Z a r.1.f cap/\SlIns w a r.1.f r.1.H:=by
   rcases(h.sub r l).H with ⟨h1,c,e⟩|⟨g,c,e,h2,-,-⟩
   {exact⟨U,c,by rw[h1];exact e,.inl h1⟩};{exact⟨_,c,e,.inr ⟨g,0,rfl,h2⟩⟩}
  exact⟨c 0 (by omega) _ rfl,c 1 (by omega) _ rfl,c 2 (by omega) _ rfl,c 3 (by omega) _ rfl,⟨n,c4,by rw[<-x];exact c 4 (by omega) _ rfl,h4⟩,⟨o,c5,by rw[<-show r.2.2=_ from m];exact c 5 (by omega) _ rfl,s⟩⟩
theorem JE{n:Nat}(h:LRw w b (Z a n c) R)(e:n=R.length)(f:∀r∈R,FitD r.1)(hn:R.length<=50000):HAc b w a n c (dF (R.map (·.1))):=by subst e;refine⟨λV j=>(h.agr j).ak,j5 h.i,hn,λi hi=>?_⟩;obtain⟨r,g,l⟩:=cZ hi;rw[gn g];exact f r l
theorem TRow.ab{v:ZC}{R:List TR}(h:TRow w b v R)(hz:w.heap.size<=w'.heap.size)(hb:∀k,TypeAt w k 146∨TypeAt w k 151->w'.heap[k]?=w.heap[k]?):TRow w' b v R:=by
 refine⟨?_,λr j=>?_,h.up⟩
 ·refine⟨h.i.1,?_⟩;rcases h.i.2 with h1|⟨g,cap,c,rfl,f,i,h2⟩
  {exact .inl h1};{exact .inr ⟨g,cap,c,rfl,f,(hb g (.inl ⟨c,i⟩)).trans i,h2⟩}
 {obtain⟨h1,⟨F,h2⟩,h3,h4⟩:=h.H r j;have e:=hb r.2.1 (.inr h3);exact⟨h1.block hz e,⟨F,h2.block hz e⟩,h3.block e,h4⟩}
structure LgS (w:M)(sb X:Nat)(W:M)(v0:ZC)(a1:Option Addr)(c1:Nat)(RT:List TR)(a:Option Addr)(c:Nat)(D:List DR):Prop where
 rs:W.heap[w.heap.size]?=T (N #[Z U 0 0] 37 (0,0))
 sx:W.heap[sb]?=T (N #[v0,Z a1 RT.length c1] 27 (0,0))
 bx:W.heap[X]?=T (N #[Z a D.length c] 37 (0,0))
 tg:TRow W (w.heap.size+1) (Z a1 RT.length c1) RT
 row:LRw W (w.heap.size+1) (Z a D.length c) D
 ad:∀r∈D,FitK 0 r.1
 lo:w.heap.size<X
 bl:Below w.heap.size w W
section
variable {w W W':M}{sb X c1 c c' g:Nat}{v0:ZC}{a1:Option Addr}{a':Option Addr}{RT:List TR}{D:List DR}{r:DR}
theorem LgS.aa (h:LgS w sb X W v0 a1 c1 RT a c D)(hb:Below W.heap.size W W'):LgS w sb X W' v0 a1 c1 RT a c D :=
 ⟨(hb.block _ (ag h.rs)).trans h.rs,(hb.block _ (ag h.sx)).trans h.sx,(hb.block _ (ag h.bx)).trans h.bx,h.tg.aa hb ly,h.row.agr (dX hb ly),h.ad,h.lo,h.bl.trans (hb.mono h.bl.size)⟩
theorem LgS.more (h:LgS w sb X W v0 a1 c1 RT (T (Q g 0 U)) c D)(hz:W.heap.size<=W'.heap.size)(keep:∀k,k<W.heap.size->k≠g->k≠X->W'.heap[k]?=W.heap[k]?)(p:W'.heap[X]?=T (N #[Z a' (D.length+1) c'] 37 (0,0)))
  (n:W'.ownsRow (w.heap.size+1) 46 6 (Z a' (D.length+1) c') (D.length+1) (D.flatMap ddV++ddV r)) (s:LSub W' (w.heap.size+1) r) (q:FitK 0 r.1) (hb:Below w.heap.size w W'):LgS w sb X W' v0 a1 c1 RT a' c' (D++[r]):=by
 have hlo:=h.lo;obtain⟨cs,z,t⟩:=bu h.row.i g rfl;have hgb:=(h.row.i.lt g rfl).1;have j:∀(k:Nat) (i:Array ZC) (e:TypeId) (l:Nat × Nat),W.heap[k]?=T (Obj.cells i e l)->e≠46->e≠37->W'.heap[k]?=W.heap[k]?:=λk i e l b h1 h2=>by
  refine keep k (ag b) (λm=>?_) λm=>?_;{rw[m,t] at b;simp at b;exact h1 b.2.1.symm};{rw[m,h.bx] at b;simp at b;exact h2 b.2.1.symm}
 have o:(D++[r]).length=D.length+1:=by simp
 refine⟨(keep _ (ag h.rs) (by omega) (by omega)).trans h.rs,(j _ _ _ _ h.sx (by decide) (by decide)).trans h.sx,by rw[o];exact p,h.tg.ab hz λk b=>?_,⟨?_,λx f=>?_⟩,λx f=>?_,h.lo,hb⟩
 ·rcases b with ⟨i,b⟩|⟨i,b⟩
  {exact j _ _ _ _ b (by decide) (by decide)};{exact j _ _ _ _ b (by decide) (by decide)}
 {rw[o,BO];simpa using n}
 ·rcases p8.1 f with f|f
  ·refine(h.row.sub x f).ab hz λk b _=>?_;rcases b with ⟨i,l,b⟩|⟨i,l,b⟩
   {exact j _ _ _ _ b (by decide) (by decide)};{exact j _ _ _ _ b (by decide) (by decide)}
  {rw[nD.1 f];exact s}
 {rcases p8.1 f with f|f;{exact h.ad x f};{rw[nD.1 f];exact q}}
end
def An (c b:ByteArray)(an:Nat)(act:Nat->Ins)(z:Int):Deed:=⟨c,3,0,⟨#[103,114,111,117,110,100]⟩,an,act,1,λ_=>⟨b,ZG,ZA,z⟩⟩
theorem Dk (w:M)(b:Nat)(hb:b<=w.heap.size)(f c:ByteArray)(an:Nat)(act:Nat->Ins)(z:Int):(A w (N #[Y c,ZD ZG,ZD ZA,J I z] 91)).ownsRow b 91 4 (Z (T (Q w.heap.size 0 U)) 1 1) 1 (bq (An f c an act z).D 1) :=
 ⟨rfl,.inr ⟨w.heap.size,1,_,rfl,hb,nL w _,n6 _,by unfold maxLen;omega,rfl,rfl⟩⟩
theorem FV{c b:ByteArray}{an:Nat}{act:Nat->Ins}{z:Int}(h1:c.size<=5000)(h2:b.size<=5000)(h3:an<=200)(h4:∀j,j<an->(act j).s.size<=5000):FitK 0 (An c b an act z) :=
 ⟨h1,by show(⟨#[103,114,111,117,110,100]⟩:ByteArray).size<=2000;decide,h3,h4,by show 1<=200;omega,λ_ _=>h2⟩
theorem Ao:Gz:=by
 intro n w hn;obtain⟨KB,hi,DH,Kt,Fm⟩:=L8 fk;obtain⟨W0,ZM⟩:∃W:M,A w (N #[Z U 0 0] 37)=W:=⟨_,rfl⟩
 obtain⟨A0,K0,hz0⟩:=nb1 ZM;have la:=ae ZM;clear ZM;have hw1:IntKind.i64.wrap ((n:Int) - 1)=(n:Int) - 1:=by rw[p9];omega
 go_enter func123,ntmps123;go_wp2_with fail;rw[la.out];clear la;refine(oF n (by omega) ⟨#[97]⟩ (by decide) W0).mono ?_;rintro e b ⟨b0,n0,c0,f0,a1,c1,RT,rfl,n9,-,-,hT,hG,hN,hB⟩;have HG:=ae hG;have DS:=ae (λr y=>(hN r y).1);have Hx:=ae (λr y=>(hN r y).2);have Kw:=ae n9;have hs1:=hB.size;have P:(A b (N #[Z b0 n0 c0,Z a1 RT.length c1] 27)).heap.size=b.heap.size+1:=by simp
 have O:((A b (N #[Z b0 n0 c0,Z a1 RT.length c1] 27)).alloc (N #[Y ⟨#[97]⟩,J I 1,J I 0,Y ⟨#[103,114,111,117,110,100]⟩,Z U 0 0,Z U 0 0] 46)).heap.size=b.heap.size+2:=by simp
 have AB:=((q9 b).alloc ly (N #[Z b0 n0 c0,Z a1 RT.length c1] 27)).alloc (by simp) (N #[Y ⟨#[97]⟩,J I 1,J I 0,Y ⟨#[103,114,111,117,110,100]⟩,Z U 0 0,Z U 0 0] 46);have AC:=AB.alloc (by simp<;>omega) (N #[Z (T (Q (b.heap.size+1) 0 U)) 1 1] 37);have kS:=nL b (N #[Z b0 n0 c0,Z a1 RT.length c1] 27);have kD:=nL (A b (N #[Z b0 n0 c0,Z a1 RT.length c1] 27)) (N #[Y ⟨#[97]⟩,J I 1,J I 0,Y ⟨#[103,114,111,117,110,100]⟩,Z U 0 0,Z U 0 0] 46);rw[P] at kD;have kX:=nL ((A b (N #[Z b0 n0 c0,Z a1 RT.length c1] 27)).alloc (N #[Y ⟨#[97]⟩,J I 1,J I 0,Y ⟨#[103,114,111,117,110,100]⟩,Z U 0 0,Z U 0 0] 46)) (N #[Z (T (Q (b.heap.size+1) 0 U)) 1 1] 37);rw[O] at kX;have B1:=(dB (b.heap.size+1) (A b (N #[Z b0 n0 c0,Z a1 RT.length c1] 27))).alloc (by rw[P];exact n6 _) (N #[Y ⟨#[97]⟩,J I 1,J I 0,Y ⟨#[103,114,111,117,110,100]⟩,Z U 0 0,Z U 0 0] 46);have B2:=(dB (b.heap.size+2) ((A b (N #[Z b0 n0 c0,Z a1 RT.length c1] 27)).alloc (N #[Y ⟨#[97]⟩,J I 1,J I 0,Y ⟨#[103,114,111,117,110,100]⟩,Z U 0 0,Z U 0 0] 46))).alloc (by rw[O];exact n6 _) (N #[Z (T (Q (b.heap.size+1) 0 U)) 1 1] 37);have S1:Hid (LgS w b.heap.size (b.heap.size+2) (((A b (N #[Z b0 n0 c0,Z a1 RT.length c1] 27)).alloc (N #[Y ⟨#[97]⟩,J I 1,J I 0,Y ⟨#[103,114,111,117,110,100]⟩,Z U 0 0,Z U 0 0] 46)).alloc (N #[Z (T (Q (b.heap.size+1) 0 U)) 1 1] 37)) (Z b0 n0 c0) a1 c1 RT (T (Q (b.heap.size+1) 0 U)) 1 [jD ⟨#[97]⟩ ⟨#[103,114,111,117,110,100]⟩ 1]):=by
  have Fd:=(B2.block (b.heap.size+1) (by omega)).trans kD;refine⟨(AC.block w.heap.size (by omega)).trans ((hB.block w.heap.size (by omega)).trans K0),(B2.block b.heap.size (by omega)).trans ((B1.block b.heap.size (by omega)).trans kS),kX,(hT.mono (by omega)).aa AC ly,⟨⟨rfl,.inr ⟨b.heap.size+1,1,_,rfl,by omega,Fd,n6 _,by unfold maxLen;omega,rfl,rfl⟩⟩,λr y=>?_⟩,λr y=>?_,by omega,(A0.trans (hB.mono (by omega))).trans (AC.mono (by omega))⟩;{rw[nD.1 y];exact⟨.inl ⟨rfl,0,rfl⟩,A9 _ _ _ _⟩};{rw[nD.1 y];exact pz 1 (by decide) (by decide)}
 clear AB AC kS kD kX B1 B2 P O hT hG hN hB A0 K0 n9;go_wp2_with fail;generalize World.alloc (World.alloc (World.alloc b _) _) _=W1 at S1 ⊢;generalize b.heap.size+2=X at S1 ⊢;generalize b.heap.size=sb at S1 ⊢;go_loopw [5] (λi wr=>∃(m:Nat) (z:Int) (a:Option Addr) (c:Nat) (D:List DR),i=J I z/\z=(m:Int) - 1/\m<=n/\D.length+m=n+1/\Hid (LgS w sb X wr (Z b0 n0 c0) a1 c1 RT a c D)) (λi _=>(intOf i+1).toNat);case atStart=>exact⟨n,_,_,_,_,rfl,rfl,n6 _,by simp;omega,S1⟩
 case round =>
  clear S1;obtain⟨m,z,a,c,D,rfl,hz,ZK,hD,f⟩:=hrel;have HD:=ae hD;clear hD;by_cases h0:m=0
  ·subst h0;obtain rfl:z=-1:=by omega
   have Id:D.length<=50000:=by have:=HD.out;omega
   have HE:=ae ((JE (f.row.agr (rB (j:=0) (AP w.heap.size) (Z a D.length c))) rfl (λr y=>(f.ad r y).d (by omega)) Id).mono (F6 w.heap.size));have Kz:D.length<=450:=by have:=HD.out;omega
   have FE:=ae (λ(i:Nat) (hi:i<D.length)=>show FitK 0 (dF (D.map (·.1)) i) by
    obtain⟨r,y,ZK⟩:=cZ hi;rw[gn y]
    exact f.ad r ZK)
   have BE:=ae (f.bl.setCell (p:=(Q w.heap.size 0 U)) ly (Z a D.length c));have kr:=f.rs;have ZR:=f.bx;have r0:wr.cell? (Q w.heap.size 0 U)=T (Z U 0 0):=by simp[World.cell?,kr]
   have q0:wr.frozen? (Q w.heap.size 0 U)=ZA:=by simp[World.frozen?,kr]
   have x0:wr.cell? (Q X 0 U)=T (Z a D.length c):=by simp[World.cell?,ZR]
   have l0:=ag kr;have l1:=ag ZR;clear kr ZR hz;go_wp2;exact bp (v:=.agg #[Z a D.length c]) (by simp[results,results123,go_sem,r0]) rfl ⟨_,_,_,_,rfl,HE,BE,Kz,FE⟩
  ·obtain⟨k,rfl⟩:∃k,m=k+1:=⟨m - 1,by omega⟩
   obtain rfl:z=(k:Int):=by omega
   clear hz h0;have KE:k<RT.length:=by have:=Kw.out;omega
   have Kv:0<D.length:=by have:=HD.out;omega
   have hDn:D.length<=100:=by have:=HD.out;omega
   obtain⟨g,c',e⟩:=cC f.row.i Kv;obtain⟨rfl,-,-⟩:=TM e;clear e c';obtain⟨L,hL⟩:∃L,D.length=L+1:=⟨D.length - 1,by omega⟩
   obtain⟨rl,B,ur⟩:=cZ (R:=D) (i:=L) (by omega);have e0:=(cR f.row.i B 0 (by omega) (u:=Y rl.1.e) rfl).1;rw[PT] at e0;have At:=(f.ad rl ur).nm;have hwL:IntKind.i64.wrap ((D.length:Int) - 1)=(L:Int):=by rw[p9];omega
   have hLl:(L:Int)<(D.length:Int):=by omega
   obtain⟨o,r,aq,ZN,ZP,t0,t1,-⟩:=f.tg.atk KE;obtain⟨Bk,-,bt,Ku⟩:=f.tg.H r ZP;have th:=ae Bk;have DE:=ae bt;obtain⟨-,mv⟩:=HG.out r ZP;have Kx:r.1.f<=200:=by have:=Hx.out r ZP;omega
   have JT:=ae mv;have Fk:=DS.out r ZP;have ZR:=f.bx;have ZI:=f.sx;rw[aq] at ZI;have x0:wr.cell? (Q X 0 U)=T (Z (T (Q g 0 U)) D.length c):=by simp[World.cell?,ZR]
   have y0:wr.frozen? (Q X 0 U)=ZA:=by simp[World.frozen?,ZR]
   have x1:wr.cell? (Q sb 1 U)=T (Z (T (Q o 0 U)) RT.length c1):=by simp[World.cell?,ZI]
   have l0:=ag ZR;have l1:=ag ZI;obtain⟨cg,zg,kg⟩:=bu f.row.i g rfl;have lg:=ag kg;have ro:X≠g:=λe=>by rw[e,kg] at ZR;simp at ZR
   have GS:sb≠g:=λe=>by rw[e,kg] at ZI;simp at ZI
   have sm:o≠g:=λe=>by obtain⟨cur,hc⟩:=f.tg.type o (by rw[aq];rfl);rw[e,kg] at hc;simp at hc
   have hgb:=(f.row.i.lt g rfl).1;have hlo:=f.lo;have ph:=f.bl.size;clear ZR ZI Bk bt mv B ur ZP aq kg;have SQ:Hid (∀V:M,(∀j,j<wr.heap.size->j≠g->V.heap[j]?=wr.heap[j]?)->V.cell? (Q X 0 U)=T (Z (T (Q g 0 U)) D.length c)/\V.cell? (Q sb 1 U)=T (Z (T (Q o 0 U)) RT.length c1)/\V.cell? (Q o (k*2) U)=T (Y r.1.e)/\V.cell? (Q o (k*2+1) U)=T (Z (T (Q r.2.1 0 U)) r.1.f r.2.2)):=λV hV=>⟨(cq (a:=(Q X 0 U)) (hV X l0 ro)).trans x0,(cq (a:=(Q sb 1 U)) (hV sb l1 GS)).trans x1,(cq (a:=(Q o (k*2) U)) (hV o ZN sm)).trans t0,(cq (a:=(Q o (k*2+1) U)) (hV o ZN sm)).trans t1⟩
   have HL:=ae hL;clear hL;generalize rl.1.e=ZO at e0 At;go_upto_region 7 with fail;have hk2:(k:Int)<(RT.length:Int):=by omega
   go_wp2_with fail;refine aD (λV=>V.cell? (Q X 0 U)=T (Z (T (Q g 0 U)) D.length c)/\V.cell? (Q sb 1 U)=T (Z (T (Q o 0 U)) RT.length c1)/\V.cell? (Q o (k*2) U)=T (Y r.1.e)/\V.cell? (Q o (k*2+1) U)=T (Z (T (Q r.2.1 0 U)) r.1.f r.2.2)) 25 (by kernel_rfl) ?_;have G:=ae (f.aa br.drew);have C:Hid (∀V:M,(∀j,j<wr.drew.heap.size->j≠g->V.heap[j]?=wr.drew.heap[j]?)->V.cell? (Q X 0 U)=T (Z (T (Q g 0 U)) D.length c)/\V.cell? (Q sb 1 U)=T (Z (T (Q o 0 U)) RT.length c1)/\V.cell? (Q o (k*2) U)=T (Y r.1.e)/\V.cell? (Q o (k*2+1) U)=T (Z (T (Q r.2.1 0 U)) r.1.f r.2.2)):=SQ;have ZJ:Hid (RowIns wr.drew r.2.1 0 r.1.f r.1.H):=th.aa br.drew ly;have H:Hid (TypeAt wr.drew r.2.1 151):=DE;have l2:X<wr.drew.heap.size:=l0;have qr:w.heap.size<=wr.drew.heap.size:=ph;clear f SQ th DE l0 l1 lg ZN x0 x1 y0 t0 t1 e0 ph;generalize wr.drew=v at G C ZJ H l2 qr ⊢;have q:=ae (C v (λj _ _=>rfl));iterate 20
    refine aI 0 (v:=?_) rfl rfl (by kernel_rfl) (λ_ _ _ h=>h) rfl ?_ q ?_;rotate_left
    ·(rintro wz ⟨s0,s1,s2,s3⟩;go_simp)
     (try with_reducible rfl)
    (try simp only[Act.put,nzL])
   have BA:=ae ((q9 v).alloc ly (N #[Y ZO,ZD ZG,ZD ZA,J I L] 91));have hx1:=G.lo;have KC:(A v (N #[Y ZO,ZD ZG,ZD ZA,J I L] 91)).heap.size=v.heap.size+1:=by simp
   have OL:=ae (Dk v (w.heap.size+1) (by omega) r.1.e ZO r.1.f r.1.H (L:Int));refine ah (i:=20) rfl (by kernel_rfl) λK l=>?_;go_simp;clear q;have q:=ae (C _ (λj E _=>BA.block j E));refine l _ _ (λ_=>q) ?_;clear l K
   (try simp only[Act.put,nzL])
   refine ah (i:=21) rfl (by kernel_rfl) λK l=>?_;go_simp;refine l _ _ (λ_=>q) ?_;clear l K
   (try simp only[Act.put,nzL])
   have DQ:=BA.size;have ZQ:=ae (BA.alloc DQ (N #[Y r.1.e,J I 3,J I 0,Y ⟨#[103,114,111,117,110,100]⟩,Z (T (Q r.2.1 0 U)) r.1.f r.2.2,Z (T (Q v.heap.size 0 U)) 1 1] 46));refine ah (i:=22) rfl (by kernel_rfl) λK l=>?_;go_simp;clear q;have q:=ae (C _ (λj E _=>ZQ.block j E));refine l _ _ (λ_=>q) ?_;clear l K
   (try simp only[Act.put,nzL])
   have OW:=ae (own_below G.row.i ZQ ly);obtain⟨WC,S⟩:∃W:M,(A v (N #[Y ZO,ZD ZG,ZD ZA,J I L] 91)).alloc (N #[Y r.1.e,J I 3,J I 0,Y ⟨#[103,114,111,117,110,100]⟩,Z (T (Q r.2.1 0 U)) r.1.f r.2.2,Z (T (Q v.heap.size 0 U)) 1 1] 46)=W:=⟨_,rfl⟩
   obtain⟨-,-,-,hzC⟩:=nb2 S;have ZL:=ae S;clear S;have NC:Hid (∀j u,[Value.string r.1.e,J I 3,J I 0,Y ⟨#[103,114,111,117,110,100]⟩,Z (T (Q r.2.1 0 U)) r.1.f r.2.2,Z (T (Q v.heap.size 0 U)) 1 1][j]?=T u->WC.cell? (((Q (v.heap.size+1) 0 U):Addr).add j)=T u):=by rw[<-ZL.out];have h:=dy (A v (N #[Y ZO,ZD ZG,ZD ZA,J I L] 91)) #[Y r.1.e,J I 3,J I 0,Y ⟨#[103,114,111,117,110,100]⟩,Z (T (Q r.2.1 0 U)) r.1.f r.2.2,Z (T (Q v.heap.size 0 U)) 1 1] 46;rw[KC] at h;exact h
   have OK:=ae (own_below OL ((dB _ (A v (N #[Y ZO,ZD ZG,ZD ZA,J I L] 91))).alloc ly (N #[Y r.1.e,J I 3,J I 0,Y ⟨#[103,114,111,117,110,100]⟩,Z (T (Q r.2.1 0 U)) r.1.f r.2.2,Z (T (Q v.heap.size 0 U)) 1 1] 46)) ly);clear OL;rw[ZL.out] at ZQ OW OK q ⊢;clear ZL;refine ah (i:=23) rfl (by kernel_rfl) λK l=>?_;refine aG rfl (.tmp 28) (.tmp 49) 35 rfl (w.heap.size+1) 46 KB (.agg #[Y ⟨#[]⟩,J I 0,J I 0,Y ⟨#[]⟩,Z U 0 0,Z U 0 0]) 6 96 OT hi DH Kt Fm rfl (by decide) (Z (T (Q g 0 U)) D.length c) D.length (D.flatMap ddV) (by simp[Act.eval]) OW.out (Q (v.heap.size+1) 0 U) 1 1 [Y r.1.e,J I 3,J I 0,Y ⟨#[103,114,111,117,110,100]⟩,Z (T (Q r.2.1 0 U)) r.1.f r.2.2,Z (T (Q v.heap.size 0 U)) 1 1] (by simp[Act.eval]) rfl NC.out (by simp[Value.oneCell']) (by unfold maxLen;omega) (by omega) (by omega) ?_;intro v' x F s Fn;obtain⟨g',c',rfl⟩:=cC F (by omega);have KG:Hid (∀j,j<WC.heap.size->j≠g->x.heap[j]?=WC.heap[j]?):=λj E fd=>s.block j E (λe=>fd (BC (show T j=T g from e)));have hz6:=s.size;clear q;have q:=ae (C x (λj E fd=>(KG j (by omega) fd).trans (ZQ.block j E)));refine l _ _ (λ_=>q) ?_;clear l K
   (try simp only[Act.put,nzL])
   refine ah (i:=24) rfl (by kernel_rfl) λK l=>?_;go_simp;refine l _ _ (λ_=>q) ?_;clear l K
   (try simp only[Act.put,nzL])
   have HO:=ae F;have k6:x.heap[X]?=v.heap[X]?:=(KG X (by omega) ro).trans (ZQ.block X l2);have t:=k6.trans G.bx;have z0:x.cell? (Q X 0 U)=T (Z (T (Q g 0 U)) D.length c):=by simp[World.cell?,t]
   have z1:x.frozen? (Q X 0 U)=ZA:=by simp[World.frozen?,t]
   have z2:=ag t;have KD:X≠g':=λe=>by obtain⟨cc,zz,hc⟩:=bu F g' rfl;rw[e,hc] at t;simp at t
   clear F;refine ah (i:=25) rfl (by kernel_rfl) λK l=>?_;go_simp;refine l _ _ (λh=>absurd rfl h) ?_;clear l K q
   (try simp only[Act.put,nzL])
   refine aX (by kernel_rfl) ?_ _;have keep:∀j,j<v.heap.size->j≠g->j≠X->(x.setCell (Q X 0 U) (Z (T (Q g' 0 U)) (D.length+1) c')).heap[j]?=v.heap[j]?:=λj E h1 h2=>(qh x (Q X 0 U) _ j h2).trans ((KG j (by omega) h1).trans (ZQ.block j E));have dg:r.2.1≠g:=λe=>by obtain⟨c5,z5,h5⟩:=bu G.row.i g rfl;obtain⟨c6,h6⟩:=H.out;rw[e,h5] at h6;simp at h6
   have ld:r.2.1≠X:=λe=>by obtain⟨c6,h6⟩:=H.out;rw[e,G.bx] at h6;simp at h6
   have B:=ZJ.1;have ZN:=(G.row.i.lt g rfl).2
   have S9:=ae (G.more (r:=(An r.1.e ZO r.1.f r.1.H (L:Int),Z (T (Q r.2.1 0 U)) r.1.f r.2.2,Z (T (Q v.heap.size 0 U)) 1 1)) (a':=T (Q g' 0 U)) (c':=c') (W':=x.setCell (Q X 0 U) (Z (T (Q g' 0 U)) (D.length+1) c')) (by simp;omega) keep (bW t _)
    (bD HO λm ZK _=>qh x (Q X 0 U) _ m (λe=>KD (e.symm.trans (BC (show T m=T g' from ZK.symm ▸ rfl)))))
    ⟨.inr ⟨r.2.1,r.2.2,rfl,ZJ.block (by simp;omega) (keep _ B dg ld),H.block (keep _ B dg ld),Ku⟩,bD OK λm ZK _=>by
     obtain rfl:v.heap.size=m:=BC ZK
     exact(qh x (Q X 0 U) _ _ (by show v.heap.size≠X;omega)).trans (KG _ (by omega) (by omega))⟩
    (FV Fk At Kx JT)
    (((G.bl.trans (ZQ.mono qr)).trans (bg (dB w.heap.size WC) s (by omega) (λk' e=>by have e2:=BC (show T g=T k' from e);omega))).setCell (p:=(Q X 0 U)) (by show w.heap.size<=X;omega) _))
   clear keep dg ld B ZN s Fn HO OK OW NC KG BA ZQ C ZJ H t k6 z0 z1 z2;generalize World.setCell x _ _=W9 at S9 ⊢;have hwk:IntKind.i64.wrap ((k:Int) - 1)=(k:Int) - 1:=by rw[p9];omega
   go_wp2;refine⟨⟨k,(k:Int) - 1,_,_,_,by go_num,rfl,by omega,?_,S9⟩,by simp[intOf]⟩;have:=HD.out;rw[cM,DW];omega
