import Derived.Test.YtoddkejemcbkmaaGreatDoorQS
import Derived.Test.YtoddkejemcbkmaaGreatDoorPE
set_option maxRecDepth 100000
set_option maxHeartbeats 8000000
open Go renaming Addr.mk->Q,Value.slice->Z,Value.string->U,Value.int->J,Value.bool->ZD,Obj.cells->N,IntKind.i64->I,World->M,Value->ZC,World.alloc->A
open Option renaming none->Y,some->T
open Bool renaming false->ZA,true->ZG
namespace Go.Proofs.YtoddkejemcbkmaaGreatDoor.Vp
open Tryz RowKit Ca
variable {w w':M}{b c:Nat}{R:List DR}{a:Option Addr}
structure LSub (w:M)(base:Nat)(r:DR):Prop where
 G:r.1.f=0/\(∃c,r.2.1=Z Y 0 c)∨∃g c,r.2.1=Z (T (Q g 0 Y)) r.1.f c/\RowIns w g 0 r.1.f r.1.G/\TypeAt w g 90/\base<=g
 V:w.ownsRow base 93 4 r.2.2 r.1.b (bo r.1.m r.1.b)
structure LRw (w:M)(base:Nat)(v:ZC)(R:List DR):Prop where
 i:w.ownsRow base 62 6 v R.length (R.flatMap ddV)
 sub:∀r∈R,LSub w base r
theorem LSub.ab{r:DR}(h:LSub w b r)(hz:w.heap.size<=w'.heap.size)(hb:∀k,OfTy w k 90∨OfTy w k 93->b<=k->w'.heap[k]?=w.heap[k]?):LSub w' b r:=by
 refine⟨?_,bE h.V λk l j=>hb k (.inr j) (h.V.lt k l).1⟩;rcases h.G with h1|⟨g,c,e,h2,h3,h4⟩
 {exact .inl h1};{have f:w'.heap[g]?=w.heap[g]?:=hb g (.inl (by obtain⟨i,m⟩:=h3;exact⟨i,_,m⟩)) h4;exact .inr ⟨g,c,e,h2.block hz f,h3.block f,h4⟩}
theorem LRw.agr{V:M}{v:ZC}(h:LRw w b v R)(f:Agr b w V):LRw V b v R :=
 ⟨iE h.i f,λr i=>(h.sub r i).ab f.1 λk g hb=>f.2 k hb (by rcases g with ⟨c,z,e⟩|⟨c,z,e⟩<;>exact ah e)⟩
theorem LRw.am (h:LRw w b (Z a R.length c) R):SlDeed w a R.length (dF (R.map (·.1))):=by
 by_cases hz:R.length=0;{exact .inl hz}
 ·obtain⟨g,c',e⟩:=bV h.i (by omega);cases e
  refine .inr ⟨g,0,rfl,(dL h.i).2,λi hi=>?_⟩;obtain⟨r,f,l⟩:=cX hi;rw[fX f];have c:∀j,j<6->∀u,(ddV r)[j]?=T u->w.cell? (Q g (0+i*6+j) Y)=T u:=λj n u o=>by rw[show 0+i*6+j=i*6+j by omega];exact(cD h.i f j n o).1
  have m:DSub w b ({ r.1 with f:=0 },Z Y 0 0,r.2.2):=⟨AT _ _ _ _,(h.sub r l).V⟩
  obtain⟨q,c5,p,t⟩:=m.m;obtain⟨x,c4,s,h4⟩:∃a cap,r.2.1=Z a r.1.f cap/\SlIns w a r.1.f r.1.G:=by
   rcases(h.sub r l).G with ⟨h1,c,e⟩|⟨g,c,e,h2,-,-⟩
   {exact⟨Y,c,by rw[h1];exact e,.inl h1⟩};{exact⟨_,c,e,.inr ⟨g,0,rfl,h2⟩⟩}
  exact⟨c 0 (by omega) _ rfl,c 1 (by omega) _ rfl,c 2 (by omega) _ rfl,c 3 (by omega) _ rfl,⟨x,c4,by rw[<-s];exact c 4 (by omega) _ rfl,h4⟩,⟨q,c5,by rw[<-show r.2.2=_ from p];exact c 5 (by omega) _ rfl,t⟩⟩
theorem Iv{n:Nat}(h:LRw w b (Z a n c) R)(e:n=R.length)(l:∀r∈R,FitD r.1)(hn:R.length<=50000):HAc b w a n c (dF (R.map (·.1))):=by subst e;refine⟨λV j=>(h.agr j).am,jT h.i,hn,λi hi=>?_⟩;obtain⟨r,f,g⟩:=cX hi;rw[fX f];exact l r g
theorem TRow.ab{v:ZC}{R:List TR}(h:TRow w b v R)(hz:w.heap.size<=w'.heap.size)(hb:∀k,TypeAt w k 125∨TypeAt w k 90->w'.heap[k]?=w.heap[k]?):TRow w' b v R:=by
 refine⟨?_,λr j=>?_,h.up⟩
 ·refine⟨h.i.1,?_⟩;rcases h.i.2 with h1|⟨g,cap,c,rfl,i,f,h2⟩
  {exact .inl h1};{exact .inr ⟨g,cap,c,rfl,i,(hb g (.inl ⟨c,f⟩)).trans f,h2⟩}
 {obtain⟨h1,⟨F,h2⟩,h3,h4⟩:=h.G r j;have e:=hb r.2.1 (.inr h3);exact⟨h1.block hz e,⟨F,h2.block hz e⟩,h3.block e,h4⟩}
structure LgS (w:M)(sb X:Nat)(W:M)(v0:ZC)(a1:Option Addr)(c1:Nat)(RT:List TR)(a:Option Addr)(c:Nat)(D:List DR):Prop where
 rs:W.heap[w.heap.size]?=T (N #[Z Y 0 0] 25 (0,0))
 sx:W.heap[sb]?=T (N #[v0,Z a1 RT.length c1] 44 (0,0))
 bx:W.heap[X]?=T (N #[Z a D.length c] 25 (0,0))
 tg:TRow W (w.heap.size+1) (Z a1 RT.length c1) RT
 row:LRw W (w.heap.size+1) (Z a D.length c) D
 ak:∀r∈D,FitK 0 r.1
 lo:w.heap.size<X
 bl:Below w.heap.size w W
section
variable {w W W':M}{sb X c1 c c' g:Nat}{v0:ZC}{a1:Option Addr}{a':Option Addr}{RT:List TR}{D:List DR}{r:DR}
theorem LgS.aa (h:LgS w sb X W v0 a1 c1 RT a c D)(hb:Below W.heap.size W W'):LgS w sb X W' v0 a1 c1 RT a c D :=
 ⟨(hb.block _ (ah h.rs)).trans h.rs,(hb.block _ (ah h.sx)).trans h.sx,(hb.block _ (ah h.bx)).trans h.bx,h.tg.aa hb ly,h.row.agr (fc hb ly),h.ak,h.lo,h.bl.trans (hb.mono h.bl.size)⟩
theorem LgS.more (h:LgS w sb X W v0 a1 c1 RT (T (Q g 0 Y)) c D)(hz:W.heap.size<=W'.heap.size)(keep:∀k,k<W.heap.size->k≠g->k≠X->W'.heap[k]?=W.heap[k]?)(o:W'.heap[X]?=T (N #[Z a' (D.length+1) c'] 25 (0,0)))
  (m:W'.ownsRow (w.heap.size+1) 62 6 (Z a' (D.length+1) c') (D.length+1) (D.flatMap ddV++ddV r)) (s:LSub W' (w.heap.size+1) r) (t:FitK 0 r.1) (hb:Below w.heap.size w W'):LgS w sb X W' v0 a1 c1 RT a' c' (D++[r]):=by
 have hlo:=h.lo;obtain⟨cs,z,q⟩:=bq h.row.i g rfl;have hgb:=(h.row.i.lt g rfl).1;have j:∀(k:Nat) (i:Array ZC) (e:TypeId) (l:Nat × Nat),W.heap[k]?=T (Obj.cells i e l)->e≠62->e≠25->W'.heap[k]?=W.heap[k]?:=λk i e l b h1 h2=>by
  refine keep k (ah b) (λn=>?_) λn=>?_;{rw[n,q] at b;simp at b;exact h1 b.2.1.symm};{rw[n,h.bx] at b;simp at b;exact h2 b.2.1.symm}
 have p:(D++[r]).length=D.length+1:=by simp
 refine⟨(keep _ (ah h.rs) (by omega) (by omega)).trans h.rs,(j _ _ _ _ h.sx (by decide) (by decide)).trans h.sx,by rw[p];exact o,h.tg.ab hz λk b=>?_,⟨?_,λx f=>?_⟩,λx f=>?_,h.lo,hb⟩
 ·rcases b with ⟨i,b⟩|⟨i,b⟩
  {exact j _ _ _ _ b (by decide) (by decide)};{exact j _ _ _ _ b (by decide) (by decide)}
 {rw[p,BM];simpa using m}
 ·rcases p8.1 f with f|f
  ·refine(h.row.sub x f).ab hz λk b _=>?_;rcases b with ⟨i,l,b⟩|⟨i,l,b⟩
   {exact j _ _ _ _ b (by decide) (by decide)};{exact j _ _ _ _ b (by decide) (by decide)}
  {rw[nL.1 f];exact s}
 {rcases p8.1 f with f|f;{exact h.ak x f};{rw[nL.1 f];exact t}}
end
def zv (b c:ByteArray)(an:Nat)(act:Nat->Ins)(z:Int):Deed:=⟨b,3,0,⟨#[103,114,111,117,110,100]⟩,an,act,1,λ_=>⟨c,ZG,ZA,z⟩⟩
theorem BV (w:M)(b:Nat)(hb:b<=w.heap.size)(f c:ByteArray)(an:Nat)(act:Nat->Ins)(z:Int):(A w (N #[U c,ZD ZG,ZD ZA,J I z] 93)).ownsRow b 93 4 (Z (T (Q w.heap.size 0 Y)) 1 1) 1 (bo (zv f c an act z).m 1) :=
 ⟨rfl,.inr ⟨w.heap.size,1,_,rfl,hb,n6 w _,n8 _,by unfold maxLen;omega,rfl,rfl⟩⟩
theorem EZ{b c:ByteArray}{an:Nat}{act:Nat->Ins}{z:Int}(h1:b.size<=5000)(h2:c.size<=5000)(h3:an<=200)(h4:∀j,j<an->(act j).s.size<=5000):FitK 0 (zv b c an act z) :=
 ⟨h1,by show(⟨#[103,114,111,117,110,100]⟩:ByteArray).size<=2000;decide,h3,h4,by show 1<=200;omega,λ_ _=>h2⟩
theorem zx:FH:=by
 intro n w hn;obtain⟨Jt,hi,Jy,Jw,Id⟩:=LY eu;obtain⟨W0,O⟩:∃W:M,A w (N #[Z Y 0 0] 25)=W:=⟨_,rfl⟩
 obtain⟨A0,K0,hz0⟩:=nb1 O;have ld:=ae O;clear O;have hw1:IntKind.i64.wrap ((n:Int) - 1)=(n:Int) - 1:=by rw[wA];omega
 go_enter func79,ntmps79;go_wp2_with fail;rw[ld.out];clear ld;refine(oe n (by omega) ⟨#[97]⟩ (by decide) W0).mono ?_;rintro e b ⟨b0,n0,c0,f0,a1,c1,RT,rfl,th,-,-,hT,hG,hN,hB⟩;have HG:=ae hG;have Jp:=ae (λr t=>(hN r t).1);have Jz:=ae (λr t=>(hN r t).2);have DH:=ae th;have hs1:=hB.size;have ZL:(A b (N #[Z b0 n0 c0,Z a1 RT.length c1] 44)).heap.size=b.heap.size+1:=by simp
 have S:((A b (N #[Z b0 n0 c0,Z a1 RT.length c1] 44)).alloc (N #[U ⟨#[97]⟩,J I 1,J I 0,U ⟨#[103,114,111,117,110,100]⟩,Z Y 0 0,Z Y 0 0] 62)).heap.size=b.heap.size+2:=by simp
 have AB:=((q9 b).alloc ly (N #[Z b0 n0 c0,Z a1 RT.length c1] 44)).alloc (by simp) (N #[U ⟨#[97]⟩,J I 1,J I 0,U ⟨#[103,114,111,117,110,100]⟩,Z Y 0 0,Z Y 0 0] 62);have AC:=AB.alloc (by simp<;>omega) (N #[Z (T (Q (b.heap.size+1) 0 Y)) 1 1] 25);have kS:=n6 b (N #[Z b0 n0 c0,Z a1 RT.length c1] 44);have kD:=n6 (A b (N #[Z b0 n0 c0,Z a1 RT.length c1] 44)) (N #[U ⟨#[97]⟩,J I 1,J I 0,U ⟨#[103,114,111,117,110,100]⟩,Z Y 0 0,Z Y 0 0] 62);rw[ZL] at kD;have kX:=n6 ((A b (N #[Z b0 n0 c0,Z a1 RT.length c1] 44)).alloc (N #[U ⟨#[97]⟩,J I 1,J I 0,U ⟨#[103,114,111,117,110,100]⟩,Z Y 0 0,Z Y 0 0] 62)) (N #[Z (T (Q (b.heap.size+1) 0 Y)) 1 1] 25);rw[S] at kX;have B1:=(eL (b.heap.size+1) (A b (N #[Z b0 n0 c0,Z a1 RT.length c1] 44))).alloc (by rw[ZL];exact n8 _) (N #[U ⟨#[97]⟩,J I 1,J I 0,U ⟨#[103,114,111,117,110,100]⟩,Z Y 0 0,Z Y 0 0] 62);have B2:=(eL (b.heap.size+2) ((A b (N #[Z b0 n0 c0,Z a1 RT.length c1] 44)).alloc (N #[U ⟨#[97]⟩,J I 1,J I 0,U ⟨#[103,114,111,117,110,100]⟩,Z Y 0 0,Z Y 0 0] 62))).alloc (by rw[S];exact n8 _) (N #[Z (T (Q (b.heap.size+1) 0 Y)) 1 1] 25);have S1:Hid (LgS w b.heap.size (b.heap.size+2) (((A b (N #[Z b0 n0 c0,Z a1 RT.length c1] 44)).alloc (N #[U ⟨#[97]⟩,J I 1,J I 0,U ⟨#[103,114,111,117,110,100]⟩,Z Y 0 0,Z Y 0 0] 62)).alloc (N #[Z (T (Q (b.heap.size+1) 0 Y)) 1 1] 25)) (Z b0 n0 c0) a1 c1 RT (T (Q (b.heap.size+1) 0 Y)) 1 [ju ⟨#[97]⟩ ⟨#[103,114,111,117,110,100]⟩ 1]):=by
  have Fk:=(B2.block (b.heap.size+1) (by omega)).trans kD;refine⟨(AC.block w.heap.size (by omega)).trans ((hB.block w.heap.size (by omega)).trans K0),(B2.block b.heap.size (by omega)).trans ((B1.block b.heap.size (by omega)).trans kS),kX,(hT.mono (by omega)).aa AC ly,⟨⟨rfl,.inr ⟨b.heap.size+1,1,_,rfl,by omega,Fk,n8 _,by unfold maxLen;omega,rfl,rfl⟩⟩,λr t=>?_⟩,λr t=>?_,by omega,(A0.trans (hB.mono (by omega))).trans (AC.mono (by omega))⟩;{rw[nL.1 t];exact⟨.inl ⟨rfl,0,rfl⟩,AT _ _ _ _⟩};{rw[nL.1 t];exact pc 1 (by decide) (by decide)}
 clear AB AC kS kD kX B1 B2 ZL S hT hG hN hB A0 K0 th;go_wp2_with fail;generalize World.alloc (World.alloc (World.alloc b _) _) _=W1 at S1 ⊢;generalize b.heap.size+2=X at S1 ⊢;generalize b.heap.size=sb at S1 ⊢;go_loopw [5] (λi wr=>∃(m:Nat) (z:Int) (a:Option Addr) (c:Nat) (D:List DR),i=J I z/\z=(m:Int) - 1/\m<=n/\D.length+m=n+1/\Hid (LgS w sb X wr (Z b0 n0 c0) a1 c1 RT a c D)) (λi _=>(intOf i+1).toNat);case atStart=>exact⟨n,_,_,_,_,rfl,rfl,n8 _,by simp;omega,S1⟩
 case round =>
  clear S1;obtain⟨m,z,a,c,D,rfl,hz,hm,hD,f⟩:=hrel;have HD:=ae hD;clear hD;by_cases h0:m=0
  ·subst h0;obtain rfl:z=-1:=by omega
   have DS:D.length<=50000:=by have:=HD.out;omega
   have HE:=ae ((Iv (f.row.agr (qM (j:=0) (AI w.heap.size) (Z a D.length c))) rfl (λr t=>(f.ak r t).d (by omega)) DS).mono (F3 w.heap.size));have JA:D.length<=450:=by have:=HD.out;omega
   have FE:=ae (λ(i:Nat) (hi:i<D.length)=>show FitK 0 (dF (D.map (·.1)) i) by
    obtain⟨r,t,hm⟩:=cX hi;rw[fX t]
    exact f.ak r hm)
   have BE:=ae (f.bl.setCell (p:=(Q w.heap.size 0 Y)) ly (Z a D.length c));have kr:=f.rs;have ZR:=f.bx;have r0:wr.cell? (Q w.heap.size 0 Y)=T (Z Y 0 0):=by simp[World.cell?,kr]
   have q0:wr.frozen? (Q w.heap.size 0 Y)=ZA:=by simp[World.frozen?,kr]
   have x0:wr.cell? (Q X 0 Y)=T (Z a D.length c):=by simp[World.cell?,ZR]
   have l0:=ah kr;have l1:=ah ZR;clear kr ZR hz;go_wp2;exact bp (v:=.agg #[Z a D.length c]) (by simp[results,results79,go_sem,r0]) rfl ⟨_,_,_,_,rfl,HE,BE,JA,FE⟩
  ·obtain⟨k,rfl⟩:∃k,m=k+1:=⟨m - 1,by omega⟩
   obtain rfl:z=(k:Int):=by omega
   clear hz h0;have DQ:k<RT.length:=by have:=DH.out;omega
   have Jq:0<D.length:=by have:=HD.out;omega
   have hDn:D.length<=100:=by have:=HD.out;omega
   obtain⟨g,c',e⟩:=bV f.row.i Jq;obtain⟨rfl,-,-⟩:=QY e;clear e c';obtain⟨L,hL⟩:∃L,D.length=L+1:=⟨D.length - 1,by omega⟩
   obtain⟨rl,B,n9⟩:=cX (R:=D) (i:=L) (by omega);have e0:=(cD f.row.i B 0 (by omega) (u:=U rl.1.e) rfl).1;rw[NS] at e0;have DE:=(f.ak rl n9).nm;have hwL:IntKind.i64.wrap ((D.length:Int) - 1)=(L:Int):=by rw[wA];omega
   have hLl:(L:Int)<(D.length:Int):=by omega
   obtain⟨o,r,aq,ZP,H,t0,t1,-⟩:=f.tg.atk DQ;obtain⟨ph,-,bt,Fm⟩:=f.tg.G r H;have sm:=ae ph;have Bk:=ae bt;obtain⟨-,ur⟩:=HG.out r H;have Fn:r.1.f<=200:=by have:=Jz.out r H;omega
   have Js:=ae ur;have Jr:=Jp.out r H;have ZR:=f.bx;have ZI:=f.sx;rw[aq] at ZI;have x0:wr.cell? (Q X 0 Y)=T (Z (T (Q g 0 Y)) D.length c):=by simp[World.cell?,ZR]
   have y0:wr.frozen? (Q X 0 Y)=ZA:=by simp[World.frozen?,ZR]
   have x1:wr.cell? (Q sb 1 Y)=T (Z (T (Q o 0 Y)) RT.length c1):=by simp[World.cell?,ZI]
   have l0:=ah ZR;have l1:=ah ZI;obtain⟨cg,zg,kg⟩:=bq f.row.i g rfl;have lg:=ah kg;have qr:X≠g:=λe=>by rw[e,kg] at ZR;simp at ZR
   have Jv:sb≠g:=λe=>by rw[e,kg] at ZI;simp at ZI
   have At:o≠g:=λe=>by obtain⟨cur,hc⟩:=f.tg.type o (by rw[aq];rfl);rw[e,kg] at hc;simp at hc
   have hgb:=(f.row.i.lt g rfl).1;have hlo:=f.lo;have mv:=f.bl.size;clear ZR ZI ph bt ur B n9 H aq kg;have SQ:Hid (∀V:M,(∀j,j<wr.heap.size->j≠g->V.heap[j]?=wr.heap[j]?)->V.cell? (Q X 0 Y)=T (Z (T (Q g 0 Y)) D.length c)/\V.cell? (Q sb 1 Y)=T (Z (T (Q o 0 Y)) RT.length c1)/\V.cell? (Q o (k*2) Y)=T (U r.1.e)/\V.cell? (Q o (k*2+1) Y)=T (Z (T (Q r.2.1 0 Y)) r.1.f r.2.2)):=λV hV=>⟨(cq (a:=(Q X 0 Y)) (hV X l0 qr)).trans x0,(cq (a:=(Q sb 1 Y)) (hV sb l1 Jv)).trans x1,(cq (a:=(Q o (k*2) Y)) (hV o ZP At)).trans t0,(cq (a:=(Q o (k*2+1) Y)) (hV o ZP At)).trans t1⟩
   have HL:=ae hL;clear hL;generalize rl.1.e=P at e0 DE;go_upto_region 7 with fail;have hk2:(k:Int)<(RT.length:Int):=by omega
   go_wp2_with fail;refine aE (λV=>V.cell? (Q X 0 Y)=T (Z (T (Q g 0 Y)) D.length c)/\V.cell? (Q sb 1 Y)=T (Z (T (Q o 0 Y)) RT.length c1)/\V.cell? (Q o (k*2) Y)=T (U r.1.e)/\V.cell? (Q o (k*2+1) Y)=T (Z (T (Q r.2.1 0 Y)) r.1.f r.2.2)) 25 (by kernel_rfl) ?_;have F:=ae (f.aa br.drew);have C:Hid (∀V:M,(∀j,j<wr.drew.heap.size->j≠g->V.heap[j]?=wr.drew.heap[j]?)->V.cell? (Q X 0 Y)=T (Z (T (Q g 0 Y)) D.length c)/\V.cell? (Q sb 1 Y)=T (Z (T (Q o 0 Y)) RT.length c1)/\V.cell? (Q o (k*2) Y)=T (U r.1.e)/\V.cell? (Q o (k*2+1) Y)=T (Z (T (Q r.2.1 0 Y)) r.1.f r.2.2)):=SQ;have ZK:Hid (RowIns wr.drew r.2.1 0 r.1.f r.1.G):=sm.aa br.drew ly;have ZO:Hid (TypeAt wr.drew r.2.1 90):=Bk;have l2:X<wr.drew.heap.size:=l0;have ro:w.heap.size<=wr.drew.heap.size:=mv;clear f SQ sm Bk l0 l1 lg ZP x0 x1 y0 t0 t1 e0 mv;generalize wr.drew=v at F C ZK ZO l2 ro ⊢;have q:=ae (C v (λj _ _=>rfl));iterate 20
    refine aI 0 (v:=?_) rfl rfl (by kernel_rfl) (λ_ _ _ h=>h) rfl ?_ q ?_;rotate_left
    ·(rintro wz ⟨s0,s1,s2,s3⟩;go_simp)
     (try with_reducible rfl)
    (try simp only[Act.put,nzL])
   have BA:=ae ((q9 v).alloc ly (N #[U P,ZD ZG,ZD ZA,J I L] 93));have hx1:=F.lo;have Hx:(A v (N #[U P,ZD ZG,ZD ZA,J I L] 93)).heap.size=v.heap.size+1:=by simp
   have OL:=ae (BV v (w.heap.size+1) (by omega) r.1.e P r.1.f r.1.G (L:Int));refine ag (i:=20) rfl (by kernel_rfl) λK l=>?_;go_simp;clear q;have q:=ae (C _ (λj G _=>BA.block j G));refine l _ _ (λ_=>q) ?_;clear l K
   (try simp only[Act.put,nzL])
   refine ag (i:=21) rfl (by kernel_rfl) λK l=>?_;go_simp;refine l _ _ (λ_=>q) ?_;clear l K
   (try simp only[Act.put,nzL])
   have GS:=BA.size;have ZQ:=ae (BA.alloc GS (N #[U r.1.e,J I 3,J I 0,U ⟨#[103,114,111,117,110,100]⟩,Z (T (Q r.2.1 0 Y)) r.1.f r.2.2,Z (T (Q v.heap.size 0 Y)) 1 1] 62));refine ag (i:=22) rfl (by kernel_rfl) λK l=>?_;go_simp;clear q;have q:=ae (C _ (λj G _=>ZQ.block j G));refine l _ _ (λ_=>q) ?_;clear l K
   (try simp only[Act.put,nzL])
   have OW:=ae (own_below F.row.i ZQ ly);obtain⟨WC,ZN⟩:∃W:M,(A v (N #[U P,ZD ZG,ZD ZA,J I L] 93)).alloc (N #[U r.1.e,J I 3,J I 0,U ⟨#[103,114,111,117,110,100]⟩,Z (T (Q r.2.1 0 Y)) r.1.f r.2.2,Z (T (Q v.heap.size 0 Y)) 1 1] 62)=W:=⟨_,rfl⟩
   obtain⟨-,-,-,hzC⟩:=nb2 ZN;have ZM:=ae ZN;clear ZN;have NC:Hid (∀j u,[Value.string r.1.e,J I 3,J I 0,U ⟨#[103,114,111,117,110,100]⟩,Z (T (Q r.2.1 0 Y)) r.1.f r.2.2,Z (T (Q v.heap.size 0 Y)) 1 1][j]?=T u->WC.cell? (((Q (v.heap.size+1) 0 Y):Addr).add j)=T u):=by rw[<-ZM.out];have h:=dx (A v (N #[U P,ZD ZG,ZD ZA,J I L] 93)) #[U r.1.e,J I 3,J I 0,U ⟨#[103,114,111,117,110,100]⟩,Z (T (Q r.2.1 0 Y)) r.1.f r.2.2,Z (T (Q v.heap.size 0 Y)) 1 1] 62;rw[Hx] at h;exact h
   have OK:=ae (own_below OL ((eL _ (A v (N #[U P,ZD ZG,ZD ZA,J I L] 93))).alloc ly (N #[U r.1.e,J I 3,J I 0,U ⟨#[103,114,111,117,110,100]⟩,Z (T (Q r.2.1 0 Y)) r.1.f r.2.2,Z (T (Q v.heap.size 0 Y)) 1 1] 62)) ly);clear OL;rw[ZM.out] at ZQ OW OK q ⊢;clear ZM;refine ag (i:=23) rfl (by kernel_rfl) λK l=>?_;refine aA rfl (.tmp 28) (.tmp 49) 23 rfl (w.heap.size+1) 62 Jt (.agg #[U ⟨#[]⟩,J I 0,J I 0,U ⟨#[]⟩,Z Y 0 0,Z Y 0 0]) 6 96 MS hi Jy Jw Id rfl (by decide) (Z (T (Q g 0 Y)) D.length c) D.length (D.flatMap ddV) (by simp[Act.eval]) OW.out (Q (v.heap.size+1) 0 Y) 1 1 [U r.1.e,J I 3,J I 0,U ⟨#[103,114,111,117,110,100]⟩,Z (T (Q r.2.1 0 Y)) r.1.f r.2.2,Z (T (Q v.heap.size 0 Y)) 1 1] (by simp[Act.eval]) rfl NC.out (by simp[Value.oneCell']) (by unfold maxLen;omega) (by omega) (by omega) ?_;intro v' x E s JB;obtain⟨ZJ,c',rfl⟩:=bV E (by omega);have KG:Hid (∀j,j<WC.heap.size->j≠g->x.heap[j]?=WC.heap[j]?):=λj G dg=>s.block j G (λe=>dg (BO (show T j=T g from e)));have hz6:=s.size;clear q;have q:=ae (C x (λj G dg=>(KG j (by omega) dg).trans (ZQ.block j G)));refine l _ _ (λ_=>q) ?_;clear l K
   (try simp only[Act.put,nzL])
   refine ag (i:=24) rfl (by kernel_rfl) λK l=>?_;go_simp;refine l _ _ (λ_=>q) ?_;clear l K
   (try simp only[Act.put,nzL])
   have HO:=ae E;have k6:x.heap[X]?=v.heap[X]?:=(KG X (by omega) qr).trans (ZQ.block X l2);have y:=k6.trans F.bx;have z0:x.cell? (Q X 0 Y)=T (Z (T (Q g 0 Y)) D.length c):=by simp[World.cell?,y]
   have z1:x.frozen? (Q X 0 Y)=ZA:=by simp[World.frozen?,y]
   have z2:=ah y;have Ju:X≠ZJ:=λe=>by obtain⟨cc,zz,hc⟩:=bq E ZJ rfl;rw[e,hc] at y;simp at y
   clear E;refine ag (i:=25) rfl (by kernel_rfl) λK l=>?_;go_simp;refine l _ _ (λh=>absurd rfl h) ?_;clear l K q
   (try simp only[Act.put,nzL])
   refine aW (by kernel_rfl) ?_ _;have keep:∀j,j<v.heap.size->j≠g->j≠X->(x.setCell (Q X 0 Y) (Z (T (Q ZJ 0 Y)) (D.length+1) c')).heap[j]?=v.heap[j]?:=λj G h1 h2=>(qh x (Q X 0 Y) _ j h2).trans ((KG j (by omega) h1).trans (ZQ.block j G));have la:r.2.1≠g:=λe=>by obtain⟨c5,z5,h5⟩:=bq F.row.i g rfl;obtain⟨c6,h6⟩:=ZO.out;rw[e,h5] at h6;simp at h6
   have fd:r.2.1≠X:=λe=>by obtain⟨c6,h6⟩:=ZO.out;rw[e,F.bx] at h6;simp at h6
   have B:=ZK.1;have ZP:=(F.row.i.lt g rfl).2
   have S9:=ae (F.more (r:=(zv r.1.e P r.1.f r.1.G (L:Int),Z (T (Q r.2.1 0 Y)) r.1.f r.2.2,Z (T (Q v.heap.size 0 Y)) 1 1)) (a':=T (Q ZJ 0 Y)) (c':=c') (W':=x.setCell (Q X 0 Y) (Z (T (Q ZJ 0 Y)) (D.length+1) c')) (by simp;omega) keep (cy y _)
    (bE HO λm hm _=>qh x (Q X 0 Y) _ m (λe=>Ju (e.symm.trans (BO (show T m=T ZJ from hm.symm ▸ rfl)))))
    ⟨.inr ⟨r.2.1,r.2.2,rfl,ZK.block (by simp;omega) (keep _ B la fd),ZO.block (keep _ B la fd),Fm⟩,bE OK λm hm _=>by
     obtain rfl:v.heap.size=m:=BO hm
     exact(qh x (Q X 0 Y) _ _ (by show v.heap.size≠X;omega)).trans (KG _ (by omega) (by omega))⟩
    (EZ Jr DE Fn Js)
    (((F.bl.trans (ZQ.mono ro)).trans (bg (eL w.heap.size WC) s (by omega) (λk' e=>by have e2:=BO (show T g=T k' from e);omega))).setCell (p:=(Q X 0 Y)) (by show w.heap.size<=X;omega) _))
   clear keep la fd B ZP s JB HO OK OW NC KG BA ZQ C ZK ZO y k6 z0 z1 z2;generalize World.setCell x _ _=W9 at S9 ⊢;have hwk:IntKind.i64.wrap ((k:Int) - 1)=(k:Int) - 1:=by rw[wA];omega
   go_wp2;refine⟨⟨k,(k:Int) - 1,_,_,_,by go_num,rfl,by omega,?_,S9⟩,by simp[intOf]⟩;have:=HD.out;rw[cM,DW];omega
