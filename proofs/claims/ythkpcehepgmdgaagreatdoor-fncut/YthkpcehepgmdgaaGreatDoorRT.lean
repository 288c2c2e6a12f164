import Derived.Test.YthkpcehepgmdgaaGreatDoorRF
import Derived.Test.YthkpcehepgmdgaaGreatDoorRQ
set_option maxRecDepth 100000
set_option maxHeartbeats 8000000
open Go renaming Addr.mk->Q,Value.slice->Z,Value.string->U,Value.int->J,Value.bool->ZC,Obj.cells->N,IntKind.i64->I,World->G,Value->ZD,World.heap->h,World.alloc->ZU,World.cell?->ZV
open Option renaming none->Y,some->T
open Bool renaming false->ZB,true->ZF
open Array renaming size->A
open List renaming length->ZT
namespace Go.Proofs.YthkpcehepgmdgaaGreatDoor.Vp
open Tryz RowKit Ca
variable {w w':G}{b:Nat}{R:List DR}{a:Option Addr}
structure LSub (w:G)(base:Nat)(r:DR):Prop where
 u:r.1.l=0/\(∃c,r.2.1=Z Y 0 c)∨∃g c,r.2.1=Z (T (Q g 0 Y)) r.1.l c/\RowIns w g 0 r.1.l r.1.u/\TypeAt w g 90/\base<=g
 am:w.ownsRow base 68 4 r.2.2 r.1.f (bq r.1.m r.1.f)
structure LRw (w:G)(base:Nat)(v:ZD)(R:List DR):Prop where
 y:w.ownsRow base 44 6 v (ZT R) (R.flatMap ddV)
 sub:∀r∈R,LSub w base r
theorem LSub.ab{r:DR}(ZX:LSub w b r)(hz:A (h w)<=A (h w'))(hb:∀k,OfTy w k 90∨OfTy w k 68->b<=k->w'.heap[k]?=w.heap[k]?):LSub w' b r:=by
 refine⟨?_,cH ZX.am λk l o=>hb k (.inr o) (ZX.am.lt k l).1⟩;rcases ZX.u with h1|⟨g,c,e,h2,f,j⟩
 {exact .inl h1};{have i:w'.heap[g]?=w.heap[g]?:=hb g (.inl (by obtain⟨n,m⟩:=f;exact⟨n,_,m⟩)) j;exact .inr ⟨g,c,e,h2.block hz i,f.block i,j⟩}
theorem LRw.agr{V:G}{v:ZD}(ZX:LRw w b v R)(f:Agr b w V):LRw V b v R :=
 ⟨eW ZX.y f,λr i=>(ZX.sub r i).ab f.1 λk g hb=>f.2 k hb (by rcases g with ⟨c,z,e⟩|⟨c,z,e⟩<;>exact ag e)⟩
theorem LRw.bb{c:Nat}(ZX:LRw w b (Z a (ZT R) c) R):SlDeed w a (ZT R) (dF (R.map (·.1))):=by
 by_cases hz:ZT R=0;{exact .inl hz}
 ·obtain⟨g,c',e⟩:=bV ZX.y (by omega);cases e
  refine .inr ⟨g,0,rfl,(cu ZX.y).2,λi hi=>?_⟩;obtain⟨r,l,f⟩:=dJ hi;rw[ii l];have c:∀j,j<6->∀u,(ddV r)[j]?=T u->ZV w (Q g (0+i*6+j) Y)=T u:=λj s u y=>by rw[show 0+i*6+j=i*6+j by omega];exact(gy ZX.y l j s y).1
  have p:DSub w b ({ r.1 with l:=0 },Z Y 0 0,r.2.2):=⟨CL _ _ _ _,(ZX.sub r f).am⟩
  obtain⟨m,c5,x,n⟩:=p.m;obtain⟨q,c4,o,t⟩:∃a cap,r.2.1=Z a r.1.l cap/\SlIns w a r.1.l r.1.u:=by
   rcases(ZX.sub r f).u with ⟨h1,c,e⟩|⟨g,c,e,h2,-,-⟩
   {exact⟨Y,c,by rw[h1];exact e,.inl h1⟩};{exact⟨_,c,e,.inr ⟨g,0,rfl,h2⟩⟩}
  exact⟨c 0 (by omega) _ rfl,c 1 (by omega) _ rfl,c 2 (by omega) _ rfl,c 3 (by omega) _ rfl,⟨q,c4,by rw[<-o];exact c 4 (by omega) _ rfl,t⟩,⟨m,c5,by rw[<-show r.2.2=_ from x];exact c 5 (by omega) _ rfl,n⟩⟩
theorem Gw{n c:Nat}(ZX:LRw w b (Z a n c) R)(e:n=ZT R)(l:∀r∈R,FitD r.1)(hn:ZT R<=50000):HAc b w a n c (dF (R.map (·.1))):=by subst e;refine⟨λV j=>(ZX.agr j).bb,ie ZX.y,hn,λi hi=>?_⟩;obtain⟨r,g,f⟩:=dJ hi;rw[ii g];exact l r f
theorem TRow.ab{v:ZD}{R:List TR}(ZX:TRow w b v R)(hz:A (h w)<=A (h w'))(hb:∀k,TypeAt w k 94∨TypeAt w k 90->w'.heap[k]?=w.heap[k]?):TRow w' b v R:=by
 refine⟨?_,λr m=>?_,ZX.up⟩
 ·refine⟨ZX.y.1,?_⟩;rcases ZX.y.2 with h1|⟨g,cap,f,rfl,j,l,h2⟩
  {exact .inl h1};{exact .inr ⟨g,cap,f,rfl,j,(hb g (.inl ⟨f,l⟩)).trans l,h2⟩}
 {obtain⟨h1,⟨F,h2⟩,i,n⟩:=ZX.u r m;have e:=hb r.2.1 (.inr i);exact⟨h1.block hz e,⟨F,h2.block hz e⟩,i.block e,n⟩}
structure LgS (w:G)(sb X:Nat)(W:G)(v0:ZD)(a1:Option Addr)(c1:Nat)(RT:List TR)(a:Option Addr)(c:Nat)(D:List DR):Prop where
 rs:W.heap[A (h w)]?=T (N #[Z Y 0 0] 25 (0,0))
 sx:W.heap[sb]?=T (N #[v0,Z a1 (ZT RT) c1] 33 (0,0))
 bx:W.heap[X]?=T (N #[Z a (ZT D) c] 25 (0,0))
 tg:TRow W (A (h w)+1) (Z a1 (ZT RT) c1) RT
 row:LRw W (A (h w)+1) (Z a (ZT D) c) D
 aq:∀r∈D,FitK 0 r.1
 lo:A (h w)<X
 bl:Below (A (h w)) w W
section
variable {w W W':G}{sb X c1 c c' g:Nat}{v0:ZD}{a1:Option Addr}{a':Option Addr}{RT:List TR}{D:List DR}{r:DR}
theorem LgS.aa (ZX:LgS w sb X W v0 a1 c1 RT a c D)(hb:Below (A (h W)) W W'):LgS w sb X W' v0 a1 c1 RT a c D :=
 ⟨(hb.block _ (ag ZX.rs)).trans ZX.rs,(hb.block _ (ag ZX.sx)).trans ZX.sx,(hb.block _ (ag ZX.bx)).trans ZX.bx,ZX.tg.aa hb ly,ZX.row.agr (cC hb ly),ZX.aq,ZX.lo,ZX.bl.trans (hb.mono ZX.bl.size)⟩
theorem LgS.more (ZX:LgS w sb X W v0 a1 c1 RT (T (Q g 0 Y)) c D)(hz:A (h W)<=A (h W'))(keep:∀k,k<A (h W)->k≠g->k≠X->W'.heap[k]?=W.heap[k]?)(p:W'.heap[X]?=T (N #[Z a' (ZT D+1) c'] 25 (0,0)))
  (m:W'.ownsRow (A (h w)+1) 44 6 (Z a' (ZT D+1) c') (ZT D+1) (D.flatMap ddV++ddV r)) (t:LSub W' (A (h w)+1) r) (q:FitK 0 r.1) (hb:Below (A (h w)) w W'):LgS w sb X W' v0 a1 c1 RT a' c' (D++[r]):=by
 have hlo:=ZX.lo;obtain⟨cs,z,s⟩:=eF ZX.row.y g rfl;have hgb:=(ZX.row.y.lt g rfl).1;have j:∀(k:Nat) (i:Array ZD) (e:TypeId) (l:Nat × Nat),W.heap[k]?=T (Obj.cells i e l)->e≠44->e≠25->W'.heap[k]?=W.heap[k]?:=λk i e l b h1 h2=>by
  refine keep k (ag b) (λn=>?_) λn=>?_;{rw[n,s] at b;simp at b;exact h1 b.2.1.symm};{rw[n,ZX.bx] at b;simp at b;exact h2 b.2.1.symm}
 have o:(D++[r]).length=ZT D+1:=by simp
 refine⟨(keep _ (ag ZX.rs) (by omega) (by omega)).trans ZX.rs,(j _ _ _ _ ZX.sx (by decide) (by decide)).trans ZX.sx,by rw[o];exact p,ZX.tg.ab hz λk b=>?_,⟨?_,λx f=>?_⟩,λx f=>?_,ZX.lo,hb⟩
 ·rcases b with ⟨i,b⟩|⟨i,b⟩
  {exact j _ _ _ _ b (by decide) (by decide)};{exact j _ _ _ _ b (by decide) (by decide)}
 {rw[o,IH];simpa using m}
 ·rcases n6.1 f with f|f
  ·refine(ZX.row.sub x f).ab hz λk b _=>?_;rcases b with ⟨i,l,b⟩|⟨i,l,b⟩
   {exact j _ _ _ _ b (by decide) (by decide)};{exact j _ _ _ _ b (by decide) (by decide)}
  {rw[j4.1 f];exact t}
 {rcases n6.1 f with f|f;{exact ZX.aq x f};{rw[j4.1 f];exact q}}
end
def yT (f b:ByteArray)(an:Nat)(act:Nat->Ins)(z:Int):af:=⟨f,3,0,⟨#[103,114,111,117,110,100]⟩,an,act,1,λ_=>⟨b,ZF,ZB,z⟩⟩
theorem AJ (w:G)(b:Nat)(hb:b<=A (h w))(g f:ByteArray)(an:Nat)(act:Nat->Ins)(z:Int):(ZU w (N #[U f,ZC ZF,ZC ZB,J I z] 68)).ownsRow b 68 4 (Z (T (Q (A (h w)) 0 Y)) 1 1) 1 (bq (yT g f an act z).m 1) :=
 ⟨rfl,.inr ⟨A (h w),1,_,rfl,hb,nD w _,j6 _,by unfold maxLen;omega,rfl,rfl⟩⟩
theorem Dz{f b:ByteArray}{an:Nat}{act:Nat->Ins}{z:Int}(h1:f.size<=5000)(h2:b.size<=5000)(g:an<=200)(ZX:∀j,j<an->(act j).s.size<=5000):FitK 0 (yT f b an act z) :=
 ⟨h1,by show(⟨#[103,114,111,117,110,100]⟩:ByteArray).size<=2000;decide,g,ZX,by show 1<=200;omega,λ_ _=>h2⟩
theorem pR:Ek:=by
 intro n w hn;obtain⟨Fn,hi,Hp,Hl,Hu⟩:=KQ fA;obtain⟨W0,S⟩:∃W:G,ZU w (N #[Z Y 0 0] 25)=W:=⟨_,rfl⟩
 obtain⟨A0,K0,hz0⟩:=nb1 S;have fd:=ae S;clear S;have hw1:IntKind.i64.wrap ((n:Int) - 1)=(n:Int) - 1:=by rw[nL];omega
 go_enter func56,ntmps56;go_wp2_with fail;rw[fd.out];clear fd;refine(nW n (by omega) ⟨#[97]⟩ (by decide) W0).mono ?_;rintro e H ⟨b0,n0,c0,f0,a1,c1,RT,rfl,ur,-,-,hT,hG,hN,hB⟩;have HG:=ae hG;have Hq:=ae (λr s=>(hN r s).1);have Hm:=ae (λr s=>(hN r s).2);have Hj:=ae ur;have hs1:=hB.size;obtain⟨W1,hW⟩:∃W:G,ZU (ZU (ZU H (N #[Z b0 n0 c0,Z a1 (ZT RT) c1] 33)) (N #[U ⟨#[97]⟩,J I 1,J I 0,U ⟨#[103,114,111,117,110,100]⟩,Z Y 0 0,Z Y 0 0] 44)) (N #[Z (T (Q (A (h H)+1) 0 Y)) 1 1] 25)=W:=⟨_,rfl⟩
 obtain⟨AC,kS,kD,kX,-⟩:=nb3 hW;have HW:=ae hW;clear hW;have S1:Hid (LgS w (A (h H)) (A (h H)+2) W1 (Z b0 n0 c0) a1 c1 RT (T (Q (A (h H)+1) 0 Y)) 1 [lQ ⟨#[97]⟩ ⟨#[103,114,111,117,110,100]⟩ 1]):=by
  refine⟨(AC.block (A (h w)) (by omega)).trans ((hB.block (A (h w)) (by omega)).trans K0),kS,kX,(hT.mono (by omega)).aa AC ly,⟨⟨rfl,.inr ⟨A (h H)+1,1,_,rfl,by omega,kD.out,j6 _,by unfold maxLen;omega,rfl,rfl⟩⟩,λr s=>?_⟩,λr s=>?_,by omega,(A0.trans (hB.mono (by omega))).trans (AC.mono (by omega))⟩;{rw[j4.1 s];exact⟨.inl ⟨rfl,0,rfl⟩,CL _ _ _ _⟩};{rw[j4.1 s];exact uH 1 (by decide) (by decide)}
 clear AC kS kD kX hT hG hN hB A0 K0 ur;go_wp2_with fail;rw[HW.out];clear HW;generalize (A (h H))+2=X at S1 ⊢;generalize (A (h H))=sb at S1 ⊢;go_loopw [5] (λi wr=>∃(m:Nat) (z:Int) (a:Option Addr) (c:Nat) (D:List DR),i=J I z/\z=(m:Int) - 1/\m<=n/\(ZT D)+m=n+1/\Hid (LgS w sb X wr (Z b0 n0 c0) a1 c1 RT a c D)) (λi _=>(intOf i+1).toNat);case atStart=>exact⟨n,_,_,_,_,rfl,rfl,j6 _,by simp;omega,S1⟩
 case round =>
  clear S1;obtain⟨m,z,a,c,D,rfl,hz,ZJ,hD,b⟩:=hrel;have HD:=ae hD;clear hD;by_cases h0:m=0
  ·subst h0;obtain rfl:z=-1:=by omega
   have Hk:ZT D<=50000:=by have:=HD.out;omega
   have HE:=ae ((Gw (b.row.agr (jf (j:=0) (gM (A (h w))) (Z a (ZT D) c))) rfl (λr s=>(b.aq r s).d (by omega)) Hk).mono (IS (A (h w))));have DS:ZT D<=450:=by have:=HD.out;omega
   have FE:=ae (λ(i:Nat) (hi:i<ZT D)=>show FitK 0 (dF (D.map (·.1)) i) by
    obtain⟨r,s,ZJ⟩:=dJ hi;rw[ii s]
    exact b.aq r ZJ)
   have BE:=ae (b.bl.setCell (p:=(Q (A (h w)) 0 Y)) ly (Z a (ZT D) c));have kr:=b.rs;have y:=b.bx;have r0:ZV wr (Q (A (h w)) 0 Y)=T (Z Y 0 0):=by simp[World.cell?,kr]
   have q0:wr.frozen? (Q (A (h w)) 0 Y)=ZB:=by simp[World.frozen?,kr]
   have x0:ZV wr (Q X 0 Y)=T (Z a (ZT D) c):=by simp[World.cell?,y]
   have l0:=ag kr;have l1:=ag y;clear kr y hz;go_wp2;exact bp (v:=.agg #[Z a (ZT D) c]) (by simp[results,results56,go_sem,r0]) rfl ⟨_,_,_,_,rfl,HE,BE,DS,FE⟩
  ·obtain⟨k,rfl⟩:∃k,m=k+1:=⟨m - 1,by omega⟩
   obtain rfl:z=(k:Int):=by omega
   clear hz h0;have DQ:k<ZT RT:=by have:=Hj.out;omega
   have Ht:0<ZT D:=by have:=HD.out;omega
   have hDn:ZT D<=100:=by have:=HD.out;omega
   obtain⟨g,c',e⟩:=bV b.row.y Ht;obtain⟨rfl,-,-⟩:=PV e;clear e c';obtain⟨L,hL⟩:∃L,ZT D=L+1:=⟨ZT D - 1,by omega⟩
   obtain⟨rl,ZW,n7⟩:=dJ (R:=D) (i:=L) (by omega);have e0:=(gy b.row.y ZW 0 (by omega) (u:=U rl.1.e) rfl).1;rw[NO] at e0;have At:=(b.aq rl n7).nm;have hwL:IntKind.i64.wrap ((ZT D:Int) - 1)=(L:Int):=by rw[nL];omega
   have hLl:(L:Int)<(ZT D:Int):=by omega
   obtain⟨l,r,ex,ZO,M,t0,t1,-⟩:=b.tg.atk DQ;obtain⟨ph,-,ld,Hi⟩:=b.tg.u r M;have qr:=ae ph;have n9:=ae ld;obtain⟨-,n8⟩:=HG.out r M;have Fk:r.1.l<=200:=by have:=Hm.out r M;omega
   have Hr:=ae n8;have Fm:=Hq.out r M;have y:=b.bx;have ZL:=b.sx;rw[ex] at ZL;have x0:ZV wr (Q X 0 Y)=T (Z (T (Q g 0 Y)) (ZT D) c):=by simp[World.cell?,y]
   have y0:wr.frozen? (Q X 0 Y)=ZB:=by simp[World.frozen?,y]
   have x1:ZV wr (Q sb 1 Y)=T (Z (T (Q l 0 Y)) (ZT RT) c1):=by simp[World.cell?,ZL]
   have l0:=ag y;have l1:=ag ZL;obtain⟨cg,zg,kg⟩:=eF b.row.y g rfl;have lg:=ag kg;have ro:X≠g:=λe=>by rw[e,kg] at y;simp at y
   have Fd:sb≠g:=λe=>by rw[e,kg] at ZL;simp at ZL
   have sm:l≠g:=λe=>by obtain⟨cur,hc⟩:=b.tg.type l (by rw[ex];rfl);rw[e,kg] at hc;simp at hc
   have hgb:=(b.row.y.lt g rfl).1;have hlo:=b.lo;have th:=b.bl.size;clear y ZL ph ld n8 ZW n7 M ex kg;have SQ:Hid (∀V:G,(∀j,j<A (h wr)->j≠g->V.heap[j]?=wr.heap[j]?)->ZV V (Q X 0 Y)=T (Z (T (Q g 0 Y)) (ZT D) c)/\ZV V (Q sb 1 Y)=T (Z (T (Q l 0 Y)) (ZT RT) c1)/\ZV V (Q l (k*2) Y)=T (U r.1.e)/\ZV V (Q l (k*2+1) Y)=T (Z (T (Q r.2.1 0 Y)) r.1.l r.2.2)):=λV hV=>⟨(cq (a:=(Q X 0 Y)) (hV X l0 ro)).trans x0,(cq (a:=(Q sb 1 Y)) (hV sb l1 Fd)).trans x1,(cq (a:=(Q l (k*2) Y)) (hV l ZO sm)).trans t0,(cq (a:=(Q l (k*2+1) Y)) (hV l ZO sm)).trans t1⟩
   have HL:=ae hL;clear hL;generalize rl.1.e=ZN at e0 At;go_upto_region 7 with fail;have hk2:(k:Int)<(ZT RT:Int):=by omega
   go_wp2_with fail;refine aD (λV=>ZV V (Q X 0 Y)=T (Z (T (Q g 0 Y)) (ZT D) c)/\ZV V (Q sb 1 Y)=T (Z (T (Q l 0 Y)) (ZT RT) c1)/\ZV V (Q l (k*2) Y)=T (U r.1.e)/\ZV V (Q l (k*2+1) Y)=T (Z (T (Q r.2.1 0 Y)) r.1.l r.2.2)) 25 (by kernel_rfl) ?_;have ZS:=ae (b.aa br.drew);have B:Hid (∀V:G,(∀j,j<wr.drew.heap.size->j≠g->V.heap[j]?=wr.drew.heap[j]?)->ZV V (Q X 0 Y)=T (Z (T (Q g 0 Y)) (ZT D) c)/\ZV V (Q sb 1 Y)=T (Z (T (Q l 0 Y)) (ZT RT) c1)/\ZV V (Q l (k*2) Y)=T (U r.1.e)/\ZV V (Q l (k*2+1) Y)=T (Z (T (Q r.2.1 0 Y)) r.1.l r.2.2)):=SQ;have ZM:Hid (RowIns wr.drew r.2.1 0 r.1.l r.1.u):=qr.aa br.drew ly;have ZP:Hid (TypeAt wr.drew r.2.1 90):=n9;have l2:X<wr.drew.heap.size:=l0;have Bk:A (h w)<=wr.drew.heap.size:=th;clear b SQ qr n9 l0 l1 lg ZO x0 x1 y0 t0 t1 e0 th;generalize wr.drew=v at ZS B ZM ZP l2 Bk ⊢;have o:=ae (B v (λj _ _=>rfl));iterate 20
    refine aM 0 (v:=?_) rfl rfl (by kernel_rfl) (λ_ _ _ ZX=>ZX) rfl ?_ o ?_;rotate_left
    ·(rintro wz ⟨s0,s1,s2,s3⟩;go_simp)
     (try with_reducible rfl)
    (try simp only[Act.put,nzL])
   have BA:=ae ((q9 v).alloc ly (N #[U ZN,ZC ZF,ZC ZB,J I L] 68));have hx1:=ZS.lo;have DE:A (h (ZU v (N #[U ZN,ZC ZF,ZC ZB,J I L] 68)))=A (h v)+1:=by simp
   have OL:=ae (AJ v (A (h w)+1) (by omega) r.1.e ZN r.1.l r.1.u (L:Int));refine ah (i:=20) rfl (by kernel_rfl) λK f=>?_;go_simp;clear o;have o:=ae (B _ (λj E _=>BA.block j E));refine f _ _ (λ_=>o) ?_;clear f K
   (try simp only[Act.put,nzL])
   refine ah (i:=21) rfl (by kernel_rfl) λK f=>?_;go_simp;refine f _ _ (λ_=>o) ?_;clear f K
   (try simp only[Act.put,nzL])
   have Hv:=BA.size;have ZQ:=ae (BA.alloc Hv (N #[U r.1.e,J I 3,J I 0,U ⟨#[103,114,111,117,110,100]⟩,Z (T (Q r.2.1 0 Y)) r.1.l r.2.2,Z (T (Q (A (h v)) 0 Y)) 1 1] 44));refine ah (i:=22) rfl (by kernel_rfl) λK f=>?_;go_simp;clear o;have o:=ae (B _ (λj E _=>ZQ.block j E));refine f _ _ (λ_=>o) ?_;clear f K
   (try simp only[Act.put,nzL])
   have OW:=ae (own_below ZS.row.y ZQ ly);obtain⟨WC,O⟩:∃W:G,ZU (ZU v (N #[U ZN,ZC ZF,ZC ZB,J I L] 68)) (N #[U r.1.e,J I 3,J I 0,U ⟨#[103,114,111,117,110,100]⟩,Z (T (Q r.2.1 0 Y)) r.1.l r.2.2,Z (T (Q (A (h v)) 0 Y)) 1 1] 44)=W:=⟨_,rfl⟩
   obtain⟨-,-,-,hzC⟩:=nb2 O;have P:=ae O;clear O;have NC:Hid (∀j u,[Value.string r.1.e,J I 3,J I 0,U ⟨#[103,114,111,117,110,100]⟩,Z (T (Q r.2.1 0 Y)) r.1.l r.2.2,Z (T (Q (A (h v)) 0 Y)) 1 1][j]?=T u->WC.cell? (((Q (A (h v)+1) 0 Y):Addr).add j)=T u):=by rw[<-P.out];have ZX:=eG (ZU v (N #[U ZN,ZC ZF,ZC ZB,J I L] 68)) #[U r.1.e,J I 3,J I 0,U ⟨#[103,114,111,117,110,100]⟩,Z (T (Q r.2.1 0 Y)) r.1.l r.2.2,Z (T (Q (A (h v)) 0 Y)) 1 1] 44;rw[DE] at ZX;exact ZX
   have OK:=ae (own_below OL ((cM _ (ZU v (N #[U ZN,ZC ZF,ZC ZB,J I L] 68))).alloc ly (N #[U r.1.e,J I 3,J I 0,U ⟨#[103,114,111,117,110,100]⟩,Z (T (Q r.2.1 0 Y)) r.1.l r.2.2,Z (T (Q (A (h v)) 0 Y)) 1 1] 44)) ly);clear OL;rw[P.out] at ZQ OW OK o ⊢;clear P;refine ah (i:=23) rfl (by kernel_rfl) λK f=>?_;refine aQ rfl (.tmp 28) (.tmp 49) 23 rfl (A (h w)+1) 44 Fn (.agg #[U ⟨#[]⟩,J I 0,J I 0,U ⟨#[]⟩,Z Y 0 0,Z Y 0 0]) 6 96 LX hi Hp Hl Hu rfl (by decide) (Z (T (Q g 0 Y)) (ZT D) c) (ZT D) (D.flatMap ddV) (by simp[Act.eval]) OW.out (Q (A (h v)+1) 0 Y) 1 1 [U r.1.e,J I 3,J I 0,U ⟨#[103,114,111,117,110,100]⟩,Z (T (Q r.2.1 0 Y)) r.1.l r.2.2,Z (T (Q (A (h v)) 0 Y)) 1 1] (by simp[Act.eval]) rfl NC.out (by simp[Value.oneCell']) (by unfold maxLen;omega) (by omega) (by omega) ?_;intro v' x C q Hn;obtain⟨ZK,c',rfl⟩:=bV C (by omega);have KG:Hid (∀j,j<A (h WC)->j≠g->x.heap[j]?=WC.heap[j]?):=λj E la=>q.block j E (λe=>la (GD (show T j=T g from e)));have hz6:=q.size;clear o;have o:=ae (B x (λj E la=>(KG j (by omega) la).trans (ZQ.block j E)));refine f _ _ (λ_=>o) ?_;clear f K
   (try simp only[Act.put,nzL])
   refine ah (i:=24) rfl (by kernel_rfl) λK f=>?_;go_simp;refine f _ _ (λ_=>o) ?_;clear f K
   (try simp only[Act.put,nzL])
   have HO:=ae C;have k6:x.heap[X]?=v.heap[X]?:=(KG X (by omega) ro).trans (ZQ.block X l2);have t:=k6.trans ZS.bx;have z0:ZV x (Q X 0 Y)=T (Z (T (Q g 0 Y)) (ZT D) c):=by simp[World.cell?,t]
   have z1:x.frozen? (Q X 0 Y)=ZB:=by simp[World.frozen?,t]
   have z2:=ag t;have Ho:X≠ZK:=λe=>by obtain⟨cc,zz,hc⟩:=eF C ZK rfl;rw[e,hc] at t;simp at t
   clear C;refine ah (i:=25) rfl (by kernel_rfl) λK f=>?_;go_simp;refine f _ _ (λZX=>absurd rfl ZX) ?_;clear f K o
   (try simp only[Act.put,nzL])
   refine bk (by kernel_rfl) ?_ _;have keep:∀j,j<A (h v)->j≠g->j≠X->(x.setCell (Q X 0 Y) (Z (T (Q ZK 0 Y)) (ZT D+1) c')).heap[j]?=v.heap[j]?:=λj E h1 h2=>(qh x (Q X 0 Y) _ j h2).trans ((KG j (by omega) h1).trans (ZQ.block j E));have bt:r.2.1≠g:=λe=>by obtain⟨c5,z5,h5⟩:=eF ZS.row.y g rfl;obtain⟨c6,h6⟩:=ZP.out;rw[e,h5] at h6;simp at h6
   have aq:r.2.1≠X:=λe=>by obtain⟨c6,h6⟩:=ZP.out;rw[e,ZS.bx] at h6;simp at h6
   have ZW:=ZM.1;have ZO:=(ZS.row.y.lt g rfl).2
   have S9:=ae (ZS.more (r:=(yT r.1.e ZN r.1.l r.1.u (L:Int),Z (T (Q r.2.1 0 Y)) r.1.l r.2.2,Z (T (Q (A (h v)) 0 Y)) 1 1)) (a':=T (Q ZK 0 Y)) (c':=c') (W':=x.setCell (Q X 0 Y) (Z (T (Q ZK 0 Y)) (ZT D+1) c')) (by simp;omega) keep (bD t _)
    (cH HO λm ZJ _=>qh x (Q X 0 Y) _ m (λe=>Ho (e.symm.trans (GD (show T m=T ZK from ZJ.symm ▸ rfl)))))
    ⟨.inr ⟨r.2.1,r.2.2,rfl,ZM.block (by simp;omega) (keep _ ZW bt aq),ZP.block (keep _ ZW bt aq),Hi⟩,cH OK λm ZJ _=>by
     obtain rfl:A (h v)=m:=GD ZJ
     exact(qh x (Q X 0 Y) _ _ (by show (A (h v))≠X;omega)).trans (KG _ (by omega) (by omega))⟩
    (Dz Fm At Fk Hr)
    (((ZS.bl.trans (ZQ.mono Bk)).trans (bg (cM (A (h w)) WC) q (by omega) (λk' e=>by have e2:=GD (show T g=T k' from e);omega))).setCell (p:=(Q X 0 Y)) (by show (A (h w))<=X;omega) _))
   clear keep bt aq ZW ZO q Hn HO OK OW NC KG BA ZQ B ZM ZP t k6 z0 z1 z2;generalize World.setCell x _ _=W9 at S9 ⊢;have hwk:IntKind.i64.wrap ((k:Int) - 1)=(k:Int) - 1:=by rw[nL];omega
   go_wp2;refine⟨⟨k,(k:Int) - 1,_,_,_,by go_num,rfl,by omega,?_,S9⟩,by simp[intOf]⟩;have:=HD.out;rw[gB,CV];omega
