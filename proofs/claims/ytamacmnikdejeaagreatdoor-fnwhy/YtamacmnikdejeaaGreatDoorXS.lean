import Derived.Test.YtamacmnikdejeaaGreatDoorXE
import Derived.Test.YtamacmnikdejeaaGreatDoorXP
set_option maxRecDepth 100000
set_option maxHeartbeats 8000000
open Go.Addr renaming mk->T
open Go.Value renaming slice->Y,string->U,int->I,bool->QT
open Option renaming none->Z,some->N
open Go.Obj renaming cells->Q
open Go.IntKind renaming i64->J
open Go renaming World->H,Value->QS
open Bool renaming false->QQ,true->QR
namespace Go.Proofs.YtamacmnikdejeaaGreatDoor.Vp
open RowKit Ca
structure LSub (w:H)(base:Nat)(r:DR):Prop where
 act:r.1.actN=0/\(∃ c,r.2.1=Y Z 0 c)∨∃ g c,r.2.1=Y (N (T g 0 Z)) r.1.actN c/\RowIns w g 0 r.1.actN r.1.act/\TypeAt w g 146/\base<=g
 lnk:w.ownsRow base 129 4 r.2.2 r.1.linksN (bZ r.1.links r.1.linksN)
structure LRw (w:H)(base:Nat)(v:QS)(R:List DR):Prop where
 own:w.ownsRow base 46 6 v R.length (R.flatMap ddV)
 sub:∀ r∈R,LSub w base r
theorem LSub.blk {w w':H}{b:Nat}{r:DR}(h:LSub w b r)(hz:w.heap.size<=w'.heap.size)(hb:∀ k,OfTy w k 146∨OfTy w k 129->b<=k->w'.heap[k]?=w.heap[k]?):LSub w' b r:=by
 refine⟨?_,ez h.lnk fun k n l=>hb k (.inr l) (h.lnk.lt k n).1⟩;rcases h.act with h1 | ⟨g,c,e,h2,f,j⟩
 ·exact .inl h1
 ·have i:w'.heap[g]?=w.heap[g]?:=hb g (.inl (by obtain⟨o,m⟩:=f;exact⟨o,_,m⟩)) j
  exact .inr ⟨g,c,e,h2.block hz i,f.block i,j⟩
theorem LRw.agr {w V:H}{b:Nat}{v:QS}{R:List DR}(h:LRw w b v R)(f:Agr b w V):LRw V b v R :=
 ⟨eZ h.own f,fun r g=>(h.sub r g).blk f.1 fun k i hb=>f.2 k hb (by rcases i with ⟨c,z,e⟩ | ⟨c,z,e⟩<;>exact ai e)⟩
theorem LRw.deeds {w:H}{b c:Nat}{a:Option Addr}{R:List DR}(h:LRw w b (Y a R.length c) R):SlDeed w a R.length (dF (R.map (·.1))):=by
 by_cases hz:R.length=0
 ·exact .inl hz
 ·obtain⟨g,c',e⟩:=d9 h.own (by omega)
  cases e
  refine .inr ⟨g,0,rfl,(dq h.own).2,fun i hi=>?_⟩;obtain⟨r,l,f⟩:=dI hi;rw[iF l];have c:∀ j,j<6->∀ u,(ddV r)[j]?=N u->w.cell? (T g (0+i*6+j) Z)=N u:=fun j y u s=>by rw[show 0+i*6+j=i*6+j by omega];exact(iL h.own l j y s).1
  have p:DSub w b ({ r.1 with actN:=0 },Y Z 0 0,r.2.2):=⟨CP _ _ _ _,(h.sub r f).lnk⟩
  obtain⟨q,c5,t,o⟩:=p.links;obtain⟨m,c4,n,x⟩:∃ a cap,r.2.1=Y a r.1.actN cap/\SlIns w a r.1.actN r.1.act:=by
   rcases(h.sub r f).act with ⟨h1,c,e⟩ | ⟨g,c,e,h2,-,-⟩
   ·exact⟨Z,c,by rw[h1];exact e,.inl h1⟩
   ·exact⟨_,c,e,.inr ⟨g,0,rfl,h2⟩⟩
  exact⟨c 0 (by omega) _ rfl,c 1 (by omega) _ rfl,c 2 (by omega) _ rfl,c 3 (by omega) _ rfl,⟨m,c4,by rw[<-n];exact c 4 (by omega) _ rfl,x⟩,⟨q,c5,by rw[<-show r.2.2=_ from t];exact c 5 (by omega) _ rfl,o⟩⟩
theorem Gc {w:H}{b n c:Nat}{a:Option Addr}{R:List DR}(h:LRw w b (Y a n c) R)(e:n=R.length)(j:∀ r∈R,FitD r.1)(hn:R.length<=50000):HAc b w a n c (dF (R.map (·.1))):=by subst e;refine⟨fun V l=>(h.agr l).deeds,jO h.own,hn,fun i hi=>?_⟩;obtain⟨r,f,g⟩:=dI hi;rw[iF f];exact j r g
theorem TRow.blk {w w':H}{b:Nat}{v:QS}{R:List TR}(h:TRow w b v R)(hz:w.heap.size<=w'.heap.size)(hb:∀ k,TypeAt w k 125∨TypeAt w k 146->w'.heap[k]?=w.heap[k]?):TRow w' b v R:=by
 refine⟨?_,fun r l=>?_,h.up⟩
 ·refine⟨h.own.1,?_⟩
  rcases h.own.2 with h1 | ⟨g,cap,c,rfl,f,j,h2⟩
  ·exact .inl h1
  ·exact .inr ⟨g,cap,c,rfl,f,(hb g (.inl ⟨c,j⟩)).trans j,h2⟩
 ·obtain⟨h1,⟨F,h2⟩,i,m⟩:=h.act r l
  have e:=hb r.2.1 (.inr i);exact⟨h1.block hz e,⟨F,h2.block hz e⟩,i.block e,m⟩
structure LgS (w:H)(sb X:Nat)(W:H)(v0:QS)(a1:Option Addr)(c1:Nat)(RT:List TR)(a:Option Addr)(c:Nat)(D:List DR):Prop where
 rs:W.heap[w.heap.size]?=N (Q #[Y Z 0 0] 25 (0,0))
 sx:W.heap[sb]?=N (Q #[v0,Y a1 RT.length c1] 29 (0,0))
 bx:W.heap[X]?=N (Q #[Y a D.length c] 25 (0,0))
 tg:TRow W (w.heap.size+1) (Y a1 RT.length c1) RT
 row:LRw W (w.heap.size+1) (Y a D.length c) D
 fit:∀ r∈D,FitK 0 r.1
 lo:w.heap.size<X
 bl:Below w.heap.size w W
section
variable {w W W':H}{sb X c1 c c' g:Nat}{v0:QS}{a1:Option Addr}{a':Option Addr}{RT:List TR}{D:List DR}{r:DR}
theorem LgS.below {a:Option Addr}(h:LgS w sb X W v0 a1 c1 RT a c D)(hb:Below W.heap.size W W'):LgS w sb X W' v0 a1 c1 RT a c D :=
 ⟨(hb.block _ (ai h.rs)).trans h.rs,(hb.block _ (ai h.sx)).trans h.sx,(hb.block _ (ai h.bx)).trans h.bx,h.tg.below hb ly,h.row.agr (bh hb ly),h.fit,h.lo,h.bl.trans (hb.mono h.bl.size)⟩
theorem LgS.more (h:LgS w sb X W v0 a1 c1 RT (N (T g 0 Z)) c D)(hz:W.heap.size<=W'.heap.size)(keep:∀ k,k<W.heap.size->k≠g->k≠X->W'.heap[k]?=W.heap[k]?)(p:W'.heap[X]?=N (Q #[Y a' (D.length+1) c'] 25 (0,0)))
  (m:W'.ownsRow (w.heap.size+1) 46 6 (Y a' (D.length+1) c') (D.length+1) (D.flatMap ddV++ddV r)) (q:LSub W' (w.heap.size+1) r) (t:FitK 0 r.1) (hb:Below w.heap.size w W'):LgS w sb X W' v0 a1 c1 RT a' c' (D++[r]):=by
 have hlo:=h.lo;obtain⟨cs,z,s⟩:=fO h.row.own g rfl;have hgb:=(h.row.own.lt g rfl).1;have j:∀ (k:Nat) (i:Array QS) (e:TypeId) (l:Nat × Nat),W.heap[k]?=N (Obj.cells i e l)->e≠46->e≠25->W'.heap[k]?=W.heap[k]?:=fun k i e l b h1 h2=>by
  refine keep k (ai b) (fun n=>?_) (fun n=>?_)
  ·rw[n,s] at b
   simp at b;exact h1 b.2.1.symm
  ·rw[n,h.bx] at b
   simp at b;exact h2 b.2.1.symm
 have o:(D++[r]).length=D.length+1:=by simp
 refine⟨(keep _ (ai h.rs) (by omega) (by omega)).trans h.rs,(j _ _ _ _ h.sx (by decide) (by decide)).trans h.sx,by rw[o];exact p,h.tg.blk hz fun k b=>?_,⟨?_,fun x f=>?_⟩,fun x f=>?_,h.lo,hb⟩
 ·rcases b with ⟨i,b⟩ | ⟨i,b⟩
  ·exact j _ _ _ _ b (by decide) (by decide)
  ·exact j _ _ _ _ b (by decide) (by decide)
 ·rw[o,HH]
  simpa using m
 ·rcases hU.1 f with f | f
  ·refine(h.row.sub x f).blk hz fun k b _=>?_
   rcases b with ⟨i,l,b⟩ | ⟨i,l,b⟩
   ·exact j _ _ _ _ b (by decide) (by decide)
   ·exact j _ _ _ _ b (by decide) (by decide)
  ·rw[eT.1 f];exact q
 ·rcases hU.1 f with f | f
  ·exact h.fit x f
  ·rw[eT.1 f];exact t
end
def yJ (c b:ByteArray)(an:Nat)(act:Nat->Ins)(z:Int):aj:=⟨c,3,0,⟨#[103,114,111,117,110,100]⟩,an,act,1,fun _=>⟨b,QR,QQ,z⟩⟩
theorem Az (w:H)(b:Nat)(hb:b<=w.heap.size)(f c:ByteArray)(an:Nat)(act:Nat->Ins)(z:Int):(w.alloc (Q #[U c,QT QR,QT QQ,I J z] 129)).ownsRow b 129 4 (Y (N (T w.heap.size 0 Z)) 1 1) 1 (bZ (yJ f c an act z).links 1) :=
 ⟨rfl,.inr ⟨w.heap.size,1,_,rfl,hb,cM w _,j5 _,by unfold maxLen;omega,rfl,rfl⟩⟩
theorem DD {c b:ByteArray}{an:Nat}{act:Nat->Ins}{z:Int}(h1:c.size<=5000)(h2:b.size<=5000)(g:an<=200)(f:∀ j,j<an->(act j).s.size<=5000):FitK 0 (yJ c b an act z) :=
 ⟨h1,by show(⟨#[103,114,111,117,110,100]⟩:ByteArray).size<=2000;decide,g,f,by show 1<=200;omega,fun _ _=>h2⟩
theorem yK:yH:=by
 intro n w hn;obtain⟨Bk,hi,GS,GM,GQ⟩:=JV ie;have GE:(w.alloc (Q #[Y Z 0 0] 25)).heap.size=w.heap.size+1:=by simp
 have A0:=ae ((q9 w).alloc ly (Q #[Y Z 0 0] 25));have K0:Hid ((w.alloc (Q #[Y Z 0 0] 25)).heap[w.heap.size]?=N (Q #[Y Z 0 0] 25 (0,0))):=cM w _;have hw1:IntKind.i64.wrap ((n:Int) - 1)=(n:Int) - 1:=by rw[j6];omega
 go_enter Tryz.func80,Tryz.ntmps80;go_wp2_with fail;generalize w.alloc (Q #[Y Z 0 0] 25)=W0 at A0 K0 GE ⊢;refine(kK n (by omega) ⟨#[97]⟩ (by decide) W0).mono ?_;rintro e b ⟨b0,n0,c0,f0,a1,c1,RT,rfl,qr,-,-,hT,hG,hN,hB⟩;have HG:=ae hG;have GN:=ae (fun r t=>(hN r t).1);have GK:=ae (fun r t=>(hN r t).2);have Fn:=ae qr;have hs1:=hB.size;have P:(b.alloc (Q #[Y b0 n0 c0,Y a1 RT.length c1] 29)).heap.size=b.heap.size+1:=by simp
 have O:((b.alloc (Q #[Y b0 n0 c0,Y a1 RT.length c1] 29)).alloc (Q #[U ⟨#[97]⟩,I J 1,I J 0,U ⟨#[103,114,111,117,110,100]⟩,Y Z 0 0,Y Z 0 0] 46)).heap.size=b.heap.size+2:=by simp
 have AB:=((q9 b).alloc ly (Q #[Y b0 n0 c0,Y a1 RT.length c1] 29)).alloc (by simp) (Q #[U ⟨#[97]⟩,I J 1,I J 0,U ⟨#[103,114,111,117,110,100]⟩,Y Z 0 0,Y Z 0 0] 46);have AC:=AB.alloc (by simp<;>omega) (Q #[Y (N (T (b.heap.size+1) 0 Z)) 1 1] 25);have kS:=cM b (Q #[Y b0 n0 c0,Y a1 RT.length c1] 29);have kD:=cM (b.alloc (Q #[Y b0 n0 c0,Y a1 RT.length c1] 29)) (Q #[U ⟨#[97]⟩,I J 1,I J 0,U ⟨#[103,114,111,117,110,100]⟩,Y Z 0 0,Y Z 0 0] 46);rw[P] at kD;have kX:=cM ((b.alloc (Q #[Y b0 n0 c0,Y a1 RT.length c1] 29)).alloc (Q #[U ⟨#[97]⟩,I J 1,I J 0,U ⟨#[103,114,111,117,110,100]⟩,Y Z 0 0,Y Z 0 0] 46)) (Q #[Y (N (T (b.heap.size+1) 0 Z)) 1 1] 25);rw[O] at kX;have B1:=(eL (b.heap.size+1) (b.alloc (Q #[Y b0 n0 c0,Y a1 RT.length c1] 29))).alloc (by rw[P];exact j5 _) (Q #[U ⟨#[97]⟩,I J 1,I J 0,U ⟨#[103,114,111,117,110,100]⟩,Y Z 0 0,Y Z 0 0] 46);have B2:=(eL (b.heap.size+2) ((b.alloc (Q #[Y b0 n0 c0,Y a1 RT.length c1] 29)).alloc (Q #[U ⟨#[97]⟩,I J 1,I J 0,U ⟨#[103,114,111,117,110,100]⟩,Y Z 0 0,Y Z 0 0] 46))).alloc (by rw[O];exact j5 _) (Q #[Y (N (T (b.heap.size+1) 0 Z)) 1 1] 25);have S1:Hid (LgS w b.heap.size (b.heap.size+2) (((b.alloc (Q #[Y b0 n0 c0,Y a1 RT.length c1] 29)).alloc (Q #[U ⟨#[97]⟩,I J 1,I J 0,U ⟨#[103,114,111,117,110,100]⟩,Y Z 0 0,Y Z 0 0] 46)).alloc (Q #[Y (N (T (b.heap.size+1) 0 Z)) 1 1] 25)) (Y b0 n0 c0) a1 c1 RT (N (T (b.heap.size+1) 0 Z)) 1 [mf ⟨#[97]⟩ ⟨#[103,114,111,117,110,100]⟩ 1]):=by
  have Fd:=(B2.block (b.heap.size+1) (by omega)).trans kD;refine⟨(AC.block w.heap.size (by omega)).trans ((hB.block w.heap.size (by omega)).trans K0),(B2.block b.heap.size (by omega)).trans ((B1.block b.heap.size (by omega)).trans kS),kX,(hT.mono (by omega)).below AC ly,⟨⟨rfl,.inr ⟨b.heap.size+1,1,_,rfl,by omega,Fd,j5 _,by unfold maxLen;omega,rfl,rfl⟩⟩,fun r t=>?_⟩,fun r t=>?_,by omega,(A0.trans (hB.mono (by omega))).trans (AC.mono (by omega))⟩
  ·rw[eT.1 t]
   exact⟨.inl ⟨rfl,0,rfl⟩,CP _ _ _ _⟩
  ·rw[eT.1 t]
   exact uw 1 (by decide) (by decide)
 clear AB AC kS kD kX B1 B2 P O hT hG hN hB A0 K0 qr;go_wp2_with fail;generalize ((b.alloc (Q #[Y b0 n0 c0,Y a1 RT.length c1] 29)).alloc (Q #[U ⟨#[97]⟩,I J 1,I J 0,U ⟨#[103,114,111,117,110,100]⟩,Y Z 0 0,Y Z 0 0] 46)).alloc (Q #[Y (N (T (b.heap.size+1) 0 Z)) 1 1] 25)=W1 at S1 ⊢;generalize b.heap.size+2=X at S1 ⊢;generalize b.heap.size=sb at S1 ⊢;go_loopw [5] (fun i wr=>∃ (m:Nat) (z:Int) (a:Option Addr) (c:Nat) (D:List DR),i=I J z/\z=(m:Int) - 1/\m<=n/\D.length+m=n+1/\Hid (LgS w sb X wr (Y b0 n0 c0) a1 c1 RT a c D)) (fun i _=>(intOf i+1).toNat);case atStart=>exact⟨n,_,_,_,_,rfl,rfl,j5 _,by simp;omega,S1⟩
 case round =>
  clear S1;obtain⟨m,z,a,c,D,rfl,hz,QY,hD,f⟩:=hrel;have HD:=ae hD;clear hD;by_cases h0:m=0
  ·subst h0
   obtain rfl:z=-1:=by omega
   have GP:D.length<=50000:=by have:=HD.out;omega
   have HE:=ae ((Gc (f.row.agr (dL (j:=0) (j2 w.heap.size) (Y a D.length c))) rfl (fun r t=>(f.fit r t).d (by omega)) GP).mono (vF w.heap.size));have GC:D.length<=450:=by have:=HD.out;omega
   have FE:=ae (fun(i:Nat) (hi:i<D.length)=>show FitK 0 (dF (D.map (·.1)) i) by
    obtain⟨r,t,QY⟩:=dI hi;rw[iF t]
    exact f.fit r QY)
   have BE:=ae (f.bl.setCell (p:=(T w.heap.size 0 Z)) ly (Y a D.length c));have kr:=f.rs;have A:=f.bx;have r0:wr.cell? (T w.heap.size 0 Z)=N (Y Z 0 0):=by simp[World.cell?,kr]
   have q0:wr.frozen? (T w.heap.size 0 Z)=QQ:=by simp[World.frozen?,kr]
   have x0:wr.cell? (T X 0 Z)=N (Y a D.length c):=by simp[World.cell?,A]
   have l0:=ai kr;have l1:=ai A;clear kr A hz;go_wp2;exact bp (v:=.agg #[Y a D.length c]) (by simp[results,Tryz.results80,go_sem,r0]) rfl ⟨_,_,_,_,rfl,HE,BE,GC,FE⟩
  ·obtain⟨k,rfl⟩:∃ k,m=k+1:=⟨m - 1,by omega⟩
   obtain rfl:z=(k:Int):=by omega
   clear hz h0;have GD:k<RT.length:=by have:=Fn.out;omega
   have GI:0<D.length:=by have:=HD.out;omega
   have hDn:D.length<=100:=by have:=HD.out;omega
   obtain⟨g,c',e⟩:=d9 f.row.own GI;obtain⟨rfl,-,-⟩:=NF e;clear e c';obtain⟨L,hL⟩:∃ L,D.length=L+1:=⟨D.length - 1,by omega⟩
   obtain⟨rl,C,n8⟩:=dI (R:=D) (i:=L) (by omega);have e0:=(iL f.row.own C 0 (by omega) (u:=U rl.1.name) rfl).1;rw[KJ] at e0;have ur:=(f.fit rl n8).nm;have hwL:IntKind.i64.wrap ((D.length:Int) - 1)=(L:Int):=by rw[j6];omega
   have hLl:(L:Int)<(D.length:Int):=by omega
   obtain⟨o,r,aq,ZA,Q9,t0,t1,-⟩:=f.tg.atk GD;obtain⟨n9,-,QX,GL⟩:=f.tg.act r Q9;have ro:=ae n9;have ph:=ae QX;obtain⟨-,mv⟩:=HG.out r Q9;have Fk:r.1.actN<=200:=by have:=GK.out r Q9;omega
   have GF:=ae mv;have GT:=GN.out r Q9;have A:=f.bx;have Q2:=f.sx;rw[aq] at Q2;have x0:wr.cell? (T X 0 Z)=N (Y (N (T g 0 Z)) D.length c):=by simp[World.cell?,A]
   have y0:wr.frozen? (T X 0 Z)=QQ:=by simp[World.frozen?,A]
   have x1:wr.cell? (T sb 1 Z)=N (Y (N (T o 0 Z)) RT.length c1):=by simp[World.cell?,Q2]
   have l0:=ai A;have l1:=ai Q2;obtain⟨cg,zg,kg⟩:=fO f.row.own g rfl;have lg:=ai kg;have th:X≠g:=fun e=>by rw[e,kg] at A;simp at A
   have DQ:sb≠g:=fun e=>by rw[e,kg] at Q2;simp at Q2
   have ld:o≠g:=fun e=>by obtain⟨cur,hc⟩:=f.tg.type o (by rw[aq];rfl);rw[e,kg] at hc;simp at hc
   have hgb:=(f.row.own.lt g rfl).1;have hlo:=f.lo;have sm:=f.bl.size;clear A Q2 n9 QX mv C n8 Q9 aq kg;have SQ:Hid (∀ V:H,(∀ j,j<wr.heap.size->j≠g->V.heap[j]?=wr.heap[j]?)->V.cell? (T X 0 Z)=N (Y (N (T g 0 Z)) D.length c)/\V.cell? (T sb 1 Z)=N (Y (N (T o 0 Z)) RT.length c1)/\V.cell? (T o (k*2) Z)=N (U r.1.name)/\V.cell? (T o (k*2+1) Z)=N (Y (N (T r.2.1 0 Z)) r.1.actN r.2.2)):=fun V hV=>⟨(cj (a:=(T X 0 Z)) (hV X l0 th)).trans x0,(cj (a:=(T sb 1 Z)) (hV sb l1 DQ)).trans x1,(cj (a:=(T o (k*2) Z)) (hV o ZA ld)).trans t0,(cj (a:=(T o (k*2+1) Z)) (hV o ZA ld)).trans t1⟩
   have HL:=ae hL;clear hL;generalize rl.1.name=ZB at e0 ur;go_upto_region 7 with fail;have hk2:(k:Int)<(RT.length:Int):=by omega
   go_wp2_with fail;refine aH (fun V=>V.cell? (T X 0 Z)=N (Y (N (T g 0 Z)) D.length c)/\V.cell? (T sb 1 Z)=N (Y (N (T o 0 Z)) RT.length c1)/\V.cell? (T o (k*2) Z)=N (U r.1.name)/\V.cell? (T o (k*2+1) Z)=N (Y (N (T r.2.1 0 Z)) r.1.actN r.2.2)) 25 (by as_aux_lemma=>kernel_rfl) ?_;have G:=ae (f.below br.drew);have B:Hid (∀ V:H,(∀ j,j<wr.drew.heap.size->j≠g->V.heap[j]?=wr.drew.heap[j]?)->V.cell? (T X 0 Z)=N (Y (N (T g 0 Z)) D.length c)/\V.cell? (T sb 1 Z)=N (Y (N (T o 0 Z)) RT.length c1)/\V.cell? (T o (k*2) Z)=N (U r.1.name)/\V.cell? (T o (k*2+1) Z)=N (Y (N (T r.2.1 0 Z)) r.1.actN r.2.2)):=SQ;have S:Hid (RowIns wr.drew r.2.1 0 r.1.actN r.1.act):=ro.below br.drew ly;have QZ:Hid (TypeAt wr.drew r.2.1 146):=ph;have l2:X<wr.drew.heap.size:=l0;have la:w.heap.size<=wr.drew.heap.size:=sm;clear f SQ ro ph l0 l1 lg ZA x0 x1 y0 t0 t1 e0 sm;generalize wr.drew=v at G B S QZ l2 la ⊢;have q:=ae (B v (fun j _ _=>rfl))
   iterate 20
    refine aO 0 (v:=?_) rfl rfl (by as_aux_lemma=>kernel_rfl) (fun _ _ _ h=>h) rfl ?_ q ?_;rotate_left
    ·(intro wz DE;obtain⟨s0,s1,s2,s3⟩:=DE;go_simp)
     (try with_reducible rfl)
    (try simp only[Act.put,nzL])
   have BA:=ae ((q9 v).alloc ly (Q #[U ZB,QT QR,QT QQ,I J L] 129));have hx1:=G.lo;have GH:(v.alloc (Q #[U ZB,QT QR,QT QQ,I J L] 129)).heap.size=v.heap.size+1:=by simp
   have OL:=ae (Az v (w.heap.size+1) (by omega) r.1.name ZB r.1.actN r.1.act (L:Int));refine af (i:=20) rfl (by as_aux_lemma=>kernel_rfl) (fun K l=>?_);go_simp;clear q;have q:=ae (B _ (fun j E _=>BA.block j E));refine l _ _ (fun _=>q) ?_;clear l K
   (try simp only[Act.put,nzL])
   refine af (i:=21) rfl (by as_aux_lemma=>kernel_rfl) (fun K l=>?_);go_simp;refine l _ _ (fun _=>q) ?_;clear l K
   (try simp only[Act.put,nzL])
   have At:=BA.size;have M:=ae (BA.alloc At (Q #[U r.1.name,I J 3,I J 0,U ⟨#[103,114,111,117,110,100]⟩,Y (N (T r.2.1 0 Z)) r.1.actN r.2.2,Y (N (T v.heap.size 0 Z)) 1 1] 46));refine af (i:=22) rfl (by as_aux_lemma=>kernel_rfl) (fun K l=>?_);go_simp;clear q;have q:=ae (B _ (fun j E _=>M.block j E));refine l _ _ (fun _=>q) ?_;clear l K
   (try simp only[Act.put,nzL])
   have OW:=ae (own_below G.row.own M ly);have Fm:((v.alloc (Q #[U ZB,QT QR,QT QQ,I J L] 129)).alloc (Q #[U r.1.name,I J 3,I J 0,U ⟨#[103,114,111,117,110,100]⟩,Y (N (T r.2.1 0 Z)) r.1.actN r.2.2,Y (N (T v.heap.size 0 Z)) 1 1] 46)).heap.size=v.heap.size+2:=by simp
   have NC:Hid (∀ j u,[Value.string r.1.name,I J 3,I J 0,U ⟨#[103,114,111,117,110,100]⟩,Y (N (T r.2.1 0 Z)) r.1.actN r.2.2,Y (N (T v.heap.size 0 Z)) 1 1][j]?=N u->((v.alloc (Q #[U ZB,QT QR,QT QQ,I J L] 129)).alloc (Q #[U r.1.name,I J 3,I J 0,U ⟨#[103,114,111,117,110,100]⟩,Y (N (T r.2.1 0 Z)) r.1.actN r.2.2,Y (N (T v.heap.size 0 Z)) 1 1] 46)).cell? (((T (v.heap.size+1) 0 Z):Addr).add j)=N u):=by have h:=fF (v.alloc (Q #[U ZB,QT QR,QT QQ,I J L] 129)) #[U r.1.name,I J 3,I J 0,U ⟨#[103,114,111,117,110,100]⟩,Y (N (T r.2.1 0 Z)) r.1.actN r.2.2,Y (N (T v.heap.size 0 Z)) 1 1] 46;rw[GH] at h;exact h
   have OK:=ae (own_below OL ((eL _ (v.alloc (Q #[U ZB,QT QR,QT QQ,I J L] 129))).alloc ly (Q #[U r.1.name,I J 3,I J 0,U ⟨#[103,114,111,117,110,100]⟩,Y (N (T r.2.1 0 Z)) r.1.actN r.2.2,Y (N (T v.heap.size 0 Z)) 1 1] 46)) ly);clear OL;generalize (v.alloc (Q #[U ZB,QT QR,QT QQ,I J L] 129)).alloc (Q #[U r.1.name,I J 3,I J 0,U ⟨#[103,114,111,117,110,100]⟩,Y (N (T r.2.1 0 Z)) r.1.actN r.2.2,Y (N (T v.heap.size 0 Z)) 1 1] 46)=WC at M OW Fm NC OK q ⊢;refine af (i:=23) rfl (by as_aux_lemma=>kernel_rfl) (fun K l=>?_);refine bI rfl (.tmp 28) (.tmp 49) 23 rfl (w.heap.size+1) 46 Bk (.agg #[U ⟨#[]⟩,I J 0,I J 0,U ⟨#[]⟩,Y Z 0 0,Y Z 0 0]) 6 96 Tryz.underlying23 hi GS GM GQ rfl (by decide) (Y (N (T g 0 Z)) D.length c) D.length (D.flatMap ddV) (by simp[Act.eval]) OW.out (T (v.heap.size+1) 0 Z) 1 1 [U r.1.name,I J 3,I J 0,U ⟨#[103,114,111,117,110,100]⟩,Y (N (T r.2.1 0 Z)) r.1.actN r.2.2,Y (N (T v.heap.size 0 Z)) 1 1] (by simp[Act.eval]) rfl NC.out (by simp[Value.oneCell']) (by unfold maxLen;omega) (by omega) (by omega) ?_;intro v' y F s GO;obtain⟨Q0,c',rfl⟩:=d9 F (by omega);have KG:Hid (∀ j,j<WC.heap.size->j≠g->y.heap[j]?=WC.heap[j]?):=fun j E fd=>s.block j E (fun e=>fd (ES (show N j=N g from e)));have hz6:=s.size;clear q;have q:=ae (B y (fun j E fd=>(KG j (by omega) fd).trans (M.block j E)));refine l _ _ (fun _=>q) ?_;clear l K
   (try simp only[Act.put,nzL])
   refine af (i:=24) rfl (by as_aux_lemma=>kernel_rfl) (fun K l=>?_);go_simp;refine l _ _ (fun _=>q) ?_;clear l K
   (try simp only[Act.put,nzL])
   have HO:=ae F;have k6:y.heap[X]?=v.heap[X]?:=(KG X (by omega) th).trans (M.block X l2);have x:=k6.trans G.bx;have z0:y.cell? (T X 0 Z)=N (Y (N (T g 0 Z)) D.length c):=by simp[World.cell?,x]
   have z1:y.frozen? (T X 0 Z)=QQ:=by simp[World.frozen?,x]
   have z2:=ai x;have GJ:X≠Q0:=fun e=>by obtain⟨cc,zz,hc⟩:=fO F Q0 rfl;rw[e,hc] at x;simp at x
   clear F;refine af (i:=25) rfl (by as_aux_lemma=>kernel_rfl) (fun K l=>?_);go_simp;refine l _ _ (fun h=>absurd rfl h) ?_;clear l K q
   (try simp only[Act.put,nzL])
   refine aN (by as_aux_lemma=>kernel_rfl) ?_ _;have keep:∀ j,j<v.heap.size->j≠g->j≠X->(y.setCell (T X 0 Z) (Y (N (T Q0 0 Z)) (D.length+1) c')).heap[j]?=v.heap[j]?:=fun j E h1 h2=>(qh y (T X 0 Z) _ j h2).trans ((KG j (by omega) h1).trans (M.block j E));have QW:r.2.1≠g:=fun e=>by obtain⟨c5,z5,h5⟩:=fO G.row.own g rfl;obtain⟨c6,W⟩:=QZ.out;rw[e,h5] at W;simp at W
   have bt:r.2.1≠X:=fun e=>by obtain⟨c6,W⟩:=QZ.out;rw[e,G.bx] at W;simp at W
   have C:=S.1;have ZA:=(G.row.own.lt g rfl).2
   have S9:=ae (G.more (r:=(yJ r.1.name ZB r.1.actN r.1.act (L:Int),Y (N (T r.2.1 0 Z)) r.1.actN r.2.2,Y (N (T v.heap.size 0 Z)) 1 1)) (a':=N (T Q0 0 Z)) (c':=c') (W':=y.setCell (T X 0 Z) (Y (N (T Q0 0 Z)) (D.length+1) c')) (by simp;omega) keep (bM x _)
    (ez HO fun m QY _=>qh y (T X 0 Z) _ m (fun e=>GJ (e.symm.trans (ES (show N m=N Q0 from QY.symm ▸ rfl)))))
    ⟨.inr ⟨r.2.1,r.2.2,rfl,S.block (by simp;omega) (keep _ C QW bt),QZ.block (keep _ C QW bt),GL⟩,ez OK fun m QY _=>by
     obtain rfl:v.heap.size=m:=ES QY
     exact(qh y (T X 0 Z) _ _ (by show v.heap.size≠X;omega)).trans (KG _ (by omega) (by omega))⟩
    (DD GT ur Fk GF)
    (((G.bl.trans (M.mono la)).trans (bg (eL w.heap.size WC) s (by omega) (fun k' e=>by have e2:=ES (show N g=N k' from e);omega))).setCell (p:=(T X 0 Z)) (by show w.heap.size<=X;omega) _))
   clear keep QW bt C ZA s GO HO OK OW NC KG BA M B S QZ x k6 z0 z1 z2;generalize y.setCell (T X 0 Z) (Y (N (T Q0 0 Z)) (D.length+1) c')=W9 at S9 ⊢;have hwk:IntKind.i64.wrap ((k:Int) - 1)=(k:Int) - 1:=by rw[j6];omega
   go_wp2;refine⟨⟨k,(k:Int) - 1,_,_,_,by go_num,rfl,by omega,?_,S9⟩,by simp[intOf]⟩;have:=HD.out;rw[a8,p9];omega
end Go.Proofs.YtamacmnikdejeaaGreatDoor.Vp
