import Derived.Test.YtamacmnikdejeaaGreatDoorRY
import Derived.Test.YtamacmnikdejeaaGreatDoorQI
set_option maxRecDepth 100000
set_option maxHeartbeats 8000000
open Go.Addr renaming mk->N
open Go.Value renaming slice->Y,string->U,int->J,bool->QC
open Option renaming none->Z,some->T
open Go.Obj renaming cells->Q
open Go.IntKind renaming i64->I
open Go renaming World->G,Value->QE
open Bool renaming false->QB,true->QD
namespace Go.Proofs.YtamacmnikdejeaaGreatDoor.Vp
open RowKit Ca
structure LSub (w:G)(base:Nat)(r:DR):Prop where
 act:r.1.actN=0/\(∃ c,r.2.1=Y Z 0 c)∨∃ g c,r.2.1=Y (T (N g 0 Z)) r.1.actN c/\RowIns w g 0 r.1.actN r.1.act/\TypeAt w g 146/\base<=g
 lnk:w.ownsRow base 129 4 r.2.2 r.1.linksN (bV r.1.links r.1.linksN)
structure LRw (w:G)(base:Nat)(v:QE)(R:List DR):Prop where
 own:w.ownsRow base 46 6 v R.length (R.flatMap ddV)
 sub:∀ r∈R,LSub w base r
theorem LSub.blk {w w':G}{b:Nat}{r:DR}(h:LSub w b r)(hz:w.heap.size<=w'.heap.size)(hb:∀ k,OfTy w k 146∨OfTy w k 129->b<=k->w'.heap[k]?=w.heap[k]?):LSub w' b r:=by
 refine⟨?_,dL h.lnk fun k n l=>hb k (.inr l) (h.lnk.lt k n).1⟩;rcases h.act with h1 | ⟨g,c,e,h2,i,f⟩
 ·exact .inl h1
 ·have j:w'.heap[g]?=w.heap[g]?:=hb g (.inl (by obtain⟨m,o⟩:=i;exact⟨m,_,o⟩)) f
  exact .inr ⟨g,c,e,h2.block hz j,i.block j,f⟩
theorem LRw.agr {w V:G}{b:Nat}{v:QE}{R:List DR}(h:LRw w b v R)(f:Agr b w V):LRw V b v R :=
 ⟨eG h.own f,fun r i=>(h.sub r i).blk f.1 fun k g hb=>f.2 k hb (by rcases g with ⟨c,z,e⟩ | ⟨c,z,e⟩<;>exact ai e)⟩
theorem LRw.deeds {w:G}{b c:Nat}{a:Option Addr}{R:List DR}(h:LRw w b (Y a R.length c) R):SlDeed w a R.length (dF (R.map (·.1))):=by
 by_cases hz:R.length=0
 ·exact .inl hz
 ·obtain⟨g,c',e⟩:=dr h.own (by omega)
  cases e
  refine .inr ⟨g,0,rfl,(cX h.own).2,fun i hi=>?_⟩;obtain⟨r,l,f⟩:=cU hi;rw[fJ l];have c:∀ j,j<6->∀ u,(ddV r)[j]?=T u->w.cell? (N g (0+i*6+j) Z)=T u:=fun j p u y=>by rw[show 0+i*6+j=i*6+j by omega];exact(ed h.own l j p y).1
  have n:DSub w b ({ r.1 with actN:=0 },Y Z 0 0,r.2.2):=⟨BG _ _ _ _,(h.sub r f).lnk⟩
  obtain⟨x,c5,s,t⟩:=n.links;obtain⟨o,c4,q,m⟩:∃ a cap,r.2.1=Y a r.1.actN cap/\SlIns w a r.1.actN r.1.act:=by
   rcases(h.sub r f).act with ⟨h1,c,e⟩ | ⟨g,c,e,h2,-,-⟩
   ·exact⟨Z,c,by rw[h1];exact e,.inl h1⟩
   ·exact⟨_,c,e,.inr ⟨g,0,rfl,h2⟩⟩
  exact⟨c 0 (by omega) _ rfl,c 1 (by omega) _ rfl,c 2 (by omega) _ rfl,c 3 (by omega) _ rfl,⟨o,c4,by rw[<-q];exact c 4 (by omega) _ rfl,m⟩,⟨x,c5,by rw[<-show r.2.2=_ from s];exact c 5 (by omega) _ rfl,t⟩⟩
theorem Er {w:G}{b n c:Nat}{a:Option Addr}{R:List DR}(h:LRw w b (Y a n c) R)(e:n=R.length)(j:∀ r∈R,FitD r.1)(hn:R.length<=50000):HAc b w a n c (dF (R.map (·.1))):=by subst e;refine⟨fun V l=>(h.agr l).deeds,jp h.own,hn,fun i hi=>?_⟩;obtain⟨r,g,f⟩:=cU hi;rw[fJ g];exact j r f
theorem TRow.blk {w w':G}{b:Nat}{v:QE}{R:List TR}(h:TRow w b v R)(hz:w.heap.size<=w'.heap.size)(hb:∀ k,TypeAt w k 125∨TypeAt w k 146->w'.heap[k]?=w.heap[k]?):TRow w' b v R:=by
 refine⟨?_,fun r n=>?_,h.up⟩
 ·refine⟨h.own.1,?_⟩
  rcases h.own.2 with h1 | ⟨g,cap,f,rfl,j,l,h2⟩
  ·exact .inl h1
  ·exact .inr ⟨g,cap,f,rfl,j,(hb g (.inl ⟨f,l⟩)).trans l,h2⟩
 ·obtain⟨h1,⟨F,h2⟩,i,m⟩:=h.act r n
  have e:=hb r.2.1 (.inr i);exact⟨h1.block hz e,⟨F,h2.block hz e⟩,i.block e,m⟩
structure LgS (w:G)(sb X:Nat)(W:G)(v0:QE)(a1:Option Addr)(c1:Nat)(RT:List TR)(a:Option Addr)(c:Nat)(D:List DR):Prop where
 rs:W.heap[w.heap.size]?=T (Q #[Y Z 0 0] 25 (0,0))
 sx:W.heap[sb]?=T (Q #[v0,Y a1 RT.length c1] 29 (0,0))
 bx:W.heap[X]?=T (Q #[Y a D.length c] 25 (0,0))
 tg:TRow W (w.heap.size+1) (Y a1 RT.length c1) RT
 row:LRw W (w.heap.size+1) (Y a D.length c) D
 fit:∀ r∈D,FitK 0 r.1
 lo:w.heap.size<X
 bl:Below w.heap.size w W
section
variable {w W W':G}{sb X c1 c c' g:Nat}{v0:QE}{a1:Option Addr}{a':Option Addr}{RT:List TR}{D:List DR}{r:DR}
theorem LgS.below {a:Option Addr}(h:LgS w sb X W v0 a1 c1 RT a c D)(hb:Below W.heap.size W W'):LgS w sb X W' v0 a1 c1 RT a c D :=
 ⟨(hb.block _ (ai h.rs)).trans h.rs,(hb.block _ (ai h.sx)).trans h.sx,(hb.block _ (ai h.bx)).trans h.bx,h.tg.below hb ly,h.row.agr (dh hb ly),h.fit,h.lo,h.bl.trans (hb.mono h.bl.size)⟩
theorem LgS.more (h:LgS w sb X W v0 a1 c1 RT (T (N g 0 Z)) c D)(hz:W.heap.size<=W'.heap.size)(keep:∀ k,k<W.heap.size->k≠g->k≠X->W'.heap[k]?=W.heap[k]?)(p:W'.heap[X]?=T (Q #[Y a' (D.length+1) c'] 25 (0,0)))
  (m:W'.ownsRow (w.heap.size+1) 46 6 (Y a' (D.length+1) c') (D.length+1) (D.flatMap ddV++ddV r)) (q:LSub W' (w.heap.size+1) r) (s:FitK 0 r.1) (hb:Below w.heap.size w W'):LgS w sb X W' v0 a1 c1 RT a' c' (D++[r]):=by
 have hlo:=h.lo;obtain⟨cs,z,t⟩:=fh h.row.own g rfl;have hgb:=(h.row.own.lt g rfl).1;have j:∀ (k:Nat) (i:Array QE) (e:TypeId) (l:Nat × Nat),W.heap[k]?=T (Obj.cells i e l)->e≠46->e≠25->W'.heap[k]?=W.heap[k]?:=fun k i e l b h1 h2=>by
  refine keep k (ai b) (fun n=>?_) (fun n=>?_)
  ·rw[n,t] at b
   simp at b;exact h1 b.2.1.symm
  ·rw[n,h.bx] at b
   simp at b;exact h2 b.2.1.symm
 have o:(D++[r]).length=D.length+1:=by simp
 refine⟨(keep _ (ai h.rs) (by omega) (by omega)).trans h.rs,(j _ _ _ _ h.sx (by decide) (by decide)).trans h.sx,by rw[o];exact p,h.tg.blk hz fun k b=>?_,⟨?_,fun x f=>?_⟩,fun x f=>?_,h.lo,hb⟩
 ·rcases b with ⟨i,b⟩ | ⟨i,b⟩
  ·exact j _ _ _ _ b (by decide) (by decide)
  ·exact j _ _ _ _ b (by decide) (by decide)
 ·rw[o,EQ]
  simpa using m
 ·rcases nL.1 f with f | f
  ·refine(h.row.sub x f).blk hz fun k b _=>?_
   rcases b with ⟨i,l,b⟩ | ⟨i,l,b⟩
   ·exact j _ _ _ _ b (by decide) (by decide)
   ·exact j _ _ _ _ b (by decide) (by decide)
  ·rw[hU.1 f];exact q
 ·rcases nL.1 f with f | f
  ·exact h.fit x f
  ·rw[hU.1 f];exact s
end
def xG (b f:ByteArray)(an:Nat)(act:Nat->Ins)(z:Int):ah:=⟨b,3,0,⟨#[103,114,111,117,110,100]⟩,an,act,1,fun _=>⟨f,QD,QB,z⟩⟩
theorem zi (w:G)(b:Nat)(hb:b<=w.heap.size)(g f:ByteArray)(an:Nat)(act:Nat->Ins)(z:Int):(w.alloc (Q #[U f,QC QD,QC QB,J I z] 129)).ownsRow b 129 4 (Y (T (N w.heap.size 0 Z)) 1 1) 1 (bV (xG g f an act z).links 1) :=
 ⟨rfl,.inr ⟨w.heap.size,1,_,rfl,hb,eT w _,j6 _,by unfold maxLen;omega,rfl,rfl⟩⟩
theorem Bm {b f:ByteArray}{an:Nat}{act:Nat->Ins}{z:Int}(h1:b.size<=5000)(h2:f.size<=5000)(h:an<=200)(g:∀ j,j<an->(act j).s.size<=5000):FitK 0 (xG b f an act z) :=
 ⟨h1,by show(⟨#[103,114,111,117,110,100]⟩:ByteArray).size<=2000;decide,h,g,by show 1<=200;omega,fun _ _=>h2⟩
theorem py:Ce:=by
 intro n w hn;obtain⟨CD,hi,Fk,Fd,Fl⟩:=IL gA;have Fj:(w.alloc (Q #[Y Z 0 0] 25)).heap.size=w.heap.size+1:=by simp
 have A0:=ae ((q9 w).alloc ly (Q #[Y Z 0 0] 25));have K0:Hid ((w.alloc (Q #[Y Z 0 0] 25)).heap[w.heap.size]?=T (Q #[Y Z 0 0] 25 (0,0))):=eT w _;have hw1:IntKind.i64.wrap ((n:Int) - 1)=(n:Int) - 1:=by rw[kP];omega
 go_enter Tryz.func80,Tryz.ntmps80;go_wp2_with fail;generalize w.alloc (Q #[Y Z 0 0] 25)=W0 at A0 K0 Fj ⊢;refine(nA n (by omega) ⟨#[97]⟩ (by decide) W0).mono ?_;rintro e b ⟨b0,n0,c0,f0,a1,c1,RT,rfl,ld,-,-,hT,hG,hN,hB⟩;have HG:=ae hG;have E9:=ae (fun r t=>(hN r t).1);have Fg:=ae (fun r t=>(hN r t).2);have Fi:=ae ld;have hs1:=hB.size;have S:(b.alloc (Q #[Y b0 n0 c0,Y a1 RT.length c1] 29)).heap.size=b.heap.size+1:=by simp
 have QM:((b.alloc (Q #[Y b0 n0 c0,Y a1 RT.length c1] 29)).alloc (Q #[U ⟨#[97]⟩,J I 1,J I 0,U ⟨#[103,114,111,117,110,100]⟩,Y Z 0 0,Y Z 0 0] 46)).heap.size=b.heap.size+2:=by simp
 have AB:=((q9 b).alloc ly (Q #[Y b0 n0 c0,Y a1 RT.length c1] 29)).alloc (by simp) (Q #[U ⟨#[97]⟩,J I 1,J I 0,U ⟨#[103,114,111,117,110,100]⟩,Y Z 0 0,Y Z 0 0] 46);have AC:=AB.alloc (by simp<;>omega) (Q #[Y (T (N (b.heap.size+1) 0 Z)) 1 1] 25);have kS:=eT b (Q #[Y b0 n0 c0,Y a1 RT.length c1] 29);have kD:=eT (b.alloc (Q #[Y b0 n0 c0,Y a1 RT.length c1] 29)) (Q #[U ⟨#[97]⟩,J I 1,J I 0,U ⟨#[103,114,111,117,110,100]⟩,Y Z 0 0,Y Z 0 0] 46);rw[S] at kD;have kX:=eT ((b.alloc (Q #[Y b0 n0 c0,Y a1 RT.length c1] 29)).alloc (Q #[U ⟨#[97]⟩,J I 1,J I 0,U ⟨#[103,114,111,117,110,100]⟩,Y Z 0 0,Y Z 0 0] 46)) (Q #[Y (T (N (b.heap.size+1) 0 Z)) 1 1] 25);rw[QM] at kX;have B1:=(a8 (b.heap.size+1) (b.alloc (Q #[Y b0 n0 c0,Y a1 RT.length c1] 29))).alloc (by rw[S];exact j6 _) (Q #[U ⟨#[97]⟩,J I 1,J I 0,U ⟨#[103,114,111,117,110,100]⟩,Y Z 0 0,Y Z 0 0] 46);have B2:=(a8 (b.heap.size+2) ((b.alloc (Q #[Y b0 n0 c0,Y a1 RT.length c1] 29)).alloc (Q #[U ⟨#[97]⟩,J I 1,J I 0,U ⟨#[103,114,111,117,110,100]⟩,Y Z 0 0,Y Z 0 0] 46))).alloc (by rw[QM];exact j6 _) (Q #[Y (T (N (b.heap.size+1) 0 Z)) 1 1] 25);have S1:Hid (LgS w b.heap.size (b.heap.size+2) (((b.alloc (Q #[Y b0 n0 c0,Y a1 RT.length c1] 29)).alloc (Q #[U ⟨#[97]⟩,J I 1,J I 0,U ⟨#[103,114,111,117,110,100]⟩,Y Z 0 0,Y Z 0 0] 46)).alloc (Q #[Y (T (N (b.heap.size+1) 0 Z)) 1 1] 25)) (Y b0 n0 c0) a1 c1 RT (T (N (b.heap.size+1) 0 Z)) 1 [lE ⟨#[97]⟩ ⟨#[103,114,111,117,110,100]⟩ 1]):=by
  have Fb:=(B2.block (b.heap.size+1) (by omega)).trans kD;refine⟨(AC.block w.heap.size (by omega)).trans ((hB.block w.heap.size (by omega)).trans K0),(B2.block b.heap.size (by omega)).trans ((B1.block b.heap.size (by omega)).trans kS),kX,(hT.mono (by omega)).below AC ly,⟨⟨rfl,.inr ⟨b.heap.size+1,1,_,rfl,by omega,Fb,j6 _,by unfold maxLen;omega,rfl,rfl⟩⟩,fun r t=>?_⟩,fun r t=>?_,by omega,(A0.trans (hB.mono (by omega))).trans (AC.mono (by omega))⟩
  ·rw[hU.1 t]
   exact⟨.inl ⟨rfl,0,rfl⟩,BG _ _ _ _⟩
  ·rw[hU.1 t]
   exact tR 1 (by decide) (by decide)
 clear AB AC kS kD kX B1 B2 S QM hT hG hN hB A0 K0 ld;go_wp2_with fail;generalize ((b.alloc (Q #[Y b0 n0 c0,Y a1 RT.length c1] 29)).alloc (Q #[U ⟨#[97]⟩,J I 1,J I 0,U ⟨#[103,114,111,117,110,100]⟩,Y Z 0 0,Y Z 0 0] 46)).alloc (Q #[Y (T (N (b.heap.size+1) 0 Z)) 1 1] 25)=W1 at S1 ⊢;generalize b.heap.size+2=X at S1 ⊢;generalize b.heap.size=sb at S1 ⊢;go_loopw [5] (fun i wr=>∃ (m:Nat) (z:Int) (a:Option Addr) (c:Nat) (D:List DR),i=J I z/\z=(m:Int) - 1/\m<=n/\D.length+m=n+1/\Hid (LgS w sb X wr (Y b0 n0 c0) a1 c1 RT a c D)) (fun i _=>(intOf i+1).toNat);case atStart=>exact⟨n,_,_,_,_,rfl,rfl,j6 _,by simp;omega,S1⟩
 case round =>
  clear S1;obtain⟨m,z,a,c,D,rfl,hz,QK,hD,f⟩:=hrel;have QH:=ae hD;clear hD;by_cases h0:m=0
  ·subst h0
   obtain rfl:z=-1:=by omega
   have Fa:D.length<=50000:=by have:=QH.out;omega
   have HE:=ae ((Er (f.row.agr (qb (j:=0) (eL w.heap.size) (Y a D.length c))) rfl (fun r t=>(f.fit r t).d (by omega)) Fa).mono (CV w.heap.size));have Fc:D.length<=450:=by have:=QH.out;omega
   have FE:=ae (fun(i:Nat) (hi:i<D.length)=>show FitK 0 (dF (D.map (·.1)) i) by
    obtain⟨r,t,QK⟩:=cU hi;rw[fJ t]
    exact f.fit r QK)
   have BE:=ae (f.bl.setCell (p:=(N w.heap.size 0 Z)) ly (Y a D.length c));have kr:=f.rs;have A:=f.bx;have r0:wr.cell? (N w.heap.size 0 Z)=T (Y Z 0 0):=by simp[World.cell?,kr]
   have q0:wr.frozen? (N w.heap.size 0 Z)=QB:=by simp[World.frozen?,kr]
   have x0:wr.cell? (N X 0 Z)=T (Y a D.length c):=by simp[World.cell?,A]
   have l0:=ai kr;have l1:=ai A;clear kr A hz;go_wp2;exact bp (v:=.agg #[Y a D.length c]) (by simp[results,Tryz.results80,go_sem,r0]) rfl ⟨_,_,_,_,rfl,HE,BE,Fc,FE⟩
  ·obtain⟨k,rfl⟩:∃ k,m=k+1:=⟨m - 1,by omega⟩
   obtain rfl:z=(k:Int):=by omega
   clear hz h0;have DQ:k<RT.length:=by have:=Fi.out;omega
   have ur:0<D.length:=by have:=QH.out;omega
   have hDn:D.length<=100:=by have:=QH.out;omega
   obtain⟨g,c',e⟩:=dr f.row.own ur;obtain⟨rfl,-,-⟩:=KI e;clear e c';obtain⟨L,hL⟩:∃ L,D.length=L+1:=⟨D.length - 1,by omega⟩
   obtain⟨rl,B,mv⟩:=cU (R:=D) (i:=L) (by omega);have e0:=(ed f.row.own B 0 (by omega) (u:=U rl.1.name) rfl).1;rw[I9] at e0;have n6:=(f.fit rl mv).nm;have hwL:IntKind.i64.wrap ((D.length:Int) - 1)=(L:Int):=by rw[kP];omega
   have hLl:(L:Int)<(D.length:Int):=by omega
   obtain⟨o,r,ex,QO,M,t0,t1,-⟩:=f.tg.atk DQ;obtain⟨ph,-,QJ,DS⟩:=f.tg.act r M;have n8:=ae ph;have n7:=ae QJ;obtain⟨-,sm⟩:=HG.out r M;have Fo:r.1.actN<=200:=by have:=Fg.out r M;omega
   have At:=ae sm;have Fm:=E9.out r M;have A:=f.bx;have W:=f.sx;rw[ex] at W;have x0:wr.cell? (N X 0 Z)=T (Y (T (N g 0 Z)) D.length c):=by simp[World.cell?,A]
   have y0:wr.frozen? (N X 0 Z)=QB:=by simp[World.frozen?,A]
   have x1:wr.cell? (N sb 1 Z)=T (Y (T (N o 0 Z)) RT.length c1):=by simp[World.cell?,W]
   have l0:=ai A;have l1:=ai W;obtain⟨cg,zg,kg⟩:=fh f.row.own g rfl;have lg:=ai kg;have la:X≠g:=fun e=>by rw[e,kg] at A;simp at A
   have Fh:sb≠g:=fun e=>by rw[e,kg] at W;simp at W
   have ro:o≠g:=fun e=>by obtain⟨cur,hc⟩:=f.tg.type o (by rw[ex];rfl);rw[e,kg] at hc;simp at hc
   have hgb:=(f.row.own.lt g rfl).1;have hlo:=f.lo;have qr:=f.bl.size;clear A W ph QJ sm B mv M ex kg;have SQ:Hid (∀ V:G,(∀ j,j<wr.heap.size->j≠g->V.heap[j]?=wr.heap[j]?)->V.cell? (N X 0 Z)=T (Y (T (N g 0 Z)) D.length c)/\V.cell? (N sb 1 Z)=T (Y (T (N o 0 Z)) RT.length c1)/\V.cell? (N o (k*2) Z)=T (U r.1.name)/\V.cell? (N o (k*2+1) Z)=T (Y (T (N r.2.1 0 Z)) r.1.actN r.2.2)):=fun V hV=>⟨(cq (a:=(N X 0 Z)) (hV X l0 la)).trans x0,(cq (a:=(N sb 1 Z)) (hV sb l1 Fh)).trans x1,(cq (a:=(N o (k*2) Z)) (hV o QO ro)).trans t0,(cq (a:=(N o (k*2+1) Z)) (hV o QO ro)).trans t1⟩
   have HL:=ae hL;clear hL;generalize rl.1.name=QR at e0 n6;go_upto_region 7 with fail;have hk2:(k:Int)<(RT.length:Int):=by omega
   go_wp2_with fail;refine aD (fun V=>V.cell? (N X 0 Z)=T (Y (T (N g 0 Z)) D.length c)/\V.cell? (N sb 1 Z)=T (Y (T (N o 0 Z)) RT.length c1)/\V.cell? (N o (k*2) Z)=T (U r.1.name)/\V.cell? (N o (k*2+1) Z)=T (Y (T (N r.2.1 0 Z)) r.1.actN r.2.2)) 25 (by as_aux_lemma=>kernel_rfl) ?_;have QP:=ae (f.below br.drew);have C:Hid (∀ V:G,(∀ j,j<wr.drew.heap.size->j≠g->V.heap[j]?=wr.drew.heap[j]?)->V.cell? (N X 0 Z)=T (Y (T (N g 0 Z)) D.length c)/\V.cell? (N sb 1 Z)=T (Y (T (N o 0 Z)) RT.length c1)/\V.cell? (N o (k*2) Z)=T (U r.1.name)/\V.cell? (N o (k*2+1) Z)=T (Y (T (N r.2.1 0 Z)) r.1.actN r.2.2)):=SQ;have QL:Hid (RowIns wr.drew r.2.1 0 r.1.actN r.1.act):=n8.below br.drew ly;have O:Hid (TypeAt wr.drew r.2.1 146):=n7;have l2:X<wr.drew.heap.size:=l0;have n9:w.heap.size<=wr.drew.heap.size:=qr;clear f SQ n8 n7 l0 l1 lg QO x0 x1 y0 t0 t1 e0 qr;generalize wr.drew=v at QP C QL O l2 n9 ⊢;have q:=ae (C v (fun j _ _=>rfl))
   iterate 20
    refine aL 0 (v:=?_) rfl rfl (by as_aux_lemma=>kernel_rfl) (fun _ _ _ h=>h) rfl ?_ q ?_;rotate_left
    ·(intro wz Bk;obtain⟨s0,s1,s2,s3⟩:=Bk;go_simp)
     (try with_reducible rfl)
    (try simp only[Act.put,nzL])
   have BA:=ae ((q9 v).alloc ly (Q #[U QR,QC QD,QC QB,J I L] 129));have hx1:=QP.lo;have Ff:(v.alloc (Q #[U QR,QC QD,QC QB,J I L] 129)).heap.size=v.heap.size+1:=by simp
   have OL:=ae (zi v (w.heap.size+1) (by omega) r.1.name QR r.1.actN r.1.act (L:Int));refine af (i:=20) rfl (by as_aux_lemma=>kernel_rfl) (fun K l=>?_);go_simp;clear q;have q:=ae (C _ (fun j H _=>BA.block j H));refine l _ _ (fun _=>q) ?_;clear l K
   (try simp only[Act.put,nzL])
   refine af (i:=21) rfl (by as_aux_lemma=>kernel_rfl) (fun K l=>?_);go_simp;refine l _ _ (fun _=>q) ?_;clear l K
   (try simp only[Act.put,nzL])
   have Fn:=BA.size;have QN:=ae (BA.alloc Fn (Q #[U r.1.name,J I 3,J I 0,U ⟨#[103,114,111,117,110,100]⟩,Y (T (N r.2.1 0 Z)) r.1.actN r.2.2,Y (T (N v.heap.size 0 Z)) 1 1] 46));refine af (i:=22) rfl (by as_aux_lemma=>kernel_rfl) (fun K l=>?_);go_simp;clear q;have q:=ae (C _ (fun j H _=>QN.block j H));refine l _ _ (fun _=>q) ?_;clear l K
   (try simp only[Act.put,nzL])
   have OW:=ae (own_below QP.row.own QN ly);have Fe:((v.alloc (Q #[U QR,QC QD,QC QB,J I L] 129)).alloc (Q #[U r.1.name,J I 3,J I 0,U ⟨#[103,114,111,117,110,100]⟩,Y (T (N r.2.1 0 Z)) r.1.actN r.2.2,Y (T (N v.heap.size 0 Z)) 1 1] 46)).heap.size=v.heap.size+2:=by simp
   have NC:Hid (∀ j u,[Value.string r.1.name,J I 3,J I 0,U ⟨#[103,114,111,117,110,100]⟩,Y (T (N r.2.1 0 Z)) r.1.actN r.2.2,Y (T (N v.heap.size 0 Z)) 1 1][j]?=T u->((v.alloc (Q #[U QR,QC QD,QC QB,J I L] 129)).alloc (Q #[U r.1.name,J I 3,J I 0,U ⟨#[103,114,111,117,110,100]⟩,Y (T (N r.2.1 0 Z)) r.1.actN r.2.2,Y (T (N v.heap.size 0 Z)) 1 1] 46)).cell? (((N (v.heap.size+1) 0 Z):Addr).add j)=T u):=by have h:=ee (v.alloc (Q #[U QR,QC QD,QC QB,J I L] 129)) #[U r.1.name,J I 3,J I 0,U ⟨#[103,114,111,117,110,100]⟩,Y (T (N r.2.1 0 Z)) r.1.actN r.2.2,Y (T (N v.heap.size 0 Z)) 1 1] 46;rw[Ff] at h;exact h
   have OK:=ae (own_below OL ((a8 _ (v.alloc (Q #[U QR,QC QD,QC QB,J I L] 129))).alloc ly (Q #[U r.1.name,J I 3,J I 0,U ⟨#[103,114,111,117,110,100]⟩,Y (T (N r.2.1 0 Z)) r.1.actN r.2.2,Y (T (N v.heap.size 0 Z)) 1 1] 46)) ly);clear OL;generalize (v.alloc (Q #[U QR,QC QD,QC QB,J I L] 129)).alloc (Q #[U r.1.name,J I 3,J I 0,U ⟨#[103,114,111,117,110,100]⟩,Y (T (N r.2.1 0 Z)) r.1.actN r.2.2,Y (T (N v.heap.size 0 Z)) 1 1] 46)=WC at QN OW Fe NC OK q ⊢;refine af (i:=23) rfl (by as_aux_lemma=>kernel_rfl) (fun K l=>?_);refine bA rfl (.tmp 28) (.tmp 49) 23 rfl (w.heap.size+1) 46 CD (.agg #[U ⟨#[]⟩,J I 0,J I 0,U ⟨#[]⟩,Y Z 0 0,Y Z 0 0]) 6 96 Tryz.underlying23 hi Fk Fd Fl rfl (by decide) (Y (T (N g 0 Z)) D.length c) D.length (D.flatMap ddV) (by simp[Act.eval]) OW.out (N (v.heap.size+1) 0 Z) 1 1 [U r.1.name,J I 3,J I 0,U ⟨#[103,114,111,117,110,100]⟩,Y (T (N r.2.1 0 Z)) r.1.actN r.2.2,Y (T (N v.heap.size 0 Z)) 1 1] (by simp[Act.eval]) rfl NC.out (by simp[Value.oneCell']) (by unfold maxLen;omega) (by omega) (by omega) ?_;intro v' x E s DE;obtain⟨P,c',rfl⟩:=dr E (by omega);have KG:Hid (∀ j,j<WC.heap.size->j≠g->x.heap[j]?=WC.heap[j]?):=fun j H fd=>s.block j H (fun e=>fd (DC (show T j=T g from e)));have hz6:=s.size;clear q;have q:=ae (C x (fun j H fd=>(KG j (by omega) fd).trans (QN.block j H)));refine l _ _ (fun _=>q) ?_;clear l K
   (try simp only[Act.put,nzL])
   refine af (i:=24) rfl (by as_aux_lemma=>kernel_rfl) (fun K l=>?_);go_simp;refine l _ _ (fun _=>q) ?_;clear l K
   (try simp only[Act.put,nzL])
   have HO:=ae E;have k6:x.heap[X]?=v.heap[X]?:=(KG X (by omega) la).trans (QN.block X l2);have y:=k6.trans QP.bx;have z0:x.cell? (N X 0 Z)=T (Y (T (N g 0 Z)) D.length c):=by simp[World.cell?,y]
   have z1:x.frozen? (N X 0 Z)=QB:=by simp[World.frozen?,y]
   have z2:=ai y;have th:X≠P:=fun e=>by obtain⟨cc,zz,hc⟩:=fh E P rfl;rw[e,hc] at y;simp at y
   clear E;refine af (i:=25) rfl (by as_aux_lemma=>kernel_rfl) (fun K l=>?_);go_simp;refine l _ _ (fun h=>absurd rfl h) ?_;clear l K q
   (try simp only[Act.put,nzL])
   refine aM (by as_aux_lemma=>kernel_rfl) ?_ _;have keep:∀ j,j<v.heap.size->j≠g->j≠X->(x.setCell (N X 0 Z) (Y (T (N P 0 Z)) (D.length+1) c')).heap[j]?=v.heap[j]?:=fun j H h1 h2=>(qh x (N X 0 Z) _ j h2).trans ((KG j (by omega) h1).trans (QN.block j H));have bt:r.2.1≠g:=fun e=>by obtain⟨c5,z5,h5⟩:=fh QP.row.own g rfl;obtain⟨c6,h6⟩:=O.out;rw[e,h5] at h6;simp at h6
   have aq:r.2.1≠X:=fun e=>by obtain⟨c6,h6⟩:=O.out;rw[e,QP.bx] at h6;simp at h6
   have B:=QL.1;have QO:=(QP.row.own.lt g rfl).2
   have S9:=ae (QP.more (r:=(xG r.1.name QR r.1.actN r.1.act (L:Int),Y (T (N r.2.1 0 Z)) r.1.actN r.2.2,Y (T (N v.heap.size 0 Z)) 1 1)) (a':=T (N P 0 Z)) (c':=c') (W':=x.setCell (N X 0 Z) (Y (T (N P 0 Z)) (D.length+1) c')) (by simp;omega) keep (bI y _)
    (dL HO fun m QK _=>qh x (N X 0 Z) _ m (fun e=>th (e.symm.trans (DC (show T m=T P from QK.symm ▸ rfl)))))
    ⟨.inr ⟨r.2.1,r.2.2,rfl,QL.block (by simp;omega) (keep _ B bt aq),O.block (keep _ B bt aq),DS⟩,dL OK fun m QK _=>by
     obtain rfl:v.heap.size=m:=DC QK
     exact(qh x (N X 0 Z) _ _ (by show v.heap.size≠X;omega)).trans (KG _ (by omega) (by omega))⟩
    (Bm Fm n6 Fo At)
    (((QP.bl.trans (QN.mono n9)).trans (bg (a8 w.heap.size WC) s (by omega) (fun k' e=>by have e2:=DC (show T g=T k' from e);omega))).setCell (p:=(N X 0 Z)) (by show w.heap.size<=X;omega) _))
   clear keep bt aq B QO s DE HO OK OW NC KG BA QN C QL O y k6 z0 z1 z2;generalize x.setCell (N X 0 Z) (Y (T (N P 0 Z)) (D.length+1) c')=W9 at S9 ⊢;have hwk:IntKind.i64.wrap ((k:Int) - 1)=(k:Int) - 1:=by rw[kP];omega
   go_wp2;refine⟨⟨k,(k:Int) - 1,_,_,_,by go_num,rfl,by omega,?_,S9⟩,by simp[intOf]⟩;have:=QH.out;rw[eI,AS];omega
end Go.Proofs.YtamacmnikdejeaaGreatDoor.Vp
