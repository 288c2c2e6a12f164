import Derived.Test.YtamacmnikdejeaaGreatDoorMV
import Derived.Test.YtamacmnikdejeaaGreatDoorLJ
set_option maxRecDepth 100000
set_option maxHeartbeats 8000000
set_option linter.unusedSimpArgs false
open Go renaming Addr.mk->Q,Value.slice->Y,Value.string->U,Value.int->J,Value.agg->ZG,Obj.cells->N,IntKind.i64->I,World->E,Value->ZB,TypeId->ZH,Ending.returned->ZF,World.heap->A,World.alloc->B,Proofs.Tryz.prog->Pg
open Option renaming none->Z,some->T
open Bool renaming false->ZA,true->ZD
open Array renaming size->z
namespace Go.Proofs.YtamacmnikdejeaaGreatDoor.Vp
open Tryz RowKit
variable {w:E}{b n h size g ZT off n0 n1:Nat}{t:ByteArray}{e:ZH}{f l i j:ZB}{a:Option Addr}
def keepS (f:Nat->Source)(t:ByteArray)(k:Nat):List Source:=((List.range k).map f).filter λx=>!(x.e.toList == t.toList)
def keepT (f:Nat->Target)(t:ByteArray)(k:Nat):List Target:=((List.range k).map f).filter λx=>!(x.e.toList == t.toList)
theorem xV{f:Nat->Source}{k:Nat}(h:((f k).e.toList == t.toList)=ZD):keepS f t (k+1)=keepS f t k:=by simp only[keepS,MB,KI,Q3];simp[h]
theorem xW{f:Nat->Source}{k:Nat}(h:((f k).e.toList == t.toList)=ZA):keepS f t (k+1)=keepS f t k++[f k]:=by simp only[keepS,MB,KI,Q3];simp[h]
theorem xX{f:Nat->Target}{k:Nat}(h:((f k).e.toList == t.toList)=ZD):keepT f t (k+1)=keepT f t k:=by simp only[keepT,MB,KI,Q3];simp[h]
theorem xY{f:Nat->Target}{k:Nat}(h:((f k).e.toList == t.toList)=ZA):keepT f t (k+1)=keepT f t k++[f k]:=by simp only[keepT,MB,KI,Q3];simp[h]
theorem ip (f:Nat->Source)(t:ByteArray)(k:Nat):(keepS f t k).length<=k:=by have:=TA (λx:Source=>!(x.e.toList == t.toList)) ((List.range k).map f);simpa[keepS] using this
theorem jA (f:Nat->Target)(t:ByteArray)(k:Nat):(keepT f t k).length<=k:=by have:=TA (λx:Target=>!(x.e.toList == t.toList)) ((List.range k).map f);simpa[keepT] using this
theorem d9{v:ZB}{f:List ZB}(h:w.ownsRow b e size v n f)(hn:0<n):∃g cap,v=Y (T (Q g 0 Z)) n cap:=by
 rcases h.2 with ⟨_,h0⟩|⟨g,cap,cur,rfl,_⟩
 {omega};{exact⟨g,cap,rfl⟩}
theorem aQ{v:ZB}{f:List ZB}(h:w.ownsRow b e size v n f):∃a cap,v=Y a n cap:=by
 rcases h.2 with ⟨rfl,rfl⟩|⟨g,cap,cur,rfl,_⟩
 {exact⟨_,_,rfl⟩};{exact⟨_,_,rfl⟩}
theorem cT (w:E)(x y:ZB)(t:ZH):∀j u,[x,y][j]?=T u->(B w (N #[x,y] t)).cell? (((Q (z (A w)) 0 Z):Addr).add j)=T u:=by
 intro j u b;rw[addr_add,IT];match j,b with
 |0,b=>simp at b;subst b;simp
 |1,b=>simp at b;subst b;simp
abbrev TR:=Target × Nat × Nat
def aZ (r:TR):List ZB:=[U r.1.e,Y (T (Q r.2.1 0 Z)) r.1.h r.2.2]
structure TRow (w:E)(base:Nat)(v:ZB)(R:List TR):Prop where
 y:w.ownsRow base 125 2 v R.length (R.flatMap aZ)
 u:∀r∈R,RowIns w r.2.1 0 r.1.h r.1.u/\(∃F,Cells w r.2.1 0 (r.1.h*3) F)/\TypeAt w r.2.1 146/\base<=r.2.1
 up:R.Pairwise λa b=>a.2.1≠b.2.1
theorem TypeAt.block{b:E}(h:TypeAt w g e)(hb:b.heap[g]?=w.heap[g]?):TypeAt b g e:=by obtain⟨c,f⟩:=h;exact⟨c,hb.trans f⟩
theorem RowIns.block{b:E}{f:Nat->Ins}(h:RowIns w g off n f)(hz:z (A w)<=z (A b))(hb:b.heap[g]?=w.heap[g]?):RowIns b g off n f:=by refine⟨lj h.1 hz,λi hi=>?_⟩;obtain⟨j,h1,h2⟩:=h.2 i hi;exact⟨(cq (a:=(Q g _ Z)) hb).trans j,(cq (a:=(Q g _ Z)) hb).trans h1,(cq (a:=(Q g _ Z)) hb).trans h2⟩
theorem Cells.block{f:E}{m:Nat}{F:Nat->ZB}(h:Cells w b off m F)(hz:z (A w)<=z (A f))(e:f.heap[b]?=w.heap[b]?):Cells f b off m F :=
 ⟨lj h.1 hz,λj g=>⟨(cq (a:=(Q b (off+j) Z)) e).trans (h.2 j g).1,(KM (a:=(Q b (off+j) Z)) e).trans (h.2 j g).2⟩⟩
theorem TRow.aa{g:E}{v:ZB}{R:List TR}(h:TRow w b v R)(hb:Below ZT w g)(f:z (A w)<=ZT):TRow g b v R:=by refine⟨own_below h.y hb f,λr i=>?_,h.up⟩;obtain⟨h1,⟨F,h2⟩,j,l⟩:=h.u r i;have e:=hb.block r.2.1 (lj h1.1 f);exact⟨h1.block hb.size e,⟨F,h2.block hb.size e⟩,j.block e,l⟩
theorem TRow.set{X j:Nat}{v:ZB}{R:List TR}(h:TRow w b v R)(hX:X<b)(u:ZB):TRow (w.setCell (Q X j Z) u) b v R:=by refine⟨aE h.y hX u,λr f=>?_,h.up⟩;obtain⟨h1,⟨F,h2⟩,g,i⟩:=h.u r f;have e:(w.setCell (Q X j Z) u).heap[r.2.1]?=w.heap[r.2.1]?:=qh _ _ _ _ (by simp;omega);exact⟨h1.block (by simp) e,⟨F,h2.block (by simp) e⟩,g.block e,i⟩
theorem da (w:E)(b:Nat):TRow w b (Y Z 0 0) []:=⟨CL _ _ _ _,λr f=>absurd f (by simp),List.Pairwise.nil⟩
theorem TRow.type{v:ZB}{R:List TR}(h:TRow w b v R):∀k,v.ownBlock=T k->TypeAt w k 125:=by
 intro k f;rcases h.y.2 with ⟨rfl,_⟩|⟨g,cap,i,rfl,_,j,_⟩
 {simp[Value.ownBlock] at f};{simp[Value.ownBlock] at f;subst f;exact⟨i,j⟩}
theorem TRow.more{n q:E}{f c:Nat}{v y:ZB}{R:List TR}{x:Target}(h:TRow w f v R)(hb:Below (z (A w)) w n)(hg:z (A w)<=g)(m:f<=g)
  (t:n.ownsRow f 146 3 (Y (T (Q g 0 Z)) x.h c) x.h (bV x.u x.h)) (s:q.ownsRow f 125 2 y (R.length+1) (R.flatMap aZ++aZ (x,g,c))) (i:n.grownBy q v.ownBlock):TRow q f y (R++[(x,g,c)]):=by
 have p:∀k,TypeAt n k 146->T k≠v.ownBlock:=λk ZR e=>by have C:=(h.aa hb ly).type k e.symm;exact eE ZR C (by decide) rfl
 have u:∀r∈R,r.2.1<z (A w):=λr j=>(h.u r j).1.1;refine⟨by simpa using s,λr j=>?_,?_⟩;{rcases wC.1 j with j|j;{obtain⟨h1,⟨F,h2⟩,l,ZT⟩:=(h.aa hb ly).u r j;have e:=i.block r.2.1 h1.1 (p _ l);exact⟨h1.block i.size e,⟨F,h2.block i.size e⟩,l.block e,ZT⟩};{simp at j;subst j;obtain⟨h1,F,h2⟩:=j8 t;have l:=jf t;have e:=i.block g h1.1 (p _ l);exact⟨h1.block i.size e,⟨F,h2.block i.size e⟩,l.block e,m⟩}};{rw[MN];refine⟨h.up,by simp,λa ZS b o=>?_⟩;simp at o;subst o;have:=u a ZS;show a.2.1≠g;omega}
theorem zH{b0 r s0 s1:Nat}{h l:ZH}{q p:List ZB}(s:w.ownsRow b0 h s0 f n0 q)(h1:w.ownsRow r l s1 i n1 p)(j:h≠l):f.ownBlock=Z∨f.ownBlock≠i.ownBlock:=by
 rcases s.2 with ⟨rfl,_⟩|⟨g,cap,n,rfl,_,o,_⟩
 {exact .inl rfl}
 ·right;rcases h1.2 with ⟨rfl,_⟩|⟨g',cap',b,rfl,_,m,_⟩
  {simp[Value.ownBlock]};{simp only[Value.ownBlock,ne_eq,KJ];exact eE ⟨n,o⟩ ⟨b,m⟩ j}
structure Boxes (w:E)(h:Nat)(p0 p1 v0 v1:ZB):Prop where
 lt:h+2<z (A w)
 a0:w.cell? (Q h 0 Z)=T p0
 a1:w.cell? (Q h 1 Z)=T p1
 r0:w.cell? (Q (h+1) 0 Z)=T (Y Z 0 0)/\w.frozen? (Q (h+1) 0 Z)=ZA
 r1:w.cell? (Q (h+1) 1 Z)=T (Y Z 0 0)/\w.frozen? (Q (h+1) 1 Z)=ZA
 o0:w.cell? (Q (h+1+1) 0 Z)=T v0/\w.frozen? (Q (h+1+1) 0 Z)=ZA
 o1:w.cell? (Q (h+1+1) 1 Z)=T v1/\w.frozen? (Q (h+1+1) 1 Z)=ZA
theorem Boxes.aa{g:E}{n m:ZB}(b:Boxes w h j n l m)(hb:Below ZT w g)(hB:h+3<=ZT):Boxes g h j n l m:=by have c:∀k o,k<ZT->g.cell? (Q k o Z)=w.cell? (Q k o Z):=λk o i=>hb.cell (p:=(Q k o Z)) i;have f:∀k o,k<ZT->g.frozen? (Q k o Z)=w.frozen? (Q k o Z):=λk o i=>hb.frozen (p:=(Q k o Z)) i;exact⟨lj b.lt hb.size,(c _ _ (by omega)).trans b.a0,(c _ _ (by omega)).trans b.a1,⟨(c _ _ (by omega)).trans b.r0.1,(f _ _ (by omega)).trans b.r0.2⟩,⟨(c _ _ (by omega)).trans b.r1.1,(f _ _ (by omega)).trans b.r1.2⟩,⟨(c _ _ (by omega)).trans b.o0.1,(f _ _ (by omega)).trans b.o0.2⟩,⟨(c _ _ (by omega)).trans b.o1.1,(f _ _ (by omega)).trans b.o1.2⟩⟩
theorem Boxes.set0{g:ZB}(b:Boxes w h f i l g)(u:ZB):Boxes (w.setCell (Q (h+1+1) 0 Z) u) h f i u g:=by have e:∀k o,k≠h+1+1->(w.setCell (Q (h+1+1) 0 Z) u).cell? (Q k o Z)=w.cell? (Q k o Z):=λk o j=>cell_far _ _ _ _ (by simpa using λe=>j e.symm);exact⟨by simpa using b.lt,(e _ _ (by omega)).trans b.a0,(e _ _ (by omega)).trans b.a1,⟨(e _ _ (by omega)).trans b.r0.1,by simpa using b.r0.2⟩,⟨(e _ _ (by omega)).trans b.r1.1,by simpa using b.r1.2⟩,⟨BO _ _ _ (by rw[b.o0.1];rfl),by simpa using b.o0.2⟩,⟨(sq _ _ _ _ (by simp)).trans b.o1.1,by simpa using b.o1.2⟩⟩
theorem Boxes.set1{g:ZB}(b:Boxes w h f i g l)(u:ZB):Boxes (w.setCell (Q (h+1+1) 1 Z) u) h f i g u:=by have e:∀k o,k≠h+1+1->(w.setCell (Q (h+1+1) 1 Z) u).cell? (Q k o Z)=w.cell? (Q k o Z):=λk o j=>cell_far _ _ _ _ (by simpa using λe=>j e.symm);exact⟨by simpa using b.lt,(e _ _ (by omega)).trans b.a0,(e _ _ (by omega)).trans b.a1,⟨(e _ _ (by omega)).trans b.r0.1,by simpa using b.r0.2⟩,⟨(e _ _ (by omega)).trans b.r1.1,by simpa using b.r1.2⟩,⟨(sq _ _ _ _ (by simp)).trans b.o0.1,by simpa using b.o0.2⟩,⟨BO _ _ _ (by rw[b.o1.1];rfl),by simpa using b.o1.2⟩⟩
theorem zI (w:E)(b f:ZB)(t:ZH):Boxes (((B w (N #[b,f] t)).alloc (N #[Y Z 0 0,Y Z 0 0] t)).alloc (N #[Y Z 0 0,Y Z 0 0] t)) (z (A w)) b f (Y Z 0 0) (Y Z 0 0):=by
 have ZS:Below (z (A w)+1) (B w (N #[b,f] t)) (((B w (N #[b,f] t)).alloc (N #[Y Z 0 0,Y Z 0 0] t)).alloc (N #[Y Z 0 0,Y Z 0 0] t)):=(br.alloc (by simp) _).alloc (by simp) _;have C:Below (z (A w)+1+1) ((B w (N #[b,f] t)).alloc (N #[Y Z 0 0,Y Z 0 0] t)) (((B w (N #[b,f] t)).alloc (N #[Y Z 0 0,Y Z 0 0] t)).alloc (N #[Y Z 0 0,Y Z 0 0] t)):=br.alloc (by simp) _;have hz:(B w (N #[b,f] t)).heap.size=z (A w)+1:=by simp
 have g:((B w (N #[b,f] t)).alloc (N #[Y Z 0 0,Y Z 0 0] t)).heap.size=z (A w)+1+1:=by simp
 refine⟨by simp,?_,?_,⟨?_,?_⟩,⟨?_,?_⟩,⟨?_,?_⟩,⟨?_,?_⟩⟩;{exact(ZS.cell (p:=(Q (z (A w)) 0 Z)) (j4 _)).trans (by simp)};{exact(ZS.cell (p:=(Q (z (A w)) 1 Z)) (j4 _)).trans (by simp)};{refine(C.cell (p:=(Q (z (A w)+1) 0 Z)) (j4 _)).trans ?_;rw[<-hz];simp};{refine(C.frozen (p:=(Q (z (A w)+1) 0 Z)) (j4 _)).trans ?_;rw[<-hz];simp};{refine(C.cell (p:=(Q (z (A w)+1) 1 Z)) (j4 _)).trans ?_;rw[<-hz];simp};{refine(C.frozen (p:=(Q (z (A w)+1) 1 Z)) (j4 _)).trans ?_;rw[<-hz];simp};all_goals
  rw[<-g];clear ZS C hz g;generalize (B w (N #[b,f] t)).alloc (N #[Y Z 0 0,Y Z 0 0] t)=W;simp
def kU (n0:Nat)(f0:Nat->Source)(n1:Nat)(f1:Nat->Target)(t:ByteArray):Int :=
 if bq n0 f0 n1 f1≠0 then 1 else if aB t=ZA then 2 else if (aG (nm0 f0) n0 t || aG (nm1 f1) n1 t)=ZA then 4 else 0
def iI (n0:Nat)(f0:Nat->Source)(n1:Nat)(f1:Nat->Target)(t:ByteArray):List Source:=if kU n0 f0 n1 f1 t=0 then keepS f0 t n0 else []
def kV (n0:Nat)(f0:Nat->Source)(n1:Nat)(f1:Nat->Target)(t:ByteArray):List Target:=if kU n0 f0 n1 f1 t=0 then keepT f1 t n1 else []
theorem xZ{p:Nat->Bool}{i:Nat}(h:aM p n=ZA)(hi:i<n):p i=ZA:=by
 cases e:p i with
 |false=>rfl
 |true=>rw[cW hi e] at h;cases h
theorem kW{f0:Nat->Source}{f1:Nat->Target}(h:bq n0 f0 n1 f1=0):aL (nm0 f0) n0=ZD/\aL (nm1 f1) n1=ZD/\∀i,i<n1->1<=(f1 i).h:=by
 unfold bq at h;split at h;· omega
 split at h;· omega
 split at h;· omega
 split at h;· omega
 split at h;· omega
 split at h;· omega
 split at h;· omega
 split at h;· omega
 rename_i g b _ _ j;refine⟨by simpa using g,by simpa using b,λi hi=>?_⟩;have f:=xZ (by simpa using j) hi;have l:valid (f1 i).u (f1 i).h=ZD:=by simpa[de] using f
 have:=(bF l).2.1;omega
theorem fZ{base':Nat}{v:ZB}{R:List TR}(h:TRow w b v R)(hb:base'<=b):TRow w base' v R:=by refine⟨aF h.y hb,λr f=>?_,h.up⟩;obtain⟨h1,h2,g,h4⟩:=h.u r f;exact⟨h1,h2,g,by omega⟩
structure Pair (w:E)(h:Nat)(p0 p1:ZB):Prop where
 lt:h+1<z (A w)
 a0:w.cell? (Q h 0 Z)=T p0
 a1:w.cell? (Q h 1 Z)=T p1
 r0:w.cell? (Q (h+1) 0 Z)=T (Y Z 0 0)/\w.frozen? (Q (h+1) 0 Z)=ZA
 r1:w.cell? (Q (h+1) 1 Z)=T (Y Z 0 0)/\w.frozen? (Q (h+1) 1 Z)=ZA
theorem Pair.lt'{g:ZB}(b:Pair w h f g):h+2<=z (A w):=b.lt
theorem Pair.aa{g:E}(b:Pair w h j l)(hb:Below ZT w g)(hB:h+2<=ZT):Pair g h j l:=by have c:∀k o,k<ZT->g.cell? (Q k o Z)=w.cell? (Q k o Z):=λk o i=>hb.cell (p:=(Q k o Z)) i;have f:∀k o,k<ZT->g.frozen? (Q k o Z)=w.frozen? (Q k o Z):=λk o i=>hb.frozen (p:=(Q k o Z)) i;exact⟨lj b.lt hb.size,(c _ _ (by omega)).trans b.a0,(c _ _ (by omega)).trans b.a1,⟨(c _ _ (by omega)).trans b.r0.1,(f _ _ (by omega)).trans b.r0.2⟩,⟨(c _ _ (by omega)).trans b.r1.1,(f _ _ (by omega)).trans b.r1.2⟩⟩
theorem tP (w:E)(b f:ZB)(t:ZH):Pair ((B w (N #[b,f] t)).alloc (N #[Y Z 0 0,Y Z 0 0] t)) (z (A w)) b f:=by
 have ZS:Below (z (A w)+1) (B w (N #[b,f] t)) ((B w (N #[b,f] t)).alloc (N #[Y Z 0 0,Y Z 0 0] t)):=br.alloc (by simp) _;have hz:(B w (N #[b,f] t)).heap.size=z (A w)+1:=by simp
 refine⟨by simp,(ZS.cell (p:=(Q (z (A w)) 0 Z)) (j4 _)).trans (by simp),(ZS.cell (p:=(Q (z (A w)) 1 Z)) (j4 _)).trans (by simp),⟨?_,?_⟩,⟨?_,?_⟩⟩;all_goals
  rw[<-hz];clear ZS hz;generalize B w (N #[b,f] t)=W;simp
theorem tQ (b off n0 c0:Nat)(a1:Option Addr)(n1 c1:Nat)(f0:Nat->Source)(t:ByteArray)(w:E)(hn0:(n0:Int)<=1048576)(l:RowSource w b off n0 f0):Calls Pg 73 #[ZG #[Y (T (Q b off Z)) n0 c0,Y a1 n1 c1],U t] w λe q=>∃r:Int,e=ZF (J I r)/\decide (0<=r)=aG (nm0 f0) n0 t/\Below (z (A w)) w q:=by
 obtain⟨W,h⟩:∃W:E,B w (N #[Y (T (Q b off Z)) n0 c0,Y a1 n1 c1] 29)=W:=⟨_,rfl⟩
 obtain⟨m,-,-⟩:=nb1 h;have f:=ae h;clear h;have p:=ae (l.aa m ly);have k1:W.cell? (Q (z (A w)) 0 Z)=T (Y (T (Q b off Z)) n0 c0):=by rw[<-f.out];simp
 clear l;go_enter TS,SF;go_wp2;rw[f.out];clear f;go_loop [5] (λi=>∃k:Nat,k<=n0/\i=J I k/\Hid (aG (nm0 f0) k t=ZA)) (λi=>n0 - (intOf i).toNat);case atStart=>exact⟨0,by omega,rfl,rfl⟩
 case round =>
  obtain⟨k,hk,rfl,o⟩:=hrel;by_cases j:k<n0
  ·obtain⟨d0,d1⟩:=p.2 k j;cases hb:((f0 k).e.toList == t.toList) with
   |true =>have n:=ae hb;go_wp2;go_ret;exact⟨k,rfl,by rw[er (g:=nm0 f0) j n.out];simp,m.out⟩
   |false =>have n:=ae hb;go_wp2;exact⟨⟨k+1,by omega,by go_num,by show aG (nm0 f0) (k+1) t=ZA;rw[fX,o.out];exact n⟩,by simp[intOf];omega⟩
  ·have e:k=n0:=by omega
   subst e;go_wp2;go_ret;exact⟨-1,rfl,by rw[o.out];rfl,m⟩
theorem tR (a0:Option Addr)(c0:Nat)(a1:Option Addr)(n1 c1:Nat)(g:Nat->ByteArray)(t:ByteArray)(w:E):Calls Pg 73 #[ZG #[Y a0 0 c0,Y a1 n1 c1],U t] w λe b=>∃r:Int,e=ZF (J I r)/\decide (0<=r)=aG g 0 t/\Below (z (A w)) w b:=by
 have f:=ae ((BS w).alloc ly (N #[Y a0 0 c0,Y a1 n1 c1] 29));go_enter TS,SF;go_wp2;go_loop [5] (λi=>i=J I 0) (λ_=>0);case atStart=>rfl
 case round =>subst hrel;go_wp2;go_ret;exact⟨-1,rfl,by rw[fW];rfl,f⟩
theorem tS (a0:Option Addr)(n0 c0:Nat)(a1:Option Addr)(n1 c1:Nat)(f0:Nat->Source)(t:ByteArray)(w:E)(hn0:(n0:Int)<=1048576)(f:SlSource w a0 n0 f0):Calls Pg 73 #[ZG #[Y a0 n0 c0,Y a1 n1 c1],U t] w λe h=>∃r:Int,e=ZF (J I r)/\decide (0<=r)=aG (nm0 f0) n0 t/\Below (z (A w)) w h:=by
 rcases f with rfl|⟨b,off,rfl,g⟩
 {exact tR a0 c0 a1 n1 c1 (nm0 f0) t w};{exact tQ b off n0 c0 a1 n1 c1 f0 t w hn0 g}
def dfS:Source:=⟨⟨#[]⟩,⟨#[]⟩⟩
def dfT:Target:=⟨⟨#[]⟩,0,λ_=>⟨0,⟨#[]⟩,0⟩⟩
def dfR:TR:=(dfT,0,0)
def cI (L:List Source)(i:Nat):Source:=L.getD i dfS
def bK (L:List Target)(i:Nat):Target:=L.getD i dfT
theorem ni{c:Nat}{L:List Source}(h:w.ownsRow b 121 2 (Y a L.length c) L.length (L.flatMap bC)):SlSource w a L.length (cI L):=by
 by_cases hn:L.length=0;{exact .inl hn}
 ·obtain⟨g,c',e⟩:=d9 h (by omega);simp at e;obtain⟨rfl,rfl⟩:=e;refine .inr ⟨g,0,rfl,(cO h).2,λi hi=>?_⟩;have f:L[i]?=T (cI L i):=by rw[cI,IS,gq hi];rfl
  refine⟨?_,?_⟩;{have:=(bk h (j:=i*2) (u:=U (cI L i).e) (by have:=cK bC 2 (λ_=>rfl) L i 0 (by omega) _ f;simpa[bC] using this)).1;rwa[show 0+i*2=i*2 by omega]};{have:=(bk h (j:=i*2+1) (u:=U (cI L i).H) (by have:=cK bC 2 (λ_=>rfl) L i 1 (by omega) _ f;simpa[bC] using this)).1;rwa[show 0+i*2+1=i*2+1 by omega]}
theorem wE{R:List TR}{i:Nat}(hi:i<R.length):∃r,R[i]?=T r/\r∈R:=⟨R[i],gq hi,gz hi⟩
theorem BP{f c:Nat}{R:List TR}(h:TRow w f (Y a R.length c) R):SlTarget w a R.length (bK (R.map (·.1))):=by
 by_cases hn:R.length=0;{exact .inl hn}
 ·obtain⟨g,c',e⟩:=d9 h.y (by omega);simp at e;obtain⟨rfl,rfl⟩:=e;refine .inr ⟨g,0,rfl,(cO h.y).2,λi hi=>?_⟩;obtain⟨r,b,l⟩:=wE hi;have m:bK (R.map (·.1)) i=r.1:=by rw[bK,IS,KN,b];rfl
  rw[m];obtain⟨h1,_,_,_⟩:=h.u r l;refine⟨?_,T (Q r.2.1 0 Z),r.2.2,?_,h1.sl⟩;{have:=(bk h.y (j:=i*2) (u:=U r.1.e) (by have:=cK aZ 2 (λ_=>rfl) R i 0 (by omega) _ b;simpa[aZ] using this)).1;rwa[show 0+i*2=i*2 by omega]};{have:=(bk h.y (j:=i*2+1) (u:=Y (T (Q r.2.1 0 Z)) r.1.h r.2.2) (by have:=cK aZ 2 (λ_=>rfl) R i 1 (by omega) _ b;simpa[aZ] using this)).1;rwa[show 0+i*2+1=i*2+1 by omega]}
theorem GY{m:E}{v:ZB}{i:List ZB}{P:Nat->Prop}(h:w.ownsRow b e size v n i)(p:Touch P w m)(q:∀k,v.ownBlock=T k->¬ P k):m.ownsRow b e size v n i:=by
 refine⟨h.1,?_⟩;rcases h.2 with h|⟨g,cap,f,l,o,j,r⟩
 {exact .inl h};{refine .inr ⟨g,cap,f,l,o,(p.block g ?_ (q g (by rw[l];rfl))).trans j,r⟩;exact(DN.1 j).1}
theorem fh (a0:Option Addr)(n0 c0:Nat)(f0:Nat->Source)(a1:Option Addr)(n1 c1:Nat)(f1:Nat->Target)(t:ByteArray)(w:E)(hn0:(n0:Int)<=1048576)(hn1:(n1:Int)<=1048576)(ZO:SlSource w a0 n0 f0)(ZP:SlTarget w a1 n1 f1)(ZS:∀i,i<n1->aX (f1 i)):Calls Pg 65 #[ZG #[Y a0 n0 c0,Y a1 n1 c1],U t] w λe ZL=>∃n q R,e=ZF (ZG #[n,q])/\ZL.ownsRow (z (A w)+3) 121 2 n (keepS f0 t n0).length ((keepS f0 t n0).flatMap bC)/\TRow ZL (z (A w)+3) q R/\R.map (·.1)=keepT f1 t n1/\Below (z (A w)) w ZL:=by
 have V0:=ae ZO;have V1:=ae ZP;have HF:=ae ZS;clear ZO ZP ZS;obtain⟨ZJ,hi,n8,la,bt⟩:=KZ iH;obtain⟨ZK,hj,mv,aq,fd⟩:=KZ fA;have A0:=ae ((((BS w).alloc ly (N #[Y a0 n0 c0,Y a1 n1 c1] 29)).alloc (by simp) (N #[Y Z 0 0,Y Z 0 0] 29)).alloc (by simp;omega) (N #[Y Z 0 0,Y Z 0 0] 29));have X:=ae (zI w (Y a0 n0 c0) (Y a1 n1 c1) 29);go_enter func65,ntmps65;go_wp2;generalize ((B w (N #[Y a0 n0 c0,Y a1 n1 c1] 29)).alloc (N #[Y Z 0 0,Y Z 0 0] 29)).alloc (N #[Y Z 0 0,Y Z 0 0] 29)=W at A0 X ⊢;go_loopw [6] (λi wr=>∃(k:Nat) (n:ZB),k<=n0/\i=J I k/\Hid (Boxes wr (z (A w)) (Y a0 n0 c0) (Y a1 n1 c1) n (Y Z 0 0))/\Hid (wr.ownsRow (z (A w)+3) 121 2 n (keepS f0 t k).length ((keepS f0 t k).flatMap bC))/\Hid (Below (z (A w)) w wr)) (λi _=>n0 - (intOf i).toNat);case atStart=>exact⟨0,_,by omega,rfl,X,CL _ _ _ _,A0⟩
 case round =>
  obtain⟨k,n,hk,rfl,f,ZR,m⟩:=hrel;have ZN:=f.lt;by_cases r:k<n0
  ·obtain⟨b,off,rfl,o⟩:=V0.resolve_left (by omega);obtain⟨M,S⟩:=(o.2 k r).aa m o.1;clear o;have hll:=ip f0 t k;have P:=f.a0;cases hq:((f0 k).e.toList == t.toList) with
   |true =>have u:=ae hq;go_wp2;exact⟨⟨k+1,n,by omega,by go_num,f,by show World.ownsRow _ _ _ _ _ _ _;rw[xV u.out];exact ZR,m⟩,by simp[intOf];omega⟩
   |false =>
    have u:=ae hq;obtain⟨x0,y0⟩:=f.o0;have G:=ae ((cM (z (A w)+3) wr).drew.alloc (by simp;omega) (N #[U (f0 k).e,U (f0 k).H] 121));go_wp2_with fail
    go_region_law (first
     |(refine fs rfl (.tmp 25) (.tmp 31) 26 rfl (z (A w)+3) 121 ZJ (ZG #[U ⟨#[]⟩,U ⟨#[]⟩]) 2 32 MW hi n8 la bt rfl (by decide) n (keepS f0 t k).length ((keepS f0 t k).flatMap bC) (by simp[Act.eval]) (ZR.drew.alloc _) (Q (z (A wr)) 0 Z) 1 1 (bC (f0 k)) (by simp[Act.eval]) rfl (cT wr.drew _ _ _) (by simp[bC,Value.oneCell']) (by unfold maxLen;omega) (by omega) (by simp<;>omega) ?_;intro v' w2 l h y;obtain⟨gs,cs,rfl⟩:=d9 l (by omega);have O2:=ae l;have O:=ae (bg G h (by simp<;>omega) (λj e=>(ZR.lt j e).1));obtain⟨x2,y2⟩:=(f.aa O ly).o0;clear l h y))
    all_goals
     clear x0 y0 P;go_wp2;exact⟨⟨k+1,_,by omega,by go_num,(f.aa O ly).set0 _,by show World.ownsRow _ _ _ _ _ _ _;rw[xW u.out,eL,KE];simpa using aE O2.out (by omega) _,(m.trans (O.mono (by omega))).setCell (by simp;omega) _⟩,by simp[intOf];omega⟩
  ·have e:n0=k:=by omega
   subst e;have P:=f.a0;have ZQ:=f.a1;go_wp2;clear P ZQ r hk;generalize wr=W1 at f ZR m ZN ⊢;go_loopw [7] (λi wr=>∃(k:Nat) (q:ZB) (R:List TR),k<=n1/\i=J I k/\Hid (Boxes wr (z (A w)) (Y a0 n0 c0) (Y a1 n1 c1) n q)/\Hid (wr.ownsRow (z (A w)+3) 121 2 n (keepS f0 t n0).length ((keepS f0 t n0).flatMap bC))/\Hid (TRow wr (z (A w)+3) q R)/\Hid (R.map (·.1)=keepT f1 t k)/\Hid (Below (z (A w)) w wr)) (λi _=>n1 - (intOf i).toNat);case atStart=>exact⟨0,_,[],by omega,rfl,f,ZR,da _ _,rfl,m⟩
   case round =>
    clear f ZR m;obtain⟨k,q,R,hk,rfl,f,C,s,D,m⟩:=hrel;have hlt4:=f.lt;by_cases r:k<n1
    ·obtain⟨b,off,rfl,o⟩:=V1.resolve_left (by omega);obtain⟨M,ka,kc,S,hx⟩:=(o.2 k r).aa m ly o.1;have HX:=ae hx;have n6:=o.1;clear o hx;have hRl:R.length<=1048576:=by have h1:=CV List.length D.out;have h2:=jA f1 t k;simp at h1;omega
     have n7:((f1 k).h:Int)<=1048576:=by have:=HF.out k r;unfold aX at this;omega
     have ZQ:=f.a1;have hbh:¬ b=z (A w)+1+1:=by omega
     have hbh2:¬ (z (A w))+1+1=b:=by omega
     have hbw:b<z (A wr):=lj n6 m.size;cases hq:((f1 k).e.toList == t.toList) with
     |true =>have u:=ae hq;go_wp2;exact⟨⟨k+1,q,R,by omega,by go_num,f,C,s,by show _=keepT f1 t (k+1);rw[xX u.out];exact D,m⟩,by simp[intOf];omega⟩
     |false =>
      have u:=ae hq;obtain⟨x1,y1⟩:=f.o1;have G:=ae (BS wr).drew;go_wp2_with fail
      go_region_law (first
       |(go_simp;go_at_call 67;refine(iA ka (f1 k).h kc (f1 k).u _ n7 (HX.aa G ly)).mono ?_;rintro e ZT ⟨g,c,rfl,L,V⟩;have DC:=ae (G.trans (V.mono (by simp)));have ld:=(DC.cell (p:=(Q b (off+k*2) Z)) hbw).trans M;have ex:=(DC.cell (p:=(Q b (off+k*2+1) Z)) hbw).trans S;have H:=(cO L).1;have OC:=ae (aF L (base':=z (A w)+3) (by simp;omega));have ZM:z (A wr)<=g:=(by simpa using H);obtain⟨xC,yC⟩:=(f.aa DC (by omega)).o1;have kC:=(f.aa DC (by omega)).a1;have hzC:z (A w)+1+1<z (A ZT):=(by have:=(f.aa DC (by omega)).lt;omega);have hyC:z (A w)<z (A ZT):=(by omega);have hxC:b<z (A ZT):=(by have:=DC.size;omega);clear V L H)
       |(refine fs rfl (.tmp 50) (.tmp 65) 27 rfl (z (A w)+3) 125 ZK (ZG #[U ⟨#[]⟩,Y Z 0 0]) 2 40 LU hj mv aq fd rfl (by decide) q R.length (R.flatMap aZ) (by simp[Act.eval]) ((s.aa DC ly).y.alloc _) (Q (z (A ZT)) 0 Z) 1 1 (aZ (f1 k,g,c)) (by simp[Act.eval]) rfl (cT ZT _ _ _) (by simp[aZ,Value.oneCell']) (by unfold maxLen;omega) (by omega) (by first|(simp;done)|(simp;omega)|(have:=DC.size;simp;omega)) ?_;intro v' w2 l h y;obtain⟨gs,cs,rfl⟩:=d9 l (by omega);have T2:=ae (s.more (x:=f1 k) (g:=g) (c:=c) (DC.alloc DC.size _) ZM (by omega) (OC.alloc _) l h);have K:=ae (bg ((DC.mono (show (z (A w))+3<=z (A wr) by omega)).alloc (by have:=DC.size;omega) _) h (by have:=DC.size;simp;omega) (λj e=>(s.y.lt j e).1));obtain⟨x2,y2⟩:=(f.aa K ly).o1;have ZI:=ae ((own_below C (DC.alloc DC.size _) ly).kept h (zH (own_below C (DC.alloc DC.size (N #[U (f1 k).e,Y (T (Q g 0 Z)) (f1 k).h c] 125)) ly) ((s.aa DC ly).y.alloc _) (by decide)));clear l h y))
      all_goals
       clear ld ex xC yC x1 y1 ZQ kC M S;go_wp2;exact⟨⟨k+1,_,R++[(f1 k,g,c)],by omega,by go_num,(f.aa K ly).set1 _,aE ZI (by omega) _,T2.set (by omega) _,by show _=keepT f1 t (k+1);rw[xY u.out,KI,D.out];rfl,(m.trans (K.mono (by omega))).setCell (by simp;omega) _⟩,by simp[intOf];omega⟩
    ·have e:n1=k:=by omega
     subst e;have ZQ:=f.a1;obtain⟨sa,sc,rfl⟩:=aQ C;obtain⟨ta,tc,rfl⟩:=aQ s.y;obtain⟨r0,q0⟩:=f.r0;obtain⟨r1,q1⟩:=f.r1;obtain⟨m0,_⟩:=f.o0;obtain⟨m1,_⟩:=f.o1;go_wp2;exact bp (v:=ZG #[Y sa _ sc,Y ta _ tc]) (by simp[results,results65,go_sem,r0,r1]) rfl ⟨_,_,R,rfl,aE (aE C (by omega) _) (by omega) _,(s.set (by omega) _).set (by omega) _,D,(m.setCell (by simp) _).setCell (by simp) _⟩
theorem qC:∀a b:List UInt8,decide (0<Lib.compareBytes a b)=Op.bytesLess b a
 |[],[]=>by simp[Lib.compareBytes,Op.bytesLess]
 |[],_::_=>by simp[Lib.compareBytes,Op.bytesLess]
 |_::_,[]=>by simp[Lib.compareBytes,Op.bytesLess]
 |a::x,b::y=>by
  have g:=qC x y;rw[Lib.compareBytes,Op.bytesLess,<-g];by_cases h1:a<b
  ·have f:¬ b=a:=λe=>by subst e;exact(UInt8.lt_irrefl _ h1)
   have i:¬ b<a:=λh=>UInt8.lt_irrefl _ (UInt8.lt_trans h1 h);simp[h1,f,i]
  ·rw[eT h1]
   by_cases h2:b<a
   ·simp[h2]
   ·have f:a=b:=UInt8.le_antisymm (SK.1 h2) (SK.1 h1)
    subst f;simp[h1]
theorem rB{a b:ByteArray}(h:aJ b a=ZD):aJ a b=ZA/\(a.toList == b.toList)=ZA:=by have h1:=nh a.data.toList b.data.toList;have h2:=kQ a.data.toList b.data.toList;have f:=qC a.data.toList b.data.toList;simp only[aJ,LF] at h ⊢;rw[<-h1,<-h2];rw[<-f] at h;simp at h ⊢;omega
theorem tT{a b:ByteArray}(h:aJ b a=ZA):aJ a b=ZD∨(aJ a b=ZA/\(a.toList == b.toList)=ZD):=by have h1:=nh a.data.toList b.data.toList;have h2:=kQ a.data.toList b.data.toList;have f:=qC a.data.toList b.data.toList;simp only[aJ,LF] at h ⊢;rw[<-h1,<-h2];rw[<-f] at h;simp only[LH,p6] at h ⊢;omega
structure GT (w:E)(b:Nat)(v0 v1:ZB):Prop where
 lt:b<z (A w)
 c0:w.cell? (Q b 0 Z)=T v0
 c1:w.cell? (Q b 1 Z)=T v1
 z0:w.frozen? (Q b 0 Z)=ZA
 z1:w.frozen? (Q b 1 Z)=ZA
theorem tU (w:E)(b f:ZB)(t:ZH):GT (B w (N #[b,f] t)) (z (A w)) b f:=⟨by simp,by simp,by simp,by simp,by simp⟩
def eG (L:List Source)(t:ByteArray):Nat->Bool
 |0=>ZA
 |k+1=>eG L t k || aJ t (cI L k).e
def cy (L:List Source)(x:Source)(t:ByteArray):Nat->List Source
 |0=>[]
 |k+1=>if eG L t k=ZA/\aJ t (cI L k).e=ZD then cy L x t k++[x]++[cI L k] else cy L x t k++[cI L k]
def qD (L:List Source)(x:Source)(t:ByteArray):List Source:=if eG L t L.length=ZD then cy L x t L.length else cy L x t L.length++[x]
theorem rC (L:List Source)(x:Source)(t:ByteArray)(k:Nat):(cy L x t k).length<=k+1/\(eG L t k=ZA->(cy L x t k).length=k):=by
 induction k with
 |zero=>simp[cy]
 |succ j b =>
  simp only[cy,eG];cases hd:eG L t j with
  |false =>
   have h1:=b.2 hd;cases hl:aJ t (cI L j).e with
   |true=>simp[h1]
   |false=>simp[h1]
  |true =>have h1:=b.1;simp;omega
def oE (n0:Nat)(f0:Nat->Source)(n1:Nat)(f1:Nat->Target)(t tx:ByteArray):Int :=
 if bq n0 f0 n1 f1≠0 then 1 else if aB t=ZA∨2000<(tx.size:Int) then 2 else if 200<=(keepS f0 t n0).length+(keepT f1 t n1).length then 3 else 0
def kY (n0:Nat)(f0:Nat->Source)(n1:Nat)(f1:Nat->Target)(t tx:ByteArray):List Source:=if oE n0 f0 n1 f1 t tx=0 then qD (keepS f0 t n0) ⟨t,tx⟩ t else []
def oF (n0:Nat)(f0:Nat->Source)(n1:Nat)(f1:Nat->Target)(t tx:ByteArray):List Target:=if oE n0 f0 n1 f1 t tx=0 then keepT f1 t n1 else []
def kZ (n0:Nat)(f0:Nat->Source)(n1:Nat)(f1:Nat->Target)(t:ByteArray)(b:Bool):Int :=
 if bq n0 f0 n1 f1≠0 then 1 else if aB t=ZA∨b=ZA then 2 else if 200<=(keepS f0 t n0).length+(keepT f1 t n1).length then 3 else 0
def ft (g:Nat->ByteArray)(t:ByteArray):Nat->Bool
 |0=>ZA
 |k+1=>ft g t k || aJ t (g k)
def eI {b:Type}(g:Nat->ByteArray)(F:Nat->b)(x:b)(t:ByteArray):Nat->List b
 |0=>[]
 |k+1=>if ft g t k=ZA/\aJ t (g k)=ZD then eI g F x t k++[x]++[F k] else eI g F x t k++[F k]
def lc {b:Type}(g:Nat->ByteArray)(F:Nat->b)(x:b)(t:ByteArray)(n:Nat):List b:=if ft g t n=ZD then eI g F x t n else eI g F x t n++[x]
theorem tV{f:Type}(g:Nat->ByteArray)(F:Nat->f)(x:f)(t:ByteArray)(k:Nat):(eI g F x t k).length<=k+1/\(ft g t k=ZA->(eI g F x t k).length=k):=by
 induction k with
 |zero=>simp[eI]
 |succ j b =>
  simp only[eI,ft];cases hd:ft g t j with
  |false =>
   have h1:=b.2 hd;cases hl:aJ t (g j) with
   |true=>simp[h1]
   |false=>simp[h1]
  |true =>have h1:=b.1;simp;omega
theorem tW{b f:Type}(p:b->f)(g:Nat->ByteArray)(F:Nat->b)(x:b)(t:ByteArray)(k:Nat):(eI g F x t k).map p=eI g (λi=>p (F i)) (p x) t k:=by
 induction k with
 |zero=>rfl
 |succ j h =>simp only[eI];split<;>simp[h]
theorem BR{b f:Type}(p:b->f)(g:Nat->ByteArray)(F:Nat->b)(x:b)(t:ByteArray)(n:Nat):(lc g F x t n).map p=lc g (λi=>p (F i)) (p x) t n:=by
 unfold lc;split;{exact tW p g F x t n};{rw[KI,tW];rfl}
theorem wF{L:List Target}{i:Nat}(h:i<L.length):bK L i=L[i]:=by rw[bK,IS,gq h];rfl
def tX (K:List Target)(x:Target)(t:ByteArray):List Target:=lc (nm1 (bK K)) (λj=>K.getD j dfT) x t K.length
theorem tY (a0:Option Addr)(n0 c0:Nat)(f0:Nat->Source)(a1:Option Addr)(n1 c1:Nat)(f1:Nat->Target)(t tx:ByteArray)(w:E)(hn0:(n0:Int)<=1048576)(hn1:(n1:Int)<=1048576)(Bk:SlSource w a0 n0 f0)(At:SlTarget w a1 n1 f1)(mv:∀i,i<n1->aX (f1 i))(hs:∀i,i<n1->∀j,j<(f1 i).h->((f1 i).u j).s.size<=maxLen):Calls Pg 20 #[ZG #[Y a0 n0 c0,Y a1 n1 c1],U t,U tx] w λe ZL=>∃v0 v1 R,e=ZF (.tuple #[ZG #[v0,v1],J I (oE n0 f0 n1 f1 t tx)])/\ZL.ownsRow (z (A w)) 121 2 v0 (kY n0 f0 n1 f1 t tx).length ((kY n0 f0 n1 f1 t tx).flatMap bC)/\TRow ZL (z (A w)) v1 R/\R.map (·.1)=oF n0 f0 n1 f1 t tx/\Below (z (A w)) w ZL:=by
 have V0:=ae Bk;have V1:=ae At;have HF:=ae mv;have HS:=ae hs;clear Bk At mv hs;obtain⟨H,ZO,O,ZN,P⟩:=KZ iH;obtain⟨C,hC⟩:∃C,C=bq n0 f0 n1 f1:=⟨_,rfl⟩
 obtain⟨D,hD⟩:∃D,D=oE n0 f0 n1 f1 t tx:=⟨_,rfl⟩
 obtain⟨LS,ph⟩:∃LS,LS=kY n0 f0 n1 f1 t tx:=⟨_,rfl⟩
 obtain⟨LT,sm⟩:∃LT,LT=oF n0 f0 n1 f1 t tx:=⟨_,rfl⟩
 rw[<-hD,<-ph,<-sm];have HC:=ae hC;have HD:=ae (hD.trans (by unfold oE;rw[<-hC]));have y:=ae (ph.trans (by unfold kY;rw[<-hD]));have aq:=ae (sm.trans (by unfold oF;rw[<-hD]));clear hC hD ph sm;obtain⟨W,n7⟩:∃W:E,(B w (N #[Y a0 n0 c0,Y a1 n1 c1] 29)).alloc (N #[Y Z 0 0,Y Z 0 0] 29)=W:=⟨_,rfl⟩
 obtain⟨A0,-,-,-⟩:=nb2 n7;have ur:=ae n7;clear n7;have X0:=ae (tP w (Y a0 n0 c0) (Y a1 n1 c1) 29);go_enter func20,ntmps20;go_wp2_with fail;rw[ur.out] at X0 ⊢;clear ur;refine(eo a0 n0 c0 f0 a1 n1 c1 f1 _ hn0 hn1 (V0.aa A0 ly) (V1.aa A0 ly) HF HS).mono ?_;rintro e w1 ⟨rfl,ZR⟩;rw[<-HC.out];have X1:=ae (X0.aa ZR X0.lt');have B1:=ae (A0.trans (ZR.mono A0.size));clear ZR A0 X0;by_cases hc:C=0;case neg =>
  have hd:=HD.out;rw[j6 hc] at hd;have r:=y.out;rw[eT (by omega)] at r;have o:=aq.out;rw[eT (by omega)] at o;subst hd r o;have hc':(C == 0)=ZA:=by simpa using hc
  obtain⟨r0,q0⟩:=X1.r0;obtain⟨r1,ZI⟩:=X1.r1;go_wp2;exact bp (v:=.tuple #[ZG #[Y Z 0 0,Y Z 0 0],J I 1]) (by simp[results,QF,go_sem,r0,r1]) rfl ⟨_,_,[],rfl,CL _ _ _ _,da _ _,rfl,(B1.setCell (by simp) _).setCell (by simp) _⟩
 subst hc;have hz:=kW HC.symm;have HZ:=ae hz;clear hz HC;have n9:=HD.out;rw[eT (by omega)] at n9;have n8:=ae n9;clear n9 HD;go_wp2_with fail;refine(cV t _).mono ?_;rintro e w2 ⟨rfl,ZR⟩;have M:=ae (X1.aa ZR X1.lt');have ZM:=ae (B1.trans (ZR.mono B1.size));clear ZR X1 B1;by_cases n:aB t=ZA∨2000<(tx.size:Int)
 ·have hd:=n8.out;rw[j6 n] at hd;have r:=y.out;rw[eT (by omega)] at r;have o:=aq.out;rw[eT (by omega)] at o;subst hd r o;obtain⟨r0,q0⟩:=M.r0;obtain⟨r1,ZI⟩:=M.r1;cases hn:aB t with
  |false =>clear n;go_wp2;exact bp (v:=.tuple #[ZG #[Y Z 0 0,Y Z 0 0],J I 2]) (by simp[results,QF,go_sem,r0,r1]) rfl ⟨_,_,[],rfl,CL _ _ _ _,da _ _,rfl,(ZM.setCell (by simp) _).setCell (by simp) _⟩
  |true =>have DS:(2000:Int)<tx.size:=n.resolve_left (by simp[hn]);clear n;go_wp2;exact bp (v:=.tuple #[ZG #[Y Z 0 0,Y Z 0 0],J I 2]) (by simp[results,QF,go_sem,r0,r1]) rfl ⟨_,_,[],rfl,CL _ _ _ _,da _ _,rfl,(ZM.setCell (by simp) _).setCell (by simp) _⟩
 have ro:=n8.out;rw[eT n] at ro;have DE:=ae ro;have hn:aB t=ZD:=by
  cases h:aB t with
  |true=>rfl
  |false=>exact absurd (.inl h) n
 have DS:¬ (2000:Int)<tx.size:=λh=>n (.inr h);clear ro n8 n;have k0:=M.a0;have k1:=M.a1;rw[hn];go_wp2_with fail;refine(fh a0 n0 c0 f0 a1 n1 c1 f1 t _ hn0 hn1 (V0.aa ZM ly) (V1.aa ZM ly) HF).mono ?_;rintro e w3 ⟨v0,v1,R,rfl,hO,hR,hM,ZR⟩;have hlt2:=M.lt;have X3:=ae (M.aa ZR M.lt');have B3:=ae (ZM.trans (ZR.mono ZM.size));obtain⟨sa,sc,rfl⟩:=aQ hO;obtain⟨ta,tc,rfl⟩:=aQ hR.y;have eR:R.length=(keepT f1 t n1).length:=by rw[<-hM];simp
 have Fk:=ip f0 t n0;have Fm:=jA f1 t n1;obtain⟨L,hL⟩:∃L,L=keepS f0 t n0:=⟨_,rfl⟩
 obtain⟨K,hK⟩:∃K,K=keepT f1 t n1:=⟨_,rfl⟩
 rw[<-hL] at hO Fk ⊢;rw[<-hK] at hM Fm eR;have ZT:=DE.out;rw[<-hL,<-hK] at ZT;have r:=y.out;rw[<-hL] at r;have o:=aq.out;rw[<-hK] at o;have ER:=ae eR;have hlr:R.length<=n1:=by omega
 clear DE y aq hL hK ZR k0 k1 hn M ZM eR;have O3:=ae (aF hO (base':=z (A w)) (by omega));have RX:Hid (∀ZL,Below (z (A w3)) w3 ZL->TRow ZL (z (A w2)+3) (Y ta R.length tc) R):=λZL hb=>hR.aa hb ly;have HM:=ae hM;have hll:(L.length:Int)<=1048576:=by omega
 clear hO hR hM;obtain⟨w4,V⟩:∃W:E,B w3 (N #[Y sa L.length sc,Y ta R.length tc] 29)=W:=⟨_,rfl⟩
 obtain⟨DB,-,fd⟩:=nb1 V;have n6:=ae V;clear V;have ZJ:=ae (tU w3 (Y sa L.length sc) (Y ta R.length tc) 29);have X4:=ae (X3.aa DB X3.lt');have B4:=ae (B3.trans (DB.mono B3.size));have O4:=ae (own_below O3 DB ly);have qr:=ae DB.out;have DQ:z (A w)+1<z (A w3):=X3.lt;have c8:=ZJ.c0;have c9:=ZJ.c1;clear O3 DB;by_cases hc3:(200:Int)<=L.length+R.length;{rw[j6 (by have:=ER.out;omega)] at ZT;rw[eT (by omega)] at r o;subst ZT r o;obtain⟨r0,q0⟩:=X3.r0;obtain⟨r1,ZI⟩:=X3.r1;clear c8 c9;go_wp2;exact bp (v:=.tuple #[ZG #[Y Z 0 0,Y Z 0 0],J I 3]) (by simp[results,QF,go_sem,r0,r1,DQ]) rfl ⟨_,_,[],rfl,CL _ _ _ _,da _ _,rfl,((B3.setCell (by simp) _).setCell (by simp) _).alloc (by have:=B3.size;simp;omega) _⟩};clear X3 B3;rw[eT (by have:=ER.out;omega)] at ZT;rw[j6 ZT] at r o;subst ZT o;have y:=ae r;clear r;go_wp2;rw[n6.out] at ZJ c8 c9 ⊢;clear n6;generalize (z (A w3))=X at ZJ c8 c9 DQ fd RX qr ⊢;obtain⟨u,th⟩:∃u,u=z (A w4):=⟨_,rfl⟩
 have E0:Hid (Below u w4 (B w4 (N #[] 121))):=by rw[th];exact br.alloc ly _
 have W0:Hid ((B w4 (N #[] 121)).ownsRow u 121 2 (Y (T (Q (X+1) 0 Z)) 0 0) 0 []):=by rw[<-fd];exact LV w4 #[] 0 (by omega) (by unfold maxLen;omega) rfl
 have x:X<u:=by have:=ZJ.lt;omega
 have g:=ae th;have ZP:=ae fd;clear th fd;go_loopw [9,10,11] (λv d i wr=>∃(k:Nat) (db:Bool),k<=L.length/\i=J I k/\d=.bool db/\Hid (db=eG L t k)/\Hid (wr.ownsRow u 121 2 v (cy L ⟨t,tx⟩ t k).length ((cy L ⟨t,tx⟩ t k).flatMap bC))/\Hid (Below u w4 wr)) (λ_ _ i _=>L.length - (intOf i).toNat);case atStart=>exact⟨0,ZA,by omega,rfl,rfl,rfl,W0,E0⟩
 case round =>
  obtain⟨k,db,hk,rfl,rfl,ZQ,ZS,m⟩:=hrel;have e8:=(m.cell (p:=(Q X 0 Z)) x).trans c8;have Fd:=rC L ⟨t,tx⟩ t k;obtain⟨hlen1,la⟩:=Fd;have HL2:=ae la;clear la;by_cases o:k<L.length
  ·obtain⟨b,off,rfl,hr⟩:=(ni O4).resolve_left (by omega);obtain⟨p0,p1⟩:=hr.2 k o;have bt:b<u:=by have:=hr.1;have:=g.out;omega
   have d0:=(m.cell (p:=(Q b (off+k*2) Z)) bt).trans p0;have d1:=(m.cell (p:=(Q b (off+k*2+1) Z)) bt).trans p1;clear hr;cases db with
   |true =>
    have HI:Hid (cy L ⟨t,tx⟩ t (k+1)=cy L ⟨t,tx⟩ t k++[cI L k]):=by show(if _ then _ else _)=_;rw[eT (by rw[<-ZQ.out];simp)]
    have HN:Hid (ZD=eG L t (k+1)):=by show ZD=(eG L t k || _);rw[<-ZQ.out];rfl
    go_wp2_with (at_builtin;(refine E4 _ rfl (.tmp 63) (.tmp 69) 26 rfl u 121 H (ZG #[U ⟨#[]⟩,U ⟨#[]⟩]) 2 32 MW ZO O ZN P rfl (by decide) _ (cy L ⟨t,tx⟩ t k).length ((cy L ⟨t,tx⟩ t k).flatMap bC) (by simp[Act.eval]) (ZS.alloc _) (Q (z (A wr)) 0 Z) 1 1 (bC (cI L k)) (by simp[Act.eval]) rfl (cT wr _ _ _) (by simp[bC,Value.oneCell']) (by unfold maxLen;omega) (by omega) (by have:=m.size;have:=g.out;simp;omega) ?_;intro vy wy l f q;have OY:=ae l;have BY:=ae (bg (m.alloc (by have:=m.size;have:=g.out;omega) (N #[U (cI L k).e,U (cI L k).H] 121)) f (by have:=m.size;have:=g.out;simp;omega) (λj e=>(ZS.lt j e).1));clear l f q));exact⟨⟨k+1,ZD,by omega,by go_num,rfl,HN,by show World.ownsRow _ _ _ _ _ _ _;rw[HI.out,eL,KE];simpa using OY.out,BY⟩,by simp[intOf];omega⟩
   |false =>
    cases hq:aJ t (cI L k).e with
    |true =>
     have HI:Hid (cy L ⟨t,tx⟩ t (k+1)=cy L ⟨t,tx⟩ t k++[⟨t,tx⟩]++[cI L k]):=by show(if _ then _ else _)=_;rw[j6 ⟨ZQ.symm,hq⟩]
     have HN:Hid (ZD=eG L t (k+1)):=by show ZD=(eG L t k || _);rw[hq];simp
     obtain⟨ZI,q2⟩:=rB hq;clear hq;go_wp2_with (at_builtin;first|(refine E4 _ rfl (.tmp 57) (.tmp 61) 26 rfl u 121 H (ZG #[U ⟨#[]⟩,U ⟨#[]⟩]) 2 32 MW ZO O ZN P rfl (by decide) _ (cy L ⟨t,tx⟩ t k).length ((cy L ⟨t,tx⟩ t k).flatMap bC) (by simp[Act.eval]) (ZS.alloc _) (Q (z (A wr)) 0 Z) 1 1 (bC ⟨t,tx⟩) (by simp[Act.eval]) rfl (cT wr _ _ _) (by simp[bC,Value.oneCell']) (by unfold maxLen;omega) (by omega) (by have:=m.size;have:=g.out;simp;omega) ?_;intro vx wx l f q;have OX:=ae l;have S:=ae (bg (m.alloc (by have:=m.size;have:=g.out;omega) (N #[U t,U tx] 121)) f (by have:=m.size;have:=g.out;simp;omega) (λj e=>(ZS.lt j e).1));have f8:=(S.cell (p:=(Q X 0 Z)) x).trans c8;have g0:=(S.cell (p:=(Q b (off+k*2) Z)) bt).trans p0;have g1:=(S.cell (p:=(Q b (off+k*2+1) Z)) bt).trans p1;clear l f q)|(refine E4 _ rfl (.tmp 63) (.tmp 69) 26 rfl u 121 H (ZG #[U ⟨#[]⟩,U ⟨#[]⟩]) 2 32 MW ZO O ZN P rfl (by decide) _ ((cy L ⟨t,tx⟩ t k).length+1) ((cy L ⟨t,tx⟩ t k).flatMap bC++bC ⟨t,tx⟩) (by simp[Act.eval]) (OX.alloc _) (Q (z (A wx)) 0 Z) 1 1 (bC (cI L k)) (by simp[Act.eval]) rfl (cT wx _ _ _) (by simp[bC,Value.oneCell']) (by unfold maxLen;omega) (by omega) (by have:=S.size;have:=g.out;simp;omega) ?_;intro vy wy l f q;have OY:=ae l;have BY:=ae (bg (S.alloc (by have:=S.size;have:=g.out;omega) (N #[U (cI L k).e,U (cI L k).H] 121)) f (by have:=S.size;have:=g.out;simp;omega) (λj e=>(OX.lt j e).1));clear l f q));exact⟨⟨k+1,ZD,by omega,by go_num,rfl,HN,by show World.ownsRow _ _ _ _ _ _ _;rw[HI.out,eL,eL,KE,KE];simpa using OY.out,BY⟩,by simp[intOf];omega⟩
    |false =>
     have HI:Hid (cy L ⟨t,tx⟩ t (k+1)=cy L ⟨t,tx⟩ t k++[cI L k]):=by show(if _ then _ else _)=_;rw[eT (by rw[hq];simp)]
     have HN:Hid (ZA=eG L t (k+1)):=by show ZA=(eG L t k || _);rw[<-ZQ.out,hq];rfl
     have HQ:=ae (tT hq);clear hq;rcases HQ.out with ZI|⟨ZI,q2⟩
     all_goals
      go_wp2_with (at_builtin;(refine E4 _ rfl (.tmp 63) (.tmp 69) 26 rfl u 121 H (ZG #[U ⟨#[]⟩,U ⟨#[]⟩]) 2 32 MW ZO O ZN P rfl (by decide) _ (cy L ⟨t,tx⟩ t k).length ((cy L ⟨t,tx⟩ t k).flatMap bC) (by simp[Act.eval]) (ZS.alloc _) (Q (z (A wr)) 0 Z) 1 1 (bC (cI L k)) (by simp[Act.eval]) rfl (cT wr _ _ _) (by simp[bC,Value.oneCell']) (by unfold maxLen;omega) (by omega) (by have:=m.size;have:=g.out;simp;omega) ?_;intro vy wy l f q;have OY:=ae l;have BY:=ae (bg (m.alloc (by have:=m.size;have:=g.out;omega) (N #[U (cI L k).e,U (cI L k).H] 121)) f (by have:=m.size;have:=g.out;simp;omega) (λj e=>(ZS.lt j e).1));clear l f q));exact⟨⟨k+1,ZA,by omega,by go_num,rfl,HN,by show World.ownsRow _ _ _ _ _ _ _;rw[HI.out,eL,KE];simpa using OY.out,BY⟩,by simp[intOf];omega⟩
  ·have e:L.length=k:=by omega
   subst e;cases db with
   |true =>
    have G:qD L ⟨t,tx⟩ t=cy L ⟨t,tx⟩ t L.length:=by unfold qD;rw[j6 ZQ.symm]
    obtain⟨va,vc,rfl⟩:=aQ ZS;have OF:Hid (wr.ownsRow u 121 2 (Y va (cy L ⟨t,tx⟩ t L.length).length vc) LS.length (LS.flatMap bC)):=by show World.ownsRow _ _ _ _ _ _ _;rw[y.out,G];exact ZS
    have ex:=g.out;have ld:=ZP.out;have H1:=ae ex;have H2:=ae ld;have H3:=ae G;have e9:=(m.cell (p:=(Q X 1 Z)) x).trans c9;have y8:=(m.frozen (p:=(Q X 0 Z)) x).trans ZJ.z0;obtain⟨r0,q0⟩:=(X4.aa m (by omega)).r0;obtain⟨r1,ZI⟩:=(X4.aa m (by omega)).r1;clear ex ld G;go_wp2;have ex:=g.out;have ld:=ZP.out;exact bp (v:=.tuple #[ZG #[Y va (cy L ⟨t,tx⟩ t L.length).length vc,Y ta R.length tc],J I 0]) (by simp[results,QF,go_sem,r0,r1]) rfl ⟨_,_,R,rfl,aF (aE (aE (aE OF (R:=X) (j:=0) (by omega) _) (R:=z (A w)+1) (j:=0) (by omega) _) (R:=z (A w)+1) (j:=1) (by omega) _) (by omega),fZ (((RX _ ((qr.trans (m.mono (by omega))).setCell (p:=(Q X 0 Z)) ly _)).set (X:=z (A w)+1) (j:=0) (by omega) _).set (X:=z (A w)+1) (j:=1) (by omega) _) (by omega),HM,(((B4.trans (m.mono (by omega))).setCell (by simp;omega) _).setCell (by simp) _).setCell (by simp) _⟩
   |false =>
    go_wp2_with (at_builtin;(refine E4 _ rfl (.tmp 73) (.tmp 77) 26 rfl u 121 H (ZG #[U ⟨#[]⟩,U ⟨#[]⟩]) 2 32 MW ZO O ZN P rfl (by decide) _ (cy L ⟨t,tx⟩ t L.length).length ((cy L ⟨t,tx⟩ t L.length).flatMap bC) (by simp[Act.eval]) (ZS.alloc _) (Q (z (A wr)) 0 Z) 1 1 (bC ⟨t,tx⟩) (by simp[Act.eval]) rfl (cT wr _ _ _) (by simp[bC,Value.oneCell']) (by unfold maxLen;omega) (by omega) (by have:=m.size;have:=g.out;simp;omega) ?_;intro vz wz l f q;obtain⟨gs,cs,rfl⟩:=d9 l (by omega);have OZ:=ae l;have ZK:=ae (bg (m.alloc (by have:=m.size;have:=g.out;omega) (N #[U t,U tx] 121)) f (by have:=m.size;have:=g.out;simp;omega) (λj e=>(ZS.lt j e).1));have f8:=(ZK.cell (p:=(Q X 0 Z)) x).trans c8;have f9:=(ZK.cell (p:=(Q X 1 Z)) x).trans c9;have y8:=(ZK.frozen (p:=(Q X 0 Z)) x).trans ZJ.z0;obtain⟨r0,q0⟩:=(X4.aa ZK (by have:=g.out;have:=ZP.out;omega)).r0;obtain⟨r1,ZI⟩:=(X4.aa ZK (by have:=g.out;have:=ZP.out;omega)).r1;clear l f q));have G:qD L ⟨t,tx⟩ t=cy L ⟨t,tx⟩ t L.length++[⟨t,tx⟩]:=by unfold qD;rw[eT (by rw[<-ZQ.out];simp)]
    have OF:Hid (wz.ownsRow u 121 2 (Y (T (Q gs 0 Z)) ((cy L ⟨t,tx⟩ t L.length).length+1) cs) LS.length (LS.flatMap bC)):=by show World.ownsRow _ _ _ _ _ _ _;rw[y.out,G,eL,KE];simpa using OZ.out
    have ex:=g.out;have ld:=ZP.out;exact bp (v:=.tuple #[ZG #[Y (T (Q gs 0 Z)) ((cy L ⟨t,tx⟩ t L.length).length+1) cs,Y ta R.length tc],J I 0]) (by simp[results,QF,go_sem,r0,r1]) rfl ⟨_,_,R,rfl,aF (aE (aE (aE OF (R:=X) (j:=0) (by omega) _) (R:=z (A w)+1) (j:=0) (by omega) _) (R:=z (A w)+1) (j:=1) (by omega) _) (by omega),fZ (((RX _ ((qr.trans (ZK.mono (by omega))).setCell (p:=(Q X 0 Z)) ly _)).set (X:=z (A w)+1) (j:=0) (by omega) _).set (X:=z (A w)+1) (j:=1) (by omega) _) (by omega),HM,(((B4.trans (ZK.mono (by omega))).setCell (by simp;omega) _).setCell (by simp) _).setCell (by simp) _⟩
theorem tZ (a0:Option Addr)(n0 c0:Nat)(f0:Nat->Source)(a1:Option Addr)(n1 c1:Nat)(f1:Nat->Target)(t:ByteArray)(w:E)(hn0:(n0:Int)<=1048576)(hn1:(n1:Int)<=1048576)(fd:SlSource w a0 n0 f0)(ex:SlTarget w a1 n1 f1)(M:∀i,i<n1->aX (f1 i))(hs:∀i,i<n1->∀j,j<(f1 i).h->((f1 i).u j).s.size<=maxLen):Calls Pg 29 #[ZG #[Y a0 n0 c0,Y a1 n1 c1],U t] w λe w'=>∃v0 v1 R,e=ZF (.tuple #[ZG #[v0,v1],J I (kU n0 f0 n1 f1 t)])/\w'.ownsRow (z (A w)) 121 2 v0 (iI n0 f0 n1 f1 t).length ((iI n0 f0 n1 f1 t).flatMap bC)/\TRow w' (z (A w)) v1 R/\R.map (·.1)=kV n0 f0 n1 f1 t/\Below (z (A w)) w w':=by
 have V0:=ae fd;have V1:=ae ex;have HF:=ae M;have HS:=ae hs;clear fd ex M hs;obtain⟨C,hC⟩:∃C,C=bq n0 f0 n1 f1:=⟨_,rfl⟩
 obtain⟨D,L⟩:∃D,D=kU n0 f0 n1 f1 t:=⟨_,rfl⟩
 obtain⟨LS,ZO⟩:∃LS,LS=iI n0 f0 n1 f1 t:=⟨_,rfl⟩
 obtain⟨LT,ZK⟩:∃LT,LT=kV n0 f0 n1 f1 t:=⟨_,rfl⟩
 rw[<-L,<-ZO,<-ZK];have HC:=ae hC;have HD:=ae (L.trans (by unfold kU;rw[<-hC]));have o:=ae (ZO.trans (by unfold iI;rw[<-L]));have n:=ae (ZK.trans (by unfold kV;rw[<-L]));clear hC L ZO ZK;obtain⟨W,ZL⟩:∃W:E,(B w (N #[Y a0 n0 c0,Y a1 n1 c1] 29)).alloc (N #[Y Z 0 0,Y Z 0 0] 29)=W:=⟨_,rfl⟩
 obtain⟨ZI,-,-,-⟩:=nb2 ZL;have bt:=ae ZL;clear ZL;have X0:=ae (tP w (Y a0 n0 c0) (Y a1 n1 c1) 29);go_enter func29,ntmps29;go_wp2_with fail;rw[bt.out] at X0 ⊢;clear bt;refine(eo a0 n0 c0 f0 a1 n1 c1 f1 _ hn0 hn1 (V0.aa ZI ly) (V1.aa ZI ly) HF HS).mono ?_;rintro e w1 ⟨rfl,b⟩;rw[<-HC.out];have ZN:=ae (X0.aa b X0.lt');have B1:=ae (ZI.trans (b.mono ZI.size));clear b ZI X0;by_cases hc:C=0;case neg =>
  have h:=HD.out;rw[j6 hc] at h;have f:=o.out;rw[eT (by omega)] at f;have g:=n.out;rw[eT (by omega)] at g;subst h f g;have hc':(C == 0)=ZA:=by simpa using hc
  obtain⟨r0,q0⟩:=ZN.r0;obtain⟨r1,q1⟩:=ZN.r1;go_wp2;exact bp (v:=.tuple #[ZG #[Y Z 0 0,Y Z 0 0],J I 1]) (by simp[results,SL,go_sem,r0,r1]) rfl ⟨_,_,[],rfl,CL _ _ _ _,da _ _,rfl,(B1.setCell (by simp) _).setCell (by simp) _⟩
 subst hc;have hz:=kW HC.symm;have HZ:=ae hz;clear hz HC;have ZJ:=HD.out;rw[eT (by omega)] at ZJ;have V:=ae ZJ;clear ZJ HD;go_wp2_with fail;refine(cV t _).mono ?_;rintro e w2 ⟨rfl,b⟩;have ZS:=ae (ZN.aa b ZN.lt');have O:=ae (B1.trans (b.mono B1.size));clear b ZN B1;cases hn:aB t with
 |false =>have h:=V.out;rw[j6 hn] at h;have f:=o.out;rw[eT (by omega)] at f;have g:=n.out;rw[eT (by omega)] at g;subst h f g;clear hn;obtain⟨r0,q0⟩:=ZS.r0;obtain⟨r1,q1⟩:=ZS.r1;go_wp2;exact bp (v:=.tuple #[ZG #[Y Z 0 0,Y Z 0 0],J I 2]) (by simp[results,SL,go_sem,r0,r1]) rfl ⟨_,_,[],rfl,CL _ _ _ _,da _ _,rfl,(O.setCell (by simp) _).setCell (by simp) _⟩
 |true =>
  have P:=V.out;rw[eT (by simp[hn])] at P;have ZM:=ae P;clear P V hn;have H:=ZS.a0;have ZP:=ZS.a1;go_wp2_with fail;refine(tS a0 n0 c0 a1 n1 c1 f0 t _ hn0 (V0.aa O ly)).mono ?_;rintro e wS ⟨r,rfl,ZT,b⟩;have G:=ae (ZS.aa b ZS.lt');have S:=ae (O.trans (b.mono O.size));clear b ZS O H ZP;have H:=G.a0;have ZP:=G.a1;by_cases hr:r<0
  ·have aq:Hid (aG (nm0 f0) n0 t=ZA):=by show _=ZA;rw[<-ZT];simpa using hr
   clear ZT;go_wp2_with fail;refine(mo a0 n0 c0 a1 n1 c1 f1 t _ hn1 (V1.aa S ly)).mono ?_;rintro e w3 ⟨q,rfl,ZQ,b⟩;have l:=ae (G.aa b G.lt');have m:=ae (S.trans (b.mono S.size));clear b G S H ZP;have H:=l.a0;have ZP:=l.a1;by_cases hq:q<0
   ·have hi:(aG (nm0 f0) n0 t || aG (nm1 f1) n1 t)=ZA:=by rw[aq.out,<-ZQ];simpa using hq
    clear ZQ;have h:=ZM.out;rw[j6 hi] at h;have f:=o.out;rw[eT (by omega)] at f;have g:=n.out;rw[eT (by omega)] at g;subst h f g;obtain⟨r0,q0⟩:=l.r0;obtain⟨r1,q1⟩:=l.r1;go_wp2;exact bp (v:=.tuple #[ZG #[Y Z 0 0,Y Z 0 0],J I 4]) (by simp[results,SL,go_sem,r0,r1]) rfl ⟨_,_,[],rfl,CL _ _ _ _,da _ _,rfl,(m.setCell (by simp) _).setCell (by simp) _⟩
   ·have hi:(aG (nm0 f0) n0 t || aG (nm1 f1) n1 t)=ZD:=by rw[aq.out,<-ZQ];simpa using hq
    clear ZQ;have h:=ZM.out;rw[eT (by simp[hi])] at h;have f:=o.out;rw[j6 h] at f;have g:=n.out;rw[j6 h] at g;subst h f g;go_wp2_with fail;refine(fh a0 n0 c0 f0 a1 n1 c1 f1 t _ hn0 hn1 (V0.aa m ly) (V1.aa m ly) HF).mono ?_;rintro e w4 ⟨v0,v1,R,rfl,y,hR,hM,b⟩;have K:=ae (l.aa b l.lt');have la:=l.lt;have B4:=ae (m.trans (b.mono m.size));obtain⟨p,ZR,rfl⟩:=aQ y;obtain⟨x,u,rfl⟩:=aQ hR.y;have O4:=ae (aF (aE (aE (R:=z (A w)+1) (j:=0) y (by omega) (Y p (keepS f0 t n0).length ZR)) (R:=z (A w)+1) (j:=1) (by omega) (Y x R.length u)) (base':=z (A w)) (by omega));have T4:=ae (fZ ((hR.set (X:=z (A w)+1) (j:=0) (by omega) (Y p (keepS f0 t n0).length ZR)).set (X:=z (A w)+1) (j:=1) (by omega) (Y x R.length u)) (base':=z (A w)) (by omega));have HM:=ae hM;clear y hR b hM H ZP;obtain⟨r0,q0⟩:=K.r0;obtain⟨r1,q1⟩:=K.r1;go_wp2;exact bp (v:=.tuple #[ZG #[Y p (keepS f0 t n0).length ZR,Y x R.length u],J I 0]) (by simp[results,SL,go_sem,r0,r1]) rfl ⟨_,_,R,rfl,O4,T4,HM,(B4.setCell (by simp) _).setCell (by simp) _⟩
  ·have hi:(aG (nm0 f0) n0 t || aG (nm1 f1) n1 t)=ZD:=by rw[<-ZT];have:decide (0<=r)=ZD:=MK (by omega);rw[this];rfl
   clear ZT;have l:=G;have m:=S;have h:=ZM.out;rw[eT (by simp[hi])] at h;have f:=o.out;rw[j6 h] at f;have g:=n.out;rw[j6 h] at g;subst h f g;go_wp2_with fail;refine(fh a0 n0 c0 f0 a1 n1 c1 f1 t _ hn0 hn1 (V0.aa m ly) (V1.aa m ly) HF).mono ?_;rintro e w4 ⟨v0,v1,R,rfl,y,hR,hM,b⟩;have K:=ae (l.aa b l.lt');have la:=l.lt;have B4:=ae (m.trans (b.mono m.size));obtain⟨p,ZR,rfl⟩:=aQ y;obtain⟨x,u,rfl⟩:=aQ hR.y;have O4:=ae (aF (aE (aE (R:=z (A w)+1) (j:=0) y (by omega) (Y p (keepS f0 t n0).length ZR)) (R:=z (A w)+1) (j:=1) (by omega) (Y x R.length u)) (base':=z (A w)) (by omega));have T4:=ae (fZ ((hR.set (X:=z (A w)+1) (j:=0) (by omega) (Y p (keepS f0 t n0).length ZR)).set (X:=z (A w)+1) (j:=1) (by omega) (Y x R.length u)) (base':=z (A w)) (by omega));have HM:=ae hM;clear y hR b hM H ZP;obtain⟨r0,q0⟩:=K.r0;obtain⟨r1,q1⟩:=K.r1;go_wp2;exact bp (v:=.tuple #[ZG #[Y p (keepS f0 t n0).length ZR,Y x R.length u],J I 0]) (by simp[results,SL,go_sem,r0,r1]) rfl ⟨_,_,R,rfl,O4,T4,HM,(B4.setCell (by simp) _).setCell (by simp) _⟩
