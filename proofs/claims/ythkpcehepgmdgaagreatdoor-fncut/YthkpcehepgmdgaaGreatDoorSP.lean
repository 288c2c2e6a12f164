import Derived.Test.YthkpcehepgmdgaaGreatDoorTW
import Derived.Test.YthkpcehepgmdgaaGreatDoorSK
set_option maxHeartbeats 1000000
open Go renaming Addr.mk->Q,Value.slice->Z,Value.string->U,Value.int->J,Value.agg->ZH,Obj.cells->N,IntKind.i64->I,World->G,Value->ZD,TypeId->ZI,Ending.returned->ZG,World.ownsRow->ZX,World.alloc->ZU,World.cell?->ZV,World.frozen?->ZW,World.setCell->ZT
open Option renaming none->Y,some->T
open Bool renaming false->ZB,true->ZF
open List renaming length->A
namespace Go.Proofs.YthkpcehepgmdgaaGreatDoor.Vp
open RowKit
variable {w m:G}{b n size g B i off n0 n1:Nat}{t:ByteArray}{e:ZI}{l j:ZD}{f:List ZD}{a:Option Addr}
def keepS (f:Nat->Source)(t:ByteArray)(k:Nat):List Source:=((List.range k).map f).filter λx=>!(x.e.toList == t.toList)
def keepT (f:Nat->Target)(t:ByteArray)(k:Nat):List Target:=((List.range k).map f).filter λx=>!(x.e.toList == t.toList)
theorem xR{f:Nat->Source}{k:Nat}(h:((f k).e.toList == t.toList)=ZF):keepS f t (k+1)=keepS f t k:=by simp only[keepS,LP,AI,QY];simp[h]
theorem xS{f:Nat->Source}{k:Nat}(h:((f k).e.toList == t.toList)=ZB):keepS f t (k+1)=keepS f t k++[f k]:=by simp only[keepS,LP,AI,QY];simp[h]
theorem xT{f:Nat->Target}{k:Nat}(h:((f k).e.toList == t.toList)=ZF):keepT f t (k+1)=keepT f t k:=by simp only[keepT,LP,AI,QY];simp[h]
theorem xU{f:Nat->Target}{k:Nat}(h:((f k).e.toList == t.toList)=ZB):keepT f t (k+1)=keepT f t k++[f k]:=by simp only[keepT,LP,AI,QY];simp[h]
theorem iB (f:Nat->Source)(t:ByteArray)(k:Nat):(keepS f t k).length<=k:=by have:=R8 (λx:Source=>!(x.e.toList == t.toList)) ((List.range k).map f);simpa[keepS] using this
theorem jG (f:Nat->Target)(t:ByteArray)(k:Nat):(keepT f t k).length<=k:=by have:=R8 (λx:Target=>!(x.e.toList == t.toList)) ((List.range k).map f);simpa[keepT] using this
theorem ef{v:ZD}(h:ZX w b e size v n f)(hn:0<n):∃g cap,v=Z (T (Q g 0 Y)) n cap:=by
 rcases h.2 with ⟨_,h0⟩|⟨g,cap,cur,rfl,_⟩
 {omega};{exact⟨g,cap,rfl⟩}
theorem aF{v:ZD}(h:ZX w b e size v n f):∃a cap,v=Z a n cap:=by
 rcases h.2 with ⟨rfl,rfl⟩|⟨g,cap,cur,rfl,_⟩
 {exact⟨_,_,rfl⟩};{exact⟨_,_,rfl⟩}
theorem cU (w:G)(x y:ZD)(t:ZI):∀j u,[x,y][j]?=T u->(ZU w (N #[x,y] t)).cell? (((Q w.heap.size 0 Y):Addr).add j)=T u:=by
 intro j u b;rw[addr_add,E4];match j,b with
 |0,b=>simp at b;subst b;simp
 |1,b=>simp at b;subst b;simp
abbrev TR:=Target × Nat × Nat
def aY (r:TR):List ZD:=[U r.1.e,Z (T (Q r.2.1 0 Y)) r.1.l r.2.2]
structure TRow (w:G)(base:Nat)(v:ZD)(R:List TR):Prop where
 y:ZX w base 94 2 v (A R) (R.flatMap aY)
 u:∀r∈R,RowIns w r.2.1 0 r.1.l r.1.u/\(∃F,Cells w r.2.1 0 (r.1.l*3) F)/\TypeAt w r.2.1 90/\base<=r.2.1
 up:R.Pairwise λa b=>a.2.1≠b.2.1
theorem TypeAt.block{b:G}(h:TypeAt w g e)(hb:b.heap[g]?=w.heap[g]?):TypeAt b g e:=by obtain⟨c,f⟩:=h;exact⟨c,hb.trans f⟩
theorem RowIns.block{b:G}{f:Nat->Ins}(h:RowIns w g off n f)(hz:w.heap.size<=b.heap.size)(hb:b.heap[g]?=w.heap[g]?):RowIns b g off n f:=by refine⟨lj h.1 hz,λi hi=>?_⟩;obtain⟨j,h1,h2⟩:=h.2 i hi;exact⟨(cq (a:=(Q g _ Y)) hb).trans j,(cq (a:=(Q g _ Y)) hb).trans h1,(cq (a:=(Q g _ Y)) hb).trans h2⟩
theorem Cells.block{f:G}{m:Nat}{F:Nat->ZD}(h:Cells w b off m F)(hz:w.heap.size<=f.heap.size)(e:f.heap[b]?=w.heap[b]?):Cells f b off m F :=
 ⟨lj h.1 hz,λj g=>⟨(cq (a:=(Q b (off+j) Y)) e).trans (h.2 j g).1,(LF (a:=(Q b (off+j) Y)) e).trans (h.2 j g).2⟩⟩
theorem TRow.aa{g:G}{v:ZD}{R:List TR}(h:TRow w b v R)(hb:Below B w g)(f:w.heap.size<=B):TRow g b v R:=by refine⟨own_below h.y hb f,λr i=>?_,h.up⟩;obtain⟨h1,⟨F,h2⟩,l,j⟩:=h.u r i;have e:=hb.block r.2.1 (lj h1.1 f);exact⟨h1.block hb.size e,⟨F,h2.block hb.size e⟩,l.block e,j⟩
theorem TRow.set{X j:Nat}{v:ZD}{R:List TR}(h:TRow w b v R)(hX:X<b)(u:ZD):TRow (ZT w (Q X j Y) u) b v R:=by refine⟨aC h.y hX u,λr f=>?_,h.up⟩;obtain⟨h1,⟨F,h2⟩,i,g⟩:=h.u r f;have e:(ZT w (Q X j Y) u).heap[r.2.1]?=w.heap[r.2.1]?:=qh _ _ _ _ (by simp;omega);exact⟨h1.block (by simp) e,⟨F,h2.block (by simp) e⟩,i.block e,g⟩
theorem df (w:G)(b:Nat):TRow w b (Z Y 0 0) []:=⟨CL _ _ _ _,λr f=>absurd f (by simp),List.Pairwise.nil⟩
theorem TRow.type{f:Nat}{v:ZD}{R:List TR}(h:TRow w f v R):∀k,v.ownBlock=T k->TypeAt w k 94:=by
 intro k b;rcases h.y.2 with ⟨rfl,_⟩|⟨g,cap,i,rfl,_,j,_⟩
 {simp[Value.ownBlock] at b};{simp[Value.ownBlock] at b;subst b;exact⟨i,j⟩}
theorem TRow.more{s:G}{f c:Nat}{v u:ZD}{R:List TR}{x:Target}(h:TRow w f v R)(hb:Below w.heap.size w m)(hg:w.heap.size<=g)(n:f<=g)
  (t:ZX m f 90 3 (Z (T (Q g 0 Y)) x.l c) x.l (bK x.u x.l)) (q:ZX s f 94 2 u (A R+1) (R.flatMap aY++aY (x,g,c))) (i:m.grownBy s v.ownBlock):TRow s f u (R++[(x,g,c)]):=by
 have p:∀k,TypeAt m k 90->T k≠v.ownBlock:=λk z e=>by have B:=(h.aa hb ly).type k e.symm;exact ew z B (by decide) rfl
 have y:∀r∈R,r.2.1<w.heap.size:=λr j=>(h.u r j).1.1;refine⟨by simpa using q,λr j=>?_,?_⟩;{rcases n6.1 j with j|j;{obtain⟨h1,⟨F,h2⟩,l,C⟩:=(h.aa hb ly).u r j;have e:=i.block r.2.1 h1.1 (p _ l);exact⟨h1.block i.size e,⟨F,h2.block i.size e⟩,l.block e,C⟩};{simp at j;subst j;obtain⟨h1,F,h2⟩:=gV t;have l:=fU t;have e:=i.block g h1.1 (p _ l);exact⟨h1.block i.size e,⟨F,h2.block i.size e⟩,l.block e,n⟩}};{rw[MN];refine⟨h.up,by simp,λa ZY b o=>?_⟩;simp at o;subst o;have:=y a ZY;show a.2.1≠g;omega}
theorem zI{b0 r s0 s1:Nat}{n i:ZI}{b:ZD}{p s:List ZD}(o:ZX w b0 n s0 b n0 p)(h1:ZX w r i s1 j n1 s)(l:n≠i):b.ownBlock=Y∨b.ownBlock≠j.ownBlock:=by
 rcases o.2 with ⟨rfl,_⟩|⟨g,cap,m,rfl,_,q,_⟩
 {exact .inl rfl}
 ·right;rcases h1.2 with ⟨rfl,_⟩|⟨g',cap',f,rfl,_,h,_⟩
  {simp[Value.ownBlock]};{simp only[Value.ownBlock,ne_eq,KN];exact ew ⟨m,q⟩ ⟨f,h⟩ l}
structure Boxes (w:G)(h:Nat)(p0 p1 v0 v1:ZD):Prop where
 lt:h+2<w.heap.size
 a0:ZV w (Q h 0 Y)=T p0
 a1:ZV w (Q h 1 Y)=T p1
 r0:ZV w (Q (h+1) 0 Y)=T (Z Y 0 0)/\ZW w (Q (h+1) 0 Y)=ZB
 r1:ZV w (Q (h+1) 1 Y)=T (Z Y 0 0)/\ZW w (Q (h+1) 1 Y)=ZB
 o0:ZV w (Q (h+1+1) 0 Y)=T v0/\ZW w (Q (h+1+1) 0 Y)=ZB
 o1:ZV w (Q (h+1+1) 1 Y)=T v1/\ZW w (Q (h+1+1) 1 Y)=ZB
theorem Boxes.aa{g:G}{h:Nat}{m n:ZD}(b:Boxes w h m j l n)(hb:Below B w g)(hB:h+3<=B):Boxes g h m j l n:=by have c:∀k o,k<B->ZV g (Q k o Y)=ZV w (Q k o Y):=λk o i=>hb.cell (p:=(Q k o Y)) i;have f:∀k o,k<B->ZW g (Q k o Y)=ZW w (Q k o Y):=λk o i=>hb.frozen (p:=(Q k o Y)) i;exact⟨lj b.lt hb.size,(c _ _ (by omega)).trans b.a0,(c _ _ (by omega)).trans b.a1,⟨(c _ _ (by omega)).trans b.r0.1,(f _ _ (by omega)).trans b.r0.2⟩,⟨(c _ _ (by omega)).trans b.r1.1,(f _ _ (by omega)).trans b.r1.2⟩,⟨(c _ _ (by omega)).trans b.o0.1,(f _ _ (by omega)).trans b.o0.2⟩,⟨(c _ _ (by omega)).trans b.o1.1,(f _ _ (by omega)).trans b.o1.2⟩⟩
theorem Boxes.set0{h:Nat}{g f i:ZD}(b:Boxes w h g f l i)(u:ZD):Boxes (ZT w (Q (h+1+1) 0 Y) u) h g f u i:=by have e:∀k o,k≠h+1+1->ZV (ZT w (Q (h+1+1) 0 Y) u) (Q k o Y)=ZV w (Q k o Y):=λk o j=>cell_far _ _ _ _ (by simpa using λe=>j e.symm);exact⟨by simpa using b.lt,(e _ _ (by omega)).trans b.a0,(e _ _ (by omega)).trans b.a1,⟨(e _ _ (by omega)).trans b.r0.1,by simpa using b.r0.2⟩,⟨(e _ _ (by omega)).trans b.r1.1,by simpa using b.r1.2⟩,⟨AT _ _ _ (by rw[b.o0.1];rfl),by simpa using b.o0.2⟩,⟨(sq _ _ _ _ (by simp)).trans b.o1.1,by simpa using b.o1.2⟩⟩
theorem Boxes.set1{h:Nat}{i f g:ZD}(b:Boxes w h i f g l)(u:ZD):Boxes (ZT w (Q (h+1+1) 1 Y) u) h i f g u:=by have e:∀k o,k≠h+1+1->ZV (ZT w (Q (h+1+1) 1 Y) u) (Q k o Y)=ZV w (Q k o Y):=λk o j=>cell_far _ _ _ _ (by simpa using λe=>j e.symm);exact⟨by simpa using b.lt,(e _ _ (by omega)).trans b.a0,(e _ _ (by omega)).trans b.a1,⟨(e _ _ (by omega)).trans b.r0.1,by simpa using b.r0.2⟩,⟨(e _ _ (by omega)).trans b.r1.1,by simpa using b.r1.2⟩,⟨(sq _ _ _ _ (by simp)).trans b.o0.1,by simpa using b.o0.2⟩,⟨AT _ _ _ (by rw[b.o1.1];rfl),by simpa using b.o1.2⟩⟩
theorem zJ (w:G)(f b:ZD)(t:ZI):Boxes (ZU (ZU (ZU w (N #[f,b] t)) (N #[Z Y 0 0,Z Y 0 0] t)) (N #[Z Y 0 0,Z Y 0 0] t)) w.heap.size f b (Z Y 0 0) (Z Y 0 0):=by
 have ZY:Below (w.heap.size+1) (ZU w (N #[f,b] t)) (ZU (ZU (ZU w (N #[f,b] t)) (N #[Z Y 0 0,Z Y 0 0] t)) (N #[Z Y 0 0,Z Y 0 0] t)):=(br.alloc (by simp) _).alloc (by simp) _;have C:Below (w.heap.size+1+1) (ZU (ZU w (N #[f,b] t)) (N #[Z Y 0 0,Z Y 0 0] t)) (ZU (ZU (ZU w (N #[f,b] t)) (N #[Z Y 0 0,Z Y 0 0] t)) (N #[Z Y 0 0,Z Y 0 0] t)):=br.alloc (by simp) _;have hz:(ZU w (N #[f,b] t)).heap.size=w.heap.size+1:=by simp
 have g:(ZU (ZU w (N #[f,b] t)) (N #[Z Y 0 0,Z Y 0 0] t)).heap.size=w.heap.size+1+1:=by simp
 refine⟨by simp,?_,?_,⟨?_,?_⟩,⟨?_,?_⟩,⟨?_,?_⟩,⟨?_,?_⟩⟩;{exact(ZY.cell (p:=(Q w.heap.size 0 Y)) (gM _)).trans (by simp)};{exact(ZY.cell (p:=(Q w.heap.size 1 Y)) (gM _)).trans (by simp)};{refine(C.cell (p:=(Q (w.heap.size+1) 0 Y)) (gM _)).trans ?_;rw[<-hz];simp};{refine(C.frozen (p:=(Q (w.heap.size+1) 0 Y)) (gM _)).trans ?_;rw[<-hz];simp};{refine(C.cell (p:=(Q (w.heap.size+1) 1 Y)) (gM _)).trans ?_;rw[<-hz];simp};{refine(C.frozen (p:=(Q (w.heap.size+1) 1 Y)) (gM _)).trans ?_;rw[<-hz];simp};all_goals
  rw[<-g];clear ZY C hz g;generalize ZU (ZU w (N #[f,b] t)) (N #[Z Y 0 0,Z Y 0 0] t)=W;simp
def li (n0:Nat)(f0:Nat->Source)(n1:Nat)(f1:Nat->Target)(t:ByteArray):Int :=
 if bm n0 f0 n1 f1≠0 then 1 else if av t=ZB then 2 else if (aG (nm0 f0) n0 t || aG (nm1 f1) n1 t)=ZB then 4 else 0
def iT (n0:Nat)(f0:Nat->Source)(n1:Nat)(f1:Nat->Target)(t:ByteArray):List Source:=if li n0 f0 n1 f1 t=0 then keepS f0 t n0 else []
def lm (n0:Nat)(f0:Nat->Source)(n1:Nat)(f1:Nat->Target)(t:ByteArray):List Target:=if li n0 f0 n1 f1 t=0 then keepT f1 t n1 else []
theorem xV{p:Nat->Bool}(h:aI p n=ZB)(hi:i<n):p i=ZB:=by
 cases e:p i with
 |false=>rfl
 |true=>rw[cY hi e] at h;cases h
theorem lp{f0:Nat->Source}{f1:Nat->Target}(h:bm n0 f0 n1 f1=0):aJ (nm0 f0) n0=ZF/\aJ (nm1 f1) n1=ZF/\∀i,i<n1->1<=(f1 i).l:=by
 unfold bm at h;split at h;· omega
 split at h;· omega
 split at h;· omega
 split at h;· omega
 split at h;· omega
 split at h;· omega
 split at h;· omega
 split at h;· omega
 rename_i g f _ _ l;refine⟨by simpa using g,by simpa using f,λi hi=>?_⟩;have j:=xV (by simpa using l) hi;have b:valid (f1 i).u (f1 i).l=ZF:=by simpa[dk] using j
 have:=(bO b).2.1;omega
theorem iC{base':Nat}{v:ZD}{R:List TR}(h:TRow w b v R)(hb:base'<=b):TRow w base' v R:=by refine⟨aA h.y hb,λr f=>?_,h.up⟩;obtain⟨h1,h2,g,h4⟩:=h.u r f;exact⟨h1,h2,g,by omega⟩
structure Pair (w:G)(h:Nat)(p0 p1:ZD):Prop where
 lt:h+1<w.heap.size
 a0:ZV w (Q h 0 Y)=T p0
 a1:ZV w (Q h 1 Y)=T p1
 r0:ZV w (Q (h+1) 0 Y)=T (Z Y 0 0)/\ZW w (Q (h+1) 0 Y)=ZB
 r1:ZV w (Q (h+1) 1 Y)=T (Z Y 0 0)/\ZW w (Q (h+1) 1 Y)=ZB
theorem Pair.lt'{h:Nat}{g f:ZD}(b:Pair w h g f):h+2<=w.heap.size:=b.lt
theorem Pair.aa{g:G}{h:Nat}(b:Pair w h l j)(hb:Below B w g)(hB:h+2<=B):Pair g h l j:=by have c:∀k o,k<B->ZV g (Q k o Y)=ZV w (Q k o Y):=λk o i=>hb.cell (p:=(Q k o Y)) i;have f:∀k o,k<B->ZW g (Q k o Y)=ZW w (Q k o Y):=λk o i=>hb.frozen (p:=(Q k o Y)) i;exact⟨lj b.lt hb.size,(c _ _ (by omega)).trans b.a0,(c _ _ (by omega)).trans b.a1,⟨(c _ _ (by omega)).trans b.r0.1,(f _ _ (by omega)).trans b.r0.2⟩,⟨(c _ _ (by omega)).trans b.r1.1,(f _ _ (by omega)).trans b.r1.2⟩⟩
theorem tJ (w:G)(f b:ZD)(t:ZI):Pair (ZU (ZU w (N #[f,b] t)) (N #[Z Y 0 0,Z Y 0 0] t)) w.heap.size f b:=by
 have ZY:Below (w.heap.size+1) (ZU w (N #[f,b] t)) (ZU (ZU w (N #[f,b] t)) (N #[Z Y 0 0,Z Y 0 0] t)):=br.alloc (by simp) _;have hz:(ZU w (N #[f,b] t)).heap.size=w.heap.size+1:=by simp
 refine⟨by simp,(ZY.cell (p:=(Q w.heap.size 0 Y)) (gM _)).trans (by simp),(ZY.cell (p:=(Q w.heap.size 1 Y)) (gM _)).trans (by simp),⟨?_,?_⟩,⟨?_,?_⟩⟩;all_goals
  rw[<-hz];clear ZY hz;generalize ZU w (N #[f,b] t)=W;simp
theorem tK (b off n0 c0:Nat)(a1:Option Addr)(n1 c1:Nat)(f0:Nat->Source)(t:ByteArray)(w:G)(hn0:(n0:Int)<=1048576)(j:RowSource w b off n0 f0):Calls Tryz.prog 31 #[ZH #[Z (T (Q b off Y)) n0 c0,Z a1 n1 c1],U t] w λe q=>∃r:Int,e=ZG (J I r)/\decide (0<=r)=aG (nm0 f0) n0 t/\Below w.heap.size w q:=by
 obtain⟨W,f⟩:∃W:G,ZU w (N #[Z (T (Q b off Y)) n0 c0,Z a1 n1 c1] 33)=W:=⟨_,rfl⟩
 obtain⟨n,-,-⟩:=nb1 f;have h:=ae f;clear f;have p:=ae (j.aa n ly);have k1:ZV W (Q w.heap.size 0 Y)=T (Z (T (Q b off Y)) n0 c0):=by rw[<-h.out];simp
 clear j;go_enter TI,RJ;go_wp2;rw[h.out];clear h;go_loop [5] (λi=>∃k:Nat,k<=n0/\i=J I k/\Hid (aG (nm0 f0) k t=ZB)) (λi=>n0 - (intOf i).toNat);case atStart=>exact⟨0,by omega,rfl,rfl⟩
 case round =>
  obtain⟨k,hk,rfl,o⟩:=hrel;by_cases l:k<n0
  ·obtain⟨d0,d1⟩:=p.2 k l;cases hb:((f0 k).e.toList == t.toList) with
   |true =>have m:=ae hb;go_wp2;go_ret;exact⟨k,rfl,by rw[eC (g:=nm0 f0) l m.out];simp,n.out⟩
   |false =>have m:=ae hb;go_wp2;exact⟨⟨k+1,by omega,by go_num,by show aG (nm0 f0) (k+1) t=ZB;rw[gw,o.out];exact m⟩,by simp[intOf];omega⟩
  ·have e:k=n0:=by omega
   subst e;go_wp2;go_ret;exact⟨-1,rfl,by rw[o.out];rfl,n⟩
theorem tL (a0:Option Addr)(c0:Nat)(a1:Option Addr)(n1 c1:Nat)(g:Nat->ByteArray)(t:ByteArray)(w:G):Calls Tryz.prog 31 #[ZH #[Z a0 0 c0,Z a1 n1 c1],U t] w λe f=>∃r:Int,e=ZG (J I r)/\decide (0<=r)=aG g 0 t/\Below w.heap.size w f:=by
 have b:=ae ((q9 w).alloc ly (N #[Z a0 0 c0,Z a1 n1 c1] 33));go_enter TI,RJ;go_wp2;go_loop [5] (λi=>i=J I 0) (λ_=>0);case atStart=>rfl
 case round =>subst hrel;go_wp2;go_ret;exact⟨-1,rfl,by rw[iz];rfl,b⟩
theorem tM (a0:Option Addr)(n0 c0:Nat)(a1:Option Addr)(n1 c1:Nat)(f0:Nat->Source)(t:ByteArray)(w:G)(hn0:(n0:Int)<=1048576)(f:SlSource w a0 n0 f0):Calls Tryz.prog 31 #[ZH #[Z a0 n0 c0,Z a1 n1 c1],U t] w λe h=>∃r:Int,e=ZG (J I r)/\decide (0<=r)=aG (nm0 f0) n0 t/\Below w.heap.size w h:=by
 rcases f with rfl|⟨b,off,rfl,g⟩
 {exact tL a0 c0 a1 n1 c1 (nm0 f0) t w};{exact tK b off n0 c0 a1 n1 c1 f0 t w hn0 g}
def dfS:Source:=⟨⟨#[]⟩,⟨#[]⟩⟩
def dfT:Target:=⟨⟨#[]⟩,0,λ_=>⟨0,⟨#[]⟩,0⟩⟩
def dfR:TR:=(dfT,0,0)
def ct (L:List Source)(i:Nat):Source:=L.getD i dfS
def bj (L:List Target)(i:Nat):Target:=L.getD i dfT
theorem ko{base c:Nat}{L:List Source}(h:ZX w base 87 2 (Z a (A L) c) (A L) (L.flatMap bw)):SlSource w a (A L) (ct L):=by
 by_cases hn:A L=0;{exact .inl hn}
 ·obtain⟨g,c',e⟩:=ef h (by omega);simp at e;obtain⟨rfl,rfl⟩:=e;refine .inr ⟨g,0,rfl,(cu h).2,λi hi=>?_⟩;have b:L[i]?=T (ct L i):=by rw[ct,CP,gq hi];rfl
  refine⟨?_,?_⟩;{have:=(a8 h (j:=i*2) (u:=U (ct L i).e) (by have:=cL bw 2 (λ_=>rfl) L i 0 (by omega) _ b;simpa[bw] using this)).1;rwa[show 0+i*2=i*2 by omega]};{have:=(a8 h (j:=i*2+1) (u:=U (ct L i).B) (by have:=cL bw 2 (λ_=>rfl) L i 1 (by omega) _ b;simpa[bw] using this)).1;rwa[show 0+i*2+1=i*2+1 by omega]}
theorem wD{R:List TR}(hi:i<A R):∃r,R[i]?=T r/\r∈R:=⟨R[i],gq hi,gz hi⟩
theorem Bt{f c:Nat}{R:List TR}(h:TRow w f (Z a (A R) c) R):SlTarget w a (A R) (bj (R.map (·.1))):=by
 by_cases hn:A R=0;{exact .inl hn}
 ·obtain⟨g,c',e⟩:=ef h.y (by omega);simp at e;obtain⟨rfl,rfl⟩:=e;refine .inr ⟨g,0,rfl,(cu h.y).2,λi hi=>?_⟩;obtain⟨r,b,m⟩:=wD hi;have l:bj (R.map (·.1)) i=r.1:=by rw[bj,CP,HU,b];rfl
  rw[l];obtain⟨h1,_,_,_⟩:=h.u r m;refine⟨?_,T (Q r.2.1 0 Y),r.2.2,?_,h1.sl⟩;{have:=(a8 h.y (j:=i*2) (u:=U r.1.e) (by have:=cL aY 2 (λ_=>rfl) R i 0 (by omega) _ b;simpa[aY] using this)).1;rwa[show 0+i*2=i*2 by omega]};{have:=(a8 h.y (j:=i*2+1) (u:=Z (T (Q r.2.1 0 Y)) r.1.l r.2.2) (by have:=cL aY 2 (λ_=>rfl) R i 1 (by omega) _ b;simpa[aY] using this)).1;rwa[show 0+i*2+1=i*2+1 by omega]}
theorem Hh{v:ZD}{P:Nat->Prop}(h:ZX w b e size v n f)(q:Touch P w m)(p:∀k,v.ownBlock=T k->¬ P k):ZX m b e size v n f:=by
 refine⟨h.1,?_⟩;rcases h.2 with h|⟨g,cap,l,j,o,i,r⟩
 {exact .inl h};{refine .inr ⟨g,cap,l,j,o,(q.block g ?_ (p g (by rw[j];rfl))).trans i,r⟩;exact(A9.1 i).1}
theorem qp:∀a b:List UInt8,decide (0<Lib.compareBytes a b)=Op.bytesLess b a
 |[],[]=>by simp[Lib.compareBytes,Op.bytesLess]
 |[],_::_=>by simp[Lib.compareBytes,Op.bytesLess]
 |_::_,[]=>by simp[Lib.compareBytes,Op.bytesLess]
 |a::x,b::y=>by
  have g:=qp x y;rw[Lib.compareBytes,Op.bytesLess,<-g];by_cases h1:a<b
  ·have f:¬ b=a:=λe=>by subst e;exact(UInt8.lt_irrefl _ h1)
   have i:¬ b<a:=λh=>UInt8.lt_irrefl _ (UInt8.lt_trans h1 h);simp[h1,f,i]
  ·rw[eT h1]
   by_cases h2:b<a
   ·simp[h2]
   ·have f:a=b:=UInt8.le_antisymm (RU.1 h2) (RU.1 h1)
    subst f;simp[h1]
theorem rj{a b:ByteArray}(h:aX b a=ZF):aX a b=ZB/\(a.toList == b.toList)=ZB:=by have h1:=ng a.data.toList b.data.toList;have h2:=lc a.data.toList b.data.toList;have f:=qp a.data.toList b.data.toList;simp only[aX,LV] at h ⊢;rw[<-h1,<-h2];rw[<-f] at h;simp at h ⊢;omega
theorem tN{a b:ByteArray}(h:aX b a=ZB):aX a b=ZF∨(aX a b=ZB/\(a.toList == b.toList)=ZF):=by have h1:=ng a.data.toList b.data.toList;have h2:=lc a.data.toList b.data.toList;have f:=qp a.data.toList b.data.toList;simp only[aX,LV] at h ⊢;rw[<-h1,<-h2];rw[<-f] at h;simp only[LG,nX] at h ⊢;omega
structure Hd (w:G)(b:Nat)(v0 v1:ZD):Prop where
 lt:b<w.heap.size
 c0:ZV w (Q b 0 Y)=T v0
 c1:ZV w (Q b 1 Y)=T v1
 z0:ZW w (Q b 0 Y)=ZB
 z1:ZW w (Q b 1 Y)=ZB
theorem tO (w:G)(f b:ZD)(t:ZI):Hd (ZU w (N #[f,b] t)) w.heap.size f b:=⟨by simp,by simp,by simp,by simp,by simp⟩
def eQ (L:List Source)(t:ByteArray):Nat->Bool
 |0=>ZB
 |k+1=>eQ L t k || aX t (ct L k).e
def ce (L:List Source)(x:Source)(t:ByteArray):Nat->List Source
 |0=>[]
 |k+1=>if eQ L t k=ZB/\aX t (ct L k).e=ZF then ce L x t k++[x]++[ct L k] else ce L x t k++[ct L k]
def qq (L:List Source)(x:Source)(t:ByteArray):List Source:=if eQ L t (A L)=ZF then ce L x t (A L) else ce L x t (A L)++[x]
theorem rm (L:List Source)(x:Source)(t:ByteArray)(k:Nat):(ce L x t k).length<=k+1/\(eQ L t k=ZB->(ce L x t k).length=k):=by
 induction k with
 |zero=>simp[ce]
 |succ j b =>
  simp only[ce,eQ];cases hd:eQ L t j with
  |false =>
   have h1:=b.2 hd;cases hl:aX t (ct L j).e with
   |true=>simp[h1]
   |false=>simp[h1]
  |true =>have h1:=b.1;simp;omega
def oB (n0:Nat)(f0:Nat->Source)(n1:Nat)(f1:Nat->Target)(t tx:ByteArray):Int :=
 if bm n0 f0 n1 f1≠0 then 1 else if av t=ZB∨2000<(tx.size:Int) then 2 else if 200<=(keepS f0 t n0).length+(keepT f1 t n1).length then 3 else 0
def lu (n0:Nat)(f0:Nat->Source)(n1:Nat)(f1:Nat->Target)(t tx:ByteArray):List Source:=if oB n0 f0 n1 f1 t tx=0 then qq (keepS f0 t n0) ⟨t,tx⟩ t else []
def oC (n0:Nat)(f0:Nat->Source)(n1:Nat)(f1:Nat->Target)(t tx:ByteArray):List Target:=if oB n0 f0 n1 f1 t tx=0 then keepT f1 t n1 else []
def lv (n0:Nat)(f0:Nat->Source)(n1:Nat)(f1:Nat->Target)(t:ByteArray)(b:Bool):Int :=
 if bm n0 f0 n1 f1≠0 then 1 else if av t=ZB∨b=ZB then 2 else if 200<=(keepS f0 t n0).length+(keepT f1 t n1).length then 3 else 0
def fy (g:Nat->ByteArray)(t:ByteArray):Nat->Bool
 |0=>ZB
 |k+1=>fy g t k || aX t (g k)
def eS {b:Type}(g:Nat->ByteArray)(F:Nat->b)(x:b)(t:ByteArray):Nat->List b
 |0=>[]
 |k+1=>if fy g t k=ZB/\aX t (g k)=ZF then eS g F x t k++[x]++[F k] else eS g F x t k++[F k]
def lw {b:Type}(g:Nat->ByteArray)(F:Nat->b)(x:b)(t:ByteArray)(n:Nat):List b:=if fy g t n=ZF then eS g F x t n else eS g F x t n++[x]
theorem tP{b:Type}(g:Nat->ByteArray)(F:Nat->b)(x:b)(t:ByteArray)(k:Nat):(eS g F x t k).length<=k+1/\(fy g t k=ZB->(eS g F x t k).length=k):=by
 induction k with
 |zero=>simp[eS]
 |succ j f =>
  simp only[eS,fy];cases hd:fy g t j with
  |false =>
   have h1:=f.2 hd;cases hl:aX t (g j) with
   |true=>simp[h1]
   |false=>simp[h1]
  |true =>have h1:=f.1;simp;omega
theorem tQ{b h:Type}(p:b->h)(g:Nat->ByteArray)(F:Nat->b)(x:b)(t:ByteArray)(k:Nat):(eS g F x t k).map p=eS g (λi=>p (F i)) (p x) t k:=by
 induction k with
 |zero=>rfl
 |succ j f =>simp only[eS];split<;>simp[f]
theorem Bu{b f:Type}(p:b->f)(g:Nat->ByteArray)(F:Nat->b)(x:b)(t:ByteArray)(n:Nat):(lw g F x t n).map p=lw g (λi=>p (F i)) (p x) t n:=by
 unfold lw;split;{exact tQ p g F x t n};{rw[AI,tQ];rfl}
theorem wE{L:List Target}(h:i<A L):bj L i=L[i]:=by rw[bj,CP,gq h];rfl
def tR (K:List Target)(x:Target)(t:ByteArray):List Target:=lw (nm1 (bj K)) (λj=>K.getD j dfT) x t (A K)
