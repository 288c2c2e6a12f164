import Derived.Test.YtcnilonhfpimnaaGreatDoorGW
import Derived.Test.YtcnilonhfpimnaaGreatDoorFM
set_option linter.all false
set_option maxHeartbeats 1000000
open Go renaming Addr.mk->T,Value.slice->Y,Value.string->U,Value.int->J,Value.agg->ZJ,Obj.cells->N,IntKind.i64->I,World->E,Value->ZB,TypeId->ZK,Ending.returned->ZI,World.heap->A,World.ownsRow->ZY,World.alloc->ZV,World.cell?->ZW,World.frozen?->ZX,World.setCell->ZU
open Option renaming none->Z,some->Q
open Bool renaming false->ZA,true->ZH
open Array renaming size->z
open List renaming length->B
namespace Go.Proofs.YtcnilonhfpimnaaGreatDoor.Vp
open RowKit
variable {w:E}{b n i h size g Z9 off n0 n1:Nat}{t:F_}{e:ZK}{j l:ZB}{f:Nat->Source}{L:List Source}{a:O_}
def Qy (f:Nat->Source)(t:F_)(k:Nat):List Source:=((List.range k).map f).filter λx=>!(x.e.toList == t.toList)
def Qj (f:Nat->Target)(t:F_)(k:Nat):List Target:=((List.range k).map f).filter λx=>!(x.e.toList == t.toList)
def zu{k:Nat}(h:((f k).e.toList == t.toList)=ZH):Qy f t (k+1)=Qy f t k:=by simp only[Qy,PH,ND,VC];simp[h]
def zv{k:Nat}(h:((f k).e.toList == t.toList)=ZA):Qy f t (k+1)=Qy f t k++[f k]:=by simp only[Qy,PH,ND,VC];simp[h]
def zx{f:Nat->Target}{k:Nat}(h:((f k).e.toList == t.toList)=ZH):Qj f t (k+1)=Qj f t k:=by simp only[Qj,PH,ND,VC];simp[h]
def zy{f:Nat->Target}{k:Nat}(h:((f k).e.toList == t.toList)=ZA):Qj f t (k+1)=Qj f t k++[f k]:=by simp only[Qj,PH,ND,VC];simp[h]
def gO (f:Nat->Source)(t:F_)(k:Nat):(Qy f t k).length<=k:=by have:=WF (λx:Source=>!(x.e.toList == t.toList)) ((List.range k).map f);simpa[Qy] using this
def kf (f:Nat->Target)(t:F_)(k:Nat):(Qj f t k).length<=k:=by have:=WF (λx:Target=>!(x.e.toList == t.toList)) ((List.range k).map f);simpa[Qj] using this
def ey{v:ZB}{f:List ZB}(h:ZY w b e size v n f)(hn:0<n):∃g j_,v=Y (Q (T g 0 Z)) n j_:=by
 rcases h.2 with⟨_,h0⟩|⟨g,j_,cur,rfl,_⟩
 {omega};{exact⟨g,j_,rfl⟩}
def aJ{v:ZB}{f:List ZB}(h:ZY w b e size v n f):∃a j_,v=Y a n j_:=by
 rcases h.2 with⟨rfl,rfl⟩|⟨g,j_,cur,rfl,_⟩
 {exact⟨_,_,rfl⟩};{exact⟨_,_,rfl⟩}
def df (w:E)(x y:ZB)(t:ZK):∀j u,[x,y][j]?=Q u->(ZV w (N #[x,y] t)).cell? (((T (z (A w)) 0 Z):Addr).add j)=Q u:=by
 intro j u b;rw[addr_add,IT];match j,b with
 |0,b=>simp at b;subst b;simp
 |1,b=>simp at b;subst b;simp
abbrev TR:=Target × Nat × Nat
def aZ (r:TR):List ZB:=[U r.1.e,Y (Q (T r.2.1 0 Z)) r.1.h r.2.2]
structure TRow (w:E)(base:Nat)(v:ZB)(R:List TR):Prop where
 u:ZY w base 86 2 v (B R) (R.flatMap aZ)
 q:∀r∈R,Q_ w r.2.1 0 r.1.h r.1.q/\(∃F,Cells w r.2.1 0 (r.1.h*3) F)/\Qz w r.2.1 102/\base<=r.2.1
 up:R.Pairwise λa b=>a.2.1≠b.2.1
def Qz.p{b:E}(h:Qz w g e)(hb:b.heap[g]?=w.heap[g]?):Qz b g e:=by obtain⟨c,f⟩:=h;exact⟨c,hb.k f⟩
def Q_.p{b:E}{f:Nat->Ins}(h:Q_ w g off n f)(hz:z (A w)<=z (A b))(hb:b.heap[g]?=w.heap[g]?):Q_ b g off n f:=by refine⟨lj h.1 hz,λi hi=>?_⟩;obtain⟨j,h1,h2⟩:=h.2 i hi;exact⟨(cq (a:=(T g _ Z)) hb).k j,(cq (a:=(T g _ Z)) hb).k h1,(cq (a:=(T g _ Z)) hb).k h2⟩
def Cells.p{f:E}{m:Nat}{F:Nat->ZB}(h:Cells w b off m F)(hz:z (A w)<=z (A f))(e:f.heap[b]?=w.heap[b]?):Cells f b off m F:=
 ⟨lj h.1 hz,λj g=>⟨(cq (a:=(T b (off+j) Z)) e).k (h.2 j g).1,(NF (a:=(T b (off+j) Z)) e).k (h.2 j g).2⟩⟩
def TRow.aa{g:E}{v:ZB}{R:List TR}(h:TRow w b v R)(hb:Below Z9 w g)(f:z (A w)<=Z9):TRow g b v R:=by refine⟨J_ h.u hb f,λr l=>?_,h.up⟩;obtain⟨h1,⟨F,h2⟩,i,j⟩:=h.q r l;have e:=hb.p r.2.1 (lj h1.1 f);exact⟨h1.p hb.size e,⟨F,h2.p hb.size e⟩,i.p e,j⟩
def TRow.set{X j:Nat}{v:ZB}{R:List TR}(h:TRow w b v R)(hX:X<b)(u:ZB):TRow (ZU w (T X j Z) u) b v R:=by refine⟨aH h.u hX u,λr i=>?_,h.up⟩;obtain⟨h1,⟨F,h2⟩,f,g⟩:=h.q r i;have e:(ZU w (T X j Z) u).heap[r.2.1]?=w.heap[r.2.1]?:=qh _ _ _ _ (by simp;omega);exact⟨h1.p (by simp) e,⟨F,h2.p (by simp) e⟩,f.p e,g⟩
def dq (w:E)(b:Nat):TRow w b (Y Z 0 0) []:=⟨CP _ _ _ _,λr f=>absurd f (by simp),List.Pairwise.nil⟩
def TRow.type{v:ZB}{R:List TR}(h:TRow w b v R):∀k,v.ownBlock=Q k->Qz w k 86:=by
 intro k f;rcases h.u.2 with⟨rfl,_⟩|⟨g,j_,i,rfl,_,j,_⟩
 {simp[Value.ownBlock] at f};{simp[Value.ownBlock] at f;subst f;exact⟨i,j⟩}
def TRow.more{n q:E}{f c:Nat}{v y:ZB}{R:List TR}{x:Target}(h:TRow w f v R)(hb:Below (z (A w)) w n)(hg:z (A w)<=g)(m:f<=g)
  (u:ZY n f 102 3 (Y (Q (T g 0 Z)) x.h c) x.h (bZ x.q x.h)) (s:ZY q f 86 2 y (B R+1) (R.flatMap aZ++aZ (x,g,c))) (i:n.grownBy q v.ownBlock):TRow q f y (R++[(x,g,c)]):=by
 have o:∀k,Qz n k 102->Q k≠v.ownBlock:=λk C e=>by have Z9:=(h.aa hb ly).type k e.c;exact fc C Z9 (by decide) rfl
 have t:∀r∈R,r.2.1<z (A w):=λr j=>(h.q r j).1.1;refine⟨by simpa using s,λr j=>?_,?_⟩;{rcases p8.1 j with j|j;{obtain⟨h1,⟨F,h2⟩,l,ZZ⟩:=(h.aa hb ly).q r j;have e:=i.p r.2.1 h1.1 (o _ l);exact⟨h1.p i.size e,⟨F,h2.p i.size e⟩,l.p e,ZZ⟩};{simp at j;subst j;obtain⟨h1,F,h2⟩:=kY u;have l:=jH u;have e:=i.p g h1.1 (o _ l);exact⟨h1.p i.size e,⟨F,h2.p i.size e⟩,l.p e,m⟩}};{rw[PC];refine⟨h.up,by simp,λa Z8 b p=>?_⟩;simp at p;subst p;have:=t a Z8;show a.2.1≠g;omega}
def Bn{b0 p s0 s1:Nat}{m h:ZK}{b n:ZB}{o q:List ZB}(s:ZY w b0 m s0 b n0 o)(h1:ZY w p h s1 n n1 q)(l:m≠h):b.ownBlock=Z\/b.ownBlock≠n.ownBlock:=by
 rcases s.2 with⟨rfl,_⟩|⟨g,j_,i,rfl,_,r,_⟩
 {exact .inl rfl}
 ·right;rcases h1.2 with⟨rfl,_⟩|⟨g',cap',f,rfl,_,j,_⟩
  {simp[Value.ownBlock]};{simp only[Value.ownBlock,ne_eq,L8];exact fc ⟨i,r⟩ ⟨f,j⟩ l}
structure Boxes (w:E)(h:Nat)(p0 p1 v0 v1:ZB):Prop where
 lt:h+2<z (A w)
 a0:ZW w (T h 0 Z)=Q p0
 a1:ZW w (T h 1 Z)=Q p1
 r0:ZW w (T (h+1) 0 Z)=Q (Y Z 0 0)/\ZX w (T (h+1) 0 Z)=ZA
 r1:ZW w (T (h+1) 1 Z)=Q (Y Z 0 0)/\ZX w (T (h+1) 1 Z)=ZA
 o0:ZW w (T (h+1+1) 0 Z)=Q v0/\ZX w (T (h+1+1) 0 Z)=ZA
 o1:ZW w (T (h+1+1) 1 Z)=Q v1/\ZX w (T (h+1+1) 1 Z)=ZA
def Boxes.aa{g:E}{m n:ZB}(b:Boxes w h m n j l)(hb:Below Z9 w g)(hB:h+3<=Z9):Boxes g h m n j l:=by have c:∀k o,k<Z9->ZW g (T k o Z)=ZW w (T k o Z):=λk o i=>hb.O (p:=(T k o Z)) i;have f:∀k o,k<Z9->ZX g (T k o Z)=ZX w (T k o Z):=λk o i=>hb.frozen (p:=(T k o Z)) i;exact⟨lj b.lt hb.size,(c _ _ (by omega)).k b.a0,(c _ _ (by omega)).k b.a1,⟨(c _ _ (by omega)).k b.r0.1,(f _ _ (by omega)).k b.r0.2⟩,⟨(c _ _ (by omega)).k b.r1.1,(f _ _ (by omega)).k b.r1.2⟩,⟨(c _ _ (by omega)).k b.o0.1,(f _ _ (by omega)).k b.o0.2⟩,⟨(c _ _ (by omega)).k b.o1.1,(f _ _ (by omega)).k b.o1.2⟩⟩
def Boxes.set0{i f g:ZB}(b:Boxes w h i f j g)(u:ZB):Boxes (ZU w (T (h+1+1) 0 Z) u) h i f u g:=by have e:∀k o,k≠h+1+1->ZW (ZU w (T (h+1+1) 0 Z) u) (T k o Z)=ZW w (T k o Z):=λk o l=>K_ _ _ _ _ (by simpa using λe=>l e.c);exact⟨by simpa using b.lt,(e _ _ (by omega)).k b.a0,(e _ _ (by omega)).k b.a1,⟨(e _ _ (by omega)).k b.r0.1,by simpa using b.r0.2⟩,⟨(e _ _ (by omega)).k b.r1.1,by simpa using b.r1.2⟩,⟨BO _ _ _ (by rw[b.o0.1];rfl),by simpa using b.o0.2⟩,⟨(sq _ _ _ _ (by simp)).k b.o1.1,by simpa using b.o1.2⟩⟩
def Boxes.set1{i g f:ZB}(b:Boxes w h i g f j)(u:ZB):Boxes (ZU w (T (h+1+1) 1 Z) u) h i g f u:=by have e:∀k o,k≠h+1+1->ZW (ZU w (T (h+1+1) 1 Z) u) (T k o Z)=ZW w (T k o Z):=λk o l=>K_ _ _ _ _ (by simpa using λe=>l e.c);exact⟨by simpa using b.lt,(e _ _ (by omega)).k b.a0,(e _ _ (by omega)).k b.a1,⟨(e _ _ (by omega)).k b.r0.1,by simpa using b.r0.2⟩,⟨(e _ _ (by omega)).k b.r1.1,by simpa using b.r1.2⟩,⟨(sq _ _ _ _ (by simp)).k b.o0.1,by simpa using b.o0.2⟩,⟨BO _ _ _ (by rw[b.o1.1];rfl),by simpa using b.o1.2⟩⟩
def Bo (w:E)(f b:ZB)(t:ZK):Boxes (ZV (ZV (ZV w (N #[f,b] t)) (N #[Y Z 0 0,Y Z 0 0] t)) (N #[Y Z 0 0,Y Z 0 0] t)) (z (A w)) f b (Y Z 0 0) (Y Z 0 0):=by
 have Z8:Below (z (A w)+1) (ZV w (N #[f,b] t)) (ZV (ZV (ZV w (N #[f,b] t)) (N #[Y Z 0 0,Y Z 0 0] t)) (N #[Y Z 0 0,Y Z 0 0] t)):=(br.alloc (by simp) _).alloc (by simp) _;have C:Below (z (A w)+1+1) (ZV (ZV w (N #[f,b] t)) (N #[Y Z 0 0,Y Z 0 0] t)) (ZV (ZV (ZV w (N #[f,b] t)) (N #[Y Z 0 0,Y Z 0 0] t)) (N #[Y Z 0 0,Y Z 0 0] t)):=br.alloc (by simp) _;have hz:z (A (ZV w (N #[f,b] t)))=z (A w)+1:=by simp
 have g:z (A (ZV (ZV w (N #[f,b] t)) (N #[Y Z 0 0,Y Z 0 0] t)))=z (A w)+1+1:=by simp
 refine⟨by simp,?_,?_,⟨?_,?_⟩,⟨?_,?_⟩,⟨?_,?_⟩,⟨?_,?_⟩⟩;{exact(Z8.O (p:=(T (z (A w)) 0 Z)) (eL _)).k (by simp)};{exact(Z8.O (p:=(T (z (A w)) 1 Z)) (eL _)).k (by simp)};{refine(C.O (p:=(T (z (A w)+1) 0 Z)) (eL _)).k ?_;rw[<-hz];simp};{refine(C.frozen (p:=(T (z (A w)+1) 0 Z)) (eL _)).k ?_;rw[<-hz];simp};{refine(C.O (p:=(T (z (A w)+1) 1 Z)) (eL _)).k ?_;rw[<-hz];simp};{refine(C.frozen (p:=(T (z (A w)+1) 1 Z)) (eL _)).k ?_;rw[<-hz];simp};all_goals
  rw[<-g];clear Z8 C hz g;generalize ZV (ZV w (N #[f,b] t)) (N #[Y Z 0 0,Y Z 0 0] t)=W;simp
def ij (n0:Nat)(f0:Nat->Source)(n1:Nat)(f1:Nat->Target)(t:F_):Int:=
 if aR n0 f0 n1 f1≠0 then 1 else if aA t=ZA then 2 else if (aF (nm0 f0) n0 t || aF (nm1 f1) n1 t)=ZA then 4 else 0
def eB (n0:Nat)(f0:Nat->Source)(n1:Nat)(f1:Nat->Target)(t:F_):List Source:=if ij n0 f0 n1 f1 t=0 then Qy f0 t n0 else []
def fa (n0:Nat)(f0:Nat->Source)(n1:Nat)(f1:Nat->Target)(t:F_):List Target:=if ij n0 f0 n1 f1 t=0 then Qj f1 t n1 else []
def jo{p:Nat->Bool}(h:aM p n=ZA)(hi:i<n):p i=ZA:=by
 cases e:p i with
 |false=>rfl
 |true=>rw[cS hi e] at h;cases h
def lU{f0:Nat->Source}{f1:Nat->Target}(h:aR n0 f0 n1 f1=0):aK (nm0 f0) n0=ZH/\aK (nm1 f1) n1=ZH/\∀i,i<n1->1<=(f1 i).h:=by
 unfold aR at h;split at h;· omega
 split at h;· omega
 split at h;· omega
 split at h;· omega
 split at h;· omega
 split at h;· omega
 split at h;· omega
 split at h;· omega
 rename_i b j _ _ f;refine⟨by simpa using b,by simpa using j,λi hi=>?_⟩;have g:=jo (by simpa using f) hi;have l:valid (f1 i).q (f1 i).h=ZH:=by simpa[cP] using g
 have:=(bJ l).2.1;omega
def iV{base':Nat}{v:ZB}{R:List TR}(h:TRow w b v R)(hb:base'<=b):TRow w base' v R:=by refine⟨aE h.u hb,λr g=>?_,h.up⟩;obtain⟨h1,h2,f,h4⟩:=h.q r g;exact⟨h1,h2,f,by omega⟩
structure Pair (w:E)(h:Nat)(p0 p1:ZB):Prop where
 lt:h+1<z (A w)
 a0:ZW w (T h 0 Z)=Q p0
 a1:ZW w (T h 1 Z)=Q p1
 r0:ZW w (T (h+1) 0 Z)=Q (Y Z 0 0)/\ZX w (T (h+1) 0 Z)=ZA
 r1:ZW w (T (h+1) 1 Z)=Q (Y Z 0 0)/\ZX w (T (h+1) 1 Z)=ZA
def Pair.lt'{g f:ZB}(b:Pair w h g f):h+2<=z (A w):=b.lt
def Pair.aa{g:E}(b:Pair w h l j)(hb:Below Z9 w g)(hB:h+2<=Z9):Pair g h l j:=by have c:∀k o,k<Z9->ZW g (T k o Z)=ZW w (T k o Z):=λk o i=>hb.O (p:=(T k o Z)) i;have f:∀k o,k<Z9->ZX g (T k o Z)=ZX w (T k o Z):=λk o i=>hb.frozen (p:=(T k o Z)) i;exact⟨lj b.lt hb.size,(c _ _ (by omega)).k b.a0,(c _ _ (by omega)).k b.a1,⟨(c _ _ (by omega)).k b.r0.1,(f _ _ (by omega)).k b.r0.2⟩,⟨(c _ _ (by omega)).k b.r1.1,(f _ _ (by omega)).k b.r1.2⟩⟩
def uN (w:E)(f b:ZB)(t:ZK):Pair (ZV (ZV w (N #[f,b] t)) (N #[Y Z 0 0,Y Z 0 0] t)) (z (A w)) f b:=by
 have Z8:Below (z (A w)+1) (ZV w (N #[f,b] t)) (ZV (ZV w (N #[f,b] t)) (N #[Y Z 0 0,Y Z 0 0] t)):=br.alloc (by simp) _;have hz:z (A (ZV w (N #[f,b] t)))=z (A w)+1:=by simp
 refine⟨by simp,(Z8.O (p:=(T (z (A w)) 0 Z)) (eL _)).k (by simp),(Z8.O (p:=(T (z (A w)) 1 Z)) (eL _)).k (by simp),⟨?_,?_⟩,⟨?_,?_⟩⟩;all_goals
  rw[<-hz];clear Z8 hz;generalize ZV w (N #[f,b] t)=W;simp
def uO (b off n0 c0:Nat)(a1:O_)(n1 c1:Nat)(f0:Nat->Source)(t:F_)(w:E)(hn0:(n0:Int)<=1048576)(j:RowSource w b off n0 f0):Calls Tryz.prog 27 #[ZJ #[Y (Q (T b off Z)) n0 c0,Y a1 n1 c1],U t] w λe q=>∃r:Int,e=ZI (J I r)/\decide (0<=r)=aF (nm0 f0) n0 t/\Below (z (A w)) w q:=by
 obtain⟨W,f⟩:∃W:E,ZV w (N #[Y (Q (T b off Z)) n0 c0,Y a1 n1 c1] 29)=W:=⟨_,rfl⟩
 obtain⟨n,-,-⟩:=nb1 f;have h:=ae f;clear f;have p:=ae (j.aa n ly);have k1:ZW W (T (z (A w)) 0 Z)=Q (Y (Q (T b off Z)) n0 c0):=by rw[<-h.i];simp
 clear j;go_enter WV,VT;go_wp2;rw[h.i];clear h;go_loop [5] (λi=>∃k:Nat,k<=n0/\i=J I k/\Hid (aF (nm0 f0) k t=ZA)) (λi=>n0 - (intOf i).toNat);case atStart=>exact⟨0,by omega,rfl,rfl⟩
 case round =>
  obtain⟨k,hk,rfl,o⟩:=hrel;by_cases l:k<n0
  ·obtain⟨d0,d1⟩:=p.2 k l;cases hb:((f0 k).e.toList == t.toList) with
   |true =>have m:=ae hb;go_wp2;go_ret;exact⟨k,rfl,by rw[eO (g:=nm0 f0) l m.i];simp,n.i⟩
   |false =>have m:=ae hb;go_wp2;exact⟨⟨k+1,by omega,by go_num,by show aF (nm0 f0) (k+1) t=ZA;rw[gI,o.i];exact m⟩,by simp[intOf];omega⟩
  ·have e:k=n0:=by omega
   subst e;go_wp2;go_ret;exact⟨-1,rfl,by rw[o.i];rfl,n⟩
def uP (a0:O_)(c0:Nat)(a1:O_)(n1 c1:Nat)(g:B_)(t:F_)(w:E):Calls Tryz.prog 27 #[ZJ #[Y a0 0 c0,Y a1 n1 c1],U t] w λe f=>∃r:Int,e=ZI (J I r)/\decide (0<=r)=aF g 0 t/\Below (z (A w)) w f:=by
 have b:=ae ((BS w).alloc ly (N #[Y a0 0 c0,Y a1 n1 c1] 29));go_enter WV,VT;go_wp2;go_loop [5] (λi=>i=J I 0) (λ_=>0);case atStart=>rfl
 case round =>subst hrel;go_wp2;go_ret;exact⟨-1,rfl,by rw[iS];rfl,b⟩
def uQ (a0:O_)(n0 c0:Nat)(a1:O_)(n1 c1:Nat)(f0:Nat->Source)(t:F_)(w:E)(hn0:(n0:Int)<=1048576)(f:Qx w a0 n0 f0):Calls Tryz.prog 27 #[ZJ #[Y a0 n0 c0,Y a1 n1 c1],U t] w λe h=>∃r:Int,e=ZI (J I r)/\decide (0<=r)=aF (nm0 f0) n0 t/\Below (z (A w)) w h:=by
 rcases f with rfl|⟨b,off,rfl,g⟩
 {exact uP a0 c0 a1 n1 c1 (nm0 f0) t w};{exact uO b off n0 c0 a1 n1 c1 f0 t w hn0 g}
def dfS:Source:=⟨⟨#[]⟩,⟨#[]⟩⟩
def dfT:Target:=⟨⟨#[]⟩,0,λ_=>⟨0,⟨#[]⟩,0⟩⟩
def dfR:TR:=(dfT,0,0)
def aV (L:List Source)(i:Nat):Source:=L.getD i dfS
def aW (L:List Target)(i:Nat):Target:=L.getD i dfT
def kZ{c:Nat}(h:ZY w b 82 2 (Y a (B L) c) (B L) (L.flatMap bF)):Qx w a (B L) (aV L):=by
 by_cases hn:B L=0;{exact .inl hn}
 ·obtain⟨g,c',e⟩:=ey h (by omega);simp at e;obtain⟨rfl,rfl⟩:=e;refine .inr ⟨g,0,rfl,(cV h).2,λi hi=>?_⟩;have f:L[i]?=Q (aV L i):=by rw[aV,CL,gq hi];rfl
  refine⟨?_,?_⟩;{have:=(bA h (j:=i*2) (u:=U (aV L i).e) (by have:=cT bF 2 (λ_=>rfl) L i 0 (by omega) _ f;simpa[bF] using this)).1;rwa[show 0+i*2=i*2 by omega]};{have:=(bA h (j:=i*2+1) (u:=U (aV L i).H) (by have:=cT bF 2 (λ_=>rfl) L i 1 (by omega) _ f;simpa[bF] using this)).1;rwa[show 0+i*2+1=i*2+1 by omega]}
def xY{R:List TR}(hi:i<B R):∃r,R[i]?=Q r/\r∈R:=⟨R[i],gq hi,gz hi⟩
def uR{c:Nat}{R:List TR}(h:TRow w b (Y a (B R) c) R):Qq w a (B R) (aW (R.map (·.1))):=by
 by_cases hn:B R=0;{exact .inl hn}
 ·obtain⟨g,c',e⟩:=ey h.u (by omega);simp at e;obtain⟨rfl,rfl⟩:=e;refine .inr ⟨g,0,rfl,(cV h.u).2,λi hi=>?_⟩;obtain⟨r,f,m⟩:=xY hi;have l:aW (R.map (·.1)) i=r.1:=by rw[aW,CL,LR,f];rfl
  rw[l];obtain⟨h1,_,_,_⟩:=h.q r m;refine⟨?_,Q (T r.2.1 0 Z),r.2.2,?_,h1.sl⟩;{have:=(bA h.u (j:=i*2) (u:=U r.1.e) (by have:=cT aZ 2 (λ_=>rfl) R i 0 (by omega) _ f;simpa[aZ] using this)).1;rwa[show 0+i*2=i*2 by omega]};{have:=(bA h.u (j:=i*2+1) (u:=Y (Q (T r.2.1 0 Z)) r.1.h r.2.2) (by have:=cT aZ 2 (λ_=>rfl) R i 1 (by omega) _ f;simpa[aZ] using this)).1;rwa[show 0+i*2+1=i*2+1 by omega]}
def JF{j:E}{v:ZB}{l:List ZB}{P:Nat->Prop}(h:ZY w b e size v n l)(p:Touch P w j)(o:∀k,v.ownBlock=Q k->¬ P k):ZY j b e size v n l:=by
 refine⟨h.1,?_⟩;rcases h.2 with h|⟨g,j_,f,i,q,m,r⟩
 {exact .inl h};{refine .inr ⟨g,j_,f,i,q,(p.p g ?_ (o g (by rw[i];rfl))).k m,r⟩;exact(CV.1 m).1}
def rF:∀a b:List UInt8,decide (0<Lib.compareBytes a b)=Op.bytesLess b a
 |[],[]=>by simp[Lib.compareBytes,Op.bytesLess]
 |[],_::_=>by simp[Lib.compareBytes,Op.bytesLess]
 |_::_,[]=>by simp[Lib.compareBytes,Op.bytesLess]
 |a::x,b::y=>by
  have g:=rF x y;rw[Lib.compareBytes,Op.bytesLess,<-g];by_cases h1:a<b
  ·have f:¬ b=a:=λe=>by subst e;exact(UInt8.lt_irrefl _ h1)
   have i:¬ b<a:=λh=>UInt8.lt_irrefl _ (UInt8.lt_trans h1 h);simp[h1,f,i]
  ·rw[eI h1]
   by_cases h2:b<a
   ·simp[h2]
   ·have f:a=b:=UInt8.le_antisymm (VY.1 h2) (VY.1 h1)
    subst f;simp[h1]
def iW{a b:F_}(h:aC b a=ZH):aC a b=ZA/\(a.toList == b.toList)=ZA:=by have h1:=oz a.data.toList b.data.toList;have h2:=lS a.data.toList b.data.toList;have f:=rF a.data.toList b.data.toList;simp only[aC,NJ] at h ⊢;rw[<-h1,<-h2];rw[<-f] at h;simp at h ⊢;omega
def jN{a b:F_}(h:aC b a=ZA):aC a b=ZH\/(aC a b=ZA/\(a.toList == b.toList)=ZH):=by have h1:=oz a.data.toList b.data.toList;have h2:=lS a.data.toList b.data.toList;have f:=rF a.data.toList b.data.toList;simp only[aC,NJ] at h ⊢;rw[<-h1,<-h2];rw[<-f] at h;simp only[NY,nD] at h ⊢;omega
structure JB (w:E)(b:Nat)(v0 v1:ZB):Prop where
 lt:b<z (A w)
 c0:ZW w (T b 0 Z)=Q v0
 c1:ZW w (T b 1 Z)=Q v1
 z0:ZX w (T b 0 Z)=ZA
 z1:ZX w (T b 1 Z)=ZA
def uS (w:E)(f b:ZB)(t:ZK):JB (ZV w (N #[f,b] t)) (z (A w)) f b:=⟨by simp,by simp,by simp,by simp,by simp⟩
def dD (L:List Source)(t:F_):Nat->Bool
 |0=>ZA
 |k+1=>dD L t k || aC t (aV L k).e
def ci (L:List Source)(x:Source)(t:F_):Nat->List Source
 |0=>[]
 |k+1=>if dD L t k=ZA/\aC t (aV L k).e=ZH then ci L x t k++[x]++[aV L k] else ci L x t k++[aV L k]
def ik (L:List Source)(x:Source)(t:F_):List Source:=if dD L t (B L)=ZH then ci L x t (B L) else ci L x t (B L)++[x]
def sI (L:List Source)(x:Source)(t:F_)(k:Nat):(ci L x t k).length<=k+1/\(dD L t k=ZA->(ci L x t k).length=k):=by
 induction k with
 |zero=>simp[ci]
 |succ j b =>
  simp only[ci,dD];cases hd:dD L t j with
  |false =>
   have h1:=b.2 hd;cases hl:aC t (aV L j).e with
   |true=>simp[h1]
   |false=>simp[h1]
  |true =>have h1:=b.1;simp;omega
def iC (n0:Nat)(f0:Nat->Source)(n1:Nat)(f1:Nat->Target)(t tx:F_):Int:=
 if aR n0 f0 n1 f1≠0 then 1 else if aA t=ZA\/2000<(tx.size:Int) then 2 else if 200<=(Qy f0 t n0).length+(Qj f1 t n1).length then 3 else 0
def eZ (n0:Nat)(f0:Nat->Source)(n1:Nat)(f1:Nat->Target)(t tx:F_):List Source:=if iC n0 f0 n1 f1 t tx=0 then ik (Qy f0 t n0) ⟨t,tx⟩ t else []
def fC (n0:Nat)(f0:Nat->Source)(n1:Nat)(f1:Nat->Target)(t tx:F_):List Target:=if iC n0 f0 n1 f1 t tx=0 then Qj f1 t n1 else []
def dh (h:i<B L):aV L i=L[i]:=by rw[aV,CL,gq h];rfl
def iD{g:B_}(h:∀i j,i<j->j<n->aC (g i) (g j)=ZH):aK g n=ZH:=by
 induction n with
 |zero=>rfl
 |succ k f =>
  have h1:=f (λi j b hj=>h i j b (by omega));cases k with
  |zero=>rfl
  |succ m =>show(aK g (m+1) && _)=ZH;rw[h1];exact h m (m+1) (by omega) (by omega)
def nB:∀y∈Qy f t n,(y.e.toList == t.toList)=ZA:=by intro y b;simpa using(U9.1 b).2
def lV {L:List Source}{x:Source}{t:F_}{i:Nat}(hi:i<=B L)(h1:∀m,m<i->aC (nm0 (aV L) m) t=ZH):∀k,k<=i->dD L t k=ZA/\ci L x t k=L.take k
 |0,_=>⟨rfl,rfl⟩
 |k+1,hk=>by
  obtain⟨f,g⟩:=lV (x:=x) hi h1 k (by omega);have b:aC t (aV L k).e=ZA:=(iW (h1 k (by omega))).1;refine⟨?_,?_⟩
  ·show(dD L t k || aC t (aV L k).e)=ZA
   rw[f,b];rfl
  ·show(if _ then _ else _)=_
   rw[eI (by rw[b];simp),g,dh (by omega)];exact TF (by omega)
def qw {L:List Source}{x:Source}{t:F_}{i:Nat}(hi:i<=B L)(h1:∀m,m<i->aC (nm0 (aV L) m) t=ZH)(h2:∀m,i<=m->m<B L->aC (nm0 (aV L) m) t=ZA)(j:∀y∈L,(y.e.toList == t.toList)=ZA):∀d,i+d+1<=B L->dD L t (i+d+1)=ZH/\ci L x t (i+d+1)=L.take i++x::(L.drop i).take (d+1)
 |0,hd=>by
  obtain⟨a1,g⟩:=lV (x:=x) hi h1 i ly;have b:i<B L:=by omega
  have l:aC t (aV L i).e=ZH:=by
   cases h:aC t (aV L i).e with
   |true=>rfl
   |false =>
    rcases jN h with f|⟨_,f⟩
    ·have:=h2 i ly b
     rw[show nm0 (aV L) i=(aV L i).e from rfl,f] at this;cases this
    ·rw[dh b,j _ (gz b)] at f
     cases f
  refine⟨?_,?_⟩
  ·show(dD L t i || aC t (aV L i).e)=ZH
   rw[l];simp
  ·show(if _ then _ else _)=_
   have e:(L.drop i).take (0+1)=[L[i]]:=by rw[UX b];rfl
   rw[eT ⟨a1,l⟩,g,dh b,e];simp
 |d+1,hd=>by
  obtain⟨a1,g⟩:=qw (x:=x) hi h1 h2 j d (by omega);refine⟨?_,?_⟩
  ·show(dD L t (i+d+1) || _)=ZH
   rw[a1];rfl
  ·show(if _ then _ else _)=_
   rw[eI (by rw[show i+(d+1)=i+d+1 from rfl,a1];simp)];show ci L x t (i+d+1)++[aV L (i+d+1)]=_;have n:d+1<(L.drop i).length:=by rw[NN];omega
   rw[g,dh (by omega),<-TF n,VZ];simp[U6]
def xZ{x:Source}(hi:i<=B L)(h1:∀m,m<i->aC (nm0 (aV L) m) t=ZH)(h2:∀m,i<=m->m<B L->aC (nm0 (aV L) m) t=ZA)(h:∀y∈L,(y.e.toList == t.toList)=ZA):ik L x t=L.take i++x::L.drop i:=by
 by_cases f:i=B L;{subst f;obtain⟨a1,b⟩:=lV (x:=x) hi h1 (B L) ly;unfold ik;rw[eI (by rw[a1];simp),b];simp}
 ·obtain⟨d,g⟩:∃d,B L=i+d+1:=⟨B L - i - 1,by omega⟩
  obtain⟨a1,b⟩:=qw (x:=x) hi h1 h2 h d (by omega);unfold ik;have e:(L.drop i).take (d+1)=L.drop i:=NU (by rw[NN];omega);rw[g,eT a1,b,e]
def fW (n0:Nat)(f0:Nat->Source)(n1:Nat)(f1:Nat->Target)(t:F_)(b:Bool):Int:=
 if aR n0 f0 n1 f1≠0 then 1 else if aA t=ZA\/b=ZA then 2 else if 200<=(Qy f0 t n0).length+(Qj f1 t n1).length then 3 else 0
def dZ (g:B_)(t:F_):Nat->Bool
 |0=>ZA
 |k+1=>dZ g t k || aC t (g k)
def ez {b:Type}(g:B_)(F:Nat->b)(x:b)(t:F_):Nat->List b
 |0=>[]
 |k+1=>if dZ g t k=ZA/\aC t (g k)=ZH then ez g F x t k++[x]++[F k] else ez g F x t k++[F k]
def jg {b:Type}(g:B_)(F:Nat->b)(x:b)(t:F_)(n:Nat):List b:=if dZ g t n=ZH then ez g F x t n else ez g F x t n++[x]
def uT{f:Type}(g:B_)(F:Nat->f)(x:f)(t:F_)(k:Nat):(ez g F x t k).length<=k+1/\(dZ g t k=ZA->(ez g F x t k).length=k):=by
 induction k with
 |zero=>simp[ez]
 |succ j b =>
  simp only[ez,dZ];cases hd:dZ g t j with
  |false =>
   have h1:=b.2 hd;cases hl:aC t (g j) with
   |true=>simp[h1]
   |false=>simp[h1]
  |true =>have h1:=b.1;simp;omega
def uU{b h:Type}(p:b->h)(g:B_)(F:Nat->b)(x:b)(t:F_)(k:Nat):(ez g F x t k).map p=ez g (λi=>p (F i)) (p x) t k:=by
 induction k with
 |zero=>rfl
 |succ j f =>simp only[ez];split<;>simp[f]
def Ey{b f:Type}(p:b->f)(g:B_)(F:Nat->b)(x:b)(t:F_)(n:Nat):(jg g F x t n).map p=jg g (λi=>p (F i)) (p x) t n:=by
 unfold jg;split;{exact uU p g F x t n};{rw[ND,uU];rfl}
def kJ {l:Type}{g:B_}{L:List l}{d x:l}{t:F_}{i:Nat}(hi:i<=B L)(h1:∀m,m<i->aC (g m) t=ZH):∀k,k<=i->dZ g t k=ZA/\ez g (λj=>L.getD j d) x t k=L.take k
 |0,_=>⟨rfl,rfl⟩
 |k+1,hk=>by
  obtain⟨f,h⟩:=kJ (d:=d) (x:=x) hi h1 k (by omega);have b:aC t (g k)=ZA:=(iW (h1 k (by omega))).1;have e:L.getD k d=L[k]'(by omega):=by rw[CL,gq (by omega)];rfl
  refine⟨?_,?_⟩
  ·show(dZ g t k || aC t (g k))=ZA
   rw[f,b];rfl
  ·show(if _ then _ else _)=_
   rw[eI (by rw[b];simp),h];show L.take k++[L.getD k d]=_;rw[e];exact TF (by omega)
def oO {p:Type}{g:B_}{L:List p}{d x:p}{t:F_}{i:Nat}(hi:i<=B L)(h1:∀m,m<i->aC (g m) t=ZH)(h2:∀m,i<=m->m<B L->aC (g m) t=ZA)(n:∀m,m<B L->((g m).toList == t.toList)=ZA):∀e,i+e+1<=B L->dZ g t (i+e+1)=ZH/\ez g (λj=>L.getD j d) x t (i+e+1)=L.take i++x::(L.drop i).take (e+1)
 |0,hd=>by
  obtain⟨a1,l⟩:=kJ (d:=d) (x:=x) hi h1 i ly;have b:i<B L:=by omega
  have o:aC t (g i)=ZH:=by
   cases h:aC t (g i) with
   |true=>rfl
   |false =>
    rcases jN h with f|⟨_,f⟩
    ·have:=h2 i ly b
     rw[f] at this;cases this
    ·rw[n _ b] at f
     cases f
  have e:L.getD i d=L[i]:=by rw[CL,gq b];rfl
  refine⟨?_,?_⟩
  ·show(dZ g t i || aC t (g i))=ZH
   rw[o];simp
  ·show(if _ then _ else _)=_
   have r:(L.drop i).take (0+1)=[L[i]]:=by rw[UX b];rfl
   rw[eT ⟨a1,o⟩,l];show L.take i++[x]++[L.getD i d]=_;rw[e,r];simp
 |k+1,hd=>by
  obtain⟨a1,l⟩:=oO (d:=d) (x:=x) hi h1 h2 n k (by omega);have q:k+1<(L.drop i).length:=by rw[NN];omega
  have e:L.getD (i+k+1) d=L[i+k+1]'(by omega):=by rw[CL,gq (by omega)];rfl
  refine⟨?_,?_⟩
  ·show(dZ g t (i+k+1) || _)=ZH
   rw[a1];rfl
  ·show(if _ then _ else _)=_
   rw[eI (by rw[show i+(k+1)=i+k+1 from rfl,a1];simp)];show ez g (λj=>L.getD j d) x t (i+k+1)++[L.getD (i+k+1) d]=_;rw[l,e,<-TF q,VZ];simp[U6]
def x7{f:Type}{g:B_}{L:List f}{d x:f}(hi:i<=B L)(h1:∀m,m<i->aC (g m) t=ZH)(h2:∀m,i<=m->m<B L->aC (g m) t=ZA)(l:∀m,m<B L->((g m).toList == t.toList)=ZA):jg g (λj=>L.getD j d) x t (B L)=L.take i++x::L.drop i:=by
 by_cases h:i=B L;{subst h;obtain⟨a1,b⟩:=kJ (d:=d) (x:=x) hi h1 (B L) ly;unfold jg;rw[eI (by rw[a1];simp),b];simp}
 ·obtain⟨k,n⟩:∃k,B L=i+k+1:=⟨B L - i - 1,by omega⟩
  obtain⟨a1,b⟩:=oO (d:=d) (x:=x) hi h1 h2 l k (by omega);unfold jg;have e:(L.drop i).take (k+1)=L.drop i:=NU (by rw[NN];omega);rw[n,eT a1,b,e]
def dy{L:List Target}(h:i<B L):aW L i=L[i]:=by rw[aW,CL,gq h];rfl
def Ju{g:B_}(h:∀i j,i<j->j<n->aC (g i) (g j)=ZH):aK g n=ZH:=by
 induction n with
 |zero=>rfl
 |succ k f =>
  have h1:=f (λi j b hj=>h i j b (by omega));cases k with
  |zero=>rfl
  |succ m =>show(aK g (m+1) && _)=ZH;rw[h1];exact h m (m+1) (by omega) (by omega)
def jO (K:List Target)(x:Target)(t:F_):List Target:=jg (nm1 (aW K)) (λj=>K.getD j dfT) x t (B K)
