import Derived.Test.YtpmnbjkjpnclaaaGreatDoorKY
import Derived.Test.YtpmnbjkjpnclaaaGreatDoorJD
set_option linter.unusedSimpArgs false
open Go renaming Addr.mk->N,Value.slice->Y,Value.string->U,Value.agg->ZG,Obj.cells->J,World->M,Value->ZB,World.heap->Q,World.cell?->A,World.frozen?->z
open Option renaming none->Z,some->T
open Bool renaming false->ZA
open Array renaming size->I
namespace Go.Proofs.YtpmnbjkjpnclaaaGreatDoor.Vp
open RowKit Ca
variable {j x:Nat}{t:TypeId}{ZS:Nat × Nat}{f b:Option (Nat × Array ZB)}{g:ZB}
def MkA (w:M)(e:Ending)(b:M):Prop:=∃(a:Option Addr) (n c:Nat) (f:Nat->aj) (k:Int) (t:ByteArray) (ra:Option Addr) (h g:Nat),e=.returned (.tuple #[ZG #[Y a n c],ZG #[.int .i64 k,U t,Y ra h g]])/\HAc (I (Q w)) b a n c f/\n<=400/\(∀i,i<n->FitI (f i))/\Below (I (Q w)) w b
theorem El (b n0 c0 n1 c1:Nat)(a0:Option Addr)(f0:Nat->Source)(a1:Option Addr)(f1:Nat->Target)(w:M)(nm:ByteArray)(hH:HSp b w a0 n0 f0 a1 n1 f1):Calls Tryz.prog 21 #[ZG #[Y a0 n0 c0,Y a1 n1 c1],U nm] w λe f=>MkA w e f:=by have h0:=hH.hn0;have h1:=hH.hn1;refine(tG (S:=⟨n0,f0,n1,f1⟩) (a0:=a0) (a1:=a1) (c0:=c0) (c1:=c1) w nm (hH.sl w (Agr.refl _ _)).1 (hH.sl w (Agr.refl _ _)).2 (by show n0<=_;omega) (by show n1<=_;omega) (λi hi=>by have:=(hH.az i hi).1;unfold aY;show(f1 i).m<=_;omega) (λi hi j l=>by have:=(hH.az i hi).2 j l;unfold maxLen;show((f1 i).D j).s.size<=_;omega)).mono ?_;rintro e f ⟨a,c,R,rv,rfl,n,m,⟨ra,p,rfl,-⟩,o⟩;obtain⟨h2,h,g⟩:=Cj n m;exact⟨a,R.length,c,_,_,_,ra,_,p,rfl,h2,h,g,o⟩
section
variable {xs:List Nat}{w W W':M}{R rs ra sb ab q q' n0 c0 n1 c1 n c:Nat}{a0 a1 a:Option Addr}{f0:Nat->Source}{f1:Nat->Target}{f:Nat->aj}
theorem tK{W:M}{i:Nat}{c m:Array ZB}{b:TypeId}{f:Nat × Nat}(h:W.heap[i]?=T (J c t ZS))(g:W.heap[j]?=T (J m b f))(l:t≠b):i≠j:=λe=>by rw[e,g] at h;simp at h;exact l h.2.1.symm
end
structure RgM (W v:M)(z7 z8:Option (Nat × Array ZB)):Prop where
 b:Below (I (Q W)) W v
 a:∀p cs,z7=T (p,cs)->I (Q W)<=p/\v.heap[p]?=T (J cs 37 (0,0))
 r:∀p cs,z8=T (p,cs)->I (Q W)<=p/\v.heap[p]?=T (J cs 39 (0,0))
section
variable {W v v':M}{z7 z8:Option (Nat × Array ZB)}{p:Nat}{cs:Array ZB}
theorem RgM.aa (h:RgM W v z7 z8)(f:Below (I (Q v)) v v'):RgM W v' z7 z8 :=
 ⟨h.b.trans (f.mono h.b.size),λp cs e=>⟨(h.a p cs e).1,(f.block p (ar (h.a p cs e).2)).trans (h.a p cs e).2⟩,λp cs e=>⟨(h.r p cs e).1,(f.block p (ar (h.r p cs e).2)).trans (h.r p cs e).2⟩⟩
theorem RgM.newR (h:RgM W v z7 z8)(cs:Array ZB):RgM W (v.alloc (J cs 39)) z7 (T (I (Q v),cs)):=by
 have f:=h.aa ((BS v).alloc ly (J cs 39));refine⟨f.b,f.a,λp c e=>?_⟩;cases e
 exact⟨h.b.size,gM v _⟩
theorem RgM.endR (h:RgM W v z7 (T (p,cs)))(u0 u1 u2:ZB):RgM W (((v.setCell (N p 0 Z) u0).setCell (N p 1 Z) u1).setCell (N p 2 Z) u2) z7 Z:=by obtain⟨h1,h2⟩:=h.r p _ rfl;refine⟨((h.b.setCell (p:=(N p 0 Z)) h1 u0).setCell (p:=(N p 1 Z)) h1 u1).setCell (p:=(N p 2 Z)) h1 u2,λq c e=>?_,λq c e=>by cases e⟩;obtain⟨g,f⟩:=h.a q c e;have ne:=tK f h2 (by decide);exact⟨g,(((qh _ (N p 2 Z) u2 q ne).trans (qh _ (N p 1 Z) u1 q ne)).trans (qh v (N p 0 Z) u0 q ne)).trans f⟩
theorem RgM.cR{u0 u1 u2:ZB}(h:RgM W v z7 (T (p,#[u0,u1,u2]))):A v (N p 0 Z)=T u0/\A v (N p 1 Z)=T u1/\A v (N p 2 Z)=T u2/\z v (N p 0 Z)=ZA/\z v (N p 1 Z)=ZA/\z v (N p 2 Z)=ZA/\p<I (Q v):=by have k:=(h.r p _ rfl).2;refine⟨?_,?_,?_,?_,?_,?_,ar k⟩<;>simp[World.cell?,World.frozen?,k]
theorem jG{m:Nat}{e:TypeId}(f:OfTy v m e)(b:v.heap[p]?=T (J cs t ZS))(g:e≠t):m≠p:=λi=>by obtain⟨c,z',h⟩:=f;rw[i,b] at h;simp at h;exact g h.2.1.symm
end
structure AV where
 a:Option Addr
 n:Nat
 c:Nat
 f:Nat->aj
def acV (r:AV):ZB:=Y r.a r.n r.c
def tL (r:AV):Prop:=r.n<=451/\∀i,i<r.n->FitK 1 (r.f i)
structure L7 (xs:List Nat)(w:M)(R sb lo:Nat)(W:M)(q n0 c0 n1 c1:Nat)(a0:Option Addr)(f0:Nat->Source)(a1:Option Addr)(f1:Nat->Target)(u:ZB)(L ZQ:List AV)(z7 z8:Option (Nat × Array ZB)):Prop where
 rd:Rd W R q
 o:Only R w W
 zs:W.heap[I (Q w)]?=T (J #[Y Z 0 0,Y Z 0 0] 27 (0,0))
 sx:W.heap[sb]?=T (J #[Y a0 n0 c0,Y a1 n1 c1] 27 (0,0))
 qs:QSp (I (Q w)) xs W a0 n0 f0 a1 n1 f1
 qm:∀r∈ZQ,QAc (I (Q w)) xs W r.a r.n r.c r.f/\tL r
 lm:∀r∈L,r∈ZQ
 row:W.ownsRow (I (Q w)) 37 1 u L.length (L.map acV)
 rl:∀g,u.ownBlock=T g->g<lo/\g∈xs
 za:∀p cs,z7=T (p,cs)->(lo<=p/\p∈xs)/\W.heap[p]?=T (J cs 37 (0,0))
 zr:∀p cs,z8=T (p,cs)->(lo<=p/\p∈xs)/\W.heap[p]?=T (J cs 39 (0,0))
 ll:R<I (Q w)/\(I (Q w))<sb/\sb<lo/\lo<=I (Q W)
 bx:R∈xs/\(I (Q w))∈xs/\sb∈xs
 xl:∀x∈xs,x<I (Q W)
 nn:∃g c,u=Y (T (N g 0 Z)) L.length c
section
variable {xs:List Nat}{w W V:M}{R sb lo q q' n0 c0 n1 c1 p:Nat}{a0 a1:Option Addr}{f0:Nat->Source}{f1:Nat->Target}{u v:ZB}{L ZQ:List AV}{z7 z8:Option (Nat × Array ZB)}{cs:Array ZB}
theorem L7.fr (h:L7 xs w R sb lo W q n0 c0 n1 c1 a0 f0 a1 f1 u L ZQ z7 z8)(l:Only R w V)(hR:Rd V R q')(hF:Fr xs W V)(o:V.heap[I (Q w)]?=W.heap[I (Q w)]?)(i:V.heap[sb]?=W.heap[sb]?)(s:∀g,u.ownBlock=T g->V.heap[g]?=W.heap[g]?)(t:∀p cs,f=T (p,cs)->(lo<=p/\p∈xs)/\V.heap[p]?=T (J cs 37 (0,0)))(n:∀p cs,b=T (p,cs)->(lo<=p/\p∈xs)/\V.heap[p]?=T (J cs 39 (0,0))):L7 xs w R sb lo V q' n0 c0 n1 c1 a0 f0 a1 f1 u L ZQ f b :=
 ⟨hR,l,o.trans h.zs,i.trans h.sx,h.qs.fr hF,λr j=>⟨(h.qm r j).1.fr hF,(h.qm r j).2⟩,h.lm,cy h.row λk m _=>s k m,h.rl,t,n,⟨h.ll.1,h.ll.2.1,h.ll.2.2.1,nD h.ll.2.2.2 hF.1⟩,h.bx,λx i=>lj (h.xl x i) hF.1,h.nn⟩
theorem L7.ac (h:L7 xs w R sb lo W q n0 c0 n1 c1 a0 f0 a1 f1 u L ZQ z7 z8)(b:Only R W V)(hR:Rd V R q'):L7 xs w R sb lo V q' n0 c0 n1 c1 a0 f0 a1 f1 u L ZQ z7 z8:=by
 obtain⟨l1,l2,l3,l4⟩:=h.ll;exact h.fr (h.o.trans b) hR (Fr.ac b h.bx.1) (b.block _ (ar h.zs) (by omega)) (b.block _ (ar h.sx) (by omega)) (λg f=>b.block g (h.row.lt g f).2 (by have:=(h.row.lt g f).1;omega))
  (λp cs e=>⟨(h.za p cs e).1,(b.block p (ar (h.za p cs e).2) (by have:=(h.za p cs e).1.1;omega)).trans (h.za p cs e).2⟩)
  (λp cs e=>⟨(h.zr p cs e).1,(b.block p (ar (h.zr p cs e).2) (by have:=(h.zr p cs e).1.1;omega)).trans (h.zr p cs e).2⟩)
theorem L7.aa (h:L7 xs w R sb lo W q n0 c0 n1 c1 a0 f0 a1 f1 u L ZQ z7 z8)(b:Below (I (Q W)) W V):L7 xs w R sb lo V q n0 c0 n1 c1 a0 f0 a1 f1 u L ZQ z7 z8:=h.ac (Only.q b) (h.rd.aa b ly)
theorem L7.more (g:L7 xs w R sb lo W q n0 c0 n1 c1 a0 f0 a1 f1 u L ZQ z7 z8)(n:Below (I (Q W)) W V)(B:I (Q W)<=x)(ZR:x<I (Q V)):L7 (x::xs) w R sb lo V q n0 c0 n1 c1 a0 f0 a1 f1 u L ZQ z7 z8:=by
 have h:=g.aa n;have l:∀{b:Nat} {f:M},Agr b f W->ij xs b (I (Q f))->ij (x::xs) b (I (Q f)):=λ{b f} h2 j y i=>by
  rcases BO.1 i with rfl|i;{exact .inr (nD h2.1 B)};{exact j y i}
 obtain⟨b,f,m,h1,h2,j⟩:=g.qs;refine⟨h.rd,h.o,h.zs,h.sx,⟨b,f,m,h1,h2.fr j (Fr.aa n),l h2 j⟩,λr ZS=>?_,h.lm,h.row,λg s=>⟨(h.rl g s).1,.tail _ (h.rl g s).2⟩,λp cs e=>⟨⟨(h.za p cs e).1.1,.tail _ (h.za p cs e).1.2⟩,(h.za p cs e).2⟩,λp cs e=>⟨⟨(h.zr p cs e).1.1,.tail _ (h.zr p cs e).1.2⟩,(h.zr p cs e).2⟩,h.ll,⟨.tail _ h.bx.1,.tail _ h.bx.2.1,.tail _ h.bx.2.2⟩,λy i=>?_,h.nn⟩;{obtain⟨⟨b,f,m,h1,h2,j⟩,t⟩:=g.qm r ZS;exact⟨⟨b,f,m,h1,h2.fr j (Fr.aa n),l h2 j⟩,t⟩};{rcases BO.1 i with rfl|i;{exact ZR};{exact h.xl y i}}
theorem L7.newA (h:L7 xs w R sb lo W q n0 c0 n1 c1 a0 f0 a1 f1 u L ZQ z7 z8)(cs:Array ZB):L7 (I (Q W)::xs) w R sb lo (W.alloc (J cs 37)) q n0 c0 n1 c1 a0 f0 a1 f1 u L ZQ (T (I (Q W),cs)) z8:=by
 have b:=h.more ((BS W).alloc ly (J cs 37)) ly (by simp);refine b.fr b.o b.rd (Fr.refl _ _) rfl rfl (λ_ _=>rfl) (λp c e=>?_) b.zr;cases e
 exact⟨⟨h.ll.2.2.2,.head _⟩,gM W _⟩
theorem L7.newR (h:L7 xs w R sb lo W q n0 c0 n1 c1 a0 f0 a1 f1 u L ZQ z7 z8)(cs:Array ZB):L7 (I (Q W)::xs) w R sb lo (W.alloc (J cs 39)) q n0 c0 n1 c1 a0 f0 a1 f1 u L ZQ z7 (T (I (Q W),cs)):=by
 have b:=h.more ((BS W).alloc ly (J cs 39)) ly (by simp);refine b.fr b.o b.rd (Fr.refl _ _) rfl rfl (λ_ _=>rfl) b.za λp c e=>?_;cases e
 exact⟨⟨h.ll.2.2.2,.head _⟩,gM W _⟩
theorem L7.set (h:L7 xs w R sb lo W q n0 c0 n1 c1 a0 f0 a1 f1 u L ZQ z7 z8)(s:x∈xs)(l:lo<=x)(y:ZB)(m:∀p cs,f=T (p,cs)->(lo<=p/\p∈xs)/\(W.setCell (N x j Z) y).heap[p]?=T (J cs 37 (0,0)))(i:∀p cs,b=T (p,cs)->(lo<=p/\p∈xs)/\(W.setCell (N x j Z) y).heap[p]?=T (J cs 39 (0,0))):L7 xs w R sb lo (W.setCell (N x j Z) y) q n0 c0 n1 c1 a0 f0 a1 f1 u L ZQ f b:=by obtain⟨l1,l2,r,l4⟩:=h.ll;have B:=(cM lo W).setCell (p:=(N x j Z)) l y;have far:∀k,k<lo->(W.setCell (N x j Z) y).heap[k]?=W.heap[k]?:=λk hk=>qh _ _ _ _ (by show k≠x;omega);exact h.fr (h.o.then (B.mono (by omega))) (h.rd.low B (by omega)) (Fr.set s y) (far _ (by omega)) (far _ r) (λg n=>far g (h.rl g n).1) m i
theorem L7.setA (h:L7 xs w R sb lo W q n0 c0 n1 c1 a0 f0 a1 f1 u L ZQ (T (p,#[g])) z8)(y:ZB):L7 xs w R sb lo (W.setCell (N p 0 Z) y) q n0 c0 n1 c1 a0 f0 a1 f1 u L ZQ (T (p,#[y])) z8:=by
 obtain⟨h1,h2⟩:=h.za p _ rfl;refine h.set h1.2 h1.1 y (λq c e=>?_) λq c e=>?_
 ·cases e
  exact⟨h1,bJ h2 _⟩
 {obtain⟨f,b⟩:=h.zr q c e;exact⟨f,(qh W (N p 0 Z) y q (tK b h2 (by decide))).trans b⟩}
theorem L7.endR (h:L7 xs w R sb lo W q n0 c0 n1 c1 a0 f0 a1 f1 u L ZQ z7 (T (p,cs)))(g f l:ZB):L7 xs w R sb lo (((W.setCell (N p 0 Z) g).setCell (N p 1 Z) f).setCell (N p 2 Z) l) q n0 c0 n1 c1 a0 f0 a1 f1 u L ZQ z7 Z:=by
 obtain⟨h1,h2⟩:=h.zr p _ rfl;have b:∀{ZK:M} {j:Nat} {y:ZB},L7 xs w R sb lo ZK q n0 c0 n1 c1 a0 f0 a1 f1 u L ZQ z7 Z->(∃c,ZK.heap[p]?=T (J c 39 (0,0)))->L7 xs w R sb lo (ZK.setCell (N p j Z) y) q n0 c0 n1 c1 a0 f0 a1 f1 u L ZQ z7 Z/\∃c,(ZK.setCell (N p j Z) y).heap[p]?=T (J c 39 (0,0)):=λ{ZK j y} k ⟨c,i⟩ =>⟨k.set h1.2 h1.1 y (λq c e=>⟨(k.za q c e).1,(qh ZK (N p j Z) y q (tK (k.za q c e).2 i (by decide))).trans (k.za q c e).2⟩) (λ_ _ e=>by cases e),⟨_,bJ i y⟩⟩
 have n:L7 xs w R sb lo W q n0 c0 n1 c1 a0 f0 a1 f1 u L ZQ z7 Z:=h.fr h.o h.rd (Fr.refl _ _) rfl rfl (λ_ _=>rfl) h.za (λ_ _ e=>by cases e);obtain⟨r,m⟩:=b (j:=0) (y:=g) n ⟨_,h2⟩;obtain⟨s,t⟩:=b (j:=1) (y:=f) r m;exact(b (j:=2) (y:=l) s t).1
theorem L7.cA{b:ZB}(h:L7 xs w R sb lo W q n0 c0 n1 c1 a0 f0 a1 f1 u L ZQ (T (p,#[b])) z8):A W (N p 0 Z)=T b/\z W (N p 0 Z)=ZA/\p<I (Q W):=by have k:=(h.za p _ rfl).2;refine⟨?_,?_,ar k⟩<;>simp[World.cell?,World.frozen?,k]
theorem L7.cR{b f:ZB}(h:L7 xs w R sb lo W q n0 c0 n1 c1 a0 f0 a1 f1 u L ZQ z7 (T (p,#[g,b,f]))):A W (N p 0 Z)=T g/\A W (N p 1 Z)=T b/\A W (N p 2 Z)=T f/\z W (N p 0 Z)=ZA/\z W (N p 1 Z)=ZA/\z W (N p 2 Z)=ZA/\p<I (Q W):=by have k:=(h.zr p _ rfl).2;refine⟨?_,?_,?_,?_,?_,?_,ar k⟩<;>simp[World.cell?,World.frozen?,k]
theorem L7.cS (h:L7 xs w R sb lo W q n0 c0 n1 c1 a0 f0 a1 f1 u L ZQ z7 z8):A W (N sb 0 Z)=T (Y a0 n0 c0)/\A W (N sb 1 Z)=T (Y a1 n1 c1)/\z W (N sb 0 Z)=ZA/\z W (N sb 1 Z)=ZA/\sb<I (Q W):=by have k:=h.sx;refine⟨?_,?_,?_,?_,ar k⟩<;>simp[World.cell?,World.frozen?,k]
theorem L7.add (h:L7 xs w R sb lo W q n0 c0 n1 c1 a0 f0 a1 f1 u L ZQ z7 z8){r:AV}{b:Nat}(l:HAc b W r.a r.n r.c r.f)(m:tL r)(hb:I (Q w)<=b)(j:∀x∈xs,x<b):L7 xs w R sb lo W q n0 c0 n1 c1 a0 f0 a1 f1 u L (r::ZQ) z7 z8 :=
 ⟨h.rd,h.o,h.zs,h.sx,h.qs,λx g=>by
  rcases BO.1 g with rfl|g
  ·exact⟨QAc.new l hb λy i=>.inl (j y i),m⟩
  ·exact h.qm x g,λx g=>.tail _ (h.lm x g),h.row,h.rl,h.za,h.zr,h.ll,h.bx,h.xl,h.nn⟩
theorem L7.sput{m0 k0 b k1:Nat}{b0 f:Option Addr}{j:Nat->Source}{m:Nat->Target}(h:L7 xs w R sb lo W q n0 c0 n1 c1 a0 f0 a1 f1 u L ZQ z7 z8)(t:QSp (I (Q w)) xs W b0 m0 j f b m):L7 xs w R sb lo ((W.setCell (N sb 0 Z) (Y b0 m0 k0)).setCell (N sb 1 Z) (Y f b k1)) q m0 k0 b k1 b0 j f m u L ZQ z7 z8:=by obtain⟨s,y,C,ZR⟩:=h.ll;have B:=((cM (I (Q w)) W).setCell (p:=(N sb 0 Z)) (by show _<=sb;omega) (Y b0 m0 k0)).setCell (p:=(N sb 1 Z)) (by show _<=sb;omega) (Y f b k1);have far:∀k,k≠sb->((W.setCell (N sb 0 Z) (Y b0 m0 k0)).setCell (N sb 1 Z) (Y f b k1)).heap[k]?=W.heap[k]?:=λk l=>(qh _ _ _ _ l).trans (qh _ _ _ _ l);have g:Fr xs W ((W.setCell (N sb 0 Z) (Y b0 m0 k0)).setCell (N sb 1 Z) (Y f b k1)):=(Fr.set h.bx.2.2 _).trans (Fr.set h.bx.2.2 _);have i:=h.sx;exact⟨h.rd.low B s,h.o.then B,(far _ (by omega)).trans h.zs,by simp[World.setCell,JV,i],t.fr g,λr n=>⟨(h.qm r n).1.fr g,(h.qm r n).2⟩,h.lm,cy h.row λk _ ZS=>far k (jG ZS h.sx (by decide)),h.rl,λp cs e=>⟨(h.za p cs e).1,(far p (by have:=(h.za p cs e).1.1;omega)).trans (h.za p cs e).2⟩,λp cs e=>⟨(h.zr p cs e).1,(far p (by have:=(h.zr p cs e).1.1;omega)).trans (h.zr p cs e).2⟩,⟨s,y,C,nD ZR g.1⟩,h.bx,λx i=>lj (h.xl x i) g.1,h.nn⟩
theorem L7.app (h:L7 xs w R sb lo W q n0 c0 n1 c1 a0 f0 a1 f1 u L ZQ z7 z8){r:AV}(P:r∈ZQ){ZK:M}(ZJ:Below (I (Q W)) W ZK)(p:ZK.grownBy V u.ownBlock)(l:V.ownsRow (I (Q w)) 37 1 v (L.length+1) (L.map acV++[acV r]))(K:v.ownBlock=u.ownBlock∨v.ownBlock=T (I (Q ZK))):∃m,L7 m w R sb (I (Q V)) V q n0 c0 n1 c1 a0 f0 a1 f1 v (L++[r]) ZQ Z Z:=by
 have i:=h.aa ZJ;obtain⟨ZP,O,l3,l4⟩:=i.ll;have kp:∀k,k<I (Q ZK)->k ∉ xs->V.heap[k]?=ZK.heap[k]?:=λk ZS f=>p.block k ZS (λe=>f (i.rl k e.symm).2);have H:Fr xs ZK V:=⟨p.size,kp⟩
 have ne:∀{k:Nat} {cs:Array ZB},ZK.heap[k]?=T (J cs 27 (0,0))->V.heap[k]?=ZK.heap[k]?:=λ{k cs} ZS=>p.block k (ar ZS) (λe=>jG (eN i.row k e.symm) ZS (by decide) rfl);have B:Below (I (Q w)) ZK V:=bg (cM (I (Q w)) ZK) p (by omega) (λk e=>(i.row.lt k e).1);have ZR:∀m,(∀x∈xs,x∈m)->(∀x∈m,x∈xs∨x=I (Q ZK))->(∀x∈m,x<I (Q V))->(∀g,v.ownBlock=T g->g∈m)->L7 m w R sb (I (Q V)) V q n0 c0 n1 c1 a0 f0 a1 f1 v (L++[r]) ZQ Z Z:=λm G ZN X ZL=>by
  have ZO:∀{b:Nat} {n:M},Agr b n ZK->ij xs b (I (Q n))->ij m b (I (Q n)):=λ{b n} h2 ZI y D=>by
   rcases ZN y D with D|rfl;{exact ZI y D};{exact .inr h2.1}
  obtain⟨b,n,C,E,s,t⟩:=i.qs
  refine⟨i.rd.low B ZP,i.o.then B,(ne i.zs).trans i.zs,(ne i.sx).trans i.sx,⟨b,n,C,E,s.fr t H,ZO s t⟩,λx f=>?_,λx f=>?_,by simpa using l,λg j=>⟨(l.lt g j).2,ZL g j⟩,(λ_ _ e=>by cases e),(λ_ _ e=>by cases e),⟨ZP,O,lj (ar i.sx) p.size,nX _⟩,⟨G _ h.bx.1,G _ h.bx.2.1,G _ h.bx.2.2⟩,X,by
   rw[show(L++[r]).length=L.length+1 by simp]
   exact cU l (Nat.succ_pos _)⟩
  {obtain⟨⟨b,n,C,E,s,t⟩,S⟩:=i.qm x f;exact⟨⟨b,n,C,E,s.fr t H,ZO s t⟩,S⟩};{rcases BC.1 f with f|f;{exact h.lm x f};{rw[hU.1 f];exact P}}
 have ZM:∀x∈xs,x<I (Q V):=λx f=>lj (i.xl x f) p.size;rcases K with e|e;{exact⟨xs,ZR xs (λ_ h=>h) (λ_ h=>.inl h) ZM (λg j=>(h.rl g (e ▸ j)).2)⟩}
 ·refine⟨I (Q ZK)::xs,ZR _ (λ_ h=>.tail _ h) (λx f=>?_) (λx f=>?_) (λg j=>?_)⟩;{rcases BO.1 f with rfl|f;{exact .inr rfl};{exact .inl f}};{rcases BO.1 f with rfl|f;{exact(l.lt _ e).2};{exact ZM x f}}
  ·rw[j] at e;cases e
   exact .head _
theorem L7.lift (h:L7 xs w R sb lo W q n0 c0 n1 c1 a0 f0 a1 f1 u L ZQ z7 z8):L7 xs w R sb (I (Q W)) W q n0 c0 n1 c1 a0 f0 a1 f1 u L ZQ Z Z :=
 ⟨h.rd,h.o,h.zs,h.sx,h.qs,h.qm,h.lm,h.row,λg b=>⟨(h.row.lt g b).2,(h.rl g b).2⟩,(λ_ _ e=>by cases e),(λ_ _ e=>by cases e),⟨h.ll.1,h.ll.2.1,ar h.sx,nX _⟩,h.bx,h.xl,h.nn⟩
end
section
variable {ops:Array Oper}{rest:List Oper}{o:Oper}{a:Act}{ZN:Exit->Act->M->Prop}{xs:List Nat}{w W:M}{R sb lo q n0 c0 n1 c1 lc:Nat}{a0 a1 la:Option Addr}{f0:Nat->Source}{f1:Nat->Target}{L ZQ:List AV}{z7 z8:Option (Nat × Array ZB)}
theorem L7.wpA (p:o.guard=Z)(s x:Operand)(ZR:o.op=.call { callee:=.builtin .append,args:=#[s,x],argTypes:=#[23,23] })(C:L7 xs w R sb lo W q n0 c0 n1 c1 a0 f0 a1 f1 (Y la L.length lc) L ZQ z7 z8){r:AV}(u:r∈ZQ)(y:a.eval s=Y la L.length lc)(E:a.eval x=Y (T (N (I (Q W)) 0 Z)) 1 1)(hL:L.length<=100)
  (h:∀v' b n,Hid (L7 n w R sb (I (Q b)) b q n0 c0 n1 c1 a0 f0 a1 f1 v' (L++[r]) ZQ Z Z)->wpList Tryz.prog ops ZN rest (a.put o.dst v') b):wpList Tryz.prog ops ZN (o::rest) a (W.alloc (J #[acV r] 37)):=by
 obtain⟨ZS,hi,l,m,j⟩:=JT CJ;have hz:=C.ll;have B:=(BS W).alloc ly (J #[acV r] 37);refine bG _ p s x 23 ZR (I (Q w)) 37 ZS (ZG #[Y Z 0 0]) 1 24 Tryz.underlying23 hi l m j rfl (by decide) (Y la L.length lc) L.length (L.map acV) y (C.aa B).row (N (I (Q W)) 0 Z) 1 1 [acV r] E rfl (ed W #[acV r] 37) (by simp[acV,Value.oneCell']) (by unfold maxLen;omega) (by omega) (by have:=B.size;omega) ?_;intro v' b g f i;obtain⟨D,t⟩:=C.app u B f g i;exact h v' b D t
end
