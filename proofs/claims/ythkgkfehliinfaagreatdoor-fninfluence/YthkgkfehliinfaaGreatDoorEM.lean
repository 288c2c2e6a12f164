import Derived.Test.YthkgkfehliinfaaGreatDoorEK
import Derived.Test.YthkgkfehliinfaaGreatDoorFY
import Derived.Deep.Cut
set_option linter.all false
set_option maxRecDepth 1000000
set_option maxHeartbeats 8000000
open Go renaming Addr.mk->Q,Value.slice->Y,Value.string->U,Value.int->J,Value.bool->ZF,Value.agg->ZJ,Obj.cells->N,IntKind.i64->I,World->E,Value->ZB,TypeId->ZK,Ending.returned->ZI,World.heap->z,World.ownsRow->ZX,World.alloc->ZV,World.cell?->ZW,World.setCell->ZU
open Option renaming none->Z,some->T
open Bool renaming false->ZA,true->ZH
open Array renaming size->B
open List renaming length->A
namespace Go.Proofs.YthkgkfehliinfaaGreatDoor.Vp
open Tryz RowKit
variable {W wr w:E}{b n l g size y:Nat}{t e:ZK}{i:ZB}
structure SB (w0:E)(hb:Nat)(s0 s1:ZB)(w:E)(q_:List F_)(pv:ZB)(wr:E)(ys:List aD)(ls:List Lk)(jh:List zt)(L:List SM)(md or st:ZB)(g6 c6 g7 c7:Nat):Prop where
 si:SI w0 hb s0 s1 wr q_ jh L md or st
 r6:ZX wr (B (z w)) 141 3 (Y (T (Q g6 0 Z)) (A ys) c6) (A ys) (mG ys)
 r7:ZX wr (B (z w)) 171 3 (Y (T (Q g7 0 Z)) (A ls) c7) (A ls) (eG ls)
 ap:∀m∈L,m.done=ZH->m.sv.ownBlock≠T g7
 kp:wr.heap[B (z w)]?=T (N #[pv] 37 (0,0))
 kr:wr.heap[B (z w)+1]?=T (N #[J I 0,U ⟨#[]⟩,Y Z 0 0] 60 (0,0))
 kx:KS (B (z w0)) XN w wr
structure SR (w0:E)(S:x_)(hb:Nat)(s0 s1:ZB)(w:E)(n:Nat)(q_:List F_)(tg:Nat)(pv:ZB)(L0:List SM)(R0:Out (Turn × List Lk))(wr:E)(ys:List aD)(ls:List Lk)(jh:List zt)(L:List SM)(md or st:ZB)(g6 c6 g7 c7:Nat):Prop where
 sb:SB w0 hb s0 s1 w q_ pv wr ys ls jh L md or st g6 c6 g7 c7
 rel:fM L q_ jh
 pg:PG S q_ jh
 rg:RG S jh ys ls
 room:fm S q_ jh (201 - (A ys))
 run:bT S (aT S n q_) tg (201 - (A ys)) jh ys ls=R0
 le:A ys<=200
 ext:LExt (B (z w)) L0 L
def TBx (w:E)(g:Nat)(over:Bool)(code:Int)(text:F_)(ask:Bool)(name:F_)(k_:Int):Prop:=w.heap[g]?=T (N #[ZF over,J I code,U text,ZF ask,U name,J I k_] 138 (0,0))
def TBx.cells{over:Bool}{code:Int}{text:F_}{ask:Bool}{name:F_}{k_:Int}(h:TBx w g over code text ask name k_):ZW w (Q g 0 Z)=T (ZF over)/\ZW w (Q g 1 Z)=T (J I code)/\ZW w (Q g 2 Z)=T (U text)/\ZW w (Q g 3 Z)=T (ZF ask)/\ZW w (Q g 4 Z)=T (U name):=by unfold TBx at h;refine⟨?_,?_,?_,?_,?_⟩;all_goals simp[World.cell?,h]
def pM (w0:E)(hb:Nat)(s0 s1:ZB)(q_:List F_)(L:List SM)(w:E)(e:Ending)(w':E):Out (Turn × List Lk)->Prop
 |.inl (made',x)=>∃b f h i g c,e=ZI (.tuple #[ZJ #[J I x.1.M,U x.1.H,Y Z 0 0],Y (T (Q g 0 Z)) x.2.length c])/\SI w0 hb s0 s1 w' q_ made' b f h i/\fM b q_ made'/\ZX w' (B (z w)) 171 3 (Y (T (Q g 0 Z)) x.2.length c) x.2.length (eG x.2)/\(∀m∈b,m.done=ZH->m.sv.ownBlock≠T g)/\LExt (B (z w)) L b/\KS (B (z w0)) XN w w'
 |.inr (.inl c)=>∃a k sv,e=ZI (.tuple #[jl (jx c) (Y a (A c) k),sv])/\jb w0 hb w' (jx c) (Y a (A c) k)/\KS (B (z w0)) XN w w'
 |.inr (.inr d)=>∃sv,e=ZI (.tuple #[jl (jy d) (Y Z 0 0),sv])/\jb w0 hb w' (jy d) (Y Z 0 0)/\KS (B (z w0)) XN w w'
def jz (w:E)(b g i:ZB)(t:ZK):∀j u,[b,g,i][j]?=T u->(ZV w (N #[b,g,i] t)).cell? (((Q (B (z w)) 0 Z):Addr).add j)=T u:=by
 intro j u h;rw[addr_add];have hj:j<3:=by
  rcases OT j 3 with f|f;{exact f};{rw[NU (by simp;omega)] at h;cases h}
 rcases(show j=0\/j=1\/j=2 by omega) with rfl|rfl|rfl;all_goals
  simp at h;subst h;simp
def bR{f g:ZB}(h:w.heap[b]?=T (N #[f,g,i] t (0,0))):b<B (z w)/\ZW w (Q b 0 Z)=T f/\ZW w (Q b 1 Z)=T g/\ZW w (Q b 2 Z)=T i/\∀j,w.frozen? (Q b j Z)=ZA:=by refine⟨ah h,?_,?_,?_,λj=>?_⟩;all_goals simp[World.cell?,World.frozen?,h]
section
variable {w0 w w':E}{hb:Nat}{s0 s1 md or st:ZB}{q_:List F_}{jh:List zt}{L:List SM}
def SI.grown{v:ZB}{o:Nat}{D:List ZB}(h:SI w0 hb s0 s1 w q_ jh L md or st)(f:w.grownBy w' v.ownBlock)(G:ZX w o e size v n D)(hB:B (z w0)<=o)(p:e≠9/\e≠168/\e≠112)(ZT:∀m∈L,m.done=ZH->∀k,v.ownBlock=T k->m.sv.ownBlock≠T k):SI w0 hb s0 s1 w' q_ jh L md or st:=by
 have ZY:=af G;have s:∀(i:Nat) (q:Array ZB) (t:ZK) (fz:Nat × Nat),w.heap[i]?=T (Obj.cells q t fz)->t≠e->w'.heap[i]?=w.heap[i]?:=λi q t fz hi j=>f.p i (ah hi) λl=>by obtain⟨_,_,cs2,r⟩:=ZY i l.c;exact j (ar hi r)
 have b:∀{size n:Nat} {t:ZK} {u:ZB} {Z8:List ZB},ZX w (B (z w0)) t size u n Z8->t≠e->ZX w' (B (z w0)) t size u n Z8:=λZZ j=>b9 ZZ λk g=>by obtain⟨_,_,q,r⟩:=af ZZ k g;exact s _ _ _ _ r j
 refine⟨h.ak.k ⟨f.os,f.tape,f.output,f.size,λk g=>f.p k (lj g h.lt) λl=>?_⟩,h.hbB,h.ab.ad (s _ _ _ _ h.ab p.2.2.c),b h.X p.2.1.c,b h.ror p.1.c,b h.rst p.1.c,h.apart,λm x y=>b9 (h.V m x y) λk g=>?_⟩;{have:=(ZY k l.c).1;omega};{obtain⟨_,C,q,r⟩:=af (h.V m x y) k g;exact f.p k C λl=>ZT m x y k l.c g}
def KS.grow{v:ZB}{p:List ZB}{ZY:Nat}(h:KS ZY XN W w)(o:w.grownBy w' v.ownBlock)(l:w.ownsRow b e size v n p)(q:B (z W)<=b)(g:ZY<=B (z W)):KS ZY XN W w':=
 h.k (ZL:=λi=>v.ownBlock=T i) (KS.of_grown o (nX g h.aa.size) λj f=>⟨nX (nX g q) (af l j f).1,.inl f⟩) λi hi m=>by have:=(af l i m).1;omega
def SB.aa{g:E}{m:ZB}{n:List aD}{o:List Lk}{j i p C:Nat}(h:SB w0 hb s0 s1 W q_ m wr n o jh L md or st j i p l)(b:Below C wr g)(f:B (z wr)<=C):SB w0 hb s0 s1 W q_ m g n o jh L md or st j i p l:=
 ⟨h.si.aa b f,J_ h.r6 b f,J_ h.r7 b f,h.ap,(b.p _ (lj (ah h.kp) f)).k h.kp,(b.p _ (lj (ah h.kr) f)).k h.kr,h.kx.to (KS.q b f h.si.lt)⟩
def SB.more{X ZQ G ZS ZN:E}{ZL v3 O:ZB}{j:List aD}{g:List Lk}{S P:Nat}{r:aD}{l:Lk}(h:SB w0 hb s0 s1 W q_ ZL X j g jh L md or st y S n P)(M:B (z w0)<=B (z W))
  (b3:Below (B (z X)) X ZQ) (ZO:ZX G (B (z W)) 141 3 v3 (A j+1) (mG j++[ZF r.has,J I r.M,U r.H])) (ZR:ZQ.grownBy G (T y))
  (p:Below (B (z G)) G ZS) (o4:ZX ZN (B (z W)) 171 3 O (A g+1) (eG g++[U l.e,ZF l.ask,ZF l.has])) (ZY:ZS.grownBy ZN (T n)) (D:O.ownBlock=T n\/O.ownBlock=T (B (z ZS))) :
  ∃s u f t,v3=Y (T (Q s 0 Z)) (j++[r]).length u/\O=Y (T (Q f 0 Z)) (g++[l]).length t/\SB w0 hb s0 s1 W q_ ZL ZN (j++[r]) (g++[l]) jh L md or st s u f t:=by
 have b:=h.aa b3 ly;have bt:B (z W)<B (z ZQ):=ah b.kp;have ZM:B (z W)+1<B (z ZQ):=ah b.kr;have ex:=af b.r6 y rfl;obtain⟨hg6,hg6l,cs6,i⟩:=ex
 have s3:=b.si.grown (v:=Y (T (Q y 0 Z)) (A j) S) ZR b.r6 M ⟨by decide,by decide,by decide⟩ (λm Z8 x k q e=>by
  cases q
  obtain⟨_,_,cs,ZT⟩:=af (b.si.V m Z8 x) y e
  exact absurd (ar i ZT) (by decide))
 have k3:=KS.grow (v:=Y (T (Q y 0 Z)) (A j) S) b.kx ZR b.r6 ly M;have aq:ZX G (B (z W)) 171 3 (Y (T (Q n 0 Z)) (A g) P) (A g) (eG g):=b9 b.r7 λk q=>by obtain⟨_,V,cs,ZT⟩:=af b.r7 k q;exact ZR.p k V λe=>by cases e;exact absurd (ar i ZT) (by decide)
 have ZP:=(ZR.p (B (z W)) bt λe=>by cases e;exact absurd (ar i b.kp) (by decide)).k b.kp;have R:=(ZR.p (B (z W)+1) ZM λe=>by have ZZ:=IH e;exact absurd (ar i (ZZ ▸ b.kr)) (by decide)).k b.kr;obtain⟨s,u,cu6,rfl,-⟩:=ZO.2.resolve_left (λh=>by omega);have s4:=s3.aa p ly;have H:=J_ aq p ly;obtain⟨hg7,hg7l,cs7,o⟩:=af H n rfl;have K:=(p.p (B (z W)) (ah ZP)).k ZP;have C:=(p.p (B (z W)+1) (ah R)).k R;have s5:=s4.grown (v:=Y (T (Q n 0 Z)) (A g) P) ZY H M ⟨by decide,by decide,by decide⟩ (λm Z8 x k q e=>by cases q;exact h.ap m Z8 x e);have k5:=KS.grow (v:=Y (T (Q n 0 Z)) (A g) P) (k3.to (KS.q p ly s3.lt)) ZY H ly M;obtain⟨f,t,cu7,rfl,-⟩:=o4.2.resolve_left (λh=>by omega);have e6:(j++[r]).length=A j+1:=by simp
 have e7:(g++[l]).length=A g+1:=by simp
 refine⟨s,u,f,t,by rw[e6],by rw[e7],s5,?_,?_,λm Z8 x e=>?_,?_,?_,k5⟩;{rw[e6,FY];refine b9 (J_ ZO p ly) λk q=>?_;obtain⟨_,V,cs,ZT⟩:=af (J_ ZO p ly) k q;exact ZY.p k V λe=>by cases e;exact absurd (ar o ZT) (by decide)};{rw[e7,CF];exact o4};{rcases D with D|D;{have ZZ:f=n:=IH (show T f=T n from D);exact h.ap m Z8 x (ZZ ▸ e)};{have ZZ:f=B (z ZS):=IH (show T f=T (B (z ZS)) from D);have:=(af (s4.V m Z8 x) _ e).2.1;omega}};{exact(ZY.p (B (z W)) (ah K) λe=>by cases e;exact absurd (ar o K) (by decide)).k K};{exact(ZY.p (B (z W)+1) (ah C) λe=>by have ZZ:=IH e;exact absurd (ar o (ZZ ▸ C)) (by decide)).k C}
def SI.ag{Z8:Array ZB}{fz:Nat × Nat}(h:SI w0 hb s0 s1 w q_ jh L md or st)(i:w.heap[b]?=T (N Z8 t fz))(g:t≠9/\t≠168/\t≠112/\t≠171)(s:B (z w0)<=b)(j:Nat)(u:ZB):SI w0 hb s0 s1 (ZU w (Q b j Z) u) q_ jh L md or st:=by
 have f:∀{size n:Nat} {l:ZK} {o:ZB} {r:List ZB},ZX w (B (z w0)) l size o n r->t≠l->(ZU w (Q b j Z) u).ownsRow (B (z w0)) l size o n r:=λq p=>aB q (λe=>by
  obtain⟨_,_,cs2,ZZ⟩:=af q b e
  exact p (ar i ZZ)) _ _
 refine⟨h.ak.setCell s u,h.hbB,h.ab.ad (qh _ _ _ _ λe=>?_),f h.X g.2.1,f h.ror g.1,f h.rst g.1,h.apart,λm x y=>f (h.V m x y) g.2.2.2⟩;simp at e;subst e;exact g.2.2.1 (ar i h.ab)
def SB.step{p:E}{t g j:ZB}{ZZ:List aD}{u:List Lk}{r s:Nat}{b:List zt}{n:List SM}(h:SB w0 hb s0 s1 W q_ t wr ZZ u jh L md or st y r l s)(f:KS (B (z w0)) XN wr p)(Z8:SI w0 hb s0 s1 p q_ b n g i j)(hX:LExt (B (z wr)) L n):SB w0 hb s0 s1 W q_ t p ZZ u b n g i j y r l s:=by
 refine⟨Z8,b9 h.r6 λk o=>?_,b9 h.r7 λk o=>?_,λm D ZT e=>?_,(f.ad _ _ _ _ h.kp (by decide) (by decide) (by decide) λh=>h).k h.kp,(f.ad _ _ _ _ h.kr (by decide) (by decide) (by decide) λh=>h).k h.kr,h.kx.to f⟩;{obtain⟨_,_,G,q⟩:=af h.r6 k o;exact f.ad _ _ _ _ q (by decide) (by decide) (by decide) λh=>h};{obtain⟨_,_,G,q⟩:=af h.r7 k o;exact f.ad _ _ _ _ q (by decide) (by decide) (by decide) λh=>h};{rcases hX.sn m D ZT with⟨m0,C,x,ZY⟩|h1;{exact h.ap m0 C x (by rw[ZY];exact e)};{have h2:=h1 _ e;have h3:=(af h.r7 l rfl).2.1;omega}}
def SB.ag{o:ZB}{s:List aD}{p:List Lk}{x:Nat}{r:Array ZB}(h:SB w0 hb s0 s1 W q_ o wr s p jh L md or st g l x n)(f:wr.heap[b]?=T (N r t (0,0)))(q:t≠9/\t≠168/\t≠112/\t≠171)(hB:B (z w0)<=B (z W))(hb1:B (z W)+2<=b)(m:b≠g)(j:Nat)(u:ZB):SB w0 hb s0 s1 W q_ o (ZU wr (Q b j Z) u) s p jh L md or st g l x n/\(ZU wr (Q b j Z) u).heap[b]?=T (N (r.setIfInBounds j u) t (0,0)):=by refine⟨⟨h.si.ag f q (by omega) j u,aB h.r6 (λe=>m (IH e).c) _ _,aB h.r7 (λe=>?_) _ _,h.ap,(qh _ _ _ _ (show (B (z W))≠b by omega)).k h.kp,(qh _ _ _ _ (show (B (z W))+1≠b by omega)).k h.kr,h.kx.k (KS.setCell (X:=λi=>i=b) _ (by omega) (Or.inl rfl) u) λi hi y=>by have e2:i=b:=y;omega⟩,aw f u⟩;obtain⟨_,_,cs2,ZZ⟩:=af h.r7 b e;exact q.2.2.2 (ar f ZZ)
def F7{S:x_}{x:zt}(h:EG S x):∃g m j f l,dt x=⟨g,m,[]⟩/\gF x=⟨j,f,l⟩/\(fL S x.e=ZA/\g=4/\j=ZA/\f=0/\l=⟨#[]⟩\/fL S x.e=ZH/\j=ZH/\f=g/\l=m):=by
 unfold dt gF fL;rw[ja,ja];rcases h.m with⟨b,_,_,i,hi,_⟩|⟨b,o,n,_,p,h1⟩|⟨b,_,h1⟩
 {exact⟨x.M,x.H,ZH,x.M,x.H,by rw[eI (by omega)],by simp[b],.inr ⟨by rw[hi];rfl,rfl,rfl,rfl⟩⟩};{exact⟨4,x.e,ZA,0,⟨#[]⟩,by rw[eT b],by simp[b,o,n],.inl ⟨by rw[p,h1];rfl,rfl,rfl,rfl,rfl⟩⟩};{exact⟨x.M,x.H,ZH,x.M,x.H,by rw[eI (by omega)],by simp[b],.inr ⟨by rw[h1];simp,rfl,rfl,rfl⟩⟩}
end
section
variable {w0:E}{S:x_}{a0 a1:O_}{c0 c1 hb:Nat}{q_:List F_}
def F8 (C:pJ w0 S a0 a1)(n:Nat)(HK:oe w0 S hb (Y a0 S.n0 c0) (Y a1 S.n1 c1) n)(ZZ:List zt)(L0:List SM)(JH Id JL:ZB)(w:E)(a:O_)(j_ tg:Nat)(Lc:A q_+n=60)(h:SI w0 hb (Y a0 S.n0 c0) (Y a1 S.n1 c1) w q_ ZZ L0 JH Id JL)(hrel:fM L0 q_ ZZ)(hp:PG S q_ ZZ)(JN:fm S q_ ZZ 201)(Kj:MT S q_)(JJ:tg<S.n1)(Kn:SlIns w0 a (S.f1 tg).h (S.f1 tg).u):Calls Tryz.prog 140 #[.pointer (T (Q hb 0 Z)),ZJ #[Y a (S.f1 tg).h j_]] w λe w'=>pM w0 hb (Y a0 S.n0 c0) (Y a1 S.n1 c1) q_ L0 w e w' (bT S (aT S n q_) tg 201 ZZ [] []):=by
 obtain⟨i6,Lb,Ki,Kr,Kt⟩:=lE An;obtain⟨i7,KU,Kx,Ku,Kl⟩:=lE FW;obtain⟨hok,hc1,JG⟩:=bJ (C.ok.u tg JJ);obtain⟨pb,po,rfl,KT⟩:∃pb po,a=T (Q pb po Z)/\Q_ w0 pb po (S.f1 tg).h (S.f1 tg).u:=by
  rcases Kn with h|⟨b,off,e,hr⟩
  {omega};{exact⟨b,off,e,hr⟩}
 have Ly:=ae KT;have CC:=ae C;have Lv:=ae HK;have la:B (z w0)<=B (z w):=h.lt;have Lt:=ae (FZ C.ok JJ);obtain⟨R0,JZ⟩:∃R0,R0=bT S (aT S n q_) tg 201 ZZ [] []:=⟨_,rfl⟩
 rw[<-JZ];have Lz:=ae JZ;obtain⟨W2,hW⟩:∃W:E,ZV (ZV w (N #[Y (T (Q pb po Z)) (S.f1 tg).h j_] 37)) (N #[J I 0,U ⟨#[]⟩,Y Z 0 0] 60)=W:=⟨_,rfl⟩
 obtain⟨A2,kp,kr,z2⟩:=nb2 hW;have HW:=ae hW;clear hW;have J8:=ae (h.aa A2 ly);have KM:=ae hrel;have Kg:=ae hp;have Kp:=ae JN;have Ll:=ae Kj;clear h C HK KT Kn JZ hrel hp JN Kj;go_enter func140,ntmps140;go_upto_region 1 with fail;rw[HW.i];clear HW;have hzW2:B (z w)+2<=B (z W2):=by omega
 clear z2;have A3:=ae ((BS W2).alloc ly (N #[] 141));have O6:=ae (oH W2 141 3);go_upto_region 2 with fail;generalize World.alloc W2 _=W3 at A3 O6 ⊢;have A4:=ae ((BS W3).alloc ly (N #[] 171));have O7:=ae (oH W3 171 3);go_wp2_with fail;generalize World.alloc W3 _=W4 at A4 O7 ⊢;have ph:=ae (A3.k (A4.P A3.size));have AW:=ae (A2.k (ph.P A2.size));have hw32:B (z W2)<=B (z W3):=A3.size;have Kv:Hid (SB w0 hb (Y a0 S.n0 c0) (Y a1 S.n1 c1) w q_ (Y (T (Q pb po Z)) (S.f1 tg).h j_) W4 [] [] ZZ L0 JH Id JL (B (z W2)) 0 (B (z W3)) 0):=by refine⟨J8.aa ph ly,aE (J_ O6 A4 ly) (by omega),aE O7 (by omega),λm hm hd e=>?_,(ph.p _ (by omega)).k kp,(ph.p _ (by omega)).k kr,KS.q AW ly la⟩;have:=(af (J8.V m hm hd) _ e).2.1;omega
 have Ks:Hid (SR w0 S hb (Y a0 S.n0 c0) (Y a1 S.n1 c1) w n q_ tg (Y (T (Q pb po Z)) (S.f1 tg).h j_) L0 R0 W4 [] [] ZZ L0 JH Id JL (B (z W2)) 0 (B (z W3)) 0):=
  ⟨Kv,KM,Kg,iv S ZZ,Kp,Lz.c,DW _,LExt.refl _ _⟩
 clear Kv O6 O7 A3 A4 A2 ph AW J8 KM Kg Kp kp kr;go_loopg [6,7] 202 (λg v6 v7 wr=>∃f G jh L md or st g6 c6 g7 c7,v6=Y (T (Q g6 0 Z)) (List.length (α:=aD) f) c6/\v7=Y (T (Q g7 0 Z)) (List.length (α:=Lk) G) c7/\Hid (SR w0 S hb (Y a0 S.n0 c0) (Y a1 S.n1 c1) w n q_ tg (Y (T (Q pb po Z)) (S.f1 tg).h j_) L0 R0 wr f G jh L md or st g6 c6 g7 c7)/\201 - (A f)<=g);case atStart=>exact⟨[],[],ZZ,L0,JH,Id,JL,_,_,_,_,rfl,rfl,Ks,by simp⟩
 case round =>
  clear Ks;obtain⟨f,G,jh,L,md,or,st,g6,c6,g7,c7,rfl,rfl,s,hg⟩:=hrel;have k0:ZW wr (Q (B (z w)) 0 Z)=T (Y (T (Q pb po Z)) (S.f1 tg).h j_):=by simp[World.cell?,s.sb.kp]
  have hkl:=ah s.sb.kp;have hy:=s.le;have KO:A G=A f:=s.rg.len;obtain⟨ZO,hT⟩:∃ZO,ZO=bK S tg f:=⟨_,rfl⟩
  have HT:=ae hT;have KQ:=ae KO;clear hT KO;go_wp2_with fail;refine(nO pb po (S.f1 tg).h j_ g6 0 (A f) c6 (S.f1 tg).u (yL f) wr (by omega) (Ly.aa s.sb.si.ak ly) (Ih s.sb.r6) Lt).P ?_;rintro e M⟨he,P⟩;rw[CH CC.ok JJ s.rg.good s.le,<-HT.i] at he;subst he;have Lq:=ae (s.sb.aa P ly);have J7:=ae (me CC.ok JJ s.rg.good);rw[<-HT.i] at J7;clear P k0;obtain⟨over,code,text,ask,name,k_⟩:=ZO;simp only[Turn.v];have A5:=ae ((BS M).alloc ly (N #[ZF over,J I code,U text,ZF ask,U name,J I k_] 138));have kt:Hid (TBx (ZV M (N #[ZF over,J I code,U text,ZF ask,U name,J I k_] 138)) (B (z M)) over code text ask name k_):=gM _ _;obtain⟨t0,t1,t2,t3,t4⟩:=kt.cells;have o:=ae (Lq.aa A5 ly);cases over with
  |true =>
   have Lr:Hid (R0=.inl (jh,(⟨ZH,code,text,ask,name,k_⟩,G))):=by show _=_;rw[<-s.run,show 201 - (A f)=(200 - (A f))+1 by omega,bT,<-HT.i,eT rfl]
   obtain⟨rl,r0,r1,r2,rf⟩:=bR o.kr;obtain⟨KP,KZ,KH⟩:=al3 rf;clear rf;go_wp2_with fail;generalize World.alloc M _=W5 at A5 kt o r0 r1 r2 KP KZ KH rl t0 t1 t2 t3 t4 ⊢;refine bp (v:=.tuple #[ZJ #[J I code,U text,Y Z 0 0],Y (T (Q g7 0 Z)) (A G) c7]) (by simp[results,results140,go_sem,r0,r1,r2]) rfl ?_;have R:B (z w0)<=B (z w)+1:=by omega
   have x0:=o.si.ag o.kr ⟨by decide,by decide,by decide,by decide⟩ R 0 (J I code);have y0:=aw o.kr (j:=0) (J I code);have x1:=x0.ag y0 ⟨by decide,by decide,by decide,by decide⟩ R 1 (U text);have y1:=aw y0 (j:=1) (U text);have x2:=x1.ag y1 ⟨by decide,by decide,by decide,by decide⟩ R 2 (Y Z 0 0);have th:g7≠B (z w)+1:=λe=>by obtain⟨_,_,cs,hc⟩:=af o.r7 g7 rfl;exact absurd (ar (e ▸ hc) o.kr) (by decide)
   rw[Lr.i];refine⟨L,md,or,st,g7,c7,rfl,x2,s.rel,aB (aB (aB o.r7 (λe=>th (IH e)) _ _) (λe=>th (IH e)) _ _) (λe=>th (IH e)) _ _,o.ap,s.ext,?_⟩;refine((o.kx.k (KS.setCell (X:=λi=>i=B (z w)+1) W5 R (Or.inl rfl) (J I code)) ?_).k (KS.setCell (X:=λi=>i=B (z w)+1) _ R (Or.inl rfl) (U text)) ?_).k (KS.setCell (X:=λi=>i=B (z w)+1) _ R (Or.inl rfl) (Y Z 0 0)) ?_;all_goals
    intro i hi h;have e2:i=B (z w)+1:=h;omega
  |false =>
   have hyl:A f<200:=by
    rcases J7.i with h|h;{exact absurd h.1 (by simp)};{exact h.2.1}
   have HN:Hid (aA name=ZH):=by
    rcases J7.i with h|h;{exact absurd h.1 (by simp)};{exact h.2.2}
   cases ask with
   |false =>
    have Z8:=s.run;rw[show 201 - (A f)=(200 - (A f))+1 by omega,bT,<-HT.i,eI (by simp),eT rfl] at Z8;obtain⟨H,At⟩:∃H,H=fL S name:=⟨_,rfl⟩
    have Ko:=ae At;simp only at Z8;rw[<-At] at Z8;have NX:=ae Z8;clear Z8 At;go_wp2_with fail;clear t0 t1 t2 t3 t4;generalize World.alloc M _=W5 at A5 kt o ⊢;obtain⟨ZP,b0,b1,-⟩:=o.si.ab.K;refine(pL CC W5 name o.si.ak ZP b0 b1).P ?_;rintro e ZS⟨he,P⟩;rw[<-Ko.i] at he;subst he;have ZT:=ae (o.aa P ly);have ZL:Hid (TBx ZS (B (z M)) ZA code text ZA name k_):=(P.p _ (ah kt)).k kt;clear P b0 b1 ZP;have q:=ae ((BS ZS).alloc ly (N #[ZF H,J I 0,U ⟨#[]⟩] 141));have RA:=ae (J_ ZT.r6 q ly);have Ke:B (z w)<=B (z ZS):=ZT.kx.aa.size
    go_upto_region 9 with (first
     |(at_builtin;refine cj _ rfl (.tmp 32) (.tmp 35) 136 rfl (B (z w)) 141 i6 (ZJ #[ZF ZA,J I 0,U ⟨#[]⟩]) 3 32 YM Lb Ki Kr Kt rfl (by decide) (Y (T (Q g6 0 Z)) (A f) c6) (A f) (mG f) (by simp[Act.eval]) RA.i (Q (B (z ZS)) 0 Z) 1 1 [ZF H,J I 0,U ⟨#[]⟩] (by simp[Act.eval]) rfl (jz ZS _ _ _ _) (by simp[Value.oneCell']) (by unfold maxLen;omega) (by omega) (by simp<;>omega) ?_;intro v3 u V K DQ;have O3:=ae V;have G3:=ae K;clear V K DQ)
     |fail)
    have ld:Hid (∀(k:Nat) (cs:Array ZB) (t:ZK) (fz:Nat × Nat),(ZV ZS (N #[ZF H,J I 0,U ⟨#[]⟩] 141)).heap[k]?=T (Obj.cells cs t fz)->t≠141->u.heap[k]?=(ZV ZS (N #[ZF H,J I 0,U ⟨#[]⟩] 141)).heap[k]?):=λk cs t fz hk ht=>G3.p k (ah hk) λe=>by obtain⟨_,_,Lf,JG⟩:=af RA k e.c;exact ht (ar hk JG)
    have n8:Hid (TBx u (B (z M)) ZA code text ZA name k_):=by have h0:=(q.p _ (ah ZL)).k ZL;exact(ld _ _ _ _ h0 (by decide)).k h0
    have J6:Hid (ZX u (B (z w)) 171 3 (Y (T (Q g7 0 Z)) (A G) c7) (A G) (eG G)):=b9 (J_ ZT.r7 q ly) λk hk=>by obtain⟨_,_,cs,hc⟩:=af (J_ ZT.r7 q ly) k hk;exact ld _ _ _ _ hc (by decide)
    obtain⟨-,-,-,-,n4⟩:=n8.cells;have Lh:=ah n8.i;have A7:=ae ((BS u).alloc ly (N #[U name,ZF ZA,ZF H] 171));have RS:=ae (J_ J6 A7 ly);have Lu:B (z w)<=B (z u):=nX (nX Ke (by simp<;>omega)) G3.size;have sm:=KQ.i;obtain⟨ZQ,ZN⟩:∃ZQ,ZQ=A G:=⟨_,rfl⟩
    have Kf:ZQ<=200:=by omega
    have Kc:=ae ZN;rw[<-ZN] at RS ⊢;clear sm ZN
    go_wp2_with (first
     |(at_builtin;refine cj _ rfl (.tmp 37) (.tmp 42) 166 rfl (B (z w)) 171 i7 (ZJ #[U ⟨#[]⟩,ZF ZA,ZF ZA]) 3 24 underlying166 KU Kx Ku Kl rfl (by decide) (Y (T (Q g7 0 Z)) ZQ c7) ZQ (eG G) (by simp[Act.eval]) RS.i (Q (B (z u)) 0 Z) 1 1 [U name,ZF ZA,ZF H] (by simp[Act.eval]) rfl (jz u _ _ _ _) (by simp[Value.oneCell']) (by unfold maxLen;omega) (by omega) (by simp<;>omega) ?_;intro v4 w4 aq ZR fd;have O4:=ae aq;have G4:=ae ZR;have JP:=ae fd;clear aq ZR fd)
     |fail)
    obtain⟨Kb,JR,JX,JU,e6,e7,J4⟩:=ZT.more (r:=⟨H,0,⟨#[]⟩⟩) (l:=⟨name,ZA,H⟩) la q O3 G3 A7 (by rw[<-Kc.i];exact O4) G4 JP;have D:(f++[(⟨H,0,⟨#[]⟩⟩:aD)]).length=A f+1:=by simp
    have Kd:Hid (SR w0 S hb (Y a0 S.n0 c0) (Y a1 S.n1 c1) w n q_ tg (Y (T (Q pb po Z)) (S.f1 tg).h j_) L0 R0 w4 (f++[⟨H,0,⟨#[]⟩⟩]) (G++[⟨name,ZA,H⟩]) jh L md or st Kb JR JX JU):=
     ⟨J4,s.rel,s.pg,(s.rg.add (by rw[Ko.i];exact lv _ _) HN (λh=>by cases h)),(by rw[D,show 201 - (A f+1)=200 - (A f) by omega];exact(by have:=s.room;unfold fm at this ⊢;omega)),(by rw[D,show 201 - (A f+1)=200 - (A f) by omega];exact NX),(by rw[D];omega),s.ext⟩
    obtain⟨g,rfl⟩:∃g,gk=g+1:=⟨gk - 1,by omega⟩
    go_roundg g;case measure=>omega
    case rel=>exact⟨_,_,_,_,_,_,_,_,_,_,_,e6,e7,Kd,by rw[D];omega⟩
   |true =>
    have Z8:=s.run;rw[show 201 - (A f)=(200 - (A f))+1 by omega,bT,<-HT.i,eI (by simp),eI (by simp)] at Z8;simp only at Z8;go_wp2_with fail;clear t0 t1 t2 t3 t4;generalize World.alloc M _=W5 at A5 kt o ⊢;refine(Lv q_ jh L md or st W5 name Lc o.si s.rel s.pg (by have:=s.room;unfold fm at this ⊢;omega) Ll HN).P ?_;intro e ZS O;have HQ:(∃ZY x,aT S n q_ jh name=.inl (ZY,x))\/∃(r:jj) (va:O_) (vn vk:Nat),e=ZI (jl r (Y va vn vk))/\jb w0 hb ZS r (Y va vn vk)/\KS (B (z w0)) XN W5 ZS/\Hid (∀vs w',jb w0 hb w' r (Y va vn vk)->KS (B (z w0)) XN w w'->pM w0 hb (Y a0 S.n0 c0) (Y a1 S.n1 c1) q_ L0 w (ZI (.tuple #[jl r (Y va vn vk),vs])) w' R0):=by
     rcases hr:aT S n q_ jh name with⟨ZY,x⟩|c|d;{exact .inl ⟨_,_,rfl⟩};all_goals
      rw[hr] at O Z8;dsimp only at Z8;subst Z8
     {obtain⟨ca,ck,rfl,hd,hK⟩:=O;exact .inr ⟨_,_,_,_,rfl,hd,hK,λvs w' h1 h2=>⟨ca,ck,vs,rfl,h1,h2⟩⟩};{obtain⟨rfl,hd,hK⟩:=O;exact .inr ⟨_,_,_,_,rfl,hd,hK,λvs w' h1 h2=>⟨vs,rfl,h1,h2⟩⟩}
    rcases HQ with⟨ZY,x,hr⟩|⟨r,va,vn,vk,rfl,⟨q0,q1,qm,qo,qs,JI,Ky⟩,hK,fin⟩
    ·rw[hr] at O Z8;dsimp only at Z8;obtain⟨L2,Lg,Lj,Le,rfl,Kz,Ka,J9,hK⟩:=O;obtain⟨Hx,⟨more,JM⟩,hx,J0⟩:=dm CC.ok n q_ jh name ZY x s.pg HN hr;have GS:=iq S n q_ jh name ZY x hr;have JQ:∀y∈jh,y∈ZY:=λy hy=>by rw[JM];exact NY _ hy
     have JO:=ae (o.step hK Kz J9);have Ls:=ae Ka;have Lx:=ae Hx;have KV:Hid (RG S ZY (f++[gF x]) (G++[⟨name,ZH,ZA⟩])):=(s.rg.P JQ).add (lw (Hx.W x hx)) HN (λ_=>⟨x,hx,J0⟩);have LB:Hid (fm S q_ ZY (200 - (A f))):=by have:=s.room;unfold fm at this ⊢;unfold fO at GS;show _<=_;omega
     have Lo:=ae (s.ext.k J9 o.kx.aa.size);have qr:Hid (TBx ZS (B (z M)) ZA code text ZH name k_):=(hK.ad _ _ _ _ kt (by decide) (by decide) (by decide) λh=>h).k kt;have NX:=ae Z8;obtain⟨rc,rt,ob,oc,ot,Kq,KN,Km⟩:=F7 (Hx.W x hx);rw[KN] at KV NX;have hz25:B (z W5)<=B (z ZS):=hK.aa.size;have hg65:g6<B (z W5):=(af o.r6 g6 rfl).2.1;have hw25:B (z w)+2<=B (z W5):=ah o.kr;rw[J0] at Km;simp only[Kq];clear Kz Ka J9 hK Hx JM hx J0 GS JQ hr Z8 Kq KN;obtain⟨W6,ur⟩:∃W:E,ZV ZS (N #[J I rc,U rt,Y Z 0 0] 60)=W:=⟨_,rfl⟩
     obtain⟨q,Kw,-⟩:=nb1 ur;have JT:=ae ur;clear ur;obtain⟨ZP,-,-,-,-,-,-,-,-,b8,-⟩:=JO.si.ab.K;have d8:=(q.O (p:=(Q hb 8 Z)) ZP).k b8;obtain⟨rl,r0,r1,-,-⟩:=bR Kw;go_upto_region 13 with fail;clear d8 b8;rw[JT.i];clear JT;obtain⟨W8,ro⟩:∃W:E,ZV W6 (N #[ZF ZH,J I rc,U rt] 141)=W:=⟨_,rfl⟩
     obtain⟨A7,ky,-⟩:=nb1 ro;have J5:=ae ro;clear ro;go_upto_region 14 with fail;rw[J5.i];clear J5;have La:=ae (q.k (A7.P q.size));have mv:=ae (JO.aa La ly);have n9:Hid (TBx W8 (B (z M)) ZA code text ZH name k_):=(La.p _ (ah qr)).k qr;have r7:=(A7.O (p:=(Q (B (z ZS)) 0 Z)) rl).k r0;have Fk:B (z ZS)<B (z W8):=lj rl A7.size;obtain⟨-,-,-,-,tn⟩:=n9.cells;have bt:=ah n9.i;obtain⟨ZM,KJ⟩:∃ZM,ZM=B (z W6):=⟨_,rfl⟩
     rw[<-KJ] at ky ⊢;have Fd:B (z w)+2<=ZM:=by have:=q.size;omega
     have DE:ZM≠g6:=by have:=q.size;omega
     clear KJ JO qr A7 q Kw r0 r1;obtain⟨ex,b0,b1,-⟩:=mv.si.ab.K;rcases Km with⟨JY,e4,e3⟩|⟨JY,e3⟩
     case' inr=>by_cases h4:rc=4
     all_goals
      have KI:=ae JY;have E3:=ae e3;clear JY e3
     case' inl =>
      subst e4;go_wp2_with fail;refine(pL CC W8 name mv.si.ak ex b0 b1).P ?_;rintro e u⟨he,P⟩;rw[KI.i] at he;subst he;have LC:=ae (mv.aa P ly);have Kk:Hid (TBx u (B (z M)) ZA code text ZH name k_):=(P.p _ bt).k n9;have Fm:=(P.p _ (ah ky)).k ky;obtain⟨yl,y0,y1,y2,yf⟩:=bR Fm;obtain⟨LA,Ln,Lp⟩:=al3 yf;have x0:=LC.ag Fm ⟨by decide,by decide,by decide,by decide⟩ la Fd DE 0 (ZF ZA);have x1:=x0.1.ag x0.2 ⟨by decide,by decide,by decide,by decide⟩ la Fd DE 1 (J I 0);have x2:=x1.1.ag x1.2 ⟨by decide,by decide,by decide,by decide⟩ la Fd DE 2 (U ⟨#[]⟩);have ZT:=ae x2.1;have JV:B (z M)≠ZM:=λe=>absurd (ar (show u.heap[B (z M)]?=_ from Kk.i) (e ▸ Fm)) (by decide);have ZL:Hid (TBx (ZU (ZU (ZU u (Q ZM 0 Z) (ZF ZA)) (Q ZM 1 Z) (J I 0)) (Q ZM 2 Z) (U ⟨#[]⟩)) (B (z M)) ZA code text ZH name k_):=(qh _ _ _ _ JV).k ((qh _ _ _ _ JV).k ((qh _ _ _ _ JV).k Kk));have KY:Hid ((ZU (ZU (ZU u (Q ZM 0 Z) (ZF ZA)) (Q ZM 1 Z) (J I 0)) (Q ZM 2 Z) (U ⟨#[]⟩)).heap[ZM]?=T (N #[ZF ob,J I oc,U ot] 141 (0,0))):=by rw[E3.1,E3.2.1,E3.2.2];exact x2.2
      clear x0 x1 x2 P tn b0 b1 ex r7 Fk bt rl Fm;go_upto_region 16 with fail;clear y0 y1 y2 LA Ln Lp yl;generalize World.setCell (World.setCell (World.setCell u _ _) _ _) _ _=W8 at ZT KY ZL ⊢
     case' pos =>
      subst h4;go_wp2_with fail;refine(pL CC W8 name mv.si.ak ex b0 b1).P ?_;rintro e u⟨he,P⟩;rw[KI.i] at he;subst he;have ZT:=ae (mv.aa P ly);have ZL:Hid (TBx u (B (z M)) ZA code text ZH name k_):=(P.p _ bt).k n9;have KY:Hid (u.heap[ZM]?=T (N #[ZF ob,J I oc,U ot] 141 (0,0))):=by rw[E3.1,E3.2.1,E3.2.2];exact(P.p _ (ah ky)).k ky
      clear P tn b0 b1 ex r7 Fk bt rl;go_upto_region 16 with fail;generalize u=W8 at ZT KY ZL ⊢
     case' neg =>
      have h4b:(rc == 4)=ZA:=by simpa using h4
      have ZT:=mv;have ZL:=n9;have KY:Hid (W8.heap[ZM]?=T (N #[ZF ob,J I oc,U ot] 141 (0,0))):=by rw[E3.1,E3.2.1,E3.2.2];exact ky
      go_upto_region 16 with fail;clear tn b0 b1 ex r7 Fk bt rl
     all_goals
      obtain⟨yl,y0,y1,y2,-⟩:=bR KY;have q:=ae ((BS W8).alloc ly (N #[ZF ob,J I oc,U ot] 141));have RA:=ae (J_ ZT.r6 q ly);have Ke:B (z w)<=B (z W8):=ZT.kx.aa.size
      go_upto_region 17 with (first
       |(at_builtin;refine cj _ rfl (.tmp 73) (.tmp 75) 136 rfl (B (z w)) 141 i6 (ZJ #[ZF ZA,J I 0,U ⟨#[]⟩]) 3 32 YM Lb Ki Kr Kt rfl (by decide) (Y (T (Q g6 0 Z)) (A f) c6) (A f) (mG f) (by simp[Act.eval]) RA.i (Q (B (z W8)) 0 Z) 1 1 [ZF ob,J I oc,U ot] (by simp[Act.eval]) rfl (jz W8 _ _ _ _) (by simp[Value.oneCell']) (by unfold maxLen;omega) (by omega) (by simp<;>omega) ?_;intro v3 u V K DQ;have O3:=ae V;have G3:=ae K;clear V K DQ)
       |fail)
      have ld:Hid (∀(k:Nat) (cs:Array ZB) (t:ZK) (fz:Nat × Nat),(ZV W8 (N #[ZF ob,J I oc,U ot] 141)).heap[k]?=T (Obj.cells cs t fz)->t≠141->u.heap[k]?=(ZV W8 (N #[ZF ob,J I oc,U ot] 141)).heap[k]?):=λk cs t fz hk ht=>G3.p k (ah hk) λe=>by obtain⟨_,_,Lf,JG⟩:=af RA k e.c;exact ht (ar hk JG)
      have n8:Hid (TBx u (B (z M)) ZA code text ZH name k_):=by have h0:=(q.p _ (ah ZL)).k ZL;exact(ld _ _ _ _ h0 (by decide)).k h0
      have J6:Hid (ZX u (B (z w)) 171 3 (Y (T (Q g7 0 Z)) (A G) c7) (A G) (eG G)):=b9 (J_ ZT.r7 q ly) λk hk=>by obtain⟨_,_,cs,hc⟩:=af (J_ ZT.r7 q ly) k hk;exact ld _ _ _ _ hc (by decide)
      obtain⟨-,-,-,-,n4⟩:=n8.cells;have Lh:=ah n8.i;have A7:=ae ((BS u).alloc ly (N #[U name,ZF ZH,ZF ZA] 171));have RS:=ae (J_ J6 A7 ly);have Lu:B (z w)<=B (z u):=nX (nX Ke (by simp<;>omega)) G3.size;have sm:=KQ.i;obtain⟨ZQ,ZN⟩:∃ZQ,ZQ=A G:=⟨_,rfl⟩
      have Kf:ZQ<=200:=by omega
      have Kc:=ae ZN;rw[<-ZN] at RS ⊢;clear sm ZN
      go_wp2_with (first
       |(at_builtin;refine cj _ rfl (.tmp 77) (.tmp 81) 166 rfl (B (z w)) 171 i7 (ZJ #[U ⟨#[]⟩,ZF ZA,ZF ZA]) 3 24 underlying166 KU Kx Ku Kl rfl (by decide) (Y (T (Q g7 0 Z)) ZQ c7) ZQ (eG G) (by simp[Act.eval]) RS.i (Q (B (z u)) 0 Z) 1 1 [U name,ZF ZH,ZF ZA] (by simp[Act.eval]) rfl (jz u _ _ _ _) (by simp[Value.oneCell']) (by unfold maxLen;omega) (by omega) (by simp<;>omega) ?_;intro v4 w4 aq ZR fd;have O4:=ae aq;have G4:=ae ZR;have JP:=ae fd;clear aq ZR fd)
       |fail)
      obtain⟨Kb,JR,JX,JU,e6,e7,J4⟩:=ZT.more (r:=⟨ob,oc,ot⟩) (l:=⟨name,ZH,ZA⟩) la q O3 G3 A7 (by rw[<-Kc.i];exact O4) G4 JP;have D:(f++[(⟨ob,oc,ot⟩:aD)]).length=A f+1:=by simp
      have Kd:Hid (SR w0 S hb (Y a0 S.n0 c0) (Y a1 S.n1 c1) w n q_ tg (Y (T (Q pb po Z)) (S.f1 tg).h j_) L0 R0 w4 (f++[⟨ob,oc,ot⟩]) (G++[⟨name,ZH,ZA⟩]) ZY L2 Lg Lj Le Kb JR JX JU):=
       ⟨J4,Ls,Lx,KV,(by rw[D,show 201 - (A f+1)=200 - (A f) by omega];exact LB),(by rw[D,show 201 - (A f+1)=200 - (A f) by omega];exact NX),(by rw[D];omega),Lo⟩
      obtain⟨g,rfl⟩:∃g,gk=g+1:=⟨gk - 1,by omega⟩
      go_roundg g;case measure=>omega
      case rel=>exact⟨_,_,_,_,_,_,_,_,_,_,_,e6,e7,Kd,by rw[D];omega⟩
    ·clear O Z8;obtain⟨ZP,-,-,-,-,-,b5,b6,b7,b8,-⟩:=JI.K;have JK:=(hK.ad _ _ _ _ o.kr (by decide) (by decide) (by decide) λh=>h).k o.kr;have KW:=ae (o.kx.to hK);have Lm:=ae JI;have Kh:=ae Ky;have q:=ae ((BS ZS).alloc ly (N #[J I r.M,U r.H,Y va vn vk] 60));have JW:=(q.p _ (ah JK)).k JK;obtain⟨rl,r0,r1,r2,rf⟩:=bR JW;have d5:=(q.O (p:=(Q hb 5 Z)) ZP).k b5;have d6:=(q.O (p:=(Q hb 6 Z)) ZP).k b6;have d7:=(q.O (p:=(Q hb 7 Z)) ZP).k b7;have d8:=(q.O (p:=(Q hb 8 Z)) ZP).k b8;obtain⟨KP,KZ,KH⟩:=al3 rf;have Bk:hb≠B (z w)+1:=λe=>absurd (ar (e ▸ JI) JK) (by decide);have Li:=ae JW;clear rf JI Ky hK b5 b6 b7 b8 JK JW;simp only[jl];go_wp2_with fail;refine bp (v:=.tuple #[jl r (Y va vn vk),Y (T (Q g7 0 Z)) (A G) c7]) (by simp[results,results140,go_sem,r0,r1,r2,jl]) rfl ?_;have R:B (z w0)<=B (z w)+1:=by omega
     have Ld:∀(W:E) (v0 v1 v2:ZB),(ZU (ZU (ZU W (Q (B (z w)+1) 0 Z) v0) (Q (B (z w)+1) 1 Z) v1) (Q (B (z w)+1) 2 Z) v2).heap[hb]?=W.heap[hb]?:=λW v0 v1 v2=>(qh _ _ _ _ Bk).k ((qh _ _ _ _ Bk).k (qh _ _ _ _ Bk));have JS:∀k,(Value.slice va vn vk).ownBlock=T k->k≠B (z w)+1:=λk hk e=>by obtain⟨_,_,cs,hc⟩:=af (J_ Kh q ly) k hk;exact absurd (ar (e ▸ hc) Li) (by decide)
     refine fin (Y (T (Q g7 0 Z)) (A G) c7) _ ⟨q0,q1,qm,qo,qs,(Ld _ _ _ _).k ((q.p _ ZP).k Lm),aB (aB (aB (J_ Kh q ly) (λe=>JS _ e rfl) _ _) (λe=>JS _ e rfl) _ _) (λe=>JS _ e rfl) _ _⟩ ?_;refine((((KW.to (KS.q q ly (nX la KW.aa.size))).k (KS.setCell (X:=λi=>i=B (z w)+1) _ R (Or.inl rfl) _) ?_).k (KS.setCell (X:=λi=>i=B (z w)+1) _ R (Or.inl rfl) _) ?_).k (KS.setCell (X:=λi=>i=B (z w)+1) _ R (Or.inl rfl) _) ?_);all_goals
      intro i hi h;have e2:i=B (z w)+1:=h;omega
end
