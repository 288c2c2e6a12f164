import Derived.Test.YtcnilonhfpimnaaGreatDoorEK
import Derived.Test.YtcnilonhfpimnaaGreatDoorFY
import Derived.Deep.Cut
set_option linter.all false
set_option maxRecDepth 1000000
set_option maxHeartbeats 8000000
open Go renaming Addr.mk->T,Value.slice->Z,Value.string->U,Value.int->J,Value.bool->ZF,Value.agg->ZJ,Obj.cells->N,IntKind.i64->I,World->E,Value->ZB,TypeId->ZK,Ending.returned->ZI,World.heap->z,World.ownsRow->ZW,World.alloc->ZU,World.cell?->ZV
open Option renaming none->Y,some->Q
open Bool renaming false->ZA,true->ZH
open Array renaming size->B
open List renaming length->A
namespace Go.Proofs.YtcnilonhfpimnaaGreatDoor.Vp
open Tryz RowKit
variable {W wr w:E}{b j n g size l p x:Nat}{t e:ZK}{i:ZB}
structure SB (w0:E)(hb:Nat)(s0 s1:ZB)(w:E)(y_:List F_)(pv:ZB)(wr:E)(ys:List aD)(ls:List Lk)(q_:List k_)(L:List SM)(md or st:ZB)(g6 c6 g7 c7:Nat):Prop where
 si:SI w0 hb s0 s1 wr y_ q_ L md or st
 r6:ZW wr (B (z w)) 119 3 (Z (Q (T g6 0 Y)) (A ys) c6) (A ys) (mG ys)
 r7:ZW wr (B (z w)) 191 3 (Z (Q (T g7 0 Y)) (A ls) c7) (A ls) (eG ls)
 ap:∀m∈L,m.done=ZH->m.sv.ownBlock≠Q g7
 kp:wr.heap[B (z w)]?=Q (N #[pv] 37 (0,0))
 kr:wr.heap[B (z w)+1]?=Q (N #[J I 0,U ⟨#[]⟩,Z Y 0 0] 88 (0,0))
 kx:KS (B (z w0)) XN w wr
structure SR (w0:E)(S:J_)(hb:Nat)(s0 s1:ZB)(w:E)(n:Nat)(y_:List F_)(tg:Nat)(pv:ZB)(L0:List SM)(R0:Out (Turn × List Lk))(wr:E)(ys:List aD)(ls:List Lk)(q_:List k_)(L:List SM)(md or st:ZB)(g6 c6 g7 c7:Nat):Prop where
 sb:SB w0 hb s0 s1 w y_ pv wr ys ls q_ L md or st g6 c6 g7 c7
 rel:fM L y_ q_
 pg:PG S y_ q_
 rg:RG S q_ ys ls
 room:fm S y_ q_ (201 - (A ys))
 run:bT S (aT S n y_) tg (201 - (A ys)) q_ ys ls=R0
 le:A ys<=200
 ext:LExt (B (z w)) L0 L
def TBx (w:E)(g:Nat)(over:Bool)(code:Int)(text:F_)(ask:Bool)(name:F_)(v_:Int):Prop:=w.heap[g]?=Q (N #[ZF over,J I code,U text,ZF ask,U name,J I v_] 116 (0,0))
def TBx.cells{over:Bool}{code:Int}{text:F_}{ask:Bool}{name:F_}{v_:Int}(h:TBx w g over code text ask name v_):ZV w (T g 0 Y)=Q (ZF over)/\ZV w (T g 1 Y)=Q (J I code)/\ZV w (T g 2 Y)=Q (U text)/\ZV w (T g 3 Y)=Q (ZF ask)/\ZV w (T g 4 Y)=Q (U name):=by unfold TBx at h;refine⟨?_,?_,?_,?_,?_⟩;all_goals simp[World.cell?,h]
def pM (w0:E)(hb:Nat)(s0 s1:ZB)(y_:List F_)(L:List SM)(w:E)(e:Ending)(w':E):Out (Turn × List Lk)->Prop
 |.inl (made',x)=>∃b h i f g c,e=ZI (.tuple #[ZJ #[J I x.1.M,U x.1.H,Z Y 0 0],Z (Q (T g 0 Y)) x.2.length c])/\SI w0 hb s0 s1 w' y_ made' b h i f/\fM b y_ made'/\ZW w' (B (z w)) 191 3 (Z (Q (T g 0 Y)) x.2.length c) x.2.length (eG x.2)/\(∀m∈b,m.done=ZH->m.sv.ownBlock≠Q g)/\LExt (B (z w)) L b/\KS (B (z w0)) XN w w'
 |.inr (.inl c)=>∃a k sv,e=ZI (.tuple #[jl (jx c) (Z a (A c) k),sv])/\jb w0 hb w' (jx c) (Z a (A c) k)/\KS (B (z w0)) XN w w'
 |.inr (.inr d)=>∃sv,e=ZI (.tuple #[jl (jy d) (Z Y 0 0),sv])/\jb w0 hb w' (jy d) (Z Y 0 0)/\KS (B (z w0)) XN w w'
def jz (w:E)(g f b:ZB)(t:ZK):∀j u,[g,f,b][j]?=Q u->(ZU w (N #[g,f,b] t)).cell? (((T (B (z w)) 0 Y):Addr).add j)=Q u:=by
 intro j u h;rw[addr_add];have hj:j<3:=by
  rcases OT j 3 with i|i;{exact i};{rw[NU (by simp;omega)] at h;cases h}
 rcases(show j=0\/j=1\/j=2 by omega) with rfl|rfl|rfl;all_goals
  simp at h;subst h;simp
def bR{g f:ZB}(h:w.heap[b]?=Q (N #[i,g,f] t (0,0))):b<B (z w)/\ZV w (T b 0 Y)=Q i/\ZV w (T b 1 Y)=Q g/\ZV w (T b 2 Y)=Q f/\∀j,w.frozen? (T b j Y)=ZA:=by refine⟨ah h,?_,?_,?_,λj=>?_⟩;all_goals simp[World.cell?,World.frozen?,h]
section
variable {w0 w w':E}{hb:Nat}{s0 s1 md or st:ZB}{y_:List F_}{q_:List k_}{L:List SM}
def SI.grown{v:ZB}{D:List ZB}(h:SI w0 hb s0 s1 w y_ q_ L md or st)(f:w.grownBy w' v.ownBlock)(C:ZW w j e size v n D)(hB:B (z w0)<=j)(p:e≠9/\e≠188/\e≠141)(ZT:∀m∈L,m.done=ZH->∀k,v.ownBlock=Q k->m.sv.ownBlock≠Q k):SI w0 hb s0 s1 w' y_ q_ L md or st:=by
 have ZY:=af C;have s:∀(i:Nat) (q:Array ZB) (t:ZK) (fz:Nat × Nat),w.heap[i]?=Q (Obj.cells q t fz)->t≠e->w'.heap[i]?=w.heap[i]?:=λi q t fz hi o=>f.p i (ah hi) λl=>by obtain⟨_,_,cs2,r⟩:=ZY i l.c;exact o (ar hi r)
 have b:∀{size n:Nat} {t:ZK} {u:ZB} {ZZ:List ZB},ZW w (B (z w0)) t size u n ZZ->t≠e->ZW w' (B (z w0)) t size u n ZZ:=λZX o=>b9 ZX λk g=>by obtain⟨_,_,q,r⟩:=af ZX k g;exact s _ _ _ _ r o
 refine⟨h.ak.k ⟨f.os,f.tape,f.output,f.size,λk g=>f.p k (lj g h.lt) λl=>?_⟩,h.hbB,h.ab.ad (s _ _ _ _ h.ab p.2.2.c),b h.X p.2.1.c,b h.ror p.1.c,b h.rst p.1.c,h.apart,λm y x=>b9 (h.V m y x) λk g=>?_⟩;{have:=(ZY k l.c).1;omega};{obtain⟨_,G,q,r⟩:=af (h.V m y x) k g;exact f.p k G λl=>ZT m y x k l.c g}
def KS.grow{v:ZB}{m:List ZB}{ZX:Nat}(h:KS ZX XN W w)(p:w.grownBy w' v.ownBlock)(f:w.ownsRow b e size v n m)(o:B (z W)<=b)(g:ZX<=B (z W)):KS ZX XN W w':=
 h.k (ZM:=λi=>v.ownBlock=Q i) (KS.of_grown p (nX g h.aa.size) λj l=>⟨nX (nX g o) (af f j l).1,.inl l⟩) λi hi q=>by have:=(af f i q).1;omega
def SB.aa{g:E}{n:ZB}{m:List aD}{i:List Lk}{o C:Nat}(h:SB w0 hb s0 s1 W y_ n wr m i q_ L md or st j o l p)(b:Below C wr g)(f:B (z wr)<=C):SB w0 hb s0 s1 W y_ n g m i q_ L md or st j o l p:=
 ⟨h.si.aa b f,K_ h.r6 b f,K_ h.r7 b f,h.ap,(b.p _ (lj (ah h.kp) f)).k h.kp,(b.p _ (lj (ah h.kr) f)).k h.kr,h.kx.to (KS.l b f h.si.lt)⟩
def SB.more{ZP O ZT H V:E}{pv v3 P:ZB}{i:List aD}{g:List Lk}{ZN ZQ:Nat}{r:aD}{l:Lk}(h:SB w0 hb s0 s1 W y_ pv ZP i g q_ L md or st x ZN j ZQ)(M:B (z w0)<=B (z W))
  (b3:Below (B (z ZP)) ZP O) (S:ZW ZT (B (z W)) 119 3 v3 (A i+1) (mG i++[ZF r.has,J I r.M,U r.H])) (G:O.grownBy ZT (Q x))
  (p:Below (B (z ZT)) ZT H) (o4:ZW V (B (z W)) 191 3 P (A g+1) (eG g++[U l.e,ZF l.ask,ZF l.has])) (ZR:H.grownBy V (Q j)) (ZS:P.ownBlock=Q j\/P.ownBlock=Q (B (z H))) :
  ∃s t f u,v3=Z (Q (T s 0 Y)) (i++[r]).length t/\P=Z (Q (T f 0 Y)) (g++[l]).length u/\SB w0 hb s0 s1 W y_ pv V (i++[r]) (g++[l]) q_ L md or st s t f u:=by
 have b:=h.aa b3 ly;have ex:B (z W)<B (z O):=ah b.kp;have bt:B (z W)+1<B (z O):=ah b.kr;have fd:=af b.r6 x rfl;obtain⟨hg6,hg6l,cs6,n⟩:=fd
 have ZL:=b.si.grown (v:=Z (Q (T x 0 Y)) (A i) ZN) G b.r6 M ⟨by decide,by decide,by decide⟩ (λm ZY y k q e=>by
  cases q
  obtain⟨_,_,cs,ZX⟩:=af (b.si.V m ZY y) x e
  exact absurd (ar n ZX) (by decide))
 have k3:=KS.grow (v:=Z (Q (T x 0 Y)) (A i) ZN) b.kx G b.r6 ly M;have aq:ZW ZT (B (z W)) 191 3 (Z (Q (T j 0 Y)) (A g) ZQ) (A g) (eG g):=b9 b.r7 λk q=>by obtain⟨_,X,cs,ZX⟩:=af b.r7 k q;exact G.p k X λe=>by cases e;exact absurd (ar n ZX) (by decide)
 have R:=(G.p (B (z W)) ex λe=>by cases e;exact absurd (ar n b.kp) (by decide)).k b.kp;have ZO:=(G.p (B (z W)+1) bt λe=>by have ZZ:=IN e;exact absurd (ar n (ZZ ▸ b.kr)) (by decide)).k b.kr;obtain⟨s,t,cu6,rfl,-⟩:=S.2.resolve_left (λh=>by omega);have s4:=ZL.aa p ly;have D:=K_ aq p ly;obtain⟨hg7,hg7l,cs7,o⟩:=af D j rfl;have C:=(p.p (B (z W)) (ah R)).k R;have K:=(p.p (B (z W)+1) (ah ZO)).k ZO;have s5:=s4.grown (v:=Z (Q (T j 0 Y)) (A g) ZQ) ZR D M ⟨by decide,by decide,by decide⟩ (λm ZY y k q e=>by cases q;exact h.ap m ZY y e);have k5:=KS.grow (v:=Z (Q (T j 0 Y)) (A g) ZQ) (k3.to (KS.l p ly ZL.lt)) ZR D ly M;obtain⟨f,u,cu7,rfl,-⟩:=o4.2.resolve_left (λh=>by omega);have e6:(i++[r]).length=A i+1:=by simp
 have ZM:(g++[l]).length=A g+1:=by simp
 refine⟨s,t,f,u,by rw[e6],by rw[ZM],s5,?_,?_,λm ZY y e=>?_,?_,?_,k5⟩;{rw[e6,FY];refine b9 (K_ S p ly) λk q=>?_;obtain⟨_,X,cs,ZX⟩:=af (K_ S p ly) k q;exact ZR.p k X λe=>by cases e;exact absurd (ar o ZX) (by decide)};{rw[ZM,CF];exact o4};{rcases ZS with ZS|ZS;{have ZZ:f=j:=IN (show Q f=Q j from ZS);exact h.ap m ZY y (ZZ ▸ e)};{have ZZ:f=B (z H):=IN (show Q f=Q (B (z H)) from ZS);have:=(af (s4.V m ZY y) _ e).2.1;omega}};{exact(ZR.p (B (z W)) (ah C) λe=>by cases e;exact absurd (ar o C) (by decide)).k C};{exact(ZR.p (B (z W)+1) (ah K) λe=>by have ZZ:=IN e;exact absurd (ar o (ZZ ▸ K)) (by decide)).k K}
def SI.ag{s:Array ZB}{fz:Nat × Nat}(h:SI w0 hb s0 s1 w y_ q_ L md or st)(i:w.heap[b]?=Q (N s t fz))(g:t≠9/\t≠188/\t≠141/\t≠191)(ZZ:B (z w0)<=b)(j:Nat)(u:ZB):SI w0 hb s0 s1 (w.setCell (T b j Y) u) y_ q_ L md or st:=by
 have f:∀{size n:Nat} {l:ZK} {o:ZB} {p:List ZB},ZW w (B (z w0)) l size o n p->t≠l->(w.setCell (T b j Y) u).ownsRow (B (z w0)) l size o n p:=λq r=>aB q (λe=>by
  obtain⟨_,_,cs2,x⟩:=af q b e
  exact r (ar i x)) _ _
 refine⟨h.ak.setCell ZZ u,h.hbB,h.ab.ad (qh _ _ _ _ λe=>?_),f h.X g.2.1,f h.ror g.1,f h.rst g.1,h.apart,λm ZY y=>f (h.V m ZY y) g.2.2.2⟩;simp at e;subst e;exact g.2.2.1 (ar i h.ab)
def SB.step{n:E}{y j g:ZB}{x:List aD}{r:List Lk}{s t ZY:Nat}{b:List k_}{q:List SM}(h:SB w0 hb s0 s1 W y_ y wr x r q_ L md or st s t l ZY)(f:KS (B (z w0)) XN wr n)(C:SI w0 hb s0 s1 n y_ b q j i g)(hX:LExt (B (z wr)) L q):SB w0 hb s0 s1 W y_ y n x r b q j i g s t l ZY:=by
 refine⟨C,b9 h.r6 λk o=>?_,b9 h.r7 λk o=>?_,λm ZT D e=>?_,(f.ad _ _ _ _ h.kp (by decide) (by decide) (by decide) λh=>h).k h.kp,(f.ad _ _ _ _ h.kr (by decide) (by decide) (by decide) λh=>h).k h.kr,h.kx.to f⟩;{obtain⟨_,_,ZX,p⟩:=af h.r6 k o;exact f.ad _ _ _ _ p (by decide) (by decide) (by decide) λh=>h};{obtain⟨_,_,ZX,p⟩:=af h.r7 k o;exact f.ad _ _ _ _ p (by decide) (by decide) (by decide) λh=>h};{rcases hX.sn m ZT D with⟨m0,G,u,ZZ⟩|h1;{exact h.ap m0 G u (by rw[ZZ];exact e)};{have h2:=h1 _ e;have h3:=(af h.r7 l rfl).2.1;omega}}
def SB.ag{r:ZB}{q:List aD}{l:List Lk}{o:Array ZB}(h:SB w0 hb s0 s1 W y_ r wr q l q_ L md or st g p n x)(f:wr.heap[b]?=Q (N o t (0,0)))(s:t≠9/\t≠188/\t≠141/\t≠191)(hB:B (z w0)<=B (z W))(hb1:B (z W)+2<=b)(m:b≠g)(j:Nat)(u:ZB):SB w0 hb s0 s1 W y_ r (wr.setCell (T b j Y) u) q l q_ L md or st g p n x/\(wr.setCell (T b j Y) u).heap[b]?=Q (N (o.setIfInBounds j u) t (0,0)):=by refine⟨⟨h.si.ag f s (by omega) j u,aB h.r6 (λe=>m (IN e).c) _ _,aB h.r7 (λe=>?_) _ _,h.ap,(qh _ _ _ _ (show (B (z W))≠b by omega)).k h.kp,(qh _ _ _ _ (show (B (z W))+1≠b by omega)).k h.kr,h.kx.k (KS.setCell (X:=λi=>i=b) _ (by omega) (Or.inl rfl) u) λi hi ZY=>by have e2:i=b:=ZY;omega⟩,aw f u⟩;obtain⟨_,_,cs2,y⟩:=af h.r7 b e;exact s.2.2.2 (ar f y)
def F7{S:J_}{x:k_}(h:EG S x):∃f m j l g,dt x=⟨f,m,[]⟩/\gF x=⟨j,l,g⟩/\(fL S x.e=ZA/\f=4/\j=ZA/\l=0/\g=⟨#[]⟩\/fL S x.e=ZH/\j=ZH/\l=f/\g=m):=by
 unfold dt gF fL;rw[ja,ja];rcases h.L with⟨b,_,_,i,hi,_⟩|⟨b,p,o,_,n,h1⟩|⟨b,_,h1⟩
 {exact⟨x.M,x.H,ZH,x.M,x.H,by rw[eI (by omega)],by simp[b],.inr ⟨by rw[hi];rfl,rfl,rfl,rfl⟩⟩};{exact⟨4,x.e,ZA,0,⟨#[]⟩,by rw[eT b],by simp[b,p,o],.inl ⟨by rw[n,h1];rfl,rfl,rfl,rfl,rfl⟩⟩};{exact⟨x.M,x.H,ZH,x.M,x.H,by rw[eI (by omega)],by simp[b],.inr ⟨by rw[h1];simp,rfl,rfl,rfl⟩⟩}
end
section
variable {w0:E}{S:J_}{a0 a1:O_}{c0 c1 hb:Nat}{y_:List F_}
def F8 (C:pJ w0 S a0 a1)(n:Nat)(HK:oe w0 S hb (Z a0 S.n0 c0) (Z a1 S.n1 c1) n)(ZY:List k_)(L0:List SM)(JI Id Hx:ZB)(w:E)(a:O_)(j_ tg:Nat)(Lb:A y_+n=60)(h:SI w0 hb (Z a0 S.n0 c0) (Z a1 S.n1 c1) w y_ ZY L0 JI Id Hx)(hrel:fM L0 y_ ZY)(hp:PG S y_ ZY)(GS:fm S y_ ZY 201)(Kl:MT S y_)(JM:tg<S.n1)(Km:SlIns w0 a (S.f1 tg).h (S.f1 tg).q):Calls Tryz.prog 153 #[.pointer (Q (T hb 0 Y)),ZJ #[Z a (S.f1 tg).h j_]] w λe w'=>pM w0 hb (Z a0 S.n0 c0) (Z a1 S.n1 c1) y_ L0 w e w' (bT S (aT S n y_) tg 201 ZY [] []):=by
 obtain⟨i6,KQ,Ku,Ky,Kp⟩:=lE An;obtain⟨i7,Kk,Kh,KO,KJ⟩:=lE FW;obtain⟨hok,hc1,Fm⟩:=bJ (C.ok.q tg JM);obtain⟨pb,po,rfl,KZ⟩:∃pb po,a=Q (T pb po Y)/\Qj w0 pb po (S.f1 tg).h (S.f1 tg).q:=by
  rcases Km with h|⟨b,off,e,hr⟩
  {omega};{exact⟨b,off,e,hr⟩}
 have Lm:=ae KZ;have CC:=ae C;have Ly:=ae HK;have la:B (z w0)<=B (z w):=h.lt;have Ln:=ae (FZ C.ok JM);obtain⟨R0,J8⟩:∃R0,R0=bT S (aT S n y_) tg 201 ZY [] []:=⟨_,rfl⟩
 rw[<-J8];have Lo:=ae J8;obtain⟨W2,hW⟩:∃W:E,ZU (ZU w (N #[Z (Q (T pb po Y)) (S.f1 tg).h j_] 37)) (N #[J I 0,U ⟨#[]⟩,Z Y 0 0] 88)=W:=⟨_,rfl⟩
 obtain⟨A2,kp,kr,z2⟩:=nb2 hW;have HW:=ae hW;clear hW;have Kd:=ae (h.aa A2 ly);have KI:=ae hrel;have Kn:=ae hp;have Kj:=ae GS;have LB:=ae Kl;clear h C HK KZ Km J8 hrel hp GS Kl;go_enter func153,ntmps153;go_upto_region 1 with fail;rw[HW.i];clear HW;have hzW2:B (z w)+2<=B (z W2):=by omega
 clear z2;have A3:=ae ((BS W2).alloc ly (N #[] 119));have O6:=ae (oH W2 119 3);go_upto_region 2 with fail;generalize World.alloc W2 _=W3 at A3 O6 ⊢;have A4:=ae ((BS W3).alloc ly (N #[] 191));have O7:=ae (oH W3 191 3);go_wp2_with fail;generalize World.alloc W3 _=W4 at A4 O7 ⊢;have n9:=ae (A3.k (A4.P A3.size));have AW:=ae (A2.k (n9.P A2.size));have hw32:B (z W2)<=B (z W3):=A3.size;have KP:Hid (SB w0 hb (Z a0 S.n0 c0) (Z a1 S.n1 c1) w y_ (Z (Q (T pb po Y)) (S.f1 tg).h j_) W4 [] [] ZY L0 JI Id Hx (B (z W2)) 0 (B (z W3)) 0):=by refine⟨Kd.aa n9 ly,aE (K_ O6 A4 ly) (by omega),aE O7 (by omega),λm hm hd e=>?_,(n9.p _ (by omega)).k kp,(n9.p _ (by omega)).k kr,KS.l AW ly la⟩;have:=(af (Kd.V m hm hd) _ e).2.1;omega
 have KU:Hid (SR w0 S hb (Z a0 S.n0 c0) (Z a1 S.n1 c1) w n y_ tg (Z (Q (T pb po Y)) (S.f1 tg).h j_) L0 R0 W4 [] [] ZY L0 JI Id Hx (B (z W2)) 0 (B (z W3)) 0):=
  ⟨KP,KI,Kn,iv S ZY,Kj,Lo.c,DW _,LExt.refl _ _⟩
 clear KP O6 O7 A3 A4 A2 n9 AW Kd KI Kn Kj kp kr;go_loopg [6,7] 202 (λg v6 v7 wr=>∃f G q_ L md or st g6 c6 g7 c7,v6=Z (Q (T g6 0 Y)) (List.length (α:=aD) f) c6/\v7=Z (Q (T g7 0 Y)) (List.length (α:=Lk) G) c7/\Hid (SR w0 S hb (Z a0 S.n0 c0) (Z a1 S.n1 c1) w n y_ tg (Z (Q (T pb po Y)) (S.f1 tg).h j_) L0 R0 wr f G q_ L md or st g6 c6 g7 c7)/\201 - (A f)<=g);case atStart=>exact⟨[],[],ZY,L0,JI,Id,Hx,_,_,_,_,rfl,rfl,KU,by simp⟩
 case round =>
  clear KU;obtain⟨f,G,q_,L,md,or,st,g6,c6,g7,c7,rfl,rfl,u,hg⟩:=hrel;have k0:ZV wr (T (B (z w)) 0 Y)=Q (Z (Q (T pb po Y)) (S.f1 tg).h j_):=by simp[World.cell?,u.sb.kp]
  have hkl:=ah u.sb.kp;have hy:=u.le;have Kq:A G=A f:=u.rg.len;obtain⟨ZP,hT⟩:∃ZP,ZP=bK S tg f:=⟨_,rfl⟩
  have HT:=ae hT;have Ks:=ae Kq;clear hT Kq;go_wp2_with fail;refine(nO pb po (S.f1 tg).h j_ g6 0 (A f) c6 (S.f1 tg).q (yL f) wr (by omega) (Lm.aa u.sb.si.ak ly) (Ih u.sb.r6) Ln).P ?_;rintro e K⟨he,P⟩;rw[CH CC.ok JM u.rg.good u.le,<-HT.i] at he;subst he;have Lr:=ae (u.sb.aa P ly);have JZ:=ae (me CC.ok JM u.rg.good);rw[<-HT.i] at JZ;clear P k0;obtain⟨over,code,text,ask,name,v_⟩:=ZP;simp only[Turn.v];have A5:=ae ((BS K).alloc ly (N #[ZF over,J I code,U text,ZF ask,U name,J I v_] 116));have kt:Hid (TBx (ZU K (N #[ZF over,J I code,U text,ZF ask,U name,J I v_] 116)) (B (z K)) over code text ask name v_):=gM _ _;obtain⟨t0,t1,t2,t3,t4⟩:=kt.cells;have o:=ae (Lr.aa A5 ly);cases over with
  |true =>
   have LA:Hid (R0=.inl (q_,(⟨ZH,code,text,ask,name,v_⟩,G))):=by show _=_;rw[<-u.run,show 201 - (A f)=(200 - (A f))+1 by omega,bT,<-HT.i,eT rfl]
   obtain⟨rl,r0,r1,r2,rf⟩:=bR o.kr;obtain⟨Kg,KM,Kx⟩:=al3 rf;clear rf;go_wp2_with fail;generalize World.alloc K _=W5 at A5 kt o r0 r1 r2 Kg KM Kx rl t0 t1 t2 t3 t4 ⊢;refine bp (v:=.tuple #[ZJ #[J I code,U text,Z Y 0 0],Z (Q (T g7 0 Y)) (A G) c7]) (by simp[results,results153,go_sem,r0,r1,r2]) rfl ?_;have R:B (z w0)<=B (z w)+1:=by omega
   have x0:=o.si.ag o.kr ⟨by decide,by decide,by decide,by decide⟩ R 0 (J I code);have y0:=aw o.kr (j:=0) (J I code);have x1:=x0.ag y0 ⟨by decide,by decide,by decide,by decide⟩ R 1 (U text);have y1:=aw y0 (j:=1) (U text);have x2:=x1.ag y1 ⟨by decide,by decide,by decide,by decide⟩ R 2 (Z Y 0 0);have Fd:g7≠B (z w)+1:=λe=>by obtain⟨_,_,cs,hc⟩:=af o.r7 g7 rfl;exact absurd (ar (e ▸ hc) o.kr) (by decide)
   rw[LA.i];refine⟨L,md,or,st,g7,c7,rfl,x2,u.rel,aB (aB (aB o.r7 (λe=>Fd (IN e)) _ _) (λe=>Fd (IN e)) _ _) (λe=>Fd (IN e)) _ _,o.ap,u.ext,?_⟩;refine((o.kx.k (KS.setCell (X:=λi=>i=B (z w)+1) W5 R (Or.inl rfl) (J I code)) ?_).k (KS.setCell (X:=λi=>i=B (z w)+1) _ R (Or.inl rfl) (U text)) ?_).k (KS.setCell (X:=λi=>i=B (z w)+1) _ R (Or.inl rfl) (Z Y 0 0)) ?_;all_goals
    intro i hi h;have e2:i=B (z w)+1:=h;omega
  |false =>
   have hyl:A f<200:=by
    rcases JZ.i with h|h;{exact absurd h.1 (by simp)};{exact h.2.1}
   have HN:Hid (aA name=ZH):=by
    rcases JZ.i with h|h;{exact absurd h.1 (by simp)};{exact h.2.2}
   cases ask with
   |false =>
    have ZZ:=u.run;rw[show 201 - (A f)=(200 - (A f))+1 by omega,bT,<-HT.i,eI (by simp),eT rfl] at ZZ;obtain⟨H,DE⟩:∃H,H=fL S name:=⟨_,rfl⟩
    have KV:=ae DE;simp only at ZZ;rw[<-DE] at ZZ;have NX:=ae ZZ;clear ZZ DE;go_wp2_with fail;clear t0 t1 t2 t3 t4;generalize World.alloc K _=W5 at A5 kt o ⊢;obtain⟨ZO,b0,b1,-⟩:=o.si.ab.y;refine(pL CC W5 name o.si.ak ZO b0 b1).P ?_;rintro e ZS⟨he,P⟩;rw[<-KV.i] at he;subst he;have ZT:=ae (o.aa P ly);have V:Hid (TBx ZS (B (z K)) ZA code text ZA name v_):=(P.p _ (ah kt)).k kt;clear P b0 b1 ZO;have q:=ae ((BS ZS).alloc ly (N #[ZF H,J I 0,U ⟨#[]⟩] 119));have RA:=ae (K_ ZT.r6 q ly);have JS:B (z w)<=B (z ZS):=ZT.kx.aa.size
    go_upto_region 9 with (first
     |(at_builtin;refine cj _ rfl (.tmp 32) (.tmp 35) 114 rfl (B (z w)) 119 i6 (ZJ #[ZF ZA,J I 0,U ⟨#[]⟩]) 3 32 YM KQ Ku Ky Kp rfl (by decide) (Z (Q (T g6 0 Y)) (A f) c6) (A f) (mG f) (by simp[Act.eval]) RA.i (T (B (z ZS)) 0 Y) 1 1 [ZF H,J I 0,U ⟨#[]⟩] (by simp[Act.eval]) rfl (jz ZS _ _ _ _) (by simp[Value.oneCell']) (by unfold maxLen;omega) (by omega) (by simp<;>omega) ?_;intro v3 s ZL ZQ Bk;have O3:=ae ZL;have G3:=ae ZQ;clear ZL ZQ Bk)
     |fail)
    have ex:Hid (∀(k:Nat) (cs:Array ZB) (t:ZK) (fz:Nat × Nat),(ZU ZS (N #[ZF H,J I 0,U ⟨#[]⟩] 119)).heap[k]?=Q (Obj.cells cs t fz)->t≠119->s.heap[k]?=(ZU ZS (N #[ZF H,J I 0,U ⟨#[]⟩] 119)).heap[k]?):=λk cs t fz hk ht=>G3.p k (ah hk) λe=>by obtain⟨_,_,Lp,Fm⟩:=af RA k e.c;exact ht (ar hk Fm)
    have mv:Hid (TBx s (B (z K)) ZA code text ZA name v_):=by have h0:=(q.p _ (ah V)).k V;exact(ex _ _ _ _ h0 (by decide)).k h0
    have JR:Hid (ZW s (B (z w)) 191 3 (Z (Q (T g7 0 Y)) (A G) c7) (A G) (eG G)):=b9 (K_ ZT.r7 q ly) λk hk=>by obtain⟨_,_,cs,hc⟩:=af (K_ ZT.r7 q ly) k hk;exact ex _ _ _ _ hc (by decide)
    obtain⟨-,-,-,-,n4⟩:=mv.cells;have Lg:=ah mv.i;have A7:=ae ((BS s).alloc ly (N #[U name,ZF ZA,ZF H] 191));have RS:=ae (K_ JR A7 ly);have Ls:B (z w)<=B (z s):=nX (nX JS (by simp<;>omega)) G3.size;have qr:=Ks.i;obtain⟨ZR,ZN⟩:∃ZR,ZR=A G:=⟨_,rfl⟩
    have Ke:ZR<=200:=by omega
    have J4:=ae ZN;rw[<-ZN] at RS ⊢;clear qr ZN
    go_wp2_with (first
     |(at_builtin;refine cj _ rfl (.tmp 37) (.tmp 42) 186 rfl (B (z w)) 191 i7 (ZJ #[U ⟨#[]⟩,ZF ZA,ZF ZA]) 3 24 underlying186 Kk Kh KO KJ rfl (by decide) (Z (Q (T g7 0 Y)) ZR c7) ZR (eG G) (by simp[Act.eval]) RS.i (T (B (z s)) 0 Y) 1 1 [U name,ZF ZA,ZF H] (by simp[Act.eval]) rfl (jz s _ _ _ _) (by simp[Value.oneCell']) (by unfold maxLen;omega) (by omega) (by simp<;>omega) ?_;intro v4 w4 ZM M fd;have O4:=ae ZM;have G4:=ae M;have JW:=ae fd;clear ZM M fd)
     |fail)
    obtain⟨JU,J5,JQ,Kc,e6,e7,JT⟩:=ZT.more (r:=⟨H,0,⟨#[]⟩⟩) (l:=⟨name,ZA,H⟩) la q O3 G3 A7 (by rw[<-J4.i];exact O4) G4 JW;have D:(f++[(⟨H,0,⟨#[]⟩⟩:aD)]).length=A f+1:=by simp
    have J0:Hid (SR w0 S hb (Z a0 S.n0 c0) (Z a1 S.n1 c1) w n y_ tg (Z (Q (T pb po Y)) (S.f1 tg).h j_) L0 R0 w4 (f++[⟨H,0,⟨#[]⟩⟩]) (G++[⟨name,ZA,H⟩]) q_ L md or st JU J5 JQ Kc):=
     ⟨JT,u.rel,u.pg,(u.rg.add (by rw[KV.i];exact lv _ _) HN (λh=>by cases h)),(by rw[D,show 201 - (A f+1)=200 - (A f) by omega];exact(by have:=u.room;unfold fm at this ⊢;omega)),(by rw[D,show 201 - (A f+1)=200 - (A f) by omega];exact NX),(by rw[D];omega),u.ext⟩
    obtain⟨g,rfl⟩:∃g,gk=g+1:=⟨gk - 1,by omega⟩
    go_roundg g;case measure=>omega
    case rel=>exact⟨_,_,_,_,_,_,_,_,_,_,_,e6,e7,J0,by rw[D];omega⟩
   |true =>
    have ZZ:=u.run;rw[show 201 - (A f)=(200 - (A f))+1 by omega,bT,<-HT.i,eI (by simp),eI (by simp)] at ZZ;simp only at ZZ;go_wp2_with fail;clear t0 t1 t2 t3 t4;generalize World.alloc K _=W5 at A5 kt o ⊢;refine(Ly y_ q_ L md or st W5 name Lb o.si u.rel u.pg (by have:=u.room;unfold fm at this ⊢;omega) LB HN).P ?_;intro e ZS O;have HQ:(∃ZX x,aT S n y_ q_ name=.inl (ZX,x))\/∃(r:jj) (va:O_) (vn vk:Nat),e=ZI (jl r (Z va vn vk))/\jb w0 hb ZS r (Z va vn vk)/\KS (B (z w0)) XN W5 ZS/\Hid (∀vs w',jb w0 hb w' r (Z va vn vk)->KS (B (z w0)) XN w w'->pM w0 hb (Z a0 S.n0 c0) (Z a1 S.n1 c1) y_ L0 w (ZI (.tuple #[jl r (Z va vn vk),vs])) w' R0):=by
     rcases hr:aT S n y_ q_ name with⟨ZX,x⟩|c|d;{exact .inl ⟨_,_,rfl⟩};all_goals
      rw[hr] at O ZZ;dsimp only at ZZ;subst ZZ
     {obtain⟨ca,ck,rfl,hd,hK⟩:=O;exact .inr ⟨_,_,_,_,rfl,hd,hK,λvs w' h1 h2=>⟨ca,ck,vs,rfl,h1,h2⟩⟩};{obtain⟨rfl,hd,hK⟩:=O;exact .inr ⟨_,_,_,_,rfl,hd,hK,λvs w' h1 h2=>⟨vs,rfl,h1,h2⟩⟩}
    rcases HQ with⟨ZX,x,hr⟩|⟨r,va,vn,vk,rfl,⟨q0,q1,qm,qo,qs,JJ,Kv⟩,hK,fin⟩
    ·rw[hr] at O ZZ;dsimp only at ZZ;obtain⟨L2,Ld,Lx,Lu,rfl,La,JN,J6,hK⟩:=O;obtain⟨JK,⟨more,JL⟩,hx,J9⟩:=dm CC.ok n y_ q_ name ZX x u.pg HN hr;have JH:=iq S n y_ q_ name ZX x hr;have Ka:∀y∈q_,y∈ZX:=λy hy=>by rw[JL];exact NY _ hy
     have JY:=ae (o.step hK La J6);have Lv:=ae JN;have Lq:=ae JK;have KN:Hid (RG S ZX (f++[gF x]) (G++[⟨name,ZH,ZA⟩])):=(u.rg.P Ka).add (lw (JK.W x hx)) HN (λ_=>⟨x,hx,J9⟩);have Ll:Hid (fm S y_ ZX (200 - (A f))):=by have:=u.room;unfold fm at this ⊢;unfold fO at JH;show _<=_;omega
     have Lj:=ae (u.ext.k J6 o.kx.aa.size);have DQ:Hid (TBx ZS (B (z K)) ZA code text ZH name v_):=(hK.ad _ _ _ _ kt (by decide) (by decide) (by decide) λh=>h).k kt;have NX:=ae ZZ;obtain⟨rc,rt,ob,oc,ot,Kt,KT,Kz⟩:=F7 (JK.W x hx);rw[KT] at KN NX;have hz25:B (z W5)<=B (z ZS):=hK.aa.size;have hg65:g6<B (z W5):=(af o.r6 g6 rfl).2.1;have hw25:B (z w)+2<=B (z W5):=ah o.kr;rw[J9] at Kz;simp only[Kt];clear La JN J6 hK JK JL hx J9 JH Ka hr ZZ Kt KT;obtain⟨W6,At⟩:∃W:E,ZU ZS (N #[J I rc,U rt,Z Y 0 0] 88)=W:=⟨_,rfl⟩
     obtain⟨q,Kw,-⟩:=nb1 At;have J7:=ae At;clear At;obtain⟨ZO,-,-,-,-,-,-,-,-,b8,-⟩:=JY.si.ab.y;have d8:=(q.O (p:=(T hb 8 Y)) ZO).k b8;obtain⟨rl,r0,r1,-,-⟩:=bR Kw;go_upto_region 13 with fail;clear d8 b8;rw[J7.i];clear J7;obtain⟨W8,ph⟩:∃W:E,ZU W6 (N #[ZF ZH,J I rc,U rt] 119)=W:=⟨_,rfl⟩
     obtain⟨A7,ky,-⟩:=nb1 ph;have JP:=ae ph;clear ph;go_upto_region 14 with fail;rw[JP.i];clear JP;have Kf:=ae (q.k (A7.P q.size));have ld:=ae (JY.aa Kf ly);have n8:Hid (TBx W8 (B (z K)) ZA code text ZH name v_):=(Kf.p _ (ah DQ)).k DQ;have r7:=(A7.O (p:=(T (B (z ZS)) 0 Y)) rl).k r0;have ro:B (z ZS)<B (z W8):=lj rl A7.size;obtain⟨-,-,-,-,tn⟩:=n8.cells;have bt:=ah n8.i;obtain⟨yb,KH⟩:∃yb,yb=B (z W6):=⟨_,rfl⟩
     rw[<-KH] at ky ⊢;have ur:B (z w)+2<=yb:=by have:=q.size;omega
     have th:yb≠g6:=by have:=q.size;omega
     clear KH JY DQ A7 q Kw r0 r1;obtain⟨aq,b0,b1,-⟩:=ld.si.ab.y;rcases Kz with⟨Kb,e4,e3⟩|⟨Kb,e3⟩
     case' inr=>by_cases h4:rc=4
     all_goals
      have Kr:=ae Kb;have E3:=ae e3;clear Kb e3
     case' inl =>
      subst e4;go_wp2_with fail;refine(pL CC W8 name ld.si.ak aq b0 b1).P ?_;rintro e s⟨he,P⟩;rw[Kr.i] at he;subst he;have Lz:=ae (ld.aa P ly);have Ki:Hid (TBx s (B (z K)) ZA code text ZH name v_):=(P.p _ bt).k n8;have JG:=(P.p _ (ah ky)).k ky;obtain⟨yl,y0,y1,y2,yf⟩:=bR JG;obtain⟨Lf,Le,Lt⟩:=al3 yf;have x0:=Lz.ag JG ⟨by decide,by decide,by decide,by decide⟩ la ur th 0 (ZF ZA);have x1:=x0.1.ag x0.2 ⟨by decide,by decide,by decide,by decide⟩ la ur th 1 (J I 0);have x2:=x1.1.ag x1.2 ⟨by decide,by decide,by decide,by decide⟩ la ur th 2 (U ⟨#[]⟩);have ZT:=ae x2.1;have JX:B (z K)≠yb:=λe=>absurd (ar (show s.heap[B (z K)]?=_ from Ki.i) (e ▸ JG)) (by decide);have V:Hid (TBx (((s.setCell (T yb 0 Y) (ZF ZA)).setCell (T yb 1 Y) (J I 0)).setCell (T yb 2 Y) (U ⟨#[]⟩)) (B (z K)) ZA code text ZH name v_):=(qh _ _ _ _ JX).k ((qh _ _ _ _ JX).k ((qh _ _ _ _ JX).k Ki));have KY:Hid ((((s.setCell (T yb 0 Y) (ZF ZA)).setCell (T yb 1 Y) (J I 0)).setCell (T yb 2 Y) (U ⟨#[]⟩)).heap[yb]?=Q (N #[ZF ob,J I oc,U ot] 119 (0,0))):=by rw[E3.1,E3.2.1,E3.2.2];exact x2.2
      clear x0 x1 x2 P tn b0 b1 aq r7 ro bt rl JG;go_upto_region 16 with fail;clear y0 y1 y2 Lf Le Lt yl;generalize World.setCell (World.setCell (World.setCell s _ _) _ _) _ _=W8 at ZT KY V ⊢
     case' pos =>
      subst h4;go_wp2_with fail;refine(pL CC W8 name ld.si.ak aq b0 b1).P ?_;rintro e s⟨he,P⟩;rw[Kr.i] at he;subst he;have ZT:=ae (ld.aa P ly);have V:Hid (TBx s (B (z K)) ZA code text ZH name v_):=(P.p _ bt).k n8;have KY:Hid (s.heap[yb]?=Q (N #[ZF ob,J I oc,U ot] 119 (0,0))):=by rw[E3.1,E3.2.1,E3.2.2];exact(P.p _ (ah ky)).k ky
      clear P tn b0 b1 aq r7 ro bt rl;go_upto_region 16 with fail;generalize s=W8 at ZT KY V ⊢
     case' neg =>
      have h4b:(rc == 4)=ZA:=by simpa using h4
      have ZT:=ld;have V:=n8;have KY:Hid (W8.heap[yb]?=Q (N #[ZF ob,J I oc,U ot] 119 (0,0))):=by rw[E3.1,E3.2.1,E3.2.2];exact ky
      go_upto_region 16 with fail;clear tn b0 b1 aq r7 ro bt rl
     all_goals
      obtain⟨yl,y0,y1,y2,-⟩:=bR KY;have q:=ae ((BS W8).alloc ly (N #[ZF ob,J I oc,U ot] 119));have RA:=ae (K_ ZT.r6 q ly);have JS:B (z w)<=B (z W8):=ZT.kx.aa.size
      go_upto_region 17 with (first
       |(at_builtin;refine cj _ rfl (.tmp 73) (.tmp 75) 114 rfl (B (z w)) 119 i6 (ZJ #[ZF ZA,J I 0,U ⟨#[]⟩]) 3 32 YM KQ Ku Ky Kp rfl (by decide) (Z (Q (T g6 0 Y)) (A f) c6) (A f) (mG f) (by simp[Act.eval]) RA.i (T (B (z W8)) 0 Y) 1 1 [ZF ob,J I oc,U ot] (by simp[Act.eval]) rfl (jz W8 _ _ _ _) (by simp[Value.oneCell']) (by unfold maxLen;omega) (by omega) (by simp<;>omega) ?_;intro v3 s ZL ZQ Bk;have O3:=ae ZL;have G3:=ae ZQ;clear ZL ZQ Bk)
       |fail)
      have ex:Hid (∀(k:Nat) (cs:Array ZB) (t:ZK) (fz:Nat × Nat),(ZU W8 (N #[ZF ob,J I oc,U ot] 119)).heap[k]?=Q (Obj.cells cs t fz)->t≠119->s.heap[k]?=(ZU W8 (N #[ZF ob,J I oc,U ot] 119)).heap[k]?):=λk cs t fz hk ht=>G3.p k (ah hk) λe=>by obtain⟨_,_,Lp,Fm⟩:=af RA k e.c;exact ht (ar hk Fm)
      have mv:Hid (TBx s (B (z K)) ZA code text ZH name v_):=by have h0:=(q.p _ (ah V)).k V;exact(ex _ _ _ _ h0 (by decide)).k h0
      have JR:Hid (ZW s (B (z w)) 191 3 (Z (Q (T g7 0 Y)) (A G) c7) (A G) (eG G)):=b9 (K_ ZT.r7 q ly) λk hk=>by obtain⟨_,_,cs,hc⟩:=af (K_ ZT.r7 q ly) k hk;exact ex _ _ _ _ hc (by decide)
      obtain⟨-,-,-,-,n4⟩:=mv.cells;have Lg:=ah mv.i;have A7:=ae ((BS s).alloc ly (N #[U name,ZF ZH,ZF ZA] 191));have RS:=ae (K_ JR A7 ly);have Ls:B (z w)<=B (z s):=nX (nX JS (by simp<;>omega)) G3.size;have qr:=Ks.i;obtain⟨ZR,ZN⟩:∃ZR,ZR=A G:=⟨_,rfl⟩
      have Ke:ZR<=200:=by omega
      have J4:=ae ZN;rw[<-ZN] at RS ⊢;clear qr ZN
      go_wp2_with (first
       |(at_builtin;refine cj _ rfl (.tmp 77) (.tmp 81) 186 rfl (B (z w)) 191 i7 (ZJ #[U ⟨#[]⟩,ZF ZA,ZF ZA]) 3 24 underlying186 Kk Kh KO KJ rfl (by decide) (Z (Q (T g7 0 Y)) ZR c7) ZR (eG G) (by simp[Act.eval]) RS.i (T (B (z s)) 0 Y) 1 1 [U name,ZF ZH,ZF ZA] (by simp[Act.eval]) rfl (jz s _ _ _ _) (by simp[Value.oneCell']) (by unfold maxLen;omega) (by omega) (by simp<;>omega) ?_;intro v4 w4 ZM M fd;have O4:=ae ZM;have G4:=ae M;have JW:=ae fd;clear ZM M fd)
       |fail)
      obtain⟨JU,J5,JQ,Kc,e6,e7,JT⟩:=ZT.more (r:=⟨ob,oc,ot⟩) (l:=⟨name,ZH,ZA⟩) la q O3 G3 A7 (by rw[<-J4.i];exact O4) G4 JW;have D:(f++[(⟨ob,oc,ot⟩:aD)]).length=A f+1:=by simp
      have J0:Hid (SR w0 S hb (Z a0 S.n0 c0) (Z a1 S.n1 c1) w n y_ tg (Z (Q (T pb po Y)) (S.f1 tg).h j_) L0 R0 w4 (f++[⟨ob,oc,ot⟩]) (G++[⟨name,ZH,ZA⟩]) ZX L2 Ld Lx Lu JU J5 JQ Kc):=
       ⟨JT,Lv,Lq,KN,(by rw[D,show 201 - (A f+1)=200 - (A f) by omega];exact Ll),(by rw[D,show 201 - (A f+1)=200 - (A f) by omega];exact NX),(by rw[D];omega),Lj⟩
      obtain⟨g,rfl⟩:∃g,gk=g+1:=⟨gk - 1,by omega⟩
      go_roundg g;case measure=>omega
      case rel=>exact⟨_,_,_,_,_,_,_,_,_,_,_,e6,e7,J0,by rw[D];omega⟩
    ·clear O ZZ;obtain⟨ZO,-,-,-,-,-,b5,b6,b7,b8,-⟩:=JJ.y;have Fk:=(hK.ad _ _ _ _ o.kr (by decide) (by decide) (by decide) λh=>h).k o.kr;have KW:=ae (o.kx.to hK);have Li:=ae JJ;have Ko:=ae Kv;have q:=ae ((BS ZS).alloc ly (N #[J I r.M,U r.H,Z va vn vk] 88));have JO:=(q.p _ (ah Fk)).k Fk;obtain⟨rl,r0,r1,r2,rf⟩:=bR JO;have d5:=(q.O (p:=(T hb 5 Y)) ZO).k b5;have d6:=(q.O (p:=(T hb 6 Y)) ZO).k b6;have d7:=(q.O (p:=(T hb 7 Y)) ZO).k b7;have d8:=(q.O (p:=(T hb 8 Y)) ZO).k b8;obtain⟨Kg,KM,Kx⟩:=al3 rf;have sm:hb≠B (z w)+1:=λe=>absurd (ar (e ▸ JJ) Fk) (by decide);have Lh:=ae JO;clear rf JJ Kv hK b5 b6 b7 b8 Fk JO;simp only[jl];go_wp2_with fail;refine bp (v:=.tuple #[jl r (Z va vn vk),Z (Q (T g7 0 Y)) (A G) c7]) (by simp[results,results153,go_sem,r0,r1,r2,jl]) rfl ?_;have R:B (z w0)<=B (z w)+1:=by omega
     have Lc:∀(W:E) (v0 v1 v2:ZB),(((W.setCell (T (B (z w)+1) 0 Y) v0).setCell (T (B (z w)+1) 1 Y) v1).setCell (T (B (z w)+1) 2 Y) v2).heap[hb]?=W.heap[hb]?:=λW v0 v1 v2=>(qh _ _ _ _ sm).k ((qh _ _ _ _ sm).k (qh _ _ _ _ sm));have JV:∀k,(Value.slice va vn vk).ownBlock=Q k->k≠B (z w)+1:=λk hk e=>by obtain⟨_,_,cs,hc⟩:=af (K_ Ko q ly) k hk;exact absurd (ar (e ▸ hc) Lh) (by decide)
     refine fin (Z (Q (T g7 0 Y)) (A G) c7) _ ⟨q0,q1,qm,qo,qs,(Lc _ _ _ _).k ((q.p _ ZO).k Li),aB (aB (aB (K_ Ko q ly) (λe=>JV _ e rfl) _ _) (λe=>JV _ e rfl) _ _) (λe=>JV _ e rfl) _ _⟩ ?_;refine((((KW.to (KS.l q ly (nX la KW.aa.size))).k (KS.setCell (X:=λi=>i=B (z w)+1) _ R (Or.inl rfl) _) ?_).k (KS.setCell (X:=λi=>i=B (z w)+1) _ R (Or.inl rfl) _) ?_).k (KS.setCell (X:=λi=>i=B (z w)+1) _ R (Or.inl rfl) _) ?_);all_goals
      intro i hi h;have e2:i=B (z w)+1:=h;omega
end
