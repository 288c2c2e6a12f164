import Derived.Test.YtcnilonhfpimnaaGreatDoorEK
import Derived.Test.YtcnilonhfpimnaaGreatDoorFY
import Derived.Deep.Cut
set_option linter.all false
set_option maxRecDepth 1000000
set_option maxHeartbeats 8000000
open Go renaming Addr.mk->T,Value.slice->Y,Value.string->U,Value.int->J,Value.bool->ZF,Value.agg->ZJ,Obj.cells->N,IntKind.i64->I,World->E,Value->ZB,TypeId->ZK,Ending.returned->ZI,World.heap->z,World.ownsRow->ZX,World.alloc->ZV,World.cell?->ZW,World.setCell->ZU
open Option renaming none->Z,some->Q
open Bool renaming false->ZA,true->ZH
open Array renaming size->B
open List renaming length->A
namespace Go.Proofs.YtcnilonhfpimnaaGreatDoor.Vp
open Tryz RowKit
variable {W wr w:E}{b l n g size p:Nat}{t e:ZK}{i:ZB}
structure SB (w0:E)(hb:Nat)(s0 s1:ZB)(w:E)(y_:List F_)(pv:ZB)(wr:E)(ys:List aD)(ls:List Lk)(q_:List k_)(L:List SM)(md or st:ZB)(g6 c6 g7 c7:Nat):Prop where
 si:SI w0 hb s0 s1 wr y_ q_ L md or st
 r6:ZX wr (B (z w)) 119 3 (Y (Q (T g6 0 Z)) (A ys) c6) (A ys) (mG ys)
 r7:ZX wr (B (z w)) 191 3 (Y (Q (T g7 0 Z)) (A ls) c7) (A ls) (eG ls)
 ap:∀m∈L,m.done=ZH->m.sv.ownBlock≠Q g7
 kp:wr.heap[B (z w)]?=Q (N #[pv] 37 (0,0))
 kr:wr.heap[B (z w)+1]?=Q (N #[J I 0,U ⟨#[]⟩,Y Z 0 0] 88 (0,0))
 kx:KS (B (z w0)) XN w wr
structure SR (w0:E)(S:xl)(hb:Nat)(s0 s1:ZB)(w:E)(n:Nat)(y_:List F_)(tg:Nat)(pv:ZB)(L0:List SM)(R0:Out (Turn × List Lk))(wr:E)(ys:List aD)(ls:List Lk)(q_:List k_)(L:List SM)(md or st:ZB)(g6 c6 g7 c7:Nat):Prop where
 sb:SB w0 hb s0 s1 w y_ pv wr ys ls q_ L md or st g6 c6 g7 c7
 rel:fM L y_ q_
 pg:PG S y_ q_
 rg:RG S q_ ys ls
 room:fm S y_ q_ (201 - (A ys))
 run:bT S (aT S n y_) tg (201 - (A ys)) q_ ys ls=R0
 le:A ys<=200
 ext:LExt (B (z w)) L0 L
def TBx (w:E)(g:Nat)(over:Bool)(code:Int)(text:F_)(ask:Bool)(name:F_)(v_:Int):Prop:=w.heap[g]?=Q (N #[ZF over,J I code,U text,ZF ask,U name,J I v_] 116 (0,0))
def TBx.cells{over:Bool}{code:Int}{text:F_}{ask:Bool}{name:F_}{v_:Int}(h:TBx w g over code text ask name v_):ZW w (T g 0 Z)=Q (ZF over)/\ZW w (T g 1 Z)=Q (J I code)/\ZW w (T g 2 Z)=Q (U text)/\ZW w (T g 3 Z)=Q (ZF ask)/\ZW w (T g 4 Z)=Q (U name):=by unfold TBx at h;refine⟨?_,?_,?_,?_,?_⟩;all_goals simp[World.cell?,h]
def pM (w0:E)(hb:Nat)(s0 s1:ZB)(y_:List F_)(L:List SM)(w:E)(e:Ending)(w':E):Out (Turn × List Lk)->Prop
 |.inl (made',x)=>∃b h f i g c,e=ZI (.tuple #[ZJ #[J I x.1.M,U x.1.H,Y Z 0 0],Y (Q (T g 0 Z)) x.2.length c])/\SI w0 hb s0 s1 w' y_ made' b h f i/\fM b y_ made'/\ZX w' (B (z w)) 191 3 (Y (Q (T g 0 Z)) x.2.length c) x.2.length (eG x.2)/\(∀m∈b,m.done=ZH->m.sv.ownBlock≠Q g)/\LExt (B (z w)) L b/\KS (B (z w0)) XN w w'
 |.inr (.inl c)=>∃a k sv,e=ZI (.tuple #[jl (jx c) (Y a (A c) k),sv])/\jb w0 hb w' (jx c) (Y a (A c) k)/\KS (B (z w0)) XN w w'
 |.inr (.inr d)=>∃sv,e=ZI (.tuple #[jl (jy d) (Y Z 0 0),sv])/\jb w0 hb w' (jy d) (Y Z 0 0)/\KS (B (z w0)) XN w w'
def jz (w:E)(i b g:ZB)(t:ZK):∀j u,[i,b,g][j]?=Q u->(ZV w (N #[i,b,g] t)).cell? (((T (B (z w)) 0 Z):Addr).add j)=Q u:=by
 intro j u h;rw[addr_add];have hj:j<3:=by
  rcases OR j 3 with f|f;{exact f};{rw[NT (by simp;omega)] at h;cases h}
 rcases(show j=0\/j=1\/j=2 by omega) with rfl|rfl|rfl;all_goals
  simp at h;subst h;simp
def bR{f g:ZB}(h:w.heap[b]?=Q (N #[i,f,g] t (0,0))):b<B (z w)/\ZW w (T b 0 Z)=Q i/\ZW w (T b 1 Z)=Q f/\ZW w (T b 2 Z)=Q g/\∀j,w.frozen? (T b j Z)=ZA:=by refine⟨ah h,?_,?_,?_,λj=>?_⟩;all_goals simp[World.cell?,World.frozen?,h]
section
variable {w0 w w':E}{hb:Nat}{s0 s1 md or st:ZB}{y_:List F_}{q_:List k_}{L:List SM}
def SI.grown{v:ZB}{ZT:List ZB}(h:SI w0 hb s0 s1 w y_ q_ L md or st)(b:w.grownBy w' v.ownBlock)(G:ZX w l e size v n ZT)(hB:B (z w0)<=l)(p:e≠9/\e≠188/\e≠141)(D:∀m∈L,m.done=ZH->∀k,v.ownBlock=Q k->m.sv.ownBlock≠Q k):SI w0 hb s0 s1 w' y_ q_ L md or st:=by
 have ZZ:=af G;have s:∀(i:Nat) (q:Array ZB) (t:ZK) (fz:Nat × Nat),w.heap[i]?=Q (Obj.cells q t fz)->t≠e->w'.heap[i]?=w.heap[i]?:=λi q t fz hi j=>b.p i (ah hi) λo=>by obtain⟨_,_,cs2,r⟩:=ZZ i o.c;exact j (ar hi r)
 have f:∀{size n:Nat} {t:ZK} {u:ZB} {ZY:List ZB},ZX w (B (z w0)) t size u n ZY->t≠e->ZX w' (B (z w0)) t size u n ZY:=λZ8 j=>b9 Z8 λk g=>by obtain⟨_,_,q,r⟩:=af Z8 k g;exact s _ _ _ _ r j
 refine⟨h.ak.k ⟨b.os,b.tape,b.output,b.size,λk g=>b.p k (lj g h.lt) λo=>?_⟩,h.hbB,h.ab.ad (s _ _ _ _ h.ab p.2.2.c),f h.X p.2.1.c,f h.ror p.1.c,f h.rst p.1.c,h.apart,λm y x=>b9 (h.V m y x) λk g=>?_⟩;{have:=(ZZ k o.c).1;omega};{obtain⟨_,C,q,r⟩:=af (h.V m y x) k g;exact b.p k C λo=>D m y x k o.c g}
def KS.grow{v:ZB}{p:List ZB}{ZY:Nat}(h:KS ZY XN W w)(m:w.grownBy w' v.ownBlock)(l:w.ownsRow b e size v n p)(q:B (z W)<=b)(g:ZY<=B (z W)):KS ZY XN W w':=
 h.k (ZL:=λi=>v.ownBlock=Q i) (KS.of_grown m (nX g h.aa.size) λj f=>⟨nX (nX g q) (af l j f).1,.inl f⟩) λi hi o=>by have:=(af l i o).1;omega
def SB.aa{g:E}{n:ZB}{m:List aD}{i:List Lk}{o j C:Nat}(h:SB w0 hb s0 s1 W y_ n wr m i q_ L md or st o l p j)(b:Below C wr g)(f:B (z wr)<=C):SB w0 hb s0 s1 W y_ n g m i q_ L md or st o l p j:=
 ⟨h.si.aa b f,J_ h.r6 b f,J_ h.r7 b f,h.ap,(b.p _ (lj (ah h.kp) f)).k h.kp,(b.p _ (lj (ah h.kr) f)).k h.kr,h.kx.to (KS.l b f h.si.lt)⟩
def SB.more{ZN O K ZT ZP:E}{pv v3 ZQ:ZB}{n:List aD}{g:List Lk}{ZZ V i M:Nat}{r:aD}{l:Lk}(h:SB w0 hb s0 s1 W y_ pv ZN n g q_ L md or st ZZ V i M)(P:B (z w0)<=B (z W))
  (b3:Below (B (z ZN)) ZN O) (X:ZX K (B (z W)) 119 3 v3 (A n+1) (mG n++[ZF r.has,J I r.M,U r.H])) (ZY:O.grownBy K (Q ZZ))
  (q:Below (B (z K)) K ZT) (o4:ZX ZP (B (z W)) 191 3 ZQ (A g+1) (eG g++[U l.e,ZF l.ask,ZF l.has])) (C:ZT.grownBy ZP (Q i)) (G:ZQ.ownBlock=Q i\/ZQ.ownBlock=Q (B (z ZT))) :
  ∃s t f u,v3=Y (Q (T s 0 Z)) (n++[r]).length t/\ZQ=Y (Q (T f 0 Z)) (g++[l]).length u/\SB w0 hb s0 s1 W y_ pv ZP (n++[r]) (g++[l]) q_ L md or st s t f u:=by
 have b:=h.aa b3 ly;have ex:B (z W)<B (z O):=ah b.kp;have aq:B (z W)+1<B (z O):=ah b.kr;have bt:=af b.r6 ZZ rfl;obtain⟨hg6,hg6l,cs6,j⟩:=bt
 have s3:=b.si.grown (v:=Y (Q (T ZZ 0 Z)) (A n) V) ZY b.r6 P ⟨by decide,by decide,by decide⟩ (λm Z8 x k o e=>by
  cases o
  obtain⟨_,_,cs,ZR⟩:=af (b.si.V m Z8 x) ZZ e
  exact absurd (ar j ZR) (by decide))
 have k3:=KS.grow (v:=Y (Q (T ZZ 0 Z)) (A n) V) b.kx ZY b.r6 ly P;have ZL:ZX K (B (z W)) 191 3 (Y (Q (T i 0 Z)) (A g) M) (A g) (eG g):=b9 b.r7 λk o=>by obtain⟨_,S,cs,ZR⟩:=af b.r7 k o;exact ZY.p k S λe=>by cases e;exact absurd (ar j ZR) (by decide)
 have ZO:=(ZY.p (B (z W)) ex λe=>by cases e;exact absurd (ar j b.kp) (by decide)).k b.kp;have R:=(ZY.p (B (z W)+1) aq λe=>by have y:=IH e;exact absurd (ar j (y ▸ b.kr)) (by decide)).k b.kr;obtain⟨s,t,cu6,rfl,-⟩:=X.2.resolve_left (λh=>by omega);have ZM:=s3.aa q ly;have H:=J_ ZL q ly;obtain⟨hg7,hg7l,cs7,p⟩:=af H i rfl;have ZS:=(q.p (B (z W)) (ah ZO)).k ZO;have D:=(q.p (B (z W)+1) (ah R)).k R;have s5:=ZM.grown (v:=Y (Q (T i 0 Z)) (A g) M) C H P ⟨by decide,by decide,by decide⟩ (λm Z8 x k o e=>by cases o;exact h.ap m Z8 x e);have k5:=KS.grow (v:=Y (Q (T i 0 Z)) (A g) M) (k3.to (KS.l q ly s3.lt)) C H ly P;obtain⟨f,u,cu7,rfl,-⟩:=o4.2.resolve_left (λh=>by omega);have e6:(n++[r]).length=A n+1:=by simp
 have e7:(g++[l]).length=A g+1:=by simp
 refine⟨s,t,f,u,by rw[e6],by rw[e7],s5,?_,?_,λm Z8 x e=>?_,?_,?_,k5⟩;{rw[e6,FY];refine b9 (J_ X q ly) λk o=>?_;obtain⟨_,S,cs,ZR⟩:=af (J_ X q ly) k o;exact C.p k S λe=>by cases e;exact absurd (ar p ZR) (by decide)};{rw[e7,CF];exact o4};{rcases G with G|G;{have y:f=i:=IH (show Q f=Q i from G);exact h.ap m Z8 x (y ▸ e)};{have y:f=B (z ZT):=IH (show Q f=Q (B (z ZT)) from G);have:=(af (ZM.V m Z8 x) _ e).2.1;omega}};{exact(C.p (B (z W)) (ah ZS) λe=>by cases e;exact absurd (ar p ZS) (by decide)).k ZS};{exact(C.p (B (z W)+1) (ah D) λe=>by have y:=IH e;exact absurd (ar p (y ▸ D)) (by decide)).k D}
def SI.ag{ZZ:Array ZB}{fz:Nat × Nat}(h:SI w0 hb s0 s1 w y_ q_ L md or st)(i:w.heap[b]?=Q (N ZZ t fz))(g:t≠9/\t≠188/\t≠141/\t≠191)(s:B (z w0)<=b)(j:Nat)(u:ZB):SI w0 hb s0 s1 (ZU w (T b j Z) u) y_ q_ L md or st:=by
 have f:∀{size n:Nat} {l:ZK} {q:ZB} {r:List ZB},ZX w (B (z w0)) l size q n r->t≠l->(ZU w (T b j Z) u).ownsRow (B (z w0)) l size q n r:=λo p=>aB o (λe=>by
  obtain⟨_,_,cs2,Z8⟩:=af o b e
  exact p (ar i Z8)) _ _
 refine⟨h.ak.setCell s u,h.hbB,h.ab.ad (qh _ _ _ _ λe=>?_),f h.X g.2.1,f h.ror g.1,f h.rst g.1,h.apart,λm y x=>f (h.V m y x) g.2.2.2⟩;simp at e;subst e;exact g.2.2.1 (ar i h.ab)
def SB.step{n:E}{s j g:ZB}{ZZ:List aD}{r:List Lk}{t y u:Nat}{b:List k_}{o:List SM}(h:SB w0 hb s0 s1 W y_ s wr ZZ r q_ L md or st t y l u)(f:KS (B (z w0)) XN wr n)(ZY:SI w0 hb s0 s1 n y_ b o i j g)(hX:LExt (B (z wr)) L o):SB w0 hb s0 s1 W y_ s n ZZ r b o i j g t y l u:=by
 refine⟨ZY,b9 h.r6 λk q=>?_,b9 h.r7 λk q=>?_,λm C Z8 e=>?_,(f.ad _ _ _ _ h.kp (by decide) (by decide) (by decide) λh=>h).k h.kp,(f.ad _ _ _ _ h.kr (by decide) (by decide) (by decide) λh=>h).k h.kr,h.kx.to f⟩;{obtain⟨_,_,ZT,p⟩:=af h.r6 k q;exact f.ad _ _ _ _ p (by decide) (by decide) (by decide) λh=>h};{obtain⟨_,_,ZT,p⟩:=af h.r7 k q;exact f.ad _ _ _ _ p (by decide) (by decide) (by decide) λh=>h};{rcases hX.sn m C Z8 with⟨m0,G,x,D⟩|h1;{exact h.ap m0 G x (by rw[D];exact e)};{have h2:=h1 _ e;have h3:=(af h.r7 l rfl).2.1;omega}}
def SB.ag{m:ZB}{s:List aD}{l:List Lk}{r:Nat}{x:Array ZB}(h:SB w0 hb s0 s1 W y_ m wr s l q_ L md or st g r n p)(f:wr.heap[b]?=Q (N x t (0,0)))(o:t≠9/\t≠188/\t≠141/\t≠191)(hB:B (z w0)<=B (z W))(hb1:B (z W)+2<=b)(q:b≠g)(j:Nat)(u:ZB):SB w0 hb s0 s1 W y_ m (ZU wr (T b j Z) u) s l q_ L md or st g r n p/\(ZU wr (T b j Z) u).heap[b]?=Q (N (x.setIfInBounds j u) t (0,0)):=by refine⟨⟨h.si.ag f o (by omega) j u,aB h.r6 (λe=>q (IH e).c) _ _,aB h.r7 (λe=>?_) _ _,h.ap,(qh _ _ _ _ (show (B (z W))≠b by omega)).k h.kp,(qh _ _ _ _ (show (B (z W))+1≠b by omega)).k h.kr,h.kx.k (KS.setCell (X:=λi=>i=b) _ (by omega) (Or.inl rfl) u) λi hi y=>by have e2:i=b:=y;omega⟩,aw f u⟩;obtain⟨_,_,cs2,ZZ⟩:=af h.r7 b e;exact o.2.2.2 (ar f ZZ)
def F7{S:xl}{x:k_}(h:EG S x):∃f m j g l,dt x=⟨f,m,[]⟩/\gF x=⟨j,g,l⟩/\(fL S x.e=ZA/\f=4/\j=ZA/\g=0/\l=⟨#[]⟩\/fL S x.e=ZH/\j=ZH/\g=f/\l=m):=by
 unfold dt gF fL;rw[ja,ja];rcases h.L with⟨b,_,_,i,hi,_⟩|⟨b,p,o,_,n,h1⟩|⟨b,_,h1⟩
 {exact⟨x.M,x.H,ZH,x.M,x.H,by rw[eI (by omega)],by simp[b],.inr ⟨by rw[hi];rfl,rfl,rfl,rfl⟩⟩};{exact⟨4,x.e,ZA,0,⟨#[]⟩,by rw[eT b],by simp[b,p,o],.inl ⟨by rw[n,h1];rfl,rfl,rfl,rfl,rfl⟩⟩};{exact⟨x.M,x.H,ZH,x.M,x.H,by rw[eI (by omega)],by simp[b],.inr ⟨by rw[h1];simp,rfl,rfl,rfl⟩⟩}
end
section
variable {w0:E}{S:xl}{a0 a1:O_}{c0 c1 hb:Nat}{y_:List F_}
def F8 (C:pJ w0 S a0 a1)(n:Nat)(HK:oe w0 S hb (Y a0 S.n0 c0) (Y a1 S.n1 c1) n)(ZZ:List k_)(L0:List SM)(JJ JL GS:ZB)(w:E)(a:O_)(j_ tg:Nat)(Ld:A y_+n=60)(h:SI w0 hb (Y a0 S.n0 c0) (Y a1 S.n1 c1) w y_ ZZ L0 JJ JL GS)(hrel:fM L0 y_ ZZ)(hp:PG S y_ ZZ)(Id:fm S y_ ZZ 201)(Kz:MT S y_)(JN:tg<S.n1)(Kj:SlIns w0 a (S.f1 tg).h (S.f1 tg).q):Calls Tryz.prog 153 #[.pointer (Q (T hb 0 Z)),ZJ #[Y a (S.f1 tg).h j_]] w λe w'=>pM w0 hb (Y a0 S.n0 c0) (Y a1 S.n1 c1) y_ L0 w e w' (bT S (aT S n y_) tg 201 ZZ [] []):=by
 obtain⟨i6,KM,Km,KH,KO⟩:=lE An;obtain⟨i7,KJ,Kx,Kp,Kg⟩:=lE FW;obtain⟨hok,hc1,JH⟩:=bJ (C.ok.q tg JN);obtain⟨pb,po,rfl,Kw⟩:∃pb po,a=Q (T pb po Z)/\Q_ w0 pb po (S.f1 tg).h (S.f1 tg).q:=by
  rcases Kj with h|⟨b,off,e,hr⟩
  {omega};{exact⟨b,off,e,hr⟩}
 have Ln:=ae Kw;have CC:=ae C;have Lg:=ae HK;have bt:B (z w0)<=B (z w):=h.lt;have Lz:=ae (FZ C.ok JN);obtain⟨R0,Ka⟩:∃R0,R0=bT S (aT S n y_) tg 201 ZZ [] []:=⟨_,rfl⟩
 rw[<-Ka];have Li:=ae Ka;obtain⟨W2,hW⟩:∃W:E,ZV (ZV w (N #[Y (Q (T pb po Z)) (S.f1 tg).h j_] 37)) (N #[J I 0,U ⟨#[]⟩,Y Z 0 0] 88)=W:=⟨_,rfl⟩
 obtain⟨A2,kp,kr,z2⟩:=nb2 hW;have HW:=ae hW;clear hW;have JQ:=ae (h.aa A2 ly);have KT:=ae hrel;have Ku:=ae hp;have KU:=ae Id;have Ly:=ae Kz;clear h C HK Kw Kj Ka hrel hp Id Kz;go_enter func153,ntmps153;go_upto_region 1 with fail;rw[HW.i];clear HW;have hzW2:B (z w)+2<=B (z W2):=by omega
 clear z2;have A3:=ae ((BS W2).alloc ly (N #[] 119));have O6:=ae (oH W2 119 3);go_upto_region 2 with fail;generalize World.alloc W2 _=W3 at A3 O6 ⊢;have A4:=ae ((BS W3).alloc ly (N #[] 191));have O7:=ae (oH W3 191 3);go_wp2_with fail;generalize World.alloc W3 _=W4 at A4 O7 ⊢;have ph:=ae (A3.k (A4.P A3.size));have AW:=ae (A2.k (ph.P A2.size));have hw32:B (z W2)<=B (z W3):=A3.size;have Kv:Hid (SB w0 hb (Y a0 S.n0 c0) (Y a1 S.n1 c1) w y_ (Y (Q (T pb po Z)) (S.f1 tg).h j_) W4 [] [] ZZ L0 JJ JL GS (B (z W2)) 0 (B (z W3)) 0):=by refine⟨JQ.aa ph ly,aE (J_ O6 A4 ly) (by omega),aE O7 (by omega),λm hm hd e=>?_,(ph.p _ (by omega)).k kp,(ph.p _ (by omega)).k kr,KS.l AW ly bt⟩;have:=(af (JQ.V m hm hd) _ e).2.1;omega
 have KN:Hid (SR w0 S hb (Y a0 S.n0 c0) (Y a1 S.n1 c1) w n y_ tg (Y (Q (T pb po Z)) (S.f1 tg).h j_) L0 R0 W4 [] [] ZZ L0 JJ JL GS (B (z W2)) 0 (B (z W3)) 0):=
  ⟨Kv,KT,Ku,iv S ZZ,KU,Li.c,DW _,LExt.refl _ _⟩
 clear Kv O6 O7 A3 A4 A2 ph AW JQ KT Ku KU kp kr;go_loopg [6,7] 202 (λg v6 v7 wr=>∃f G q_ L md or st g6 c6 g7 c7,v6=Y (Q (T g6 0 Z)) (List.length (α:=aD) f) c6/\v7=Y (Q (T g7 0 Z)) (List.length (α:=Lk) G) c7/\Hid (SR w0 S hb (Y a0 S.n0 c0) (Y a1 S.n1 c1) w n y_ tg (Y (Q (T pb po Z)) (S.f1 tg).h j_) L0 R0 wr f G q_ L md or st g6 c6 g7 c7)/\201 - (A f)<=g);case atStart=>exact⟨[],[],ZZ,L0,JJ,JL,GS,_,_,_,_,rfl,rfl,KN,by simp⟩
 case round =>
  clear KN;obtain⟨f,G,q_,L,md,or,st,g6,c6,g7,c7,rfl,rfl,s,hg⟩:=hrel;have k0:ZW wr (T (B (z w)) 0 Z)=Q (Y (Q (T pb po Z)) (S.f1 tg).h j_):=by simp[World.cell?,s.sb.kp]
  have hkl:=ah s.sb.kp;have hy:=s.le;have La:A G=A f:=s.rg.len;obtain⟨ZP,hT⟩:∃ZP,ZP=bK S tg f:=⟨_,rfl⟩
  have HT:=ae hT;have KI:=ae La;clear hT La;go_wp2_with fail;refine(nO pb po (S.f1 tg).h j_ g6 0 (A f) c6 (S.f1 tg).q (yL f) wr (by omega) (Ln.aa s.sb.si.ak ly) (Ih s.sb.r6) Lz).P ?_;rintro e M⟨he,P⟩;rw[CH CC.ok JN s.rg.good s.le,<-HT.i] at he;subst he;have Ls:=ae (s.sb.aa P ly);have JV:=ae (me CC.ok JN s.rg.good);rw[<-HT.i] at JV;clear P k0;obtain⟨over,code,text,ask,name,v_⟩:=ZP;simp only[Turn.v];have A5:=ae ((BS M).alloc ly (N #[ZF over,J I code,U text,ZF ask,U name,J I v_] 116));have kt:Hid (TBx (ZV M (N #[ZF over,J I code,U text,ZF ask,U name,J I v_] 116)) (B (z M)) over code text ask name v_):=gM _ _;obtain⟨t0,t1,t2,t3,t4⟩:=kt.cells;have o:=ae (Ls.aa A5 ly);cases over with
  |true =>
   have LA:Hid (R0=.inl (q_,(⟨ZH,code,text,ask,name,v_⟩,G))):=by show _=_;rw[<-s.run,show 201 - (A f)=(200 - (A f))+1 by omega,bT,<-HT.i,eT rfl]
   obtain⟨rl,r0,r1,r2,rf⟩:=bR o.kr;obtain⟨Kr,Kk,Kt⟩:=al3 rf;clear rf;go_wp2_with fail;generalize World.alloc M _=W5 at A5 kt o r0 r1 r2 Kr Kk Kt rl t0 t1 t2 t3 t4 ⊢;refine bp (v:=.tuple #[ZJ #[J I code,U text,Y Z 0 0],Y (Q (T g7 0 Z)) (A G) c7]) (by simp[results,results153,go_sem,r0,r1,r2]) rfl ?_;have ZO:B (z w0)<=B (z w)+1:=by omega
   have x0:=o.si.ag o.kr ⟨by decide,by decide,by decide,by decide⟩ ZO 0 (J I code);have y0:=aw o.kr (j:=0) (J I code);have x1:=x0.ag y0 ⟨by decide,by decide,by decide,by decide⟩ ZO 1 (U text);have y1:=aw y0 (j:=1) (U text);have x2:=x1.ag y1 ⟨by decide,by decide,by decide,by decide⟩ ZO 2 (Y Z 0 0);have Fd:g7≠B (z w)+1:=λe=>by obtain⟨_,_,cs,hc⟩:=af o.r7 g7 rfl;exact absurd (ar (e ▸ hc) o.kr) (by decide)
   rw[LA.i];refine⟨L,md,or,st,g7,c7,rfl,x2,s.rel,aB (aB (aB o.r7 (λe=>Fd (IH e)) _ _) (λe=>Fd (IH e)) _ _) (λe=>Fd (IH e)) _ _,o.ap,s.ext,?_⟩;refine((o.kx.k (KS.setCell (X:=λi=>i=B (z w)+1) W5 ZO (Or.inl rfl) (J I code)) ?_).k (KS.setCell (X:=λi=>i=B (z w)+1) _ ZO (Or.inl rfl) (U text)) ?_).k (KS.setCell (X:=λi=>i=B (z w)+1) _ ZO (Or.inl rfl) (Y Z 0 0)) ?_;all_goals
    intro i hi h;have e2:i=B (z w)+1:=h;omega
  |false =>
   have hyl:A f<200:=by
    rcases JV.i with h|h;{exact absurd h.1 (by simp)};{exact h.2.1}
   have HN:Hid (aA name=ZH):=by
    rcases JV.i with h|h;{exact absurd h.1 (by simp)};{exact h.2.2}
   cases ask with
   |false =>
    have Z8:=s.run;rw[show 201 - (A f)=(200 - (A f))+1 by omega,bT,<-HT.i,eI (by simp),eT rfl] at Z8;obtain⟨H,Fk⟩:∃H,H=fL S name:=⟨_,rfl⟩
    have KQ:=ae Fk;simp only at Z8;rw[<-Fk] at Z8;have NX:=ae Z8;clear Z8 Fk;go_wp2_with fail;clear t0 t1 t2 t3 t4;generalize World.alloc M _=W5 at A5 kt o ⊢;obtain⟨R,b0,b1,-⟩:=o.si.ab.y;refine(pL CC W5 name o.si.ak R b0 b1).P ?_;rintro e ZS⟨he,P⟩;rw[<-KQ.i] at he;subst he;have ZT:=ae (o.aa P ly);have V:Hid (TBx ZS (B (z M)) ZA code text ZA name v_):=(P.p _ (ah kt)).k kt;clear P b0 b1 R;have q:=ae ((BS ZS).alloc ly (N #[ZF H,J I 0,U ⟨#[]⟩] 119));have RA:=ae (J_ ZT.r6 q ly);have JZ:B (z w)<=B (z ZS):=ZT.kx.aa.size
    go_upto_region 9 with (first
     |(at_builtin;refine cj _ rfl (.tmp 32) (.tmp 35) 114 rfl (B (z w)) 119 i6 (ZJ #[ZF ZA,J I 0,U ⟨#[]⟩]) 3 32 YM KM Km KH KO rfl (by decide) (Y (Q (T g6 0 Z)) (A f) c6) (A f) (mG f) (by simp[Act.eval]) RA.i (T (B (z ZS)) 0 Z) 1 1 [ZF H,J I 0,U ⟨#[]⟩] (by simp[Act.eval]) rfl (jz ZS _ _ _ _) (by simp[Value.oneCell']) (by unfold maxLen;omega) (by omega) (by simp<;>omega) ?_;intro v3 u ZL ZQ sm;have O3:=ae ZL;have G3:=ae ZQ;clear ZL ZQ sm)
     |fail)
    have ex:Hid (∀(k:Nat) (cs:Array ZB) (t:ZK) (fz:Nat × Nat),(ZV ZS (N #[ZF H,J I 0,U ⟨#[]⟩] 119)).heap[k]?=Q (Obj.cells cs t fz)->t≠119->u.heap[k]?=(ZV ZS (N #[ZF H,J I 0,U ⟨#[]⟩] 119)).heap[k]?):=λk cs t fz hk ht=>G3.p k (ah hk) λe=>by obtain⟨_,_,Lr,JH⟩:=af RA k e.c;exact ht (ar hk JH)
    have n8:Hid (TBx u (B (z M)) ZA code text ZA name v_):=by have h0:=(q.p _ (ah V)).k V;exact(ex _ _ _ _ h0 (by decide)).k h0
    have J7:Hid (ZX u (B (z w)) 191 3 (Y (Q (T g7 0 Z)) (A G) c7) (A G) (eG G)):=b9 (J_ ZT.r7 q ly) λk hk=>by obtain⟨_,_,cs,hc⟩:=af (J_ ZT.r7 q ly) k hk;exact ex _ _ _ _ hc (by decide)
    obtain⟨-,-,-,-,n4⟩:=n8.cells;have LC:=ah n8.i;have A7:=ae ((BS u).alloc ly (N #[U name,ZF ZA,ZF H] 191));have RS:=ae (J_ J7 A7 ly);have Lp:B (z w)<=B (z u):=nX (nX JZ (by simp<;>omega)) G3.size;have At:=KI.i;obtain⟨K,ZN⟩:∃K,K=A G:=⟨_,rfl⟩
    have Kf:K<=200:=by omega
    have JX:=ae ZN;rw[<-ZN] at RS ⊢;clear At ZN
    go_wp2_with (first
     |(at_builtin;refine cj _ rfl (.tmp 37) (.tmp 42) 186 rfl (B (z w)) 191 i7 (ZJ #[U ⟨#[]⟩,ZF ZA,ZF ZA]) 3 24 underlying186 KJ Kx Kp Kg rfl (by decide) (Y (Q (T g7 0 Z)) K c7) K (eG G) (by simp[Act.eval]) RS.i (T (B (z u)) 0 Z) 1 1 [U name,ZF ZA,ZF H] (by simp[Act.eval]) rfl (jz u _ _ _ _) (by simp[Value.oneCell']) (by unfold maxLen;omega) (by omega) (by simp<;>omega) ?_;intro v4 w4 aq ZR la;have O4:=ae aq;have G4:=ae ZR;have Kc:=ae la;clear aq ZR la)
     |fail)
    obtain⟨JY,J5,JR,JW,e6,e7,Ke⟩:=ZT.more (r:=⟨H,0,⟨#[]⟩⟩) (l:=⟨name,ZA,H⟩) bt q O3 G3 A7 (by rw[<-JX.i];exact O4) G4 Kc;have ZY:(f++[(⟨H,0,⟨#[]⟩⟩:aD)]).length=A f+1:=by simp
    have J8:Hid (SR w0 S hb (Y a0 S.n0 c0) (Y a1 S.n1 c1) w n y_ tg (Y (Q (T pb po Z)) (S.f1 tg).h j_) L0 R0 w4 (f++[⟨H,0,⟨#[]⟩⟩]) (G++[⟨name,ZA,H⟩]) q_ L md or st JY J5 JR JW):=
     ⟨Ke,s.rel,s.pg,(s.rg.add (by rw[KQ.i];exact lv _ _) HN (λh=>by cases h)),(by rw[ZY,show 201 - (A f+1)=200 - (A f) by omega];exact(by have:=s.room;unfold fm at this ⊢;omega)),(by rw[ZY,show 201 - (A f+1)=200 - (A f) by omega];exact NX),(by rw[ZY];omega),s.ext⟩
    obtain⟨g,rfl⟩:∃g,gk=g+1:=⟨gk - 1,by omega⟩
    go_roundg g;case measure=>omega
    case rel=>exact⟨_,_,_,_,_,_,_,_,_,_,_,e6,e7,J8,by rw[ZY];omega⟩
   |true =>
    have Z8:=s.run;rw[show 201 - (A f)=(200 - (A f))+1 by omega,bT,<-HT.i,eI (by simp),eI (by simp)] at Z8;simp only at Z8;go_wp2_with fail;clear t0 t1 t2 t3 t4;generalize World.alloc M _=W5 at A5 kt o ⊢;refine(Lg y_ q_ L md or st W5 name Ld o.si s.rel s.pg (by have:=s.room;unfold fm at this ⊢;omega) Ly HN).P ?_;intro e ZS O;have HQ:(∃D x,aT S n y_ q_ name=.inl (D,x))\/∃(r:jj) (va:O_) (vn vk:Nat),e=ZI (jl r (Y va vn vk))/\jb w0 hb ZS r (Y va vn vk)/\KS (B (z w0)) XN W5 ZS/\Hid (∀vs w',jb w0 hb w' r (Y va vn vk)->KS (B (z w0)) XN w w'->pM w0 hb (Y a0 S.n0 c0) (Y a1 S.n1 c1) y_ L0 w (ZI (.tuple #[jl r (Y va vn vk),vs])) w' R0):=by
     rcases hr:aT S n y_ q_ name with⟨D,x⟩|c|d;{exact .inl ⟨_,_,rfl⟩};all_goals
      rw[hr] at O Z8;dsimp only at Z8;subst Z8
     {obtain⟨ca,ck,rfl,hd,hK⟩:=O;exact .inr ⟨_,_,_,_,rfl,hd,hK,λvs w' h1 h2=>⟨ca,ck,vs,rfl,h1,h2⟩⟩};{obtain⟨rfl,hd,hK⟩:=O;exact .inr ⟨_,_,_,_,rfl,hd,hK,λvs w' h1 h2=>⟨vs,rfl,h1,h2⟩⟩}
    rcases HQ with⟨D,x,hr⟩|⟨r,va,vn,vk,rfl,⟨q0,q1,qm,qo,qs,JK,KZ⟩,hK,fin⟩
    ·rw[hr] at O Z8;dsimp only at Z8;obtain⟨L2,LB,Lf,Lt,rfl,Kl,JP,JT,hK⟩:=O;obtain⟨JI,⟨more,JG⟩,hx,JO⟩:=dm CC.ok n y_ q_ name D x s.pg HN hr;have Fm:=iq S n y_ q_ name D x hr;have J0:∀y∈q_,y∈D:=λy hy=>by rw[JG];exact NW _ hy
     have Kd:=ae (o.step hK Kl JT);have Ll:=ae JP;have Le:=ae JI;have KP:Hid (RG S D (f++[gF x]) (G++[⟨name,ZH,ZA⟩])):=(s.rg.P J0).add (lw (JI.W x hx)) HN (λ_=>⟨x,hx,JO⟩);have Lx:Hid (fm S y_ D (200 - (A f))):=by have:=s.room;unfold fm at this ⊢;unfold fO at Fm;show _<=_;omega
     have Lm:=ae (s.ext.k JT o.kx.aa.size);have qr:Hid (TBx ZS (B (z M)) ZA code text ZH name v_):=(hK.ad _ _ _ _ kt (by decide) (by decide) (by decide) λh=>h).k kt;have NX:=ae Z8;obtain⟨rc,rt,ob,oc,ot,Ky,Ks,Ki⟩:=F7 (JI.W x hx);rw[Ks] at KP NX;have hz25:B (z W5)<=B (z ZS):=hK.aa.size;have hg65:g6<B (z W5):=(af o.r6 g6 rfl).2.1;have hw25:B (z w)+2<=B (z W5):=ah o.kr;rw[JO] at Ki;simp only[Ky];clear Kl JP JT hK JI JG hx JO Fm J0 hr Z8 Ky Ks;obtain⟨W6,ur⟩:∃W:E,ZV ZS (N #[J I rc,U rt,Y Z 0 0] 88)=W:=⟨_,rfl⟩
     obtain⟨q,KV,-⟩:=nb1 ur;have J9:=ae ur;clear ur;obtain⟨R,-,-,-,-,-,-,-,-,b8,-⟩:=Kd.si.ab.y;have d8:=(q.O (p:=(T hb 8 Z)) R).k b8;obtain⟨rl,r0,r1,-,-⟩:=bR KV;go_upto_region 13 with fail;clear d8 b8;rw[J9.i];clear J9;obtain⟨W8,Bk⟩:∃W:E,ZV W6 (N #[ZF ZH,J I rc,U rt] 119)=W:=⟨_,rfl⟩
     obtain⟨A7,ky,-⟩:=nb1 Bk;have JU:=ae Bk;clear Bk;go_upto_region 14 with fail;rw[JU.i];clear JU;have Kn:=ae (q.k (A7.P q.size));have mv:=ae (Kd.aa Kn ly);have n9:Hid (TBx W8 (B (z M)) ZA code text ZH name v_):=(Kn.p _ (ah qr)).k qr;have r7:=(A7.O (p:=(T (B (z ZS)) 0 Z)) rl).k r0;have th:B (z ZS)<B (z W8):=lj rl A7.size;obtain⟨-,-,-,-,tn⟩:=n9.cells;have fd:=ah n9.i;obtain⟨ZM,Kh⟩:∃ZM,ZM=B (z W6):=⟨_,rfl⟩
     rw[<-Kh] at ky ⊢;have DE:B (z w)+2<=ZM:=by have:=q.size;omega
     have ro:ZM≠g6:=by have:=q.size;omega
     clear Kh Kd qr A7 q KV r0 r1;obtain⟨ld,b0,b1,-⟩:=mv.si.ab.y;rcases Ki with⟨J4,e4,e3⟩|⟨J4,e3⟩
     case' inr=>by_cases h4:rc=4
     all_goals
      have Lb:=ae J4;have E3:=ae e3;clear J4 e3
     case' inl =>
      subst e4;go_wp2_with fail;refine(pL CC W8 name mv.si.ak ld b0 b1).P ?_;rintro e u⟨he,P⟩;rw[Lb.i] at he;subst he;have Lj:=ae (mv.aa P ly);have Kq:Hid (TBx u (B (z M)) ZA code text ZH name v_):=(P.p _ fd).k n9;have JM:=(P.p _ (ah ky)).k ky;obtain⟨yl,y0,y1,y2,yf⟩:=bR JM;obtain⟨Lu,Lq,Lo⟩:=al3 yf;have x0:=Lj.ag JM ⟨by decide,by decide,by decide,by decide⟩ bt DE ro 0 (ZF ZA);have x1:=x0.1.ag x0.2 ⟨by decide,by decide,by decide,by decide⟩ bt DE ro 1 (J I 0);have x2:=x1.1.ag x1.2 ⟨by decide,by decide,by decide,by decide⟩ bt DE ro 2 (U ⟨#[]⟩);have ZT:=ae x2.1;have J6:B (z M)≠ZM:=λe=>absurd (ar (show u.heap[B (z M)]?=_ from Kq.i) (e ▸ JM)) (by decide);have V:Hid (TBx (ZU (ZU (ZU u (T ZM 0 Z) (ZF ZA)) (T ZM 1 Z) (J I 0)) (T ZM 2 Z) (U ⟨#[]⟩)) (B (z M)) ZA code text ZH name v_):=(qh _ _ _ _ J6).k ((qh _ _ _ _ J6).k ((qh _ _ _ _ J6).k Kq));have KY:Hid ((ZU (ZU (ZU u (T ZM 0 Z) (ZF ZA)) (T ZM 1 Z) (J I 0)) (T ZM 2 Z) (U ⟨#[]⟩)).heap[ZM]?=Q (N #[ZF ob,J I oc,U ot] 119 (0,0))):=by rw[E3.1,E3.2.1,E3.2.2];exact x2.2
      clear x0 x1 x2 P tn b0 b1 ld r7 th fd rl JM;go_upto_region 16 with fail;clear y0 y1 y2 Lu Lq Lo yl;generalize World.setCell (World.setCell (World.setCell u _ _) _ _) _ _=W8 at ZT KY V ⊢
     case' pos =>
      subst h4;go_wp2_with fail;refine(pL CC W8 name mv.si.ak ld b0 b1).P ?_;rintro e u⟨he,P⟩;rw[Lb.i] at he;subst he;have ZT:=ae (mv.aa P ly);have V:Hid (TBx u (B (z M)) ZA code text ZH name v_):=(P.p _ fd).k n9;have KY:Hid (u.heap[ZM]?=Q (N #[ZF ob,J I oc,U ot] 119 (0,0))):=by rw[E3.1,E3.2.1,E3.2.2];exact(P.p _ (ah ky)).k ky
      clear P tn b0 b1 ld r7 th fd rl;go_upto_region 16 with fail;generalize u=W8 at ZT KY V ⊢
     case' neg =>
      have h4b:(rc == 4)=ZA:=by simpa using h4
      have ZT:=mv;have V:=n9;have KY:Hid (W8.heap[ZM]?=Q (N #[ZF ob,J I oc,U ot] 119 (0,0))):=by rw[E3.1,E3.2.1,E3.2.2];exact ky
      go_upto_region 16 with fail;clear tn b0 b1 ld r7 th fd rl
     all_goals
      obtain⟨yl,y0,y1,y2,-⟩:=bR KY;have q:=ae ((BS W8).alloc ly (N #[ZF ob,J I oc,U ot] 119));have RA:=ae (J_ ZT.r6 q ly);have JZ:B (z w)<=B (z W8):=ZT.kx.aa.size
      go_upto_region 17 with (first
       |(at_builtin;refine cj _ rfl (.tmp 73) (.tmp 75) 114 rfl (B (z w)) 119 i6 (ZJ #[ZF ZA,J I 0,U ⟨#[]⟩]) 3 32 YM KM Km KH KO rfl (by decide) (Y (Q (T g6 0 Z)) (A f) c6) (A f) (mG f) (by simp[Act.eval]) RA.i (T (B (z W8)) 0 Z) 1 1 [ZF ob,J I oc,U ot] (by simp[Act.eval]) rfl (jz W8 _ _ _ _) (by simp[Value.oneCell']) (by unfold maxLen;omega) (by omega) (by simp<;>omega) ?_;intro v3 u ZL ZQ sm;have O3:=ae ZL;have G3:=ae ZQ;clear ZL ZQ sm)
       |fail)
      have ex:Hid (∀(k:Nat) (cs:Array ZB) (t:ZK) (fz:Nat × Nat),(ZV W8 (N #[ZF ob,J I oc,U ot] 119)).heap[k]?=Q (Obj.cells cs t fz)->t≠119->u.heap[k]?=(ZV W8 (N #[ZF ob,J I oc,U ot] 119)).heap[k]?):=λk cs t fz hk ht=>G3.p k (ah hk) λe=>by obtain⟨_,_,Lr,JH⟩:=af RA k e.c;exact ht (ar hk JH)
      have n8:Hid (TBx u (B (z M)) ZA code text ZH name v_):=by have h0:=(q.p _ (ah V)).k V;exact(ex _ _ _ _ h0 (by decide)).k h0
      have J7:Hid (ZX u (B (z w)) 191 3 (Y (Q (T g7 0 Z)) (A G) c7) (A G) (eG G)):=b9 (J_ ZT.r7 q ly) λk hk=>by obtain⟨_,_,cs,hc⟩:=af (J_ ZT.r7 q ly) k hk;exact ex _ _ _ _ hc (by decide)
      obtain⟨-,-,-,-,n4⟩:=n8.cells;have LC:=ah n8.i;have A7:=ae ((BS u).alloc ly (N #[U name,ZF ZH,ZF ZA] 191));have RS:=ae (J_ J7 A7 ly);have Lp:B (z w)<=B (z u):=nX (nX JZ (by simp<;>omega)) G3.size;have At:=KI.i;obtain⟨K,ZN⟩:∃K,K=A G:=⟨_,rfl⟩
      have Kf:K<=200:=by omega
      have JX:=ae ZN;rw[<-ZN] at RS ⊢;clear At ZN
      go_wp2_with (first
       |(at_builtin;refine cj _ rfl (.tmp 77) (.tmp 81) 186 rfl (B (z w)) 191 i7 (ZJ #[U ⟨#[]⟩,ZF ZA,ZF ZA]) 3 24 underlying186 KJ Kx Kp Kg rfl (by decide) (Y (Q (T g7 0 Z)) K c7) K (eG G) (by simp[Act.eval]) RS.i (T (B (z u)) 0 Z) 1 1 [U name,ZF ZH,ZF ZA] (by simp[Act.eval]) rfl (jz u _ _ _ _) (by simp[Value.oneCell']) (by unfold maxLen;omega) (by omega) (by simp<;>omega) ?_;intro v4 w4 aq ZR la;have O4:=ae aq;have G4:=ae ZR;have Kc:=ae la;clear aq ZR la)
       |fail)
      obtain⟨JY,J5,JR,JW,e6,e7,Ke⟩:=ZT.more (r:=⟨ob,oc,ot⟩) (l:=⟨name,ZH,ZA⟩) bt q O3 G3 A7 (by rw[<-JX.i];exact O4) G4 Kc;have ZY:(f++[(⟨ob,oc,ot⟩:aD)]).length=A f+1:=by simp
      have J8:Hid (SR w0 S hb (Y a0 S.n0 c0) (Y a1 S.n1 c1) w n y_ tg (Y (Q (T pb po Z)) (S.f1 tg).h j_) L0 R0 w4 (f++[⟨ob,oc,ot⟩]) (G++[⟨name,ZH,ZA⟩]) D L2 LB Lf Lt JY J5 JR JW):=
       ⟨Ke,Ll,Le,KP,(by rw[ZY,show 201 - (A f+1)=200 - (A f) by omega];exact Lx),(by rw[ZY,show 201 - (A f+1)=200 - (A f) by omega];exact NX),(by rw[ZY];omega),Lm⟩
      obtain⟨g,rfl⟩:∃g,gk=g+1:=⟨gk - 1,by omega⟩
      go_roundg g;case measure=>omega
      case rel=>exact⟨_,_,_,_,_,_,_,_,_,_,_,e6,e7,J8,by rw[ZY];omega⟩
    ·clear O Z8;obtain⟨R,-,-,-,-,-,b5,b6,b7,b8,-⟩:=JK.y;have Hx:=(hK.ad _ _ _ _ o.kr (by decide) (by decide) (by decide) λh=>h).k o.kr;have KW:=ae (o.kx.to hK);have Lh:=ae JK;have Ko:=ae KZ;have q:=ae ((BS ZS).alloc ly (N #[J I r.M,U r.H,Y va vn vk] 88));have JS:=(q.p _ (ah Hx)).k Hx;obtain⟨rl,r0,r1,r2,rf⟩:=bR JS;have d5:=(q.O (p:=(T hb 5 Z)) R).k b5;have d6:=(q.O (p:=(T hb 6 Z)) R).k b6;have d7:=(q.O (p:=(T hb 7 Z)) R).k b7;have d8:=(q.O (p:=(T hb 8 Z)) R).k b8;obtain⟨Kr,Kk,Kt⟩:=al3 rf;have DQ:hb≠B (z w)+1:=λe=>absurd (ar (e ▸ JK) Hx) (by decide);have Lv:=ae JS;clear rf JK KZ hK b5 b6 b7 b8 Hx JS;simp only[jl];go_wp2_with fail;refine bp (v:=.tuple #[jl r (Y va vn vk),Y (Q (T g7 0 Z)) (A G) c7]) (by simp[results,results153,go_sem,r0,r1,r2,jl]) rfl ?_;have ZO:B (z w0)<=B (z w)+1:=by omega
     have Lc:∀(W:E) (v0 v1 v2:ZB),(ZU (ZU (ZU W (T (B (z w)+1) 0 Z) v0) (T (B (z w)+1) 1 Z) v1) (T (B (z w)+1) 2 Z) v2).heap[hb]?=W.heap[hb]?:=λW v0 v1 v2=>(qh _ _ _ _ DQ).k ((qh _ _ _ _ DQ).k (qh _ _ _ _ DQ));have Kb:∀k,(Value.slice va vn vk).ownBlock=Q k->k≠B (z w)+1:=λk hk e=>by obtain⟨_,_,cs,hc⟩:=af (J_ Ko q ly) k hk;exact absurd (ar (e ▸ hc) Lv) (by decide)
     refine fin (Y (Q (T g7 0 Z)) (A G) c7) _ ⟨q0,q1,qm,qo,qs,(Lc _ _ _ _).k ((q.p _ R).k Lh),aB (aB (aB (J_ Ko q ly) (λe=>Kb _ e rfl) _ _) (λe=>Kb _ e rfl) _ _) (λe=>Kb _ e rfl) _ _⟩ ?_;refine((((KW.to (KS.l q ly (nX bt KW.aa.size))).k (KS.setCell (X:=λi=>i=B (z w)+1) _ ZO (Or.inl rfl) _) ?_).k (KS.setCell (X:=λi=>i=B (z w)+1) _ ZO (Or.inl rfl) _) ?_).k (KS.setCell (X:=λi=>i=B (z w)+1) _ ZO (Or.inl rfl) _) ?_);all_goals
      intro i hi h;have e2:i=B (z w)+1:=h;omega
end
