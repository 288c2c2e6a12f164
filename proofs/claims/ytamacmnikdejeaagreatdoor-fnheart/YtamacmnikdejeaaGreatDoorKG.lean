import Derived.Test.YtamacmnikdejeaaGreatDoorKE
import Derived.Test.YtamacmnikdejeaaGreatDoorLS
import Derived.Deep.Cut
set_option maxRecDepth 1000000
set_option maxHeartbeats 8000000
open Go renaming Addr.mk->Q,Value.slice->Y,Value.string->U,Value.int->J,Value.bool->ZC,Value.agg->ZG,Obj.cells->N,IntKind.i64->I,World->E,Value->ZB,TypeId->ZH,Ending.returned->ZF,World.heap->z
open Option renaming none->Z,some->T
open Bool renaming false->ZA,true->ZD
open Array renaming size->B
namespace Go.Proofs.YtamacmnikdejeaaGreatDoor.Vp
open Tryz RowKit
variable {n b g size s:Nat}{W wr w:E}{t e:ZH}{i j:ZB}
structure SB (w0:E)(hb:Nat)(s0 s1:ZB)(w:E)(making:List ByteArray)(pv:ZB)(wr:E)(ys:List aC)(ls:List Lk)(made:List Ent)(L:List SM)(md or st:ZB)(g6 c6 g7 c7:Nat):Prop where
 si:SI w0 hb s0 s1 wr making made L md or st
 r6:wr.ownsRow (B (z w)) 156 3 (Y (T (Q g6 0 Z)) ys.length c6) ys.length (lM ys)
 r7:wr.ownsRow (B (z w)) 164 3 (Y (T (Q g7 0 Z)) ls.length c7) ls.length (eh ls)
 ap:∀m∈L,m.done=ZD->m.sv.ownBlock≠T g7
 kp:wr.heap[B (z w)]?=T (N #[pv] 43 (0,0))
 kr:wr.heap[B (z w)+1]?=T (N #[J I 0,U ⟨#[]⟩,Y Z 0 0] 37 (0,0))
 kx:KS (B (z w0)) XN w wr
structure SR (w0:E)(S:Spc)(hb:Nat)(s0 s1:ZB)(w:E)(n:Nat)(making:List ByteArray)(tg:Nat)(pv:ZB)(L0:List SM)(R0:Out (Turn × List Lk))(wr:E)(ys:List aC)(ls:List Lk)(made:List Ent)(L:List SM)(md or st:ZB)(g6 c6 g7 c7:Nat):Prop where
 sb:SB w0 hb s0 s1 w making pv wr ys ls made L md or st g6 c6 g7 c7
 rel:fq L making made
 pg:PG S making made
 rg:RG S made ys ls
 room:eQ S making made (201 - ys.length)
 run:bR S (aP S n making) tg (201 - ys.length) made ys ls=R0
 le:ys.length<=200
 ext:LExt (B (z w)) L0 L
def TBx (w:E)(g:Nat)(over:Bool)(code:Int)(text:ByteArray)(ask:Bool)(name:ByteArray)(steps:Int):Prop:=w.heap[g]?=T (N #[ZC over,J I code,U text,ZC ask,U name,J I steps] 150 (0,0))
theorem TBx.cells{over:Bool}{code:Int}{text:ByteArray}{ask:Bool}{name:ByteArray}{steps:Int}(h:TBx w g over code text ask name steps):w.cell? (Q g 0 Z)=T (ZC over)/\w.cell? (Q g 1 Z)=T (J I code)/\w.cell? (Q g 2 Z)=T (U text)/\w.cell? (Q g 3 Z)=T (ZC ask)/\w.cell? (Q g 4 Z)=T (U name):=by unfold TBx at h;refine⟨?_,?_,?_,?_,?_⟩;all_goals simp[World.cell?,h]
def oX (w0:E)(hb:Nat)(s0 s1:ZB)(making:List ByteArray)(L:List SM)(w:E)(e:Ending)(w':E):Out (Turn × List Lk)->Prop
 |.inl (made',x)=>∃b h f i g c,e=ZF (.tuple #[ZG #[J I x.1.M,U x.1.H,Y Z 0 0],Y (T (Q g 0 Z)) x.2.length c])/\SI w0 hb s0 s1 w' making made' b h f i/\fq b making made'/\w'.ownsRow (B (z w)) 164 3 (Y (T (Q g 0 Z)) x.2.length c) x.2.length (eh x.2)/\(∀m∈b,m.done=ZD->m.sv.ownBlock≠T g)/\LExt (B (z w)) L b/\KS (B (z w0)) XN w w'
 |.inr (.inl c)=>∃a k sv,e=ZF (.tuple #[iE (iR c) (Y a c.length k),sv])/\ix w0 hb w' (iR c) (Y a c.length k)/\KS (B (z w0)) XN w w'
 |.inr (.inr d)=>∃sv,e=ZF (.tuple #[iE (iS d) (Y Z 0 0),sv])/\ix w0 hb w' (iS d) (Y Z 0 0)/\KS (B (z w0)) XN w w'
theorem iT (w:E)(b g i:ZB)(t:ZH):∀j u,[b,g,i][j]?=T u->(w.alloc (N #[b,g,i] t)).cell? (((Q (B (z w)) 0 Z):Addr).add j)=T u:=by
 intro j u h;rw[addr_add];have hj:j<3:=by
  rcases MG j 3 with f|f;{exact f};{rw[LJ (by simp;omega)] at h;cases h}
 rcases(show j=0∨j=1∨j=2 by omega) with rfl|rfl|rfl;all_goals
  simp at h;subst h;simp
theorem bP{f g:ZB}(h:w.heap[b]?=T (N #[f,g,i] t (0,0))):b<B (z w)/\w.cell? (Q b 0 Z)=T f/\w.cell? (Q b 1 Z)=T g/\w.cell? (Q b 2 Z)=T i/\∀j,w.frozen? (Q b j Z)=ZA:=by refine⟨ah h,?_,?_,?_,λj=>?_⟩;all_goals simp[World.cell?,World.frozen?,h]
section
variable {w0 w w':E}{hb:Nat}{s0 s1 md or st:ZB}{making:List ByteArray}{made:List Ent}{L:List SM}
theorem SI.grown{v:ZB}{j:Nat}{ZQ:List ZB}(h:SI w0 hb s0 s1 w making made L md or st)(b:w.grownBy w' v.ownBlock)(C:w.ownsRow j e size v n ZQ)(hB:B (z w0)<=j)(p:e≠9/\e≠161/\e≠89)(D:∀m∈L,m.done=ZD->∀k,v.ownBlock=T k->m.sv.ownBlock≠T k):SI w0 hb s0 s1 w' making made L md or st:=by
 have ZR:=af C;have s:∀(i:Nat) (q:Array ZB) (t:ZH) (fz:Nat × Nat),w.heap[i]?=T (Obj.cells q t fz)->t≠e->w'.heap[i]?=w.heap[i]?:=λi q t fz hi l=>b.block i (ah hi) λo=>by obtain⟨_,_,cs2,r⟩:=ZR i o.symm;exact l (ai hi r)
 have f:∀{size n:Nat} {t:ZH} {u:ZB} {A:List ZB},w.ownsRow (B (z w0)) t size u n A->t≠e->w'.ownsRow (B (z w0)) t size u n A:=λZS l=>bO ZS λk g=>by obtain⟨_,_,q,r⟩:=af ZS k g;exact s _ _ _ _ r l
 refine⟨h.ak.trans ⟨b.os,b.tape,b.output,b.size,λk g=>b.block k (lj g h.lt) λo=>?_⟩,h.hbB,h.l.ab (s _ _ _ _ h.l p.2.2.symm),f h.ag p.2.1.symm,f h.ror p.1.symm,f h.rst p.1.symm,h.apart,λm x y=>bO (h.V m x y) λk g=>?_⟩;{have:=(ZR k o.symm).1;omega};{obtain⟨_,G,q,r⟩:=af (h.V m x y) k g;exact b.block k G λo=>D m x y k o.symm g}
theorem KS.grow{v:ZB}{o:List ZB}{ZR:Nat}(h:KS ZR XN W w)(m:w.grownBy w' v.ownBlock)(f:w.ownsRow b e size v n o)(p:B (z W)<=b)(g:ZR<=B (z W)):KS ZR XN W w' :=
 h.trans (ZI:=λi=>v.ownBlock=T i) (KS.of_grown m (nL g h.aa.size) λj l=>⟨nL (nL g p) (af f j l).1,.inl l⟩) λi hi q=>by have:=(af f i q).1;omega
theorem SB.aa{g:E}{l:List aC}{o:List Lk}{p m i C:Nat}(h:SB w0 hb s0 s1 W making j wr l o made L md or st n p m i)(b:Below C wr g)(f:B (z wr)<=C):SB w0 hb s0 s1 W making j g l o made L md or st n p m i :=
 ⟨h.si.aa b f,own_below h.r6 b f,own_below h.r7 b f,h.ap,(b.block _ (lj (ah h.kp) f)).trans h.kp,(b.block _ (lj (ah h.kr) f)).trans h.kr,h.kx.to (KS.q b f h.si.lt)⟩
theorem SB.more{S M G C X:E}{pv ZJ P:ZB}{i:List aC}{g:List Lk}{y ZK O:Nat}{r:aC}{l:Lk}(h:SB w0 hb s0 s1 W making pv S i g made L md or st y ZK n O)(ZN:B (z w0)<=B (z W))
  (b3:Below (B (z S)) S M) (V:G.ownsRow (B (z W)) 156 3 ZJ (i.length+1) (lM i++[ZC r.has,J I r.M,U r.H])) (K:M.grownBy G (T y))
  (p:Below (B (z G)) G C) (o4:X.ownsRow (B (z W)) 164 3 P (g.length+1) (eh g++[U l.e,ZC l.ask,ZC l.has])) (ZP:C.grownBy X (T n)) (ZR:P.ownBlock=T n∨P.ownBlock=T (B (z C))) :
  ∃u t f s,ZJ=Y (T (Q u 0 Z)) (i++[r]).length t/\P=Y (T (Q f 0 Z)) (g++[l]).length s/\SB w0 hb s0 s1 W making pv X (i++[r]) (g++[l]) made L md or st u t f s:=by
 have b:=h.aa b3 ly;have ex:B (z W)<B (z M):=ah b.kp;have aq:B (z W)+1<B (z M):=ah b.kr;have bt:=af b.r6 y rfl;obtain⟨hg6,hg6l,cs6,j⟩:=bt
 have s3:=b.si.grown (v:=Y (T (Q y 0 Z)) i.length ZK) K b.r6 ZN ⟨by decide,by decide,by decide⟩ (λm x A k o e=>by
  cases o
  obtain⟨_,_,cs,H⟩:=af (b.si.V m x A) y e
  exact absurd (ai j H) (by decide))
 have k3:=KS.grow (v:=Y (T (Q y 0 Z)) i.length ZK) b.kx K b.r6 ly ZN;have ZI:G.ownsRow (B (z W)) 164 3 (Y (T (Q n 0 Z)) g.length O) g.length (eh g):=bO b.r7 λk o=>by obtain⟨_,ZL,cs,H⟩:=af b.r7 k o;exact K.block k ZL λe=>by cases e;exact absurd (ai j H) (by decide)
 have R:=(K.block (B (z W)) ex λe=>by cases e;exact absurd (ai j b.kp) (by decide)).trans b.kp;have ZM:=(K.block (B (z W)+1) aq λe=>by have ZS:=IN e;exact absurd (ai j (ZS ▸ b.kr)) (by decide)).trans b.kr;obtain⟨u,t,cu6,rfl,-⟩:=V.2.resolve_left (λh=>by omega);have s4:=s3.aa p ly;have ZO:=own_below ZI p ly;obtain⟨hg7,hg7l,cs7,q⟩:=af ZO n rfl;have D:=(p.block (B (z W)) (ah R)).trans R;have ZQ:=(p.block (B (z W)+1) (ah ZM)).trans ZM;have s5:=s4.grown (v:=Y (T (Q n 0 Z)) g.length O) ZP ZO ZN ⟨by decide,by decide,by decide⟩ (λm x A k o e=>by cases o;exact h.ap m x A e);have k5:=KS.grow (v:=Y (T (Q n 0 Z)) g.length O) (k3.to (KS.q p ly s3.lt)) ZP ZO ly ZN;obtain⟨f,s,cu7,rfl,-⟩:=o4.2.resolve_left (λh=>by omega);have e6:(i++[r]).length=i.length+1:=by simp
 have e7:(g++[l]).length=g.length+1:=by simp
 refine⟨u,t,f,s,by rw[e6],by rw[e7],s5,?_,?_,λm x A e=>?_,?_,?_,k5⟩;{rw[e6,Dx];refine bO (own_below V p ly) λk o=>?_;obtain⟨_,ZL,cs,H⟩:=af (own_below V p ly) k o;exact ZP.block k ZL λe=>by cases e;exact absurd (ai q H) (by decide)};{rw[e7,Aq];exact o4};{rcases ZR with ZR|ZR;{have ZS:f=n:=IN (show T f=T n from ZR);exact h.ap m x A (ZS ▸ e)};{have ZS:f=B (z C):=IN (show T f=T (B (z C)) from ZR);have:=(af (s4.V m x A) _ e).2.1;omega}};{exact(ZP.block (B (z W)) (ah D) λe=>by cases e;exact absurd (ai q D) (by decide)).trans D};{exact(ZP.block (B (z W)+1) (ah ZQ) λe=>by have ZS:=IN e;exact absurd (ai q (ZS ▸ ZQ)) (by decide)).trans ZQ}
theorem SI.ad{s:Array ZB}{fz:Nat × Nat}(h:SI w0 hb s0 s1 w making made L md or st)(i:w.heap[b]?=T (N s t fz))(g:t≠9/\t≠161/\t≠89/\t≠164)(x:B (z w0)<=b)(j:Nat)(u:ZB):SI w0 hb s0 s1 (w.setCell (Q b j Z) u) making made L md or st:=by
 have f:∀{size n:Nat} {l:ZH} {r:ZB} {q:List ZB},w.ownsRow (B (z w0)) l size r n q->t≠l->(w.setCell (Q b j Z) u).ownsRow (B (z w0)) l size r n q:=λo p=>aA o (λe=>by
  obtain⟨_,_,cs2,ZS⟩:=af o b e
  exact p (ai i ZS)) _ _
 refine⟨h.ak.setCell x u,h.hbB,h.l.ab (qh _ _ _ _ λe=>?_),f h.ag g.2.1,f h.ror g.1,f h.rst g.1,h.apart,λm y A=>f (h.V m y A) g.2.2.2⟩;simp at e;subst e;exact g.2.2.1 (ai i h.l)
theorem SB.step{n:E}{y g:ZB}{r:List aC}{ZS:List Lk}{t q u:Nat}{b:List Ent}{o:List SM}(h:SB w0 hb s0 s1 W making y wr r ZS made L md or st s t q u)(f:KS (B (z w0)) XN wr n)(D:SI w0 hb s0 s1 n making b o i g j)(hX:LExt (B (z wr)) L o):SB w0 hb s0 s1 W making y n r ZS b o i g j s t q u:=by
 refine⟨D,bO h.r6 λk l=>?_,bO h.r7 λk l=>?_,λm C ZQ e=>?_,(f.ab _ _ _ _ h.kp (by decide) (by decide) (by decide) λh=>h).trans h.kp,(f.ab _ _ _ _ h.kr (by decide) (by decide) (by decide) λh=>h).trans h.kr,h.kx.to f⟩;{obtain⟨_,_,ZR,p⟩:=af h.r6 k l;exact f.ab _ _ _ _ p (by decide) (by decide) (by decide) λh=>h};{obtain⟨_,_,ZR,p⟩:=af h.r7 k l;exact f.ab _ _ _ _ p (by decide) (by decide) (by decide) λh=>h};{rcases hX.sn m C ZQ with ⟨m0,G,x,A⟩|h1;{exact h.ap m0 G x (by rw[A];exact e)};{have h2:=h1 _ e;have h3:=(af h.r7 q rfl).2.1;omega}}
theorem SB.ad{r:ZB}{m:List aC}{x:List Lk}{o:Nat}{l:Array ZB}(h:SB w0 hb s0 s1 W making r wr m x made L md or st g n s o)(f:wr.heap[b]?=T (N l t (0,0)))(p:t≠9/\t≠161/\t≠89/\t≠164)(hB:B (z w0)<=B (z W))(hb1:B (z W)+2<=b)(q:b≠g)(j:Nat)(u:ZB):SB w0 hb s0 s1 W making r (wr.setCell (Q b j Z) u) m x made L md or st g n s o/\(wr.setCell (Q b j Z) u).heap[b]?=T (N (l.setIfInBounds j u) t (0,0)):=by refine⟨⟨h.si.ad f p (by omega) j u,aA h.r6 (λe=>q (IN e).symm) _ _,aA h.r7 (λe=>?_) _ _,h.ap,(qh _ _ _ _ (show (B (z W))≠b by omega)).trans h.kp,(qh _ _ _ _ (show (B (z W))+1≠b by omega)).trans h.kr,h.kx.trans (KS.setCell (X:=λi=>i=b) _ (by omega) (Or.inl rfl) u) λi hi ZS=>by have e2:i=b:=ZS;omega⟩,aw f u⟩;obtain⟨_,_,cs2,y⟩:=af h.r7 b e;exact p.2.2.2 (ai f y)
theorem DG{S:Spc}{x:Ent}(h:EG S x):∃f m j g l,dk x=⟨f,m,[]⟩/\fT x=⟨j,g,l⟩/\(fo S x.e=ZA/\f=4/\j=ZA/\g=0/\l=⟨#[]⟩∨fo S x.e=ZD/\j=ZD/\g=f/\l=m):=by
 unfold dk fT fo;rw[iw,iw];rcases h.L with ⟨b,_,_,i,hi,_⟩|⟨b,o,n,_,p,h1⟩|⟨b,_,h1⟩
 {exact⟨x.M,x.H,ZD,x.M,x.H,by rw[eT (by omega)],by simp[b],.inr ⟨by rw[hi];rfl,rfl,rfl,rfl⟩⟩};{exact⟨4,x.e,ZA,0,⟨#[]⟩,by rw[j6 b],by simp[b,o,n],.inl ⟨by rw[p,h1];rfl,rfl,rfl,rfl,rfl⟩⟩};{exact⟨x.M,x.H,ZD,x.M,x.H,by rw[eT (by omega)],by simp[b],.inr ⟨by rw[h1];simp,rfl,rfl,rfl⟩⟩}
end
section
variable {w0:E}{S:Spc}{a0 a1:Option Addr}{c0 c1 hb:Nat}{making:List ByteArray}
theorem DJ (C:oU w0 S a0 a1)(n:Nat)(HK:mS w0 S hb (Y a0 S.n0 c0) (Y a1 S.n1 c1) n)(ZS:List Ent)(L0:List SM)(GS Hi Hc:ZB)(w:E)(a:Option Addr)(cap tg:Nat)(IY:making.length+n=60)(h:SI w0 hb (Y a0 S.n0 c0) (Y a1 S.n1 c1) w making ZS L0 GS Hi Hc)(hrel:fq L0 making ZS)(hp:PG S making ZS)(Hf:eQ S making ZS 201)(Iv:MT S making)(He:tg<S.n1)(Ij:SlIns w0 a (S.f1 tg).h (S.f1 tg).u):Calls Tryz.prog 141 #[.pointer (T (Q hb 0 Z)),ZG #[Y a (S.f1 tg).h cap]] w λe w'=>oX w0 hb (Y a0 S.n0 c0) (Y a1 S.n1 c1) making L0 w e w' (bR S (aP S n making) tg 201 ZS [] []):=by
 obtain⟨i6,Ig,Io,Ip,Ii⟩:=kq yI;obtain⟨i7,Il,IM,IB,IQ⟩:=kq Dv;obtain⟨hok,hc1,Ha⟩:=bF (C.ok.u tg He);obtain⟨ZO,M,rfl,IF⟩:∃ZO M,a=T (Q ZO M Z)/\RowIns w0 ZO M (S.f1 tg).h (S.f1 tg).u:=by
  rcases Ij with h|⟨b,off,e,hr⟩
  {omega};{exact⟨b,off,e,hr⟩}
 have Jp:=ae IF;have CC:=ae C;have Jc:=ae HK;have mv:B (z w0)<=B (z w):=h.lt;have I9:=ae (Dy C.ok He);obtain⟨R0,Hp⟩:∃R0,R0=bR S (aP S n making) tg 201 ZS [] []:=⟨_,rfl⟩
 rw[<-Hp];have Jn:=ae Hp;have A2:=ae (((BS w).alloc ly (N #[Y (T (Q ZO M Z)) (S.f1 tg).h cap] 43)).alloc (by simp) (N #[J I 0,U ⟨#[]⟩,Y Z 0 0] 37));have z2:((w.alloc (N #[Y (T (Q ZO M Z)) (S.f1 tg).h cap] 43)).alloc (N #[J I 0,U ⟨#[]⟩,Y Z 0 0] 37)).heap.size=B (z w)+2:=by simp
 have kp:Hid (((w.alloc (N #[Y (T (Q ZO M Z)) (S.f1 tg).h cap] 43)).alloc (N #[J I 0,U ⟨#[]⟩,Y Z 0 0] 37)).heap[B (z w)]?=T (N #[Y (T (Q ZO M Z)) (S.f1 tg).h cap] 43 (0,0))) :=
  (((cM (B (z w)+1) _).alloc (by simp) _).block (B (z w)) (by omega)).trans (gM w _)
 have kr:Hid (((w.alloc (N #[Y (T (Q ZO M Z)) (S.f1 tg).h cap] 43)).alloc (N #[J I 0,U ⟨#[]⟩,Y Z 0 0] 37)).heap[B (z w)+1]?=T (N #[J I 0,U ⟨#[]⟩,Y Z 0 0] 37 (0,0))):=by have h2:=gM (w.alloc (N #[Y (T (Q ZO M Z)) (S.f1 tg).h cap] 43)) (N #[J I 0,U ⟨#[]⟩,Y Z 0 0] 37);rw[show(w.alloc (N #[Y (T (Q ZO M Z)) (S.f1 tg).h cap] 43)).heap.size=B (z w)+1 by simp] at h2;exact h2
 have Fm:=ae (h.aa A2 ly);have IW:=ae hrel;have IG:=ae hp;have Ik:=ae Hf;have I8:=ae Iv;clear h C HK IF Ij Hp hrel hp Hf Iv;go_enter func141,ntmps141;go_upto_region 1 with fail;generalize World.alloc (World.alloc w _) _=W2 at A2 z2 kp kr Fm ⊢;have hzW2:B (z w)+2<=B (z W2):=by omega
 clear z2;have A3:=ae ((BS W2).alloc ly (N #[] 156));have O6:=ae (nC W2 156 3);go_upto_region 2 with fail;generalize World.alloc W2 _=W3 at A3 O6 ⊢;have A4:=ae ((BS W3).alloc ly (N #[] 164));have O7:=ae (nC W3 164 3);go_wp2_with fail;generalize World.alloc W3 _=W4 at A4 O7 ⊢;have n8:=ae (A3.trans (A4.mono A3.size));have AW:=ae (A2.trans (n8.mono A2.size));have hw32:B (z W2)<=B (z W3):=A3.size;have IA:Hid (SB w0 hb (Y a0 S.n0 c0) (Y a1 S.n1 c1) w making (Y (T (Q ZO M Z)) (S.f1 tg).h cap) W4 [] [] ZS L0 GS Hi Hc (B (z W2)) 0 (B (z W3)) 0):=by refine⟨Fm.aa n8 ly,aF (own_below O6 A4 ly) (by omega),aF O7 (by omega),λm hm hd e=>?_,(n8.block _ (by omega)).trans kp,(n8.block _ (by omega)).trans kr,KS.q AW ly mv⟩;have:=(af (Fm.V m hm hd) _ e).2.1;omega
 have Iq:Hid (SR w0 S hb (Y a0 S.n0 c0) (Y a1 S.n1 c1) w n making tg (Y (T (Q ZO M Z)) (S.f1 tg).h cap) L0 R0 W4 [] [] ZS L0 GS Hi Hc (B (z W2)) 0 (B (z W3)) 0) :=
  ⟨IA,IW,IG,gL S ZS,Ik,Jn.symm,IH _,LExt.refl _ _⟩
 clear IA O6 O7 A3 A4 A2 n8 AW Fm IW IG Ik kp kr;go_loopg [6,7] 202 (λg v6 v7 wr=>∃f G made L md or st g6 c6 g7 c7,v6=Y (T (Q g6 0 Z)) (List.length (α:=aC) f) c6/\v7=Y (T (Q g7 0 Z)) (List.length (α:=Lk) G) c7/\Hid (SR w0 S hb (Y a0 S.n0 c0) (Y a1 S.n1 c1) w n making tg (Y (T (Q ZO M Z)) (S.f1 tg).h cap) L0 R0 wr f G made L md or st g6 c6 g7 c7)/\201 - f.length<=g);case atStart=>exact⟨[],[],ZS,L0,GS,Hi,Hc,_,_,_,_,rfl,rfl,Iq,by simp⟩
 case round =>
  clear Iq;obtain⟨f,G,made,L,md,or,st,g6,c6,g7,c7,rfl,rfl,s,hg⟩:=hrel;have k0:wr.cell? (Q (B (z w)) 0 Z)=T (Y (T (Q ZO M Z)) (S.f1 tg).h cap):=by simp[World.cell?,s.sb.kp]
  have hkl:=ah s.sb.kp;have hy:=s.le;have IU:G.length=f.length:=s.rg.len;obtain⟨ZL,hT⟩:∃ZL,ZL=bG S tg f:=⟨_,rfl⟩
  have HT:=ae hT;have Is:=ae IU;clear hT IU;go_wp2_with fail;refine(mI ZO M (S.f1 tg).h cap g6 0 f.length c6 (S.f1 tg).u (yL f) wr (by omega) (Jp.aa s.sb.si.ak ly) (FD s.sb.r6) I9).mono ?_;rintro e ZN ⟨he,R⟩;rw[Ar CC.ok He s.rg.good s.le,<-HT.out] at he;subst he;have IZ:=ae (s.sb.aa R ly);have Hn:=ae (lB CC.ok He s.rg.good);rw[<-HT.out] at Hn;clear R k0;obtain⟨over,code,text,ask,name,steps⟩:=ZL;simp only[Turn.v];have A5:=ae ((BS ZN).alloc ly (N #[ZC over,J I code,U text,ZC ask,U name,J I steps] 150));have kt:Hid (TBx (ZN.alloc (N #[ZC over,J I code,U text,ZC ask,U name,J I steps] 150)) (B (z ZN)) over code text ask name steps):=gM _ _;obtain⟨t0,t1,t2,t3,t4⟩:=kt.cells;have o:=ae (IZ.aa A5 ly);cases over with
  |true =>
   have Jm:Hid (R0=.inl (made,(⟨ZD,code,text,ask,name,steps⟩,G))):=by show _=_;rw[<-s.run,show 201 - f.length=(200 - f.length)+1 by omega,bR,<-HT.out,j6 rfl]
   obtain⟨rl,r0,r1,r2,rf⟩:=bP o.kr;obtain⟨Iw,Im,Iy⟩:=al3 rf;clear rf;go_wp2_with fail;generalize World.alloc ZN _=W5 at A5 kt o r0 r1 r2 Iw Im Iy rl t0 t1 t2 t3 t4 ⊢;refine bp (v:=.tuple #[ZG #[J I code,U text,Y Z 0 0],Y (T (Q g7 0 Z)) G.length c7]) (by simp[results,results141,go_sem,r0,r1,r2]) rfl ?_;have ZK:B (z w0)<=B (z w)+1:=by omega
   have x0:=o.si.ad o.kr ⟨by decide,by decide,by decide,by decide⟩ ZK 0 (J I code);have y0:=aw o.kr (j:=0) (J I code);have x1:=x0.ad y0 ⟨by decide,by decide,by decide,by decide⟩ ZK 1 (U text);have y1:=aw y0 (j:=1) (U text);have x2:=x1.ad y1 ⟨by decide,by decide,by decide,by decide⟩ ZK 2 (Y Z 0 0);have Bk:g7≠B (z w)+1:=λe=>by obtain⟨_,_,cs,hc⟩:=af o.r7 g7 rfl;exact absurd (ai (e ▸ hc) o.kr) (by decide)
   rw[Jm.out];refine⟨L,md,or,st,g7,c7,rfl,x2,s.rel,aA (aA (aA o.r7 (λe=>Bk (IN e)) _ _) (λe=>Bk (IN e)) _ _) (λe=>Bk (IN e)) _ _,o.ap,s.ext,?_⟩;refine((o.kx.trans (KS.setCell (X:=λi=>i=B (z w)+1) W5 ZK (Or.inl rfl) (J I code)) ?_).trans (KS.setCell (X:=λi=>i=B (z w)+1) _ ZK (Or.inl rfl) (U text)) ?_).trans (KS.setCell (X:=λi=>i=B (z w)+1) _ ZK (Or.inl rfl) (Y Z 0 0)) ?_;all_goals
    intro i hi h;have e2:i=B (z w)+1:=h;omega
  |false =>
   have hyl:f.length<200:=by
    rcases Hn.out with h|h;{exact absurd h.1 (by simp)};{exact h.2.1}
   have HN:Hid (aB name=ZD):=by
    rcases Hn.out with h|h;{exact absurd h.1 (by simp)};{exact h.2.2}
   cases ask with
   |false =>
    have A:=s.run;rw[show 201 - f.length=(200 - f.length)+1 by omega,bR,<-HT.out,eT (by simp),j6 rfl] at A;obtain⟨H,At⟩:∃H,H=fo S name:=⟨_,rfl⟩
    have IJ:=ae At;simp only at A;rw[<-At] at A;have NX:=ae A;clear A At;go_wp2_with fail;clear t0 t1 t2 t3 t4;generalize World.alloc ZN _=W5 at A5 kt o ⊢;obtain⟨V,b0,b1,-⟩:=o.si.l.D;refine(oW CC W5 name o.si.ak V b0 b1).mono ?_;rintro e ZP ⟨he,R⟩;rw[<-IJ.out] at he;subst he;have ZQ:=ae (o.aa R ly);have bt:Hid (TBx ZP (B (z ZN)) ZA code text ZA name steps):=(R.block _ (ah kt)).trans kt;clear R b0 b1 V;have q:=ae ((BS ZP).alloc ly (N #[ZC H,J I 0,U ⟨#[]⟩] 156));have RA:=ae (own_below ZQ.r6 q ly);have Hw:B (z w)<=B (z ZP):=ZQ.kx.aa.size
    go_upto_region 9 with (first
     |(at_builtin;refine bX _ rfl (.tmp 32) (.tmp 35) 153 rfl (B (z w)) 156 i6 (ZG #[ZC ZA,J I 0,U ⟨#[]⟩]) 3 32 UQ Ig Io Ip Ii rfl (by decide) (Y (T (Q g6 0 Z)) f.length c6) f.length (lM f) (by simp[Act.eval]) RA.out (Q (B (z ZP)) 0 Z) 1 1 [ZC H,J I 0,U ⟨#[]⟩] (by simp[Act.eval]) rfl (iT ZP _ _ _ _) (by simp[Value.oneCell']) (by unfold maxLen;omega) (by omega) (by simp<;>omega) ?_;intro v3 u ex O qr;have O3:=ae ex;have G3:=ae O;clear ex O qr)
     |fail)
    have ld:Hid (∀(k:Nat) (cs:Array ZB) (t:ZH) (fz:Nat × Nat),(ZP.alloc (N #[ZC H,J I 0,U ⟨#[]⟩] 156)).heap[k]?=T (Obj.cells cs t fz)->t≠156->u.heap[k]?=(ZP.alloc (N #[ZC H,J I 0,U ⟨#[]⟩] 156)).heap[k]?):=λk cs t fz hk ht=>G3.block k (ah hk) λe=>by obtain⟨_,_,Ji,Ha⟩:=af RA k e.symm;exact ht (ai hk Ha)
    have ph:Hid (TBx u (B (z ZN)) ZA code text ZA name steps):=by have h0:=(q.block _ (ah bt)).trans bt;exact(ld _ _ _ _ h0 (by decide)).trans h0
    have H6:Hid (u.ownsRow (B (z w)) 164 3 (Y (T (Q g7 0 Z)) G.length c7) G.length (eh G)):=bO (own_below ZQ.r7 q ly) λk hk=>by obtain⟨_,_,cs,hc⟩:=af (own_below ZQ.r7 q ly) k hk;exact ld _ _ _ _ hc (by decide)
    obtain⟨-,-,-,-,n4⟩:=ph.cells;have Jf:=ah ph.out;have A7:=ae ((BS u).alloc ly (N #[U name,ZC ZA,ZC H] 164));have RS:=ae (own_below H6 A7 ly);have Je:B (z w)<=B (z u):=nL (nL Hw (by simp<;>omega)) G3.size;have ur:=Is.out;obtain⟨P,ZI⟩:∃P,P=G.length:=⟨_,rfl⟩
    have Ie:P<=200:=by omega
    have Hz:=ae ZI;rw[<-ZI] at RS ⊢;clear ur ZI
    go_wp2_with (first
     |(at_builtin;refine bX _ rfl (.tmp 37) (.tmp 42) 159 rfl (B (z w)) 164 i7 (ZG #[U ⟨#[]⟩,ZC ZA,ZC ZA]) 3 24 underlying159 Il IM IB IQ rfl (by decide) (Y (T (Q g7 0 Z)) P c7) P (eh G) (by simp[Act.eval]) RS.out (Q (B (z u)) 0 Z) 1 1 [U name,ZC ZA,ZC H] (by simp[Act.eval]) rfl (iT u _ _ _ _) (by simp[Value.oneCell']) (by unfold maxLen;omega) (by omega) (by simp<;>omega) ?_;intro v4 w4 aq K fd;have O4:=ae aq;have G4:=ae K;have Hy:=ae fd;clear aq K fd)
     |fail)
    obtain⟨Hm,Id,Hl,Hq,e6,e7,H9⟩:=ZQ.more (r:=⟨H,0,⟨#[]⟩⟩) (l:=⟨name,ZA,H⟩) mv q O3 G3 A7 (by rw[<-Hz.out];exact O4) G4 Hy;have D:(f++[(⟨H,0,⟨#[]⟩⟩:aC)]).length=f.length+1:=by simp
    have Ic:Hid (SR w0 S hb (Y a0 S.n0 c0) (Y a1 S.n1 c1) w n making tg (Y (T (Q ZO M Z)) (S.f1 tg).h cap) L0 R0 w4 (f++[⟨H,0,⟨#[]⟩⟩]) (G++[⟨name,ZA,H⟩]) made L md or st Hm Id Hl Hq) :=
     ⟨H9,s.rel,s.pg,(s.rg.add (by rw[IJ.out];exact kj _ _) HN (λh=>by cases h)),(by rw[D,show 201 - (f.length+1)=200 - f.length by omega];exact(by have:=s.room;unfold eQ at this ⊢;omega)),(by rw[D,show 201 - (f.length+1)=200 - f.length by omega];exact NX),(by rw[D];omega),s.ext⟩
    obtain⟨g,rfl⟩:∃g,gk=g+1:=⟨gk - 1,by omega⟩
    go_roundg g;case measure=>omega
    case rel=>exact⟨_,_,_,_,_,_,_,_,_,_,_,e6,e7,Ic,by rw[D];omega⟩
   |true =>
    have A:=s.run;rw[show 201 - f.length=(200 - f.length)+1 by omega,bR,<-HT.out,eT (by simp),eT (by simp)] at A;simp only at A;go_wp2_with fail;clear t0 t1 t2 t3 t4;generalize World.alloc ZN _=W5 at A5 kt o ⊢;refine(Jc making made L md or st W5 name IY o.si s.rel s.pg (by have:=s.room;unfold eQ at this ⊢;omega) I8 HN).mono ?_;intro e ZP ZM;have HQ:(∃ZR x,aP S n making made name=.inl (ZR,x))∨∃(r:jm) (va:Option Addr) (vn vk:Nat),e=ZF (iE r (Y va vn vk))/\ix w0 hb ZP r (Y va vn vk)/\KS (B (z w0)) XN W5 ZP/\Hid (∀vs w',ix w0 hb w' r (Y va vn vk)->KS (B (z w0)) XN w w'->oX w0 hb (Y a0 S.n0 c0) (Y a1 S.n1 c1) making L0 w (ZF (.tuple #[iE r (Y va vn vk),vs])) w' R0):=by
     rcases hr:aP S n making made name with ⟨ZR,x⟩|c|d;{exact .inl ⟨_,_,rfl⟩};all_goals
      rw[hr] at ZM A;dsimp only at A;subst A
     {obtain⟨ca,ck,rfl,hd,hK⟩:=ZM;exact .inr ⟨_,_,_,_,rfl,hd,hK,λvs w' h1 h2=>⟨ca,ck,vs,rfl,h1,h2⟩⟩};{obtain⟨rfl,hd,hK⟩:=ZM;exact .inr ⟨_,_,_,_,rfl,hd,hK,λvs w' h1 h2=>⟨vs,rfl,h1,h2⟩⟩}
    rcases HQ with ⟨ZR,x,hr⟩|⟨r,va,vn,vk,rfl,⟨q0,q1,qm,qo,qs,G8,IE⟩,hK,fin⟩
    ·rw[hr] at ZM A;dsimp only at A;obtain⟨L2,Jb,Jq,I7,rfl,It,Hr,H7,hK⟩:=ZM;obtain⟨Hd,⟨more,Hb⟩,hx,Hk⟩:=cX CC.ok n making made name ZR x s.pg HN hr;have Hh:=gJ S n making made name ZR x hr;have Ib:∀y∈made,y∈ZR:=λy hy=>by rw[Hb];exact LB _ hy
     have Hx:=ae (o.step hK It H7);have I5:=ae Hr;have Jk:=ae Hd;have ID:Hid (RG S ZR (f++[fT x]) (G++[⟨name,ZD,ZA⟩])):=(s.rg.mono Ib).add (kl (Hd.W x hx)) HN (λ_=>⟨x,hx,Hk⟩);have Jh:Hid (eQ S making ZR (200 - f.length)):=by have:=s.room;unfold eQ at this ⊢;unfold fx at Hh;show _<=_;omega
     have Jl:=ae (s.ext.trans H7 o.kx.aa.size);have DQ:Hid (TBx ZP (B (z ZN)) ZA code text ZD name steps):=(hK.ab _ _ _ _ kt (by decide) (by decide) (by decide) λh=>h).trans kt;have NX:=ae A;obtain⟨rc,rt,ob,oc,ot,IK,IC,Iu⟩:=DG (Hd.W x hx);rw[IC] at ID NX;have hz25:B (z W5)<=B (z ZP):=hK.aa.size;have hg65:g6<B (z W5):=(af o.r6 g6 rfl).2.1;have hw25:B (z w)+2<=B (z W5):=ah o.kr;rw[Hk] at Iu;simp only[IK];clear It Hr H7 hK Hd Hb hx Hk Hh Ib hr A IK IC;obtain⟨W6,DS⟩:∃W:E,ZP.alloc (N #[J I rc,U rt,Y Z 0 0] 37)=W:=⟨_,rfl⟩
     obtain⟨q,Iz,-⟩:=nb1 DS;have Hv:=ae DS;clear DS;obtain⟨V,-,-,-,-,-,-,-,-,b8,-⟩:=Hx.si.l.D;have d8:=(q.cell (p:=(Q hb 8 Z)) V).trans b8;obtain⟨rl,r0,r1,-,-⟩:=bP Iz;go_upto_region 13 with fail;clear d8 b8;rw[Hv.out];clear Hv;obtain⟨W8,ro⟩:∃W:E,W6.alloc (N #[ZC ZD,J I rc,U rt] 156)=W:=⟨_,rfl⟩
     obtain⟨A7,ky,-⟩:=nb1 ro;have Ho:=ae ro;clear ro;go_upto_region 14 with fail;rw[Ho.out];clear Ho;have IP:=ae (q.trans (A7.mono q.size));have n7:=ae (Hx.aa IP ly);have n9:Hid (TBx W8 (B (z ZN)) ZA code text ZD name steps):=(IP.block _ (ah DQ)).trans DQ;have r7:=(A7.cell (p:=(Q (B (z ZP)) 0 Z)) rl).trans r0;have th:B (z ZP)<B (z W8):=lj rl A7.size;obtain⟨-,-,-,-,tn⟩:=n9.cells;have n6:=ah n9.out;obtain⟨ZJ,IL⟩:∃ZJ,ZJ=B (z W6):=⟨_,rfl⟩
     rw[<-IL] at ky ⊢;have sm:B (z w)+2<=ZJ:=by have:=q.size;omega
     have Fd:ZJ≠g6:=by have:=q.size;omega
     clear IL Hx DQ A7 q Iz r0 r1;obtain⟨la,b0,b1,-⟩:=n7.si.l.D;rcases Iu with ⟨Ia,e4,e3⟩|⟨Ia,e3⟩
     case' inr=>by_cases h4:rc=4
     all_goals
      have II:=ae Ia;have E3:=ae e3;clear Ia e3
     case' inl =>
      subst e4;go_wp2_with fail;refine(oW CC W8 name n7.si.ak la b0 b1).mono ?_;rintro e u ⟨he,R⟩;rw[II.out] at he;subst he;have Jg:=ae (n7.aa R ly);have Ih:Hid (TBx u (B (z ZN)) ZA code text ZD name steps):=(R.block _ n6).trans n9;have Hg:=(R.block _ (ah ky)).trans ky;obtain⟨yl,y0,y1,y2,yf⟩:=bP Hg;obtain⟨Jd,I6,Ja⟩:=al3 yf;have x0:=Jg.ad Hg ⟨by decide,by decide,by decide,by decide⟩ mv sm Fd 0 (ZC ZA);have x1:=x0.1.ad x0.2 ⟨by decide,by decide,by decide,by decide⟩ mv sm Fd 1 (J I 0);have x2:=x1.1.ad x1.2 ⟨by decide,by decide,by decide,by decide⟩ mv sm Fd 2 (U ⟨#[]⟩);have ZQ:=ae x2.1;have Hu:B (z ZN)≠ZJ:=λe=>absurd (ai (show u.heap[B (z ZN)]?=_ from Ih.out) (e ▸ Hg)) (by decide);have bt:Hid (TBx (((u.setCell (Q ZJ 0 Z) (ZC ZA)).setCell (Q ZJ 1 Z) (J I 0)).setCell (Q ZJ 2 Z) (U ⟨#[]⟩)) (B (z ZN)) ZA code text ZD name steps):=(qh _ _ _ _ Hu).trans ((qh _ _ _ _ Hu).trans ((qh _ _ _ _ Hu).trans Ih));have KY:Hid ((((u.setCell (Q ZJ 0 Z) (ZC ZA)).setCell (Q ZJ 1 Z) (J I 0)).setCell (Q ZJ 2 Z) (U ⟨#[]⟩)).heap[ZJ]?=T (N #[ZC ob,J I oc,U ot] 156 (0,0))):=by rw[E3.1,E3.2.1,E3.2.2];exact x2.2
      clear x0 x1 x2 R tn b0 b1 la r7 th n6 rl Hg;go_upto_region 16 with fail;clear y0 y1 y2 Jd I6 Ja yl;generalize World.setCell (World.setCell (World.setCell u _ _) _ _) _ _=W8 at ZQ KY bt ⊢
     case' pos =>
      subst h4;go_wp2_with fail;refine(oW CC W8 name n7.si.ak la b0 b1).mono ?_;rintro e u ⟨he,R⟩;rw[II.out] at he;subst he;have ZQ:=ae (n7.aa R ly);have bt:Hid (TBx u (B (z ZN)) ZA code text ZD name steps):=(R.block _ n6).trans n9;have KY:Hid (u.heap[ZJ]?=T (N #[ZC ob,J I oc,U ot] 156 (0,0))):=by rw[E3.1,E3.2.1,E3.2.2];exact(R.block _ (ah ky)).trans ky
      clear R tn b0 b1 la r7 th n6 rl;go_upto_region 16 with fail;generalize u=W8 at ZQ KY bt ⊢
     case' neg =>
      have h4b:(rc == 4)=ZA:=by simpa using h4
      have ZQ:=n7;have bt:=n9;have KY:Hid (W8.heap[ZJ]?=T (N #[ZC ob,J I oc,U ot] 156 (0,0))):=by rw[E3.1,E3.2.1,E3.2.2];exact ky
      go_upto_region 16 with fail;clear tn b0 b1 la r7 th n6 rl
     all_goals
      obtain⟨yl,y0,y1,y2,-⟩:=bP KY;have q:=ae ((BS W8).alloc ly (N #[ZC ob,J I oc,U ot] 156));have RA:=ae (own_below ZQ.r6 q ly);have Hw:B (z w)<=B (z W8):=ZQ.kx.aa.size
      go_upto_region 17 with (first
       |(at_builtin;refine bX _ rfl (.tmp 73) (.tmp 75) 153 rfl (B (z w)) 156 i6 (ZG #[ZC ZA,J I 0,U ⟨#[]⟩]) 3 32 UQ Ig Io Ip Ii rfl (by decide) (Y (T (Q g6 0 Z)) f.length c6) f.length (lM f) (by simp[Act.eval]) RA.out (Q (B (z W8)) 0 Z) 1 1 [ZC ob,J I oc,U ot] (by simp[Act.eval]) rfl (iT W8 _ _ _ _) (by simp[Value.oneCell']) (by unfold maxLen;omega) (by omega) (by simp<;>omega) ?_;intro v3 u ex O qr;have O3:=ae ex;have G3:=ae O;clear ex O qr)
       |fail)
      have ld:Hid (∀(k:Nat) (cs:Array ZB) (t:ZH) (fz:Nat × Nat),(W8.alloc (N #[ZC ob,J I oc,U ot] 156)).heap[k]?=T (Obj.cells cs t fz)->t≠156->u.heap[k]?=(W8.alloc (N #[ZC ob,J I oc,U ot] 156)).heap[k]?):=λk cs t fz hk ht=>G3.block k (ah hk) λe=>by obtain⟨_,_,Ji,Ha⟩:=af RA k e.symm;exact ht (ai hk Ha)
      have ph:Hid (TBx u (B (z ZN)) ZA code text ZD name steps):=by have h0:=(q.block _ (ah bt)).trans bt;exact(ld _ _ _ _ h0 (by decide)).trans h0
      have H6:Hid (u.ownsRow (B (z w)) 164 3 (Y (T (Q g7 0 Z)) G.length c7) G.length (eh G)):=bO (own_below ZQ.r7 q ly) λk hk=>by obtain⟨_,_,cs,hc⟩:=af (own_below ZQ.r7 q ly) k hk;exact ld _ _ _ _ hc (by decide)
      obtain⟨-,-,-,-,n4⟩:=ph.cells;have Jf:=ah ph.out;have A7:=ae ((BS u).alloc ly (N #[U name,ZC ZD,ZC ZA] 164));have RS:=ae (own_below H6 A7 ly);have Je:B (z w)<=B (z u):=nL (nL Hw (by simp<;>omega)) G3.size;have ur:=Is.out;obtain⟨P,ZI⟩:∃P,P=G.length:=⟨_,rfl⟩
      have Ie:P<=200:=by omega
      have Hz:=ae ZI;rw[<-ZI] at RS ⊢;clear ur ZI
      go_wp2_with (first
       |(at_builtin;refine bX _ rfl (.tmp 77) (.tmp 81) 159 rfl (B (z w)) 164 i7 (ZG #[U ⟨#[]⟩,ZC ZA,ZC ZA]) 3 24 underlying159 Il IM IB IQ rfl (by decide) (Y (T (Q g7 0 Z)) P c7) P (eh G) (by simp[Act.eval]) RS.out (Q (B (z u)) 0 Z) 1 1 [U name,ZC ZD,ZC ZA] (by simp[Act.eval]) rfl (iT u _ _ _ _) (by simp[Value.oneCell']) (by unfold maxLen;omega) (by omega) (by simp<;>omega) ?_;intro v4 w4 aq K fd;have O4:=ae aq;have G4:=ae K;have Hy:=ae fd;clear aq K fd)
       |fail)
      obtain⟨Hm,Id,Hl,Hq,e6,e7,H9⟩:=ZQ.more (r:=⟨ob,oc,ot⟩) (l:=⟨name,ZD,ZA⟩) mv q O3 G3 A7 (by rw[<-Hz.out];exact O4) G4 Hy;have D:(f++[(⟨ob,oc,ot⟩:aC)]).length=f.length+1:=by simp
      have Ic:Hid (SR w0 S hb (Y a0 S.n0 c0) (Y a1 S.n1 c1) w n making tg (Y (T (Q ZO M Z)) (S.f1 tg).h cap) L0 R0 w4 (f++[⟨ob,oc,ot⟩]) (G++[⟨name,ZD,ZA⟩]) ZR L2 Jb Jq I7 Hm Id Hl Hq) :=
       ⟨H9,I5,Jk,ID,(by rw[D,show 201 - (f.length+1)=200 - f.length by omega];exact Jh),(by rw[D,show 201 - (f.length+1)=200 - f.length by omega];exact NX),(by rw[D];omega),Jl⟩
      obtain⟨g,rfl⟩:∃g,gk=g+1:=⟨gk - 1,by omega⟩
      go_roundg g;case measure=>omega
      case rel=>exact⟨_,_,_,_,_,_,_,_,_,_,_,e6,e7,Ic,by rw[D];omega⟩
    ·clear ZM A;obtain⟨V,-,-,-,-,-,b5,b6,b7,b8,-⟩:=G8.D;have Fk:=(hK.ab _ _ _ _ o.kr (by decide) (by decide) (by decide) λh=>h).trans o.kr;have KW:=ae (o.kx.to hK);have Jo:=ae G8;have Ir:=ae IE;have q:=ae ((BS ZP).alloc ly (N #[J I r.M,U r.H,Y va vn vk] 37));have Ht:=(q.block _ (ah Fk)).trans Fk;obtain⟨rl,r0,r1,r2,rf⟩:=bP Ht;have d5:=(q.cell (p:=(Q hb 5 Z)) V).trans b5;have d6:=(q.cell (p:=(Q hb 6 Z)) V).trans b6;have d7:=(q.cell (p:=(Q hb 7 Z)) V).trans b7;have d8:=(q.cell (p:=(Q hb 8 Z)) V).trans b8;obtain⟨Iw,Im,Iy⟩:=al3 rf;have DE:hb≠B (z w)+1:=λe=>absurd (ai (e ▸ G8) Fk) (by decide);have Jj:=ae Ht;clear rf G8 IE hK b5 b6 b7 b8 Fk Ht;simp only[iE];go_wp2_with fail;refine bp (v:=.tuple #[iE r (Y va vn vk),Y (T (Q g7 0 Z)) G.length c7]) (by simp[results,results141,go_sem,r0,r1,r2,iE]) rfl ?_;have ZK:B (z w0)<=B (z w)+1:=by omega
     have IX:∀(W:E) (v0 v1 v2:ZB),(((W.setCell (Q (B (z w)+1) 0 Z) v0).setCell (Q (B (z w)+1) 1 Z) v1).setCell (Q (B (z w)+1) 2 Z) v2).heap[hb]?=W.heap[hb]?:=λW v0 v1 v2=>(qh _ _ _ _ DE).trans ((qh _ _ _ _ DE).trans (qh _ _ _ _ DE));have Hj:∀k,(Value.slice va vn vk).ownBlock=T k->k≠B (z w)+1:=λk hk e=>by obtain⟨_,_,cs,hc⟩:=af (own_below Ir q ly) k hk;exact absurd (ai (e ▸ hc) Jj) (by decide)
     refine fin (Y (T (Q g7 0 Z)) G.length c7) _ ⟨q0,q1,qm,qo,qs,(IX _ _ _ _).trans ((q.block _ V).trans Jo),aA (aA (aA (own_below Ir q ly) (λe=>Hj _ e rfl) _ _) (λe=>Hj _ e rfl) _ _) (λe=>Hj _ e rfl) _ _⟩ ?_;refine((((KW.to (KS.q q ly (nL mv KW.aa.size))).trans (KS.setCell (X:=λi=>i=B (z w)+1) _ ZK (Or.inl rfl) _) ?_).trans (KS.setCell (X:=λi=>i=B (z w)+1) _ ZK (Or.inl rfl) _) ?_).trans (KS.setCell (X:=λi=>i=B (z w)+1) _ ZK (Or.inl rfl) _) ?_);all_goals
      intro i hi h;have e2:i=B (z w)+1:=h;omega
end
