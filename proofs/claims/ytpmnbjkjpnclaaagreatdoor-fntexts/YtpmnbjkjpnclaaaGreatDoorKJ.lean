import Derived.Test.YtpmnbjkjpnclaaaGreatDoorKH
import Derived.Test.YtpmnbjkjpnclaaaGreatDoorLW
import Derived.Deep.Cut
set_option maxRecDepth 1000000
set_option maxHeartbeats 8000000
open Go renaming Addr.mk->N,Value.slice->Y,Value.string->U,Value.int->Q,Value.bool->ZC,Value.agg->ZG,Obj.cells->J,IntKind.i64->I,World->M,Value->ZB,TypeId->ZH,Ending.returned->ZD,World.heap->z
open Option renaming none->Z,some->T
open Bool renaming false->ZA,true->ZF
open Array renaming size->B
namespace Go.Proofs.YtpmnbjkjpnclaaaGreatDoor.Vp
open Tryz RowKit
variable {W wr w:M}{b n x g o size:Nat}{t e:ZH}{i:ZB}
structure SB (w0:M)(hb:Nat)(s0 s1:ZB)(w:M)(making:List ByteArray)(pv:ZB)(wr:M)(ys:List aB)(ls:List Lk)(made:List Ent)(L:List SM)(md or st:ZB)(g6 c6 g7 c7:Nat):Prop where
 si:SI w0 hb s0 s1 wr making made L md or st
 r6:wr.ownsRow (B (z w)) 166 3 (Y (T (N g6 0 Z)) ys.length c6) ys.length (kl ys)
 r7:wr.ownsRow (B (z w)) 201 3 (Y (T (N g7 0 Z)) ls.length c7) ls.length (dJ ls)
 ap:∀m∈L,m.done=ZF->m.sv.ownBlock≠T g7
 kp:wr.heap[B (z w)]?=T (J #[pv] 43 (0,0))
 kr:wr.heap[B (z w)+1]?=T (J #[Q I 0,U ⟨#[]⟩,Y Z 0 0] 39 (0,0))
 kx:KS (B (z w0)) XN w wr
structure SR (w0:M)(S:Spc)(hb:Nat)(s0 s1:ZB)(w:M)(n:Nat)(making:List ByteArray)(tg:Nat)(pv:ZB)(L0:List SM)(R0:Out (Turn × List Lk))(wr:M)(ys:List aB)(ls:List Lk)(made:List Ent)(L:List SM)(md or st:ZB)(g6 c6 g7 c7:Nat):Prop where
 sb:SB w0 hb s0 s1 w making pv wr ys ls made L md or st g6 c6 g7 c7
 rel:eK L making made
 pg:PG S making made
 rg:RG S made ys ls
 room:ec S making made (201 - ys.length)
 run:bU S (aQ S n making) tg (201 - ys.length) made ys ls=R0
 le:ys.length<=200
 ext:LExt (B (z w)) L0 L
def TBx (w:M)(g:Nat)(over:Bool)(code:Int)(text:ByteArray)(ask:Bool)(name:ByteArray)(steps:Int):Prop:=w.heap[g]?=T (J #[ZC over,Q I code,U text,ZC ask,U name,Q I steps] 163 (0,0))
theorem TBx.cells{over:Bool}{code:Int}{text:ByteArray}{ask:Bool}{name:ByteArray}{steps:Int}(h:TBx w g over code text ask name steps):w.cell? (N g 0 Z)=T (ZC over)/\w.cell? (N g 1 Z)=T (Q I code)/\w.cell? (N g 2 Z)=T (U text)/\w.cell? (N g 3 Z)=T (ZC ask)/\w.cell? (N g 4 Z)=T (U name):=by unfold TBx at h;refine⟨?_,?_,?_,?_,?_⟩;all_goals simp[World.cell?,h]
def nG (w0:M)(hb:Nat)(s0 s1:ZB)(making:List ByteArray)(L:List SM)(w:M)(e:Ending)(w':M):Out (Turn × List Lk)->Prop
 |.inl (made',x)=>∃b h i f g c,e=ZD (.tuple #[ZG #[Q I x.1.E,U x.1.y,Y Z 0 0],Y (T (N g 0 Z)) x.2.length c])/\SI w0 hb s0 s1 w' making made' b h i f/\eK b making made'/\w'.ownsRow (B (z w)) 201 3 (Y (T (N g 0 Z)) x.2.length c) x.2.length (dJ x.2)/\(∀m∈b,m.done=ZF->m.sv.ownBlock≠T g)/\LExt (B (z w)) L b/\KS (B (z w0)) XN w w'
 |.inr (.inl c)=>∃a k sv,e=ZD (.tuple #[ig (iA c) (Y a c.length k),sv])/\gS w0 hb w' (iA c) (Y a c.length k)/\KS (B (z w0)) XN w w'
 |.inr (.inr d)=>∃sv,e=ZD (.tuple #[ig (iB d) (Y Z 0 0),sv])/\gS w0 hb w' (iB d) (Y Z 0 0)/\KS (B (z w0)) XN w w'
theorem iC (w:M)(g b i:ZB)(t:ZH):∀j u,[g,b,i][j]?=T u->(w.alloc (J #[g,b,i] t)).cell? (((N (B (z w)) 0 Z):Addr).add j)=T u:=by
 intro j u h;rw[addr_add];have hj:j<3:=by
  rcases J7 j 3 with f|f;{exact f};{rw[JR (by simp;omega)] at h;cases h}
 rcases(show j=0∨j=1∨j=2 by omega) with rfl|rfl|rfl;all_goals
  simp at h;subst h;simp
theorem bw{g f:ZB}(h:w.heap[b]?=T (J #[g,f,i] t (0,0))):b<B (z w)/\w.cell? (N b 0 Z)=T g/\w.cell? (N b 1 Z)=T f/\w.cell? (N b 2 Z)=T i/\∀j,w.frozen? (N b j Z)=ZA:=by refine⟨ag h,?_,?_,?_,λj=>?_⟩;all_goals simp[World.cell?,World.frozen?,h]
section
variable {w0 w w':M}{hb:Nat}{s0 s1 md or st:ZB}{making:List ByteArray}{made:List Ent}{L:List SM}
theorem SI.grown{v:ZB}{G:List ZB}(h:SI w0 hb s0 s1 w making made L md or st)(f:w.grownBy w' v.ownBlock)(C:w.ownsRow o e size v n G)(hB:B (z w0)<=o)(p:e≠9/\e≠198/\e≠117)(D:∀m∈L,m.done=ZF->∀k,v.ownBlock=T k->m.sv.ownBlock≠T k):SI w0 hb s0 s1 w' making made L md or st:=by
 have A:=af C;have s:∀(i:Nat) (q:Array ZB) (t:ZH) (fz:Nat × Nat),w.heap[i]?=T (Obj.cells q t fz)->t≠e->w'.heap[i]?=w.heap[i]?:=λi q t fz hi j=>f.block i (ag hi) λl=>by obtain⟨_,_,cs2,r⟩:=A i l.symm;exact j (ah hi r)
 have b:∀{size n:Nat} {t:ZH} {u:ZB} {ZR:List ZB},w.ownsRow (B (z w0)) t size u n ZR->t≠e->w'.ownsRow (B (z w0)) t size u n ZR:=λZS j=>bI ZS λk g=>by obtain⟨_,_,q,r⟩:=af ZS k g;exact s _ _ _ _ r j
 refine⟨h.X.trans ⟨f.os,f.tape,f.output,f.size,λk g=>f.block k (lj g h.lt) λl=>?_⟩,h.hbB,h.ab.ad (s _ _ _ _ h.ab p.2.2.symm),b h.W p.2.1.symm,b h.ror p.1.symm,b h.rst p.1.symm,h.apart,λm x y=>bI (h.V m x y) λk g=>?_⟩;{have:=(A k l.symm).1;omega};{obtain⟨_,E,q,r⟩:=af (h.V m x y) k g;exact f.block k E λl=>D m x y k l.symm g}
theorem KS.grow{v:ZB}{q:List ZB}{ZR:Nat}(h:KS ZR XN W w)(p:w.grownBy w' v.ownBlock)(l:w.ownsRow b e size v n q)(o:B (z W)<=b)(g:ZR<=B (z W)):KS ZR XN W w' :=
 h.trans (ZI:=λi=>v.ownBlock=T i) (KS.of_grown p (nD g h.aa.size) λj f=>⟨nD (nD g o) (af l j f).1,.inl f⟩) λi hi m=>by have:=(af l i m).1;omega
theorem SB.aa{g:M}{o:ZB}{m:List aB}{l:List Lk}{p j i C:Nat}(h:SB w0 hb s0 s1 W making o wr m l made L md or st n p j i)(b:Below C wr g)(f:B (z wr)<=C):SB w0 hb s0 s1 W making o g m l made L md or st n p j i :=
 ⟨h.si.aa b f,own_below h.r6 b f,own_below h.r7 b f,h.ap,(b.block _ (lj (ag h.kp) f)).trans h.kp,(b.block _ (lj (ag h.kr) f)).trans h.kr,h.kx.to (KS.q b f h.si.lt)⟩
theorem SB.more{ZK ZQ K H ZL:M}{pv v3 P:ZB}{j:List aB}{g:List Lk}{X i ZM:Nat}{r:aB}{l:Lk}(h:SB w0 hb s0 s1 W making pv ZK j g made L md or st x X i ZM)(O:B (z w0)<=B (z W))
  (b3:Below (B (z ZK)) ZK ZQ) (S:K.ownsRow (B (z W)) 166 3 v3 (j.length+1) (kl j++[ZC r.has,Q I r.E,U r.y])) (C:ZQ.grownBy K (T x))
  (q:Below (B (z K)) K H) (ZJ:ZL.ownsRow (B (z W)) 201 3 P (g.length+1) (dJ g++[U l.e,ZC l.ask,ZC l.has])) (D:H.grownBy ZL (T i)) (ZP:P.ownBlock=T i∨P.ownBlock=T (B (z H))) :
  ∃u s f t,v3=Y (T (N u 0 Z)) (j++[r]).length s/\P=Y (T (N f 0 Z)) (g++[l]).length t/\SB w0 hb s0 s1 W making pv ZL (j++[r]) (g++[l]) made L md or st u s f t:=by
 have b:=h.aa b3 ly;have aq:B (z W)<B (z ZQ):=ag b.kp;have ZI:B (z W)+1<B (z ZQ):=ag b.kr;have ex:=af b.r6 x rfl;obtain⟨hg6,hg6l,cs6,n⟩:=ex
 have s3:=b.si.grown (v:=Y (T (N x 0 Z)) j.length X) C b.r6 O ⟨by decide,by decide,by decide⟩ (λm y ZS k o e=>by
  cases o
  obtain⟨_,_,cs,E⟩:=af (b.si.V m y ZS) x e
  exact absurd (ah n E) (by decide))
 have k3:=KS.grow (v:=Y (T (N x 0 Z)) j.length X) b.kx C b.r6 ly O;have bt:K.ownsRow (B (z W)) 201 3 (Y (T (N i 0 Z)) g.length ZM) g.length (dJ g):=bI b.r7 λk o=>by obtain⟨_,V,cs,E⟩:=af b.r7 k o;exact C.block k V λe=>by cases e;exact absurd (ah n E) (by decide)
 have R:=(C.block (B (z W)) aq λe=>by cases e;exact absurd (ah n b.kp) (by decide)).trans b.kp;have ZN:=(C.block (B (z W)+1) ZI λe=>by have A:=IT e;exact absurd (ah n (A ▸ b.kr)) (by decide)).trans b.kr;obtain⟨u,s,cu6,rfl,-⟩:=S.2.resolve_left (λh=>by omega);have s4:=s3.aa q ly;have ZO:=own_below bt q ly;obtain⟨hg7,hg7l,cs7,p⟩:=af ZO i rfl;have ZR:=(q.block (B (z W)) (ag R)).trans R;have G:=(q.block (B (z W)+1) (ag ZN)).trans ZN;have s5:=s4.grown (v:=Y (T (N i 0 Z)) g.length ZM) D ZO O ⟨by decide,by decide,by decide⟩ (λm y ZS k o e=>by cases o;exact h.ap m y ZS e);have k5:=KS.grow (v:=Y (T (N i 0 Z)) g.length ZM) (k3.to (KS.q q ly s3.lt)) D ZO ly O;obtain⟨f,t,cu7,rfl,-⟩:=ZJ.2.resolve_left (λh=>by omega);have e6:(j++[r]).length=j.length+1:=by simp
 have e7:(g++[l]).length=g.length+1:=by simp
 refine⟨u,s,f,t,by rw[e6],by rw[e7],s5,?_,?_,λm y ZS e=>?_,?_,?_,k5⟩;{rw[e6,Be];refine bI (own_below S q ly) λk o=>?_;obtain⟨_,V,cs,E⟩:=af (own_below S q ly) k o;exact D.block k V λe=>by cases e;exact absurd (ah p E) (by decide)};{rw[e7,yM];exact ZJ};{rcases ZP with ZP|ZP;{have A:f=i:=IT (show T f=T i from ZP);exact h.ap m y ZS (A ▸ e)};{have A:f=B (z H):=IT (show T f=T (B (z H)) from ZP);have:=(af (s4.V m y ZS) _ e).2.1;omega}};{exact(D.block (B (z W)) (ag ZR) λe=>by cases e;exact absurd (ah p ZR) (by decide)).trans ZR};{exact(D.block (B (z W)+1) (ag G) λe=>by have A:=IT e;exact absurd (ah p (A ▸ G)) (by decide)).trans G}
theorem SI.R{s:Array ZB}{fz:Nat × Nat}(h:SI w0 hb s0 s1 w making made L md or st)(i:w.heap[b]?=T (J s t fz))(g:t≠9/\t≠198/\t≠117/\t≠201)(ZS:B (z w0)<=b)(j:Nat)(u:ZB):SI w0 hb s0 s1 (w.setCell (N b j Z) u) making made L md or st:=by
 have f:∀{size n:Nat} {l:ZH} {q:ZB} {r:List ZB},w.ownsRow (B (z w0)) l size q n r->t≠l->(w.setCell (N b j Z) u).ownsRow (B (z w0)) l size q n r:=λo p=>ay o (λe=>by
  obtain⟨_,_,cs2,A⟩:=af o b e
  exact p (ah i A)) _ _
 refine⟨h.X.setCell ZS u,h.hbB,h.ab.ad (qh _ _ _ _ λe=>?_),f h.W g.2.1,f h.ror g.1,f h.rst g.1,h.apart,λm x y=>f (h.V m x y) g.2.2.2⟩;simp at e;subst e;exact g.2.2.1 (ah i h.ab)
theorem SB.step{p:M}{y g j:ZB}{u:List aB}{t:List Lk}{ZS r:Nat}{b:List Ent}{n:List SM}(h:SB w0 hb s0 s1 W making y wr u t made L md or st x ZS o r)(f:KS (B (z w0)) XN wr p)(ZR:SI w0 hb s0 s1 p making b n i g j)(hX:LExt (B (z wr)) L n):SB w0 hb s0 s1 W making y p u t b n i g j x ZS o r:=by
 refine⟨ZR,bI h.r6 λk l=>?_,bI h.r7 λk l=>?_,λm D E e=>?_,(f.ad _ _ _ _ h.kp (by decide) (by decide) (by decide) λh=>h).trans h.kp,(f.ad _ _ _ _ h.kr (by decide) (by decide) (by decide) λh=>h).trans h.kr,h.kx.to f⟩;{obtain⟨_,_,A,q⟩:=af h.r6 k l;exact f.ad _ _ _ _ q (by decide) (by decide) (by decide) λh=>h};{obtain⟨_,_,A,q⟩:=af h.r7 k l;exact f.ad _ _ _ _ q (by decide) (by decide) (by decide) λh=>h};{rcases hX.sn m D E with ⟨m0,C,s,G⟩|h1;{exact h.ap m0 C s (by rw[G];exact e)};{have h2:=h1 _ e;have h3:=(af h.r7 o rfl).2.1;omega}}
theorem SB.R{s:ZB}{r:List aB}{q:List Lk}{l:Nat}{p:Array ZB}(h:SB w0 hb s0 s1 W making s wr r q made L md or st g x n l)(f:wr.heap[b]?=T (J p t (0,0)))(o:t≠9/\t≠198/\t≠117/\t≠201)(hB:B (z w0)<=B (z W))(hb1:B (z W)+2<=b)(m:b≠g)(j:Nat)(u:ZB):SB w0 hb s0 s1 W making s (wr.setCell (N b j Z) u) r q made L md or st g x n l/\(wr.setCell (N b j Z) u).heap[b]?=T (J (p.setIfInBounds j u) t (0,0)):=by refine⟨⟨h.si.R f o (by omega) j u,ay h.r6 (λe=>m (IT e).symm) _ _,ay h.r7 (λe=>?_) _ _,h.ap,(qh _ _ _ _ (show (B (z W))≠b by omega)).trans h.kp,(qh _ _ _ _ (show (B (z W))+1≠b by omega)).trans h.kr,h.kx.trans (KS.setCell (X:=λi=>i=b) _ (by omega) (Or.inl rfl) u) λi hi y=>by have e2:i=b:=y;omega⟩,au f u⟩;obtain⟨_,_,cs2,ZS⟩:=af h.r7 b e;exact o.2.2.2 (ah f ZS)
theorem Bi{S:Spc}{x:Ent}(h:EG S x):∃g m l j f,cI x=⟨g,m,[]⟩/\hZ x=⟨l,j,f⟩/\(ft S x.e=ZA/\g=4/\l=ZA/\j=0/\f=⟨#[]⟩∨ft S x.e=ZF/\l=ZF/\j=g/\f=m):=by
 unfold cI hZ ft;rw[gR,gR];rcases h.H with ⟨b,_,_,i,hi,_⟩|⟨b,o,p,_,n,h1⟩|⟨b,_,h1⟩
 {exact⟨x.E,x.y,ZF,x.E,x.y,by rw[eT (by omega)],by simp[b],.inr ⟨by rw[hi];rfl,rfl,rfl,rfl⟩⟩};{exact⟨4,x.e,ZA,0,⟨#[]⟩,by rw[nL b],by simp[b,o,p],.inl ⟨by rw[n,h1];rfl,rfl,rfl,rfl,rfl⟩⟩};{exact⟨x.E,x.y,ZF,x.E,x.y,by rw[eT (by omega)],by simp[b],.inr ⟨by rw[h1];simp,rfl,rfl,rfl⟩⟩}
end
section
variable {w0:M}{S:Spc}{a0 a1:Option Addr}{c0 c1 hb:Nat}{making:List ByteArray}
theorem Bj (C:nC w0 S a0 a1)(n:Nat)(HK:lL w0 S hb (Y a0 S.n0 c0) (Y a1 S.n1 c1) n)(ZS:List Ent)(L0:List SM)(FZ FO FX:ZB)(w:M)(a:Option Addr)(cap tg:Nat)(Hk:making.length+n=60)(h:SI w0 hb (Y a0 S.n0 c0) (Y a1 S.n1 c1) w making ZS L0 FZ FO FX)(hrel:eK L0 making ZS)(hp:PG S making ZS)(FM:ec S making ZS 201)(GM:MT S making)(FP:tg<S.n1)(Hi:SlIns w0 a (S.f1 tg).m (S.f1 tg).D):Calls Tryz.prog 184 #[.pointer (T (N hb 0 Z)),ZG #[Y a (S.f1 tg).m cap]] w λe w'=>nG w0 hb (Y a0 S.n0 c0) (Y a1 S.n1 c1) making L0 w e w' (bU S (aQ S n making) tg 201 ZS [] []):=by
 obtain⟨i6,GO,GI,Hj,GW⟩:=jF xk;obtain⟨i7,GS,He,GL,GU⟩:=jF Bc;obtain⟨hok,hc1,F0⟩:=bM (C.ok.D tg FP);obtain⟨O,ZQ,rfl,GV⟩:∃O ZQ,a=T (N O ZQ Z)/\RowIns w0 O ZQ (S.f1 tg).m (S.f1 tg).D:=by
  rcases Hi with h|⟨b,off,e,hr⟩
  {omega};{exact⟨b,off,e,hr⟩}
 have Hs:=ae GV;have CC:=ae C;have Hp:=ae HK;have mv:B (z w0)<=B (z w):=h.lt;have Hr:=ae (Bf C.ok FP);obtain⟨R0,Gt⟩:∃R0,R0=bU S (aQ S n making) tg 201 ZS [] []:=⟨_,rfl⟩
 rw[<-Gt];have Hv:=ae Gt;have A2:=ae (((BS w).alloc ly (J #[Y (T (N O ZQ Z)) (S.f1 tg).m cap] 43)).alloc (by simp) (J #[Q I 0,U ⟨#[]⟩,Y Z 0 0] 39));have z2:((w.alloc (J #[Y (T (N O ZQ Z)) (S.f1 tg).m cap] 43)).alloc (J #[Q I 0,U ⟨#[]⟩,Y Z 0 0] 39)).heap.size=B (z w)+2:=by simp
 have kp:Hid (((w.alloc (J #[Y (T (N O ZQ Z)) (S.f1 tg).m cap] 43)).alloc (J #[Q I 0,U ⟨#[]⟩,Y Z 0 0] 39)).heap[B (z w)]?=T (J #[Y (T (N O ZQ Z)) (S.f1 tg).m cap] 43 (0,0))) :=
  (((cM (B (z w)+1) _).alloc (by simp) _).block (B (z w)) (by omega)).trans (gM w _)
 have kr:Hid (((w.alloc (J #[Y (T (N O ZQ Z)) (S.f1 tg).m cap] 43)).alloc (J #[Q I 0,U ⟨#[]⟩,Y Z 0 0] 39)).heap[B (z w)+1]?=T (J #[Q I 0,U ⟨#[]⟩,Y Z 0 0] 39 (0,0))):=by have h2:=gM (w.alloc (J #[Y (T (N O ZQ Z)) (S.f1 tg).m cap] 43)) (J #[Q I 0,U ⟨#[]⟩,Y Z 0 0] 39);rw[show(w.alloc (J #[Y (T (N O ZQ Z)) (S.f1 tg).m cap] 43)).heap.size=B (z w)+1 by simp] at h2;exact h2
 have F3:=ae (h.aa A2 ly);have Ha:=ae hrel;have Hd:=ae hp;have GK:=ae FM;have Ho:=ae GM;clear h C HK GV Hi Gt hrel hp FM GM;go_enter func184,ntmps184;go_upto_region 1 with fail;generalize World.alloc (World.alloc w _) _=W2 at A2 z2 kp kr F3 ⊢;have hzW2:B (z w)+2<=B (z W2):=by omega
 clear z2;have A3:=ae ((BS W2).alloc ly (J #[] 166));have O6:=ae (me W2 166 3);go_upto_region 2 with fail;generalize World.alloc W2 _=W3 at A3 O6 ⊢;have A4:=ae ((BS W3).alloc ly (J #[] 201));have O7:=ae (me W3 201 3);go_wp2_with fail;generalize World.alloc W3 _=W4 at A4 O7 ⊢;have ro:=ae (A3.trans (A4.mono A3.size));have AW:=ae (A2.trans (ro.mono A2.size));have hw32:B (z W2)<=B (z W3):=A3.size;have Gy:Hid (SB w0 hb (Y a0 S.n0 c0) (Y a1 S.n1 c1) w making (Y (T (N O ZQ Z)) (S.f1 tg).m cap) W4 [] [] ZS L0 FZ FO FX (B (z W2)) 0 (B (z W3)) 0):=by refine⟨F3.aa ro ly,aC (own_below O6 A4 ly) (by omega),aC O7 (by omega),λm hm hd e=>?_,(ro.block _ (by omega)).trans kp,(ro.block _ (by omega)).trans kr,KS.q AW ly mv⟩;have:=(af (F3.V m hm hd) _ e).2.1;omega
 have Gz:Hid (SR w0 S hb (Y a0 S.n0 c0) (Y a1 S.n1 c1) w n making tg (Y (T (N O ZQ Z)) (S.f1 tg).m cap) L0 R0 W4 [] [] ZS L0 FZ FO FX (B (z W2)) 0 (B (z W3)) 0) :=
  ⟨Gy,Ha,Hd,lG S ZS,GK,Hv.symm,IH _,LExt.refl _ _⟩
 clear Gy O6 O7 A3 A4 A2 ro AW F3 Ha Hd GK kp kr;go_loopg [6,7] 202 (λg v6 v7 wr=>∃f G made L md or st g6 c6 g7 c7,v6=Y (T (N g6 0 Z)) (List.length (α:=aB) f) c6/\v7=Y (T (N g7 0 Z)) (List.length (α:=Lk) G) c7/\Hid (SR w0 S hb (Y a0 S.n0 c0) (Y a1 S.n1 c1) w n making tg (Y (T (N O ZQ Z)) (S.f1 tg).m cap) L0 R0 wr f G made L md or st g6 c6 g7 c7)/\201 - f.length<=g);case atStart=>exact⟨[],[],ZS,L0,FZ,FO,FX,_,_,_,_,rfl,rfl,Gz,by simp⟩
 case round =>
  clear Gz;obtain⟨f,G,made,L,md,or,st,g6,c6,g7,c7,rfl,rfl,u,hg⟩:=hrel;have k0:wr.cell? (N (B (z w)) 0 Z)=T (Y (T (N O ZQ Z)) (S.f1 tg).m cap):=by simp[World.cell?,u.sb.kp]
  have hkl:=ag u.sb.kp;have hy:=u.le;have Hb:G.length=f.length:=u.rg.len;obtain⟨ZL,hT⟩:∃ZL,ZL=dt S tg f:=⟨_,rfl⟩
  have HT:=ae hT;have Hh:=ae Hb;clear hT Hb;go_wp2_with fail;refine(lC O ZQ (S.f1 tg).m cap g6 0 f.length c6 (S.f1 tg).D (yL f) wr (by omega) (Hs.aa u.sb.si.X ly) (DX u.sb.r6) Hr).mono ?_;rintro e ZO ⟨he,R⟩;rw[yN CC.ok FP u.rg.good u.le,<-HT.out] at he;subst he;have Id:=ae (u.sb.aa R ly);have Gc:=ae (sR CC.ok FP u.rg.good);rw[<-HT.out] at Gc;clear R k0;obtain⟨over,code,text,ask,name,steps⟩:=ZL;simp only[Turn.v];have A5:=ae ((BS ZO).alloc ly (J #[ZC over,Q I code,U text,ZC ask,U name,Q I steps] 163));have kt:Hid (TBx (ZO.alloc (J #[ZC over,Q I code,U text,ZC ask,U name,Q I steps] 163)) (B (z ZO)) over code text ask name steps):=gM _ _;obtain⟨t0,t1,t2,t3,t4⟩:=kt.cells;have o:=ae (Id.aa A5 ly);cases over with
  |true =>
   have Hy:Hid (R0=.inl (made,(⟨ZF,code,text,ask,name,steps⟩,G))):=by show _=_;rw[<-u.run,show 201 - f.length=(200 - f.length)+1 by omega,bU,<-HT.out,nL rfl]
   obtain⟨rl,r0,r1,r2,rf⟩:=bw o.kr;obtain⟨GN,GA,GT⟩:=al3 rf;clear rf;go_wp2_with fail;generalize World.alloc ZO _=W5 at A5 kt o r0 r1 r2 GN GA GT rl t0 t1 t2 t3 t4 ⊢;refine bp (v:=.tuple #[ZG #[Q I code,U text,Y Z 0 0],Y (T (N g7 0 Z)) G.length c7]) (by simp[results,results184,go_sem,r0,r1,r2]) rfl ?_;have V:B (z w0)<=B (z w)+1:=by omega
   have x0:=o.si.R o.kr ⟨by decide,by decide,by decide,by decide⟩ V 0 (Q I code);have y0:=au o.kr (j:=0) (Q I code);have x1:=x0.R y0 ⟨by decide,by decide,by decide,by decide⟩ V 1 (U text);have y1:=au y0 (j:=1) (U text);have x2:=x1.R y1 ⟨by decide,by decide,by decide,by decide⟩ V 2 (Y Z 0 0);have At:g7≠B (z w)+1:=λe=>by obtain⟨_,_,cs,hc⟩:=af o.r7 g7 rfl;exact absurd (ah (e ▸ hc) o.kr) (by decide)
   rw[Hy.out];refine⟨L,md,or,st,g7,c7,rfl,x2,u.rel,ay (ay (ay o.r7 (λe=>At (IT e)) _ _) (λe=>At (IT e)) _ _) (λe=>At (IT e)) _ _,o.ap,u.ext,?_⟩;refine((o.kx.trans (KS.setCell (X:=λi=>i=B (z w)+1) W5 V (Or.inl rfl) (Q I code)) ?_).trans (KS.setCell (X:=λi=>i=B (z w)+1) _ V (Or.inl rfl) (U text)) ?_).trans (KS.setCell (X:=λi=>i=B (z w)+1) _ V (Or.inl rfl) (Y Z 0 0)) ?_;all_goals
    intro i hi h;have e2:i=B (z w)+1:=h;omega
  |false =>
   have hyl:f.length<200:=by
    rcases Gc.out with h|h;{exact absurd h.1 (by simp)};{exact h.2.1}
   have HN:Hid (aA name=ZF):=by
    rcases Gc.out with h|h;{exact absurd h.1 (by simp)};{exact h.2.2}
   cases ask with
   |false =>
    have A:=u.run;rw[show 201 - f.length=(200 - f.length)+1 by omega,bU,<-HT.out,eT (by simp),nL rfl] at A;obtain⟨H,DQ⟩:∃H,H=ft S name:=⟨_,rfl⟩
    have Gx:=ae DQ;simp only at A;rw[<-DQ] at A;have NX:=ae A;clear A DQ;go_wp2_with fail;clear t0 t1 t2 t3 t4;generalize World.alloc ZO _=W5 at A5 kt o ⊢;obtain⟨ZK,b0,b1,-⟩:=o.si.ab.K;refine(nF CC W5 name o.si.X ZK b0 b1).mono ?_;rintro e ZP ⟨he,R⟩;rw[<-Gx.out] at he;subst he;have E:=ae (o.aa R ly);have aq:Hid (TBx ZP (B (z ZO)) ZA code text ZA name steps):=(R.block _ (ag kt)).trans kt;clear R b0 b1 ZK;have q:=ae ((BS ZP).alloc ly (J #[ZC H,Q I 0,U ⟨#[]⟩] 166));have RA:=ae (own_below E.r6 q ly);have Gb:B (z w)<=B (z ZP):=E.kx.aa.size
    go_upto_region 9 with (first
     |(at_builtin;refine bG _ rfl (.tmp 32) (.tmp 35) 161 rfl (B (z w)) 166 i6 (ZG #[ZC ZA,Q I 0,U ⟨#[]⟩]) 3 32 TP GO GI Hj GW rfl (by decide) (Y (T (N g6 0 Z)) f.length c6) f.length (kl f) (by simp[Act.eval]) RA.out (N (B (z ZP)) 0 Z) 1 1 [ZC H,Q I 0,U ⟨#[]⟩] (by simp[Act.eval]) rfl (iC ZP _ _ _ _) (by simp[Value.oneCell']) (by unfold maxLen;omega) (by omega) (by simp<;>omega) ?_;intro v3 s bt P th;have O3:=ae bt;have G3:=ae P;clear bt P th)
     |fail)
    have n9:Hid (∀(k:Nat) (cs:Array ZB) (t:ZH) (fz:Nat × Nat),(ZP.alloc (J #[ZC H,Q I 0,U ⟨#[]⟩] 166)).heap[k]?=T (Obj.cells cs t fz)->t≠166->s.heap[k]?=(ZP.alloc (J #[ZC H,Q I 0,U ⟨#[]⟩] 166)).heap[k]?):=λk cs t fz hk ht=>G3.block k (ag hk) λe=>by obtain⟨_,_,Hq,F0⟩:=af RA k e.symm;exact ht (ah hk F0)
    have sm:Hid (TBx s (B (z ZO)) ZA code text ZA name steps):=by have h0:=(q.block _ (ag aq)).trans aq;exact(n9 _ _ _ _ h0 (by decide)).trans h0
    have Ga:Hid (s.ownsRow (B (z w)) 201 3 (Y (T (N g7 0 Z)) G.length c7) G.length (dJ G)):=bI (own_below E.r7 q ly) λk hk=>by obtain⟨_,_,cs,hc⟩:=af (own_below E.r7 q ly) k hk;exact n9 _ _ _ _ hc (by decide)
    obtain⟨-,-,-,-,n4⟩:=sm.cells;have H7:=ag sm.out;have A7:=ae ((BS s).alloc ly (J #[U name,ZC ZA,ZC H] 201));have RS:=ae (own_below Ga A7 ly);have Ia:B (z w)<=B (z s):=nD (nD Gb (by simp<;>omega)) G3.size;have DS:=Hh.out;obtain⟨K,ZI⟩:∃K,K=G.length:=⟨_,rfl⟩
    have Gw:K<=200:=by omega
    have Gs:=ae ZI;rw[<-ZI] at RS ⊢;clear DS ZI
    go_wp2_with (first
     |(at_builtin;refine bG _ rfl (.tmp 37) (.tmp 42) 196 rfl (B (z w)) 201 i7 (ZG #[U ⟨#[]⟩,ZC ZA,ZC ZA]) 3 24 underlying196 GS He GL GU rfl (by decide) (Y (T (N g7 0 Z)) K c7) K (dJ G) (by simp[Act.eval]) RS.out (N (B (z s)) 0 Z) 1 1 [U name,ZC ZA,ZC H] (by simp[Act.eval]) rfl (iC s _ _ _ _) (by simp[Value.oneCell']) (by unfold maxLen;omega) (by omega) (by simp<;>omega) ?_;intro v4 w4 ex ZM fd;have O4:=ae ex;have G4:=ae ZM;have Gf:=ae fd;clear ex ZM fd)
     |fail)
    obtain⟨Gu,F9,Gp,Gq,e6,e7,Ge⟩:=E.more (r:=⟨H,0,⟨#[]⟩⟩) (l:=⟨name,ZA,H⟩) mv q O3 G3 A7 (by rw[<-Gs.out];exact O4) G4 Gf;have D:(f++[(⟨H,0,⟨#[]⟩⟩:aB)]).length=f.length+1:=by simp
    have Gv:Hid (SR w0 S hb (Y a0 S.n0 c0) (Y a1 S.n1 c1) w n making tg (Y (T (N O ZQ Z)) (S.f1 tg).m cap) L0 R0 w4 (f++[⟨H,0,⟨#[]⟩⟩]) (G++[⟨name,ZA,H⟩]) made L md or st Gu F9 Gp Gq) :=
     ⟨Ge,u.rel,u.pg,(u.rg.add (by rw[Gx.out];exact pq _ _) HN (λh=>by cases h)),(by rw[D,show 201 - (f.length+1)=200 - f.length by omega];exact(by have:=u.room;unfold ec at this ⊢;omega)),(by rw[D,show 201 - (f.length+1)=200 - f.length by omega];exact NX),(by rw[D];omega),u.ext⟩
    obtain⟨g,rfl⟩:∃g,gk=g+1:=⟨gk - 1,by omega⟩
    go_roundg g;case measure=>omega
    case rel=>exact⟨_,_,_,_,_,_,_,_,_,_,_,e6,e7,Gv,by rw[D];omega⟩
   |true =>
    have A:=u.run;rw[show 201 - f.length=(200 - f.length)+1 by omega,bU,<-HT.out,eT (by simp),eT (by simp)] at A;simp only at A;go_wp2_with fail;clear t0 t1 t2 t3 t4;generalize World.alloc ZO _=W5 at A5 kt o ⊢;refine(Hp making made L md or st W5 name Hk o.si u.rel u.pg (by have:=u.room;unfold ec at this ⊢;omega) Ho HN).mono ?_;intro e ZP ZN;have HQ:(∃ZR x,aQ S n making made name=.inl (ZR,x))∨∃(r:iO) (va:Option Addr) (vn vk:Nat),e=ZD (ig r (Y va vn vk))/\gS w0 hb ZP r (Y va vn vk)/\KS (B (z w0)) XN W5 ZP/\Hid (∀vs w',gS w0 hb w' r (Y va vn vk)->KS (B (z w0)) XN w w'->nG w0 hb (Y a0 S.n0 c0) (Y a1 S.n1 c1) making L0 w (ZD (.tuple #[ig r (Y va vn vk),vs])) w' R0):=by
     rcases hr:aQ S n making made name with ⟨ZR,x⟩|c|d;{exact .inl ⟨_,_,rfl⟩};all_goals
      rw[hr] at ZN A;dsimp only at A;subst A
     {obtain⟨ca,ck,rfl,hd,hK⟩:=ZN;exact .inr ⟨_,_,_,_,rfl,hd,hK,λvs w' h1 h2=>⟨ca,ck,vs,rfl,h1,h2⟩⟩};{obtain⟨rfl,hd,hK⟩:=ZN;exact .inr ⟨_,_,_,_,rfl,hd,hK,λvs w' h1 h2=>⟨vs,rfl,h1,h2⟩⟩}
    rcases HQ with ⟨ZR,x,hr⟩|⟨r,va,vn,vk,rfl,⟨q0,q1,qm,qo,qs,FW,G8⟩,hK,fin⟩
    ·rw[hr] at ZN A;dsimp only at A;obtain⟨L2,Ie,H6,Hz,rfl,GQ,Gn,Gl,hK⟩:=ZN;obtain⟨FV,⟨more,FQ⟩,hx,F8⟩:=ey CC.ok n making made name ZR x u.pg HN hr;have FK:=fS S n making made name ZR x hr;have Gk:∀y∈made,y∈ZR:=λy hy=>by rw[FQ];exact KE _ hy
     have Gm:=ae (o.step hK GQ Gl);have Hu:=ae Gn;have Hm:=ae FV;have GE:Hid (RG S ZR (f++[hZ x]) (G++[⟨name,ZF,ZA⟩])):=(u.rg.mono Gk).add (pr (FV.ao x hx)) HN (λ_=>⟨x,hx,F8⟩);have Ib:Hid (ec S making ZR (200 - f.length)):=by have:=u.room;unfold ec at this ⊢;unfold eV at FK;show _<=_;omega
     have Ic:=ae (u.ext.trans Gl o.kx.aa.size);have DE:Hid (TBx ZP (B (z ZO)) ZA code text ZF name steps):=(hK.ad _ _ _ _ kt (by decide) (by decide) (by decide) λh=>h).trans kt;have NX:=ae A;obtain⟨rc,rt,ob,oc,ot,Hf,GY,Hc⟩:=Bi (FV.ao x hx);rw[GY] at GE NX;have hz25:B (z W5)<=B (z ZP):=hK.aa.size;have hg65:g6<B (z W5):=(af o.r6 g6 rfl).2.1;have hw25:B (z w)+2<=B (z W5):=ag o.kr;rw[F8] at Hc;simp only[Hf];clear GQ Gn Gl hK FV FQ hx F8 FK Gk hr A Hf GY;obtain⟨W6,Fd⟩:∃W:M,ZP.alloc (J #[Q I rc,U rt,Y Z 0 0] 39)=W:=⟨_,rfl⟩
     obtain⟨q,Hg,-⟩:=nb1 Fd;have Gj:=ae Fd;clear Fd;obtain⟨ZK,-,-,-,-,-,-,-,-,b8,-⟩:=Gm.si.ab.K;have d8:=(q.cell (p:=(N hb 8 Z)) ZK).trans b8;obtain⟨rl,r0,r1,-,-⟩:=bw Hg;go_upto_region 13 with fail;clear d8 b8;rw[Gj.out];clear Gj;obtain⟨W8,Fm⟩:∃W:M,W6.alloc (J #[ZC ZF,Q I rc,U rt] 166)=W:=⟨_,rfl⟩
     obtain⟨A7,ky,-⟩:=nb1 Fm;have F7:=ae Fm;clear Fm;go_upto_region 14 with fail;rw[F7.out];clear F7;have GF:=ae (q.trans (A7.mono q.size));have ph:=ae (Gm.aa GF ly);have qr:Hid (TBx W8 (B (z ZO)) ZA code text ZF name steps):=(GF.block _ (ag DE)).trans DE;have r7:=(A7.cell (p:=(N (B (z ZP)) 0 Z)) rl).trans r0;have Bk:B (z ZP)<B (z W8):=lj rl A7.size;obtain⟨-,-,-,-,tn⟩:=qr.cells;have ld:=ag qr.out;obtain⟨ZJ,GC⟩:∃ZJ,ZJ=B (z W6):=⟨_,rfl⟩
     rw[<-GC] at ky ⊢;have CD:B (z w)+2<=ZJ:=by have:=q.size;omega
     have Fk:ZJ≠g6:=by have:=q.size;omega
     clear GC Gm DE A7 q Hg r0 r1;obtain⟨n8,b0,b1,-⟩:=ph.si.ab.K;rcases Hc with ⟨Gh,e4,e3⟩|⟨Gh,e3⟩
     case' inr=>by_cases h4:rc=4
     all_goals
      have GH:=ae Gh;have E3:=ae e3;clear Gh e3
     case' inl =>
      subst e4;go_wp2_with fail;refine(nF CC W8 name ph.si.X n8 b0 b1).mono ?_;rintro e s ⟨he,R⟩;rw[GH.out] at he;subst he;have Hn:=ae (ph.aa R ly);have GJ:Hid (TBx s (B (z ZO)) ZA code text ZF name steps):=(R.block _ ld).trans qr;have FU:=(R.block _ (ag ky)).trans ky;obtain⟨yl,y0,y1,y2,yf⟩:=bw FU;obtain⟨Hw,Ht,Hx⟩:=al3 yf;have x0:=Hn.R FU ⟨by decide,by decide,by decide,by decide⟩ mv CD Fk 0 (ZC ZA);have x1:=x0.1.R x0.2 ⟨by decide,by decide,by decide,by decide⟩ mv CD Fk 1 (Q I 0);have x2:=x1.1.R x1.2 ⟨by decide,by decide,by decide,by decide⟩ mv CD Fk 2 (U ⟨#[]⟩);have E:=ae x2.1;have Gg:B (z ZO)≠ZJ:=λe=>absurd (ah (show s.heap[B (z ZO)]?=_ from GJ.out) (e ▸ FU)) (by decide);have aq:Hid (TBx (((s.setCell (N ZJ 0 Z) (ZC ZA)).setCell (N ZJ 1 Z) (Q I 0)).setCell (N ZJ 2 Z) (U ⟨#[]⟩)) (B (z ZO)) ZA code text ZF name steps):=(qh _ _ _ _ Gg).trans ((qh _ _ _ _ Gg).trans ((qh _ _ _ _ Gg).trans GJ));have KY:Hid ((((s.setCell (N ZJ 0 Z) (ZC ZA)).setCell (N ZJ 1 Z) (Q I 0)).setCell (N ZJ 2 Z) (U ⟨#[]⟩)).heap[ZJ]?=T (J #[ZC ob,Q I oc,U ot] 166 (0,0))):=by rw[E3.1,E3.2.1,E3.2.2];exact x2.2
      clear x0 x1 x2 R tn b0 b1 n8 r7 Bk ld rl FU;go_upto_region 16 with fail;clear y0 y1 y2 Hw Ht Hx yl;generalize World.setCell (World.setCell (World.setCell s _ _) _ _) _ _=W8 at E KY aq ⊢
     case' pos =>
      subst h4;go_wp2_with fail;refine(nF CC W8 name ph.si.X n8 b0 b1).mono ?_;rintro e s ⟨he,R⟩;rw[GH.out] at he;subst he;have E:=ae (ph.aa R ly);have aq:Hid (TBx s (B (z ZO)) ZA code text ZF name steps):=(R.block _ ld).trans qr;have KY:Hid (s.heap[ZJ]?=T (J #[ZC ob,Q I oc,U ot] 166 (0,0))):=by rw[E3.1,E3.2.1,E3.2.2];exact(R.block _ (ag ky)).trans ky
      clear R tn b0 b1 n8 r7 Bk ld rl;go_upto_region 16 with fail;generalize s=W8 at E KY aq ⊢
     case' neg =>
      have h4b:(rc == 4)=ZA:=by simpa using h4
      have E:=ph;have aq:=qr;have KY:Hid (W8.heap[ZJ]?=T (J #[ZC ob,Q I oc,U ot] 166 (0,0))):=by rw[E3.1,E3.2.1,E3.2.2];exact ky
      go_upto_region 16 with fail;clear tn b0 b1 n8 r7 Bk ld rl
     all_goals
      obtain⟨yl,y0,y1,y2,-⟩:=bw KY;have q:=ae ((BS W8).alloc ly (J #[ZC ob,Q I oc,U ot] 166));have RA:=ae (own_below E.r6 q ly);have Gb:B (z w)<=B (z W8):=E.kx.aa.size
      go_upto_region 17 with (first
       |(at_builtin;refine bG _ rfl (.tmp 73) (.tmp 75) 161 rfl (B (z w)) 166 i6 (ZG #[ZC ZA,Q I 0,U ⟨#[]⟩]) 3 32 TP GO GI Hj GW rfl (by decide) (Y (T (N g6 0 Z)) f.length c6) f.length (kl f) (by simp[Act.eval]) RA.out (N (B (z W8)) 0 Z) 1 1 [ZC ob,Q I oc,U ot] (by simp[Act.eval]) rfl (iC W8 _ _ _ _) (by simp[Value.oneCell']) (by unfold maxLen;omega) (by omega) (by simp<;>omega) ?_;intro v3 s bt P th;have O3:=ae bt;have G3:=ae P;clear bt P th)
       |fail)
      have n9:Hid (∀(k:Nat) (cs:Array ZB) (t:ZH) (fz:Nat × Nat),(W8.alloc (J #[ZC ob,Q I oc,U ot] 166)).heap[k]?=T (Obj.cells cs t fz)->t≠166->s.heap[k]?=(W8.alloc (J #[ZC ob,Q I oc,U ot] 166)).heap[k]?):=λk cs t fz hk ht=>G3.block k (ag hk) λe=>by obtain⟨_,_,Hq,F0⟩:=af RA k e.symm;exact ht (ah hk F0)
      have sm:Hid (TBx s (B (z ZO)) ZA code text ZF name steps):=by have h0:=(q.block _ (ag aq)).trans aq;exact(n9 _ _ _ _ h0 (by decide)).trans h0
      have Ga:Hid (s.ownsRow (B (z w)) 201 3 (Y (T (N g7 0 Z)) G.length c7) G.length (dJ G)):=bI (own_below E.r7 q ly) λk hk=>by obtain⟨_,_,cs,hc⟩:=af (own_below E.r7 q ly) k hk;exact n9 _ _ _ _ hc (by decide)
      obtain⟨-,-,-,-,n4⟩:=sm.cells;have H7:=ag sm.out;have A7:=ae ((BS s).alloc ly (J #[U name,ZC ZF,ZC ZA] 201));have RS:=ae (own_below Ga A7 ly);have Ia:B (z w)<=B (z s):=nD (nD Gb (by simp<;>omega)) G3.size;have DS:=Hh.out;obtain⟨K,ZI⟩:∃K,K=G.length:=⟨_,rfl⟩
      have Gw:K<=200:=by omega
      have Gs:=ae ZI;rw[<-ZI] at RS ⊢;clear DS ZI
      go_wp2_with (first
       |(at_builtin;refine bG _ rfl (.tmp 77) (.tmp 81) 196 rfl (B (z w)) 201 i7 (ZG #[U ⟨#[]⟩,ZC ZA,ZC ZA]) 3 24 underlying196 GS He GL GU rfl (by decide) (Y (T (N g7 0 Z)) K c7) K (dJ G) (by simp[Act.eval]) RS.out (N (B (z s)) 0 Z) 1 1 [U name,ZC ZF,ZC ZA] (by simp[Act.eval]) rfl (iC s _ _ _ _) (by simp[Value.oneCell']) (by unfold maxLen;omega) (by omega) (by simp<;>omega) ?_;intro v4 w4 ex ZM fd;have O4:=ae ex;have G4:=ae ZM;have Gf:=ae fd;clear ex ZM fd)
       |fail)
      obtain⟨Gu,F9,Gp,Gq,e6,e7,Ge⟩:=E.more (r:=⟨ob,oc,ot⟩) (l:=⟨name,ZF,ZA⟩) mv q O3 G3 A7 (by rw[<-Gs.out];exact O4) G4 Gf;have D:(f++[(⟨ob,oc,ot⟩:aB)]).length=f.length+1:=by simp
      have Gv:Hid (SR w0 S hb (Y a0 S.n0 c0) (Y a1 S.n1 c1) w n making tg (Y (T (N O ZQ Z)) (S.f1 tg).m cap) L0 R0 w4 (f++[⟨ob,oc,ot⟩]) (G++[⟨name,ZF,ZA⟩]) ZR L2 Ie H6 Hz Gu F9 Gp Gq) :=
       ⟨Ge,Hu,Hm,GE,(by rw[D,show 201 - (f.length+1)=200 - f.length by omega];exact Ib),(by rw[D,show 201 - (f.length+1)=200 - f.length by omega];exact NX),(by rw[D];omega),Ic⟩
      obtain⟨g,rfl⟩:∃g,gk=g+1:=⟨gk - 1,by omega⟩
      go_roundg g;case measure=>omega
      case rel=>exact⟨_,_,_,_,_,_,_,_,_,_,_,e6,e7,Gv,by rw[D];omega⟩
    ·clear ZN A;obtain⟨ZK,-,-,-,-,-,b5,b6,b7,b8,-⟩:=FW.K;have FY:=(hK.ad _ _ _ _ o.kr (by decide) (by decide) (by decide) λh=>h).trans o.kr;have KW:=ae (o.kx.to hK);have H8:=ae FW;have GP:=ae G8;have q:=ae ((BS ZP).alloc ly (J #[Q I r.E,U r.y,Y va vn vk] 39));have Gr:=(q.block _ (ag FY)).trans FY;obtain⟨rl,r0,r1,r2,rf⟩:=bw Gr;have d5:=(q.cell (p:=(N hb 5 Z)) ZK).trans b5;have d6:=(q.cell (p:=(N hb 6 Z)) ZK).trans b6;have d7:=(q.cell (p:=(N hb 7 Z)) ZK).trans b7;have d8:=(q.cell (p:=(N hb 8 Z)) ZK).trans b8;obtain⟨GN,GA,GT⟩:=al3 rf;have ur:hb≠B (z w)+1:=λe=>absurd (ah (e ▸ FW) FY) (by decide);have H9:=ae Gr;clear rf FW G8 hK b5 b6 b7 b8 FY Gr;simp only[ig];go_wp2_with fail;refine bp (v:=.tuple #[ig r (Y va vn vk),Y (T (N g7 0 Z)) G.length c7]) (by simp[results,results184,go_sem,r0,r1,r2,ig]) rfl ?_;have V:B (z w0)<=B (z w)+1:=by omega
     have Hl:∀(W:M) (v0 v1 v2:ZB),(((W.setCell (N (B (z w)+1) 0 Z) v0).setCell (N (B (z w)+1) 1 Z) v1).setCell (N (B (z w)+1) 2 Z) v2).heap[hb]?=W.heap[hb]?:=λW v0 v1 v2=>(qh _ _ _ _ ur).trans ((qh _ _ _ _ ur).trans (qh _ _ _ _ ur));have Gi:∀k,(Value.slice va vn vk).ownBlock=T k->k≠B (z w)+1:=λk hk e=>by obtain⟨_,_,cs,hc⟩:=af (own_below GP q ly) k hk;exact absurd (ah (e ▸ hc) H9) (by decide)
     refine fin (Y (T (N g7 0 Z)) G.length c7) _ ⟨q0,q1,qm,qo,qs,(Hl _ _ _ _).trans ((q.block _ ZK).trans H8),ay (ay (ay (own_below GP q ly) (λe=>Gi _ e rfl) _ _) (λe=>Gi _ e rfl) _ _) (λe=>Gi _ e rfl) _ _⟩ ?_;refine((((KW.to (KS.q q ly (nD mv KW.aa.size))).trans (KS.setCell (X:=λi=>i=B (z w)+1) _ V (Or.inl rfl) _) ?_).trans (KS.setCell (X:=λi=>i=B (z w)+1) _ V (Or.inl rfl) _) ?_).trans (KS.setCell (X:=λi=>i=B (z w)+1) _ V (Or.inl rfl) _) ?_);all_goals
      intro i hi h;have e2:i=B (z w)+1:=h;omega
end
