import Derived.Test.YtpmnbjkjpnclaaaGreatDoorPB
import Derived.Test.YtpmnbjkjpnclaaaGreatDoorQO
import Derived.Deep.Cut
set_option maxRecDepth 1000000
set_option maxHeartbeats 8000000
open Go renaming Addr.mk->Q,Value.slice->Z,Value.string->U,Value.int->N,Value.bool->ZD,Value.agg->ZH,Obj.cells->J,IntKind.i64->I,World->M,Value->ZC,TypeId->ZI,Ending.returned->ZF
open Option renaming none->Y,some->T
open Bool renaming false->ZA,true->ZG
namespace Go.Proofs.YtpmnbjkjpnclaaaGreatDoor.Vp
open Tryz RowKit
variable {W wr w:M}{b g n size o s:Nat}{t e:ZI}{f:ZC}
structure SB (w0:M)(hb:Nat)(s0 s1:ZC)(w:M)(making:List ByteArray)(pv:ZC)(wr:M)(ys:List aI)(ls:List Lk)(made:List Ent)(L:List SM)(md or st:ZC)(g6 c6 g7 c7:Nat):Prop where
 si:SI w0 hb s0 s1 wr making made L md or st
 r6:wr.ownsRow w.heap.size 166 3 (Z (T (Q g6 0 Y)) ys.length c6) ys.length (mG ys)
 r7:wr.ownsRow w.heap.size 201 3 (Z (T (Q g7 0 Y)) ls.length c7) ls.length (eG ls)
 ap:∀m∈L,m.done=ZG->m.sv.ownBlock≠T g7
 kp:wr.heap[w.heap.size]?=T (J #[pv] 43 (0,0))
 kr:wr.heap[w.heap.size+1]?=T (J #[N I 0,U ⟨#[]⟩,Z Y 0 0] 39 (0,0))
 kx:KS w0.heap.size XN w wr
structure SR (w0:M)(S:Spc)(hb:Nat)(s0 s1:ZC)(w:M)(n:Nat)(making:List ByteArray)(tg:Nat)(pv:ZC)(L0:List SM)(R0:Out (Turn × List Lk))(wr:M)(ys:List aI)(ls:List Lk)(made:List Ent)(L:List SM)(md or st:ZC)(g6 c6 g7 c7:Nat):Prop where
 sb:SB w0 hb s0 s1 w making pv wr ys ls made L md or st g6 c6 g7 c7
 rel:fH L making made
 pg:PG S making made
 rg:RG S made ys ls
 room:fj S making made (201 - ys.length)
 run:dR S (bC S n making) tg (201 - ys.length) made ys ls=R0
 le:ys.length<=200
 ext:LExt w.heap.size L0 L
def TBx (w:M)(g:Nat)(over:Bool)(code:Int)(text:ByteArray)(ask:Bool)(name:ByteArray)(steps:Int):Prop:=w.heap[g]?=T (J #[ZD over,N I code,U text,ZD ask,U name,N I steps] 163 (0,0))
theorem TBx.cells{over:Bool}{code:Int}{text:ByteArray}{ask:Bool}{name:ByteArray}{steps:Int}(h:TBx w g over code text ask name steps):w.cell? (Q g 0 Y)=T (ZD over)/\w.cell? (Q g 1 Y)=T (N I code)/\w.cell? (Q g 2 Y)=T (U text)/\w.cell? (Q g 3 Y)=T (ZD ask)/\w.cell? (Q g 4 Y)=T (U name):=by unfold TBx at h;refine⟨?_,?_,?_,?_,?_⟩;all_goals simp[World.cell?,h]
def pC (w0:M)(hb:Nat)(s0 s1:ZC)(making:List ByteArray)(L:List SM)(w:M)(e:Ending)(w':M):Out (Turn × List Lk)->Prop
 |.inl (made',x)=>∃b i h f g c,e=ZF (.tuple #[ZH #[N I x.1.E,U x.1.B,Z Y 0 0],Z (T (Q g 0 Y)) x.2.length c])/\SI w0 hb s0 s1 w' making made' b i h f/\fH b making made'/\w'.ownsRow w.heap.size 201 3 (Z (T (Q g 0 Y)) x.2.length c) x.2.length (eG x.2)/\(∀m∈b,m.done=ZG->m.sv.ownBlock≠T g)/\LExt w.heap.size L b/\KS w0.heap.size XN w w'
 |.inr (.inl c)=>∃a k sv,e=ZF (.tuple #[js (jB c) (Z a c.length k),sv])/\ji w0 hb w' (jB c) (Z a c.length k)/\KS w0.heap.size XN w w'
 |.inr (.inr d)=>∃sv,e=ZF (.tuple #[js (jC d) (Z Y 0 0),sv])/\ji w0 hb w' (jC d) (Z Y 0 0)/\KS w0.heap.size XN w w'
theorem jD (w:M)(b g f:ZC)(t:ZI):∀j u,[b,g,f][j]?=T u->(w.alloc (J #[b,g,f] t)).cell? (((Q w.heap.size 0 Y):Addr).add j)=T u:=by
 intro j u h;rw[addr_add];have hj:j<3:=by
  rcases PR j 3 with c|c;{exact c};{rw[OT (by simp;omega)] at h;cases h}
 rcases(show j=0∨j=1∨j=2 by omega) with rfl|rfl|rfl;all_goals
  simp at h;subst h;simp
theorem bv{c g:ZC}(h:w.heap[b]?=T (J #[c,g,f] t (0,0))):b<w.heap.size/\w.cell? (Q b 0 Y)=T c/\w.cell? (Q b 1 Y)=T g/\w.cell? (Q b 2 Y)=T f/\∀j,w.frozen? (Q b j Y)=ZA:=by refine⟨ai h,?_,?_,?_,λj=>?_⟩;all_goals simp[World.cell?,World.frozen?,h]
section
variable {w0 w w':M}{hb:Nat}{s0 s1 md or st:ZC}{making:List ByteArray}{made:List Ent}{L:List SM}
theorem SI.grown{v:ZC}{B:List ZC}(h:SI w0 hb s0 s1 w making made L md or st)(b:w.grownBy w' v.ownBlock)(D:w.ownsRow g e size v n B)(hB:w0.heap.size<=g)(q:e≠9/\e≠198/\e≠117)(E:∀m∈L,m.done=ZG->∀k,v.ownBlock=T k->m.sv.ownBlock≠T k):SI w0 hb s0 s1 w' making made L md or st:=by
 have y:=aj D;have r:∀(i:Nat) (o:Array ZC) (t:ZI) (fz:Nat × Nat),w.heap[i]?=T (Obj.cells o t fz)->t≠e->w'.heap[i]?=w.heap[i]?:=λi o t fz hi j=>b.block i (ai hi) λl=>by obtain⟨_,_,cs2,p⟩:=y i l.symm;exact j (ar hi p)
 have c:∀{size n:Nat} {t:ZI} {u:ZC} {z:List ZC},w.ownsRow w0.heap.size t size u n z->t≠e->w'.ownsRow w0.heap.size t size u n z:=λA j=>dw A λk f=>by obtain⟨_,_,o,p⟩:=aj A k f;exact r _ _ _ _ p j
 refine⟨h.aq.trans ⟨b.os,b.tape,b.output,b.size,λk f=>b.block k (lj f h.lt) λl=>?_⟩,h.hbB,h.ab.ad (r _ _ _ _ h.ab q.2.2.symm),c h.W q.2.1.symm,c h.ror q.1.symm,c h.rst q.1.symm,h.apart,λm s x=>dw (h.c m s x) λk f=>?_⟩;{have:=(y k l.symm).1;omega};{obtain⟨_,C,o,p⟩:=aj (h.c m s x) k f;exact b.block k C λl=>E m s x k l.symm f}
theorem KS.grow{v:ZC}{l:List ZC}{B:Nat}(h:KS B XN W w)(m:w.grownBy w' v.ownBlock)(g:w.ownsRow b e size v n l)(p:W.heap.size<=b)(f:B<=W.heap.size):KS B XN W w' :=
 h.trans (ZK:=λi=>v.ownBlock=T i) (KS.of_grown m (p7 f h.aa.size) λj c=>⟨p7 (p7 f p) (aj g j c).1,.inl c⟩) λi hi o=>by have:=(aj g i o).1;omega
theorem SB.aa{f:M}{m:ZC}{l:List aI}{g:List Lk}{j i C:Nat}(h:SB w0 hb s0 s1 W making m wr l g made L md or st o j n i)(b:Below C wr f)(c:wr.heap.size<=C):SB w0 hb s0 s1 W making m f l g made L md or st o j n i :=
 ⟨h.si.aa b c,own_below h.r6 b c,own_below h.r7 b c,h.ap,(b.block _ (lj (ai h.kp) c)).trans h.kp,(b.block _ (lj (ai h.kr) c)).trans h.kr,h.kx.to (KS.u b c h.si.lt)⟩
theorem SB.more{R ZP A F ZM:M}{pv v3 ZR:ZC}{f:List aI}{c:List Lk}{x P ZQ:Nat}{r:aI}{l:Lk}(h:SB w0 hb s0 s1 W making pv R f c made L md or st x P g ZQ)(K:w0.heap.size<=W.heap.size)
  (b3:Below R.heap.size R ZP) (ZN:A.ownsRow W.heap.size 166 3 v3 (f.length+1) (mG f++[ZD r.has,N I r.E,U r.B])) (E:ZP.grownBy A (T x))
  (n:Below A.heap.size A F) (ZK:ZM.ownsRow W.heap.size 201 3 ZR (c.length+1) (eG c++[U l.e,ZD l.ask,ZD l.has])) (H:F.grownBy ZM (T g)) (B:ZR.ownBlock=T g∨ZR.ownBlock=T F.heap.size) :
  ∃q s b p,v3=Z (T (Q q 0 Y)) (f++[r]).length s/\ZR=Z (T (Q b 0 Y)) (c++[l]).length p/\SB w0 hb s0 s1 W making pv ZM (f++[r]) (c++[l]) made L md or st q s b p:=by
 have h3:=h.aa b3 ly;have ZJ:W.heap.size<ZP.heap.size:=ai h3.kp;have bt:W.heap.size+1<ZP.heap.size:=ai h3.kr;have aq:=aj h3.r6 x rfl;obtain⟨hg6,hg6l,cs6,i⟩:=aq
 have ZL:=h3.si.grown (v:=Z (T (Q x 0 Y)) f.length P) E h3.r6 K ⟨by decide,by decide,by decide⟩ (λm u y k o e=>by
  cases o
  obtain⟨_,_,V,C⟩:=aj (h3.si.c m u y) x e
  exact absurd (ar i C) (by decide))
 have k3:=KS.grow (v:=Z (T (Q x 0 Y)) f.length P) h3.kx E h3.r6 ly K;have dg:A.ownsRow W.heap.size 201 3 (Z (T (Q g 0 Y)) c.length ZQ) c.length (eG c):=dw h3.r7 λk o=>by obtain⟨_,S,V,C⟩:=aj h3.r7 k o;exact E.block k S λe=>by cases e;exact absurd (ar i C) (by decide)
 have O:=(E.block W.heap.size ZJ λe=>by cases e;exact absurd (ar i h3.kp) (by decide)).trans h3.kp;have ZO:=(E.block (W.heap.size+1) bt λe=>by have t:=BC e;exact absurd (ar i (t ▸ h3.kr)) (by decide)).trans h3.kr;obtain⟨q,s,cu6,rfl,-⟩:=ZN.2.resolve_left (λh=>by omega);have s4:=ZL.aa n ly;have z:=own_below dg n ly;obtain⟨hg7,hg7l,cs7,j⟩:=aj z g rfl;have G:=(n.block W.heap.size (ai O)).trans O;have D:=(n.block (W.heap.size+1) (ai ZO)).trans ZO;have s5:=s4.grown (v:=Z (T (Q g 0 Y)) c.length ZQ) H z K ⟨by decide,by decide,by decide⟩ (λm u y k o e=>by cases o;exact h.ap m u y e);have k5:=KS.grow (v:=Z (T (Q g 0 Y)) c.length ZQ) (k3.to (KS.u n ly ZL.lt)) H z ly K;obtain⟨b,p,cu7,rfl,-⟩:=ZK.2.resolve_left (λh=>by omega);have X:(f++[r]).length=f.length+1:=by simp
 have e7:(c++[l]).length=c.length+1:=by simp
 refine⟨q,s,b,p,by rw[X],by rw[e7],s5,?_,?_,λm u y e=>?_,?_,?_,k5⟩;{rw[X,FP];refine dw (own_below ZN n ly) λk o=>?_;obtain⟨_,S,V,C⟩:=aj (own_below ZN n ly) k o;exact H.block k S λe=>by cases e;exact absurd (ar j C) (by decide)};{rw[e7,Dc];exact ZK};{rcases B with B|B;{have t:b=g:=BC (show T b=T g from B);exact h.ap m u y (t ▸ e)};{have t:b=F.heap.size:=BC (show T b=T F.heap.size from B);have:=(aj (s4.c m u y) _ e).2.1;omega}};{exact(H.block W.heap.size (ai G) λe=>by cases e;exact absurd (ar j G) (by decide)).trans G};{exact(H.block (W.heap.size+1) (ai D) λe=>by have t:=BC e;exact absurd (ar j (t ▸ D)) (by decide)).trans D}
theorem SI.X{r:Array ZC}{fz:Nat × Nat}(h:SI w0 hb s0 s1 w making made L md or st)(g:w.heap[b]?=T (J r t fz))(f:t≠9/\t≠198/\t≠117/\t≠201)(x:w0.heap.size<=b)(j:Nat)(u:ZC):SI w0 hb s0 s1 (w.setCell (Q b j Y) u) making made L md or st:=by
 have c:∀{size n:Nat} {i:ZI} {l:ZC} {p:List ZC},w.ownsRow w0.heap.size i size l n p->t≠i->(w.setCell (Q b j Y) u).ownsRow w0.heap.size i size l n p:=λq o=>aA q (λe=>by
  obtain⟨_,_,cs2,z⟩:=aj q b e
  exact o (ar g z)) _ _
 refine⟨h.aq.setCell x u,h.hbB,h.ab.ad (qh _ _ _ _ λe=>?_),c h.W f.2.1,c h.ror f.1,c h.rst f.1,h.apart,λm s y=>c (h.c m s y) f.2.2.2⟩;simp at e;subst e;exact f.2.2.1 (ar g h.ab)
theorem SB.step{l:M}{t i g:ZC}{x:List aI}{q:List Lk}{u r:Nat}{b:List Ent}{j:List SM}(h:SB w0 hb s0 s1 W making t wr x q made L md or st u r o s)(c:KS w0.heap.size XN wr l)(E:SI w0 hb s0 s1 l making b j f i g)(hX:LExt wr.heap.size L j):SB w0 hb s0 s1 W making t l x q b j f i g u r o s:=by
 refine⟨E,dw h.r6 λk n=>?_,dw h.r7 λk n=>?_,λm C D e=>?_,(c.ad _ _ _ _ h.kp (by decide) (by decide) (by decide) λh=>h).trans h.kp,(c.ad _ _ _ _ h.kr (by decide) (by decide) (by decide) λh=>h).trans h.kr,h.kx.to c⟩;{obtain⟨_,_,B,p⟩:=aj h.r6 k n;exact c.ad _ _ _ _ p (by decide) (by decide) (by decide) λh=>h};{obtain⟨_,_,B,p⟩:=aj h.r7 k n;exact c.ad _ _ _ _ p (by decide) (by decide) (by decide) λh=>h};{rcases hX.sn m C D with ⟨m0,z,y,A⟩|h1;{exact h.ap m0 z y (by rw[A];exact e)};{have h2:=h1 _ e;have h3:=(aj h.r7 o rfl).2.1;omega}}
theorem SB.X{n:ZC}{q:List aI}{g:List Lk}{f m l:Nat}{o:Array ZC}(h:SB w0 hb s0 s1 W making n wr q g made L md or st f m s l)(c:wr.heap[b]?=T (J o t (0,0)))(p:t≠9/\t≠198/\t≠117/\t≠201)(hB:w0.heap.size<=W.heap.size)(hb1:W.heap.size+2<=b)(r:b≠f)(j:Nat)(u:ZC):SB w0 hb s0 s1 W making n (wr.setCell (Q b j Y) u) q g made L md or st f m s l/\(wr.setCell (Q b j Y) u).heap[b]?=T (J (o.setIfInBounds j u) t (0,0)):=by refine⟨⟨h.si.X c p (by omega) j u,aA h.r6 (λe=>r (BC e).symm) _ _,aA h.r7 (λe=>?_) _ _,h.ap,(qh _ _ _ _ (show W.heap.size≠b by omega)).trans h.kp,(qh _ _ _ _ (show W.heap.size+1≠b by omega)).trans h.kr,h.kx.trans (KS.setCell (X:=λi=>i=b) _ (by omega) (Or.inl rfl) u) λi hi x=>by have e2:i=b:=x;omega⟩,ay c u⟩;obtain⟨_,_,cs2,y⟩:=aj h.r7 b e;exact p.2.2.2 (ar c y)
theorem FU{S:Spc}{x:Ent}(h:EG S x):∃g rt j c f,dS x=⟨g,rt,[]⟩/\nB x=⟨j,c,f⟩/\(kY S x.e=ZA/\g=4/\j=ZA/\c=0/\f=⟨#[]⟩∨kY S x.e=ZG/\j=ZG/\c=g/\f=rt):=by
 unfold dS nB kY;rw[jh,jh];rcases h.m with ⟨b,_,_,i,hi,_⟩|⟨b,m,n,_,l,h1⟩|⟨b,_,h1⟩
 {exact⟨x.E,x.B,ZG,x.E,x.B,by rw[gM (by omega)],by simp[b],.inr ⟨by rw[hi];rfl,rfl,rfl,rfl⟩⟩};{exact⟨4,x.e,ZA,0,⟨#[]⟩,by rw[p6 b],by simp[b,m,n],.inl ⟨by rw[l,h1];rfl,rfl,rfl,rfl,rfl⟩⟩};{exact⟨x.E,x.B,ZG,x.E,x.B,by rw[gM (by omega)],by simp[b],.inr ⟨by rw[h1];simp,rfl,rfl,rfl⟩⟩}
end
section
variable {w0:M}{S:Spc}{a0 a1:Option Addr}{c0 c1 hb:Nat}{making:List ByteArray}
theorem FV (C:pz w0 S a0 a1)(n:Nat)(HK:nH w0 S hb (Z a0 S.n0 c0) (Z a1 S.n1 c1) n)(z:List Ent)(L0:List SM)(Lb Lc Ld:ZC)(w:M)(a:Option Addr)(cap tg:Nat)(MD:making.length+n=60)(h:SI w0 hb (Z a0 S.n0 c0) (Z a1 S.n1 c1) w making z L0 Lb Lc Ld)(hrel:fH L0 making z)(hp:PG S making z)(KV:fj S making z 201)(Ml:MT S making)(JT:tg<S.n1)(Mq:SlIns w0 a (S.f1 tg).f (S.f1 tg).H):Calls Tryz.prog 184 #[.pointer (T (Q hb 0 Y)),ZH #[Z a (S.f1 tg).f cap]] w λe w'=>pC w0 hb (Z a0 S.n0 c0) (Z a1 S.n1 c1) making L0 w e w' (dR S (bC S n making) tg 201 z [] []):=by
 obtain⟨i6,Mj,LV,LJ,LP⟩:=lF Am;obtain⟨i7,Mi,Ms,Mn,Mc⟩:=lF FJ;obtain⟨hok,hc1,Fn⟩:=bP (C.ok.H tg JT);obtain⟨O,ZP,rfl,Mz⟩:∃O ZP,a=T (Q O ZP Y)/\RowIns w0 O ZP (S.f1 tg).f (S.f1 tg).H:=by
  rcases Mq with h|⟨b,off,e,hr⟩
  {omega};{exact⟨b,off,e,hr⟩}
 have ML:=ae Mz;have CC:=ae C;have MQ:=ae HK;have fd:w0.heap.size<=w.heap.size:=h.lt;have ME:=ae (FQ C.ok JT);obtain⟨R0,Ly⟩:∃R0,R0=dR S (bC S n making) tg 201 z [] []:=⟨_,rfl⟩
 rw[<-Ly];have MV:=ae Ly;have A2:=ae (((q9 w).alloc ly (J #[Z (T (Q O ZP Y)) (S.f1 tg).f cap] 43)).alloc (by simp) (J #[N I 0,U ⟨#[]⟩,Z Y 0 0] 39));have z2:((w.alloc (J #[Z (T (Q O ZP Y)) (S.f1 tg).f cap] 43)).alloc (J #[N I 0,U ⟨#[]⟩,Z Y 0 0] 39)).heap.size=w.heap.size+2:=by simp
 have kp:Hid (((w.alloc (J #[Z (T (Q O ZP Y)) (S.f1 tg).f cap] 43)).alloc (J #[N I 0,U ⟨#[]⟩,Z Y 0 0] 39)).heap[w.heap.size]?=T (J #[Z (T (Q O ZP Y)) (S.f1 tg).f cap] 43 (0,0))) :=
  (((dB (w.heap.size+1) _).alloc (by simp) _).block w.heap.size (by omega)).trans (nL w _)
 have kr:Hid (((w.alloc (J #[Z (T (Q O ZP Y)) (S.f1 tg).f cap] 43)).alloc (J #[N I 0,U ⟨#[]⟩,Z Y 0 0] 39)).heap[w.heap.size+1]?=T (J #[N I 0,U ⟨#[]⟩,Z Y 0 0] 39 (0,0))):=by have h2:=nL (w.alloc (J #[Z (T (Q O ZP Y)) (S.f1 tg).f cap] 43)) (J #[N I 0,U ⟨#[]⟩,Z Y 0 0] 39);rw[show(w.alloc (J #[Z (T (Q O ZP Y)) (S.f1 tg).f cap] 43)).heap.size=w.heap.size+1 by simp] at h2;exact h2
 have Le:=ae (h.aa A2 ly);have Mw:=ae hrel;have LX:=ae hp;have Ma:=ae KV;have Na:=ae Ml;clear h C HK Mz Mq Ly hrel hp KV Ml;go_enter func184,ntmps184;go_upto_region 1 with fail;generalize World.alloc (World.alloc w _) _=W2 at A2 z2 kp kr Le ⊢;have hzW2:w.heap.size+2<=W2.heap.size:=by omega
 clear z2;have A3:=ae ((q9 W2).alloc ly (J #[] 166));have O6:=ae (od W2 166 3);go_upto_region 2 with fail;generalize World.alloc W2 _=W3 at A3 O6 ⊢;have A4:=ae ((q9 W3).alloc ly (J #[] 201));have O7:=ae (od W3 201 3);go_wp2_with fail;generalize World.alloc W3 _=W4 at A4 O7 ⊢;have ph:=ae (A3.trans (A4.mono A3.size));have AW:=ae (A2.trans (ph.mono A2.size));have hw32:W2.heap.size<=W3.heap.size:=A3.size;have MA:Hid (SB w0 hb (Z a0 S.n0 c0) (Z a1 S.n1 c1) w making (Z (T (Q O ZP Y)) (S.f1 tg).f cap) W4 [] [] z L0 Lb Lc Ld W2.heap.size 0 W3.heap.size 0):=by refine⟨Le.aa ph ly,aB (own_below O6 A4 ly) (by omega),aB O7 (by omega),λm hm hd e=>?_,(ph.block _ (by omega)).trans kp,(ph.block _ (by omega)).trans kr,KS.u AW ly fd⟩;have:=(aj (Le.c m hm hd) _ e).2.1;omega
 have LZ:Hid (SR w0 S hb (Z a0 S.n0 c0) (Z a1 S.n1 c1) w n making tg (Z (T (Q O ZP Y)) (S.f1 tg).f cap) L0 R0 W4 [] [] z L0 Lb Lc Ld W2.heap.size 0 W3.heap.size 0) :=
  ⟨MA,Mw,LX,vt S z,Ma,MV.symm,E4 _,LExt.refl _ _⟩
 clear MA O6 O7 A3 A4 A2 ph AW Le Mw LX Ma kp kr;go_loopg [6,7] 202 (λg v6 v7 wr=>∃f F made L md or st g6 c6 g7 c7,v6=Z (T (Q g6 0 Y)) (List.length (α:=aI) f) c6/\v7=Z (T (Q g7 0 Y)) (List.length (α:=Lk) F) c7/\Hid (SR w0 S hb (Z a0 S.n0 c0) (Z a1 S.n1 c1) w n making tg (Z (T (Q O ZP Y)) (S.f1 tg).f cap) L0 R0 wr f F made L md or st g6 c6 g7 c7)/\201 - f.length<=g);case atStart=>exact⟨[],[],z,L0,Lb,Lc,Ld,_,_,_,_,rfl,rfl,LZ,by simp⟩
 case round =>
  clear LZ;obtain⟨f,F,made,L,md,or,st,g6,c6,g7,c7,rfl,rfl,s,hg⟩:=hrel;have k0:wr.cell? (Q w.heap.size 0 Y)=T (Z (T (Q O ZP Y)) (S.f1 tg).f cap):=by simp[World.cell?,s.sb.kp]
  have hkl:=ai s.sb.kp;have hy:=s.le;have Mv:F.length=f.length:=s.rg.len;obtain⟨ZM,hT⟩:∃ZM,ZM=eZ S tg f:=⟨_,rfl⟩
  have HT:=ae hT;have Mm:=ae Mv;clear hT Mv;go_wp2_with fail;refine(vq O ZP (S.f1 tg).f cap g6 0 f.length c6 (S.f1 tg).H (yL f) wr (by omega) (ML.aa s.sb.si.aq ly) (IE s.sb.r6) ME).mono ?_;rintro e K ⟨he,ZN⟩;rw[Dj CC.ok JT s.rg.good s.le,<-HT.out] at he;subst he;have MK:=ae (s.sb.aa ZN ly);have LF:=ae (vu CC.ok JT s.rg.good);rw[<-HT.out] at LF;clear ZN k0;obtain⟨over,code,text,ask,name,steps⟩:=ZM;simp only[Turn.v];have A5:=ae ((q9 K).alloc ly (J #[ZD over,N I code,U text,ZD ask,U name,N I steps] 163));have kt:Hid (TBx (K.alloc (J #[ZD over,N I code,U text,ZD ask,U name,N I steps] 163)) K.heap.size over code text ask name steps):=nL _ _;obtain⟨t0,t1,t2,t3,t4⟩:=kt.cells;have o:=ae (MK.aa A5 ly);cases over with
  |true =>
   have MH:Hid (R0=.inl (made,(⟨ZG,code,text,ask,name,steps⟩,F))):=by show _=_;rw[<-s.run,show 201 - f.length=(200 - f.length)+1 by omega,dR,<-HT.out,p6 rfl]
   obtain⟨rl,r0,r1,r2,rf⟩:=bv o.kr;obtain⟨Mp,L9,My⟩:=al3 rf;clear rf;go_wp2_with fail;generalize World.alloc K _=W5 at A5 kt o r0 r1 r2 Mp L9 My rl t0 t1 t2 t3 t4 ⊢;refine bp (v:=.tuple #[ZH #[N I code,U text,Z Y 0 0],Z (T (Q g7 0 Y)) F.length c7]) (by simp[results,results184,go_sem,r0,r1,r2]) rfl ?_;have ZL:w0.heap.size<=w.heap.size+1:=by omega
   have x0:=o.si.X o.kr ⟨by decide,by decide,by decide,by decide⟩ ZL 0 (N I code);have y0:=ay o.kr (j:=0) (N I code);have x1:=x0.X y0 ⟨by decide,by decide,by decide,by decide⟩ ZL 1 (U text);have y1:=ay y0 (j:=1) (U text);have x2:=x1.X y1 ⟨by decide,by decide,by decide,by decide⟩ ZL 2 (Z Y 0 0);have Fk:g7≠w.heap.size+1:=λe=>by obtain⟨_,_,cs,hc⟩:=aj o.r7 g7 rfl;exact absurd (ar (e ▸ hc) o.kr) (by decide)
   rw[MH.out];refine⟨L,md,or,st,g7,c7,rfl,x2,s.rel,aA (aA (aA o.r7 (λe=>Fk (BC e)) _ _) (λe=>Fk (BC e)) _ _) (λe=>Fk (BC e)) _ _,o.ap,s.ext,?_⟩;refine((o.kx.trans (KS.setCell (X:=λi=>i=w.heap.size+1) W5 ZL (Or.inl rfl) (N I code)) ?_).trans (KS.setCell (X:=λi=>i=w.heap.size+1) _ ZL (Or.inl rfl) (U text)) ?_).trans (KS.setCell (X:=λi=>i=w.heap.size+1) _ ZL (Or.inl rfl) (Z Y 0 0)) ?_;all_goals
    intro i hi h;have e2:i=w.heap.size+1:=h;omega
  |false =>
   have hyl:f.length<200:=by
    rcases LF.out with h|h;{exact absurd h.1 (by simp)};{exact h.2.1}
   have HN:Hid (aw name=ZG):=by
    rcases LF.out with h|h;{exact absurd h.1 (by simp)};{exact h.2.2}
   cases ask with
   |false =>
    have A:=s.run;rw[show 201 - f.length=(200 - f.length)+1 by omega,dR,<-HT.out,gM (by simp),p6 rfl] at A;obtain⟨G,DQ⟩:∃G,G=kY S name:=⟨_,rfl⟩
    have Mk:=ae DQ;simp only at A;rw[<-DQ] at A;have NX:=ae A;clear A DQ;go_wp2_with fail;clear t0 t1 t2 t3 t4;generalize World.alloc K _=W5 at A5 kt o ⊢;obtain⟨R,b0,b1,-⟩:=o.si.ab.K;refine(pB CC W5 name o.si.aq R b0 b1).mono ?_;rintro e H ⟨he,ZN⟩;rw[<-Mk.out] at he;subst he;have E:=ae (o.aa ZN ly);have ZK:Hid (TBx H K.heap.size ZA code text ZA name steps):=(ZN.block _ (ai kt)).trans kt;clear ZN b0 b1 R;have q:=ae ((q9 H).alloc ly (J #[ZD G,N I 0,U ⟨#[]⟩] 166));have RA:=ae (own_below E.r6 q ly);have Lz:w.heap.size<=H.heap.size:=E.kx.aa.size
    go_upto_region 9 with (first
     |(at_builtin;refine bD _ rfl (.tmp 32) (.tmp 35) 161 rfl w.heap.size 166 i6 (ZH #[ZD ZA,N I 0,U ⟨#[]⟩]) 3 32 underlying161 Mj LV LJ LP rfl (by decide) (Z (T (Q g6 0 Y)) f.length c6) f.length (mG f) (by simp[Act.eval]) RA.out (Q H.heap.size 0 Y) 1 1 [ZD G,N I 0,U ⟨#[]⟩] (by simp[Act.eval]) rfl (jD H _ _ _ _) (by simp[Value.oneCell']) (by unfold maxLen;omega) (by omega) (by simp<;>omega) ?_;intro v3 u bt ZQ sm;have O3:=ae bt;have G3:=ae ZQ;clear bt ZQ sm)
     |fail)
    have dg:Hid (∀(k:Nat) (cs:Array ZC) (t:ZI) (fz:Nat × Nat),(H.alloc (J #[ZD G,N I 0,U ⟨#[]⟩] 166)).heap[k]?=T (Obj.cells cs t fz)->t≠166->u.heap[k]?=(H.alloc (J #[ZD G,N I 0,U ⟨#[]⟩] 166)).heap[k]?):=λk cs t fz hk ht=>G3.block k (ai hk) λe=>by obtain⟨_,_,MP,Fn⟩:=aj RA k e.symm;exact ht (ar hk Fn)
    have ro:Hid (TBx u K.heap.size ZA code text ZA name steps):=by have h0:=(q.block _ (ai ZK)).trans ZK;exact(dg _ _ _ _ h0 (by decide)).trans h0
    have Ls:Hid (u.ownsRow w.heap.size 201 3 (Z (T (Q g7 0 Y)) F.length c7) F.length (eG F)):=dw (own_below E.r7 q ly) λk hk=>by obtain⟨_,_,cs,hc⟩:=aj (own_below E.r7 q ly) k hk;exact dg _ _ _ _ hc (by decide)
    obtain⟨-,-,-,-,n4⟩:=ro.cells;have MY:=ai ro.out;have A7:=ae ((q9 u).alloc ly (J #[U name,ZD ZA,ZD G] 201));have RS:=ae (own_below Ls A7 ly);have MG:w.heap.size<=u.heap.size:=p7 (p7 Lz (by simp<;>omega)) G3.size;have At:=Mm.out;obtain⟨ZR,V⟩:∃ZR,ZR=F.length:=⟨_,rfl⟩
    have LI:ZR<=200:=by omega
    have Ll:=ae V;rw[<-V] at RS ⊢;clear At V
    go_wp2_with (first
     |(at_builtin;refine bD _ rfl (.tmp 37) (.tmp 42) 196 rfl w.heap.size 201 i7 (ZH #[U ⟨#[]⟩,ZD ZA,ZD ZA]) 3 24 underlying196 Mi Ms Mn Mc rfl (by decide) (Z (T (Q g7 0 Y)) ZR c7) ZR (eG F) (by simp[Act.eval]) RS.out (Q u.heap.size 0 Y) 1 1 [U name,ZD ZA,ZD G] (by simp[Act.eval]) rfl (jD u _ _ _ _) (by simp[Value.oneCell']) (by unfold maxLen;omega) (by omega) (by simp<;>omega) ?_;intro v4 w4 aq ZO ld;have O4:=ae aq;have G4:=ae ZO;have LH:=ae ld;clear aq ZO ld)
     |fail)
    obtain⟨Lt,Lx,Lq,Lh,e6,e7,Lg⟩:=E.more (r:=⟨G,0,⟨#[]⟩⟩) (l:=⟨name,ZA,G⟩) fd q O3 G3 A7 (by rw[<-Ll.out];exact O4) G4 LH;have D:(f++[(⟨G,0,⟨#[]⟩⟩:aI)]).length=f.length+1:=by simp
    have Lj:Hid (SR w0 S hb (Z a0 S.n0 c0) (Z a1 S.n1 c1) w n making tg (Z (T (Q O ZP Y)) (S.f1 tg).f cap) L0 R0 w4 (f++[⟨G,0,⟨#[]⟩⟩]) (F++[⟨name,ZA,G⟩]) made L md or st Lt Lx Lq Lh) :=
     ⟨Lg,s.rel,s.pg,(s.rg.add (by rw[Mk.out];exact yx _ _) HN (λh=>by cases h)),(by rw[D,show 201 - (f.length+1)=200 - f.length by omega];exact(by have:=s.room;unfold fj at this ⊢;omega)),(by rw[D,show 201 - (f.length+1)=200 - f.length by omega];exact NX),(by rw[D];omega),s.ext⟩
    obtain⟨g,rfl⟩:∃g,gk=g+1:=⟨gk - 1,by omega⟩
    go_roundg g;case measure=>omega
    case rel=>exact⟨_,_,_,_,_,_,_,_,_,_,_,e6,e7,Lj,by rw[D];omega⟩
   |true =>
    have A:=s.run;rw[show 201 - f.length=(200 - f.length)+1 by omega,dR,<-HT.out,gM (by simp),gM (by simp)] at A;simp only at A;go_wp2_with fail;clear t0 t1 t2 t3 t4;generalize World.alloc K _=W5 at A5 kt o ⊢;refine(MQ making made L md or st W5 name MD o.si s.rel s.pg (by have:=s.room;unfold fj at this ⊢;omega) Na HN).mono ?_;intro e H P;have HQ:(∃B x,bC S n making made name=.inl (B,x))∨∃(r:kZ) (va:Option Addr) (vn vk:Nat),e=ZF (js r (Z va vn vk))/\ji w0 hb H r (Z va vn vk)/\KS w0.heap.size XN W5 H/\Hid (∀vs w',ji w0 hb w' r (Z va vn vk)->KS w0.heap.size XN w w'->pC w0 hb (Z a0 S.n0 c0) (Z a1 S.n1 c1) making L0 w (ZF (.tuple #[js r (Z va vn vk),vs])) w' R0):=by
     rcases hr:bC S n making made name with ⟨B,x⟩|c|d;{exact .inl ⟨_,_,rfl⟩};all_goals
      rw[hr] at P A;dsimp only at A;subst A
     {obtain⟨ca,ck,rfl,hd,hK⟩:=P;exact .inr ⟨_,_,_,_,rfl,hd,hK,λvs w' h1 h2=>⟨ca,ck,vs,rfl,h1,h2⟩⟩};{obtain⟨rfl,hd,hK⟩:=P;exact .inr ⟨_,_,_,_,rfl,hd,hK,λvs w' h1 h2=>⟨vs,rfl,h1,h2⟩⟩}
    rcases HQ with ⟨B,x,hr⟩|⟨r,va,vn,vk,rfl,⟨q0,q1,qm,qo,qs,GS,Mt⟩,hK,fin⟩
    ·rw[hr] at P A;dsimp only at A;obtain⟨L2,MU,M5,MS,rfl,Mo,Lv,Lp,hK⟩:=P;obtain⟨Fm,⟨more,KZ⟩,hx,Ln⟩:=mC CC.ok n making made name B x s.pg HN hr;have La:=mB S n making made name B x hr;have Lo:∀y∈made,y∈B:=λy hy=>by rw[KZ];exact QJ _ hy
     have Lm:=ae (o.step hK Mo Lp);have MN:=ae Lv;have Nb:=ae Fm;have Mr:Hid (RG S B (f++[nB x]) (F++[⟨name,ZG,ZA⟩])):=(s.rg.mono Lo).add (yy (Fm.ents x hx)) HN (λ_=>⟨x,hx,Ln⟩);have MF:Hid (fj S making B (200 - f.length)):=by have:=s.room;unfold fj at this ⊢;unfold gC at La;show _<=_;omega
     have MZ:=ae (s.ext.trans Lp o.kx.aa.size);have DH:Hid (TBx H K.heap.size ZA code text ZG name steps):=(hK.ad _ _ _ _ kt (by decide) (by decide) (by decide) λh=>h).trans kt;have NX:=ae A;obtain⟨rc,rt,ob,oc,ot,Md,Me,Mg⟩:=FU (Fm.ents x hx);rw[Me] at Mr NX;have hz25:W5.heap.size<=H.heap.size:=hK.aa.size;have hg65:g6<W5.heap.size:=(aj o.r6 g6 rfl).2.1;have hw25:w.heap.size+2<=W5.heap.size:=ai o.kr;rw[Ln] at Mg;simp only[Md];clear Mo Lv Lp hK Fm KZ hx Ln La Lo hr A Md Me;obtain⟨W6,Bk⟩:∃W:M,H.alloc (J #[N I rc,U rt,Z Y 0 0] 39)=W:=⟨_,rfl⟩
     obtain⟨q,Mh,-⟩:=nb1 Bk;have Lu:=ae Bk;clear Bk;obtain⟨R,-,-,-,-,-,-,-,-,b8,-⟩:=Lm.si.ab.K;have d8:=(q.cell (p:=(Q hb 8 Y)) R).trans b8;obtain⟨rl,r0,r1,-,-⟩:=bv Mh;go_upto_region 13 with fail;clear d8 b8;rw[Lu.out];clear Lu;obtain⟨W8,DE⟩:∃W:M,W6.alloc (J #[ZD ZG,N I rc,U rt] 166)=W:=⟨_,rfl⟩
     obtain⟨A7,ky,-⟩:=nb1 DE;have LG:=ae DE;clear DE;go_upto_region 14 with fail;rw[LG.out];clear LG;have Mf:=ae (q.trans (A7.mono q.size));have n9:=ae (Lm.aa Mf ly);have qr:Hid (TBx W8 K.heap.size ZA code text ZG name steps):=(Mf.block _ (ai DH)).trans DH;have r7:=(A7.cell (p:=(Q H.heap.size 0 Y)) rl).trans r0;have ur:H.heap.size<W8.heap.size:=lj rl A7.size;obtain⟨-,-,-,-,tn⟩:=qr.cells;have la:=ai qr.out;obtain⟨ZJ,Mx⟩:∃ZJ,ZJ=W6.heap.size:=⟨_,rfl⟩
     rw[<-Mx] at ky ⊢;have th:w.heap.size+2<=ZJ:=by have:=q.size;omega
     have DS:ZJ≠g6:=by have:=q.size;omega
     clear Mx Lm DH A7 q Mh r0 r1;obtain⟨mv,b0,b1,-⟩:=n9.si.ab.K;rcases Mg with ⟨Li,e4,e3⟩|⟨Li,e3⟩
     case' inr=>by_cases h4:rc=4
     all_goals
      have Mb:=ae Li;have E3:=ae e3;clear Li e3
     case' inl =>
      subst e4;go_wp2_with fail;refine(pB CC W8 name n9.si.aq mv b0 b1).mono ?_;rintro e u ⟨he,ZN⟩;rw[Mb.out] at he;subst he;have MO:=ae (n9.aa ZN ly);have LU:Hid (TBx u K.heap.size ZA code text ZG name steps):=(ZN.block _ la).trans qr;have Hx:=(ZN.block _ (ai ky)).trans ky;obtain⟨yl,y0,y1,y2,yf⟩:=bv Hx;obtain⟨MX,MW,MJ⟩:=al3 yf;have x0:=MO.X Hx ⟨by decide,by decide,by decide,by decide⟩ fd th DS 0 (ZD ZA);have x1:=x0.1.X x0.2 ⟨by decide,by decide,by decide,by decide⟩ fd th DS 1 (N I 0);have x2:=x1.1.X x1.2 ⟨by decide,by decide,by decide,by decide⟩ fd th DS 2 (U ⟨#[]⟩);have E:=ae x2.1;have Lf:K.heap.size≠ZJ:=λe=>absurd (ar (show u.heap[K.heap.size]?=_ from LU.out) (e ▸ Hx)) (by decide);have ZK:Hid (TBx (((u.setCell (Q ZJ 0 Y) (ZD ZA)).setCell (Q ZJ 1 Y) (N I 0)).setCell (Q ZJ 2 Y) (U ⟨#[]⟩)) K.heap.size ZA code text ZG name steps):=(qh _ _ _ _ Lf).trans ((qh _ _ _ _ Lf).trans ((qh _ _ _ _ Lf).trans LU));have KY:Hid ((((u.setCell (Q ZJ 0 Y) (ZD ZA)).setCell (Q ZJ 1 Y) (N I 0)).setCell (Q ZJ 2 Y) (U ⟨#[]⟩)).heap[ZJ]?=T (J #[ZD ob,N I oc,U ot] 166 (0,0))):=by rw[E3.1,E3.2.1,E3.2.2];exact x2.2
      clear x0 x1 x2 ZN tn b0 b1 mv r7 ur la rl Hx;go_upto_region 16 with fail;clear y0 y1 y2 MX MW MJ yl;generalize World.setCell (World.setCell (World.setCell u _ _) _ _) _ _=W8 at E KY ZK ⊢
     case' pos =>
      subst h4;go_wp2_with fail;refine(pB CC W8 name n9.si.aq mv b0 b1).mono ?_;rintro e u ⟨he,ZN⟩;rw[Mb.out] at he;subst he;have E:=ae (n9.aa ZN ly);have ZK:Hid (TBx u K.heap.size ZA code text ZG name steps):=(ZN.block _ la).trans qr;have KY:Hid (u.heap[ZJ]?=T (J #[ZD ob,N I oc,U ot] 166 (0,0))):=by rw[E3.1,E3.2.1,E3.2.2];exact(ZN.block _ (ai ky)).trans ky
      clear ZN tn b0 b1 mv r7 ur la rl;go_upto_region 16 with fail;generalize u=W8 at E KY ZK ⊢
     case' neg =>
      have h4b:(rc == 4)=ZA:=by simpa using h4
      have E:=n9;have ZK:=qr;have KY:Hid (W8.heap[ZJ]?=T (J #[ZD ob,N I oc,U ot] 166 (0,0))):=by rw[E3.1,E3.2.1,E3.2.2];exact ky
      go_upto_region 16 with fail;clear tn b0 b1 mv r7 ur la rl
     all_goals
      obtain⟨yl,y0,y1,y2,-⟩:=bv KY;have q:=ae ((q9 W8).alloc ly (J #[ZD ob,N I oc,U ot] 166));have RA:=ae (own_below E.r6 q ly);have Lz:w.heap.size<=W8.heap.size:=E.kx.aa.size
      go_upto_region 17 with (first
       |(at_builtin;refine bD _ rfl (.tmp 73) (.tmp 75) 161 rfl w.heap.size 166 i6 (ZH #[ZD ZA,N I 0,U ⟨#[]⟩]) 3 32 underlying161 Mj LV LJ LP rfl (by decide) (Z (T (Q g6 0 Y)) f.length c6) f.length (mG f) (by simp[Act.eval]) RA.out (Q W8.heap.size 0 Y) 1 1 [ZD ob,N I oc,U ot] (by simp[Act.eval]) rfl (jD W8 _ _ _ _) (by simp[Value.oneCell']) (by unfold maxLen;omega) (by omega) (by simp<;>omega) ?_;intro v3 u bt ZQ sm;have O3:=ae bt;have G3:=ae ZQ;clear bt ZQ sm)
       |fail)
      have dg:Hid (∀(k:Nat) (cs:Array ZC) (t:ZI) (fz:Nat × Nat),(W8.alloc (J #[ZD ob,N I oc,U ot] 166)).heap[k]?=T (Obj.cells cs t fz)->t≠166->u.heap[k]?=(W8.alloc (J #[ZD ob,N I oc,U ot] 166)).heap[k]?):=λk cs t fz hk ht=>G3.block k (ai hk) λe=>by obtain⟨_,_,MP,Fn⟩:=aj RA k e.symm;exact ht (ar hk Fn)
      have ro:Hid (TBx u K.heap.size ZA code text ZG name steps):=by have h0:=(q.block _ (ai ZK)).trans ZK;exact(dg _ _ _ _ h0 (by decide)).trans h0
      have Ls:Hid (u.ownsRow w.heap.size 201 3 (Z (T (Q g7 0 Y)) F.length c7) F.length (eG F)):=dw (own_below E.r7 q ly) λk hk=>by obtain⟨_,_,cs,hc⟩:=aj (own_below E.r7 q ly) k hk;exact dg _ _ _ _ hc (by decide)
      obtain⟨-,-,-,-,n4⟩:=ro.cells;have MY:=ai ro.out;have A7:=ae ((q9 u).alloc ly (J #[U name,ZD ZG,ZD ZA] 201));have RS:=ae (own_below Ls A7 ly);have MG:w.heap.size<=u.heap.size:=p7 (p7 Lz (by simp<;>omega)) G3.size;have At:=Mm.out;obtain⟨ZR,V⟩:∃ZR,ZR=F.length:=⟨_,rfl⟩
      have LI:ZR<=200:=by omega
      have Ll:=ae V;rw[<-V] at RS ⊢;clear At V
      go_wp2_with (first
       |(at_builtin;refine bD _ rfl (.tmp 77) (.tmp 81) 196 rfl w.heap.size 201 i7 (ZH #[U ⟨#[]⟩,ZD ZA,ZD ZA]) 3 24 underlying196 Mi Ms Mn Mc rfl (by decide) (Z (T (Q g7 0 Y)) ZR c7) ZR (eG F) (by simp[Act.eval]) RS.out (Q u.heap.size 0 Y) 1 1 [U name,ZD ZG,ZD ZA] (by simp[Act.eval]) rfl (jD u _ _ _ _) (by simp[Value.oneCell']) (by unfold maxLen;omega) (by omega) (by simp<;>omega) ?_;intro v4 w4 aq ZO ld;have O4:=ae aq;have G4:=ae ZO;have LH:=ae ld;clear aq ZO ld)
       |fail)
      obtain⟨Lt,Lx,Lq,Lh,e6,e7,Lg⟩:=E.more (r:=⟨ob,oc,ot⟩) (l:=⟨name,ZG,ZA⟩) fd q O3 G3 A7 (by rw[<-Ll.out];exact O4) G4 LH;have D:(f++[(⟨ob,oc,ot⟩:aI)]).length=f.length+1:=by simp
      have Lj:Hid (SR w0 S hb (Z a0 S.n0 c0) (Z a1 S.n1 c1) w n making tg (Z (T (Q O ZP Y)) (S.f1 tg).f cap) L0 R0 w4 (f++[⟨ob,oc,ot⟩]) (F++[⟨name,ZG,ZA⟩]) B L2 MU M5 MS Lt Lx Lq Lh) :=
       ⟨Lg,MN,Nb,Mr,(by rw[D,show 201 - (f.length+1)=200 - f.length by omega];exact MF),(by rw[D,show 201 - (f.length+1)=200 - f.length by omega];exact NX),(by rw[D];omega),MZ⟩
      obtain⟨g,rfl⟩:∃g,gk=g+1:=⟨gk - 1,by omega⟩
      go_roundg g;case measure=>omega
      case rel=>exact⟨_,_,_,_,_,_,_,_,_,_,_,e6,e7,Lj,by rw[D];omega⟩
    ·clear P A;obtain⟨R,-,-,-,-,-,b5,b6,b7,b8,-⟩:=GS.K;have Id:=(hK.ad _ _ _ _ o.kr (by decide) (by decide) (by decide) λh=>h).trans o.kr;have KW:=ae (o.kx.to hK);have MM:=ae GS;have LQ:=ae Mt;have q:=ae ((q9 H).alloc ly (J #[N I r.E,U r.B,Z va vn vk] 39));have Lr:=(q.block _ (ai Id)).trans Id;obtain⟨rl,r0,r1,r2,rf⟩:=bv Lr;have d5:=(q.cell (p:=(Q hb 5 Y)) R).trans b5;have d6:=(q.cell (p:=(Q hb 6 Y)) R).trans b6;have d7:=(q.cell (p:=(Q hb 7 Y)) R).trans b7;have d8:=(q.cell (p:=(Q hb 8 Y)) R).trans b8;obtain⟨Mp,L9,My⟩:=al3 rf;have Fd:hb≠w.heap.size+1:=λe=>absurd (ar (e ▸ GS) Id) (by decide);have MR:=ae Lr;clear rf GS Mt hK b5 b6 b7 b8 Id Lr;simp only[js];go_wp2_with fail;refine bp (v:=.tuple #[js r (Z va vn vk),Z (T (Q g7 0 Y)) F.length c7]) (by simp[results,results184,go_sem,r0,r1,r2,js]) rfl ?_;have ZL:w0.heap.size<=w.heap.size+1:=by omega
     have MC:∀(W:M) (v0 v1 v2:ZC),(((W.setCell (Q (w.heap.size+1) 0 Y) v0).setCell (Q (w.heap.size+1) 1 Y) v1).setCell (Q (w.heap.size+1) 2 Y) v2).heap[hb]?=W.heap[hb]?:=λW v0 v1 v2=>(qh _ _ _ _ Fd).trans ((qh _ _ _ _ Fd).trans (qh _ _ _ _ Fd));have Lw:∀k,(Value.slice va vn vk).ownBlock=T k->k≠w.heap.size+1:=λk hk e=>by obtain⟨_,_,cs,hc⟩:=aj (own_below LQ q ly) k hk;exact absurd (ar (e ▸ hc) MR) (by decide)
     refine fin (Z (T (Q g7 0 Y)) F.length c7) _ ⟨q0,q1,qm,qo,qs,(MC _ _ _ _).trans ((q.block _ R).trans MM),aA (aA (aA (own_below LQ q ly) (λe=>Lw _ e rfl) _ _) (λe=>Lw _ e rfl) _ _) (λe=>Lw _ e rfl) _ _⟩ ?_;refine((((KW.to (KS.u q ly (p7 fd KW.aa.size))).trans (KS.setCell (X:=λi=>i=w.heap.size+1) _ ZL (Or.inl rfl) _) ?_).trans (KS.setCell (X:=λi=>i=w.heap.size+1) _ ZL (Or.inl rfl) _) ?_).trans (KS.setCell (X:=λi=>i=w.heap.size+1) _ ZL (Or.inl rfl) _) ?_);all_goals
      intro i hi h;have e2:i=w.heap.size+1:=h;omega
end
