import Derived.Test.YtpmnbjkjpnclaaaGreatDoorPB
import Derived.Test.YtpmnbjkjpnclaaaGreatDoorQO
import Derived.Deep.Cut
set_option maxRecDepth 1000000
set_option maxHeartbeats 8000000
open Go renaming Addr.mk->Q,Value.slice->Z,Value.string->Y,Value.int->J,Value.bool->ZD,Obj.cells->N,IntKind.i64->I,World->M,Value->ZC,TypeId->ZH,Ending.returned->ZF
open Option renaming none->U,some->T
open Bool renaming false->ZA,true->ZG
namespace Go.Proofs.YtpmnbjkjpnclaaaGreatDoor.Vp
open Tryz RowKit
variable {W wr w:M}{b n j size:Nat}{g f:ZC}{t e:ZH}
structure SB (w0:M)(hb:Nat)(s0 s1:ZC)(w:M)(making:List ByteArray)(pv:ZC)(wr:M)(ys:List aK)(ls:List Lk)(made:List Ent)(L:List SM)(md or st:ZC)(g6 c6 g7 c7:Nat):Prop where
 si:SI w0 hb s0 s1 wr making made L md or st
 r6:wr.ownsRow w.heap.size 166 3 (Z (T (Q g6 0 U)) ys.length c6) ys.length (mD ys)
 r7:wr.ownsRow w.heap.size 201 3 (Z (T (Q g7 0 U)) ls.length c7) ls.length (eF ls)
 ap:∀m∈L,m.done=ZG->m.sv.ownBlock≠T g7
 kp:wr.heap[w.heap.size]?=T (N #[pv] 43 (0,0))
 kr:wr.heap[w.heap.size+1]?=T (N #[J I 0,Y ⟨#[]⟩,Z U 0 0] 39 (0,0))
 kx:KS w0.heap.size XN w wr
structure SR (w0:M)(S:Spc)(hb:Nat)(s0 s1:ZC)(w:M)(n:Nat)(making:List ByteArray)(tg:Nat)(pv:ZC)(L0:List SM)(R0:Out (Turn × List Lk))(wr:M)(ys:List aK)(ls:List Lk)(made:List Ent)(L:List SM)(md or st:ZC)(g6 c6 g7 c7:Nat):Prop where
 sb:SB w0 hb s0 s1 w making pv wr ys ls made L md or st g6 c6 g7 c7
 rel:fG L making made
 pg:PG S making made
 rg:RG S made ys ls
 room:fi S making made (201 - ys.length)
 run:dW S (bH S n making) tg (201 - ys.length) made ys ls=R0
 le:ys.length<=200
 ext:LExt w.heap.size L0 L
def TBx (w:M)(g:Nat)(over:Bool)(code:Int)(text:ByteArray)(ask:Bool)(name:ByteArray)(steps:Int):Prop:=w.heap[g]?=T (N #[ZD over,J I code,Y text,ZD ask,Y name,J I steps] 163 (0,0))
theorem TBx.cells{g:Nat}{over:Bool}{code:Int}{text:ByteArray}{ask:Bool}{name:ByteArray}{steps:Int}(h:TBx w g over code text ask name steps):w.cell? (Q g 0 U)=T (ZD over)/\w.cell? (Q g 1 U)=T (J I code)/\w.cell? (Q g 2 U)=T (Y text)/\w.cell? (Q g 3 U)=T (ZD ask)/\w.cell? (Q g 4 U)=T (Y name):=by unfold TBx at h;refine⟨?_,?_,?_,?_,?_⟩;all_goals simp[World.cell?,h]
def py (w0:M)(hb:Nat)(s0 s1:ZC)(making:List ByteArray)(L:List SM)(w:M)(e:Ending)(w':M):Out (Turn × List Lk)->Prop
 |.inl (made',x)=>∃b i h f g c,e=ZF (.tuple #[.agg #[J I x.1.E,Y x.1.B,Z U 0 0],Z (T (Q g 0 U)) x.2.length c])/\SI w0 hb s0 s1 w' making made' b i h f/\fG b making made'/\w'.ownsRow w.heap.size 201 3 (Z (T (Q g 0 U)) x.2.length c) x.2.length (eF x.2)/\(∀m∈b,m.done=ZG->m.sv.ownBlock≠T g)/\LExt w.heap.size L b/\KS w0.heap.size XN w w'
 |.inr (.inl c)=>∃a k sv,e=ZF (.tuple #[jr (jA c) (Z a c.length k),sv])/\jh w0 hb w' (jA c) (Z a c.length k)/\KS w0.heap.size XN w w'
 |.inr (.inr d)=>∃sv,e=ZF (.tuple #[jr (jB d) (Z U 0 0),sv])/\jh w0 hb w' (jB d) (Z U 0 0)/\KS w0.heap.size XN w w'
theorem jC (w:M)(c b g:ZC)(t:ZH):∀j u,[c,b,g][j]?=T u->(w.alloc (N #[c,b,g] t)).cell? (((Q w.heap.size 0 U):Addr).add j)=T u:=by
 intro j u h;rw[addr_add];have hj:j<3:=by
  rcases PJ j 3 with f|f;{exact f};{rw[OH (by simp;omega)] at h;cases h}
 rcases(show j=0∨j=1∨j=2 by omega) with rfl|rfl|rfl;all_goals
  simp at h;subst h;simp
theorem bv{c:ZC}(h:w.heap[b]?=T (N #[f,c,g] t (0,0))):b<w.heap.size/\w.cell? (Q b 0 U)=T f/\w.cell? (Q b 1 U)=T c/\w.cell? (Q b 2 U)=T g/\∀j,w.frozen? (Q b j U)=ZA:=by refine⟨ai h,?_,?_,?_,λj=>?_⟩;all_goals simp[World.cell?,World.frozen?,h]
section
variable {w0 w w':M}{hb:Nat}{s0 s1 md or st:ZC}{making:List ByteArray}{made:List Ent}{L:List SM}
theorem SI.grown{v:ZC}{B:List ZC}(h:SI w0 hb s0 s1 w making made L md or st)(b:w.grownBy w' v.ownBlock)(C:w.ownsRow j e size v n B)(hB:w0.heap.size<=j)(o:e≠9/\e≠198/\e≠117)(E:∀m∈L,m.done=ZG->∀k,v.ownBlock=T k->m.sv.ownBlock≠T k):SI w0 hb s0 s1 w' making made L md or st:=by
 have z:=aj C;have r:∀(i:Nat) (q:Array ZC) (t:ZH) (fz:Nat × Nat),w.heap[i]?=T (Obj.cells q t fz)->t≠e->w'.heap[i]?=w.heap[i]?:=λi q t fz hi g=>b.block i (ai hi) λl=>by obtain⟨_,_,cs2,p⟩:=z i l.symm;exact g (ar hi p)
 have c:∀{size n:Nat} {t:ZH} {u:ZC} {A:List ZC},w.ownsRow w0.heap.size t size u n A->t≠e->w'.ownsRow w0.heap.size t size u n A:=λy g=>dv y λk f=>by obtain⟨_,_,q,p⟩:=aj y k f;exact r _ _ _ _ p g
 refine⟨h.ao.trans ⟨b.os,b.tape,b.output,b.size,λk f=>b.block k (lj f h.lt) λl=>?_⟩,h.hbB,h.G.ab (r _ _ _ _ h.G o.2.2.symm),c h.W o.2.1.symm,c h.ror o.1.symm,c h.rst o.1.symm,h.apart,λm x s=>dv (h.c m x s) λk f=>?_⟩;{have:=(z k l.symm).1;omega};{obtain⟨_,D,q,p⟩:=aj (h.c m x s) k f;exact b.block k D λl=>E m x s k l.symm f}
theorem KS.grow{v:ZC}{m:List ZC}{B:Nat}(h:KS B XN W w)(o:w.grownBy w' v.ownBlock)(f:w.ownsRow b e size v n m)(p:W.heap.size<=b)(g:B<=W.heap.size):KS B XN W w' :=
 h.trans (ZK:=λi=>v.ownBlock=T i) (KS.of_grown o (p7 g h.aa.size) λj c=>⟨p7 (p7 g p) (aj f j c).1,.inl c⟩) λi hi l=>by have:=(aj f i l).1;omega
theorem SB.aa{f:M}{l:List aK}{m:List Lk}{o i C:Nat}(h:SB w0 hb s0 s1 W making g wr l m made L md or st o n i j)(b:Below C wr f)(c:wr.heap.size<=C):SB w0 hb s0 s1 W making g f l m made L md or st o n i j :=
 ⟨h.si.aa b c,own_below h.r6 b c,own_below h.r7 b c,h.ap,(b.block _ (lj (ai h.kp) c)).trans h.kp,(b.block _ (lj (ai h.kr) c)).trans h.kr,h.kx.to (KS.u b c h.si.lt)⟩
theorem SB.more{S K D A ZM:M}{X ZI ZN:ZC}{g:List aK}{c:List Lk}{t ZL f ZP:Nat}{r:aK}{l:Lk}(h:SB w0 hb s0 s1 W making X S g c made L md or st t ZL f ZP)(ZQ:w0.heap.size<=W.heap.size)
  (b3:Below S.heap.size S K) (R:D.ownsRow W.heap.size 166 3 ZI (g.length+1) (mD g++[ZD r.has,J I r.E,Y r.B])) (E:K.grownBy D (T t))
  (n:Below D.heap.size D A) (o4:ZM.ownsRow W.heap.size 201 3 ZN (c.length+1) (eF c++[Y l.e,ZD l.ask,ZD l.has])) (z:A.grownBy ZM (T f)) (F:ZN.ownBlock=T f∨ZN.ownBlock=T A.heap.size) :
  ∃s q b p,ZI=Z (T (Q s 0 U)) (g++[r]).length q/\ZN=Z (T (Q b 0 U)) (c++[l]).length p/\SB w0 hb s0 s1 W making X ZM (g++[r]) (c++[l]) made L md or st s q b p:=by
 have h3:=h.aa b3 ly;have bt:W.heap.size<K.heap.size:=ai h3.kp;have aq:W.heap.size+1<K.heap.size:=ai h3.kr;have V:=aj h3.r6 t rfl;obtain⟨hg6,hg6l,cs6,i⟩:=V
 have ZJ:=h3.si.grown (v:=Z (T (Q t 0 U)) g.length ZL) E h3.r6 ZQ ⟨by decide,by decide,by decide⟩ (λm y u k o e=>by
  cases o
  obtain⟨_,_,cs,C⟩:=aj (h3.si.c m y u) t e
  exact absurd (ar i C) (by decide))
 have k3:=KS.grow (v:=Z (T (Q t 0 U)) g.length ZL) h3.kx E h3.r6 ly ZQ;have ZK:D.ownsRow W.heap.size 201 3 (Z (T (Q f 0 U)) c.length ZP) c.length (eF c):=dv h3.r7 λk o=>by obtain⟨_,P,cs,C⟩:=aj h3.r7 k o;exact E.block k P λe=>by cases e;exact absurd (ar i C) (by decide)
 have O:=(E.block W.heap.size bt λe=>by cases e;exact absurd (ar i h3.kp) (by decide)).trans h3.kp;have ZO:=(E.block (W.heap.size+1) aq λe=>by have x:=BC e;exact absurd (ar i (x ▸ h3.kr)) (by decide)).trans h3.kr;obtain⟨s,q,cu6,rfl,-⟩:=R.2.resolve_left (λh=>by omega);have s4:=ZJ.aa n ly;have H:=own_below ZK n ly;obtain⟨hg7,hg7l,cs7,j⟩:=aj H f rfl;have B:=(n.block W.heap.size (ai O)).trans O;have G:=(n.block (W.heap.size+1) (ai ZO)).trans ZO;have s5:=s4.grown (v:=Z (T (Q f 0 U)) c.length ZP) z H ZQ ⟨by decide,by decide,by decide⟩ (λm y u k o e=>by cases o;exact h.ap m y u e);have k5:=KS.grow (v:=Z (T (Q f 0 U)) c.length ZP) (k3.to (KS.u n ly ZJ.lt)) z H ly ZQ;obtain⟨b,p,cu7,rfl,-⟩:=o4.2.resolve_left (λh=>by omega);have e6:(g++[r]).length=g.length+1:=by simp
 have e7:(c++[l]).length=c.length+1:=by simp
 refine⟨s,q,b,p,by rw[e6],by rw[e7],s5,?_,?_,λm y u e=>?_,?_,?_,k5⟩;{rw[e6,FC];refine dv (own_below R n ly) λk o=>?_;obtain⟨_,P,cs,C⟩:=aj (own_below R n ly) k o;exact z.block k P λe=>by cases e;exact absurd (ar j C) (by decide)};{rw[e7,CO];exact o4};{rcases F with F|F;{have x:b=f:=BC (show T b=T f from F);exact h.ap m y u (x ▸ e)};{have x:b=A.heap.size:=BC (show T b=T A.heap.size from F);have:=(aj (s4.c m y u) _ e).2.1;omega}};{exact(z.block W.heap.size (ai B) λe=>by cases e;exact absurd (ar j B) (by decide)).trans B};{exact(z.block (W.heap.size+1) (ai G) λe=>by have x:=BC e;exact absurd (ar j (x ▸ G)) (by decide)).trans G}
theorem SI.X{y:Array ZC}{fz:Nat × Nat}(h:SI w0 hb s0 s1 w making made L md or st)(g:w.heap[b]?=T (N y t fz))(f:t≠9/\t≠198/\t≠117/\t≠201)(z:w0.heap.size<=b)(j:Nat)(u:ZC):SI w0 hb s0 s1 (w.setCell (Q b j U) u) making made L md or st:=by
 have c:∀{size n:Nat} {i:ZH} {l:ZC} {q:List ZC},w.ownsRow w0.heap.size i size l n q->t≠i->(w.setCell (Q b j U) u).ownsRow w0.heap.size i size l n q:=λp o=>aA p (λe=>by
  obtain⟨_,_,cs2,x⟩:=aj p b e
  exact o (ar g x)) _ _
 refine⟨h.ao.setCell z u,h.hbB,h.G.ab (qh _ _ _ _ λe=>?_),c h.W f.2.1,c h.ror f.1,c h.rst f.1,h.apart,λm s r=>c (h.c m s r) f.2.2.2⟩;simp at e;subst e;exact f.2.2.1 (ar g h.G)
theorem SB.step{n:M}{u i:ZC}{q:List aK}{s:List Lk}{y x r:Nat}{b:List Ent}{l:List SM}(h:SB w0 hb s0 s1 W making u wr q s made L md or st y x j r)(c:KS w0.heap.size XN wr n)(A:SI w0 hb s0 s1 n making b l i g f)(hX:LExt wr.heap.size L l):SB w0 hb s0 s1 W making u n q s b l i g f y x j r:=by
 refine⟨A,dv h.r6 λk o=>?_,dv h.r7 λk o=>?_,λm C B e=>?_,(c.ab _ _ _ _ h.kp (by decide) (by decide) (by decide) λh=>h).trans h.kp,(c.ab _ _ _ _ h.kr (by decide) (by decide) (by decide) λh=>h).trans h.kr,h.kx.to c⟩;{obtain⟨_,_,E,p⟩:=aj h.r6 k o;exact c.ab _ _ _ _ p (by decide) (by decide) (by decide) λh=>h};{obtain⟨_,_,E,p⟩:=aj h.r7 k o;exact c.ab _ _ _ _ p (by decide) (by decide) (by decide) λh=>h};{rcases hX.sn m C B with ⟨m0,z,t,D⟩|h1;{exact h.ap m0 z t (by rw[D];exact e)};{have h2:=h1 _ e;have h3:=(aj h.r7 j rfl).2.1;omega}}
theorem SB.X{q:ZC}{m:List aK}{o:List Lk}{f l g:Nat}{r:Array ZC}(h:SB w0 hb s0 s1 W making q wr m o made L md or st f l g n)(c:wr.heap[b]?=T (N r t (0,0)))(p:t≠9/\t≠198/\t≠117/\t≠201)(hB:w0.heap.size<=W.heap.size)(hb1:W.heap.size+2<=b)(s:b≠f)(j:Nat)(u:ZC):SB w0 hb s0 s1 W making q (wr.setCell (Q b j U) u) m o made L md or st f l g n/\(wr.setCell (Q b j U) u).heap[b]?=T (N (r.setIfInBounds j u) t (0,0)):=by refine⟨⟨h.si.X c p (by omega) j u,aA h.r6 (λe=>s (BC e).symm) _ _,aA h.r7 (λe=>?_) _ _,h.ap,(qh _ _ _ _ (show W.heap.size≠b by omega)).trans h.kp,(qh _ _ _ _ (show W.heap.size+1≠b by omega)).trans h.kr,h.kx.trans (KS.setCell (X:=λi=>i=b) _ (by omega) (Or.inl rfl) u) λi hi x=>by have e2:i=b:=x;omega⟩,ay c u⟩;obtain⟨_,_,cs2,y⟩:=aj h.r7 b e;exact p.2.2.2 (ar c y)
theorem FF{S:Spc}{x:Ent}(h:EG S x):∃j rt c g f,dQ x=⟨j,rt,[]⟩/\nw x=⟨c,g,f⟩/\(kW S x.e=ZA/\j=4/\c=ZA/\g=0/\f=⟨#[]⟩∨kW S x.e=ZG/\c=ZG/\g=j/\f=rt):=by
 unfold dQ nw kW;rw[jg,jg];rcases h.m with ⟨b,_,_,i,hi,_⟩|⟨b,l,n,_,m,h1⟩|⟨b,_,h1⟩
 {exact⟨x.E,x.B,ZG,x.E,x.B,by rw[gM (by omega)],by simp[b],.inr ⟨by rw[hi];rfl,rfl,rfl,rfl⟩⟩};{exact⟨4,x.e,ZA,0,⟨#[]⟩,by rw[p6 b],by simp[b,l,n],.inl ⟨by rw[m,h1];rfl,rfl,rfl,rfl,rfl⟩⟩};{exact⟨x.E,x.B,ZG,x.E,x.B,by rw[gM (by omega)],by simp[b],.inr ⟨by rw[h1];simp,rfl,rfl,rfl⟩⟩}
end
section
variable {w0:M}{S:Spc}{a0 a1:Option Addr}{c0 c1 hb:Nat}{making:List ByteArray}
theorem FG (C:pt w0 S a0 a1)(n:Nat)(HK:nE w0 S hb (Z a0 S.n0 c0) (Z a1 S.n1 c1) n)(z:List Ent)(L0:List SM)(Kv GS Ky:ZC)(w:M)(a:Option Addr)(cap tg:Nat)(Me:making.length+n=60)(h:SI w0 hb (Z a0 S.n0 c0) (Z a1 S.n1 c1) w making z L0 Kv GS Ky)(hrel:fG L0 making z)(hp:PG S making z)(Fn:fi S making z 201)(Lz:MT S making)(Id:tg<S.n1)(Li:SlIns w0 a (S.f1 tg).f (S.f1 tg).H):Calls Tryz.prog 184 #[.pointer (T (Q hb 0 U)),.agg #[Z a (S.f1 tg).f cap]] w λe w'=>py w0 hb (Z a0 S.n0 c0) (Z a1 S.n1 c1) making L0 w e w' (dW S (bH S n making) tg 201 z [] []):=by
 obtain⟨i6,LP,Lt,Ls,Lh⟩:=lE Ai;obtain⟨i7,Lq,LJ,LQ,Ln⟩:=lE Fy;obtain⟨hok,hc1,Ku⟩:=bP (C.ok.H tg Id);obtain⟨O,ZP,rfl,Lx⟩:∃O ZP,a=T (Q O ZP U)/\RowIns w0 O ZP (S.f1 tg).f (S.f1 tg).H:=by
  rcases Li with h|⟨b,off,e,hr⟩
  {omega};{exact⟨b,off,e,hr⟩}
 have MA:=ae Lx;have CC:=ae C;have Mj:=ae HK;have ld:w0.heap.size<=w.heap.size:=h.lt;have Mq:=ae (FD C.ok Id);obtain⟨R0,KV⟩:∃R0,R0=dW S (bH S n making) tg 201 z [] []:=⟨_,rfl⟩
 rw[<-KV];have Mi:=ae KV;have A2:=ae (((q9 w).alloc ly (N #[Z (T (Q O ZP U)) (S.f1 tg).f cap] 43)).alloc (by simp) (N #[J I 0,Y ⟨#[]⟩,Z U 0 0] 39));have z2:((w.alloc (N #[Z (T (Q O ZP U)) (S.f1 tg).f cap] 43)).alloc (N #[J I 0,Y ⟨#[]⟩,Z U 0 0] 39)).heap.size=w.heap.size+2:=by simp
 have kp:Hid (((w.alloc (N #[Z (T (Q O ZP U)) (S.f1 tg).f cap] 43)).alloc (N #[J I 0,Y ⟨#[]⟩,Z U 0 0] 39)).heap[w.heap.size]?=T (N #[Z (T (Q O ZP U)) (S.f1 tg).f cap] 43 (0,0))) :=
  (((dB (w.heap.size+1) _).alloc (by simp) _).block w.heap.size (by omega)).trans (nL w _)
 have kr:Hid (((w.alloc (N #[Z (T (Q O ZP U)) (S.f1 tg).f cap] 43)).alloc (N #[J I 0,Y ⟨#[]⟩,Z U 0 0] 39)).heap[w.heap.size+1]?=T (N #[J I 0,Y ⟨#[]⟩,Z U 0 0] 39 (0,0))):=by have h2:=nL (w.alloc (N #[Z (T (Q O ZP U)) (S.f1 tg).f cap] 43)) (N #[J I 0,Y ⟨#[]⟩,Z U 0 0] 39);rw[show(w.alloc (N #[Z (T (Q O ZP U)) (S.f1 tg).f cap] 43)).heap.size=w.heap.size+1 by simp] at h2;exact h2
 have Kt:=ae (h.aa A2 ly);have Mc:=ae hrel;have LG:=ae hp;have Lp:=ae Fn;have Mx:=ae Lz;clear h C HK Lx Li KV hrel hp Fn Lz;go_enter func184,ntmps184;go_upto_region 1 with fail;generalize World.alloc (World.alloc w _) _=W2 at A2 z2 kp kr Kt ⊢;have hzW2:w.heap.size+2<=W2.heap.size:=by omega
 clear z2;have A3:=ae ((q9 W2).alloc ly (N #[] 166));have O6:=ae (nV W2 166 3);go_upto_region 2 with fail;generalize World.alloc W2 _=W3 at A3 O6 ⊢;have A4:=ae ((q9 W3).alloc ly (N #[] 201));have O7:=ae (nV W3 201 3);go_wp2_with fail;generalize World.alloc W3 _=W4 at A4 O7 ⊢;have ph:=ae (A3.trans (A4.mono A3.size));have AW:=ae (A2.trans (ph.mono A2.size));have hw32:W2.heap.size<=W3.heap.size:=A3.size;have Lu:Hid (SB w0 hb (Z a0 S.n0 c0) (Z a1 S.n1 c1) w making (Z (T (Q O ZP U)) (S.f1 tg).f cap) W4 [] [] z L0 Kv GS Ky W2.heap.size 0 W3.heap.size 0):=by refine⟨Kt.aa ph ly,aB (own_below O6 A4 ly) (by omega),aB O7 (by omega),λm hm hd e=>?_,(ph.block _ (by omega)).trans kp,(ph.block _ (by omega)).trans kr,KS.u AW ly ld⟩;have:=(aj (Kt.c m hm hd) _ e).2.1;omega
 have Lj:Hid (SR w0 S hb (Z a0 S.n0 c0) (Z a1 S.n1 c1) w n making tg (Z (T (Q O ZP U)) (S.f1 tg).f cap) L0 R0 W4 [] [] z L0 Kv GS Ky W2.heap.size 0 W3.heap.size 0) :=
  ⟨Lu,Mc,LG,vm S z,Lp,Mi.symm,E4 _,LExt.refl _ _⟩
 clear Lu O6 O7 A3 A4 A2 ph AW Kt Mc LG Lp kp kr;go_loopg [6,7] 202 (λg v6 v7 wr=>∃f F made L md or st g6 c6 g7 c7,v6=Z (T (Q g6 0 U)) (List.length (α:=aK) f) c6/\v7=Z (T (Q g7 0 U)) (List.length (α:=Lk) F) c7/\Hid (SR w0 S hb (Z a0 S.n0 c0) (Z a1 S.n1 c1) w n making tg (Z (T (Q O ZP U)) (S.f1 tg).f cap) L0 R0 wr f F made L md or st g6 c6 g7 c7)/\201 - f.length<=g);case atStart=>exact⟨[],[],z,L0,Kv,GS,Ky,_,_,_,_,rfl,rfl,Lj,by simp⟩
 case round =>
  clear Lj;obtain⟨f,F,made,L,md,or,st,g6,c6,g7,c7,rfl,rfl,s,hg⟩:=hrel;have k0:wr.cell? (Q w.heap.size 0 U)=T (Z (T (Q O ZP U)) (S.f1 tg).f cap):=by simp[World.cell?,s.sb.kp]
  have hkl:=ai s.sb.kp;have hy:=s.le;have Lr:F.length=f.length:=s.rg.len;obtain⟨ZL,hT⟩:∃ZL,ZL=eY S tg f:=⟨_,rfl⟩
  have HT:=ae hT;have Ll:=ae Lr;clear hT Lr;go_wp2_with fail;refine(vj O ZP (S.f1 tg).f cap g6 0 f.length c6 (S.f1 tg).H (yL f) wr (by omega) (MA.aa s.sb.si.ao ly) (Ir s.sb.r6) Mq).mono ?_;rintro e ZO ⟨he,ZM⟩;rw[CQ CC.ok Id s.rg.good s.le,<-HT.out] at he;subst he;have Mz:=ae (s.sb.aa ZM ly);have KU:=ae (vq CC.ok Id s.rg.good);rw[<-HT.out] at KU;clear ZM k0;obtain⟨over,code,text,ask,name,steps⟩:=ZL;simp only[Turn.v];have A5:=ae ((q9 ZO).alloc ly (N #[ZD over,J I code,Y text,ZD ask,Y name,J I steps] 163));have kt:Hid (TBx (ZO.alloc (N #[ZD over,J I code,Y text,ZD ask,Y name,J I steps] 163)) ZO.heap.size over code text ask name steps):=nL _ _;obtain⟨t0,t1,t2,t3,t4⟩:=kt.cells;have o:=ae (Mz.aa A5 ly);cases over with
  |true =>
   have My:Hid (R0=.inl (made,(⟨ZG,code,text,ask,name,steps⟩,F))):=by show _=_;rw[<-s.run,show 201 - f.length=(200 - f.length)+1 by omega,dW,<-HT.out,p6 rfl]
   obtain⟨rl,r0,r1,r2,rf⟩:=bv o.kr;obtain⟨Lo,LZ,Lw⟩:=al3 rf;clear rf;go_wp2_with fail;generalize World.alloc ZO _=W5 at A5 kt o r0 r1 r2 Lo LZ Lw rl t0 t1 t2 t3 t4 ⊢;refine bp (v:=.tuple #[.agg #[J I code,Y text,Z U 0 0],Z (T (Q g7 0 U)) F.length c7]) (by simp[results,results184,go_sem,r0,r1,r2]) rfl ?_;have ZJ:w0.heap.size<=w.heap.size+1:=by omega
   have x0:=o.si.X o.kr ⟨by decide,by decide,by decide,by decide⟩ ZJ 0 (J I code);have y0:=ay o.kr (j:=0) (J I code);have x1:=x0.X y0 ⟨by decide,by decide,by decide,by decide⟩ ZJ 1 (Y text);have y1:=ay y0 (j:=1) (Y text);have x2:=x1.X y1 ⟨by decide,by decide,by decide,by decide⟩ ZJ 2 (Z U 0 0);have DE:g7≠w.heap.size+1:=λe=>by obtain⟨_,_,cs,hc⟩:=aj o.r7 g7 rfl;exact absurd (ar (e ▸ hc) o.kr) (by decide)
   rw[My.out];refine⟨L,md,or,st,g7,c7,rfl,x2,s.rel,aA (aA (aA o.r7 (λe=>DE (BC e)) _ _) (λe=>DE (BC e)) _ _) (λe=>DE (BC e)) _ _,o.ap,s.ext,?_⟩;refine((o.kx.trans (KS.setCell (X:=λi=>i=w.heap.size+1) W5 ZJ (Or.inl rfl) (J I code)) ?_).trans (KS.setCell (X:=λi=>i=w.heap.size+1) _ ZJ (Or.inl rfl) (Y text)) ?_).trans (KS.setCell (X:=λi=>i=w.heap.size+1) _ ZJ (Or.inl rfl) (Z U 0 0)) ?_;all_goals
    intro i hi h;have e2:i=w.heap.size+1:=h;omega
  |false =>
   have hyl:f.length<200:=by
    rcases KU.out with h|h;{exact absurd h.1 (by simp)};{exact h.2.1}
   have HN:Hid (aw name=ZG):=by
    rcases KU.out with h|h;{exact absurd h.1 (by simp)};{exact h.2.2}
   cases ask with
   |false =>
    have A:=s.run;rw[show 201 - f.length=(200 - f.length)+1 by omega,dW,<-HT.out,gM (by simp),p6 rfl] at A;obtain⟨G,Fd⟩:∃G,G=kW S name:=⟨_,rfl⟩
    have LI:=ae Fd;simp only at A;rw[<-Fd] at A;have NX:=ae A;clear A Fd;go_wp2_with fail;clear t0 t1 t2 t3 t4;generalize World.alloc ZO _=W5 at A5 kt o ⊢;obtain⟨R,b0,b1,-⟩:=o.si.G.K;refine(px CC W5 name o.si.ao R b0 b1).mono ?_;rintro e H ⟨he,ZM⟩;rw[<-LI.out] at he;subst he;have E:=ae (o.aa ZM ly);have ZK:Hid (TBx H ZO.heap.size ZA code text ZA name steps):=(ZM.block _ (ai kt)).trans kt;clear ZM b0 b1 R;have q:=ae ((q9 H).alloc ly (N #[ZD G,J I 0,Y ⟨#[]⟩] 166));have RA:=ae (own_below E.r6 q ly);have KO:w.heap.size<=H.heap.size:=E.kx.aa.size
    go_upto_region 9 with (first
     |(at_builtin;refine bC _ rfl (.tmp 32) (.tmp 35) 161 rfl w.heap.size 166 i6 (.agg #[ZD ZA,J I 0,Y ⟨#[]⟩]) 3 32 underlying161 LP Lt Ls Lh rfl (by decide) (Z (T (Q g6 0 U)) f.length c6) f.length (mD f) (by simp[Act.eval]) RA.out (Q H.heap.size 0 U) 1 1 [ZD G,J I 0,Y ⟨#[]⟩] (by simp[Act.eval]) rfl (jC H _ _ _ _) (by simp[Value.oneCell']) (by unfold maxLen;omega) (by omega) (by simp<;>omega) ?_;intro v3 u bt ZN At;have O3:=ae bt;have G3:=ae ZN;clear bt ZN At)
     |fail)
    have fd:Hid (∀(k:Nat) (cs:Array ZC) (t:ZH) (fz:Nat × Nat),(H.alloc (N #[ZD G,J I 0,Y ⟨#[]⟩] 166)).heap[k]?=T (Obj.cells cs t fz)->t≠166->u.heap[k]?=(H.alloc (N #[ZD G,J I 0,Y ⟨#[]⟩] 166)).heap[k]?):=λk cs t fz hk ht=>G3.block k (ai hk) λe=>by obtain⟨_,_,Ms,Ku⟩:=aj RA k e.symm;exact ht (ar hk Ku)
    have qr:Hid (TBx u ZO.heap.size ZA code text ZA name steps):=by have h0:=(q.block _ (ai ZK)).trans ZK;exact(fd _ _ _ _ h0 (by decide)).trans h0
    have KM:Hid (u.ownsRow w.heap.size 201 3 (Z (T (Q g7 0 U)) F.length c7) F.length (eF F)):=dv (own_below E.r7 q ly) λk hk=>by obtain⟨_,_,cs,hc⟩:=aj (own_below E.r7 q ly) k hk;exact fd _ _ _ _ hc (by decide)
    obtain⟨-,-,-,-,n4⟩:=qr.cells;have Mv:=ai qr.out;have A7:=ae ((q9 u).alloc ly (N #[Y name,ZD ZA,ZD G] 201));have RS:=ae (own_below KM A7 ly);have Mm:w.heap.size<=u.heap.size:=p7 (p7 KO (by simp<;>omega)) G3.size;have DQ:=Ll.out;obtain⟨ZQ,V⟩:∃ZQ,ZQ=F.length:=⟨_,rfl⟩
    have Lg:ZQ<=200:=by omega
    have KP:=ae V;rw[<-V] at RS ⊢;clear DQ V
    go_wp2_with (first
     |(at_builtin;refine bC _ rfl (.tmp 37) (.tmp 42) 196 rfl w.heap.size 201 i7 (.agg #[Y ⟨#[]⟩,ZD ZA,ZD ZA]) 3 24 underlying196 Lq LJ LQ Ln rfl (by decide) (Z (T (Q g7 0 U)) ZQ c7) ZQ (eF F) (by simp[Act.eval]) RS.out (Q u.heap.size 0 U) 1 1 [Y name,ZD ZA,ZD G] (by simp[Act.eval]) rfl (jC u _ _ _ _) (by simp[Value.oneCell']) (by unfold maxLen;omega) (by omega) (by simp<;>omega) ?_;intro v4 w4 aq K la;have O4:=ae aq;have G4:=ae K;have KQ:=ae la;clear aq K la)
     |fail)
    obtain⟨KC,Ld,La,KF,e6,e7,KE⟩:=E.more (r:=⟨G,0,⟨#[]⟩⟩) (l:=⟨name,ZA,G⟩) ld q O3 G3 A7 (by rw[<-KP.out];exact O4) G4 KQ;have B:(f++[(⟨G,0,⟨#[]⟩⟩:aK)]).length=f.length+1:=by simp
    have KH:Hid (SR w0 S hb (Z a0 S.n0 c0) (Z a1 S.n1 c1) w n making tg (Z (T (Q O ZP U)) (S.f1 tg).f cap) L0 R0 w4 (f++[⟨G,0,⟨#[]⟩⟩]) (F++[⟨name,ZA,G⟩]) made L md or st KC Ld La KF) :=
     ⟨KE,s.rel,s.pg,(s.rg.add (by rw[LI.out];exact yu _ _) HN (λh=>by cases h)),(by rw[B,show 201 - (f.length+1)=200 - f.length by omega];exact(by have:=s.room;unfold fi at this ⊢;omega)),(by rw[B,show 201 - (f.length+1)=200 - f.length by omega];exact NX),(by rw[B];omega),s.ext⟩
    obtain⟨g,rfl⟩:∃g,gk=g+1:=⟨gk - 1,by omega⟩
    go_roundg g;case measure=>omega
    case rel=>exact⟨_,_,_,_,_,_,_,_,_,_,_,e6,e7,KH,by rw[B];omega⟩
   |true =>
    have A:=s.run;rw[show 201 - f.length=(200 - f.length)+1 by omega,dW,<-HT.out,gM (by simp),gM (by simp)] at A;simp only at A;go_wp2_with fail;clear t0 t1 t2 t3 t4;generalize World.alloc ZO _=W5 at A5 kt o ⊢;refine(Mj making made L md or st W5 name Me o.si s.rel s.pg (by have:=s.room;unfold fi at this ⊢;omega) Mx HN).mono ?_;intro e H P;have HQ:(∃D x,bH S n making made name=.inl (D,x))∨∃(r:kY) (va:Option Addr) (vn vk:Nat),e=ZF (jr r (Z va vn vk))/\jh w0 hb H r (Z va vn vk)/\KS w0.heap.size XN W5 H/\Hid (∀vs w',jh w0 hb w' r (Z va vn vk)->KS w0.heap.size XN w w'->py w0 hb (Z a0 S.n0 c0) (Z a1 S.n1 c1) making L0 w (ZF (.tuple #[jr r (Z va vn vk),vs])) w' R0):=by
     rcases hr:bH S n making made name with ⟨D,x⟩|c|d;{exact .inl ⟨_,_,rfl⟩};all_goals
      rw[hr] at P A;dsimp only at A;subst A
     {obtain⟨ca,ck,rfl,hd,hK⟩:=P;exact .inr ⟨_,_,_,_,rfl,hd,hK,λvs w' h1 h2=>⟨ca,ck,vs,rfl,h1,h2⟩⟩};{obtain⟨rfl,hd,hK⟩:=P;exact .inr ⟨_,_,_,_,rfl,hd,hK,λvs w' h1 h2=>⟨vs,rfl,h1,h2⟩⟩}
    rcases HQ with ⟨D,x,hr⟩|⟨r,va,vn,vk,rfl,⟨q0,q1,qm,qo,qs,JT,L9⟩,hK,fin⟩
    ·rw[hr] at P A;dsimp only at A;obtain⟨L2,Mt,Ml,MC,rfl,LU,KT,Le,hK⟩:=P;obtain⟨Kz,⟨more,Fm⟩,hx,Lb⟩:=my CC.ok n making made name D x s.pg HN hr;have Kw:=mx S n making made name D x hr;have Lf:∀y∈made,y∈D:=λy hy=>by rw[Fm];exact QC _ hy
     have KN:=ae (o.step hK LU Le);have Mh:=ae KT;have MD:=ae Kz;have Md:Hid (RG S D (f++[nw x]) (F++[⟨name,ZG,ZA⟩])):=(s.rg.mono Lf).add (yv (Kz.ents x hx)) HN (λ_=>⟨x,hx,Lb⟩);have Mr:Hid (fi S making D (200 - f.length)):=by have:=s.room;unfold fi at this ⊢;unfold gA at Kw;show _<=_;omega
     have ME:=ae (s.ext.trans Le o.kx.aa.size);have ur:Hid (TBx H ZO.heap.size ZA code text ZG name steps):=(hK.ab _ _ _ _ kt (by decide) (by decide) (by decide) λh=>h).trans kt;have NX:=ae A;obtain⟨rc,rt,ob,oc,ot,Lv,Ma,Lm⟩:=FF (Kz.ents x hx);rw[Ma] at Md NX;have hz25:W5.heap.size<=H.heap.size:=hK.aa.size;have hg65:g6<W5.heap.size:=(aj o.r6 g6 rfl).2.1;have hw25:w.heap.size+2<=W5.heap.size:=ai o.kr;rw[Lb] at Lm;simp only[Lv];clear LU KT Le hK Kz Fm hx Lb Kw Lf hr A Lv Ma;obtain⟨W6,DS⟩:∃W:M,H.alloc (N #[J I rc,Y rt,Z U 0 0] 39)=W:=⟨_,rfl⟩
     obtain⟨q,Mb,-⟩:=nb1 DS;have KJ:=ae DS;clear DS;obtain⟨R,-,-,-,-,-,-,-,-,b8,-⟩:=KN.si.G.K;have d8:=(q.cell (p:=(Q hb 8 U)) R).trans b8;obtain⟨rl,r0,r1,-,-⟩:=bv Mb;go_upto_region 13 with fail;clear d8 b8;rw[KJ.out];clear KJ;obtain⟨W8,Bk⟩:∃W:M,W6.alloc (N #[ZD ZG,J I rc,Y rt] 166)=W:=⟨_,rfl⟩
     obtain⟨A7,ky,-⟩:=nb1 Bk;have KB:=ae Bk;clear Bk;go_upto_region 14 with fail;rw[KB.out];clear KB;have LH:=ae (q.trans (A7.mono q.size));have n9:=ae (KN.aa LH ly);have ro:Hid (TBx W8 ZO.heap.size ZA code text ZG name steps):=(LH.block _ (ai ur)).trans ur;have r7:=(A7.cell (p:=(Q H.heap.size 0 U)) rl).trans r0;have th:H.heap.size<W8.heap.size:=lj rl A7.size;obtain⟨-,-,-,-,tn⟩:=ro.cells;have dg:=ai ro.out;obtain⟨ZI,LF⟩:∃ZI,ZI=W6.heap.size:=⟨_,rfl⟩
     rw[<-LF] at ky ⊢;have DH:w.heap.size+2<=ZI:=by have:=q.size;omega
     have Fk:ZI≠g6:=by have:=q.size;omega
     clear LF KN ur A7 q Mb r0 r1;obtain⟨mv,b0,b1,-⟩:=n9.si.G.K;rcases Lm with ⟨KD,e4,e3⟩|⟨KD,e3⟩
     case' inr=>by_cases h4:rc=4
     all_goals
      have LV:=ae KD;have E3:=ae e3;clear KD e3
     case' inl =>
      subst e4;go_wp2_with fail;refine(px CC W8 name n9.si.ao mv b0 b1).mono ?_;rintro e u ⟨he,ZM⟩;rw[LV.out] at he;subst he;have Mo:=ae (n9.aa ZM ly);have LX:Hid (TBx u ZO.heap.size ZA code text ZG name steps):=(ZM.block _ dg).trans ro;have Kx:=(ZM.block _ (ai ky)).trans ky;obtain⟨yl,y0,y1,y2,yf⟩:=bv Kx;obtain⟨Mn,Mg,Mp⟩:=al3 yf;have x0:=Mo.X Kx ⟨by decide,by decide,by decide,by decide⟩ ld DH Fk 0 (ZD ZA);have x1:=x0.1.X x0.2 ⟨by decide,by decide,by decide,by decide⟩ ld DH Fk 1 (J I 0);have x2:=x1.1.X x1.2 ⟨by decide,by decide,by decide,by decide⟩ ld DH Fk 2 (Y ⟨#[]⟩);have E:=ae x2.1;have KZ:ZO.heap.size≠ZI:=λe=>absurd (ar (show u.heap[ZO.heap.size]?=_ from LX.out) (e ▸ Kx)) (by decide);have ZK:Hid (TBx (((u.setCell (Q ZI 0 U) (ZD ZA)).setCell (Q ZI 1 U) (J I 0)).setCell (Q ZI 2 U) (Y ⟨#[]⟩)) ZO.heap.size ZA code text ZG name steps):=(qh _ _ _ _ KZ).trans ((qh _ _ _ _ KZ).trans ((qh _ _ _ _ KZ).trans LX));have KY:Hid ((((u.setCell (Q ZI 0 U) (ZD ZA)).setCell (Q ZI 1 U) (J I 0)).setCell (Q ZI 2 U) (Y ⟨#[]⟩)).heap[ZI]?=T (N #[ZD ob,J I oc,Y ot] 166 (0,0))):=by rw[E3.1,E3.2.1,E3.2.2];exact x2.2
      clear x0 x1 x2 ZM tn b0 b1 mv r7 th dg rl Kx;go_upto_region 16 with fail;clear y0 y1 y2 Mn Mg Mp yl;generalize World.setCell (World.setCell (World.setCell u _ _) _ _) _ _=W8 at E KY ZK ⊢
     case' pos =>
      subst h4;go_wp2_with fail;refine(px CC W8 name n9.si.ao mv b0 b1).mono ?_;rintro e u ⟨he,ZM⟩;rw[LV.out] at he;subst he;have E:=ae (n9.aa ZM ly);have ZK:Hid (TBx u ZO.heap.size ZA code text ZG name steps):=(ZM.block _ dg).trans ro;have KY:Hid (u.heap[ZI]?=T (N #[ZD ob,J I oc,Y ot] 166 (0,0))):=by rw[E3.1,E3.2.1,E3.2.2];exact(ZM.block _ (ai ky)).trans ky
      clear ZM tn b0 b1 mv r7 th dg rl;go_upto_region 16 with fail;generalize u=W8 at E KY ZK ⊢
     case' neg =>
      have h4b:(rc == 4)=ZA:=by simpa using h4
      have E:=n9;have ZK:=ro;have KY:Hid (W8.heap[ZI]?=T (N #[ZD ob,J I oc,Y ot] 166 (0,0))):=by rw[E3.1,E3.2.1,E3.2.2];exact ky
      go_upto_region 16 with fail;clear tn b0 b1 mv r7 th dg rl
     all_goals
      obtain⟨yl,y0,y1,y2,-⟩:=bv KY;have q:=ae ((q9 W8).alloc ly (N #[ZD ob,J I oc,Y ot] 166));have RA:=ae (own_below E.r6 q ly);have KO:w.heap.size<=W8.heap.size:=E.kx.aa.size
      go_upto_region 17 with (first
       |(at_builtin;refine bC _ rfl (.tmp 73) (.tmp 75) 161 rfl w.heap.size 166 i6 (.agg #[ZD ZA,J I 0,Y ⟨#[]⟩]) 3 32 underlying161 LP Lt Ls Lh rfl (by decide) (Z (T (Q g6 0 U)) f.length c6) f.length (mD f) (by simp[Act.eval]) RA.out (Q W8.heap.size 0 U) 1 1 [ZD ob,J I oc,Y ot] (by simp[Act.eval]) rfl (jC W8 _ _ _ _) (by simp[Value.oneCell']) (by unfold maxLen;omega) (by omega) (by simp<;>omega) ?_;intro v3 u bt ZN At;have O3:=ae bt;have G3:=ae ZN;clear bt ZN At)
       |fail)
      have fd:Hid (∀(k:Nat) (cs:Array ZC) (t:ZH) (fz:Nat × Nat),(W8.alloc (N #[ZD ob,J I oc,Y ot] 166)).heap[k]?=T (Obj.cells cs t fz)->t≠166->u.heap[k]?=(W8.alloc (N #[ZD ob,J I oc,Y ot] 166)).heap[k]?):=λk cs t fz hk ht=>G3.block k (ai hk) λe=>by obtain⟨_,_,Ms,Ku⟩:=aj RA k e.symm;exact ht (ar hk Ku)
      have qr:Hid (TBx u ZO.heap.size ZA code text ZG name steps):=by have h0:=(q.block _ (ai ZK)).trans ZK;exact(fd _ _ _ _ h0 (by decide)).trans h0
      have KM:Hid (u.ownsRow w.heap.size 201 3 (Z (T (Q g7 0 U)) F.length c7) F.length (eF F)):=dv (own_below E.r7 q ly) λk hk=>by obtain⟨_,_,cs,hc⟩:=aj (own_below E.r7 q ly) k hk;exact fd _ _ _ _ hc (by decide)
      obtain⟨-,-,-,-,n4⟩:=qr.cells;have Mv:=ai qr.out;have A7:=ae ((q9 u).alloc ly (N #[Y name,ZD ZG,ZD ZA] 201));have RS:=ae (own_below KM A7 ly);have Mm:w.heap.size<=u.heap.size:=p7 (p7 KO (by simp<;>omega)) G3.size;have DQ:=Ll.out;obtain⟨ZQ,V⟩:∃ZQ,ZQ=F.length:=⟨_,rfl⟩
      have Lg:ZQ<=200:=by omega
      have KP:=ae V;rw[<-V] at RS ⊢;clear DQ V
      go_wp2_with (first
       |(at_builtin;refine bC _ rfl (.tmp 77) (.tmp 81) 196 rfl w.heap.size 201 i7 (.agg #[Y ⟨#[]⟩,ZD ZA,ZD ZA]) 3 24 underlying196 Lq LJ LQ Ln rfl (by decide) (Z (T (Q g7 0 U)) ZQ c7) ZQ (eF F) (by simp[Act.eval]) RS.out (Q u.heap.size 0 U) 1 1 [Y name,ZD ZG,ZD ZA] (by simp[Act.eval]) rfl (jC u _ _ _ _) (by simp[Value.oneCell']) (by unfold maxLen;omega) (by omega) (by simp<;>omega) ?_;intro v4 w4 aq K la;have O4:=ae aq;have G4:=ae K;have KQ:=ae la;clear aq K la)
       |fail)
      obtain⟨KC,Ld,La,KF,e6,e7,KE⟩:=E.more (r:=⟨ob,oc,ot⟩) (l:=⟨name,ZG,ZA⟩) ld q O3 G3 A7 (by rw[<-KP.out];exact O4) G4 KQ;have B:(f++[(⟨ob,oc,ot⟩:aK)]).length=f.length+1:=by simp
      have KH:Hid (SR w0 S hb (Z a0 S.n0 c0) (Z a1 S.n1 c1) w n making tg (Z (T (Q O ZP U)) (S.f1 tg).f cap) L0 R0 w4 (f++[⟨ob,oc,ot⟩]) (F++[⟨name,ZG,ZA⟩]) D L2 Mt Ml MC KC Ld La KF) :=
       ⟨KE,Mh,MD,Md,(by rw[B,show 201 - (f.length+1)=200 - f.length by omega];exact Mr),(by rw[B,show 201 - (f.length+1)=200 - f.length by omega];exact NX),(by rw[B];omega),ME⟩
      obtain⟨g,rfl⟩:∃g,gk=g+1:=⟨gk - 1,by omega⟩
      go_roundg g;case measure=>omega
      case rel=>exact⟨_,_,_,_,_,_,_,_,_,_,_,e6,e7,KH,by rw[B];omega⟩
    ·clear P A;obtain⟨R,-,-,-,-,-,b5,b6,b7,b8,-⟩:=JT.K;have Hx:=(hK.ab _ _ _ _ o.kr (by decide) (by decide) (by decide) λh=>h).trans o.kr;have KW:=ae (o.kx.to hK);have Mk:=ae JT;have Ly:=ae L9;have q:=ae ((q9 H).alloc ly (N #[J I r.E,Y r.B,Z va vn vk] 39));have Lc:=(q.block _ (ai Hx)).trans Hx;obtain⟨rl,r0,r1,r2,rf⟩:=bv Lc;have d5:=(q.cell (p:=(Q hb 5 U)) R).trans b5;have d6:=(q.cell (p:=(Q hb 6 U)) R).trans b6;have d7:=(q.cell (p:=(Q hb 7 U)) R).trans b7;have d8:=(q.cell (p:=(Q hb 8 U)) R).trans b8;obtain⟨Lo,LZ,Lw⟩:=al3 rf;have sm:hb≠w.heap.size+1:=λe=>absurd (ar (e ▸ JT) Hx) (by decide);have Mw:=ae Lc;clear rf JT L9 hK b5 b6 b7 b8 Hx Lc;simp only[jr];go_wp2_with fail;refine bp (v:=.tuple #[jr r (Z va vn vk),Z (T (Q g7 0 U)) F.length c7]) (by simp[results,results184,go_sem,r0,r1,r2,jr]) rfl ?_;have ZJ:w0.heap.size<=w.heap.size+1:=by omega
     have Mf:∀(W:M) (v0 v1 v2:ZC),(((W.setCell (Q (w.heap.size+1) 0 U) v0).setCell (Q (w.heap.size+1) 1 U) v1).setCell (Q (w.heap.size+1) 2 U) v2).heap[hb]?=W.heap[hb]?:=λW v0 v1 v2=>(qh _ _ _ _ sm).trans ((qh _ _ _ _ sm).trans (qh _ _ _ _ sm));have KX:∀k,(Value.slice va vn vk).ownBlock=T k->k≠w.heap.size+1:=λk hk e=>by obtain⟨_,_,cs,hc⟩:=aj (own_below Ly q ly) k hk;exact absurd (ar (e ▸ hc) Mw) (by decide)
     refine fin (Z (T (Q g7 0 U)) F.length c7) _ ⟨q0,q1,qm,qo,qs,(Mf _ _ _ _).trans ((q.block _ R).trans Mk),aA (aA (aA (own_below Ly q ly) (λe=>KX _ e rfl) _ _) (λe=>KX _ e rfl) _ _) (λe=>KX _ e rfl) _ _⟩ ?_;refine((((KW.to (KS.u q ly (p7 ld KW.aa.size))).trans (KS.setCell (X:=λi=>i=w.heap.size+1) _ ZJ (Or.inl rfl) _) ?_).trans (KS.setCell (X:=λi=>i=w.heap.size+1) _ ZJ (Or.inl rfl) _) ?_).trans (KS.setCell (X:=λi=>i=w.heap.size+1) _ ZJ (Or.inl rfl) _) ?_);all_goals
      intro i hi h;have e2:i=w.heap.size+1:=h;omega
end
