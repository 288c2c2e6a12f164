import Derived.Test.YtoddkejemcbkmaaGreatDoorQZ
import Derived.Test.YtoddkejemcbkmaaGreatDoorQM
import Derived.Deep.Cut
set_option maxRecDepth 1000000
set_option maxHeartbeats 8000000
open Go renaming Addr.mk->Q,Value.slice->Z,Value.string->U,Value.int->J,Value.bool->ZD,Obj.cells->N,IntKind.i64->I,World->M,Value->ZC,TypeId->ZH,Ending.returned->ZF
open Option renaming none->Y,some->T
open Bool renaming false->ZA,true->ZG
namespace Go.Proofs.YtoddkejemcbkmaaGreatDoor.Vp
open Tryz RowKit
variable {W wr w:M}{b g l size n j s:Nat}{t e:ZH}{f:ZC}
structure SB (w0:M)(hb:Nat)(s0 s1:ZC)(w:M)(making:List ByteArray)(pv:ZC)(wr:M)(ys:List aK)(ls:List Lk)(made:List Ent)(L:List SM)(md or st:ZC)(g6 c6 g7 c7:Nat):Prop where
 si:SI w0 hb s0 s1 wr making made L md or st
 r6:wr.ownsRow w.heap.size 232 3 (Z (T (Q g6 0 Y)) ys.length c6) ys.length (mg ys)
 r7:wr.ownsRow w.heap.size 181 3 (Z (T (Q g7 0 Y)) ls.length c7) ls.length (eC ls)
 ap:∀m∈L,m.done=ZG->m.sv.ownBlock≠T g7
 kp:wr.heap[w.heap.size]?=T (N #[pv] 59 (0,0))
 kr:wr.heap[w.heap.size+1]?=T (N #[J I 0,U ⟨#[]⟩,Z Y 0 0] 84 (0,0))
 kx:KS w0.heap.size XN w wr
structure SR (w0:M)(S:Spc)(hb:Nat)(s0 s1:ZC)(w:M)(n:Nat)(making:List ByteArray)(tg:Nat)(pv:ZC)(L0:List SM)(R0:Out (Turn × List Lk))(wr:M)(ys:List aK)(ls:List Lk)(made:List Ent)(L:List SM)(md or st:ZC)(g6 c6 g7 c7:Nat):Prop where
 sb:SB w0 hb s0 s1 w making pv wr ys ls made L md or st g6 c6 g7 c7
 rel:fB L making made
 pg:PG S making made
 rg:RG S made ys ls
 room:eZ S making made (201 - ys.length)
 run:dV S (bG S n making) tg (201 - ys.length) made ys ls=R0
 le:ys.length<=200
 ext:LExt w.heap.size L0 L
def TBx (w:M)(g:Nat)(over:Bool)(code:Int)(text:ByteArray)(ask:Bool)(name:ByteArray)(steps:Int):Prop:=w.heap[g]?=T (N #[ZD over,J I code,U text,ZD ask,U name,J I steps] 229 (0,0))
theorem TBx.cells{over:Bool}{code:Int}{text:ByteArray}{ask:Bool}{name:ByteArray}{steps:Int}(h:TBx w g over code text ask name steps):w.cell? (Q g 0 Y)=T (ZD over)/\w.cell? (Q g 1 Y)=T (J I code)/\w.cell? (Q g 2 Y)=T (U text)/\w.cell? (Q g 3 Y)=T (ZD ask)/\w.cell? (Q g 4 Y)=T (U name):=by unfold TBx at h;refine⟨?_,?_,?_,?_,?_⟩;all_goals simp[World.cell?,h]
def pa (w0:M)(hb:Nat)(s0 s1:ZC)(making:List ByteArray)(L:List SM)(w:M)(e:Ending)(w':M):Out (Turn × List Lk)->Prop
 |.inl (made',x)=>∃b h i f g c,e=ZF (.tuple #[.agg #[J I x.1.B,U x.1.h,Z Y 0 0],Z (T (Q g 0 Y)) x.2.length c])/\SI w0 hb s0 s1 w' making made' b h i f/\fB b making made'/\w'.ownsRow w.heap.size 181 3 (Z (T (Q g 0 Y)) x.2.length c) x.2.length (eC x.2)/\(∀m∈b,m.done=ZG->m.sv.ownBlock≠T g)/\LExt w.heap.size L b/\KS w0.heap.size XN w w'
 |.inr (.inl c)=>∃a k sv,e=ZF (.tuple #[ji (jr c) (Z a c.length k),sv])/\i8 w0 hb w' (jr c) (Z a c.length k)/\KS w0.heap.size XN w w'
 |.inr (.inr d)=>∃sv,e=ZF (.tuple #[ji (js d) (Z Y 0 0),sv])/\i8 w0 hb w' (js d) (Z Y 0 0)/\KS w0.heap.size XN w w'
theorem jt (w:M)(b g f:ZC)(t:ZH):∀j u,[b,g,f][j]?=T u->(w.alloc (N #[b,g,f] t)).cell? (((Q w.heap.size 0 Y):Addr).add j)=T u:=by
 intro j u h;rw[addr_add];have hj:j<3:=by
  rcases N1 j 3 with c|c;{exact c};{rw[MR (by simp;omega)] at h;cases h}
 rcases(show j=0∨j=1∨j=2 by omega) with rfl|rfl|rfl;all_goals
  simp at h;subst h;simp
theorem bu{c g:ZC}(h:w.heap[b]?=T (N #[c,g,f] t (0,0))):b<w.heap.size/\w.cell? (Q b 0 Y)=T c/\w.cell? (Q b 1 Y)=T g/\w.cell? (Q b 2 Y)=T f/\∀j,w.frozen? (Q b j Y)=ZA:=by refine⟨ai h,?_,?_,?_,λj=>?_⟩;all_goals simp[World.cell?,World.frozen?,h]
section
variable {w0 w w':M}{hb:Nat}{s0 s1 md or st:ZC}{making:List ByteArray}{made:List Ent}{L:List SM}
theorem SI.grown{v:ZC}{B:List ZC}(h:SI w0 hb s0 s1 w making made L md or st)(b:w.grownBy w' v.ownBlock)(E:w.ownsRow l e size v n B)(hB:w0.heap.size<=l)(o:e≠9/\e≠179/\e≠132)(C:∀m∈L,m.done=ZG->∀k,v.ownBlock=T k->m.sv.ownBlock≠T k):SI w0 hb s0 s1 w' making made L md or st:=by
 have A:=aj E;have r:∀(i:Nat) (p:Array ZC) (t:ZH) (fz:Nat × Nat),w.heap[i]?=T (Obj.cells p t fz)->t≠e->w'.heap[i]?=w.heap[i]?:=λi p t fz hi j=>b.block i (ai hi) λg=>by obtain⟨_,_,cs2,q⟩:=A i g.symm;exact j (ar hi q)
 have c:∀{size n:Nat} {t:ZH} {u:ZC} {y:List ZC},w.ownsRow w0.heap.size t size u n y->t≠e->w'.ownsRow w0.heap.size t size u n y:=λz j=>du z λk f=>by obtain⟨_,_,p,q⟩:=aj z k f;exact r _ _ _ _ q j
 refine⟨h.ao.trans ⟨b.os,b.tape,b.output,b.size,λk f=>b.block k (lj f h.lt) λg=>?_⟩,h.hbB,h.H.ab (r _ _ _ _ h.H o.2.2.symm),c h.W o.2.1.symm,c h.ror o.1.symm,c h.rst o.1.symm,h.apart,λm x s=>du (h.c m x s) λk f=>?_⟩;{have:=(A k g.symm).1;omega};{obtain⟨_,D,p,q⟩:=aj (h.c m x s) k f;exact b.block k D λg=>C m x s k g.symm f}
theorem KS.grow{v:ZC}{m:List ZC}{B:Nat}(h:KS B XN W w)(l:w.grownBy w' v.ownBlock)(g:w.ownsRow b e size v n m)(o:W.heap.size<=b)(f:B<=W.heap.size):KS B XN W w' :=
 h.trans (ZJ:=λi=>v.ownBlock=T i) (KS.of_grown l (p9 f h.aa.size) λj c=>⟨p9 (p9 f o) (aj g j c).1,.inl c⟩) λi hi p=>by have:=(aj g i p).1;omega
theorem SB.aa{f:M}{n:ZC}{i:List aK}{l:List Lk}{m o C:Nat}(h:SB w0 hb s0 s1 W making n wr i l made L md or st m o g j)(b:Below C wr f)(c:wr.heap.size<=C):SB w0 hb s0 s1 W making n f i l made L md or st m o g j :=
 ⟨h.si.aa b c,own_below h.r6 b c,own_below h.r7 b c,h.ap,(b.block _ (lj (ai h.kp) c)).trans h.kp,(b.block _ (lj (ai h.kr) c)).trans h.kr,h.kx.to (KS.u b c h.si.lt)⟩
theorem SB.more{S K D A R:M}{ZI X ZO:ZC}{f:List aK}{c:List Lk}{x P i ZP:Nat}{r:aK}{l:Lk}(h:SB w0 hb s0 s1 W making ZI S f c made L md or st x P i ZP)(ZQ:w0.heap.size<=W.heap.size)
  (b3:Below S.heap.size S K) (ZL:D.ownsRow W.heap.size 232 3 X (f.length+1) (mg f++[ZD r.has,J I r.B,U r.h])) (B:K.grownBy D (T x))
  (n:Below D.heap.size D A) (o4:R.ownsRow W.heap.size 181 3 ZO (c.length+1) (eC c++[U l.e,ZD l.ask,ZD l.has])) (G:A.grownBy R (T i)) (F:ZO.ownBlock=T i∨ZO.ownBlock=T A.heap.size) :
  ∃s p b q,X=Z (T (Q s 0 Y)) (f++[r]).length p/\ZO=Z (T (Q b 0 Y)) (c++[l]).length q/\SB w0 hb s0 s1 W making ZI R (f++[r]) (c++[l]) made L md or st s p b q:=by
 have h3:=h.aa b3 ly;have aq:W.heap.size<K.heap.size:=ai h3.kp;have bt:W.heap.size+1<K.heap.size:=ai h3.kr;have ZK:=aj h3.r6 x rfl;obtain⟨hg6,hg6l,cs6,g⟩:=ZK
 have s3:=h3.si.grown (v:=Z (T (Q x 0 Y)) f.length P) B h3.r6 ZQ ⟨by decide,by decide,by decide⟩ (λm y u k o e=>by
  cases o
  obtain⟨_,_,cs,H⟩:=aj (h3.si.c m y u) x e
  exact absurd (ar g H) (by decide))
 have k3:=KS.grow (v:=Z (T (Q x 0 Y)) f.length P) h3.kx B h3.r6 ly ZQ;have V:D.ownsRow W.heap.size 181 3 (Z (T (Q i 0 Y)) c.length ZP) c.length (eC c):=du h3.r7 λk o=>by obtain⟨_,ZM,cs,H⟩:=aj h3.r7 k o;exact B.block k ZM λe=>by cases e;exact absurd (ar g H) (by decide)
 have ZN:=(B.block W.heap.size aq λe=>by cases e;exact absurd (ar g h3.kp) (by decide)).trans h3.kp;have O:=(B.block (W.heap.size+1) bt λe=>by have t:=BO e;exact absurd (ar g (t ▸ h3.kr)) (by decide)).trans h3.kr;obtain⟨s,p,cu6,rfl,-⟩:=ZL.2.resolve_left (λh=>by omega);have s4:=s3.aa n ly;have C:=own_below V n ly;obtain⟨hg7,hg7l,cs7,j⟩:=aj C i rfl;have z:=(n.block W.heap.size (ai ZN)).trans ZN;have E:=(n.block (W.heap.size+1) (ai O)).trans O;have s5:=s4.grown (v:=Z (T (Q i 0 Y)) c.length ZP) G C ZQ ⟨by decide,by decide,by decide⟩ (λm y u k o e=>by cases o;exact h.ap m y u e);have k5:=KS.grow (v:=Z (T (Q i 0 Y)) c.length ZP) (k3.to (KS.u n ly s3.lt)) G C ly ZQ;obtain⟨b,q,cu7,rfl,-⟩:=o4.2.resolve_left (λh=>by omega);have e6:(f++[r]).length=f.length+1:=by simp
 have ZJ:(c++[l]).length=c.length+1:=by simp
 refine⟨s,p,b,q,by rw[e6],by rw[ZJ],s5,?_,?_,λm y u e=>?_,?_,?_,k5⟩;{rw[e6,EJ];refine du (own_below ZL n ly) λk o=>?_;obtain⟨_,ZM,cs,H⟩:=aj (own_below ZL n ly) k o;exact G.block k ZM λe=>by cases e;exact absurd (ar j H) (by decide)};{rw[ZJ,Bz];exact o4};{rcases F with F|F;{have t:b=i:=BO (show T b=T i from F);exact h.ap m y u (t ▸ e)};{have t:b=A.heap.size:=BO (show T b=T A.heap.size from F);have:=(aj (s4.c m y u) _ e).2.1;omega}};{exact(G.block W.heap.size (ai z) λe=>by cases e;exact absurd (ar j z) (by decide)).trans z};{exact(G.block (W.heap.size+1) (ai E) λe=>by have t:=BO e;exact absurd (ar j (t ▸ E)) (by decide)).trans E}
theorem SI.R{r:Array ZC}{fz:Nat × Nat}(h:SI w0 hb s0 s1 w making made L md or st)(g:w.heap[b]?=T (N r t fz))(f:t≠9/\t≠179/\t≠132/\t≠181)(x:w0.heap.size<=b)(j:Nat)(u:ZC):SI w0 hb s0 s1 (w.setCell (Q b j Y) u) making made L md or st:=by
 have c:∀{size n:Nat} {i:ZH} {q:ZC} {l:List ZC},w.ownsRow w0.heap.size i size q n l->t≠i->(w.setCell (Q b j Y) u).ownsRow w0.heap.size i size q n l:=λp o=>aB p (λe=>by
  obtain⟨_,_,cs2,z⟩:=aj p b e
  exact o (ar g z)) _ _
 refine⟨h.ao.setCell x u,h.hbB,h.H.ab (qh _ _ _ _ λe=>?_),c h.W f.2.1,c h.ror f.1,c h.rst f.1,h.apart,λm y s=>c (h.c m y s) f.2.2.2⟩;simp at e;subst e;exact f.2.2.1 (ar g h.H)
theorem SB.step{p:M}{u g i:ZC}{r:List aK}{t:List Lk}{y q:Nat}{b:List Ent}{o:List SM}(h:SB w0 hb s0 s1 W making u wr r t made L md or st y q j s)(c:KS w0.heap.size XN wr p)(z:SI w0 hb s0 s1 p making b o g i f)(hX:LExt wr.heap.size L o):SB w0 hb s0 s1 W making u p r t b o g i f y q j s:=by
 refine⟨z,du h.r6 λk l=>?_,du h.r7 λk l=>?_,λm D C e=>?_,(c.ab _ _ _ _ h.kp (by decide) (by decide) (by decide) λh=>h).trans h.kp,(c.ab _ _ _ _ h.kr (by decide) (by decide) (by decide) λh=>h).trans h.kr,h.kx.to c⟩;{obtain⟨_,_,B,n⟩:=aj h.r6 k l;exact c.ab _ _ _ _ n (by decide) (by decide) (by decide) λh=>h};{obtain⟨_,_,B,n⟩:=aj h.r7 k l;exact c.ab _ _ _ _ n (by decide) (by decide) (by decide) λh=>h};{rcases hX.sn m D C with ⟨m0,E,x,A⟩|h1;{exact h.ap m0 E x (by rw[A];exact e)};{have h2:=h1 _ e;have h3:=(aj h.r7 j rfl).2.1;omega}}
theorem SB.R{r:ZC}{g:List aK}{n:List Lk}{f p:Nat}{m:Array ZC}(h:SB w0 hb s0 s1 W making r wr g n made L md or st f s p l)(c:wr.heap[b]?=T (N m t (0,0)))(o:t≠9/\t≠179/\t≠132/\t≠181)(hB:w0.heap.size<=W.heap.size)(hb1:W.heap.size+2<=b)(q:b≠f)(j:Nat)(u:ZC):SB w0 hb s0 s1 W making r (wr.setCell (Q b j Y) u) g n made L md or st f s p l/\(wr.setCell (Q b j Y) u).heap[b]?=T (N (m.setIfInBounds j u) t (0,0)):=by refine⟨⟨h.si.R c o (by omega) j u,aB h.r6 (λe=>q (BO e).symm) _ _,aB h.r7 (λe=>?_) _ _,h.ap,(qh _ _ _ _ (show W.heap.size≠b by omega)).trans h.kp,(qh _ _ _ _ (show W.heap.size+1≠b by omega)).trans h.kr,h.kx.trans (KS.setCell (X:=λi=>i=b) _ (by omega) (Or.inl rfl) u) λi hi x=>by have e2:i=b:=x;omega⟩,ay c u⟩;obtain⟨_,_,cs2,y⟩:=aj h.r7 b e;exact o.2.2.2 (ar c y)
theorem EN{S:Spc}{x:Ent}(h:EG S x):∃j rt c f g,dP x=⟨j,rt,[]⟩/\mV x=⟨c,f,g⟩/\(kL S x.e=ZA/\j=4/\c=ZA/\f=0/\g=⟨#[]⟩∨kL S x.e=ZG/\c=ZG/\f=j/\g=rt):=by
 unfold dP mV kL;rw[iZ,iZ];rcases h.E with ⟨b,_,_,i,hi,_⟩|⟨b,n,l,_,m,h1⟩|⟨b,_,h1⟩
 {exact⟨x.B,x.h,ZG,x.B,x.h,by rw[nD (by omega)],by simp[b],.inr ⟨by rw[hi];rfl,rfl,rfl,rfl⟩⟩};{exact⟨4,x.e,ZA,0,⟨#[]⟩,by rw[p7 b],by simp[b,n,l],.inl ⟨by rw[m,h1];rfl,rfl,rfl,rfl,rfl⟩⟩};{exact⟨x.B,x.h,ZG,x.B,x.h,by rw[nD (by omega)],by simp[b],.inr ⟨by rw[h1];simp,rfl,rfl,rfl⟩⟩}
end
section
variable {w0:M}{S:Spc}{a0 a1:Option Addr}{c0 c1 hb:Nat}{making:List ByteArray}
theorem EO (C:o7 w0 S a0 a1)(n:Nat)(HK:nf w0 S hb (Z a0 S.n0 c0) (Z a1 S.n1 c1) n)(z:List Ent)(L0:List SM)(GS Fm Jp:ZC)(w:M)(a:Option Addr)(cap tg:Nat)(Kz:making.length+n=60)(h:SI w0 hb (Z a0 S.n0 c0) (Z a1 S.n1 c1) w making z L0 GS Fm Jp)(hrel:fB L0 making z)(hp:PG S making z)(Fn:eZ S making z 201)(Kn:MT S making)(Ju:tg<S.n1)(Kk:SlIns w0 a (S.f1 tg).f (S.f1 tg).G):Calls Tryz.prog 144 #[.pointer (T (Q hb 0 Y)),.agg #[Z a (S.f1 tg).f cap]] w λe w'=>pa w0 hb (Z a0 S.n0 c0) (Z a1 S.n1 c1) making L0 w e w' (dV S (bG S n making) tg 201 z [] []):=by
 obtain⟨i6,Km,Kt,Ko,JZ⟩:=lp zn;obtain⟨i7,Kv,JY,Kd,Kw⟩:=lp EF;obtain⟨hok,hc1,Jq⟩:=bO (C.ok.G tg Ju);obtain⟨ZQ,ZO,rfl,Kl⟩:∃ZQ ZO,a=T (Q ZQ ZO Y)/\RowIns w0 ZQ ZO (S.f1 tg).f (S.f1 tg).G:=by
  rcases Kk with h|⟨b,off,e,hr⟩
  {omega};{exact⟨b,off,e,hr⟩}
 have Le:=ae Kl;have CC:=ae C;have KX:=ae HK;have mv:w0.heap.size<=w.heap.size:=h.lt;have KU:=ae (EK C.ok Ju);obtain⟨R0,JJ⟩:∃R0,R0=dV S (bG S n making) tg 201 z [] []:=⟨_,rfl⟩
 rw[<-JJ];have Lg:=ae JJ;have A2:=ae (((q9 w).alloc ly (N #[Z (T (Q ZQ ZO Y)) (S.f1 tg).f cap] 59)).alloc (by simp) (N #[J I 0,U ⟨#[]⟩,Z Y 0 0] 84));have z2:((w.alloc (N #[Z (T (Q ZQ ZO Y)) (S.f1 tg).f cap] 59)).alloc (N #[J I 0,U ⟨#[]⟩,Z Y 0 0] 84)).heap.size=w.heap.size+2:=by simp
 have kp:Hid (((w.alloc (N #[Z (T (Q ZQ ZO Y)) (S.f1 tg).f cap] 59)).alloc (N #[J I 0,U ⟨#[]⟩,Z Y 0 0] 84)).heap[w.heap.size]?=T (N #[Z (T (Q ZQ ZO Y)) (S.f1 tg).f cap] 59 (0,0))) :=
  (((eL (w.heap.size+1) _).alloc (by simp) _).block w.heap.size (by omega)).trans (n6 w _)
 have kr:Hid (((w.alloc (N #[Z (T (Q ZQ ZO Y)) (S.f1 tg).f cap] 59)).alloc (N #[J I 0,U ⟨#[]⟩,Z Y 0 0] 84)).heap[w.heap.size+1]?=T (N #[J I 0,U ⟨#[]⟩,Z Y 0 0] 84 (0,0))):=by have h2:=n6 (w.alloc (N #[Z (T (Q ZQ ZO Y)) (S.f1 tg).f cap] 59)) (N #[J I 0,U ⟨#[]⟩,Z Y 0 0] 84);rw[show(w.alloc (N #[Z (T (Q ZQ ZO Y)) (S.f1 tg).f cap] 59)).heap.size=w.heap.size+1 by simp] at h2;exact h2
 have Id:=ae (h.aa A2 ly);have Kb:=ae hrel;have J0:=ae hp;have Kq:=ae Fn;have KQ:=ae Kn;clear h C HK Kl Kk JJ hrel hp Fn Kn;go_enter func144,ntmps144;go_upto_region 1 with fail;generalize World.alloc (World.alloc w _) _=W2 at A2 z2 kp kr Id ⊢;have hzW2:w.heap.size+2<=W2.heap.size:=by omega
 clear z2;have A3:=ae ((q9 W2).alloc ly (N #[] 232));have O6:=ae (nJ W2 232 3);go_upto_region 2 with fail;generalize World.alloc W2 _=W3 at A3 O6 ⊢;have A4:=ae ((q9 W3).alloc ly (N #[] 181));have O7:=ae (nJ W3 181 3);go_wp2_with fail;generalize World.alloc W3 _=W4 at A4 O7 ⊢;have qr:=ae (A3.trans (A4.mono A3.size));have AW:=ae (A2.trans (qr.mono A2.size));have hw32:W2.heap.size<=W3.heap.size:=A3.size;have Kf:Hid (SB w0 hb (Z a0 S.n0 c0) (Z a1 S.n1 c1) w making (Z (T (Q ZQ ZO Y)) (S.f1 tg).f cap) W4 [] [] z L0 GS Fm Jp W2.heap.size 0 W3.heap.size 0):=by refine⟨Id.aa qr ly,aC (own_below O6 A4 ly) (by omega),aC O7 (by omega),λm hm hd e=>?_,(qr.block _ (by omega)).trans kp,(qr.block _ (by omega)).trans kr,KS.u AW ly mv⟩;have:=(aj (Id.c m hm hd) _ e).2.1;omega
 have J7:Hid (SR w0 S hb (Z a0 S.n0 c0) (Z a1 S.n1 c1) w n making tg (Z (T (Q ZQ ZO Y)) (S.f1 tg).f cap) L0 R0 W4 [] [] z L0 GS Fm Jp W2.heap.size 0 W3.heap.size 0) :=
  ⟨Kf,Kb,J0,uy S z,Kq,Lg.symm,E4 _,LExt.refl _ _⟩
 clear Kf O6 O7 A3 A4 A2 qr AW Id Kb J0 Kq kp kr;go_loopg [6,7] 202 (λg v6 v7 wr=>∃f F made L md or st g6 c6 g7 c7,v6=Z (T (Q g6 0 Y)) (List.length (α:=aK) f) c6/\v7=Z (T (Q g7 0 Y)) (List.length (α:=Lk) F) c7/\Hid (SR w0 S hb (Z a0 S.n0 c0) (Z a1 S.n1 c1) w n making tg (Z (T (Q ZQ ZO Y)) (S.f1 tg).f cap) L0 R0 wr f F made L md or st g6 c6 g7 c7)/\201 - f.length<=g);case atStart=>exact⟨[],[],z,L0,GS,Fm,Jp,_,_,_,_,rfl,rfl,J7,by simp⟩
 case round =>
  clear J7;obtain⟨f,F,made,L,md,or,st,g6,c6,g7,c7,rfl,rfl,u,hg⟩:=hrel;have k0:wr.cell? (Q w.heap.size 0 Y)=T (Z (T (Q ZQ ZO Y)) (S.f1 tg).f cap):=by simp[World.cell?,u.sb.kp]
  have hkl:=ai u.sb.kp;have hy:=u.le;have Ku:F.length=f.length:=u.rg.len;obtain⟨ZL,hT⟩:∃ZL,ZL=eS S tg f:=⟨_,rfl⟩
  have HT:=ae hT;have Kc:=ae Ku;clear hT Ku;go_wp2_with fail;refine(uw ZQ ZO (S.f1 tg).f cap g6 0 f.length c6 (S.f1 tg).G (yL f) wr (by omega) (Le.aa u.sb.si.ao ly) (GT u.sb.r6) KU).mono ?_;rintro e K ⟨he,ZM⟩;rw[BD CC.ok Ju u.rg.good u.le,<-HT.out] at he;subst he;have Ld:=ae (u.sb.aa ZM ly);have JH:=ae (uz CC.ok Ju u.rg.good);rw[<-HT.out] at JH;clear ZM k0;obtain⟨over,code,text,ask,name,steps⟩:=ZL;simp only[Turn.v];have A5:=ae ((q9 K).alloc ly (N #[ZD over,J I code,U text,ZD ask,U name,J I steps] 229));have kt:Hid (TBx (K.alloc (N #[ZD over,J I code,U text,ZD ask,U name,J I steps] 229)) K.heap.size over code text ask name steps):=n6 _ _;obtain⟨t0,t1,t2,t3,t4⟩:=kt.cells;have o:=ae (Ld.aa A5 ly);cases over with
  |true =>
   have KH:Hid (R0=.inl (made,(⟨ZG,code,text,ask,name,steps⟩,F))):=by show _=_;rw[<-u.run,show 201 - f.length=(200 - f.length)+1 by omega,dV,<-HT.out,p7 rfl]
   obtain⟨rl,r0,r1,r2,rf⟩:=bu o.kr;obtain⟨Ks,J9,Kh⟩:=al3 rf;clear rf;go_wp2_with fail;generalize World.alloc K _=W5 at A5 kt o r0 r1 r2 Ks J9 Kh rl t0 t1 t2 t3 t4 ⊢;refine bp (v:=.tuple #[.agg #[J I code,U text,Z Y 0 0],Z (T (Q g7 0 Y)) F.length c7]) (by simp[results,results144,go_sem,r0,r1,r2]) rfl ?_;have R:w0.heap.size<=w.heap.size+1:=by omega
   have x0:=o.si.R o.kr ⟨by decide,by decide,by decide,by decide⟩ R 0 (J I code);have y0:=ay o.kr (j:=0) (J I code);have x1:=x0.R y0 ⟨by decide,by decide,by decide,by decide⟩ R 1 (U text);have y1:=ay y0 (j:=1) (U text);have x2:=x1.R y1 ⟨by decide,by decide,by decide,by decide⟩ R 2 (Z Y 0 0);have Bk:g7≠w.heap.size+1:=λe=>by obtain⟨_,_,cs,hc⟩:=aj o.r7 g7 rfl;exact absurd (ar (e ▸ hc) o.kr) (by decide)
   rw[KH.out];refine⟨L,md,or,st,g7,c7,rfl,x2,u.rel,aB (aB (aB o.r7 (λe=>Bk (BO e)) _ _) (λe=>Bk (BO e)) _ _) (λe=>Bk (BO e)) _ _,o.ap,u.ext,?_⟩;refine((o.kx.trans (KS.setCell (X:=λi=>i=w.heap.size+1) W5 R (Or.inl rfl) (J I code)) ?_).trans (KS.setCell (X:=λi=>i=w.heap.size+1) _ R (Or.inl rfl) (U text)) ?_).trans (KS.setCell (X:=λi=>i=w.heap.size+1) _ R (Or.inl rfl) (Z Y 0 0)) ?_;all_goals
    intro i hi h;have e2:i=w.heap.size+1:=h;omega
  |false =>
   have hyl:f.length<200:=by
    rcases JH.out with h|h;{exact absurd h.1 (by simp)};{exact h.2.1}
   have HN:Hid (aw name=ZG):=by
    rcases JH.out with h|h;{exact absurd h.1 (by simp)};{exact h.2.2}
   cases ask with
   |false =>
    have A:=u.run;rw[show 201 - f.length=(200 - f.length)+1 by omega,dV,<-HT.out,nD (by simp),p7 rfl] at A;obtain⟨G,th⟩:∃G,G=kL S name:=⟨_,rfl⟩
    have Kg:=ae th;simp only at A;rw[<-th] at A;have NX:=ae A;clear A th;go_wp2_with fail;clear t0 t1 t2 t3 t4;generalize World.alloc K _=W5 at A5 kt o ⊢;obtain⟨ZK,b0,b1,-⟩:=o.si.H.D;refine(o9 CC W5 name o.si.ao ZK b0 b1).mono ?_;rintro e H ⟨he,ZM⟩;rw[<-Kg.out] at he;subst he;have E:=ae (o.aa ZM ly);have aq:Hid (TBx H K.heap.size ZA code text ZA name steps):=(ZM.block _ (ai kt)).trans kt;clear ZM b0 b1 ZK;have q:=ae ((q9 H).alloc ly (N #[ZD G,J I 0,U ⟨#[]⟩] 232));have RA:=ae (own_below E.r6 q ly);have JB:w.heap.size<=H.heap.size:=E.kx.aa.size
    go_upto_region 9 with (first
     |(at_builtin;refine bD _ rfl (.tmp 32) (.tmp 35) 227 rfl w.heap.size 232 i6 (.agg #[ZD ZA,J I 0,U ⟨#[]⟩]) 3 32 underlying227 Km Kt Ko JZ rfl (by decide) (Z (T (Q g6 0 Y)) f.length c6) f.length (mg f) (by simp[Act.eval]) RA.out (Q H.heap.size 0 Y) 1 1 [ZD G,J I 0,U ⟨#[]⟩] (by simp[Act.eval]) rfl (jt H _ _ _ _) (by simp[Value.oneCell']) (by unfold maxLen;omega) (by omega) (by simp<;>omega) ?_;intro v3 s ZI ZN DQ;have O3:=ae ZI;have G3:=ae ZN;clear ZI ZN DQ)
     |fail)
    have ld:Hid (∀(k:Nat) (cs:Array ZC) (t:ZH) (fz:Nat × Nat),(H.alloc (N #[ZD G,J I 0,U ⟨#[]⟩] 232)).heap[k]?=T (Obj.cells cs t fz)->t≠232->s.heap[k]?=(H.alloc (N #[ZD G,J I 0,U ⟨#[]⟩] 232)).heap[k]?):=λk cs t fz hk ht=>G3.block k (ai hk) λe=>by obtain⟨_,_,KO,Jq⟩:=aj RA k e.symm;exact ht (ar hk Jq)
    have ph:Hid (TBx s K.heap.size ZA code text ZA name steps):=by have h0:=(q.block _ (ai aq)).trans aq;exact(ld _ _ _ _ h0 (by decide)).trans h0
    have JL:Hid (s.ownsRow w.heap.size 181 3 (Z (T (Q g7 0 Y)) F.length c7) F.length (eC F)):=du (own_below E.r7 q ly) λk hk=>by obtain⟨_,_,cs,hc⟩:=aj (own_below E.r7 q ly) k hk;exact ld _ _ _ _ hc (by decide)
    obtain⟨-,-,-,-,n4⟩:=ph.cells;have KF:=ai ph.out;have A7:=ae ((q9 s).alloc ly (N #[U name,ZD ZA,ZD G] 181));have RS:=ae (own_below JL A7 ly);have KP:w.heap.size<=s.heap.size:=p9 (p9 JB (by simp<;>omega)) G3.size;have ur:=Kc.out;obtain⟨ZP,V⟩:∃ZP,ZP=F.length:=⟨_,rfl⟩
    have JW:ZP<=200:=by omega
    have JT:=ae V;rw[<-V] at RS ⊢;clear ur V
    go_wp2_with (first
     |(at_builtin;refine bD _ rfl (.tmp 37) (.tmp 42) 177 rfl w.heap.size 181 i7 (.agg #[U ⟨#[]⟩,ZD ZA,ZD ZA]) 3 24 underlying177 Kv JY Kd Kw rfl (by decide) (Z (T (Q g7 0 Y)) ZP c7) ZP (eC F) (by simp[Act.eval]) RS.out (Q s.heap.size 0 Y) 1 1 [U name,ZD ZA,ZD G] (by simp[Act.eval]) rfl (jt s _ _ _ _) (by simp[Value.oneCell']) (by unfold maxLen;omega) (by omega) (by simp<;>omega) ?_;intro v4 w4 bt O dg;have O4:=ae bt;have G4:=ae O;have JA:=ae dg;clear bt O dg)
     |fail)
    obtain⟨JK,JR,JM,Jy,e6,e7,JD⟩:=E.more (r:=⟨G,0,⟨#[]⟩⟩) (l:=⟨name,ZA,G⟩) mv q O3 G3 A7 (by rw[<-JT.out];exact O4) G4 JA;have D:(f++[(⟨G,0,⟨#[]⟩⟩:aK)]).length=f.length+1:=by simp
    have JC:Hid (SR w0 S hb (Z a0 S.n0 c0) (Z a1 S.n1 c1) w n making tg (Z (T (Q ZQ ZO Y)) (S.f1 tg).f cap) L0 R0 w4 (f++[⟨G,0,⟨#[]⟩⟩]) (F++[⟨name,ZA,G⟩]) made L md or st JK JR JM Jy) :=
     ⟨JD,u.rel,u.pg,(u.rg.add (by rw[Kg.out];exact xE _ _) HN (λh=>by cases h)),(by rw[D,show 201 - (f.length+1)=200 - f.length by omega];exact(by have:=u.room;unfold eZ at this ⊢;omega)),(by rw[D,show 201 - (f.length+1)=200 - f.length by omega];exact NX),(by rw[D];omega),u.ext⟩
    obtain⟨g,rfl⟩:∃g,gk=g+1:=⟨gk - 1,by omega⟩
    go_roundg g;case measure=>omega
    case rel=>exact⟨_,_,_,_,_,_,_,_,_,_,_,e6,e7,JC,by rw[D];omega⟩
   |true =>
    have A:=u.run;rw[show 201 - f.length=(200 - f.length)+1 by omega,dV,<-HT.out,nD (by simp),nD (by simp)] at A;simp only at A;go_wp2_with fail;clear t0 t1 t2 t3 t4;generalize World.alloc K _=W5 at A5 kt o ⊢;refine(KX making made L md or st W5 name Kz o.si u.rel u.pg (by have:=u.room;unfold eZ at this ⊢;omega) KQ HN).mono ?_;intro e H P;have HQ:(∃B x,bG S n making made name=.inl (B,x))∨∃(r:kM) (va:Option Addr) (vn vk:Nat),e=ZF (ji r (Z va vn vk))/\i8 w0 hb H r (Z va vn vk)/\KS w0.heap.size XN W5 H/\Hid (∀vs w',i8 w0 hb w' r (Z va vn vk)->KS w0.heap.size XN w w'->pa w0 hb (Z a0 S.n0 c0) (Z a1 S.n1 c1) making L0 w (ZF (.tuple #[ji r (Z va vn vk),vs])) w' R0):=by
     rcases hr:bG S n making made name with ⟨B,x⟩|c|d;{exact .inl ⟨_,_,rfl⟩};all_goals
      rw[hr] at P A;dsimp only at A;subst A
     {obtain⟨ca,ck,rfl,hd,hK⟩:=P;exact .inr ⟨_,_,_,_,rfl,hd,hK,λvs w' h1 h2=>⟨ca,ck,vs,rfl,h1,h2⟩⟩};{obtain⟨rfl,hd,hK⟩:=P;exact .inr ⟨_,_,_,_,rfl,hd,hK,λvs w' h1 h2=>⟨vs,rfl,h1,h2⟩⟩}
    rcases HQ with ⟨B,x,hr⟩|⟨r,va,vn,vk,rfl,⟨q0,q1,qm,qo,qs,Jw,Kx⟩,hK,fin⟩
    ·rw[hr] at P A;dsimp only at A;obtain⟨L2,KM,Lc,KE,rfl,Ka,JG,JP,hK⟩:=P;obtain⟨Js,⟨more,Jv⟩,hx,JF⟩:=ma CC.ok n making made name B x u.pg HN hr;have Jt:=lZ S n making made name B x hr;have JU:∀y∈made,y∈B:=λy hy=>by rw[Jv];exact OB _ hy
     have JQ:=ae (o.step hK Ka JP);have KT:=ae JG;have Lb:=ae Js;have Ke:Hid (RG S B (f++[mV x]) (F++[⟨name,ZG,ZA⟩])):=(u.rg.mono JU).add (xF (Js.ents x hx)) HN (λ_=>⟨x,hx,JF⟩);have KC:Hid (eZ S making B (200 - f.length)):=by have:=u.room;unfold eZ at this ⊢;unfold gu at Jt;show _<=_;omega
     have KD:=ae (u.ext.trans JP o.kx.aa.size);have At:Hid (TBx H K.heap.size ZA code text ZG name steps):=(hK.ab _ _ _ _ kt (by decide) (by decide) (by decide) λh=>h).trans kt;have NX:=ae A;obtain⟨rc,rt,ob,oc,ot,J5,JX,J6⟩:=EN (Js.ents x hx);rw[JX] at Ke NX;have hz25:W5.heap.size<=H.heap.size:=hK.aa.size;have hg65:g6<W5.heap.size:=(aj o.r6 g6 rfl).2.1;have hw25:w.heap.size+2<=W5.heap.size:=ai o.kr;rw[JF] at J6;simp only[J5];clear Ka JG JP hK Js Jv hx JF Jt JU hr A J5 JX;obtain⟨W6,DE⟩:∃W:M,H.alloc (N #[J I rc,U rt,Z Y 0 0] 84)=W:=⟨_,rfl⟩
     obtain⟨q,Ki,-⟩:=nb1 DE;have JI:=ae DE;clear DE;obtain⟨ZK,-,-,-,-,-,-,-,-,b8,-⟩:=JQ.si.H.D;have d8:=(q.cell (p:=(Q hb 8 Y)) ZK).trans b8;obtain⟨rl,r0,r1,-,-⟩:=bu Ki;go_upto_region 13 with fail;clear d8 b8;rw[JI.out];clear JI;obtain⟨ZJ,DS⟩:∃W:M,W6.alloc (N #[ZD ZG,J I rc,U rt] 232)=W:=⟨_,rfl⟩
     obtain⟨A7,ky,-⟩:=nb1 DS;have JS:=ae DS;clear DS;go_upto_region 14 with fail;rw[JS.out];clear JS;have Kj:=ae (q.trans (A7.mono q.size));have n9:=ae (JQ.aa Kj ly);have ro:Hid (TBx ZJ K.heap.size ZA code text ZG name steps):=(Kj.block _ (ai At)).trans At;have r7:=(A7.cell (p:=(Q H.heap.size 0 Y)) rl).trans r0;have sm:H.heap.size<ZJ.heap.size:=lj rl A7.size;obtain⟨-,-,-,-,tn⟩:=ro.cells;have la:=ai ro.out;obtain⟨yb,J8⟩:∃yb,yb=W6.heap.size:=⟨_,rfl⟩
     rw[<-J8] at ky ⊢;have Fk:w.heap.size+2<=yb:=by have:=q.size;omega
     have DH:yb≠g6:=by have:=q.size;omega
     clear J8 JQ At A7 q Ki r0 r1;obtain⟨fd,b0,b1,-⟩:=n9.si.H.D;rcases J6 with ⟨JV,e4,e3⟩|⟨JV,e3⟩
     case' inr=>by_cases h4:rc=4
     all_goals
      have Kr:=ae JV;have E3:=ae e3;clear JV e3
     case' inl =>
      subst e4;go_wp2_with fail;refine(o9 CC ZJ name n9.si.ao fd b0 b1).mono ?_;rintro e s ⟨he,ZM⟩;rw[Kr.out] at he;subst he;have Lf:=ae (n9.aa ZM ly);have J4:Hid (TBx s K.heap.size ZA code text ZG name steps):=(ZM.block _ la).trans ro;have Jr:=(ZM.block _ (ai ky)).trans ky;obtain⟨yl,y0,y1,y2,yf⟩:=bu Jr;obtain⟨KV,La,KZ⟩:=al3 yf;have x0:=Lf.R Jr ⟨by decide,by decide,by decide,by decide⟩ mv Fk DH 0 (ZD ZA);have x1:=x0.1.R x0.2 ⟨by decide,by decide,by decide,by decide⟩ mv Fk DH 1 (J I 0);have x2:=x1.1.R x1.2 ⟨by decide,by decide,by decide,by decide⟩ mv Fk DH 2 (U ⟨#[]⟩);have E:=ae x2.1;have Jz:K.heap.size≠yb:=λe=>absurd (ar (show s.heap[K.heap.size]?=_ from J4.out) (e ▸ Jr)) (by decide);have aq:Hid (TBx (((s.setCell (Q yb 0 Y) (ZD ZA)).setCell (Q yb 1 Y) (J I 0)).setCell (Q yb 2 Y) (U ⟨#[]⟩)) K.heap.size ZA code text ZG name steps):=(qh _ _ _ _ Jz).trans ((qh _ _ _ _ Jz).trans ((qh _ _ _ _ Jz).trans J4));have KY:Hid ((((s.setCell (Q yb 0 Y) (ZD ZA)).setCell (Q yb 1 Y) (J I 0)).setCell (Q yb 2 Y) (U ⟨#[]⟩)).heap[yb]?=T (N #[ZD ob,J I oc,U ot] 232 (0,0))):=by rw[E3.1,E3.2.1,E3.2.2];exact x2.2
      clear x0 x1 x2 ZM tn b0 b1 fd r7 sm la rl Jr;go_upto_region 16 with fail;clear y0 y1 y2 KV La KZ yl;generalize World.setCell (World.setCell (World.setCell s _ _) _ _) _ _=ZJ at E KY aq ⊢
     case' pos =>
      subst h4;go_wp2_with fail;refine(o9 CC ZJ name n9.si.ao fd b0 b1).mono ?_;rintro e s ⟨he,ZM⟩;rw[Kr.out] at he;subst he;have E:=ae (n9.aa ZM ly);have aq:Hid (TBx s K.heap.size ZA code text ZG name steps):=(ZM.block _ la).trans ro;have KY:Hid (s.heap[yb]?=T (N #[ZD ob,J I oc,U ot] 232 (0,0))):=by rw[E3.1,E3.2.1,E3.2.2];exact(ZM.block _ (ai ky)).trans ky
      clear ZM tn b0 b1 fd r7 sm la rl;go_upto_region 16 with fail;generalize s=ZJ at E KY aq ⊢
     case' neg =>
      have h4b:(rc == 4)=ZA:=by simpa using h4
      have E:=n9;have aq:=ro;have KY:Hid (ZJ.heap[yb]?=T (N #[ZD ob,J I oc,U ot] 232 (0,0))):=by rw[E3.1,E3.2.1,E3.2.2];exact ky
      go_upto_region 16 with fail;clear tn b0 b1 fd r7 sm la rl
     all_goals
      obtain⟨yl,y0,y1,y2,-⟩:=bu KY;have q:=ae ((q9 ZJ).alloc ly (N #[ZD ob,J I oc,U ot] 232));have RA:=ae (own_below E.r6 q ly);have JB:w.heap.size<=ZJ.heap.size:=E.kx.aa.size
      go_upto_region 17 with (first
       |(at_builtin;refine bD _ rfl (.tmp 73) (.tmp 75) 227 rfl w.heap.size 232 i6 (.agg #[ZD ZA,J I 0,U ⟨#[]⟩]) 3 32 underlying227 Km Kt Ko JZ rfl (by decide) (Z (T (Q g6 0 Y)) f.length c6) f.length (mg f) (by simp[Act.eval]) RA.out (Q ZJ.heap.size 0 Y) 1 1 [ZD ob,J I oc,U ot] (by simp[Act.eval]) rfl (jt ZJ _ _ _ _) (by simp[Value.oneCell']) (by unfold maxLen;omega) (by omega) (by simp<;>omega) ?_;intro v3 s ZI ZN DQ;have O3:=ae ZI;have G3:=ae ZN;clear ZI ZN DQ)
       |fail)
      have ld:Hid (∀(k:Nat) (cs:Array ZC) (t:ZH) (fz:Nat × Nat),(ZJ.alloc (N #[ZD ob,J I oc,U ot] 232)).heap[k]?=T (Obj.cells cs t fz)->t≠232->s.heap[k]?=(ZJ.alloc (N #[ZD ob,J I oc,U ot] 232)).heap[k]?):=λk cs t fz hk ht=>G3.block k (ai hk) λe=>by obtain⟨_,_,KO,Jq⟩:=aj RA k e.symm;exact ht (ar hk Jq)
      have ph:Hid (TBx s K.heap.size ZA code text ZG name steps):=by have h0:=(q.block _ (ai aq)).trans aq;exact(ld _ _ _ _ h0 (by decide)).trans h0
      have JL:Hid (s.ownsRow w.heap.size 181 3 (Z (T (Q g7 0 Y)) F.length c7) F.length (eC F)):=du (own_below E.r7 q ly) λk hk=>by obtain⟨_,_,cs,hc⟩:=aj (own_below E.r7 q ly) k hk;exact ld _ _ _ _ hc (by decide)
      obtain⟨-,-,-,-,n4⟩:=ph.cells;have KF:=ai ph.out;have A7:=ae ((q9 s).alloc ly (N #[U name,ZD ZG,ZD ZA] 181));have RS:=ae (own_below JL A7 ly);have KP:w.heap.size<=s.heap.size:=p9 (p9 JB (by simp<;>omega)) G3.size;have ur:=Kc.out;obtain⟨ZP,V⟩:∃ZP,ZP=F.length:=⟨_,rfl⟩
      have JW:ZP<=200:=by omega
      have JT:=ae V;rw[<-V] at RS ⊢;clear ur V
      go_wp2_with (first
       |(at_builtin;refine bD _ rfl (.tmp 77) (.tmp 81) 177 rfl w.heap.size 181 i7 (.agg #[U ⟨#[]⟩,ZD ZA,ZD ZA]) 3 24 underlying177 Kv JY Kd Kw rfl (by decide) (Z (T (Q g7 0 Y)) ZP c7) ZP (eC F) (by simp[Act.eval]) RS.out (Q s.heap.size 0 Y) 1 1 [U name,ZD ZG,ZD ZA] (by simp[Act.eval]) rfl (jt s _ _ _ _) (by simp[Value.oneCell']) (by unfold maxLen;omega) (by omega) (by simp<;>omega) ?_;intro v4 w4 bt O dg;have O4:=ae bt;have G4:=ae O;have JA:=ae dg;clear bt O dg)
       |fail)
      obtain⟨JK,JR,JM,Jy,e6,e7,JD⟩:=E.more (r:=⟨ob,oc,ot⟩) (l:=⟨name,ZG,ZA⟩) mv q O3 G3 A7 (by rw[<-JT.out];exact O4) G4 JA;have D:(f++[(⟨ob,oc,ot⟩:aK)]).length=f.length+1:=by simp
      have JC:Hid (SR w0 S hb (Z a0 S.n0 c0) (Z a1 S.n1 c1) w n making tg (Z (T (Q ZQ ZO Y)) (S.f1 tg).f cap) L0 R0 w4 (f++[⟨ob,oc,ot⟩]) (F++[⟨name,ZG,ZA⟩]) B L2 KM Lc KE JK JR JM Jy) :=
       ⟨JD,KT,Lb,Ke,(by rw[D,show 201 - (f.length+1)=200 - f.length by omega];exact KC),(by rw[D,show 201 - (f.length+1)=200 - f.length by omega];exact NX),(by rw[D];omega),KD⟩
      obtain⟨g,rfl⟩:∃g,gk=g+1:=⟨gk - 1,by omega⟩
      go_roundg g;case measure=>omega
      case rel=>exact⟨_,_,_,_,_,_,_,_,_,_,_,e6,e7,JC,by rw[D];omega⟩
    ·clear P A;obtain⟨ZK,-,-,-,-,-,b5,b6,b7,b8,-⟩:=Jw.D;have Hx:=(hK.ab _ _ _ _ o.kr (by decide) (by decide) (by decide) λh=>h).trans o.kr;have KW:=ae (o.kx.to hK);have KN:=ae Jw;have Ky:=ae Kx;have q:=ae ((q9 H).alloc ly (N #[J I r.B,U r.h,Z va vn vk] 84));have JE:=(q.block _ (ai Hx)).trans Hx;obtain⟨rl,r0,r1,r2,rf⟩:=bu JE;have d5:=(q.cell (p:=(Q hb 5 Y)) ZK).trans b5;have d6:=(q.cell (p:=(Q hb 6 Y)) ZK).trans b6;have d7:=(q.cell (p:=(Q hb 7 Y)) ZK).trans b7;have d8:=(q.cell (p:=(Q hb 8 Y)) ZK).trans b8;obtain⟨Ks,J9,Kh⟩:=al3 rf;have Fd:hb≠w.heap.size+1:=λe=>absurd (ar (e ▸ Jw) Hx) (by decide);have KJ:=ae JE;clear rf Jw Kx hK b5 b6 b7 b8 Hx JE;simp only[ji];go_wp2_with fail;refine bp (v:=.tuple #[ji r (Z va vn vk),Z (T (Q g7 0 Y)) F.length c7]) (by simp[results,results144,go_sem,r0,r1,r2,ji]) rfl ?_;have R:w0.heap.size<=w.heap.size+1:=by omega
     have KB:∀(W:M) (v0 v1 v2:ZC),(((W.setCell (Q (w.heap.size+1) 0 Y) v0).setCell (Q (w.heap.size+1) 1 Y) v1).setCell (Q (w.heap.size+1) 2 Y) v2).heap[hb]?=W.heap[hb]?:=λW v0 v1 v2=>(qh _ _ _ _ Fd).trans ((qh _ _ _ _ Fd).trans (qh _ _ _ _ Fd));have JO:∀k,(Value.slice va vn vk).ownBlock=T k->k≠w.heap.size+1:=λk hk e=>by obtain⟨_,_,cs,hc⟩:=aj (own_below Ky q ly) k hk;exact absurd (ar (e ▸ hc) KJ) (by decide)
     refine fin (Z (T (Q g7 0 Y)) F.length c7) _ ⟨q0,q1,qm,qo,qs,(KB _ _ _ _).trans ((q.block _ ZK).trans KN),aB (aB (aB (own_below Ky q ly) (λe=>JO _ e rfl) _ _) (λe=>JO _ e rfl) _ _) (λe=>JO _ e rfl) _ _⟩ ?_;refine((((KW.to (KS.u q ly (p9 mv KW.aa.size))).trans (KS.setCell (X:=λi=>i=w.heap.size+1) _ R (Or.inl rfl) _) ?_).trans (KS.setCell (X:=λi=>i=w.heap.size+1) _ R (Or.inl rfl) _) ?_).trans (KS.setCell (X:=λi=>i=w.heap.size+1) _ R (Or.inl rfl) _) ?_);all_goals
      intro i hi h;have e2:i=w.heap.size+1:=h;omega
end
