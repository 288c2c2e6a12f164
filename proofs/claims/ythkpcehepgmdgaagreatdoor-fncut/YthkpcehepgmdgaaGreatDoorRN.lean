import Derived.Test.YthkpcehepgmdgaaGreatDoorRL
import Derived.Test.YthkpcehepgmdgaaGreatDoorSZ
import Derived.Deep.Cut
set_option maxRecDepth 1000000
set_option maxHeartbeats 8000000
open Go renaming Addr.mk->Q,Value.slice->Z,Value.string->U,Value.int->J,Value.bool->ZC,Value.agg->ZH,Obj.cells->N,IntKind.i64->I,World->G,Value->ZD,TypeId->ZI,Ending.returned->ZG,World.heap->h,World.ownsRow->ZX,World.alloc->ZV,World.cell?->ZW,World.setCell->ZT
open Option renaming none->Y,some->T
open Bool renaming false->ZB,true->ZF
open Array renaming size->A
open List renaming length->ZU
namespace Go.Proofs.YthkpcehepgmdgaaGreatDoor.Vp
open Tryz RowKit
variable {W wr w:G}{b n j p g size:Nat}{t e:ZI}{i:ZD}{o:List Lk}
structure SB (w0:G)(hb:Nat)(s0 s1:ZD)(w:G)(making:List ByteArray)(pv:ZD)(wr:G)(ys:List ay)(ls:List Lk)(made:List Ent)(L:List SM)(md or st:ZD)(g6 c6 g7 c7:Nat):Prop where
 si:SI w0 hb s0 s1 wr making made L md or st
 r6:ZX wr (A (h w)) 125 3 (Z (T (Q g6 0 Y)) (ZU ys) c6) (ZU ys) (lP ys)
 r7:ZX wr (A (h w)) 140 3 (Z (T (Q g7 0 Y)) (ZU ls) c7) (ZU ls) (er ls)
 ap:∀m∈L,m.done=ZF->m.sv.ownBlock≠T g7
 kp:wr.heap[A (h w)]?=T (N #[pv] 41 (0,0))
 kr:wr.heap[A (h w)+1]?=T (N #[J I 0,U ⟨#[]⟩,Z Y 0 0] 47 (0,0))
 kx:KS (A (h w0)) XN w wr
structure SR (w0:G)(S:Spc)(hb:Nat)(s0 s1:ZD)(w:G)(n:Nat)(making:List ByteArray)(tg:Nat)(pv:ZD)(L0:List SM)(R0:Out (Turn × List Lk))(wr:G)(ys:List ay)(ls:List Lk)(made:List Ent)(L:List SM)(md or st:ZD)(g6 c6 g7 c7:Nat):Prop where
 sb:SB w0 hb s0 s1 w making pv wr ys ls made L md or st g6 c6 g7 c7
 rel:fx L making made
 pg:PG S making made
 rg:RG S made ys ls
 room:eX S making made (201 - (ZU ys))
 run:bS S (aL S n making) tg (201 - (ZU ys)) made ys ls=R0
 le:ZU ys<=200
 ext:LExt (A (h w)) L0 L
def TBx (w:G)(g:Nat)(over:Bool)(code:Int)(text:ByteArray)(ask:Bool)(name:ByteArray)(steps:Int):Prop:=w.heap[g]?=T (N #[ZC over,J I code,U text,ZC ask,U name,J I steps] 122 (0,0))
theorem TBx.cells{over:Bool}{code:Int}{text:ByteArray}{ask:Bool}{name:ByteArray}{steps:Int}(ZZ:TBx w g over code text ask name steps):ZW w (Q g 0 Y)=T (ZC over)/\ZW w (Q g 1 Y)=T (J I code)/\ZW w (Q g 2 Y)=T (U text)/\ZW w (Q g 3 Y)=T (ZC ask)/\ZW w (Q g 4 Y)=T (U name):=by unfold TBx at ZZ;refine⟨?_,?_,?_,?_,?_⟩;all_goals simp[World.cell?,ZZ]
def oU (w0:G)(hb:Nat)(s0 s1:ZD)(making:List ByteArray)(L:List SM)(w:G)(e:Ending)(w':G):Out (Turn × List Lk)->Prop
 |.inl (made',x)=>∃b i f ZZ g c,e=ZG (.tuple #[ZH #[J I x.1.E,U x.1.B,Z Y 0 0],Z (T (Q g 0 Y)) x.2.length c])/\SI w0 hb s0 s1 w' making made' b i f ZZ/\fx b making made'/\ZX w' (A (h w)) 140 3 (Z (T (Q g 0 Y)) x.2.length c) x.2.length (er x.2)/\(∀m∈b,m.done=ZF->m.sv.ownBlock≠T g)/\LExt (A (h w)) L b/\KS (A (h w0)) XN w w'
 |.inr (.inl c)=>∃a k sv,e=ZG (.tuple #[iP (i8 c) (Z a (ZU c) k),sv])/\iJ w0 hb w' (i8 c) (Z a (ZU c) k)/\KS (A (h w0)) XN w w'
 |.inr (.inr d)=>∃sv,e=ZG (.tuple #[iP (ja d) (Z Y 0 0),sv])/\iJ w0 hb w' (ja d) (Z Y 0 0)/\KS (A (h w0)) XN w w'
theorem jb (w:G)(b i g:ZD)(t:ZI):∀j u,[b,i,g][j]?=T u->(ZV w (N #[b,i,g] t)).cell? (((Q (A (h w)) 0 Y):Addr).add j)=T u:=by
 intro j u ZZ;rw[addr_add];have hj:j<3:=by
  rcases MJ j 3 with f|f;{exact f};{rw[LJ (by simp;omega)] at ZZ;cases ZZ}
 rcases(show j=0∨j=1∨j=2 by omega) with rfl|rfl|rfl;all_goals
  simp at ZZ;subst ZZ;simp
theorem bI{f g:ZD}(ZZ:w.heap[b]?=T (N #[f,i,g] t (0,0))):b<A (h w)/\ZW w (Q b 0 Y)=T f/\ZW w (Q b 1 Y)=T i/\ZW w (Q b 2 Y)=T g/\∀j,w.frozen? (Q b j Y)=ZB:=by refine⟨ai ZZ,?_,?_,?_,λj=>?_⟩;all_goals simp[World.cell?,World.frozen?,ZZ]
section
variable {w0 w w':G}{hb:Nat}{s0 s1 md or st:ZD}{making:List ByteArray}{made:List Ent}{L:List SM}
theorem SI.grown{v:ZD}{C:List ZD}(ZZ:SI w0 hb s0 s1 w making made L md or st)(b:w.grownBy w' v.ownBlock)(D:ZX w j e size v n C)(hB:A (h w0)<=j)(p:e≠9/\e≠137/\e≠81)(E:∀m∈L,m.done=ZF->∀k,v.ownBlock=T k->m.sv.ownBlock≠T k):SI w0 hb s0 s1 w' making made L md or st:=by
 have z:=aj D;have s:∀(i:Nat) (r:Array ZD) (t:ZI) (fz:Nat × Nat),w.heap[i]?=T (Obj.cells r t fz)->t≠e->w'.heap[i]?=w.heap[i]?:=λi r t fz hi o=>b.block i (ai hi) λl=>by obtain⟨_,_,cs2,q⟩:=z i l.symm;exact o (au hi q)
 have f:∀{size n:Nat} {t:ZI} {u:ZD} {B:List ZD},ZX w (A (h w0)) t size u n B->t≠e->ZX w' (A (h w0)) t size u n B:=λZY o=>ey ZY λk g=>by obtain⟨_,_,r,q⟩:=aj ZY k g;exact s _ _ _ _ q o
 refine⟨ZZ.az.trans ⟨b.os,b.tape,b.output,b.size,λk g=>b.block k (lj g ZZ.lt) λl=>?_⟩,ZZ.hbB,ZZ.M.ab (s _ _ _ _ ZZ.M p.2.2.symm),f ZZ.ao p.2.1.symm,f ZZ.ror p.1.symm,f ZZ.rst p.1.symm,ZZ.apart,λm x y=>ey (ZZ.V m x y) λk g=>?_⟩;{have:=(z k l.symm).1;omega};{obtain⟨_,ZS,r,q⟩:=aj (ZZ.V m x y) k g;exact b.block k ZS λl=>E m x y k l.symm g}
theorem KS.grow{v:ZD}{m:List ZD}{B:Nat}(ZZ:KS B XN W w)(p:w.grownBy w' v.ownBlock)(g:w.ownsRow b e size v n m)(q:A (h W)<=b)(f:B<=A (h W)):KS B XN W w' :=
 ZZ.trans (ZK:=λi=>v.ownBlock=T i) (KS.of_grown p (AD f ZZ.aa.size) λj l=>⟨AD (AD f q) (aj g j l).1,.inl l⟩) λi hi o=>by have:=(aj g i o).1;omega
theorem SB.aa{g:G}{l:ZD}{m:List ay}{i C:Nat}(ZZ:SB w0 hb s0 s1 W making l wr m o made L md or st n i p j)(b:Below C wr g)(f:A (h wr)<=C):SB w0 hb s0 s1 W making l g m o made L md or st n i p j :=
 ⟨ZZ.si.aa b f,own_below ZZ.r6 b f,own_below ZZ.r7 b f,ZZ.ap,(b.block _ (lj (ai ZZ.kp) f)).trans ZZ.kp,(b.block _ (lj (ai ZZ.kr) f)).trans ZZ.kr,ZZ.kx.to (KS.q b f ZZ.si.lt)⟩
theorem SB.more{ZL ZO B ZS S:G}{pv v3 P:ZD}{n:List ay}{g:List Lk}{x ZM O:Nat}{r:ay}{l:Lk}(ZZ:SB w0 hb s0 s1 W making pv ZL n g made L md or st x ZM j O)(M:A (h w0)<=A (h W))
  (b3:Below (A (h ZL)) ZL ZO) (X:ZX B (A (h W)) 125 3 v3 (ZU n+1) (lP n++[ZC r.has,J I r.E,U r.B])) (ZQ:ZO.grownBy B (T x))
  (p:Below (A (h B)) B ZS) (o4:ZX S (A (h W)) 140 3 P (ZU g+1) (er g++[U l.e,ZC l.ask,ZC l.has])) (H:ZS.grownBy S (T j)) (D:P.ownBlock=T j∨P.ownBlock=T (A (h ZS))) :
  ∃u s f t,v3=Z (T (Q u 0 Y)) (n++[r]).length s/\P=Z (T (Q f 0 Y)) (g++[l]).length t/\SB w0 hb s0 s1 W making pv S (n++[r]) (g++[l]) made L md or st u s f t:=by
 have b:=ZZ.aa b3 ly;have bt:A (h W)<A (h ZO):=ai b.kp;have ex:A (h W)+1<A (h ZO):=ai b.kr;have ZK:=aj b.r6 x rfl;obtain⟨hg6,hg6l,cs6,i⟩:=ZK
 have s3:=b.si.grown (v:=Z (T (Q x 0 Y)) (ZU n) ZM) ZQ b.r6 M ⟨by decide,by decide,by decide⟩ (λm z ZY k o e=>by
  cases o
  obtain⟨_,_,cs,C⟩:=aj (b.si.V m z ZY) x e
  exact absurd (au i C) (by decide))
 have k3:=KS.grow (v:=Z (T (Q x 0 Y)) (ZU n) ZM) b.kx ZQ b.r6 ly M;have aq:ZX B (A (h W)) 140 3 (Z (T (Q j 0 Y)) (ZU g) O) (ZU g) (er g):=ey b.r7 λk o=>by obtain⟨_,V,cs,C⟩:=aj b.r7 k o;exact ZQ.block k V λe=>by cases e;exact absurd (au i C) (by decide)
 have ZN:=(ZQ.block (A (h W)) bt λe=>by cases e;exact absurd (au i b.kp) (by decide)).trans b.kp;have R:=(ZQ.block (A (h W)+1) ex λe=>by have y:=GD e;exact absurd (au i (y ▸ b.kr)) (by decide)).trans b.kr;obtain⟨u,s,cu6,rfl,-⟩:=X.2.resolve_left (λZZ=>by omega);have ZJ:=s3.aa p ly;have ZP:=own_below aq p ly;obtain⟨hg7,hg7l,cs7,q⟩:=aj ZP j rfl;have K:=(p.block (A (h W)) (ai ZN)).trans ZN;have E:=(p.block (A (h W)+1) (ai R)).trans R;have s5:=ZJ.grown (v:=Z (T (Q j 0 Y)) (ZU g) O) H ZP M ⟨by decide,by decide,by decide⟩ (λm z ZY k o e=>by cases o;exact ZZ.ap m z ZY e);have k5:=KS.grow (v:=Z (T (Q j 0 Y)) (ZU g) O) (k3.to (KS.q p ly s3.lt)) H ZP ly M;obtain⟨f,t,cu7,rfl,-⟩:=o4.2.resolve_left (λZZ=>by omega);have e6:(n++[r]).length=ZU n+1:=by simp
 have e7:(g++[l]).length=ZU g+1:=by simp
 refine⟨u,s,f,t,by rw[e6],by rw[e7],s5,?_,?_,λm z ZY e=>?_,?_,?_,k5⟩;{rw[e6,Dp];refine ey (own_below X p ly) λk o=>?_;obtain⟨_,V,cs,C⟩:=aj (own_below X p ly) k o;exact H.block k V λe=>by cases e;exact absurd (au q C) (by decide)};{rw[e7,Ax];exact o4};{rcases D with D|D;{have y:f=j:=GD (show T f=T j from D);exact ZZ.ap m z ZY (y ▸ e)};{have y:f=A (h ZS):=GD (show T f=T (A (h ZS)) from D);have:=(aj (ZJ.V m z ZY) _ e).2.1;omega}};{exact(H.block (A (h W)) (ai K) λe=>by cases e;exact absurd (au q K) (by decide)).trans K};{exact(H.block (A (h W)+1) (ai E) λe=>by have y:=GD e;exact absurd (au q (y ▸ E)) (by decide)).trans E}
theorem SI.ak{z:Array ZD}{fz:Nat × Nat}(ZZ:SI w0 hb s0 s1 w making made L md or st)(i:w.heap[b]?=T (N z t fz))(g:t≠9/\t≠137/\t≠81/\t≠140)(s:A (h w0)<=b)(j:Nat)(u:ZD):SI w0 hb s0 s1 (ZT w (Q b j Y) u) making made L md or st:=by
 have f:∀{size n:Nat} {l:ZI} {o:ZD} {q:List ZD},ZX w (A (h w0)) l size o n q->t≠l->(ZT w (Q b j Y) u).ownsRow (A (h w0)) l size o n q:=λp r=>aH p (λe=>by
  obtain⟨_,_,cs2,x⟩:=aj p b e
  exact r (au i x)) _ _
 refine⟨ZZ.az.setCell s u,ZZ.hbB,ZZ.M.ab (qh _ _ _ _ λe=>?_),f ZZ.ao g.2.1,f ZZ.ror g.1,f ZZ.rst g.1,ZZ.apart,λm y ZY=>f (ZZ.V m y ZY) g.2.2.2⟩;simp at e;subst e;exact g.2.2.1 (au i ZZ.M)
theorem SB.step{q:G}{x g j:ZD}{z:List ay}{u:List Lk}{y r s:Nat}{b:List Ent}{o:List SM}(ZZ:SB w0 hb s0 s1 W making x wr z u made L md or st y r p s)(f:KS (A (h w0)) XN wr q)(B:SI w0 hb s0 s1 q making b o g i j)(hX:LExt (A (h wr)) L o):SB w0 hb s0 s1 W making x q z u b o g i j y r p s:=by
 refine⟨B,ey ZZ.r6 λk l=>?_,ey ZZ.r7 λk l=>?_,λm ZY E e=>?_,(f.ab _ _ _ _ ZZ.kp (by decide) (by decide) (by decide) λZZ=>ZZ).trans ZZ.kp,(f.ab _ _ _ _ ZZ.kr (by decide) (by decide) (by decide) λZZ=>ZZ).trans ZZ.kr,ZZ.kx.to f⟩;{obtain⟨_,_,C,n⟩:=aj ZZ.r6 k l;exact f.ab _ _ _ _ n (by decide) (by decide) (by decide) λZZ=>ZZ};{obtain⟨_,_,C,n⟩:=aj ZZ.r7 k l;exact f.ab _ _ _ _ n (by decide) (by decide) (by decide) λZZ=>ZZ};{rcases hX.sn m ZY E with ⟨m0,D,t,ZS⟩|h1;{exact ZZ.ap m0 D t (by rw[ZS];exact e)};{have h2:=h1 _ e;have h3:=(aj ZZ.r7 p rfl).2.1;omega}}
theorem SB.ak{r:ZD}{s:List ay}{m:Nat}{q:Array ZD}(ZZ:SB w0 hb s0 s1 W making r wr s o made L md or st g m p n)(f:wr.heap[b]?=T (N q t (0,0)))(x:t≠9/\t≠137/\t≠81/\t≠140)(hB:A (h w0)<=A (h W))(hb1:A (h W)+2<=b)(l:b≠g)(j:Nat)(u:ZD):SB w0 hb s0 s1 W making r (ZT wr (Q b j Y) u) s o made L md or st g m p n/\(ZT wr (Q b j Y) u).heap[b]?=T (N (q.setIfInBounds j u) t (0,0)):=by refine⟨⟨ZZ.si.ak f x (by omega) j u,aH ZZ.r6 (λe=>l (GD e).symm) _ _,aH ZZ.r7 (λe=>?_) _ _,ZZ.ap,(qh _ _ _ _ (show (A (h W))≠b by omega)).trans ZZ.kp,(qh _ _ _ _ (show (A (h W))+1≠b by omega)).trans ZZ.kr,ZZ.kx.trans (KS.setCell (X:=λi=>i=b) _ (by omega) (Or.inl rfl) u) λi hi z=>by have e2:i=b:=z;omega⟩,aB f u⟩;obtain⟨_,_,cs2,y⟩:=aj ZZ.r7 b e;exact x.2.2.2 (au f y)
theorem Dr{S:Spc}{x:Ent}(ZZ:EG S x):∃f m g l j,dK x=⟨f,m,[]⟩/\gY x=⟨g,l,j⟩/\(fX S x.e=ZB/\f=4/\g=ZB/\l=0/\j=⟨#[]⟩∨fX S x.e=ZF/\g=ZF/\l=f/\j=m):=by
 unfold dK gY fX;rw[iI,iI];rcases ZZ.H with ⟨b,_,_,i,hi,_⟩|⟨b,n,o,_,p,h1⟩|⟨b,_,h1⟩
 {exact⟨x.E,x.B,ZF,x.E,x.B,by rw[eT (by omega)],by simp[b],.inr ⟨by rw[hi];rfl,rfl,rfl,rfl⟩⟩};{exact⟨4,x.e,ZB,0,⟨#[]⟩,by rw[hU b],by simp[b,n,o],.inl ⟨by rw[p,h1];rfl,rfl,rfl,rfl,rfl⟩⟩};{exact⟨x.E,x.B,ZF,x.E,x.B,by rw[eT (by omega)],by simp[b],.inr ⟨by rw[h1];simp,rfl,rfl,rfl⟩⟩}
end
section
variable {w0:G}{S:Spc}{a0 a1:Option Addr}{c0 c1 hb:Nat}{making:List ByteArray}
theorem Ds (C:oR w0 S a0 a1)(n:Nat)(HK:mR w0 S hb (Z a0 S.n0 c0) (Z a1 S.n1 c1) n)(z:List Ent)(L0:List SM)(Fm Hp Hi:ZD)(w:G)(a:Option Addr)(cap tg:Nat)(Ja:ZU making+n=60)(ZZ:SI w0 hb (Z a0 S.n0 c0) (Z a1 S.n1 c1) w making z L0 Fm Hp Hi)(hrel:fx L0 making z)(hp:PG S making z)(Fk:eX S making z 201)(IE:MT S making)(Hl:tg<S.n1)(Iq:SlIns w0 a (S.f1 tg).l (S.f1 tg).u):Calls Tryz.prog 112 #[.pointer (T (Q hb 0 Y)),ZH #[Z a (S.f1 tg).l cap]] w λe w'=>oU w0 hb (Z a0 S.n0 c0) (Z a1 S.n1 c1) making L0 w e w' (bS S (aL S n making) tg 201 z [] []):=by
 obtain⟨i6,I7,IY,Iu,Iy⟩:=kG yO;obtain⟨i7,IZ,IF,Iw,I6⟩:=kG Dn;obtain⟨hok,hc1,Hk⟩:=bO (C.ok.u tg Hl);obtain⟨pb,po,rfl,Iz⟩:∃pb po,a=T (Q pb po Y)/\RowIns w0 pb po (S.f1 tg).l (S.f1 tg).u:=by
  rcases Iq with ZZ|⟨b,off,e,hr⟩
  {omega};{exact⟨b,off,e,hr⟩}
 have Ji:=ae Iz;have CC:=ae C;have Jk:=ae HK;have bt:A (h w0)<=A (h w):=ZZ.lt;have Jm:=ae (Dq C.ok Hl);obtain⟨R0,Ij⟩:∃R0,R0=bS S (aL S n making) tg 201 z [] []:=⟨_,rfl⟩
 rw[<-Ij];have Jc:=ae Ij;obtain⟨W2,hW⟩:∃W:G,ZV (ZV w (N #[Z (T (Q pb po Y)) (S.f1 tg).l cap] 41)) (N #[J I 0,U ⟨#[]⟩,Z Y 0 0] 47)=W:=⟨_,rfl⟩
 obtain⟨A2,kp,kr,z2⟩:=nb2 hW;have HW:=ae hW;clear hW;have Im:=ae (ZZ.aa A2 ly);have Iv:=ae hrel;have I8:=ae hp;have It:=ae Fk;have Ju:=ae IE;clear ZZ C HK Iz Iq Ij hrel hp Fk IE;go_enter func112,ntmps112;go_upto_region 1 with fail;rw[HW.out];clear HW;have hzW2:A (h w)+2<=A (h W2):=by omega
 clear z2;have A3:=ae ((q9 W2).alloc ly (N #[] 125));have O6:=ae (nE W2 125 3);go_upto_region 2 with fail;generalize World.alloc W2 _=W3 at A3 O6 ⊢;have A4:=ae ((q9 W3).alloc ly (N #[] 140));have O7:=ae (nE W3 140 3);go_wp2_with fail;generalize World.alloc W3 _=W4 at A4 O7 ⊢;have n9:=ae (A3.trans (A4.mono A3.size));have AW:=ae (A2.trans (n9.mono A2.size));have hw32:A (h W2)<=A (h W3):=A3.size;have IL:Hid (SB w0 hb (Z a0 S.n0 c0) (Z a1 S.n1 c1) w making (Z (T (Q pb po Y)) (S.f1 tg).l cap) W4 [] [] z L0 Fm Hp Hi (A (h W2)) 0 (A (h W3)) 0):=by refine⟨Im.aa n9 ly,aA (own_below O6 A4 ly) (by omega),aA O7 (by omega),λm hm hd e=>?_,(n9.block _ (by omega)).trans kp,(n9.block _ (by omega)).trans kr,KS.q AW ly bt⟩;have:=(aj (Im.V m hm hd) _ e).2.1;omega
 have IW:Hid (SR w0 S hb (Z a0 S.n0 c0) (Z a1 S.n1 c1) w n making tg (Z (T (Q pb po Y)) (S.f1 tg).l cap) L0 R0 W4 [] [] z L0 Fm Hp Hi (A (h W2)) 0 (A (h W3)) 0) :=
  ⟨IL,Iv,I8,jv S z,It,Jc.symm,DN _,LExt.refl _ _⟩
 clear IL O6 O7 A3 A4 A2 n9 AW Im Iv I8 It kp kr;go_loopg [6,7] 202 (λg v6 v7 wr=>∃f ZS made L md or st g6 c6 g7 c7,v6=Z (T (Q g6 0 Y)) (List.length (α:=ay) f) c6/\v7=Z (T (Q g7 0 Y)) (List.length (α:=Lk) ZS) c7/\Hid (SR w0 S hb (Z a0 S.n0 c0) (Z a1 S.n1 c1) w n making tg (Z (T (Q pb po Y)) (S.f1 tg).l cap) L0 R0 wr f ZS made L md or st g6 c6 g7 c7)/\201 - (ZU f)<=g);case atStart=>exact⟨[],[],z,L0,Fm,Hp,Hi,_,_,_,_,rfl,rfl,IW,by simp⟩
 case round =>
  clear IW;obtain⟨f,ZS,made,L,md,or,st,g6,c6,g7,c7,rfl,rfl,s,hg⟩:=hrel;have k0:ZW wr (Q (A (h w)) 0 Y)=T (Z (T (Q pb po Y)) (S.f1 tg).l cap):=by simp[World.cell?,s.sb.kp]
  have hkl:=ai s.sb.kp;have hy:=s.le;have IQ:ZU ZS=ZU f:=s.rg.len;obtain⟨ZM,hT⟩:∃ZM,ZM=bH S tg f:=⟨_,rfl⟩
  have HT:=ae hT;have IA:=ae IQ;clear hT IQ;go_wp2_with fail;refine(mF pb po (S.f1 tg).l cap g6 0 (ZU f) c6 (S.f1 tg).u (yL f) wr (by omega) (Ji.aa s.sb.si.az ly) (Ft s.sb.r6) Jm).mono ?_;rintro e ZO ⟨he,P⟩;rw[Ay CC.ok Hl s.rg.good s.le,<-HT.out] at he;subst he;have Jq:=ae (s.sb.aa P ly);have Hv:=ae (lH CC.ok Hl s.rg.good);rw[<-HT.out] at Hv;clear P k0;obtain⟨over,code,text,ask,name,steps⟩:=ZM;simp only[Turn.v];have A5:=ae ((q9 ZO).alloc ly (N #[ZC over,J I code,U text,ZC ask,U name,J I steps] 122));have kt:Hid (TBx (ZV ZO (N #[ZC over,J I code,U text,ZC ask,U name,J I steps] 122)) (A (h ZO)) over code text ask name steps):=nD _ _;obtain⟨t0,t1,t2,t3,t4⟩:=kt.cells;have o:=ae (Jq.aa A5 ly);cases over with
  |true =>
   have Jf:Hid (R0=.inl (made,(⟨ZF,code,text,ask,name,steps⟩,ZS))):=by show _=_;rw[<-s.run,show 201 - (ZU f)=(200 - (ZU f))+1 by omega,bS,<-HT.out,hU rfl]
   obtain⟨rl,r0,r1,r2,rf⟩:=bI o.kr;obtain⟨ID,IG,IK⟩:=al3 rf;clear rf;go_wp2_with fail;generalize World.alloc ZO _=W5 at A5 kt o r0 r1 r2 ID IG IK rl t0 t1 t2 t3 t4 ⊢;refine bp (v:=.tuple #[ZH #[J I code,U text,Z Y 0 0],Z (T (Q g7 0 Y)) (ZU ZS) c7]) (by simp[results,results112,go_sem,r0,r1,r2]) rfl ?_;have ZN:A (h w0)<=A (h w)+1:=by omega
   have x0:=o.si.ak o.kr ⟨by decide,by decide,by decide,by decide⟩ ZN 0 (J I code);have y0:=aB o.kr (j:=0) (J I code);have x1:=x0.ak y0 ⟨by decide,by decide,by decide,by decide⟩ ZN 1 (U text);have y1:=aB y0 (j:=1) (U text);have x2:=x1.ak y1 ⟨by decide,by decide,by decide,by decide⟩ ZN 2 (Z Y 0 0);have qr:g7≠A (h w)+1:=λe=>by obtain⟨_,_,cs,hc⟩:=aj o.r7 g7 rfl;exact absurd (au (e ▸ hc) o.kr) (by decide)
   rw[Jf.out];refine⟨L,md,or,st,g7,c7,rfl,x2,s.rel,aH (aH (aH o.r7 (λe=>qr (GD e)) _ _) (λe=>qr (GD e)) _ _) (λe=>qr (GD e)) _ _,o.ap,s.ext,?_⟩;refine((o.kx.trans (KS.setCell (X:=λi=>i=A (h w)+1) W5 ZN (Or.inl rfl) (J I code)) ?_).trans (KS.setCell (X:=λi=>i=A (h w)+1) _ ZN (Or.inl rfl) (U text)) ?_).trans (KS.setCell (X:=λi=>i=A (h w)+1) _ ZN (Or.inl rfl) (Z Y 0 0)) ?_;all_goals
    intro i hi ZZ;have e2:i=A (h w)+1:=ZZ;omega
  |false =>
   have hyl:ZU f<200:=by
    rcases Hv.out with ZZ|ZZ;{exact absurd ZZ.1 (by simp)};{exact ZZ.2.1}
   have HN:Hid (av name=ZF):=by
    rcases Hv.out with ZZ|ZZ;{exact absurd ZZ.1 (by simp)};{exact ZZ.2.2}
   cases ask with
   |false =>
    have ZY:=s.run;rw[show 201 - (ZU f)=(200 - (ZU f))+1 by omega,bS,<-HT.out,eT (by simp),hU rfl] at ZY;obtain⟨H,th⟩:∃H,H=fX S name:=⟨_,rfl⟩
    have IU:=ae th;simp only at ZY;rw[<-th] at ZY;have NX:=ae ZY;clear ZY th;go_wp2_with fail;clear t0 t1 t2 t3 t4;generalize World.alloc ZO _=W5 at A5 kt o ⊢;obtain⟨R,b0,b1,-⟩:=o.si.M.R;refine(oT CC W5 name o.si.az R b0 b1).mono ?_;rintro e ZQ ⟨he,P⟩;rw[<-IU.out] at he;subst he;have E:=ae (o.aa P ly);have ZK:Hid (TBx ZQ (A (h ZO)) ZB code text ZB name steps):=(P.block _ (ai kt)).trans kt;clear P b0 b1 R;have q:=ae ((q9 ZQ).alloc ly (N #[ZC H,J I 0,U ⟨#[]⟩] 125));have RA:=ae (own_below E.r6 q ly);have H7:A (h w)<=A (h ZQ):=E.kx.aa.size
    go_upto_region 9 with (first
     |(at_builtin;refine bU _ rfl (.tmp 32) (.tmp 35) 120 rfl (A (h w)) 125 i6 (ZH #[ZC ZB,J I 0,U ⟨#[]⟩]) 3 32 UQ I7 IY Iu Iy rfl (by decide) (Z (T (Q g6 0 Y)) (ZU f) c6) (ZU f) (lP f) (by simp[Act.eval]) RA.out (Q (A (h ZQ)) 0 Y) 1 1 [ZC H,J I 0,U ⟨#[]⟩] (by simp[Act.eval]) rfl (jb ZQ _ _ _ _) (by simp[Value.oneCell']) (by unfold maxLen;omega) (by omega) (by simp<;>omega) ?_;intro v3 u aq K DE;have O3:=ae aq;have G3:=ae K;clear aq K DE)
     |fail)
    have ld:Hid (∀(k:Nat) (cs:Array ZD) (t:ZI) (fz:Nat × Nat),(ZV ZQ (N #[ZC H,J I 0,U ⟨#[]⟩] 125)).heap[k]?=T (Obj.cells cs t fz)->t≠125->u.heap[k]?=(ZV ZQ (N #[ZC H,J I 0,U ⟨#[]⟩] 125)).heap[k]?):=λk cs t fz hk ht=>G3.block k (ai hk) λe=>by obtain⟨_,_,Jy,Hk⟩:=aj RA k e.symm;exact ht (au hk Hk)
    have ph:Hid (TBx u (A (h ZO)) ZB code text ZB name steps):=by have h0:=(q.block _ (ai ZK)).trans ZK;exact(ld _ _ _ _ h0 (by decide)).trans h0
    have H6:Hid (ZX u (A (h w)) 140 3 (Z (T (Q g7 0 Y)) (ZU ZS) c7) (ZU ZS) (er ZS)):=ey (own_below E.r7 q ly) λk hk=>by obtain⟨_,_,cs,hc⟩:=aj (own_below E.r7 q ly) k hk;exact ld _ _ _ _ hc (by decide)
    obtain⟨-,-,-,-,n4⟩:=ph.cells;have Jn:=ai ph.out;have A7:=ae ((q9 u).alloc ly (N #[U name,ZC ZB,ZC H] 140));have RS:=ae (own_below H6 A7 ly);have Jl:A (h w)<=A (h u):=AD (AD H7 (by simp<;>omega)) G3.size;have At:=IA.out;obtain⟨M,ZL⟩:∃M,M=ZU ZS:=⟨_,rfl⟩
    have Io:M<=200:=by omega
    have Ik:=ae ZL;rw[<-ZL] at RS ⊢;clear At ZL
    go_wp2_with (first
     |(at_builtin;refine bU _ rfl (.tmp 37) (.tmp 42) 135 rfl (A (h w)) 140 i7 (ZH #[U ⟨#[]⟩,ZC ZB,ZC ZB]) 3 24 underlying135 IZ IF Iw I6 rfl (by decide) (Z (T (Q g7 0 Y)) M c7) M (er ZS) (by simp[Act.eval]) RS.out (Q (A (h u)) 0 Y) 1 1 [U name,ZC ZB,ZC H] (by simp[Act.eval]) rfl (jb u _ _ _ _) (by simp[Value.oneCell']) (by unfold maxLen;omega) (by omega) (by simp<;>omega) ?_;intro v4 w4 ZJ ZP la;have O4:=ae ZJ;have G4:=ae ZP;have Ig:=ae la;clear ZJ ZP la)
     |fail)
    obtain⟨Hr,Hq,Hw,Hx,e6,e7,Il⟩:=E.more (r:=⟨H,0,⟨#[]⟩⟩) (l:=⟨name,ZB,H⟩) bt q O3 G3 A7 (by rw[<-Ik.out];exact O4) G4 Ig;have B:(f++[(⟨H,0,⟨#[]⟩⟩:ay)]).length=ZU f+1:=by simp
    have Hy:Hid (SR w0 S hb (Z a0 S.n0 c0) (Z a1 S.n1 c1) w n making tg (Z (T (Q pb po Y)) (S.f1 tg).l cap) L0 R0 w4 (f++[⟨H,0,⟨#[]⟩⟩]) (ZS++[⟨name,ZB,H⟩]) made L md or st Hr Hq Hw Hx) :=
     ⟨Il,s.rel,s.pg,(s.rg.add (by rw[IU.out];exact nw _ _) HN (λZZ=>by cases ZZ)),(by rw[B,show 201 - (ZU f+1)=200 - (ZU f) by omega];exact(by have:=s.room;unfold eX at this ⊢;omega)),(by rw[B,show 201 - (ZU f+1)=200 - (ZU f) by omega];exact NX),(by rw[B];omega),s.ext⟩
    obtain⟨g,rfl⟩:∃g,gk=g+1:=⟨gk - 1,by omega⟩
    go_roundg g;case measure=>omega
    case rel=>exact⟨_,_,_,_,_,_,_,_,_,_,_,e6,e7,Hy,by rw[B];omega⟩
   |true =>
    have ZY:=s.run;rw[show 201 - (ZU f)=(200 - (ZU f))+1 by omega,bS,<-HT.out,eT (by simp),eT (by simp)] at ZY;simp only at ZY;go_wp2_with fail;clear t0 t1 t2 t3 t4;generalize World.alloc ZO _=W5 at A5 kt o ⊢;refine(Jk making made L md or st W5 name Ja o.si s.rel s.pg (by have:=s.room;unfold eX at this ⊢;omega) Ju HN).mono ?_;intro e ZQ O;have HQ:(∃D x,aL S n making made name=.inl (D,x))∨∃(r:jZ) (va:Option Addr) (vn vk:Nat),e=ZG (iP r (Z va vn vk))/\iJ w0 hb ZQ r (Z va vn vk)/\KS (A (h w0)) XN W5 ZQ/\Hid (∀vs w',iJ w0 hb w' r (Z va vn vk)->KS (A (h w0)) XN w w'->oU w0 hb (Z a0 S.n0 c0) (Z a1 S.n1 c1) making L0 w (ZG (.tuple #[iP r (Z va vn vk),vs])) w' R0):=by
     rcases hr:aL S n making made name with ⟨D,x⟩|c|d;{exact .inl ⟨_,_,rfl⟩};all_goals
      rw[hr] at O ZY;dsimp only at ZY;subst ZY
     {obtain⟨ca,ck,rfl,hd,hK⟩:=O;exact .inr ⟨_,_,_,_,rfl,hd,hK,λvs w' h1 h2=>⟨ca,ck,vs,rfl,h1,h2⟩⟩};{obtain⟨rfl,hd,hK⟩:=O;exact .inr ⟨_,_,_,_,rfl,hd,hK,λvs w' h1 h2=>⟨vs,rfl,h1,h2⟩⟩}
    rcases HQ with ⟨D,x,hr⟩|⟨r,va,vn,vk,rfl,⟨q0,q1,qm,qo,qs,Hn,IJ⟩,hK,fin⟩
    ·rw[hr] at O ZY;dsimp only at ZY;obtain⟨L2,Jh,Jo,Jr,rfl,IB,Ii,Ib,hK⟩:=O;obtain⟨GS,⟨more,Hm⟩,hx,Ia⟩:=eN CC.ok n making made name D x s.pg HN hr;have Hj:=lG S n making made name D x hr;have H9:∀y∈made,y∈D:=λy hy=>by rw[Hm];exact KM _ hy
     have Ic:=ae (o.step hK IB Ib);have Jw:=ae Ii;have Je:=ae GS;have IX:Hid (RG S D (f++[gY x]) (ZS++[⟨name,ZF,ZB⟩])):=(s.rg.mono H9).add (ny (GS.bd x hx)) HN (λ_=>⟨x,hx,Ia⟩);have Jd:Hid (eX S making D (200 - (ZU f))):=by have:=s.room;unfold eX at this ⊢;unfold fY at Hj;show _<=_;omega
     have Js:=ae (s.ext.trans Ib o.kx.aa.size);have ro:Hid (TBx ZQ (A (h ZO)) ZB code text ZF name steps):=(hK.ab _ _ _ _ kt (by decide) (by decide) (by decide) λZZ=>ZZ).trans kt;have NX:=ae ZY;obtain⟨rc,rt,ob,oc,ot,II,IP,Is⟩:=Dr (GS.bd x hx);rw[IP] at IX NX;have hz25:A (h W5)<=A (h ZQ):=hK.aa.size;have hg65:g6<A (h W5):=(aj o.r6 g6 rfl).2.1;have hw25:A (h w)+2<=A (h W5):=ai o.kr;rw[Ia] at Is;simp only[II];clear IB Ii Ib hK GS Hm hx Ia Hj H9 hr ZY II IP;obtain⟨W6,DQ⟩:∃W:G,ZV ZQ (N #[J I rc,U rt,Z Y 0 0] 47)=W:=⟨_,rfl⟩
     obtain⟨q,I5,-⟩:=nb1 DQ;have Id:=ae DQ;clear DQ;obtain⟨R,-,-,-,-,-,-,-,-,b8,-⟩:=Ic.si.M.R;have d8:=(q.cell (p:=(Q hb 8 Y)) R).trans b8;obtain⟨rl,r0,r1,-,-⟩:=bI I5;go_upto_region 13 with fail;clear d8 b8;rw[Id.out];clear Id;obtain⟨W8,sm⟩:∃W:G,ZV W6 (N #[ZC ZF,J I rc,U rt] 125)=W:=⟨_,rfl⟩
     obtain⟨A7,ky,-⟩:=nb1 sm;have Ih:=ae sm;clear sm;go_upto_region 14 with fail;rw[Ih.out];clear Ih;have Ip:=ae (q.trans (A7.mono q.size));have n7:=ae (Ic.aa Ip ly);have n8:Hid (TBx W8 (A (h ZO)) ZB code text ZF name steps):=(Ip.block _ (ai ro)).trans ro;have r7:=(A7.cell (p:=(Q (A (h ZQ)) 0 Y)) rl).trans r0;have ur:A (h ZQ)<A (h W8):=lj rl A7.size;obtain⟨-,-,-,-,tn⟩:=n8.cells;have ex:=ai n8.out;obtain⟨V,I9⟩:∃V,V=A (h W6):=⟨_,rfl⟩
     rw[<-I9] at ky ⊢;have Bk:A (h w)+2<=V:=by have:=q.size;omega
     have Fd:V≠g6:=by have:=q.size;omega
     clear I9 Ic ro A7 q I5 r0 r1;obtain⟨fd,b0,b1,-⟩:=n7.si.M.R;rcases Is with ⟨Ie,e4,e3⟩|⟨Ie,e3⟩
     case' inr=>by_cases h4:rc=4
     all_goals
      have IM:=ae Ie;have E3:=ae e3;clear Ie e3
     case' inl =>
      subst e4;go_wp2_with fail;refine(oT CC W8 name n7.si.az fd b0 b1).mono ?_;rintro e u ⟨he,P⟩;rw[IM.out] at he;subst he;have Jt:=ae (n7.aa P ly);have IC:Hid (TBx u (A (h ZO)) ZB code text ZF name steps):=(P.block _ ex).trans n8;have Fn:=(P.block _ (ai ky)).trans ky;obtain⟨yl,y0,y1,y2,yf⟩:=bI Fn;obtain⟨Jj,Jp,Jg⟩:=al3 yf;have x0:=Jt.ak Fn ⟨by decide,by decide,by decide,by decide⟩ bt Bk Fd 0 (ZC ZB);have x1:=x0.1.ak x0.2 ⟨by decide,by decide,by decide,by decide⟩ bt Bk Fd 1 (J I 0);have x2:=x1.1.ak x1.2 ⟨by decide,by decide,by decide,by decide⟩ bt Bk Fd 2 (U ⟨#[]⟩);have E:=ae x2.1;have Hz:A (h ZO)≠V:=λe=>absurd (au (show u.heap[A (h ZO)]?=_ from IC.out) (e ▸ Fn)) (by decide);have ZK:Hid (TBx (ZT (ZT (ZT u (Q V 0 Y) (ZC ZB)) (Q V 1 Y) (J I 0)) (Q V 2 Y) (U ⟨#[]⟩)) (A (h ZO)) ZB code text ZF name steps):=(qh _ _ _ _ Hz).trans ((qh _ _ _ _ Hz).trans ((qh _ _ _ _ Hz).trans IC));have KY:Hid ((ZT (ZT (ZT u (Q V 0 Y) (ZC ZB)) (Q V 1 Y) (J I 0)) (Q V 2 Y) (U ⟨#[]⟩)).heap[V]?=T (N #[ZC ob,J I oc,U ot] 125 (0,0))):=by rw[E3.1,E3.2.1,E3.2.2];exact x2.2
      clear x0 x1 x2 P tn b0 b1 fd r7 ur ex rl Fn;go_upto_region 16 with fail;clear y0 y1 y2 Jj Jp Jg yl;generalize World.setCell (World.setCell (World.setCell u _ _) _ _) _ _=W8 at E KY ZK ⊢
     case' pos =>
      subst h4;go_wp2_with fail;refine(oT CC W8 name n7.si.az fd b0 b1).mono ?_;rintro e u ⟨he,P⟩;rw[IM.out] at he;subst he;have E:=ae (n7.aa P ly);have ZK:Hid (TBx u (A (h ZO)) ZB code text ZF name steps):=(P.block _ ex).trans n8;have KY:Hid (u.heap[V]?=T (N #[ZC ob,J I oc,U ot] 125 (0,0))):=by rw[E3.1,E3.2.1,E3.2.2];exact(P.block _ (ai ky)).trans ky
      clear P tn b0 b1 fd r7 ur ex rl;go_upto_region 16 with fail;generalize u=W8 at E KY ZK ⊢
     case' neg =>
      have h4b:(rc == 4)=ZB:=by simpa using h4
      have E:=n7;have ZK:=n8;have KY:Hid (W8.heap[V]?=T (N #[ZC ob,J I oc,U ot] 125 (0,0))):=by rw[E3.1,E3.2.1,E3.2.2];exact ky
      go_upto_region 16 with fail;clear tn b0 b1 fd r7 ur ex rl
     all_goals
      obtain⟨yl,y0,y1,y2,-⟩:=bI KY;have q:=ae ((q9 W8).alloc ly (N #[ZC ob,J I oc,U ot] 125));have RA:=ae (own_below E.r6 q ly);have H7:A (h w)<=A (h W8):=E.kx.aa.size
      go_upto_region 17 with (first
       |(at_builtin;refine bU _ rfl (.tmp 73) (.tmp 75) 120 rfl (A (h w)) 125 i6 (ZH #[ZC ZB,J I 0,U ⟨#[]⟩]) 3 32 UQ I7 IY Iu Iy rfl (by decide) (Z (T (Q g6 0 Y)) (ZU f) c6) (ZU f) (lP f) (by simp[Act.eval]) RA.out (Q (A (h W8)) 0 Y) 1 1 [ZC ob,J I oc,U ot] (by simp[Act.eval]) rfl (jb W8 _ _ _ _) (by simp[Value.oneCell']) (by unfold maxLen;omega) (by omega) (by simp<;>omega) ?_;intro v3 u aq K DE;have O3:=ae aq;have G3:=ae K;clear aq K DE)
       |fail)
      have ld:Hid (∀(k:Nat) (cs:Array ZD) (t:ZI) (fz:Nat × Nat),(ZV W8 (N #[ZC ob,J I oc,U ot] 125)).heap[k]?=T (Obj.cells cs t fz)->t≠125->u.heap[k]?=(ZV W8 (N #[ZC ob,J I oc,U ot] 125)).heap[k]?):=λk cs t fz hk ht=>G3.block k (ai hk) λe=>by obtain⟨_,_,Jy,Hk⟩:=aj RA k e.symm;exact ht (au hk Hk)
      have ph:Hid (TBx u (A (h ZO)) ZB code text ZF name steps):=by have h0:=(q.block _ (ai ZK)).trans ZK;exact(ld _ _ _ _ h0 (by decide)).trans h0
      have H6:Hid (ZX u (A (h w)) 140 3 (Z (T (Q g7 0 Y)) (ZU ZS) c7) (ZU ZS) (er ZS)):=ey (own_below E.r7 q ly) λk hk=>by obtain⟨_,_,cs,hc⟩:=aj (own_below E.r7 q ly) k hk;exact ld _ _ _ _ hc (by decide)
      obtain⟨-,-,-,-,n4⟩:=ph.cells;have Jn:=ai ph.out;have A7:=ae ((q9 u).alloc ly (N #[U name,ZC ZF,ZC ZB] 140));have RS:=ae (own_below H6 A7 ly);have Jl:A (h w)<=A (h u):=AD (AD H7 (by simp<;>omega)) G3.size;have At:=IA.out;obtain⟨M,ZL⟩:∃M,M=ZU ZS:=⟨_,rfl⟩
      have Io:M<=200:=by omega
      have Ik:=ae ZL;rw[<-ZL] at RS ⊢;clear At ZL
      go_wp2_with (first
       |(at_builtin;refine bU _ rfl (.tmp 77) (.tmp 81) 135 rfl (A (h w)) 140 i7 (ZH #[U ⟨#[]⟩,ZC ZB,ZC ZB]) 3 24 underlying135 IZ IF Iw I6 rfl (by decide) (Z (T (Q g7 0 Y)) M c7) M (er ZS) (by simp[Act.eval]) RS.out (Q (A (h u)) 0 Y) 1 1 [U name,ZC ZF,ZC ZB] (by simp[Act.eval]) rfl (jb u _ _ _ _) (by simp[Value.oneCell']) (by unfold maxLen;omega) (by omega) (by simp<;>omega) ?_;intro v4 w4 ZJ ZP la;have O4:=ae ZJ;have G4:=ae ZP;have Ig:=ae la;clear ZJ ZP la)
       |fail)
      obtain⟨Hr,Hq,Hw,Hx,e6,e7,Il⟩:=E.more (r:=⟨ob,oc,ot⟩) (l:=⟨name,ZF,ZB⟩) bt q O3 G3 A7 (by rw[<-Ik.out];exact O4) G4 Ig;have B:(f++[(⟨ob,oc,ot⟩:ay)]).length=ZU f+1:=by simp
      have Hy:Hid (SR w0 S hb (Z a0 S.n0 c0) (Z a1 S.n1 c1) w n making tg (Z (T (Q pb po Y)) (S.f1 tg).l cap) L0 R0 w4 (f++[⟨ob,oc,ot⟩]) (ZS++[⟨name,ZF,ZB⟩]) D L2 Jh Jo Jr Hr Hq Hw Hx) :=
       ⟨Il,Jw,Je,IX,(by rw[B,show 201 - (ZU f+1)=200 - (ZU f) by omega];exact Jd),(by rw[B,show 201 - (ZU f+1)=200 - (ZU f) by omega];exact NX),(by rw[B];omega),Js⟩
      obtain⟨g,rfl⟩:∃g,gk=g+1:=⟨gk - 1,by omega⟩
      go_roundg g;case measure=>omega
      case rel=>exact⟨_,_,_,_,_,_,_,_,_,_,_,e6,e7,Hy,by rw[B];omega⟩
    ·clear O ZY;obtain⟨R,-,-,-,-,-,b5,b6,b7,b8,-⟩:=Hn.R;have Ho:=(hK.ab _ _ _ _ o.kr (by decide) (by decide) (by decide) λZZ=>ZZ).trans o.kr;have KW:=ae (o.kx.to hK);have Jv:=ae Hn;have Ir:=ae IJ;have q:=ae ((q9 ZQ).alloc ly (N #[J I r.E,U r.B,Z va vn vk] 47));have Ht:=(q.block _ (ai Ho)).trans Ho;obtain⟨rl,r0,r1,r2,rf⟩:=bI Ht;have d5:=(q.cell (p:=(Q hb 5 Y)) R).trans b5;have d6:=(q.cell (p:=(Q hb 6 Y)) R).trans b6;have d7:=(q.cell (p:=(Q hb 7 Y)) R).trans b7;have d8:=(q.cell (p:=(Q hb 8 Y)) R).trans b8;obtain⟨ID,IG,IK⟩:=al3 rf;have DS:hb≠A (h w)+1:=λe=>absurd (au (e ▸ Hn) Ho) (by decide);have Jz:=ae Ht;clear rf Hn IJ hK b5 b6 b7 b8 Ho Ht;simp only[iP];go_wp2_with fail;refine bp (v:=.tuple #[iP r (Z va vn vk),Z (T (Q g7 0 Y)) (ZU ZS) c7]) (by simp[results,results112,go_sem,r0,r1,r2,iP]) rfl ?_;have ZN:A (h w0)<=A (h w)+1:=by omega
     have Jb:∀(W:G) (v0 v1 v2:ZD),(ZT (ZT (ZT W (Q (A (h w)+1) 0 Y) v0) (Q (A (h w)+1) 1 Y) v1) (Q (A (h w)+1) 2 Y) v2).heap[hb]?=W.heap[hb]?:=λW v0 v1 v2=>(qh _ _ _ _ DS).trans ((qh _ _ _ _ DS).trans (qh _ _ _ _ DS));have Hu:∀k,(Value.slice va vn vk).ownBlock=T k->k≠A (h w)+1:=λk hk e=>by obtain⟨_,_,cs,hc⟩:=aj (own_below Ir q ly) k hk;exact absurd (au (e ▸ hc) Jz) (by decide)
     refine fin (Z (T (Q g7 0 Y)) (ZU ZS) c7) _ ⟨q0,q1,qm,qo,qs,(Jb _ _ _ _).trans ((q.block _ R).trans Jv),aH (aH (aH (own_below Ir q ly) (λe=>Hu _ e rfl) _ _) (λe=>Hu _ e rfl) _ _) (λe=>Hu _ e rfl) _ _⟩ ?_;refine((((KW.to (KS.q q ly (AD bt KW.aa.size))).trans (KS.setCell (X:=λi=>i=A (h w)+1) _ ZN (Or.inl rfl) _) ?_).trans (KS.setCell (X:=λi=>i=A (h w)+1) _ ZN (Or.inl rfl) _) ?_).trans (KS.setCell (X:=λi=>i=A (h w)+1) _ ZN (Or.inl rfl) _) ?_);all_goals
      intro i hi ZZ;have e2:i=A (h w)+1:=ZZ;omega
end
