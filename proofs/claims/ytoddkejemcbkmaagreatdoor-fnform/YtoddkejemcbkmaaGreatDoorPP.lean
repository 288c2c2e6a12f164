import Derived.Test.YtoddkejemcbkmaaGreatDoorPL
set_option maxRecDepth 100000
set_option maxHeartbeats 8000000
open Go renaming Addr.mk->Q,Value.slice->Z,Value.string->U,Value.int->J,Value.bool->ZD,Obj.cells->N,IntKind.i64->I,World->M,Value->ZC,TypeId->ZH,Ending.returned->ZF,World.cell?->A,Proofs.Tryz.prog->Pg
open Option renaming none->Y,some->T
open Bool renaming false->ZA,true->ZG
namespace Go.Proofs.YtoddkejemcbkmaaGreatDoor.Vp
open Tryz RowKit
variable {w p:M}{l:Lk}{c b size n f:Nat}{j i:ZC}{x:Ent}{e:ZH}{L:List SM}{S:Spc}
def lkV (b:List Ent)(c:List Lk):List ZC:=c.flatMap λl=>cP (lkD b l)
theorem He (b:List Ent)(c:List Lk):bo (lkF b c) c.length=lkV b c:=by
 unfold bo lkV;rw[show(List.range c.length).map (lkF b c)=c.map (lkD b) from ?_,T3];refine RH λi=>?_;rw[MK,MK];rcases N1 i c.length with h|h;{rw[List.getElem?_range h,gq h];simp only[SV];rw[AZ (gq h)]};{rw[MR h,MR (by simpa using h)];rfl}
theorem Fe (b:List Ent)(c:List Lk){k:Nat}(h:c[k]?=T l):lkV b (c.take (k+1))=lkV b (c.take k)++cP (lkD b l):=by rw[RC,h];simp[lkV]
theorem Hf (w:M)(b g f c:ZC)(t:ZH):∀j u,[b,g,f,c][j]?=T u->(w.alloc (N #[b,g,f,c] t)).cell? (((Q w.heap.size 0 Y):Addr).add j)=T u:=by
 intro j u h;rw[addr_add];match j,h with
 |0,h=>simp at h;subst h;simp
 |1,h=>simp at h;subst h;simp
 |2,h=>simp at h;subst h;simp
 |3,h=>simp at h;subst h;simp
 |k+4,h=>simp at h
theorem DBox.grown{l g m o v:ZC}{q:List ZC}(h:DBox w b l j g m o i)(r:w.ownsRow c e size v n q)(f:w.grownBy p v.ownBlock)(hb:b<c):DBox p b l j g m o i :=
 h.ab f.size (f.block b h.lt λe=>by have:=(r.lt b e.symm).1;omega)
theorem Cf{s:Nat}{v:ZC}{m:ZH}{g l:List ZC}(h:w.ownsRow b e size v n g)(t:w.ownsRow c m f j s l)(r:w.grownBy p j.ownBlock)(i:e≠m):p.ownsRow b e size v n g :=
 du h λk o=>r.block k (h.lt k o).2 λq=>(bq h k o).ne (UT i) (bq t k q.symm)
open Ca
theorem Iw (w:M)(b l g c f i:ZC)(t:ZH):∀j u,[b,l,g,c,f,i][j]?=T u->(w.alloc (N #[b,l,g,c,f,i] t)).cell? (((Q w.heap.size 0 Y):Addr).add j)=T u:=by
 intro j u h;rw[addr_add];match j,h with
 |0,h=>simp at h;subst h;simp
 |1,h=>simp at h;subst h;simp
 |2,h=>simp at h;subst h;simp
 |3,h=>simp at h;subst h;simp
 |4,h=>simp at h;subst h;simp
 |5,h=>simp at h;subst h;simp
 |k+6,h=>simp at h
structure ShAt (B:Nat)(w:M)(hb:Nat)(s0 s1 md or:ZC)(L:List SM)(made:List Ent):Prop where
 lt:hb<w.heap.size
 c0:A w (Q hb 0 Y)=T s0
 c1:A w (Q hb 1 Y)=T s1
 c2:A w (Q hb 2 Y)=T md
 c3:A w (Q hb 3 Y)=T or
 W:w.ownsRow B 179 6 md L.length (L.flatMap smV)
 ror:w.ownsRow B 9 1 or made.length (bZ (made.map (·.e)))
 c:∀m∈L,m.done=ZG->w.ownsRow B 181 3 m.sv m.c.length (eC m.c)
theorem ShAt.aa{B C:Nat}{o:M}{hb:Nat}{n l:ZC}{c:List Ent}(h:ShAt B w hb i n l j L c)(b:Below C w o)(f:w.heap.size<=C):ShAt B o hb i n l j L c:=by have g:hb<C:=lj h.lt f;exact⟨lj h.lt b.size,(b.cell (p:=(Q hb 0 Y)) g).trans h.c0,(b.cell (p:=(Q hb 1 Y)) g).trans h.c1,(b.cell (p:=(Q hb 2 Y)) g).trans h.c2,(b.cell (p:=(Q hb 3 Y)) g).trans h.c3,own_below h.W b f,own_below h.ror b f,λm q r=>own_below (h.c m q r) b f⟩
theorem Iy{b:List Ent}(h:fB L [] b){i:Nat}(p:b[i]?=T x):∃k m,fI L x.e=T k/\L[k]?=T m/\m.e=x.e/\m.done=ZG/\m.B=(dP x).B/\m.h=(dP x).h/\m.c=x.looks:=by obtain⟨m,g,c,l,o,j,f⟩:=h.got x (L8 p);obtain⟨k,n,q⟩:=qW h.nod g c;exact⟨k,m,n,q,c,l,o,j,f⟩
theorem uV{c:List Ent}(h1:fo S x=0)(h2:x.looks=[])(W:M)(b:Nat):DSub W b (iO S c x,Z Y 0 0,Z Y 0 0):=by
 refine⟨?_,?_⟩;{show W.ownsRow b 90 3 (Z Y 0 0) (fo S x) (bH (S.f1 x.tg).G (fo S x));rw[h1];exact AT _ _ _ _};{show W.ownsRow b 93 4 (Z Y 0 0) x.looks.length (bo (lkF c x.looks) x.looks.length);rw[h2];exact AT _ _ _ _}
theorem Ff{b:List Ent}(h:PG S [] b){i:Nat}(q:b[i]?=T x)(r:l∈x.looks)(p:l.ask=ZG){D:List Deed}(s:D=(b.take i).map (iO S b)):jD (dF D) l.e i=((oX b l.e:Nat):Int):=by
 obtain⟨y,m,hn,o⟩:=h.asked q r p;have f:∀(j:Nat) (z:Ent),j<i->b[j]?=T z->(dF D j).e=z.e:=λj z g hz=>by unfold dF;rw[s,IX,MK,List.getElem?_take_of_lt g,hz];rfl
 unfold jD;refine fK o ?_ λj g=>?_;{rw[f _ y o m,hn];simp}
 ·have n:=(p6.1 m).1;have hz:b[j]?=T b[j]:=gq (by omega);rw[f j _ (by omega) hz];have c:=NP.1 h.nod j _ (by omega) n g;rw[(p6.1 m).2,hn] at c;cases hb:(b[j].e.toList == l.e.toList) with
  |false=>rfl
  |true=>exact absurd (bytes_beq hb) c
theorem Cg{g:Nat}{b:List Lk}(h:w.ownsRow f 181 3 (Z (T (Q g 0 Y)) b.length c) b.length (eC b)){k:Nat}(n:b[k]?=T l)(j:Nat)(i:j<3){u:ZC}(m:[Value.string l.e,ZD l.ask,ZD l.has][j]?=T u):A w (Q g (k*3+j) Y)=T u :=
 (cO h (j:=k*3+j) (u:=u) (by rw[eC,dr (λl:Lk=>[Value.string l.e,ZD l.ask,ZD l.has]) 3 (λ_=>rfl) b k j i l n];exact m)).1
def LkI (S:Spc)(g:List Ent)(x:Ent)(i:Int)(rt:ByteArray)(m:Option Addr)(l n j f c4:Nat)(b:M)(al:Option Addr)(k h:Nat)(c:M):Prop:=Hid (DBox c (b.heap.size+1) (U x.e) (J I 3) (J I i) (U rt) (Z (T (Q j 0 Y)) f c4) (Z al k h))/\Hid (c.heap[b.heap.size]?=T (N #[U x.e,J I i,U rt,Z Y 0 0,Z m l n,ZD ZG] 179 (0,0)))/\Hid (c.ownsRow (b.heap.size+2) 90 3 (Z (T (Q j 0 Y)) f c4) f (bH (S.f1 x.tg).G f))/\Hid (c.ownsRow (b.heap.size+2) 93 4 (Z al k h) k (lkV g (x.looks.take k)))/\Hid (Below b.heap.size b c)
section
variable {S:Spc}{a0 a1:Option Addr}{c0 c1:Nat}
theorem zB (B:Nat)(w:M)(hb:Nat)(md or:ZC)(L:List SM)(f:List Ent)
  (Id:ShAt B w hb (Z a0 S.n0 c0) (Z a1 S.n1 c1) md or L f) (hrel:fB L [] f) (Kh:PG S [] f) (KF:f.length<=40201)
  (Km:SlSource w a0 S.n0 S.f0) (Kv:SlTarget w a1 S.n1 S.f1) (Kt:SpcOk S) (J0:∀i,i<S.n1->cR (S.f1 i)) :
  Calls Pg 75 #[.pointer (T (Q hb 0 Y))] w λe w'=>∃a c R,e=ZF (.agg #[Z a R.length c])/\DRow w' w.heap.size (Z a R.length c) R/\R.map (·.1)=ie S f/\Below w.heap.size w w':=by
 have Kx:=ae Id;have KJ:=ae hrel;have Kd:=ae Kh;have V0:=ae Km;have V1:=ae Kv;have Jp:=ae Kt;have KT:=ae J0;have Lb:L.length<=40201:=by have:=hrel.len;simp only[nX,NS] at this;omega
 obtain⟨am,cm,rfl⟩:=ii Id.W;obtain⟨ao,co,rfl⟩:=ii Id.ror;obtain⟨ZN,hN⟩:∃ZN,ZN=L.length:=⟨_,rfl⟩
 obtain⟨n,hn⟩:∃n,n=f.length:=⟨_,rfl⟩
 have ZK:=ae hN;have HN:=ae hn;rw[<-hN,<-hn] at Kx;rw[<-hN] at Lb;rw[<-hn] at KF;clear Id hrel Kh Km Kv Kt J0 hN hn;obtain⟨il,Ls,KH,KB,KM⟩:=LY fZ;obtain⟨Lh,Lm,KN,KE,Kz⟩:=LY eu;have A0:=ae (((q9 w).alloc ly (N #[Z Y 0 0] 25)).alloc (by simp) (N #[Z Y 0 0] 25));have kR:Hid (((w.alloc (N #[Z Y 0 0] 25)).alloc (N #[Z Y 0 0] 25)).heap[w.heap.size]?=T (N #[Z Y 0 0] 25 (0,0))) :=
  ((((eL (w.heap.size+1) _).alloc (by simp) _).block w.heap.size (by omega)).trans (n6 w _))
 have kA:Hid (((w.alloc (N #[Z Y 0 0] 25)).alloc (N #[Z Y 0 0] 25)).heap[w.heap.size+1]?=T (N #[Z Y 0 0] 25 (0,0))):=by have h2:=n6 (w.alloc (N #[Z Y 0 0] 25)) (N #[Z Y 0 0] 25);rw[show(w.alloc (N #[Z Y 0 0] 25)).heap.size=w.heap.size+1 by simp] at h2;exact h2
 go_enter func75,ntmps75;go_wp2_with fail;generalize World.alloc (World.alloc w _) _=W0 at A0 kR kA ⊢;go_loopw [4] (λv wr=>∃(i:Nat) (P:Option Addr) (c5:Nat) (R:List DR),i<=n/\v=J I i/\R.length=i/\Hid (R.map (·.1)=(f.take i).map (iO S f))/\Hid (DRow wr (w.heap.size+2) (Z P i c5) R)/\Hid (wr.heap[w.heap.size+1]?=T (N #[Z P i c5] 25 (0,0)))/\Hid (wr.heap[w.heap.size]?=T (N #[Z Y 0 0] 25 (0,0)))/\Hid (Below w.heap.size w wr)) (λv _=>n - (intOf v).toNat);case atStart=>exact⟨0,Y,0,[],by omega,rfl,rfl,rfl,dN _ _,kA,kR,A0⟩
 case round =>
  clear kA kR A0;obtain⟨i,P,c5,R,hi,rfl,Fk,JP,D4,k4,dg,B4⟩:=hrel;have ZO:=ae (Kx.aa B4 ly);have hw4:w.heap.size+2<=wr.heap.size:=ai k4.out;have h3:=ZO.c3;have Ks:=ZO.lt;by_cases KU:i<n
  ·obtain⟨x,hx⟩:∃x,f[i]?=T x:=⟨_,gq (by rw[<-HN.out];exact KU)⟩
   obtain⟨j,m,hf,hm,e1,e2,e3,e4,e5⟩:=Iy KJ hx;have ur:=ZO.ror;have K:=ZO.W;rw[<-HN.out] at ur;rw[<-ZK.out] at K;obtain⟨go,co',e⟩:=bV ur (by omega);simp only[ML,QR] at e;obtain⟨rfl,rfl⟩:=e;have hjN:j<ZN:=by rw[ZK.out];exact(p6.1 hm).1
   obtain⟨r,cm',e⟩:=bV K (by omega);simp only[ML,QR] at e;obtain⟨rfl,rfl⟩:=e;have oc:A wr (Q go i Y)=T (U x.e):=(cO ur (by rw[bZ,MK,MK,hx];rfl)).1;have Le:=(dL ur).2;have n9:=(dL K).2;have h2:=ZO.c2;have Fd:=ZO.c m (L8 hm) e2;obtain⟨ZJ,D,JA⟩:=ii Fd;obtain⟨y,JM⟩:∃y,y=(dP x).B:=⟨_,rfl⟩
   obtain⟨rt,fd⟩:∃rt,rt=(dP x).h:=⟨_,rfl⟩
   obtain⟨t,Jy⟩:∃t,t=x.looks.length:=⟨_,rfl⟩
   rw[e5] at JA Fd;rw[JA,<-Jy] at Fd;have q0:A wr (Q r (j*6) Y)=T (U x.e):=by have:=cC (by rw[<-ZK.out];exact K) hm 0 (by omega) rfl;rw[e1] at this;exact this
   have q1:A wr (Q r (j*6+1) Y)=T (J I y):=by have:=cC (by rw[<-ZK.out];exact K) hm 1 (by omega) rfl;rw[e3,<-JM] at this;exact this
   have q2:A wr (Q r (j*6+2) Y)=T (U rt):=by have:=cC (by rw[<-ZK.out];exact K) hm 2 (by omega) rfl;rw[e4,<-fd] at this;exact this
   have q3:A wr (Q r (j*6+3) Y)=T (Z Y 0 0):=cC (by rw[<-ZK.out];exact K) hm 3 (by omega) rfl;have q4:A wr (Q r (j*6+4) Y)=T (Z ZJ t D):=by have:=cC (by rw[<-ZK.out];exact K) hm 4 (by omega) rfl;rw[JA,<-Jy] at this;exact this
   have q5:A wr (Q r (j*6+5) Y)=T (ZD ZG):=by have:=cC (by rw[<-ZK.out];exact K) hm 5 (by omega) rfl;rw[e2] at this;exact this
   have ZR:Hid (∀V,Below wr.heap.size wr V->A V (Q hb 2 Y)=T (Z (T (Q r 0 Y)) ZN cm)/\A V (Q hb 3 Y)=T (Z (T (Q go 0 Y)) n co)/\A V (Q go i Y)=T (U x.e)/\A V (Q r (j*6) Y)=T (U x.e)/\A V (Q r (j*6+1) Y)=T (J I y)/\A V (Q r (j*6+2) Y)=T (U rt)/\A V (Q r (j*6+3) Y)=T (Z Y 0 0)/\A V (Q r (j*6+4) Y)=T (Z ZJ t D)/\A V (Q r (j*6+5) Y)=T (ZD ZG)):=λV g=>⟨(g.cell (p:=(Q hb 2 Y)) Ks).trans h2,(g.cell (p:=(Q hb 3 Y)) Ks).trans h3,(g.cell (p:=(Q go i Y)) Le).trans oc,(g.cell (p:=(Q r _ Y)) n9).trans q0,(g.cell (p:=(Q r _ Y)) n9).trans q1,(g.cell (p:=(Q r _ Y)) n9).trans q2,(g.cell (p:=(Q r _ Y)) n9).trans q3,(g.cell (p:=(Q r _ Y)) n9).trans q4,(g.cell (p:=(Q r _ Y)) n9).trans q5⟩
   have CT:Hid (∀V,Below wr.heap.size wr V->Calls Pg 117 #[.pointer (T (Q hb 0 Y)),U x.e] V λe w'=>e=ZF (J I (j:Int))/\w'=V):=λV g=>by
    have h:=ZO.aa g ly;refine(uN V x.e B h.c2 h.W (by rw[<-ZK.out];omega)).mono λe w' ⟨he,hw⟩=>⟨?_,hw⟩
    rw[he,hf];rfl
   have HX:=ae hx;have Lg:=ae JM;have Ko:=ae fd;have At:=ae Jy;have JS:=ae Fd;have hj0:(0:Int)<=(j:Int):=by omega
   have hjI:(j:Int)<ZN:=by omega
   have hi0:(0:Int)<=(i:Int):=by omega
   have hiI:(i:Int)<n:=by omega
   clear ur K Fd JA hx hf hm e1 e2 e3 e4 e5 JM fd Jy;go_upto_region 5 with fail;go_cut [5] (λs wx=>s=.pointer (T (Q wr.heap.size 0 Y))/\wx=(wr.alloc (N #[U x.e,J I y,U rt,Z Y 0 0,Z ZJ t D,ZD ZG] 179)).drew);case first =>
    clear h2 h3 oc q0 q1 q2 q3 q4 q5
    go_region_held3 (λV=>A V (Q hb 2 Y)=T (Z (T (Q r 0 Y)) ZN cm)/\A V (Q hb 3 Y)=T (Z (T (Q go 0 Y)) n co)/\A V (Q go i Y)=T (U x.e)/\A V (Q r (j*6) Y)=T (U x.e)/\A V (Q r (j*6+1) Y)=T (J I y)/\A V (Q r (j*6+2) Y)=T (U rt)/\A V (Q r (j*6+3) Y)=T (Z Y 0 0)/\A V (Q r (j*6+4) Y)=T (Z ZJ t D)/\A V (Q r (j*6+5) Y)=T (ZD ZG)) (first|exact ZR _ br|exact ZR _ br.drew|exact ZR _ (br.drew.alloc ly _)|exact ZR _ (br.alloc ly _).drew|exact ZR _ ((((((((q9 wr).drew.alloc ly _).setCell ly _).setCell ly _).setCell ly _).setCell ly _).setCell ly _).setCell ly _)) (first
     |(go_at_call 117;refine(CT _ (by first|exact br.drew|exact eL _ _|exact br.drew.alloc ly _)).mono ?_;rintro e w5 ⟨rfl,rfl⟩))
    all_goals
     go_wp2_with fail;go_meet;exact⟨rfl,rfl⟩
   case rest =>
   obtain⟨rfl,rfl⟩:=hcut;have B5:=ae ((q9 wr).alloc ly (N #[U x.e,J I y,U rt,Z Y 0 0,Z ZJ t D,ZD ZG] 179)).drew;have m5:Hid ((wr.alloc (N #[U x.e,J I y,U rt,Z Y 0 0,Z ZJ t D,ZD ZG] 179)).drew.heap[wr.heap.size]?=T (N #[U x.e,J I y,U rt,Z Y 0 0,Z ZJ t D,ZD ZG] 179 (0,0))):=n6 wr _;have JC:(wr.alloc (N #[U x.e,J I y,U rt,Z Y 0 0,Z ZJ t D,ZD ZG] 179)).drew.heap.size=wr.heap.size+1:=by simp[World.drew]
   clear h2 h3 oc q0 q1 q2 q3 q4 q5 ZR CT;generalize World.drew (World.alloc wr _)=W5 at B5 m5 JC ⊢;have p0:A W5 (Q wr.heap.size 0 Y)=T (U x.e):=by simp[World.cell?,m5.out]
   obtain⟨W6,GS⟩:∃W:M,W5.alloc (N #[U x.e,J I 0,J I 0,U ⟨#[]⟩,Z Y 0 0,Z Y 0 0] 62)=W:=⟨_,rfl⟩
   obtain⟨A6,-,-⟩:=nb1 GS;have bt:=ae GS;clear GS;have B6:=ae (B5.trans (A6.mono B5.size));have X6:Hid (DBox W6 (wr.heap.size+1) (U x.e) (J I 0) (J I 0) (U ⟨#[]⟩) (Z Y 0 0) (Z Y 0 0)):=by
    cases bt.out
    have h:=oz W5 (U x.e) (J I 0) (J I 0) (U ⟨#[]⟩) (Z Y 0 0) (Z Y 0 0) 62;rw[JC] at h;exact h
   have m6:Hid (W6.heap[wr.heap.size]?=T (N #[U x.e,J I y,U rt,Z Y 0 0,Z ZJ t D,ZD ZG] 179 (0,0))):=by cases bt.out;exact(A6.block _ (by omega)).trans m5
   have Lq:W6.heap.size=wr.heap.size+2:=by cases bt.out;simp[JC]
   go_upto_region 7 with fail;rw[bt.out];clear bt;clear p0 B5 m5 A6 JC;have DH:=ae (ZO.aa B6 ly);have JJ:=ae (B4.trans (B6.mono (by omega)));have ZR:Hid (∀V,Below W6.heap.size W6 V->A V (Q hb 0 Y)=T (Z a0 S.n0 c0)/\A V (Q hb 1 Y)=T (Z a1 S.n1 c1)/\A V (Q wr.heap.size 0 Y)=T (U x.e)):=λV g=>⟨(g.cell (p:=(Q hb 0 Y)) DH.lt).trans DH.c0,(g.cell (p:=(Q hb 1 Y)) DH.lt).trans DH.c1,(g.cell (p:=(Q wr.heap.size 0 Y)) (by show wr.heap.size<_;omega)).trans (by simp[World.cell?,m6.out])⟩
   obtain⟨ZL,hT⟩:∃ZL,ZL=ej (atI (nm1 S.f1) S.n1 x.e):=⟨_,rfl⟩
   have CT:Hid (∀V,Below W6.heap.size W6 V->Calls Pg 114 #[.agg #[Z a0 S.n0 c0,Z a1 S.n1 c1],U x.e] V λe w'=>e=ZF (J I ZL)/\Below V.heap.size V w'):=λV g=>by rw[hT];exact iQ a0 S.n0 c0 a1 S.n1 c1 S.f1 x.e V (by have:=Jp.av;omega) (V1.aa (JJ.trans (g.mono JJ.size)) ly)
   have HT:=ae hT;clear hT
   go_region_held3 (λV=>A V (Q hb 0 Y)=T (Z a0 S.n0 c0)/\A V (Q hb 1 Y)=T (Z a1 S.n1 c1)/\A V (Q wr.heap.size 0 Y)=T (U x.e)) (first|exact ZR _ br|exact ZR _ br.drew|exact ZR _ D7) (first
    |(go_at_call 114;refine(CT _ (by first|exact br.drew|exact eL _ _)).mono ?_;rintro e X ⟨rfl,ld⟩;have D7:Hid (Below W6.heap.size W6 X):=⟨ld.os,ld.tape,ld.output,ld.size,ld.block⟩;clear ld))
   have B7:=ae (B6.trans (D7.mono B6.size));have X7:=ae (X6.aa D7 X6.lt);have m7:=ae ((D7.block _ (ai m6)).trans m6);have JF:wr.heap.size+2<=X.heap.size:=by have:=D7.size;omega
   have k7:=ae ((B7.block _ (ai k4)).trans k4);have Ki:=ae ((B7.block _ (ai dg)).trans dg);have la:=ae (ZO.aa B7 ly);have JD:=ae (B4.trans (B7.mono (by omega)));have J9:=L8 HX.out;have Kc:=ae (Kd.ents x J9);clear D7 ZR CT X6 m6 DH JJ B6 Lq J9;go_upto_if 46 with fail;go_cut [8,9] (λ_ _ wx=>∃(aa al:Option Addr) (na nl ca H:Nat),Hid (DBox wx (wr.heap.size+1) (U x.e) (J I x.E) (J I x.B) (U x.h) (Z aa na ca) (Z al nl H))/\Hid (DSub wx wr.heap.size (iO S f x,Z aa na ca,Z al nl H))/\Hid (Below wr.heap.size wr wx));case first =>
    rcases Kc.E with ⟨hk,ro,Bk,si,Kq,JK⟩|⟨hk,ro,JK,Bk,JL,DQ⟩|⟨hk,JL,DQ⟩
    rotate_left 2
    ·have HK:=ae hk;have JR:dP x=⟨x.B,x.h,[]⟩:=by unfold dP;rw[nD (by omega)]
     have Jr:Hid (rt=x.h/\y=x.B):=⟨by rw[Ko.out,JR],by rw[Lg.out,JR]⟩
     have hns2:t<=200:=by rw[At.out];exact Kc.looks
     have J7:=(cT DQ).1;have J5:ZL=(x.tg:Int):=by rw[HT.out,DQ];rfl
     have Kn:fo S x=(S.f1 x.tg).f:=by unfold fo;rw[p7 hk]
     obtain⟨ZQ,Jw⟩:∃ZQ,ZQ=(S.f1 x.tg).f:=⟨_,rfl⟩
     have Lc:Hid (fo S x=ZQ):=Kn.trans Jw.symm;have hn4m:ZQ<=1048576:=by rw[Jw];exact KT x.tg J7
     have hn41:1<=ZQ:=by obtain⟨_,hv,_⟩:=bO (Jp.G x.tg J7);omega
     obtain⟨tb,tf,Ll,fd⟩:=V1.resolve_left (by omega);subst J5 Ll;obtain⟨-,ia,ic,th,Kr⟩:=fd.2 x.tg J7;have J8:=fd.1;obtain⟨ib,io,rfl,JW⟩:=Kr.resolve_left (by omega);rw[<-Jw] at th JW;have Lp:=ae JW;have Ka:=ae th;clear hk JR Kn Jw JL DQ fd Kr JW th;have q1:A X (Q wr.heap.size 1 Y)=T (J I y):=by simp[World.cell?,m7.out]
     have q2:A X (Q wr.heap.size 2 Y)=T (U rt):=by simp[World.cell?,m7.out]
     obtain⟨d1,Kl⟩:=X7.c1;obtain⟨d2,La⟩:=X7.c2;obtain⟨d3,Ke⟩:=X7.c3;have Kj:=X7.lt;have htg0:(0:Int)<=(x.tg:Int):=by omega
     have X9:=ae (((X7.set1 (J I 3)).set2 (J I y)).set3 (U rt));have m9:Hid ((((X.setCell (Q (wr.heap.size+1) 1 Y) (J I 3)).setCell (Q (wr.heap.size+1) 2 Y) (J I y)).setCell (Q (wr.heap.size+1) 3 Y) (U rt)).heap[wr.heap.size]?=T (N #[U x.e,J I y,U rt,Z Y 0 0,Z ZJ t D,ZD ZG] 179 (0,0))):=(qh _ _ _ _ (show wr.heap.size≠wr.heap.size+1 by omega)).trans ((qh _ _ _ _ (show wr.heap.size≠wr.heap.size+1 by omega)).trans ((qh _ _ _ _ (show wr.heap.size≠wr.heap.size+1 by omega)).trans m7.out));have B9:=ae (((B7.setCell (p:=(Q (wr.heap.size+1) 1 Y)) (F3 _) (J I 3)).setCell (p:=(Q (wr.heap.size+1) 2 Y)) (F3 _) (J I y)).setCell (p:=(Q (wr.heap.size+1) 3 Y)) (F3 _) (U rt));have Kg:wr.heap.size+2<=(((X.setCell (Q (wr.heap.size+1) 1 Y) (J I 3)).setCell (Q (wr.heap.size+1) 2 Y) (J I y)).setCell (Q (wr.heap.size+1) 3 Y) (U rt)).heap.size:=by simpa using JF
     go_upto_region 12 with fail;generalize World.setCell (World.setCell (World.setCell X _ _) _ _) _ _=W9 at X9 m9 B9 Kg ⊢;clear d1 Kl d2 La d3 Ke q1 q2 Kj X7 m7 B7 k7 Ki la JD JF;have JE:=ae (B4.trans (B9.mono (by omega)));have JH:=ae (ZO.aa B9 ly);have Ln:=JH.c1;have KO:=JH.lt;have tc:=(JE.cell (p:=(Q tb (tf+x.tg*2+1) Y)) J8).trans Ka;have KC:tb<W9.heap.size:=lj J8 JE.size;have htgI:(x.tg:Int)<(S.n1:Int):=by omega
     go_wp2_with fail;refine(jd ib io ZQ ic (S.f1 x.tg).G W9 (by omega) (Lp.aa JE ly)).mono ?_;rintro e Ku ⟨g4,c4,rfl,JO,sm⟩;have Jq:=ae (X9.aa sm X9.lt);obtain⟨d4,KX⟩:=Jq.c4;have JZ:=ae (Jq.set4 (Z (T (Q g4 0 Y)) ZQ c4));have J4:Hid ((Ku.setCell (Q (wr.heap.size+1) 4 Y) (Z (T (Q g4 0 Y)) ZQ c4)).heap[wr.heap.size]?=T (N #[U x.e,J I y,U rt,Z Y 0 0,Z ZJ t D,ZD ZG] 179 (0,0))):=(qh _ _ _ _ (show wr.heap.size≠wr.heap.size+1 by omega)).trans ((sm.block _ (ai m9)).trans m9);have J6:=ae (aP (R:=wr.heap.size+1) (j:=4) (aC JO (show wr.heap.size+2<=W9.heap.size by omega)) (by omega) (Z (T (Q g4 0 Y)) ZQ c4));have JQ:=ae ((B9.trans (sm.mono B9.size)).setCell (p:=(Q (wr.heap.size+1) 4 Y)) (F3 _) (Z (T (Q g4 0 Y)) ZQ c4));have Kb:=Jq.lt;clear JO sm tc Ln;go_wp2;generalize World.setCell Ku _ _=W11 at JZ J4 J6 JQ ⊢;clear d4 KX Jq Kb X9 m9 B9 JE JH KO KC Kg;obtain⟨o,Lr⟩:∃o,o=wr:=⟨_,rfl⟩
     subst Lr;go_loopw [8] (λv wq=>∃(k:Nat) (al:Option Addr) (H:Nat),k<=t/\v=J I k/\LkI S f x y rt ZJ t D g4 ZQ c4 o al k H wq) (λv _=>t - (intOf v).toNat);case atStart=>exact⟨0,Y,0,by omega,rfl,JZ,J4,J6,AT _ _ _ _,JQ⟩
     case round =>
      clear JZ J4 J6 JQ;obtain⟨k,al,H,hk,rfl,Js,JI,JY,JV,Fm⟩:=hrel;have m4:A wr (Q o.heap.size 4 Y)=T (Z ZJ t D):=by simp[World.cell?,JI.out]
      have ml:=ai JI.out;have hz12:o.heap.size+2<=wr.heap.size:=Js.lt;by_cases Bk:k<t
      ·obtain⟨l,hl⟩:∃l,x.looks[k]?=T l:=⟨_,gq (by rw[<-At.out];exact Bk)⟩
       obtain⟨ZP,sc',e⟩:=bV JS (by omega);simp only[ML,QR] at e;obtain⟨rfl,rfl⟩:=e;have Ky:=(dL JS).2;have sn:∀j,j<3->∀u,[Value.string l.e,ZD l.ask,ZD l.has][j]?=T u->A wr (Q ZP (k*3+j) Y)=T u:=λj hj u hu=>(Fm.cell (p:=(Q ZP (k*3+j) Y)) Ky).trans (Cg (by have h:=JS.out;rw[At.out] at h;exact h) hl j hj hu);have f0:=sn 0 (by omega) _ rfl;have f1:=sn 1 (by omega) _ rfl;have f2:=sn 2 (by omega) _ rfl;rw[show k*3+0=k*3 by omega] at f0;have Hx:ZP<wr.heap.size:=lj Ky Fm.size;have HL:=ae hl;have ZR:Hid (∀V,Below wr.heap.size wr V->A V (Q o.heap.size 4 Y)=T (Z (T (Q ZP 0 Y)) t D)/\A V (Q ZP (k*3) Y)=T (U l.e)/\A V (Q ZP (k*3+1) Y)=T (ZD l.ask)/\A V (Q ZP (k*3+2) Y)=T (ZD l.has)):=λV g=>⟨(g.cell (p:=(Q o.heap.size 4 Y)) ml).trans m4,(g.cell (p:=(Q ZP _ Y)) Hx).trans f0,(g.cell (p:=(Q ZP _ Y)) Hx).trans f1,(g.cell (p:=(Q ZP _ Y)) Hx).trans f2⟩
       have hk0:(0:Int)<=(k:Int):=by omega
       have hkI:(k:Int)<t:=by omega
       clear sn hl;go_upto_region 16 with fail;go_cut [9] (λs wx=>s=.pointer (T (Q wr.heap.size 0 Y))/\wx=(wr.alloc (N #[U l.e,ZD l.ask,ZD l.has,J I 0] 93)).drew);case first =>
        clear m4 f0 f1 f2;go_region_held3 (λV=>A V (Q o.heap.size 4 Y)=T (Z (T (Q ZP 0 Y)) t D)/\A V (Q ZP (k*3) Y)=T (U l.e)/\A V (Q ZP (k*3+1) Y)=T (ZD l.ask)/\A V (Q ZP (k*3+2) Y)=T (ZD l.has)) (first|exact ZR _ br|exact ZR _ br.drew|exact ZR _ (br.drew.alloc ly _)|exact ZR _ (br.alloc ly _).drew|exact ZR _ ((((((q9 wr).drew.alloc ly _).setCell ly _).setCell ly _).setCell ly _).setCell ly _)) (fail);all_goals
         go_wp2_with fail;go_meet;exact⟨rfl,rfl⟩
       case rest =>
       obtain⟨rfl,rfl⟩:=hcut;have qr:=ae ((q9 wr).alloc ly (N #[U l.e,ZD l.ask,ZD l.has,J I 0] 93)).drew;have ZM:Hid ((wr.alloc (N #[U l.e,ZD l.ask,ZD l.has,J I 0] 93)).drew.heap[wr.heap.size]?=T (N #[U l.e,ZD l.ask,ZD l.has,J I 0] 93 (0,0))):=n6 wr _;clear m4 f0 f1 f2 ZR;generalize World.drew (World.alloc wr _)=ZI at qr ZM ⊢;have Ju:=ae (Js.aa qr Js.lt);have JB:=ae ((qr.block _ ml).trans JI);have JT:=ae (own_below JY qr ly);have JG:=ae (own_below JV qr ly);have ph:=ae (Fm.trans (qr.mono Fm.size));have k1:A ZI (Q wr.heap.size 1 Y)=T (ZD l.ask):=by simp[World.cell?,ZM.out]
       go_upto_if 94 with fail;clear k1;go_cut [] (λwx=>∃q:Int,Hid (cP (lkD f l)=[U l.e,ZD l.ask,ZD l.has,J I q])/\Hid (wx.heap[wr.heap.size]?=T (N #[U l.e,ZD l.ask,ZD l.has,J I q] 93 (0,0)))/\LkI S f x y rt (T (Q ZP 0 Y)) t D g4 ZQ c4 o al k H wx);case first =>
        cases hask:l.ask with
        |false =>go_wp2;go_meet;exact⟨0,by show _=_;simp[cP,lkD,hask],ZM,Ju,JB,JT,JG,ph⟩
        |true =>
         obtain⟨q,hq⟩:∃q:Int,q=((oX f l.e:Nat):Int):=⟨_,rfl⟩
         have Kk:=ae ((ph.block _ (ai k4)).trans k4);have ac:A ZI (Q (w.heap.size+1) 0 Y)=T (Z P i c5):=by simp[World.cell?,Kk.out]
         have acl:=ai Kk.out;have KV:A ZI (Q wr.heap.size 0 Y)=T (U l.e):=by simp[World.cell?,ZM.out]
         have CA:Hid (Calls Pg 118 #[.agg #[Z P i c5],U l.e] ZI λe w'=>e=ZF (J I q)/\Below ZI.heap.size ZI w'):=by
          have hd:SlDeed ZI P i (dF (R.map (·.1))):=by have h:=D4.aa ph.out ly;rw[<-Fk] at h ⊢;exact h.am
          have h:=Cu P i c5 (dF (R.map (·.1))) l.e ZI (by omega) hd;rw[Ff Kd.out HX.out (L8 HL.out) hask JP.out,<-hq] at h;exact h
         have HQ:=ae hq;clear hq;go_wp2_with fail;refine CA.mono ?_;rintro e Jz ⟨rfl,O⟩;have DS:=(O.block _ (ai ZM)).trans ZM;have q3:A Jz (Q wr.heap.size 3 Y)=T (J I 0):=by simp[World.cell?,DS]
         have qf3:Jz.frozen? (Q wr.heap.size 3 Y)=ZA:=by simp[World.frozen?,DS]
         have ql3:=ai DS;have G:Hid ((Jz.setCell (Q wr.heap.size 3 Y) (J I q)).heap[wr.heap.size]?=T (N #[U l.e,ZD l.ask,ZD l.has,J I q] 93 (0,0))):=ay DS _;have aq:=ae ((Ju.aa O Ju.lt).far (p:=(Q wr.heap.size 3 Y)) (by show wr.heap.size≠o.heap.size+1;omega) (J I q));have DE:Hid ((Jz.setCell (Q wr.heap.size 3 Y) (J I q)).heap[o.heap.size]?=T (N #[U x.e,J I y,U rt,Z Y 0 0,Z (T (Q ZP 0 Y)) t D,ZD ZG] 179 (0,0))):=(qh _ _ _ _ (show o.heap.size≠wr.heap.size by omega)).trans ((O.block _ (ai JB)).trans JB);have Jt:=ae (aB (own_below JT O ly) (b:=wr.heap.size) (λe=>by have:=(JY.lt _ e).2;omega) 3 (J I q));have Jv:=ae (aB (own_below JG O ly) (b:=wr.heap.size) (λe=>by have:=(JV.lt _ e).2;omega) 3 (J I q));have Fn:=ae ((ph.trans (O.mono ph.size)).setCell (p:=(Q wr.heap.size 3 Y)) (by show o.heap.size<=wr.heap.size;omega) (J I q));clear DS O ac KV;go_wp2;go_meet;exact⟨q,by show _=_;simp[cP,lkD,hask,HQ.out],G,aq,DE,Jt,Jv,Fn⟩
       case rest =>
       obtain⟨q,KP,G,aq,DE,Jt,Jv,Fn⟩:=hcut;clear ZM Ju JB JT JG ph;generalize wc=F at G aq DE Jt Jv Fn ⊢;have l0:A F (Q wr.heap.size 0 Y)=T (U l.e):=by simp[World.cell?,G.out]
       have l1:A F (Q wr.heap.size 1 Y)=T (ZD l.ask):=by simp[World.cell?,G.out]
       have l2:A F (Q wr.heap.size 2 Y)=T (ZD l.has):=by simp[World.cell?,G.out]
       have l3:A F (Q wr.heap.size 3 Y)=T (J I q):=by simp[World.cell?,G.out]
       have ll:=ai G.out;obtain⟨e5,ef5⟩:=aq.c5;have AL:=ae ((q9 F).alloc ly (N #[U l.e,ZD l.ask,ZD l.has,J I q] 93));have XA:=ae (aq.aa AL aq.lt);have mA:=ae ((AL.block _ (ai DE)).trans DE);have OA:=ae (own_below Jt AL ly);have PA:=ae (own_below Jv AL ly);have BA:=ae (Fn.trans (AL.mono Fn.size));have Lj:(F.alloc (N #[U l.e,ZD l.ask,ZD l.has,J I q] 93)).heap.size=F.heap.size+1:=by simp
       have hzW:o.heap.size+2<=F.heap.size:=aq.lt;go_wp2_with (at_builtin;refine BS _ rfl (.tmp 101) (.tmp 103) 60 rfl (o.heap.size+2) 93 il (.agg #[U ⟨#[]⟩,ZD ZA,ZD ZA,J I 0]) 4 32 ON Ls KH KB KM rfl (by decide) (Z al k H) k (lkV f (x.looks.take k)) (by simp[Act.eval]) PA.out (Q F.heap.size 0 Y) 1 1 [U l.e,ZD l.ask,ZD l.has,J I q] (by simp[Act.eval]) rfl (Hf F _ _ _ _ _) (by simp[Value.oneCell']) (by unfold maxLen;omega) (by omega) (by omega) ?_;intro v' wz E C _;obtain⟨az,cz,rfl⟩:=ii E;rw[<-KP.out,<-Fe f x.looks HL.out] at E;have PZ:=ae E;have GZ:=ae C;have XZ:=ae (XA.grown PA C (AI _));obtain⟨z5,zf5⟩:=XZ.c5;have zl:=XZ.lt;clear E C);have XY:=ae (XZ.set5 (Z az (k+1) cz));have mY:Hid ((wz.setCell (Q (o.heap.size+1) 5 Y) (Z az (k+1) cz)).heap[o.heap.size]?=T (N #[U x.e,J I y,U rt,Z Y 0 0,Z (T (Q ZP 0 Y)) t D,ZD ZG] 179 (0,0))):=(qh _ _ _ _ (show o.heap.size≠o.heap.size+1 by omega)).trans ((GZ.block _ (ai mA) (λe=>by have:=(PA.lt _ e.symm).1;omega)).trans mA);have OY:=ae (aP (R:=o.heap.size+1) (j:=5) (Cf OA PA GZ (by decide)) (by omega) (Z az (k+1) cz));have PY:=ae (aP (R:=o.heap.size+1) (j:=5) PZ (by omega) (Z az (k+1) cz));have BY:=ae ((bg BA GZ (by omega) (λj e=>by have:=(PA.lt j e).1;omega)).setCell (p:=(Q (o.heap.size+1) 5 Y)) (F3 _) (Z az (k+1) cz));exact⟨⟨k+1,az,cz,by omega,by go_num,XY,mY,OY,PY,BY⟩,by simp[intOf];omega⟩
      ·have e:k=t:=by omega
       subst e;have XT:Hid (DBox wr (o.heap.size+1) (U x.e) (J I x.E) (J I x.B) (U x.h) (Z (T (Q g4 0 Y)) ZQ c4) (Z al k H)):=by show DBox _ _ _ _ _ _ _ _;rw[HK.out,<-Jr.1,<-Jr.2];exact Js
       have ST:Hid (DSub wr o.heap.size (iO S f x,Z (T (Q g4 0 Y)) ZQ c4,Z al k H)):=by
        refine⟨?_,?_⟩;{show World.ownsRow wr o.heap.size 90 3 (Z (T (Q g4 0 Y)) ZQ c4) (fo S x) (bH (S.f1 x.tg).G (fo S x));rw[Lc.out];exact aC JY (by omega)};{show World.ownsRow wr o.heap.size 93 4 (Z al k H) x.looks.length (bo (lkF f x.looks) x.looks.length);rw[He,<-At.out];have h:=JV.out;rw[KK (by rw[<-At.out];exact n8 _)] at h;exact aC h (by omega)}
       go_wp2;go_meet;exact⟨_,_,_,_,_,_,XT,ST,Fm⟩
    all_goals
     obtain⟨z,hz⟩:∃z,z=ej (atI (nm0 S.f0) S.n0 x.e):=⟨_,rfl⟩
     have HK:=ae hk;have Kf:=ae ro;have Lf:=ae JK;have ZR:Hid (∀V,Below X.heap.size X V->A V (Q hb 0 Y)=T (Z a0 S.n0 c0)/\A V (Q hb 1 Y)=T (Z a1 S.n1 c1)/\A V (Q wr.heap.size 0 Y)=T (U x.e)):=λV g=>⟨(g.cell (p:=(Q hb 0 Y)) la.lt).trans la.c0,(g.cell (p:=(Q hb 1 Y)) la.lt).trans la.c1,(g.cell (p:=(Q wr.heap.size 0 Y)) (by show wr.heap.size<_;omega)).trans (by simp[World.cell?,m7.out])⟩
     have CT:Hid (∀V,Below X.heap.size X V->Calls Pg 119 #[.agg #[Z a0 S.n0 c0,Z a1 S.n1 c1],U x.e] V λe w'=>e=ZF (J I z)/\Below V.heap.size V w'):=λV g=>by rw[hz];exact iP a0 S.n0 c0 a1 S.n1 c1 S.f0 x.e V (by have:=Jp.av;omega) (V0.aa (JD.trans (g.mono JD.size)) ly)
     have HZ:=ae hz;have J5:ZL=-1:=by rw[HT.out,show atI (nm1 S.f1) S.n1 x.e=Y by first|exact DQ|exact oq Jp.out Kq];rfl
     subst J5;clear hk ro JK hz;go_wp2_with fail
     go_region_held3 (λV=>A V (Q hb 0 Y)=T (Z a0 S.n0 c0)/\A V (Q hb 1 Y)=T (Z a1 S.n1 c1)/\A V (Q wr.heap.size 0 Y)=T (U x.e)) (first|exact ZR _ br|exact ZR _ br.drew|exact ZR _ D8) (first
      |(go_at_call 119;refine(CT _ (by first|exact br.drew|exact eL _ _)).mono ?_;rintro e w8 ⟨rfl,mv⟩;have D8:Hid (Below X.heap.size X w8):=⟨mv.os,mv.tape,mv.output,mv.size,mv.block⟩;clear mv))
     have X8:=ae (X7.aa D8 X7.lt);have B8:=ae (B7.trans (D8.mono B7.size));obtain⟨d1,Kl⟩:=X8.c1;have Kj:=X8.lt
    ·obtain rfl:z=(si:Int):=by rw[HZ.out,Kq];rfl
     have Jr:Hid (rt=x.h):=by show rt=x.h;rw[Ko.out];unfold dP;rw[nD (by rw[HK.out];decide)]
     have hsi0:(0:Int)<=(si:Int):=by omega
     obtain⟨d3,Ke⟩:=X8.c3;have m8:=(D8.block _ (ai m7)).trans m7;have q2:A w8 (Q wr.heap.size 2 Y)=T (U rt):=by simp[World.cell?,m8]
     have BT:=ae ((B8.setCell (p:=(Q (wr.heap.size+1) 1 Y)) (F3 _) (J I 1)).setCell (p:=(Q (wr.heap.size+1) 3 Y)) (F3 _) (U rt));clear m8;go_wp2;go_meet;exact⟨Y,Y,0,0,0,0,(by show DBox _ _ _ _ _ _ _ _;rw[HK.out,Kf.out,<-Jr.out];exact(X8.set1 _).set3 _),uV (by unfold fo;rw[nD (by rw[HK.out];decide)]) Bk _ _,BT⟩
    ·obtain rfl:z=-1:=by rw[HZ.out,JL];rfl
     have BT:=ae (B8.setCell (p:=(Q (wr.heap.size+1) 1 Y)) (F3 _) (J I 2));go_wp2;go_meet;exact⟨Y,Y,0,0,0,0,(by show DBox _ _ _ _ _ _ _ _;rw[HK.out,Kf.out,Lf.out];exact X8.set1 _),uV (by unfold fo;rw[nD (by rw[HK.out];decide)]) Bk _ _,BT⟩
   case rest =>
   obtain⟨aa,al,na,nl,ca,H,XT,ST,BT⟩:=hcut;have kT:=ae ((BT.block _ (ai k4)).trans k4);have JX:=ae ((BT.block _ (ai dg)).trans dg);clear X7 m7 k7 Ki la JD B7 JF;generalize wc=W8 at XT ST BT kT JX ⊢;obtain⟨t0,_⟩:=XT.c0;obtain⟨t1,_⟩:=XT.c1;obtain⟨t2,_⟩:=XT.c2;obtain⟨t3,_⟩:=XT.c3;obtain⟨t4,_⟩:=XT.c4;obtain⟨t5,_⟩:=XT.c5;have kc:A W8 (Q (w.heap.size+1) 0 Y)=T (Z P i c5):=by simp[World.cell?,kT.out]
   have AL:=ae ((q9 W8).alloc ly (N #[U x.e,J I x.E,J I x.B,U x.h,Z aa na ca,Z al nl H] 62));have DA:=ae (D4.aa (BT.trans (AL.mono BT.size)) ly);have SA:=ae (ST.aa AL ly);have kA:=ae ((AL.block _ (ai kT)).trans kT);have Kw:=ae ((AL.block _ (ai JX)).trans JX);have BA:=ae (B4.trans ((BT.trans (AL.mono BT.size)).mono (by omega)));have OW:Hid (World.ownsRow (W8.alloc (N #[U x.e,J I x.E,J I x.B,U x.h,Z aa na ca,Z al nl H] 62)) (w.heap.size+2) 62 6 (Z P i c5) i (R.flatMap ddV)):=by have h:=DA.i;rw[Fk] at h;exact h
   have JU:Hid (∀j,(Value.slice P i c5).ownBlock=T j->w.heap.size+2<=j):=λj e=>(OW.lt j e).1;have Lj:(W8.alloc (N #[U x.e,J I x.E,J I x.B,U x.h,Z aa na ca,Z al nl H] 62)).heap.size=W8.heap.size+1:=by simp
   have hzT:=BT.size;go_wp2_with (at_builtin;refine BS _ rfl (.tmp 121) (.tmp 123) 23 rfl (w.heap.size+2) 62 Lh (.agg #[U ⟨#[]⟩,J I 0,J I 0,U ⟨#[]⟩,Z Y 0 0,Z Y 0 0]) 6 96 MS Lm KN KE Kz rfl (by decide) (Z P i c5) i (R.flatMap ddV) (by simp[Act.eval]) OW.out (Q W8.heap.size 0 Y) 1 1 [U x.e,J I x.E,J I x.B,U x.h,Z aa na ca,Z al nl H] (by simp[Act.eval]) rfl (Iw W8 _ _ _ _ _ _ _) (by simp[Value.oneCell']) (by unfold maxLen;omega) (by omega) (by omega) ?_;intro v' w9 E C _;obtain⟨a7,c7,rfl⟩:=ii E;have O9:=ae E;have G9:=ae C;have k9:=ae ((C.block _ (ai kA) (λe=>by have:=JU.out _ e.symm;omega)).trans kA);have g9:A w9 (Q (w.heap.size+1) 0 Y)=T (Z P i c5):=(by simp[World.cell?,k9.out]);have f9:w9.frozen? (Q (w.heap.size+1) 0 Y)=ZA:=(by simp[World.frozen?,k9.out]);have l9:=ai k9.out;clear E C);have D9:Hid (DRow w9 (w.heap.size+2) (Z a7 (i+1) c7) (R++[(iO S f x,Z aa na ca,Z al nl H)])):=DRow.more D4 DA (by omega) SA (by rw[Fk];exact O9) G9;have KQ:=ae ((G9.block _ (ai Kw) (λe=>by have:=JU.out _ e.symm;omega)).trans Kw);have B9:=ae (bg BA G9 (by omega) (λj e=>by have:=JU.out j e;omega));have KZ:=ae (D9.set (p:=(Q (w.heap.size+1) 0 Y)) (e:=25) (.inl (AI _)) (Z a7 (i+1) c7));have Lo:Hid ((w9.setCell (Q (w.heap.size+1) 0 Y) (Z a7 (i+1) c7)).heap[w.heap.size+1]?=T (N #[Z a7 (i+1) c7] 25 (0,0))):=ay k9 _;have KD:Hid ((w9.setCell (Q (w.heap.size+1) 0 Y) (Z a7 (i+1) c7)).heap[w.heap.size]?=T (N #[Z Y 0 0] 25 (0,0))):=(qh _ _ _ _ (show w.heap.size≠w.heap.size+1 by omega)).trans KQ.out;have Li:=ae (B9.setCell (p:=(Q (w.heap.size+1) 0 Y)) (F3 _) (Z a7 (i+1) c7));refine⟨⟨i+1,a7,c7,_,by omega,by go_num,by rw[cM,Fk];rfl,?_,KZ,Lo,KD,Li⟩,by simp[intOf];omega⟩;show(R++[((iO S f x,Z aa na ca,Z al nl H):DR)]).map (·.1)=_;rw[BG,JP.out,RC,HX.out];simp
  ·have e:i=n:=by omega
   subst e;have Ld:A wr (Q w.heap.size 0 Y)=T (Z Y 0 0):=by simp[World.cell?,dg.out]
   have rf0:wr.frozen? (Q w.heap.size 0 Y)=ZA:=by simp[World.frozen?,dg.out]
   have rl0:=ai dg.out;have ac0:A wr (Q (w.heap.size+1) 0 Y)=T (Z P i c5):=by simp[World.cell?,k4.out]
   have al0:=ai k4.out;go_wp2;refine bp (v:=.agg #[Z P i c5]) (by simp[results,results75,go_sem,Ld]) rfl ?_;subst Fk;refine⟨P,c5,R,rfl,?_,?_,?_⟩;{exact(D4.set (p:=(Q w.heap.size 0 Y)) (e:=25) (.inl (show w.heap.size<w.heap.size+2 by omega)) _).mono (by omega)};{rw[JP.out,KK (by rw[<-HN.out];exact n8 _)];rfl};{exact B4.setCell (p:=(Q w.heap.size 0 Y)) ly _}
end
def uW (w:M)(S:Spc)(b:List Ent × kM)(e:Ending)(f:M):Prop:=∃a c R g,e=ZF (.tuple #[.agg #[Z a R.length c],g])/\DRow f w.heap.size (Z a R.length c) R/\R.map (·.1)=ie S b.1/\sY w f b.2 g/\Below w.heap.size w f
section
variable {S:Spc}{a0 a1:Option Addr}{c0 c1:Nat}
theorem uX (w:M)(nm:ByteArray)(r:SlSource w a0 S.n0 S.f0)(u:SlTarget w a1 S.n1 S.f1)(hn0:S.n0<=1048576)(hn1:S.n1<=1048576)(n:∀i,i<S.n1->cR (S.f1 i))(G:∀i,i<S.n1->∀j,j<(S.f1 i).f->((S.f1 i).G j).s.size<=maxLen)(l:¬ (ce S.n0 S.f0 S.n1 S.f1=0/\aw nm=ZG)):Calls Pg 40 #[.agg #[Z a0 S.n0 c0,Z a1 S.n1 c1],U nm] w λe L=>uW w S ([],⟨9,⟨#[]⟩,[]⟩) e L:=by
 have y:=ae (λ(o:M) (b:Hid (Below w.heap.size w o))=>fu a0 S.n0 c0 S.f0 a1 S.n1 c1 S.f1 o (by omega) (by omega) (r.aa b ly) (u.aa b ly) n G);obtain⟨z,t⟩:∃z,z=ce S.n0 S.f0 S.n1 S.f1:=⟨_,rfl⟩
 rw[<-t] at y l;have F:=ae l;clear r u n G t l hn0 hn1;go_enter func40,ntmps40;go_wp2_with fail;generalize ZR:World.alloc (World.alloc (World.alloc w _) _) _=o;obtain⟨b,H,g,c,-⟩:=nb3 ZR;replace c:Hid (o.heap[w.heap.size+1+1]?=_):=c;clear ZR;refine(y o b).mono ?_;clear y;rintro e D ⟨rfl,f⟩;replace b:=ae (b.trans (f.mono b.size));replace g:=ae ((f.block _ (ai g)).trans g);replace c:=ae ((f.block _ (ai c)).trans c);clear f H;by_cases E:z=0;case' pos =>
  have B:Hid (aw nm=ZA):=by
   cases h:aw nm with
   |false=>rfl
   |true=>exact absurd ⟨E,h⟩ F
  subst E;go_wp2_with fail;refine(cZ nm D).mono ?_;rintro e x ⟨C,f⟩;rw[B.out] at C;subst C;replace b:=ae (b.trans (f.mono b.size));replace g:=ae ((f.block _ (ai g)).trans g);replace c:=ae ((f.block _ (ai c)).trans c);clear f
 case' neg =>
  obtain⟨x,K⟩:∃v,v=D:=⟨_,rfl⟩
  subst K
 all_goals
  have ZO:=b;have m:=g.out;obtain⟨rl,r0,r1,ZP,q⟩:=bu c.out;have rf0:=q 0;have rf1:=q 1;have rf2:=q 2;have ZQ:A x (Q (w.heap.size+1) 0 Y)=T (Z Y 0 0):=by simp[World.cell?,m]
  have pf0:x.frozen? (Q (w.heap.size+1) 0 Y)=ZA:=by simp[World.frozen?,m]
  have pl:=ai m;clear q m g c;go_wp2_with fail;refine bp (v:=.tuple #[.agg #[Z Y 0 0],.agg #[J I 9,U ⟨#[]⟩,Z Y 0 0]]) (by simp[results,results40,go_sem,ZQ,r0,r1,ZP]) rfl ⟨Y,0,[],_,rfl,dN _ _,rfl,Ce _ _ _ _,?_⟩;exact(((ZO.setCell (p:=(Q (w.heap.size+1) 0 Y)) (F3 _) _).setCell (p:=(Q (w.heap.size+1+1) 0 Y)) (by show w.heap.size<=w.heap.size+1+1;omega) _).setCell (p:=(Q (w.heap.size+1+1) 1 Y)) (by show w.heap.size<=w.heap.size+1+1;omega) _).setCell (p:=(Q (w.heap.size+1+1) 2 Y)) (by show w.heap.size<=w.heap.size+1+1;omega) _
theorem wG (w:M)(nm:ByteArray)(aq:SlSource w a0 S.n0 S.f0)(mv:SlTarget w a1 S.n1 S.f1)(hn0:S.n0<=1048576)(hn1:S.n1<=1048576)(ZK:∀i,i<S.n1->cR (S.f1 i))(hs:∀i,i<S.n1->∀j,j<(S.f1 i).f->((S.f1 i).G j).s.size<=maxLen)(h1:ce S.n0 S.f0 S.n1 S.f1=0)(h2:aw nm=ZG):Calls Pg 40 #[.agg #[Z a0 S.n0 c0,Z a1 S.n1 c1],U nm] w λe w'=>uW w S (cf S nm) e w':=by
 have HC:=ae (λ(W0:M) (ZJ:Hid (Below w.heap.size w W0))=>fu a0 S.n0 c0 S.f0 a1 S.n1 c1 S.f1 W0 (by omega) (by omega) (aq.aa ZJ ly) (mv.aa ZJ ly) ZK hs);have V0:=ae aq;have V1:=ae mv;have GS:=ae ZK;have ro:=ae (SpcOk.of h1);have H1:=ae h1;have H2:=ae h2;rw[h1] at HC;obtain⟨bb,P⟩:∃bb,bb=cf S nm:=⟨_,rfl⟩
 obtain⟨n9,o,-⟩:=pV S nm;rw[<-P] at n9 o ⊢;unfold cf at P;rw[p7 ⟨h1,h2⟩] at P;have ld:=ae P;have Id:=ae n9;have Fk:=ae o;clear aq mv ZK hs hn0 hn1 h1 h2 P n9 o;go_enter func40,ntmps40;go_wp2_with fail;generalize hW:World.alloc (World.alloc (World.alloc w _) _) _=W0;obtain⟨ZJ,kS,kA,kR,-⟩:=nb3 hW;replace kR:Hid (W0.heap[w.heap.size+1+1]?=_):=kR;clear hW;refine(HC W0 ZJ).mono ?_;clear HC;rintro e w1 ⟨rfl,n⟩;have B1:=ae (ZJ.trans (n.mono ZJ.size));have th:=ae ((n.block _ (ai kA)).trans kA);have ur:=ae ((n.block _ (ai kR)).trans kR);have DS:=ae ((n.block _ (ai kS)).trans kS);clear n;go_wp2_with fail;refine(cZ nm w1).mono ?_;rintro e w2 ⟨he,n⟩;rw[H2.out] at he;subst he;have B2:=ae (B1.trans (n.mono B1.size));have DQ:=ae ((n.block _ (ai th)).trans th);have DH:=ae ((n.block _ (ai ur)).trans ur);have la:=ae ((n.block _ (ai DS)).trans DS);have hsl:w.heap.size<w2.heap.size:=ai la.out;have q0:A w2 (Q w.heap.size 0 Y)=T (Z a0 S.n0 c0):=by simp[World.cell?,la.out]
 have q1:A w2 (Q w.heap.size 1 Y)=T (Z a1 S.n1 c1):=by simp[World.cell?,la.out]
 clear n;go_wp2_with fail;refine(wE w2 ⟨V0.aa B2 ly,V1.aa B2 ly,ro⟩ nm H2).mono ?_;rintro e f ⟨hb,rfl,g,n⟩;have B3:=ae (B2.trans (n.mono B2.size));have u:=ae ((n.block _ (ai DQ)).trans DQ);have t:=ae ((n.block _ (ai DH)).trans DH);clear q0 q1 n;have ZP:w.heap.size<=f.heap.size:=B3.size;have C:=wF S 60 [] [] nm;rcases hl:bG S 60 [] [] nm with ⟨y,x⟩|c|d
 ·rw[hl] at g;obtain⟨r,m⟩:∃r,r=dP x:=⟨_,rfl⟩
  have e:bb=(y,r):=by rw[ld.out,hl,m]
  subst e;obtain⟨L,md,or,st,l,sm,qr,Bk,hrel⟩:=g;obtain⟨ZQ,b0,b1,b2,b3,-,b5,b6,b7,b8,-⟩:=l.D;have Jw:Hid (ShAt w2.heap.size f hb (Z a0 S.n0 c0) (Z a1 S.n1 c1) md or L y):=⟨ZQ,b0,b1,b2,b3,sm,qr,Bk⟩
  have Fm:=ae hrel;have dg:r.j=[]:=by rw[m];unfold dP;split<;>rfl
  rw[<-m] at b5 b6;have ph:=ae dg;have SQ:Hid (∀V:M,V.heap[hb]?=f.heap[hb]?->A V (Q hb 5 Y)=T (J I r.B)/\A V (Q hb 6 Y)=T (U r.h)/\A V (Q hb 7 Y)=T (Z Y 0 0)):=λV h=>⟨(cq (a:=(Q hb 5 Y)) h).trans b5,(cq (a:=(Q hb 6 Y)) h).trans b6,(cq (a:=(Q hb 7 Y)) h).trans b7⟩
  have ZL:hb≠w.heap.size+1:=λe=>by have:=ar l (e ▸ u.out);exact absurd this (by decide)
  have F:hb≠w.heap.size+1+1:=λe=>by have:=ar l (e ▸ t.out);exact absurd this (by decide)
  have CM:Hid (Calls Pg 75 #[.pointer (T (Q hb 0 Y))] f.drew λe w'=>∃a c R,e=ZF (.agg #[Z a R.length c])/\DRow w' f.heap.size (Z a R.length c) R/\R.map (·.1)=ie S y/\Below f.heap.size f w'):=by have hd:Below f.heap.size f f.drew:=br.drew;have h:=zB w2.heap.size f.drew hb md or L y (Jw.aa hd ly) Fm Id Fk (V0.aa (B3.trans (hd.mono ZP)) ly) (V1.aa (B3.trans (hd.mono ZP)) ly) ro GS;exact h.mono λe w' ⟨a,c,R,h1,h2,h3,h4⟩=>⟨a,c,R,h1,h2,h3,h4.os,h4.tape,h4.output,h4.size,h4.block⟩
  clear m dg hrel l sm qr Bk b0 b1 b2 b3 hl C;go_wp2_with fail;refine wp_region_held_drew (S:=λV=>A V (Q hb 5 Y)=T (J I r.B)/\A V (Q hb 6 Y)=T (U r.h)/\A V (Q hb 7 Y)=T (Z Y 0 0)) (by kernel_rfl) (SQ _ rfl) ?_;intro hS;have ZM:=ae hS;clear hS b5 b6 b7 b8;refine cK 0 (v:=?_) rfl rfl (by kernel_rfl) (λ_ _ _ h=>h) rfl ?_ ZM ?_;rotate_left
  ·(rintro wz ⟨s0,s1,s2⟩;go_simp)
   (try with_reducible rfl)
  (try simp only[Act.put,nzL])
  iterate 4
   refine cK 2 (v:=?_) rfl rfl (by kernel_rfl) (λ_ _ _ h=>h) rfl ?_ ZM ?_;rotate_left
   ·(rintro wz ⟨s0,s1,s2⟩;go_simp)
    (try with_reducible rfl)
   (try simp only[Act.put,nzL])
  refine bB (i:=1) rfl (by kernel_rfl) λK ZR=>?_;go_simp;go_at_call 75;refine CM.mono ?_;rintro e w4 ⟨W,c5,R,rfl,DE,At,Fd⟩;have D4:=ae DE;have M4:=ae At;have ZI:=ae Fd;clear DE At Fd ZM;have ZM:=ae (SQ w4 (ZI.block _ ZQ));refine ZR _ _ ZM ?_;clear ZR K
  (try simp only[Act.put,nzL])
  refine bB (i:=6) rfl (by kernel_rfl) λK ZR=>?_;go_simp;go_at_call 74;have CC:=qe w4 r Y 0 w4.heap.size (by rw[ph.out];exact⟨rfl,.inl ⟨rfl,rfl⟩⟩) (by rw[ph.out];exact E4 _);rw[ph.out] at CC;refine CC.mono ?_;clear CC;rintro e O ⟨rv,rfl,⟨B,D,rfl,H⟩,ZO⟩;have z:=ae H;have G:=ae ZO;have X:f.heap.size<=w4.heap.size:=ZI.size;have q:=(G.block _ (lj (ai u) X)).trans ((ZI.block _ (ai u)).trans u);have ZN:=(G.block _ (lj (ai t) X)).trans ((ZI.block _ (ai t)).trans t);obtain⟨rl,r0,r1,r2,E⟩:=bu ZN;have Jq:=E 0;have Js:=E 1;have Fn:=E 2;have p0:A O (Q (w.heap.size+1) 0 Y)=T (Z Y 0 0):=by simp[World.cell?,q]
  have Jp:O.frozen? (Q (w.heap.size+1) 0 Y)=ZA:=by simp[World.frozen?,q]
  have pl:=ai q;have Jv:w.heap.size+1<f.heap.size:=ai u.out;have Jr:w.heap.size+1+1<f.heap.size:=ai t.out;have fd:=(G.block hb (lj ZQ X)).trans (ZI.block hb ZQ);clear E q ZN ZM H ZO;have ZM:=ae (SQ O fd);refine ZR _ _ ZM ?_;clear ZR K
  (try simp only[Act.put,nzL])
  refine bB (i:=7) rfl (by kernel_rfl) λK ZR=>?_;go_simp;have Ju:=ae (SQ (O.setCell (Q (w.heap.size+1) 0 Y) (Z W R.length c5)) ((qh _ _ _ _ ZL).trans fd));refine ZR _ _ Ju ?_;clear ZR K
  (try simp only[Act.put])
  have Hx:=ae (SQ ((((O.setCell (Q (w.heap.size+1) 0 Y) (Z W R.length c5)).setCell (Q (w.heap.size+1+1) 0 Y) (J I r.B)).setCell (Q (w.heap.size+1+1) 1 Y) (U r.h)).setCell (Q (w.heap.size+1+1) 2 Y) (Z B r.j.length D)) ((qh _ _ _ _ F).trans ((qh _ _ _ _ F).trans ((qh _ _ _ _ F).trans ((qh _ _ _ _ ZL).trans fd)))));refine bB (i:=8) rfl (by kernel_rfl) λK ZR=>?_;go_simp;refine ZR _ _ Hx ?_;clear ZR K
  (try simp only[Act.put])
  refine wpAnyH_done (by kernel_rfl) ?_ _;have OF:=ae (aB (aB (aB (aB z (b:=w.heap.size+1) (λe=>by have:=(aj z _ e).1;omega) 0 (Z W R.length c5)) (b:=w.heap.size+1+1) (λe=>by have:=(aj z _ e).1;omega) 0 (J I r.B)) (b:=w.heap.size+1+1) (λe=>by have:=(aj z _ e).1;omega) 1 (U r.h)) (b:=w.heap.size+1+1) (λe=>by have:=(aj z _ e).1;omega) 2 (Z B r.j.length D));have DF:=ae (((((D4.aa G ly).set (p:=(Q (w.heap.size+1) 0 Y)) (e:=25) (.inl (by show w.heap.size+1<f.heap.size;omega)) (Z W R.length c5)).set (p:=(Q (w.heap.size+1+1) 0 Y)) (e:=25) (.inl (by show w.heap.size+1+1<f.heap.size;omega)) (J I r.B)).set (p:=(Q (w.heap.size+1+1) 1 Y)) (e:=25) (.inl (by show w.heap.size+1+1<f.heap.size;omega)) (U r.h)).set (p:=(Q (w.heap.size+1+1) 2 Y)) (e:=25) (.inl (by show w.heap.size+1+1<f.heap.size;omega)) (Z B r.j.length D));have BF:=ae (((((B3.trans ((ZI.trans (G.mono X)).mono ZP)).setCell (p:=(Q (w.heap.size+1) 0 Y)) (by show w.heap.size<=w.heap.size+1;omega) (Z W R.length c5)).setCell (p:=(Q (w.heap.size+1+1) 0 Y)) (by show w.heap.size<=w.heap.size+1+1;omega) (J I r.B)).setCell (p:=(Q (w.heap.size+1+1) 1 Y)) (by show w.heap.size<=w.heap.size+1+1;omega) (U r.h)).setCell (p:=(Q (w.heap.size+1+1) 2 Y)) (by show w.heap.size<=w.heap.size+1+1;omega) (Z B r.j.length D));go_wp2;refine bp (v:=.tuple #[.agg #[Z W R.length c5],.agg #[J I r.B,U r.h,Z B r.j.length D]]) (by simp[results,results40,go_sem,p0,r0,r1,r2]) rfl ⟨W,c5,R,_,rfl,DF.mono ZP,M4,⟨B,D,rfl,aC OF (by omega)⟩,BF⟩
 case' inr.inl =>
  rw[hl] at g;obtain⟨r,m⟩:∃r,r=jr c:=⟨_,rfl⟩
  have e:bb=([],r):=by rw[ld.out,hl,m];rfl
  subst e;obtain⟨a,k,u0,u1,md,or,st,l,ho⟩:=g;have o:r.j.length<=1000:=by rw[m];exact p9 (C c hl) (by simp)
  have g:c.length=r.j.length:=by rw[m];rfl
  rw[<-m,g] at l ho;clear m g
 case' inr.inr =>
  rw[hl] at g;obtain⟨r,m⟩:∃r,r=js d:=⟨_,rfl⟩
  have e:bb=([],r):=by rw[ld.out,hl,m];rfl
  subst e;obtain⟨u0,u1,md,or,st,l,ho⟩:=g;have o:r.j.length<=1000:=by rw[m];exact E4 _
  have g:0=r.j.length:=by rw[m];rfl
  rw[<-m,g] at l ho;clear m g
 all_goals
  obtain⟨ZQ,-,-,-,-,-,b5,b6,b7,b8,-⟩:=l.D;have Jt:=ae (qe f r _ _ _ ho o);have ZL:hb≠w.heap.size+1:=λe=>by have:=ar l (e ▸ u.out);exact absurd this (by decide)
  have F:hb≠w.heap.size+1+1:=λe=>by have:=ar l (e ▸ t.out);exact absurd this (by decide)
  clear hl C l ho o;go_wp2_with fail;refine Jt.mono ?_;rintro e O ⟨rv,rfl,⟨B,D,rfl,H⟩,ZO⟩;have z:=ae H;have G:=ae ZO;have q:=(G.block _ (ai u)).trans u;have ZN:=(G.block _ (ai t)).trans t;obtain⟨rl,r0,r1,r2,E⟩:=bu ZN;have Jq:=E 0;have Js:=E 1;have Fn:=E 2;have p0:A O (Q (w.heap.size+1) 0 Y)=T (Z Y 0 0):=by simp[World.cell?,q]
  have Jp:O.frozen? (Q (w.heap.size+1) 0 Y)=ZA:=by simp[World.frozen?,q]
  have pl:=ai q;have Jv:w.heap.size+1<f.heap.size:=ai u.out;have Jr:w.heap.size+1+1<f.heap.size:=ai t.out;have OF:=ae (aB (aB (aB (aB z (b:=w.heap.size+1) (λe=>by have:=(aj z _ e).1;omega) 0 (Z Y 0 0)) (b:=w.heap.size+1+1) (λe=>by have:=(aj z _ e).1;omega) 0 (J I r.B)) (b:=w.heap.size+1+1) (λe=>by have:=(aj z _ e).1;omega) 1 (U r.h)) (b:=w.heap.size+1+1) (λe=>by have:=(aj z _ e).1;omega) 2 (Z B r.j.length D));have BF:=ae (((((B3.trans (G.mono ZP)).setCell (p:=(Q (w.heap.size+1) 0 Y)) (by show w.heap.size<=w.heap.size+1;omega) (Z Y 0 0)).setCell (p:=(Q (w.heap.size+1+1) 0 Y)) (by show w.heap.size<=w.heap.size+1+1;omega) (J I r.B)).setCell (p:=(Q (w.heap.size+1+1) 1 Y)) (by show w.heap.size<=w.heap.size+1+1;omega) (U r.h)).setCell (p:=(Q (w.heap.size+1+1) 2 Y)) (by show w.heap.size<=w.heap.size+1+1;omega) (Z B r.j.length D));clear E q ZN H ZO b5 b6 b7 b8;go_wp2_with fail;refine bp (v:=.tuple #[.agg #[Z Y 0 0],.agg #[J I r.B,U r.h,Z B r.j.length D]]) (by simp[results,results40,go_sem,p0,r0,r1,r2]) rfl ⟨Y,0,[],_,rfl,dN _ _,rfl,⟨B,D,rfl,?_⟩,?_⟩
  ·first|exact aC OF (by omega)|(have h:=aC OF (show w.heap.size<=f.heap.size by omega);simpa[p0] using h)
  ·first|exact BF|simpa[p0] using BF.out
theorem uY (w:M)(nm:ByteArray)(c:SlSource w a0 S.n0 S.f0)(f:SlTarget w a1 S.n1 S.f1)(hn0:S.n0<=1048576)(hn1:S.n1<=1048576)(b:∀i,i<S.n1->cR (S.f1 i))(g:∀i,i<S.n1->∀j,j<(S.f1 i).f->((S.f1 i).G j).s.size<=maxLen):Calls Pg 40 #[.agg #[Z a0 S.n0 c0,Z a1 S.n1 c1],U nm] w λe l=>uW w S (cf S nm) e l:=by
 by_cases h:ce S.n0 S.f0 S.n1 S.f1=0/\aw nm=ZG;{exact wG w nm c f hn0 hn1 b g h.1 h.2}
 ·have e:cf S nm=([],⟨9,⟨#[]⟩,[]⟩):=by unfold cf;rw[nD h]
  rw[e];exact uX w nm c f hn0 hn1 b g h
end
