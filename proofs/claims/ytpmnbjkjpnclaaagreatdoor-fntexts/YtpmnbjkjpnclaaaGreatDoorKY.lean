import Derived.Test.YtpmnbjkjpnclaaaGreatDoorKU
import Derived.Test.YtpmnbjkjpnclaaaGreatDoorMX
set_option maxRecDepth 100000
set_option maxHeartbeats 8000000
open Go renaming Addr.mk->N,Value.slice->Y,Value.string->U,Value.int->Q,Value.bool->ZC,Value.agg->ZG,Obj.cells->J,IntKind.i64->I,World->M,Value->ZB,TypeId->ZH,Ending.returned->ZD,World.heap->z,World.cell?->A,Proofs.Tryz.prog->Pg
open Option renaming none->Z,some->T
open Bool renaming false->ZA,true->ZF
open Array renaming size->B
namespace Go.Proofs.YtpmnbjkjpnclaaaGreatDoor.Vp
open Tryz RowKit
variable {w o:M}{l:Lk}{f b size n g i:Nat}{j:ZB}{x:Ent}{e:ZH}{L:List SM}{S:Spc}
def lkV (b:List Ent)(f:List Lk):List ZB:=f.flatMap λl=>dv (lkD b l)
theorem Eh (b:List Ent)(f:List Lk):bQ (lkF b f) f.length=lkV b f:=by
 unfold bQ lkV;rw[show(List.range f.length).map (lkF b f)=f.map (lkD b) from ?_,PC];refine NY λi=>?_;rw[JM,JM];rcases J7 i f.length with h|h;{rw[List.getElem?_range h,gq h];simp only[PI];rw[yw (gq h)]};{rw[JR h,JR (by simpa using h)];rfl}
theorem Cc (b:List Ent)(f:List Lk){k:Nat}(h:f[k]?=T l):lkV b (f.take (k+1))=lkV b (f.take k)++dv (lkD b l):=by rw[List.take_add_one,h];simp[lkV]
theorem Ei (w:M)(g f i b:ZB)(t:ZH):∀j u,[g,f,i,b][j]?=T u->(w.alloc (J #[g,f,i,b] t)).cell? (((N (B (z w)) 0 Z):Addr).add j)=T u:=by
 intro j u h;rw[addr_add];match j,h with
 |0,h=>simp at h;subst h;simp
 |1,h=>simp at h;subst h;simp
 |2,h=>simp at h;subst h;simp
 |3,h=>simp at h;subst h;simp
 |k+4,h=>simp at h
theorem DBox.grown{m i g p q v:ZB}{s:List ZB}(h:DBox w b m j i g p q)(r:w.ownsRow f e size v n s)(l:w.grownBy o v.ownBlock)(hb:b<f):DBox o b m j i g p q :=
 h.ad l.size (l.block b h.lt λe=>by have:=(r.lt b e.symm).1;omega)
theorem zn{s:Nat}{v:ZB}{p:ZH}{r l:List ZB}(h:w.ownsRow b e size v n r)(t:w.ownsRow f p g j s l)(u:w.grownBy o j.ownBlock)(m:e≠p):o.ownsRow b e size v n r :=
 bI h λk i=>u.block k (h.lt k i).2 λq=>(eN h k i).ne (Ne.symm m) (eN t k q.symm)
open Ca
theorem Fc (w:M)(g f l b i m:ZB)(t:ZH):∀j u,[g,f,l,b,i,m][j]?=T u->(w.alloc (J #[g,f,l,b,i,m] t)).cell? (((N (B (z w)) 0 Z):Addr).add j)=T u:=by
 intro j u h;rw[addr_add];match j,h with
 |0,h=>simp at h;subst h;simp
 |1,h=>simp at h;subst h;simp
 |2,h=>simp at h;subst h;simp
 |3,h=>simp at h;subst h;simp
 |4,h=>simp at h;subst h;simp
 |5,h=>simp at h;subst h;simp
 |k+6,h=>simp at h
structure ShAt (ZR:Nat)(w:M)(hb:Nat)(s0 s1 md or:ZB)(L:List SM)(made:List Ent):Prop where
 lt:hb<B (z w)
 c0:A w (N hb 0 Z)=T s0
 c1:A w (N hb 1 Z)=T s1
 c2:A w (N hb 2 Z)=T md
 c3:A w (N hb 3 Z)=T or
 W:w.ownsRow ZR 198 6 md L.length (L.flatMap smV)
 ror:w.ownsRow ZR 9 1 or made.length (bo (made.map (·.e)))
 V:∀m∈L,m.done=ZF->w.ownsRow ZR 201 3 m.sv m.V.length (dJ m.V)
theorem ShAt.aa{ZR C:Nat}{l:M}{hb:Nat}{s0 s1 n:ZB}{f:List Ent}(h:ShAt ZR w hb s0 s1 j n L f)(b:Below C w l)(i:B (z w)<=C):ShAt ZR l hb s0 s1 j n L f:=by have g:hb<C:=lj h.lt i;exact⟨lj h.lt b.size,(b.cell (p:=(N hb 0 Z)) g).trans h.c0,(b.cell (p:=(N hb 1 Z)) g).trans h.c1,(b.cell (p:=(N hb 2 Z)) g).trans h.c2,(b.cell (p:=(N hb 3 Z)) g).trans h.c3,own_below h.W b i,own_below h.ror b i,λm o q=>own_below (h.V m o q) b i⟩
theorem Fe{b:List Ent}(h:eK L [] b)(q:b[i]?=T x):∃k m,fI L x.e=T k/\L[k]?=T m/\m.e=x.e/\m.done=ZF/\m.E=(cI x).E/\m.y=(cI x).y/\m.V=x.looks:=by obtain⟨m,g,f,n,o,l,j⟩:=h.got x (JF q);obtain⟨k,p,r⟩:=pH h.nod g f;exact⟨k,m,p,r,f,n,o,l,j⟩
theorem tD{f:List Ent}(h1:ez S x=0)(h2:x.looks=[])(W:M)(b:Nat):DSub W b (gE S f x,Y Z 0 0,Y Z 0 0):=by
 refine⟨?_,?_⟩;{show W.ownsRow b 151 3 (Y Z 0 0) (ez S x) (bX (S.f1 x.tg).D (ez S x));rw[h1];exact ES _ _ _ _};{show W.ownsRow b 91 4 (Y Z 0 0) x.looks.length (bQ (lkF f x.looks) x.looks.length);rw[h2];exact ES _ _ _ _}
theorem Cd{b:List Ent}(h:PG S [] b)(t:b[i]?=T x)(r:l∈x.looks)(s:l.ask=ZF){D:List aj}(q:D=(b.take i).map (gE S b)):iJ (dF D) l.e i=((nr b l.e:Nat):Int):=by
 obtain⟨y,m,hn,p⟩:=h.asked t r s;have f:∀(j:Nat) (ZS:Ent),j<i->b[j]?=T ZS->(dF D j).e=ZS.e:=λj ZS n hz=>by unfold dF;rw[q,JB,JM,List.getElem?_take_of_lt n,hz];rfl
 unfold iJ;refine eW p ?_ λj n=>?_;{rw[f _ y p m,hn];simp}
 ·have o:=(p9.1 m).1;have hz:b[j]?=T b[j]:=gq (by omega);rw[f j _ (by omega) hz];have g:=KF.1 h.nod j _ (by omega) o n;rw[(p9.1 m).2,hn] at g;cases hb:(b[j].e.toList == l.e.toList) with
  |false=>rfl
  |true=>exact absurd (bytes_beq hb) g
theorem zo{c:Nat}{b:List Lk}(h:w.ownsRow f 201 3 (Y (T (N g 0 Z)) b.length c) b.length (dJ b)){k:Nat}(n:b[k]?=T l)(j:Nat)(i:j<3){u:ZB}(m:[Value.string l.e,ZC l.ask,ZC l.has][j]?=T u):A w (N g (k*3+j) Z)=T u :=
 (aV h (j:=k*3+j) (u:=u) (by rw[dJ,cF (λl:Lk=>[Value.string l.e,ZC l.ask,ZC l.has]) 3 (λ_=>rfl) b k j i l n];exact m)).1
def LkI (S:Spc)(h:List Ent)(x:Ent)(m:Int)(j:ByteArray)(n:Option Addr)(o p i g c4:Nat)(b:M)(al:Option Addr)(k l:Nat)(f:M):Prop:=Hid (DBox f (B (z b)+1) (U x.e) (Q I 3) (Q I m) (U j) (Y (T (N i 0 Z)) g c4) (Y al k l))/\Hid (f.heap[B (z b)]?=T (J #[U x.e,Q I m,U j,Y Z 0 0,Y n o p,ZC ZF] 198 (0,0)))/\Hid (f.ownsRow (B (z b)+2) 151 3 (Y (T (N i 0 Z)) g c4) g (bX (S.f1 x.tg).D g))/\Hid (f.ownsRow (B (z b)+2) 91 4 (Y al k l) k (lkV h (x.looks.take k)))/\Hid (Below (B (z b)) b f)
section
variable {S:Spc}{a0 a1:Option Addr}{c0 c1:Nat}
theorem xB (ZR:Nat)(w:M)(hb:Nat)(md or:ZB)(L:List SM)(f:List Ent)
  (FV:ShAt ZR w hb (Y a0 S.n0 c0) (Y a1 S.n1 c1) md or L f) (hrel:eK L [] f) (GW:PG S [] f) (Hk:f.length<=40201)
  (Hf:SlSource w a0 S.n0 S.f0) (Hc:SlTarget w a1 S.n1 S.f1) (GQ:SpcOk S) (GC:∀i,i<S.n1->aY (S.f1 i)) :
  Calls Pg 72 #[.pointer (T (N hb 0 Z))] w λe w'=>∃a c R,e=ZD (ZG #[Y a R.length c])/\DRow w' (B (z w)) (Y a R.length c) R/\R.map (·.1)=fT S f/\Below (B (z w)) w w':=by
 have GY:=ae FV;have Hr:=ae hrel;have Hh:=ae GW;have V0:=ae Hf;have V1:=ae Hc;have Gb:=ae GQ;have H8:=ae GC;have Hx:L.length<=40201:=by have:=hrel.len;simp only[JJ,KL] at this;omega
 obtain⟨am,cm,rfl⟩:=ct FV.W;obtain⟨ao,co,rfl⟩:=ct FV.ror;obtain⟨ZM,hN⟩:∃ZM,ZM=L.length:=⟨_,rfl⟩
 obtain⟨n,hn⟩:∃n,n=f.length:=⟨_,rfl⟩
 have ZI:=ae hN;have HN:=ae hn;rw[<-hN,<-hn] at GY;rw[<-hN] at Hx;rw[<-hn] at Hk;clear FV hrel GW Hf Hc GQ GC hN hn;obtain⟨il,Hu,Hp,Hn,Hs⟩:=JT mF;obtain⟨Hv,Ic,Hl,Ho,Hm⟩:=JT fX;have A0:=ae (((BS w).alloc ly (J #[Y Z 0 0] 37)).alloc (by simp) (J #[Y Z 0 0] 37));have kR:Hid (((w.alloc (J #[Y Z 0 0] 37)).alloc (J #[Y Z 0 0] 37)).heap[B (z w)]?=T (J #[Y Z 0 0] 37 (0,0))) :=
  ((((cM (B (z w)+1) _).alloc (by simp) _).block (B (z w)) (by omega)).trans (gM w _))
 have kA:Hid (((w.alloc (J #[Y Z 0 0] 37)).alloc (J #[Y Z 0 0] 37)).heap[B (z w)+1]?=T (J #[Y Z 0 0] 37 (0,0))):=by have h2:=gM (w.alloc (J #[Y Z 0 0] 37)) (J #[Y Z 0 0] 37);rw[show(w.alloc (J #[Y Z 0 0] 37)).heap.size=B (z w)+1 by simp] at h2;exact h2
 go_enter func72,ntmps72;go_wp2_with fail;generalize World.alloc (World.alloc w _) _=W0 at A0 kR kA ⊢;go_loopw [4] (λv wr=>∃(i:Nat) (ZN:Option Addr) (c5:Nat) (R:List DR),i<=n/\v=Q I i/\R.length=i/\Hid (R.map (·.1)=(f.take i).map (gE S f))/\Hid (DRow wr (B (z w)+2) (Y ZN i c5) R)/\Hid (wr.heap[B (z w)+1]?=T (J #[Y ZN i c5] 37 (0,0)))/\Hid (wr.heap[B (z w)]?=T (J #[Y Z 0 0] 37 (0,0)))/\Hid (Below (B (z w)) w wr)) (λv _=>n - (intOf v).toNat);case atStart=>exact⟨0,Z,0,[],by omega,rfl,rfl,rfl,jP _ _,kA,kR,A0⟩
 case round =>
  clear kA kR A0;obtain⟨i,ZN,c5,R,hi,rfl,At,Gu,D4,k4,ld,B4⟩:=hrel;have ZQ:=ae (GY.aa B4 ly);have hw4:B (z w)+2<=B (z wr):=ag k4.out;have h3:=ZQ.c3;have GT:=ZQ.lt;by_cases Id:i<n
  ·obtain⟨x,hx⟩:∃x,f[i]?=T x:=⟨_,gq (by rw[<-HN.out];exact Id)⟩
   obtain⟨j,m,hf,hm,e1,e2,e3,e4,e5⟩:=Fe Hr hx;have DE:=ZQ.ror;have O:=ZQ.W;rw[<-HN.out] at DE;rw[<-ZI.out] at O;obtain⟨go,co',e⟩:=cU DE (by omega);simp only[JG,P6] at e;obtain⟨rfl,rfl⟩:=e;have hjN:j<ZM:=by rw[ZI.out];exact(p9.1 hm).1
   obtain⟨r,cm',e⟩:=cU O (by omega);simp only[JG,P6] at e;obtain⟨rfl,rfl⟩:=e;have oc:A wr (N go i Z)=T (U x.e):=(aV DE (by rw[bo,JM,JM,hx];rfl)).1;have H6:=(cO DE).2;have n8:=(cO O).2;have h2:=ZQ.c2;have Bk:=ZQ.V m (JF hm) e2;obtain⟨sa,E,F8⟩:=ct Bk;obtain⟨ZT,GI⟩:∃ZT,ZT=(cI x).E:=⟨_,rfl⟩
   obtain⟨o,bt⟩:∃o,o=(cI x).y:=⟨_,rfl⟩
   obtain⟨y,FW⟩:∃y,y=x.looks.length:=⟨_,rfl⟩
   rw[e5] at F8 Bk;rw[F8,<-FW] at Bk;have q0:A wr (N r (j*6) Z)=T (U x.e):=by have:=bW (by rw[<-ZI.out];exact O) hm 0 (by omega) rfl;rw[e1] at this;exact this
   have q1:A wr (N r (j*6+1) Z)=T (Q I ZT):=by have:=bW (by rw[<-ZI.out];exact O) hm 1 (by omega) rfl;rw[e3,<-GI] at this;exact this
   have q2:A wr (N r (j*6+2) Z)=T (U o):=by have:=bW (by rw[<-ZI.out];exact O) hm 2 (by omega) rfl;rw[e4,<-bt] at this;exact this
   have q3:A wr (N r (j*6+3) Z)=T (Y Z 0 0):=bW (by rw[<-ZI.out];exact O) hm 3 (by omega) rfl;have q4:A wr (N r (j*6+4) Z)=T (Y sa y E):=by have:=bW (by rw[<-ZI.out];exact O) hm 4 (by omega) rfl;rw[F8,<-FW] at this;exact this
   have q5:A wr (N r (j*6+5) Z)=T (ZC ZF):=by have:=bW (by rw[<-ZI.out];exact O) hm 5 (by omega) rfl;rw[e2] at this;exact this
   have C:Hid (∀V,Below (B (z wr)) wr V->A V (N hb 2 Z)=T (Y (T (N r 0 Z)) ZM cm)/\A V (N hb 3 Z)=T (Y (T (N go 0 Z)) n co)/\A V (N go i Z)=T (U x.e)/\A V (N r (j*6) Z)=T (U x.e)/\A V (N r (j*6+1) Z)=T (Q I ZT)/\A V (N r (j*6+2) Z)=T (U o)/\A V (N r (j*6+3) Z)=T (Y Z 0 0)/\A V (N r (j*6+4) Z)=T (Y sa y E)/\A V (N r (j*6+5) Z)=T (ZC ZF)):=λV g=>⟨(g.cell (p:=(N hb 2 Z)) GT).trans h2,(g.cell (p:=(N hb 3 Z)) GT).trans h3,(g.cell (p:=(N go i Z)) H6).trans oc,(g.cell (p:=(N r _ Z)) n8).trans q0,(g.cell (p:=(N r _ Z)) n8).trans q1,(g.cell (p:=(N r _ Z)) n8).trans q2,(g.cell (p:=(N r _ Z)) n8).trans q3,(g.cell (p:=(N r _ Z)) n8).trans q4,(g.cell (p:=(N r _ Z)) n8).trans q5⟩
   have CT:Hid (∀V,Below (B (z wr)) wr V->Calls Pg 131 #[.pointer (T (N hb 0 Z)),U x.e] V λe w'=>e=ZD (Q I (j:Int))/\w'=V):=λV g=>by
    have h:=ZQ.aa g ly;refine(tl V x.e ZR h.c2 h.W (by rw[<-ZI.out];omega)).mono λe w' ⟨he,hw⟩=>⟨?_,hw⟩
    rw[he,hf];rfl
   have HX:=ae hx;have Hz:=ae GI;have GO:=ae bt;have Fm:=ae FW;have Gr:=ae Bk;have hj0:(0:Int)<=(j:Int):=by omega
   have hjI:(j:Int)<ZM:=by omega
   have hi0:(0:Int)<=(i:Int):=by omega
   have hiI:(i:Int)<n:=by omega
   clear DE O Bk F8 hx hf hm e1 e2 e3 e4 e5 GI bt FW;go_upto_region 5 with fail;go_cut [5] (λs wx=>s=.pointer (T (N (B (z wr)) 0 Z))/\wx=(wr.alloc (J #[U x.e,Q I ZT,U o,Y Z 0 0,Y sa y E,ZC ZF] 198)).drew);case first =>
    clear h2 h3 oc q0 q1 q2 q3 q4 q5
    go_region_held3 (λV=>A V (N hb 2 Z)=T (Y (T (N r 0 Z)) ZM cm)/\A V (N hb 3 Z)=T (Y (T (N go 0 Z)) n co)/\A V (N go i Z)=T (U x.e)/\A V (N r (j*6) Z)=T (U x.e)/\A V (N r (j*6+1) Z)=T (Q I ZT)/\A V (N r (j*6+2) Z)=T (U o)/\A V (N r (j*6+3) Z)=T (Y Z 0 0)/\A V (N r (j*6+4) Z)=T (Y sa y E)/\A V (N r (j*6+5) Z)=T (ZC ZF)) (first|exact C _ br|exact C _ br.drew|exact C _ (br.drew.alloc ly _)|exact C _ (br.alloc ly _).drew|exact C _ ((((((((BS wr).drew.alloc ly _).setCell ly _).setCell ly _).setCell ly _).setCell ly _).setCell ly _).setCell ly _)) (first
     |(go_at_call 131;refine(CT _ (by first|exact br.drew|exact cM _ _|exact br.drew.alloc ly _)).mono ?_;rintro e w5 ⟨rfl,rfl⟩))
    all_goals
     go_wp2_with fail;go_meet;exact⟨rfl,rfl⟩
   case rest =>
   obtain⟨rfl,rfl⟩:=hcut;have B5:=ae ((BS wr).alloc ly (J #[U x.e,Q I ZT,U o,Y Z 0 0,Y sa y E,ZC ZF] 198)).drew;have m5:Hid ((wr.alloc (J #[U x.e,Q I ZT,U o,Y Z 0 0,Y sa y E,ZC ZF] 198)).drew.heap[B (z wr)]?=T (J #[U x.e,Q I ZT,U o,Y Z 0 0,Y sa y E,ZC ZF] 198 (0,0))):=gM wr _;have F0:(wr.alloc (J #[U x.e,Q I ZT,U o,Y Z 0 0,Y sa y E,ZC ZF] 198)).drew.heap.size=B (z wr)+1:=by simp[World.drew]
   clear h2 h3 oc q0 q1 q2 q3 q4 q5 C CT;generalize World.drew (World.alloc wr _)=W5 at B5 m5 F0 ⊢;have p0:A W5 (N (B (z wr)) 0 Z)=T (U x.e):=by simp[World.cell?,m5.out]
   obtain⟨W6,FM⟩:∃W:M,W5.alloc (J #[U x.e,Q I 0,Q I 0,U ⟨#[]⟩,Y Z 0 0,Y Z 0 0] 46)=W:=⟨_,rfl⟩
   obtain⟨A6,-,-⟩:=nb1 FM;have fd:=ae FM;clear FM;have B6:=ae (B5.trans (A6.mono B5.size));have X6:Hid (DBox W6 (B (z wr)+1) (U x.e) (Q I 0) (Q I 0) (U ⟨#[]⟩) (Y Z 0 0) (Y Z 0 0)):=by
    cases fd.out
    have h:=mH W5 (U x.e) (Q I 0) (Q I 0) (U ⟨#[]⟩) (Y Z 0 0) (Y Z 0 0) 46;rw[F0] at h;exact h
   have m6:Hid (W6.heap[B (z wr)]?=T (J #[U x.e,Q I ZT,U o,Y Z 0 0,Y sa y E,ZC ZF] 198 (0,0))):=by cases fd.out;exact(A6.block _ (by omega)).trans m5
   have Il:B (z W6)=B (z wr)+2:=by cases fd.out;simp[F0]
   go_upto_region 7 with fail;rw[fd.out];clear fd;clear p0 B5 m5 A6 F0;have Fk:=ae (ZQ.aa B6 ly);have Gp:=ae (B4.trans (B6.mono (by omega)));have C:Hid (∀V,Below (B (z W6)) W6 V->A V (N hb 0 Z)=T (Y a0 S.n0 c0)/\A V (N hb 1 Z)=T (Y a1 S.n1 c1)/\A V (N (B (z wr)) 0 Z)=T (U x.e)):=λV g=>⟨(g.cell (p:=(N hb 0 Z)) Fk.lt).trans Fk.c0,(g.cell (p:=(N hb 1 Z)) Fk.lt).trans Fk.c1,(g.cell (p:=(N (B (z wr)) 0 Z)) (by show (B (z wr))<_;omega)).trans (by simp[World.cell?,m6.out])⟩
   obtain⟨ZL,hT⟩:∃ZL,ZL=dD (atI (nm1 S.f1) S.n1 x.e):=⟨_,rfl⟩
   have CT:Hid (∀V,Below (B (z W6)) W6 V->Calls Pg 52 #[ZG #[Y a0 S.n0 c0,Y a1 S.n1 c1],U x.e] V λe w'=>e=ZD (Q I ZL)/\Below (B (z V)) V w'):=λV g=>by rw[hT];exact gI a0 S.n0 c0 a1 S.n1 c1 S.f1 x.e V (by have:=Gb.ax;omega) (V1.aa (Gp.trans (g.mono Gp.size)) ly)
   have HT:=ae hT;clear hT
   go_region_held3 (λV=>A V (N hb 0 Z)=T (Y a0 S.n0 c0)/\A V (N hb 1 Z)=T (Y a1 S.n1 c1)/\A V (N (B (z wr)) 0 Z)=T (U x.e)) (first|exact C _ br|exact C _ br.drew|exact C _ D7) (first
    |(go_at_call 52;refine(CT _ (by first|exact br.drew|exact cM _ _)).mono ?_;rintro e ZJ ⟨rfl,mv⟩;have D7:Hid (Below (B (z W6)) W6 ZJ):=⟨mv.os,mv.tape,mv.output,mv.size,mv.block⟩;clear mv))
   have B7:=ae (B6.trans (D7.mono B6.size));have X7:=ae (X6.aa D7 X6.lt);have m7:=ae ((D7.block _ (ag m6)).trans m6);have Gf:B (z wr)+2<=B (z ZJ):=by have:=D7.size;omega
   have k7:=ae ((B7.block _ (ag k4)).trans k4);have GM:=ae ((B7.block _ (ag ld)).trans ld);have qr:=ae (ZQ.aa B7 ly);have FY:=ae (B4.trans (B7.mono (by omega)));have Gv:=JF HX.out;have GN:=ae (Hh.ao x Gv);clear D7 C CT X6 m6 Fk Gp B6 Il Gv;go_upto_if 46 with fail;go_cut [8,9] (λ_ _ wx=>∃(aa al:Option Addr) (na nl ca ZP:Nat),Hid (DBox wx (B (z wr)+1) (U x.e) (Q I x.H) (Q I x.E) (U x.y) (Y aa na ca) (Y al nl ZP))/\Hid (DSub wx (B (z wr)) (gE S f x,Y aa na ca,Y al nl ZP))/\Hid (Below (B (z wr)) wr wx));case first =>
    rcases GN.H with ⟨hk,sm,hlk,si,Hb,Gj⟩|⟨hk,sm,Gj,hlk,GA,CD⟩|⟨hk,GA,CD⟩
    rotate_left 2
    ·have HK:=ae hk;have Gq:cI x=⟨x.E,x.y,[]⟩:=by unfold cI;rw[eT (by omega)]
     have FP:Hid (o=x.y/\ZT=x.E):=⟨by rw[GO.out,Gq],by rw[Hz.out,Gq]⟩
     have hns2:y<=200:=by rw[Fm.out];exact GN.looks
     have Gs:=(bA CD).1;have Gg:ZL=(x.tg:Int):=by rw[HT.out,CD];rfl
     have Hg:ez S x=(S.f1 x.tg).m:=by unfold ez;rw[nL hk]
     obtain⟨X,FU⟩:∃X,X=(S.f1 x.tg).m:=⟨_,rfl⟩
     have Ia:Hid (ez S x=X):=Hg.trans FU.symm;have hn4m:X<=1048576:=by rw[FU];exact H8 x.tg Gs
     have hn41:1<=X:=by obtain⟨_,hv,_⟩:=bM (Gb.D x.tg Gs);omega
     obtain⟨tb,tf,Ip,bt⟩:=V1.resolve_left (by omega);subst Gg Ip;obtain⟨-,ia,ic,ur,Hi⟩:=bt.2 x.tg Gs;have Gw:=bt.1;obtain⟨ib,io,rfl,Gt⟩:=Hi.resolve_left (by omega);rw[<-FU] at ur Gt;have Ig:=ae Gt;have GK:=ae ur;clear hk Gq Hg FU GA CD bt Hi Gt ur;have q1:A ZJ (N (B (z wr)) 1 Z)=T (Q I ZT):=by simp[World.cell?,m7.out]
     have q2:A ZJ (N (B (z wr)) 2 Z)=T (U o):=by simp[World.cell?,m7.out]
     obtain⟨d1,Hd⟩:=X7.c1;obtain⟨d2,Io⟩:=X7.c2;obtain⟨d3,GV⟩:=X7.c3;have G8:=X7.lt;have htg0:(0:Int)<=(x.tg:Int):=by omega
     have X9:=ae (((X7.set1 (Q I 3)).set2 (Q I ZT)).set3 (U o));have m9:Hid ((((ZJ.setCell (N (B (z wr)+1) 1 Z) (Q I 3)).setCell (N (B (z wr)+1) 2 Z) (Q I ZT)).setCell (N (B (z wr)+1) 3 Z) (U o)).heap[B (z wr)]?=T (J #[U x.e,Q I ZT,U o,Y Z 0 0,Y sa y E,ZC ZF] 198 (0,0))):=(qh _ _ _ _ (show (B (z wr))≠B (z wr)+1 by omega)).trans ((qh _ _ _ _ (show (B (z wr))≠B (z wr)+1 by omega)).trans ((qh _ _ _ _ (show (B (z wr))≠B (z wr)+1 by omega)).trans m7.out));have B9:=ae (((B7.setCell (p:=(N (B (z wr)+1) 1 Z)) (JH _) (Q I 3)).setCell (p:=(N (B (z wr)+1) 2 Z)) (JH _) (Q I ZT)).setCell (p:=(N (B (z wr)+1) 3 Z)) (JH _) (U o));have GL:B (z wr)+2<=(((ZJ.setCell (N (B (z wr)+1) 1 Z) (Q I 3)).setCell (N (B (z wr)+1) 2 Z) (Q I ZT)).setCell (N (B (z wr)+1) 3 Z) (U o)).heap.size:=by simpa using Gf
     go_upto_region 12 with fail;generalize World.setCell (World.setCell (World.setCell ZJ _ _) _ _) _ _=W9 at X9 m9 B9 GL ⊢;clear d1 Hd d2 Io d3 GV q1 q2 G8 X7 m7 B7 k7 GM qr FY Gf;have F7:=ae (B4.trans (B9.mono (by omega)));have Gi:=ae (ZQ.aa B9 ly);have Ih:=Gi.c1;have Hj:=Gi.lt;have tc:=(F7.cell (p:=(N tb (tf+x.tg*2+1) Z)) Gw).trans GK;have Hq:tb<B (z W9):=lj Gw F7.size;have htgI:(x.tg:Int)<(S.n1:Int):=by omega
     go_wp2_with fail;refine(gV ib io X ic (S.f1 x.tg).D W9 (by omega) (Ig.aa F7 ly)).mono ?_;rintro e He ⟨g4,c4,rfl,GH,th⟩;have FQ:=ae (X9.aa th X9.lt);obtain⟨d4,Hy⟩:=FQ.c4;have Gn:=ae (FQ.set4 (Y (T (N g4 0 Z)) X c4));have Gl:Hid ((He.setCell (N (B (z wr)+1) 4 Z) (Y (T (N g4 0 Z)) X c4)).heap[B (z wr)]?=T (J #[U x.e,Q I ZT,U o,Y Z 0 0,Y sa y E,ZC ZF] 198 (0,0))):=(qh _ _ _ _ (show (B (z wr))≠B (z wr)+1 by omega)).trans ((th.block _ (ag m9)).trans m9);have Gz:=ae (aO (R:=B (z wr)+1) (j:=4) (aC GH (show (B (z wr))+2<=B (z W9) by omega)) (by omega) (Y (T (N g4 0 Z)) X c4));have Gy:=ae ((B9.trans (th.mono B9.size)).setCell (p:=(N (B (z wr)+1) 4 Z)) (JH _) (Y (T (N g4 0 Z)) X c4));have GJ:=FQ.lt;clear GH th tc Ih;go_wp2;generalize World.setCell He _ _=W11 at Gn Gl Gz Gy ⊢;clear d4 Hy FQ GJ X9 m9 B9 F7 Gi Hj Hq GL;obtain⟨t,Hw⟩:∃t,t=wr:=⟨_,rfl⟩
     subst Hw;go_loopw [8] (λv wq=>∃(k:Nat) (al:Option Addr) (ZP:Nat),k<=y/\v=Q I k/\LkI S f x ZT o sa y E g4 X c4 t al k ZP wq) (λv _=>y - (intOf v).toNat);case atStart=>exact⟨0,Z,0,by omega,rfl,Gn,Gl,Gz,ES _ _ _ _,Gy⟩
     case round =>
      clear Gn Gl Gz Gy;obtain⟨k,al,ZP,hk,rfl,Ga,GF,Gk,GE,Fd⟩:=hrel;have m4:A wr (N (B (z t)) 4 Z)=T (Y sa y E):=by simp[World.cell?,GF.out]
      have ml:=ag GF.out;have hz12:B (z t)+2<=B (z wr):=Ga.lt;by_cases hlk:k<y
      ·obtain⟨l,hl⟩:∃l,x.looks[k]?=T l:=⟨_,gq (by rw[<-Fm.out];exact hlk)⟩
       obtain⟨G,sc',e⟩:=cU Gr (by omega);simp only[JG,P6] at e;obtain⟨rfl,rfl⟩:=e;have GP:=(cO Gr).2;have sn:∀j,j<3->∀u,[Value.string l.e,ZC l.ask,ZC l.has][j]?=T u->A wr (N G (k*3+j) Z)=T u:=λj hj u hu=>(Fd.cell (p:=(N G (k*3+j) Z)) GP).trans (zo (by have h:=Gr.out;rw[Fm.out] at h;exact h) hl j hj hu);have f0:=sn 0 (by omega) _ rfl;have f1:=sn 1 (by omega) _ rfl;have f2:=sn 2 (by omega) _ rfl;rw[show k*3+0=k*3 by omega] at f0;have FO:G<B (z wr):=lj GP Fd.size;have HL:=ae hl;have C:Hid (∀V,Below (B (z wr)) wr V->A V (N (B (z t)) 4 Z)=T (Y (T (N G 0 Z)) y E)/\A V (N G (k*3) Z)=T (U l.e)/\A V (N G (k*3+1) Z)=T (ZC l.ask)/\A V (N G (k*3+2) Z)=T (ZC l.has)):=λV g=>⟨(g.cell (p:=(N (B (z t)) 4 Z)) ml).trans m4,(g.cell (p:=(N G _ Z)) FO).trans f0,(g.cell (p:=(N G _ Z)) FO).trans f1,(g.cell (p:=(N G _ Z)) FO).trans f2⟩
       have hk0:(0:Int)<=(k:Int):=by omega
       have hkI:(k:Int)<y:=by omega
       clear sn hl;go_upto_region 16 with fail;go_cut [9] (λs wx=>s=.pointer (T (N (B (z wr)) 0 Z))/\wx=(wr.alloc (J #[U l.e,ZC l.ask,ZC l.has,Q I 0] 91)).drew);case first =>
        clear m4 f0 f1 f2;go_region_held3 (λV=>A V (N (B (z t)) 4 Z)=T (Y (T (N G 0 Z)) y E)/\A V (N G (k*3) Z)=T (U l.e)/\A V (N G (k*3+1) Z)=T (ZC l.ask)/\A V (N G (k*3+2) Z)=T (ZC l.has)) (first|exact C _ br|exact C _ br.drew|exact C _ (br.drew.alloc ly _)|exact C _ (br.alloc ly _).drew|exact C _ ((((((BS wr).drew.alloc ly _).setCell ly _).setCell ly _).setCell ly _).setCell ly _)) (fail);all_goals
         go_wp2_with fail;go_meet;exact⟨rfl,rfl⟩
       case rest =>
       obtain⟨rfl,rfl⟩:=hcut;have ro:=ae ((BS wr).alloc ly (J #[U l.e,ZC l.ask,ZC l.has,Q I 0] 91)).drew;have P:Hid ((wr.alloc (J #[U l.e,ZC l.ask,ZC l.has,Q I 0] 91)).drew.heap[B (z wr)]?=T (J #[U l.e,ZC l.ask,ZC l.has,Q I 0] 91 (0,0))):=gM wr _;clear m4 f0 f1 f2 C;generalize World.drew (World.alloc wr _)=aq at ro P ⊢;have FX:=ae (Ga.aa ro Ga.lt);have Gc:=ae ((ro.block _ ml).trans GF);have Ge:=ae (own_below Gk ro ly);have Gm:=ae (own_below GE ro ly);have ph:=ae (Fd.trans (ro.mono Fd.size));have k1:A aq (N (B (z wr)) 1 Z)=T (ZC l.ask):=by simp[World.cell?,P.out]
       go_upto_if 94 with fail;clear k1;go_cut [] (λwx=>∃q:Int,Hid (dv (lkD f l)=[U l.e,ZC l.ask,ZC l.has,Q I q])/\Hid (wx.heap[B (z wr)]?=T (J #[U l.e,ZC l.ask,ZC l.has,Q I q] 91 (0,0)))/\LkI S f x ZT o (T (N G 0 Z)) y E g4 X c4 t al k ZP wx);case first =>
        cases hask:l.ask with
        |false =>go_wp2;go_meet;exact⟨0,by show _=_;simp[dv,lkD,hask],P,FX,Gc,Ge,Gm,ph⟩
        |true =>
         obtain⟨q,hq⟩:∃q:Int,q=((nr f l.e:Nat):Int):=⟨_,rfl⟩
         have GS:=ae ((ph.block _ (ag k4)).trans k4);have ac:A aq (N (B (z w)+1) 0 Z)=T (Y ZN i c5):=by simp[World.cell?,GS.out]
         have acl:=ag GS.out;have Ie:A aq (N (B (z wr)) 0 Z)=T (U l.e):=by simp[World.cell?,P.out]
         have CA:Hid (Calls Pg 62 #[ZG #[Y ZN i c5],U l.e] aq λe w'=>e=ZD (Q I q)/\Below (B (z aq)) aq w'):=by
          have hd:SlDeed aq ZN i (dF (R.map (·.1))):=by have h:=D4.aa ph.out ly;rw[<-At] at h ⊢;exact h.bb
          have h:=zx ZN i c5 (dF (R.map (·.1))) l.e aq (by omega) hd;rw[Cd Hh.out HX.out (JF HL.out) hask Gu.out,<-hq] at h;exact h
         have HQ:=ae hq;clear hq;go_wp2_with fail;refine CA.mono ?_;rintro e FZ ⟨rfl,ZK⟩;have DQ:=(ZK.block _ (ag P)).trans P;have q3:A FZ (N (B (z wr)) 3 Z)=T (Q I 0):=by simp[World.cell?,DQ]
         have qf3:FZ.frozen? (N (B (z wr)) 3 Z)=ZA:=by simp[World.frozen?,DQ]
         have ql3:=ag DQ;have ZO:Hid ((FZ.setCell (N (B (z wr)) 3 Z) (Q I q)).heap[B (z wr)]?=T (J #[U l.e,ZC l.ask,ZC l.has,Q I q] 91 (0,0))):=au DQ _;have ex:=ae ((FX.aa ZK FX.lt).far (p:=(N (B (z wr)) 3 Z)) (by show (B (z wr))≠B (z t)+1;omega) (Q I q));have DS:Hid ((FZ.setCell (N (B (z wr)) 3 Z) (Q I q)).heap[B (z t)]?=T (J #[U x.e,Q I ZT,U o,Y Z 0 0,Y (T (N G 0 Z)) y E,ZC ZF] 198 (0,0))):=(qh _ _ _ _ (show (B (z t))≠B (z wr) by omega)).trans ((ZK.block _ (ag Gc)).trans Gc);have F9:=ae (ay (own_below Ge ZK ly) (b:=B (z wr)) (λe=>by have:=(Gk.lt _ e).2;omega) 3 (Q I q));have F3:=ae (ay (own_below Gm ZK ly) (b:=B (z wr)) (λe=>by have:=(GE.lt _ e).2;omega) 3 (Q I q));have FK:=ae ((ph.trans (ZK.mono ph.size)).setCell (p:=(N (B (z wr)) 3 Z)) (by show (B (z t))<=B (z wr);omega) (Q I q));clear DQ ZK ac Ie;go_wp2;go_meet;exact⟨q,by show _=_;simp[dv,lkD,hask,HQ.out],ZO,ex,DS,F9,F3,FK⟩
       case rest =>
       obtain⟨q,Iq,ZO,ex,DS,F9,F3,FK⟩:=hcut;clear P FX Gc Ge Gm ph;generalize wc=H at ZO ex DS F9 F3 FK ⊢;have l0:A H (N (B (z wr)) 0 Z)=T (U l.e):=by simp[World.cell?,ZO.out]
       have l1:A H (N (B (z wr)) 1 Z)=T (ZC l.ask):=by simp[World.cell?,ZO.out]
       have l2:A H (N (B (z wr)) 2 Z)=T (ZC l.has):=by simp[World.cell?,ZO.out]
       have l3:A H (N (B (z wr)) 3 Z)=T (Q I q):=by simp[World.cell?,ZO.out]
       have ll:=ag ZO.out;obtain⟨e5,ef5⟩:=ex.c5;have AL:=ae ((BS H).alloc ly (J #[U l.e,ZC l.ask,ZC l.has,Q I q] 91));have XA:=ae (ex.aa AL ex.lt);have mA:=ae ((AL.block _ (ag DS)).trans DS);have OA:=ae (own_below F9 AL ly);have PA:=ae (own_below F3 AL ly);have BA:=ae (FK.trans (AL.mono FK.size));have Ib:(H.alloc (J #[U l.e,ZC l.ask,ZC l.has,Q I q] 91)).heap.size=B (z H)+1:=by simp
       have hzW:B (z t)+2<=B (z H):=ex.lt;go_wp2_with (at_builtin;refine IS _ rfl (.tmp 101) (.tmp 103) 44 rfl (B (z t)+2) 91 il (ZG #[U ⟨#[]⟩,ZC ZA,ZC ZA,Q I 0]) 4 32 QG Hu Hp Hn Hs rfl (by decide) (Y al k ZP) k (lkV f (x.looks.take k)) (by simp[Act.eval]) PA.out (N (B (z H)) 0 Z) 1 1 [U l.e,ZC l.ask,ZC l.has,Q I q] (by simp[Act.eval]) rfl (Ei H _ _ _ _ _) (by simp[Value.oneCell']) (by unfold maxLen;omega) (by omega) (by omega) ?_;intro v' wz K D _;obtain⟨az,cz,rfl⟩:=ct K;rw[<-Iq.out,<-Cc f x.looks HL.out] at K;have PZ:=ae K;have GZ:=ae D;have XZ:=ae (XA.grown PA D (AD _));obtain⟨z5,zf5⟩:=XZ.c5;have zl:=XZ.lt;clear K D);have XY:=ae (XZ.set5 (Y az (k+1) cz));have mY:Hid ((wz.setCell (N (B (z t)+1) 5 Z) (Y az (k+1) cz)).heap[B (z t)]?=T (J #[U x.e,Q I ZT,U o,Y Z 0 0,Y (T (N G 0 Z)) y E,ZC ZF] 198 (0,0))):=(qh _ _ _ _ (show (B (z t))≠B (z t)+1 by omega)).trans ((GZ.block _ (ag mA) (λe=>by have:=(PA.lt _ e.symm).1;omega)).trans mA);have OY:=ae (aO (R:=B (z t)+1) (j:=5) (zn OA PA GZ (by decide)) (by omega) (Y az (k+1) cz));have PY:=ae (aO (R:=B (z t)+1) (j:=5) PZ (by omega) (Y az (k+1) cz));have BY:=ae ((bg BA GZ (by omega) (λj e=>by have:=(PA.lt j e).1;omega)).setCell (p:=(N (B (z t)+1) 5 Z)) (JH _) (Y az (k+1) cz));exact⟨⟨k+1,az,cz,by omega,by go_num,XY,mY,OY,PY,BY⟩,by simp[intOf];omega⟩
      ·have e:k=y:=by omega
       subst e;have XT:Hid (DBox wr (B (z t)+1) (U x.e) (Q I x.H) (Q I x.E) (U x.y) (Y (T (N g4 0 Z)) X c4) (Y al k ZP)):=by show DBox _ _ _ _ _ _ _ _;rw[HK.out,<-FP.1,<-FP.2];exact Ga
       have ST:Hid (DSub wr (B (z t)) (gE S f x,Y (T (N g4 0 Z)) X c4,Y al k ZP)):=by
        refine⟨?_,?_⟩;{show World.ownsRow wr (B (z t)) 151 3 (Y (T (N g4 0 Z)) X c4) (ez S x) (bX (S.f1 x.tg).D (ez S x));rw[Ia.out];exact aC Gk (by omega)};{show World.ownsRow wr (B (z t)) 91 4 (Y al k ZP) x.looks.length (bQ (lkF f x.looks) x.looks.length);rw[Eh,<-Fm.out];have h:=GE.out;rw[KI (by rw[<-Fm.out];exact nX _)] at h;exact aC h (by omega)}
       go_wp2;go_meet;exact⟨_,_,_,_,_,_,XT,ST,Fd⟩
    all_goals
     obtain⟨ZS,hz⟩:∃ZS,ZS=dD (atI (nm0 S.f0) S.n0 x.e):=⟨_,rfl⟩
     have HK:=ae hk;have Ha:=ae sm;have H9:=ae Gj;have C:Hid (∀V,Below (B (z ZJ)) ZJ V->A V (N hb 0 Z)=T (Y a0 S.n0 c0)/\A V (N hb 1 Z)=T (Y a1 S.n1 c1)/\A V (N (B (z wr)) 0 Z)=T (U x.e)):=λV g=>⟨(g.cell (p:=(N hb 0 Z)) qr.lt).trans qr.c0,(g.cell (p:=(N hb 1 Z)) qr.lt).trans qr.c1,(g.cell (p:=(N (B (z wr)) 0 Z)) (by show (B (z wr))<_;omega)).trans (by simp[World.cell?,m7.out])⟩
     have CT:Hid (∀V,Below (B (z ZJ)) ZJ V->Calls Pg 51 #[ZG #[Y a0 S.n0 c0,Y a1 S.n1 c1],U x.e] V λe w'=>e=ZD (Q I ZS)/\Below (B (z V)) V w'):=λV g=>by rw[hz];exact gH a0 S.n0 c0 a1 S.n1 c1 S.f0 x.e V (by have:=Gb.ax;omega) (V0.aa (FY.trans (g.mono FY.size)) ly)
     have HZ:=ae hz;have Gg:ZL=-1:=by rw[HT.out,show atI (nm1 S.f1) S.n1 x.e=Z by first|exact CD|exact mB Gb.out Hb];rfl
     subst Gg;clear hk sm Gj hz;go_wp2_with fail
     go_region_held3 (λV=>A V (N hb 0 Z)=T (Y a0 S.n0 c0)/\A V (N hb 1 Z)=T (Y a1 S.n1 c1)/\A V (N (B (z wr)) 0 Z)=T (U x.e)) (first|exact C _ br|exact C _ br.drew|exact C _ D8) (first
      |(go_at_call 51;refine(CT _ (by first|exact br.drew|exact cM _ _)).mono ?_;rintro e w8 ⟨rfl,n9⟩;have D8:Hid (Below (B (z ZJ)) ZJ w8):=⟨n9.os,n9.tape,n9.output,n9.size,n9.block⟩;clear n9))
     have X8:=ae (X7.aa D8 X7.lt);have B8:=ae (B7.trans (D8.mono B7.size));obtain⟨d1,Hd⟩:=X8.c1;have G8:=X8.lt
    ·obtain rfl:ZS=(si:Int):=by rw[HZ.out,Hb];rfl
     have FP:Hid (o=x.y):=by show o=x.y;rw[GO.out];unfold cI;rw[eT (by rw[HK.out];decide)]
     have hsi0:(0:Int)<=(si:Int):=by omega
     obtain⟨d3,GV⟩:=X8.c3;have m8:=(D8.block _ (ag m7)).trans m7;have q2:A w8 (N (B (z wr)) 2 Z)=T (U o):=by simp[World.cell?,m8]
     have BT:=ae ((B8.setCell (p:=(N (B (z wr)+1) 1 Z)) (JH _) (Q I 1)).setCell (p:=(N (B (z wr)+1) 3 Z)) (JH _) (U o));clear m8;go_wp2;go_meet;exact⟨Z,Z,0,0,0,0,(by show DBox _ _ _ _ _ _ _ _;rw[HK.out,Ha.out,<-FP.out];exact(X8.set1 _).set3 _),tD (by unfold ez;rw[eT (by rw[HK.out];decide)]) hlk _ _,BT⟩
    ·obtain rfl:ZS=-1:=by rw[HZ.out,GA];rfl
     have BT:=ae (B8.setCell (p:=(N (B (z wr)+1) 1 Z)) (JH _) (Q I 2));go_wp2;go_meet;exact⟨Z,Z,0,0,0,0,(by show DBox _ _ _ _ _ _ _ _;rw[HK.out,Ha.out,H9.out];exact X8.set1 _),tD (by unfold ez;rw[eT (by rw[HK.out];decide)]) hlk _ _,BT⟩
   case rest =>
   obtain⟨aa,al,na,nl,ca,ZP,XT,ST,BT⟩:=hcut;have kT:=ae ((BT.block _ (ag k4)).trans k4);have Gh:=ae ((BT.block _ (ag ld)).trans ld);clear X7 m7 k7 GM qr FY B7 Gf;generalize wc=W8 at XT ST BT kT Gh ⊢;obtain⟨t0,_⟩:=XT.c0;obtain⟨t1,_⟩:=XT.c1;obtain⟨t2,_⟩:=XT.c2;obtain⟨t3,_⟩:=XT.c3;obtain⟨t4,_⟩:=XT.c4;obtain⟨t5,_⟩:=XT.c5;have kc:A W8 (N (B (z w)+1) 0 Z)=T (Y ZN i c5):=by simp[World.cell?,kT.out]
   have AL:=ae ((BS W8).alloc ly (J #[U x.e,Q I x.H,Q I x.E,U x.y,Y aa na ca,Y al nl ZP] 46));have DA:=ae (D4.aa (BT.trans (AL.mono BT.size)) ly);have SA:=ae (ST.aa AL ly);have kA:=ae ((AL.block _ (ag kT)).trans kT);have GU:=ae ((AL.block _ (ag Gh)).trans Gh);have BA:=ae (B4.trans ((BT.trans (AL.mono BT.size)).mono (by omega)));have OW:Hid (World.ownsRow (W8.alloc (J #[U x.e,Q I x.H,Q I x.E,U x.y,Y aa na ca,Y al nl ZP] 46)) (B (z w)+2) 46 6 (Y ZN i c5) i (R.flatMap ddV)):=by have h:=DA.x;rw[At] at h;exact h
   have Gx:Hid (∀j,(Value.slice ZN i c5).ownBlock=T j->B (z w)+2<=j):=λj e=>(OW.lt j e).1;have Ib:(W8.alloc (J #[U x.e,Q I x.H,Q I x.E,U x.y,Y aa na ca,Y al nl ZP] 46)).heap.size=B (z W8)+1:=by simp
   have hzT:=BT.size;go_wp2_with (at_builtin;refine IS _ rfl (.tmp 121) (.tmp 123) 35 rfl (B (z w)+2) 46 Hv (ZG #[U ⟨#[]⟩,Q I 0,Q I 0,U ⟨#[]⟩,Y Z 0 0,Y Z 0 0]) 6 96 L8 Ic Hl Ho Hm rfl (by decide) (Y ZN i c5) i (R.flatMap ddV) (by simp[Act.eval]) OW.out (N (B (z W8)) 0 Z) 1 1 [U x.e,Q I x.H,Q I x.E,U x.y,Y aa na ca,Y al nl ZP] (by simp[Act.eval]) rfl (Fc W8 _ _ _ _ _ _ _) (by simp[Value.oneCell']) (by unfold maxLen;omega) (by omega) (by omega) ?_;intro v' w9 K D _;obtain⟨a7,c7,rfl⟩:=ct K;have O9:=ae K;have G9:=ae D;have k9:=ae ((D.block _ (ag kA) (λe=>by have:=Gx.out _ e.symm;omega)).trans kA);have g9:A w9 (N (B (z w)+1) 0 Z)=T (Y ZN i c5):=(by simp[World.cell?,k9.out]);have f9:w9.frozen? (N (B (z w)+1) 0 Z)=ZA:=(by simp[World.frozen?,k9.out]);have l9:=ag k9.out;clear K D);have D9:Hid (DRow w9 (B (z w)+2) (Y a7 (i+1) c7) (R++[(gE S f x,Y aa na ca,Y al nl ZP)])):=DRow.more D4 DA (by omega) SA (by rw[At];exact O9) G9;have Ij:=ae ((G9.block _ (ag GU) (λe=>by have:=Gx.out _ e.symm;omega)).trans GU);have B9:=ae (bg BA G9 (by omega) (λj e=>by have:=Gx.out j e;omega));have H7:=ae (D9.set (p:=(N (B (z w)+1) 0 Z)) (e:=37) (.inl (AD _)) (Y a7 (i+1) c7));have Im:Hid ((w9.setCell (N (B (z w)+1) 0 Z) (Y a7 (i+1) c7)).heap[B (z w)+1]?=T (J #[Y a7 (i+1) c7] 37 (0,0))):=au k9 _;have Ht:Hid ((w9.setCell (N (B (z w)+1) 0 Z) (Y a7 (i+1) c7)).heap[B (z w)]?=T (J #[Y Z 0 0] 37 (0,0))):=(qh _ _ _ _ (show (B (z w))≠B (z w)+1 by omega)).trans Ij.out;have Ii:=ae (B9.setCell (p:=(N (B (z w)+1) 0 Z)) (JH _) (Y a7 (i+1) c7));refine⟨⟨i+1,a7,c7,_,by omega,by go_num,by rw[eL,At];rfl,?_,H7,Im,Ht,Ii⟩,by simp[intOf];omega⟩;show(R++[((gE S f x,Y aa na ca,Y al nl ZP):DR)]).map (·.1)=_;rw[JS,Gu.out,List.take_add_one,HX.out];simp
  ·have e:i=n:=by omega
   subst e;have Ik:A wr (N (B (z w)) 0 Z)=T (Y Z 0 0):=by simp[World.cell?,ld.out]
   have rf0:wr.frozen? (N (B (z w)) 0 Z)=ZA:=by simp[World.frozen?,ld.out]
   have rl0:=ag ld.out;have ac0:A wr (N (B (z w)+1) 0 Z)=T (Y ZN i c5):=by simp[World.cell?,k4.out]
   have al0:=ag k4.out;go_wp2;refine bp (v:=ZG #[Y ZN i c5]) (by simp[results,results72,go_sem,Ik]) rfl ?_;subst At;refine⟨ZN,c5,R,rfl,?_,?_,?_⟩;{exact(D4.set (p:=(N (B (z w)) 0 Z)) (e:=37) (.inl (show (B (z w))<B (z w)+2 by omega)) _).mono (by omega)};{rw[Gu.out,KI (by rw[<-HN.out];exact nX _)];rfl};{exact B4.setCell (p:=(N (B (z w)) 0 Z)) ly _}
end
def tE (w:M)(S:Spc)(b:List Ent × iO)(e:Ending)(f:M):Prop:=∃a c R g,e=ZD (.tuple #[ZG #[Y a R.length c],g])/\DRow f (B (z w)) (Y a R.length c) R/\R.map (·.1)=fT S b.1/\mh w f b.2 g/\Below (B (z w)) w f
section
variable {S:Spc}{a0 a1:Option Addr}{c0 c1:Nat}
theorem tF (w:M)(nm:ByteArray)(x:SlSource w a0 S.n0 S.f0)(t:SlTarget w a1 S.n1 S.f1)(hn0:S.n0<=1048576)(hn1:S.n1<=1048576)(q:∀i,i<S.n1->aY (S.f1 i))(G:∀i,i<S.n1->∀j,j<(S.f1 i).m->((S.f1 i).D j).s.size<=maxLen)(m:¬ (be S.n0 S.f0 S.n1 S.f1=0/\aA nm=ZF)):Calls Pg 21 #[ZG #[Y a0 S.n0 c0,Y a1 S.n1 c1],U nm] w λe K=>tE w S ([],⟨9,⟨#[]⟩,[]⟩) e K:=by
 have y:=ae (λ(o:M) (b:Hid (Below (B (z w)) w o))=>dK a0 S.n0 c0 S.f0 a1 S.n1 c1 S.f1 o (by omega) (by omega) (x.aa b ly) (t.aa b ly) q G);obtain⟨ZT,u⟩:∃ZT,ZT=be S.n0 S.f0 S.n1 S.f1:=⟨_,rfl⟩
 rw[<-u] at y m;have ZP:=ae m;clear x t q G u m hn0 hn1;go_enter func21,ntmps21;go_wp2_with fail;generalize D:World.alloc (World.alloc (World.alloc w _) _) _=o;obtain⟨b,ZO,l,f,-⟩:=nb3 D;replace f:Hid (o.heap[B (z w)+1+1]?=_):=f;clear D;refine(y o b).mono ?_;clear y;rintro e H ⟨rfl,g⟩;replace b:=ae (b.trans (g.mono b.size));replace l:=ae ((g.block _ (ag l)).trans l);replace f:=ae ((g.block _ (ag f)).trans f);clear g ZO;by_cases C:ZT=0;case' pos =>
  have ZR:Hid (aA nm=ZA):=by
   cases h:aA nm with
   |false=>rfl
   |true=>exact absurd ⟨C,h⟩ ZP
  subst C;go_wp2_with fail;refine(cH nm H).mono ?_;rintro e ZS ⟨E,g⟩;rw[ZR.out] at E;subst E;replace b:=ae (b.trans (g.mono b.size));replace l:=ae ((g.block _ (ag l)).trans l);replace f:=ae ((g.block _ (ag f)).trans f);clear g
 case' neg =>
  obtain⟨ZS,ZQ⟩:∃v,v=H:=⟨_,rfl⟩
  subst ZQ
 all_goals
  have L:=b;have n:=l.out;obtain⟨rl,r0,r1,ZM,r⟩:=bw f.out;have rf0:=r 0;have rf1:=r 1;have rf2:=r 2;have O:A ZS (N (B (z w)+1) 0 Z)=T (Y Z 0 0):=by simp[World.cell?,n]
  have pf0:ZS.frozen? (N (B (z w)+1) 0 Z)=ZA:=by simp[World.frozen?,n]
  have pl:=ag n;clear r n l f;go_wp2_with fail;refine bp (v:=.tuple #[ZG #[Y Z 0 0],ZG #[Q I 9,U ⟨#[]⟩,Y Z 0 0]]) (by simp[results,results21,go_sem,O,r0,r1,ZM]) rfl ⟨Z,0,[],_,rfl,jP _ _,rfl,ji _ _ _ _,?_⟩;exact(((L.setCell (p:=(N (B (z w)+1) 0 Z)) (JH _) _).setCell (p:=(N (B (z w)+1+1) 0 Z)) (by show (B (z w))<=B (z w)+1+1;omega) _).setCell (p:=(N (B (z w)+1+1) 1 Z)) (by show (B (z w))<=B (z w)+1+1;omega) _).setCell (p:=(N (B (z w)+1+1) 2 Z)) (by show (B (z w))<=B (z w)+1+1;omega) _
theorem uG (w:M)(nm:ByteArray)(n8:SlSource w a0 S.n0 S.f0)(ld:SlTarget w a1 S.n1 S.f1)(hn0:S.n0<=1048576)(hn1:S.n1<=1048576)(W:∀i,i<S.n1->aY (S.f1 i))(hs:∀i,i<S.n1->∀j,j<(S.f1 i).m->((S.f1 i).D j).s.size<=maxLen)(h1:be S.n0 S.f0 S.n1 S.f1=0)(h2:aA nm=ZF):Calls Pg 21 #[ZG #[Y a0 S.n0 c0,Y a1 S.n1 c1],U nm] w λe w'=>tE w S (aX S nm) e w':=by
 have HC:=ae (λ(W0:M) (ZJ:Hid (Below (B (z w)) w W0))=>dK a0 S.n0 c0 S.f0 a1 S.n1 c1 S.f1 W0 (by omega) (by omega) (n8.aa ZJ ly) (ld.aa ZJ ly) W hs);have V0:=ae n8;have V1:=ae ld;have FW:=ae W;have DQ:=ae (SpcOk.of h1);have H1:=ae h1;have H2:=ae h2;rw[h1] at HC;obtain⟨bb,ZP⟩:∃bb,bb=aX S nm:=⟨_,rfl⟩
 obtain⟨ph,o,-⟩:=oG S nm;rw[<-ZP] at ph o ⊢;unfold aX at ZP;rw[nL ⟨h1,h2⟩] at ZP;have mv:=ae ZP;have F0:=ae ph;have Fm:=ae o;clear n8 ld W hs hn0 hn1 h1 h2 ZP ph o;go_enter func21,ntmps21;go_wp2_with fail;generalize hW:World.alloc (World.alloc (World.alloc w _) _) _=W0;obtain⟨ZJ,kS,kA,kR,-⟩:=nb3 hW;replace kR:Hid (W0.heap[B (z w)+1+1]?=_):=kR;clear hW;refine(HC W0 ZJ).mono ?_;clear HC;rintro e w1 ⟨rfl,m⟩;have B1:=ae (ZJ.trans (m.mono ZJ.size));have DS:=ae ((m.block _ (ag kA)).trans kA);have sm:=ae ((m.block _ (ag kR)).trans kR);have ur:=ae ((m.block _ (ag kS)).trans kS);clear m;go_wp2_with fail;refine(cH nm w1).mono ?_;rintro e w2 ⟨he,m⟩;rw[H2.out] at he;subst he;have B2:=ae (B1.trans (m.mono B1.size));have Fd:=ae ((m.block _ (ag DS)).trans DS);have DE:=ae ((m.block _ (ag sm)).trans sm);have fd:=ae ((m.block _ (ag ur)).trans ur);have hsl:B (z w)<B (z w2):=ag fd.out;have q0:A w2 (N (B (z w)) 0 Z)=T (Y a0 S.n0 c0):=by simp[World.cell?,fd.out]
 have q1:A w2 (N (B (z w)) 1 Z)=T (Y a1 S.n1 c1):=by simp[World.cell?,fd.out]
 clear m;go_wp2_with fail;refine(uD w2 ⟨V0.aa B2 ly,V1.aa B2 ly,DQ⟩ nm H2).mono ?_;rintro e f ⟨hb,rfl,l,m⟩;have B3:=ae (B2.trans (m.mono B2.size));have q:=ae ((m.block _ (ag Fd)).trans Fd);have u:=ae ((m.block _ (ag DE)).trans DE);clear q0 q1 m;have ZL:B (z w)<=B (z f):=B3.size;have ZR:=uE S 60 [] [] nm;rcases hl:aQ S 60 [] [] nm with ⟨y,x⟩|c|d
 ·rw[hl] at l;obtain⟨r,n⟩:∃r,r=cI x:=⟨_,rfl⟩
  have e:bb=(y,r):=by rw[mv.out,hl,n]
  subst e;obtain⟨L,md,or,st,g,ro,Bk,th,hrel⟩:=l;obtain⟨O,b0,b1,b2,b3,-,b5,b6,b7,b8,-⟩:=g.K;have FO:Hid (ShAt (B (z w2)) f hb (Y a0 S.n0 c0) (Y a1 S.n1 c1) md or L y):=⟨O,b0,b1,b2,b3,ro,Bk,th⟩
  have Fk:=ae hrel;have bt:r.w=[]:=by rw[n];unfold cI;split<;>rfl
  rw[<-n] at b5 b6;have aq:=ae bt;have SQ:Hid (∀V:M,V.heap[hb]?=f.heap[hb]?->A V (N hb 5 Z)=T (Q I r.E)/\A V (N hb 6 Z)=T (U r.y)/\A V (N hb 7 Z)=T (Y Z 0 0)):=λV h=>⟨(cq (a:=(N hb 5 Z)) h).trans b5,(cq (a:=(N hb 6 Z)) h).trans b6,(cq (a:=(N hb 7 Z)) h).trans b7⟩
  have X:hb≠B (z w)+1:=λe=>by have:=ah g (e ▸ q.out);exact absurd this (by decide)
  have E:hb≠B (z w)+1+1:=λe=>by have:=ah g (e ▸ u.out);exact absurd this (by decide)
  have CM:Hid (Calls Pg 72 #[.pointer (T (N hb 0 Z))] f.drew λe w'=>∃a c R,e=ZD (ZG #[Y a R.length c])/\DRow w' (B (z f)) (Y a R.length c) R/\R.map (·.1)=fT S y/\Below (B (z f)) f w'):=by have hd:Below (B (z f)) f f.drew:=br.drew;have h:=xB (B (z w2)) f.drew hb md or L y (FO.aa hd ly) Fk F0 Fm (V0.aa (B3.trans (hd.mono ZL)) ly) (V1.aa (B3.trans (hd.mono ZL)) ly) DQ FW;exact h.mono λe w' ⟨a,c,R,h1,h2,h3,h4⟩=>⟨a,c,R,h1,h2,h3,h4.os,h4.tape,h4.output,h4.size,h4.block⟩
  clear n bt hrel g ro Bk th b0 b1 b2 b3 hl ZR;go_wp2_with fail;refine wp_region_held_drew (S:=λV=>A V (N hb 5 Z)=T (Q I r.E)/\A V (N hb 6 Z)=T (U r.y)/\A V (N hb 7 Z)=T (Y Z 0 0)) (by kernel_rfl) (SQ _ rfl) ?_;intro hS;have ZM:=ae hS;clear hS b5 b6 b7 b8;refine aR 0 (v:=?_) rfl rfl (by kernel_rfl) (λ_ _ _ h=>h) rfl ?_ ZM ?_;rotate_left
  ·(rintro wz ⟨s0,s1,s2⟩;go_simp)
   (try with_reducible rfl)
  (try simp only[Act.put,nzL])
  iterate 4
   refine aR 2 (v:=?_) rfl rfl (by kernel_rfl) (λ_ _ _ h=>h) rfl ?_ ZM ?_;rotate_left
   ·(rintro wz ⟨s0,s1,s2⟩;go_simp)
    (try with_reducible rfl)
   (try simp only[Act.put,nzL])
  refine aI (i:=1) rfl (by kernel_rfl) λK ZT=>?_;go_simp;go_at_call 72;refine CM.mono ?_;rintro e w4 ⟨ZK,c5,R,rfl,qr,At,CD⟩;have D4:=ae qr;have M4:=ae At;have B4:=ae CD;clear qr At CD ZM;have ZM:=ae (SQ w4 (B4.block _ O));refine ZT _ _ ZM ?_;clear ZT K
  (try simp only[Act.put,nzL])
  refine aI (i:=6) rfl (by kernel_rfl) λK ZT=>?_;go_simp;go_at_call 71;have CC:=oO w4 r Z 0 (B (z w4)) (by rw[aq.out];exact⟨rfl,.inl ⟨rfl,rfl⟩⟩) (by rw[aq.out];exact IH _);rw[aq.out] at CC;refine CC.mono ?_;clear CC;rintro e ZO ⟨rv,rfl,⟨D,C,rfl,P⟩,ZQ⟩;have ZS:=ae P;have H:=ae ZQ;have ZI:B (z f)<=B (z w4):=B4.size;have t:=(H.block _ (lj (ag q) ZI)).trans ((B4.block _ (ag q)).trans q);have ZN:=(H.block _ (lj (ag u) ZI)).trans ((B4.block _ (ag u)).trans u);obtain⟨rl,r0,r1,r2,G⟩:=bw ZN;have FK:=G 0;have FQ:=G 1;have FM:=G 2;have p0:A ZO (N (B (z w)+1) 0 Z)=T (Y Z 0 0):=by simp[World.cell?,t]
  have FY:ZO.frozen? (N (B (z w)+1) 0 Z)=ZA:=by simp[World.frozen?,t]
  have pl:=ag t;have FV:B (z w)+1<B (z f):=ag q.out;have FU:B (z w)+1+1<B (z f):=ag u.out;have ex:=(H.block hb (lj O ZI)).trans (B4.block hb O);clear G t ZN ZM P ZQ;have ZM:=ae (SQ ZO ex);refine ZT _ _ ZM ?_;clear ZT K
  (try simp only[Act.put,nzL])
  refine aI (i:=7) rfl (by kernel_rfl) λK ZT=>?_;go_simp;have FZ:=ae (SQ (ZO.setCell (N (B (z w)+1) 0 Z) (Y ZK R.length c5)) ((qh _ _ _ _ X).trans ex));refine ZT _ _ FZ ?_;clear ZT K
  (try simp only[Act.put])
  have FP:=ae (SQ ((((ZO.setCell (N (B (z w)+1) 0 Z) (Y ZK R.length c5)).setCell (N (B (z w)+1+1) 0 Z) (Q I r.E)).setCell (N (B (z w)+1+1) 1 Z) (U r.y)).setCell (N (B (z w)+1+1) 2 Z) (Y D r.w.length C)) ((qh _ _ _ _ E).trans ((qh _ _ _ _ E).trans ((qh _ _ _ _ E).trans ((qh _ _ _ _ X).trans ex)))));refine aI (i:=8) rfl (by kernel_rfl) λK ZT=>?_;go_simp;refine ZT _ _ FP ?_;clear ZT K
  (try simp only[Act.put])
  refine wpAnyH_done (by kernel_rfl) ?_ _;have OF:=ae (ay (ay (ay (ay ZS (b:=B (z w)+1) (λe=>by have:=(af ZS _ e).1;omega) 0 (Y ZK R.length c5)) (b:=B (z w)+1+1) (λe=>by have:=(af ZS _ e).1;omega) 0 (Q I r.E)) (b:=B (z w)+1+1) (λe=>by have:=(af ZS _ e).1;omega) 1 (U r.y)) (b:=B (z w)+1+1) (λe=>by have:=(af ZS _ e).1;omega) 2 (Y D r.w.length C));have DF:=ae (((((D4.aa H ly).set (p:=(N (B (z w)+1) 0 Z)) (e:=37) (.inl (by show (B (z w))+1<B (z f);omega)) (Y ZK R.length c5)).set (p:=(N (B (z w)+1+1) 0 Z)) (e:=37) (.inl (by show (B (z w))+1+1<B (z f);omega)) (Q I r.E)).set (p:=(N (B (z w)+1+1) 1 Z)) (e:=37) (.inl (by show (B (z w))+1+1<B (z f);omega)) (U r.y)).set (p:=(N (B (z w)+1+1) 2 Z)) (e:=37) (.inl (by show (B (z w))+1+1<B (z f);omega)) (Y D r.w.length C));have BF:=ae (((((B3.trans ((B4.trans (H.mono ZI)).mono ZL)).setCell (p:=(N (B (z w)+1) 0 Z)) (by show (B (z w))<=B (z w)+1;omega) (Y ZK R.length c5)).setCell (p:=(N (B (z w)+1+1) 0 Z)) (by show (B (z w))<=B (z w)+1+1;omega) (Q I r.E)).setCell (p:=(N (B (z w)+1+1) 1 Z)) (by show (B (z w))<=B (z w)+1+1;omega) (U r.y)).setCell (p:=(N (B (z w)+1+1) 2 Z)) (by show (B (z w))<=B (z w)+1+1;omega) (Y D r.w.length C));go_wp2;refine bp (v:=.tuple #[ZG #[Y ZK R.length c5],ZG #[Q I r.E,U r.y,Y D r.w.length C]]) (by simp[results,results21,go_sem,p0,r0,r1,r2]) rfl ⟨ZK,c5,R,_,rfl,DF.mono ZL,M4,⟨D,C,rfl,aC OF (by omega)⟩,BF⟩
 case' inr.inl =>
  rw[hl] at l;obtain⟨r,n⟩:∃r,r=iA c:=⟨_,rfl⟩
  have e:bb=([],r):=by rw[mv.out,hl,n];rfl
  subst e;obtain⟨a,k,u0,u1,md,or,st,g,ho⟩:=l;have o:r.w.length<=1000:=by rw[n];exact nD (ZR c hl) (by simp)
  have l:c.length=r.w.length:=by rw[n];rfl
  rw[<-n,l] at g ho;clear n l
 case' inr.inr =>
  rw[hl] at l;obtain⟨r,n⟩:∃r,r=iB d:=⟨_,rfl⟩
  have e:bb=([],r):=by rw[mv.out,hl,n];rfl
  subst e;obtain⟨u0,u1,md,or,st,g,ho⟩:=l;have o:r.w.length<=1000:=by rw[n];exact IH _
  have l:0=r.w.length:=by rw[n];rfl
  rw[<-n,l] at g ho;clear n l
 all_goals
  obtain⟨O,-,-,-,-,-,b5,b6,b7,b8,-⟩:=g.K;have FX:=ae (oO f r _ _ _ ho o);have X:hb≠B (z w)+1:=λe=>by have:=ah g (e ▸ q.out);exact absurd this (by decide)
  have E:hb≠B (z w)+1+1:=λe=>by have:=ah g (e ▸ u.out);exact absurd this (by decide)
  clear hl ZR g ho o;go_wp2_with fail;refine FX.mono ?_;rintro e ZO ⟨rv,rfl,⟨D,C,rfl,P⟩,ZQ⟩;have ZS:=ae P;have H:=ae ZQ;have t:=(H.block _ (ag q)).trans q;have ZN:=(H.block _ (ag u)).trans u;obtain⟨rl,r0,r1,r2,G⟩:=bw ZN;have FK:=G 0;have FQ:=G 1;have FM:=G 2;have p0:A ZO (N (B (z w)+1) 0 Z)=T (Y Z 0 0):=by simp[World.cell?,t]
  have FY:ZO.frozen? (N (B (z w)+1) 0 Z)=ZA:=by simp[World.frozen?,t]
  have pl:=ag t;have FV:B (z w)+1<B (z f):=ag q.out;have FU:B (z w)+1+1<B (z f):=ag u.out;have OF:=ae (ay (ay (ay (ay ZS (b:=B (z w)+1) (λe=>by have:=(af ZS _ e).1;omega) 0 (Y Z 0 0)) (b:=B (z w)+1+1) (λe=>by have:=(af ZS _ e).1;omega) 0 (Q I r.E)) (b:=B (z w)+1+1) (λe=>by have:=(af ZS _ e).1;omega) 1 (U r.y)) (b:=B (z w)+1+1) (λe=>by have:=(af ZS _ e).1;omega) 2 (Y D r.w.length C));have BF:=ae (((((B3.trans (H.mono ZL)).setCell (p:=(N (B (z w)+1) 0 Z)) (by show (B (z w))<=B (z w)+1;omega) (Y Z 0 0)).setCell (p:=(N (B (z w)+1+1) 0 Z)) (by show (B (z w))<=B (z w)+1+1;omega) (Q I r.E)).setCell (p:=(N (B (z w)+1+1) 1 Z)) (by show (B (z w))<=B (z w)+1+1;omega) (U r.y)).setCell (p:=(N (B (z w)+1+1) 2 Z)) (by show (B (z w))<=B (z w)+1+1;omega) (Y D r.w.length C));clear G t ZN P ZQ b5 b6 b7 b8;go_wp2_with fail;refine bp (v:=.tuple #[ZG #[Y Z 0 0],ZG #[Q I r.E,U r.y,Y D r.w.length C]]) (by simp[results,results21,go_sem,p0,r0,r1,r2]) rfl ⟨Z,0,[],_,rfl,jP _ _,rfl,⟨D,C,rfl,?_⟩,?_⟩
  ·first|exact aC OF (by omega)|(have h:=aC OF (show (B (z w))<=B (z f) by omega);simpa[p0] using h)
  ·first|exact BF|simpa[p0] using BF.out
theorem tG (w:M)(nm:ByteArray)(g:SlSource w a0 S.n0 S.f0)(f:SlTarget w a1 S.n1 S.f1)(hn0:S.n0<=1048576)(hn1:S.n1<=1048576)(b:∀i,i<S.n1->aY (S.f1 i))(l:∀i,i<S.n1->∀j,j<(S.f1 i).m->((S.f1 i).D j).s.size<=maxLen):Calls Pg 21 #[ZG #[Y a0 S.n0 c0,Y a1 S.n1 c1],U nm] w λe m=>tE w S (aX S nm) e m:=by
 by_cases h:be S.n0 S.f0 S.n1 S.f1=0/\aA nm=ZF;{exact uG w nm g f hn0 hn1 b l h.1 h.2}
 ·have e:aX S nm=([],⟨9,⟨#[]⟩,[]⟩):=by unfold aX;rw[eT h]
  rw[e];exact tF w nm g f hn0 hn1 b l h
end
