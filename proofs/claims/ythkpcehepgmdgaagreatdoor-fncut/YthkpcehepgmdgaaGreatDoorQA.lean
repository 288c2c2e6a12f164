import Derived.Test.YthkpcehepgmdgaaGreatDoorRX
import Derived.Test.YthkpcehepgmdgaaGreatDoorTY
set_option maxRecDepth 100000
set_option maxHeartbeats 8000000
open Go renaming Addr.mk->Q,Value.slice->Z,Value.string->U,Value.int->J,Value.bool->ZC,Value.agg->ZH,Obj.cells->N,IntKind.i64->I,World->G,Value->ZD,TypeId->ZI,Ending.returned->ZG,World.heap->h,World.ownsRow->ZY,World.alloc->ZV,World.cell?->ZW,World.frozen?->ZX,World.setCell->ZT,Proofs.Tryz.prog->Pg
open Option renaming none->Y,some->T
open Bool renaming false->ZB,true->ZF
open Array renaming size->A
open List renaming length->ZU
namespace Go.Proofs.YthkpcehepgmdgaaGreatDoor.Vp
open Tryz RowKit
variable {w:G}{l:Lk}{f b size n g i:Nat}{x:Ent}{e:ZI}{r:List ZD}{L:List SM}{S:Spc}
def lkV (b:List Ent)(f:List Lk):List ZD:=f.flatMap λl=>dt (lkD b l)
theorem FC (b:List Ent)(f:List Lk):bq (lkF b f) (ZU f)=lkV b f:=by
 unfold bq lkV;rw[show(List.range (ZU f)).map (lkF b f)=f.map (lkD b) from ?_,QM];refine OD λi=>?_;rw[HU,HU];rcases MJ i (ZU f) with Z8|Z8;{rw[List.getElem?_range Z8,gq Z8];simp only[TQ];rw[kF (gq Z8)]};{rw[LJ Z8,LJ (by simpa using Z8)];rfl}
theorem DU (b:List Ent)(f:List Lk){k:Nat}(Z8:f[k]?=T l):lkV b (f.take (k+1))=lkV b (f.take k)++dt (lkD b l):=by rw[List.take_add_one,Z8];simp[lkV]
theorem FD (w:G)(b i g f:ZD)(t:ZI):∀j u,[b,i,g,f][j]?=T u->(ZV w (N #[b,i,g,f] t)).cell? (((Q (A (h w)) 0 Y):Addr).add j)=T u:=by
 intro j u Z8;rw[addr_add];match j,Z8 with
 |0,Z8=>simp at Z8;subst Z8;simp
 |1,Z8=>simp at Z8;subst Z8;simp
 |2,Z8=>simp at Z8;subst Z8;simp
 |3,Z8=>simp at Z8;subst Z8;simp
 |k+4,Z8=>simp at Z8
theorem DBox.grown{p:G}{m i q o l g v:ZD}(Z8:DBox w b m i q o l g)(s:ZY w f e size v n r)(j:w.grownBy p v.ownBlock)(hb:b<f):DBox p b m i q o l g :=
 Z8.ab j.size (j.block b Z8.lt λe=>by have:=(s.lt b e.symm).1;omega)
theorem AO{o:G}{t:Nat}{v p:ZD}{m:ZI}{i:List ZD}(Z8:ZY w b e size v n i)(s:ZY w g m f p t r)(u:w.grownBy o p.ownBlock)(l:e≠m):ZY o b e size v n i :=
 ey Z8 λk j=>u.block k (Z8.lt k j).2 λq=>(eF Z8 k j).ne (Ne.symm l) (eF s k q.symm)
open Ca
theorem Gx (w:G)(g m l i f b:ZD)(t:ZI):∀j u,[g,m,l,i,f,b][j]?=T u->(ZV w (N #[g,m,l,i,f,b] t)).cell? (((Q (A (h w)) 0 Y):Addr).add j)=T u:=by
 intro j u Z8;rw[addr_add];match j,Z8 with
 |0,Z8=>simp at Z8;subst Z8;simp
 |1,Z8=>simp at Z8;subst Z8;simp
 |2,Z8=>simp at Z8;subst Z8;simp
 |3,Z8=>simp at Z8;subst Z8;simp
 |4,Z8=>simp at Z8;subst Z8;simp
 |5,Z8=>simp at Z8;subst Z8;simp
 |k+6,Z8=>simp at Z8
structure ShAt (B:Nat)(w:G)(hb:Nat)(s0 s1 md or:ZD)(L:List SM)(made:List Ent):Prop where
 lt:hb<A (h w)
 c0:ZW w (Q hb 0 Y)=T s0
 c1:ZW w (Q hb 1 Y)=T s1
 c2:ZW w (Q hb 2 Y)=T md
 c3:ZW w (Q hb 3 Y)=T or
 ao:ZY w B 137 6 md (ZU L) (L.flatMap smV)
 ror:ZY w B 9 1 or (ZU made) (cI (made.map (·.e)))
 V:∀m∈L,m.done=ZF->ZY w B 140 3 m.sv (ZU m.V) (er m.V)
theorem ShAt.aa{B C:Nat}{n:G}{hb:Nat}{s0 s1 j l:ZD}{f:List Ent}(Z8:ShAt B w hb s0 s1 j l L f)(b:Below C w n)(g:A (h w)<=C):ShAt B n hb s0 s1 j l L f:=by have i:hb<C:=lj Z8.lt g;exact⟨lj Z8.lt b.size,(b.cell (p:=(Q hb 0 Y)) i).trans Z8.c0,(b.cell (p:=(Q hb 1 Y)) i).trans Z8.c1,(b.cell (p:=(Q hb 2 Y)) i).trans Z8.c2,(b.cell (p:=(Q hb 3 Y)) i).trans Z8.c3,own_below Z8.ao b g,own_below Z8.ror b g,λm o q=>own_below (Z8.V m o q) b g⟩
theorem Gy{b:List Ent}(Z8:fx L [] b)(n:b[i]?=T x):∃k m,fI L x.e=T k/\L[k]?=T m/\m.e=x.e/\m.done=ZF/\m.E=(dK x).E/\m.B=(dK x).B/\m.V=x.D:=by obtain⟨m,g,f,q,j,p,r⟩:=Z8.got x (IN n);obtain⟨k,l,o⟩:=qK Z8.nod g f;exact⟨k,m,l,o,f,q,j,p,r⟩
theorem uM{f:List Ent}(h1:dh S x=0)(h2:x.D=[])(W:G)(b:Nat):DSub W b (bv S f x,Z Y 0 0,Z Y 0 0):=by
 refine⟨?_,?_⟩;{show ZY W b 90 3 (Z Y 0 0) (dh S x) (bK (S.f1 x.tg).u (dh S x));rw[h1];exact CL _ _ _ _};{show ZY W b 68 4 (Z Y 0 0) (ZU x.D) (bq (lkF f x.D) (ZU x.D));rw[h2];exact CL _ _ _ _}
theorem DV{b:List Ent}(Z8:PG S [] b)(t:b[i]?=T x)(s:l∈x.D)(q:l.ask=ZF){D:List af}(r:D=(b.take i).map (bv S b)):bZ (dF D) l.e i=((jw b l.e:Nat):Int):=by
 obtain⟨y,m,hn,p⟩:=Z8.asked t s q;have f:∀(j:Nat) (z:Ent),j<i->b[j]?=T z->(dF D j).e=z.e:=λj z n hz=>by unfold dF;rw[r,CP,HU,List.getElem?_take_of_lt n,hz];rfl
 unfold bZ;refine dX p ?_ λj n=>?_;{rw[f _ y p m,hn];simp}
 ·have o:=(j2.1 m).1;have hz:b[j]?=T b[j]:=gq (by omega);rw[f j _ (by omega) hz];have g:=LD.1 Z8.nod j _ (by omega) o n;rw[(j2.1 m).2,hn] at g;cases hb:(b[j].e.toList == l.e.toList) with
  |false=>rfl
  |true=>exact absurd (bytes_beq hb) g
theorem AP{c:Nat}{b:List Lk}(Z8:ZY w f 140 3 (Z (T (Q g 0 Y)) (ZU b) c) (ZU b) (er b)){k:Nat}(i:b[k]?=T l)(j:Nat)(m:j<3){u:ZD}(n:[Value.string l.e,ZC l.ask,ZC l.has][j]?=T u):ZW w (Q g (k*3+j) Y)=T u :=
 (a8 Z8 (j:=k*3+j) (u:=u) (by rw[er,cL (λl:Lk=>[Value.string l.e,ZC l.ask,ZC l.has]) 3 (λ_=>rfl) b k j m l i];exact n)).1
def LkI (S:Spc)(Z8:List Ent)(x:Ent)(i:Int)(m:ByteArray)(o:Option Addr)(p n j g c4:Nat)(b:G)(al:Option Addr)(k l:Nat)(f:G):Prop:=Hid (DBox f (A (h b)+1) (U x.e) (J I 3) (J I i) (U m) (Z (T (Q j 0 Y)) g c4) (Z al k l))/\Hid (f.heap[A (h b)]?=T (N #[U x.e,J I i,U m,Z Y 0 0,Z o p n,ZC ZF] 137 (0,0)))/\Hid (ZY f (A (h b)+2) 90 3 (Z (T (Q j 0 Y)) g c4) g (bK (S.f1 x.tg).u g))/\Hid (ZY f (A (h b)+2) 68 4 (Z al k l) k (lkV Z8 (x.D.take k)))/\Hid (Below (A (h b)) b f)
section
variable {S:Spc}{a0 a1:Option Addr}{c0 c1:Nat}
theorem yV (B:Nat)(w:G)(hb:Nat)(md or:ZD)(L:List SM)(f:List Ent)
  (Hq:ShAt B w hb (Z a0 S.n0 c0) (Z a1 S.n1 c1) md or L f) (hrel:fx L [] f) (IJ:PG S [] f) (Ji:ZU f<=40201)
  (IZ:SlSource w a0 S.n0 S.f0) (IX:SlTarget w a1 S.n1 S.f1) (IE:SpcOk S) (H9:∀i,i<S.n1->aU (S.f1 i)) :
  Calls Pg 38 #[.pointer (T (Q hb 0 Y))] w λe w'=>∃a c R,e=ZG (ZH #[Z a (ZU R) c])/\DRow w' (A (h w)) (Z a (ZU R) c) R/\R.map (·.1)=aV S f/\Below (A (h w)) w w':=by
 have IQ:=ae Hq;have Jl:=ae hrel;have IP:=ae IJ;have V0:=ae IZ;have V1:=ae IX;have Hx:=ae IE;have Jw:=ae H9;have JB:ZU L<=40201:=by have:=hrel.len;simp only[J1,NO] at this;omega
 obtain⟨am,cm,rfl⟩:=gR Hq.ao;obtain⟨ao,co,rfl⟩:=gR Hq.ror;obtain⟨ZO,hN⟩:∃ZO,ZO=ZU L:=⟨_,rfl⟩
 obtain⟨n,hn⟩:∃n,n=ZU f:=⟨_,rfl⟩
 have ZK:=ae hN;have HN:=ae hn;rw[<-hN,<-hn] at IQ;rw[<-hN] at JB;rw[<-hn] at Ji;clear Hq hrel IJ IZ IX IE H9 hN hn;obtain⟨il,Jm,Jd,Jj,Je⟩:=KQ kJ;obtain⟨JH,Jz,Jh,Jg,Jb⟩:=KQ fA;obtain⟨W0,hW⟩:∃W:G,ZV (ZV w (N #[Z Y 0 0] 25)) (N #[Z Y 0 0] 25)=W:=⟨_,rfl⟩
 obtain⟨A0,kR,kA,-⟩:=nb2 hW;have HW:=ae hW;clear hW;go_enter func38,ntmps38;go_wp2_with fail;rw[HW.out];clear HW;go_loopw [4] (λv wr=>∃(i:Nat) (X:Option Addr) (c5:Nat) (R:List DR),i<=n/\v=J I i/\(ZU R)=i/\Hid (R.map (·.1)=(f.take i).map (bv S f))/\Hid (DRow wr (A (h w)+2) (Z X i c5) R)/\Hid (wr.heap[A (h w)+1]?=T (N #[Z X i c5] 25 (0,0)))/\Hid (wr.heap[A (h w)]?=T (N #[Z Y 0 0] 25 (0,0)))/\Hid (Below (A (h w)) w wr)) (λv _=>n - (intOf v).toNat);case atStart=>exact⟨0,Y,0,[],by omega,rfl,rfl,rfl,fB _ _,kA,kR,A0⟩
 case round =>
  clear kA kR A0;obtain⟨i,X,c5,R,hi,rfl,ur,Iv,D4,k4,bt,B4⟩:=hrel;have M:=ae (IQ.aa B4 ly);have hw4:A (h w)+2<=A (h wr):=ai k4.out;have h3:=M.c3;have IL:=M.lt;by_cases JC:i<n
  ·obtain⟨x,hx⟩:∃x,f[i]?=T x:=⟨_,gq (by rw[<-HN.out];exact JC)⟩
   obtain⟨j,m,hf,hm,e1,e2,e3,e4,e5⟩:=Gy Jl hx;have Fn:=M.ror;have O:=M.ao;rw[<-HN.out] at Fn;rw[<-ZK.out] at O;obtain⟨go,co',e⟩:=bV Fn (by omega);simp only[KU,TG] at e;obtain⟨rfl,rfl⟩:=e;have hjN:j<ZO:=by rw[ZK.out];exact(j2.1 hm).1
   obtain⟨y,cm',e⟩:=bV O (by omega);simp only[KU,TG] at e;obtain⟨rfl,rfl⟩:=e;have oc:ZW wr (Q go i Y)=T (U x.e):=(a8 Fn (by rw[cI,HU,HU,hx];rfl)).1;have JJ:=(cu Fn).2;have n8:=(cu O).2;have h2:=M.c2;have Fk:=M.V m (IN hm) e2;obtain⟨ZJ,E,Hv⟩:=gR Fk;obtain⟨ZZ,Il⟩:∃ZZ,ZZ=(dK x).E:=⟨_,rfl⟩
   obtain⟨o,ex⟩:∃o,o=(dK x).B:=⟨_,rfl⟩
   obtain⟨t,Hn⟩:∃t,t=ZU x.D:=⟨_,rfl⟩
   rw[e5] at Hv Fk;rw[Hv,<-Hn] at Fk;have q0:ZW wr (Q y (j*6) Y)=T (U x.e):=by have:=cB (by rw[<-ZK.out];exact O) hm 0 (by omega) rfl;rw[e1] at this;exact this
   have q1:ZW wr (Q y (j*6+1) Y)=T (J I ZZ):=by have:=cB (by rw[<-ZK.out];exact O) hm 1 (by omega) rfl;rw[e3,<-Il] at this;exact this
   have q2:ZW wr (Q y (j*6+2) Y)=T (U o):=by have:=cB (by rw[<-ZK.out];exact O) hm 2 (by omega) rfl;rw[e4,<-ex] at this;exact this
   have q3:ZW wr (Q y (j*6+3) Y)=T (Z Y 0 0):=cB (by rw[<-ZK.out];exact O) hm 3 (by omega) rfl;have q4:ZW wr (Q y (j*6+4) Y)=T (Z ZJ t E):=by have:=cB (by rw[<-ZK.out];exact O) hm 4 (by omega) rfl;rw[Hv,<-Hn] at this;exact this
   have q5:ZW wr (Q y (j*6+5) Y)=T (ZC ZF):=by have:=cB (by rw[<-ZK.out];exact O) hm 5 (by omega) rfl;rw[e2] at this;exact this
   have C:Hid (∀V,Below (A (h wr)) wr V->ZW V (Q hb 2 Y)=T (Z (T (Q y 0 Y)) ZO cm)/\ZW V (Q hb 3 Y)=T (Z (T (Q go 0 Y)) n co)/\ZW V (Q go i Y)=T (U x.e)/\ZW V (Q y (j*6) Y)=T (U x.e)/\ZW V (Q y (j*6+1) Y)=T (J I ZZ)/\ZW V (Q y (j*6+2) Y)=T (U o)/\ZW V (Q y (j*6+3) Y)=T (Z Y 0 0)/\ZW V (Q y (j*6+4) Y)=T (Z ZJ t E)/\ZW V (Q y (j*6+5) Y)=T (ZC ZF)):=λV g=>⟨(g.cell (p:=(Q hb 2 Y)) IL).trans h2,(g.cell (p:=(Q hb 3 Y)) IL).trans h3,(g.cell (p:=(Q go i Y)) JJ).trans oc,(g.cell (p:=(Q y _ Y)) n8).trans q0,(g.cell (p:=(Q y _ Y)) n8).trans q1,(g.cell (p:=(Q y _ Y)) n8).trans q2,(g.cell (p:=(Q y _ Y)) n8).trans q3,(g.cell (p:=(Q y _ Y)) n8).trans q4,(g.cell (p:=(Q y _ Y)) n8).trans q5⟩
   have CT:Hid (∀V,Below (A (h wr)) wr V->Calls Pg 76 #[.pointer (T (Q hb 0 Y)),U x.e] V λe w'=>e=ZG (J I (j:Int))/\w'=V):=λV g=>by
    have Z8:=M.aa g ly;refine(uE V x.e B Z8.c2 Z8.ao (by rw[<-ZK.out];omega)).mono λe w' ⟨he,hw⟩=>⟨?_,hw⟩
    rw[he,hf];rfl
   have HX:=ae hx;have Jq:=ae Il;have IF:=ae ex;have Bk:=ae Hn;have Ij:=ae Fk;have hj0:(0:Int)<=(j:Int):=by omega
   have hjI:(j:Int)<ZO:=by omega
   have hi0:(0:Int)<=(i:Int):=by omega
   have hiI:(i:Int)<n:=by omega
   clear Fn O Fk Hv hx hf hm e1 e2 e3 e4 e5 Il ex Hn;go_upto_region 5 with fail;go_cut [5] (λs wx=>s=.pointer (T (Q (A (h wr)) 0 Y))/\wx=(ZV wr (N #[U x.e,J I ZZ,U o,Z Y 0 0,Z ZJ t E,ZC ZF] 137)).drew);case first =>
    clear h2 h3 oc q0 q1 q2 q3 q4 q5
    go_region_held3 (λV=>ZW V (Q hb 2 Y)=T (Z (T (Q y 0 Y)) ZO cm)/\ZW V (Q hb 3 Y)=T (Z (T (Q go 0 Y)) n co)/\ZW V (Q go i Y)=T (U x.e)/\ZW V (Q y (j*6) Y)=T (U x.e)/\ZW V (Q y (j*6+1) Y)=T (J I ZZ)/\ZW V (Q y (j*6+2) Y)=T (U o)/\ZW V (Q y (j*6+3) Y)=T (Z Y 0 0)/\ZW V (Q y (j*6+4) Y)=T (Z ZJ t E)/\ZW V (Q y (j*6+5) Y)=T (ZC ZF)) (first|exact C _ br|exact C _ br.drew|exact C _ (br.drew.alloc ly _)|exact C _ (br.alloc ly _).drew|exact C _ ((((((((q9 wr).drew.alloc ly _).setCell ly _).setCell ly _).setCell ly _).setCell ly _).setCell ly _).setCell ly _)) (first
     |(go_at_call 76;refine(CT _ (by first|exact br.drew|exact cM _ _|exact br.drew.alloc ly _)).mono ?_;rintro e w5 ⟨rfl,rfl⟩))
    all_goals
     go_wp2_with fail;go_meet;exact⟨rfl,rfl⟩
   case rest =>
   obtain⟨rfl,rfl⟩:=hcut;have B5:=ae ((q9 wr).alloc ly (N #[U x.e,J I ZZ,U o,Z Y 0 0,Z ZJ t E,ZC ZF] 137)).drew;have m5:Hid ((ZV wr (N #[U x.e,J I ZZ,U o,Z Y 0 0,Z ZJ t E,ZC ZF] 137)).drew.heap[A (h wr)]?=T (N #[U x.e,J I ZZ,U o,Z Y 0 0,Z ZJ t E,ZC ZF] 137 (0,0))):=nD wr _;have Hz:(ZV wr (N #[U x.e,J I ZZ,U o,Z Y 0 0,Z ZJ t E,ZC ZF] 137)).drew.heap.size=A (h wr)+1:=by simp[World.drew]
   clear h2 h3 oc q0 q1 q2 q3 q4 q5 C CT;generalize World.drew (World.alloc wr _)=W5 at B5 m5 Hz ⊢;have p0:ZW W5 (Q (A (h wr)) 0 Y)=T (U x.e):=by simp[World.cell?,m5.out]
   obtain⟨W6,Hi⟩:∃W:G,ZV W5 (N #[U x.e,J I 0,J I 0,U ⟨#[]⟩,Z Y 0 0,Z Y 0 0] 44)=W:=⟨_,rfl⟩
   obtain⟨A6,-,-⟩:=nb1 Hi;have fd:=ae Hi;clear Hi;have B6:=ae (B5.trans (A6.mono B5.size));have X6:Hid (DBox W6 (A (h wr)+1) (U x.e) (J I 0) (J I 0) (U ⟨#[]⟩) (Z Y 0 0) (Z Y 0 0)):=by
    cases fd.out
    have Z8:=fT W5 (U x.e) (J I 0) (J I 0) (U ⟨#[]⟩) (Z Y 0 0) (Z Y 0 0) 44;rw[Hz] at Z8;exact Z8
   have m6:Hid (W6.heap[A (h wr)]?=T (N #[U x.e,J I ZZ,U o,Z Y 0 0,Z ZJ t E,ZC ZF] 137 (0,0))):=by cases fd.out;exact(A6.block _ (by omega)).trans m5
   have JG:A (h W6)=A (h wr)+2:=by cases fd.out;simp[Hz]
   go_upto_region 7 with fail;rw[fd.out];clear fd;clear p0 B5 m5 A6 Hz;have DE:=ae (M.aa B6 ly);have Iy:=ae (B4.trans (B6.mono (by omega)));have C:Hid (∀V,Below (A (h W6)) W6 V->ZW V (Q hb 0 Y)=T (Z a0 S.n0 c0)/\ZW V (Q hb 1 Y)=T (Z a1 S.n1 c1)/\ZW V (Q (A (h wr)) 0 Y)=T (U x.e)):=λV g=>⟨(g.cell (p:=(Q hb 0 Y)) DE.lt).trans DE.c0,(g.cell (p:=(Q hb 1 Y)) DE.lt).trans DE.c1,(g.cell (p:=(Q (A (h wr)) 0 Y)) (by show (A (h wr))<_;omega)).trans (by simp[World.cell?,m6.out])⟩
   obtain⟨ZM,hT⟩:∃ZM,ZM=ee (atI (nm1 S.f1) S.n1 x.e):=⟨_,rfl⟩
   have CT:Hid (∀V,Below (A (h W6)) W6 V->Calls Pg 32 #[ZH #[Z a0 S.n0 c0,Z a1 S.n1 c1],U x.e] V λe w'=>e=ZG (J I ZM)/\Below (A (h V)) V w'):=λV g=>by rw[hT];exact iv a0 S.n0 c0 a1 S.n1 c1 S.f1 x.e V (by have:=Hx.bh;omega) (V1.aa (Iy.trans (g.mono Iy.size)) ly)
   have HT:=ae hT;clear hT
   go_region_held3 (λV=>ZW V (Q hb 0 Y)=T (Z a0 S.n0 c0)/\ZW V (Q hb 1 Y)=T (Z a1 S.n1 c1)/\ZW V (Q (A (h wr)) 0 Y)=T (U x.e)) (first|exact C _ br|exact C _ br.drew|exact C _ D7) (first
    |(go_at_call 32;refine(CT _ (by first|exact br.drew|exact cM _ _)).mono ?_;rintro e w7 ⟨rfl,ld⟩;have D7:Hid (Below (A (h W6)) W6 w7):=⟨ld.os,ld.tape,ld.output,ld.size,ld.block⟩;clear ld))
   have B7:=ae (B6.trans (D7.mono B6.size));have X7:=ae (X6.aa D7 X6.lt);have m7:=ae ((D7.block _ (ai m6)).trans m6);have Iz:A (h wr)+2<=A (h w7):=by have:=D7.size;omega
   have k7:=ae ((B7.block _ (ai k4)).trans k4);have I5:=ae ((B7.block _ (ai bt)).trans bt);have ph:=ae (M.aa B7 ly);have Hr:=ae (B4.trans (B7.mono (by omega)));have Ik:=IN HX.out;have IM:=ae (IP.bd x Ik);clear D7 C CT X6 m6 DE Iy B6 JG Ik;go_upto_if 46 with fail;go_cut [8,9] (λ_ _ wx=>∃(aa al:Option Addr) (na nl ca H:Nat),Hid (DBox wx (A (h wr)+1) (U x.e) (J I x.H) (J I x.E) (U x.B) (Z aa na ca) (Z al nl H))/\Hid (DSub wx (A (h wr)) (bv S f x,Z aa na ca,Z al nl H))/\Hid (Below (A (h wr)) wr wx));case first =>
    rcases IM.H with ⟨hk,th,hlk,si,I9,H7⟩|⟨hk,th,H7,hlk,H6,Fm⟩|⟨hk,H6,Fm⟩
    rotate_left 2
    ·have HK:=ae hk;have Ir:dK x=⟨x.E,x.B,[]⟩:=by unfold dK;rw[eT (by omega)]
     have Hm:Hid (o=x.B/\ZZ=x.E):=⟨by rw[IF.out,Ir],by rw[Jq.out,Ir]⟩
     have hns2:t<=200:=by rw[Bk.out];exact IM.D
     have Ip:=(bN Fm).1;have IA:ZM=(x.tg:Int):=by rw[HT.out,Fm];rfl
     have IY:dh S x=(S.f1 x.tg).l:=by unfold dh;rw[hU hk]
     obtain⟨ZN,Hj⟩:∃ZN,ZN=(S.f1 x.tg).l:=⟨_,rfl⟩
     have JF:Hid (dh S x=ZN):=IY.trans Hj.symm;have hn4m:ZN<=1048576:=by rw[Hj];exact Jw x.tg Ip
     have hn41:1<=ZN:=by obtain⟨_,hv,_⟩:=bO (Hx.u x.tg Ip);omega
     obtain⟨tb,tf,JE,ex⟩:=V1.resolve_left (by omega);subst IA JE;obtain⟨-,ia,ic,ro,ID⟩:=ex.2 x.tg Ip;have Iu:=ex.1;obtain⟨ib,io,rfl,Id⟩:=ID.resolve_left (by omega);rw[<-Hj] at ro Id;have Jt:=ae Id;have IC:=ae ro;clear hk Ir IY Hj H6 Fm ex ID Id ro;have q1:ZW w7 (Q (A (h wr)) 1 Y)=T (J I ZZ):=by simp[World.cell?,m7.out]
     have q2:ZW w7 (Q (A (h wr)) 2 Y)=T (U o):=by simp[World.cell?,m7.out]
     obtain⟨d1,I7⟩:=X7.c1;obtain⟨d2,Jr⟩:=X7.c2;obtain⟨d3,IU⟩:=X7.c3;have IK:=X7.lt;have htg0:(0:Int)<=(x.tg:Int):=by omega
     have X9:=ae (((X7.set1 (J I 3)).set2 (J I ZZ)).set3 (U o));have m9:Hid ((ZT (ZT (ZT w7 (Q (A (h wr)+1) 1 Y) (J I 3)) (Q (A (h wr)+1) 2 Y) (J I ZZ)) (Q (A (h wr)+1) 3 Y) (U o)).heap[A (h wr)]?=T (N #[U x.e,J I ZZ,U o,Z Y 0 0,Z ZJ t E,ZC ZF] 137 (0,0))):=(qh _ _ _ _ (show (A (h wr))≠A (h wr)+1 by omega)).trans ((qh _ _ _ _ (show (A (h wr))≠A (h wr)+1 by omega)).trans ((qh _ _ _ _ (show (A (h wr))≠A (h wr)+1 by omega)).trans m7.out));have B9:=ae (((B7.setCell (p:=(Q (A (h wr)+1) 1 Y)) (IS _) (J I 3)).setCell (p:=(Q (A (h wr)+1) 2 Y)) (IS _) (J I ZZ)).setCell (p:=(Q (A (h wr)+1) 3 Y)) (IS _) (U o));have I6:A (h wr)+2<=A (h (ZT (ZT (ZT w7 (Q (A (h wr)+1) 1 Y) (J I 3)) (Q (A (h wr)+1) 2 Y) (J I ZZ)) (Q (A (h wr)+1) 3 Y) (U o))):=by simpa using Iz
     go_upto_region 12 with fail;generalize World.setCell (World.setCell (World.setCell w7 _ _) _ _) _ _=W9 at X9 m9 B9 I6 ⊢;clear d1 I7 d2 Jr d3 IU q1 q2 IK X7 m7 B7 k7 I5 ph Hr Iz;have Hl:=ae (B4.trans (B9.mono (by omega)));have Iq:=ae (M.aa B9 ly);have JK:=Iq.c1;have Jc:=Iq.lt;have tc:=(Hl.cell (p:=(Q tb (tf+x.tg*2+1) Y)) Iu).trans IC;have Jf:tb<A (h W9):=lj Iu Hl.size;have htgI:(x.tg:Int)<(S.n1:Int):=by omega
     go_wp2_with fail;refine(iM ib io ZN ic (S.f1 x.tg).u W9 (by omega) (Jt.aa Hl ly)).mono ?_;rintro e IW ⟨g4,c4,rfl,Ie,sm⟩;have Ho:=ae (X9.aa sm X9.lt);obtain⟨d4,JL⟩:=Ho.c4;have Ih:=ae (Ho.set4 (Z (T (Q g4 0 Y)) ZN c4));have Im:Hid ((ZT IW (Q (A (h wr)+1) 4 Y) (Z (T (Q g4 0 Y)) ZN c4)).heap[A (h wr)]?=T (N #[U x.e,J I ZZ,U o,Z Y 0 0,Z ZJ t E,ZC ZF] 137 (0,0))):=(qh _ _ _ _ (show (A (h wr))≠A (h wr)+1 by omega)).trans ((sm.block _ (ai m9)).trans m9);have Ig:=ae (aC (R:=A (h wr)+1) (j:=4) (aA Ie (show (A (h wr))+2<=A (h W9) by omega)) (by omega) (Z (T (Q g4 0 Y)) ZN c4));have Io:=ae ((B9.trans (sm.mono B9.size)).setCell (p:=(Q (A (h wr)+1) 4 Y)) (IS _) (Z (T (Q g4 0 Y)) ZN c4));have IB:=Ho.lt;clear Ie sm tc JK;go_wp2;generalize World.setCell IW _ _=W11 at Ih Im Ig Io ⊢;clear d4 JL Ho IB X9 m9 B9 Hl Iq Jc Jf I6;obtain⟨r,Js⟩:∃r,r=wr:=⟨_,rfl⟩
     subst Js;go_loopw [8] (λv wq=>∃(k:Nat) (al:Option Addr) (H:Nat),k<=t/\v=J I k/\LkI S f x ZZ o ZJ t E g4 ZN c4 r al k H wq) (λv _=>t - (intOf v).toNat);case atStart=>exact⟨0,Y,0,by omega,rfl,Ih,Im,Ig,CL _ _ _ _,Io⟩
     case round =>
      clear Ih Im Ig Io;obtain⟨k,al,H,hk,rfl,Hy,Is,Ib,Iw,Fd⟩:=hrel;have m4:ZW wr (Q (A (h r)) 4 Y)=T (Z ZJ t E):=by simp[World.cell?,Is.out]
      have ml:=ai Is.out;have hz12:A (h r)+2<=A (h wr):=Hy.lt;by_cases hlk:k<t
      ·obtain⟨l,hl⟩:∃l,x.D[k]?=T l:=⟨_,gq (by rw[<-Bk.out];exact hlk)⟩
       obtain⟨ZS,sc',e⟩:=bV Ij (by omega);simp only[KU,TG] at e;obtain⟨rfl,rfl⟩:=e;have I8:=(cu Ij).2;have sn:∀j,j<3->∀u,[Value.string l.e,ZC l.ask,ZC l.has][j]?=T u->ZW wr (Q ZS (k*3+j) Y)=T u:=λj hj u hu=>(Fd.cell (p:=(Q ZS (k*3+j) Y)) I8).trans (AP (by have Z8:=Ij.out;rw[Bk.out] at Z8;exact Z8) hl j hj hu);have f0:=sn 0 (by omega) _ rfl;have f1:=sn 1 (by omega) _ rfl;have f2:=sn 2 (by omega) _ rfl;rw[show k*3+0=k*3 by omega] at f0;have GS:ZS<A (h wr):=lj I8 Fd.size;have HL:=ae hl;have C:Hid (∀V,Below (A (h wr)) wr V->ZW V (Q (A (h r)) 4 Y)=T (Z (T (Q ZS 0 Y)) t E)/\ZW V (Q ZS (k*3) Y)=T (U l.e)/\ZW V (Q ZS (k*3+1) Y)=T (ZC l.ask)/\ZW V (Q ZS (k*3+2) Y)=T (ZC l.has)):=λV g=>⟨(g.cell (p:=(Q (A (h r)) 4 Y)) ml).trans m4,(g.cell (p:=(Q ZS _ Y)) GS).trans f0,(g.cell (p:=(Q ZS _ Y)) GS).trans f1,(g.cell (p:=(Q ZS _ Y)) GS).trans f2⟩
       have hk0:(0:Int)<=(k:Int):=by omega
       have hkI:(k:Int)<t:=by omega
       clear sn hl;go_upto_region 16 with fail;go_cut [9] (λs wx=>s=.pointer (T (Q (A (h wr)) 0 Y))/\wx=(ZV wr (N #[U l.e,ZC l.ask,ZC l.has,J I 0] 68)).drew);case first =>
        clear m4 f0 f1 f2;go_region_held3 (λV=>ZW V (Q (A (h r)) 4 Y)=T (Z (T (Q ZS 0 Y)) t E)/\ZW V (Q ZS (k*3) Y)=T (U l.e)/\ZW V (Q ZS (k*3+1) Y)=T (ZC l.ask)/\ZW V (Q ZS (k*3+2) Y)=T (ZC l.has)) (first|exact C _ br|exact C _ br.drew|exact C _ (br.drew.alloc ly _)|exact C _ (br.alloc ly _).drew|exact C _ ((((((q9 wr).drew.alloc ly _).setCell ly _).setCell ly _).setCell ly _).setCell ly _)) (fail);all_goals
         go_wp2_with fail;go_meet;exact⟨rfl,rfl⟩
       case rest =>
       obtain⟨rfl,rfl⟩:=hcut;have n7:=ae ((q9 wr).alloc ly (N #[U l.e,ZC l.ask,ZC l.has,J I 0] 68)).drew;have P:Hid ((ZV wr (N #[U l.e,ZC l.ask,ZC l.has,J I 0] 68)).drew.heap[A (h wr)]?=T (N #[U l.e,ZC l.ask,ZC l.has,J I 0] 68 (0,0))):=nD wr _;clear m4 f0 f1 f2 C;generalize World.drew (World.alloc wr _)=aq at n7 P ⊢;have Hu:=ae (Hy.aa n7 Hy.lt);have Hp:=ae ((n7.block _ ml).trans Is);have It:=ae (own_below Ib n7 ly);have Ic:=ae (own_below Iw n7 ly);have n9:=ae (Fd.trans (n7.mono Fd.size));have k1:ZW aq (Q (A (h wr)) 1 Y)=T (ZC l.ask):=by simp[World.cell?,P.out]
       go_upto_if 94 with fail;clear k1;go_cut [] (λwx=>∃q:Int,Hid (dt (lkD f l)=[U l.e,ZC l.ask,ZC l.has,J I q])/\Hid (wx.heap[A (h wr)]?=T (N #[U l.e,ZC l.ask,ZC l.has,J I q] 68 (0,0)))/\LkI S f x ZZ o (T (Q ZS 0 Y)) t E g4 ZN c4 r al k H wx);case first =>
        cases hask:l.ask with
        |false =>go_wp2;go_meet;exact⟨0,by show _=_;simp[dt,lkD,hask],P,Hu,Hp,It,Ic,n9⟩
        |true =>
         obtain⟨q,hq⟩:∃q:Int,q=((jw f l.e:Nat):Int):=⟨_,rfl⟩
         have IG:=ae ((n9.block _ (ai k4)).trans k4);have ac:ZW aq (Q (A (h w)+1) 0 Y)=T (Z X i c5):=by simp[World.cell?,IG.out]
         have acl:=ai IG.out;have Jn:ZW aq (Q (A (h wr)) 0 Y)=T (U l.e):=by simp[World.cell?,P.out]
         have CA:Hid (Calls Pg 21 #[ZH #[Z X i c5],U l.e] aq λe w'=>e=ZG (J I q)/\Below (A (h aq)) aq w'):=by
          have hd:SlDeed aq X i (dF (R.map (·.1))):=by have Z8:=D4.aa n9.out ly;rw[<-ur] at Z8 ⊢;exact Z8.bb
          have Z8:=oh X i c5 (dF (R.map (·.1))) l.e aq (by omega) hd;rw[DV IP.out HX.out (IN HL.out) hask Iv.out,<-hq] at Z8;exact Z8
         have HQ:=ae hq;clear hq;go_wp2_with fail;refine CA.mono ?_;rintro e Hw ⟨rfl,ZL⟩;have At:=(ZL.block _ (ai P)).trans P;have q3:ZW Hw (Q (A (h wr)) 3 Y)=T (J I 0):=by simp[World.cell?,At]
         have qf3:ZX Hw (Q (A (h wr)) 3 Y)=ZB:=by simp[World.frozen?,At]
         have ql3:=ai At;have ZP:Hid ((ZT Hw (Q (A (h wr)) 3 Y) (J I q)).heap[A (h wr)]?=T (N #[U l.e,ZC l.ask,ZC l.has,J I q] 68 (0,0))):=aB At _;have la:=ae ((Hu.aa ZL Hu.lt).far (p:=(Q (A (h wr)) 3 Y)) (by show (A (h wr))≠A (h r)+1;omega) (J I q));have DQ:Hid ((ZT Hw (Q (A (h wr)) 3 Y) (J I q)).heap[A (h r)]?=T (N #[U x.e,J I ZZ,U o,Z Y 0 0,Z (T (Q ZS 0 Y)) t E,ZC ZF] 137 (0,0))):=(qh _ _ _ _ (show (A (h r))≠A (h wr) by omega)).trans ((ZL.block _ (ai Hp)).trans Hp);have Ht:=ae (aH (own_below It ZL ly) (b:=A (h wr)) (λe=>by have:=(Ib.lt _ e).2;omega) 3 (J I q));have Hk:=ae (aH (own_below Ic ZL ly) (b:=A (h wr)) (λe=>by have:=(Iw.lt _ e).2;omega) 3 (J I q));have DS:=ae ((n9.trans (ZL.mono n9.size)).setCell (p:=(Q (A (h wr)) 3 Y)) (by show (A (h r))<=A (h wr);omega) (J I q));clear At ZL ac Jn;go_wp2;go_meet;exact⟨q,by show _=_;simp[dt,lkD,hask,HQ.out],ZP,la,DQ,Ht,Hk,DS⟩
       case rest =>
       obtain⟨q,Jp,ZP,la,DQ,Ht,Hk,DS⟩:=hcut;clear P Hu Hp It Ic n9;generalize wc=ZQ at ZP la DQ Ht Hk DS ⊢;have l0:ZW ZQ (Q (A (h wr)) 0 Y)=T (U l.e):=by simp[World.cell?,ZP.out]
       have l1:ZW ZQ (Q (A (h wr)) 1 Y)=T (ZC l.ask):=by simp[World.cell?,ZP.out]
       have l2:ZW ZQ (Q (A (h wr)) 2 Y)=T (ZC l.has):=by simp[World.cell?,ZP.out]
       have l3:ZW ZQ (Q (A (h wr)) 3 Y)=T (J I q):=by simp[World.cell?,ZP.out]
       have ll:=ai ZP.out;obtain⟨e5,ef5⟩:=la.c5;have AL:=ae ((q9 ZQ).alloc ly (N #[U l.e,ZC l.ask,ZC l.has,J I q] 68));have XA:=ae (la.aa AL la.lt);have mA:=ae ((AL.block _ (ai DQ)).trans DQ);have OA:=ae (own_below Ht AL ly);have PA:=ae (own_below Hk AL ly);have BA:=ae (DS.trans (AL.mono DS.size));have Jv:A (h (ZV ZQ (N #[U l.e,ZC l.ask,ZC l.has,J I q] 68)))=A (h ZQ)+1:=by simp
       have hzW:A (h r)+2<=A (h ZQ):=la.lt;go_wp2_with (at_builtin;refine DD _ rfl (.tmp 101) (.tmp 103) 42 rfl (A (h r)+2) 68 il (ZH #[U ⟨#[]⟩,ZC ZB,ZC ZB,J I 0]) 4 32 OB Jm Jd Jj Je rfl (by decide) (Z al k H) k (lkV f (x.D.take k)) (by simp[Act.eval]) PA.out (Q (A (h ZQ)) 0 Y) 1 1 [U l.e,ZC l.ask,ZC l.has,J I q] (by simp[Act.eval]) rfl (FD ZQ _ _ _ _ _) (by simp[Value.oneCell']) (by unfold maxLen;omega) (by omega) (by omega) ?_;intro v' wz K D _;obtain⟨az,cz,rfl⟩:=gR K;rw[<-Jp.out,<-DU f x.D HL.out] at K;have PZ:=ae K;have GZ:=ae D;have XZ:=ae (XA.grown PA D (gM _));obtain⟨z5,zf5⟩:=XZ.c5;have zl:=XZ.lt;clear K D);have XY:=ae (XZ.set5 (Z az (k+1) cz));have mY:Hid ((ZT wz (Q (A (h r)+1) 5 Y) (Z az (k+1) cz)).heap[A (h r)]?=T (N #[U x.e,J I ZZ,U o,Z Y 0 0,Z (T (Q ZS 0 Y)) t E,ZC ZF] 137 (0,0))):=(qh _ _ _ _ (show (A (h r))≠A (h r)+1 by omega)).trans ((GZ.block _ (ai mA) (λe=>by have:=(PA.lt _ e.symm).1;omega)).trans mA);have OY:=ae (aC (R:=A (h r)+1) (j:=5) (AO OA PA GZ (by decide)) (by omega) (Z az (k+1) cz));have PY:=ae (aC (R:=A (h r)+1) (j:=5) PZ (by omega) (Z az (k+1) cz));have BY:=ae ((bg BA GZ (by omega) (λj e=>by have:=(PA.lt j e).1;omega)).setCell (p:=(Q (A (h r)+1) 5 Y)) (IS _) (Z az (k+1) cz));exact⟨⟨k+1,az,cz,by omega,by go_num,XY,mY,OY,PY,BY⟩,by simp[intOf];omega⟩
      ·have e:k=t:=by omega
       subst e;have XT:Hid (DBox wr (A (h r)+1) (U x.e) (J I x.H) (J I x.E) (U x.B) (Z (T (Q g4 0 Y)) ZN c4) (Z al k H)):=by show DBox _ _ _ _ _ _ _ _;rw[HK.out,<-Hm.1,<-Hm.2];exact Hy
       have ST:Hid (DSub wr (A (h r)) (bv S f x,Z (T (Q g4 0 Y)) ZN c4,Z al k H)):=by
        refine⟨?_,?_⟩;{show World.ownsRow wr (A (h r)) 90 3 (Z (T (Q g4 0 Y)) ZN c4) (dh S x) (bK (S.f1 x.tg).u (dh S x));rw[JF.out];exact aA Ib (by omega)};{show World.ownsRow wr (A (h r)) 68 4 (Z al k H) (ZU x.D) (bq (lkF f x.D) (ZU x.D));rw[FC,<-Bk.out];have Z8:=Iw.out;rw[MW (by rw[<-Bk.out];exact j6 _)] at Z8;exact aA Z8 (by omega)}
       go_wp2;go_meet;exact⟨_,_,_,_,_,_,XT,ST,Fd⟩
    all_goals
     obtain⟨z,hz⟩:∃z,z=ee (atI (nm0 S.f0) S.n0 x.e):=⟨_,rfl⟩
     have HK:=ae hk;have II:=ae th;have JI:=ae H7;have C:Hid (∀V,Below (A (h w7)) w7 V->ZW V (Q hb 0 Y)=T (Z a0 S.n0 c0)/\ZW V (Q hb 1 Y)=T (Z a1 S.n1 c1)/\ZW V (Q (A (h wr)) 0 Y)=T (U x.e)):=λV g=>⟨(g.cell (p:=(Q hb 0 Y)) ph.lt).trans ph.c0,(g.cell (p:=(Q hb 1 Y)) ph.lt).trans ph.c1,(g.cell (p:=(Q (A (h wr)) 0 Y)) (by show (A (h wr))<_;omega)).trans (by simp[World.cell?,m7.out])⟩
     have CT:Hid (∀V,Below (A (h w7)) w7 V->Calls Pg 31 #[ZH #[Z a0 S.n0 c0,Z a1 S.n1 c1],U x.e] V λe w'=>e=ZG (J I z)/\Below (A (h V)) V w'):=λV g=>by rw[hz];exact iu a0 S.n0 c0 a1 S.n1 c1 S.f0 x.e V (by have:=Hx.bh;omega) (V0.aa (Hr.trans (g.mono Hr.size)) ly)
     have HZ:=ae hz;have IA:ZM=-1:=by rw[HT.out,show atI (nm1 S.f1) S.n1 x.e=Y by first|exact Fm|exact nZ Hx.out I9];rfl
     subst IA;clear hk th H7 hz;go_wp2_with fail
     go_region_held3 (λV=>ZW V (Q hb 0 Y)=T (Z a0 S.n0 c0)/\ZW V (Q hb 1 Y)=T (Z a1 S.n1 c1)/\ZW V (Q (A (h wr)) 0 Y)=T (U x.e)) (first|exact C _ br|exact C _ br.drew|exact C _ D8) (first
      |(go_at_call 31;refine(CT _ (by first|exact br.drew|exact cM _ _)).mono ?_;rintro e w8 ⟨rfl,qr⟩;have D8:Hid (Below (A (h w7)) w7 w8):=⟨qr.os,qr.tape,qr.output,qr.size,qr.block⟩;clear qr))
     have X8:=ae (X7.aa D8 X7.lt);have B8:=ae (B7.trans (D8.mono B7.size));obtain⟨d1,I7⟩:=X8.c1;have IK:=X8.lt
    ·obtain rfl:z=(si:Int):=by rw[HZ.out,I9];rfl
     have Hm:Hid (o=x.B):=by show o=x.B;rw[IF.out];unfold dK;rw[eT (by rw[HK.out];decide)]
     have hsi0:(0:Int)<=(si:Int):=by omega
     obtain⟨d3,IU⟩:=X8.c3;have m8:=(D8.block _ (ai m7)).trans m7;have q2:ZW w8 (Q (A (h wr)) 2 Y)=T (U o):=by simp[World.cell?,m8]
     have BT:=ae ((B8.setCell (p:=(Q (A (h wr)+1) 1 Y)) (IS _) (J I 1)).setCell (p:=(Q (A (h wr)+1) 3 Y)) (IS _) (U o));clear m8;go_wp2;go_meet;exact⟨Y,Y,0,0,0,0,(by show DBox _ _ _ _ _ _ _ _;rw[HK.out,II.out,<-Hm.out];exact(X8.set1 _).set3 _),uM (by unfold dh;rw[eT (by rw[HK.out];decide)]) hlk _ _,BT⟩
    ·obtain rfl:z=-1:=by rw[HZ.out,H6];rfl
     have BT:=ae (B8.setCell (p:=(Q (A (h wr)+1) 1 Y)) (IS _) (J I 2));go_wp2;go_meet;exact⟨Y,Y,0,0,0,0,(by show DBox _ _ _ _ _ _ _ _;rw[HK.out,II.out,JI.out];exact X8.set1 _),uM (by unfold dh;rw[eT (by rw[HK.out];decide)]) hlk _ _,BT⟩
   case rest =>
   obtain⟨aa,al,na,nl,ca,H,XT,ST,BT⟩:=hcut;have kT:=ae ((BT.block _ (ai k4)).trans k4);have Ii:=ae ((BT.block _ (ai bt)).trans bt);clear X7 m7 k7 I5 ph Hr B7 Iz;generalize wc=W8 at XT ST BT kT Ii ⊢;obtain⟨t0,_⟩:=XT.c0;obtain⟨t1,_⟩:=XT.c1;obtain⟨t2,_⟩:=XT.c2;obtain⟨t3,_⟩:=XT.c3;obtain⟨t4,_⟩:=XT.c4;obtain⟨t5,_⟩:=XT.c5;have kc:ZW W8 (Q (A (h w)+1) 0 Y)=T (Z X i c5):=by simp[World.cell?,kT.out]
   have AL:=ae ((q9 W8).alloc ly (N #[U x.e,J I x.H,J I x.E,U x.B,Z aa na ca,Z al nl H] 44));have DA:=ae (D4.aa (BT.trans (AL.mono BT.size)) ly);have SA:=ae (ST.aa AL ly);have kA:=ae ((AL.block _ (ai kT)).trans kT);have Ja:=ae ((AL.block _ (ai Ii)).trans Ii);have BA:=ae (B4.trans ((BT.trans (AL.mono BT.size)).mono (by omega)));have OW:Hid (World.ownsRow (ZV W8 (N #[U x.e,J I x.H,J I x.E,U x.B,Z aa na ca,Z al nl H] 44)) (A (h w)+2) 44 6 (Z X i c5) i (R.flatMap ddV)):=by have Z8:=DA.y;rw[ur] at Z8;exact Z8
   have Ia:Hid (∀j,(Value.slice X i c5).ownBlock=T j->A (h w)+2<=j):=λj e=>(OW.lt j e).1;have Jv:A (h (ZV W8 (N #[U x.e,J I x.H,J I x.E,U x.B,Z aa na ca,Z al nl H] 44)))=A (h W8)+1:=by simp
   have hzT:=BT.size;go_wp2_with (at_builtin;refine DD _ rfl (.tmp 121) (.tmp 123) 23 rfl (A (h w)+2) 44 JH (ZH #[U ⟨#[]⟩,J I 0,J I 0,U ⟨#[]⟩,Z Y 0 0,Z Y 0 0]) 6 96 LX Jz Jh Jg Jb rfl (by decide) (Z X i c5) i (R.flatMap ddV) (by simp[Act.eval]) OW.out (Q (A (h W8)) 0 Y) 1 1 [U x.e,J I x.H,J I x.E,U x.B,Z aa na ca,Z al nl H] (by simp[Act.eval]) rfl (Gx W8 _ _ _ _ _ _ _) (by simp[Value.oneCell']) (by unfold maxLen;omega) (by omega) (by omega) ?_;intro v' w9 K D _;obtain⟨a7,c7,rfl⟩:=gR K;have O9:=ae K;have G9:=ae D;have k9:=ae ((D.block _ (ai kA) (λe=>by have:=Ia.out _ e.symm;omega)).trans kA);have g9:ZW w9 (Q (A (h w)+1) 0 Y)=T (Z X i c5):=(by simp[World.cell?,k9.out]);have f9:ZX w9 (Q (A (h w)+1) 0 Y)=ZB:=(by simp[World.frozen?,k9.out]);have l9:=ai k9.out;clear K D);have D9:Hid (DRow w9 (A (h w)+2) (Z a7 (i+1) c7) (R++[(bv S f x,Z aa na ca,Z al nl H)])):=DRow.more D4 DA (by omega) SA (by rw[ur];exact O9) G9;have JA:=ae ((G9.block _ (ai Ja) (λe=>by have:=Ia.out _ e.symm;omega)).trans Ja);have B9:=ae (bg BA G9 (by omega) (λj e=>by have:=Ia.out j e;omega));have Jy:=ae (D9.set (p:=(Q (A (h w)+1) 0 Y)) (e:=25) (.inl (gM _)) (Z a7 (i+1) c7));have Jo:Hid ((ZT w9 (Q (A (h w)+1) 0 Y) (Z a7 (i+1) c7)).heap[A (h w)+1]?=T (N #[Z a7 (i+1) c7] 25 (0,0))):=aB k9 _;have Jk:Hid ((ZT w9 (Q (A (h w)+1) 0 Y) (Z a7 (i+1) c7)).heap[A (h w)]?=T (N #[Z Y 0 0] 25 (0,0))):=(qh _ _ _ _ (show (A (h w))≠A (h w)+1 by omega)).trans JA.out;have JD:=ae (B9.setCell (p:=(Q (A (h w)+1) 0 Y)) (IS _) (Z a7 (i+1) c7));refine⟨⟨i+1,a7,c7,_,by omega,by go_num,by rw[gB,ur];rfl,?_,Jy,Jo,Jk,JD⟩,by simp[intOf];omega⟩;show(R++[((bv S f x,Z aa na ca,Z al nl H):DR)]).map (·.1)=_;rw[AI,Iv.out,List.take_add_one,HX.out];simp
  ·have e:i=n:=by omega
   subst e;have Ju:ZW wr (Q (A (h w)) 0 Y)=T (Z Y 0 0):=by simp[World.cell?,bt.out]
   have rf0:ZX wr (Q (A (h w)) 0 Y)=ZB:=by simp[World.frozen?,bt.out]
   have rl0:=ai bt.out;have ac0:ZW wr (Q (A (h w)+1) 0 Y)=T (Z X i c5):=by simp[World.cell?,k4.out]
   have al0:=ai k4.out;go_wp2;refine bp (v:=ZH #[Z X i c5]) (by simp[results,results38,go_sem,Ju]) rfl ?_;subst ur;refine⟨X,c5,R,rfl,?_,?_,?_⟩;{exact(D4.set (p:=(Q (A (h w)) 0 Y)) (e:=25) (.inl (show (A (h w))<A (h w)+2 by omega)) _).mono (by omega)};{rw[Iv.out,MW (by rw[<-HN.out];exact j6 _)];rfl};{exact B4.setCell (p:=(Q (A (h w)) 0 Y)) ly _}
end
def uN (w:G)(S:Spc)(b:List Ent × jZ)(e:Ending)(f:G):Prop:=∃a c R g,e=ZG (.tuple #[ZH #[Z a (ZU R) c],g])/\DRow f (A (h w)) (Z a (ZU R) c) R/\R.map (·.1)=aV S b.1/\sJ w f b.2 g/\Below (A (h w)) w f
section
variable {S:Spc}{a0 a1:Option Addr}{c0 c1:Nat}
theorem uO (w:G)(nm:ByteArray)(u:SlSource w a0 S.n0 S.f0)(x:SlTarget w a1 S.n1 S.f1)(hn0:S.n0<=1048576)(hn1:S.n1<=1048576)(q:∀i,i<S.n1->aU (S.f1 i))(E:∀i,i<S.n1->∀j,j<(S.f1 i).l->((S.f1 i).u j).s.size<=maxLen)(m:¬ (bm S.n0 S.f0 S.n1 S.f1=0/\av nm=ZF)):Calls Pg 11 #[ZH #[Z a0 S.n0 c0,Z a1 S.n1 c1],U nm] w λe L=>uN w S ([],⟨9,⟨#[]⟩,[]⟩) e L:=by
 have y:=ae (λ(o:G) (b:Hid (Below (A (h w)) w o))=>eu a0 S.n0 c0 S.f0 a1 S.n1 c1 S.f1 o (by omega) (by omega) (u.aa b ly) (x.aa b ly) q E);obtain⟨z,t⟩:∃z,z=bm S.n0 S.f0 S.n1 S.f1:=⟨_,rfl⟩
 rw[<-t] at y m;have ZS:=ae m;clear u x q E t m hn0 hn1;go_enter func11,ntmps11;go_wp2_with fail;generalize ZQ:World.alloc (World.alloc (World.alloc w _) _) _=o;obtain⟨b,K,l,f,-⟩:=nb3 ZQ;replace f:Hid (o.heap[A (h w)+1+1]?=_):=f;clear ZQ;refine(y o b).mono ?_;clear y;rintro e C ⟨rfl,g⟩;replace b:=ae (b.trans (g.mono b.size));replace l:=ae ((g.block _ (ai l)).trans l);replace f:=ae ((g.block _ (ai f)).trans f);clear g K;by_cases B:z=0;case' pos =>
  have D:Hid (av nm=ZB):=by
   cases Z8:av nm with
   |false=>rfl
   |true=>exact absurd ⟨B,Z8⟩ ZS
  subst B;go_wp2_with fail;refine(cV nm C).mono ?_;rintro e ZZ ⟨H,g⟩;rw[D.out] at H;subst H;replace b:=ae (b.trans (g.mono b.size));replace l:=ae ((g.block _ (ai l)).trans l);replace f:=ae ((g.block _ (ai f)).trans f);clear g
 case' neg =>
  obtain⟨ZZ,ZP⟩:∃v,v=C:=⟨_,rfl⟩
  subst ZP
 all_goals
  have ZO:=b;have n:=l.out;obtain⟨rl,r0,r1,O,r⟩:=bI f.out;have rf0:=r 0;have rf1:=r 1;have rf2:=r 2;have M:ZW ZZ (Q (A (h w)+1) 0 Y)=T (Z Y 0 0):=by simp[World.cell?,n]
  have pf0:ZX ZZ (Q (A (h w)+1) 0 Y)=ZB:=by simp[World.frozen?,n]
  have pl:=ai n;clear r n l f;go_wp2_with fail;refine bp (v:=.tuple #[ZH #[Z Y 0 0],ZH #[J I 9,U ⟨#[]⟩,Z Y 0 0]]) (by simp[results,results11,go_sem,M,r0,r1,O]) rfl ⟨Y,0,[],_,rfl,fB _ _,rfl,AN _ _ _ _,?_⟩;exact(((ZO.setCell (p:=(Q (A (h w)+1) 0 Y)) (IS _) _).setCell (p:=(Q (A (h w)+1+1) 0 Y)) (by show (A (h w))<=A (h w)+1+1;omega) _).setCell (p:=(Q (A (h w)+1+1) 1 Y)) (by show (A (h w))<=A (h w)+1+1;omega) _).setCell (p:=(Q (A (h w)+1+1) 2 Y)) (by show (A (h w))<=A (h w)+1+1;omega) _
theorem vV (w:G)(nm:ByteArray)(n9:SlSource w a0 S.n0 S.f0)(n8:SlTarget w a1 S.n1 S.f1)(hn0:S.n0<=1048576)(hn1:S.n1<=1048576)(ZL:∀i,i<S.n1->aU (S.f1 i))(hs:∀i,i<S.n1->∀j,j<(S.f1 i).l->((S.f1 i).u j).s.size<=maxLen)(h1:bm S.n0 S.f0 S.n1 S.f1=0)(h2:av nm=ZF):Calls Pg 11 #[ZH #[Z a0 S.n0 c0,Z a1 S.n1 c1],U nm] w λe w'=>uN w S (bQ S nm) e w':=by
 have HC:=ae (λ(W0:G) (A0:Hid (Below (A (h w)) w W0))=>eu a0 S.n0 c0 S.f0 a1 S.n1 c1 S.f1 W0 (by omega) (by omega) (n9.aa A0 ly) (n8.aa A0 ly) ZL hs);have V0:=ae n9;have V1:=ae n8;have Fn:=ae ZL;have DE:=ae (SpcOk.of h1);have H1:=ae h1;have H2:=ae h2;rw[h1] at HC;obtain⟨bb,ZQ⟩:∃bb,bb=bQ S nm:=⟨_,rfl⟩
 obtain⟨la,o,-⟩:=pH S nm;rw[<-ZQ] at la o ⊢;unfold bQ at ZQ;rw[hU ⟨h1,h2⟩] at ZQ;have fd:=ae ZQ;have Hj:=ae la;have Fk:=ae o;clear n9 n8 ZL hs hn0 hn1 h1 h2 ZQ la o;go_enter func11,ntmps11;go_wp2_with fail;generalize hW:World.alloc (World.alloc (World.alloc w _) _) _=W0;obtain⟨A0,kS,kA,kR,-⟩:=nb3 hW;replace kR:Hid (W0.heap[A (h w)+1+1]?=_):=kR;clear hW;refine(HC W0 A0).mono ?_;clear HC;rintro e w1 ⟨rfl,m⟩;have B1:=ae (A0.trans (m.mono A0.size));have ph:=ae ((m.block _ (ai kA)).trans kA);have ur:=ae ((m.block _ (ai kR)).trans kR);have qr:=ae ((m.block _ (ai kS)).trans kS);clear m;go_wp2_with fail;refine(cV nm w1).mono ?_;rintro e ZJ ⟨he,m⟩;rw[H2.out] at he;subst he;have B2:=ae (B1.trans (m.mono B1.size));have Fd:=ae ((m.block _ (ai ph)).trans ph);have At:=ae ((m.block _ (ai ur)).trans ur);have n7:=ae ((m.block _ (ai qr)).trans qr);have hsl:A (h w)<A (h ZJ):=ai n7.out;have q0:ZW ZJ (Q (A (h w)) 0 Y)=T (Z a0 S.n0 c0):=by simp[World.cell?,n7.out]
 have q1:ZW ZJ (Q (A (h w)) 1 Y)=T (Z a1 S.n1 c1):=by simp[World.cell?,n7.out]
 clear m;go_wp2_with fail;refine(vT ZJ ⟨V0.aa B2 ly,V1.aa B2 ly,DE⟩ nm H2).mono ?_;rintro e f ⟨hb,rfl,l,m⟩;have B3:=ae (B2.trans (m.mono B2.size));have u:=ae ((m.block _ (ai Fd)).trans Fd);have t:=ae ((m.block _ (ai At)).trans At);clear q0 q1 m;have ZN:A (h w)<=A (h f):=B3.size;have ZZ:=vU S 60 [] [] nm;rcases hl:aL S 60 [] [] nm with ⟨y,x⟩|c|d
 ·rw[hl] at l;obtain⟨r,n⟩:∃r,r=dK x:=⟨_,rfl⟩
  have e:bb=(y,r):=by rw[fd.out,hl,n]
  subst e;obtain⟨L,md,or,st,g,DQ,DS,th,hrel⟩:=l;obtain⟨M,b0,b1,b2,b3,-,b5,b6,b7,b8,-⟩:=g.R;have Hn:Hid (ShAt (A (h ZJ)) f hb (Z a0 S.n0 c0) (Z a1 S.n1 c1) md or L y):=⟨M,b0,b1,b2,b3,DQ,DS,th⟩
  have Fm:=ae hrel;have bt:r.chain=[]:=by rw[n];unfold dK;split<;>rfl
  rw[<-n] at b5 b6;have ld:=ae bt;have SQ:Hid (∀V:G,V.heap[hb]?=f.heap[hb]?->ZW V (Q hb 5 Y)=T (J I r.E)/\ZW V (Q hb 6 Y)=T (U r.B)/\ZW V (Q hb 7 Y)=T (Z Y 0 0)):=λV Z8=>⟨(cq (a:=(Q hb 5 Y)) Z8).trans b5,(cq (a:=(Q hb 6 Y)) Z8).trans b6,(cq (a:=(Q hb 7 Y)) Z8).trans b7⟩
  have X:hb≠A (h w)+1:=λe=>by have:=au g (e ▸ u.out);exact absurd this (by decide)
  have ZS:hb≠A (h w)+1+1:=λe=>by have:=au g (e ▸ t.out);exact absurd this (by decide)
  have CM:Hid (Calls Pg 38 #[.pointer (T (Q hb 0 Y))] f.drew λe w'=>∃a c R,e=ZG (ZH #[Z a (ZU R) c])/\DRow w' (A (h f)) (Z a (ZU R) c) R/\R.map (·.1)=aV S y/\Below (A (h f)) f w'):=by have hd:Below (A (h f)) f f.drew:=br.drew;have Z8:=yV (A (h ZJ)) f.drew hb md or L y (Hn.aa hd ly) Fm Hj Fk (V0.aa (B3.trans (hd.mono ZN)) ly) (V1.aa (B3.trans (hd.mono ZN)) ly) DE Fn;exact Z8.mono λe w' ⟨a,c,R,h1,h2,h3,h4⟩=>⟨a,c,R,h1,h2,h3,h4.os,h4.tape,h4.output,h4.size,h4.block⟩
  clear n bt hrel g DQ DS th b0 b1 b2 b3 hl ZZ;go_wp2_with fail;refine wp_region_held_drew (S:=λV=>ZW V (Q hb 5 Y)=T (J I r.E)/\ZW V (Q hb 6 Y)=T (U r.B)/\ZW V (Q hb 7 Y)=T (Z Y 0 0)) (by kernel_rfl) (SQ _ rfl) ?_;intro hS;have O:=ae hS;clear hS b5 b6 b7 b8;refine aW 0 (v:=?_) rfl rfl (by kernel_rfl) (λ_ _ _ Z8=>Z8) rfl ?_ O ?_;rotate_left
  ·(rintro wz ⟨s0,s1,s2⟩;go_simp)
   (try with_reducible rfl)
  (try simp only[Act.put,nzL])
  iterate 4
   refine aW 2 (v:=?_) rfl rfl (by kernel_rfl) (λ_ _ _ Z8=>Z8) rfl ?_ O ?_;rotate_left
   ·(rintro wz ⟨s0,s1,s2⟩;go_simp)
    (try with_reducible rfl)
   (try simp only[Act.put,nzL])
  refine aS (i:=1) rfl (by kernel_rfl) λK B=>?_;go_simp;go_at_call 38;refine CM.mono ?_;rintro e w4 ⟨W,c5,R,rfl,ro,sm,Bk⟩;have D4:=ae ro;have M4:=ae sm;have B4:=ae Bk;clear ro sm Bk O;have O:=ae (SQ w4 (B4.block _ M));refine B _ _ O ?_;clear B K
  (try simp only[Act.put,nzL])
  refine aS (i:=6) rfl (by kernel_rfl) λK B=>?_;go_simp;go_at_call 37;have CC:=pT w4 r Y 0 (A (h w4)) (by rw[ld.out];exact⟨rfl,.inl ⟨rfl,rfl⟩⟩) (by rw[ld.out];exact DN _);rw[ld.out] at CC;refine CC.mono ?_;clear CC;rintro e ZP ⟨rv,rfl,⟨C,z,rfl,ZO⟩,P⟩;have D:=ae ZO;have E:=ae P;have ZK:A (h f)<=A (h w4):=B4.size;have q:=(E.block _ (lj (ai u) ZK)).trans ((B4.block _ (ai u)).trans u);have ZM:=(E.block _ (lj (ai t) ZK)).trans ((B4.block _ (ai t)).trans t);obtain⟨rl,r0,r1,r2,H⟩:=bI ZM;have Hk:=H 0;have Hp:=H 1;have GS:=H 2;have p0:ZW ZP (Q (A (h w)+1) 0 Y)=T (Z Y 0 0):=by simp[World.cell?,q]
  have Hr:ZX ZP (Q (A (h w)+1) 0 Y)=ZB:=by simp[World.frozen?,q]
  have pl:=ai q;have Ho:A (h w)+1<A (h f):=ai u.out;have Hq:A (h w)+1+1<A (h f):=ai t.out;have aq:=(E.block hb (lj M ZK)).trans (B4.block hb M);clear H q ZM O ZO P;have O:=ae (SQ ZP aq);refine B _ _ O ?_;clear B K
  (try simp only[Act.put,nzL])
  refine aS (i:=7) rfl (by kernel_rfl) λK B=>?_;go_simp;have Hi:=ae (SQ (ZT ZP (Q (A (h w)+1) 0 Y) (Z W (ZU R) c5)) ((qh _ _ _ _ X).trans aq));refine B _ _ Hi ?_;clear B K
  (try simp only[Act.put])
  have Hm:=ae (SQ (ZT (ZT (ZT (ZT ZP (Q (A (h w)+1) 0 Y) (Z W (ZU R) c5)) (Q (A (h w)+1+1) 0 Y) (J I r.E)) (Q (A (h w)+1+1) 1 Y) (U r.B)) (Q (A (h w)+1+1) 2 Y) (Z C (ZU r.chain) z)) ((qh _ _ _ _ ZS).trans ((qh _ _ _ _ ZS).trans ((qh _ _ _ _ ZS).trans ((qh _ _ _ _ X).trans aq)))));refine aS (i:=8) rfl (by kernel_rfl) λK B=>?_;go_simp;refine B _ _ Hm ?_;clear B K
  (try simp only[Act.put])
  refine wpAnyH_done (by kernel_rfl) ?_ _;have OF:=ae (aH (aH (aH (aH D (b:=A (h w)+1) (λe=>by have:=(aj D _ e).1;omega) 0 (Z W (ZU R) c5)) (b:=A (h w)+1+1) (λe=>by have:=(aj D _ e).1;omega) 0 (J I r.E)) (b:=A (h w)+1+1) (λe=>by have:=(aj D _ e).1;omega) 1 (U r.B)) (b:=A (h w)+1+1) (λe=>by have:=(aj D _ e).1;omega) 2 (Z C (ZU r.chain) z));have DF:=ae (((((D4.aa E ly).set (p:=(Q (A (h w)+1) 0 Y)) (e:=25) (.inl (by show (A (h w))+1<A (h f);omega)) (Z W (ZU R) c5)).set (p:=(Q (A (h w)+1+1) 0 Y)) (e:=25) (.inl (by show (A (h w))+1+1<A (h f);omega)) (J I r.E)).set (p:=(Q (A (h w)+1+1) 1 Y)) (e:=25) (.inl (by show (A (h w))+1+1<A (h f);omega)) (U r.B)).set (p:=(Q (A (h w)+1+1) 2 Y)) (e:=25) (.inl (by show (A (h w))+1+1<A (h f);omega)) (Z C (ZU r.chain) z));have BF:=ae (((((B3.trans ((B4.trans (E.mono ZK)).mono ZN)).setCell (p:=(Q (A (h w)+1) 0 Y)) (by show (A (h w))<=A (h w)+1;omega) (Z W (ZU R) c5)).setCell (p:=(Q (A (h w)+1+1) 0 Y)) (by show (A (h w))<=A (h w)+1+1;omega) (J I r.E)).setCell (p:=(Q (A (h w)+1+1) 1 Y)) (by show (A (h w))<=A (h w)+1+1;omega) (U r.B)).setCell (p:=(Q (A (h w)+1+1) 2 Y)) (by show (A (h w))<=A (h w)+1+1;omega) (Z C (ZU r.chain) z));go_wp2;refine bp (v:=.tuple #[ZH #[Z W (ZU R) c5],ZH #[J I r.E,U r.B,Z C (ZU r.chain) z]]) (by simp[results,results11,go_sem,p0,r0,r1,r2]) rfl ⟨W,c5,R,_,rfl,DF.mono ZN,M4,⟨C,z,rfl,aA OF (by omega)⟩,BF⟩
 case' inr.inl =>
  rw[hl] at l;obtain⟨r,n⟩:∃r,r=i8 c:=⟨_,rfl⟩
  have e:bb=([],r):=by rw[fd.out,hl,n];rfl
  subst e;obtain⟨a,k,u0,u1,md,or,st,g,ho⟩:=l;have o:ZU r.chain<=1000:=by rw[n];exact AD (ZZ c hl) (by simp)
  have l:ZU c=ZU r.chain:=by rw[n];rfl
  rw[<-n,l] at g ho;clear n l
 case' inr.inr =>
  rw[hl] at l;obtain⟨r,n⟩:∃r,r=ja d:=⟨_,rfl⟩
  have e:bb=([],r):=by rw[fd.out,hl,n];rfl
  subst e;obtain⟨u0,u1,md,or,st,g,ho⟩:=l;have o:ZU r.chain<=1000:=by rw[n];exact DN _
  have l:0=ZU r.chain:=by rw[n];rfl
  rw[<-n,l] at g ho;clear n l
 all_goals
  obtain⟨M,-,-,-,-,-,b5,b6,b7,b8,-⟩:=g.R;have Hl:=ae (pT f r _ _ _ ho o);have X:hb≠A (h w)+1:=λe=>by have:=au g (e ▸ u.out);exact absurd this (by decide)
  have ZS:hb≠A (h w)+1+1:=λe=>by have:=au g (e ▸ t.out);exact absurd this (by decide)
  clear hl ZZ g ho o;go_wp2_with fail;refine Hl.mono ?_;rintro e ZP ⟨rv,rfl,⟨C,z,rfl,ZO⟩,P⟩;have D:=ae ZO;have E:=ae P;have q:=(E.block _ (ai u)).trans u;have ZM:=(E.block _ (ai t)).trans t;obtain⟨rl,r0,r1,r2,H⟩:=bI ZM;have Hk:=H 0;have Hp:=H 1;have GS:=H 2;have p0:ZW ZP (Q (A (h w)+1) 0 Y)=T (Z Y 0 0):=by simp[World.cell?,q]
  have Hr:ZX ZP (Q (A (h w)+1) 0 Y)=ZB:=by simp[World.frozen?,q]
  have pl:=ai q;have Ho:A (h w)+1<A (h f):=ai u.out;have Hq:A (h w)+1+1<A (h f):=ai t.out;have OF:=ae (aH (aH (aH (aH D (b:=A (h w)+1) (λe=>by have:=(aj D _ e).1;omega) 0 (Z Y 0 0)) (b:=A (h w)+1+1) (λe=>by have:=(aj D _ e).1;omega) 0 (J I r.E)) (b:=A (h w)+1+1) (λe=>by have:=(aj D _ e).1;omega) 1 (U r.B)) (b:=A (h w)+1+1) (λe=>by have:=(aj D _ e).1;omega) 2 (Z C (ZU r.chain) z));have BF:=ae (((((B3.trans (E.mono ZN)).setCell (p:=(Q (A (h w)+1) 0 Y)) (by show (A (h w))<=A (h w)+1;omega) (Z Y 0 0)).setCell (p:=(Q (A (h w)+1+1) 0 Y)) (by show (A (h w))<=A (h w)+1+1;omega) (J I r.E)).setCell (p:=(Q (A (h w)+1+1) 1 Y)) (by show (A (h w))<=A (h w)+1+1;omega) (U r.B)).setCell (p:=(Q (A (h w)+1+1) 2 Y)) (by show (A (h w))<=A (h w)+1+1;omega) (Z C (ZU r.chain) z));clear H q ZM ZO P b5 b6 b7 b8;go_wp2_with fail;refine bp (v:=.tuple #[ZH #[Z Y 0 0],ZH #[J I r.E,U r.B,Z C (ZU r.chain) z]]) (by simp[results,results11,go_sem,p0,r0,r1,r2]) rfl ⟨Y,0,[],_,rfl,fB _ _,rfl,⟨C,z,rfl,?_⟩,?_⟩
  ·first|exact aA OF (by omega)|(have Z8:=aA OF (show (A (h w))<=A (h f) by omega);simpa[p0] using Z8)
  ·first|exact BF|simpa[p0] using BF.out
theorem jB (w:G)(nm:ByteArray)(g:SlSource w a0 S.n0 S.f0)(f:SlTarget w a1 S.n1 S.f1)(hn0:S.n0<=1048576)(hn1:S.n1<=1048576)(b:∀i,i<S.n1->aU (S.f1 i))(l:∀i,i<S.n1->∀j,j<(S.f1 i).l->((S.f1 i).u j).s.size<=maxLen):Calls Pg 11 #[ZH #[Z a0 S.n0 c0,Z a1 S.n1 c1],U nm] w λe m=>uN w S (bQ S nm) e m:=by
 by_cases Z8:bm S.n0 S.f0 S.n1 S.f1=0/\av nm=ZF;{exact vV w nm g f hn0 hn1 b l Z8.1 Z8.2}
 ·have e:bQ S nm=([],⟨9,⟨#[]⟩,[]⟩):=by unfold bQ;rw[eT Z8]
  rw[e];exact uO w nm g f hn0 hn1 b l Z8
end
