import Derived.Test.YtamacmnikdejeaaGreatDoorKR
import Derived.Test.YtamacmnikdejeaaGreatDoorKQ
set_option maxRecDepth 100000
set_option maxHeartbeats 8000000
open Go renaming Addr.mk->Q,Value.slice->Y,Value.string->U,Value.int->J,Value.bool->ZC,Value.agg->ZG,Obj.cells->N,IntKind.i64->I,World->E,Value->ZB,Ending.returned->ZF,World.heap->B,World.cell?->A,Proofs.Tryz.prog->Pg
open Option renaming none->Z,some->T
open Bool renaming false->ZA,true->ZD
open Array renaming size->z
namespace Go.Proofs.YtamacmnikdejeaaGreatDoor.Vp
open Tryz RowKit Ca
variable {x:Ent}{w:E}{L:List SM}{f b:List Ent}{i:Nat}{S:Spc}{l:Lk}
structure ShAt (ZS:Nat)(w:E)(hb:Nat)(s0 s1 md or:ZB)(L:List SM)(made:List Ent):Prop where
 lt:hb<z (B w)
 c0:A w (Q hb 0 Z)=T s0
 c1:A w (Q hb 1 Z)=T s1
 c2:A w (Q hb 2 Z)=T md
 c3:A w (Q hb 3 Z)=T or
 ag:w.ownsRow ZS 161 6 md L.length (L.flatMap smV)
 ror:w.ownsRow ZS 9 1 or made.length (bA (made.map (·.e)))
 V:∀m∈L,m.done=ZD->w.ownsRow ZS 164 3 m.sv m.V.length (eh m.V)
theorem ShAt.aa{ZS C:Nat}{n:E}{hb:Nat}{s0 s1 j l:ZB}(h:ShAt ZS w hb s0 s1 j l L f)(b:Below C w n)(i:z (B w)<=C):ShAt ZS n hb s0 s1 j l L f:=by have g:hb<C:=lj h.lt i;exact⟨lj h.lt b.size,(b.cell (p:=(Q hb 0 Z)) g).trans h.c0,(b.cell (p:=(Q hb 1 Z)) g).trans h.c1,(b.cell (p:=(Q hb 2 Z)) g).trans h.c2,(b.cell (p:=(Q hb 3 Z)) g).trans h.c3,own_below h.ag b i,own_below h.ror b i,λm q o=>own_below (h.V m q o) b i⟩
theorem Gv (h:fq L [] b)(g:b[i]?=T x):∃k m,fI L x.e=T k/\L[k]?=T m/\m.e=x.e/\m.done=ZD/\m.M=(dk x).M/\m.H=(dk x).H/\m.V=x.looks:=by obtain⟨m,n,f,q,j,l,p⟩:=h.got x (J2 g);obtain⟨k,o,r⟩:=qY h.nod n f;exact⟨k,m,o,r,f,q,j,l,p⟩
theorem uX (h1:bM S x=0)(h2:x.looks=[])(W:E)(b:Nat):DSub W b (a8 S f x,Y Z 0 0,Y Z 0 0):=by
 refine⟨?_,?_⟩;{show W.ownsRow b 146 3 (Y Z 0 0) (bM S x) (bV (S.f1 x.tg).u (bM S x));rw[h1];exact CL _ _ _ _};{show W.ownsRow b 129 4 (Y Z 0 0) x.looks.length (bY (lkF f x.looks) x.looks.length);rw[h2];exact CL _ _ _ _}
theorem Eg (h:PG S [] b)(r:b[i]?=T x)(s:l∈x.looks)(q:l.ask=ZD){D:List au}(t:D=(b.take i).map (a8 S b)):jb (dF D) l.e i=((gN b l.e:Nat):Int):=by
 obtain⟨y,m,hn,o⟩:=h.asked r s q;have g:∀(j:Nat) (ZR:Ent),j<i->b[j]?=T ZR->(dF D j).e=ZR.e:=λj ZR n hz=>by unfold dF;rw[t,IS,KN,List.getElem?_take_of_lt n,hz];rfl
 unfold jb;refine fB o ?_ λj n=>?_;{rw[g _ y o m,hn];simp}
 ·have p:=(j5.1 m).1;have hz:b[j]?=T b[j]:=gq (by omega);rw[g j _ (by omega) hz];have f:=LC.1 h.nod j _ (by omega) p n;rw[(j5.1 m).2,hn] at f;cases hb:(b[j].e.toList == l.e.toList) with
  |false=>rfl
  |true=>exact absurd (bytes_beq hb) f
theorem AU{f g c:Nat}{b:List Lk}(h:w.ownsRow f 164 3 (Y (T (Q g 0 Z)) b.length c) b.length (eh b)){k:Nat}(i:b[k]?=T l)(j:Nat)(m:j<3){u:ZB}(n:[Value.string l.e,ZC l.ask,ZC l.has][j]?=T u):A w (Q g (k*3+j) Z)=T u :=
 (bk h (j:=k*3+j) (u:=u) (by rw[eh,cK (λl:Lk=>[Value.string l.e,ZC l.ask,ZC l.has]) 3 (λ_=>rfl) b k j m l i];exact n)).1
def LkI (S:Spc)(h:List Ent)(x:Ent)(l:Int)(j:ByteArray)(p:Option Addr)(n o i g c4:Nat)(b:E)(al:Option Addr)(k m:Nat)(f:E):Prop:=Hid (DBox f (z (B b)+1) (U x.e) (J I 3) (J I l) (U j) (Y (T (Q i 0 Z)) g c4) (Y al k m))/\Hid (f.heap[z (B b)]?=T (N #[U x.e,J I l,U j,Y Z 0 0,Y p n o,ZC ZD] 161 (0,0)))/\Hid (f.ownsRow (z (B b)+2) 146 3 (Y (T (Q i 0 Z)) g c4) g (bV (S.f1 x.tg).u g))/\Hid (f.ownsRow (z (B b)+2) 129 4 (Y al k m) k (lkV h (x.looks.take k)))/\Hid (Below (z (B b)) b f)
section
variable {S:Spc}{a0 a1:Option Addr}{c0 c1:Nat}
theorem yW (ZS:Nat)(w:E)(hb:Nat)(md or:ZB)(L:List SM)(f:List Ent)
  (Hm:ShAt ZS w hb (Y a0 S.n0 c0) (Y a1 S.n1 c1) md or L f) (hrel:fq L [] f) (IG:PG S [] f) (Ja:f.length<=40201)
  (IM:SlSource w a0 S.n0 S.f0) (Iu:SlTarget w a1 S.n1 S.f1) (IF:SpcOk S) (Hr:∀i,i<S.n1->aX (S.f1 i)) :
  Calls Pg 47 #[.pointer (T (Q hb 0 Z))] w λe w'=>∃a c R,e=ZF (ZG #[Y a R.length c])/\DRow w' (z (B w)) (Y a R.length c) R/\R.map (·.1)=aT S f/\Below (z (B w)) w w':=by
 have IP:=ae Hm;have I6:=ae hrel;have IE:=ae IG;have V0:=ae IM;have V1:=ae Iu;have He:=ae IF;have Jr:=ae Hr;have Jo:L.length<=40201:=by have:=hrel.len;simp only[KF,LX] at this;omega
 obtain⟨am,cm,rfl⟩:=bH Hm.ag;obtain⟨ao,co,rfl⟩:=bH Hm.ror;obtain⟨ZN,hN⟩:∃ZN,ZN=L.length:=⟨_,rfl⟩
 obtain⟨n,hn⟩:∃n,n=f.length:=⟨_,rfl⟩
 have ZI:=ae hN;have HN:=ae hn;rw[<-hN,<-hn] at IP;rw[<-hN] at Jo;rw[<-hn] at Ja;clear Hm hrel IG IM Iu IF Hr hN hn;obtain⟨il,Jp,IX,IZ,IW⟩:=KZ kF;obtain⟨Jy,Jn,I9,IY,I5⟩:=KZ fR;have A0:=ae (((BS w).alloc ly (N #[Y Z 0 0] 25)).alloc (by simp) (N #[Y Z 0 0] 25));have kR:Hid (((w.alloc (N #[Y Z 0 0] 25)).alloc (N #[Y Z 0 0] 25)).heap[z (B w)]?=T (N #[Y Z 0 0] 25 (0,0))) :=
  ((((cM (z (B w)+1) _).alloc (by simp) _).block (z (B w)) (by omega)).trans (gM w _))
 have kA:Hid (((w.alloc (N #[Y Z 0 0] 25)).alloc (N #[Y Z 0 0] 25)).heap[z (B w)+1]?=T (N #[Y Z 0 0] 25 (0,0))):=by have h2:=gM (w.alloc (N #[Y Z 0 0] 25)) (N #[Y Z 0 0] 25);rw[show(w.alloc (N #[Y Z 0 0] 25)).heap.size=z (B w)+1 by simp] at h2;exact h2
 go_enter func47,ntmps47;go_wp2_with fail;generalize World.alloc (World.alloc w _) _=W0 at A0 kR kA ⊢;go_loopw [4] (λv wr=>∃(i:Nat) (P:Option Addr) (c5:Nat) (R:List DR),i<=n/\v=J I i/\R.length=i/\Hid (R.map (·.1)=(f.take i).map (a8 S f))/\Hid (DRow wr (z (B w)+2) (Y P i c5) R)/\Hid (wr.heap[z (B w)+1]?=T (N #[Y P i c5] 25 (0,0)))/\Hid (wr.heap[z (B w)]?=T (N #[Y Z 0 0] 25 (0,0)))/\Hid (Below (z (B w)) w wr)) (λv _=>n - (intOf v).toNat);case atStart=>exact⟨0,Z,0,[],by omega,rfl,rfl,rfl,ji _ _,kA,kR,A0⟩
 case round =>
  clear kA kR A0;obtain⟨i,P,c5,R,hi,rfl,DE,Ht,D4,k4,fd,B4⟩:=hrel;have M:=ae (IP.aa B4 ly);have hw4:z (B w)+2<=z (B wr):=ah k4.out;have h3:=M.c3;have Iv:=M.lt;by_cases Jq:i<n
  ·obtain⟨x,hx⟩:∃x,f[i]?=T x:=⟨_,gq (by rw[<-HN.out];exact Jq)⟩
   obtain⟨j,m,hf,hm,e1,e2,e3,e4,e5⟩:=Gv I6 hx;have Bk:=M.ror;have O:=M.ag;rw[<-HN.out] at Bk;rw[<-ZI.out] at O;obtain⟨go,co',e⟩:=df Bk (by omega);simp only[KK,PJ] at e;obtain⟨rfl,rfl⟩:=e;have hjN:j<ZN:=by rw[ZI.out];exact(j5.1 hm).1
   obtain⟨t,cm',e⟩:=df O (by omega);simp only[KK,PJ] at e;obtain⟨rfl,rfl⟩:=e;have oc:A wr (Q go i Z)=T (U x.e):=(bk Bk (by rw[bA,KN,KN,hx];rfl)).1;have Jj:=(cO Bk).2;have n9:=(cO O).2;have h2:=M.c2;have ur:=M.V m (J2 hm) e2;obtain⟨sa,ZQ,Hh⟩:=bH ur;obtain⟨ZT,Ij⟩:∃ZT,ZT=(dk x).M:=⟨_,rfl⟩
   obtain⟨o,bt⟩:∃o,o=(dk x).H:=⟨_,rfl⟩
   obtain⟨r,Hb⟩:∃r,r=x.looks.length:=⟨_,rfl⟩
   rw[e5] at Hh ur;rw[Hh,<-Hb] at ur;have q0:A wr (Q t (j*6) Z)=T (U x.e):=by have:=cE (by rw[<-ZI.out];exact O) hm 0 (by omega) rfl;rw[e1] at this;exact this
   have q1:A wr (Q t (j*6+1) Z)=T (J I ZT):=by have:=cE (by rw[<-ZI.out];exact O) hm 1 (by omega) rfl;rw[e3,<-Ij] at this;exact this
   have q2:A wr (Q t (j*6+2) Z)=T (U o):=by have:=cE (by rw[<-ZI.out];exact O) hm 2 (by omega) rfl;rw[e4,<-bt] at this;exact this
   have q3:A wr (Q t (j*6+3) Z)=T (Y Z 0 0):=cE (by rw[<-ZI.out];exact O) hm 3 (by omega) rfl;have q4:A wr (Q t (j*6+4) Z)=T (Y sa r ZQ):=by have:=cE (by rw[<-ZI.out];exact O) hm 4 (by omega) rfl;rw[Hh,<-Hb] at this;exact this
   have q5:A wr (Q t (j*6+5) Z)=T (ZC ZD):=by have:=cE (by rw[<-ZI.out];exact O) hm 5 (by omega) rfl;rw[e2] at this;exact this
   have C:Hid (∀V,Below (z (B wr)) wr V->A V (Q hb 2 Z)=T (Y (T (Q t 0 Z)) ZN cm)/\A V (Q hb 3 Z)=T (Y (T (Q go 0 Z)) n co)/\A V (Q go i Z)=T (U x.e)/\A V (Q t (j*6) Z)=T (U x.e)/\A V (Q t (j*6+1) Z)=T (J I ZT)/\A V (Q t (j*6+2) Z)=T (U o)/\A V (Q t (j*6+3) Z)=T (Y Z 0 0)/\A V (Q t (j*6+4) Z)=T (Y sa r ZQ)/\A V (Q t (j*6+5) Z)=T (ZC ZD)):=λV g=>⟨(g.cell (p:=(Q hb 2 Z)) Iv).trans h2,(g.cell (p:=(Q hb 3 Z)) Iv).trans h3,(g.cell (p:=(Q go i Z)) Jj).trans oc,(g.cell (p:=(Q t _ Z)) n9).trans q0,(g.cell (p:=(Q t _ Z)) n9).trans q1,(g.cell (p:=(Q t _ Z)) n9).trans q2,(g.cell (p:=(Q t _ Z)) n9).trans q3,(g.cell (p:=(Q t _ Z)) n9).trans q4,(g.cell (p:=(Q t _ Z)) n9).trans q5⟩
   have CT:Hid (∀V,Below (z (B wr)) wr V->Calls Pg 92 #[.pointer (T (Q hb 0 Z)),U x.e] V λe w'=>e=ZF (J I (j:Int))/\w'=V):=λV g=>by
    have h:=M.aa g ly;refine(uM V x.e ZS h.c2 h.ag (by rw[<-ZI.out];omega)).mono λe w' ⟨he,hw⟩=>⟨?_,hw⟩
    rw[he,hf];rfl
   have HX:=ae hx;have Jz:=ae Ij;have IB:=ae bt;have Fd:=ae Hb;have Hy:=ae ur;have hj0:(0:Int)<=(j:Int):=by omega
   have hjI:(j:Int)<ZN:=by omega
   have hi0:(0:Int)<=(i:Int):=by omega
   have hiI:(i:Int)<n:=by omega
   clear Bk O ur Hh hx hf hm e1 e2 e3 e4 e5 Ij bt Hb;go_upto_region 5 with fail;go_cut [5] (λs wx=>s=.pointer (T (Q (z (B wr)) 0 Z))/\wx=(wr.alloc (N #[U x.e,J I ZT,U o,Y Z 0 0,Y sa r ZQ,ZC ZD] 161)).drew);case first =>
    clear h2 h3 oc q0 q1 q2 q3 q4 q5
    go_region_held3 (λV=>A V (Q hb 2 Z)=T (Y (T (Q t 0 Z)) ZN cm)/\A V (Q hb 3 Z)=T (Y (T (Q go 0 Z)) n co)/\A V (Q go i Z)=T (U x.e)/\A V (Q t (j*6) Z)=T (U x.e)/\A V (Q t (j*6+1) Z)=T (J I ZT)/\A V (Q t (j*6+2) Z)=T (U o)/\A V (Q t (j*6+3) Z)=T (Y Z 0 0)/\A V (Q t (j*6+4) Z)=T (Y sa r ZQ)/\A V (Q t (j*6+5) Z)=T (ZC ZD)) (first|exact C _ br|exact C _ br.drew|exact C _ (br.drew.alloc ly _)|exact C _ (br.alloc ly _).drew|exact C _ ((((((((BS wr).drew.alloc ly _).setCell ly _).setCell ly _).setCell ly _).setCell ly _).setCell ly _).setCell ly _)) (first
     |(go_at_call 92;refine(CT _ (by first|exact br.drew|exact cM _ _|exact br.drew.alloc ly _)).mono ?_;rintro e w5 ⟨rfl,rfl⟩))
    all_goals
     go_wp2_with fail;go_meet;exact⟨rfl,rfl⟩
   case rest =>
   obtain⟨rfl,rfl⟩:=hcut;have B5:=ae ((BS wr).alloc ly (N #[U x.e,J I ZT,U o,Y Z 0 0,Y sa r ZQ,ZC ZD] 161)).drew;have m5:Hid ((wr.alloc (N #[U x.e,J I ZT,U o,Y Z 0 0,Y sa r ZQ,ZC ZD] 161)).drew.heap[z (B wr)]?=T (N #[U x.e,J I ZT,U o,Y Z 0 0,Y sa r ZQ,ZC ZD] 161 (0,0))):=gM wr _;have Hk:(wr.alloc (N #[U x.e,J I ZT,U o,Y Z 0 0,Y sa r ZQ,ZC ZD] 161)).drew.heap.size=z (B wr)+1:=by simp[World.drew]
   clear h2 h3 oc q0 q1 q2 q3 q4 q5 C CT;generalize World.drew (World.alloc wr _)=W5 at B5 m5 Hk ⊢;have p0:A W5 (Q (z (B wr)) 0 Z)=T (U x.e):=by simp[World.cell?,m5.out]
   obtain⟨W6,GS⟩:∃W:E,W5.alloc (N #[U x.e,J I 0,J I 0,U ⟨#[]⟩,Y Z 0 0,Y Z 0 0] 46)=W:=⟨_,rfl⟩
   obtain⟨A6,-,-⟩:=nb1 GS;have la:=ae GS;clear GS;have B6:=ae (B5.trans (A6.mono B5.size));have X6:Hid (DBox W6 (z (B wr)+1) (U x.e) (J I 0) (J I 0) (U ⟨#[]⟩) (Y Z 0 0) (Y Z 0 0)):=by
    cases la.out
    have h:=jc W5 (U x.e) (J I 0) (J I 0) (U ⟨#[]⟩) (Y Z 0 0) (Y Z 0 0) 46;rw[Hk] at h;exact h
   have m6:Hid (W6.heap[z (B wr)]?=T (N #[U x.e,J I ZT,U o,Y Z 0 0,Y sa r ZQ,ZC ZD] 161 (0,0))):=by cases la.out;exact(A6.block _ (by omega)).trans m5
   have Jg:z (B W6)=z (B wr)+2:=by cases la.out;simp[Hk]
   go_upto_region 7 with fail;rw[la.out];clear la;clear p0 B5 m5 A6 Hk;have th:=ae (M.aa B6 ly);have Io:=ae (B4.trans (B6.mono (by omega)));have C:Hid (∀V,Below (z (B W6)) W6 V->A V (Q hb 0 Z)=T (Y a0 S.n0 c0)/\A V (Q hb 1 Z)=T (Y a1 S.n1 c1)/\A V (Q (z (B wr)) 0 Z)=T (U x.e)):=λV g=>⟨(g.cell (p:=(Q hb 0 Z)) th.lt).trans th.c0,(g.cell (p:=(Q hb 1 Z)) th.lt).trans th.c1,(g.cell (p:=(Q (z (B wr)) 0 Z)) (by show (z (B wr))<_;omega)).trans (by simp[World.cell?,m6.out])⟩
   obtain⟨ZL,hT⟩:∃ZL,ZL=dW (atI (nm1 S.f1) S.n1 x.e):=⟨_,rfl⟩
   have CT:Hid (∀V,Below (z (B W6)) W6 V->Calls Pg 74 #[ZG #[Y a0 S.n0 c0,Y a1 S.n1 c1],U x.e] V λe w'=>e=ZF (J I ZL)/\Below (z (B V)) V w'):=λV g=>by rw[hT];exact gZ a0 S.n0 c0 a1 S.n1 c1 S.f1 x.e V (by have:=He.av;omega) (V1.aa (Io.trans (g.mono Io.size)) ly)
   have HT:=ae hT;clear hT
   go_region_held3 (λV=>A V (Q hb 0 Z)=T (Y a0 S.n0 c0)/\A V (Q hb 1 Z)=T (Y a1 S.n1 c1)/\A V (Q (z (B wr)) 0 Z)=T (U x.e)) (first|exact C _ br|exact C _ br.drew|exact C _ D7) (first
    |(go_at_call 74;refine(CT _ (by first|exact br.drew|exact cM _ _)).mono ?_;rintro e ZJ ⟨rfl,ld⟩;have D7:Hid (Below (z (B W6)) W6 ZJ):=⟨ld.os,ld.tape,ld.output,ld.size,ld.block⟩;clear ld))
   have B7:=ae (B6.trans (D7.mono B6.size));have X7:=ae (X6.aa D7 X6.lt);have m7:=ae ((D7.block _ (ah m6)).trans m6);have Hu:z (B wr)+2<=z (B ZJ):=by have:=D7.size;omega
   have k7:=ae ((B7.block _ (ah k4)).trans k4);have IJ:=ae ((B7.block _ (ah fd)).trans fd);have n6:=ae (M.aa B7 ly);have Hi:=ae (B4.trans (B7.mono (by omega)));have Ik:=J2 HX.out;have IK:=ae (IE.W x Ik);clear D7 C CT X6 m6 th Io B6 Jg Ik;go_upto_if 46 with fail;go_cut [8,9] (λ_ _ wx=>∃(aa al:Option Addr) (na nl ca ZP:Nat),Hid (DBox wx (z (B wr)+1) (U x.e) (J I x.L) (J I x.M) (U x.H) (Y aa na ca) (Y al nl ZP))/\Hid (DSub wx (z (B wr)) (a8 S f x,Y aa na ca,Y al nl ZP))/\Hid (Below (z (B wr)) wr wx));case first =>
    rcases IK.L with ⟨hk,ro,hlk,si,IU,Ia⟩|⟨hk,ro,Ia,hlk,Ig,sm⟩|⟨hk,Ig,sm⟩
    rotate_left 2
    ·have HK:=ae hk;have Hw:dk x=⟨x.M,x.H,[]⟩:=by unfold dk;rw[eT (by omega)]
     have Hc:Hid (o=x.H/\ZT=x.M):=⟨by rw[IB.out,Hw],by rw[Jz.out,Hw]⟩
     have hns2:r<=200:=by rw[Fd.out];exact IK.looks
     have Ib:=(bc sm).1;have H9:ZL=(x.tg:Int):=by rw[HT.out,sm];rfl
     have II:bM S x=(S.f1 x.tg).h:=by unfold bM;rw[j6 hk]
     obtain⟨X,G8⟩:∃X,X=(S.f1 x.tg).h:=⟨_,rfl⟩
     have Jw:Hid (bM S x=X):=II.trans G8.symm;have hn4m:X<=1048576:=by rw[G8];exact Jr x.tg Ib
     have hn41:1<=X:=by obtain⟨_,hv,_⟩:=bF (He.u x.tg Ib);omega
     obtain⟨tb,tf,Jc,bt⟩:=V1.resolve_left (by omega);subst H9 Jc;obtain⟨-,ia,ic,qr,Iw⟩:=bt.2 x.tg Ib;have Ic:=bt.1;obtain⟨ib,io,rfl,Ie⟩:=Iw.resolve_left (by omega);rw[<-G8] at qr Ie;have JA:=ae Ie;have Iq:=ae qr;clear hk Hw II G8 Ig sm bt Iw Ie qr;have q1:A ZJ (Q (z (B wr)) 1 Z)=T (J I ZT):=by simp[World.cell?,m7.out]
     have q2:A ZJ (Q (z (B wr)) 2 Z)=T (U o):=by simp[World.cell?,m7.out]
     obtain⟨d1,IQ⟩:=X7.c1;obtain⟨d2,Jf⟩:=X7.c2;obtain⟨d3,IL⟩:=X7.c3;have IC:=X7.lt;have htg0:(0:Int)<=(x.tg:Int):=by omega
     have X9:=ae (((X7.set1 (J I 3)).set2 (J I ZT)).set3 (U o));have m9:Hid ((((ZJ.setCell (Q (z (B wr)+1) 1 Z) (J I 3)).setCell (Q (z (B wr)+1) 2 Z) (J I ZT)).setCell (Q (z (B wr)+1) 3 Z) (U o)).heap[z (B wr)]?=T (N #[U x.e,J I ZT,U o,Y Z 0 0,Y sa r ZQ,ZC ZD] 161 (0,0))):=(qh _ _ _ _ (show (z (B wr))≠z (B wr)+1 by omega)).trans ((qh _ _ _ _ (show (z (B wr))≠z (B wr)+1 by omega)).trans ((qh _ _ _ _ (show (z (B wr))≠z (B wr)+1 by omega)).trans m7.out));have B9:=ae (((B7.setCell (p:=(Q (z (B wr)+1) 1 Z)) (D0 _) (J I 3)).setCell (p:=(Q (z (B wr)+1) 2 Z)) (D0 _) (J I ZT)).setCell (p:=(Q (z (B wr)+1) 3 Z)) (D0 _) (U o));have Iy:z (B wr)+2<=(((ZJ.setCell (Q (z (B wr)+1) 1 Z) (J I 3)).setCell (Q (z (B wr)+1) 2 Z) (J I ZT)).setCell (Q (z (B wr)+1) 3 Z) (U o)).heap.size:=by simpa using Hu
     go_upto_region 12 with fail;generalize World.setCell (World.setCell (World.setCell ZJ _ _) _ _) _ _=W9 at X9 m9 B9 Iy ⊢;clear d1 IQ d2 Jf d3 IL q1 q2 IC X7 m7 B7 k7 IJ n6 Hi Hu;have Hg:=ae (B4.trans (B9.mono (by omega)));have Hv:=ae (M.aa B9 ly);have Jt:=Hv.c1;have I8:=Hv.lt;have tc:=(Hg.cell (p:=(Q tb (tf+x.tg*2+1) Z)) Ic).trans Iq;have I7:tb<z (B W9):=lj Ic Hg.size;have htgI:(x.tg:Int)<(S.n1:Int):=by omega
     go_wp2_with fail;refine(iz ib io X ic (S.f1 x.tg).u W9 (by omega) (JA.aa Hg ly)).mono ?_;rintro e ID ⟨g4,c4,rfl,Ii,ph⟩;have Hf:=ae (X9.aa ph X9.lt);obtain⟨d4,Js⟩:=Hf.c4;have Hp:=ae (Hf.set4 (Y (T (Q g4 0 Z)) X c4));have H6:Hid ((ID.setCell (Q (z (B wr)+1) 4 Z) (Y (T (Q g4 0 Z)) X c4)).heap[z (B wr)]?=T (N #[U x.e,J I ZT,U o,Y Z 0 0,Y sa r ZQ,ZC ZD] 161 (0,0))):=(qh _ _ _ _ (show (z (B wr))≠z (B wr)+1 by omega)).trans ((ph.block _ (ah m9)).trans m9);have Hz:=ae (aE (R:=z (B wr)+1) (j:=4) (aF Ii (show (z (B wr))+2<=z (B W9) by omega)) (by omega) (Y (T (Q g4 0 Z)) X c4));have Ip:=ae ((B9.trans (ph.mono B9.size)).setCell (p:=(Q (z (B wr)+1) 4 Z)) (D0 _) (Y (T (Q g4 0 Z)) X c4));have Ir:=Hf.lt;clear Ii ph tc Jt;go_wp2;generalize World.setCell ID _ _=W11 at Hp H6 Hz Ip ⊢;clear d4 Js Hf Ir X9 m9 B9 Hg Hv I8 I7 Iy;obtain⟨y,Jh⟩:∃y,y=wr:=⟨_,rfl⟩
     subst Jh;go_loopw [8] (λv wq=>∃(k:Nat) (al:Option Addr) (ZP:Nat),k<=r/\v=J I k/\LkI S f x ZT o sa r ZQ g4 X c4 y al k ZP wq) (λv _=>r - (intOf v).toNat);case atStart=>exact⟨0,Z,0,by omega,rfl,Hp,H6,Hz,CL _ _ _ _,Ip⟩
     case round =>
      clear Hp H6 Hz Ip;obtain⟨k,al,ZP,hk,rfl,Hn,Il,Im,Ih,At⟩:=hrel;have m4:A wr (Q (z (B y)) 4 Z)=T (Y sa r ZQ):=by simp[World.cell?,Il.out]
      have ml:=ah Il.out;have hz12:z (B y)+2<=z (B wr):=Hn.lt;by_cases hlk:k<r
      ·obtain⟨l,hl⟩:∃l,x.looks[k]?=T l:=⟨_,gq (by rw[<-Fd.out];exact hlk)⟩
       obtain⟨K,sc',e⟩:=df Hy (by omega);simp only[KK,PJ] at e;obtain⟨rfl,rfl⟩:=e;have It:=(cO Hy).2;have sn:∀j,j<3->∀u,[Value.string l.e,ZC l.ask,ZC l.has][j]?=T u->A wr (Q K (k*3+j) Z)=T u:=λj hj u hu=>(At.cell (p:=(Q K (k*3+j) Z)) It).trans (AU (by have h:=Hy.out;rw[Fd.out] at h;exact h) hl j hj hu);have f0:=sn 0 (by omega) _ rfl;have f1:=sn 1 (by omega) _ rfl;have f2:=sn 2 (by omega) _ rfl;rw[show k*3+0=k*3 by omega] at f0;have Fm:K<z (B wr):=lj It At.size;have HL:=ae hl;have C:Hid (∀V,Below (z (B wr)) wr V->A V (Q (z (B y)) 4 Z)=T (Y (T (Q K 0 Z)) r ZQ)/\A V (Q K (k*3) Z)=T (U l.e)/\A V (Q K (k*3+1) Z)=T (ZC l.ask)/\A V (Q K (k*3+2) Z)=T (ZC l.has)):=λV g=>⟨(g.cell (p:=(Q (z (B y)) 4 Z)) ml).trans m4,(g.cell (p:=(Q K _ Z)) Fm).trans f0,(g.cell (p:=(Q K _ Z)) Fm).trans f1,(g.cell (p:=(Q K _ Z)) Fm).trans f2⟩
       have hk0:(0:Int)<=(k:Int):=by omega
       have hkI:(k:Int)<r:=by omega
       clear sn hl;go_upto_region 16 with fail;go_cut [9] (λs wx=>s=.pointer (T (Q (z (B wr)) 0 Z))/\wx=(wr.alloc (N #[U l.e,ZC l.ask,ZC l.has,J I 0] 129)).drew);case first =>
        clear m4 f0 f1 f2;go_region_held3 (λV=>A V (Q (z (B y)) 4 Z)=T (Y (T (Q K 0 Z)) r ZQ)/\A V (Q K (k*3) Z)=T (U l.e)/\A V (Q K (k*3+1) Z)=T (ZC l.ask)/\A V (Q K (k*3+2) Z)=T (ZC l.has)) (first|exact C _ br|exact C _ br.drew|exact C _ (br.drew.alloc ly _)|exact C _ (br.alloc ly _).drew|exact C _ ((((((BS wr).drew.alloc ly _).setCell ly _).setCell ly _).setCell ly _).setCell ly _)) (fail);all_goals
         go_wp2_with fail;go_meet;exact⟨rfl,rfl⟩
       case rest =>
       obtain⟨rfl,rfl⟩:=hcut;have n8:=ae ((BS wr).alloc ly (N #[U l.e,ZC l.ask,ZC l.has,J I 0] 129)).drew;have ZM:Hid ((wr.alloc (N #[U l.e,ZC l.ask,ZC l.has,J I 0] 129)).drew.heap[z (B wr)]?=T (N #[U l.e,ZC l.ask,ZC l.has,J I 0] 129 (0,0))):=gM wr _;clear m4 f0 f1 f2 C;generalize World.drew (World.alloc wr _)=aq at n8 ZM ⊢;have Hl:=ae (Hn.aa n8 Hn.lt);have Ha:=ae ((n8.block _ ml).trans Il);have H7:=ae (own_below Im n8 ly);have Hx:=ae (own_below Ih n8 ly);have mv:=ae (At.trans (n8.mono At.size));have k1:A aq (Q (z (B wr)) 1 Z)=T (ZC l.ask):=by simp[World.cell?,ZM.out]
       go_upto_if 94 with fail;clear k1;go_cut [] (λwx=>∃q:Int,Hid (dl (lkD f l)=[U l.e,ZC l.ask,ZC l.has,J I q])/\Hid (wx.heap[z (B wr)]?=T (N #[U l.e,ZC l.ask,ZC l.has,J I q] 129 (0,0)))/\LkI S f x ZT o (T (Q K 0 Z)) r ZQ g4 X c4 y al k ZP wx);case first =>
        cases hask:l.ask with
        |false =>go_wp2;go_meet;exact⟨0,by show _=_;simp[dl,lkD,hask],ZM,Hl,Ha,H7,Hx,mv⟩
        |true =>
         obtain⟨q,hq⟩:∃q:Int,q=((gN f l.e:Nat):Int):=⟨_,rfl⟩
         have Is:=ae ((mv.block _ (ah k4)).trans k4);have ac:A aq (Q (z (B w)+1) 0 Z)=T (Y P i c5):=by simp[World.cell?,Is.out]
         have acl:=ah Is.out;have Ji:A aq (Q (z (B wr)) 0 Z)=T (U l.e):=by simp[World.cell?,ZM.out]
         have CA:Hid (Calls Pg 93 #[ZG #[Y P i c5],U l.e] aq λe w'=>e=ZF (J I q)/\Below (z (B aq)) aq w'):=by
          have hd:SlDeed aq P i (dF (R.map (·.1))):=by have h:=D4.aa mv.out ly;rw[<-DE] at h ⊢;exact h.bb
          have h:=Bh P i c5 (dF (R.map (·.1))) l.e aq (by omega) hd;rw[Eg IE.out HX.out (J2 HL.out) hask Ht.out,<-hq] at h;exact h
         have HQ:=ae hq;clear hq;go_wp2_with fail;refine CA.mono ?_;rintro e Hj ⟨rfl,ZK⟩;have Fk:=(ZK.block _ (ah ZM)).trans ZM;have q3:A Hj (Q (z (B wr)) 3 Z)=T (J I 0):=by simp[World.cell?,Fk]
         have qf3:Hj.frozen? (Q (z (B wr)) 3 Z)=ZA:=by simp[World.frozen?,Fk]
         have ql3:=ah Fk;have ZO:Hid ((Hj.setCell (Q (z (B wr)) 3 Z) (J I q)).heap[z (B wr)]?=T (N #[U l.e,ZC l.ask,ZC l.has,J I q] 129 (0,0))):=aw Fk _;have ex:=ae ((Hl.aa ZK Hl.lt).far (p:=(Q (z (B wr)) 3 Z)) (by show (z (B wr))≠z (B y)+1;omega) (J I q));have DQ:Hid ((Hj.setCell (Q (z (B wr)) 3 Z) (J I q)).heap[z (B y)]?=T (N #[U x.e,J I ZT,U o,Y Z 0 0,Y (T (Q K 0 Z)) r ZQ,ZC ZD] 161 (0,0))):=(qh _ _ _ _ (show (z (B y))≠z (B wr) by omega)).trans ((ZK.block _ (ah Ha)).trans Ha);have Hd:=ae (aA (own_below H7 ZK ly) (b:=z (B wr)) (λe=>by have:=(Im.lt _ e).2;omega) 3 (J I q));have Ho:=ae (aA (own_below Hx ZK ly) (b:=z (B wr)) (λe=>by have:=(Ih.lt _ e).2;omega) 3 (J I q));have DS:=ae ((mv.trans (ZK.mono mv.size)).setCell (p:=(Q (z (B wr)) 3 Z)) (by show (z (B y))<=z (B wr);omega) (J I q));clear Fk ZK ac Ji;go_wp2;go_meet;exact⟨q,by show _=_;simp[dl,lkD,hask,HQ.out],ZO,ex,DQ,Hd,Ho,DS⟩
       case rest =>
       obtain⟨q,JB,ZO,ex,DQ,Hd,Ho,DS⟩:=hcut;clear ZM Hl Ha H7 Hx mv;generalize wc=G at ZO ex DQ Hd Ho DS ⊢;have l0:A G (Q (z (B wr)) 0 Z)=T (U l.e):=by simp[World.cell?,ZO.out]
       have l1:A G (Q (z (B wr)) 1 Z)=T (ZC l.ask):=by simp[World.cell?,ZO.out]
       have l2:A G (Q (z (B wr)) 2 Z)=T (ZC l.has):=by simp[World.cell?,ZO.out]
       have l3:A G (Q (z (B wr)) 3 Z)=T (J I q):=by simp[World.cell?,ZO.out]
       have ll:=ah ZO.out;obtain⟨e5,ef5⟩:=ex.c5;have AL:=ae ((BS G).alloc ly (N #[U l.e,ZC l.ask,ZC l.has,J I q] 129));have XA:=ae (ex.aa AL ex.lt);have mA:=ae ((AL.block _ (ah DQ)).trans DQ);have OA:=ae (own_below Hd AL ly);have PA:=ae (own_below Ho AL ly);have BA:=ae (DS.trans (AL.mono DS.size));have Jl:(G.alloc (N #[U l.e,ZC l.ask,ZC l.has,J I q] 129)).heap.size=z (B G)+1:=by simp
       have hzW:z (B y)+2<=z (B G):=ex.lt;go_wp2_with (at_builtin;refine E4 _ rfl (.tmp 101) (.tmp 103) 44 rfl (z (B y)+2) 129 il (ZG #[U ⟨#[]⟩,ZC ZA,ZC ZA,J I 0]) 4 32 OD Jp IX IZ IW rfl (by decide) (Y al k ZP) k (lkV f (x.looks.take k)) (by simp[Act.eval]) PA.out (Q (z (B G)) 0 Z) 1 1 [U l.e,ZC l.ask,ZC l.has,J I q] (by simp[Act.eval]) rfl (qV G _ _ _ _ _) (by simp[Value.oneCell']) (by unfold maxLen;omega) (by omega) (by omega) ?_;intro v' wz H D _;obtain⟨az,cz,rfl⟩:=bH H;rw[<-JB.out,<-oY f x.looks HL.out] at H;have PZ:=ae H;have GZ:=ae D;have XZ:=ae (XA.grown PA D (j4 _));obtain⟨z5,zf5⟩:=XZ.c5;have zl:=XZ.lt;clear H D);have XY:=ae (XZ.set5 (Y az (k+1) cz));have mY:Hid ((wz.setCell (Q (z (B y)+1) 5 Z) (Y az (k+1) cz)).heap[z (B y)]?=T (N #[U x.e,J I ZT,U o,Y Z 0 0,Y (T (Q K 0 Z)) r ZQ,ZC ZD] 161 (0,0))):=(qh _ _ _ _ (show (z (B y))≠z (B y)+1 by omega)).trans ((GZ.block _ (ah mA) (λe=>by have:=(PA.lt _ e.symm).1;omega)).trans mA);have OY:=ae (aE (R:=z (B y)+1) (j:=5) (mT OA PA GZ (by decide)) (by omega) (Y az (k+1) cz));have PY:=ae (aE (R:=z (B y)+1) (j:=5) PZ (by omega) (Y az (k+1) cz));have BY:=ae ((bg BA GZ (by omega) (λj e=>by have:=(PA.lt j e).1;omega)).setCell (p:=(Q (z (B y)+1) 5 Z)) (D0 _) (Y az (k+1) cz));exact⟨⟨k+1,az,cz,by omega,by go_num,XY,mY,OY,PY,BY⟩,by simp[intOf];omega⟩
      ·have e:k=r:=by omega
       subst e;have XT:Hid (DBox wr (z (B y)+1) (U x.e) (J I x.L) (J I x.M) (U x.H) (Y (T (Q g4 0 Z)) X c4) (Y al k ZP)):=by show DBox _ _ _ _ _ _ _ _;rw[HK.out,<-Hc.1,<-Hc.2];exact Hn
       have ST:Hid (DSub wr (z (B y)) (a8 S f x,Y (T (Q g4 0 Z)) X c4,Y al k ZP)):=by
        refine⟨?_,?_⟩;{show World.ownsRow wr (z (B y)) 146 3 (Y (T (Q g4 0 Z)) X c4) (bM S x) (bV (S.f1 x.tg).u (bM S x));rw[Jw.out];exact aF Im (by omega)};{show World.ownsRow wr (z (B y)) 129 4 (Y al k ZP) x.looks.length (bY (lkF f x.looks) x.looks.length);rw[xd,<-Fd.out];have h:=Ih.out;rw[LQ (by rw[<-Fd.out];exact nX _)] at h;exact aF h (by omega)}
       go_wp2;go_meet;exact⟨_,_,_,_,_,_,XT,ST,At⟩
    all_goals
     obtain⟨ZR,hz⟩:∃ZR,ZR=dW (atI (nm0 S.f0) S.n0 x.e):=⟨_,rfl⟩
     have HK:=ae hk;have Iz:=ae ro;have Jm:=ae Ia;have C:Hid (∀V,Below (z (B ZJ)) ZJ V->A V (Q hb 0 Z)=T (Y a0 S.n0 c0)/\A V (Q hb 1 Z)=T (Y a1 S.n1 c1)/\A V (Q (z (B wr)) 0 Z)=T (U x.e)):=λV g=>⟨(g.cell (p:=(Q hb 0 Z)) n6.lt).trans n6.c0,(g.cell (p:=(Q hb 1 Z)) n6.lt).trans n6.c1,(g.cell (p:=(Q (z (B wr)) 0 Z)) (by show (z (B wr))<_;omega)).trans (by simp[World.cell?,m7.out])⟩
     have CT:Hid (∀V,Below (z (B ZJ)) ZJ V->Calls Pg 73 #[ZG #[Y a0 S.n0 c0,Y a1 S.n1 c1],U x.e] V λe w'=>e=ZF (J I ZR)/\Below (z (B V)) V w'):=λV g=>by rw[hz];exact gY a0 S.n0 c0 a1 S.n1 c1 S.f0 x.e V (by have:=He.av;omega) (V0.aa (Hi.trans (g.mono Hi.size)) ly)
     have HZ:=ae hz;have H9:ZL=-1:=by rw[HT.out,show atI (nm1 S.f1) S.n1 x.e=Z by first|exact sm|exact nW He.out IU];rfl
     subst H9;clear hk ro Ia hz;go_wp2_with fail
     go_region_held3 (λV=>A V (Q hb 0 Z)=T (Y a0 S.n0 c0)/\A V (Q hb 1 Z)=T (Y a1 S.n1 c1)/\A V (Q (z (B wr)) 0 Z)=T (U x.e)) (first|exact C _ br|exact C _ br.drew|exact C _ D8) (first
      |(go_at_call 73;refine(CT _ (by first|exact br.drew|exact cM _ _)).mono ?_;rintro e w8 ⟨rfl,n7⟩;have D8:Hid (Below (z (B ZJ)) ZJ w8):=⟨n7.os,n7.tape,n7.output,n7.size,n7.block⟩;clear n7))
     have X8:=ae (X7.aa D8 X7.lt);have B8:=ae (B7.trans (D8.mono B7.size));obtain⟨d1,IQ⟩:=X8.c1;have IC:=X8.lt
    ·obtain rfl:ZR=(si:Int):=by rw[HZ.out,IU];rfl
     have Hc:Hid (o=x.H):=by show o=x.H;rw[IB.out];unfold dk;rw[eT (by rw[HK.out];decide)]
     have hsi0:(0:Int)<=(si:Int):=by omega
     obtain⟨d3,IL⟩:=X8.c3;have m8:=(D8.block _ (ah m7)).trans m7;have q2:A w8 (Q (z (B wr)) 2 Z)=T (U o):=by simp[World.cell?,m8]
     have BT:=ae ((B8.setCell (p:=(Q (z (B wr)+1) 1 Z)) (D0 _) (J I 1)).setCell (p:=(Q (z (B wr)+1) 3 Z)) (D0 _) (U o));clear m8;go_wp2;go_meet;exact⟨Z,Z,0,0,0,0,(by show DBox _ _ _ _ _ _ _ _;rw[HK.out,Iz.out,<-Hc.out];exact(X8.set1 _).set3 _),uX (by unfold bM;rw[eT (by rw[HK.out];decide)]) hlk _ _,BT⟩
    ·obtain rfl:ZR=-1:=by rw[HZ.out,Ig];rfl
     have BT:=ae (B8.setCell (p:=(Q (z (B wr)+1) 1 Z)) (D0 _) (J I 2));go_wp2;go_meet;exact⟨Z,Z,0,0,0,0,(by show DBox _ _ _ _ _ _ _ _;rw[HK.out,Iz.out,Jm.out];exact X8.set1 _),uX (by unfold bM;rw[eT (by rw[HK.out];decide)]) hlk _ _,BT⟩
   case rest =>
   obtain⟨aa,al,na,nl,ca,ZP,XT,ST,BT⟩:=hcut;have kT:=ae ((BT.block _ (ah k4)).trans k4);have Id:=ae ((BT.block _ (ah fd)).trans fd);clear X7 m7 k7 IJ n6 Hi B7 Hu;generalize wc=W8 at XT ST BT kT Id ⊢;obtain⟨t0,_⟩:=XT.c0;obtain⟨t1,_⟩:=XT.c1;obtain⟨t2,_⟩:=XT.c2;obtain⟨t3,_⟩:=XT.c3;obtain⟨t4,_⟩:=XT.c4;obtain⟨t5,_⟩:=XT.c5;have kc:A W8 (Q (z (B w)+1) 0 Z)=T (Y P i c5):=by simp[World.cell?,kT.out]
   have AL:=ae ((BS W8).alloc ly (N #[U x.e,J I x.L,J I x.M,U x.H,Y aa na ca,Y al nl ZP] 46));have DA:=ae (D4.aa (BT.trans (AL.mono BT.size)) ly);have SA:=ae (ST.aa AL ly);have kA:=ae ((AL.block _ (ah kT)).trans kT);have IA:=ae ((AL.block _ (ah Id)).trans Id);have BA:=ae (B4.trans ((BT.trans (AL.mono BT.size)).mono (by omega)));have OW:Hid (World.ownsRow (W8.alloc (N #[U x.e,J I x.L,J I x.M,U x.H,Y aa na ca,Y al nl ZP] 46)) (z (B w)+2) 46 6 (Y P i c5) i (R.flatMap ddV)):=by have h:=DA.y;rw[DE] at h;exact h
   have Hq:Hid (∀j,(Value.slice P i c5).ownBlock=T j->z (B w)+2<=j):=λj e=>(OW.lt j e).1;have Jl:(W8.alloc (N #[U x.e,J I x.L,J I x.M,U x.H,Y aa na ca,Y al nl ZP] 46)).heap.size=z (B W8)+1:=by simp
   have hzT:=BT.size;go_wp2_with (at_builtin;refine E4 _ rfl (.tmp 121) (.tmp 123) 23 rfl (z (B w)+2) 46 Jy (ZG #[U ⟨#[]⟩,J I 0,J I 0,U ⟨#[]⟩,Y Z 0 0,Y Z 0 0]) 6 96 MU Jn I9 IY I5 rfl (by decide) (Y P i c5) i (R.flatMap ddV) (by simp[Act.eval]) OW.out (Q (z (B W8)) 0 Z) 1 1 [U x.e,J I x.L,J I x.M,U x.H,Y aa na ca,Y al nl ZP] (by simp[Act.eval]) rfl (AR W8 _ _ _ _ _ _ _) (by simp[Value.oneCell']) (by unfold maxLen;omega) (by omega) (by omega) ?_;intro v' w9 H D _;obtain⟨a7,c7,rfl⟩:=bH H;have O9:=ae H;have G9:=ae D;have k9:=ae ((D.block _ (ah kA) (λe=>by have:=Hq.out _ e.symm;omega)).trans kA);have g9:A w9 (Q (z (B w)+1) 0 Z)=T (Y P i c5):=(by simp[World.cell?,k9.out]);have f9:w9.frozen? (Q (z (B w)+1) 0 Z)=ZA:=(by simp[World.frozen?,k9.out]);have l9:=ah k9.out;clear H D);have D9:Hid (DRow w9 (z (B w)+2) (Y a7 (i+1) c7) (R++[(a8 S f x,Y aa na ca,Y al nl ZP)])):=DRow.more D4 DA (by omega) SA (by rw[DE];exact O9) G9;have Ju:=ae ((G9.block _ (ah IA) (λe=>by have:=Hq.out _ e.symm;omega)).trans IA);have B9:=ae (bg BA G9 (by omega) (λj e=>by have:=Hq.out j e;omega));have Jd:=ae (D9.set (p:=(Q (z (B w)+1) 0 Z)) (e:=25) (.inl (j4 _)) (Y a7 (i+1) c7));have Je:Hid ((w9.setCell (Q (z (B w)+1) 0 Z) (Y a7 (i+1) c7)).heap[z (B w)+1]?=T (N #[Y a7 (i+1) c7] 25 (0,0))):=aw k9 _;have Jb:Hid ((w9.setCell (Q (z (B w)+1) 0 Z) (Y a7 (i+1) c7)).heap[z (B w)]?=T (N #[Y Z 0 0] 25 (0,0))):=(qh _ _ _ _ (show (z (B w))≠z (B w)+1 by omega)).trans Ju.out;have Jv:=ae (B9.setCell (p:=(Q (z (B w)+1) 0 Z)) (D0 _) (Y a7 (i+1) c7));refine⟨⟨i+1,a7,c7,_,by omega,by go_num,by rw[eL,DE];rfl,?_,Jd,Je,Jb,Jv⟩,by simp[intOf];omega⟩;show(R++[((a8 S f x,Y aa na ca,Y al nl ZP):DR)]).map (·.1)=_;rw[KI,Ht.out,SN,HX.out];simp
  ·have e:i=n:=by omega
   subst e;have Jk:A wr (Q (z (B w)) 0 Z)=T (Y Z 0 0):=by simp[World.cell?,fd.out]
   have rf0:wr.frozen? (Q (z (B w)) 0 Z)=ZA:=by simp[World.frozen?,fd.out]
   have rl0:=ah fd.out;have ac0:A wr (Q (z (B w)+1) 0 Z)=T (Y P i c5):=by simp[World.cell?,k4.out]
   have al0:=ah k4.out;go_wp2;refine bp (v:=ZG #[Y P i c5]) (by simp[results,results47,go_sem,Jk]) rfl ?_;subst DE;refine⟨P,c5,R,rfl,?_,?_,?_⟩;{exact(D4.set (p:=(Q (z (B w)) 0 Z)) (e:=25) (.inl (show (z (B w))<z (B w)+2 by omega)) _).mono (by omega)};{rw[Ht.out,LQ (by rw[<-HN.out];exact nX _)];rfl};{exact B4.setCell (p:=(Q (z (B w)) 0 Z)) ly _}
end
def uY (w:E)(S:Spc)(b:List Ent × jm)(e:Ending)(f:E):Prop:=∃a c R g,e=ZF (.tuple #[ZG #[Y a R.length c],g])/\DRow f (z (B w)) (Y a R.length c) R/\R.map (·.1)=aT S b.1/\nF w f b.2 g/\Below (z (B w)) w f
section
variable {S:Spc}{a0 a1:Option Addr}{c0 c1:Nat}
theorem uZ (w:E)(nm:ByteArray)(x:SlSource w a0 S.n0 S.f0)(u:SlTarget w a1 S.n1 S.f1)(hn0:S.n0<=1048576)(hn1:S.n1<=1048576)(o:∀i,i<S.n1->aX (S.f1 i))(G:∀i,i<S.n1->∀j,j<(S.f1 i).h->((S.f1 i).u j).s.size<=maxLen)(m:¬ (bq S.n0 S.f0 S.n1 S.f1=0/\aB nm=ZD)):Calls Pg 11 #[ZG #[Y a0 S.n0 c0,Y a1 S.n1 c1],U nm] w λe O=>uY w S ([],⟨9,⟨#[]⟩,[]⟩) e O:=by
 have ZT:=ae (λ(q:E) (b:Hid (Below (z (B w)) w q))=>eo a0 S.n0 c0 S.f0 a1 S.n1 c1 S.f1 q (by omega) (by omega) (x.aa b ly) (u.aa b ly) o G);obtain⟨ZR,t⟩:∃ZR,ZR=bq S.n0 S.f0 S.n1 S.f1:=⟨_,rfl⟩
 rw[<-t] at ZT m;have ZQ:=ae m;clear x u o G t m hn0 hn1;go_enter func11,ntmps11;go_wp2_with fail;generalize H:World.alloc (World.alloc (World.alloc w _) _) _=q;obtain⟨b,L,l,f,-⟩:=nb3 H;replace f:Hid (q.heap[z (B w)+1+1]?=_):=f;clear H;refine(ZT q b).mono ?_;clear ZT;rintro e C ⟨rfl,g⟩;replace b:=ae (b.trans (g.mono b.size));replace l:=ae ((g.block _ (ah l)).trans l);replace f:=ae ((g.block _ (ah f)).trans f);clear g L;by_cases ZS:ZR=0;case' pos =>
  have ZP:Hid (aB nm=ZA):=by
   cases h:aB nm with
   |false=>rfl
   |true=>exact absurd ⟨ZS,h⟩ ZQ
  subst ZS;go_wp2_with fail;refine(cV nm C).mono ?_;rintro e y ⟨D,g⟩;rw[ZP.out] at D;subst D;replace b:=ae (b.trans (g.mono b.size));replace l:=ae ((g.block _ (ah l)).trans l);replace f:=ae ((g.block _ (ah f)).trans f);clear g
 case' neg =>
  obtain⟨y,M⟩:∃v,v=C:=⟨_,rfl⟩
  subst M
 all_goals
  have ZN:=b;have n:=l.out;obtain⟨rl,r0,r1,ZO,r⟩:=bP f.out;have rf0:=r 0;have rf1:=r 1;have rf2:=r 2;have K:A y (Q (z (B w)+1) 0 Z)=T (Y Z 0 0):=by simp[World.cell?,n]
  have pf0:y.frozen? (Q (z (B w)+1) 0 Z)=ZA:=by simp[World.frozen?,n]
  have pl:=ah n;clear r n l f;go_wp2_with fail;refine bp (v:=.tuple #[ZG #[Y Z 0 0],ZG #[J I 9,U ⟨#[]⟩,Y Z 0 0]]) (by simp[results,results11,go_sem,K,r0,r1,ZO]) rfl ⟨Z,0,[],_,rfl,ji _ _,rfl,jJ _ _ _ _,?_⟩;exact(((ZN.setCell (p:=(Q (z (B w)+1) 0 Z)) (D0 _) _).setCell (p:=(Q (z (B w)+1+1) 0 Z)) (by show (z (B w))<=z (B w)+1+1;omega) _).setCell (p:=(Q (z (B w)+1+1) 1 Z)) (by show (z (B w))<=z (B w)+1+1;omega) _).setCell (p:=(Q (z (B w)+1+1) 2 Z)) (by show (z (B w))<=z (B w)+1+1;omega) _
theorem wk (w:E)(nm:ByteArray)(fd:SlSource w a0 S.n0 S.f0)(ex:SlTarget w a1 S.n1 S.f1)(hn0:S.n0<=1048576)(hn1:S.n1<=1048576)(W:∀i,i<S.n1->aX (S.f1 i))(hs:∀i,i<S.n1->∀j,j<(S.f1 i).h->((S.f1 i).u j).s.size<=maxLen)(h1:bq S.n0 S.f0 S.n1 S.f1=0)(h2:aB nm=ZD):Calls Pg 11 #[ZG #[Y a0 S.n0 c0,Y a1 S.n1 c1],U nm] w λe w'=>uY w S (aV S nm) e w':=by
 have HC:=ae (λ(W0:E) (A0:Hid (Below (z (B w)) w W0))=>eo a0 S.n0 c0 S.f0 a1 S.n1 c1 S.f1 W0 (by omega) (by omega) (fd.aa A0 ly) (ex.aa A0 ly) W hs);have V0:=ae fd;have V1:=ae ex;have Hc:=ae W;have ur:=ae (SpcOk.of h1);have H1:=ae h1;have H2:=ae h2;rw[h1] at HC;obtain⟨bb,ZN⟩:∃bb,bb=aV S nm:=⟨_,rfl⟩
 obtain⟨bt,o,-⟩:=lD S nm;rw[<-ZN] at bt o ⊢;unfold aV at ZN;rw[j6 ⟨h1,h2⟩] at ZN;have ld:=ae ZN;have Fk:=ae bt;have DS:=ae o;clear fd ex W hs hn0 hn1 h1 h2 ZN bt o;go_enter func11,ntmps11;go_wp2_with fail;generalize hW:World.alloc (World.alloc (World.alloc w _) _) _=W0;obtain⟨A0,kS,kA,kR,-⟩:=nb3 hW;replace kR:Hid (W0.heap[z (B w)+1+1]?=_):=kR;clear hW;refine(HC W0 A0).mono ?_;clear HC;rintro e w1 ⟨rfl,n⟩;have B1:=ae (A0.trans (n.mono A0.size));have n9:=ae ((n.block _ (ah kA)).trans kA);have DE:=ae ((n.block _ (ah kR)).trans kR);have th:=ae ((n.block _ (ah kS)).trans kS);clear n;go_wp2_with fail;refine(cV nm w1).mono ?_;rintro e w2 ⟨he,n⟩;rw[H2.out] at he;subst he;have B2:=ae (B1.trans (n.mono B1.size));have n8:=ae ((n.block _ (ah n9)).trans n9);have ph:=ae ((n.block _ (ah DE)).trans DE);have n7:=ae ((n.block _ (ah th)).trans th);have hsl:z (B w)<z (B w2):=ah n7.out;have q0:A w2 (Q (z (B w)) 0 Z)=T (Y a0 S.n0 c0):=by simp[World.cell?,n7.out]
 have q1:A w2 (Q (z (B w)) 1 Z)=T (Y a1 S.n1 c1):=by simp[World.cell?,n7.out]
 clear n;go_wp2_with fail;refine(vZ w2 ⟨V0.aa B2 ly,V1.aa B2 ly,ur⟩ nm H2).mono ?_;rintro e f ⟨hb,rfl,l,n⟩;have B3:=ae (B2.trans (n.mono B2.size));have u:=ae ((n.block _ (ah n8)).trans n8);have t:=ae ((n.block _ (ah ph)).trans ph);clear q0 q1 n;have ZP:z (B w)<=z (B f):=B3.size;have ZR:=wj S 60 [] [] nm;rcases hl:aP S 60 [] [] nm with ⟨y,x⟩|c|d
 ·rw[hl] at l;obtain⟨r,m⟩:∃r,r=dk x:=⟨_,rfl⟩
  have e:bb=(y,r):=by rw[ld.out,hl,m]
  subst e;obtain⟨L,md,or,st,g,DQ,Bk,At,hrel⟩:=l;obtain⟨O,b0,b1,b2,b3,-,b5,b6,b7,b8,-⟩:=g.D;have Fm:Hid (ShAt (z (B w2)) f hb (Y a0 S.n0 c0) (Y a1 S.n1 c1) md or L y):=⟨O,b0,b1,b2,b3,DQ,Bk,At⟩
  have Fd:=ae hrel;have n6:r.R=[]:=by rw[m];unfold dk;split<;>rfl
  rw[<-m] at b5 b6;have mv:=ae n6;have SQ:Hid (∀V:E,V.heap[hb]?=f.heap[hb]?->A V (Q hb 5 Z)=T (J I r.M)/\A V (Q hb 6 Z)=T (U r.H)/\A V (Q hb 7 Z)=T (Y Z 0 0)):=λV h=>⟨(cq (a:=(Q hb 5 Z)) h).trans b5,(cq (a:=(Q hb 6 Z)) h).trans b6,(cq (a:=(Q hb 7 Z)) h).trans b7⟩
  have ZK:hb≠z (B w)+1:=λe=>by have:=ai g (e ▸ u.out);exact absurd this (by decide)
  have G:hb≠z (B w)+1+1:=λe=>by have:=ai g (e ▸ t.out);exact absurd this (by decide)
  have CM:Hid (Calls Pg 47 #[.pointer (T (Q hb 0 Z))] f.drew λe w'=>∃a c R,e=ZF (ZG #[Y a R.length c])/\DRow w' (z (B f)) (Y a R.length c) R/\R.map (·.1)=aT S y/\Below (z (B f)) f w'):=by have hd:Below (z (B f)) f f.drew:=br.drew;have h:=yW (z (B w2)) f.drew hb md or L y (Fm.aa hd ly) Fd Fk DS (V0.aa (B3.trans (hd.mono ZP)) ly) (V1.aa (B3.trans (hd.mono ZP)) ly) ur Hc;exact h.mono λe w' ⟨a,c,R,h1,h2,h3,h4⟩=>⟨a,c,R,h1,h2,h3,h4.os,h4.tape,h4.output,h4.size,h4.block⟩
  clear m n6 hrel g DQ Bk At b0 b1 b2 b3 hl ZR;go_wp2_with fail;refine wp_region_held_drew (S:=λV=>A V (Q hb 5 Z)=T (J I r.M)/\A V (Q hb 6 Z)=T (U r.H)/\A V (Q hb 7 Z)=T (Y Z 0 0)) (by kernel_rfl) (SQ _ rfl) ?_;intro hS;have ZL:=ae hS;clear hS b5 b6 b7 b8;refine ba 0 (v:=?_) rfl rfl (by kernel_rfl) (λ_ _ _ h=>h) rfl ?_ ZL ?_;rotate_left
  ·(rintro wz ⟨s0,s1,s2⟩;go_simp)
   (try with_reducible rfl)
  (try simp only[Act.put,nzL])
  iterate 4
   refine ba 2 (v:=?_) rfl rfl (by kernel_rfl) (λ_ _ _ h=>h) rfl ?_ ZL ?_;rotate_left
   ·(rintro wz ⟨s0,s1,s2⟩;go_simp)
    (try with_reducible rfl)
   (try simp only[Act.put,nzL])
  refine aN (i:=1) rfl (by kernel_rfl) λK C=>?_;go_simp;go_at_call 47;refine CM.mono ?_;rintro e w4 ⟨X,c5,R,rfl,sm,qr,ro⟩;have D4:=ae sm;have M4:=ae qr;have B4:=ae ro;clear sm qr ro ZL;have ZL:=ae (SQ w4 (B4.block _ O));refine C _ _ ZL ?_;clear C K
  (try simp only[Act.put,nzL])
  refine aN (i:=6) rfl (by kernel_rfl) λK C=>?_;go_simp;go_at_call 46;have CC:=qd w4 r Z 0 (z (B w4)) (by rw[mv.out];exact⟨rfl,.inl ⟨rfl,rfl⟩⟩) (by rw[mv.out];exact IH _);rw[mv.out] at CC;refine CC.mono ?_;clear CC;rintro e P ⟨rv,rfl,⟨ZS,D,rfl,ZM⟩,M⟩;have ZT:=ae ZM;have H:=ae M;have ZJ:z (B f)<=z (B w4):=B4.size;have q:=(H.block _ (lj (ah u) ZJ)).trans ((B4.block _ (ah u)).trans u);have ZO:=(H.block _ (lj (ah t) ZJ)).trans ((B4.block _ (ah t)).trans t);obtain⟨rl,r0,r1,r2,ZQ⟩:=bP ZO;have Hg:=ZQ 0;have Hd:=ZQ 1;have Hh:=ZQ 2;have p0:A P (Q (z (B w)+1) 0 Z)=T (Y Z 0 0):=by simp[World.cell?,q]
  have Hf:P.frozen? (Q (z (B w)+1) 0 Z)=ZA:=by simp[World.frozen?,q]
  have pl:=ah q;have Hb:z (B w)+1<z (B f):=ah u.out;have GS:z (B w)+1+1<z (B f):=ah t.out;have aq:=(H.block hb (lj O ZJ)).trans (B4.block hb O);clear ZQ q ZO ZL ZM M;have ZL:=ae (SQ P aq);refine C _ _ ZL ?_;clear C K
  (try simp only[Act.put,nzL])
  refine aN (i:=7) rfl (by kernel_rfl) λK C=>?_;go_simp;have He:=ae (SQ (P.setCell (Q (z (B w)+1) 0 Z) (Y X R.length c5)) ((qh _ _ _ _ ZK).trans aq));refine C _ _ He ?_;clear C K
  (try simp only[Act.put])
  have Ha:=ae (SQ ((((P.setCell (Q (z (B w)+1) 0 Z) (Y X R.length c5)).setCell (Q (z (B w)+1+1) 0 Z) (J I r.M)).setCell (Q (z (B w)+1+1) 1 Z) (U r.H)).setCell (Q (z (B w)+1+1) 2 Z) (Y ZS r.R.length D)) ((qh _ _ _ _ G).trans ((qh _ _ _ _ G).trans ((qh _ _ _ _ G).trans ((qh _ _ _ _ ZK).trans aq)))));refine aN (i:=8) rfl (by kernel_rfl) λK C=>?_;go_simp;refine C _ _ Ha ?_;clear C K
  (try simp only[Act.put])
  refine wpAnyH_done (by kernel_rfl) ?_ _;have OF:=ae (aA (aA (aA (aA ZT (b:=z (B w)+1) (λe=>by have:=(af ZT _ e).1;omega) 0 (Y X R.length c5)) (b:=z (B w)+1+1) (λe=>by have:=(af ZT _ e).1;omega) 0 (J I r.M)) (b:=z (B w)+1+1) (λe=>by have:=(af ZT _ e).1;omega) 1 (U r.H)) (b:=z (B w)+1+1) (λe=>by have:=(af ZT _ e).1;omega) 2 (Y ZS r.R.length D));have DF:=ae (((((D4.aa H ly).set (p:=(Q (z (B w)+1) 0 Z)) (e:=25) (.inl (by show (z (B w))+1<z (B f);omega)) (Y X R.length c5)).set (p:=(Q (z (B w)+1+1) 0 Z)) (e:=25) (.inl (by show (z (B w))+1+1<z (B f);omega)) (J I r.M)).set (p:=(Q (z (B w)+1+1) 1 Z)) (e:=25) (.inl (by show (z (B w))+1+1<z (B f);omega)) (U r.H)).set (p:=(Q (z (B w)+1+1) 2 Z)) (e:=25) (.inl (by show (z (B w))+1+1<z (B f);omega)) (Y ZS r.R.length D));have BF:=ae (((((B3.trans ((B4.trans (H.mono ZJ)).mono ZP)).setCell (p:=(Q (z (B w)+1) 0 Z)) (by show (z (B w))<=z (B w)+1;omega) (Y X R.length c5)).setCell (p:=(Q (z (B w)+1+1) 0 Z)) (by show (z (B w))<=z (B w)+1+1;omega) (J I r.M)).setCell (p:=(Q (z (B w)+1+1) 1 Z)) (by show (z (B w))<=z (B w)+1+1;omega) (U r.H)).setCell (p:=(Q (z (B w)+1+1) 2 Z)) (by show (z (B w))<=z (B w)+1+1;omega) (Y ZS r.R.length D));go_wp2;refine bp (v:=.tuple #[ZG #[Y X R.length c5],ZG #[J I r.M,U r.H,Y ZS r.R.length D]]) (by simp[results,results11,go_sem,p0,r0,r1,r2]) rfl ⟨X,c5,R,_,rfl,DF.mono ZP,M4,⟨ZS,D,rfl,aF OF (by omega)⟩,BF⟩
 case' inr.inl =>
  rw[hl] at l;obtain⟨r,m⟩:∃r,r=iR c:=⟨_,rfl⟩
  have e:bb=([],r):=by rw[ld.out,hl,m];rfl
  subst e;obtain⟨a,k,u0,u1,md,or,st,g,ho⟩:=l;have o:r.R.length<=1000:=by rw[m];exact nL (ZR c hl) (by simp)
  have l:c.length=r.R.length:=by rw[m];rfl
  rw[<-m,l] at g ho;clear m l
 case' inr.inr =>
  rw[hl] at l;obtain⟨r,m⟩:∃r,r=iS d:=⟨_,rfl⟩
  have e:bb=([],r):=by rw[ld.out,hl,m];rfl
  subst e;obtain⟨u0,u1,md,or,st,g,ho⟩:=l;have o:r.R.length<=1000:=by rw[m];exact IH _
  have l:0=r.R.length:=by rw[m];rfl
  rw[<-m,l] at g ho;clear m l
 all_goals
  obtain⟨O,-,-,-,-,-,b5,b6,b7,b8,-⟩:=g.D;have G8:=ae (qd f r _ _ _ ho o);have ZK:hb≠z (B w)+1:=λe=>by have:=ai g (e ▸ u.out);exact absurd this (by decide)
  have G:hb≠z (B w)+1+1:=λe=>by have:=ai g (e ▸ t.out);exact absurd this (by decide)
  clear hl ZR g ho o;go_wp2_with fail;refine G8.mono ?_;rintro e P ⟨rv,rfl,⟨ZS,D,rfl,ZM⟩,M⟩;have ZT:=ae ZM;have H:=ae M;have q:=(H.block _ (ah u)).trans u;have ZO:=(H.block _ (ah t)).trans t;obtain⟨rl,r0,r1,r2,ZQ⟩:=bP ZO;have Hg:=ZQ 0;have Hd:=ZQ 1;have Hh:=ZQ 2;have p0:A P (Q (z (B w)+1) 0 Z)=T (Y Z 0 0):=by simp[World.cell?,q]
  have Hf:P.frozen? (Q (z (B w)+1) 0 Z)=ZA:=by simp[World.frozen?,q]
  have pl:=ah q;have Hb:z (B w)+1<z (B f):=ah u.out;have GS:z (B w)+1+1<z (B f):=ah t.out;have OF:=ae (aA (aA (aA (aA ZT (b:=z (B w)+1) (λe=>by have:=(af ZT _ e).1;omega) 0 (Y Z 0 0)) (b:=z (B w)+1+1) (λe=>by have:=(af ZT _ e).1;omega) 0 (J I r.M)) (b:=z (B w)+1+1) (λe=>by have:=(af ZT _ e).1;omega) 1 (U r.H)) (b:=z (B w)+1+1) (λe=>by have:=(af ZT _ e).1;omega) 2 (Y ZS r.R.length D));have BF:=ae (((((B3.trans (H.mono ZP)).setCell (p:=(Q (z (B w)+1) 0 Z)) (by show (z (B w))<=z (B w)+1;omega) (Y Z 0 0)).setCell (p:=(Q (z (B w)+1+1) 0 Z)) (by show (z (B w))<=z (B w)+1+1;omega) (J I r.M)).setCell (p:=(Q (z (B w)+1+1) 1 Z)) (by show (z (B w))<=z (B w)+1+1;omega) (U r.H)).setCell (p:=(Q (z (B w)+1+1) 2 Z)) (by show (z (B w))<=z (B w)+1+1;omega) (Y ZS r.R.length D));clear ZQ q ZO ZM M b5 b6 b7 b8;go_wp2_with fail;refine bp (v:=.tuple #[ZG #[Y Z 0 0],ZG #[J I r.M,U r.H,Y ZS r.R.length D]]) (by simp[results,results11,go_sem,p0,r0,r1,r2]) rfl ⟨Z,0,[],_,rfl,ji _ _,rfl,⟨ZS,D,rfl,?_⟩,?_⟩
  ·first|exact aF OF (by omega)|(have h:=aF OF (show (z (B w))<=z (B f) by omega);simpa[p0] using h)
  ·first|exact BF|simpa[p0] using BF.out
theorem mV (w:E)(nm:ByteArray)(g:SlSource w a0 S.n0 S.f0)(f:SlTarget w a1 S.n1 S.f1)(hn0:S.n0<=1048576)(hn1:S.n1<=1048576)(b:∀i,i<S.n1->aX (S.f1 i))(l:∀i,i<S.n1->∀j,j<(S.f1 i).h->((S.f1 i).u j).s.size<=maxLen):Calls Pg 11 #[ZG #[Y a0 S.n0 c0,Y a1 S.n1 c1],U nm] w λe m=>uY w S (aV S nm) e m:=by
 by_cases h:bq S.n0 S.f0 S.n1 S.f1=0/\aB nm=ZD;{exact wk w nm g f hn0 hn1 b l h.1 h.2}
 ·have e:aV S nm=([],⟨9,⟨#[]⟩,[]⟩):=by unfold aV;rw[eT h]
  rw[e];exact uZ w nm g f hn0 hn1 b l h
end
