import Derived.Test.YtpmnbjkjpnclaaaGreatDoorPU
import Derived.Test.YtpmnbjkjpnclaaaGreatDoorQJ
set_option maxRecDepth 100000
set_option maxHeartbeats 8000000
set_option linter.unusedSimpArgs false
open Go renaming Addr.mk->Q,Value.slice->Z,Value.string->Y,Obj.cells->N,World->M,World.heap->J,World.cell?->A
open Option renaming none->U,some->T
open Bool renaming false->ZA
open Array renaming size->I
namespace Go.Proofs.YtpmnbjkjpnclaaaGreatDoor.Vp
open Tryz RowKit
variable {x n0 n1 lo:Nat}{f0:Nat->Source}{f1:Nat->Target}{t:ByteArray}{c:List Source}
structure Sml (LS:List Source)(LT:List Target):Prop where
 n0:LS.length<=300
 n1:LT.length<=300
 H:∀i,i<LT.length->(bZ LT i).f<=300/\∀j,j<(bZ LT i).f->((bZ LT i).H j).s.size<=5000
 pos:LS.length<=250/\LT.length<=250/\∀i,i<LT.length->1<=(bZ LT i).f/\(bZ LT i).f<=200
theorem rM:Sml [] []:=⟨by simp,by simp,λi hi=>absurd hi (by simp),by simp,by simp,λi hi=>absurd hi (by simp)⟩
theorem vU{b:List Target}(hl:c.length+b.length<=201)(f:∀y∈b,valid y.H y.f=true):Sml c b:=by
 refine⟨by omega,by omega,λi hi=>?_,by omega,by omega,λi hi=>by
  rw[yc hi];obtain⟨h1,h2,h3⟩:=bP (f _ (gz hi))
  omega⟩
 rw[yc hi];obtain⟨h1,h2,h3⟩:=bP (f _ (gz hi));refine⟨by omega,λj h=>?_⟩;have g:=gP h1 h;unfold aH at g;rw[AI] at g;have hm:aE (b[i].H j).op<=2000:=by unfold aE;split<;>omega
 omega
theorem nW (t:ByteArray)(h:ce n0 f0 n1 f1=0):(bX f0 t n0).length+(keepT f1 t n1).length<=200/\∀y∈keepT f1 t n1,valid y.H y.f=true:=by have H:=SpcOk.of (S:=⟨n0,f0,n1,f1⟩) h;have h0:=kq f0 t n0;have h1:=ku f1 t n1;have hs:n0+n1<=200:=H.av;refine⟨by omega,λy b=>?_⟩;obtain⟨i,hi,rfl⟩:=QP.1 (List.mem_filter.1 b).1;exact H.H i (PE.1 hi)
theorem vV{b:Type}{g:Nat->ByteArray}{F:Nat->b}{x y:b}(k:Nat)(h:y∈fe g F x t k):y=x∨∃j,j<k/\y=F j:=by
 induction k with
 |zero=>cases h
 |succ k c =>
  have h2:y∈fe g F x t k∨y=x∨y=F k:=by
   unfold fe at h;split at h<;>simp only[p8,nD] at h;{rcases h with (h|h)|h;{exact .inl h};{exact .inr (.inl h)};{exact .inr (.inr h)}};{exact h.imp id .inr}
  rcases h2 with h|h|h;{exact(c h).imp id λ⟨j,hj,e⟩=>⟨j,by omega,e⟩};{exact .inl h};{exact .inr ⟨k,by omega,h⟩}
theorem Ga{tx:ByteArray}:Sml (mc n0 f0 n1 f1 t tx) (pa n0 f0 n1 f1 t tx):=by
 by_cases h:o9 n0 f0 n1 f1 t tx=0
 ·rw[mc,pa,p6 h,p6 h];have b:ce n0 f0 n1 f1=0:=UI λa=>by unfold o9 at h;rw[p6 a] at h;cases h
  obtain⟨h1,h2⟩:=nW t b;obtain⟨h3,h4⟩:=sG (bX f0 t n0) ⟨t,tx⟩ t (bX f0 t n0).length;refine vU ?_ h2;unfold re;split;{omega};{rename_i c;rw[cM,h4 (by simpa using c)];simp only[DW];omega}
 {rw[mc,pa,gM h,gM h];exact rM}
theorem Gb{m:Nat}{c:Nat->Ins}:Sml (jy n0 f0 n1 f1 t m c) (mh n0 f0 n1 f1 t m c):=by
 by_cases h:me n0 f0 n1 f1 t (valid c m)=0
 ·rw[jy,mh,p6 h,p6 h];unfold me at h;have n:ce n0 f0 n1 f1=0:=UI λa=>by rw[p6 a] at h;cases h
  have i:valid c m=true:=by
   cases e:valid c m with
   |true=>rfl
   |false=>rw[gM (by omega),p6 (.inr e)] at h;cases h
  obtain⟨h1,h2⟩:=nW t n;generalize keepT f1 t n1=K at h1 h2;obtain⟨h3,h4⟩:=uM (nm1 (bZ K)) (λj=>K.getD j dfT) ⟨t,m,c⟩ t K.length;refine vU ?_ λy b=>?_;{unfold uO mf;split;{omega};{rename_i l;rw[cM,h4 (by simpa using l)];simp only[DW];omega}}
  ·have g:y=⟨t,m,c⟩∨∃j,j<K.length/\y=K.getD j dfT:=by
    unfold uO mf at b;split at b;{exact vV _ b};{rcases p8.1 b with b|b;{exact vV _ b};{exact .inl (nD.1 b)}}
   rcases g with rfl|⟨j,f,rfl⟩
   {exact i};{rw[IA,gq f];exact h2 _ (gz f)}
 {rw[jy,mh,gM h,gM h];exact rM}
theorem Gc:Sml (jx n0 f0 n1 f1 t) (lZ n0 f0 n1 f1 t):=by
 by_cases h:lY n0 f0 n1 f1 t=0
 ·rw[jx,lZ,p6 h,p6 h];have b:ce n0 f0 n1 f1=0:=UI λa=>by unfold lY at h;rw[p6 a] at h;cases h
  exact vU (by have:=(nW t b).1;omega) (nW t b).2
 {rw[jx,lZ,gM h,gM h];exact rM}
open Ca
def DCh (w:M)(R q:Nat)(a0:Option Addr)(n0:Nat)(f0:Nat->Source)(a1:Option Addr)(n1:Nat)(f1:Nat->Target)(e:Ending)(b:M):Prop:=∃(d0:Option Addr) (m0 k0:Nat) (g0:Nat->Source) (d1:Option Addr) (m1 k1:Nat) (g1:Nat->Target),e=.returned (.agg #[Z d0 m0 k0,Z d1 m1 k1])/\(HSg (I (J w)) b d0 m0 g0 d1 m1 g1∨(d0=a0/\m0=n0/\g0=f0/\d1=a1/\m1=n1/\g1=f1))/\∃q':Nat,q'<=q/\Rd b R q'/\Only R w b
structure Ch (E:Option Addr->Nat->(Nat->Source)->Option Addr->Nat->(Nat->Target)->Prop)(xs:List Nat)(w:M)(R:Nat)(W:M)(q m0 k0 m1 k1:Nat)(d0:Option Addr)(g0:Nat->Source)(d1:Option Addr)(g1:Nat->Target):Prop where
 rd:Rd W R q
 o:Only R w W
 sx:W.heap[I (J w)]?=T (N #[Z d0 m0 k0,Z d1 m1 k1] 27 (0,0))
 rx:W.heap[I (J w)+1]?=T (N #[Z U 0 0,Z U 0 0] 27 (0,0))
 sp:QSp (I (J w)) xs W d0 m0 g0 d1 m1 g1∨E d0 m0 g0 d1 m1 g1
 lo:R<I (J w)
section
variable {E:Option Addr->Nat->(Nat->Source)->Option Addr->Nat->(Nat->Target)->Prop}{xs ys:List Nat}{w W W':M}{R q q' m0 k0 m1 k1:Nat}{d0 d1:Option Addr}{g0:Nat->Source}{g1:Nat->Target}
theorem Ch.F (h:Ch E xs w R W q m0 k0 m1 k1 d0 g0 d1 g1)(b:Only R W W')(hR:Rd W' R q')(c:R∈xs):Ch E xs w R W' q' m0 k0 m1 k1 d0 g0 d1 g1:=by have hl:=h.lo;exact⟨hR,h.o.trans b,(b.block _ (ag h.sx) (by omega)).trans h.sx,(b.block _ (ag h.rx) (by omega)).trans h.rx,h.sp.imp (λg=>g.fr (Fr.F b c)) id,h.lo⟩
theorem Ch.aa (h:Ch E xs w R W q m0 k0 m1 k1 d0 g0 d1 g1)(b:Below (I (J W)) W W')(c:R∈xs):Ch E xs w R W' q m0 k0 m1 k1 d0 g0 d1 g1:=h.F (Only.u b) (h.rd.aa b ly) c
theorem QSp.more (h:QSp lo xs W d0 m0 g0 d1 m1 g1)(f:I (J W)<=x):QSp lo (x::xs) W d0 m0 g0 d1 m1 g1:=by
 obtain⟨b,i,g,h1,h2,h3⟩:=h;refine⟨b,i,g,h1,h2,λy c=>?_⟩;rcases AT.1 c with rfl|c;{exact .inr (p7 h2.1 f)};{exact h3 y c}
theorem QSp.less (h:QSp lo (x::xs) W d0 m0 g0 d1 m1 g1):QSp lo xs W d0 m0 g0 d1 m1 g1:=by obtain⟨b,g,f,h1,h2,h3⟩:=h;exact⟨b,g,f,h1,h2,λy c=>h3 y (mq _ c)⟩
theorem Ch.more (h:Ch E xs w R W q m0 k0 m1 k1 d0 g0 d1 g1)(b:I (J W)<=x):Ch E (x::xs) w R W q m0 k0 m1 k1 d0 g0 d1 g1:=⟨h.rd,h.o,h.sx,h.rx,h.sp.imp (λg=>g.more b) id,h.lo⟩
theorem Ch.less (h:Ch E (x::xs) w R W q m0 k0 m1 k1 d0 g0 d1 g1):Ch E xs w R W q m0 k0 m1 k1 d0 g0 d1 g1:=⟨h.rd,h.o,h.sx,h.rx,h.sp.imp (λg=>g.less) id,h.lo⟩
theorem Ch.cells (h:Ch E xs w R W q m0 k0 m1 k1 d0 g0 d1 g1):A W (Q (I (J w)) 0 U)=T (Z d0 m0 k0)/\A W (Q (I (J w)) 1 U)=T (Z d1 m1 k1)/\W.frozen? (Q (I (J w)) 0 U)=ZA/\W.frozen? (Q (I (J w)) 1 U)=ZA/\(I (J w))<I (J W):=by have hb:=h.sx;refine⟨?_,?_,?_,?_,ag hb⟩<;>simp[World.cell?,World.frozen?,hb]
theorem Ch.two (h:Ch E xs w R W q m0 k0 m1 k1 d0 g0 d1 g1)(b:x∈xs)(c:I (J w)+2<=x)(u v:Value):Ch E xs w R ((W.setCell (Q x 0 U) u).setCell (Q x 1 U) v) q m0 k0 m1 k1 d0 g0 d1 g1:=by have B:=((dB (I (J w)+2) W).setCell (p:=(Q x 0 U)) c u).setCell (p:=(Q x 1 U)) c v;have hlo:=h.lo;exact⟨h.rd.low B (by omega),h.o.then (B.mono (by omega)),(B.block _ (by omega)).trans h.sx,(B.block _ (by omega)).trans h.rx,h.sp.imp (λg=>g.fr ((Fr.set b _).trans (Fr.set b _))) id,h.lo⟩
theorem Ch.put{f l0 i l1:Nat}{b c:Option Addr}{l:Nat->Source}{j:Nat->Target}(h:Ch E xs w R W q m0 k0 m1 k1 d0 g0 d1 g1)(m:I (J w)∈xs)(s:QSp (I (J w)) xs W b f l c i j∨E b f l c i j):Ch E xs w R ((W.setCell (Q (I (J w)) 0 U) (Z b f l0)).setCell (Q (I (J w)) 1 U) (Z c i l1)) q f l0 i l1 b l c j:=by have B:=((dB (I (J w)) W).setCell (p:=(Q (I (J w)) 0 U)) ly (Z b f l0)).setCell (p:=(Q (I (J w)) 1 U)) ly (Z c i l1);have far:∀k,k≠I (J w)->((W.setCell (Q (I (J w)) 0 U) (Z b f l0)).setCell (Q (I (J w)) 1 U) (Z c i l1)).heap[k]?=W.heap[k]?:=λk n=>(qh _ _ _ _ n).trans (qh _ _ _ _ n);have r:=h.sx;exact⟨h.rd.low B h.lo,h.o.then B,by simp[World.setCell,CP,r],(far _ (by omega)).trans h.rx,s.imp (λg=>g.fr ((Fr.set m _).trans (Fr.set m _))) id,h.lo⟩
end
theorem rN{w:M}{b c0 c1:Nat}{a0 a1:Option Addr}{g:List TR}{j:List Target}(o:w.ownsRow b 142 2 (Z a0 c.length c0) c.length (c.flatMap bK))(m:TRow w b (Z a1 g.length c1) g)(n:g.map (·.1)=j)(f:Sml c j):HSg b w a0 c.length (dd c) a1 g.length (bZ j):=by
 subst n;refine⟨vt o rfl m rfl f.n0 (by simpa using f.n1) (λr l=>?_),f.pos.1,by simpa using f.pos.2.1,λi hi=>f.pos.2.2 i (by simpa using hi)⟩;obtain⟨i,hi,rfl⟩:=UK l;have e:bZ (g.map (·.1)) i=g[i].1:=by simp[bZ,hi]
 have h:=f.H i (by simpa using hi);rw[e] at h;exact h
theorem vW (R p b n0 c0 n1 c1:Nat)(a0:Option Addr)(f0:Nat->Source)(a1:Option Addr)(f1:Nat->Target)(w:M)(hR:Rd w R p)(hp:p<=18000)(hb:R<b)(hH:HSg b w a0 n0 f0 a1 n1 f1):Calls Tryz.prog 67 #[.pointer (T (Q R 0 U)),.agg #[Z a0 n0 c0,Z a1 n1 c1]] w λe w'=>DCh w R (p+2500) a0 n0 f0 a1 n1 f1 e w':=by
 obtain⟨E,hE⟩:∃E:Option Addr->Nat->(Nat->Source)->Option Addr->Nat->(Nat->Target)->Prop,E=λd0 m0 g0 d1 m1 g1=>d0=a0/\m0=n0/\g0=f0/\d1=a1/\m1=n1/\g1=f1:=⟨_,rfl⟩
 have HE:Hid (∀d0 m0 g0 d1 m1 g1,E d0 m0 g0 d1 m1 g1->d0=a0/\m0=n0/\g0=f0/\d1=a1/\m1=n1/\g1=f1):=λ_ _ _ _ _ _ h=>by rw[hE] at h;exact h
 have f:Hid (∀(V:M) (xs:List Nat) (q m0 k0 m1 k1:Nat) (d0:Option Addr) (g0:Nat->Source) (d1:Option Addr) (g1:Nat->Target),Ch E xs w R V q m0 k0 m1 k1 d0 g0 d1 g1->SlSource V d0 m0 g0/\SlTarget V d1 m1 g1/\m0<=300/\m1<=300/\∀i,i<m1->(g1 i).f<=300/\∀j,j<(g1 i).f->((g1 i).H j).s.size<=5000):=λV xs q m0 k0 m1 k1 d0 g0 d1 g1 h=>by
  rcases h.sp with g|g;{have h1:=g.at.1;exact⟨(h1.sl V (Agr.refl _ _)).1,(h1.sl V (Agr.refl _ _)).2,h1.hn0,h1.hn1,h1.ad⟩};{obtain⟨rfl,rfl,rfl,rfl,rfl,rfl⟩:=HE.out _ _ _ _ _ _ g;have h1:=hH.1.sl V (h.o.agr hb);exact⟨h1.1,h1.2,hH.1.hn0,hH.1.hn1,hH.1.ad⟩}
 have th:=hR.lt;have C0:Hid (Ch E [R,I (J w),I (J w)+1] w R ((w.alloc (N #[Z a0 n0 c0,Z a1 n1 c1] 27)).alloc (N #[Z U 0 0,Z U 0 0] 27)) p n0 c0 n1 c1 a0 f0 a1 f1):=by have B:=((q9 w).alloc ly (N #[Z a0 n0 c0,Z a1 n1 c1] 27)).alloc (by simp) (N #[Z U 0 0,Z U 0 0] 27);exact⟨hR.aa B ly,Only.u B,(((dB (I (J w)+1) (w.alloc (N #[Z a0 n0 c0,Z a1 n1 c1] 27))).alloc (by simp) _).block (I (J w)) (AP _)).trans (nL w _),US w _ _,.inr (by rw[hE];exact⟨rfl,rfl,rfl,rfl,rfl,rfl⟩),th⟩
 clear hE hR hH;go_enter func67,ntmps67;go_wp2_with fail;generalize World.alloc (World.alloc w _) _=W0 at C0 ⊢;refine(au R p 3 _ C0.rd (by omega) (by omega) (by omega)).mono ?_;rintro e w1 ⟨z,rfl,ld,n9,la,ph⟩;have C1:=ae (C0.F ph la (by simp));clear la ph C0;have At:IntKind.i64.wrap (1+z)=1+z:=by rw[p9];omega
 go_wp2_with fail;go_loopw [5] (λv wr=>∃(i:Int) (q m0 k0 m1 k1:Nat) (d0:Option Addr) (g0:Nat->Source) (d1:Option Addr) (g1:Nat->Target),v=.int .i64 i/\0<=i/\i<=3/\(q:Int)+610*i<=(p:Int)+1831/\Hid (Ch E [R,I (J w),I (J w)+1] w R wr q m0 k0 m1 k1 d0 g0 d1 g1)) (λv _=>(intOf v).toNat);case atStart=>exact⟨_,_,_,_,_,_,_,_,_,_,rfl,by omega,by omega,by omega,C1⟩
 case round =>
  clear C1 At ld n9;obtain⟨i,q,m0,k0,m1,k1,d0,g0,d1,g1,rfl,hi0,hi3,hq,ZJ⟩:=hrel;obtain⟨x0,x1,x2,x3,x4⟩:=ZJ.cells;by_cases hi:0<i
  ·have hwi:IntKind.i64.wrap (i - 1)=i - 1:=by rw[p9];omega
   have DH:=ag ZJ.rx;have C3:Hid (Ch E [I (J wr),R,I (J w),I (J w)+1] w R (wr.alloc (N #[Z d0 m0 k0,Z d1 m1 k1] 27)) q m0 k0 m1 k1 d0 g0 d1 g1):=(ZJ.more ly).aa (br.alloc ly _) (by simp);have N3:Hid ((wr.alloc (N #[Z d0 m0 k0,Z d1 m1 k1] 27)).heap[I (J wr)]?=T (N #[Z d0 m0 k0,Z d1 m1 k1] 27 (0,0))):=nL wr _;go_wp2_with fail;generalize World.alloc wr _=W3 at C3 N3 ⊢;refine(au R _ 6 _ C3.rd (by omega) (by omega) (by omega)).mono ?_;rintro e w4 ⟨z,rfl,ld,n9,ro,aq⟩;have C4:=ae (C3.F aq ro (by simp));have N4:=ae ((aq.block _ (ag N3) (by omega)).trans N3);clear ro aq C3 N3;have qr:I (J w)+2<=I (J wr):=by omega
   clear x0 x1 x2 x3 x4 DH ZJ;go_upto_block 2 with fail;generalize (I (J wr))=ZR at C4 N4 qr ⊢;have ZO:Hid (∀(V:M) (q:Nat),Ch E [ZR,R,I (J w),I (J w)+1] w R V q m0 k0 m1 k1 d0 g0 d1 g1->A V (Q (I (J w)) 0 U)=T (Z d0 m0 k0)/\A V (Q (I (J w)) 1 U)=T (Z d1 m1 k1)):=λV q h=>⟨h.cells.1,h.cells.2.1⟩
   obtain⟨-,-,hm0,hm1,bt⟩:=f.out _ _ _ _ _ _ _ _ _ _ _ C4;have ZK:=f;clear f;have FT:Hid (∀i,i<m1->cT (g1 i)):=λi hi=>by have:=(bt i hi).1;unfold cT;omega
   have FL:Hid (∀i,i<m1->∀j,j<(g1 i).f->((g1 i).H j).s.size<=maxLen):=λi hi j hj=>by have:=(bt i hi).2 j hj;unfold maxLen;omega
   clear bt;go_cut [7] (λs7 wx=>∃(cc:Int) (q' H D ZN F:Nat) (ZP:Option Addr) (i0:Nat->Source) (G:Option Addr) (i1:Nat->Target),s7=.int .i64 cc/\q'<=q+605/\Hid (Ch E [ZR,R,I (J w),I (J w)+1] w R wx q' m0 k0 m1 k1 d0 g0 d1 g1)/\Hid (wx.heap[ZR]?=T (N #[Z ZP H D,Z G ZN F] 27 (0,0)))/\Hid (QSp (I (J w)) [ZR,R,I (J w),I (J w)+1] wx ZP H i0 G ZN i1));case first =>
    rcases(show z=0∨z=1∨(1<z) by omega) with rfl|rfl|hz2;case' inr.inr =>
     have hz3:(z == 0)=ZA:=by simp;omega
     have hz4:(z == 1)=ZA:=by simp;omega
    all_goals
     go_wp2_with fail;have l:=ae (C4.aa br.drew (by simp));have r:Hid (w4.drew.heap[ZR]?=T (N #[Z d0 m0 k0,Z d1 m1 k1] 27 (0,0))):=N4.out;refine wp_region_held_drew (S:=λV=>A V (Q (I (J w)) 0 U)=T (Z d0 m0 k0)/\A V (Q (I (J w)) 1 U)=T (Z d1 m1 k1)) (by kernel_rfl) (ZO _ _ l) λhS=>?_;have f:=ae hS;clear hS C4 N4;generalize w4.drew=v4 at l r f ⊢
     iterate 2
      refine bI 0 (v:=?_) rfl rfl (by kernel_rfl) (λ_ _ _ h=>h) rfl ?_ f ?_;rotate_left
      ·(rintro ZM ⟨ZI,s1⟩;go_simp)
       (try with_reducible rfl)
      (try simp only[Act.put,nzL])
    focus
     refine bI 5 (v:=?_) rfl rfl (by kernel_rfl) (λ_ _ _ h=>h) rfl ?_ f ?_;rotate_left
     ·(rintro ZM ⟨ZI,s1⟩;go_simp)
      (try with_reducible rfl)
     (try simp only[Act.put,nzL])
     refine bI 8 (v:=?_) rfl rfl (by kernel_rfl) (λ_ _ _ h=>h) rfl ?_ f ?_;rotate_left
     ·(rintro ZM ⟨ZI,s1⟩;go_simp)
      (try with_reducible rfl)
     (try simp only[Act.put,nzL])
     refine aS (i:=2) rfl (by kernel_rfl) λK m=>?_;go_simp;go_at_call 40;refine(au R _ 6 _ l.rd (by omega) (by omega) (by omega)).mono ?_;rintro e v5 ⟨y,rfl,X,mv,hR,n⟩;obtain⟨k,rfl⟩:=AS X;replace r:=ae ((n.block _ (ag r) (by omega)).trans r);replace l:=ae (l.F n hR (by simp));clear hR n f;have f:=ae (ZO _ _ l);refine m _ _ f ?_;clear m K
     (try simp only[Act.put,nzL])
     refine bI 3 (v:=Y ((⟨#[97,98,99,100,101,102]⟩:ByteArray).extract k 6)) rfl rfl (by kernel_rfl) (λ_ _ _ h=>h) rfl ?_ f ?_
     ·intro ZM u
      go_simp;intro h;omega
     (try simp only[Act.put,nzL])
     obtain⟨s,hs⟩:∃s:ByteArray,s=(⟨#[97,98,99,100,101,102]⟩:ByteArray).extract k 6:=⟨_,rfl⟩
     have DQ:1<=s.size:=by rw[hs,RQ];have e:(⟨#[97,98,99,100,101,102]⟩:ByteArray).size=6:=rfl;rw[e];omega
     rw[<-hs];clear hs X mv;refine bI 4 (v:=Y (s.extract 0 1)) rfl rfl (by kernel_rfl) (λ_ _ _ h=>h) rfl ?_ f ?_
     ·intro ZM u
      go_simp;intro h;omega
     (try simp only[Act.put,nzL])
     generalize s.extract 0 1=kn;clear DQ;refine aS (i:=6) rfl (by kernel_rfl) λK m=>?_;go_simp;go_at_call 90;refine(gX R _ _ l.rd (by omega)).mono ?_;rintro e v7 ⟨t,rfl,C,q7,hq7,hR,n⟩;replace r:=ae ((n.block _ (ag r) (by omega)).trans r);replace l:=ae (l.F n hR (by simp));clear hR n f;have f:=ae (ZO _ _ l);refine m _ _ f ?_;clear m K
     (try simp only[Act.put,nzL])
     refine bI 7 (v:=Y (t++⟨#[32]⟩)) rfl rfl (by kernel_rfl) (λ_ _ _ h=>h) rfl ?_ f ?_
     ·intro ZM u
      go_simp;omega
     (try simp only[Act.put,nzL])
     obtain⟨tt,dg⟩:∃tt:ByteArray,tt=t++⟨#[32]⟩:=⟨_,rfl⟩
     have Bk:tt.size<=9:=by have e:(⟨#[32]⟩:ByteArray).size=1:=rfl;rw[dg,IH,e];omega
     rw[<-dg];clear dg C;refine aS (i:=9) rfl (by kernel_rfl) λK m=>?_;go_simp;go_at_call 87;refine(ef R _ _ l.rd (by omega)).mono ?_;rintro e v8 ⟨t2,rfl,ur,hR,n⟩;replace r:=ae ((n.block _ (ag r) (by omega)).trans r);replace l:=ae (l.F n hR (by simp));clear hR n f;have f:=ae (ZO _ _ l);refine m _ _ f ?_;clear m K
     (try simp only[Act.put,nzL])
     refine bI 10 (v:=Y (tt++t2)) rfl rfl (by kernel_rfl) (λ_ _ _ h=>h) rfl ?_ f ?_
     ·intro ZM u
      go_simp;omega
     (try simp only[Act.put,nzL])
     generalize tt++t2=tx;clear Bk ur;refine aS (i:=11) rfl (by kernel_rfl) λK m=>?_;go_simp;go_at_call 33;refine(uR d0 m0 k0 g0 d1 m1 k1 g1 kn tx _ (by omega) (by omega) (ZK _ _ _ _ _ _ _ _ _ _ _ l).1 (ZK _ _ _ _ _ _ _ _ _ _ _ l).2.1 FT FL).mono ?_;rintro e W ⟨v0,v1,RT,rfl,ZQ,C,ZL,O⟩;obtain⟨ZP,D,rfl⟩:=aU ZQ;obtain⟨G,F,rfl⟩:=aU C.i;have SM:=rN ZQ C ZL Ga;generalize (mc m0 g0 m1 g1 kn tx).length=H at SM ⊢;generalize RT.length=ZN at SM ⊢;generalize dd (mc m0 g0 m1 g1 kn tx)=i0 at SM;generalize bZ (pa m0 g0 m1 g1 kn tx)=i1 at SM;clear ZQ C ZL
    rotate_left;focus
     refine aS (i:=2) rfl (by kernel_rfl) λK m=>?_;go_simp;go_at_call 87;refine(ef R _ _ l.rd (by omega)).mono ?_;rintro e v5 ⟨t,rfl,C,hR,n⟩;clear C;replace r:=ae ((n.block _ (ag r) (by omega)).trans r);replace l:=ae (l.F n hR (by simp));clear hR n f;have f:=ae (ZO _ _ l);refine m _ _ f ?_;clear m K
     (try simp only[Act.put,nzL])
     refine aS (i:=3) rfl (by kernel_rfl) λK m=>?_;go_simp;go_at_call 35;refine(uS d0 m0 k0 g0 d1 m1 k1 g1 t _ (by omega) (by omega) (ZK _ _ _ _ _ _ _ _ _ _ _ l).1 (ZK _ _ _ _ _ _ _ _ _ _ _ l).2.1 FT FL).mono ?_;rintro e W ⟨v0,v1,RT,rfl,ZQ,C,ZL,O⟩;obtain⟨ZP,D,rfl⟩:=aU ZQ;obtain⟨G,F,rfl⟩:=aU C.i;have SM:=rN ZQ C ZL Gc;generalize (jx m0 g0 m1 g1 t).length=H at SM ⊢;generalize RT.length=ZN at SM ⊢;generalize dd (jx m0 g0 m1 g1 t)=i0 at SM;generalize bZ (lZ m0 g0 m1 g1 t)=i1 at SM;clear ZQ C ZL
    rotate_left;focus
     refine bI 5 (v:=?_) rfl rfl (by kernel_rfl) (λ_ _ _ h=>h) rfl ?_ f ?_;rotate_left
     ·(rintro ZM ⟨ZI,s1⟩;go_simp)
      (try with_reducible rfl)
     (try simp only[Act.put,nzL])
     refine aS (i:=2) rfl (by kernel_rfl) λK m=>?_;go_simp;go_at_call 40;refine(au R _ 8 _ l.rd (by omega) (by omega) (by omega)).mono ?_;rintro e v5 ⟨y,rfl,X,mv,hR,n⟩;obtain⟨k,rfl⟩:=AS X;replace r:=ae ((n.block _ (ag r) (by omega)).trans r);replace l:=ae (l.F n hR (by simp));clear hR n f;have f:=ae (ZO _ _ l);refine m _ _ f ?_;clear m K
     (try simp only[Act.put,nzL])
     refine aS (i:=3) rfl (by kernel_rfl) λK m=>?_;go_simp;go_at_call 104;refine(iQ k (by omega) _).mono ?_;rintro e v7 ⟨rfl,O⟩;have hR:=l.rd.aa O ly;have n:=Only.u (b:=R) O;clear O;replace r:=ae ((n.block _ (ag r) (by omega)).trans r);replace l:=ae (l.F n hR (by simp));clear hR n f;have f:=ae (ZO _ _ l);refine m _ _ f ?_;clear m K
     (try simp only[Act.put,nzL])
     refine bI 4 (v:=?_) rfl rfl (by kernel_rfl) (λ_ _ _ h=>h) rfl ?_ f ?_;rotate_left
     ·(rintro ZM ⟨ZI,s1⟩;go_simp)
      (try with_reducible rfl)
     (try simp only[Act.put,nzL])
     refine aS (i:=6) rfl (by kernel_rfl) λK m=>?_;go_simp;go_at_call 124;have hs7:=l.o.size;refine(jt R _ _ l.rd (by omega)).mono ?_;rintro e v8 ⟨L,g,c,rfl,hI,hL1,hL2,fd,q8,hq8,hR,n⟩;have SI:=ae (show SlIns v8 (T (Q g 0 U)) L.length (dn L) from .inr ⟨g,0,rfl,hI.lt.2,hI.at⟩);have FI:Hid (∀i,i<L.length->(dn L i).s.size<=maxLen):=λi hi=>by have:=mB fd i hi;unfold maxLen;omega
     clear hI fd;replace r:=ae ((n.block _ (ag r) (by omega)).trans r);replace l:=ae (l.F n hR (by simp));clear hR n f;have f:=ae (ZO _ _ l);refine m _ _ f ?_;clear m K
     (try simp only[Act.put,nzL])
     refine aS (i:=7) rfl (by kernel_rfl) λK m=>?_;go_simp;go_at_call 34;refine(uZ d0 m0 k0 g0 d1 m1 k1 g1 _ (T (Q g 0 U)) L.length c (dn L) _ (by omega) (by omega) (by omega) (ZK _ _ _ _ _ _ _ _ _ _ _ l).1 (ZK _ _ _ _ _ _ _ _ _ _ _ l).2.1 SI FT FL FI).mono ?_;rintro e W ⟨v0,v1,RT,rfl,ZQ,C,ZL,O⟩;clear SI FI;obtain⟨ZP,D,rfl⟩:=aU ZQ;obtain⟨G,F,rfl⟩:=aU C.i;have SM:=rN ZQ C ZL Gb;generalize (⟨#[116]⟩:ByteArray)++⟨#[dig k]⟩=t at SM ⊢;generalize (jy m0 g0 m1 g1 t L.length (dn L)).length=H at SM ⊢;generalize RT.length=ZN at SM ⊢;generalize dd (jy m0 g0 m1 g1 t L.length (dn L))=i0 at SM;generalize bZ (mh m0 g0 m1 g1 t L.length (dn L))=i1 at SM;clear ZQ C ZL
    all_goals
     have hz6:=O.size;have hw5:=l.o.size;have DS:=ag r.out;have C6:=ae (l.aa O (by simp));have N6:=ae ((O.block ZR DS).trans r)
     have Q6:=ae (QSp.new (lo:=I (J w)) (xs:=[ZR,R,I (J w),I (J w)+1]) SM (by omega) (λx hx=>by
      simp only[AT,nj,QZ] at hx
      omega))
     clear O l r f SM;have f:=ae (ZO _ _ C6);refine m _ _ f ?_;clear m K
     (try simp only[Act.put,nzL])
     iterate 3
      refine bI 4 (v:=?_) rfl rfl (by kernel_rfl) (λ_ _ _ h=>h) rfl ?_ f ?_;rotate_left
      ·(rintro ZM ⟨ZI,s1⟩;go_simp)
       (try with_reducible rfl)
      (try simp only[Act.put,nzL])
     have P:=N6.out;have y0:W.frozen? (Q ZR 0 U)=ZA:=by simp[World.frozen?,P]
     have y1:W.frozen? (Q ZR 1 U)=ZA:=by simp[World.frozen?,P]
     have y2:=ag P;have y3:A W (Q ZR 0 U)=T (Z d0 m0 k0):=by simp[World.cell?,P]
     have y4:A W (Q ZR 1 U)=T (Z d1 m1 k1):=by simp[World.cell?,P]
     clear P;have C7:=ae (C6.two (x:=ZR) (by simp) qr (Z ZP H D) (Z G ZN F));have N7:Hid (((W.setCell (Q ZR 0 U) (Z ZP H D)).setCell (Q ZR 1 U) (Z G ZN F)).heap[ZR]?=T (N #[Z ZP H D,Z G ZN F] 27 (0,0))):=by have h1:=bW (j:=1) (bW (j:=0) N6 (Z ZP H D)) (Z G ZN F);exact h1
     have Q7:=ae (Q6.fr ((Fr.set (x:=ZR) (j:=0) (by simp) (Z ZP H D)).trans (Fr.set (x:=ZR) (j:=1) (by simp) (Z G ZN F))));refine rh 4 rfl rfl (by kernel_rfl) λK m=>?_;go_simp;clear f;have f:=ae (ZO _ _ C7);refine m _ _ f ?_;clear m K
     (try simp only[Act.put,nzL])
     refine rh 4 rfl rfl (by kernel_rfl) λK m=>?_;go_simp;refine m _ _ f ?_;clear m K
     (try simp only[Act.put,nzL])
     refine wpAnyH_done (by kernel_rfl) ?_ _;go_wp2;go_meet;exact⟨_,_,_,_,_,_,_,_,_,_,rfl,by omega,C7,N7,Q7⟩
   case rest =>
   clear C4 N4 ZO FT FL;obtain⟨cc,q',H,D,ZN,F,ZP,i0,G,i1,rfl,hq',C8,N8,Q8⟩:=hcut;generalize wc=W8 at C8 N8 Q8 ⊢;obtain⟨x0,x1,x2,x3,x4⟩:=C8.cells;have P:=N8.out;have y3:A W8 (Q ZR 0 U)=T (Z ZP H D):=by simp[World.cell?,P]
   have y4:A W8 (Q ZR 1 U)=T (Z G ZN F):=by simp[World.cell?,P]
   clear P;by_cases sm:cc=0;{subst sm;have C9:=ae ((C8.put (l0:=D) (l1:=F) (by simp) (.inl Q8)).less);go_wp2;exact⟨⟨_,_,_,_,_,_,_,_,_,_,rfl,by omega,by omega,by omega,C9⟩,by simp only[intOf];omega⟩}
   ·have hcb:(cc == 0)=ZA:=by simpa using sm
    go_wp2;exact⟨⟨_,_,_,_,_,_,_,_,_,_,rfl,by omega,by omega,by omega,C8.less⟩,by simp only[intOf];omega⟩
  ·have hi2:¬ 0<i:=hi;have kr:=ZJ.rx;have r0:A wr (Q (I (J w)+1) 0 U)=T (Z U 0 0):=by simp[World.cell?,kr]
   have r1:A wr (Q (I (J w)+1) 1 U)=T (Z U 0 0):=by simp[World.cell?,kr]
   have r2:wr.frozen? (Q (I (J w)+1) 0 U)=ZA:=by simp[World.frozen?,kr]
   have r3:wr.frozen? (Q (I (J w)+1) 1 U)=ZA:=by simp[World.frozen?,kr]
   have D:=ag kr;clear kr;have BE:=ae (((dB (I (J w)+1) wr).setCell (p:=(Q (I (J w)+1) 0 U)) ly (Z d0 m0 k0)).setCell (p:=(Q (I (J w)+1) 1 U)) ly (Z d1 m1 k1));have DE:Hid (HSg (I (J w)) ((wr.setCell (Q (I (J w)+1) 0 U) (Z d0 m0 k0)).setCell (Q (I (J w)+1) 1 U) (Z d1 m1 k1)) d0 m0 g0 d1 m1 g1∨(d0=a0/\m0=n0/\g0=f0/\d1=a1/\m1=n1/\g1=f1)):=ZJ.sp.imp (λg=>(g.fr ((Fr.set (x:=I (J w)+1) (j:=0) (by simp) (Z d0 m0 k0)).trans (Fr.set (x:=I (J w)+1) (j:=1) (by simp) (Z d1 m1 k1)))).at) (HE _ _ _ _ _ _);have RE:=ae (ZJ.rd.low BE (by omega));have OE:=ae (ZJ.o.then (BE.mono (F6 _)));go_wp2;exact bp (v:=.agg #[Z d0 m0 k0,Z d1 m1 k1]) (by simp[results,results67,go_sem,r0,r1]) rfl ⟨_,_,_,_,_,_,_,_,rfl,DE,_,by omega,RE,OE⟩
