import Derived.Test.YtpmnbjkjpnclaaaGreatDoorPU
import Derived.Test.YtpmnbjkjpnclaaaGreatDoorQJ
set_option maxRecDepth 100000
set_option maxHeartbeats 8000000
set_option linter.unusedSimpArgs false
open Go renaming Addr.mk->Q,Value.slice->Z,Value.string->U,Value.agg->ZH,Obj.cells->J,World->M,World.heap->N,World.cell?->A
open Option renaming none->Y,some->T
open Bool renaming false->ZA
open Array renaming size->I
namespace Go.Proofs.YtpmnbjkjpnclaaaGreatDoor.Vp
open Tryz RowKit
variable {x n0 n1 lo b:Nat}{f0:Nat->Source}{f1:Nat->Target}{t:ByteArray}
structure Sml (LS:List Source)(LT:List Target):Prop where
 n0:LS.length<=300
 n1:LT.length<=300
 H:∀i,i<LT.length->(b9 LT i).f<=300/\∀j,j<(b9 LT i).f->((b9 LT i).H j).s.size<=5000
 pos:LS.length<=250/\LT.length<=250/\∀i,i<LT.length->1<=(b9 LT i).f/\(b9 LT i).f<=200
theorem rP:Sml [] []:=⟨by simp,by simp,λi hi=>absurd hi (by simp),by simp,by simp,λi hi=>absurd hi (by simp)⟩
theorem vX{g:List Source}{b:List Target}(hl:g.length+b.length<=201)(f:∀y∈b,valid y.H y.f=true):Sml g b:=by
 refine⟨by omega,by omega,λi hi=>?_,by omega,by omega,λi hi=>by
  rw[yg hi];obtain⟨h1,h2,h3⟩:=bP (f _ (gz hi))
  omega⟩
 rw[yg hi];obtain⟨h1,h2,h3⟩:=bP (f _ (gz hi));refine⟨by omega,λj h=>?_⟩;have c:=gR h1 h;unfold aH at c;rw[z8] at c;have hm:aE (b[i].H j).op<=2000:=by unfold aE;split<;>omega
 omega
theorem oe (t:ByteArray)(h:ce n0 f0 n1 f1=0):(bY f0 t n0).length+(keepT f1 t n1).length<=200/\∀y∈keepT f1 t n1,valid y.H y.f=true:=by have H:=SpcOk.of (S:=⟨n0,f0,n1,f1⟩) h;have h0:=ku f0 t n0;have h1:=kv f1 t n1;have hs:n0+n1<=200:=H.az;refine⟨by omega,λy b=>?_⟩;obtain⟨i,hi,rfl⟩:=QX.1 (List.mem_filter.1 b).1;exact H.H i (PL.1 hi)
theorem vY{b:Type}{g:Nat->ByteArray}{F:Nat->b}{x y:b}(k:Nat)(h:y∈fg g F x t k):y=x∨∃j,j<k/\y=F j:=by
 induction k with
 |zero=>cases h
 |succ k c =>
  have h2:y∈fg g F x t k∨y=x∨y=F k:=by
   unfold fg at h;split at h<;>simp only[p8,nD] at h;{rcases h with (h|h)|h;{exact .inl h};{exact .inr (.inl h)};{exact .inr (.inr h)}};{exact h.imp id .inr}
  rcases h2 with h|h|h;{exact(c h).imp id λ⟨j,hj,e⟩=>⟨j,by omega,e⟩};{exact .inl h};{exact .inr ⟨k,by omega,h⟩}
theorem Gi{tx:ByteArray}:Sml (mf n0 f0 n1 f1 t tx) (pj n0 f0 n1 f1 t tx):=by
 by_cases h:pi n0 f0 n1 f1 t tx=0
 ·rw[mf,pj,p6 h,p6 h];have b:ce n0 f0 n1 f1=0:=UO λa=>by unfold pi at h;rw[p6 a] at h;cases h
  obtain⟨h1,h2⟩:=oe t b;obtain⟨h3,h4⟩:=sJ (bY f0 t n0) ⟨t,tx⟩ t (bY f0 t n0).length;refine vX ?_ h2;unfold rj;split;{omega};{rename_i c;rw[cM,h4 (by simpa using c)];simp only[DW];omega}
 {rw[mf,pj,gM h,gM h];exact rP}
theorem Gj{m:Nat}{c:Nat->Ins}:Sml (jz n0 f0 n1 f1 t m c) (mr n0 f0 n1 f1 t m c):=by
 by_cases h:mg n0 f0 n1 f1 t (valid c m)=0
 ·rw[jz,mr,p6 h,p6 h];unfold mg at h;have n:ce n0 f0 n1 f1=0:=UO λa=>by rw[p6 a] at h;cases h
  have l:valid c m=true:=by
   cases e:valid c m with
   |true=>rfl
   |false=>rw[gM (by omega),p6 (.inr e)] at h;cases h
  obtain⟨h1,h2⟩:=oe t n;generalize keepT f1 t n1=K at h1 h2;obtain⟨h3,h4⟩:=uP (nm1 (b9 K)) (λj=>K.getD j dfT) ⟨t,m,c⟩ t K.length;refine vX ?_ λy b=>?_;{unfold uR mh;split;{omega};{rename_i i;rw[cM,h4 (by simpa using i)];simp only[DW];omega}}
  ·have f:y=⟨t,m,c⟩∨∃j,j<K.length/\y=K.getD j dfT:=by
    unfold uR mh at b;split at b;{exact vY _ b};{rcases p8.1 b with b|b;{exact vY _ b};{exact .inl (nD.1 b)}}
   rcases f with rfl|⟨j,g,rfl⟩
   {exact l};{rw[IA,gq g];exact h2 _ (gz g)}
 {rw[jz,mr,gM h,gM h];exact rP}
theorem Gk:Sml (jy n0 f0 n1 f1 t) (mc n0 f0 n1 f1 t):=by
 by_cases h:lZ n0 f0 n1 f1 t=0
 ·rw[jy,mc,p6 h,p6 h];have b:ce n0 f0 n1 f1=0:=UO λa=>by unfold lZ at h;rw[p6 a] at h;cases h
  exact vX (by have:=(oe t b).1;omega) (oe t b).2
 {rw[jy,mc,gM h,gM h];exact rP}
open Ca
def DCh (w:M)(R q:Nat)(a0:Option Addr)(n0:Nat)(f0:Nat->Source)(a1:Option Addr)(n1:Nat)(f1:Nat->Target)(e:Ending)(b:M):Prop:=∃(d0:Option Addr) (m0 k0:Nat) (g0:Nat->Source) (d1:Option Addr) (m1 k1:Nat) (g1:Nat->Target),e=.returned (ZH #[Z d0 m0 k0,Z d1 m1 k1])/\(HSg (I (N w)) b d0 m0 g0 d1 m1 g1∨(d0=a0/\m0=n0/\g0=f0/\d1=a1/\m1=n1/\g1=f1))/\∃q':Nat,q'<=q/\Rd b R q'/\Only R w b
structure Ch (E:Option Addr->Nat->(Nat->Source)->Option Addr->Nat->(Nat->Target)->Prop)(xs:List Nat)(w:M)(R:Nat)(W:M)(q m0 k0 m1 k1:Nat)(d0:Option Addr)(g0:Nat->Source)(d1:Option Addr)(g1:Nat->Target):Prop where
 rd:Rd W R q
 o:Only R w W
 sx:W.heap[I (N w)]?=T (J #[Z d0 m0 k0,Z d1 m1 k1] 27 (0,0))
 rx:W.heap[I (N w)+1]?=T (J #[Z Y 0 0,Z Y 0 0] 27 (0,0))
 sp:QSp (I (N w)) xs W d0 m0 g0 d1 m1 g1∨E d0 m0 g0 d1 m1 g1
 lo:R<I (N w)
section
variable {E:Option Addr->Nat->(Nat->Source)->Option Addr->Nat->(Nat->Target)->Prop}{xs ys:List Nat}{w W W':M}{R q q' m0 k0 m1 k1:Nat}{d0 d1:Option Addr}{g0:Nat->Source}{g1:Nat->Target}
theorem Ch.G (h:Ch E xs w R W q m0 k0 m1 k1 d0 g0 d1 g1)(b:Only R W W')(hR:Rd W' R q')(c:R∈xs):Ch E xs w R W' q' m0 k0 m1 k1 d0 g0 d1 g1:=by have hl:=h.lo;exact⟨hR,h.o.trans b,(b.block _ (ag h.sx) (by omega)).trans h.sx,(b.block _ (ag h.rx) (by omega)).trans h.rx,h.sp.imp (λg=>g.fr (Fr.G b c)) id,h.lo⟩
theorem Ch.aa (h:Ch E xs w R W q m0 k0 m1 k1 d0 g0 d1 g1)(b:Below (I (N W)) W W')(c:R∈xs):Ch E xs w R W' q m0 k0 m1 k1 d0 g0 d1 g1:=h.G (Only.u b) (h.rd.aa b ly) c
theorem QSp.more (h:QSp lo xs W d0 m0 g0 d1 m1 g1)(g:I (N W)<=x):QSp lo (x::xs) W d0 m0 g0 d1 m1 g1:=by
 obtain⟨b,i,f,h1,h2,h3⟩:=h;refine⟨b,i,f,h1,h2,λy c=>?_⟩;rcases AT.1 c with rfl|c;{exact .inr (p7 h2.1 g)};{exact h3 y c}
theorem QSp.less (h:QSp lo (x::xs) W d0 m0 g0 d1 m1 g1):QSp lo xs W d0 m0 g0 d1 m1 g1:=by obtain⟨b,g,c,h1,h2,h3⟩:=h;exact⟨b,g,c,h1,h2,λy f=>h3 y (mq _ f)⟩
theorem Ch.more (h:Ch E xs w R W q m0 k0 m1 k1 d0 g0 d1 g1)(b:I (N W)<=x):Ch E (x::xs) w R W q m0 k0 m1 k1 d0 g0 d1 g1:=⟨h.rd,h.o,h.sx,h.rx,h.sp.imp (λg=>g.more b) id,h.lo⟩
theorem Ch.less (h:Ch E (x::xs) w R W q m0 k0 m1 k1 d0 g0 d1 g1):Ch E xs w R W q m0 k0 m1 k1 d0 g0 d1 g1:=⟨h.rd,h.o,h.sx,h.rx,h.sp.imp (λg=>g.less) id,h.lo⟩
theorem Ch.cells (h:Ch E xs w R W q m0 k0 m1 k1 d0 g0 d1 g1):A W (Q (I (N w)) 0 Y)=T (Z d0 m0 k0)/\A W (Q (I (N w)) 1 Y)=T (Z d1 m1 k1)/\W.frozen? (Q (I (N w)) 0 Y)=ZA/\W.frozen? (Q (I (N w)) 1 Y)=ZA/\(I (N w))<I (N W):=by have hb:=h.sx;refine⟨?_,?_,?_,?_,ag hb⟩<;>simp[World.cell?,World.frozen?,hb]
theorem Ch.two (h:Ch E xs w R W q m0 k0 m1 k1 d0 g0 d1 g1)(c:x∈xs)(b:I (N w)+2<=x)(u v:Value):Ch E xs w R ((W.setCell (Q x 0 Y) u).setCell (Q x 1 Y) v) q m0 k0 m1 k1 d0 g0 d1 g1:=by have B:=((dB (I (N w)+2) W).setCell (p:=(Q x 0 Y)) b u).setCell (p:=(Q x 1 Y)) b v;have hlo:=h.lo;exact⟨h.rd.low B (by omega),h.o.then (B.mono (by omega)),(B.block _ (by omega)).trans h.sx,(B.block _ (by omega)).trans h.rx,h.sp.imp (λg=>g.fr ((Fr.set c _).trans (Fr.set c _))) id,h.lo⟩
theorem Ch.put{f l0 l1:Nat}{c i:Option Addr}{l:Nat->Source}{j:Nat->Target}(h:Ch E xs w R W q m0 k0 m1 k1 d0 g0 d1 g1)(n:I (N w)∈xs)(r:QSp (I (N w)) xs W c f l i b j∨E c f l i b j):Ch E xs w R ((W.setCell (Q (I (N w)) 0 Y) (Z c f l0)).setCell (Q (I (N w)) 1 Y) (Z i b l1)) q f l0 b l1 c l i j:=by have B:=((dB (I (N w)) W).setCell (p:=(Q (I (N w)) 0 Y)) ly (Z c f l0)).setCell (p:=(Q (I (N w)) 1 Y)) ly (Z i b l1);have far:∀k,k≠I (N w)->((W.setCell (Q (I (N w)) 0 Y) (Z c f l0)).setCell (Q (I (N w)) 1 Y) (Z i b l1)).heap[k]?=W.heap[k]?:=λk m=>(qh _ _ _ _ m).trans (qh _ _ _ _ m);have s:=h.sx;exact⟨h.rd.low B h.lo,h.o.then B,by simp[World.setCell,CP,s],(far _ (by omega)).trans h.rx,r.imp (λg=>g.fr ((Fr.set n _).trans (Fr.set n _))) id,h.lo⟩
end
theorem rQ{w:M}{c0 c1:Nat}{a0 a1:Option Addr}{c:List Source}{f:List TR}{j:List Target}(o:w.ownsRow b 142 2 (Z a0 c.length c0) c.length (c.flatMap bK))(m:TRow w b (Z a1 f.length c1) f)(l:f.map (·.1)=j)(g:Sml c j):HSg b w a0 c.length (dd c) a1 f.length (b9 j):=by
 subst l;refine⟨vw o rfl m rfl g.n0 (by simpa using g.n1) (λr n=>?_),g.pos.1,by simpa using g.pos.2.1,λi hi=>g.pos.2.2 i (by simpa using hi)⟩;obtain⟨i,hi,rfl⟩:=US n;have e:b9 (f.map (·.1)) i=f[i].1:=by simp[b9,hi]
 have h:=g.H i (by simpa using hi);rw[e] at h;exact h
theorem vZ (R p b n0 c0 n1 c1:Nat)(a0:Option Addr)(f0:Nat->Source)(a1:Option Addr)(f1:Nat->Target)(w:M)(hR:Rd w R p)(hp:p<=18000)(hb:R<b)(hH:HSg b w a0 n0 f0 a1 n1 f1):Calls Tryz.prog 67 #[.pointer (T (Q R 0 Y)),ZH #[Z a0 n0 c0,Z a1 n1 c1]] w λe w'=>DCh w R (p+2500) a0 n0 f0 a1 n1 f1 e w':=by
 obtain⟨E,hE⟩:∃E:Option Addr->Nat->(Nat->Source)->Option Addr->Nat->(Nat->Target)->Prop,E=λd0 m0 g0 d1 m1 g1=>d0=a0/\m0=n0/\g0=f0/\d1=a1/\m1=n1/\g1=f1:=⟨_,rfl⟩
 have HE:Hid (∀d0 m0 g0 d1 m1 g1,E d0 m0 g0 d1 m1 g1->d0=a0/\m0=n0/\g0=f0/\d1=a1/\m1=n1/\g1=f1):=λ_ _ _ _ _ _ h=>by rw[hE] at h;exact h
 have f:Hid (∀(V:M) (xs:List Nat) (q m0 k0 m1 k1:Nat) (d0:Option Addr) (g0:Nat->Source) (d1:Option Addr) (g1:Nat->Target),Ch E xs w R V q m0 k0 m1 k1 d0 g0 d1 g1->SlSource V d0 m0 g0/\SlTarget V d1 m1 g1/\m0<=300/\m1<=300/\∀i,i<m1->(g1 i).f<=300/\∀j,j<(g1 i).f->((g1 i).H j).s.size<=5000):=λV xs q m0 k0 m1 k1 d0 g0 d1 g1 h=>by
  rcases h.sp with g|g;{have h1:=g.at.1;exact⟨(h1.sl V (Agr.refl _ _)).1,(h1.sl V (Agr.refl _ _)).2,h1.hn0,h1.hn1,h1.ak⟩};{obtain⟨rfl,rfl,rfl,rfl,rfl,rfl⟩:=HE.out _ _ _ _ _ _ g;have h1:=hH.1.sl V (h.o.agr hb);exact⟨h1.1,h1.2,hH.1.hn0,hH.1.hn1,hH.1.ak⟩}
 have th:=hR.lt;have C0:Hid (Ch E [R,I (N w),I (N w)+1] w R ((w.alloc (J #[Z a0 n0 c0,Z a1 n1 c1] 27)).alloc (J #[Z Y 0 0,Z Y 0 0] 27)) p n0 c0 n1 c1 a0 f0 a1 f1):=by have B:=((q9 w).alloc ly (J #[Z a0 n0 c0,Z a1 n1 c1] 27)).alloc (by simp) (J #[Z Y 0 0,Z Y 0 0] 27);exact⟨hR.aa B ly,Only.u B,(((dB (I (N w)+1) (w.alloc (J #[Z a0 n0 c0,Z a1 n1 c1] 27))).alloc (by simp) _).block (I (N w)) (AI _)).trans (nL w _),UY w _ _,.inr (by rw[hE];exact⟨rfl,rfl,rfl,rfl,rfl,rfl⟩),th⟩
 clear hE hR hH;go_enter func67,ntmps67;go_wp2_with fail;generalize World.alloc (World.alloc w _) _=W0 at C0 ⊢;refine(au R p 3 _ C0.rd (by omega) (by omega) (by omega)).mono ?_;rintro e w1 ⟨z,rfl,ph,ld,fd,n9⟩;have C1:=ae (C0.G n9 fd (by simp));clear fd n9 C0;have Bk:IntKind.i64.wrap (1+z)=1+z:=by rw[p9];omega
 go_wp2_with fail;go_loopw [5] (λv wr=>∃(i:Int) (q m0 k0 m1 k1:Nat) (d0:Option Addr) (g0:Nat->Source) (d1:Option Addr) (g1:Nat->Target),v=.int .i64 i/\0<=i/\i<=3/\(q:Int)+610*i<=(p:Int)+1831/\Hid (Ch E [R,I (N w),I (N w)+1] w R wr q m0 k0 m1 k1 d0 g0 d1 g1)) (λv _=>(intOf v).toNat);case atStart=>exact⟨_,_,_,_,_,_,_,_,_,_,rfl,by omega,by omega,by omega,C1⟩
 case round =>
  clear C1 Bk ph ld;obtain⟨i,q,m0,k0,m1,k1,d0,g0,d1,g1,rfl,hi0,hi3,hq,ZL⟩:=hrel;obtain⟨x0,x1,x2,x3,x4⟩:=ZL.cells;by_cases hi:0<i
  ·have hwi:IntKind.i64.wrap (i - 1)=i - 1:=by rw[p9];omega
   have At:=ag ZL.rx;have C3:Hid (Ch E [I (N wr),R,I (N w),I (N w)+1] w R (wr.alloc (J #[Z d0 m0 k0,Z d1 m1 k1] 27)) q m0 k0 m1 k1 d0 g0 d1 g1):=(ZL.more ly).aa (br.alloc ly _) (by simp);have N3:Hid ((wr.alloc (J #[Z d0 m0 k0,Z d1 m1 k1] 27)).heap[I (N wr)]?=T (J #[Z d0 m0 k0,Z d1 m1 k1] 27 (0,0))):=nL wr _;go_wp2_with fail;generalize World.alloc wr _=W3 at C3 N3 ⊢;refine(au R _ 6 _ C3.rd (by omega) (by omega) (by omega)).mono ?_;rintro e w4 ⟨z,rfl,ph,ld,sm,aq⟩;have C4:=ae (C3.G aq sm (by simp));have N4:=ae ((aq.block _ (ag N3) (by omega)).trans N3);clear sm aq C3 N3;have la:I (N w)+2<=I (N wr):=by omega
   clear x0 x1 x2 x3 x4 At ZL;go_upto_block 2 with fail;generalize (I (N wr))=ZS at C4 N4 la ⊢;have ZR:Hid (∀(V:M) (q:Nat),Ch E [ZS,R,I (N w),I (N w)+1] w R V q m0 k0 m1 k1 d0 g0 d1 g1->A V (Q (I (N w)) 0 Y)=T (Z d0 m0 k0)/\A V (Q (I (N w)) 1 Y)=T (Z d1 m1 k1)):=λV q h=>⟨h.cells.1,h.cells.2.1⟩
   obtain⟨-,-,hm0,hm1,dg⟩:=f.out _ _ _ _ _ _ _ _ _ _ _ C4;have ZK:=f;clear f;have FT:Hid (∀i,i<m1->cT (g1 i)):=λi hi=>by have:=(dg i hi).1;unfold cT;omega
   have FL:Hid (∀i,i<m1->∀j,j<(g1 i).f->((g1 i).H j).s.size<=maxLen):=λi hi j hj=>by have:=(dg i hi).2 j hj;unfold maxLen;omega
   clear dg;go_cut [7] (λs7 wx=>∃(cc:Int) (q' H D ZP F:Nat) (G:Option Addr) (i0:Nat->Source) (ZQ:Option Addr) (i1:Nat->Target),s7=.int .i64 cc/\q'<=q+605/\Hid (Ch E [ZS,R,I (N w),I (N w)+1] w R wx q' m0 k0 m1 k1 d0 g0 d1 g1)/\Hid (wx.heap[ZS]?=T (J #[Z G H D,Z ZQ ZP F] 27 (0,0)))/\Hid (QSp (I (N w)) [ZS,R,I (N w),I (N w)+1] wx G H i0 ZQ ZP i1));case first =>
    rcases(show z=0∨z=1∨(1<z) by omega) with rfl|rfl|hz2;case' inr.inr =>
     have hz3:(z == 0)=ZA:=by simp;omega
     have hz4:(z == 1)=ZA:=by simp;omega
    all_goals
     go_wp2_with fail;have l:=ae (C4.aa br.drew (by simp));have r:Hid (w4.drew.heap[ZS]?=T (J #[Z d0 m0 k0,Z d1 m1 k1] 27 (0,0))):=N4.out;refine wp_region_held_drew (S:=λV=>A V (Q (I (N w)) 0 Y)=T (Z d0 m0 k0)/\A V (Q (I (N w)) 1 Y)=T (Z d1 m1 k1)) (by kernel_rfl) (ZR _ _ l) λhS=>?_;have f:=ae hS;clear hS C4 N4;generalize w4.drew=v4 at l r f ⊢
     iterate 2
      refine bI 0 (v:=?_) rfl rfl (by kernel_rfl) (λ_ _ _ h=>h) rfl ?_ f ?_;rotate_left
      ·(rintro ZN ⟨s0,ZJ⟩;go_simp)
       (try with_reducible rfl)
      (try simp only[Act.put,nzL])
    focus
     refine bI 5 (v:=?_) rfl rfl (by kernel_rfl) (λ_ _ _ h=>h) rfl ?_ f ?_;rotate_left
     ·(rintro ZN ⟨s0,ZJ⟩;go_simp)
      (try with_reducible rfl)
     (try simp only[Act.put,nzL])
     refine bI 8 (v:=?_) rfl rfl (by kernel_rfl) (λ_ _ _ h=>h) rfl ?_ f ?_;rotate_left
     ·(rintro ZN ⟨s0,ZJ⟩;go_simp)
      (try with_reducible rfl)
     (try simp only[Act.put,nzL])
     refine aS (i:=2) rfl (by kernel_rfl) λK m=>?_;go_simp;go_at_call 40;refine(au R _ 6 _ l.rd (by omega) (by omega) (by omega)).mono ?_;rintro e v5 ⟨y,rfl,X,qr,hR,n⟩;obtain⟨k,rfl⟩:=AP X;replace r:=ae ((n.block _ (ag r) (by omega)).trans r);replace l:=ae (l.G n hR (by simp));clear hR n f;have f:=ae (ZR _ _ l);refine m _ _ f ?_;clear m K
     (try simp only[Act.put,nzL])
     refine bI 3 (v:=U ((⟨#[97,98,99,100,101,102]⟩:ByteArray).extract k 6)) rfl rfl (by kernel_rfl) (λ_ _ _ h=>h) rfl ?_ f ?_
     ·intro ZN u
      go_simp;intro h;omega
     (try simp only[Act.put,nzL])
     obtain⟨s,hs⟩:∃s:ByteArray,s=(⟨#[97,98,99,100,101,102]⟩:ByteArray).extract k 6:=⟨_,rfl⟩
     have DE:1<=s.size:=by rw[hs,SD];have e:(⟨#[97,98,99,100,101,102]⟩:ByteArray).size=6:=rfl;rw[e];omega
     rw[<-hs];clear hs X qr;refine bI 4 (v:=U (s.extract 0 1)) rfl rfl (by kernel_rfl) (λ_ _ _ h=>h) rfl ?_ f ?_
     ·intro ZN u
      go_simp;intro h;omega
     (try simp only[Act.put,nzL])
     generalize s.extract 0 1=kn;clear DE;refine aS (i:=6) rfl (by kernel_rfl) λK m=>?_;go_simp;go_at_call 90;refine(gZ R _ _ l.rd (by omega)).mono ?_;rintro e v7 ⟨t,rfl,C,q7,hq7,hR,n⟩;replace r:=ae ((n.block _ (ag r) (by omega)).trans r);replace l:=ae (l.G n hR (by simp));clear hR n f;have f:=ae (ZR _ _ l);refine m _ _ f ?_;clear m K
     (try simp only[Act.put,nzL])
     refine bI 7 (v:=U (t++⟨#[32]⟩)) rfl rfl (by kernel_rfl) (λ_ _ _ h=>h) rfl ?_ f ?_
     ·intro ZN u
      go_simp;omega
     (try simp only[Act.put,nzL])
     obtain⟨tt,bt⟩:∃tt:ByteArray,tt=t++⟨#[32]⟩:=⟨_,rfl⟩
     have ur:tt.size<=9:=by have e:(⟨#[32]⟩:ByteArray).size=1:=rfl;rw[bt,IH,e];omega
     rw[<-bt];clear bt C;refine aS (i:=9) rfl (by kernel_rfl) λK m=>?_;go_simp;go_at_call 87;refine(eh R _ _ l.rd (by omega)).mono ?_;rintro e v8 ⟨t2,rfl,DQ,hR,n⟩;replace r:=ae ((n.block _ (ag r) (by omega)).trans r);replace l:=ae (l.G n hR (by simp));clear hR n f;have f:=ae (ZR _ _ l);refine m _ _ f ?_;clear m K
     (try simp only[Act.put,nzL])
     refine bI 10 (v:=U (tt++t2)) rfl rfl (by kernel_rfl) (λ_ _ _ h=>h) rfl ?_ f ?_
     ·intro ZN u
      go_simp;omega
     (try simp only[Act.put,nzL])
     generalize tt++t2=tx;clear ur DQ;refine aS (i:=11) rfl (by kernel_rfl) λK m=>?_;go_simp;go_at_call 33;refine(uY d0 m0 k0 g0 d1 m1 k1 g1 kn tx _ (by omega) (by omega) (ZK _ _ _ _ _ _ _ _ _ _ _ l).1 (ZK _ _ _ _ _ _ _ _ _ _ _ l).2.1 FT FL).mono ?_;rintro e W ⟨v0,v1,RT,rfl,ZO,C,ZM,P⟩;obtain⟨G,D,rfl⟩:=aU ZO;obtain⟨ZQ,F,rfl⟩:=aU C.i;have SM:=rQ ZO C ZM Gi;generalize (mf m0 g0 m1 g1 kn tx).length=H at SM ⊢;generalize RT.length=ZP at SM ⊢;generalize dd (mf m0 g0 m1 g1 kn tx)=i0 at SM;generalize b9 (pj m0 g0 m1 g1 kn tx)=i1 at SM;clear ZO C ZM
    rotate_left;focus
     refine aS (i:=2) rfl (by kernel_rfl) λK m=>?_;go_simp;go_at_call 87;refine(eh R _ _ l.rd (by omega)).mono ?_;rintro e v5 ⟨t,rfl,C,hR,n⟩;clear C;replace r:=ae ((n.block _ (ag r) (by omega)).trans r);replace l:=ae (l.G n hR (by simp));clear hR n f;have f:=ae (ZR _ _ l);refine m _ _ f ?_;clear m K
     (try simp only[Act.put,nzL])
     refine aS (i:=3) rfl (by kernel_rfl) λK m=>?_;go_simp;go_at_call 35;refine(uZ d0 m0 k0 g0 d1 m1 k1 g1 t _ (by omega) (by omega) (ZK _ _ _ _ _ _ _ _ _ _ _ l).1 (ZK _ _ _ _ _ _ _ _ _ _ _ l).2.1 FT FL).mono ?_;rintro e W ⟨v0,v1,RT,rfl,ZO,C,ZM,P⟩;obtain⟨G,D,rfl⟩:=aU ZO;obtain⟨ZQ,F,rfl⟩:=aU C.i;have SM:=rQ ZO C ZM Gk;generalize (jy m0 g0 m1 g1 t).length=H at SM ⊢;generalize RT.length=ZP at SM ⊢;generalize dd (jy m0 g0 m1 g1 t)=i0 at SM;generalize b9 (mc m0 g0 m1 g1 t)=i1 at SM;clear ZO C ZM
    rotate_left;focus
     refine bI 5 (v:=?_) rfl rfl (by kernel_rfl) (λ_ _ _ h=>h) rfl ?_ f ?_;rotate_left
     ·(rintro ZN ⟨s0,ZJ⟩;go_simp)
      (try with_reducible rfl)
     (try simp only[Act.put,nzL])
     refine aS (i:=2) rfl (by kernel_rfl) λK m=>?_;go_simp;go_at_call 40;refine(au R _ 8 _ l.rd (by omega) (by omega) (by omega)).mono ?_;rintro e v5 ⟨y,rfl,X,qr,hR,n⟩;obtain⟨k,rfl⟩:=AP X;replace r:=ae ((n.block _ (ag r) (by omega)).trans r);replace l:=ae (l.G n hR (by simp));clear hR n f;have f:=ae (ZR _ _ l);refine m _ _ f ?_;clear m K
     (try simp only[Act.put,nzL])
     refine aS (i:=3) rfl (by kernel_rfl) λK m=>?_;go_simp;go_at_call 104;refine(iS k (by omega) _).mono ?_;rintro e v7 ⟨rfl,P⟩;have hR:=l.rd.aa P ly;have n:=Only.u (b:=R) P;clear P;replace r:=ae ((n.block _ (ag r) (by omega)).trans r);replace l:=ae (l.G n hR (by simp));clear hR n f;have f:=ae (ZR _ _ l);refine m _ _ f ?_;clear m K
     (try simp only[Act.put,nzL])
     refine bI 4 (v:=?_) rfl rfl (by kernel_rfl) (λ_ _ _ h=>h) rfl ?_ f ?_;rotate_left
     ·(rintro ZN ⟨s0,ZJ⟩;go_simp)
      (try with_reducible rfl)
     (try simp only[Act.put,nzL])
     refine aS (i:=6) rfl (by kernel_rfl) λK m=>?_;go_simp;go_at_call 124;have hs7:=l.o.size;refine(ju R _ _ l.rd (by omega)).mono ?_;rintro e v8 ⟨L,g,c,rfl,hI,hL1,hL2,mv,q8,hq8,hR,n⟩;have SI:=ae (show SlIns v8 (T (Q g 0 Y)) L.length (dq L) from .inr ⟨g,0,rfl,hI.lt.2,hI.at⟩);have FI:Hid (∀i,i<L.length->(dq L i).s.size<=maxLen):=λi hi=>by have:=mE mv i hi;unfold maxLen;omega
     clear hI mv;replace r:=ae ((n.block _ (ag r) (by omega)).trans r);replace l:=ae (l.G n hR (by simp));clear hR n f;have f:=ae (ZR _ _ l);refine m _ _ f ?_;clear m K
     (try simp only[Act.put,nzL])
     refine aS (i:=7) rfl (by kernel_rfl) λK m=>?_;go_simp;go_at_call 34;refine(vg d0 m0 k0 g0 d1 m1 k1 g1 _ (T (Q g 0 Y)) L.length c (dq L) _ (by omega) (by omega) (by omega) (ZK _ _ _ _ _ _ _ _ _ _ _ l).1 (ZK _ _ _ _ _ _ _ _ _ _ _ l).2.1 SI FT FL FI).mono ?_;rintro e W ⟨v0,v1,RT,rfl,ZO,C,ZM,P⟩;clear SI FI;obtain⟨G,D,rfl⟩:=aU ZO;obtain⟨ZQ,F,rfl⟩:=aU C.i;have SM:=rQ ZO C ZM Gj;generalize (⟨#[116]⟩:ByteArray)++⟨#[dig k]⟩=t at SM ⊢;generalize (jz m0 g0 m1 g1 t L.length (dq L)).length=H at SM ⊢;generalize RT.length=ZP at SM ⊢;generalize dd (jz m0 g0 m1 g1 t L.length (dq L))=i0 at SM;generalize b9 (mr m0 g0 m1 g1 t L.length (dq L))=i1 at SM;clear ZO C ZM
    all_goals
     have hz6:=P.size;have hw5:=l.o.size;have DH:=ag r.out;have C6:=ae (l.aa P (by simp));have N6:=ae ((P.block ZS DH).trans r)
     have Q6:=ae (QSp.new (lo:=I (N w)) (xs:=[ZS,R,I (N w),I (N w)+1]) SM (by omega) (λx hx=>by
      simp only[AT,nj,RC] at hx
      omega))
     clear P l r f SM;have f:=ae (ZR _ _ C6);refine m _ _ f ?_;clear m K
     (try simp only[Act.put,nzL])
     iterate 3
      refine bI 4 (v:=?_) rfl rfl (by kernel_rfl) (λ_ _ _ h=>h) rfl ?_ f ?_;rotate_left
      ·(rintro ZN ⟨s0,ZJ⟩;go_simp)
       (try with_reducible rfl)
      (try simp only[Act.put,nzL])
     have O:=N6.out;have y0:W.frozen? (Q ZS 0 Y)=ZA:=by simp[World.frozen?,O]
     have y1:W.frozen? (Q ZS 1 Y)=ZA:=by simp[World.frozen?,O]
     have y2:=ag O;have y3:A W (Q ZS 0 Y)=T (Z d0 m0 k0):=by simp[World.cell?,O]
     have y4:A W (Q ZS 1 Y)=T (Z d1 m1 k1):=by simp[World.cell?,O]
     clear O;have C7:=ae (C6.two (x:=ZS) (by simp) la (Z G H D) (Z ZQ ZP F));have N7:Hid (((W.setCell (Q ZS 0 Y) (Z G H D)).setCell (Q ZS 1 Y) (Z ZQ ZP F)).heap[ZS]?=T (J #[Z G H D,Z ZQ ZP F] 27 (0,0))):=by have h1:=bX (j:=1) (bX (j:=0) N6 (Z G H D)) (Z ZQ ZP F);exact h1
     have Q7:=ae (Q6.fr ((Fr.set (x:=ZS) (j:=0) (by simp) (Z G H D)).trans (Fr.set (x:=ZS) (j:=1) (by simp) (Z ZQ ZP F))));refine rp 4 rfl rfl (by kernel_rfl) λK m=>?_;go_simp;clear f;have f:=ae (ZR _ _ C7);refine m _ _ f ?_;clear m K
     (try simp only[Act.put,nzL])
     refine rp 4 rfl rfl (by kernel_rfl) λK m=>?_;go_simp;refine m _ _ f ?_;clear m K
     (try simp only[Act.put,nzL])
     refine wpAnyH_done (by kernel_rfl) ?_ _;go_wp2;go_meet;exact⟨_,_,_,_,_,_,_,_,_,_,rfl,by omega,C7,N7,Q7⟩
   case rest =>
   clear C4 N4 ZR FT FL;obtain⟨cc,q',H,D,ZP,F,G,i0,ZQ,i1,rfl,hq',C8,N8,Q8⟩:=hcut;generalize wc=W8 at C8 N8 Q8 ⊢;obtain⟨x0,x1,x2,x3,x4⟩:=C8.cells;have O:=N8.out;have y3:A W8 (Q ZS 0 Y)=T (Z G H D):=by simp[World.cell?,O]
   have y4:A W8 (Q ZS 1 Y)=T (Z ZQ ZP F):=by simp[World.cell?,O]
   clear O;by_cases ro:cc=0;{subst ro;have C9:=ae ((C8.put (l0:=D) (l1:=F) (by simp) (.inl Q8)).less);go_wp2;exact⟨⟨_,_,_,_,_,_,_,_,_,_,rfl,by omega,by omega,by omega,C9⟩,by simp only[intOf];omega⟩}
   ·have hcb:(cc == 0)=ZA:=by simpa using ro
    go_wp2;exact⟨⟨_,_,_,_,_,_,_,_,_,_,rfl,by omega,by omega,by omega,C8.less⟩,by simp only[intOf];omega⟩
  ·have hi2:¬ 0<i:=hi;have kr:=ZL.rx;have r0:A wr (Q (I (N w)+1) 0 Y)=T (Z Y 0 0):=by simp[World.cell?,kr]
   have r1:A wr (Q (I (N w)+1) 1 Y)=T (Z Y 0 0):=by simp[World.cell?,kr]
   have r2:wr.frozen? (Q (I (N w)+1) 0 Y)=ZA:=by simp[World.frozen?,kr]
   have r3:wr.frozen? (Q (I (N w)+1) 1 Y)=ZA:=by simp[World.frozen?,kr]
   have D:=ag kr;clear kr;have BE:=ae (((dB (I (N w)+1) wr).setCell (p:=(Q (I (N w)+1) 0 Y)) ly (Z d0 m0 k0)).setCell (p:=(Q (I (N w)+1) 1 Y)) ly (Z d1 m1 k1));have DS:Hid (HSg (I (N w)) ((wr.setCell (Q (I (N w)+1) 0 Y) (Z d0 m0 k0)).setCell (Q (I (N w)+1) 1 Y) (Z d1 m1 k1)) d0 m0 g0 d1 m1 g1∨(d0=a0/\m0=n0/\g0=f0/\d1=a1/\m1=n1/\g1=f1)):=ZL.sp.imp (λg=>(g.fr ((Fr.set (x:=I (N w)+1) (j:=0) (by simp) (Z d0 m0 k0)).trans (Fr.set (x:=I (N w)+1) (j:=1) (by simp) (Z d1 m1 k1)))).at) (HE _ _ _ _ _ _);have RE:=ae (ZL.rd.low BE (by omega));have OE:=ae (ZL.o.then (BE.mono (F6 _)));go_wp2;exact bp (v:=ZH #[Z d0 m0 k0,Z d1 m1 k1]) (by simp[results,results67,go_sem,r0,r1]) rfl ⟨_,_,_,_,_,_,_,_,rfl,DS,_,by omega,RE,OE⟩
