import Derived.Test.YtoddkejemcbkmaaGreatDoorPR
import Derived.Test.YtoddkejemcbkmaaGreatDoorQH
set_option maxRecDepth 100000
set_option maxHeartbeats 8000000
set_option linter.unusedSimpArgs false
open Go renaming Addr.mk->Q,Value.slice->Z,Value.string->U,Obj.cells->N,World->M,World.heap->J,World.cell?->A
open Option renaming none->Y,some->T
open Bool renaming false->ZA
open Array renaming size->I
namespace Go.Proofs.YtoddkejemcbkmaaGreatDoor.Vp
open Tryz RowKit
variable {x n0 n1 lo b:Nat}{f0:Nat->Source}{f1:Nat->Target}{t:ByteArray}
structure Sml (LS:List Source)(LT:List Target):Prop where
 n0:LS.length<=300
 n1:LT.length<=300
 G:∀i,i<LT.length->(bY LT i).f<=300/\∀j,j<(bY LT i).f->((bY LT i).G j).s.size<=5000
 pos:LS.length<=250/\LT.length<=250/\∀i,i<LT.length->1<=(bY LT i).f/\(bY LT i).f<=200
theorem qX:Sml [] []:=⟨by simp,by simp,λi hi=>absurd hi (by simp),by simp,by simp,λi hi=>absurd hi (by simp)⟩
theorem vb{g:List Source}{b:List Target}(hl:g.length+b.length<=201)(f:∀y∈b,valid y.G y.f=true):Sml g b:=by
 refine⟨by omega,by omega,λi hi=>?_,by omega,by omega,λi hi=>by
  rw[xq hi];obtain⟨h1,h2,h3⟩:=bO (f _ (gz hi))
  omega⟩
 rw[xq hi];obtain⟨h1,h2,h3⟩:=bO (f _ (gz hi));refine⟨by omega,λj h=>?_⟩;have c:=gL h1 h;unfold aG at c;rw[z8] at c;have hm:aF (b[i].G j).op<=2000:=by unfold aF;split<;>omega
 omega
theorem nK (t:ByteArray)(h:ce n0 f0 n1 f1=0):(bW f0 t n0).length+(keepT f1 t n1).length<=200/\∀y∈keepT f1 t n1,valid y.G y.f=true:=by have H:=SpcOk.of (S:=⟨n0,f0,n1,f1⟩) h;have h0:=j9 f0 t n0;have h1:=ke f1 t n1;have hs:n0+n1<=200:=H.av;refine⟨by omega,λy b=>?_⟩;obtain⟨i,hi,rfl⟩:=PC.1 (List.mem_filter.1 b).1;exact H.G i (NH.1 hi)
theorem vd{b:Type}{g:Nat->ByteArray}{F:Nat->b}{x y:b}(k:Nat)(h:y∈eY g F x t k):y=x∨∃j,j<k/\y=F j:=by
 induction k with
 |zero=>cases h
 |succ k c =>
  have h2:y∈eY g F x t k∨y=x∨y=F k:=by
   unfold eY at h;split at h<;>simp only[p8,nL] at h;{rcases h with (h|h)|h;{exact .inl h};{exact .inr (.inl h)};{exact .inr (.inr h)}};{exact h.imp id .inr}
  rcases h2 with h|h|h;{exact(c h).imp id λ⟨j,hj,e⟩=>⟨j,by omega,e⟩};{exact .inl h};{exact .inr ⟨k,by omega,h⟩}
theorem Fi{tx:ByteArray}:Sml (lQ n0 f0 n1 f1 t tx) (oR n0 f0 n1 f1 t tx):=by
 by_cases h:oQ n0 f0 n1 f1 t tx=0
 ·rw[lQ,oR,p7 h,p7 h];have b:ce n0 f0 n1 f1=0:=SF λa=>by unfold oQ at h;rw[p7 a] at h;cases h
  obtain⟨h1,h2⟩:=nK t b;obtain⟨h3,h4⟩:=rN (bW f0 t n0) ⟨t,tx⟩ t (bW f0 t n0).length;refine vb ?_ h2;unfold qE;split;{omega};{rename_i c;rw[cM,h4 (by simpa using c)];simp only[DW];omega}
 {rw[lQ,oR,nD h,nD h];exact qX}
theorem Fj{m:Nat}{c:Nat->Ins}:Sml (jp n0 f0 n1 f1 t m c) (lU n0 f0 n1 f1 t m c):=by
 by_cases h:lR n0 f0 n1 f1 t (valid c m)=0
 ·rw[jp,lU,p7 h,p7 h];unfold lR at h;have l:ce n0 f0 n1 f1=0:=SF λa=>by rw[p7 a] at h;cases h
  have n:valid c m=true:=by
   cases e:valid c m with
   |true=>rfl
   |false=>rw[nD (by omega),p7 (.inr e)] at h;cases h
  obtain⟨h1,h2⟩:=nK t l;generalize keepT f1 t n1=K at h1 h2;obtain⟨h3,h4⟩:=ua (nm1 (bY K)) (λj=>K.getD j dfT) ⟨t,m,c⟩ t K.length;refine vb ?_ λy b=>?_;{unfold uc lS;split;{omega};{rename_i i;rw[cM,h4 (by simpa using i)];simp only[DW];omega}}
  ·have f:y=⟨t,m,c⟩∨∃j,j<K.length/\y=K.getD j dfT:=by
    unfold uc lS at b;split at b;{exact vd _ b};{rcases p8.1 b with b|b;{exact vd _ b};{exact .inl (nL.1 b)}}
   rcases f with rfl|⟨j,g,rfl⟩
   {exact n};{rw[IX,gq g];exact h2 _ (gz g)}
 {rw[jp,lU,nD h,nD h];exact qX}
theorem Fl:Sml (jo n0 f0 n1 f1 t) (lO n0 f0 n1 f1 t):=by
 by_cases h:lN n0 f0 n1 f1 t=0
 ·rw[jo,lO,p7 h,p7 h];have b:ce n0 f0 n1 f1=0:=SF λa=>by unfold lN at h;rw[p7 a] at h;cases h
  exact vb (by have:=(nK t b).1;omega) (nK t b).2
 {rw[jo,lO,nD h,nD h];exact qX}
open Ca
def DCh (w:M)(R q:Nat)(a0:Option Addr)(n0:Nat)(f0:Nat->Source)(a1:Option Addr)(n1:Nat)(f1:Nat->Target)(e:Ending)(b:M):Prop:=∃(d0:Option Addr) (m0 k0:Nat) (g0:Nat->Source) (d1:Option Addr) (m1 k1:Nat) (g1:Nat->Target),e=.returned (.agg #[Z d0 m0 k0,Z d1 m1 k1])/\(HSg (I (J w)) b d0 m0 g0 d1 m1 g1∨(d0=a0/\m0=n0/\g0=f0/\d1=a1/\m1=n1/\g1=f1))/\∃q':Nat,q'<=q/\Rd b R q'/\Only R w b
structure Ch (E:Option Addr->Nat->(Nat->Source)->Option Addr->Nat->(Nat->Target)->Prop)(xs:List Nat)(w:M)(R:Nat)(W:M)(q m0 k0 m1 k1:Nat)(d0:Option Addr)(g0:Nat->Source)(d1:Option Addr)(g1:Nat->Target):Prop where
 rd:Rd W R q
 o:Only R w W
 sx:W.heap[I (J w)]?=T (N #[Z d0 m0 k0,Z d1 m1 k1] 44 (0,0))
 rx:W.heap[I (J w)+1]?=T (N #[Z Y 0 0,Z Y 0 0] 44 (0,0))
 sp:QSp (I (J w)) xs W d0 m0 g0 d1 m1 g1∨E d0 m0 g0 d1 m1 g1
 lo:R<I (J w)
section
variable {E:Option Addr->Nat->(Nat->Source)->Option Addr->Nat->(Nat->Target)->Prop}{xs ys:List Nat}{w W W':M}{R q q' m0 k0 m1 k1:Nat}{d0 d1:Option Addr}{g0:Nat->Source}{g1:Nat->Target}
theorem Ch.F (h:Ch E xs w R W q m0 k0 m1 k1 d0 g0 d1 g1)(b:Only R W W')(hR:Rd W' R q')(c:R∈xs):Ch E xs w R W' q' m0 k0 m1 k1 d0 g0 d1 g1:=by have hl:=h.lo;exact⟨hR,h.o.trans b,(b.block _ (ah h.sx) (by omega)).trans h.sx,(b.block _ (ah h.rx) (by omega)).trans h.rx,h.sp.imp (λg=>g.fr (Fr.F b c)) id,h.lo⟩
theorem Ch.aa (h:Ch E xs w R W q m0 k0 m1 k1 d0 g0 d1 g1)(b:Below (I (J W)) W W')(c:R∈xs):Ch E xs w R W' q m0 k0 m1 k1 d0 g0 d1 g1:=h.F (Only.u b) (h.rd.aa b ly) c
theorem QSp.more (h:QSp lo xs W d0 m0 g0 d1 m1 g1)(i:I (J W)<=x):QSp lo (x::xs) W d0 m0 g0 d1 m1 g1:=by
 obtain⟨b,f,g,h1,h2,h3⟩:=h;refine⟨b,f,g,h1,h2,λy c=>?_⟩;rcases A9.1 c with rfl|c;{exact .inr (p9 h2.1 i)};{exact h3 y c}
theorem QSp.less (h:QSp lo (x::xs) W d0 m0 g0 d1 m1 g1):QSp lo xs W d0 m0 g0 d1 m1 g1:=by obtain⟨b,c,g,h1,h2,h3⟩:=h;exact⟨b,c,g,h1,h2,λy f=>h3 y (mq _ f)⟩
theorem Ch.more (h:Ch E xs w R W q m0 k0 m1 k1 d0 g0 d1 g1)(b:I (J W)<=x):Ch E (x::xs) w R W q m0 k0 m1 k1 d0 g0 d1 g1:=⟨h.rd,h.o,h.sx,h.rx,h.sp.imp (λg=>g.more b) id,h.lo⟩
theorem Ch.less (h:Ch E (x::xs) w R W q m0 k0 m1 k1 d0 g0 d1 g1):Ch E xs w R W q m0 k0 m1 k1 d0 g0 d1 g1:=⟨h.rd,h.o,h.sx,h.rx,h.sp.imp (λg=>g.less) id,h.lo⟩
theorem Ch.cells (h:Ch E xs w R W q m0 k0 m1 k1 d0 g0 d1 g1):A W (Q (I (J w)) 0 Y)=T (Z d0 m0 k0)/\A W (Q (I (J w)) 1 Y)=T (Z d1 m1 k1)/\W.frozen? (Q (I (J w)) 0 Y)=ZA/\W.frozen? (Q (I (J w)) 1 Y)=ZA/\(I (J w))<I (J W):=by have hb:=h.sx;refine⟨?_,?_,?_,?_,ah hb⟩<;>simp[World.cell?,World.frozen?,hb]
theorem Ch.two (h:Ch E xs w R W q m0 k0 m1 k1 d0 g0 d1 g1)(b:x∈xs)(c:I (J w)+2<=x)(u v:Value):Ch E xs w R ((W.setCell (Q x 0 Y) u).setCell (Q x 1 Y) v) q m0 k0 m1 k1 d0 g0 d1 g1:=by have B:=((eL (I (J w)+2) W).setCell (p:=(Q x 0 Y)) c u).setCell (p:=(Q x 1 Y)) c v;have hlo:=h.lo;exact⟨h.rd.low B (by omega),h.o.then (B.mono (by omega)),(B.block _ (by omega)).trans h.sx,(B.block _ (by omega)).trans h.rx,h.sp.imp (λg=>g.fr ((Fr.set b _).trans (Fr.set b _))) id,h.lo⟩
theorem Ch.put{f l0 l1:Nat}{i c:Option Addr}{j:Nat->Source}{l:Nat->Target}(h:Ch E xs w R W q m0 k0 m1 k1 d0 g0 d1 g1)(m:I (J w)∈xs)(r:QSp (I (J w)) xs W i f j c b l∨E i f j c b l):Ch E xs w R ((W.setCell (Q (I (J w)) 0 Y) (Z i f l0)).setCell (Q (I (J w)) 1 Y) (Z c b l1)) q f l0 b l1 i j c l:=by have B:=((eL (I (J w)) W).setCell (p:=(Q (I (J w)) 0 Y)) ly (Z i f l0)).setCell (p:=(Q (I (J w)) 1 Y)) ly (Z c b l1);have far:∀k,k≠I (J w)->((W.setCell (Q (I (J w)) 0 Y) (Z i f l0)).setCell (Q (I (J w)) 1 Y) (Z c b l1)).heap[k]?=W.heap[k]?:=λk n=>(qh _ _ _ _ n).trans (qh _ _ _ _ n);have s:=h.sx;exact⟨h.rd.low B h.lo,h.o.then B,by simp[World.setCell,CV,s],(far _ (by omega)).trans h.rx,r.imp (λg=>g.fr ((Fr.set m _).trans (Fr.set m _))) id,h.lo⟩
end
theorem qY{w:M}{c0 c1:Nat}{a0 a1:Option Addr}{f:List Source}{g:List TR}{j:List Target}(l:w.ownsRow b 122 2 (Z a0 f.length c0) f.length (f.flatMap bI))(m:TRow w b (Z a1 g.length c1) g)(o:g.map (·.1)=j)(c:Sml f j):HSg b w a0 f.length (da f) a1 g.length (bY j):=by
 subst o;refine⟨uB l rfl m rfl c.n0 (by simpa using c.n1) (λr n=>?_),c.pos.1,by simpa using c.pos.2.1,λi hi=>c.pos.2.2 i (by simpa using hi)⟩;obtain⟨i,hi,rfl⟩:=SJ n;have e:bY (g.map (·.1)) i=g[i].1:=by simp[bY,hi]
 have h:=c.G i (by simpa using hi);rw[e] at h;exact h
theorem ve (R p b n0 c0 n1 c1:Nat)(a0:Option Addr)(f0:Nat->Source)(a1:Option Addr)(f1:Nat->Target)(w:M)(hR:Rd w R p)(hp:p<=15000)(hb:R<b)(hH:HSg b w a0 n0 f0 a1 n1 f1):Calls Tryz.prog 42 #[.pointer (T (Q R 0 Y)),.agg #[Z a0 n0 c0,Z a1 n1 c1]] w λe w'=>DCh w R (p+2500) a0 n0 f0 a1 n1 f1 e w':=by
 obtain⟨E,hE⟩:∃E:Option Addr->Nat->(Nat->Source)->Option Addr->Nat->(Nat->Target)->Prop,E=λd0 m0 g0 d1 m1 g1=>d0=a0/\m0=n0/\g0=f0/\d1=a1/\m1=n1/\g1=f1:=⟨_,rfl⟩
 have HE:Hid (∀d0 m0 g0 d1 m1 g1,E d0 m0 g0 d1 m1 g1->d0=a0/\m0=n0/\g0=f0/\d1=a1/\m1=n1/\g1=f1):=λ_ _ _ _ _ _ h=>by rw[hE] at h;exact h
 have f:Hid (∀(V:M) (xs:List Nat) (q m0 k0 m1 k1:Nat) (d0:Option Addr) (g0:Nat->Source) (d1:Option Addr) (g1:Nat->Target),Ch E xs w R V q m0 k0 m1 k1 d0 g0 d1 g1->SlSource V d0 m0 g0/\SlTarget V d1 m1 g1/\m0<=300/\m1<=300/\∀i,i<m1->(g1 i).f<=300/\∀j,j<(g1 i).f->((g1 i).G j).s.size<=5000):=λV xs q m0 k0 m1 k1 d0 g0 d1 g1 h=>by
  rcases h.sp with g|g;{have h1:=g.at.1;exact⟨(h1.sl V (Agr.refl _ _)).1,(h1.sl V (Agr.refl _ _)).2,h1.hn0,h1.hn1,h1.ak⟩};{obtain⟨rfl,rfl,rfl,rfl,rfl,rfl⟩:=HE.out _ _ _ _ _ _ g;have h1:=hH.1.sl V (h.o.agr hb);exact⟨h1.1,h1.2,hH.1.hn0,hH.1.hn1,hH.1.ak⟩}
 have th:=hR.lt;have C0:Hid (Ch E [R,I (J w),I (J w)+1] w R ((w.alloc (N #[Z a0 n0 c0,Z a1 n1 c1] 44)).alloc (N #[Z Y 0 0,Z Y 0 0] 44)) p n0 c0 n1 c1 a0 f0 a1 f1):=by have B:=((q9 w).alloc ly (N #[Z a0 n0 c0,Z a1 n1 c1] 44)).alloc (by simp) (N #[Z Y 0 0,Z Y 0 0] 44);exact⟨hR.aa B ly,Only.u B,(((eL (I (J w)+1) (w.alloc (N #[Z a0 n0 c0,Z a1 n1 c1] 44))).alloc (by simp) _).block (I (J w)) (AI _)).trans (n6 w _),SW w _ _,.inr (by rw[hE];exact⟨rfl,rfl,rfl,rfl,rfl,rfl⟩),th⟩
 clear hE hR hH;go_enter func42,ntmps42;go_wp2_with fail;generalize World.alloc (World.alloc w _) _=W0 at C0 ⊢;refine(au R p 3 _ C0.rd (by omega) (by omega) (by omega)).mono ?_;rintro e w1 ⟨z,rfl,fd,ph,mv,ld⟩;have C1:=ae (C0.F ld mv (by simp));clear mv ld C0;have ur:IntKind.i64.wrap (1+z)=1+z:=by rw[wA];omega
 go_wp2_with fail;go_loopw [5] (λv wr=>∃(i:Int) (q m0 k0 m1 k1:Nat) (d0:Option Addr) (g0:Nat->Source) (d1:Option Addr) (g1:Nat->Target),v=.int .i64 i/\0<=i/\i<=3/\(q:Int)+610*i<=(p:Int)+1831/\Hid (Ch E [R,I (J w),I (J w)+1] w R wr q m0 k0 m1 k1 d0 g0 d1 g1)) (λv _=>(intOf v).toNat);case atStart=>exact⟨_,_,_,_,_,_,_,_,_,_,rfl,by omega,by omega,by omega,C1⟩
 case round =>
  clear C1 ur fd ph;obtain⟨i,q,m0,k0,m1,k1,d0,g0,d1,g1,rfl,hi0,hi3,hq,ZL⟩:=hrel;obtain⟨x0,x1,x2,x3,x4⟩:=ZL.cells;by_cases hi:0<i
  ·have hwi:IntKind.i64.wrap (i - 1)=i - 1:=by rw[wA];omega
   have At:=ah ZL.rx;have C3:Hid (Ch E [I (J wr),R,I (J w),I (J w)+1] w R (wr.alloc (N #[Z d0 m0 k0,Z d1 m1 k1] 44)) q m0 k0 m1 k1 d0 g0 d1 g1):=(ZL.more ly).aa (br.alloc ly _) (by simp);have N3:Hid ((wr.alloc (N #[Z d0 m0 k0,Z d1 m1 k1] 44)).heap[I (J wr)]?=T (N #[Z d0 m0 k0,Z d1 m1 k1] 44 (0,0))):=n6 wr _;go_wp2_with fail;generalize World.alloc wr _=W3 at C3 N3 ⊢;refine(au R _ 6 _ C3.rd (by omega) (by omega) (by omega)).mono ?_;rintro e w4 ⟨z,rfl,fd,ph,qr,aq⟩;have C4:=ae (C3.F aq qr (by simp));have N4:=ae ((aq.block _ (ah N3) (by omega)).trans N3);clear qr aq C3 N3;have n9:I (J w)+2<=I (J wr):=by omega
   clear x0 x1 x2 x3 x4 At ZL;go_upto_block 2 with fail;generalize (I (J wr))=ZR at C4 N4 n9 ⊢;have ZN:Hid (∀(V:M) (q:Nat),Ch E [ZR,R,I (J w),I (J w)+1] w R V q m0 k0 m1 k1 d0 g0 d1 g1->A V (Q (I (J w)) 0 Y)=T (Z d0 m0 k0)/\A V (Q (I (J w)) 1 Y)=T (Z d1 m1 k1)):=λV q h=>⟨h.cells.1,h.cells.2.1⟩
   obtain⟨-,-,hm0,hm1,dg⟩:=f.out _ _ _ _ _ _ _ _ _ _ _ C4;have ZJ:=f;clear f;have FT:Hid (∀i,i<m1->cR (g1 i)):=λi hi=>by have:=(dg i hi).1;unfold cR;omega
   have FL:Hid (∀i,i<m1->∀j,j<(g1 i).f->((g1 i).G j).s.size<=maxLen):=λi hi j hj=>by have:=(dg i hi).2 j hj;unfold maxLen;omega
   clear dg;go_cut [7] (λs7 wx=>∃(cc:Int) (q' H D ZP F:Nat) (ZO:Option Addr) (i0:Nat->Source) (G:Option Addr) (i1:Nat->Target),s7=.int .i64 cc/\q'<=q+605/\Hid (Ch E [ZR,R,I (J w),I (J w)+1] w R wx q' m0 k0 m1 k1 d0 g0 d1 g1)/\Hid (wx.heap[ZR]?=T (N #[Z ZO H D,Z G ZP F] 44 (0,0)))/\Hid (QSp (I (J w)) [ZR,R,I (J w),I (J w)+1] wx ZO H i0 G ZP i1));case first =>
    rcases(show z=0∨z=1∨(1<z) by omega) with rfl|rfl|hz2;case' inr.inr =>
     have hz3:(z == 0)=ZA:=by simp;omega
     have hz4:(z == 1)=ZA:=by simp;omega
    all_goals
     go_wp2_with fail;have l:=ae (C4.aa br.drew (by simp));have r:Hid (w4.drew.heap[ZR]?=T (N #[Z d0 m0 k0,Z d1 m1 k1] 44 (0,0))):=N4.out;refine wp_region_held_drew (S:=λV=>A V (Q (I (J w)) 0 Y)=T (Z d0 m0 k0)/\A V (Q (I (J w)) 1 Y)=T (Z d1 m1 k1)) (by kernel_rfl) (ZN _ _ l) λhS=>?_;have f:=ae hS;clear hS C4 N4;generalize w4.drew=v4 at l r f ⊢
     iterate 2
      refine cK 0 (v:=?_) rfl rfl (by kernel_rfl) (λ_ _ _ h=>h) rfl ?_ f ?_;rotate_left
      ·(rintro ZM ⟨s0,ZI⟩;go_simp)
       (try with_reducible rfl)
      (try simp only[Act.put,nzL])
    focus
     refine cK 5 (v:=?_) rfl rfl (by kernel_rfl) (λ_ _ _ h=>h) rfl ?_ f ?_;rotate_left
     ·(rintro ZM ⟨s0,ZI⟩;go_simp)
      (try with_reducible rfl)
     (try simp only[Act.put,nzL])
     refine cK 8 (v:=?_) rfl rfl (by kernel_rfl) (λ_ _ _ h=>h) rfl ?_ f ?_;rotate_left
     ·(rintro ZM ⟨s0,ZI⟩;go_simp)
      (try with_reducible rfl)
     (try simp only[Act.put,nzL])
     refine bB (i:=2) rfl (by kernel_rfl) λK m=>?_;go_simp;go_at_call 20;refine(au R _ 6 _ l.rd (by omega) (by omega) (by omega)).mono ?_;rintro e v5 ⟨y,rfl,X,ro,hR,n⟩;obtain⟨k,rfl⟩:=BC X;replace r:=ae ((n.block _ (ah r) (by omega)).trans r);replace l:=ae (l.F n hR (by simp));clear hR n f;have f:=ae (ZN _ _ l);refine m _ _ f ?_;clear m K
     (try simp only[Act.put,nzL])
     refine cK 3 (v:=U ((⟨#[97,98,99,100,101,102]⟩:ByteArray).extract k 6)) rfl rfl (by kernel_rfl) (λ_ _ _ h=>h) rfl ?_ f ?_
     ·intro ZM u
      go_simp;intro h;omega
     (try simp only[Act.put,nzL])
     obtain⟨s,hs⟩:∃s:ByteArray,s=(⟨#[97,98,99,100,101,102]⟩:ByteArray).extract k 6:=⟨_,rfl⟩
     have DS:1<=s.size:=by rw[hs,TO];have e:(⟨#[97,98,99,100,101,102]⟩:ByteArray).size=6:=rfl;rw[e];omega
     rw[<-hs];clear hs X ro;refine cK 4 (v:=U (s.extract 0 1)) rfl rfl (by kernel_rfl) (λ_ _ _ h=>h) rfl ?_ f ?_
     ·intro ZM u
      go_simp;intro h;omega
     (try simp only[Act.put,nzL])
     generalize s.extract 0 1=kn;clear DS;refine bB (i:=6) rfl (by kernel_rfl) λK m=>?_;go_simp;go_at_call 85;refine(gT R _ _ l.rd (by omega)).mono ?_;rintro e v7 ⟨t,rfl,C,q7,hq7,hR,n⟩;replace r:=ae ((n.block _ (ah r) (by omega)).trans r);replace l:=ae (l.F n hR (by simp));clear hR n f;have f:=ae (ZN _ _ l);refine m _ _ f ?_;clear m K
     (try simp only[Act.put,nzL])
     refine cK 7 (v:=U (t++⟨#[32]⟩)) rfl rfl (by kernel_rfl) (λ_ _ _ h=>h) rfl ?_ f ?_
     ·intro ZM u
      go_simp;omega
     (try simp only[Act.put,nzL])
     obtain⟨tt,bt⟩:∃tt:ByteArray,tt=t++⟨#[32]⟩:=⟨_,rfl⟩
     have DE:tt.size<=9:=by have e:(⟨#[32]⟩:ByteArray).size=1:=rfl;rw[bt,MQ,e];omega
     rw[<-bt];clear bt C;refine bB (i:=9) rfl (by kernel_rfl) λK m=>?_;go_simp;go_at_call 81;refine(ef R _ _ l.rd (by omega)).mono ?_;rintro e v8 ⟨t2,rfl,DQ,hR,n⟩;replace r:=ae ((n.block _ (ah r) (by omega)).trans r);replace l:=ae (l.F n hR (by simp));clear hR n f;have f:=ae (ZN _ _ l);refine m _ _ f ?_;clear m K
     (try simp only[Act.put,nzL])
     refine cK 10 (v:=U (tt++t2)) rfl rfl (by kernel_rfl) (λ_ _ _ h=>h) rfl ?_ f ?_
     ·intro ZM u
      go_simp;omega
     (try simp only[Act.put,nzL])
     generalize tt++t2=tx;clear DE DQ;refine bB (i:=11) rfl (by kernel_rfl) λK m=>?_;go_simp;go_at_call 84;refine(uf d0 m0 k0 g0 d1 m1 k1 g1 kn tx _ (by omega) (by omega) (ZJ _ _ _ _ _ _ _ _ _ _ _ l).1 (ZJ _ _ _ _ _ _ _ _ _ _ _ l).2.1 FT FL).mono ?_;rintro e W ⟨v0,v1,RT,rfl,ZQ,C,ZK,O⟩;obtain⟨ZO,D,rfl⟩:=aU ZQ;obtain⟨G,F,rfl⟩:=aU C.i;have SM:=qY ZQ C ZK Fi;generalize (lQ m0 g0 m1 g1 kn tx).length=H at SM ⊢;generalize RT.length=ZP at SM ⊢;generalize da (lQ m0 g0 m1 g1 kn tx)=i0 at SM;generalize bY (oR m0 g0 m1 g1 kn tx)=i1 at SM;clear ZQ C ZK
    rotate_left;focus
     refine bB (i:=2) rfl (by kernel_rfl) λK m=>?_;go_simp;go_at_call 81;refine(ef R _ _ l.rd (by omega)).mono ?_;rintro e v5 ⟨t,rfl,C,hR,n⟩;clear C;replace r:=ae ((n.block _ (ah r) (by omega)).trans r);replace l:=ae (l.F n hR (by simp));clear hR n f;have f:=ae (ZN _ _ l);refine m _ _ f ?_;clear m K
     (try simp only[Act.put,nzL])
     refine bB (i:=3) rfl (by kernel_rfl) λK m=>?_;go_simp;go_at_call 80;refine(ug d0 m0 k0 g0 d1 m1 k1 g1 t _ (by omega) (by omega) (ZJ _ _ _ _ _ _ _ _ _ _ _ l).1 (ZJ _ _ _ _ _ _ _ _ _ _ _ l).2.1 FT FL).mono ?_;rintro e W ⟨v0,v1,RT,rfl,ZQ,C,ZK,O⟩;obtain⟨ZO,D,rfl⟩:=aU ZQ;obtain⟨G,F,rfl⟩:=aU C.i;have SM:=qY ZQ C ZK Fl;generalize (jo m0 g0 m1 g1 t).length=H at SM ⊢;generalize RT.length=ZP at SM ⊢;generalize da (jo m0 g0 m1 g1 t)=i0 at SM;generalize bY (lO m0 g0 m1 g1 t)=i1 at SM;clear ZQ C ZK
    rotate_left;focus
     refine cK 5 (v:=?_) rfl rfl (by kernel_rfl) (λ_ _ _ h=>h) rfl ?_ f ?_;rotate_left
     ·(rintro ZM ⟨s0,ZI⟩;go_simp)
      (try with_reducible rfl)
     (try simp only[Act.put,nzL])
     refine bB (i:=2) rfl (by kernel_rfl) λK m=>?_;go_simp;go_at_call 20;refine(au R _ 8 _ l.rd (by omega) (by omega) (by omega)).mono ?_;rintro e v5 ⟨y,rfl,X,ro,hR,n⟩;obtain⟨k,rfl⟩:=BC X;replace r:=ae ((n.block _ (ah r) (by omega)).trans r);replace l:=ae (l.F n hR (by simp));clear hR n f;have f:=ae (ZN _ _ l);refine m _ _ f ?_;clear m K
     (try simp only[Act.put,nzL])
     refine bB (i:=3) rfl (by kernel_rfl) λK m=>?_;go_simp;go_at_call 29;refine(iI k (by omega) _).mono ?_;rintro e v7 ⟨rfl,O⟩;have hR:=l.rd.aa O ly;have n:=Only.u (b:=R) O;clear O;replace r:=ae ((n.block _ (ah r) (by omega)).trans r);replace l:=ae (l.F n hR (by simp));clear hR n f;have f:=ae (ZN _ _ l);refine m _ _ f ?_;clear m K
     (try simp only[Act.put,nzL])
     refine cK 4 (v:=?_) rfl rfl (by kernel_rfl) (λ_ _ _ h=>h) rfl ?_ f ?_;rotate_left
     ·(rintro ZM ⟨s0,ZI⟩;go_simp)
      (try with_reducible rfl)
     (try simp only[Act.put,nzL])
     refine bB (i:=6) rfl (by kernel_rfl) λK m=>?_;go_simp;go_at_call 83;have hs7:=l.o.size;refine(jk R _ _ l.rd (by omega)).mono ?_;rintro e v8 ⟨L,g,c,rfl,hI,hL1,hL2,sm,q8,hq8,hR,n⟩;have SI:=ae (show SlIns v8 (T (Q g 0 Y)) L.length (dh L) from .inr ⟨g,0,rfl,hI.lt.2,hI.at⟩);have FI:Hid (∀i,i<L.length->(dh L i).s.size<=maxLen):=λi hi=>by have:=me sm i hi;unfold maxLen;omega
     clear hI sm;replace r:=ae ((n.block _ (ah r) (by omega)).trans r);replace l:=ae (l.F n hR (by simp));clear hR n f;have f:=ae (ZN _ _ l);refine m _ _ f ?_;clear m K
     (try simp only[Act.put,nzL])
     refine bB (i:=7) rfl (by kernel_rfl) λK m=>?_;go_simp;go_at_call 82;refine(um d0 m0 k0 g0 d1 m1 k1 g1 _ (T (Q g 0 Y)) L.length c (dh L) _ (by omega) (by omega) (by omega) (ZJ _ _ _ _ _ _ _ _ _ _ _ l).1 (ZJ _ _ _ _ _ _ _ _ _ _ _ l).2.1 SI FT FL FI).mono ?_;rintro e W ⟨v0,v1,RT,rfl,ZQ,C,ZK,O⟩;clear SI FI;obtain⟨ZO,D,rfl⟩:=aU ZQ;obtain⟨G,F,rfl⟩:=aU C.i;have SM:=qY ZQ C ZK Fj;generalize (⟨#[116]⟩:ByteArray)++⟨#[dig k]⟩=t at SM ⊢;generalize (jp m0 g0 m1 g1 t L.length (dh L)).length=H at SM ⊢;generalize RT.length=ZP at SM ⊢;generalize da (jp m0 g0 m1 g1 t L.length (dh L))=i0 at SM;generalize bY (lU m0 g0 m1 g1 t L.length (dh L))=i1 at SM;clear ZQ C ZK
    all_goals
     have hz6:=O.size;have hw5:=l.o.size;have DH:=ah r.out;have C6:=ae (l.aa O (by simp));have N6:=ae ((O.block ZR DH).trans r)
     have Q6:=ae (QSp.new (lo:=I (J w)) (xs:=[ZR,R,I (J w),I (J w)+1]) SM (by omega) (λx hx=>by
      simp only[A9,nj,PS] at hx
      omega))
     clear O l r f SM;have f:=ae (ZN _ _ C6);refine m _ _ f ?_;clear m K
     (try simp only[Act.put,nzL])
     iterate 3
      refine cK 4 (v:=?_) rfl rfl (by kernel_rfl) (λ_ _ _ h=>h) rfl ?_ f ?_;rotate_left
      ·(rintro ZM ⟨s0,ZI⟩;go_simp)
       (try with_reducible rfl)
      (try simp only[Act.put,nzL])
     have P:=N6.out;have y0:W.frozen? (Q ZR 0 Y)=ZA:=by simp[World.frozen?,P]
     have y1:W.frozen? (Q ZR 1 Y)=ZA:=by simp[World.frozen?,P]
     have y2:=ah P;have y3:A W (Q ZR 0 Y)=T (Z d0 m0 k0):=by simp[World.cell?,P]
     have y4:A W (Q ZR 1 Y)=T (Z d1 m1 k1):=by simp[World.cell?,P]
     clear P;have C7:=ae (C6.two (x:=ZR) (by simp) n9 (Z ZO H D) (Z G ZP F));have N7:Hid (((W.setCell (Q ZR 0 Y) (Z ZO H D)).setCell (Q ZR 1 Y) (Z G ZP F)).heap[ZR]?=T (N #[Z ZO H D,Z G ZP F] 44 (0,0))):=by have h1:=cy (j:=1) (cy (j:=0) N6 (Z ZO H D)) (Z G ZP F);exact h1
     have Q7:=ae (Q6.fr ((Fr.set (x:=ZR) (j:=0) (by simp) (Z ZO H D)).trans (Fr.set (x:=ZR) (j:=1) (by simp) (Z G ZP F))));refine xr 4 rfl rfl (by kernel_rfl) λK m=>?_;go_simp;clear f;have f:=ae (ZN _ _ C7);refine m _ _ f ?_;clear m K
     (try simp only[Act.put,nzL])
     refine xr 4 rfl rfl (by kernel_rfl) λK m=>?_;go_simp;refine m _ _ f ?_;clear m K
     (try simp only[Act.put,nzL])
     refine wpAnyH_done (by kernel_rfl) ?_ _;go_wp2;go_meet;exact⟨_,_,_,_,_,_,_,_,_,_,rfl,by omega,C7,N7,Q7⟩
   case rest =>
   clear C4 N4 ZN FT FL;obtain⟨cc,q',H,D,ZP,F,ZO,i0,G,i1,rfl,hq',C8,N8,Q8⟩:=hcut;generalize wc=W8 at C8 N8 Q8 ⊢;obtain⟨x0,x1,x2,x3,x4⟩:=C8.cells;have P:=N8.out;have y3:A W8 (Q ZR 0 Y)=T (Z ZO H D):=by simp[World.cell?,P]
   have y4:A W8 (Q ZR 1 Y)=T (Z G ZP F):=by simp[World.cell?,P]
   clear P;by_cases la:cc=0;{subst la;have C9:=ae ((C8.put (l0:=D) (l1:=F) (by simp) (.inl Q8)).less);go_wp2;exact⟨⟨_,_,_,_,_,_,_,_,_,_,rfl,by omega,by omega,by omega,C9⟩,by simp only[intOf];omega⟩}
   ·have hcb:(cc == 0)=ZA:=by simpa using la
    go_wp2;exact⟨⟨_,_,_,_,_,_,_,_,_,_,rfl,by omega,by omega,by omega,C8.less⟩,by simp only[intOf];omega⟩
  ·have hi2:¬ 0<i:=hi;have kr:=ZL.rx;have r0:A wr (Q (I (J w)+1) 0 Y)=T (Z Y 0 0):=by simp[World.cell?,kr]
   have r1:A wr (Q (I (J w)+1) 1 Y)=T (Z Y 0 0):=by simp[World.cell?,kr]
   have r2:wr.frozen? (Q (I (J w)+1) 0 Y)=ZA:=by simp[World.frozen?,kr]
   have r3:wr.frozen? (Q (I (J w)+1) 1 Y)=ZA:=by simp[World.frozen?,kr]
   have D:=ah kr;clear kr;have BE:=ae (((eL (I (J w)+1) wr).setCell (p:=(Q (I (J w)+1) 0 Y)) ly (Z d0 m0 k0)).setCell (p:=(Q (I (J w)+1) 1 Y)) ly (Z d1 m1 k1));have Bk:Hid (HSg (I (J w)) ((wr.setCell (Q (I (J w)+1) 0 Y) (Z d0 m0 k0)).setCell (Q (I (J w)+1) 1 Y) (Z d1 m1 k1)) d0 m0 g0 d1 m1 g1∨(d0=a0/\m0=n0/\g0=f0/\d1=a1/\m1=n1/\g1=f1)):=ZL.sp.imp (λg=>(g.fr ((Fr.set (x:=I (J w)+1) (j:=0) (by simp) (Z d0 m0 k0)).trans (Fr.set (x:=I (J w)+1) (j:=1) (by simp) (Z d1 m1 k1)))).at) (HE _ _ _ _ _ _);have RE:=ae (ZL.rd.low BE (by omega));have OE:=ae (ZL.o.then (BE.mono (F3 _)));go_wp2;exact bp (v:=.agg #[Z d0 m0 k0,Z d1 m1 k1]) (by simp[results,results42,go_sem,r0,r1]) rfl ⟨_,_,_,_,_,_,_,_,rfl,Bk,_,by omega,RE,OE⟩
