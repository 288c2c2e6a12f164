import Derived.Test.YtcnilonhfpimnaaGreatDoorDC
import Derived.Test.YtcnilonhfpimnaaGreatDoorFU
set_option linter.all false
set_option maxRecDepth 100000
set_option maxHeartbeats 8000000
open Go renaming Addr.mk->T,Value.slice->Y,Value.string->U,Value.agg->ZJ,Obj.cells->N,World->E,World.heap->J,World.cell?->ZV,World.frozen?->ZW,World.setCell->ZU,Act.put->p_
open Option renaming none->Z,some->Q
open Bool renaming false->ZA
open Array renaming size->I
open List renaming length->z
namespace Go.Proofs.YtcnilonhfpimnaaGreatDoor.Vp
open Tryz RowKit
variable {x n0 n1 lo:Nat}{f0:Nat->Source}{f1:Nat->Target}{t:F_}{b:List Target}{g:List Source}
structure Sml (LS:List Source)(LT:List Target):Prop where
 n0:z LS<=300
 n1:z LT<=300
 q:∀i,i<z LT->(aW LT i).h<=300/\∀j,j<(aW LT i).h->((aW LT i).q j).s.size<=5000
 pos:z LS<=250/\(z LT)<=250/\∀i,i<z LT->1<=(aW LT i).h/\(aW LT i).h<=200
def Sml.aq{f:List Source}(h:Sml f b):∀i,i<z b->aP (aW b i):=λi hi=>by have:=(h.q i hi).1;unfold aP;omega
def rZ:Sml [] []:=⟨by simp,by simp,λi hi=>absurd hi (by simp),by simp,by simp,λi hi=>absurd hi (by simp)⟩
def wG (hl:z g+z b<=201)(f:∀y∈b,valid y.q y.h=true):Sml g b:=by
 refine⟨by omega,by omega,λi hi=>?_,by omega,by omega,λi hi=>by
  rw[dy hi];obtain⟨h1,h2,m⟩:=bJ (f _ (gz hi))
  omega⟩
 rw[dy hi];obtain⟨h1,h2,m⟩:=bJ (f _ (gz hi));refine⟨by omega,λj l=>?_⟩;have h:=j7 h1 l;unfold cL at h;rw[nD] at h;have hm:bW (b[i].q j).op<=2000:=by unfold bW;split<;>omega
 omega
def oK (t:F_)(h:aR n0 f0 n1 f1=0):(Qy f0 t n0).length+(Qj f1 t n1).length<=200/\∀y∈Qj f1 t n1,valid y.q y.h=true:=by have H:=SpcOk.of (S:=⟨n0,f0,n1,f1⟩) h;have h0:=gO f0 t n0;have h1:=kf f1 t n1;have hs:n0+n1<=200:=H.bb;refine⟨by omega,λy b=>?_⟩;obtain⟨i,hi,rfl⟩:=NM.1 (U9.1 b).1;exact H.q i (E4.1 hi)
def wH{b:Type}{g:B_}{F:Nat->b}{x y:b}(k:Nat)(h:y∈ez g F x t k):y=x\/∃j,j<k/\y=F j:=by
 induction k with
 |zero=>cases h
 |succ k f =>
  have h2:y∈ez g F x t k\/y=x\/y=F k:=by
   unfold ez at h;split at h<;>simp only[p8,j4] at h;{rcases h with (h|h)|h;{exact .inl h};{exact .inr (.inl h)};{exact .inr (.inr h)}};{exact h.imp id .inr}
  rcases h2 with h|h|h;{exact(f h).imp id λ⟨j,hj,e⟩=>⟨j,by omega,e⟩};{exact .inl h};{exact .inr ⟨k,by omega,h⟩}
def wI{tx:F_}:Sml (eZ n0 f0 n1 f1 t tx) (fC n0 f0 n1 f1 t tx):=by
 by_cases h:iC n0 f0 n1 f1 t tx=0
 ·rw[eZ,fC,eT h,eT h];have g:aR n0 f0 n1 f1=0:=UZ λa=>by unfold iC at h;rw[eT a] at h;cases h
  obtain⟨h1,h2⟩:=oK t g;obtain⟨h3,f⟩:=sI (Qy f0 t n0) ⟨t,tx⟩ t (Qy f0 t n0).length;refine wG ?_ h2;unfold ik;split;{omega};{rename_i b;rw[cM,f (by simpa using b)];simp only[AI];omega}
 {rw[eZ,fC,eI h,eI h];exact rZ}
def wJ{m:Nat}{fp:Nat->Ins}:Sml (d9 n0 f0 n1 f1 t m fp) (eE n0 f0 n1 f1 t m fp):=by
 by_cases h:fW n0 f0 n1 f1 t (valid fp m)=0
 ·rw[d9,eE,eT h,eT h];unfold fW at h;have o:aR n0 f0 n1 f1=0:=UZ λa=>by rw[eT a] at h;cases h
  have n:valid fp m=true:=by
   cases e:valid fp m with
   |true=>rfl
   |false=>rw[eI (by omega),eT (.inr e)] at h;cases h
  obtain⟨h1,h2⟩:=oK t o;generalize Qj f1 t n1=K at h1 h2;obtain⟨h3,l⟩:=uT (nm1 (aW K)) (λj=>K.getD j dfT) ⟨t,m,fp⟩ t (z K);refine wG ?_ λy b=>?_;{unfold jO jg;split;{omega};{rename_i i;rw[cM,l (by simpa using i)];simp only[AI];omega}}
  ·have g:y=⟨t,m,fp⟩\/∃j,j<z K/\y=K.getD j dfT:=by
    unfold jO jg at b;split at b;{exact wH _ b};{rcases p8.1 b with b|b;{exact wH _ b};{exact .inl (j4.1 b)}}
   rcases g with rfl|⟨j,f,rfl⟩
   {exact n};{rw[CL,gq f];exact h2 _ (gz f)}
 {rw[d9,eE,eI h,eI h];exact rZ}
def wK:Sml (eB n0 f0 n1 f1 t) (fa n0 f0 n1 f1 t):=by
 by_cases h:ij n0 f0 n1 f1 t=0
 ·rw[eB,fa,eT h,eT h];have b:aR n0 f0 n1 f1=0:=UZ λa=>by unfold ij at h;rw[eT a] at h;cases h
  exact wG (by have:=(oK t b).1;omega) (oK t b).2
 {rw[eB,fa,eI h,eI h];exact rZ}
open Ca
def DCh (w:E)(R q:Nat)(a0:O_)(n0:Nat)(f0:Nat->Source)(a1:O_)(n1:Nat)(f1:Nat->Target)(e:Ending)(b:E):Prop:=∃(d0:O_) (m0 k0:Nat) (g0:Nat->Source) (d1:O_) (m1 k1:Nat) (g1:Nat->Target),e=.returned (ZJ #[Y d0 m0 k0,Y d1 m1 k1])/\(HSg (I (J w)) b d0 m0 g0 d1 m1 g1\/(d0=a0/\m0=n0/\g0=f0/\d1=a1/\m1=n1/\g1=f1))/\∃q':Nat,q'<=q/\Rd b R q'/\zt R w b
structure Ch (ZT:O_->Nat->(Nat->Source)->O_->Nat->(Nat->Target)->Prop)(xs:List Nat)(w:E)(R:Nat)(W:E)(q m0 k0 m1 k1:Nat)(d0:O_)(g0:Nat->Source)(d1:O_)(g1:Nat->Target):Prop where
 rd:Rd W R q
 o:zt R w W
 sx:W.heap[I (J w)]?=Q (N #[Y d0 m0 k0,Y d1 m1 k1] 29 (0,0))
 rx:W.heap[I (J w)+1]?=Q (N #[Y Z 0 0,Y Z 0 0] 29 (0,0))
 sp:QSp (I (J w)) xs W d0 m0 g0 d1 m1 g1\/ZT d0 m0 g0 d1 m1 g1
 lo:R<I (J w)
section
variable {ZT:O_->Nat->(Nat->Source)->O_->Nat->(Nat->Target)->Prop}{xs ys:List Nat}{w W W':E}{R q q' m0 k0 m1 k1:Nat}{d0 d1:O_}{g0:Nat->Source}{g1:Nat->Target}
def Ch.ac (h:Ch ZT xs w R W q m0 k0 m1 k1 d0 g0 d1 g1)(b:zt R W W')(hR:Rd W' R q')(f:R∈xs):Ch ZT xs w R W' q' m0 k0 m1 k1 d0 g0 d1 g1:=by have hl:=h.lo;exact⟨hR,h.o.k b,(b.p _ (aj h.sx) (by omega)).k h.sx,(b.p _ (aj h.rx) (by omega)).k h.rx,h.sp.imp (λg=>g.fr (Fr.ac b f)) id,h.lo⟩
def Ch.aa (h:Ch ZT xs w R W q m0 k0 m1 k1 d0 g0 d1 g1)(b:Below (I (J W)) W W')(f:R∈xs):Ch ZT xs w R W' q m0 k0 m1 k1 d0 g0 d1 g1:=h.ac (zt.l b) (h.rd.aa b ly) f
def QSp.more (h:QSp lo xs W d0 m0 g0 d1 m1 g1)(j:I (J W)<=x):QSp lo (x::xs) W d0 m0 g0 d1 m1 g1:=by
 obtain⟨b,i,l,h1,h2,g⟩:=h;refine⟨b,i,l,h1,h2,λy f=>?_⟩;rcases vG.1 f with rfl|f;{exact .inr (nX h2.1 j)};{exact g y f}
def QSp.less (h:QSp lo (x::xs) W d0 m0 g0 d1 m1 g1):QSp lo xs W d0 m0 g0 d1 m1 g1:=by obtain⟨b,g,i,h1,h2,f⟩:=h;exact⟨b,g,i,h1,h2,λy j=>f y (mq _ j)⟩
def Ch.more (h:Ch ZT xs w R W q m0 k0 m1 k1 d0 g0 d1 g1)(b:I (J W)<=x):Ch ZT (x::xs) w R W q m0 k0 m1 k1 d0 g0 d1 g1:=⟨h.rd,h.o,h.sx,h.rx,h.sp.imp (λg=>g.more b) id,h.lo⟩
def Ch.less (h:Ch ZT (x::xs) w R W q m0 k0 m1 k1 d0 g0 d1 g1):Ch ZT xs w R W q m0 k0 m1 k1 d0 g0 d1 g1:=⟨h.rd,h.o,h.sx,h.rx,h.sp.imp (λg=>g.less) id,h.lo⟩
def Ch.cells (h:Ch ZT xs w R W q m0 k0 m1 k1 d0 g0 d1 g1):ZV W (T (I (J w)) 0 Z)=Q (Y d0 m0 k0)/\ZV W (T (I (J w)) 1 Z)=Q (Y d1 m1 k1)/\ZW W (T (I (J w)) 0 Z)=ZA/\ZW W (T (I (J w)) 1 Z)=ZA/\(I (J w))<I (J W):=by have hb:=h.sx;refine⟨?_,?_,?_,?_,aj hb⟩<;>simp[World.cell?,World.frozen?,hb]
def Ch.two (h:Ch ZT xs w R W q m0 k0 m1 k1 d0 g0 d1 g1)(f:x∈xs)(b:I (J w)+2<=x)(u v:Value):Ch ZT xs w R (ZU (ZU W (T x 0 Z) u) (T x 1 Z) v) q m0 k0 m1 k1 d0 g0 d1 g1:=by have B:=((a8 (I (J w)+2) W).setCell (p:=(T x 0 Z)) b u).setCell (p:=(T x 1 Z)) b v;have hlo:=h.lo;exact⟨h.rd.low B (by omega),h.o.then (B.P (by omega)),(B.p _ (by omega)).k h.sx,(B.p _ (by omega)).k h.rx,h.sp.imp (λg=>g.fr ((Fr.set f _).k (Fr.set f _))) id,h.lo⟩
def Ch.put{j l0 b l1:Nat}{i f:O_}{l:Nat->Source}{m:Nat->Target}(h:Ch ZT xs w R W q m0 k0 m1 k1 d0 g0 d1 g1)(n:I (J w)∈xs)(s:QSp (I (J w)) xs W i j l f b m\/ZT i j l f b m):Ch ZT xs w R (ZU (ZU W (T (I (J w)) 0 Z) (Y i j l0)) (T (I (J w)) 1 Z) (Y f b l1)) q j l0 b l1 i l f m:=by have B:=((a8 (I (J w)) W).setCell (p:=(T (I (J w)) 0 Z)) ly (Y i j l0)).setCell (p:=(T (I (J w)) 1 Z)) ly (Y f b l1);have far:∀k,k≠I (J w)->(ZU (ZU W (T (I (J w)) 0 Z) (Y i j l0)) (T (I (J w)) 1 Z) (Y f b l1)).heap[k]?=W.heap[k]?:=λk r=>(qh _ _ _ _ r).k (qh _ _ _ _ r);have t:=h.sx;exact⟨h.rd.low B h.lo,h.o.then B,by simp[World.setCell,NQ,t],(far _ (by omega)).k h.rx,s.imp (λg=>g.fr ((Fr.set n _).k (Fr.set n _))) id,h.lo⟩
end
def r8{w:E}{b c0 c1:Nat}{a0 a1:O_}{j:List TR}{l:List Target}(p:w.ownsRow b 82 2 (Y a0 (z g) c0) (z g) (g.flatMap bF))(n:TRow w b (Y a1 (z j) c1) j)(o:j.map (·.1)=l)(f:Sml g l):HSg b w a0 (z g) (aV g) a1 (z j) (aW l):=by
 subst o;refine⟨fJ p rfl n rfl f.n0 (by simpa using f.n1) (λr m=>?_),f.pos.1,by simpa using f.pos.2.1,λi hi=>f.pos.2.2 i (by simpa using hi)⟩;obtain⟨i,hi,rfl⟩:=QK m;have e:aW (j.map (·.1)) i=j[i].1:=by simp[aW,hi]
 have h:=f.q i (by simpa using hi);rw[e] at h;exact h
def ol (R p b n0 c0 n1 c1:Nat)(a0:O_)(f0:Nat->Source)(a1:O_)(f1:Nat->Target)(w:E)(hR:Rd w R p)(hp:p<=18000)(hb:R<b)(hH:HSg b w a0 n0 f0 a1 n1 f1):Calls Tryz.prog 21 #[.pointer (Q (T R 0 Z)),ZJ #[Y a0 n0 c0,Y a1 n1 c1]] w λe w'=>DCh w R (p+2500) a0 n0 f0 a1 n1 f1 e w':=by
 obtain⟨ZT,hE⟩:∃ZT:O_->Nat->(Nat->Source)->O_->Nat->(Nat->Target)->Prop,ZT=λd0 m0 g0 d1 m1 g1=>d0=a0/\m0=n0/\g0=f0/\d1=a1/\m1=n1/\g1=f1:=⟨_,rfl⟩
 have HE:Hid (∀d0 m0 g0 d1 m1 g1,ZT d0 m0 g0 d1 m1 g1->d0=a0/\m0=n0/\g0=f0/\d1=a1/\m1=n1/\g1=f1):=λ_ _ _ _ _ _ h=>by rw[hE] at h;exact h
 have f:Hid (∀(V:E) (xs:List Nat) (q m0 k0 m1 k1:Nat) (d0:O_) (g0:Nat->Source) (d1:O_) (g1:Nat->Target),Ch ZT xs w R V q m0 k0 m1 k1 d0 g0 d1 g1->Qx V d0 m0 g0/\Qq V d1 m1 g1/\m0<=300/\m1<=300/\∀i,i<m1->(g1 i).h<=300/\∀j,j<(g1 i).h->((g1 i).q j).s.size<=5000):=λV xs q m0 k0 m1 k1 d0 g0 d1 g1 h=>by
  rcases h.sp with g|g;{have h1:=g.at.1;exact⟨(h1.sl V (Agr.refl _ _)).1,(h1.sl V (Agr.refl _ _)).2,h1.hn0,h1.hn1,h1.aq⟩};{obtain⟨rfl,rfl,rfl,rfl,rfl,rfl⟩:=HE.i _ _ _ _ _ _ g;have h1:=hH.1.sl V (h.o.agr hb);exact⟨h1.1,h1.2,hH.1.hn0,hH.1.hn1,hH.1.aq⟩}
 have sm:=hR.lt;have C0:Hid (Ch ZT [R,I (J w),I (J w)+1] w R ((w.alloc (N #[Y a0 n0 c0,Y a1 n1 c1] 29)).alloc (N #[Y Z 0 0,Y Z 0 0] 29)) p n0 c0 n1 c1 a0 f0 a1 f1):=by have B:=((BS w).alloc ly (N #[Y a0 n0 c0,Y a1 n1 c1] 29)).alloc (by simp) (N #[Y Z 0 0,Y Z 0 0] 29);exact⟨hR.aa B ly,zt.l B,(((a8 (I (J w)+1) (w.alloc (N #[Y a0 n0 c0,Y a1 n1 c1] 29))).alloc (by simp) _).p (I (J w)) (eL _)).k (gM w _),SL w _ _,.inr (by rw[hE];exact⟨rfl,rfl,rfl,rfl,rfl,rfl⟩),sm⟩
 clear hE hR hH;go_enter func21,ntmps21;go_wp2_with fail;generalize World.alloc (World.alloc w _) _=W0 at C0 ⊢;refine(ay R p 3 _ C0.rd (by omega) (by omega) (by omega)).P ?_;rintro e w1⟨ZX,rfl,qr,mv,n8,fd⟩;have C1:=ae (C0.ac fd n8 (by simp));clear n8 fd C0;have DE:IntKind.i64.wrap (1+ZX)=1+ZX:=by rw[nL];omega
 go_wp2_with fail;go_loopw [5] (λv wr=>∃(i:Int) (q m0 k0 m1 k1:Nat) (d0:O_) (g0:Nat->Source) (d1:O_) (g1:Nat->Target),v=.int .i64 i/\0<=i/\i<=3/\(q:Int)+610*i<=(p:Int)+1831/\Hid (Ch ZT [R,I (J w),I (J w)+1] w R wr q m0 k0 m1 k1 d0 g0 d1 g1)) (λv _=>(intOf v).toNat);case atStart=>exact⟨_,_,_,_,_,_,_,_,_,_,rfl,by omega,by omega,by omega,C1⟩
 case round =>
  clear C1 DE qr mv;obtain⟨i,q,m0,k0,m1,k1,d0,g0,d1,g1,rfl,hi0,hi3,hq,ZN⟩:=hrel;obtain⟨x0,x1,x2,x3,x4⟩:=ZN.cells;by_cases hi:0<i
  ·have hwi:IntKind.i64.wrap (i - 1)=i - 1:=by rw[nL];omega
   have Fd:=aj ZN.rx;have C3:Hid (Ch ZT [I (J wr),R,I (J w),I (J w)+1] w R (wr.alloc (N #[Y d0 m0 k0,Y d1 m1 k1] 29)) q m0 k0 m1 k1 d0 g0 d1 g1):=(ZN.more ly).aa (br.alloc ly _) (by simp);have N3:Hid ((wr.alloc (N #[Y d0 m0 k0,Y d1 m1 k1] 29)).heap[I (J wr)]?=Q (N #[Y d0 m0 k0,Y d1 m1 k1] 29 (0,0))):=gM wr _;go_wp2_with fail;generalize World.alloc wr _=W3 at C3 N3 ⊢;refine(ay R _ 6 _ C3.rd (by omega) (by omega) (by omega)).P ?_;rintro e w4⟨ZX,rfl,qr,mv,ld,bt⟩;have C4:=ae (C3.ac bt ld (by simp));have N4:=ae ((bt.p _ (aj N3) (by omega)).k N3);clear ld bt C3 N3;have ro:I (J w)+2<=I (J wr):=by omega
   clear x0 x1 x2 x3 x4 Fd ZN;go_upto_block 2 with fail;generalize (I (J wr))=A at C4 N4 ro ⊢;have O:Hid (∀(V:E) (q:Nat),Ch ZT [A,R,I (J w),I (J w)+1] w R V q m0 k0 m1 k1 d0 g0 d1 g1->ZV V (T (I (J w)) 0 Z)=Q (Y d0 m0 k0)/\ZV V (T (I (J w)) 1 Z)=Q (Y d1 m1 k1)):=λV q h=>⟨h.cells.1,h.cells.2.1⟩
   obtain⟨-,-,hm0,hm1,aq⟩:=f.i _ _ _ _ _ _ _ _ _ _ _ C4;have ZM:=f;clear f;have FT:Hid (∀i,i<m1->aP (g1 i)):=λi hi=>by have:=(aq i hi).1;unfold aP;omega
   have FL:Hid (∀i,i<m1->∀j,j<(g1 i).h->((g1 i).q j).s.size<=maxLen):=λi hi j hj=>by have:=(aq i hi).2 j hj;unfold maxLen;omega
   clear aq;go_cut [7] (λs7 wx=>∃(cc:Int) (q' ZR D H G:Nat) (ZS:O_) (i0:Nat->Source) (M:O_) (i1:Nat->Target),s7=.int .i64 cc/\q'<=q+605/\Hid (Ch ZT [A,R,I (J w),I (J w)+1] w R wx q' m0 k0 m1 k1 d0 g0 d1 g1)/\Hid (wx.heap[A]?=Q (N #[Y ZS ZR D,Y M H G] 29 (0,0)))/\Hid (QSp (I (J w)) [A,R,I (J w),I (J w)+1] wx ZS ZR i0 M H i1));case first =>
    rcases(show ZX=0\/ZX=1\/(1<ZX) by omega) with rfl|rfl|hz2;case' inr.inr =>
     have hz3:(ZX == 0)=ZA:=by simp;omega
     have hz4:(ZX == 1)=ZA:=by simp;omega
    all_goals
     go_wp2_with fail;have l:=ae (C4.aa br.drew (by simp));have r:Hid (w4.drew.heap[A]?=Q (N #[Y d0 m0 k0,Y d1 m1 k1] 29 (0,0))):=N4.i;refine wp_region_held_drew (S:=λV=>ZV V (T (I (J w)) 0 Z)=Q (Y d0 m0 k0)/\ZV V (T (I (J w)) 1 Z)=Q (Y d1 m1 k1)) (by kernel_rfl) (O _ _ l) λhS=>?_;have f:=ae hS;clear hS C4 N4;generalize w4.drew=v4 at l r f ⊢
     iterate 2
      refine aN 0 (v:=?_) rfl rfl (by kernel_rfl) (λ_ _ _ h=>h) rfl ?_ f ?_;rotate_left
      ·(rintro ZP⟨s0,s1⟩;go_simp)
       (try with_reducible rfl)
      (try simp only[p_,z_])
    focus
     refine aN 5 (v:=?_) rfl rfl (by kernel_rfl) (λ_ _ _ h=>h) rfl ?_ f ?_;rotate_left
     ·(rintro ZP⟨s0,s1⟩;go_simp)
      (try with_reducible rfl)
     (try simp only[p_,z_])
     refine aN 8 (v:=?_) rfl rfl (by kernel_rfl) (λ_ _ _ h=>h) rfl ?_ f ?_;rotate_left
     ·(rintro ZP⟨s0,s1⟩;go_simp)
      (try with_reducible rfl)
     (try simp only[p_,z_])
     refine aL (i:=2) rfl (by kernel_rfl) λK m=>?_;go_simp;go_at_call 19;refine(ay R _ 6 _ l.rd (by omega) (by omega) (by omega)).P ?_;rintro e v5⟨y,rfl,ZL,la,hR,n⟩;obtain⟨k,rfl⟩:=p9 ZL;replace r:=ae ((n.p _ (aj r) (by omega)).k r);replace l:=ae (l.ac n hR (by simp));clear hR n f;have f:=ae (O _ _ l);refine m _ _ f ?_;clear m K
     (try simp only[p_,z_])
     refine aN 3 (v:=U ((⟨#[97,98,99,100,101,102]⟩:F_).extract k 6)) rfl rfl (by kernel_rfl) (λ_ _ _ h=>h) rfl ?_ f ?_
     ·intro ZP u
      go_simp;intro h;omega
     (try simp only[p_,z_])
     obtain⟨s,hs⟩:∃s:F_,s=(⟨#[97,98,99,100,101,102]⟩:F_).extract k 6:=⟨_,rfl⟩
     have th:1<=s.size:=by rw[hs,ByteArray.size_extract];have e:(⟨#[97,98,99,100,101,102]⟩:F_).size=6:=rfl;rw[e];omega
     rw[<-hs];clear hs ZL la;refine aN 4 (v:=U (s.extract 0 1)) rfl rfl (by kernel_rfl) (λ_ _ _ h=>h) rfl ?_ f ?_
     ·intro ZP u
      go_simp;intro h;omega
     (try simp only[p_,z_])
     generalize s.extract 0 1=kn;clear th;refine aL (i:=6) rfl (by kernel_rfl) λK m=>?_;go_simp;go_at_call 36;refine(fT R _ _ l.rd (by omega)).P ?_;rintro e v7⟨t,rfl,C,q7,hq7,hR,n⟩;replace r:=ae ((n.p _ (aj r) (by omega)).k r);replace l:=ae (l.ac n hR (by simp));clear hR n f;have f:=ae (O _ _ l);refine m _ _ f ?_;clear m K
     (try simp only[p_,z_])
     refine aN 7 (v:=U (t++⟨#[32]⟩)) rfl rfl (by kernel_rfl) (λ_ _ _ h=>h) rfl ?_ f ?_
     ·intro ZP u
      go_simp;omega
     (try simp only[p_,z_])
     obtain⟨tt,ex⟩:∃tt:F_,tt=t++⟨#[32]⟩:=⟨_,rfl⟩
     have At:tt.size<=9:=by have e:(⟨#[32]⟩:F_).size=1:=rfl;rw[ex,PU,e];omega
     rw[<-ex];clear ex C;refine aL (i:=9) rfl (by kernel_rfl) λK m=>?_;go_simp;go_at_call 32;refine(dH R _ _ l.rd (by omega)).P ?_;rintro e v8⟨t2,rfl,ur,hR,n⟩;replace r:=ae ((n.p _ (aj r) (by omega)).k r);replace l:=ae (l.ac n hR (by simp));clear hR n f;have f:=ae (O _ _ l);refine m _ _ f ?_;clear m K
     (try simp only[p_,z_])
     refine aN 10 (v:=U (tt++t2)) rfl rfl (by kernel_rfl) (λ_ _ _ h=>h) rfl ?_ f ?_
     ·intro ZP u
      go_simp;omega
     (try simp only[p_,z_])
     generalize tt++t2=tx;clear At ur;refine aL (i:=11) rfl (by kernel_rfl) λK m=>?_;go_simp;go_at_call 12;refine(nE d0 m0 k0 g0 d1 m1 k1 g1 kn tx _ (by omega) (by omega) (ZM _ _ _ _ _ _ _ _ _ _ _ l).1 (ZM _ _ _ _ _ _ _ _ _ _ _ l).2.1 FT FL).P ?_;rintro e X⟨v0,v1,RT,rfl,ZQ,C,W,P⟩;obtain⟨ZS,D,rfl⟩:=aJ ZQ;obtain⟨M,G,rfl⟩:=aJ C.u;have SM:=r8 ZQ C W wI;generalize (eZ m0 g0 m1 g1 kn tx).length=ZR at SM ⊢;generalize (z RT)=H at SM ⊢;generalize aV (eZ m0 g0 m1 g1 kn tx)=i0 at SM;generalize aW (fC m0 g0 m1 g1 kn tx)=i1 at SM;clear ZQ C W
    rotate_left;focus
     refine aL (i:=2) rfl (by kernel_rfl) λK m=>?_;go_simp;go_at_call 32;refine(dH R _ _ l.rd (by omega)).P ?_;rintro e v5⟨t,rfl,C,hR,n⟩;clear C;replace r:=ae ((n.p _ (aj r) (by omega)).k r);replace l:=ae (l.ac n hR (by simp));clear hR n f;have f:=ae (O _ _ l);refine m _ _ f ?_;clear m K
     (try simp only[p_,z_])
     refine aL (i:=3) rfl (by kernel_rfl) λK m=>?_;go_simp;go_at_call 14;refine(nF d0 m0 k0 g0 d1 m1 k1 g1 t _ (by omega) (by omega) (ZM _ _ _ _ _ _ _ _ _ _ _ l).1 (ZM _ _ _ _ _ _ _ _ _ _ _ l).2.1 FT FL).P ?_;rintro e X⟨v0,v1,RT,rfl,ZQ,C,W,P⟩;obtain⟨ZS,D,rfl⟩:=aJ ZQ;obtain⟨M,G,rfl⟩:=aJ C.u;have SM:=r8 ZQ C W wK;generalize (eB m0 g0 m1 g1 t).length=ZR at SM ⊢;generalize (z RT)=H at SM ⊢;generalize aV (eB m0 g0 m1 g1 t)=i0 at SM;generalize aW (fa m0 g0 m1 g1 t)=i1 at SM;clear ZQ C W
    rotate_left;focus
     refine aN 5 (v:=?_) rfl rfl (by kernel_rfl) (λ_ _ _ h=>h) rfl ?_ f ?_;rotate_left
     ·(rintro ZP⟨s0,s1⟩;go_simp)
      (try with_reducible rfl)
     (try simp only[p_,z_])
     refine aL (i:=2) rfl (by kernel_rfl) λK m=>?_;go_simp;go_at_call 19;refine(ay R _ 8 _ l.rd (by omega) (by omega) (by omega)).P ?_;rintro e v5⟨y,rfl,ZL,la,hR,n⟩;obtain⟨k,rfl⟩:=p9 ZL;replace r:=ae ((n.p _ (aj r) (by omega)).k r);replace l:=ae (l.ac n hR (by simp));clear hR n f;have f:=ae (O _ _ l);refine m _ _ f ?_;clear m K
     (try simp only[p_,z_])
     refine aL (i:=3) rfl (by kernel_rfl) λK m=>?_;go_simp;go_at_call 54;refine(iK k (by omega) _).P ?_;rintro e v7⟨rfl,P⟩;have hR:=l.rd.aa P ly;have n:=zt.l (b:=R) P;clear P;replace r:=ae ((n.p _ (aj r) (by omega)).k r);replace l:=ae (l.ac n hR (by simp));clear hR n f;have f:=ae (O _ _ l);refine m _ _ f ?_;clear m K
     (try simp only[p_,z_])
     refine aN 4 (v:=?_) rfl rfl (by kernel_rfl) (λ_ _ _ h=>h) rfl ?_ f ?_;rotate_left
     ·(rintro ZP⟨s0,s1⟩;go_simp)
      (try with_reducible rfl)
     (try simp only[p_,z_])
     refine aL (i:=6) rfl (by kernel_rfl) λK m=>?_;go_simp;go_at_call 55;have hs7:=l.o.size;refine(fZ R _ _ l.rd (by omega)).P ?_;rintro e v8⟨L,g,c,rfl,hI,hL1,hL2,ph,q8,hq8,hR,n⟩;have SI:=ae (show SlIns v8 (Q (T g 0 Z)) (z L) (cY L) from .inr ⟨g,0,rfl,hI.lt.2,hI.at⟩);have FI:Hid (∀i,i<z L->(cY L i).s.size<=maxLen):=λi hi=>by have:=iI ph i hi;unfold maxLen;omega
     clear hI ph;replace r:=ae ((n.p _ (aj r) (by omega)).k r);replace l:=ae (l.ac n hR (by simp));clear hR n f;have f:=ae (O _ _ l);refine m _ _ f ?_;clear m K
     (try simp only[p_,z_])
     refine aL (i:=7) rfl (by kernel_rfl) λK m=>?_;go_simp;go_at_call 13;refine(nG d0 m0 k0 g0 d1 m1 k1 g1 _ (Q (T g 0 Z)) (z L) c (cY L) _ (by omega) (by omega) (by omega) (ZM _ _ _ _ _ _ _ _ _ _ _ l).1 (ZM _ _ _ _ _ _ _ _ _ _ _ l).2.1 SI FT FL FI).P ?_;rintro e X⟨v0,v1,RT,rfl,ZQ,C,W,P⟩;clear SI FI;obtain⟨ZS,D,rfl⟩:=aJ ZQ;obtain⟨M,G,rfl⟩:=aJ C.u;have SM:=r8 ZQ C W wJ;generalize (⟨#[116]⟩:F_)++⟨#[dig k]⟩=t at SM ⊢;generalize (d9 m0 g0 m1 g1 t (z L) (cY L)).length=ZR at SM ⊢;generalize (z RT)=H at SM ⊢;generalize aV (d9 m0 g0 m1 g1 t (z L) (cY L))=i0 at SM;generalize aW (eE m0 g0 m1 g1 t (z L) (cY L))=i1 at SM;clear ZQ C W
    all_goals
     have hz6:=P.size;have hw5:=l.o.size;have DQ:=aj r.i;have C6:=ae (l.aa P (by simp));have N6:=ae ((P.p A DQ).k r)
     have Q6:=ae (QSp.new (lo:=I (J w)) (xs:=[A,R,I (J w),I (J w)+1]) SM (by omega) (λx hx=>by
      simp only[vG,nj,QV] at hx
      omega))
     clear P l r f SM;have f:=ae (O _ _ C6);refine m _ _ f ?_;clear m K
     (try simp only[p_,z_])
     iterate 3
      refine aN 4 (v:=?_) rfl rfl (by kernel_rfl) (λ_ _ _ h=>h) rfl ?_ f ?_;rotate_left
      ·(rintro ZP⟨s0,s1⟩;go_simp)
       (try with_reducible rfl)
      (try simp only[p_,z_])
     have ZO:=N6.i;have y0:ZW X (T A 0 Z)=ZA:=by simp[World.frozen?,ZO]
     have y1:ZW X (T A 1 Z)=ZA:=by simp[World.frozen?,ZO]
     have y2:=aj ZO;have y3:ZV X (T A 0 Z)=Q (Y d0 m0 k0):=by simp[World.cell?,ZO]
     have y4:ZV X (T A 1 Z)=Q (Y d1 m1 k1):=by simp[World.cell?,ZO]
     clear ZO;have C7:=ae (C6.two (x:=A) (by simp) ro (Y ZS ZR D) (Y M H G));have N7:Hid ((ZU (ZU X (T A 0 Z) (Y ZS ZR D)) (T A 1 Z) (Y M H G)).heap[A]?=Q (N #[Y ZS ZR D,Y M H G] 29 (0,0))):=by have h1:=cH (j:=1) (cH (j:=0) N6 (Y ZS ZR D)) (Y M H G);exact h1
     have Q7:=ae (Q6.fr ((Fr.set (x:=A) (j:=0) (by simp) (Y ZS ZR D)).k (Fr.set (x:=A) (j:=1) (by simp) (Y M H G))));refine li 4 rfl rfl (by kernel_rfl) λK m=>?_;go_simp;clear f;have f:=ae (O _ _ C7);refine m _ _ f ?_;clear m K
     (try simp only[p_,z_])
     refine li 4 rfl rfl (by kernel_rfl) λK m=>?_;go_simp;refine m _ _ f ?_;clear m K
     (try simp only[p_,z_])
     refine wpAnyH_done (by kernel_rfl) ?_ _;go_wp2;go_meet;exact⟨_,_,_,_,_,_,_,_,_,_,rfl,by omega,C7,N7,Q7⟩
   case rest =>
   clear C4 N4 O FT FL;obtain⟨cc,q',ZR,D,H,G,ZS,i0,M,i1,rfl,hq',C8,N8,Q8⟩:=hcut;generalize wc=W8 at C8 N8 Q8 ⊢;obtain⟨x0,x1,x2,x3,x4⟩:=C8.cells;have ZO:=N8.i;have y3:ZV W8 (T A 0 Z)=Q (Y ZS ZR D):=by simp[World.cell?,ZO]
   have y4:ZV W8 (T A 1 Z)=Q (Y M H G):=by simp[World.cell?,ZO]
   clear ZO;by_cases n9:cc=0;{subst n9;have C9:=ae ((C8.put (l0:=D) (l1:=G) (by simp) (.inl Q8)).less);go_wp2;exact⟨⟨_,_,_,_,_,_,_,_,_,_,rfl,by omega,by omega,by omega,C9⟩,by simp only[intOf];omega⟩}
   ·have hcb:(cc == 0)=ZA:=by simpa using n9
    go_wp2;exact⟨⟨_,_,_,_,_,_,_,_,_,_,rfl,by omega,by omega,by omega,C8.less⟩,by simp only[intOf];omega⟩
  ·have hi2:¬ 0<i:=hi;have kr:=ZN.rx;have r0:ZV wr (T (I (J w)+1) 0 Z)=Q (Y Z 0 0):=by simp[World.cell?,kr]
   have r1:ZV wr (T (I (J w)+1) 1 Z)=Q (Y Z 0 0):=by simp[World.cell?,kr]
   have r2:ZW wr (T (I (J w)+1) 0 Z)=ZA:=by simp[World.frozen?,kr]
   have r3:ZW wr (T (I (J w)+1) 1 Z)=ZA:=by simp[World.frozen?,kr]
   have D:=aj kr;clear kr;have BE:=ae (((a8 (I (J w)+1) wr).setCell (p:=(T (I (J w)+1) 0 Z)) ly (Y d0 m0 k0)).setCell (p:=(T (I (J w)+1) 1 Z)) ly (Y d1 m1 k1));have Bk:Hid (HSg (I (J w)) (ZU (ZU wr (T (I (J w)+1) 0 Z) (Y d0 m0 k0)) (T (I (J w)+1) 1 Z) (Y d1 m1 k1)) d0 m0 g0 d1 m1 g1\/(d0=a0/\m0=n0/\g0=f0/\d1=a1/\m1=n1/\g1=f1)):=ZN.sp.imp (λg=>(g.fr ((Fr.set (x:=I (J w)+1) (j:=0) (by simp) (Y d0 m0 k0)).k (Fr.set (x:=I (J w)+1) (j:=1) (by simp) (Y d1 m1 k1)))).at) (HE _ _ _ _ _ _);have RE:=ae (ZN.rd.low BE (by omega));have OE:=ae (ZN.o.then (BE.P (BV _)));go_wp2;exact bp (v:=ZJ #[Y d0 m0 k0,Y d1 m1 k1]) (by simp[results,results21,go_sem,r0,r1]) rfl ⟨_,_,_,_,_,_,_,_,rfl,Bk,_,by omega,RE,OE⟩
