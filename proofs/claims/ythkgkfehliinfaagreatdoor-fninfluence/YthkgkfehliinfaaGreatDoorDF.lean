import Derived.Test.YthkgkfehliinfaaGreatDoorDC
import Derived.Test.YthkgkfehliinfaaGreatDoorFU
set_option linter.all false
set_option maxRecDepth 100000
set_option maxHeartbeats 8000000
open Go renaming Addr.mk->Q,Value.slice->Y,Value.string->U,Value.agg->ZJ,Obj.cells->N,World->E,World.heap->J,World.cell?->ZV,World.frozen?->ZW,World.setCell->ZU
open Option renaming none->Z,some->T
open Bool renaming false->ZA
open Array renaming size->I
open List renaming length->z
namespace Go.Proofs.YthkgkfehliinfaaGreatDoor.Vp
open Tryz RowKit
variable {x n0 n1 lo:Nat}{f0:Nat->Source}{f1:Nat->Target}{t:F_}{b:List Target}{g:List Source}
structure Sml (LS:List Source)(LT:List Target):Prop where
 n0:z LS<=300
 n1:z LT<=300
 u:∀i,i<z LT->(aW LT i).h<=300/\∀j,j<(aW LT i).h->((aW LT i).u j).s.size<=5000
 pos:z LS<=250/\(z LT)<=250/\∀i,i<z LT->1<=(aW LT i).h/\(aW LT i).h<=200
def Sml.aq{f:List Source}(h:Sml f b):∀i,i<z b->aP (aW b i):=λi hi=>by have:=(h.u i hi).1;unfold aP;omega
def rZ:Sml [] []:=⟨by simp,by simp,λi hi=>absurd hi (by simp),by simp,by simp,λi hi=>absurd hi (by simp)⟩
def wG (hl:z g+z b<=201)(h:∀y∈b,valid y.u y.h=true):Sml g b:=by
 refine⟨by omega,by omega,λi hi=>?_,by omega,by omega,λi hi=>by
  rw[dy hi];obtain⟨h1,h2,l⟩:=bJ (h _ (gz hi))
  omega⟩
 rw[dy hi];obtain⟨h1,h2,l⟩:=bJ (h _ (gz hi));refine⟨by omega,λj m=>?_⟩;have f:=j7 h1 m;unfold cL at f;rw[nD] at f;have hm:bW (b[i].u j).op<=2000:=by unfold bW;split<;>omega
 omega
def oK (t:F_)(h:aR n0 f0 n1 f1=0):(Qy f0 t n0).length+(Qj f1 t n1).length<=200/\∀y∈Qj f1 t n1,valid y.u y.h=true:=by have H:=SpcOk.of (S:=⟨n0,f0,n1,f1⟩) h;have h0:=gO f0 t n0;have h1:=kf f1 t n1;have hs:n0+n1<=200:=H.bb;refine⟨by omega,λy b=>?_⟩;obtain⟨i,hi,rfl⟩:=NN.1 (U9.1 b).1;exact H.u i (E4.1 hi)
def wH{b:Type}{g:B_}{F:Nat->b}{x y:b}(k:Nat)(h:y∈ez g F x t k):y=x\/∃j,j<k/\y=F j:=by
 induction k with
 |zero=>cases h
 |succ k f =>
  have h2:y∈ez g F x t k\/y=x\/y=F k:=by
   unfold ez at h;split at h<;>simp only[p8,j4] at h;{rcases h with (h|h)|h;{exact .inl h};{exact .inr (.inl h)};{exact .inr (.inr h)}};{exact h.imp id .inr}
  rcases h2 with h|h|h;{exact(f h).imp id λ⟨j,hj,e⟩=>⟨j,by omega,e⟩};{exact .inl h};{exact .inr ⟨k,by omega,h⟩}
def wI{tx:F_}:Sml (eZ n0 f0 n1 f1 t tx) (fC n0 f0 n1 f1 t tx):=by
 by_cases h:iC n0 f0 n1 f1 t tx=0
 ·rw[eZ,fC,eT h,eT h];have g:aR n0 f0 n1 f1=0:=UZ λa=>by unfold iC at h;rw[eT a] at h;cases h
  obtain⟨h1,h2⟩:=oK t g;obtain⟨h3,f⟩:=sF (Qy f0 t n0) ⟨t,tx⟩ t (Qy f0 t n0).length;refine wG ?_ h2;unfold ii;split;{omega};{rename_i b;rw[cM,f (by simpa using b)];simp only[AI];omega}
 {rw[eZ,fC,eI h,eI h];exact rZ}
def wJ{m:Nat}{fp:Nat->Ins}:Sml (d9 n0 f0 n1 f1 t m fp) (eE n0 f0 n1 f1 t m fp):=by
 by_cases h:fW n0 f0 n1 f1 t (valid fp m)=0
 ·rw[d9,eE,eT h,eT h];unfold fW at h;have n:aR n0 f0 n1 f1=0:=UZ λa=>by rw[eT a] at h;cases h
  have o:valid fp m=true:=by
   cases e:valid fp m with
   |true=>rfl
   |false=>rw[eI (by omega),eT (.inr e)] at h;cases h
  obtain⟨h1,h2⟩:=oK t n;generalize Qj f1 t n1=K at h1 h2;obtain⟨h3,i⟩:=uP (nm1 (aW K)) (λj=>K.getD j dfT) ⟨t,m,fp⟩ t (z K);refine wG ?_ λy b=>?_;{unfold jN jg;split;{omega};{rename_i l;rw[cM,i (by simpa using l)];simp only[AI];omega}}
  ·have g:y=⟨t,m,fp⟩\/∃j,j<z K/\y=K.getD j dfT:=by
    unfold jN jg at b;split at b;{exact wH _ b};{rcases p8.1 b with b|b;{exact wH _ b};{exact .inl (j4.1 b)}}
   rcases g with rfl|⟨j,f,rfl⟩
   {exact o};{rw[CL,gq f];exact h2 _ (gz f)}
 {rw[d9,eE,eI h,eI h];exact rZ}
def wK:Sml (eB n0 f0 n1 f1 t) (fa n0 f0 n1 f1 t):=by
 by_cases h:ig n0 f0 n1 f1 t=0
 ·rw[eB,fa,eT h,eT h];have b:aR n0 f0 n1 f1=0:=UZ λa=>by unfold ig at h;rw[eT a] at h;cases h
  exact wG (by have:=(oK t b).1;omega) (oK t b).2
 {rw[eB,fa,eI h,eI h];exact rZ}
open Ca
def DCh (w:E)(R q:Nat)(a0:O_)(n0:Nat)(f0:Nat->Source)(a1:O_)(n1:Nat)(f1:Nat->Target)(e:Ending)(b:E):Prop:=∃(d0:O_) (m0 k0:Nat) (g0:Nat->Source) (d1:O_) (m1 k1:Nat) (g1:Nat->Target),e=.returned (ZJ #[Y d0 m0 k0,Y d1 m1 k1])/\(HSg (I (J w)) b d0 m0 g0 d1 m1 g1\/(d0=a0/\m0=n0/\g0=f0/\d1=a1/\m1=n1/\g1=f1))/\∃q':Nat,q'<=q/\Rd b R q'/\zd R w b
structure Ch (ZT:O_->Nat->(Nat->Source)->O_->Nat->(Nat->Target)->Prop)(xs:List Nat)(w:E)(R:Nat)(W:E)(q m0 k0 m1 k1:Nat)(d0:O_)(g0:Nat->Source)(d1:O_)(g1:Nat->Target):Prop where
 rd:Rd W R q
 o:zd R w W
 sx:W.heap[I (J w)]?=T (N #[Y d0 m0 k0,Y d1 m1 k1] 29 (0,0))
 rx:W.heap[I (J w)+1]?=T (N #[Y Z 0 0,Y Z 0 0] 29 (0,0))
 sp:QSp (I (J w)) xs W d0 m0 g0 d1 m1 g1\/ZT d0 m0 g0 d1 m1 g1
 lo:R<I (J w)
section
variable {ZT:O_->Nat->(Nat->Source)->O_->Nat->(Nat->Target)->Prop}{xs ys:List Nat}{w W W':E}{R q q' m0 k0 m1 k1:Nat}{d0 d1:O_}{g0:Nat->Source}{g1:Nat->Target}
def Ch.ac (h:Ch ZT xs w R W q m0 k0 m1 k1 d0 g0 d1 g1)(b:zd R W W')(hR:Rd W' R q')(f:R∈xs):Ch ZT xs w R W' q' m0 k0 m1 k1 d0 g0 d1 g1:=by have hl:=h.lo;exact⟨hR,h.o.k b,(b.p _ (aj h.sx) (by omega)).k h.sx,(b.p _ (aj h.rx) (by omega)).k h.rx,h.sp.imp (λg=>g.fr (Fr.ac b f)) id,h.lo⟩
def Ch.aa (h:Ch ZT xs w R W q m0 k0 m1 k1 d0 g0 d1 g1)(b:Below (I (J W)) W W')(f:R∈xs):Ch ZT xs w R W' q m0 k0 m1 k1 d0 g0 d1 g1:=h.ac (zd.q b) (h.rd.aa b ly) f
def QSp.more (h:QSp lo xs W d0 m0 g0 d1 m1 g1)(g:I (J W)<=x):QSp lo (x::xs) W d0 m0 g0 d1 m1 g1:=by
 obtain⟨b,j,l,h1,h2,i⟩:=h;refine⟨b,j,l,h1,h2,λy f=>?_⟩;rcases vG.1 f with rfl|f;{exact .inr (nX h2.1 g)};{exact i y f}
def QSp.less (h:QSp lo (x::xs) W d0 m0 g0 d1 m1 g1):QSp lo xs W d0 m0 g0 d1 m1 g1:=by obtain⟨b,i,j,h1,h2,g⟩:=h;exact⟨b,i,j,h1,h2,λy f=>g y (mq _ f)⟩
def Ch.more (h:Ch ZT xs w R W q m0 k0 m1 k1 d0 g0 d1 g1)(b:I (J W)<=x):Ch ZT (x::xs) w R W q m0 k0 m1 k1 d0 g0 d1 g1:=⟨h.rd,h.o,h.sx,h.rx,h.sp.imp (λg=>g.more b) id,h.lo⟩
def Ch.less (h:Ch ZT (x::xs) w R W q m0 k0 m1 k1 d0 g0 d1 g1):Ch ZT xs w R W q m0 k0 m1 k1 d0 g0 d1 g1:=⟨h.rd,h.o,h.sx,h.rx,h.sp.imp (λg=>g.less) id,h.lo⟩
def Ch.cells (h:Ch ZT xs w R W q m0 k0 m1 k1 d0 g0 d1 g1):ZV W (Q (I (J w)) 0 Z)=T (Y d0 m0 k0)/\ZV W (Q (I (J w)) 1 Z)=T (Y d1 m1 k1)/\ZW W (Q (I (J w)) 0 Z)=ZA/\ZW W (Q (I (J w)) 1 Z)=ZA/\(I (J w))<I (J W):=by have hb:=h.sx;refine⟨?_,?_,?_,?_,aj hb⟩<;>simp[World.cell?,World.frozen?,hb]
def Ch.two (h:Ch ZT xs w R W q m0 k0 m1 k1 d0 g0 d1 g1)(f:x∈xs)(b:I (J w)+2<=x)(u v:Value):Ch ZT xs w R (ZU (ZU W (Q x 0 Z) u) (Q x 1 Z) v) q m0 k0 m1 k1 d0 g0 d1 g1:=by have B:=((a8 (I (J w)+2) W).setCell (p:=(Q x 0 Z)) b u).setCell (p:=(Q x 1 Z)) b v;have hlo:=h.lo;exact⟨h.rd.low B (by omega),h.o.then (B.P (by omega)),(B.p _ (by omega)).k h.sx,(B.p _ (by omega)).k h.rx,h.sp.imp (λg=>g.fr ((Fr.set f _).k (Fr.set f _))) id,h.lo⟩
def Ch.put{b l0 j l1:Nat}{i f:O_}{m:Nat->Source}{l:Nat->Target}(h:Ch ZT xs w R W q m0 k0 m1 k1 d0 g0 d1 g1)(r:I (J w)∈xs)(t:QSp (I (J w)) xs W i b m f j l\/ZT i b m f j l):Ch ZT xs w R (ZU (ZU W (Q (I (J w)) 0 Z) (Y i b l0)) (Q (I (J w)) 1 Z) (Y f j l1)) q b l0 j l1 i m f l:=by have B:=((a8 (I (J w)) W).setCell (p:=(Q (I (J w)) 0 Z)) ly (Y i b l0)).setCell (p:=(Q (I (J w)) 1 Z)) ly (Y f j l1);have far:∀k,k≠I (J w)->(ZU (ZU W (Q (I (J w)) 0 Z) (Y i b l0)) (Q (I (J w)) 1 Z) (Y f j l1)).heap[k]?=W.heap[k]?:=λk n=>(qh _ _ _ _ n).k (qh _ _ _ _ n);have s:=h.sx;exact⟨h.rd.low B h.lo,h.o.then B,by simp[World.setCell,NR,s],(far _ (by omega)).k h.rx,t.imp (λg=>g.fr ((Fr.set r _).k (Fr.set r _))) id,h.lo⟩
end
def r8{w:E}{b c0 c1:Nat}{a0 a1:O_}{j:List TR}{l:List Target}(p:w.ownsRow b 91 2 (Y a0 (z g) c0) (z g) (g.flatMap bF))(n:TRow w b (Y a1 (z j) c1) j)(o:j.map (·.1)=l)(f:Sml g l):HSg b w a0 (z g) (aV g) a1 (z j) (aW l):=by
 subst o;refine⟨fJ p rfl n rfl f.n0 (by simpa using f.n1) (λr m=>?_),f.pos.1,by simpa using f.pos.2.1,λi hi=>f.pos.2.2 i (by simpa using hi)⟩;obtain⟨i,hi,rfl⟩:=QL m;have e:aW (j.map (·.1)) i=j[i].1:=by simp[aW,hi]
 have h:=f.u i (by simpa using hi);rw[e] at h;exact h
def ol (R p b n0 c0 n1 c1:Nat)(a0:O_)(f0:Nat->Source)(a1:O_)(f1:Nat->Target)(w:E)(hR:Rd w R p)(hp:p<=18000)(hb:R<b)(hH:HSg b w a0 n0 f0 a1 n1 f1):Calls Tryz.prog 27 #[.pointer (T (Q R 0 Z)),ZJ #[Y a0 n0 c0,Y a1 n1 c1]] w λe w'=>DCh w R (p+2500) a0 n0 f0 a1 n1 f1 e w':=by
 obtain⟨ZT,hE⟩:∃ZT:O_->Nat->(Nat->Source)->O_->Nat->(Nat->Target)->Prop,ZT=λd0 m0 g0 d1 m1 g1=>d0=a0/\m0=n0/\g0=f0/\d1=a1/\m1=n1/\g1=f1:=⟨_,rfl⟩
 have HE:Hid (∀d0 m0 g0 d1 m1 g1,ZT d0 m0 g0 d1 m1 g1->d0=a0/\m0=n0/\g0=f0/\d1=a1/\m1=n1/\g1=f1):=λ_ _ _ _ _ _ h=>by rw[hE] at h;exact h
 have f:Hid (∀(V:E) (xs:List Nat) (q m0 k0 m1 k1:Nat) (d0:O_) (g0:Nat->Source) (d1:O_) (g1:Nat->Target),Ch ZT xs w R V q m0 k0 m1 k1 d0 g0 d1 g1->Qx V d0 m0 g0/\Qq V d1 m1 g1/\m0<=300/\m1<=300/\∀i,i<m1->(g1 i).h<=300/\∀j,j<(g1 i).h->((g1 i).u j).s.size<=5000):=λV xs q m0 k0 m1 k1 d0 g0 d1 g1 h=>by
  rcases h.sp with g|g;{have h1:=g.at.1;exact⟨(h1.sl V (Agr.refl _ _)).1,(h1.sl V (Agr.refl _ _)).2,h1.hn0,h1.hn1,h1.aq⟩};{obtain⟨rfl,rfl,rfl,rfl,rfl,rfl⟩:=HE.i _ _ _ _ _ _ g;have h1:=hH.1.sl V (h.o.agr hb);exact⟨h1.1,h1.2,hH.1.hn0,hH.1.hn1,hH.1.aq⟩}
 have sm:=hR.lt;have C0:Hid (Ch ZT [R,I (J w),I (J w)+1] w R ((w.alloc (N #[Y a0 n0 c0,Y a1 n1 c1] 29)).alloc (N #[Y Z 0 0,Y Z 0 0] 29)) p n0 c0 n1 c1 a0 f0 a1 f1):=by have B:=((BS w).alloc ly (N #[Y a0 n0 c0,Y a1 n1 c1] 29)).alloc (by simp) (N #[Y Z 0 0,Y Z 0 0] 29);exact⟨hR.aa B ly,zd.q B,(((a8 (I (J w)+1) (w.alloc (N #[Y a0 n0 c0,Y a1 n1 c1] 29))).alloc (by simp) _).p (I (J w)) (eL _)).k (gM w _),SL w _ _,.inr (by rw[hE];exact⟨rfl,rfl,rfl,rfl,rfl,rfl⟩),sm⟩
 clear hE hR hH;go_enter func27,ntmps27;go_wp2_with fail;generalize World.alloc (World.alloc w _) _=W0 at C0 ⊢;refine(ay R p 3 _ C0.rd (by omega) (by omega) (by omega)).P ?_;rintro e w1⟨ZX,rfl,ph,n9,qr,la⟩;have C1:=ae (C0.ac la qr (by simp));clear qr la C0;have ur:IntKind.i64.wrap (1+ZX)=1+ZX:=by rw[nL];omega
 go_wp2_with fail;go_loopw [5] (λv wr=>∃(i:Int) (q m0 k0 m1 k1:Nat) (d0:O_) (g0:Nat->Source) (d1:O_) (g1:Nat->Target),v=.int .i64 i/\0<=i/\i<=3/\(q:Int)+610*i<=(p:Int)+1831/\Hid (Ch ZT [R,I (J w),I (J w)+1] w R wr q m0 k0 m1 k1 d0 g0 d1 g1)) (λv _=>(intOf v).toNat);case atStart=>exact⟨_,_,_,_,_,_,_,_,_,_,rfl,by omega,by omega,by omega,C1⟩
 case round =>
  clear C1 ur ph n9;obtain⟨i,q,m0,k0,m1,k1,d0,g0,d1,g1,rfl,hi0,hi3,hq,ZN⟩:=hrel;obtain⟨x0,x1,x2,x3,x4⟩:=ZN.cells;by_cases hi:0<i
  ·have hwi:IntKind.i64.wrap (i - 1)=i - 1:=by rw[nL];omega
   have th:=aj ZN.rx;have C3:Hid (Ch ZT [I (J wr),R,I (J w),I (J w)+1] w R (wr.alloc (N #[Y d0 m0 k0,Y d1 m1 k1] 29)) q m0 k0 m1 k1 d0 g0 d1 g1):=(ZN.more ly).aa (br.alloc ly _) (by simp);have N3:Hid ((wr.alloc (N #[Y d0 m0 k0,Y d1 m1 k1] 29)).heap[I (J wr)]?=T (N #[Y d0 m0 k0,Y d1 m1 k1] 29 (0,0))):=gM wr _;go_wp2_with fail;generalize World.alloc wr _=W3 at C3 N3 ⊢;refine(ay R _ 6 _ C3.rd (by omega) (by omega) (by omega)).P ?_;rintro e w4⟨ZX,rfl,ph,n9,mv,ex⟩;have C4:=ae (C3.ac ex mv (by simp));have N4:=ae ((ex.p _ (aj N3) (by omega)).k N3);clear mv ex C3 N3;have ld:I (J w)+2<=I (J wr):=by omega
   clear x0 x1 x2 x3 x4 th ZN;go_upto_block 2 with fail;generalize (I (J wr))=A at C4 N4 ld ⊢;have ZQ:Hid (∀(V:E) (q:Nat),Ch ZT [A,R,I (J w),I (J w)+1] w R V q m0 k0 m1 k1 d0 g0 d1 g1->ZV V (Q (I (J w)) 0 Z)=T (Y d0 m0 k0)/\ZV V (Q (I (J w)) 1 Z)=T (Y d1 m1 k1)):=λV q h=>⟨h.cells.1,h.cells.2.1⟩
   obtain⟨-,-,hm0,hm1,aq⟩:=f.i _ _ _ _ _ _ _ _ _ _ _ C4;have ZM:=f;clear f;have FT:Hid (∀i,i<m1->aP (g1 i)):=λi hi=>by have:=(aq i hi).1;unfold aP;omega
   have FL:Hid (∀i,i<m1->∀j,j<(g1 i).h->((g1 i).u j).s.size<=maxLen):=λi hi j hj=>by have:=(aq i hi).2 j hj;unfold maxLen;omega
   clear aq;go_cut [7] (λs7 wx=>∃(cc:Int) (q' M D H G:Nat) (ZR:O_) (i0:Nat->Source) (ZS:O_) (i1:Nat->Target),s7=.int .i64 cc/\q'<=q+605/\Hid (Ch ZT [A,R,I (J w),I (J w)+1] w R wx q' m0 k0 m1 k1 d0 g0 d1 g1)/\Hid (wx.heap[A]?=T (N #[Y ZR M D,Y ZS H G] 29 (0,0)))/\Hid (QSp (I (J w)) [A,R,I (J w),I (J w)+1] wx ZR M i0 ZS H i1));case first =>
    rcases(show ZX=0\/ZX=1\/(1<ZX) by omega) with rfl|rfl|hz2;case' inr.inr =>
     have hz3:(ZX == 0)=ZA:=by simp;omega
     have hz4:(ZX == 1)=ZA:=by simp;omega
    all_goals
     go_wp2_with fail;have l:=ae (C4.aa br.drew (by simp));have r:Hid (w4.drew.heap[A]?=T (N #[Y d0 m0 k0,Y d1 m1 k1] 29 (0,0))):=N4.i;refine wp_region_held_drew (S:=λV=>ZV V (Q (I (J w)) 0 Z)=T (Y d0 m0 k0)/\ZV V (Q (I (J w)) 1 Z)=T (Y d1 m1 k1)) (by kernel_rfl) (ZQ _ _ l) λhS=>?_;have f:=ae hS;clear hS C4 N4;generalize w4.drew=v4 at l r f ⊢
     iterate 2
      refine aN 0 (v:=?_) rfl rfl (by kernel_rfl) (λ_ _ _ h=>h) rfl ?_ f ?_;rotate_left
      ·(rintro ZO⟨s0,s1⟩;go_simp)
       (try with_reducible rfl)
      (try simp only[Act.put,yh])
    focus
     refine aN 5 (v:=?_) rfl rfl (by kernel_rfl) (λ_ _ _ h=>h) rfl ?_ f ?_;rotate_left
     ·(rintro ZO⟨s0,s1⟩;go_simp)
      (try with_reducible rfl)
     (try simp only[Act.put,yh])
     refine aN 8 (v:=?_) rfl rfl (by kernel_rfl) (λ_ _ _ h=>h) rfl ?_ f ?_;rotate_left
     ·(rintro ZO⟨s0,s1⟩;go_simp)
      (try with_reducible rfl)
     (try simp only[Act.put,yh])
     refine aL (i:=2) rfl (by kernel_rfl) λK m=>?_;go_simp;go_at_call 25;refine(ay R _ 6 _ l.rd (by omega) (by omega) (by omega)).P ?_;rintro e v5⟨y,rfl,ZL,fd,hR,n⟩;obtain⟨k,rfl⟩:=p9 ZL;replace r:=ae ((n.p _ (aj r) (by omega)).k r);replace l:=ae (l.ac n hR (by simp));clear hR n f;have f:=ae (ZQ _ _ l);refine m _ _ f ?_;clear m K
     (try simp only[Act.put,yh])
     refine aN 3 (v:=U ((⟨#[97,98,99,100,101,102]⟩:F_).extract k 6)) rfl rfl (by kernel_rfl) (λ_ _ _ h=>h) rfl ?_ f ?_
     ·intro ZO u
      go_simp;intro h;omega
     (try simp only[Act.put,yh])
     obtain⟨s,hs⟩:∃s:F_,s=(⟨#[97,98,99,100,101,102]⟩:F_).extract k 6:=⟨_,rfl⟩
     have At:1<=s.size:=by rw[hs,ByteArray.size_extract];have e:(⟨#[97,98,99,100,101,102]⟩:F_).size=6:=rfl;rw[e];omega
     rw[<-hs];clear hs ZL fd;refine aN 4 (v:=U (s.extract 0 1)) rfl rfl (by kernel_rfl) (λ_ _ _ h=>h) rfl ?_ f ?_
     ·intro ZO u
      go_simp;intro h;omega
     (try simp only[Act.put,yh])
     generalize s.extract 0 1=kn;clear At;refine aL (i:=6) rfl (by kernel_rfl) λK m=>?_;go_simp;go_at_call 42;refine(fT R _ _ l.rd (by omega)).P ?_;rintro e v7⟨t,rfl,C,q7,hq7,hR,n⟩;replace r:=ae ((n.p _ (aj r) (by omega)).k r);replace l:=ae (l.ac n hR (by simp));clear hR n f;have f:=ae (ZQ _ _ l);refine m _ _ f ?_;clear m K
     (try simp only[Act.put,yh])
     refine aN 7 (v:=U (t++⟨#[32]⟩)) rfl rfl (by kernel_rfl) (λ_ _ _ h=>h) rfl ?_ f ?_
     ·intro ZO u
      go_simp;omega
     (try simp only[Act.put,yh])
     obtain⟨tt,bt⟩:∃tt:F_,tt=t++⟨#[32]⟩:=⟨_,rfl⟩
     have Fd:tt.size<=9:=by have e:(⟨#[32]⟩:F_).size=1:=rfl;rw[bt,PV,e];omega
     rw[<-bt];clear bt C;refine aL (i:=9) rfl (by kernel_rfl) λK m=>?_;go_simp;go_at_call 38;refine(dH R _ _ l.rd (by omega)).P ?_;rintro e v8⟨t2,rfl,DQ,hR,n⟩;replace r:=ae ((n.p _ (aj r) (by omega)).k r);replace l:=ae (l.ac n hR (by simp));clear hR n f;have f:=ae (ZQ _ _ l);refine m _ _ f ?_;clear m K
     (try simp only[Act.put,yh])
     refine aN 10 (v:=U (tt++t2)) rfl rfl (by kernel_rfl) (λ_ _ _ h=>h) rfl ?_ f ?_
     ·intro ZO u
      go_simp;omega
     (try simp only[Act.put,yh])
     generalize tt++t2=tx;clear Fd DQ;refine aL (i:=11) rfl (by kernel_rfl) λK m=>?_;go_simp;go_at_call 13;refine(nE d0 m0 k0 g0 d1 m1 k1 g1 kn tx _ (by omega) (by omega) (ZM _ _ _ _ _ _ _ _ _ _ _ l).1 (ZM _ _ _ _ _ _ _ _ _ _ _ l).2.1 FT FL).P ?_;rintro e X⟨v0,v1,RT,rfl,O,C,W,P⟩;obtain⟨ZR,D,rfl⟩:=aJ O;obtain⟨ZS,G,rfl⟩:=aJ C.y;have SM:=r8 O C W wI;generalize (eZ m0 g0 m1 g1 kn tx).length=M at SM ⊢;generalize (z RT)=H at SM ⊢;generalize aV (eZ m0 g0 m1 g1 kn tx)=i0 at SM;generalize aW (fC m0 g0 m1 g1 kn tx)=i1 at SM;clear O C W
    rotate_left;focus
     refine aL (i:=2) rfl (by kernel_rfl) λK m=>?_;go_simp;go_at_call 38;refine(dH R _ _ l.rd (by omega)).P ?_;rintro e v5⟨t,rfl,C,hR,n⟩;clear C;replace r:=ae ((n.p _ (aj r) (by omega)).k r);replace l:=ae (l.ac n hR (by simp));clear hR n f;have f:=ae (ZQ _ _ l);refine m _ _ f ?_;clear m K
     (try simp only[Act.put,yh])
     refine aL (i:=3) rfl (by kernel_rfl) λK m=>?_;go_simp;go_at_call 15;refine(nF d0 m0 k0 g0 d1 m1 k1 g1 t _ (by omega) (by omega) (ZM _ _ _ _ _ _ _ _ _ _ _ l).1 (ZM _ _ _ _ _ _ _ _ _ _ _ l).2.1 FT FL).P ?_;rintro e X⟨v0,v1,RT,rfl,O,C,W,P⟩;obtain⟨ZR,D,rfl⟩:=aJ O;obtain⟨ZS,G,rfl⟩:=aJ C.y;have SM:=r8 O C W wK;generalize (eB m0 g0 m1 g1 t).length=M at SM ⊢;generalize (z RT)=H at SM ⊢;generalize aV (eB m0 g0 m1 g1 t)=i0 at SM;generalize aW (fa m0 g0 m1 g1 t)=i1 at SM;clear O C W
    rotate_left;focus
     refine aN 5 (v:=?_) rfl rfl (by kernel_rfl) (λ_ _ _ h=>h) rfl ?_ f ?_;rotate_left
     ·(rintro ZO⟨s0,s1⟩;go_simp)
      (try with_reducible rfl)
     (try simp only[Act.put,yh])
     refine aL (i:=2) rfl (by kernel_rfl) λK m=>?_;go_simp;go_at_call 25;refine(ay R _ 8 _ l.rd (by omega) (by omega) (by omega)).P ?_;rintro e v5⟨y,rfl,ZL,fd,hR,n⟩;obtain⟨k,rfl⟩:=p9 ZL;replace r:=ae ((n.p _ (aj r) (by omega)).k r);replace l:=ae (l.ac n hR (by simp));clear hR n f;have f:=ae (ZQ _ _ l);refine m _ _ f ?_;clear m K
     (try simp only[Act.put,yh])
     refine aL (i:=3) rfl (by kernel_rfl) λK m=>?_;go_simp;go_at_call 69;refine(iK k (by omega) _).P ?_;rintro e v7⟨rfl,P⟩;have hR:=l.rd.aa P ly;have n:=zd.q (b:=R) P;clear P;replace r:=ae ((n.p _ (aj r) (by omega)).k r);replace l:=ae (l.ac n hR (by simp));clear hR n f;have f:=ae (ZQ _ _ l);refine m _ _ f ?_;clear m K
     (try simp only[Act.put,yh])
     refine aN 4 (v:=?_) rfl rfl (by kernel_rfl) (λ_ _ _ h=>h) rfl ?_ f ?_;rotate_left
     ·(rintro ZO⟨s0,s1⟩;go_simp)
      (try with_reducible rfl)
     (try simp only[Act.put,yh])
     refine aL (i:=6) rfl (by kernel_rfl) λK m=>?_;go_simp;go_at_call 70;have hs7:=l.o.size;refine(fZ R _ _ l.rd (by omega)).P ?_;rintro e v8⟨L,g,c,rfl,hI,hL1,hL2,ro,q8,hq8,hR,n⟩;have SI:=ae (show SlIns v8 (T (Q g 0 Z)) (z L) (cY L) from .inr ⟨g,0,rfl,hI.lt.2,hI.at⟩);have FI:Hid (∀i,i<z L->(cY L i).s.size<=maxLen):=λi hi=>by have:=iI ro i hi;unfold maxLen;omega
     clear hI ro;replace r:=ae ((n.p _ (aj r) (by omega)).k r);replace l:=ae (l.ac n hR (by simp));clear hR n f;have f:=ae (ZQ _ _ l);refine m _ _ f ?_;clear m K
     (try simp only[Act.put,yh])
     refine aL (i:=7) rfl (by kernel_rfl) λK m=>?_;go_simp;go_at_call 14;refine(nG d0 m0 k0 g0 d1 m1 k1 g1 _ (T (Q g 0 Z)) (z L) c (cY L) _ (by omega) (by omega) (by omega) (ZM _ _ _ _ _ _ _ _ _ _ _ l).1 (ZM _ _ _ _ _ _ _ _ _ _ _ l).2.1 SI FT FL FI).P ?_;rintro e X⟨v0,v1,RT,rfl,O,C,W,P⟩;clear SI FI;obtain⟨ZR,D,rfl⟩:=aJ O;obtain⟨ZS,G,rfl⟩:=aJ C.y;have SM:=r8 O C W wJ;generalize (⟨#[116]⟩:F_)++⟨#[dig k]⟩=t at SM ⊢;generalize (d9 m0 g0 m1 g1 t (z L) (cY L)).length=M at SM ⊢;generalize (z RT)=H at SM ⊢;generalize aV (d9 m0 g0 m1 g1 t (z L) (cY L))=i0 at SM;generalize aW (eE m0 g0 m1 g1 t (z L) (cY L))=i1 at SM;clear O C W
    all_goals
     have hz6:=P.size;have hw5:=l.o.size;have Bk:=aj r.i;have C6:=ae (l.aa P (by simp));have N6:=ae ((P.p A Bk).k r)
     have Q6:=ae (QSp.new (lo:=I (J w)) (xs:=[A,R,I (J w),I (J w)+1]) SM (by omega) (λx hx=>by
      simp only[vG,nj,QW] at hx
      omega))
     clear P l r f SM;have f:=ae (ZQ _ _ C6);refine m _ _ f ?_;clear m K
     (try simp only[Act.put,yh])
     iterate 3
      refine aN 4 (v:=?_) rfl rfl (by kernel_rfl) (λ_ _ _ h=>h) rfl ?_ f ?_;rotate_left
      ·(rintro ZO⟨s0,s1⟩;go_simp)
       (try with_reducible rfl)
      (try simp only[Act.put,yh])
     have ZP:=N6.i;have y0:ZW X (Q A 0 Z)=ZA:=by simp[World.frozen?,ZP]
     have y1:ZW X (Q A 1 Z)=ZA:=by simp[World.frozen?,ZP]
     have y2:=aj ZP;have y3:ZV X (Q A 0 Z)=T (Y d0 m0 k0):=by simp[World.cell?,ZP]
     have y4:ZV X (Q A 1 Z)=T (Y d1 m1 k1):=by simp[World.cell?,ZP]
     clear ZP;have C7:=ae (C6.two (x:=A) (by simp) ld (Y ZR M D) (Y ZS H G));have N7:Hid ((ZU (ZU X (Q A 0 Z) (Y ZR M D)) (Q A 1 Z) (Y ZS H G)).heap[A]?=T (N #[Y ZR M D,Y ZS H G] 29 (0,0))):=by have h1:=cH (j:=1) (cH (j:=0) N6 (Y ZR M D)) (Y ZS H G);exact h1
     have Q7:=ae (Q6.fr ((Fr.set (x:=A) (j:=0) (by simp) (Y ZR M D)).k (Fr.set (x:=A) (j:=1) (by simp) (Y ZS H G))));refine li 4 rfl rfl (by kernel_rfl) λK m=>?_;go_simp;clear f;have f:=ae (ZQ _ _ C7);refine m _ _ f ?_;clear m K
     (try simp only[Act.put,yh])
     refine li 4 rfl rfl (by kernel_rfl) λK m=>?_;go_simp;refine m _ _ f ?_;clear m K
     (try simp only[Act.put,yh])
     refine wpAnyH_done (by kernel_rfl) ?_ _;go_wp2;go_meet;exact⟨_,_,_,_,_,_,_,_,_,_,rfl,by omega,C7,N7,Q7⟩
   case rest =>
   clear C4 N4 ZQ FT FL;obtain⟨cc,q',M,D,H,G,ZR,i0,ZS,i1,rfl,hq',C8,N8,Q8⟩:=hcut;generalize wc=W8 at C8 N8 Q8 ⊢;obtain⟨x0,x1,x2,x3,x4⟩:=C8.cells;have ZP:=N8.i;have y3:ZV W8 (Q A 0 Z)=T (Y ZR M D):=by simp[World.cell?,ZP]
   have y4:ZV W8 (Q A 1 Z)=T (Y ZS H G):=by simp[World.cell?,ZP]
   clear ZP;by_cases n8:cc=0;{subst n8;have C9:=ae ((C8.put (l0:=D) (l1:=G) (by simp) (.inl Q8)).less);go_wp2;exact⟨⟨_,_,_,_,_,_,_,_,_,_,rfl,by omega,by omega,by omega,C9⟩,by simp only[intOf];omega⟩}
   ·have hcb:(cc == 0)=ZA:=by simpa using n8
    go_wp2;exact⟨⟨_,_,_,_,_,_,_,_,_,_,rfl,by omega,by omega,by omega,C8.less⟩,by simp only[intOf];omega⟩
  ·have hi2:¬ 0<i:=hi;have kr:=ZN.rx;have r0:ZV wr (Q (I (J w)+1) 0 Z)=T (Y Z 0 0):=by simp[World.cell?,kr]
   have r1:ZV wr (Q (I (J w)+1) 1 Z)=T (Y Z 0 0):=by simp[World.cell?,kr]
   have r2:ZW wr (Q (I (J w)+1) 0 Z)=ZA:=by simp[World.frozen?,kr]
   have r3:ZW wr (Q (I (J w)+1) 1 Z)=ZA:=by simp[World.frozen?,kr]
   have D:=aj kr;clear kr;have BE:=ae (((a8 (I (J w)+1) wr).setCell (p:=(Q (I (J w)+1) 0 Z)) ly (Y d0 m0 k0)).setCell (p:=(Q (I (J w)+1) 1 Z)) ly (Y d1 m1 k1));have DE:Hid (HSg (I (J w)) (ZU (ZU wr (Q (I (J w)+1) 0 Z) (Y d0 m0 k0)) (Q (I (J w)+1) 1 Z) (Y d1 m1 k1)) d0 m0 g0 d1 m1 g1\/(d0=a0/\m0=n0/\g0=f0/\d1=a1/\m1=n1/\g1=f1)):=ZN.sp.imp (λg=>(g.fr ((Fr.set (x:=I (J w)+1) (j:=0) (by simp) (Y d0 m0 k0)).k (Fr.set (x:=I (J w)+1) (j:=1) (by simp) (Y d1 m1 k1)))).at) (HE _ _ _ _ _ _);have RE:=ae (ZN.rd.low BE (by omega));have OE:=ae (ZN.o.then (BE.P (BV _)));go_wp2;exact bp (v:=ZJ #[Y d0 m0 k0,Y d1 m1 k1]) (by simp[results,results27,go_sem,r0,r1]) rfl ⟨_,_,_,_,_,_,_,_,rfl,DE,_,by omega,RE,OE⟩
