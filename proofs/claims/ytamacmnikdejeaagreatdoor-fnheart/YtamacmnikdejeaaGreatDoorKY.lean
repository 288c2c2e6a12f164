import Derived.Test.YtamacmnikdejeaaGreatDoorKV
import Derived.Test.YtamacmnikdejeaaGreatDoorLO
set_option maxRecDepth 100000
set_option maxHeartbeats 8000000
set_option linter.unusedSimpArgs false
open Go renaming Addr.mk->Q,Value.slice->Y,Value.string->U,Value.agg->ZG,Obj.cells->N,World->E,World.heap->J,World.cell?->z
open Option renaming none->Z,some->T
open Bool renaming false->ZA
open Array renaming size->I
namespace Go.Proofs.YtamacmnikdejeaaGreatDoor.Vp
open Tryz RowKit
variable {x n0 n1 lo:Nat}{f0:Nat->Source}{f1:Nat->Target}{t:ByteArray}{f:List Source}
structure Sml (LS:List Source)(LT:List Target):Prop where
 n0:LS.length<=300
 n1:LT.length<=300
 u:∀i,i<LT.length->(bK LT i).h<=300/\∀j,j<(bK LT i).h->((bK LT i).u j).s.size<=5000
 pos:LS.length<=250/\LT.length<=250/\∀i,i<LT.length->1<=(bK LT i).h/\(bK LT i).h<=200
theorem qZ:Sml [] []:=⟨by simp,by simp,λi hi=>absurd hi (by simp),by simp,by simp,λi hi=>absurd hi (by simp)⟩
theorem vd{b:List Target}(hl:f.length+b.length<=201)(h:∀y∈b,valid y.u y.h=true):Sml f b:=by
 refine⟨by omega,by omega,λi hi=>?_,by omega,by omega,λi hi=>by
  rw[wF hi];obtain⟨h1,h2,l⟩:=bF (h _ (gz hi))
  omega⟩
 rw[wF hi];obtain⟨h1,h2,l⟩:=bF (h _ (gz hi));refine⟨by omega,λj m=>?_⟩;have g:=jv h1 m;unfold cG at g;rw[p6] at g;have hm:bT (b[i].u j).op<=2000:=by unfold bT;split<;>omega
 omega
theorem nG (t:ByteArray)(h:bq n0 f0 n1 f1=0):(keepS f0 t n0).length+(keepT f1 t n1).length<=200/\∀y∈keepT f1 t n1,valid y.u y.h=true:=by have H:=SpcOk.of (S:=⟨n0,f0,n1,f1⟩) h;have h0:=ip f0 t n0;have h1:=jA f1 t n1;have hs:n0+n1<=200:=H.av;refine⟨by omega,λy b=>?_⟩;obtain⟨i,hi,rfl⟩:=LM.1 (List.mem_filter.1 b).1;exact H.u i (KV.1 hi)
theorem ve{b:Type}{g:Nat->ByteArray}{F:Nat->b}{x y:b}(k:Nat)(h:y∈eI g F x t k):y=x∨∃j,j<k/\y=F j:=by
 induction k with
 |zero=>cases h
 |succ k f =>
  have h2:y∈eI g F x t k∨y=x∨y=F k:=by
   unfold eI at h;split at h<;>simp only[wC,hU] at h;{rcases h with (h|h)|h;{exact .inl h};{exact .inr (.inl h)};{exact .inr (.inr h)}};{exact h.imp id .inr}
  rcases h2 with h|h|h;{exact(f h).imp id λ⟨j,hj,e⟩=>⟨j,by omega,e⟩};{exact .inl h};{exact .inr ⟨k,by omega,h⟩}
theorem Ei{tx:ByteArray}:Sml (kY n0 f0 n1 f1 t tx) (oF n0 f0 n1 f1 t tx):=by
 by_cases h:oE n0 f0 n1 f1 t tx=0
 ·rw[kY,oF,j6 h,j6 h];have f:bq n0 f0 n1 f1=0:=QV λa=>by unfold oE at h;rw[j6 a] at h;cases h
  obtain⟨h1,h2⟩:=nG t f;obtain⟨h3,b⟩:=rC (keepS f0 t n0) ⟨t,tx⟩ t (keepS f0 t n0).length;refine vd ?_ h2;unfold qD;split;{omega};{rename_i g;rw[eL,b (by simpa using g)];simp only[AT];omega}
 {rw[kY,oF,eT h,eT h];exact qZ}
theorem Ej{m:Nat}{f:Nat->Ins}:Sml (iJ n0 f0 n1 f1 t m f) (lp n0 f0 n1 f1 t m f):=by
 by_cases h:kZ n0 f0 n1 f1 t (valid f m)=0
 ·rw[iJ,lp,j6 h,j6 h];unfold kZ at h;have n:bq n0 f0 n1 f1=0:=QV λa=>by rw[j6 a] at h;cases h
  have o:valid f m=true:=by
   cases e:valid f m with
   |true=>rfl
   |false=>rw[eT (by omega),j6 (.inr e)] at h;cases h
  obtain⟨h1,h2⟩:=nG t n;generalize keepT f1 t n1=K at h1 h2;obtain⟨h3,l⟩:=tV (nm1 (bK K)) (λj=>K.getD j dfT) ⟨t,m,f⟩ t K.length;refine vd ?_ λy b=>?_;{unfold tX lc;split;{omega};{rename_i p;rw[eL,l (by simpa using p)];simp only[AT];omega}}
  ·have i:y=⟨t,m,f⟩∨∃j,j<K.length/\y=K.getD j dfT:=by
    unfold tX lc at b;split at b;{exact ve _ b};{rcases wC.1 b with b|b;{exact ve _ b};{exact .inl (hU.1 b)}}
   rcases i with rfl|⟨j,g,rfl⟩
   {exact o};{rw[IS,gq g];exact h2 _ (gz g)}
 {rw[iJ,lp,eT h,eT h];exact qZ}
theorem Ek:Sml (iI n0 f0 n1 f1 t) (kV n0 f0 n1 f1 t):=by
 by_cases h:kU n0 f0 n1 f1 t=0
 ·rw[iI,kV,j6 h,j6 h];have b:bq n0 f0 n1 f1=0:=QV λa=>by unfold kU at h;rw[j6 a] at h;cases h
  exact vd (by have:=(nG t b).1;omega) (nG t b).2
 {rw[iI,kV,eT h,eT h];exact qZ}
open Ca
def DCh (w:E)(R q:Nat)(a0:Option Addr)(n0:Nat)(f0:Nat->Source)(a1:Option Addr)(n1:Nat)(f1:Nat->Target)(e:Ending)(b:E):Prop:=∃(d0:Option Addr) (m0 k0:Nat) (g0:Nat->Source) (d1:Option Addr) (m1 k1:Nat) (g1:Nat->Target),e=.returned (ZG #[Y d0 m0 k0,Y d1 m1 k1])/\(HSg (I (J w)) b d0 m0 g0 d1 m1 g1∨(d0=a0/\m0=n0/\g0=f0/\d1=a1/\m1=n1/\g1=f1))/\∃q':Nat,q'<=q/\Rd b R q'/\Only R w b
structure Ch (ZQ:Option Addr->Nat->(Nat->Source)->Option Addr->Nat->(Nat->Target)->Prop)(xs:List Nat)(w:E)(R:Nat)(W:E)(q m0 k0 m1 k1:Nat)(d0:Option Addr)(g0:Nat->Source)(d1:Option Addr)(g1:Nat->Target):Prop where
 rd:Rd W R q
 o:Only R w W
 sx:W.heap[I (J w)]?=T (N #[Y d0 m0 k0,Y d1 m1 k1] 29 (0,0))
 rx:W.heap[I (J w)+1]?=T (N #[Y Z 0 0,Y Z 0 0] 29 (0,0))
 sp:QSp (I (J w)) xs W d0 m0 g0 d1 m1 g1∨ZQ d0 m0 g0 d1 m1 g1
 lo:R<I (J w)
section
variable {ZQ:Option Addr->Nat->(Nat->Source)->Option Addr->Nat->(Nat->Target)->Prop}{xs ys:List Nat}{w W W':E}{R q q' m0 k0 m1 k1:Nat}{d0 d1:Option Addr}{g0:Nat->Source}{g1:Nat->Target}
theorem Ch.ac (h:Ch ZQ xs w R W q m0 k0 m1 k1 d0 g0 d1 g1)(b:Only R W W')(hR:Rd W' R q')(f:R∈xs):Ch ZQ xs w R W' q' m0 k0 m1 k1 d0 g0 d1 g1:=by have hl:=h.lo;exact⟨hR,h.o.trans b,(b.block _ (ar h.sx) (by omega)).trans h.sx,(b.block _ (ar h.rx) (by omega)).trans h.rx,h.sp.imp (λg=>g.fr (Fr.ac b f)) id,h.lo⟩
theorem Ch.aa (h:Ch ZQ xs w R W q m0 k0 m1 k1 d0 g0 d1 g1)(b:Below (I (J W)) W W')(f:R∈xs):Ch ZQ xs w R W' q m0 k0 m1 k1 d0 g0 d1 g1:=h.ac (Only.q b) (h.rd.aa b ly) f
theorem QSp.more (h:QSp lo xs W d0 m0 g0 d1 m1 g1)(g:I (J W)<=x):QSp lo (x::xs) W d0 m0 g0 d1 m1 g1:=by
 obtain⟨b,j,l,h1,h2,i⟩:=h;refine⟨b,j,l,h1,h2,λy f=>?_⟩;rcases A9.1 f with rfl|f;{exact .inr (nL h2.1 g)};{exact i y f}
theorem QSp.less (h:QSp lo (x::xs) W d0 m0 g0 d1 m1 g1):QSp lo xs W d0 m0 g0 d1 m1 g1:=by obtain⟨b,i,j,h1,h2,g⟩:=h;exact⟨b,i,j,h1,h2,λy f=>g y (mq _ f)⟩
theorem Ch.more (h:Ch ZQ xs w R W q m0 k0 m1 k1 d0 g0 d1 g1)(b:I (J W)<=x):Ch ZQ (x::xs) w R W q m0 k0 m1 k1 d0 g0 d1 g1:=⟨h.rd,h.o,h.sx,h.rx,h.sp.imp (λg=>g.more b) id,h.lo⟩
theorem Ch.less (h:Ch ZQ (x::xs) w R W q m0 k0 m1 k1 d0 g0 d1 g1):Ch ZQ xs w R W q m0 k0 m1 k1 d0 g0 d1 g1:=⟨h.rd,h.o,h.sx,h.rx,h.sp.imp (λg=>g.less) id,h.lo⟩
theorem Ch.cells (h:Ch ZQ xs w R W q m0 k0 m1 k1 d0 g0 d1 g1):z W (Q (I (J w)) 0 Z)=T (Y d0 m0 k0)/\z W (Q (I (J w)) 1 Z)=T (Y d1 m1 k1)/\W.frozen? (Q (I (J w)) 0 Z)=ZA/\W.frozen? (Q (I (J w)) 1 Z)=ZA/\(I (J w))<I (J W):=by have hb:=h.sx;refine⟨?_,?_,?_,?_,ar hb⟩<;>simp[World.cell?,World.frozen?,hb]
theorem Ch.two (h:Ch ZQ xs w R W q m0 k0 m1 k1 d0 g0 d1 g1)(b:x∈xs)(f:I (J w)+2<=x)(u v:Value):Ch ZQ xs w R ((W.setCell (Q x 0 Z) u).setCell (Q x 1 Z) v) q m0 k0 m1 k1 d0 g0 d1 g1:=by have B:=((cM (I (J w)+2) W).setCell (p:=(Q x 0 Z)) f u).setCell (p:=(Q x 1 Z)) f v;have hlo:=h.lo;exact⟨h.rd.low B (by omega),h.o.then (B.mono (by omega)),(B.block _ (by omega)).trans h.sx,(B.block _ (by omega)).trans h.rx,h.sp.imp (λg=>g.fr ((Fr.set b _).trans (Fr.set b _))) id,h.lo⟩
theorem Ch.put{i l0 f l1:Nat}{b j:Option Addr}{m:Nat->Source}{l:Nat->Target}(h:Ch ZQ xs w R W q m0 k0 m1 k1 d0 g0 d1 g1)(n:I (J w)∈xs)(t:QSp (I (J w)) xs W b i m j f l∨ZQ b i m j f l):Ch ZQ xs w R ((W.setCell (Q (I (J w)) 0 Z) (Y b i l0)).setCell (Q (I (J w)) 1 Z) (Y j f l1)) q i l0 f l1 b m j l:=by have B:=((cM (I (J w)) W).setCell (p:=(Q (I (J w)) 0 Z)) ly (Y b i l0)).setCell (p:=(Q (I (J w)) 1 Z)) ly (Y j f l1);have far:∀k,k≠I (J w)->((W.setCell (Q (I (J w)) 0 Z) (Y b i l0)).setCell (Q (I (J w)) 1 Z) (Y j f l1)).heap[k]?=W.heap[k]?:=λk r=>(qh _ _ _ _ r).trans (qh _ _ _ _ r);have s:=h.sx;exact⟨h.rd.low B h.lo,h.o.then B,by simp[World.setCell,LE,s],(far _ (by omega)).trans h.rx,t.imp (λg=>g.fr ((Fr.set n _).trans (Fr.set n _))) id,h.lo⟩
end
theorem re{w:E}{b c0 c1:Nat}{a0 a1:Option Addr}{g:List TR}{l:List Target}(o:w.ownsRow b 121 2 (Y a0 f.length c0) f.length (f.flatMap bC))(p:TRow w b (Y a1 g.length c1) g)(n:g.map (·.1)=l)(j:Sml f l):HSg b w a0 f.length (cI f) a1 g.length (bK l):=by
 subst n;refine⟨fi o rfl p rfl j.n0 (by simpa using j.n1) (λr m=>?_),j.pos.1,by simpa using j.pos.2.1,λi hi=>j.pos.2.2 i (by simpa using hi)⟩;obtain⟨i,hi,rfl⟩:=T7 m;have e:bK (g.map (·.1)) i=g[i].1:=by simp[bK,hi]
 have h:=j.u i (by simpa using hi);rw[e] at h;exact h
theorem mW (R p b n0 c0 n1 c1:Nat)(a0:Option Addr)(f0:Nat->Source)(a1:Option Addr)(f1:Nat->Target)(w:E)(hR:Rd w R p)(hp:p<=15000)(hb:R<b)(hH:HSg b w a0 n0 f0 a1 n1 f1):Calls Tryz.prog 35 #[.pointer (T (Q R 0 Z)),ZG #[Y a0 n0 c0,Y a1 n1 c1]] w λe w'=>DCh w R (p+2500) a0 n0 f0 a1 n1 f1 e w':=by
 obtain⟨ZQ,hE⟩:∃ZQ:Option Addr->Nat->(Nat->Source)->Option Addr->Nat->(Nat->Target)->Prop,ZQ=λd0 m0 g0 d1 m1 g1=>d0=a0/\m0=n0/\g0=f0/\d1=a1/\m1=n1/\g1=f1:=⟨_,rfl⟩
 have HE:Hid (∀d0 m0 g0 d1 m1 g1,ZQ d0 m0 g0 d1 m1 g1->d0=a0/\m0=n0/\g0=f0/\d1=a1/\m1=n1/\g1=f1):=λ_ _ _ _ _ _ h=>by rw[hE] at h;exact h
 have f:Hid (∀(V:E) (xs:List Nat) (q m0 k0 m1 k1:Nat) (d0:Option Addr) (g0:Nat->Source) (d1:Option Addr) (g1:Nat->Target),Ch ZQ xs w R V q m0 k0 m1 k1 d0 g0 d1 g1->SlSource V d0 m0 g0/\SlTarget V d1 m1 g1/\m0<=300/\m1<=300/\∀i,i<m1->(g1 i).h<=300/\∀j,j<(g1 i).h->((g1 i).u j).s.size<=5000):=λV xs q m0 k0 m1 k1 d0 g0 d1 g1 h=>by
  rcases h.sp with g|g;{have h1:=g.at.1;exact⟨(h1.sl V (Agr.refl _ _)).1,(h1.sl V (Agr.refl _ _)).2,h1.hn0,h1.hn1,h1.az⟩};{obtain⟨rfl,rfl,rfl,rfl,rfl,rfl⟩:=HE.out _ _ _ _ _ _ g;have h1:=hH.1.sl V (h.o.agr hb);exact⟨h1.1,h1.2,hH.1.hn0,hH.1.hn1,hH.1.az⟩}
 have qr:=hR.lt;have C0:Hid (Ch ZQ [R,I (J w),I (J w)+1] w R ((w.alloc (N #[Y a0 n0 c0,Y a1 n1 c1] 29)).alloc (N #[Y Z 0 0,Y Z 0 0] 29)) p n0 c0 n1 c1 a0 f0 a1 f1):=by have B:=((BS w).alloc ly (N #[Y a0 n0 c0,Y a1 n1 c1] 29)).alloc (by simp) (N #[Y Z 0 0,Y Z 0 0] 29);exact⟨hR.aa B ly,Only.q B,(((cM (I (J w)+1) (w.alloc (N #[Y a0 n0 c0,Y a1 n1 c1] 29))).alloc (by simp) _).block (I (J w)) (j4 _)).trans (gM w _),PK w _ _,.inr (by rw[hE];exact⟨rfl,rfl,rfl,rfl,rfl,rfl⟩),qr⟩
 clear hE hR hH;go_enter func35,ntmps35;go_wp2_with fail;generalize World.alloc (World.alloc w _) _=W0 at C0 ⊢;refine(ay R p 3 _ C0.rd (by omega) (by omega) (by omega)).mono ?_;rintro e w1 ⟨ZR,rfl,n6,fd,n8,la⟩;have C1:=ae (C0.ac la n8 (by simp));clear n8 la C0;have sm:IntKind.i64.wrap (1+ZR)=1+ZR:=by rw[p9];omega
 go_wp2_with fail;go_loopw [5] (λv wr=>∃(i:Int) (q m0 k0 m1 k1:Nat) (d0:Option Addr) (g0:Nat->Source) (d1:Option Addr) (g1:Nat->Target),v=.int .i64 i/\0<=i/\i<=3/\(q:Int)+610*i<=(p:Int)+1831/\Hid (Ch ZQ [R,I (J w),I (J w)+1] w R wr q m0 k0 m1 k1 d0 g0 d1 g1)) (λv _=>(intOf v).toNat);case atStart=>exact⟨_,_,_,_,_,_,_,_,_,_,rfl,by omega,by omega,by omega,C1⟩
 case round =>
  clear C1 sm n6 fd;obtain⟨i,q,m0,k0,m1,k1,d0,g0,d1,g1,rfl,hi0,hi3,hq,ZK⟩:=hrel;obtain⟨x0,x1,x2,x3,x4⟩:=ZK.cells;by_cases hi:0<i
  ·have hwi:IntKind.i64.wrap (i - 1)=i - 1:=by rw[p9];omega
   have ur:=ar ZK.rx;have C3:Hid (Ch ZQ [I (J wr),R,I (J w),I (J w)+1] w R (wr.alloc (N #[Y d0 m0 k0,Y d1 m1 k1] 29)) q m0 k0 m1 k1 d0 g0 d1 g1):=(ZK.more ly).aa (br.alloc ly _) (by simp);have N3:Hid ((wr.alloc (N #[Y d0 m0 k0,Y d1 m1 k1] 29)).heap[I (J wr)]?=T (N #[Y d0 m0 k0,Y d1 m1 k1] 29 (0,0))):=gM wr _;go_wp2_with fail;generalize World.alloc wr _=W3 at C3 N3 ⊢;refine(ay R _ 6 _ C3.rd (by omega) (by omega) (by omega)).mono ?_;rintro e w4 ⟨ZR,rfl,n6,fd,n7,aq⟩;have C4:=ae (C3.ac aq n7 (by simp));have N4:=ae ((aq.block _ (ar N3) (by omega)).trans N3);clear n7 aq C3 N3;have n9:I (J w)+2<=I (J wr):=by omega
   clear x0 x1 x2 x3 x4 ur ZK;go_upto_block 2 with fail;generalize (I (J wr))=A at C4 N4 n9 ⊢;have O:Hid (∀(V:E) (q:Nat),Ch ZQ [A,R,I (J w),I (J w)+1] w R V q m0 k0 m1 k1 d0 g0 d1 g1->z V (Q (I (J w)) 0 Z)=T (Y d0 m0 k0)/\z V (Q (I (J w)) 1 Z)=T (Y d1 m1 k1)):=λV q h=>⟨h.cells.1,h.cells.2.1⟩
   obtain⟨-,-,hm0,hm1,bt⟩:=f.out _ _ _ _ _ _ _ _ _ _ _ C4;have ZJ:=f;clear f;have FT:Hid (∀i,i<m1->aX (g1 i)):=λi hi=>by have:=(bt i hi).1;unfold aX;omega
   have FL:Hid (∀i,i<m1->∀j,j<(g1 i).h->((g1 i).u j).s.size<=maxLen):=λi hi j hj=>by have:=(bt i hi).2 j hj;unfold maxLen;omega
   clear bt;go_cut [7] (λs7 wx=>∃(cc:Int) (q' M D ZO G:Nat) (ZP:Option Addr) (i0:Nat->Source) (H:Option Addr) (i1:Nat->Target),s7=.int .i64 cc/\q'<=q+605/\Hid (Ch ZQ [A,R,I (J w),I (J w)+1] w R wx q' m0 k0 m1 k1 d0 g0 d1 g1)/\Hid (wx.heap[A]?=T (N #[Y ZP M D,Y H ZO G] 29 (0,0)))/\Hid (QSp (I (J w)) [A,R,I (J w),I (J w)+1] wx ZP M i0 H ZO i1));case first =>
    rcases(show ZR=0∨ZR=1∨(1<ZR) by omega) with rfl|rfl|hz2;case' inr.inr =>
     have hz3:(ZR == 0)=ZA:=by simp;omega
     have hz4:(ZR == 1)=ZA:=by simp;omega
    all_goals
     go_wp2_with fail;have l:=ae (C4.aa br.drew (by simp));have r:Hid (w4.drew.heap[A]?=T (N #[Y d0 m0 k0,Y d1 m1 k1] 29 (0,0))):=N4.out;refine wp_region_held_drew (S:=λV=>z V (Q (I (J w)) 0 Z)=T (Y d0 m0 k0)/\z V (Q (I (J w)) 1 Z)=T (Y d1 m1 k1)) (by kernel_rfl) (O _ _ l) λhS=>?_;have f:=ae hS;clear hS C4 N4;generalize w4.drew=v4 at l r f ⊢
     iterate 2
      refine ba 0 (v:=?_) rfl rfl (by kernel_rfl) (λ_ _ _ h=>h) rfl ?_ f ?_;rotate_left
      ·(rintro ZL ⟨s0,s1⟩;go_simp)
       (try with_reducible rfl)
      (try simp only[Act.put,nzL])
    focus
     refine ba 5 (v:=?_) rfl rfl (by kernel_rfl) (λ_ _ _ h=>h) rfl ?_ f ?_;rotate_left
     ·(rintro ZL ⟨s0,s1⟩;go_simp)
      (try with_reducible rfl)
     (try simp only[Act.put,nzL])
     refine ba 8 (v:=?_) rfl rfl (by kernel_rfl) (λ_ _ _ h=>h) rfl ?_ f ?_;rotate_left
     ·(rintro ZL ⟨s0,s1⟩;go_simp)
      (try with_reducible rfl)
     (try simp only[Act.put,nzL])
     refine aN (i:=2) rfl (by kernel_rfl) λK m=>?_;go_simp;go_at_call 33;refine(ay R _ 6 _ l.rd (by omega) (by omega) (by omega)).mono ?_;rintro e v5 ⟨y,rfl,ZI,mv,hR,n⟩;obtain⟨k,rfl⟩:=AD ZI;replace r:=ae ((n.block _ (ar r) (by omega)).trans r);replace l:=ae (l.ac n hR (by simp));clear hR n f;have f:=ae (O _ _ l);refine m _ _ f ?_;clear m K
     (try simp only[Act.put,nzL])
     refine ba 3 (v:=U ((⟨#[97,98,99,100,101,102]⟩:ByteArray).extract k 6)) rfl rfl (by kernel_rfl) (λ_ _ _ h=>h) rfl ?_ f ?_
     ·intro ZL u
      go_simp;intro h;omega
     (try simp only[Act.put,nzL])
     obtain⟨s,hs⟩:∃s:ByteArray,s=(⟨#[97,98,99,100,101,102]⟩:ByteArray).extract k 6:=⟨_,rfl⟩
     have ro:1<=s.size:=by rw[hs,ByteArray.size_extract];have e:(⟨#[97,98,99,100,101,102]⟩:ByteArray).size=6:=rfl;rw[e];omega
     rw[<-hs];clear hs ZI mv;refine ba 4 (v:=U (s.extract 0 1)) rfl rfl (by kernel_rfl) (λ_ _ _ h=>h) rfl ?_ f ?_
     ·intro ZL u
      go_simp;intro h;omega
     (try simp only[Act.put,nzL])
     generalize s.extract 0 1=kn;clear ro;refine aN (i:=6) rfl (by kernel_rfl) λK m=>?_;go_simp;go_at_call 64;refine(gG R _ _ l.rd (by omega)).mono ?_;rintro e v7 ⟨t,rfl,C,q7,hq7,hR,n⟩;replace r:=ae ((n.block _ (ar r) (by omega)).trans r);replace l:=ae (l.ac n hR (by simp));clear hR n f;have f:=ae (O _ _ l);refine m _ _ f ?_;clear m K
     (try simp only[Act.put,nzL])
     refine ba 7 (v:=U (t++⟨#[32]⟩)) rfl rfl (by kernel_rfl) (λ_ _ _ h=>h) rfl ?_ f ?_
     ·intro ZL u
      go_simp;omega
     (try simp only[Act.put,nzL])
     obtain⟨tt,ex⟩:∃tt:ByteArray,tt=t++⟨#[32]⟩:=⟨_,rfl⟩
     have th:tt.size<=9:=by have e:(⟨#[32]⟩:ByteArray).size=1:=rfl;rw[ex,MO,e];omega
     rw[<-ex];clear ex C;refine aN (i:=9) rfl (by kernel_rfl) λK m=>?_;go_simp;go_at_call 60;refine(dS R _ _ l.rd (by omega)).mono ?_;rintro e v8 ⟨t2,rfl,Bk,hR,n⟩;replace r:=ae ((n.block _ (ar r) (by omega)).trans r);replace l:=ae (l.ac n hR (by simp));clear hR n f;have f:=ae (O _ _ l);refine m _ _ f ?_;clear m K
     (try simp only[Act.put,nzL])
     refine ba 10 (v:=U (tt++t2)) rfl rfl (by kernel_rfl) (λ_ _ _ h=>h) rfl ?_ f ?_
     ·intro ZL u
      go_simp;omega
     (try simp only[Act.put,nzL])
     generalize tt++t2=tx;clear th Bk;refine aN (i:=11) rfl (by kernel_rfl) λK m=>?_;go_simp;go_at_call 20;refine(tY d0 m0 k0 g0 d1 m1 k1 g1 kn tx _ (by omega) (by omega) (ZJ _ _ _ _ _ _ _ _ _ _ _ l).1 (ZJ _ _ _ _ _ _ _ _ _ _ _ l).2.1 FT FL).mono ?_;rintro e X ⟨v0,v1,RT,rfl,ZN,C,W,ZM⟩;obtain⟨ZP,D,rfl⟩:=aQ ZN;obtain⟨H,G,rfl⟩:=aQ C.y;have SM:=re ZN C W Ei;generalize (kY m0 g0 m1 g1 kn tx).length=M at SM ⊢;generalize RT.length=ZO at SM ⊢;generalize cI (kY m0 g0 m1 g1 kn tx)=i0 at SM;generalize bK (oF m0 g0 m1 g1 kn tx)=i1 at SM;clear ZN C W
    rotate_left;focus
     refine aN (i:=2) rfl (by kernel_rfl) λK m=>?_;go_simp;go_at_call 60;refine(dS R _ _ l.rd (by omega)).mono ?_;rintro e v5 ⟨t,rfl,C,hR,n⟩;clear C;replace r:=ae ((n.block _ (ar r) (by omega)).trans r);replace l:=ae (l.ac n hR (by simp));clear hR n f;have f:=ae (O _ _ l);refine m _ _ f ?_;clear m K
     (try simp only[Act.put,nzL])
     refine aN (i:=3) rfl (by kernel_rfl) λK m=>?_;go_simp;go_at_call 29;refine(tZ d0 m0 k0 g0 d1 m1 k1 g1 t _ (by omega) (by omega) (ZJ _ _ _ _ _ _ _ _ _ _ _ l).1 (ZJ _ _ _ _ _ _ _ _ _ _ _ l).2.1 FT FL).mono ?_;rintro e X ⟨v0,v1,RT,rfl,ZN,C,W,ZM⟩;obtain⟨ZP,D,rfl⟩:=aQ ZN;obtain⟨H,G,rfl⟩:=aQ C.y;have SM:=re ZN C W Ek;generalize (iI m0 g0 m1 g1 t).length=M at SM ⊢;generalize RT.length=ZO at SM ⊢;generalize cI (iI m0 g0 m1 g1 t)=i0 at SM;generalize bK (kV m0 g0 m1 g1 t)=i1 at SM;clear ZN C W
    rotate_left;focus
     refine ba 5 (v:=?_) rfl rfl (by kernel_rfl) (λ_ _ _ h=>h) rfl ?_ f ?_;rotate_left
     ·(rintro ZL ⟨s0,s1⟩;go_simp)
      (try with_reducible rfl)
     (try simp only[Act.put,nzL])
     refine aN (i:=2) rfl (by kernel_rfl) λK m=>?_;go_simp;go_at_call 33;refine(ay R _ 8 _ l.rd (by omega) (by omega) (by omega)).mono ?_;rintro e v5 ⟨y,rfl,ZI,mv,hR,n⟩;obtain⟨k,rfl⟩:=AD ZI;replace r:=ae ((n.block _ (ar r) (by omega)).trans r);replace l:=ae (l.ac n hR (by simp));clear hR n f;have f:=ae (O _ _ l);refine m _ _ f ?_;clear m K
     (try simp only[Act.put,nzL])
     refine aN (i:=3) rfl (by kernel_rfl) λK m=>?_;go_simp;go_at_call 81;refine(gU k (by omega) _).mono ?_;rintro e v7 ⟨rfl,ZM⟩;have hR:=l.rd.aa ZM ly;have n:=Only.q (b:=R) ZM;clear ZM;replace r:=ae ((n.block _ (ar r) (by omega)).trans r);replace l:=ae (l.ac n hR (by simp));clear hR n f;have f:=ae (O _ _ l);refine m _ _ f ?_;clear m K
     (try simp only[Act.put,nzL])
     refine ba 4 (v:=?_) rfl rfl (by kernel_rfl) (λ_ _ _ h=>h) rfl ?_ f ?_;rotate_left
     ·(rintro ZL ⟨s0,s1⟩;go_simp)
      (try with_reducible rfl)
     (try simp only[Act.put,nzL])
     refine aN (i:=6) rfl (by kernel_rfl) λK m=>?_;go_simp;go_at_call 82;have hs7:=l.o.size;refine(iG R _ _ l.rd (by omega)).mono ?_;rintro e v8 ⟨L,g,c,rfl,hI,hL1,hL2,ph,q8,hq8,hR,n⟩;have SI:=ae (show SlIns v8 (T (Q g 0 Z)) L.length (cZ L) from .inr ⟨g,0,rfl,hI.lt.2,hI.at⟩);have FI:Hid (∀i,i<L.length->(cZ L i).s.size<=maxLen):=λi hi=>by have:=jq ph i hi;unfold maxLen;omega
     clear hI ph;replace r:=ae ((n.block _ (ar r) (by omega)).trans r);replace l:=ae (l.ac n hR (by simp));clear hR n f;have f:=ae (O _ _ l);refine m _ _ f ?_;clear m K
     (try simp only[Act.put,nzL])
     refine aN (i:=7) rfl (by kernel_rfl) λK m=>?_;go_simp;go_at_call 21;refine(uc d0 m0 k0 g0 d1 m1 k1 g1 _ (T (Q g 0 Z)) L.length c (cZ L) _ (by omega) (by omega) (by omega) (ZJ _ _ _ _ _ _ _ _ _ _ _ l).1 (ZJ _ _ _ _ _ _ _ _ _ _ _ l).2.1 SI FT FL FI).mono ?_;rintro e X ⟨v0,v1,RT,rfl,ZN,C,W,ZM⟩;clear SI FI;obtain⟨ZP,D,rfl⟩:=aQ ZN;obtain⟨H,G,rfl⟩:=aQ C.y;have SM:=re ZN C W Ej;generalize (⟨#[116]⟩:ByteArray)++⟨#[dig k]⟩=t at SM ⊢;generalize (iJ m0 g0 m1 g1 t L.length (cZ L)).length=M at SM ⊢;generalize RT.length=ZO at SM ⊢;generalize cI (iJ m0 g0 m1 g1 t L.length (cZ L))=i0 at SM;generalize bK (lp m0 g0 m1 g1 t L.length (cZ L))=i1 at SM;clear ZN C W
    all_goals
     have hz6:=ZM.size;have hw5:=l.o.size;have DE:=ar r.out;have C6:=ae (l.aa ZM (by simp));have N6:=ae ((ZM.block A DE).trans r)
     have Q6:=ae (QSp.new (lo:=I (J w)) (xs:=[A,R,I (J w),I (J w)+1]) SM (by omega) (λx hx=>by
      simp only[A9,nj,NJ] at hx
      omega))
     clear ZM l r f SM;have f:=ae (O _ _ C6);refine m _ _ f ?_;clear m K
     (try simp only[Act.put,nzL])
     iterate 3
      refine ba 4 (v:=?_) rfl rfl (by kernel_rfl) (λ_ _ _ h=>h) rfl ?_ f ?_;rotate_left
      ·(rintro ZL ⟨s0,s1⟩;go_simp)
       (try with_reducible rfl)
      (try simp only[Act.put,nzL])
     have P:=N6.out;have y0:X.frozen? (Q A 0 Z)=ZA:=by simp[World.frozen?,P]
     have y1:X.frozen? (Q A 1 Z)=ZA:=by simp[World.frozen?,P]
     have y2:=ar P;have y3:z X (Q A 0 Z)=T (Y d0 m0 k0):=by simp[World.cell?,P]
     have y4:z X (Q A 1 Z)=T (Y d1 m1 k1):=by simp[World.cell?,P]
     clear P;have C7:=ae (C6.two (x:=A) (by simp) n9 (Y ZP M D) (Y H ZO G));have N7:Hid (((X.setCell (Q A 0 Z) (Y ZP M D)).setCell (Q A 1 Z) (Y H ZO G)).heap[A]?=T (N #[Y ZP M D,Y H ZO G] 29 (0,0))):=by have h1:=ci (j:=1) (ci (j:=0) N6 (Y ZP M D)) (Y H ZO G);exact h1
     have Q7:=ae (Q6.fr ((Fr.set (x:=A) (j:=0) (by simp) (Y ZP M D)).trans (Fr.set (x:=A) (j:=1) (by simp) (Y H ZO G))));refine qe 4 rfl rfl (by kernel_rfl) λK m=>?_;go_simp;clear f;have f:=ae (O _ _ C7);refine m _ _ f ?_;clear m K
     (try simp only[Act.put,nzL])
     refine qe 4 rfl rfl (by kernel_rfl) λK m=>?_;go_simp;refine m _ _ f ?_;clear m K
     (try simp only[Act.put,nzL])
     refine wpAnyH_done (by kernel_rfl) ?_ _;go_wp2;go_meet;exact⟨_,_,_,_,_,_,_,_,_,_,rfl,by omega,C7,N7,Q7⟩
   case rest =>
   clear C4 N4 O FT FL;obtain⟨cc,q',M,D,ZO,G,ZP,i0,H,i1,rfl,hq',C8,N8,Q8⟩:=hcut;generalize wc=W8 at C8 N8 Q8 ⊢;obtain⟨x0,x1,x2,x3,x4⟩:=C8.cells;have P:=N8.out;have y3:z W8 (Q A 0 Z)=T (Y ZP M D):=by simp[World.cell?,P]
   have y4:z W8 (Q A 1 Z)=T (Y H ZO G):=by simp[World.cell?,P]
   clear P;by_cases ld:cc=0;{subst ld;have C9:=ae ((C8.put (l0:=D) (l1:=G) (by simp) (.inl Q8)).less);go_wp2;exact⟨⟨_,_,_,_,_,_,_,_,_,_,rfl,by omega,by omega,by omega,C9⟩,by simp only[intOf];omega⟩}
   ·have hcb:(cc == 0)=ZA:=by simpa using ld
    go_wp2;exact⟨⟨_,_,_,_,_,_,_,_,_,_,rfl,by omega,by omega,by omega,C8.less⟩,by simp only[intOf];omega⟩
  ·have hi2:¬ 0<i:=hi;have kr:=ZK.rx;have r0:z wr (Q (I (J w)+1) 0 Z)=T (Y Z 0 0):=by simp[World.cell?,kr]
   have r1:z wr (Q (I (J w)+1) 1 Z)=T (Y Z 0 0):=by simp[World.cell?,kr]
   have r2:wr.frozen? (Q (I (J w)+1) 0 Z)=ZA:=by simp[World.frozen?,kr]
   have r3:wr.frozen? (Q (I (J w)+1) 1 Z)=ZA:=by simp[World.frozen?,kr]
   have D:=ar kr;clear kr;have BE:=ae (((cM (I (J w)+1) wr).setCell (p:=(Q (I (J w)+1) 0 Z)) ly (Y d0 m0 k0)).setCell (p:=(Q (I (J w)+1) 1 Z)) ly (Y d1 m1 k1));have At:Hid (HSg (I (J w)) ((wr.setCell (Q (I (J w)+1) 0 Z) (Y d0 m0 k0)).setCell (Q (I (J w)+1) 1 Z) (Y d1 m1 k1)) d0 m0 g0 d1 m1 g1∨(d0=a0/\m0=n0/\g0=f0/\d1=a1/\m1=n1/\g1=f1)):=ZK.sp.imp (λg=>(g.fr ((Fr.set (x:=I (J w)+1) (j:=0) (by simp) (Y d0 m0 k0)).trans (Fr.set (x:=I (J w)+1) (j:=1) (by simp) (Y d1 m1 k1)))).at) (HE _ _ _ _ _ _);have RE:=ae (ZK.rd.low BE (by omega));have OE:=ae (ZK.o.then (BE.mono (D0 _)));go_wp2;exact bp (v:=ZG #[Y d0 m0 k0,Y d1 m1 k1]) (by simp[results,results35,go_sem,r0,r1]) rfl ⟨_,_,_,_,_,_,_,_,rfl,At,_,by omega,RE,OE⟩
